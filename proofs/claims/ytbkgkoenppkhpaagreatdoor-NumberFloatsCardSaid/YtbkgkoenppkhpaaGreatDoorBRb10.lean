/- Contracts of the reference's texts: value, slash, decimal. -/
import Derived.Test.YtbkgkoenppkhpaaGreatDoorBRat8
set_option maxRecDepth 100000
set_option maxHeartbeats 2000000
namespace Go.Proofs.YtbkgkoenppkhpaaGreatDoor
section
open Go.RowKit Dn
theorem zeg(s:ByteArray)(w:World)(hd:zar s.data.toList=true)(hs:s.size≤18) :
  Calls Tryz.prog 161 #[.string s] w fun e w'=>e = .returned (.int .i64 ((zaj s.data.toList:Nat):Int))∧w=w':=by
 have aG:s.data.toList.length=s.size:=by simp
 have aD:=Aa aG;have HD:=Aa hd;clear aG hd;go_enter Tryz.func161,Tryz.ntmps161
 go_wp2
 go_loop [3,4] (fun n i=>∃ k v:Nat,k≤s.size∧i = .int .i64 k∧n = .int .i64 (v:Int)∧Hid (v=zaj (s.data.toList.take k))) (fun _ i=>s.size-(intOf i).toNat)
 case atStart=>exact⟨0,0,Nat.zero_le _,rfl,rfl,rfl⟩
 case round=>
  obtain⟨k,v,hk,rfl,rfl,hv⟩:=hrel
  by_cases hlt:k<s.size
  ·have aE:=zeq s.data.toList HD.out 0 k
   rw[List.drop_zero] at aE;have aJ:=zbW _ aE;rw[←hv.out] at aJ;have hp:10^(s.data.toList.take k).length≤10^17:=Nat.pow_le_pow_right (by omega) (by rw[List.length_take];omega);have aL:(10:Nat)^17=100000000000000000:=by decide
   have aM:v<100000000000000000:=by omega
   have aI:(s[k]'hlt) ∈ s.data.toList:=by
    have:(s[k]'hlt)=s.data.toList[k]'(by rw[aD.out];exact hlt):=rfl;rw[this];exact List.getElem_mem _
   have hc:=zd9 HD.out aI;have aH:s.data.toList.take (k+1)=s.data.toList.take k++[s[k]'hlt]:=by
    rw[List.take_succ_eq_append_getElem (by rw[aD.out];exact hlt)];rfl
   have aC:v*10+((s[k]'hlt).toNat-48)=zaj (s.data.toList.take (k+1)):=by rw[aH,zdF,hv.out]
   obtain⟨c,aK⟩:∃ c:Nat,(s[k]'hlt).toNat=c:=⟨_,rfl⟩;rw[aK] at hc aC;obtain⟨v',aF⟩:∃ v',v'=v*10+(c-48):=⟨_,rfl⟩;rw[←aF] at aC;have ev:10*(v:Int)+(c:Int)-48=(v':Int):=by omega
   have HV:=Aa aC;clear aE aJ hp aL aI aH aC aF hv;go_wp2
   go_round
   case rel=>exact⟨k+1,v',by omega,by go_num,rfl,HV.out⟩
   case measure=>simp[intOf];omega
  ·obtain rfl:k=s.size:=by omega
   have aA:v=zaj s.data.toList:=by rw[hv.out,List.take_of_length_le (by rw[aD.out];exact Nat.le_refl _)]
   have HF:=Aa aA;clear aA hv;go_wp2
   go_ret;exact⟨by rw[HF.out];rfl,rfl⟩
theorem zbS(s:ByteArray)(w:World)(hs:s.size≤9223372036854775807) :
  Calls Tryz.prog 62 #[.string s] w fun e w'=>e = .returned (.int .i64 ((zbB s.data.toList:Nat):Int))∧w=w':=by
 have aE:s.data.toList.length=s.size:=by simp
 have aD:=Aa aE;clear aE;go_enter Tryz.func62,Tryz.ntmps62
 go_wp2
 go_loop [3] (fun i=>∃ k:Nat,k≤s.size∧i = .int .i64 k∧Hid (∀ c ∈ s.data.toList.take k,c≠47)) (fun i=>s.size-(intOf i).toNat)
 case atStart=>exact⟨0,Nat.zero_le _,rfl,by intro c hc;simp at hc⟩
 case round=>
  obtain⟨k,hk,rfl,hv⟩:=hrel
  by_cases hlt:k<s.size
  ·have aF:k<s.data.toList.length:=by rw[aD.out];exact hlt
   have aC:s.data.toList[k]=s[k]'hlt:=rfl
   by_cases h47:(s[k]'hlt).toNat=47
   ·have hb:s[k]'hlt=47:=UInt8.toNat_inj.1 h47
    have aG:zbB s.data.toList=k:=by
     have e:s.data.toList=s.data.toList.take k++47 :: s.data.toList.drop (k+1):=by
      conv=>lhs;rw[←List.take_append_drop k s.data.toList,List.drop_eq_getElem_cons aF,aC,hb]
     rw[e,zcQ hv.out,List.length_take];omega
    have HS:=Aa aG;clear aG hb aC;go_wp2
    go_ret;exact⟨by rw[HS.out];rfl,rfl⟩
   ·have hb:s[k]'hlt≠47:=fun h=>h47 (by rw[h];decide)
    have HV:Hid (∀ c ∈ s.data.toList.take (k+1),c≠47):=by
     show ∀ c ∈ s.data.toList.take (k+1),c≠47
     rw[List.take_succ_eq_append_getElem aF,aC];intro c hc
     rcases List.mem_append.1 hc with hc | hc
     ·exact hv.out c hc
     ·rw[List.mem_singleton.1 hc];exact hb
    clear aC hb;obtain⟨c,aH⟩:∃ c:Nat,(s[k]'hlt).toNat=c:=⟨_,rfl⟩;rw[aH] at h47;have d1:((c:Int)==47)=false:=by rw[beq_eq_false_iff_ne];omega
    clear h47;go_wp2
    go_round
    case rel=>exact⟨k+1,by omega,by go_num,HV.out⟩
    case measure=>simp[intOf];omega
  ·obtain rfl:k=s.size:=by omega
   have aA:zbB s.data.toList=s.size:=by
    have h1:=hv.out;rw[List.take_of_length_le (by rw[aD.out];exact Nat.le_refl _)] at h1;rw[zb6 h1,aD.out]
   have HF:=Aa aA;clear aA hv;go_wp2
   go_ret;exact⟨by rw[HF.out];rfl,rfl⟩
theorem zlD:∀ d:Nat,d<10→((⟨#[48,49,50,51,52,53,54,55,56,57]⟩:ByteArray).extract d (d+1))=⟨#[Dec.dgt d]⟩:=by
 intro d hd;have:d=0∨d=1∨d=2∨d=3∨d=4∨d=5∨d=6∨d=7∨d=8∨d=9:=by omega
 rcases this with rfl | rfl | rfl | rfl | rfl | rfl | rfl | rfl | rfl | rfl<;>decide
theorem zc0(n least:Nat)(w:World)(hn:n≤9223372036854775807)(hl:least≤19) :
  Calls Tryz.prog 109 #[.int .i64 (n:Int),.int .i64 (least:Int)] w fun e w'=>(∃ s:ByteArray,e = .returned (.string s)∧s.data.toList=Dec.pad (decK n least) n)∧w=w':=by
 have hK:=zrx (n:=n) (least:=least) (by omega) hl;obtain⟨K,aD⟩:∃ K,decK n least=K:=⟨_,rfl⟩;rw[aD] at hK ⊢;have HK:=Aa aD;clear aD;go_enter Tryz.func109,Tryz.ntmps109
 go_wp2
 go_loop [0,5] (fun v0 v5=>∃ (k q:Nat) (s:ByteArray),k≤K∧v0 = .int .i64 (q:Int)∧v5 = .string s∧q≤9223372036854775807∧s.size=k∧Hid (q=n/10^k∧s.data.toList=Dec.pad k n)) (fun _ v5=>K-zo8 v5)
 case atStart=>exact⟨0,n,⟨#[]⟩,Nat.zero_le _,rfl,rfl,hn,rfl,by simp,rfl⟩
 case round=>
  obtain⟨k,q,s,hk,rfl,rfl,hq,aC,hv⟩:=hrel;have aH:=Aa aC;have aK:s.size≤19:=by omega
  by_cases hgo:0<q∨s.size<least
  ·have aJ:k+1≤K:=by
    rw[←HK.out];refine znd ?_;rw[←hv.out.1,←aC];exact hgo
   obtain⟨d,hd⟩:∃ d,d=q%10:=⟨_,rfl⟩;obtain⟨q',aI⟩:∃ q',q'=q/10:=⟨_,rfl⟩;have aE:d<10:=by omega
   have ed:(q:Int)%10=(d:Int):=by omega
   have eq:(q:Int)/10=(q':Int):=by omega
   have hx:=zlD d aE;have HI:Hid (q'=n/10^(k+1)∧((⟨#[Dec.dgt d]⟩:ByteArray)++s).data.toList=Dec.pad (k+1) n):=by
    refine⟨by rw[aI,hv.out.1,Nat.div_div_eq_div_mul,Nat.pow_succ],?_⟩;rw[zoH,ByteArray.data_append,Array.toList_append,hv.out.2,hd,hv.out.1];rfl
   have aF:Hid (((⟨#[Dec.dgt d]⟩:ByteArray)++s).size=k+1):=by
    show((⟨#[Dec.dgt d]⟩:ByteArray)++s).size=k+1
    rw[ByteArray.size_append,aH.out];show 1+k=k+1
    omega
   have aA:(decide (0<q)=true)∨(decide (0<q)=false∧decide (s.size<least)=true):=by
    simp only[decide_eq_true_eq,decide_eq_false_iff_not]
    omega
   have HX:=Aa hx;clear hd aI hgo hv aC hx
   rcases aA with d1 | ⟨d1,d2⟩
   all_goals
    have hx:=HX.out;go_wp2
    go_round
    case rel=>exact⟨k+1,q',_,aJ,rfl,rfl,by omega,aF.out,HI.out⟩
    case measure=>have:=aF.out;have:=aH.out;simp[zo8] at *; omega
  ·have aG:k=K:=by
    rw[←HK.out];exact zoS (by rw[←hv.out.1];omega) (by omega) (by rw[HK.out];exact hk)
   have d1:decide (0<q)=false:=by simp;omega
   have d2:decide (s.size<least)=false:=by simp;omega
   have HF:Hid (s.data.toList=Dec.pad K n):=by
    show s.data.toList=Dec.pad K n
    rw[←aG];exact hv.out.2
   clear hv aG hgo aC;go_wp2
   go_ret;exact⟨⟨s,rfl,HF.out⟩,rfl⟩
end
end Go.Proofs.YtbkgkoenppkhpaaGreatDoor
namespace Go.Proofs.YtbkgkoenppkhpaaGreatDoor.Dn
theorem zsj{t r top v1 v2 u2 P rest vr:Nat}(h:t*v1+r=top)(hc:r*B+u2<t*v2)(hr:rest<P):(top*B+u2)*P+rest<t*((v1*B+v2)*P+vr):=by
 have e:t*(v1*B+v2)=t*v1*B+t*v2:=by rw[Nat.mul_add,Nat.mul_assoc]
 have h1:top*B+u2+1≤t*(v1*B+v2):=by
  rw[e,←h,Nat.add_mul];omega
 have h2:=Nat.mul_le_mul_right P h1;have h3:t*((v1*B+v2)*P+vr)=t*(v1*B+v2)*P+t*vr:=by rw[Nat.mul_add,Nat.mul_assoc]
 rw[h3];rw[Nat.add_mul,Nat.one_mul] at h2;omega
theorem zsl{t r top v1 v2 u2 P rest vr:Nat}(h:t*v1+r=top)(ht:t<B)(hv2:v2<B)(hv1:1≤v1)(hvr:vr<P)(hc:B≤r∨t*v2≤r*B+u2) :
  t*((v1*B+v2)*P+vr)<(top*B+u2)*P+rest+((v1*B+v2)*P+vr):=by
 have aA:t*v2≤r*B+u2:=by
  rcases hc with hc | hc
  ·have h1:t*v2≤B*B:=Nat.mul_le_mul (Nat.le_of_lt ht) (Nat.le_of_lt hv2)
   have h2:B*B≤r*B:=Nat.mul_le_mul_right _ hc;omega
  ·exact hc
 have e:t*(v1*B+v2)=t*v1*B+t*v2:=by rw[Nat.mul_add,Nat.mul_assoc]
 have h1:t*(v1*B+v2)≤top*B+u2:=by
  rw[e,←h,Nat.add_mul];omega
 have h2:=Nat.mul_le_mul_right P h1;have h3:t*((v1*B+v2)*P+vr)=t*(v1*B+v2)*P+t*vr:=by rw[Nat.mul_add,Nat.mul_assoc]
 have h4:t*vr≤t*P:=Nat.mul_le_mul_left _ (Nat.le_of_lt hvr);have hP:0<P:=Nat.lt_of_le_of_lt (Nat.zero_le _) hvr;have h5:t*P<B*P:=Nat.mul_lt_mul_of_pos_right ht hP;have h6:B*P≤v1*B*P:=by
  rw[Nat.mul_assoc];exact Nat.le_mul_of_pos_left _ hv1
 have h7:(v1*B+v2)*P=v1*B*P+v2*P:=Nat.add_mul _ _ _;rw[h3];omega
theorem zoD{t U V:Nat}(hV:0<V)(h1:U/V≤t)(h2:t*V<U+V):t=U/V∨t=U/V+1:=by
 have h3:t≤U/V+1:=by
  rcases Nat.lt_or_ge t (U/V+2) with h | h
  ·omega
  ·exfalso
   have h4:(U/V+2)*V≤t*V:=Nat.mul_le_mul_right _ h;have h5:=Nat.div_add_mod U V;have h6:=Nat.mod_lt U hV;rw[Nat.mul_comm V] at h5;rw[Nat.add_mul] at h4;omega
 omega
theorem zqz{t U V:Nat}(hV:0<V)(h:U<t*V):U/V≤t-1:=by
 have:=(Nat.div_lt_iff_lt_mul hV).2 h;omega
theorem zoT{u p:Nat}(hu:u<B):(p%B≤u→u-p%B<B∧u-p%B+p=u+B*(p/B))∧(u<p%B→u+B-p%B<B∧u+B-p%B+p=u+B*(p/B+1)):=by
 have h1:=Nat.mod_add_div p B;have h2:=Nat.mod_lt p zaS;refine⟨fun h=>⟨by omega,by omega⟩,fun h=>⟨by omega,?_⟩⟩;rw[Nat.mul_add,Nat.mul_one];omega
theorem zqr{W W' V P t ut b:Nat}(h:W'+t*V=W+P*b)(hW':W'<P)(hVP:V<P)(hV:0<V)(ht:t=(W+P*ut)/V∨t=(W+P*ut)/V+1) :
  (b≤ut→ut=b∧t=(W+P*ut)/V∧W'=(W+P*ut)%V)∧(ut<b→b=ut+1∧t=(W+P*ut)/V+1∧W'+V=P+(W+P*ut)%V):=by
 generalize hU:W+P*ut=U at *;have aA:=Nat.div_add_mod U V;have aC:=Nat.mod_lt U hV;rw[Nat.mul_comm V] at aA;generalize hq:U/V=q at *;generalize hr:U%V=r at *
 constructor
 ·intro hb
  obtain⟨k,rfl⟩:∃ k,ut=b+k:=⟨ut-b,by omega⟩;rw[Nat.mul_add] at hU
  rcases ht with rfl | rfl
  ·have h1:W'+P*k=r:=by omega
   rcases Nat.eq_zero_or_pos k with rfl | hk
   ·exact⟨by omega,rfl,by simpa using h1⟩
   ·exfalso
    have:=Nat.le_mul_of_pos_right P hk;omega
  ·exfalso
   rw[Nat.add_mul,Nat.one_mul] at h;omega
 ·intro hb
  obtain⟨k,rfl⟩:∃ k,b=ut+1+k:=⟨b-ut-1,by omega⟩;rw[Nat.mul_add,Nat.mul_add,Nat.mul_one] at h
  rcases ht with rfl | rfl
  ·exfalso
   omega
  ·rw[Nat.add_mul,Nat.one_mul] at h
   rcases Nat.eq_zero_or_pos k with rfl | hk
   ·exact⟨by omega,rfl,by simp at h;omega⟩
   ·exfalso
    have:=Nat.le_mul_of_pos_right P hk;omega
theorem zh7(w:List Nat)(k:Nat)(hl:k+2<w.length)(hz:val (w.drop (k+3))=0):val w=((w[k+2]*B+w[k+1])*B+w[k])*B^k+val (w.take k):=by
 rw[zay w (k+3) (by omega),hz,zat w (k+2) hl,zat w (k+1) (by omega),zat w k (by omega)];rw[Nat.mul_zero,Nat.add_zero];simp only[Nat.add_mul,Nat.pow_succ]
 have e1:w[k+2]*B*B*B^k=B^k*B*B*w[k+2]:=by
  rw[Nat.mul_comm (w[k+2]*B*B),Nat.mul_comm (w[k+2]*B),Nat.mul_comm w[k+2]];simp only[Nat.mul_assoc]
 have e2:w[k+1]*B*B^k=B^k*B*w[k+1]:=by
  rw[Nat.mul_comm (w[k+1]*B),Nat.mul_comm w[k+1]];simp only[Nat.mul_assoc]
 have e3:w[k]*B^k=B^k*w[k]:=Nat.mul_comm _ _;omega
theorem zh5(w:List Nat)(k:Nat)(hl:w.length=k+2):val w=(w[k+1]*B+w[k])*B^k+val (w.take k):=by
 have h1:=zat w (k+1) (by omega);have h2:=zat w k (by omega);rw[List.take_of_length_le (by omega)] at h1;rw[h1,h2,Nat.pow_succ,Nat.add_mul];have e2:w[k+1]*B*B^k=B^k*B*w[k+1]:=by
  rw[Nat.mul_comm (w[k+1]*B),Nat.mul_comm w[k+1]];simp only[Nat.mul_assoc]
 have e3:w[k]*B^k=B^k*w[k]:=Nat.mul_comm _ _;omega
theorem zlM(u:List Nat)(j n V:Nat)(h:val (u.drop (j+1))<V)(hV:V<B^n):val ((u.drop j).drop (n+1))=0:=by
 rw[List.drop_drop]
 rcases Nat.lt_or_ge (u.drop (j+1)).length n with hl | hl
 ·rw[List.drop_eq_nil_of_le (by rw[List.length_drop] at hl;omega)]
  rfl
 ·have hs:=zay (u.drop (j+1)) n hl
  rw[List.drop_drop,show j+1+n=j+(n+1) by omega] at hs;generalize val (u.drop (j+(n+1)))=z at *
  rcases Nat.eq_zero_or_pos z with h0 | h0
  ·exact h0
  ·exfalso
   have:=Nat.le_mul_of_pos_right (B^n) h0;omega
theorem zpu{top v1 v2 u2 P rest vr:Nat}(hv1:1≤v1)(hr:rest<P)(hu2:u2<B):((top*B+u2)*P+rest)/((v1*B+v2)*P+vr)≤top/v1:=by
 have hP:0<P:=Nat.lt_of_le_of_lt (Nat.zero_le _) hr;have aA:0<(v1*B+v2)*P+vr:=by
  have h1:1*1≤v1*B:=Nat.mul_le_mul hv1 (Nat.le_of_lt zey);have h2:1*1≤(v1*B+v2)*P:=Nat.mul_le_mul (by omega) hP;omega
 refine Nat.le_of_lt_succ ((Nat.div_lt_iff_lt_mul aA).2 ?_);have h1:top+1≤(top/v1+1)*v1:=by
  have:=Nat.div_add_mod top v1;have:=Nat.mod_lt top hv1;rw[Nat.add_mul,Nat.one_mul,Nat.mul_comm];omega
 generalize top/v1=t at *;have h2:(top+1)*(B*P)≤(t+1)*v1*(B*P):=Nat.mul_le_mul_right _ h1;have e1:(t+1)*v1*(B*P)=(t+1)*(v1*B*P):=by simp only[Nat.mul_assoc]
 have e2:(t+1)*(v1*B*P)≤(t+1)*((v1*B+v2)*P+vr):=by
  apply Nat.mul_le_mul_left
  rw[Nat.add_mul];omega
 have e3:(top+1)*(B*P)=top*B*P+B*P:=by rw[Nat.add_mul,Nat.one_mul];simp only[Nat.mul_assoc]
 have e4:(u2+1)*P≤B*P:=Nat.mul_le_mul_right _ hu2;rw[Nat.add_mul,Nat.one_mul] at e4;show(top*B+u2)*P+rest<(t+1)*_
 rw[Nat.add_mul];omega
theorem zp2{top v1 v2 u2 P rest vr:Nat}(hvr:vr<P)(hv2:v2<B)(hU:(top*B+u2)*P+rest<B*((v1*B+v2)*P+vr)):top≤B*v1+(B-1):=by
 rcases Nat.lt_or_ge top (B*v1+B) with h | h
 ·omega
 ·exfalso
  have hP:0<P:=Nat.lt_of_le_of_lt (Nat.zero_le _) hvr;have h1:(B*v1+B)*(B*P)≤top*(B*P):=Nat.mul_le_mul_right _ h;have e0:top*(B*P)=top*B*P:=by simp only[Nat.mul_assoc]
  have h2:(v2+1)*P≤B*P:=Nat.mul_le_mul_right _ hv2;rw[Nat.add_mul,Nat.one_mul] at h2;have h3:(v1*B+v2)*P+vr<v1*B*P+B*P:=by rw[Nat.add_mul];omega
  have h4:B*((v1*B+v2)*P+vr)<B*(v1*B*P+B*P):=Nat.mul_lt_mul_of_pos_left h3 zaS;have e1:B*(v1*B*P+B*P)=(B*v1+B)*(B*P):=by
   rw[Nat.mul_add,Nat.add_mul];simp only[Nat.mul_assoc]
  have e2:(top*B+u2)*P=top*B*P+u2*P:=Nat.add_mul _ _ _;omega
theorem zpW{t r top v1:Nat}(h:t*v1+r=top)(hr:B≤r)(ht:top≤B*v1+(B-1)):t<B:=by
 rcases Nat.lt_or_ge t B with h1 | h1
 ·exact h1
 ·exfalso
  have h2:B*v1≤t*v1:=Nat.mul_le_mul_right _ h1;have:=zaS;omega
theorem zn5{X V Q P lo U:Nat}(h:X=V*Q*(P*B)+(lo+P*U)):X=V*(U/V+B*Q)*P+(lo+P*(U%V)):=by
 have aA:=Nat.div_add_mod U V;generalize U/V=q at *;generalize U%V=r at *;subst aA;rw[h,Nat.mul_add,Nat.mul_add,Nat.add_mul];have e1:V*Q*(P*B)=V*(B*Q)*P:=by
  rw[Nat.mul_assoc,Nat.mul_assoc V (B*Q)]
  congr 1
  rw[Nat.mul_comm B Q,Nat.mul_assoc,Nat.mul_comm P B]
 have e2:P*(V*q)=V*q*P:=Nat.mul_comm _ _;omega
theorem zql{a b f Q R:Nat}(hb:0<b)(hf:0<f)(h:a*f=b*f*Q+R)(hR:R<b*f):Q=a/b∧R=a%b*f:=by
 have aA:0<b*f:=Nat.mul_pos hb hf;have h1:a*f/(b*f)=Q:=by
  rw[h,Nat.mul_add_div aA,Nat.div_eq_of_lt hR,Nat.add_zero]
 have h2:a*f%(b*f)=R:=by
  rw[h,Nat.mul_add_mod,Nat.mod_eq_of_lt hR]
 rw[Nat.mul_div_mul_right _ _ hf] at h1;rw[Nat.mul_mod_mul_right] at h2;exact⟨h1.symm,h2.symm⟩
theorem znD{b n f v1:Nat}(hb:b<B^(n+1))(h1:B^n≤b)(hf:f=B/(b/B^n+1))(hv:v1=b*f/B^n):b*f<B^(n+1)∧B≤2*v1+1:=by
 have hP:0<B^n:=Nat.pow_pos zaS;have hd:=Nat.div_add_mod b (B^n);have hm:=Nat.mod_lt b hP;have aE:1≤b/B^n:=(Nat.le_div_iff_mul_le hP).2 (by omega);have aH:b/B^n<B:=(Nat.div_lt_iff_lt_mul hP).2 (by rw[Nat.mul_comm,←Nat.pow_succ];exact hb);obtain⟨d,aI⟩:∃ d,d=b/B^n:=⟨_,rfl⟩;rw[←aI] at hd aE aH hf;generalize b%B^n=bm at hd hm;have aA:=Nat.div_add_mod B (d+1);have aG:=Nat.mod_lt B (show 0<d+1 by omega);rw[←hf] at aA;generalize B%(d+1)=Bm at aA aG;have aC:(d+1)*f≤B:=by omega
 constructor
 ·have h2:b<(d+1)*B^n:=by rw[Nat.add_mul,Nat.one_mul,Nat.mul_comm d];omega
  have aD:0<f:=by
   rw[hf];exact Nat.div_pos (by omega) (by omega)
  have h3:b*f<(d+1)*B^n*f:=Nat.mul_lt_mul_of_pos_right h2 aD;have e:(d+1)*B^n*f=(d+1)*f*B^n:=by rw[Nat.mul_right_comm]
  have h4:(d+1)*f*B^n≤B*B^n:=Nat.mul_le_mul_right _ aC;rw[Nat.pow_succ,Nat.mul_comm (B^n)];omega
 ·have h2:d*f≤v1:=by
   rw[hv];refine(Nat.le_div_iff_mul_le hP).2 ?_;have h5:B^n*d*f≤b*f:=Nat.mul_le_mul_right _ (by omega);have e:d*f*B^n=B^n*d*f:=by rw[Nat.mul_comm,Nat.mul_assoc]
   omega
  have aD:0<f:=by
   rw[hf];exact Nat.div_pos (by omega) (by omega)
  obtain⟨d',rfl⟩:∃ d',d=d'+1:=⟨d-1,by omega⟩;obtain⟨f',aF⟩:∃ f',f=f'+1:=⟨f-1,by omega⟩;rw[aF] at aA h2;have h8:(d'+1)*(f'+1)=d'*f'+d'+f'+1:=by
   rw[Nat.add_mul,Nat.mul_add,Nat.mul_one,Nat.one_mul];omega
  rw[Nat.add_mul (d'+1) 1,Nat.one_mul,h8] at aA;rw[h8] at h2;omega
theorem zqX(ws v u:List Nat)(i t x b d:Nat)(hl:ws.length=i)(hv:i<v.length)(hu:i<u.length)
 (h:val ws+t*val (v.take i)=val (u.take i)+B^i*b)(he:x+(t*v[i]+b)=u[i]+B*d) :
  val (ws++[x])+t*val (v.take (i+1))=val (u.take (i+1))+B^(i+1)*d:=by
 rw[zaQ,zaX,hl,zat _ _ hu,zat _ _ hv,Nat.pow_succ];have e1:t*(val (v.take i)+B^i*v[i])=t*val (v.take i)+B^i*(t*v[i]):=by
  rw[Nat.mul_add,Nat.mul_left_comm]
 have e2:B^i*(x+(t*v[i]+b))=B^i*(u[i]+B*d):=by rw[he]
 rw[Nat.mul_add,Nat.mul_add,Nat.mul_add] at e2;rw[e1,Nat.mul_assoc];omega
theorem zrr(ws2 ws v:List Nat)(i x c d:Nat)(hl:ws2.length=i)(hw:i<ws.length)(hv:i<v.length)
 (h:val ws2+B^i*c=val (ws.take i)+val (v.take i))(he:x+B*d=ws[i]+v[i]+c) :
  val (ws2++[x])+B^(i+1)*d=val (ws.take (i+1))+val (v.take (i+1)):=by
 rw[zaQ,zaX,hl,zat _ _ hw,zat _ _ hv,Nat.pow_succ];have e2:B^i*(x+B*d)=B^i*(ws[i]+v[i]+c):=by rw[he]
 rw[Nat.mul_add,Nat.mul_add,Nat.mul_add] at e2;rw[Nat.mul_assoc];omega
def mid {α:Type} (l:List α) (j:Nat) (ws:List α):List α:=l.take j++ws++l.drop (j+ws.length)
theorem zol{α:Type}(l:List α)(j:Nat):mid l j []=l:=by simp[mid]
theorem zjp{α:Type}(l:List α)(j:Nat)(ws:List α)(h:j+ws.length≤l.length):(mid l j ws).length=l.length:=by
 simp[mid]
 omega
theorem zqH{α:Type}(l:List α)(j:Nat)(ws:List α)(h:j+ws.length≤l.length):(mid l j ws)[j+ws.length]? = l[j+ws.length]? := by
 unfold mid;rw[List.getElem?_append_right (by simp;omega),List.getElem?_drop]
 congr 1
 simp
 omega
theorem zqV{α:Type}(l:List α)(j:Nat)(ws:List α)(x : α)(h:j+ws.length<l.length):(mid l j ws).set (j+ws.length) x=mid l j (ws++[x]):=by
 unfold mid;have h1:(l.take j++ws).length=j+ws.length:=by simp;omega
 rw[List.set_append_right _ _ (by omega),h1,Nat.sub_self,List.drop_eq_getElem_cons h];simp only[List.set_cons_zero,List.length_append,List.length_cons,List.length_nil]
 simp[List.append_assoc,Nat.add_assoc]
theorem zkW{α:Type}(l:List α)(j:Nat)(ws:List α)(h:j≤l.length):(mid l j ws).take j=l.take j:=by
 unfold mid;rw[List.append_assoc,List.take_append_of_le_length (by simp;omega),List.take_take,Nat.min_self]
theorem zkx{α:Type}(l:List α)(j:Nat)(ws:List α)(h:j≤l.length):(mid l j ws).drop j=ws++l.drop (j+ws.length):=by
 unfold mid;have h1:(l.take j).length=j:=by simp;omega
 rw[List.append_assoc,List.drop_append_of_le_length (by omega),List.drop_of_length_le (by omega),List.nil_append]
theorem zmy{α:Type}(l:List α)(j:Nat)(ws:List α)(h:j≤l.length):(mid l j ws).drop (j+ws.length)=l.drop (j+ws.length):=by
 rw[←List.drop_drop,zkx l j ws h,List.drop_left]
theorem zmc{α β:Type}(f : α → β)(l:List α)(j:Nat)(ws:List α):(mid l j ws).map f=mid (l.map f) j (ws.map f):=by
 simp[mid,List.map_take,List.map_drop]
theorem zqI{α:Type}(l:List α)(j:Nat)(ws ws2:List α)(h:j≤l.length)(hl:ws2.length=ws.length):mid (mid l j ws) j ws2=mid l j ws2:=by
 have h1:=zkW l j ws h;have h2:=zmy l j ws h;unfold mid at h1 h2 ⊢;rw[h1,hl,h2]
theorem zgq{α:Type}(l:List α)(j i:Nat)(ws:List α)(h:j≤l.length)(hi:i<ws.length):(mid l j ws)[j+i]? = ws[i]? := by
 unfold mid;rw[List.append_assoc,List.getElem?_append_right (by simp;omega),List.length_take,Nat.min_eq_left h,show j+i-j=i from by omega,List.getElem?_append_left hi]
theorem zsb{l ws:List Nat}{j:Nat}(h:Wf l)(k:Wf ws):Wf (mid l j ws):=((h.take j).append k).append (h.drop _)
theorem zqv (l ws:List Nat) (j n:Nat) (hn:ws.length=n) (hj:j+n<l.length) (hz:val (l.drop (j+n+1))=0) :
  val ((mid l j (ws++[0])).drop j)=val ws∧val (mid l j (ws++[0]))=val (l.take j)+B^j*val ws:=by
 have hd:val ((mid l j (ws++[0])).drop j)=val ws:=by
  rw[zkx _ _ _ (by omega),zaQ,List.length_append,hn];have:val (l.drop (j+(n+[0].length)))=0:=hz;rw[this,zaQ];simp
 refine⟨hd,?_⟩;have hs:=zay (mid l j (ws++[0])) j (by rw[zjp _ _ _ (by simp;omega)];omega);rw[hd,zkW _ _ _ (by omega)] at hs;exact hs
theorem zmQ{t r k U V:Nat}(u v:List Nat)(hu:k+2<u.length)(hv:v.length=k+2)(hwu:Wf u)(hwv:Wf v)(hz:val (u.drop (k+3))=0)
 (eU:U=val u)(eV:V=val v)(hV1:1≤v[k+1])(hUV:U<B*V)
 (hc:B≤r∨(t<B∧t*v[k]≤r*B+u[k]))(htr:t*v[k+1]+r=u[k+2]*B+u[k+1])(hq:U/V≤t):t<B∧(t=U/V∨t=U/V+1):=by
 have h3:=zh7 u k hu hz;have h2:=zh5 v k hv;have hp:=zbA (hwu.take k);have aA:=zbA (hwv.take k);rw[List.length_take,Nat.min_eq_left (by omega)] at hp aA;rw[←eU] at h3;rw[←eV] at h2;have aD:=hwv.get (i:=k) (by omega);have hV:0<V:=by
  rcases Nat.eq_zero_or_pos V with h0 | h0
  ·rw[h0,Nat.mul_zero] at hUV;omega
  ·exact h0
 have aC:t<B:=by
  rcases hc with hc | hc
  ·refine zpW htr hc (zp2 (v2:=v[k]) (u2:=u[k]) (rest:=val (u.take k)) aA aD ?_)
   rw[←h3,←h2];exact hUV
  ·exact hc.1
 refine⟨aC,zoD hV hq ?_⟩;have h5:=zsl (u2:=u[k]) (v2:=v[k]) (rest:=val (u.take k)) htr aC aD hV1 aA (hc.imp id (·.2))
 rw[←h3,←h2] at h5;exact h5
theorem zk2{t r k U V:Nat}(u v:List Nat)(hu:k+2<u.length)(hv:v.length=k+2)(hwu:Wf u)(hz:val (u.drop (k+3))=0)
 (eU:U=val u)(eV:V=val v)(hUV:U<B*V)
 (hc:B≤t∨r*B+u[k]<t*v[k])(htr:t*v[k+1]+r=u[k+2]*B+u[k+1]):U/V≤t-1∧1≤t:=by
 have h3:=zh7 u k hu hz;have h2:=zh5 v k hv;have hp:=zbA (hwu.take k);rw[List.length_take,Nat.min_eq_left (by omega)] at hp;rw[←eU] at h3;rw[←eV] at h2;have hV:0<V:=by
  rcases Nat.eq_zero_or_pos V with h0 | h0
  ·rw[h0,Nat.mul_zero] at hUV;omega
  ·exact h0
 have aA:U<t*V:=by
  rcases hc with hc | hc
  ·exact Nat.lt_of_lt_of_le hUV (Nat.mul_le_mul_right V hc)
  ·have h5:=zsj (rest:=val (u.take k)) (vr:=val (v.take k)) htr hc hp
   rw[←h3,←h2] at h5;exact h5
 refine⟨zqz hV aA,?_⟩
 rcases Nat.eq_zero_or_pos t with h0 | h0
 ·rw[h0,Nat.zero_mul] at aA;omega
 ·exact h0
theorem zjg{k U V:Nat}(u v:List Nat)(hu:k+2<u.length)(hv:v.length=k+2)(hwu:Wf u)(hwv:Wf v)(hz:val (u.drop (k+3))=0)
 (eU:U=val u)(eV:V=val v)(hUV:U<B*V)(hbig:B≤2*v[k+1]+1) :
  U/V≤(u[k+2]*B+u[k+1])/v[k+1]∧(u[k+2]*B+u[k+1])/v[k+1]≤B+2∧1≤v[k+1]:=by
 have h3:=zh7 u k hu hz;have h2:=zh5 v k hv;have hp:=zbA (hwu.take k);have aC:=zbA (hwv.take k);rw[List.length_take,Nat.min_eq_left (by omega)] at hp aC;rw[←eU] at h3;rw[←eV] at h2;have aE:=hwv.get (i:=k) (by omega);have aD:=hwu.get (i:=k) (by omega);have aA:1≤v[k+1]:=by have:=zey;unfold B at *; omega
 have h1:=zpu (top:=u[k+2]*B+u[k+1]) (v2:=v[k]) (rest:=val (u.take k)) (vr:=val (v.take k)) aA hp aD;rw[←h3,←h2] at h1;refine⟨h1,?_,aA⟩;have h4:u[k+2]*B+u[k+1]≤B*v[k+1]+(B-1):=by
  refine zp2 (v2:=v[k]) (u2:=u[k]) (rest:=val (u.take k)) aC aE ?_;rw[←h3,←h2];exact hUV
 have h5:(u[k+2]*B+u[k+1])/v[k+1]<B+3:=by
  rw[Nat.div_lt_iff_lt_mul aA];have e:(B+3)*v[k+1]=B*v[k+1]+3*v[k+1]:=Nat.add_mul _ _ _;omega
 omega
end Go.Proofs.YtbkgkoenppkhpaaGreatDoor.Dn
namespace Go.Proofs.YtbkgkoenppkhpaaGreatDoor
section
open Go.RowKit Dn
theorem zlm(Au Av:Option Addr)(mu cu nv cv j k:Nat)(lu lv:List Nat)(w:World)
 (hu:zaA w w.heap.size 1 Au mu (lu.map natv))(hv:zaA w w.heap.size 1 Av nv (lv.map natv))(hwu:Wf lu)(hwv:Wf lv)
 (hn:nv=k+2)(hj:j+(k+2)<mu)(hmu:mu≤2097152)(hbig:∀ h:k+1<lv.length,B≤2*lv[k+1]+1)
 (hz:val (lu.drop (j+(k+3)))=0)(hUV:val (lu.drop j)<B*val lv) :
  Calls Tryz.prog 191 #[.slice Au mu cu,.slice Av nv cv,.int .i64 (j:Int)] w fun e w'=>(∃ t:Nat,e = .returned (.int .i64 (t:Int))∧t<B∧(t=val (lu.drop j)/val lv∨t=val (lu.drop j)/val lv+1))∧∃ q,w'=w.drewN q:=by
 obtain⟨cT,bT,rfl,cY,bO⟩:=hu.cellM (k:=j+(k+2)) (by omega);obtain⟨_,bP,e9,_,bJ⟩:=hu.cellM (k:=j+(k+1)) (by omega);injection e9 with e9;subst e9
 obtain⟨_,bL,e9,_,bG⟩:=hu.cellM (k:=j+k) (by omega);injection e9 with e9;subst e9
 obtain⟨bY,bD,rfl,cW,aE⟩:=hv.cellM (k:=k+1) (by omega);obtain⟨_,bH,e9,_,bF⟩:=hv.cellM (k:=k) (by omega);injection e9 with e9;subst e9
 have aT:lv.length=k+2:=by rw[hv.lenM];exact hn
 have aW:k+2<(lu.drop j).length:=by rw[List.length_drop];omega
 have aS:val ((lu.drop j).drop (k+3))=0:=by rw[List.drop_drop];exact hz
 have aX:=hwu.drop j;have GS:=zjg (lu.drop j) lv aW aT aX hwv aS rfl rfl hUV (hbig bD);have GE:=fun t r=>@zmQ t r k _ _ (lu.drop j) lv aW aT aX hwv aS rfl rfl GS.2.2 hUV
 have GL:=fun t r=>@zk2 t r k _ _ (lu.drop j) lv aW aT aX aS rfl rfl hUV
 simp only[List.getElem_drop] at GS GE GL
 generalize val (lu.drop j)/val lv=Q at *;have ha:=hwu.get bT;have hb:=hwu.get bP;have hc:=hwu.get bL;have bR:=hwv.get bD;have bN:=hwv.get bH;unfold natv at bO bJ bG aE bF;clear hbig hz hUV aS aX hwu hwv hu hv;generalize lu[j+(k+2)]=a at *;generalize lu[j+(k+1)]=b at *;generalize lu[j+k]=c at *;generalize lv[k+1]=v1 at *;generalize lv[k]=v2 at *;obtain⟨jn,bM⟩:∃ jn,jn=j+(k+2):=⟨_,rfl⟩;obtain⟨aR,aL⟩:∃ aR,aR=j+(k+1):=⟨_,rfl⟩;obtain⟨aN,aH⟩:∃ aN,aN=j+k:=⟨_,rfl⟩;obtain⟨k1,bI⟩:∃ k1,k1=k+1:=⟨_,rfl⟩;rw[←bM] at bO;rw[←aL] at bJ;rw[←aH] at bG;rw[←bI] at aE;have cV:a<1000000000:=ha;have cS:b<1000000000:=hb;have cZ:c<1000000000:=hc;have cP:v1<1000000000:=bR;have cR:v2<1000000000:=bN;obtain⟨aA,aC⟩:∃ aA,aA=a*B+b:=⟨_,rfl⟩;rw[←aC] at GS;simp only[←aC] at GE GL
 obtain⟨aB,bU⟩:∃ aB,aB=a*1000000000:=⟨_,rfl⟩;have aO:aA=aB+b:=by rw[aC,bU];rfl
 have bE:aA<1000000000000000000:=by omega
 obtain⟨t0,aJ⟩:∃ t0,t0=aA/v1:=⟨_,rfl⟩;obtain⟨r0,aV⟩:∃ r0,r0=aA%v1:=⟨_,rfl⟩;rw[←aJ] at GS;obtain⟨bQ,bW,cQ⟩:=GS;have bZ:r0<v1:=by rw[aV];exact Nat.mod_lt _ cQ
 have aP:t0*v1+r0=aA:=by rw[aJ,aV,Nat.mul_comm];exact Nat.div_add_mod _ _
 have aG:B=1000000000:=rfl;rw[aG] at bW;have f1:IntKind.i64.wrap ((j:Int)+(nv:Int))=(jn:Int):=by rw[IntWalk.i64_in _ (by omega)];omega
 have f2:IntKind.i64.wrap ((jn:Int)-1)=(aR:Int):=by rw[IntWalk.i64_in _ (by omega)];omega
 have f3:IntKind.i64.wrap ((a:Int)*1000000000)=(aB:Int):=by rw[IntWalk.i64_in _ (by omega)];omega
 have f4:IntKind.i64.wrap ((aB:Int)+(b:Int))=(aA:Int):=by rw[IntWalk.i64_in _ (by omega)];omega
 have f5:IntKind.i64.wrap ((nv:Int)-1)=(k1:Int):=by rw[IntWalk.i64_in _ (by omega)];omega
 have f6:IntKind.i64.wrap (Int.tdiv (aA:Int) (v1:Int))=(t0:Int):=by rw[Int.tdiv_eq_ediv_of_nonneg (by omega),←Int.natCast_ediv,←aJ,IntWalk.i64_in _ (by omega)]
 have f7:Int.tmod (aA:Int) (v1:Int)=(r0:Int):=by rw[Int.tmod_eq_emod_of_nonneg (by omega),←Int.natCast_emod,←aV]
 have f8:Int.tdiv (aA:Int) (v1:Int)=(t0:Int):=by rw[Int.tdiv_eq_ediv_of_nonneg (by omega),←Int.natCast_ediv,←aJ]
 have f9:IntKind.i64.wrap ((nv:Int)-2)=(k:Int):=by rw[IntWalk.i64_in _ (by omega)];omega
 have cM:IntKind.i64.wrap ((jn:Int)-2)=(aN:Int):=by rw[IntWalk.i64_in _ (by omega)];omega
 have bV:(nv:Int)-1=(k1:Int):=by omega
 have z1:((v1:Int)==0)=false:=by rw[beq_eq_false_iff_ne];omega
 have cK:k1<2097152:=by omega
 have p1:(0:Int)≤(jn:Int):=by omega
 have p2:(jn:Int)<(mu:Int):=by omega
 have p3:(0:Int)≤(aR:Int):=by omega
 have p4:(aR:Int)<(mu:Int):=by omega
 have p5:(0:Int)≤(k1:Int):=by omega
 have p6:(k1:Int)<(nv:Int):=by omega
 have p7:(0:Int)≤(aN:Int):=by omega
 have p8:(aN:Int)<(mu:Int):=by omega
 have p9:(0:Int)≤(k:Int):=by omega
 have cU:(k:Int)<(nv:Int):=by omega
 have bK:=Aa GE;have cC:=Aa GL;have cJ:=Aa aP;have HN:=Aa hn;have cG:=Aa bV;have HQ:=Aa bQ;clear GE GL aP bM aL aH bI aC aO bU aJ aV hn aT aG ha hb hc bR bN bT bP bL bD bH hj aW bV bQ;go_enter Tryz.func191,Tryz.ntmps191
 go_upto_region 2 with(fail)
 go_quiet (fail)
 go_upto_region 3 with(fail)
 go_quiet (fail)
 clear f2 f3 f4 f5 f6 f7 f8;go_wp2
 go_loopg [9,10] t0 (fun q v9 cN W=>∃ t r:Nat,v9 = .int .i64 (t:Int)∧cN = .int .i64 (r:Int)∧t≤q∧t≤1000000002∧r<1000000000∧Hid (t*v1+r=aA∧Q≤t)∧∃ nq,W=w.drewN nq)
 case atStart=>exact⟨t0,r0,rfl,rfl,Nat.le_refl _,bW,by omega,⟨cJ.out,HQ.out⟩,by first | exact⟨_,rfl⟩ | exact⟨_,World.drewN_drewN _ _ _⟩⟩
 case round=>
  obtain⟨t,r,rfl,rfl,hq,ht,hr,hv,nq,rfl⟩:=hrel;obtain⟨rB,bC⟩:∃ rB,rB=r*1000000000:=⟨_,rfl⟩;obtain⟨tp,aI⟩:∃ tp,tp=t*v2:=⟨_,rfl⟩;have aF:tp≤1000000002*999999999:=by rw[aI];exact Nat.mul_le_mul ht (by omega)
  have cB:tp<2000000000000000000:=Nat.lt_of_le_of_lt aF (by decide);obtain⟨rc,aZ⟩:∃ rc,rc=rB+c:=⟨_,rfl⟩;have cI:IntKind.i64.wrap ((r:Int)*1000000000)=(rB:Int):=by rw[IntWalk.i64_in _ (by omega)];omega
  have bX:IntKind.i64.wrap ((t:Int)*(v2:Int))=(tp:Int):=by
   have e:(t:Int)*(v2:Int)=(tp:Int):=by rw[aI];exact(Int.natCast_mul t v2).symm
   rw[e,IntWalk.i64_in _ (by omega)]
  have cO:IntKind.i64.wrap ((rB:Int)+(c:Int))=(rc:Int):=by rw[IntWalk.i64_in _ (by omega)];omega
  have aY:=bK.out t r;have aU:=cC.out t r;have aG:B=1000000000:=rfl;have aD:r*B+c=rc:=by rw[aZ,bC];rfl
  rw[aD,←aI] at aY aU;have HV:=hv.out;have F9:=Aa f9
  by_cases hex:t<1000000000∧tp≤rc
  ·obtain⟨h1,h2⟩:=hex
   have d1:decide ((1000000000:Int)≤(t:Int))=false:=by simp;omega
   have d2:decide (rc<tp)=false:=by simp;omega
   have HR:=Aa (aY (.inr ⟨h1,h2⟩) HV.1 HV.2);clear aY aU bC aI aF aZ aG aD HV;go_upto_region 4 with(fail)
   go_quiet (fail)
   go_wp2
   go_ret;exact⟨⟨t,rfl,HR.out⟩,by first | exact⟨_,rfl⟩ | exact⟨_,World.drewN_drewN _ _ _⟩⟩
  ·have aQ:(decide ((1000000000:Int)≤(t:Int))=true)∨(decide ((1000000000:Int)≤(t:Int))=false∧decide (rc<tp)=true):=by
    simp only[decide_eq_true_eq,decide_eq_false_iff_not]
    omega
   obtain⟨hQ,cH⟩:=aU (by rw[aG];omega) HV.1;obtain⟨t',rfl⟩:∃ t',t=t'+1:=⟨t-1,by omega⟩;obtain⟨r',cE⟩:∃ r',r'=r+v1:=⟨_,rfl⟩;have aM:t'*v1+r'=aA:=by
    have:=HV.1;rw[Nat.add_mul,Nat.one_mul] at this;omega
   have aK:=bK.out t' r';have cF:=Aa aK;have bB:Hid (t'*v1+r'=aA∧Q≤t'):=⟨aM,by omega⟩;have et:((t'+1:Nat):Int)-1=(t':Int):=by omega
   have er:(r:Int)+(v1:Int)=(r':Int):=by omega
   have cL:r'<2000000000:=by omega
   have bA:=cG.out;have cA:=Aa bA;generalize bE:t'+1=t9 at *;have bS:=Aa bE;clear aY aU bC aI aF aZ aG aD HV aK cE aM hex hQ cH bA hv bE
   rcases aQ with d1 | ⟨d1,d2⟩
   all_goals
    go_upto_region 4 with(fail)
    go_quiet (fail)
    clear f1 f9 cM cI bX cO;have bA:=cA.out
    first | rw[World.drewN_drewN] | skip
    generalize hW:w.drewN _=W;have c1:W.cell? (bY.add k1)=some (.int .i64 (v1:Int)):=by rw[←hW];exact aE
    have HW:Hid (∃ nq,W=w.drewN nq):=⟨_,hW.symm⟩;clear hW
    by_cases hlast:1000000000≤r'
    ·have d3:decide ((1000000000:Int)≤(r':Int))=true:=by simp;omega
     have HR:=Aa (cF.out (.inl hlast) bB.out.1 bB.out.2);go_wp2
     go_ret;exact⟨⟨t',rfl,HR.out⟩,HW.out⟩
    ·have d3:decide ((1000000000:Int)≤(r':Int))=false:=by simp;omega
     go_wp2
     go_roundg t'
     case measure=>have:=bS.out;omega
     case rel=>exact⟨t',r',rfl,rfl,Nat.le_refl _,by have:=bS.out;omega,by omega,bB.out,HW.out⟩
def zi9 (w:World) (x y:Nat) (e:Ending) (w':World):Prop:=
 ∃ A n c A' n' c',e = .returned (.tuple #[.slice A n c,.slice A' n' c'])∧DigI w' A n c (digs (x/y))∧DigI w' A' n' c' (digs (x%y))∧Below w.heap.size w w'
theorem DigI.zero(w:World):DigI w none 0 0 (digs 0):=⟨by rw[zal];exact zaA.none_,Nat.le_refl _,Nat.zero_le _,zaq 0⟩
theorem DigI.one {w:World} {g d:Nat} (h:CBlk w g #[.int .i64 (d:Int)] 3) (hd:d<B):DigI w (some ⟨g,0,none⟩) 1 1 [d]:=
 ⟨⟨rfl,fun _=>⟨_,rfl,h.lt,fun j u hu=>by
  have hj:j=0:=by
   rcases j with _ | j
   ·rfl
   ·cases hu
  subst hj;have h0:=h.cell 0;rw[show((⟨g,0,none⟩:Addr).add 0)=⟨g,0,none⟩ from rfl,h0]
  simpa[natv] using hu⟩⟩,Nat.le_refl _,by unfold maxLen;omega,Wf.cons hd Wf.nil⟩
theorem zbt{d:Nat}(h0:0<d)(hd:d<B):digs d=[d]:=by rw[zbm h0,Nat.mod_eq_of_lt hd,Nat.div_eq_of_lt hd,zal]
theorem znN(A A':Option Addr)(n c n' c' x y:Nat)(w:World)(ha:DigI w A n c (digs x))(hb:DigI w A' n' c' (digs y))(hlt:x<y)(hn:n≤1048576)(hn':n'≤1048576) :
  Calls Tryz.prog 136 #[.slice A n c,.slice A' n' c'] w (zi9 w x y):=by
 have hc:=zcg A A' n c n' c' x y w ha.rd hb.rd (by omega) (by omega);rw[Bn.ncmp_lt hlt] at hc;have HC:=Aa hc;have HR:Hid (∀ w',Below w.heap.size w w'→zi9 w x y (.returned (.tuple #[.slice none 0 0,.slice A n c])) w'):=fun w' hb=>⟨none,0,0,A,n,c,rfl,by rw[Nat.div_eq_of_lt hlt];exact DigI.zero _,by rw[Nat.mod_eq_of_lt hlt];exact ha.later hb,hb⟩
 clear hc;go_enter Tryz.func136,Tryz.ntmps136
 go_wp2_with fail
 refine HC.out.mono ?_;rintro e w1 ⟨rfl,aA⟩;go_wp2
 go_ret2
 exact HR.out _ aA
theorem zoA(A A':Option Addr)(n c c' x y:Nat)(w:World)(ha:DigI w A n c (digs x))(hb:DigI w A' 1 c' (digs y))(hyx:y≤x)(hy:0<y)(hyB:y<B)(hn:n≤1048576) :
  Calls Tryz.prog 136 #[.slice A n c,.slice A' 1 c'] w (zi9 w x y):=by
 have aL:∃ r:Int,0≤r∧Bn.ncmp x y=r:=⟨Bn.ncmp x y,by rcases Nat.lt_or_ge y x with h | h;(· rw[Bn.ncmp_gt h];decide);(· rw[show x=y from by omega,Bn.ncmp_eq];exact Int.le_refl 0),rfl⟩
 obtain⟨r,aP,hr⟩:=aL;have hc:=zcg A A' n c 1 c' x y w ha.rd hb.rd (by omega) (by omega);rw[hr] at hc;have d0:decide (r<0)=false:=by simp;omega
 have HC:=Aa hc;have HA:=Aa ha;have HB:=Aa hb;clear hc hr ha hb;go_enter Tryz.func136,Tryz.ntmps136
 go_wp2_with fail
 refine HC.out.mono ?_;rintro e w1 ⟨rfl,aE⟩;have aI:=HB.out.later aE;rw[zbt hy hyB] at aI;obtain⟨ad,aR,rfl,aQ,aA⟩:=aI.rd.cellM (k:=0) (by omega)
 replace aA:w1.cell? ad=some (.int .i64 (y:Int)):=aA
 have aF:=zeU A n c y (digs x) w1 (HA.out.later aE) hy hyB hn;rw[zak] at aF;have HD:=Aa aF;clear aF aI
 go_wp2_with fail
 refine HD.out.mono ?_;rintro e w2 ⟨A2,m2,c2,rfl,hq,aK⟩;obtain⟨rm,aC⟩:∃ rm,rm=x%y:=⟨_,rfl⟩;rw[←aC];have aH:rm<B:=by rw[aC];exact Nat.lt_trans (Nat.mod_lt _ hy) hyB
 have hk:=CBlk.new w2 #[.int .i64 (rm:Int)] 3 _ rfl;have aJ:Below w2.heap.size w2 (w2.alloc (.cells #[.int .i64 (rm:Int)] 3)):=Ac;have ht:=zcM _ 1 1 _ _ (DigI.one hk aH) (by omega);rw[zaX,aC] at ht;have HT:=Aa ht;have aN:=Aa aC;clear ht aC
 go_wp2_with fail
 have hh:=aN.out;subst hh;refine HT.out.mono ?_;rintro e w3 ⟨m3,rfl,aM,aO⟩;have aD:=Ad aJ aO;have aG:=Ad aK aD;go_wp2
 go_ret2
 exact⟨_,_,_,_,_,_,rfl,hq.later aD,aM,aE.trans (aG.mono aE.size)⟩
end
end Go.Proofs.YtbkgkoenppkhpaaGreatDoor
