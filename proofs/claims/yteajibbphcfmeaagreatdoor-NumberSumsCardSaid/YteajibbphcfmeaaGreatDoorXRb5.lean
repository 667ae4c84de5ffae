/- Contracts of the reference's integers: signed, minus, times, plus. -/
import Derived.Test.YteajibbphcfmeaaGreatDoorXRb2
import Derived.Test.YteajibbphcfmeaaGreatDoorXRat8
import Derived.Deep.RegionHeld3
import Derived.Test.YteajibbphcfmeaaGreatDoorXEx2
import Derived.Test.YteajibbphcfmeaaGreatDoorXDw
namespace Go.Proofs.YteajibbphcfmeaaGreatDoor
open Go.RowKit Dn
def sgn (b:Bool) (x:Nat):Int:=if b then -(x:Int) else (x:Int)
theorem zbF (b:Bool) (x:Nat):(sgn b x).natAbs=x:=by unfold sgn;cases b<;>simp
theorem zcK (b:Bool) (x:Nat):decide (sgn b x<0)=(b && decide (0<x)):=by
 unfold sgn
 cases b
 ·simp
 ·simp
theorem zhC (z:Int):sgn (decide (z<0)) z.natAbs=z:=by
 unfold sgn
 by_cases h:z<0
 ·rw [decide_eq_true h,if_pos rfl];omega
 ·rw [decide_eq_false h,if_neg (by decide)];omega
def RetZ (w:World) (z:Int) (e:Ending) (w':World):Prop:=∃ A n c,e = .returned (.agg #[.bool (decide (z<0)),.slice A n c])∧DigI w' A n c (digs z.natAbs)∧Below w.heap.size w w'
theorem DigI.box {w:World} {A A1:Option Addr} {n c n1 c1 g:Nat} {b:Bool} {l:List Nat} {t:TypeId} (h:DigI w A n c l) (hk:CBlk w g #[.bool b,.slice A1 n1 c1] t) (u v:Value) :
  DigI ((w.setCell ⟨g,0,none⟩ u).setCell ⟨g,1,none⟩ v) A n c l:=by
 have k0:w.cell? ⟨g,0,none⟩=some (.bool b):=hk.cell 0;have k1:w.cell? ⟨g,1,none⟩=some (.slice A1 n1 c1):=hk.cell 1;refine ⟨⟨h.rd.1,fun hn => ?_⟩,h.nc,h.cm,h.wf⟩;obtain ⟨ad,e,hb,hc⟩:=h.rd.2 hn;refine ⟨ad,e,by simpa [World.setCell] using hb,fun j z hz => ?_⟩;have aA:=hc j z hz;have aC:∃ d:Nat,z = .int .i64 (d:Int):=by
  rw [List.getElem?_map] at hz
  cases hd:l[j]? with
  | none=>rw [hd] at hz;cases hz
  | some d=>rw [hd] at hz;injection hz with hz;exact ⟨d,hz.symm⟩
 obtain ⟨d,rfl⟩:=aC;have n0:ad.add j≠⟨g,0,none⟩:=fun e0=>by rw [e0,k0] at aA;injection aA with aA;cases aA
 have aD:ad.add j≠⟨g,1,none⟩:=fun e0=>by rw [e0,k1] at aA;injection aA with aA;cases aA
 rw [World.cell?_setCell_other _ _ _ _ aD.symm,World.cell?_setCell_other _ _ _ _ n0.symm];exact aA
theorem zhs {w:World} {A:Option Addr} {n c x:Nat} (h:DigI w A n c (digs x)):decide (0<(n:Int))=decide (0<x):=by
 rw [←h.len]
 rcases Nat.eq_zero_or_pos x with rfl | hx
 ·simp [digs_zero]
 ·have:=zas hx
  simp [hx]
  omega
set_option maxHeartbeats 1000000 in
theorem za4 (b:Bool) (A:Option Addr) (n c:Nat) (l:List Nat) (w:World) (h:DigI w A n c l) (hn:n≤1099511627776) :
  Calls Tryz.prog 137 #[.bool b,.slice A n c] w (RetZ w (sgn b (val l))):=by
 have aG:Below w.heap.size w (w.alloc (.cells #[.bool false,.slice none 0 0] 84)):=(Below.refl _ _).alloc (Nat.le_refl _) _;have hk:=CBlk.new w #[.bool false,.slice none 0 0] 84 _ rfl;have K1:=Lib.hid (zcl A n c l _ (h.later aG) hn);have HA:=Lib.hid (zbF b (val l));have HN:=Lib.hid (zcK b (val l));generalize val l=x at *;generalize sgn b x=z at *;clear h;go_enter Tryz.func137,Tryz.ntmps137
 go_wp2_with fail
 refine K1.out.mono ?_;rintro e w1 ⟨m,rfl,hd,aH⟩;have aE:=hk.below aH (by simp);have hB:=aG.trans (aH.mono aG.size);have k0:w1.cell? ⟨w.heap.size,0,none⟩=some (.bool false):=aE.cell 0;have k1:w1.cell? ⟨w.heap.size,1,none⟩=some (.slice none 0 0):=aE.cell 1;have f0:w1.frozen? ⟨w.heap.size,0,none⟩=false:=aE.frozen 0;have f1:w1.frozen? ⟨w.heap.size,1,none⟩=false:=aE.frozen 1;have hp:=zhs hd;have aC:=zbP hB (g:=w.heap.size) (Nat.le_refl _) (.bool (b && decide (0<x))) (.slice A m c);have aD:=hd.box aE (.bool (b && decide (0<x))) (.slice A m c);have HS:=Lib.hid aC;have HX:=Lib.hid aD;clear aC aD aG aH hB K1;have aA:∀ bb:Bool,bb=(b && decide (0<x))→RetZ w z (.returned (.agg #[.bool bb,.slice A m c])) ((w1.setCell ⟨w.heap.size,0,none⟩ (.bool bb)).setCell ⟨w.heap.size,1,none⟩ (.slice A m c)):=fun bb aI=>by
  subst aI;exact ⟨A,m,c,by rw [HN.out],by rw [HA.out];exact HX.out,HS.out⟩
 have aF:b=false∨(b=true∧0<x)∨(b=true∧x=0):=by
  cases b
  ·exact .inl rfl
  ·rcases Nat.eq_zero_or_pos x with h0 | h0
   ·exact .inr (.inr ⟨rfl,h0⟩)
   ·exact .inr (.inl ⟨rfl,h0⟩)
 rcases aF with rfl | ⟨rfl,hx⟩ | ⟨rfl,hx⟩
 ·have HR:=Lib.hid (aA false (by simp))
  clear hp aA HS HX;go_wp2
  refine bodyPost_ret (v := .agg #[.bool false,.slice A m c]) (by simp [results,Tryz.results137,go_sem,k0,k1]) rfl ?_;exact HR.out
 ·have HR:=Lib.hid (aA true (by simp [hx]))
  have dx:decide (0<(m:Int))=true:=by rw [hp];simpa using hx
  have dy:decide (0<m)=true:=by simpa using dx
  clear hp aA HS HX dx;go_wp2
  refine bodyPost_ret (v := .agg #[.bool true,.slice A m c]) (by simp [results,Tryz.results137,go_sem,k0,k1]) rfl ?_;exact HR.out
 ·have HR:=Lib.hid (aA false (by simp [hx]))
  have dx:decide (0<(m:Int))=false:=by rw [hp];simpa using hx
  obtain rfl:m=0:=by simp at dx;omega
  clear hp aA HS HX dx;go_wp2
  refine bodyPost_ret (v := .agg #[.bool false,.slice A 0 c]) (by simp [results,Tryz.results137,go_sem,k0,k1]) rfl ?_;exact HR.out
set_option maxHeartbeats 1000000 in
theorem zdw (s:ByteArray) (w:World) (hd:zar s.data.toList=true) (hs:s.size≤18) :
  Calls Tryz.prog 135 #[.string s] w fun e w'=>e = .returned (.int .i64 ((zaj s.data.toList:Nat):Int))∧w=w':=by
 have aH:s.data.toList.length=s.size:=by simp
 have aE:=Lib.hid aH;have HD:=Lib.hid hd;clear aH hd;go_enter Tryz.func135,Tryz.ntmps135
 go_wp2
 go_loop [3,4] (fun n i=>∃ k v:Nat,k≤s.size∧i = .int .i64 k∧n = .int .i64 (v:Int)∧Hid (v=zaj (s.data.toList.take k))) (fun _ i=>s.size - (intOf i).toNat)
 case atStart=>exact ⟨0,0,Nat.zero_le _,rfl,rfl,rfl⟩
 case round=>
  obtain ⟨k,v,hk,rfl,rfl,hv⟩:=hrel
  by_cases hlt:k<s.size
  ·have aD:=zdz s.data.toList HD.out 0 k
   rw [List.drop_zero] at aD;have aF:=zb0 _ aD;rw [←hv.out] at aF;have hp:10 ^ (s.data.toList.take k).length≤10 ^ 17:=Nat.pow_le_pow_right (by omega) (by rw [List.length_take];omega);have aK:(10:Nat) ^ 17=100000000000000000:=by decide
   have aL:v<100000000000000000:=by omega
   have aI:(s[k]'hlt) ∈ s.data.toList:=by
    have:(s[k]'hlt)=s.data.toList[k]'(by rw [aE.out];exact hlt):=rfl;rw [this];exact List.getElem_mem _
   have hc:=zef HD.out aI;have aG:s.data.toList.take (k+1)=s.data.toList.take k++[s[k]'hlt]:=by
    rw [List.take_succ_eq_append_getElem (by rw [aE.out];exact hlt)];rfl
   have aC:v*10+((s[k]'hlt).toNat - 48)=zaj (s.data.toList.take (k+1)):=by rw [aG,zcZ,hv.out]
   obtain ⟨c,aM⟩:∃ c:Nat,(s[k]'hlt).toNat=c:=⟨_,rfl⟩;rw [aM] at hc aC;obtain ⟨v',aJ⟩:∃ v',v'=v*10+(c - 48):=⟨_,rfl⟩;rw [←aJ] at aC;have ev:10*(v:Int)+(c:Int) - 48=(v':Int):=by omega
   have HV:=Lib.hid aC;clear aD aF hp aK aI aG aC aJ hv;go_wp2
   go_round
   case rel=>exact ⟨k+1,v',by omega,by go_num,rfl,HV.out⟩
   case measure=>simp [intOf];omega
  ·obtain rfl:k=s.size:=by omega
   have aA:v=zaj s.data.toList:=by rw [hv.out,List.take_of_length_le (by rw [aE.out];exact Nat.le_refl _)]
   have HF:=Lib.hid aA;clear aA hv;go_wp2
   go_ret;exact ⟨by rw [HF.out];rfl,rfl⟩
set_option maxHeartbeats 1000000 in
theorem zbS (s:ByteArray) (w:World) (hs:s.size≤9223372036854775807) :
  Calls Tryz.prog 59 #[.string s] w fun e w'=>e = .returned (.int .i64 ((zbt s.data.toList:Nat):Int))∧w=w':=by
 have aE:s.data.toList.length=s.size:=by simp
 have aD:=Lib.hid aE;clear aE;go_enter Tryz.func59,Tryz.ntmps59
 go_wp2
 go_loop [3] (fun i=>∃ k:Nat,k≤s.size∧i = .int .i64 k∧Hid (∀ c ∈ s.data.toList.take k,c≠47)) (fun i=>s.size - (intOf i).toNat)
 case atStart=>exact ⟨0,Nat.zero_le _,rfl,by intro c hc;simp at hc⟩
 case round=>
  obtain ⟨k,hk,rfl,hv⟩:=hrel
  by_cases hlt:k<s.size
  ·have aG:k<s.data.toList.length:=by rw [aD.out];exact hlt
   have aC:s.data.toList[k]=s[k]'hlt:=rfl
   by_cases h47:(s[k]'hlt).toNat=47
   ·have hb:s[k]'hlt=47:=UInt8.toNat_inj.1 h47
    have aF:zbt s.data.toList=k:=by
     have e:s.data.toList=s.data.toList.take k++47 :: s.data.toList.drop (k+1):=by
      conv=>lhs;rw [←List.take_append_drop k s.data.toList,List.drop_eq_getElem_cons aG,aC,hb]
     rw [e,zco hv.out,List.length_take];omega
    have HS:=Lib.hid aF;clear aF hb aC;go_wp2
    go_ret;exact ⟨by rw [HS.out];rfl,rfl⟩
   ·have hb:s[k]'hlt≠47:=fun h=>h47 (by rw [h];decide)
    have HV:Hid (∀ c ∈ s.data.toList.take (k+1),c≠47):=by
     show ∀ c ∈ s.data.toList.take (k+1),c≠47
     rw [List.take_succ_eq_append_getElem aG,aC];intro c hc
     rcases List.mem_append.1 hc with hc | hc
     ·exact hv.out c hc
     ·rw [List.mem_singleton.1 hc];exact hb
    clear aC hb;obtain ⟨c,aH⟩:∃ c:Nat,(s[k]'hlt).toNat=c:=⟨_,rfl⟩;rw [aH] at h47;have d1:((c:Int)==47)=false:=by rw [beq_eq_false_iff_ne];omega
    clear h47;go_wp2
    go_round
    case rel=>exact ⟨k+1,by omega,by go_num,HV.out⟩
    case measure=>simp [intOf];omega
  ·obtain rfl:k=s.size:=by omega
   have aA:zbt s.data.toList=s.size:=by
    have h1:=hv.out;rw [List.take_of_length_le (by rw [aD.out];exact Nat.le_refl _)] at h1;rw [zbT h1,aD.out]
   have HF:=Lib.hid aA;clear aA hv;go_wp2
   go_ret;exact ⟨by rw [HF.out];rfl,rfl⟩
theorem zjv:∀ d:Nat,d<10→((⟨#[48,49,50,51,52,53,54,55,56,57]⟩:ByteArray).extract d (d+1))=⟨#[Dec.dgt d]⟩:=by
 intro d hd;have:d=0∨d=1∨d=2∨d=3∨d=4∨d=5∨d=6∨d=7∨d=8∨d=9:=by omega
 rcases this with rfl | rfl | rfl | rfl | rfl | rfl | rfl | rfl | rfl | rfl<;>decide
set_option maxHeartbeats 1000000 in
theorem zcy (n least:Nat) (w:World) (hn:n≤9223372036854775807) (hl:least≤19) :
  Calls Tryz.prog 84 #[.int .i64 (n:Int),.int .i64 (least:Int)] w fun e w'=>(∃ s:ByteArray,e = .returned (.string s)∧s.data.toList=Dec.pad (decK n least) n)∧w=w':=by
 have hK:=zoy (n:=n) (least:=least) (by omega) hl;obtain ⟨K,aD⟩:∃ K,decK n least=K:=⟨_,rfl⟩;rw [aD] at hK ⊢;have HK:=Lib.hid aD;clear aD;go_enter Tryz.func84,Tryz.ntmps84
 go_wp2
 go_loop [0,5] (fun v0 v5=>∃ (k q:Nat) (s:ByteArray),k≤K∧v0 = .int .i64 (q:Int)∧v5 = .string s∧q≤9223372036854775807∧s.size=k∧Hid (q=n / 10 ^ k∧s.data.toList=Dec.pad k n)) (fun _ v5=>K - zmV v5)
 case atStart=>exact ⟨0,n,⟨#[]⟩,Nat.zero_le _,rfl,rfl,hn,rfl,by simp,rfl⟩
 case round=>
  obtain ⟨k,q,s,hk,rfl,rfl,hq,aC,hv⟩:=hrel;have aH:=Lib.hid aC;have aK:s.size≤19:=by omega
  by_cases hgo:0<q∨s.size<least
  ·have aJ:k+1≤K:=by
    rw [←HK.out];refine zkx ?_;rw [←hv.out.1,←aC];exact hgo
   obtain ⟨d,hd⟩:∃ d,d=q % 10:=⟨_,rfl⟩;obtain ⟨q',aI⟩:∃ q',q'=q / 10:=⟨_,rfl⟩;have aE:d<10:=by omega
   have ed:(q:Int) % 10=(d:Int):=by omega
   have eq:(q:Int) / 10=(q':Int):=by omega
   have hx:=zjv d aE;have HI:Hid (q'=n / 10 ^ (k+1)∧((⟨#[Dec.dgt d]⟩:ByteArray)++s).data.toList=Dec.pad (k+1) n):=by
    refine ⟨by rw [aI,hv.out.1,Nat.div_div_eq_div_mul,Nat.pow_succ],?_⟩;rw [znc,ByteArray.data_append,Array.toList_append,hv.out.2,hd,hv.out.1];rfl
   have aG:Hid (((⟨#[Dec.dgt d]⟩:ByteArray)++s).size=k+1):=by
    show ((⟨#[Dec.dgt d]⟩:ByteArray)++s).size=k+1
    rw [ByteArray.size_append,aH.out];show 1+k=k+1
    omega
   have aA:(decide (0<q)=true)∨(decide (0<q)=false∧decide (s.size<least)=true):=by
    simp only [decide_eq_true_eq,decide_eq_false_iff_not]
    omega
   have HX:=Lib.hid hx;clear hd aI hgo hv aC hx
   rcases aA with d1 | ⟨d1,d2⟩
   all_goals
    have hx:=HX.out;go_wp2
    go_round
    case rel=>exact ⟨k+1,q',_,aJ,rfl,rfl,by omega,aG.out,HI.out⟩
    case measure=>have:=aG.out;have:=aH.out;simp [zmV] at *; omega
  ·have aF:k=K:=by
    rw [←HK.out];exact zno (by rw [←hv.out.1];omega) (by omega) (by rw [HK.out];exact hk)
   have d1:decide (0<q)=false:=by simp;omega
   have d2:decide (s.size<least)=false:=by simp;omega
   have HF:Hid (s.data.toList=Dec.pad K n):=by
    show s.data.toList=Dec.pad K n
    rw [←aF];exact hv.out.2
   clear hv aF hgo aC;go_wp2
   go_ret;exact ⟨⟨s,rfl,HF.out⟩,rfl⟩
end Go.Proofs.YteajibbphcfmeaaGreatDoor
namespace Go.Proofs.YteajibbphcfmeaaGreatDoor.Dn
theorem zpl {t r top v1 v2 u2 P rest vr:Nat} (h:t*v1+r=top) (hc:r*B+u2<t*v2) (hr:rest<P):(top*B+u2)*P+rest<t*((v1*B+v2)*P+vr):=by
 have e:t*(v1*B+v2)=t*v1*B+t*v2:=by rw [Nat.mul_add,Nat.mul_assoc]
 have h1:top*B+u2+1≤t*(v1*B+v2):=by
  rw [e,←h,Nat.add_mul];omega
 have h2:=Nat.mul_le_mul_right P h1;have h3:t*((v1*B+v2)*P+vr)=t*(v1*B+v2)*P+t*vr:=by rw [Nat.mul_add,Nat.mul_assoc]
 rw [h3];rw [Nat.add_mul,Nat.one_mul] at h2;omega
theorem zpj {t r top v1 v2 u2 P rest vr:Nat} (h:t*v1+r=top) (ht:t<B) (hv2:v2<B) (hv1:1≤v1) (hvr:vr<P) (hc:B≤r∨t*v2≤r*B+u2) :
  t*((v1*B+v2)*P+vr)<(top*B+u2)*P+rest+((v1*B+v2)*P+vr):=by
 have aA:t*v2≤r*B+u2:=by
  rcases hc with hc | hc
  ·have h1:t*v2≤B*B:=Nat.mul_le_mul (Nat.le_of_lt ht) (Nat.le_of_lt hv2)
   have h2:B*B≤r*B:=Nat.mul_le_mul_right _ hc;omega
  ·exact hc
 have e:t*(v1*B+v2)=t*v1*B+t*v2:=by rw [Nat.mul_add,Nat.mul_assoc]
 have h1:t*(v1*B+v2)≤top*B+u2:=by
  rw [e,←h,Nat.add_mul];omega
 have h2:=Nat.mul_le_mul_right P h1;have h3:t*((v1*B+v2)*P+vr)=t*(v1*B+v2)*P+t*vr:=by rw [Nat.mul_add,Nat.mul_assoc]
 have h4:t*vr≤t*P:=Nat.mul_le_mul_left _ (Nat.le_of_lt hvr);have hP:0<P:=Nat.lt_of_le_of_lt (Nat.zero_le _) hvr;have h5:t*P<B*P:=Nat.mul_lt_mul_of_pos_right ht hP;have h6:B*P≤v1*B*P:=by
  rw [Nat.mul_assoc];exact Nat.le_mul_of_pos_left _ hv1
 have h7:(v1*B+v2)*P=v1*B*P+v2*P:=Nat.add_mul _ _ _;rw [h3];omega
theorem zmk {t U V:Nat} (hV:0<V) (h1:U / V≤t) (h2:t*V<U+V):t=U / V∨t=U / V+1:=by
 have h3:t≤U / V+1:=by
  rcases Nat.lt_or_ge t (U / V+2) with h | h
  ·omega
  ·exfalso
   have h4:(U / V+2)*V≤t*V:=Nat.mul_le_mul_right _ h;have h5:=Nat.div_add_mod U V;have h6:=Nat.mod_lt U hV;rw [Nat.mul_comm V] at h5;rw [Nat.add_mul] at h4;omega
 omega
theorem znH {t U V:Nat} (hV:0<V) (h:U<t*V):U / V≤t - 1:=by
 have:=(Nat.div_lt_iff_lt_mul hV).2 h;omega
theorem znd {u p:Nat} (hu:u<B):(p % B≤u→u - p % B<B∧u - p % B+p=u+B*(p / B))∧(u<p % B→u+B - p % B<B∧u+B - p % B+p=u+B*(p / B+1)):=by
 have h1:=Nat.mod_add_div p B;have h2:=Nat.mod_lt p zaN;refine ⟨fun h=>⟨by omega,by omega⟩,fun h=>⟨by omega,?_⟩⟩;rw [Nat.mul_add,Nat.mul_one];omega
theorem zn6 {W W' V P t ut b:Nat} (h:W'+t*V=W+P*b) (hW':W'<P) (hVP:V<P) (hV:0<V) (ht:t=(W+P*ut) / V∨t=(W+P*ut) / V+1) :
  (b≤ut→ut=b∧t=(W+P*ut) / V∧W'=(W+P*ut) % V)∧(ut<b→b=ut+1∧t=(W+P*ut) / V+1∧W'+V=P+(W+P*ut) % V):=by
 generalize hU:W+P*ut=U at *;have aA:=Nat.div_add_mod U V;have aC:=Nat.mod_lt U hV;rw [Nat.mul_comm V] at aA;generalize hq:U / V=q at *;generalize hr:U % V=r at *
 constructor
 ·intro hb
  obtain ⟨k,rfl⟩:∃ k,ut=b+k:=⟨ut - b,by omega⟩;rw [Nat.mul_add] at hU
  rcases ht with rfl | rfl
  ·have h1:W'+P*k=r:=by omega
   rcases Nat.eq_zero_or_pos k with rfl | hk
   ·exact ⟨by omega,rfl,by simpa using h1⟩
   ·exfalso
    have:=Nat.le_mul_of_pos_right P hk;omega
  ·exfalso
   rw [Nat.add_mul,Nat.one_mul] at h;omega
 ·intro hb
  obtain ⟨k,rfl⟩:∃ k,b=ut+1+k:=⟨b - ut - 1,by omega⟩;rw [Nat.mul_add,Nat.mul_add,Nat.mul_one] at h
  rcases ht with rfl | rfl
  ·exfalso
   omega
  ·rw [Nat.add_mul,Nat.one_mul] at h
   rcases Nat.eq_zero_or_pos k with rfl | hk
   ·exact ⟨by omega,rfl,by simp at h;omega⟩
   ·exfalso
    have:=Nat.le_mul_of_pos_right P hk;omega
theorem zgw (w:List Nat) (k:Nat) (hl:k+2<w.length) (hz:val (w.drop (k+3))=0):val w=((w[k+2]*B+w[k+1])*B+w[k])*B ^ k+val (w.take k):=by
 rw [zay w (k+3) (by omega),hz,zat w (k+2) hl,zat w (k+1) (by omega),zat w k (by omega)];rw [Nat.mul_zero,Nat.add_zero];simp only [Nat.add_mul,Nat.pow_succ]
 have e1:w[k+2]*B*B*B ^ k=B ^ k*B*B*w[k+2]:=by
  rw [Nat.mul_comm (w[k+2]*B*B),Nat.mul_comm (w[k+2]*B),Nat.mul_comm w[k+2]];simp only [Nat.mul_assoc]
 have e2:w[k+1]*B*B ^ k=B ^ k*B*w[k+1]:=by
  rw [Nat.mul_comm (w[k+1]*B),Nat.mul_comm w[k+1]];simp only [Nat.mul_assoc]
 have e3:w[k]*B ^ k=B ^ k*w[k]:=Nat.mul_comm _ _;omega
theorem zgC (w:List Nat) (k:Nat) (hl:w.length=k+2):val w=(w[k+1]*B+w[k])*B ^ k+val (w.take k):=by
 have h1:=zat w (k+1) (by omega);have h2:=zat w k (by omega);rw [List.take_of_length_le (by omega)] at h1;rw [h1,h2,Nat.pow_succ,Nat.add_mul];have e2:w[k+1]*B*B ^ k=B ^ k*B*w[k+1]:=by
  rw [Nat.mul_comm (w[k+1]*B),Nat.mul_comm w[k+1]];simp only [Nat.mul_assoc]
 have e3:w[k]*B ^ k=B ^ k*w[k]:=Nat.mul_comm _ _;omega
theorem zkd (u:List Nat) (j n V:Nat) (h:val (u.drop (j+1))<V) (hV:V<B ^ n):val ((u.drop j).drop (n+1))=0:=by
 rw [List.drop_drop]
 rcases Nat.lt_or_ge (u.drop (j+1)).length n with hl | hl
 ·rw [List.drop_eq_nil_of_le (by rw [List.length_drop] at hl;omega)]
  rfl
 ·have hs:=zay (u.drop (j+1)) n hl
  rw [List.drop_drop,show j+1+n=j+(n+1) by omega] at hs;generalize val (u.drop (j+(n+1)))=z at *
  rcases Nat.eq_zero_or_pos z with h0 | h0
  ·exact h0
  ·exfalso
   have:=Nat.le_mul_of_pos_right (B ^ n) h0;omega
theorem zmG {top v1 v2 u2 P rest vr:Nat} (hv1:1≤v1) (hr:rest<P) (hu2:u2<B):((top*B+u2)*P+rest) / ((v1*B+v2)*P+vr)≤top / v1:=by
 have hP:0<P:=Nat.lt_of_le_of_lt (Nat.zero_le _) hr;have aA:0<(v1*B+v2)*P+vr:=by
  have h1:1*1≤v1*B:=Nat.mul_le_mul hv1 (Nat.le_of_lt zdP);have h2:1*1≤(v1*B+v2)*P:=Nat.mul_le_mul (by omega) hP;omega
 refine Nat.le_of_lt_succ ((Nat.div_lt_iff_lt_mul aA).2 ?_);have h1:top+1≤(top / v1+1)*v1:=by
  have:=Nat.div_add_mod top v1;have:=Nat.mod_lt top hv1;rw [Nat.add_mul,Nat.one_mul,Nat.mul_comm];omega
 generalize top / v1=t at *;have h2:(top+1)*(B*P)≤(t+1)*v1*(B*P):=Nat.mul_le_mul_right _ h1;have e1:(t+1)*v1*(B*P)=(t+1)*(v1*B*P):=by simp only [Nat.mul_assoc]
 have e2:(t+1)*(v1*B*P)≤(t+1)*((v1*B+v2)*P+vr):=by
  apply Nat.mul_le_mul_left
  rw [Nat.add_mul];omega
 have e3:(top+1)*(B*P)=top*B*P+B*P:=by rw [Nat.add_mul,Nat.one_mul];simp only [Nat.mul_assoc]
 have e4:(u2+1)*P≤B*P:=Nat.mul_le_mul_right _ hu2;rw [Nat.add_mul,Nat.one_mul] at e4;show (top*B+u2)*P+rest<(t+1)*_
 rw [Nat.add_mul];omega
theorem znv {top v1 v2 u2 P rest vr:Nat} (hvr:vr<P) (hv2:v2<B) (hU:(top*B+u2)*P+rest<B*((v1*B+v2)*P+vr)):top≤B*v1+(B - 1):=by
 rcases Nat.lt_or_ge top (B*v1+B) with h | h
 ·omega
 ·exfalso
  have hP:0<P:=Nat.lt_of_le_of_lt (Nat.zero_le _) hvr;have h1:(B*v1+B)*(B*P)≤top*(B*P):=Nat.mul_le_mul_right _ h;have e0:top*(B*P)=top*B*P:=by simp only [Nat.mul_assoc]
  have h2:(v2+1)*P≤B*P:=Nat.mul_le_mul_right _ hv2;rw [Nat.add_mul,Nat.one_mul] at h2;have h3:(v1*B+v2)*P+vr<v1*B*P+B*P:=by rw [Nat.add_mul];omega
  have h4:B*((v1*B+v2)*P+vr)<B*(v1*B*P+B*P):=Nat.mul_lt_mul_of_pos_left h3 zaN;have e1:B*(v1*B*P+B*P)=(B*v1+B)*(B*P):=by
   rw [Nat.mul_add,Nat.add_mul];simp only [Nat.mul_assoc]
  have e2:(top*B+u2)*P=top*B*P+u2*P:=Nat.add_mul _ _ _;omega
theorem zmH {t r top v1:Nat} (h:t*v1+r=top) (hr:B≤r) (ht:top≤B*v1+(B - 1)):t<B:=by
 rcases Nat.lt_or_ge t B with h1 | h1
 ·exact h1
 ·exfalso
  have h2:B*v1≤t*v1:=Nat.mul_le_mul_right _ h1;have:=zaN;omega
theorem zmb {X V Q P lo U:Nat} (h:X=V*Q*(P*B)+(lo+P*U)):X=V*(U / V+B*Q)*P+(lo+P*(U % V)):=by
 have aA:=Nat.div_add_mod U V;generalize U / V=q at *;generalize U % V=r at *;subst aA;rw [h,Nat.mul_add,Nat.mul_add,Nat.add_mul];have e1:V*Q*(P*B)=V*(B*Q)*P:=by
  rw [Nat.mul_assoc,Nat.mul_assoc V (B*Q)]
  congr 1
  rw [Nat.mul_comm B Q,Nat.mul_assoc,Nat.mul_comm P B]
 have e2:P*(V*q)=V*q*P:=Nat.mul_comm _ _;omega
theorem zoa {a b f Q R:Nat} (hb:0<b) (hf:0<f) (h:a*f=b*f*Q+R) (hR:R<b*f):Q=a / b∧R=a % b*f:=by
 have aA:0<b*f:=Nat.mul_pos hb hf;have h1:a*f / (b*f)=Q:=by
  rw [h,Nat.mul_add_div aA,Nat.div_eq_of_lt hR,Nat.add_zero]
 have h2:a*f % (b*f)=R:=by
  rw [h,Nat.mul_add_mod,Nat.mod_eq_of_lt hR]
 rw [Nat.mul_div_mul_right _ _ hf] at h1;rw [Nat.mul_mod_mul_right] at h2;exact ⟨h1.symm,h2.symm⟩
theorem zkl {b n f v1:Nat} (hb:b<B ^ (n+1)) (h1:B ^ n≤b) (hf:f=B / (b / B ^ n+1)) (hv:v1=b*f / B ^ n):b*f<B ^ (n+1)∧B≤2*v1+1:=by
 have hP:0<B ^ n:=Nat.pow_pos zaN;have hd:=Nat.div_add_mod b (B ^ n);have hm:=Nat.mod_lt b hP;have aG:1≤b / B ^ n:=(Nat.le_div_iff_mul_le hP).2 (by omega);have aF:b / B ^ n<B:=(Nat.div_lt_iff_lt_mul hP).2 (by rw [Nat.mul_comm,←Nat.pow_succ];exact hb);obtain ⟨d,aE⟩:∃ d,d=b / B ^ n:=⟨_,rfl⟩;rw [←aE] at hd aG aF hf;generalize b % B ^ n=bm at hd hm;have aA:=Nat.div_add_mod B (d+1);have aH:=Nat.mod_lt B (show 0<d+1 by omega);rw [←hf] at aA;generalize B % (d+1)=Bm at aA aH;have aC:(d+1)*f≤B:=by omega
 constructor
 ·have h2:b<(d+1)*B ^ n:=by rw [Nat.add_mul,Nat.one_mul,Nat.mul_comm d];omega
  have aD:0<f:=by
   rw [hf];exact Nat.div_pos (by omega) (by omega)
  have h3:b*f<(d+1)*B ^ n*f:=Nat.mul_lt_mul_of_pos_right h2 aD;have e:(d+1)*B ^ n*f=(d+1)*f*B ^ n:=by rw [Nat.mul_right_comm]
  have h4:(d+1)*f*B ^ n≤B*B ^ n:=Nat.mul_le_mul_right _ aC;rw [Nat.pow_succ,Nat.mul_comm (B ^ n)];omega
 ·have h2:d*f≤v1:=by
   rw [hv];refine (Nat.le_div_iff_mul_le hP).2 ?_;have h5:B ^ n*d*f≤b*f:=Nat.mul_le_mul_right _ (by omega);have e:d*f*B ^ n=B ^ n*d*f:=by rw [Nat.mul_comm,Nat.mul_assoc]
   omega
  have aD:0<f:=by
   rw [hf];exact Nat.div_pos (by omega) (by omega)
  obtain ⟨d',rfl⟩:∃ d',d=d'+1:=⟨d - 1,by omega⟩;obtain ⟨f',aI⟩:∃ f',f=f'+1:=⟨f - 1,by omega⟩;rw [aI] at aA h2;have h8:(d'+1)*(f'+1)=d'*f'+d'+f'+1:=by
   rw [Nat.add_mul,Nat.mul_add,Nat.mul_one,Nat.one_mul];omega
  rw [Nat.add_mul (d'+1) 1,Nat.one_mul,h8] at aA;rw [h8] at h2;omega
theorem znP (ws v u:List Nat) (i t x b d:Nat) (hl:ws.length=i) (hv:i<v.length) (hu:i<u.length)
  (h:val ws+t*val (v.take i)=val (u.take i)+B ^ i*b) (he:x+(t*v[i]+b)=u[i]+B*d) :
  val (ws++[x])+t*val (v.take (i+1))=val (u.take (i+1))+B ^ (i+1)*d:=by
 rw [zaL,zaT,hl,zat _ _ hu,zat _ _ hv,Nat.pow_succ];have e1:t*(val (v.take i)+B ^ i*v[i])=t*val (v.take i)+B ^ i*(t*v[i]):=by
  rw [Nat.mul_add,Nat.mul_left_comm]
 have e2:B ^ i*(x+(t*v[i]+b))=B ^ i*(u[i]+B*d):=by rw [he]
 rw [Nat.mul_add,Nat.mul_add,Nat.mul_add] at e2;rw [e1,Nat.mul_assoc];omega
theorem zod (ws2 ws v:List Nat) (i x c d:Nat) (hl:ws2.length=i) (hw:i<ws.length) (hv:i<v.length)
  (h:val ws2+B ^ i*c=val (ws.take i)+val (v.take i)) (he:x+B*d=ws[i]+v[i]+c) :
  val (ws2++[x])+B ^ (i+1)*d=val (ws.take (i+1))+val (v.take (i+1)):=by
 rw [zaL,zaT,hl,zat _ _ hw,zat _ _ hv,Nat.pow_succ];have e2:B ^ i*(x+B*d)=B ^ i*(ws[i]+v[i]+c):=by rw [he]
 rw [Nat.mul_add,Nat.mul_add,Nat.mul_add] at e2;rw [Nat.mul_assoc];omega
def mid {α:Type} (l:List α) (j:Nat) (ws:List α):List α:=l.take j++ws++l.drop (j+ws.length)
theorem zlB {α:Type} (l:List α) (j:Nat):mid l j []=l:=by simp [mid]
theorem zhS {α:Type} (l:List α) (j:Nat) (ws:List α) (h:j+ws.length≤l.length):(mid l j ws).length=l.length:=by
 simp [mid]
 omega
theorem zn8 {α:Type} (l:List α) (j:Nat) (ws:List α) (h:j+ws.length≤l.length):(mid l j ws)[j+ws.length]? = l[j+ws.length]? := by
 unfold mid;rw [List.getElem?_append_right (by simp;omega),List.getElem?_drop]
 congr 1
 simp
 omega
theorem zom {α:Type} (l:List α) (j:Nat) (ws:List α) (x : α) (h:j+ws.length<l.length):(mid l j ws).set (j+ws.length) x=mid l j (ws++[x]):=by
 unfold mid;have h1:(l.take j++ws).length=j+ws.length:=by simp;omega
 rw [List.set_append_right _ _ (by omega),h1,Nat.sub_self,List.drop_eq_getElem_cons h];simp only [List.set_cons_zero,List.length_append,List.length_cons,List.length_nil]
 simp [List.append_assoc,Nat.add_assoc]
theorem ziM {α:Type} (l:List α) (j:Nat) (ws:List α) (h:j≤l.length):(mid l j ws).take j=l.take j:=by
 unfold mid;rw [List.append_assoc,List.take_append_of_le_length (by simp;omega),List.take_take,Nat.min_self]
theorem zi2 {α:Type} (l:List α) (j:Nat) (ws:List α) (h:j≤l.length):(mid l j ws).drop j=ws++l.drop (j+ws.length):=by
 unfold mid;have h1:(l.take j).length=j:=by simp;omega
 rw [List.append_assoc,List.drop_append_of_le_length (by omega),List.drop_of_length_le (by omega),List.nil_append]
theorem zlG {α:Type} (l:List α) (j:Nat) (ws:List α) (h:j≤l.length):(mid l j ws).drop (j+ws.length)=l.drop (j+ws.length):=by
 rw [←List.drop_drop,zi2 l j ws h,List.drop_left]
theorem zkC {α β:Type} (f : α → β) (l:List α) (j:Nat) (ws:List α):(mid l j ws).map f=mid (l.map f) j (ws.map f):=by
 simp [mid,List.map_take,List.map_drop]
theorem zon {α:Type} (l:List α) (j:Nat) (ws ws2:List α) (h:j≤l.length) (hl:ws2.length=ws.length):mid (mid l j ws) j ws2=mid l j ws2:=by
 have h1:=ziM l j ws h;have h2:=zlG l j ws h;unfold mid at h1 h2 ⊢;rw [h1,hl,h2]
theorem zfy {α:Type} (l:List α) (j i:Nat) (ws:List α) (h:j≤l.length) (hi:i<ws.length):(mid l j ws)[j+i]? = ws[i]? := by
 unfold mid;rw [List.append_assoc,List.getElem?_append_right (by simp;omega),List.length_take,Nat.min_eq_left h,show j+i - j=i from by omega,List.getElem?_append_left hi]
theorem zoR {l ws:List Nat} {j:Nat} (h:Wf l) (k:Wf ws):Wf (mid l j ws):=((h.take j).append k).append (h.drop _)
theorem zor (l ws:List Nat) (j n:Nat) (hn:ws.length=n) (hj:j+n<l.length) (hz:val (l.drop (j+n+1))=0) :
  val ((mid l j (ws++[0])).drop j)=val ws∧val (mid l j (ws++[0]))=val (l.take j)+B ^ j*val ws:=by
 have hd:val ((mid l j (ws++[0])).drop j)=val ws:=by
  rw [zi2 _ _ _ (by omega),zaL,List.length_append,hn];have:val (l.drop (j+(n+[0].length)))=0:=hz;rw [this,zaL];simp
 refine ⟨hd,?_⟩;have hs:=zay (mid l j (ws++[0])) j (by rw [zhS _ _ _ (by simp;omega)];omega);rw [hd,ziM _ _ _ (by omega)] at hs;exact hs
theorem zku {t r k U V:Nat} (u v:List Nat) (hu:k+2<u.length) (hv:v.length=k+2) (hwu:Wf u) (hwv:Wf v) (hz:val (u.drop (k+3))=0)
  (eU:U=val u) (eV:V=val v) (hV1:1≤v[k+1]) (hUV:U<B*V)
  (hc:B≤r∨(t<B∧t*v[k]≤r*B+u[k])) (htr:t*v[k+1]+r=u[k+2]*B+u[k+1]) (hq:U / V≤t):t<B∧(t=U / V∨t=U / V+1):=by
 have h3:=zgw u k hu hz;have h2:=zgC v k hv;have hp:=zbo (hwu.take k);have aA:=zbo (hwv.take k);rw [List.length_take,Nat.min_eq_left (by omega)] at hp aA;rw [←eU] at h3;rw [←eV] at h2;have aC:=hwv.get (i:=k) (by omega);have hV:0<V:=by
  rcases Nat.eq_zero_or_pos V with h0 | h0
  ·rw [h0,Nat.mul_zero] at hUV;omega
  ·exact h0
 have aD:t<B:=by
  rcases hc with hc | hc
  ·refine zmH htr hc (znv (v2:=v[k]) (u2:=u[k]) (rest:=val (u.take k)) aA aC ?_)
   rw [←h3,←h2];exact hUV
  ·exact hc.1
 refine ⟨aD,zmk hV hq ?_⟩;have h5:=zpj (u2:=u[k]) (v2:=v[k]) (rest:=val (u.take k)) htr aD aC hV1 aA (hc.imp id (·.2))
 rw [←h3,←h2] at h5;exact h5
theorem zjA {t r k U V:Nat} (u v:List Nat) (hu:k+2<u.length) (hv:v.length=k+2) (hwu:Wf u) (hz:val (u.drop (k+3))=0)
  (eU:U=val u) (eV:V=val v) (hUV:U<B*V)
  (hc:B≤t∨r*B+u[k]<t*v[k]) (htr:t*v[k+1]+r=u[k+2]*B+u[k+1]):U / V≤t - 1∧1≤t:=by
 have h3:=zgw u k hu hz;have h2:=zgC v k hv;have hp:=zbo (hwu.take k);rw [List.length_take,Nat.min_eq_left (by omega)] at hp;rw [←eU] at h3;rw [←eV] at h2;have hV:0<V:=by
  rcases Nat.eq_zero_or_pos V with h0 | h0
  ·rw [h0,Nat.mul_zero] at hUV;omega
  ·exact h0
 have aA:U<t*V:=by
  rcases hc with hc | hc
  ·exact Nat.lt_of_lt_of_le hUV (Nat.mul_le_mul_right V hc)
  ·have h5:=zpl (rest:=val (u.take k)) (vr:=val (v.take k)) htr hc hp
   rw [←h3,←h2] at h5;exact h5
 refine ⟨znH hV aA,?_⟩
 rcases Nat.eq_zero_or_pos t with h0 | h0
 ·rw [h0,Nat.zero_mul] at aA;omega
 ·exact h0
theorem zis {k U V:Nat} (u v:List Nat) (hu:k+2<u.length) (hv:v.length=k+2) (hwu:Wf u) (hwv:Wf v) (hz:val (u.drop (k+3))=0)
  (eU:U=val u) (eV:V=val v) (hUV:U<B*V) (hbig:B≤2*v[k+1]+1) :
  U / V≤(u[k+2]*B+u[k+1]) / v[k+1]∧(u[k+2]*B+u[k+1]) / v[k+1]≤B+2∧1≤v[k+1]:=by
 have h3:=zgw u k hu hz;have h2:=zgC v k hv;have hp:=zbo (hwu.take k);have aC:=zbo (hwv.take k);rw [List.length_take,Nat.min_eq_left (by omega)] at hp aC;rw [←eU] at h3;rw [←eV] at h2;have aE:=hwv.get (i:=k) (by omega);have aD:=hwu.get (i:=k) (by omega);have aA:1≤v[k+1]:=by have:=zdP;unfold B at *; omega
 have h1:=zmG (top:=u[k+2]*B+u[k+1]) (v2:=v[k]) (rest:=val (u.take k)) (vr:=val (v.take k)) aA hp aD;rw [←h3,←h2] at h1;refine ⟨h1,?_,aA⟩;have h4:u[k+2]*B+u[k+1]≤B*v[k+1]+(B - 1):=by
  refine znv (v2:=v[k]) (u2:=u[k]) (rest:=val (u.take k)) aC aE ?_;rw [←h3,←h2];exact hUV
 have h5:(u[k+2]*B+u[k+1]) / v[k+1]<B+3:=by
  rw [Nat.div_lt_iff_lt_mul aA];have e:(B+3)*v[k+1]=B*v[k+1]+3*v[k+1]:=Nat.add_mul _ _ _;omega
 omega
end Go.Proofs.YteajibbphcfmeaaGreatDoor.Dn
namespace Go.Proofs.YteajibbphcfmeaaGreatDoor
open Go.RowKit Dn
set_option maxHeartbeats 2000000 in
set_option maxRecDepth 100000 in
theorem zjy (Au Av:Option Addr) (mu cu nv cv j k:Nat) (lu lv:List Nat) (w:World)
  (hu:zav w w.heap.size 1 Au mu (lu.map natv)) (hv:zav w w.heap.size 1 Av nv (lv.map natv)) (hwu:Wf lu) (hwv:Wf lv)
  (hn:nv=k+2) (hj:j+(k+2)<mu) (hmu:mu≤2097152) (hbig:∀ h:k+1<lv.length,B≤2*lv[k+1]+1)
  (hz:val (lu.drop (j+(k+3)))=0) (hUV:val (lu.drop j)<B*val lv) :
  Calls Tryz.prog 169 #[.slice Au mu cu,.slice Av nv cv,.int .i64 (j:Int)] w fun e w'=>(∃ t:Nat,e = .returned (.int .i64 (t:Int))∧t<B∧(t=val (lu.drop j) / val lv∨t=val (lu.drop j) / val lv+1))∧∃ q,w'=w.drewN q:=by
 obtain ⟨cW,bU,rfl,cV,bQ⟩:=hu.cellM (k:=j+(k+2)) (by omega);obtain ⟨_,bH,e9,_,bG⟩:=hu.cellM (k:=j+(k+1)) (by omega);injection e9 with e9;subst e9
 obtain ⟨_,bS,e9,_,bJ⟩:=hu.cellM (k:=j+k) (by omega);injection e9 with e9;subst e9
 obtain ⟨cR,bF,rfl,cZ,aF⟩:=hv.cellM (k:=k+1) (by omega);obtain ⟨_,bV,e9,_,bE⟩:=hv.cellM (k:=k) (by omega);injection e9 with e9;subst e9
 have aX:lv.length=k+2:=by rw [hv.lenM];exact hn
 have aU:k+2<(lu.drop j).length:=by rw [List.length_drop];omega
 have aS:val ((lu.drop j).drop (k+3))=0:=by rw [List.drop_drop];exact hz
 have aV:=hwu.drop j;have GS:=zis (lu.drop j) lv aU aX aV hwv aS rfl rfl hUV (hbig bF);have GE:=fun t r=>@zku t r k _ _ (lu.drop j) lv aU aX aV hwv aS rfl rfl GS.2.2 hUV
 have GL:=fun t r=>@zjA t r k _ _ (lu.drop j) lv aU aX aV aS rfl rfl hUV
 simp only [List.getElem_drop] at GS GE GL
 generalize val (lu.drop j) / val lv=Q at *;have ha:=hwu.get bU;have hb:=hwu.get bH;have hc:=hwu.get bS;have bT:=hwv.get bF;have bO:=hwv.get bV;unfold natv at bQ bG bJ aF bE;clear hbig hz hUV aS aV hwu hwv hu hv;generalize lu[j+(k+2)]=a at *;generalize lu[j+(k+1)]=b at *;generalize lu[j+k]=c at *;generalize lv[k+1]=v1 at *;generalize lv[k]=v2 at *;obtain ⟨jn,bW⟩:∃ jn,jn=j+(k+2):=⟨_,rfl⟩;obtain ⟨aO,aR⟩:∃ aO,aO=j+(k+1):=⟨_,rfl⟩;obtain ⟨aH,aN⟩:∃ aH,aH=j+k:=⟨_,rfl⟩;obtain ⟨k1,bR⟩:∃ k1,k1=k+1:=⟨_,rfl⟩;rw [←bW] at bQ;rw [←aR] at bG;rw [←aN] at bJ;rw [←bR] at aF;have cT:a<1000000000:=ha;have cS:b<1000000000:=hb;have cY:c<1000000000:=hc;have cO:v1<1000000000:=bT;have cL:v2<1000000000:=bO;obtain ⟨aA,aC⟩:∃ aA,aA=a*B+b:=⟨_,rfl⟩;rw [←aC] at GS;simp only [←aC] at GE GL
 obtain ⟨aB,bK⟩:∃ aB,aB=a*1000000000:=⟨_,rfl⟩;have aI:aA=aB+b:=by rw [aC,bK];rfl
 have bC:aA<1000000000000000000:=by omega
 obtain ⟨t0,aM⟩:∃ t0,t0=aA / v1:=⟨_,rfl⟩;obtain ⟨r0,aY⟩:∃ r0,r0=aA % v1:=⟨_,rfl⟩;rw [←aM] at GS;obtain ⟨bL,bM,cQ⟩:=GS;have cF:r0<v1:=by rw [aY];exact Nat.mod_lt _ cQ
 have aP:t0*v1+r0=aA:=by rw [aM,aY,Nat.mul_comm];exact Nat.div_add_mod _ _
 have aG:B=1000000000:=rfl;rw [aG] at bM;have f1:IntKind.i64.wrap ((j:Int)+(nv:Int))=(jn:Int):=by rw [IntWalk.i64_in _ (by omega)];omega
 have f2:IntKind.i64.wrap ((jn:Int) - 1)=(aO:Int):=by rw [IntWalk.i64_in _ (by omega)];omega
 have f3:IntKind.i64.wrap ((a:Int)*1000000000)=(aB:Int):=by rw [IntWalk.i64_in _ (by omega)];omega
 have f4:IntKind.i64.wrap ((aB:Int)+(b:Int))=(aA:Int):=by rw [IntWalk.i64_in _ (by omega)];omega
 have f5:IntKind.i64.wrap ((nv:Int) - 1)=(k1:Int):=by rw [IntWalk.i64_in _ (by omega)];omega
 have f6:IntKind.i64.wrap (Int.tdiv (aA:Int) (v1:Int))=(t0:Int):=by rw [Int.tdiv_eq_ediv_of_nonneg (by omega),←Int.natCast_ediv,←aM,IntWalk.i64_in _ (by omega)]
 have f7:Int.tmod (aA:Int) (v1:Int)=(r0:Int):=by rw [Int.tmod_eq_emod_of_nonneg (by omega),←Int.natCast_emod,←aY]
 have f8:Int.tdiv (aA:Int) (v1:Int)=(t0:Int):=by rw [Int.tdiv_eq_ediv_of_nonneg (by omega),←Int.natCast_ediv,←aM]
 have f9:IntKind.i64.wrap ((nv:Int) - 2)=(k:Int):=by rw [IntWalk.i64_in _ (by omega)];omega
 have cI:IntKind.i64.wrap ((jn:Int) - 2)=(aH:Int):=by rw [IntWalk.i64_in _ (by omega)];omega
 have bN:(nv:Int) - 1=(k1:Int):=by omega
 have z1:((v1:Int)==0)=false:=by rw [beq_eq_false_iff_ne];omega
 have bX:k1<2097152:=by omega
 have p1:(0:Int)≤(jn:Int):=by omega
 have p2:(jn:Int)<(mu:Int):=by omega
 have p3:(0:Int)≤(aO:Int):=by omega
 have p4:(aO:Int)<(mu:Int):=by omega
 have p5:(0:Int)≤(k1:Int):=by omega
 have p6:(k1:Int)<(nv:Int):=by omega
 have p7:(0:Int)≤(aH:Int):=by omega
 have p8:(aH:Int)<(mu:Int):=by omega
 have p9:(0:Int)≤(k:Int):=by omega
 have cU:(k:Int)<(nv:Int):=by omega
 have bP:=Lib.hid GE;have cC:=Lib.hid GL;have cH:=Lib.hid aP;have HN:=Lib.hid hn;have cP:=Lib.hid bN;have HQ:=Lib.hid bL;clear GE GL aP bW aR aN bR aC aI bK aM aY hn aX aG ha hb hc bT bO bU bH bS bF bV hj aU bN bL;go_enter Tryz.func169,Tryz.ntmps169
 go_upto_region 2 with (fail)
 go_quiet (fail)
 go_upto_region 3 with (fail)
 go_quiet (fail)
 clear f2 f3 f4 f5 f6 f7 f8;go_wp2
 go_loopg [9,10] t0 (fun q v9 cM W=>∃ t r:Nat,v9 = .int .i64 (t:Int)∧cM = .int .i64 (r:Int)∧t≤q∧t≤1000000002∧r<1000000000∧Hid (t*v1+r=aA∧Q≤t)∧∃ nq,W=w.drewN nq)
 case atStart=>exact ⟨t0,r0,rfl,rfl,Nat.le_refl _,bM,by omega,⟨cH.out,HQ.out⟩,by first | exact ⟨_,rfl⟩ | exact ⟨_,World.drewN_drewN _ _ _⟩⟩
 case round=>
  obtain ⟨t,r,rfl,rfl,hq,ht,hr,hv,nq,rfl⟩:=hrel;obtain ⟨rB,bB⟩:∃ rB,rB=r*1000000000:=⟨_,rfl⟩;obtain ⟨tp,aK⟩:∃ tp,tp=t*v2:=⟨_,rfl⟩;have aD:tp≤1000000002*999999999:=by rw [aK];exact Nat.mul_le_mul ht (by omega)
  have cG:tp<2000000000000000000:=Nat.lt_of_le_of_lt aD (by decide);obtain ⟨rc,aZ⟩:∃ rc,rc=rB+c:=⟨_,rfl⟩;have cA:IntKind.i64.wrap ((r:Int)*1000000000)=(rB:Int):=by rw [IntWalk.i64_in _ (by omega)];omega
  have cN:IntKind.i64.wrap ((t:Int)*(v2:Int))=(tp:Int):=by
   have e:(t:Int)*(v2:Int)=(tp:Int):=by rw [aK];exact (Int.natCast_mul t v2).symm
   rw [e,IntWalk.i64_in _ (by omega)]
  have cB:IntKind.i64.wrap ((rB:Int)+(c:Int))=(rc:Int):=by rw [IntWalk.i64_in _ (by omega)];omega
  have aT:=bP.out t r;have aW:=cC.out t r;have aG:B=1000000000:=rfl;have aE:r*B+c=rc:=by rw [aZ,bB];rfl
  rw [aE,←aK] at aT aW;have HV:=hv.out;have F9:=Lib.hid f9
  by_cases hex:t<1000000000∧tp≤rc
  ·obtain ⟨h1,h2⟩:=hex
   have d1:decide ((1000000000:Int)≤(t:Int))=false:=by simp;omega
   have d2:decide (rc<tp)=false:=by simp;omega
   have HR:=Lib.hid (aT (.inr ⟨h1,h2⟩) HV.1 HV.2);clear aT aW bB aK aD aZ aG aE HV;go_upto_region 4 with (fail)
   go_quiet (fail)
   go_wp2
   go_ret;exact ⟨⟨t,rfl,HR.out⟩,by first | exact ⟨_,rfl⟩ | exact ⟨_,World.drewN_drewN _ _ _⟩⟩
  ·have aJ:(decide ((1000000000:Int)≤(t:Int))=true)∨(decide ((1000000000:Int)≤(t:Int))=false∧decide (rc<tp)=true):=by
    simp only [decide_eq_true_eq,decide_eq_false_iff_not]
    omega
   obtain ⟨hQ,bY⟩:=aW (by rw [aG];omega) HV.1;obtain ⟨t',rfl⟩:∃ t',t=t'+1:=⟨t - 1,by omega⟩;obtain ⟨r',bZ⟩:∃ r',r'=r+v1:=⟨_,rfl⟩;have aL:t'*v1+r'=aA:=by
    have:=HV.1;rw [Nat.add_mul,Nat.one_mul] at this;omega
   have aQ:=bP.out t' r';have cE:=Lib.hid aQ;have bD:Hid (t'*v1+r'=aA∧Q≤t'):=⟨aL,by omega⟩;have et:((t'+1:Nat):Int) - 1=(t':Int):=by omega
   have er:(r:Int)+(v1:Int)=(r':Int):=by omega
   have cK:r'<2000000000:=by omega
   have bA:=cP.out;have cJ:=Lib.hid bA;generalize bC:t'+1=t9 at *;have bI:=Lib.hid bC;clear aT aW bB aK aD aZ aG aE HV aQ bZ aL hex hQ bY bA hv bC
   rcases aJ with d1 | ⟨d1,d2⟩
   all_goals
    go_upto_region 4 with (fail)
    go_quiet (fail)
    clear f1 f9 cI cA cN cB;have bA:=cJ.out
    first | rw [World.drewN_drewN] | skip
    generalize hW:w.drewN _=W;have c1:W.cell? (cR.add k1)=some (.int .i64 (v1:Int)):=by rw [←hW];exact aF
    have HW:Hid (∃ nq,W=w.drewN nq):=⟨_,hW.symm⟩;clear hW
    by_cases hlast:1000000000≤r'
    ·have d3:decide ((1000000000:Int)≤(r':Int))=true:=by simp;omega
     have HR:=Lib.hid (cE.out (.inl hlast) bD.out.1 bD.out.2);go_wp2
     go_ret;exact ⟨⟨t',rfl,HR.out⟩,HW.out⟩
    ·have d3:decide ((1000000000:Int)≤(r':Int))=false:=by simp;omega
     go_wp2
     go_roundg t'
     case measure=>have:=bI.out;omega
     case rel=>exact ⟨t',r',rfl,rfl,Nat.le_refl _,by have:=bI.out;omega,by omega,bD.out,HW.out⟩
end Go.Proofs.YteajibbphcfmeaaGreatDoor
