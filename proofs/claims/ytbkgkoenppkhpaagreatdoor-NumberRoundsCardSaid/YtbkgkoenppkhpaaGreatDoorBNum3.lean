/- Plain mathematics: the estimate of a quotient's word (Knuth), and the step of a long division. -/
import Derived.Test.YtbkgkoenppkhpaaGreatDoorBNat5
set_option maxRecDepth 100000
set_option maxHeartbeats 4000000
namespace Go.Proofs.YtbkgkoenppkhpaaGreatDoor.Bn
section
variable {b r2 r1 r0 d1 d0 q rest:Nat}
theorem zkT(hq:r2*b+r1=q*d1+rest)(_hb:0<b)(ht:min (b-1) (((r2*b+r1)*b+r0)/(d1*b+d0))≤q)(hlt:rest*b+r0<q*d0) :
  1≤q∧min (b-1) (((r2*b+r1)*b+r0)/(d1*b+d0))≤q-1:=by
 have _:=ht;have h1:1≤q:=by
  rcases Nat.eq_zero_or_pos q with rfl | h
  ·simp at hlt
  ·exact h
 refine⟨h1,Nat.le_trans (Nat.min_le_right _ _) ?_⟩;have:((r2*b+r1)*b+r0)/(d1*b+d0)<q:=by
  rcases Nat.eq_zero_or_pos (d1*b+d0) with h | h
  ·have:d0=0:=by omega
   subst this;simp at hlt
  ·rw[Nat.div_lt_iff_lt_mul h,hq,Nat.mul_add,Nat.add_mul,←Nat.mul_assoc]
   omega
 omega
theorem zh0(hq:r2*b+r1=q*d1+rest)(hb:0<b)(hd:0<d1)(hqb:q<b)(ht:min (b-1) (((r2*b+r1)*b+r0)/(d1*b+d0))≤q)(hle:q*d0≤rest*b+r0) :
  q=min (b-1) (((r2*b+r1)*b+r0)/(d1*b+d0)):=by
 refine Nat.le_antisymm (Nat.le_min.2 ⟨by omega,?_⟩) ht;have h0:0<d1*b+d0:=by have:=Nat.mul_pos hd hb;omega
 rw[Nat.le_div_iff_mul_le h0,hq,Nat.mul_add,Nat.add_mul,←Nat.mul_assoc];omega
theorem zmh(hq:r2*b+r1=q*d1+rest)(hb:0<b)(hd:0<d1)(hqb:q<b)(hd0:d0<b)(ht:min (b-1) (((r2*b+r1)*b+r0)/(d1*b+d0))≤q)(hr:b≤rest) :
  q=min (b-1) (((r2*b+r1)*b+r0)/(d1*b+d0)):=by
 refine zh0 hq hb hd hqb ht ?_;have h1:q*d0≤b*b:=Nat.mul_le_mul (by omega) (by omega);have h2:b*b≤rest*b:=Nat.mul_le_mul_right _ hr;omega
theorem znM(hq:r2*b+r1=q*d1+rest)(h1:1≤q):r2*b+r1=(q-1)*d1+(rest+d1):=by
 obtain⟨p,rfl⟩:∃ p,q=p+1:=⟨q-1,by omega⟩;rw[Nat.add_sub_cancel];rw[Nat.add_mul] at hq;omega
theorem zkb(hd:0<d1)(hr0:r0<b)(hq:q=(r2*b+r1)/d1):min (b-1) (((r2*b+r1)*b+r0)/(d1*b+d0))≤q:=by
 refine Nat.le_trans (Nat.min_le_right _ _) ?_;rw[hq];exact zgf hr0 rfl hd
end
theorem zpq(b m R D N3 D2 lr ld q:Nat)(hR:R=N3*m+lr)(hD:D=D2*m+ld)(hlr:lr<m)(hld:ld<m)(hD2:b≤D2)(hq:q=min (b-1) (N3/D2))(hlt:R<D*b)(hb:1<b) :
  R/D≤q∧q≤R/D+1:=by
 have hm:0<m:=by omega
 have aA:0<D:=by
  rw[hD];have:=Nat.mul_pos (show 0<D2 by omega) hm;omega
 constructor
 ·rw[hq]
  refine Nat.le_min.2 ⟨?_,?_⟩
  ·have:R/D<b:=by rw[Nat.div_lt_iff_lt_mul aA,Nat.mul_comm];exact hlt
   omega
  ·rw[Nat.le_div_iff_mul_le (by omega)]
   have h1:R/D*D≤R:=Nat.div_mul_le_self _ _;generalize R/D=t at *;rw[hD,hR,Nat.mul_add,←Nat.mul_assoc] at h1;have h2:t*D2*m<(N3+1)*m:=by rw[Nat.add_mul,Nat.one_mul];omega
   have:=Nat.lt_of_mul_lt_mul_right h2;omega
 ·have h1:q*D2≤N3:=by
   have:q≤N3/D2:=by rw[hq];exact Nat.min_le_right _ _
   exact(Nat.le_div_iff_mul_le (by omega)).1 this
  have h2:q≤b-1:=by rw[hq];exact Nat.min_le_left _ _
  rcases Nat.eq_zero_or_pos q with h0 | h0
  ·rw[h0];exact Nat.zero_le _
  have h3:q-1≤R/D:=by
   rw[Nat.le_div_iff_mul_le aA];have h4:q*ld≤D:=by
    have h5:q*ld≤b*m:=Nat.mul_le_mul (by omega) (by omega);have h6:b*m≤D2*m:=Nat.mul_le_mul_right _ hD2;omega
   have h7:q*D=q*D2*m+q*ld:=by rw[hD,Nat.mul_add,Nat.mul_assoc]
   have h8:q*D2*m≤N3*m:=Nat.mul_le_mul_right _ h1;have h9:(q-1)*D+D=q*D:=by
    obtain⟨p,rfl⟩:∃ p,q=p+1:=⟨q-1,by omega⟩;rw[Nat.add_sub_cancel,Nat.add_mul,Nat.one_mul]
   omega
  generalize R/D=t at *;clear hq;omega
end Go.Proofs.YtbkgkoenppkhpaaGreatDoor.Bn
namespace Go.Proofs.YtbkgkoenppkhpaaGreatDoor
open Go.RowKit Bn
theorem ze4(l:List Nat)(k x:Nat)(hk:k<l.length):(l.set k x).drop k=x :: l.drop (k+1):=by
 rw[List.drop_eq_getElem_cons (by simpa using hk),List.getElem_set_self,List.drop_set_of_lt (by omega)]
theorem zgs(l:List Nat)(k:Nat)(hk:k<l.length):l.drop k=l.getD k 0 :: l.drop (k+1):=by
 rw[List.drop_eq_getElem_cons hk,Bn.getD_in hk]
theorem zlL(ls la:List Nat)(k q r rest b:Nat)(hk:k<ls.length)(hk':k<la.length)(hinv:val (ls.drop (k+1))*b+rest=val (la.drop (k+1)))
 (hd:rest*18446744073709551616+la.getD k 0=q*b+r):val ((ls.set k q).drop k)*b+r=val (la.drop k):=by
 rw[ze4 ls k q hk,zgs la k hk',val_cons,val_cons,←hinv,Nat.add_mul,Nat.mul_add,Nat.mul_assoc];have e:B*rest=rest*18446744073709551616:=Nat.mul_comm _ _;rw[e];generalize B*(val (ls.drop (k+1))*b)=t;omega
theorem zbb(A:Option Addr)(n c x b:Nat)(w:World)(ha:NatS w w.heap.size A n c x)(hn:n≤1099511627776)(hb0:0<b)(hb:b<18446744073709551616) :
  Calls Tryz.prog 186 #[.slice A n c,.int .u64 b] w fun e w'=>∃ m c',e = .returned (.tuple #[.slice (some ⟨w.heap.size,0,none⟩) m c',.int .u64 ((x%b:Nat):Int)])∧zav w' w.heap.size w.heap.size m c' (digs (x/b))∧Below w.heap.size w w':=by
 obtain⟨i0,aO,aN,aS,aQ⟩:=info_parts zct;have hA:=Aa ha.len;have h1:=ha.nc;have h2:=ha.cm;unfold maxLen at h2;go_enter Tryz.func186,Tryz.ntmps186
 go_wp2_with (at_make;refine wpList_make_full _ rfl _ _ 85 rfl w.heap.size 116 i0 (.int .u64 0) 1 Tryz.underlying85 aO aN aS _ _ _ _ n rfl rfl (by omega) (by omega) ?b2 ?b3 (Nat.le_refl _) ?_)
 case b2=>rw[aQ];omega
 case b3=>unfold maxLen;omega
 intro w0 aF aD;have aJ:Below w.heap.size w w0:=(Below.refl _ _).grown aD (Nat.le_refl _) (fun k h=>by cases h);have aK:=zav.made aF;clear aF aD;go_wp2
 go_loopw [7,8] (fun rs s wr=>∃ (k aA:Nat) (i:Int),i=(k:Int)-1∧k≤n∧aA<b∧s = .int .i64 i∧rs = .int .u64 aA∧∃ ls,zav wr w.heap.size w.heap.size n n ls∧Wf ls∧Hid (val (ls.drop k)*b+aA=val ((digs x).drop k))∧Below w.heap.size w wr) (fun _ s _=>(intOf s+1).toNat)
 case atStart=>
  refine⟨n,0,_,rfl,Nat.le_refl _,hb0,rfl,rfl,_,aK,Wf.replicate _,?_,aJ⟩;rw[Hid,List.drop_of_length_le (by simp),List.drop_of_length_le (by rw[hA.out];exact Nat.le_refl _)];simp
 case round=>
  obtain⟨k,aA,i,hi,hk,aC,rfl,rfl,ls,aE,aM,aH,aG⟩:=hrel;have HI:=Aa hi
  by_cases hk0:0<k
  ·obtain⟨j,rfl⟩:∃ j,k=j+1:=⟨k-1,by omega⟩
   obtain rfl:i=(j:Int):=by omega
   clear hi HI;obtain⟨ad,rfl,aW,aP⟩:=(ha.below aG).words.word (k:=j) (by omega);have aL:=zaH (zaq x) j;obtain⟨z,hg⟩:∃ z,(digs x).getD j 0=z:=⟨_,rfl⟩;rw[hg] at aP aL;have aU:=aE.cell j (by omega);have aV:=aE.free j;generalize ls.getD j 0=old at aU;obtain⟨q,r,hd,hr,hq,aI⟩:=ziM aA z b wr aC aL hb;have HP:Hid (val ((ls.set j q).drop j)*b+r=val ((digs x).drop j)):=
    zlL ls (digs x) j q r aA b (by rw[aE.len];omega) (by rw[hA.out];omega) aH.out (by rw[hg];exact hd)
   clear hd hg
   go_wp2_with fail
   refine aI.mono ?_;rintro e w' ⟨rfl,kq,rfl⟩;go_wp2
   go_roundw
   case rel=>exact⟨j,r,(j:Int)-1,rfl,by omega,hr,by go_num,rfl,_,(aE.drewN kq).set j q,aM.set _ hq,HP,(zad aG kq).setCell (Nat.le_refl _) _⟩
   case measure=>simp[intOf]<;>omega
  ·obtain rfl:k=0:=by omega
   have aT:i<0:=by omega
   have hv:val ls=x/b∧aA=x%b:=by
    have h:=aH.out;rw[List.drop_zero,List.drop_zero,zak] at h;rw[←h,Nat.mul_comm,Nat.mul_add_div hb0,Nat.div_eq_of_lt aC,Nat.mul_add_mod,Nat.mod_eq_of_lt aC];exact⟨rfl,rfl⟩
   have ht:=zb8 w.heap.size w.heap.size n n ls wr aE aM;rw[hv.1] at ht;have HC:=Aa ht;have HR:=Aa hv.2;clear ht hv hi
   go_wp2_with fail
   refine HC.out.mono ?_;rintro e w1 ⟨m,rfl,aR,rfl⟩;go_wp2
   go_ret2
   exact⟨m,n,by rw[←HR.out];rfl,aR,aG⟩
theorem zit(r2 r1 r0 d1 d0:Nat)(w:World)(h2:r2≤d1)(h1:r1<18446744073709551616)(h0:r0<18446744073709551616)(hd1:d1<18446744073709551616)(hd0:d0<18446744073709551616)(hd:0<d1) :
  Calls Tryz.prog 217 #[.int .u64 r2,.int .u64 r1,.int .u64 r0,.int .u64 d1,.int .u64 d0] w fun e w'=>e = .returned (.int .u64 ((min (B-1) (((r2*B+r1)*B+r0)/(d1*B+d0)):Nat):Int))∧∃ k,w'=w.drewN k:=by
 obtain⟨T,hT⟩:∃ v,v=min (B-1) (((r2*B+r1)*B+r0)/(d1*B+d0)):=⟨_,rfl⟩;have HT:=Aa hT;rw[←hT];clear hT;go_enter Tryz.func217,Tryz.ntmps217
 go_upto_if 18 with(fail)
 go_cut [11,12,13] (fun a b c wc=>∃ q rest k cy:Nat,a = .int .u64 (q:Int)∧b = .int .u64 (rest:Int)∧c = .int .u64 (cy:Int)∧q<18446744073709551616∧rest<18446744073709551616∧cy≤1∧Hid (r2*B+r1=q*d1+(rest+B*cy))∧Hid (T≤q)∧wc=w.drewN k)
 case first=>
  by_cases hlt:r2<d1
  ·have hd:decide ((r2:Int)<(d1:Int))=true:=by rw[decide_eq_true_iff];omega
   obtain⟨q,r,aP,hr,hq,aA⟩:=ziM r2 r1 d1 w hlt h1 hd1;have HQ:=Aa aP;clear aP
   go_wp2_with fail
   refine aA.mono ?_;rintro e w' ⟨rfl,kq,rfl⟩
   go_wp2_with fail
   go_meet
   refine⟨q,r,kq,0,rfl,rfl,rfl,hq,by omega,by omega,?_,?_,rfl⟩
   ·rw[Hid,Nat.mul_zero,Nat.add_zero];exact HQ.out
   ·rw[Hid,HT.out]
    refine zkb (by omega) h0 ?_;have e:=HQ.out;show q=(r2*18446744073709551616+r1)/d1
    rw[e,Nat.mul_comm,Nat.mul_add_div (by omega),Nat.div_eq_of_lt hr,Nat.add_zero]
  ·obtain rfl:r2=d1:=by omega
   obtain⟨s,cy,hs,aI,aH,aD⟩:=zb5 r1 r2 0 h1 hd1 (by omega)
   replace aD:∀ w:World,(callFunc 203 #[.int .u64 r1,.int .u64 r2,.int .u64 0]).run Tryz.prog w = .ok (.value (.tuple #[.int .u64 s,.int .u64 cy])) w:=aD
   have HS:=Aa hs;clear hs hlt
   go_wp2_with fail
   go_meet
   refine⟨18446744073709551615,s,0,cy,rfl,rfl,rfl,by omega,aI,aH,?_,?_,rfl⟩
   ·rw[Hid]
    have e:=HS.out;have e2:B*cy=18446744073709551616*cy:=rfl;have e3:r2*B=18446744073709551615*r2+r2:=by
     have:B=18446744073709551615+1:=rfl;rw[this,Nat.mul_add,Nat.mul_comm,Nat.mul_one]
    rw[e2,e3];generalize 18446744073709551615*r2=t;omega
   ·rw[Hid,HT.out];exact Nat.min_le_left _ _
 case rest=>
  obtain⟨q,rest,k,cy,rfl,rfl,rfl,hq,aC,aN,HQ,aF,rfl⟩:=hcut
  go_wp2_with fail
  go_loop [11,12,13] (fun a b c=>∃ q rest cy:Nat,a = .int .u64 (q:Int)∧b = .int .u64 (rest:Int)∧c = .int .u64 (cy:Int)∧q<18446744073709551616∧rest<18446744073709551616∧cy≤1∧Hid (r2*B+r1=q*d1+(rest+B*cy))∧Hid (T≤q)) (fun a _ _=>(intOf a).toNat)
  case atStart=>exact⟨q,rest,cy,rfl,rfl,rfl,hq,aC,aN,HQ,aF⟩
  case round=>
   clear HQ aF hq aC aN;obtain⟨q,rest,cy,rfl,rfl,rfl,hq,aC,aN,HQ,aF⟩:=hrel
   by_cases hc0:cy=0
   ·subst hc0
    have aE:r2*B+r1=q*d1+rest:=by have h:=HQ.out;rwa [Nat.mul_zero,Nat.add_zero] at h
    obtain⟨hi,lo,hm,aS,aU,aA⟩:=zhi q d0 hq hd0;have em:lo+18446744073709551616*hi=hi*B+lo:=by
     have e:hi*B=18446744073709551616*hi:=Nat.mul_comm _ _;omega
    rw[em] at hm;clear em
    by_cases ha:hi<rest
    ·have aT:decide ((hi:Int)<(rest:Int))=true:=by rw[decide_eq_true_iff];omega
     have aM:hi*B+lo≤rest*B+r0:=by
      have h5:(hi+1)*B≤rest*B:=Nat.mul_le_mul_right _ ha;rw[Nat.add_mul,Nat.one_mul] at h5;have:lo<B:=aS;omega
     have HB:Hid (q=T):=by
      rw[Hid,HT.out];exact zh0 (b:=B) aE zaS hd hq (by rw[←HT.out];exact aF.out) (by rw[←hm];exact aM)
     clear hm aE
     go_wp2_with fail
     refine(aA _).mono ?_;rintro e w' ⟨rfl,rfl⟩;go_wp2
     go_ret;exact⟨by rw[←HB.out];rfl,k,rfl⟩
    ·have aT:decide ((hi:Int)<(rest:Int))=false:=by rw[decide_eq_false_iff_not];omega
     by_cases hb:hi=rest
     ·have aR:((hi:Int)==(rest:Int))=true:=by rw[beq_iff_eq];omega
      by_cases hc:lo≤r0
      ·have aH:decide ((lo:Int)≤(r0:Int))=true:=by rw[decide_eq_true_iff];omega
       have aM:hi*B+lo≤rest*B+r0:=by rw[hb];omega
       clear hb;have HB:Hid (q=T):=by
        rw[Hid,HT.out];exact zh0 (b:=B) aE zaS hd hq (by rw[←HT.out];exact aF.out) (by rw[←hm];exact aM)
       clear hm aE
       go_wp2_with fail
       refine(aA _).mono ?_;rintro e w' ⟨rfl,rfl⟩;go_wp2
       go_ret;exact⟨by rw[←HB.out];rfl,k,rfl⟩
      ·have aH:decide ((lo:Int)≤(r0:Int))=false:=by rw[decide_eq_false_iff_not];omega
       have aO:rest*B+r0<hi*B+lo:=by rw[hb];omega
       clear hb;have aJ:rest*B+r0<q*d0:=by rw[←hm];exact aO
       obtain⟨aK,aG⟩:=zkT (b:=B) (r2:=r2) (r1:=r1) (r0:=r0) (d1:=d1) aE zaS (by rw[←HT.out];exact aF.out) aJ;rw[←HT.out] at aG;have HD:=Aa (znM aE aK);have aL:=Aa aG;obtain⟨s,c',hs,aI,aQ,aD⟩:=zb5 rest d1 0 aC hd1 (by omega)
       replace aD:∀ w:World,(callFunc 203 #[.int .u64 rest,.int .u64 d1,.int .u64 0]).run Tryz.prog w = .ok (.value (.tuple #[.int .u64 s,.int .u64 c'])) w:=aD
       have HV:Hid (Value.int .u64 ((q:Int)-1)=Value.int .u64 ((q-1:Nat):Int)):=by unfold Hid;congr 1;omega
       have HS:Hid (rest+d1=s+B*c'):=by unfold Hid;have e:B*c'=18446744073709551616*c':=rfl;rw[e];omega
       clear hs aG hm aJ aE
       go_wp2_with fail
       refine(aA _).mono ?_;rintro e w' ⟨rfl,rfl⟩
       go_wp2_with fail
       go_round
       case rel=>exact⟨q-1,s,c',HV.out,rfl,rfl,by omega,aI,aQ,by rw[Hid,←HS.out];exact HD.out,aL.out⟩
       case measure=>simp[intOf]<;>omega
     ·have aR:((hi:Int)==(rest:Int))=false:=by rw[beq_eq_false_iff_ne];omega
      have aO:rest*B+r0<hi*B+lo:=by
       have h5:(rest+1)*B≤hi*B:=Nat.mul_le_mul_right _ (by omega);rw[Nat.add_mul,Nat.one_mul] at h5;have:r0<B:=h0;omega
      have aJ:rest*B+r0<q*d0:=by rw[←hm];exact aO
      obtain⟨aK,aG⟩:=zkT (b:=B) (r2:=r2) (r1:=r1) (r0:=r0) (d1:=d1) aE zaS (by rw[←HT.out];exact aF.out) aJ;rw[←HT.out] at aG;have HD:=Aa (znM aE aK);have aL:=Aa aG;obtain⟨s,c',hs,aI,aH,aD⟩:=zb5 rest d1 0 aC hd1 (by omega)
      replace aD:∀ w:World,(callFunc 203 #[.int .u64 rest,.int .u64 d1,.int .u64 0]).run Tryz.prog w = .ok (.value (.tuple #[.int .u64 s,.int .u64 c'])) w:=aD
      have HV:Hid (Value.int .u64 ((q:Int)-1)=Value.int .u64 ((q-1:Nat):Int)):=by unfold Hid;congr 1;omega
      have HS:Hid (rest+d1=s+B*c'):=by unfold Hid;have e:B*c'=18446744073709551616*c':=rfl;rw[e];omega
      clear hs aG hm aJ aE
      go_wp2_with fail
      refine(aA _).mono ?_;rintro e w' ⟨rfl,rfl⟩
      go_wp2_with fail
      go_round
      case rel=>exact⟨q-1,s,c',HV.out,rfl,rfl,by omega,aI,aH,by rw[Hid,←HS.out];exact HD.out,aL.out⟩
      case measure=>simp[intOf]<;>omega
   ·obtain rfl:cy=1:=by omega
    have HB:Hid (q=T):=by
     rw[Hid,HT.out];refine zmh (b:=B) (r2:=r2) (r1:=r1) (rest:=rest+B) ?_ zaS hd hq hd0 (by rw[←HT.out];exact aF.out) (Nat.le_add_left _ _);have h:=HQ.out
     rwa [Nat.mul_one] at h
    go_wp2
    go_ret;exact⟨by rw[←HB.out];rfl,k,rfl⟩
theorem drop_set(l:List Nat)(o k x:Nat):(l.set (o+k) x).drop o=(l.drop o).set k x:=by
 rw[List.drop_set];rw[if_neg (by omega)]
 congr 1
 omega
theorem zcW(l:List Nat)(o k:Nat):(l.drop o).getD k 0=l.getD (o+k) 0:=by simp[List.getD,List.getElem?_drop]
theorem zly(l' l d:List Nat)(k q p r c b c' b':Nat)(hk:k<l'.length)(hinv:val (l'.take k)+q*val (d.take k)=val (l.take k)+B^k*(c+b))
 (h1:p+B*c'=q*d.getD k 0+c)(h2:r+p+b=l.getD k 0+B*b') :
  val ((l'.set k r).take (k+1))+q*val (d.take (k+1))=val (l.take (k+1))+B^(k+1)*(c'+b'):=by
 rw[zaK l' k r hk,zag d,zag l,Nat.pow_succ,Nat.mul_add q,Nat.mul_assoc];have h3:B^k*r+B^k*(q*d.getD k 0)+B^k*(c+b)=B^k*l.getD k 0+B^k*(B*(c'+b')):=by
  rw[←Nat.mul_add,←Nat.mul_add,←Nat.mul_add]
  congr 1
  rw[Nat.mul_add];omega
 have h4:q*(B^k*d.getD k 0)=B^k*(q*d.getD k 0):=Nat.mul_left_comm _ _ _;rw[h4];omega
theorem zo3(l' l:List Nat)(n q D r c b b':Nat)(hk:n<l'.length)(hinv:val (l'.take n)+q*D=val (l.take n)+B^n*(c+b))
 (h2:r+c+b=l.getD n 0+B*b'):val ((l'.set n r).take (n+1))+q*D=val (l.take (n+1))+B^(n+1)*b':=by
 rw[zaK l' n r hk,zag l,Nat.pow_succ,Nat.mul_assoc];have h3:B^n*r+B^n*(c+b)=B^n*l.getD n 0+B^n*(B*b'):=by
  rw[←Nat.mul_add,←Nat.mul_add]
  congr 1
  omega
 omega
theorem znq(R D q V p:Nat)(hD:0<D)(h:V+q*D=R+p*0)(h1:R/D≤q):q=R/D∧V=R%D:=by
 have hq:q≤R/D:=by rw[Nat.le_div_iff_mul_le hD];omega
 have e:q=R/D:=Nat.le_antisymm hq h1;refine⟨e,?_⟩;have h3:=Nat.div_add_mod R D;rw[Nat.mul_comm,←e] at h3;omega
theorem zmg(R D q V p F c t d0:Nat)(hD:0<D)(hDp:D≤p)(h:V+q*D=R+p)(hV:V<p)(h2:q≤R/D+1)(hF:F<p)(hc:F+p*c=V+D):q-1=R/D∧1≤q∧F=R%D:=by
 have _:=t;have _:=d0;have h3:R<q*D:=by omega
 have h4:R/D<q:=by rw[Nat.div_lt_iff_lt_mul hD];exact h3
 have e:q=R/D+1:=by omega
 have h5:=Nat.div_add_mod R D;rw[Nat.mul_comm] at h5;have h6:=Nat.mod_lt R hD;have h7:q*D=R/D*D+D:=by rw[e,Nat.add_mul,Nat.one_mul]
 generalize R/D=a at *;generalize R%D=b at *;generalize a*D=ad at *;generalize q*D=qd at *;refine⟨by omega,by omega,?_⟩;have h8:F+p*c=b+p:=by omega
 rcases Nat.lt_or_ge 0 c with aC | aC
 ·have h9:p*1≤p*c:=Nat.mul_le_mul_left _ aC
  rcases Nat.lt_or_ge 1 c with aA | aA
  ·have aD:p*2≤p*c:=Nat.mul_le_mul_left _ aA
   omega
  ·obtain rfl:c=1:=by omega
   omega
 ·obtain rfl:c=0:=by omega
  omega
theorem zoO(l4 l3:List Nat)(k r cc x e D:Nat)(hk:k<l4.length)(hr:l3.getD k 0=r)(hx:x+B*e=r+cc)
 (hinv:val (l4.take k)+B^k*cc=val (l3.take k)+D):val ((l4.set k x).take (k+1))+B^(k+1)*e=val (l3.take (k+1))+D:=by
 rw[zaK l4 k x hk,zag l3,hr,Nat.pow_succ,Nat.mul_assoc];have h3:B^k*x+B^k*(B*e)=B^k*r+B^k*cc:=by rw[←Nat.mul_add,←Nat.mul_add,hx]
 omega
theorem zqh{l:List Nat}(hw:Wf l)(o k:Nat)(h:o+k<l.length):val ((l.drop o).take (k+1))<B^(k+1):=by
 have:=zbA ((hw.drop o).take (k+1))
 rwa [List.length_take,List.length_drop,Nat.min_eq_left (by omega)] at this
theorem zgW(A:Option Addr)(base g o N C n c c' D:Nat)(ls:List Nat)(w:World)(hrow:zav w base g N C ls)(hwf:Wf ls)(ha:NatS w w.heap.size A n c' D)(hoff:0<n→Off A g)(hn2:2≤n)(hn:n≤1099511627776)
 (hoN:o+n+1≤N)(hlt:val ((ls.drop o).take (n+1))<D*B) :
  Calls Tryz.prog 188 #[.slice (some ⟨g,o,none⟩) (n+1) c,.slice A n c'] w fun e w'=>e = .returned (.int .u64 ((val ((ls.drop o).take (n+1))/D:Nat):Int)) ∧
   ∃ ls',zav w' base g N C ls'∧Wf ls'∧val ((ls'.drop o).take (n+1))=val ((ls.drop o).take (n+1))%D∧(∀ j,j<o∨o+n+1≤j→ls'.getD j 0=ls.getD j 0)∧w.grownBy w' (some g):=by
 have hA:=Aa ha.len;have h1:=ha.nc;have h2:=ha.cm;unfold maxLen at h2;obtain⟨ad,rfl,dH,cI⟩:=ha.words.word (k:=n-1) (by omega);obtain⟨dK,e',_,bY⟩:=ha.words.word (k:=n-2) (by omega);injection e' with e'
 subst e';have cN:=hrow.cell (o+n) (by omega);have cF:=hrow.cell (o+(n-1)) (by omega);have cH:=hrow.cell (o+(n-2)) (by omega);obtain⟨R,hR⟩:∃ v,v=val ((ls.drop o).take (n+1)):=⟨_,rfl⟩;rw[←hR] at hlt ⊢;have cO:ls.length=N:=hrow.len;have cJ:0<D:=by
  rcases Nat.eq_zero_or_pos D with rfl | h
  ·have:=ha.len
   rw[zal] at this;simp at this
   omega
  ·exact h
 have bS:=zaH (zaq D) (n-1);have bF:=zaH (zaq D) (n-2);have bX:=zaH hwf (o+n);have bL:=zaH hwf (o+(n-1));have bN:=zaH hwf (o+(n-2));have aI:0<(digs D).getD (n-1) 0:=by
  have:=zdc D (by rw[hA.out];omega);rw[Bn.getD_in (by rw[hA.out];omega)];simp only[hA.out] at this
  omega
 have eD:D=((digs D).getD (n-1) 0*B+(digs D).getD (n-2) 0)*B^(n-2)+val ((digs D).take (n-2)):=by
  have h:=zag (digs D) (n-1);rw[show n-1+1=n from by omega,List.take_of_length_le (by rw[hA.out];exact Nat.le_refl _),zak,show n-1=n-2+1 from by omega,zag,←show n-1=n-2+1 from by omega] at h;rw[Nat.add_mul,Nat.mul_assoc,←Nat.pow_succ',show(n-2).succ=n-1 from by omega,Nat.mul_comm _ (B^(n-1)),Nat.mul_comm _ (B^(n-2))];omega
 have eR:R=((ls.getD (o+n) 0*B+ls.getD (o+(n-1)) 0)*B+ls.getD (o+(n-2)) 0)*B^(n-2)+val ((ls.drop o).take (n-2)):=by
  have h:=zag (ls.drop o) n;have h':=zag (ls.drop o) (n-1);have bW:=zag (ls.drop o) (n-2);rw[show n-1+1=n from by omega] at h';rw[show n-2+1=n-1 from by omega] at bW;rw[h',bW,zcW,zcW,zcW] at h;rw[hR,h,Nat.add_mul,Nat.add_mul,Nat.add_mul];have e1:B*B^(n-2)=B^(n-1):=by rw[←Nat.pow_succ',show(n-2).succ=n-1 from by omega]
  have e2:B*B^(n-1)=B^n:=by rw[←Nat.pow_succ',show(n-1).succ=n from by omega]
  rw[Nat.mul_assoc _ B (B^(n-2)),e1,Nat.mul_assoc (ls.getD (o+n) 0) B,e2,Nat.mul_assoc (ls.getD (o+(n-1)) 0) B,e1,Nat.mul_comm _ (B^n),Nat.mul_comm _ (B^(n-1)),Nat.mul_comm _ (B^(n-2))];omega
 obtain⟨r2,bP⟩:∃ v,ls.getD (o+n) 0=v:=⟨_,rfl⟩;obtain⟨r1,bT⟩:∃ v,ls.getD (o+(n-1)) 0=v:=⟨_,rfl⟩;obtain⟨r0,bV⟩:∃ v,ls.getD (o+(n-2)) 0=v:=⟨_,rfl⟩;obtain⟨d1,bR⟩:∃ v,(digs D).getD (n-1) 0=v:=⟨_,rfl⟩;obtain⟨d0,bO⟩:∃ v,(digs D).getD (n-2) 0=v:=⟨_,rfl⟩;rw[bP,bT,bV] at eR;rw[bR,bO] at eD;rw[bP] at cN bX;rw[bT] at cF bL;rw[bV] at cH bN;rw[bR] at cI bS aI;rw[bO] at bY bF;have cG:val ((ls.drop o).take (n-2))<B^(n-2):=by
  have:=zbA ((hwf.drop o).take (n-2))
  rwa [List.length_take,List.length_drop,Nat.min_eq_left (by omega)] at this
 have cL:val ((digs D).take (n-2))<B^(n-2):=by
  have:=zbA ((zaq D).take (n-2))
  rwa [List.length_take,Nat.min_eq_left (by rw[hA.out];omega)] at this
 have cA:B≤d1*B+d0:=by
  have:1*B≤d1*B:=Nat.mul_le_mul_right _ aI;omega
 have aK:r2≤d1:=by
  have hm:=Nat.pow_pos (n:=n-2) zaS
  rcases Nat.lt_or_ge d1 r2 with h | h
  ·exfalso
   have k1:D<(d1+1)*B*B^(n-2):=by
    rw[eD];have:(d1*B+d0+1)*B^(n-2)≤(d1+1)*B*B^(n-2):=Nat.mul_le_mul_right _ (by rw[Nat.add_mul];have:d0<B:=bF;omega);rw[Nat.add_mul,Nat.one_mul] at this;omega
   have k2:D*B≤(d1+1)*B*B^(n-2)*B:=Nat.mul_le_mul_right _ (Nat.le_of_lt k1);have k3:(d1+1)*B*B^(n-2)*B≤R:=by
    rw[eR];have:(d1+1)*B*B*B^(n-2)≤((r2*B+r1)*B+r0)*B^(n-2):=Nat.mul_le_mul_right _ (by
     have k4:(d1+1)*B≤r2*B:=Nat.mul_le_mul_right _ h;have k5:(d1+1)*B*B≤(r2*B+r1)*B:=Nat.mul_le_mul_right _ (by omega);omega)
    rw[Nat.mul_assoc _ (B^(n-2)),Nat.mul_comm (B^(n-2)) B,←Nat.mul_assoc];omega
   omega
  ·exact h
 obtain⟨q,hq⟩:∃ q,q=min (B-1) (((r2*B+r1)*B+r0)/(d1*B+d0)):=⟨_,rfl⟩;obtain⟨g1,g2⟩:=zpq B (B^(n-2)) R D _ _ _ _ q eR eD cG cL cA hq hlt zey;have cW:q<18446744073709551616:=by
  have h5:q≤B-1:=by rw[hq];exact Nat.min_le_left _ _
  exact Nat.lt_of_le_of_lt h5 (Nat.sub_lt zaS Nat.one_pos)
 have aW:∀ W:World,Calls Tryz.prog 217 #[.int .u64 r2,.int .u64 r1,.int .u64 r0,.int .u64 d1,.int .u64 d0] W fun e w'=>e = .returned (.int .u64 (q:Int))∧∃ k,w'=W.drewN k:=fun W=>by
  rw[hq];exact zit r2 r1 r0 d1 d0 W aK bL bN bS bF aI
 have HE:=Aa aW;have dA:=Aa g1;have cV:=Aa g2;have HR:=Aa hR;clear aW g1 g2 hq eR eD cG cL cA hR bP bT bV bR bO hlt aK;have i1:(n:Int)<(n:Int)+1:=by omega
 go_enter Tryz.func188,Tryz.ntmps188
 go_wp2
 go_quiet ((go_at_call 217;first | exact zf6 (HE.out _) | exact zgI (HE.out _)))
 go_wp2_with fail
 have bM:=Aa hrow;have dD:=Aa hwf;have dG:Hid (val ((ls.drop o).take n)+B^n*ls.getD (o+n) 0=R):=by
  have h:=zag (ls.drop o) n;rw[zcW,←HR.out] at h;exact h.symm
 clear cN cF cH cI bY bS bF bX bL bN aI i1
 go_loopw [7,8,43] (fun cy bo s wr=>∃ k cc bb:Nat,k≤n∧cc<18446744073709551616∧bb≤1∧s = .int .i64 k∧cy = .int .u64 cc∧bo = .int .u64 bb∧∃ l2,zav wr base g N C l2∧Wf l2∧Hid (val ((l2.drop o).take k)+q*val ((digs D).take k)=val ((ls.drop o).take k)+B^k*(cc+bb))∧Hid (∀ j,j<o∨o+k≤j→l2.getD j 0=ls.getD j 0)∧w.grownBy wr (some g)) (fun _ _ s _=>n-(intOf s).toNat)
 case atStart=>exact⟨0,0,0,by omega,by omega,by omega,rfl,rfl,rfl,ls,bM.out,dD.out,by simp[Hid],fun j _=>rfl,zlU (World.grownBy.refl w _) _⟩
 case round=>
  obtain⟨k,cc,bb,hk,cE,cC,rfl,rfl,rfl,l2,aA,aF,aS,aD,bG⟩:=hrel
  by_cases hkn:k<n
  ·obtain⟨cR,e2,_,bU⟩:=(ha.kept bG hoff).words.word (k:=k) hkn
   injection e2 with e2
   subst e2;have aX:=zaH (zaq D) k;obtain⟨dk,aP⟩:∃ v,(digs D).getD k 0=v:=⟨_,rfl⟩;rw[aP] at bU aX;have aL:=aA.cell (o+k) (by omega);have bI:=aA.free (o+k);have aY:=zaH aF (o+k);obtain⟨z,gz⟩:∃ v,l2.getD (o+k) 0=v:=⟨_,rfl⟩;rw[gz] at aL aY;obtain⟨p,bH,t1,hp,bQ,aH⟩:=zdA q dk cc 0 cW aX cE (by omega)
   replace aH:∀ w:World,Calls Tryz.prog 156 #[.int .u64 q,.int .u64 dk,.int .u64 cc,.int .u64 0] w fun e w'=>e = .returned (.tuple #[.int .u64 (p:Int),.int .u64 (bH:Int)])∧w=w':=aH
   obtain⟨r,aM,t2,hr,bC,aU⟩:=zfo z p bb aY hp cC;have HP:Hid (val (((l2.set (o+k) r).drop o).take (k+1))+q*val ((digs D).take (k+1))=val ((ls.drop o).take (k+1))+B^(k+1)*(bH+aM)):=by
    rw[Hid,drop_set];exact zly (l2.drop o) (ls.drop o) (digs D) k q p r cc bb bH aM (by rw[List.length_drop,aA.len];omega) aS.out (by rw[aP];exact t1) (by rw[zcW,←aD.out (o+k) (.inr (Nat.le_refl _)),gz];exact t2)
   have bA:Hid (∀ j,j<o∨o+(k+1)≤j→(l2.set (o+k) r).getD j 0=ls.getD j 0):=fun j hj=>by
    rw[zaM _ _ _ _ (by omega)];exact aD.out j (by omega)
   clear t1 t2 aP gz
   go_wp2_with fail
   refine(aH _).mono ?_;rintro e w' ⟨rfl,rfl⟩;go_wp2
   go_roundw
   case rel=>exact⟨k+1,bH,aM,by omega,bQ,bC,by go_num,rfl,rfl,_,aA.set (o+k) r,aF.set _ hr,HP,bA,zbf bG (p:=⟨g,o+k,none⟩) (.inl rfl) _⟩
   case measure=>simp[intOf]<;>omega
  ·obtain rfl:k=n:=by omega
   have aL:=aA.cell (o+k) (by omega);have bI:=aA.free (o+k);have aY:=zaH aF (o+k);obtain⟨z,gz⟩:∃ v,l2.getD (o+k) 0=v:=⟨_,rfl⟩;rw[gz] at aL aY;obtain⟨r,aM,t2,hr,bC,aU⟩:=zfo z cc bb aY cE cC;have cB:val ((digs D).take k)=D:=by rw[List.take_of_length_le (by rw[hA.out];exact Nat.le_refl _),zak]
   have HP:Hid (val (((l2.set (o+k) r).drop o).take (k+1))+q*D=R+B^(k+1)*aM):=by
    have h:=aS.out;rw[cB] at h;have h2:=zo3 (l2.drop o) (ls.drop o) k q D r cc bb aM (by rw[List.length_drop,aA.len];omega) h (by rw[zcW,←aD.out (o+k) (.inr (Nat.le_refl _)),gz];exact t2);rw[Hid,drop_set,h2,HR.out]
   have bA:Hid (∀ j,j<o∨o+(k+1)≤j→(l2.set (o+k) r).getD j 0=ls.getD j 0):=fun j hj=>by
    rw[zaM _ _ _ _ (by omega)];exact aD.out j (by omega)
   have aJ:=aA.set (o+k) r;have bB:=aF.set (o+k) hr;have aZ:w.grownBy (wr.setCell ⟨g,o+k,none⟩ (.int .u64 (r:Int))) (some g):=zbf bG (p:=⟨g,o+k,none⟩) (.inl rfl) _;have bE:=Aa aJ;have bJ:=Aa bB;have bZ:=Aa aZ;clear t2 gz cB aJ bB aZ
   by_cases hb0:aM=0
   ·subst hb0
    obtain⟨f1,f2⟩:=znq R D q _ (B^(k+1)) cJ HP.out dA.out;have F1:=Aa f1;have F2:=Aa f2;clear f1 f2;go_wp2
    go_ret;exact⟨by rw[←F1.out];rfl,_,bE.out,bJ.out,F2.out,fun j hj=>bA.out j (by omega),bZ.out⟩
   ·obtain rfl:aM=1:=by omega
    go_wp2
    obtain⟨l3,bK⟩:∃ l3,l3=l2.set (o+k) r:=⟨_,rfl⟩;rw[←bK] at HP bA bE bJ;have cK:l3.getD (o+k) 0=r:=by rw[bK];exact zc8 _ _ _ (by rw[aA.len];omega)
    have H3:=Aa cK;have dI:=Aa aD;clear bK cK aD aS aA aF bG aL bI aU
    go_loopw [7,87] (fun cy s wr=>∃ j cc:Nat,j≤k∧cc≤1∧s = .int .i64 j∧cy = .int .u64 cc∧∃ l4,zav wr base g N C l4∧Wf l4∧Hid (val ((l4.drop o).take j)+B^j*cc=val ((l3.drop o).take j)+val ((digs D).take j))∧Hid (∀ t,t<o∨o+j≤t→l4.getD t 0=l3.getD t 0)∧w.grownBy wr (some g)) (fun _ s _=>k-(intOf s).toNat)
    case atStart=>exact⟨0,0,by omega,by omega,rfl,rfl,l3,bE.out,bJ.out,by simp[Hid],fun j _=>rfl,bZ.out⟩
    case round=>
     obtain⟨j,c4,hj,cT,rfl,rfl,l4,aC,aR,aN,aE,aT⟩:=hrel
     by_cases hjk:j<k
     ·obtain⟨cR,e2,_,bU⟩:=(ha.kept aT hoff).words.word (k:=j) hjk
      injection e2 with e2
      subst e2;have aX:=zaH (zaq D) j;obtain⟨dk,aP⟩:∃ v,(digs D).getD j 0=v:=⟨_,rfl⟩;rw[aP] at bU aX;have aL:=aC.cell (o+j) (by omega);have bI:=aC.free (o+j);have aV:=zaH aR (o+j);obtain⟨z4,gz⟩:∃ v,l4.getD (o+j) 0=v:=⟨_,rfl⟩;rw[gz] at aL aV;obtain⟨s4,d4,t2,cQ,dB,aU⟩:=zb5 z4 dk c4 aV aX cT;have cU:Hid (val (((l4.set (o+j) s4).drop o).take (j+1))+B^(j+1)*d4=val ((l3.drop o).take (j+1))+val ((digs D).take (j+1))):=by
       rw[Hid,drop_set];exact ze8 (l4.drop o) (l3.drop o) (digs D) j (by rw[List.length_drop,aC.len];omega) s4 c4 d4 aN.out (by rw[zcW,←aE.out (o+j) (.inr (Nat.le_refl _)),gz,aP];exact t2)
      have dF:Hid (∀ t,t<o∨o+(j+1)≤t→(l4.set (o+j) s4).getD t 0=l3.getD t 0):=fun t ht=>by
       rw[zaM _ _ _ _ (by omega)];exact aE.out t (by omega)
      clear t2 aP gz;go_wp2
      go_roundw
      case rel=>exact⟨j+1,d4,by omega,dB,by go_num,rfl,_,aC.set (o+j) s4,aR.set _ cQ,cU,dF,zbf aT (p:=⟨g,o+j,none⟩) (.inl rfl) _⟩
      case measure=>simp[intOf]<;>omega
     ·obtain rfl:j=k:=by omega
      have aL:=aC.cell (o+j) (by omega);have bI:=aC.free (o+j);rw[aE.out (o+j) (.inr (Nat.le_refl _)),H3.out] at aL;have ew:IntKind.u64.wrap ((r:Int)+(c4:Int))=(((r+c4)%B:Nat):Int):=by
       rw[←Int.natCast_add,zkH];rfl
      have aO:=zoO (l4.drop o) (l3.drop o) j r c4 ((r+c4)%B) ((r+c4)/B) D (by rw[List.length_drop,aC.len];omega) (by rw[zcW];exact H3.out) (Nat.mod_add_div _ _)
       (by rw[aN.out,List.take_of_length_le (l:=digs D) (by rw[hA.out];exact Nat.le_refl _),zak])
      rw[←drop_set] at aO;have aG:=aC.set (o+j) ((r+c4)%B);have aQ:=aR.set (o+j) (Nat.mod_lt (r+c4) zaS);have cP:D≤B^(j+1):=by
       have h6:=zac D;rw[hA.out] at h6;have h7:B^j≤B^(j+1):=Nat.pow_le_pow_right zaS (by omega);omega
      have cM:val ((l3.drop o).take (j+1))+q*D=R+B^(j+1):=by have h:=HP.out;rwa [Nat.mul_one] at h
      obtain⟨f1,f2,f3⟩:=zmg R D q _ (B^(j+1)) _ ((r+c4)/B) 0 0 cJ cP cM (zqh bJ.out o j (by rw[bE.out.len];omega)) cV.out (zqh aQ o j (by rw[aG.len];omega)) aO;have bD:w.grownBy (wr.setCell ⟨g,o+j,none⟩ (.int .u64 (((r+c4)%B:Nat):Int))) (some g):=zbf aT (p:=⟨g,o+j,none⟩) (.inl rfl) _;have dC:Hid (∀ t,t<o∨o+j+1≤t→(l4.set (o+j) ((r+c4)%B)).getD t 0=ls.getD t 0):=fun t ht=>by
       rw[zaM _ _ _ _ (by omega),aE.out t (by omega),bA.out t (by omega)]
      have dJ:(1:Int)≤q:=by omega
      have HV:Hid (((R/D:Nat):Int)=(q:Int)-1):=by unfold Hid;rw[←f1];omega
      have F3:=Aa f3;have cY:=Aa aG;have cZ:=Aa aQ;have cS:=Aa bD;clear f1 f2 f3 aG aQ bD aO cM;generalize (r+c4)%B=x5 at *;go_wp2
      go_ret;exact⟨by rw[HV.out];rfl,_,cY.out,cZ.out,F3.out,dC.out,cS.out⟩
theorem zaU(A A':Option Addr)(n c n' c' x y:Nat)(w:World)(ha:NatS w w.heap.size A n c x)(hb:NatS w w.heap.size A' n' c' y) :
  Calls Tryz.prog 130 #[.slice A n c,.slice A' n' c'] w fun e w'=>e = .returned (.int .i64 (ncmp x y))∧∃ q,w'=w.drewN q:=by
 have aE:=ha.len;have aC:=hb.len;have h1:=ha.cm;have h2:=ha.nc;have h3:=hb.cm;have h4:=hb.nc;unfold maxLen at h1 h3
 rcases Nat.lt_trichotomy n n' with aL | aR | aN
 ·have hr:ncmp x y = -1:=ncmp_lt (zbD (by omega))
  have HR:=Aa hr;clear hr aE aC;have e1:(((n:Nat):Int) != n')=true:=by rw[bne_iff_ne];omega
  have e2:decide (n'<n)=false:=by simp;omega
  go_enter Tryz.func130,Tryz.ntmps130
  go_wp2_with fail
  refine(zcZ _ _).mono ?_;rintro e w1 ⟨rfl,rfl⟩;go_wp2
  go_ret;exact⟨by rw[HR.out];rfl,0,rfl⟩
 ·subst aR
  go_enter Tryz.func130,Tryz.ntmps130
  have HA:=Aa aE;have HB:=Aa aC;clear aE aC
  go_wp2_with fail
  go_loopw [5] (fun s wr=>∃ i:Int, -1≤i∧i<n∧s = .int .i64 i∧Hid (∀ j (h:j<(digs x).length) (h':j<(digs y).length),i<(j:Int)→(digs x)[j]=(digs y)[j])∧∃ q,wr=w.drewN q) (fun s _=>(intOf s+1).toNat)
  case atStart=>
   refine⟨_,by omega,by omega,rfl,?_,0,rfl⟩;intro j h h' hj;have:=HA.out;omega
  case round=>
   obtain⟨i,aX,aU,rfl,hz,q,rfl⟩:=hrel
   by_cases h0:0≤i
   ·obtain⟨k,rfl⟩:=Int.eq_ofNat_of_zero_le h0
    have aD:k<n:=by omega
    obtain⟨ad,rfl,aT,aJ⟩:=ha.words.word (k:=k) aD;obtain⟨aV,rfl,aW,aQ⟩:=hb.words.word (k:=k) aD;have aK:k<(digs x).length:=by rw[HA.out];exact aD
    have aH:k<(digs y).length:=by rw[HB.out];exact aD
    have aM:(digs x).getD k 0=(digs x)[k]:=by simp[List.getD,aK]
    have aO:(digs y).getD k 0=(digs y)[k]:=by simp[List.getD,aH]
    have HX:=Aa aM;have HY:=Aa aO;clear aM aO;generalize aP:(digs x).getD k 0=xk at aJ;generalize aI:(digs y).getD k 0=yk at aQ;have aF:=Aa aP;have aG:=Aa aI;clear aP aI;have aS:=aJ;have aY:(k:Int)<(n:Int):=by omega
    by_cases he:xk=yk
    ·subst he
     have e3:(((xk:Nat):Int) != xk)=false:=by simp
     go_wp2
     go_quiet (fail)
     go_wp2
     go_roundw
     case rel=>
      refine⟨(k:Int)-1,by omega,by omega,by go_num,?_,_,rfl⟩;intro j h h' hj
      rcases Nat.lt_or_ge k j with h5 | h5
      ·exact hz.out j h h' (by omega)
      ·obtain rfl:j=k:=by omega
       rw[←HX.out,←HY.out,aF.out,aG.out]
     case measure=>simp[intOf]<;>omega
    ·have e3:(((xk:Nat):Int) != yk)=true:=by rw[bne_iff_ne];omega
     have aA:(digs x).length=(digs y).length:=by rw[HA.out,HB.out]
     have HL:=Aa aA;clear aA
     by_cases aL:xk<yk
     ·have hr:ncmp x y = -1:=ncmp_lt (zfu HL.out k aK (fun j h h' hj=>hz.out j h h' (by omega)) (by rw[aF.out,aG.out];exact aL))
      have HR:=Aa hr;clear hr;have e4:decide (yk<xk)=false:=by simp;omega
      go_wp2
      go_quiet (fail)
      go_wp2
      go_quiet ((go_at_call 146;first | exact zbL (zcZ _ _) | exact zcD (zcZ _ _)))
      go_wp2
      go_ret;exact⟨by rw[HR.out];rfl,by first | exact⟨_,rfl⟩ | (simp only[World.drewN_drewN];exact⟨_,rfl⟩)⟩
     ·have aN:yk<xk:=by omega
      have hr:ncmp x y=1:=ncmp_gt (zfu HL.out.symm k aH (fun j h h' hj=>(hz.out j h' h (by omega)).symm) (by rw[aF.out,aG.out];exact aN));have HR:=Aa hr;clear hr;have e4:decide (yk<xk)=true:=by simp;omega
      go_wp2
      go_quiet (fail)
      go_wp2
      go_quiet ((go_at_call 146;first | exact zbL (zcZ _ _) | exact zcD (zcZ _ _)))
      go_wp2
      go_ret;exact⟨by rw[HR.out];rfl,by first | exact⟨_,rfl⟩ | (simp only[World.drewN_drewN];exact⟨_,rfl⟩)⟩
   ·go_wp2
    go_ret;obtain rfl:x=y:=zg7 (by rw[HA.out,HB.out]) (fun j h h'=>hz.out j h h' (by omega));exact⟨by rw[ncmp_eq];rfl,q,rfl⟩
 ·have hr:ncmp x y=1:=ncmp_gt (zbD (by omega))
  have HR:=Aa hr;clear hr aE aC;have e1:(((n:Nat):Int) != n')=true:=by rw[bne_iff_ne];omega
  have e2:decide (n'<n)=true:=by simp;omega
  go_enter Tryz.func130,Tryz.ntmps130
  go_wp2_with fail
  refine(zcZ _ _).mono ?_;rintro e w1 ⟨rfl,rfl⟩;go_wp2
  go_ret;exact⟨by rw[HR.out];rfl,0,rfl⟩
end Go.Proofs.YtbkgkoenppkhpaaGreatDoor
