/- Plain mathematics: the estimate of a quotient's word (Knuth), and the step of a long division. -/
import Derived.Test.YtmkondcdejlhcaaGreatDoorFNat5
set_option maxRecDepth 100000
set_option maxHeartbeats 4000000
namespace Go.Proofs.YtmkondcdejlhcaaGreatDoor.Bn
section
variable {b r2 r1 r0 d1 d0 q rest:Nat}
theorem zjx(hq:r2*b+r1=q*d1+rest)(_hb:0<b)(ht:min (b-1) (((r2*b+r1)*b+r0)/(d1*b+d0))≤q)(hlt:rest*b+r0<q*d0) :
  1≤q∧min (b-1) (((r2*b+r1)*b+r0)/(d1*b+d0))≤q-1:=by
 have _:=ht;have h1:1≤q:=by
  rcases Nat.eq_zero_or_pos q with rfl | h
  ·simp at hlt
  ·exact h
 refine⟨h1,Nat.le_trans (Nat.min_le_right _ _) ?_⟩;have:((r2*b+r1)*b+r0)/(d1*b+d0)<q:=by
  rcases Nat.eq_zero_or_pos (d1*b+d0) with h | h
  ·have:d0=0:=by omega
   subst this;simp at hlt
  ·rw[Nat.div_lt_iff_lt_mul h,hq,Nat.mul_add,Nat.add_mul,←Nat.mul_assoc]
   omega
 omega
theorem zg9(hq:r2*b+r1=q*d1+rest)(hb:0<b)(hd:0<d1)(hqb:q<b)(ht:min (b-1) (((r2*b+r1)*b+r0)/(d1*b+d0))≤q)(hle:q*d0≤rest*b+r0) :
  q=min (b-1) (((r2*b+r1)*b+r0)/(d1*b+d0)):=by
 refine Nat.le_antisymm (Nat.le_min.2 ⟨by omega,?_⟩) ht;have h0:0<d1*b+d0:=by have:=Nat.mul_pos hd hb;omega
 rw[Nat.le_div_iff_mul_le h0,hq,Nat.mul_add,Nat.add_mul,←Nat.mul_assoc];omega
theorem zl1(hq:r2*b+r1=q*d1+rest)(hb:0<b)(hd:0<d1)(hqb:q<b)(hd0:d0<b)(ht:min (b-1) (((r2*b+r1)*b+r0)/(d1*b+d0))≤q)(hr:b≤rest) :
  q=min (b-1) (((r2*b+r1)*b+r0)/(d1*b+d0)):=by
 refine zg9 hq hb hd hqb ht ?_;have h1:q*d0≤b*b:=Nat.mul_le_mul (by omega) (by omega);have h2:b*b≤rest*b:=Nat.mul_le_mul_right _ hr;omega
theorem zlJ(hq:r2*b+r1=q*d1+rest)(h1:1≤q):r2*b+r1=(q-1)*d1+(rest+d1):=by
 obtain⟨p,rfl⟩:∃ p,q=p+1:=⟨q-1,by omega⟩;rw[Nat.add_sub_cancel];rw[Nat.add_mul] at hq;omega
theorem ziL(hd:0<d1)(hr0:r0<b)(hq:q=(r2*b+r1)/d1):min (b-1) (((r2*b+r1)*b+r0)/(d1*b+d0))≤q:=by
 refine Nat.le_trans (Nat.min_le_right _ _) ?_;rw[hq];exact zfP hr0 rfl hd
end
theorem zne(b m R D N3 D2 lr ld q:Nat)(hR:R=N3*m+lr)(hD:D=D2*m+ld)(hlr:lr<m)(hld:ld<m)(hD2:b≤D2)(hq:q=min (b-1) (N3/D2))(hlt:R<D*b)(hb:1<b) :
  R/D≤q∧q≤R/D+1:=by
 have hm:0<m:=by omega
 have aA:0<D:=by
  rw[hD];have:=Nat.mul_pos (show 0<D2 by omega) hm;omega
 constructor
 ·rw[hq]
  refine Nat.le_min.2 ⟨?_,?_⟩
  ·have:R/D<b:=by rw[Nat.div_lt_iff_lt_mul aA,Nat.mul_comm];exact hlt
   omega
  ·rw[Nat.le_div_iff_mul_le (by omega)]
   have h1:R/D*D≤R:=Nat.div_mul_le_self _ _;generalize R/D=t at *;rw[hD,hR,Nat.mul_add,←Nat.mul_assoc] at h1;have h2:t*D2*m<(N3+1)*m:=by rw[Nat.add_mul,Nat.one_mul];omega
   have:=Nat.lt_of_mul_lt_mul_right h2;omega
 ·have h1:q*D2≤N3:=by
   have:q≤N3/D2:=by rw[hq];exact Nat.min_le_right _ _
   exact(Nat.le_div_iff_mul_le (by omega)).1 this
  have h2:q≤b-1:=by rw[hq];exact Nat.min_le_left _ _
  rcases Nat.eq_zero_or_pos q with h0 | h0
  ·rw[h0];exact Nat.zero_le _
  have h3:q-1≤R/D:=by
   rw[Nat.le_div_iff_mul_le aA];have h4:q*ld≤D:=by
    have h5:q*ld≤b*m:=Nat.mul_le_mul (by omega) (by omega);have h6:b*m≤D2*m:=Nat.mul_le_mul_right _ hD2;omega
   have h7:q*D=q*D2*m+q*ld:=by rw[hD,Nat.mul_add,Nat.mul_assoc]
   have h8:q*D2*m≤N3*m:=Nat.mul_le_mul_right _ h1;have h9:(q-1)*D+D=q*D:=by
    obtain⟨p,rfl⟩:∃ p,q=p+1:=⟨q-1,by omega⟩;rw[Nat.add_sub_cancel,Nat.add_mul,Nat.one_mul]
   omega
  generalize R/D=t at *;clear hq;omega
end Go.Proofs.YtmkondcdejlhcaaGreatDoor.Bn
namespace Go.Proofs.YtmkondcdejlhcaaGreatDoor
open Go.RowKit Bn
theorem zeE(l:List Nat)(k x:Nat)(hk:k<l.length):(l.set k x).drop k=x :: l.drop (k+1):=by
 rw[List.drop_eq_getElem_cons (by simpa using hk),List.getElem_set_self,List.drop_set_of_lt (by omega)]
theorem zfG(l:List Nat)(k:Nat)(hk:k<l.length):l.drop k=l.getD k 0 :: l.drop (k+1):=by
 rw[List.drop_eq_getElem_cons hk,Bn.getD_in hk]
theorem zkv(ls la:List Nat)(k q r rest b:Nat)(hk:k<ls.length)(hk':k<la.length)(hinv:val (ls.drop (k+1))*b+rest=val (la.drop (k+1)))
 (hd:rest*18446744073709551616+la.getD k 0=q*b+r):val ((ls.set k q).drop k)*b+r=val (la.drop k):=by
 rw[zeE ls k q hk,zfG la k hk',val_cons,val_cons,←hinv,Nat.add_mul,Nat.mul_add,Nat.mul_assoc];have e:B*rest=rest*18446744073709551616:=Nat.mul_comm _ _;rw[e];generalize B*(val (ls.drop (k+1))*b)=t;omega
theorem zbe(A:Option Addr)(n c x b:Nat)(w:World)(ha:NatS w w.heap.size A n c x)(hn:n≤1099511627776)(hb0:0<b)(hb:b<18446744073709551616) :
  Calls Tryz.prog 174 #[.slice A n c,.int .u64 b] w fun e w'=>∃ m c',e = .returned (.tuple #[.slice (some ⟨w.heap.size,0,none⟩) m c',.int .u64 ((x%b:Nat):Int)])∧zav w' w.heap.size w.heap.size m c' (digs (x/b))∧Below w.heap.size w w':=by
 obtain⟨i0,aN,aT,aR,aQ⟩:=info_parts zcm;have hA:=Aa ha.len;have h1:=ha.nc;have h2:=ha.cm;unfold maxLen at h2;go_enter Tryz.func174,Tryz.ntmps174
 go_wp2_with (at_make;refine wpList_make_full _ rfl _ _ 89 rfl w.heap.size 136 i0 (.int .u64 0) 1 Tryz.underlying89 aN aT aR _ _ _ _ n rfl rfl (by omega) (by omega) ?b2 ?b3 (Nat.le_refl _) ?_)
 case b2=>rw[aQ];omega
 case b3=>unfold maxLen;omega
 intro w0 aF aE;have aK:Below w.heap.size w w0:=(Below.refl _ _).grown aE (Nat.le_refl _) (fun k h=>by cases h);have aJ:=zav.made aF;clear aF aE;go_wp2
 go_loopw [7,8] (fun rs s wr=>∃ (k aA:Nat) (i:Int),i=(k:Int)-1∧k≤n∧aA<b∧s = .int .i64 i∧rs = .int .u64 aA∧∃ ls,zav wr w.heap.size w.heap.size n n ls∧Wf ls∧Hid (val (ls.drop k)*b+aA=val ((digs x).drop k))∧Below w.heap.size w wr) (fun _ s _=>(intOf s+1).toNat)
 case atStart=>
  refine⟨n,0,_,rfl,Nat.le_refl _,hb0,rfl,rfl,_,aJ,Wf.replicate _,?_,aK⟩;rw[Hid,List.drop_of_length_le (by simp),List.drop_of_length_le (by rw[hA.out];exact Nat.le_refl _)];simp
 case round=>
  obtain⟨k,aA,i,hi,hk,aC,rfl,rfl,ls,aD,aL,aI,aG⟩:=hrel;have HI:=Aa hi
  by_cases hk0:0<k
  ·obtain⟨j,rfl⟩:∃ j,k=j+1:=⟨k-1,by omega⟩
   obtain rfl:i=(j:Int):=by omega
   clear hi HI;obtain⟨ad,rfl,aV,aP⟩:=(ha.below aG).words.word (k:=j) (by omega);have aM:=zaF (zaq x) j;obtain⟨z,hg⟩:∃ z,(digs x).getD j 0=z:=⟨_,rfl⟩;rw[hg] at aP aM;have aU:=aD.cell j (by omega);have aW:=aD.free j;generalize ls.getD j 0=old at aU;obtain⟨q,r,hd,hr,hq,aH⟩:=zhO aA z b wr aC aM hb;have HP:Hid (val ((ls.set j q).drop j)*b+r=val ((digs x).drop j)):=
    zkv ls (digs x) j q r aA b (by rw[aD.len];omega) (by rw[hA.out];omega) aI.out (by rw[hg];exact hd)
   clear hd hg
   go_wp2_with fail
   refine aH.mono ?_;rintro e w' ⟨rfl,kq,rfl⟩;go_wp2
   go_roundw
   case rel=>exact⟨j,r,(j:Int)-1,rfl,by omega,hr,by go_num,rfl,_,(aD.drewN kq).set j q,aL.set _ hq,HP,(zac aG kq).setCell (Nat.le_refl _) _⟩
   case measure=>simp[intOf]<;>omega
  ·obtain rfl:k=0:=by omega
   have aO:i<0:=by omega
   have hv:val ls=x/b∧aA=x%b:=by
    have h:=aI.out;rw[List.drop_zero,List.drop_zero,zak] at h;rw[←h,Nat.mul_comm,Nat.mul_add_div hb0,Nat.div_eq_of_lt aC,Nat.mul_add_mod,Nat.mod_eq_of_lt aC];exact⟨rfl,rfl⟩
   have ht:=zb4 w.heap.size w.heap.size n n ls wr aD aL;rw[hv.1] at ht;have HC:=Aa ht;have HR:=Aa hv.2;clear ht hv hi
   go_wp2_with fail
   refine HC.out.mono ?_;rintro e w1 ⟨m,rfl,aS,rfl⟩;go_wp2
   go_ret2
   exact⟨m,n,by rw[←HR.out];rfl,aS,aG⟩
theorem zhG(r2 r1 r0 d1 d0:Nat)(w:World)(h2:r2≤d1)(h1:r1<18446744073709551616)(h0:r0<18446744073709551616)(hd1:d1<18446744073709551616)(hd0:d0<18446744073709551616)(hd:0<d1) :
  Calls Tryz.prog 205 #[.int .u64 r2,.int .u64 r1,.int .u64 r0,.int .u64 d1,.int .u64 d0] w fun e w'=>e = .returned (.int .u64 ((min (B-1) (((r2*B+r1)*B+r0)/(d1*B+d0)):Nat):Int))∧∃ k,w'=w.drewN k:=by
 obtain⟨T,hT⟩:∃ v,v=min (B-1) (((r2*B+r1)*B+r0)/(d1*B+d0)):=⟨_,rfl⟩;have HT:=Aa hT;rw[←hT];clear hT;go_enter Tryz.func205,Tryz.ntmps205
 go_upto_if 18 with(fail)
 go_cut [11,12,13] (fun a b c wc=>∃ q rest k cy:Nat,a = .int .u64 (q:Int)∧b = .int .u64 (rest:Int)∧c = .int .u64 (cy:Int)∧q<18446744073709551616∧rest<18446744073709551616∧cy≤1∧Hid (r2*B+r1=q*d1+(rest+B*cy))∧Hid (T≤q)∧wc=w.drewN k)
 case first=>
  by_cases hlt:r2<d1
  ·have hd:decide ((r2:Int)<(d1:Int))=true:=by rw[decide_eq_true_iff];omega
   obtain⟨q,r,aP,hr,hq,aA⟩:=zhO r2 r1 d1 w hlt h1 hd1;have HQ:=Aa aP;clear aP
   go_wp2_with fail
   refine aA.mono ?_;rintro e w' ⟨rfl,kq,rfl⟩
   go_wp2_with fail
   go_meet
   refine⟨q,r,kq,0,rfl,rfl,rfl,hq,by omega,by omega,?_,?_,rfl⟩
   ·rw[Hid,Nat.mul_zero,Nat.add_zero];exact HQ.out
   ·rw[Hid,HT.out]
    refine ziL (by omega) h0 ?_;have e:=HQ.out;show q=(r2*18446744073709551616+r1)/d1
    rw[e,Nat.mul_comm,Nat.mul_add_div (by omega),Nat.div_eq_of_lt hr,Nat.add_zero]
  ·obtain rfl:r2=d1:=by omega
   obtain⟨s,cy,hs,aJ,aH,aD⟩:=zca r1 r2 0 h1 hd1 (by omega)
   replace aD:∀ w:World,(callFunc 173 #[.int .u64 r1,.int .u64 r2,.int .u64 0]).run Tryz.prog w = .ok (.value (.tuple #[.int .u64 s,.int .u64 cy])) w:=aD
   have HS:=Aa hs;clear hs hlt
   go_wp2_with fail
   go_meet
   refine⟨18446744073709551615,s,0,cy,rfl,rfl,rfl,by omega,aJ,aH,?_,?_,rfl⟩
   ·rw[Hid]
    have e:=HS.out;have e2:B*cy=18446744073709551616*cy:=rfl;have e3:r2*B=18446744073709551615*r2+r2:=by
     have:B=18446744073709551615+1:=rfl;rw[this,Nat.mul_add,Nat.mul_comm,Nat.mul_one]
    rw[e2,e3];generalize 18446744073709551615*r2=t;omega
   ·rw[Hid,HT.out];exact Nat.min_le_left _ _
 case rest=>
  obtain⟨q,rest,k,cy,rfl,rfl,rfl,hq,aC,aL,HQ,aF,rfl⟩:=hcut
  go_wp2_with fail
  go_loop [11,12,13] (fun a b c=>∃ q rest cy:Nat,a = .int .u64 (q:Int)∧b = .int .u64 (rest:Int)∧c = .int .u64 (cy:Int)∧q<18446744073709551616∧rest<18446744073709551616∧cy≤1∧Hid (r2*B+r1=q*d1+(rest+B*cy))∧Hid (T≤q)) (fun a _ _=>(intOf a).toNat)
  case atStart=>exact⟨q,rest,cy,rfl,rfl,rfl,hq,aC,aL,HQ,aF⟩
  case round=>
   clear HQ aF hq aC aL;obtain⟨q,rest,cy,rfl,rfl,rfl,hq,aC,aL,HQ,aF⟩:=hrel
   by_cases hc0:cy=0
   ·subst hc0
    have aE:r2*B+r1=q*d1+rest:=by have h:=HQ.out;rwa [Nat.mul_zero,Nat.add_zero] at h
    obtain⟨hi,lo,hm,aS,aU,aA⟩:=zgS q d0 hq hd0;have em:lo+18446744073709551616*hi=hi*B+lo:=by
     have e:hi*B=18446744073709551616*hi:=Nat.mul_comm _ _;omega
    rw[em] at hm;clear em
    by_cases ha:hi<rest
    ·have aR:decide ((hi:Int)<(rest:Int))=true:=by rw[decide_eq_true_iff];omega
     have aN:hi*B+lo≤rest*B+r0:=by
      have h5:(hi+1)*B≤rest*B:=Nat.mul_le_mul_right _ ha;rw[Nat.add_mul,Nat.one_mul] at h5;have:lo<B:=aS;omega
     have HB:Hid (q=T):=by
      rw[Hid,HT.out];exact zg9 (b:=B) aE zaQ hd hq (by rw[←HT.out];exact aF.out) (by rw[←hm];exact aN)
     clear hm aE
     go_wp2_with fail
     refine(aA _).mono ?_;rintro e w' ⟨rfl,rfl⟩;go_wp2
     go_ret;exact⟨by rw[←HB.out];rfl,k,rfl⟩
    ·have aR:decide ((hi:Int)<(rest:Int))=false:=by rw[decide_eq_false_iff_not];omega
     by_cases hb:hi=rest
     ·have aQ:((hi:Int)==(rest:Int))=true:=by rw[beq_iff_eq];omega
      by_cases hc:lo≤r0
      ·have aH:decide ((lo:Int)≤(r0:Int))=true:=by rw[decide_eq_true_iff];omega
       have aN:hi*B+lo≤rest*B+r0:=by rw[hb];omega
       clear hb;have HB:Hid (q=T):=by
        rw[Hid,HT.out];exact zg9 (b:=B) aE zaQ hd hq (by rw[←HT.out];exact aF.out) (by rw[←hm];exact aN)
       clear hm aE
       go_wp2_with fail
       refine(aA _).mono ?_;rintro e w' ⟨rfl,rfl⟩;go_wp2
       go_ret;exact⟨by rw[←HB.out];rfl,k,rfl⟩
      ·have aH:decide ((lo:Int)≤(r0:Int))=false:=by rw[decide_eq_false_iff_not];omega
       have aO:rest*B+r0<hi*B+lo:=by rw[hb];omega
       clear hb;have aI:rest*B+r0<q*d0:=by rw[←hm];exact aO
       obtain⟨aK,aG⟩:=zjx (b:=B) (r2:=r2) (r1:=r1) (r0:=r0) (d1:=d1) aE zaQ (by rw[←HT.out];exact aF.out) aI;rw[←HT.out] at aG;have HD:=Aa (zlJ aE aK);have aM:=Aa aG;obtain⟨s,c',hs,aJ,aT,aD⟩:=zca rest d1 0 aC hd1 (by omega)
       replace aD:∀ w:World,(callFunc 173 #[.int .u64 rest,.int .u64 d1,.int .u64 0]).run Tryz.prog w = .ok (.value (.tuple #[.int .u64 s,.int .u64 c'])) w:=aD
       have HV:Hid (Value.int .u64 ((q:Int)-1)=Value.int .u64 ((q-1:Nat):Int)):=by unfold Hid;congr 1;omega
       have HS:Hid (rest+d1=s+B*c'):=by unfold Hid;have e:B*c'=18446744073709551616*c':=rfl;rw[e];omega
       clear hs aG hm aI aE
       go_wp2_with fail
       refine(aA _).mono ?_;rintro e w' ⟨rfl,rfl⟩
       go_wp2_with fail
       go_round
       case rel=>exact⟨q-1,s,c',HV.out,rfl,rfl,by omega,aJ,aT,by rw[Hid,←HS.out];exact HD.out,aM.out⟩
       case measure=>simp[intOf]<;>omega
     ·have aQ:((hi:Int)==(rest:Int))=false:=by rw[beq_eq_false_iff_ne];omega
      have aO:rest*B+r0<hi*B+lo:=by
       have h5:(rest+1)*B≤hi*B:=Nat.mul_le_mul_right _ (by omega);rw[Nat.add_mul,Nat.one_mul] at h5;have:r0<B:=h0;omega
      have aI:rest*B+r0<q*d0:=by rw[←hm];exact aO
      obtain⟨aK,aG⟩:=zjx (b:=B) (r2:=r2) (r1:=r1) (r0:=r0) (d1:=d1) aE zaQ (by rw[←HT.out];exact aF.out) aI;rw[←HT.out] at aG;have HD:=Aa (zlJ aE aK);have aM:=Aa aG;obtain⟨s,c',hs,aJ,aH,aD⟩:=zca rest d1 0 aC hd1 (by omega)
      replace aD:∀ w:World,(callFunc 173 #[.int .u64 rest,.int .u64 d1,.int .u64 0]).run Tryz.prog w = .ok (.value (.tuple #[.int .u64 s,.int .u64 c'])) w:=aD
      have HV:Hid (Value.int .u64 ((q:Int)-1)=Value.int .u64 ((q-1:Nat):Int)):=by unfold Hid;congr 1;omega
      have HS:Hid (rest+d1=s+B*c'):=by unfold Hid;have e:B*c'=18446744073709551616*c':=rfl;rw[e];omega
      clear hs aG hm aI aE
      go_wp2_with fail
      refine(aA _).mono ?_;rintro e w' ⟨rfl,rfl⟩
      go_wp2_with fail
      go_round
      case rel=>exact⟨q-1,s,c',HV.out,rfl,rfl,by omega,aJ,aH,by rw[Hid,←HS.out];exact HD.out,aM.out⟩
      case measure=>simp[intOf]<;>omega
   ·obtain rfl:cy=1:=by omega
    have HB:Hid (q=T):=by
     rw[Hid,HT.out];refine zl1 (b:=B) (r2:=r2) (r1:=r1) (rest:=rest+B) ?_ zaQ hd hq hd0 (by rw[←HT.out];exact aF.out) (Nat.le_add_left _ _);have h:=HQ.out
     rwa [Nat.mul_one] at h
    go_wp2
    go_ret;exact⟨by rw[←HB.out];rfl,k,rfl⟩
theorem drop_set(l:List Nat)(o k x:Nat):(l.set (o+k) x).drop o=(l.drop o).set k x:=by
 rw[List.drop_set];rw[if_neg (by omega)]
 congr 1
 omega
theorem zcL(l:List Nat)(o k:Nat):(l.drop o).getD k 0=l.getD (o+k) 0:=by simp[List.getD,List.getElem?_drop]
theorem zj6(l' l d:List Nat)(k q p r c b c' b':Nat)(hk:k<l'.length)(hinv:val (l'.take k)+q*val (d.take k)=val (l.take k)+B^k*(c+b))
 (h1:p+B*c'=q*d.getD k 0+c)(h2:r+p+b=l.getD k 0+B*b') :
  val ((l'.set k r).take (k+1))+q*val (d.take (k+1))=val (l.take (k+1))+B^(k+1)*(c'+b'):=by
 rw[zaL l' k r hk,zag d,zag l,Nat.pow_succ,Nat.mul_add q,Nat.mul_assoc];have h3:B^k*r+B^k*(q*d.getD k 0)+B^k*(c+b)=B^k*l.getD k 0+B^k*(B*(c'+b')):=by
  rw[←Nat.mul_add,←Nat.mul_add,←Nat.mul_add]
  congr 1
  rw[Nat.mul_add];omega
 have h4:q*(B^k*d.getD k 0)=B^k*(q*d.getD k 0):=Nat.mul_left_comm _ _ _;rw[h4];omega
theorem zm2(l' l:List Nat)(n q D r c b b':Nat)(hk:n<l'.length)(hinv:val (l'.take n)+q*D=val (l.take n)+B^n*(c+b))
 (h2:r+c+b=l.getD n 0+B*b'):val ((l'.set n r).take (n+1))+q*D=val (l.take (n+1))+B^(n+1)*b':=by
 rw[zaL l' n r hk,zag l,Nat.pow_succ,Nat.mul_assoc];have h3:B^n*r+B^n*(c+b)=B^n*l.getD n 0+B^n*(B*b'):=by
  rw[←Nat.mul_add,←Nat.mul_add]
  congr 1
  omega
 omega
theorem zlg(R D q V p:Nat)(hD:0<D)(h:V+q*D=R+p*0)(h1:R/D≤q):q=R/D∧V=R%D:=by
 have hq:q≤R/D:=by rw[Nat.le_div_iff_mul_le hD];omega
 have e:q=R/D:=Nat.le_antisymm hq h1;refine⟨e,?_⟩;have h3:=Nat.div_add_mod R D;rw[Nat.mul_comm,←e] at h3;omega
theorem zlv(R D q V p F c t d0:Nat)(hD:0<D)(hDp:D≤p)(h:V+q*D=R+p)(hV:V<p)(h2:q≤R/D+1)(hF:F<p)(hc:F+p*c=V+D):q-1=R/D∧1≤q∧F=R%D:=by
 have _:=t;have _:=d0;have h3:R<q*D:=by omega
 have h4:R/D<q:=by rw[Nat.div_lt_iff_lt_mul hD];exact h3
 have e:q=R/D+1:=by omega
 have h5:=Nat.div_add_mod R D;rw[Nat.mul_comm] at h5;have h6:=Nat.mod_lt R hD;have h7:q*D=R/D*D+D:=by rw[e,Nat.add_mul,Nat.one_mul]
 generalize R/D=a at *;generalize R%D=b at *;generalize a*D=ad at *;generalize q*D=qd at *;refine⟨by omega,by omega,?_⟩;have h8:F+p*c=b+p:=by omega
 rcases Nat.lt_or_ge 0 c with aA | aA
 ·have h9:p*1≤p*c:=Nat.mul_le_mul_left _ aA
  rcases Nat.lt_or_ge 1 c with aC | aC
  ·have aD:p*2≤p*c:=Nat.mul_le_mul_left _ aC
   omega
  ·obtain rfl:c=1:=by omega
   omega
 ·obtain rfl:c=0:=by omega
  omega
theorem znl(l4 l3:List Nat)(k r cc x e D:Nat)(hk:k<l4.length)(hr:l3.getD k 0=r)(hx:x+B*e=r+cc)
 (hinv:val (l4.take k)+B^k*cc=val (l3.take k)+D):val ((l4.set k x).take (k+1))+B^(k+1)*e=val (l3.take (k+1))+D:=by
 rw[zaL l4 k x hk,zag l3,hr,Nat.pow_succ,Nat.mul_assoc];have h3:B^k*x+B^k*(B*e)=B^k*r+B^k*cc:=by rw[←Nat.mul_add,←Nat.mul_add,hx]
 omega
theorem zok{l:List Nat}(hw:Wf l)(o k:Nat)(h:o+k<l.length):val ((l.drop o).take (k+1))<B^(k+1):=by
 have:=zby ((hw.drop o).take (k+1))
 rwa [List.length_take,List.length_drop,Nat.min_eq_left (by omega)] at this
theorem zgk(A:Option Addr)(base g o N C n c c' D:Nat)(ls:List Nat)(w:World)(hrow:zav w base g N C ls)(hwf:Wf ls)(ha:NatS w w.heap.size A n c' D)(hoff:0<n→Off A g)(hn2:2≤n)(hn:n≤1099511627776)
 (hoN:o+n+1≤N)(hlt:val ((ls.drop o).take (n+1))<D*B) :
  Calls Tryz.prog 182 #[.slice (some ⟨g,o,none⟩) (n+1) c,.slice A n c'] w fun e w'=>e = .returned (.int .u64 ((val ((ls.drop o).take (n+1))/D:Nat):Int)) ∧
   ∃ ls',zav w' base g N C ls'∧Wf ls'∧val ((ls'.drop o).take (n+1))=val ((ls.drop o).take (n+1))%D∧(∀ j,j<o∨o+n+1≤j→ls'.getD j 0=ls.getD j 0)∧w.grownBy w' (some g):=by
 have hA:=Aa ha.len;have h1:=ha.nc;have h2:=ha.cm;unfold maxLen at h2;obtain⟨ad,rfl,dF,bW⟩:=ha.words.word (k:=n-1) (by omega);obtain⟨dH,e',_,cN⟩:=ha.words.word (k:=n-2) (by omega);injection e' with e'
 subst e';have bY:=hrow.cell (o+n) (by omega);have cC:=hrow.cell (o+(n-1)) (by omega);have cL:=hrow.cell (o+(n-2)) (by omega);obtain⟨R,hR⟩:∃ v,v=val ((ls.drop o).take (n+1)):=⟨_,rfl⟩;rw[←hR] at hlt ⊢;have dD:ls.length=N:=hrow.len;have cE:0<D:=by
  rcases Nat.eq_zero_or_pos D with rfl | h
  ·have:=ha.len
   rw[zam] at this;simp at this
   omega
  ·exact h
 have bQ:=zaF (zaq D) (n-1);have bH:=zaF (zaq D) (n-2);have cM:=zaF hwf (o+n);have bO:=zaF hwf (o+(n-1));have bR:=zaF hwf (o+(n-2));have aI:0<(digs D).getD (n-1) 0:=by
  have:=zda D (by rw[hA.out];omega);rw[Bn.getD_in (by rw[hA.out];omega)];simp only[hA.out] at this
  omega
 have eD:D=((digs D).getD (n-1) 0*B+(digs D).getD (n-2) 0)*B^(n-2)+val ((digs D).take (n-2)):=by
  have h:=zag (digs D) (n-1);rw[show n-1+1=n from by omega,List.take_of_length_le (by rw[hA.out];exact Nat.le_refl _),zak,show n-1=n-2+1 from by omega,zag,←show n-1=n-2+1 from by omega] at h;rw[Nat.add_mul,Nat.mul_assoc,←Nat.pow_succ',show(n-2).succ=n-1 from by omega,Nat.mul_comm _ (B^(n-1)),Nat.mul_comm _ (B^(n-2))];omega
 have eR:R=((ls.getD (o+n) 0*B+ls.getD (o+(n-1)) 0)*B+ls.getD (o+(n-2)) 0)*B^(n-2)+val ((ls.drop o).take (n-2)):=by
  have h:=zag (ls.drop o) n;have h':=zag (ls.drop o) (n-1);have cI:=zag (ls.drop o) (n-2);rw[show n-1+1=n from by omega] at h';rw[show n-2+1=n-1 from by omega] at cI;rw[h',cI,zcL,zcL,zcL] at h;rw[hR,h,Nat.add_mul,Nat.add_mul,Nat.add_mul];have e1:B*B^(n-2)=B^(n-1):=by rw[←Nat.pow_succ',show(n-2).succ=n-1 from by omega]
  have e2:B*B^(n-1)=B^n:=by rw[←Nat.pow_succ',show(n-1).succ=n from by omega]
  rw[Nat.mul_assoc _ B (B^(n-2)),e1,Nat.mul_assoc (ls.getD (o+n) 0) B,e2,Nat.mul_assoc (ls.getD (o+(n-1)) 0) B,e1,Nat.mul_comm _ (B^n),Nat.mul_comm _ (B^(n-1)),Nat.mul_comm _ (B^(n-2))];omega
 obtain⟨r2,bT⟩:∃ v,ls.getD (o+n) 0=v:=⟨_,rfl⟩;obtain⟨r1,bM⟩:∃ v,ls.getD (o+(n-1)) 0=v:=⟨_,rfl⟩;obtain⟨r0,bU⟩:∃ v,ls.getD (o+(n-2)) 0=v:=⟨_,rfl⟩;obtain⟨d1,bV⟩:∃ v,(digs D).getD (n-1) 0=v:=⟨_,rfl⟩;obtain⟨d0,bN⟩:∃ v,(digs D).getD (n-2) 0=v:=⟨_,rfl⟩;rw[bT,bM,bU] at eR;rw[bV,bN] at eD;rw[bT] at bY cM;rw[bM] at cC bO;rw[bU] at cL bR;rw[bV] at bW bQ aI;rw[bN] at cN bH;have cB:val ((ls.drop o).take (n-2))<B^(n-2):=by
  have:=zby ((hwf.drop o).take (n-2))
  rwa [List.length_take,List.length_drop,Nat.min_eq_left (by omega)] at this
 have cJ:val ((digs D).take (n-2))<B^(n-2):=by
  have:=zby ((zaq D).take (n-2))
  rwa [List.length_take,Nat.min_eq_left (by rw[hA.out];omega)] at this
 have cH:B≤d1*B+d0:=by
  have:1*B≤d1*B:=Nat.mul_le_mul_right _ aI;omega
 have aK:r2≤d1:=by
  have hm:=Nat.pow_pos (n:=n-2) zaQ
  rcases Nat.lt_or_ge d1 r2 with h | h
  ·exfalso
   have k1:D<(d1+1)*B*B^(n-2):=by
    rw[eD];have:(d1*B+d0+1)*B^(n-2)≤(d1+1)*B*B^(n-2):=Nat.mul_le_mul_right _ (by rw[Nat.add_mul];have:d0<B:=bH;omega);rw[Nat.add_mul,Nat.one_mul] at this;omega
   have k2:D*B≤(d1+1)*B*B^(n-2)*B:=Nat.mul_le_mul_right _ (Nat.le_of_lt k1);have k3:(d1+1)*B*B^(n-2)*B≤R:=by
    rw[eR];have:(d1+1)*B*B*B^(n-2)≤((r2*B+r1)*B+r0)*B^(n-2):=Nat.mul_le_mul_right _ (by
     have k4:(d1+1)*B≤r2*B:=Nat.mul_le_mul_right _ h;have k5:(d1+1)*B*B≤(r2*B+r1)*B:=Nat.mul_le_mul_right _ (by omega);omega)
    rw[Nat.mul_assoc _ (B^(n-2)),Nat.mul_comm (B^(n-2)) B,←Nat.mul_assoc];omega
   omega
  ·exact h
 obtain⟨q,hq⟩:∃ q,q=min (B-1) (((r2*B+r1)*B+r0)/(d1*B+d0)):=⟨_,rfl⟩;obtain⟨g1,g2⟩:=zne B (B^(n-2)) R D _ _ _ _ q eR eD cB cJ cH hq hlt zd9;have cZ:q<18446744073709551616:=by
  have h5:q≤B-1:=by rw[hq];exact Nat.min_le_left _ _
  exact Nat.lt_of_le_of_lt h5 (Nat.sub_lt zaQ Nat.one_pos)
 have aZ:∀ W:World,Calls Tryz.prog 205 #[.int .u64 r2,.int .u64 r1,.int .u64 r0,.int .u64 d1,.int .u64 d0] W fun e w'=>e = .returned (.int .u64 (q:Int))∧∃ k,w'=W.drewN k:=fun W=>by
  rw[hq];exact zhG r2 r1 r0 d1 d0 W aK bO bR bQ bH aI
 have HE:=Aa aZ;have cT:=Aa g1;have dA:=Aa g2;have HR:=Aa hR;clear aZ g1 g2 hq eR eD cB cJ cH hR bT bM bU bV bN hlt aK;have i1:(n:Int)<(n:Int)+1:=by omega
 go_enter Tryz.func182,Tryz.ntmps182
 go_wp2
 go_quiet ((go_at_call 205;first | exact zfY (HE.out _) | exact zgb (HE.out _)))
 go_wp2_with fail
 have bS:=Aa hrow;have dE:=Aa hwf;have dI:Hid (val ((ls.drop o).take n)+B^n*ls.getD (o+n) 0=R):=by
  have h:=zag (ls.drop o) n;rw[zcL,←HR.out] at h;exact h.symm
 clear bY cC cL bW cN bQ bH cM bO bR aI i1
 go_loopw [7,8,43] (fun cy bo s wr=>∃ k cc bb:Nat,k≤n∧cc<18446744073709551616∧bb≤1∧s = .int .i64 k∧cy = .int .u64 cc∧bo = .int .u64 bb∧∃ l2,zav wr base g N C l2∧Wf l2∧Hid (val ((l2.drop o).take k)+q*val ((digs D).take k)=val ((ls.drop o).take k)+B^k*(cc+bb))∧Hid (∀ j,j<o∨o+k≤j→l2.getD j 0=ls.getD j 0)∧w.grownBy wr (some g)) (fun _ _ s _=>n-(intOf s).toNat)
 case atStart=>exact⟨0,0,0,by omega,by omega,by omega,rfl,rfl,rfl,ls,bS.out,dE.out,by simp[Hid],fun j _=>rfl,zkD (World.grownBy.refl w _) _⟩
 case round=>
  obtain⟨k,cc,bb,hk,bZ,bX,rfl,rfl,rfl,l2,aA,aH,aR,aD,bF⟩:=hrel
  by_cases hkn:k<n
  ·obtain⟨cV,e2,_,bK⟩:=(ha.kept bF hoff).words.word (k:=k) hkn
   injection e2 with e2
   subst e2;have bB:=zaF (zaq D) k;obtain⟨dk,aU⟩:∃ v,(digs D).getD k 0=v:=⟨_,rfl⟩;rw[aU] at bK bB;have aM:=aA.cell (o+k) (by omega);have bJ:=aA.free (o+k);have aV:=zaF aH (o+k);obtain⟨z,gz⟩:∃ v,l2.getD (o+k) 0=v:=⟨_,rfl⟩;rw[gz] at aM aV;obtain⟨p,bE,t1,hp,bL,aF⟩:=zdl q dk cc 0 cZ bB bZ (by omega)
   replace aF:∀ w:World,Calls Tryz.prog 162 #[.int .u64 q,.int .u64 dk,.int .u64 cc,.int .u64 0] w fun e w'=>e = .returned (.tuple #[.int .u64 (p:Int),.int .u64 (bE:Int)])∧w=w':=aF
   obtain⟨r,aL,t2,hr,bD,aP⟩:=ze5 z p bb aV hp bX;have HP:Hid (val (((l2.set (o+k) r).drop o).take (k+1))+q*val ((digs D).take (k+1))=val ((ls.drop o).take (k+1))+B^(k+1)*(bE+aL)):=by
    rw[Hid,drop_set];exact zj6 (l2.drop o) (ls.drop o) (digs D) k q p r cc bb bE aL (by rw[List.length_drop,aA.len];omega) aR.out (by rw[aU];exact t1) (by rw[zcL,←aD.out (o+k) (.inr (Nat.le_refl _)),gz];exact t2)
   have aW:Hid (∀ j,j<o∨o+(k+1)≤j→(l2.set (o+k) r).getD j 0=ls.getD j 0):=fun j hj=>by
    rw[zaJ _ _ _ _ (by omega)];exact aD.out j (by omega)
   clear t1 t2 aU gz
   go_wp2_with fail
   refine(aF _).mono ?_;rintro e w' ⟨rfl,rfl⟩;go_wp2
   go_roundw
   case rel=>exact⟨k+1,bE,aL,by omega,bL,bD,by go_num,rfl,rfl,_,aA.set (o+k) r,aH.set _ hr,HP,aW,zbd bF (p:=⟨g,o+k,none⟩) (.inl rfl) _⟩
   case measure=>simp[intOf]<;>omega
  ·obtain rfl:k=n:=by omega
   have aM:=aA.cell (o+k) (by omega);have bJ:=aA.free (o+k);have aV:=zaF aH (o+k);obtain⟨z,gz⟩:∃ v,l2.getD (o+k) 0=v:=⟨_,rfl⟩;rw[gz] at aM aV;obtain⟨r,aL,t2,hr,bD,aP⟩:=ze5 z cc bb aV bZ bX;have cG:val ((digs D).take k)=D:=by rw[List.take_of_length_le (by rw[hA.out];exact Nat.le_refl _),zak]
   have HP:Hid (val (((l2.set (o+k) r).drop o).take (k+1))+q*D=R+B^(k+1)*aL):=by
    have h:=aR.out;rw[cG] at h;have h2:=zm2 (l2.drop o) (ls.drop o) k q D r cc bb aL (by rw[List.length_drop,aA.len];omega) h (by rw[zcL,←aD.out (o+k) (.inr (Nat.le_refl _)),gz];exact t2);rw[Hid,drop_set,h2,HR.out]
   have aW:Hid (∀ j,j<o∨o+(k+1)≤j→(l2.set (o+k) r).getD j 0=ls.getD j 0):=fun j hj=>by
    rw[zaJ _ _ _ _ (by omega)];exact aD.out j (by omega)
   have aN:=aA.set (o+k) r;have bC:=aH.set (o+k) hr;have aY:w.grownBy (wr.setCell ⟨g,o+k,none⟩ (.int .u64 (r:Int))) (some g):=zbd bF (p:=⟨g,o+k,none⟩) (.inl rfl) _;have bG:=Aa aN;have bI:=Aa bC;have cF:=Aa aY;clear t2 gz cG aN bC aY
   by_cases hb0:aL=0
   ·subst hb0
    obtain⟨f1,f2⟩:=zlg R D q _ (B^(k+1)) cE HP.out cT.out;have F1:=Aa f1;have F2:=Aa f2;clear f1 f2;go_wp2
    go_ret;exact⟨by rw[←F1.out];rfl,_,bG.out,bI.out,F2.out,fun j hj=>aW.out j (by omega),cF.out⟩
   ·obtain rfl:aL=1:=by omega
    go_wp2
    obtain⟨l3,bP⟩:∃ l3,l3=l2.set (o+k) r:=⟨_,rfl⟩;rw[←bP] at HP aW bG bI;have cK:l3.getD (o+k) 0=r:=by rw[bP];exact zcX _ _ _ (by rw[aA.len];omega)
    have H3:=Aa cK;have dJ:=Aa aD;clear bP cK aD aR aA aH bF aM bJ aP
    go_loopw [7,87] (fun cy s wr=>∃ j cc:Nat,j≤k∧cc≤1∧s = .int .i64 j∧cy = .int .u64 cc∧∃ l4,zav wr base g N C l4∧Wf l4∧Hid (val ((l4.drop o).take j)+B^j*cc=val ((l3.drop o).take j)+val ((digs D).take j))∧Hid (∀ t,t<o∨o+j≤t→l4.getD t 0=l3.getD t 0)∧w.grownBy wr (some g)) (fun _ s _=>k-(intOf s).toNat)
    case atStart=>exact⟨0,0,by omega,by omega,rfl,rfl,l3,bG.out,bI.out,by simp[Hid],fun j _=>rfl,cF.out⟩
    case round=>
     obtain⟨j,c4,hj,cY,rfl,rfl,l4,aC,aT,aJ,aE,aQ⟩:=hrel
     by_cases hjk:j<k
     ·obtain⟨cV,e2,_,bK⟩:=(ha.kept aQ hoff).words.word (k:=j) hjk
      injection e2 with e2
      subst e2;have bB:=zaF (zaq D) j;obtain⟨dk,aU⟩:∃ v,(digs D).getD j 0=v:=⟨_,rfl⟩;rw[aU] at bK bB;have aM:=aC.cell (o+j) (by omega);have bJ:=aC.free (o+j);have bA:=zaF aT (o+j);obtain⟨z4,gz⟩:∃ v,l4.getD (o+j) 0=v:=⟨_,rfl⟩;rw[gz] at aM bA;obtain⟨s4,d4,t2,cO,dC,aP⟩:=zca z4 dk c4 bA bB cY;have cR:Hid (val (((l4.set (o+j) s4).drop o).take (j+1))+B^(j+1)*d4=val ((l3.drop o).take (j+1))+val ((digs D).take (j+1))):=by
       rw[Hid,drop_set];exact ze4 (l4.drop o) (l3.drop o) (digs D) j (by rw[List.length_drop,aC.len];omega) s4 c4 d4 aJ.out (by rw[zcL,←aE.out (o+j) (.inr (Nat.le_refl _)),gz,aU];exact t2)
      have cQ:Hid (∀ t,t<o∨o+(j+1)≤t→(l4.set (o+j) s4).getD t 0=l3.getD t 0):=fun t ht=>by
       rw[zaJ _ _ _ _ (by omega)];exact aE.out t (by omega)
      clear t2 aU gz;go_wp2
      go_roundw
      case rel=>exact⟨j+1,d4,by omega,dC,by go_num,rfl,_,aC.set (o+j) s4,aT.set _ cO,cR,cQ,zbd aQ (p:=⟨g,o+j,none⟩) (.inl rfl) _⟩
      case measure=>simp[intOf]<;>omega
     ·obtain rfl:j=k:=by omega
      have aM:=aC.cell (o+j) (by omega);have bJ:=aC.free (o+j);rw[aE.out (o+j) (.inr (Nat.le_refl _)),H3.out] at aM;have ew:IntKind.u64.wrap ((r:Int)+(c4:Int))=(((r+c4)%B:Nat):Int):=by
       rw[←Int.natCast_add,zjn];rfl
      have aO:=znl (l4.drop o) (l3.drop o) j r c4 ((r+c4)%B) ((r+c4)/B) D (by rw[List.length_drop,aC.len];omega) (by rw[zcL];exact H3.out) (Nat.mod_add_div _ _)
       (by rw[aJ.out,List.take_of_length_le (l:=digs D) (by rw[hA.out];exact Nat.le_refl _),zak])
      rw[←drop_set] at aO;have aG:=aC.set (o+j) ((r+c4)%B);have aS:=aT.set (o+j) (Nat.mod_lt (r+c4) zaQ);have cW:D≤B^(j+1):=by
       have h6:=zad D;rw[hA.out] at h6;have h7:B^j≤B^(j+1):=Nat.pow_le_pow_right zaQ (by omega);omega
      have cA:val ((l3.drop o).take (j+1))+q*D=R+B^(j+1):=by have h:=HP.out;rwa [Nat.mul_one] at h
      obtain⟨f1,f2,f3⟩:=zlv R D q _ (B^(j+1)) _ ((r+c4)/B) 0 0 cE cW cA (zok bI.out o j (by rw[bG.out.len];omega)) dA.out (zok aS o j (by rw[aG.len];omega)) aO;have aX:w.grownBy (wr.setCell ⟨g,o+j,none⟩ (.int .u64 (((r+c4)%B:Nat):Int))) (some g):=zbd aQ (p:=⟨g,o+j,none⟩) (.inl rfl) _;have cU:Hid (∀ t,t<o∨o+j+1≤t→(l4.set (o+j) ((r+c4)%B)).getD t 0=ls.getD t 0):=fun t ht=>by
       rw[zaJ _ _ _ _ (by omega),aE.out t (by omega),aW.out t (by omega)]
      have dG:(1:Int)≤q:=by omega
      have HV:Hid (((R/D:Nat):Int)=(q:Int)-1):=by unfold Hid;rw[←f1];omega
      have F3:=Aa f3;have cS:=Aa aG;have dB:=Aa aS;have cP:=Aa aX;clear f1 f2 f3 aG aS aX aO cA;generalize (r+c4)%B=x5 at *;go_wp2
      go_ret;exact⟨by rw[HV.out];rfl,_,cS.out,dB.out,F3.out,cU.out,cP.out⟩
theorem zaS(A A':Option Addr)(n c n' c' x y:Nat)(w:World)(ha:NatS w w.heap.size A n c x)(hb:NatS w w.heap.size A' n' c' y) :
  Calls Tryz.prog 124 #[.slice A n c,.slice A' n' c'] w fun e w'=>e = .returned (.int .i64 (ncmp x y))∧∃ q,w'=w.drewN q:=by
 have aC:=ha.len;have aE:=hb.len;have h1:=ha.cm;have h2:=ha.nc;have h3:=hb.cm;have h4:=hb.nc;unfold maxLen at h1 h3
 rcases Nat.lt_trichotomy n n' with aN | aQ | aO
 ·have hr:ncmp x y = -1:=ncmp_lt (zbC (by omega))
  have HR:=Aa hr;clear hr aC aE;have e1:(((n:Nat):Int) != n')=true:=by rw[bne_iff_ne];omega
  have e2:decide (n'<n)=false:=by simp;omega
  go_enter Tryz.func124,Tryz.ntmps124
  go_wp2_with fail
  refine(zcI _ _).mono ?_;rintro e w1 ⟨rfl,rfl⟩;go_wp2
  go_ret;exact⟨by rw[HR.out];rfl,0,rfl⟩
 ·subst aQ
  go_enter Tryz.func124,Tryz.ntmps124
  have HA:=Aa aC;have HB:=Aa aE;clear aC aE
  go_wp2_with fail
  go_loopw [5] (fun s wr=>∃ i:Int, -1≤i∧i<n∧s = .int .i64 i∧Hid (∀ j (h:j<(digs x).length) (h':j<(digs y).length),i<(j:Int)→(digs x)[j]=(digs y)[j])∧∃ q,wr=w.drewN q) (fun s _=>(intOf s+1).toNat)
  case atStart=>
   refine⟨_,by omega,by omega,rfl,?_,0,rfl⟩;intro j h h' hj;have:=HA.out;omega
  case round=>
   obtain⟨i,aY,aV,rfl,hz,q,rfl⟩:=hrel
   by_cases h0:0≤i
   ·obtain⟨k,rfl⟩:=Int.eq_ofNat_of_zero_le h0
    have aD:k<n:=by omega
    obtain⟨ad,rfl,aS,aL⟩:=ha.words.word (k:=k) aD;obtain⟨aW,rfl,aT,aR⟩:=hb.words.word (k:=k) aD;have aM:k<(digs x).length:=by rw[HA.out];exact aD
    have aH:k<(digs y).length:=by rw[HB.out];exact aD
    have aK:(digs x).getD k 0=(digs x)[k]:=by simp[List.getD,aM]
    have aJ:(digs y).getD k 0=(digs y)[k]:=by simp[List.getD,aH]
    have HX:=Aa aK;have HY:=Aa aJ;clear aK aJ;generalize aP:(digs x).getD k 0=xk at aL;generalize aI:(digs y).getD k 0=yk at aR;have aF:=Aa aP;have aG:=Aa aI;clear aP aI;have aU:=aL;have aX:(k:Int)<(n:Int):=by omega
    by_cases he:xk=yk
    ·subst he
     have e3:(((xk:Nat):Int) != xk)=false:=by simp
     go_wp2
     go_quiet (fail)
     go_wp2
     go_roundw
     case rel=>
      refine⟨(k:Int)-1,by omega,by omega,by go_num,?_,_,rfl⟩;intro j h h' hj
      rcases Nat.lt_or_ge k j with h5 | h5
      ·exact hz.out j h h' (by omega)
      ·obtain rfl:j=k:=by omega
       rw[←HX.out,←HY.out,aF.out,aG.out]
     case measure=>simp[intOf]<;>omega
    ·have e3:(((xk:Nat):Int) != yk)=true:=by rw[bne_iff_ne];omega
     have aA:(digs x).length=(digs y).length:=by rw[HA.out,HB.out]
     have HL:=Aa aA;clear aA
     by_cases aN:xk<yk
     ·have hr:ncmp x y = -1:=ncmp_lt (zeJ HL.out k aM (fun j h h' hj=>hz.out j h h' (by omega)) (by rw[aF.out,aG.out];exact aN))
      have HR:=Aa hr;clear hr;have e4:decide (yk<xk)=false:=by simp;omega
      go_wp2
      go_quiet (fail)
      go_wp2
      go_quiet ((go_at_call 129;first | exact zbQ (zcI _ _) | exact zcw (zcI _ _)))
      go_wp2
      go_ret;exact⟨by rw[HR.out];rfl,by first | exact⟨_,rfl⟩ | (simp only[World.drewN_drewN];exact⟨_,rfl⟩)⟩
     ·have aO:yk<xk:=by omega
      have hr:ncmp x y=1:=ncmp_gt (zeJ HL.out.symm k aH (fun j h h' hj=>(hz.out j h' h (by omega)).symm) (by rw[aF.out,aG.out];exact aO));have HR:=Aa hr;clear hr;have e4:decide (yk<xk)=true:=by simp;omega
      go_wp2
      go_quiet (fail)
      go_wp2
      go_quiet ((go_at_call 129;first | exact zbQ (zcI _ _) | exact zcw (zcI _ _)))
      go_wp2
      go_ret;exact⟨by rw[HR.out];rfl,by first | exact⟨_,rfl⟩ | (simp only[World.drewN_drewN];exact⟨_,rfl⟩)⟩
   ·go_wp2
    go_ret;obtain rfl:x=y:=zgR (by rw[HA.out,HB.out]) (fun j h h'=>hz.out j h h' (by omega));exact⟨by rw[ncmp_eq];rfl,q,rfl⟩
 ·have hr:ncmp x y=1:=ncmp_gt (zbC (by omega))
  have HR:=Aa hr;clear hr aC aE;have e1:(((n:Nat):Int) != n')=true:=by rw[bne_iff_ne];omega
  have e2:decide (n'<n)=true:=by simp;omega
  go_enter Tryz.func124,Tryz.ntmps124
  go_wp2_with fail
  refine(zcI _ _).mono ?_;rintro e w1 ⟨rfl,rfl⟩;go_wp2
  go_ret;exact⟨by rw[HR.out];rfl,0,rfl⟩
end Go.Proofs.YtmkondcdejlhcaaGreatDoor
