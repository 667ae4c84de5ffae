/- Contracts of the functions of package number on naturals: minus, timesPlus, times. -/
import Derived.Test.YteajibbphcfmeaaGreatDoorTDiv1
import Derived.Test.YteajibbphcfmeaaGreatDoorTShelf
import Derived.Test.YteajibbphcfmeaaGreatDoorTNat5
namespace Go.Proofs.YteajibbphcfmeaaGreatDoor
open Go.RowKit Bn
set_option maxHeartbeats 1000000 in
set_option maxRecDepth 100000 in
theorem minus_any (A A':Option Addr) (n c n' c' x y:Nat) (w:World) (ha:NatS w w.heap.size A n c x) (hb:NatS w w.heap.size A' n' c' y) (hyx:y≤x) (hn:n≤1099511627776) :
  Calls Tryz.prog 130 #[.slice A n c,.slice A' n' c'] w (RetNat w (x - y)):=by
 obtain ⟨i0,hi0,hz0,hz1,hz2⟩:=info_parts info_u64
 go_enter Tryz.func130,Tryz.ntmps130
 go_wp2_with (at_make;refine wpList_make_full _ rfl _ _ 89 rfl w.heap.size 120 i0 (.int .u64 0) 1 Tryz.underlying89 hi0 hz0 hz1 _ _ _ _ n rfl rfl (by omega) (by omega) ?b2 ?b3 (Nat.le_refl _) ?_)
 case b2=>rw [hz2];omega
 case b3=>unfold maxLen;omega
 intro w0 hown0 hgrow0
 have hbel0:Below w.heap.size w w0:=(Below.refl _ _).grown hgrow0 (Nat.le_refl _) (fun k h=>by cases h)
 have hrow0:=RowAt.made hown0
 clear hown0 hgrow0
 have hc:=subtract_any A A' w.heap.size w.heap.size n n n c n' c' x y _ w0 False hrow0 (Wf.replicate n) (ha.later hbel0) (hb.later hbel0) (.inl ⟨ha.off (Nat.le_refl _),id⟩) (hb.off (Nat.le_refl _)) (Nat.le_refl _) hyx hn
 go_wp2_with fail
 refine hc.mono ?_
 rintro e w1 ⟨m,rfl,hn1,hg1⟩
 go_wp2
 go_ret
 exact ⟨_,m,_,rfl,hn1.nat,hbel0.grown hg1 hbel0.size (fun k hk=>by cases hk;exact Nat.le_refl _)⟩
theorem call_mul64 (x y:Nat) (hx:x<18446744073709551616) (hy:y<18446744073709551616) :
  ∃ hi lo:Nat,lo+18446744073709551616*hi=x*y∧lo<18446744073709551616∧hi<18446744073709551616 ∧
   ∀ w:World,Calls Tryz.prog 194 #[.int .u64 x,.int .u64 y] w fun e w'=>e = .returned (.tuple #[.int .u64 (hi:Int),.int .u64 (lo:Int)])∧w'=w:=by
 refine ⟨x*y / 18446744073709551616,x*y % 18446744073709551616,Nat.mod_add_div _ _,Nat.mod_lt _ (by omega),?_,fun w=>Tryz.bits_Mul64 x y hx hy w⟩
 exact Nat.div_lt_of_lt_mul (mul_lt_two x y hx hy)
set_option maxHeartbeats 1000000 in
theorem timesPlus_any (a b c d:Nat) (ha:a<18446744073709551616) (hb:b<18446744073709551616) (hc:c<18446744073709551616) (hd:d<18446744073709551616) :
  ∃ lo hi:Nat,lo+18446744073709551616*hi=a*b+c+d∧lo<18446744073709551616∧hi<18446744073709551616 ∧
   ∀ w:World,Calls Tryz.prog 156 #[.int .u64 a,.int .u64 b,.int .u64 c,.int .u64 d] w fun e w'=>e = .returned (.tuple #[.int .u64 (lo:Int),.int .u64 (hi:Int)])∧w=w':=by
 obtain ⟨h,l,hm,hl,hh,hcall⟩:=call_mul64 a b ha hb
 obtain ⟨l1,c1,e1,hl1,hc1,run1⟩:=call_add64 l c 0 hl hc (by omega)
 obtain ⟨l2,c2,e2,hl2,hc2,run2⟩:=call_add64 l1 d 0 hl1 hd (by omega)
 have hbound:=mul_bound a b ha hb
 have hle:h+c1+c2<18446744073709551616:=by omega
 refine ⟨l2,h+c1+c2,by omega,hl2,hle,fun w => ?_⟩
 replace run1:∀ w:World,(callFunc 176 #[.int .u64 l,.int .u64 c,.int .u64 0]).run Tryz.prog w = .ok (.value (.tuple #[.int .u64 l1,.int .u64 c1])) w:=run1
 replace run2:∀ w:World,(callFunc 176 #[.int .u64 l1,.int .u64 d,.int .u64 0]).run Tryz.prog w = .ok (.value (.tuple #[.int .u64 l2,.int .u64 c2])) w:=run2
 clear e1 e2 hm hbound
 go_enter Tryz.func156,Tryz.ntmps156
 go_wp2_with fail
 refine (hcall _).mono ?_
 rintro e w' ⟨rfl,rfl⟩
 go_wp2
 go_ret2
 exact ⟨rfl,rfl⟩
def TimesInv (w wr:World) (n n':Nat) (la lb:List Nat) (i:Nat):Prop:=
 ∃ ls,RowAt wr w.heap.size w.heap.size (n+n') (n+n') ls∧Wf ls∧val ls=val (la.take i)*val lb∧(∀ t,i+n'≤t→ls.getD t 0=0)∧Below w.heap.size w wr
def TimesIn (w wr:World) (n n':Nat) (la lb:List Nat) (i j c:Nat):Prop:=
 ∃ ls,RowAt wr w.heap.size w.heap.size (n+n') (n+n') ls∧Wf ls∧val ls+B ^ (i+j)*c=val (la.take i)*val lb+B ^ i*(la.getD i 0*val (lb.take j))∧(∀ t,i+n'≤t→ls.getD t 0=0)∧Below w.heap.size w wr
set_option maxHeartbeats 4000000 in
set_option maxRecDepth 100000 in
theorem times_any (A A':Option Addr) (n c n' c' x y:Nat) (w:World) (ha:NatS w w.heap.size A n c x) (hb:NatS w w.heap.size A' n' c' y) (hn:n≤1099511627776) (hn':n'≤1099511627776) :
  Calls Tryz.prog 105 #[.slice A n c,.slice A' n' c'] w (RetNat w (x*y)):=by
 obtain ⟨i0,hi0,hz0,hz1,hz2⟩:=info_parts info_u64
 have hla:=ha.len
 have hlb:=hb.len
 have hA:=Lib.hid hla
 have hB:=Lib.hid hlb
 clear hla hlb
 have h1:=ha.nc
 have h2:=ha.cm
 have h3:=hb.nc
 have h4:=hb.cm
 unfold maxLen at h2 h4
 go_enter Tryz.func105,Tryz.ntmps105
 go_wp2_with (at_make;refine wpList_make_full _ rfl _ _ 89 rfl w.heap.size 120 i0 (.int .u64 0) 1 Tryz.underlying89 hi0 hz0 hz1 _ _ _ _ (n+n') rfl rfl (by omega) (by omega) ?b2 ?b3 (Nat.le_refl _) ?_)
 case b2=>rw [hz2];omega
 case b3=>unfold maxLen;omega
 intro w0 hown0 hgrow0
 have hbel0:Below w.heap.size w w0:=(Below.refl _ _).grown hgrow0 (Nat.le_refl _) (fun k h=>by cases h)
 have hrow0:=RowAt.made hown0
 clear hown0 hgrow0
 go_wp2
 go_loopw [19] (fun s wr=>∃ i:Nat,i≤n∧s = .int .i64 i∧TimesInv w wr n n' (digs x) (digs y) i) (fun s _=>n - (intOf s).toNat)
 case atStart=>exact ⟨0,by omega,rfl,_,hrow0,Wf.replicate _,by simp [val_replicate_zero],fun t _=>lgetD_zeros _ _,hbel0⟩
 case round=>
  obtain ⟨i,hi,rfl,ls,hrow,hwf,hval,hz,hbel⟩:=hrel
  obtain ⟨wo,rfl⟩:∃ wo:World,wo=wr:=⟨_,rfl⟩
  have HV:=Lib.hid hval
  have HZ:=Lib.hid hz
  clear hval hz
  by_cases hin:i<n
  ·obtain ⟨ad,rfl,hba,hca⟩:=(ha.below hbel).words.word (k:=i) hin
   have hxB:=getD_lt (wf_digs x) i
   obtain ⟨f,hgx⟩:∃ f,(digs x).getD i 0=f:=⟨_,rfl⟩
   rw [hgx] at hca hxB
   have HF:=Lib.hid hgx
   clear hgx
   go_wp2_with fail
   go_loopw [8,26] (fun cy s wr=>∃ j c0:Nat,j≤n'∧c0<18446744073709551616∧s = .int .i64 j∧cy = .int .u64 c0∧TimesIn w wr n n' (digs x) (digs y) i j c0) (fun _ s _=>n' - (intOf s).toNat)
   case atStart=>exact ⟨0,0,by omega,by omega,rfl,rfl,ls,hrow,hwf,by rw [HV.out];simp,HZ.out,hbel⟩
   case round=>
    obtain ⟨j,c0,hj,hc0,rfl,rfl,l2,hrow2,hwf2,hval2,hz2',hbel2⟩:=hrel
    have HV2:=Lib.hid hval2
    have HZ2:=Lib.hid hz2'
    clear hval2 hz2'
    by_cases hjn:j<n'
    ·obtain ⟨ad',rfl,hbb,hcb⟩:=(hb.below hbel2).words.word (k:=j) hjn
     have hyB:=getD_lt (wf_digs y) j
     obtain ⟨yk,hgy⟩:∃ yk,(digs y).getD j 0=yk:=⟨_,rfl⟩
     rw [hgy] at hcb hyB
     have hcs:=hrow2.cell (i+j) (by omega)
     have hfs:=hrow2.free (i+j)
     have hoB:=getD_lt hwf2 (i+j)
     obtain ⟨o,hgo⟩:∃ o,l2.getD (i+j) 0=o:=⟨_,rfl⟩
     rw [hgo] at hcs hoB
     obtain ⟨lo,hi',e1,hlo,hhi,hcall⟩:=timesPlus_any f yk o c0 hxB hyB hoB hc0
     have HP:Hid (val (l2.set (i+j) lo)+B ^ (i+(j+1))*hi'=val ((digs x).take i)*val (digs y)+B ^ i*((digs x).getD i 0*val ((digs y).take (j+1)))):=
      times_round l2 (digs y) i j _ _ lo hi' c0 (by rw [hrow2.len];omega) HV2.out (by rw [hgy,hgo,HF.out];exact e1)
     have HZ3:Hid (∀ t,i+n'≤t→(l2.set (i+j) lo).getD t 0=0):=fun t ht=>by rw [lgetD_set_ne _ _ _ _ (by omega)];exact HZ2.out t ht
     clear e1 hgy hgo
     go_wp2_with fail
     refine (hcall _).mono ?_
     rintro e w' ⟨rfl,rfl⟩
     go_wp2
     go_roundw
     case rel=>exact ⟨j+1,hi',by omega,hhi,by go_num,rfl,_,hrow2.set (i+j) lo,hwf2.set _ hlo,HP.out,HZ3.out,hbel2.setCell (Nat.le_refl _) _⟩
     case measure=>simp [intOf]<;>omega
    ·obtain rfl:j=n':=by omega
     have hcs:=hrow2.cell (i+j) (by omega)
     have hfs:=hrow2.free (i+j)
     have HP:Hid (val (l2.set (i+j) c0)=val ((digs x).take (i+1))*val (digs y)):=
      times_row l2 (digs x) (digs y) i j c0 (by rw [hrow2.len];omega) (HZ2.out _ (Nat.le_refl _)) hB.out HV2.out
     have HZ3:Hid (∀ t,i+1+j≤t→(l2.set (i+j) c0).getD t 0=0):=fun t ht=>by rw [lgetD_set_ne _ _ _ _ (by omega)];exact HZ2.out t (by omega)
     generalize l2.getD (i+j) 0=old at hcs
     go_wp2
     go_roundw
     case rel=>exact ⟨i+1,by omega,by go_num,_,hrow2.set (i+j) c0,hwf2.set _ hc0,HP.out,HZ3.out,hbel2.setCell (Nat.le_refl _) _⟩
     case measure=>simp [intOf]<;>omega
  ·obtain rfl:i=n:=by omega
   have hv:val ls=x*y:=by rw [HV.out,List.take_of_length_le (by rw [hA.out];exact Nat.le_refl _),val_digs,val_digs]
   have ht:=trimmed_nat (some ⟨w.heap.size,0,none⟩) (i+n') (i+n') ls wo hrow.words hwf (Nat.le_refl _) (by unfold maxLen;omega)
   rw [hv] at ht
   have HC:=Lib.hid ht
   clear ht hv
   go_wp2_with fail
   refine HC.out.mono ?_
   rintro e w1 ⟨m,rfl,hn1,rfl⟩
   go_wp2
   go_ret
   exact ⟨_,m,_,rfl,hn1,hbel⟩
end Go.Proofs.YteajibbphcfmeaaGreatDoor
namespace Go.Proofs.YteajibbphcfmeaaGreatDoor.Bn
section
variable {b r2 r1 r0 d1 d0 q rest:Nat}
theorem est_step (hq:r2*b+r1=q*d1+rest) (_hb:0<b) (ht:min (b - 1) (((r2*b+r1)*b+r0) / (d1*b+d0))≤q) (hlt:rest*b+r0<q*d0) :
  1≤q∧min (b - 1) (((r2*b+r1)*b+r0) / (d1*b+d0))≤q - 1:=by
 have _:=ht
 have h1:1≤q:=by
  rcases Nat.eq_zero_or_pos q with rfl | h
  ·simp at hlt
  ·exact h
 refine ⟨h1,Nat.le_trans (Nat.min_le_right _ _) ?_⟩
 have:((r2*b+r1)*b+r0) / (d1*b+d0)<q:=by
  rcases Nat.eq_zero_or_pos (d1*b+d0) with h | h
  ·have:d0=0:=by omega
   subst this
   simp at hlt
  ·rw [Nat.div_lt_iff_lt_mul h,hq,Nat.mul_add,Nat.add_mul,←Nat.mul_assoc]
   omega
 omega
theorem est_stop (hq:r2*b+r1=q*d1+rest) (hb:0<b) (hd:0<d1) (hqb:q<b) (ht:min (b - 1) (((r2*b+r1)*b+r0) / (d1*b+d0))≤q) (hle:q*d0≤rest*b+r0) :
  q=min (b - 1) (((r2*b+r1)*b+r0) / (d1*b+d0)):=by
 refine Nat.le_antisymm (Nat.le_min.2 ⟨by omega,?_⟩) ht
 have h0:0<d1*b+d0:=by have:=Nat.mul_pos hd hb;omega
 rw [Nat.le_div_iff_mul_le h0,hq,Nat.mul_add,Nat.add_mul,←Nat.mul_assoc]
 omega
theorem est_carry (hq:r2*b+r1=q*d1+rest) (hb:0<b) (hd:0<d1) (hqb:q<b) (hd0:d0<b) (ht:min (b - 1) (((r2*b+r1)*b+r0) / (d1*b+d0))≤q) (hr:b≤rest) :
  q=min (b - 1) (((r2*b+r1)*b+r0) / (d1*b+d0)):=by
 refine est_stop hq hb hd hqb ht ?_
 have h1:q*d0≤b*b:=Nat.mul_le_mul (by omega) (by omega)
 have h2:b*b≤rest*b:=Nat.mul_le_mul_right _ hr
 omega
theorem est_dec (hq:r2*b+r1=q*d1+rest) (h1:1≤q):r2*b+r1=(q - 1)*d1+(rest+d1):=by
 obtain ⟨p,rfl⟩:∃ p,q=p+1:=⟨q - 1,by omega⟩
 rw [Nat.add_sub_cancel]
 rw [Nat.add_mul] at hq
 omega
theorem est_init_lt (hd:0<d1) (hr0:r0<b) (hq:q=(r2*b+r1) / d1):min (b - 1) (((r2*b+r1)*b+r0) / (d1*b+d0))≤q:=by
 refine Nat.le_trans (Nat.min_le_right _ _) ?_
 rw [hq]
 exact half_init hr0 rfl hd
end
theorem est_good (b m R D N3 D2 lr ld q:Nat) (hR:R=N3*m+lr) (hD:D=D2*m+ld) (hlr:lr<m) (hld:ld<m) (hD2:b≤D2) (hq:q=min (b - 1) (N3 / D2)) (hlt:R<D*b) (hb:1<b) :
  R / D≤q∧q≤R / D+1:=by
 have hm:0<m:=by omega
 have hD0:0<D:=by
  rw [hD]
  have:=Nat.mul_pos (show 0<D2 by omega) hm
  omega
 constructor
 ·rw [hq]
  refine Nat.le_min.2 ⟨?_,?_⟩
  ·have:R / D<b:=by rw [Nat.div_lt_iff_lt_mul hD0,Nat.mul_comm];exact hlt
   omega
  ·rw [Nat.le_div_iff_mul_le (by omega)]
   have h1:R / D*D≤R:=Nat.div_mul_le_self _ _
   generalize R / D=t at *
   rw [hD,hR,Nat.mul_add,←Nat.mul_assoc] at h1
   have h2:t*D2*m<(N3+1)*m:=by rw [Nat.add_mul,Nat.one_mul];omega
   have:=Nat.lt_of_mul_lt_mul_right h2
   omega
 ·have h1:q*D2≤N3:=by
   have:q≤N3 / D2:=by rw [hq];exact Nat.min_le_right _ _
   exact (Nat.le_div_iff_mul_le (by omega)).1 this
  have h2:q≤b - 1:=by rw [hq];exact Nat.min_le_left _ _
  rcases Nat.eq_zero_or_pos q with h0 | h0
  ·rw [h0];exact Nat.zero_le _
  have h3:q - 1≤R / D:=by
   rw [Nat.le_div_iff_mul_le hD0]
   have h4:q*ld≤D:=by
    have h5:q*ld≤b*m:=Nat.mul_le_mul (by omega) (by omega)
    have h6:b*m≤D2*m:=Nat.mul_le_mul_right _ hD2
    omega
   have h7:q*D=q*D2*m+q*ld:=by rw [hD,Nat.mul_add,Nat.mul_assoc]
   have h8:q*D2*m≤N3*m:=Nat.mul_le_mul_right _ h1
   have h9:(q - 1)*D+D=q*D:=by
    obtain ⟨p,rfl⟩:∃ p,q=p+1:=⟨q - 1,by omega⟩
    rw [Nat.add_sub_cancel,Nat.add_mul,Nat.one_mul]
   omega
  generalize R / D=t at *
  clear hq
  omega
end Go.Proofs.YteajibbphcfmeaaGreatDoor.Bn
namespace Go.Proofs.YteajibbphcfmeaaGreatDoor
open Go.RowKit Bn
theorem drop_set_cons (l:List Nat) (k x:Nat) (hk:k<l.length):(l.set k x).drop k=x :: l.drop (k+1):=by
 rw [List.drop_eq_getElem_cons (by simpa using hk),List.getElem_set_self,List.drop_set_of_lt (by omega)]
theorem drop_getD (l:List Nat) (k:Nat) (hk:k<l.length):l.drop k=l.getD k 0 :: l.drop (k+1):=by
 rw [List.drop_eq_getElem_cons hk,Bn.getD_in hk]
theorem word_round (ls la:List Nat) (k q r rest b:Nat) (hk:k<ls.length) (hk':k<la.length) (hinv:val (ls.drop (k+1))*b+rest=val (la.drop (k+1)))
  (hd:rest*18446744073709551616+la.getD k 0=q*b+r):val ((ls.set k q).drop k)*b+r=val (la.drop k):=by
 rw [drop_set_cons ls k q hk,drop_getD la k hk',val_cons,val_cons,←hinv,Nat.add_mul,Nat.mul_add,Nat.mul_assoc]
 have e:B*rest=rest*18446744073709551616:=Nat.mul_comm _ _
 rw [e]
 generalize B*(val (ls.drop (k+1))*b)=t
 omega
set_option maxHeartbeats 2000000 in
set_option maxRecDepth 100000 in
theorem overWord_any (A:Option Addr) (n c x b:Nat) (w:World) (ha:NatS w w.heap.size A n c x) (hn:n≤1099511627776) (hb0:0<b) (hb:b<18446744073709551616) :
  Calls Tryz.prog 177 #[.slice A n c,.int .u64 b] w fun e w'=>∃ m c',e = .returned (.tuple #[.slice (some ⟨w.heap.size,0,none⟩) m c',.int .u64 ((x % b:Nat):Int)])∧RowAt w' w.heap.size w.heap.size m c' (digs (x / b))∧Below w.heap.size w w':=by
 obtain ⟨i0,hi0,hz0,hz1,hz2⟩:=info_parts info_u64
 have hA:=Lib.hid ha.len
 have h1:=ha.nc
 have h2:=ha.cm
 unfold maxLen at h2
 go_enter Tryz.func177,Tryz.ntmps177
 go_wp2_with (at_make;refine wpList_make_full _ rfl _ _ 89 rfl w.heap.size 120 i0 (.int .u64 0) 1 Tryz.underlying89 hi0 hz0 hz1 _ _ _ _ n rfl rfl (by omega) (by omega) ?b2 ?b3 (Nat.le_refl _) ?_)
 case b2=>rw [hz2];omega
 case b3=>unfold maxLen;omega
 intro w0 hown0 hgrow0
 have hbel0:Below w.heap.size w w0:=(Below.refl _ _).grown hgrow0 (Nat.le_refl _) (fun k h=>by cases h)
 have hrow0:=RowAt.made hown0
 clear hown0 hgrow0
 go_wp2
 go_loopw [7,8] (fun rs s wr=>∃ (k rest:Nat) (i:Int),i=(k:Int) - 1∧k≤n∧rest<b∧s = .int .i64 i∧rs = .int .u64 rest∧∃ ls,RowAt wr w.heap.size w.heap.size n n ls∧Wf ls∧Hid (val (ls.drop k)*b+rest=val ((digs x).drop k))∧Below w.heap.size w wr) (fun _ s _=>(intOf s+1).toNat)
 case atStart=>
  refine ⟨n,0,_,rfl,Nat.le_refl _,hb0,rfl,rfl,_,hrow0,Wf.replicate _,?_,hbel0⟩
  rw [Hid,List.drop_of_length_le (by simp),List.drop_of_length_le (by rw [hA.out];exact Nat.le_refl _)]
  simp
 case round=>
  obtain ⟨k,rest,i,hi,hk,hrest,rfl,rfl,ls,hrow,hwf,hval,hbel⟩:=hrel
  have HI:=Lib.hid hi
  by_cases hk0:0<k
  ·obtain ⟨j,rfl⟩:∃ j,k=j+1:=⟨k - 1,by omega⟩
   obtain rfl:i=(j:Int):=by omega
   clear hi HI
   obtain ⟨ad,rfl,hba,hca⟩:=(ha.below hbel).words.word (k:=j) (by omega)
   have hzB:=getD_lt (wf_digs x) j
   obtain ⟨z,hg⟩:∃ z,(digs x).getD j 0=z:=⟨_,rfl⟩
   rw [hg] at hca hzB
   have hcs:=hrow.cell j (by omega)
   have hfs:=hrow.free j
   generalize ls.getD j 0=old at hcs
   obtain ⟨q,r,hd,hr,hq,hcall⟩:=div64_any rest z b wr hrest hzB hb
   have HP:Hid (val ((ls.set j q).drop j)*b+r=val ((digs x).drop j)):=
    word_round ls (digs x) j q r rest b (by rw [hrow.len];omega) (by rw [hA.out];omega) hval.out (by rw [hg];exact hd)
   clear hd hg
   go_wp2_with fail
   refine hcall.mono ?_
   rintro e w' ⟨rfl,kq,rfl⟩
   go_wp2
   go_roundw
   case rel=>exact ⟨j,r,(j:Int) - 1,rfl,by omega,hr,by go_num,rfl,_,(hrow.drewN kq).set j q,hwf.set _ hq,HP,(below_drewN hbel kq).setCell (Nat.le_refl _) _⟩
   case measure=>simp [intOf]<;>omega
  ·obtain rfl:k=0:=by omega
   have hi0':i<0:=by omega
   have hv:val ls=x / b∧rest=x % b:=by
    have h:=hval.out
    rw [List.drop_zero,List.drop_zero,val_digs] at h
    rw [←h,Nat.mul_comm,Nat.mul_add_div hb0,Nat.div_eq_of_lt hrest,Nat.mul_add_mod,Nat.mod_eq_of_lt hrest]
    exact ⟨rfl,rfl⟩
   have ht:=trimmed_row w.heap.size w.heap.size n n ls wr hrow hwf
   rw [hv.1] at ht
   have HC:=Lib.hid ht
   have HR:=Lib.hid hv.2
   clear ht hv hi
   go_wp2_with fail
   refine HC.out.mono ?_
   rintro e w1 ⟨m,rfl,hn1,rfl⟩
   go_wp2
   go_ret2
   exact ⟨m,n,by rw [←HR.out];rfl,hn1,hbel⟩
set_option maxHeartbeats 2000000 in
set_option maxRecDepth 100000 in
theorem estimate_any (r2 r1 r0 d1 d0:Nat) (w:World) (h2:r2≤d1) (h1:r1<18446744073709551616) (h0:r0<18446744073709551616) (hd1:d1<18446744073709551616) (hd0:d0<18446744073709551616) (hd:0<d1) :
  Calls Tryz.prog 208 #[.int .u64 r2,.int .u64 r1,.int .u64 r0,.int .u64 d1,.int .u64 d0] w fun e w'=>e = .returned (.int .u64 ((min (B - 1) (((r2*B+r1)*B+r0) / (d1*B+d0)):Nat):Int))∧∃ k,w'=w.drewN k:=by
 obtain ⟨T,hT⟩:∃ v,v=min (B - 1) (((r2*B+r1)*B+r0) / (d1*B+d0)):=⟨_,rfl⟩
 have HT:=Lib.hid hT
 rw [←hT]
 clear hT
 go_enter Tryz.func208,Tryz.ntmps208
 go_upto_if 18 with (fail)
 go_cut [11,12,13] (fun a b c wc=>∃ q rest k cy:Nat,a = .int .u64 (q:Int)∧b = .int .u64 (rest:Int)∧c = .int .u64 (cy:Int)∧q<18446744073709551616∧rest<18446744073709551616∧cy≤1∧Hid (r2*B+r1=q*d1+(rest+B*cy))∧Hid (T≤q)∧wc=w.drewN k)
 case first=>
  by_cases hlt:r2<d1
  ·have hd:decide ((r2:Int)<(d1:Int))=true:=by rw [decide_eq_true_iff];omega
   obtain ⟨q,r,hqr,hr,hq,hcall⟩:=div64_any r2 r1 d1 w hlt h1 hd1
   have HQ:=Lib.hid hqr
   clear hqr
   go_wp2_with fail
   refine hcall.mono ?_
   rintro e w' ⟨rfl,kq,rfl⟩
   go_wp2_with fail
   go_meet
   refine ⟨q,r,kq,0,rfl,rfl,rfl,hq,by omega,by omega,?_,?_,rfl⟩
   ·rw [Hid,Nat.mul_zero,Nat.add_zero];exact HQ.out
   ·rw [Hid,HT.out]
    refine est_init_lt (by omega) h0 ?_
    have e:=HQ.out
    show q=(r2*18446744073709551616+r1) / d1
    rw [e,Nat.mul_comm,Nat.mul_add_div (by omega),Nat.div_eq_of_lt hr,Nat.add_zero]
  ·obtain rfl:r2=d1:=by omega
   obtain ⟨s,cy,hs,hsB,hc1,hrun⟩:=call_add64 r1 r2 0 h1 hd1 (by omega)
   replace hrun:∀ w:World,(callFunc 176 #[.int .u64 r1,.int .u64 r2,.int .u64 0]).run Tryz.prog w = .ok (.value (.tuple #[.int .u64 s,.int .u64 cy])) w:=hrun
   have HS:=Lib.hid hs
   clear hs hlt
   go_wp2_with fail
   go_meet
   refine ⟨18446744073709551615,s,0,cy,rfl,rfl,rfl,by omega,hsB,hc1,?_,?_,rfl⟩
   ·rw [Hid]
    have e:=HS.out
    have e2:B*cy=18446744073709551616*cy:=rfl
    have e3:r2*B=18446744073709551615*r2+r2:=by
     have:B=18446744073709551615+1:=rfl
     rw [this,Nat.mul_add,Nat.mul_comm,Nat.mul_one]
    rw [e2,e3]
    generalize 18446744073709551615*r2=t
    omega
   ·rw [Hid,HT.out];exact Nat.min_le_left _ _
 case rest=>
  obtain ⟨q,rest,k,cy,rfl,rfl,rfl,hq,hrest,hcy,HQ,HQT,rfl⟩:=hcut
  go_wp2_with fail
  go_loop [11,12,13] (fun a b c=>∃ q rest cy:Nat,a = .int .u64 (q:Int)∧b = .int .u64 (rest:Int)∧c = .int .u64 (cy:Int)∧q<18446744073709551616∧rest<18446744073709551616∧cy≤1∧Hid (r2*B+r1=q*d1+(rest+B*cy))∧Hid (T≤q)) (fun a _ _=>(intOf a).toNat)
  case atStart=>exact ⟨q,rest,cy,rfl,rfl,rfl,hq,hrest,hcy,HQ,HQT⟩
  case round=>
   clear HQ HQT hq hrest hcy
   obtain ⟨q,rest,cy,rfl,rfl,rfl,hq,hrest,hcy,HQ,HQT⟩:=hrel
   by_cases hc0:cy=0
   ·subst hc0
    have HQ0:r2*B+r1=q*d1+rest:=by have h:=HQ.out;rwa [Nat.mul_zero,Nat.add_zero] at h
    obtain ⟨hi,lo,hm,hlo,hhi,hcall⟩:=call_mul64 q d0 hq hd0
    have em:lo+18446744073709551616*hi=hi*B+lo:=by
     have e:hi*B=18446744073709551616*hi:=Nat.mul_comm _ _
     omega
    rw [em] at hm
    clear em
    by_cases ha:hi<rest
    ·have ha1:decide ((hi:Int)<(rest:Int))=true:=by rw [decide_eq_true_iff];omega
     have HLE:hi*B+lo≤rest*B+r0:=by
      have h5:(hi+1)*B≤rest*B:=Nat.mul_le_mul_right _ ha
      rw [Nat.add_mul,Nat.one_mul] at h5
      have:lo<B:=hlo
      omega
     have HB:Hid (q=T):=by
      rw [Hid,HT.out]
      exact est_stop (b:=B) HQ0 B_pos hd hq (by rw [←HT.out];exact HQT.out) (by rw [←hm];exact HLE)
     clear hm HQ0
     go_wp2_with fail
     refine (hcall _).mono ?_
     rintro e w' ⟨rfl,rfl⟩
     go_wp2
     go_ret
     exact ⟨by rw [←HB.out];rfl,k,rfl⟩
    ·have ha1:decide ((hi:Int)<(rest:Int))=false:=by rw [decide_eq_false_iff_not];omega
     by_cases hb:hi=rest
     ·have hb1:((hi:Int)==(rest:Int))=true:=by rw [beq_iff_eq];omega
      by_cases hc:lo≤r0
      ·have hc1:decide ((lo:Int)≤(r0:Int))=true:=by rw [decide_eq_true_iff];omega
       have HLE:hi*B+lo≤rest*B+r0:=by rw [hb];omega
       clear hb
       have HB:Hid (q=T):=by
        rw [Hid,HT.out]
        exact est_stop (b:=B) HQ0 B_pos hd hq (by rw [←HT.out];exact HQT.out) (by rw [←hm];exact HLE)
       clear hm HQ0
       go_wp2_with fail
       refine (hcall _).mono ?_
       rintro e w' ⟨rfl,rfl⟩
       go_wp2
       go_ret
       exact ⟨by rw [←HB.out];rfl,k,rfl⟩
      ·have hc1:decide ((lo:Int)≤(r0:Int))=false:=by rw [decide_eq_false_iff_not];omega
       have HGT:rest*B+r0<hi*B+lo:=by rw [hb];omega
       clear hb
       have hgt:rest*B+r0<q*d0:=by rw [←hm];exact HGT
       obtain ⟨hq1,hT'⟩:=est_step (b:=B) (r2:=r2) (r1:=r1) (r0:=r0) (d1:=d1) HQ0 B_pos (by rw [←HT.out];exact HQT.out) hgt
       rw [←HT.out] at hT'
       have HD:=Lib.hid (est_dec HQ0 hq1)
       have HT':=Lib.hid hT'
       obtain ⟨s,c',hs,hsB,hc2,hrun⟩:=call_add64 rest d1 0 hrest hd1 (by omega)
       replace hrun:∀ w:World,(callFunc 176 #[.int .u64 rest,.int .u64 d1,.int .u64 0]).run Tryz.prog w = .ok (.value (.tuple #[.int .u64 s,.int .u64 c'])) w:=hrun
       have HV:Hid (Value.int .u64 ((q:Int) - 1)=Value.int .u64 ((q - 1:Nat):Int)):=by unfold Hid;congr 1;omega
       have HS:Hid (rest+d1=s+B*c'):=by unfold Hid;have e:B*c'=18446744073709551616*c':=rfl;rw [e];omega
       clear hs hT' hm hgt HQ0
       go_wp2_with fail
       refine (hcall _).mono ?_
       rintro e w' ⟨rfl,rfl⟩
       go_wp2_with fail
       go_round
       case rel=>exact ⟨q - 1,s,c',HV.out,rfl,rfl,by omega,hsB,hc2,by rw [Hid,←HS.out];exact HD.out,HT'.out⟩
       case measure=>simp [intOf]<;>omega
     ·have hb1:((hi:Int)==(rest:Int))=false:=by rw [beq_eq_false_iff_ne];omega
      have HGT:rest*B+r0<hi*B+lo:=by
       have h5:(rest+1)*B≤hi*B:=Nat.mul_le_mul_right _ (by omega)
       rw [Nat.add_mul,Nat.one_mul] at h5
       have:r0<B:=h0
       omega
      have hgt:rest*B+r0<q*d0:=by rw [←hm];exact HGT
      obtain ⟨hq1,hT'⟩:=est_step (b:=B) (r2:=r2) (r1:=r1) (r0:=r0) (d1:=d1) HQ0 B_pos (by rw [←HT.out];exact HQT.out) hgt
      rw [←HT.out] at hT'
      have HD:=Lib.hid (est_dec HQ0 hq1)
      have HT':=Lib.hid hT'
      obtain ⟨s,c',hs,hsB,hc1,hrun⟩:=call_add64 rest d1 0 hrest hd1 (by omega)
      replace hrun:∀ w:World,(callFunc 176 #[.int .u64 rest,.int .u64 d1,.int .u64 0]).run Tryz.prog w = .ok (.value (.tuple #[.int .u64 s,.int .u64 c'])) w:=hrun
      have HV:Hid (Value.int .u64 ((q:Int) - 1)=Value.int .u64 ((q - 1:Nat):Int)):=by unfold Hid;congr 1;omega
      have HS:Hid (rest+d1=s+B*c'):=by unfold Hid;have e:B*c'=18446744073709551616*c':=rfl;rw [e];omega
      clear hs hT' hm hgt HQ0
      go_wp2_with fail
      refine (hcall _).mono ?_
      rintro e w' ⟨rfl,rfl⟩
      go_wp2_with fail
      go_round
      case rel=>exact ⟨q - 1,s,c',HV.out,rfl,rfl,by omega,hsB,hc1,by rw [Hid,←HS.out];exact HD.out,HT'.out⟩
      case measure=>simp [intOf]<;>omega
   ·obtain rfl:cy=1:=by omega
    have HB:Hid (q=T):=by
     rw [Hid,HT.out]
     refine est_carry (b:=B) (r2:=r2) (r1:=r1) (rest:=rest+B) ?_ B_pos hd hq hd0 (by rw [←HT.out];exact HQT.out) (Nat.le_add_left _ _)
     have h:=HQ.out
     rwa [Nat.mul_one] at h
    go_wp2
    go_ret
    exact ⟨by rw [←HB.out];rfl,k,rfl⟩
end Go.Proofs.YteajibbphcfmeaaGreatDoor
