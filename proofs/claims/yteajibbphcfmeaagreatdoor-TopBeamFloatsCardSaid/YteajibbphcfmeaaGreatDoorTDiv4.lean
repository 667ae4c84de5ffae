/- Contract of over: the integer part of a quotient, and the remainder. -/
import Derived.Test.YteajibbphcfmeaaGreatDoorTDiv3
import Derived.Laws.CopyOwn
namespace Go.Proofs.YteajibbphcfmeaaGreatDoor
open Go.RowKit Bn
def RetTwo (w:World) (x y:Nat) (e:Ending) (w':World):Prop:=
 ∃ A1 m1 c1 A2 m2 c2,e = .returned (.tuple #[.slice A1 m1 c1,.slice A2 m2 c2])∧NatS w' w'.heap.size A1 m1 c1 x∧NatS w' w'.heap.size A2 m2 c2 y∧Below w.heap.size w w'
theorem RowAt.block {w:World} {base g n:Nat} {l:List Nat} (h:RowAt w base g n n l):w.heap[g]? = some (.cells (l.map u64v).toArray 120 (0,0)):=by
 rcases h.2 with ⟨h',_⟩ | ⟨g',cap',cur,h',hb,hg,hnc,hcm,hcs,htake⟩
 ·simp at h'
 ·simp only [Value.slice.injEq,Option.some.injEq,Addr.mk.injEq,and_true,true_and] at h'
  obtain ⟨rfl,rfl⟩:=h'
  rw [hg,←htake,List.take_of_length_le (by rw [Array.length_toList,hcs];exact Nat.le_refl _)]
theorem RowAt.of_block {w:World} {base g n:Nat} {l:List Nat} (h:w.heap[g]? = some (.cells (l.map u64v).toArray 120 (0,0))) (hb:base≤g) (hl:l.length=n) (hn:n≤maxLen):RowAt w base g n n l:=by
 refine ⟨by simp [hl],.inr ⟨g,n,(l.map u64v).toArray,rfl,hb,h,Nat.le_refl _,hn,by simp [hl],?_⟩⟩
 rw [List.take_of_length_le (by simp [hl])]
theorem val_pad (l:List Nat) (k:Nat):val (l++List.replicate k 0)=val l:=by rw [val_append,val_replicate_zero,Nat.mul_zero,Nat.add_zero]
theorem take_eq_of {l l':List Nat} (j:Nat) (hl:l.length=l'.length) (h:∀ t,t<j→l.getD t 0=l'.getD t 0):l.take j=l'.take j:=by
 apply List.ext_getElem
 ·simp [hl]
 ·intro t h1 h2
  rw [List.length_take] at h1 h2
  simp only [List.getElem_take]
  have:=h t (by omega)
  rwa [Bn.getD_in (by omega),Bn.getD_in (by omega)] at this
theorem drop_eq_of {l l':List Nat} (j:Nat) (hl:l.length=l'.length) (h:∀ t,j≤t→l.getD t 0=l'.getD t 0):l.drop j=l'.drop j:=by
 apply List.ext_getElem
 ·simp [hl]
 ·intro t h1 h2
  rw [List.length_drop] at h1 h2
  simp only [List.getElem_drop]
  have:=h (j+t) (by omega)
  rwa [Bn.getD_in (by omega),Bn.getD_in (by omega)] at this
theorem long_step (lr lr' lq:List Nat) (j n q D X R:Nat) (hw:Wf lr) (hl:lr'.length=lr.length) (hlen:j+n+1≤lr.length) (hlq:j<lq.length) (hDn:D≤B ^ n) (hD0:0<D)
  (hX:val lr+D*(B ^ (j+1)*val (lq.drop (j+1)))=X) (hlt:val (lr.drop (j+1))<D) (hR:R=val ((lr.drop j).take (n+1)))
  (hR':val ((lr'.drop j).take (n+1))=R % D) (hq:q=R / D) (hsame:∀ t,t<j∨j+n+1≤t→lr'.getD t 0=lr.getD t 0) :
  val lr'+D*(B ^ j*val ((lq.set j q).drop j))=X∧val (lr'.drop j)<D:=by
 have e1:=drop_getD lr j (by omega)
 have hlj:=getD_lt hw j
 have h1:val (lr.drop j)<D*B:=by
  rw [e1,val_cons]
  have h:B*(val (lr.drop (j+1))+1)≤B*D:=Nat.mul_le_mul_left _ hlt
  rw [Nat.mul_add,Nat.mul_one,Nat.mul_comm B D] at h
  have:lr.getD j 0<B:=hlj
  omega
 have h2:=val_split (lr.drop j) (n+1) (by rw [List.length_drop];omega)
 rw [←hR] at h2
 have hz:val ((lr.drop j).drop (n+1))=0:=by
  rcases Nat.eq_zero_or_pos (val ((lr.drop j).drop (n+1))) with h | h
  ·exact h
  ·exfalso
   have h3:B ^ (n+1)*1≤B ^ (n+1)*val ((lr.drop j).drop (n+1)):=Nat.mul_le_mul_left _ h
   have h4:D*B≤B ^ (n+1):=by rw [Nat.pow_succ];exact Nat.mul_le_mul_right _ hDn
   omega
 have h3:=val_split (lr'.drop j) (n+1) (by rw [List.length_drop,hl];omega)
 have hd:(lr'.drop j).drop (n+1)=(lr.drop j).drop (n+1):=by
  rw [List.drop_drop,List.drop_drop]
  exact drop_eq_of _ hl (fun t ht=>hsame t (by omega))
 rw [hd,hz,Nat.mul_zero,Nat.add_zero,hR'] at h3
 rw [hz,Nat.mul_zero,Nat.add_zero] at h2
 have h4:=Nat.mod_lt R hD0
 refine ⟨?_,by omega⟩
 have h5:=val_split lr j (by omega)
 have h6:=val_split lr' j (by omega)
 rw [take_eq_of (l:=lr') (l':=lr) j hl (fun t ht=>hsame t (.inl ht)),h3] at h6
 rw [h2] at h5
 rw [drop_set_cons lq j q hlq,val_cons,←hX,h5,h6,hq]
 have h7:=Nat.div_add_mod R D
 have h8:B ^ j*R=B ^ j*(D*(R / D))+B ^ j*(R % D):=by rw [←Nat.mul_add,h7]
 have h9:D*(B ^ j*(R / D+B*val (lq.drop (j+1))))=B ^ j*(D*(R / D))+D*(B ^ (j+1)*val (lq.drop (j+1))):=by
  rw [Nat.mul_add (B ^ j),Nat.mul_add D,Nat.mul_left_comm D (B ^ j),Nat.pow_succ,Nat.mul_assoc]
 rw [h8,h9]
 omega
theorem long_rest (lr:List Nat) (j n D:Nat) (hw:Wf lr) (hlt:val (lr.drop (j+1))<D) (hj:j<lr.length):val ((lr.drop j).take (n+1))<D*B:=by
 have e1:=drop_getD lr j hj
 have hlj:lr.getD j 0<B:=getD_lt hw j
 have h1:val (lr.drop j)<D*B:=by
  rw [e1,val_cons]
  have h:B*(val (lr.drop (j+1))+1)≤B*D:=Nat.mul_le_mul_left _ hlt
  rw [Nat.mul_add,Nat.mul_one,Nat.mul_comm B D] at h
  omega
 rcases Nat.lt_or_ge (n+1) (lr.drop j).length with h | h
 ·have h2:=val_split (lr.drop j) (n+1) (by omega)
  omega
 ·rw [List.take_of_length_le h];exact h1
theorem long_init (X D x y s la n:Nat) (lr:List Nat) (hw:Wf lr) (hla:(digs x).length=la) (hn:(digs y).length=n) (hy:0<y) (hle:n≤la) (hX:val lr=X) (eX:X=x*2 ^ s) (eD:D=y*2 ^ s) (hlen:la - n+1≤lr.length) :
  val (lr.drop (la - n+1))<D:=by
 rw [val_drop_div hw _ hlen,hX,Nat.div_lt_iff_lt_mul (Nat.pow_pos B_pos),eX,eD]
 have h1:=lt_of_digs_length x
 rw [hla] at h1
 have h2:=pow_le_of_digs_length hy
 rw [hn] at h2
 have hn0:0<n:=by rw [←hn];exact digs_length_pos hy
 have h3:B ^ la=B ^ (n - 1)*B ^ (la - n+1):=by rw [←Nat.pow_add];congr 1;omega
 have h4:x<y*B ^ (la - n+1):=by
  have:=Nat.mul_le_mul_right (B ^ (la - n+1)) h2
  omega
 rw [Nat.mul_assoc,Nat.mul_comm (2 ^ s),←Nat.mul_assoc]
 exact (Nat.mul_lt_mul_right (Nat.two_pow_pos s)).2 h4
theorem long_done (X D x y s V Q:Nat) (eX:X=x*2 ^ s) (eD:D=y*2 ^ s) (hy:0<y) (h:V+D*Q=X) (hlt:V<D):Q=x / y∧V / 2 ^ s=x % y:=by
 have hp:=Nat.two_pow_pos s
 have hD:0<D:=by omega
 have h1:Q=X / D:=by
  rw [←h,Nat.add_comm,Nat.mul_add_div hD,Nat.div_eq_of_lt hlt,Nat.add_zero]
 have h2:V=X % D:=by
  rw [←h,Nat.add_comm,Nat.mul_add_mod,Nat.mod_eq_of_lt hlt]
 have _:=hy
 constructor
 ·rw [h1,eX,eD,Nat.mul_div_mul_right _ _ hp]
 ·rw [h2,eX,eD,Nat.mul_mod_mul_right,Nat.mul_div_cancel _ hp]
set_option maxHeartbeats 2000000 in
set_option maxRecDepth 100000 in
theorem over_small (A A':Option Addr) (n c n' c' x y:Nat) (w:World) (ha:NatS w w.heap.size A n c x) (hb:NatS w w.heap.size A' n' c' y) (hlt:x<y) :
  Calls Tryz.prog 142 #[.slice A n c,.slice A' n' c'] w (RetTwo w (x / y) (x % y)):=by
 have hc:=compare_any A A' n c n' c' x y w ha hb
 rw [ncmp_lt hlt] at hc
 go_enter Tryz.func142,Tryz.ntmps142
 go_wp2_with fail
 refine hc.mono ?_
 rintro e w1 ⟨rfl,q,rfl⟩
 go_wp2
 go_ret2
 refine ⟨none,0,0,A,n,c,rfl,?_,?_,below_drewN (Below.refl _ _) q⟩
 ·rw [Nat.div_eq_of_lt hlt];exact NatS.nil _ _
 ·rw [Nat.mod_eq_of_lt hlt];exact ⟨ha.words,ha.nc,ha.cm⟩
set_option maxHeartbeats 2000000 in
set_option maxRecDepth 100000 in
theorem over_word (A A':Option Addr) (n c c' x y:Nat) (w:World) (ha:NatS w w.heap.size A n c x) (hb:NatS w w.heap.size A' 1 c' y) (hle:y≤x) (hy:0<y) (hn:n≤1099511627776) :
  Calls Tryz.prog 142 #[.slice A n c,.slice A' 1 c'] w (RetTwo w (x / y) (x % y)):=by
 have hc:=compare_any A A' n c 1 c' x y w ha hb
 have hnn:0≤ncmp x y:=by
  unfold ncmp
  rw [if_neg (by omega)]
  split<;>omega
 obtain ⟨v,hv⟩:∃ v,v=ncmp x y:=⟨_,rfl⟩
 rw [←hv] at hc hnn
 clear hv
 have hB:=hb.len
 obtain ⟨ad,rfl,hba,hcell⟩:=hb.words.word (k:=0) (by omega)
 have e0:ad.add 0=ad:=by simp [Addr.add]
 have hy0:(digs y).getD 0 0=y:=by
  match hd:digs y,hB with
  | [d],_=>
   have:=val_digs y
   rw [hd] at this
   simpa using this
 have hyB:=getD_lt (wf_digs y) 0
 rw [hy0] at hcell hyB
 rw [e0] at hcell
 have HY:=Lib.hid hy0
 have HB:=Lib.hid hB
 clear hy0 e0 hB
 go_enter Tryz.func142,Tryz.ntmps142
 go_wp2_with fail
 refine hc.mono ?_
 rintro e w1 ⟨rfl,q,rfl⟩
 have how:=overWord_any A n c x y (w.drewN q) ⟨ha.words,ha.nc,ha.cm⟩ hn hy hyB
 go_wp2_with fail
 refine how.mono ?_
 rintro e w2 ⟨m,c2,rfl,hrow,hbel⟩
 have hno:=naturalOf_any ((x % y:Nat):Int) w2 (by omega) (by have:=Nat.mod_lt x hy;omega)
 rw [Int.toNat_natCast] at hno
 go_wp2_with fail
 refine hno.mono ?_
 rintro e w3 ⟨A3,m3,c3,rfl,hn3,hbel3⟩
 go_wp2
 go_ret2
 exact ⟨_,m,c2,A3,m3,c3,rfl,hrow.nat.later hbel3,hn3,(below_drewN (Below.refl w.heap.size w) q).trans (hbel.trans (hbel3.mono hbel.size))⟩
set_option maxHeartbeats 8000000 in
set_option maxRecDepth 100000 in
theorem over_long (A A':Option Addr) (n c n' c' x y:Nat) (w:World) (ha:NatS w w.heap.size A n c x) (hb:NatS w w.heap.size A' n' c' y) (hle:y≤x) (hn2:2≤n') (hn:n≤549755813888) :
  Calls Tryz.prog 142 #[.slice A n c,.slice A' n' c'] w (RetTwo w (x / y) (x % y)):=by
 obtain ⟨i0,hi0,hz0,hz1,hz2⟩:=info_parts info_u64
 have hc:=compare_any A A' n c n' c' x y w ha hb
 have hnn:0≤ncmp x y:=by
  unfold ncmp
  rw [if_neg (by omega)]
  split<;>omega
 obtain ⟨v,hv⟩:∃ v,v=ncmp x y:=⟨_,rfl⟩
 rw [←hv] at hc hnn
 clear hv
 have hA:=Lib.hid ha.len
 have hB:=Lib.hid hb.len
 have hnn':n'≤n:=by rw [←ha.len,←hb.len];exact digs_length_mono hle
 have hy:0<y:=by
  rcases Nat.eq_zero_or_pos y with rfl | h
  ·have:=hb.len
   rw [digs_zero] at this
   simp at this
   omega
  ·exact h
 have h1:=ha.nc
 have h2:=ha.cm
 have h3:=hb.nc
 have h4:=hb.cm
 unfold maxLen at h2 h4
 obtain ⟨ad,rfl,hba,hct⟩:=hb.words.word (k:=n' - 1) (by omega)
 have htB:=getD_lt (wf_digs y) (n' - 1)
 obtain ⟨t,gt⟩:∃ t,(digs y).getD (n' - 1) 0=t:=⟨_,rfl⟩
 rw [gt] at hct htB
 have ht0:t≠0:=by
  have:=norm_digs y (by rw [hB.out];omega)
  rw [←gt,Bn.getD_in (by rw [hB.out];omega)]
  simpa only [hB.out] using this
 obtain ⟨b1,b2,b3⟩:=Lib.bitLenAux_bounds 64 t (by simpa using htB) ht0
 have b4:=Lib.bitLen_le t 64 (Nat.le_refl _) (by simpa using htB)
 have hl:=fun W:World=>Tryz.bits_LeadingZeros64 (t:Int) W (by omega) (by omega)
 have eb:Lib.bitLen t=Lib.bitLenAux 64 t:=rfl
 rw [←eb] at b1 b2 b3
 obtain ⟨b,hbb⟩:∃ b,b=Lib.bitLen t:=⟨_,rfl⟩
 rw [←hbb] at b1 b2 b3 b4
 obtain ⟨s,hs⟩:∃ s,s=64 - b:=⟨_,rfl⟩
 have hl':∀ W:World,Calls Tryz.prog 184 #[.int .u64 (t:Int)] W fun e w'=>e = .returned (.int .i64 (s:Int))∧w'=W:=fun W=>by
  have h:=hl W
  rw [Int.toNat_natCast,←hbb,show (64 - (b:Int))=(s:Int) from by omega] at h
  exact h
 have HL:=Lib.hid hl'
 have hs63:s≤63:=by omega
 have hyb:nbits y=64*(n' - 1)+b:=nbits_words hy (n' - 1) (by rw [hB.out];omega) t b gt b1 b2 b3
 obtain ⟨D,hD⟩:∃ D,D=y*2 ^ s:=⟨_,rfl⟩
 obtain ⟨X,hX⟩:∃ X,X=x*2 ^ s:=⟨_,rfl⟩
 have hDlt:D<B ^ n':=by
  have h5:=lt_nbits y
  rw [hyb] at h5
  have h6:=(Nat.mul_lt_mul_right (Nat.two_pow_pos s)).2 h5
  rw [←Nat.pow_add,show 64*(n' - 1)+b+s=64*n' from by omega,Nat.pow_mul,←B_two] at h6
  rw [hD];exact h6
 have hyD:y≤D:=by rw [hD];exact Nat.le_mul_of_pos_right _ (Nat.two_pow_pos s)
 have hDlen:(digs D).length=n':=by
  have h5:=digs_length_le hDlt
  have h6:=digs_length_mono hyD
  rw [hB.out] at h6
  omega
 have hXlen:(digs X).length≤n+1:=by
  refine digs_length_le ?_
  rw [hX,Nat.pow_succ]
  have h5:=lt_of_digs_length x
  rw [hA.out] at h5
  have h6:2 ^ s≤B:=by rw [B_two];exact Nat.pow_le_pow_right (by omega) (by omega)
  exact Nat.lt_of_lt_of_le ((Nat.mul_lt_mul_right (Nat.two_pow_pos s)).2 h5) (Nat.mul_le_mul_left _ h6)
 have hsl:=shiftedLeft_any
 have HD:=Lib.hid hD
 have HX:=Lib.hid hX
 have HDL:=Lib.hid hDlen
 have HXL:=Lib.hid hXlen
 have HDB:=Lib.hid hDlt
 clear hl hl' hbb hs b1 b2 b3 b4 eb gt hyb hD hX hDlen hXlen hDlt hyD hsl
 go_enter Tryz.func142,Tryz.ntmps142
 go_wp2_with fail
 refine hc.mono ?_
 rintro e w1 ⟨rfl,q,rfl⟩
 have hne:(((n':Nat):Int)==1)=false:=by rw [beq_eq_false_iff_ne];omega
 go_wp2_with fail
 refine (HL.out _).mono ?_
 rintro e w1 ⟨rfl,rfl⟩
 have hsb:=shiftedLeft_any (some ad) n' c' y s (w.drewN q) ⟨hb.words,hb.nc,hb.cm⟩ (by omega) (by omega)
 rw [←HD.out] at hsb
 go_wp2_with fail
 refine hsb.mono ?_
 rintro e w2 ⟨AD,nD,cD,rfl,hND,hbel2⟩
 have hnD:nD=n':=by rw [←hND.len,HDL.out]
 subst hnD
 go_wp2_with (at_make;refine wpList_make_full _ rfl _ _ 89 rfl w.heap.size 120 i0 (.int .u64 0) 1 Tryz.underlying89 hi0 hz0 hz1 _ _ _ _ (n+1) rfl rfl (by omega) (by omega) ?b2 ?b3 hbel2.size ?_)
 case b2=>rw [hz2];omega
 case b3=>unfold maxLen;omega
 intro w3 hown3 hgrow3
 have hrow3:=RowAt.made hown3
 have hb3:Below w2.heap.size w2 w3:=(Below.refl _ _).grown hgrow3 (Nat.le_refl _) (fun k h=>by cases h)
 have hbw2:Below w.heap.size w w2:=(below_drewN (Below.refl w.heap.size w) q).trans hbel2
 have hbw3:Below w.heap.size w w3:=hbw2.trans (hb3.mono hbw2.size)
 have hsa:=shiftedLeft_any A n c x s w3 (ha.later hbw3) (by omega) (by omega)
 rw [←HX.out] at hsa
 clear hown3 hgrow3
 go_wp2_with fail
 refine hsa.mono ?_
 rintro e w4 ⟨AX,mX,cX,rfl,hNX,hbel4⟩
 have hb4:Below w2.heap.size w2 w4:=hb3.trans (hbel4.mono hb3.size)
 have hrow4:=hrow3.below hbel4
 have hmX:mX≤n+1:=by rw [←hNX.len];exact HXL.out
 have HROW:=Lib.hid hrow4
 clear hrow3 hrow4
 go_wp2_with (with_reducible refine wpList_copy_splice rfl (.tmp 46) (.tmp 49) 89 89 rfl 120 Tryz.underlying89 ?sz (some ⟨w2.heap.size,0,none⟩) AX (n+1) (n+1) mX cX rfl rfl w2.heap.size 0 ((List.replicate (n+1) 0).map u64v) 120 HROW.out.block ((digs X).map u64v) ?cn ?cp ?cf ?c1 w2.heap.size w4 (Below.refl _ _) (Nat.le_refl _) ?_)
 case sz=>rw [hi0];simp [hz1]
 case cn=>rw [List.length_map,hNX.len];exact (Nat.min_eq_left hmX).symm
 case cp=>
  intro h0
  have h0':0<mX:=by rw [←hNX.len];simpa using h0
  obtain ⟨adx,ex,_,hcx⟩:=hNX.words.2 h0'
  exact ⟨adx,ex,fun j a h=>hcx j _ (by rw [List.getElem?_map,h];rfl)⟩
 case cf=>simp [hNX.len];exact hmX
 case c1=>exact u64v_one _
 intro w5 hg5 hb5
 have hlX:(digs X++List.replicate (n+1 - mX) 0).length=n+1:=by rw [List.length_append,hNX.len,List.length_replicate];omega
 have hrow5:RowAt w5 w.heap.size w2.heap.size (n+1) (n+1) (digs X++List.replicate (n+1 - mX) 0):=by
  refine RowAt.of_block ?_ hbw2.size hlX (by unfold maxLen;omega)
  have h5:=hg5.out
  rw [h5]
  congr 3
  simp [splice,hNX.len]
 have hwf5:Wf (digs X++List.replicate (n+1 - mX) 0):=(wf_digs X).append (Wf.replicate _)
 have hv5:val (digs X++List.replicate (n+1 - mX) 0)=X:=by rw [val_pad,val_digs]
 have hb25:Below w2.heap.size w2 w5:=hb4.trans hb5
 have hND5:=hND.later hb25
 have hoffD:0<nD→Off AD w2.heap.size:=hND.off (Nat.le_refl _)
 clear hg5 hb5 HROW hNX hbel4 hND hb3 hb4
 obtain ⟨lr,hlr⟩:∃ lr,lr=digs X++List.replicate (n+1 - mX) 0:=⟨_,rfl⟩
 rw [←hlr] at hrow5 hwf5 hv5 hlX
 clear hlr
 have hbw5:Below w.heap.size w w5:=hbw2.trans (hb25.mono hbw2.size)
 go_wp2_with (at_make;refine wpList_make_full _ rfl _ _ 89 rfl w.heap.size 120 i0 (.int .u64 0) 1 Tryz.underlying89 hi0 hz0 hz1 _ _ _ _ (n - nD+1) rfl rfl (by omega) (by omega) ?b4 ?b5 hbw5.size ?_)
 case b4=>rw [hz2];omega
 case b5=>unfold maxLen;omega
 intro w6 hown6 hgrow6
 have hrow6:=RowAt.made hown6
 have hb6:Below w5.heap.size w5 w6:=(Below.refl _ _).grown hgrow6 (Nat.le_refl _) (fun k h=>by cases h)
 have hrowr6:=hrow5.below hb6
 have hND6:=hND5.later hb6
 have hbw6:Below w.heap.size w w6:=hbw5.trans (hb6.mono hbw5.size)
 have hgne:w2.heap.size≠w5.heap.size:=by have:=hrow5.lt;omega
 have hinit:=long_init X D x y s n nD lr hwf5 hA.out hB.out hy hnn' hv5 HX.out HD.out (by rw [hlX];omega)
 have HOFQ:0<nD→Off AD w5.heap.size:=hND5.off (Nat.le_refl _)
 have HI:=Lib.hid hinit
 have HV5:=Lib.hid hv5
 clear hinit hv5 hown6 hgrow6 hrow5 hND5 hlX hb25
 have hD0:0<D:=by rw [HD.out];exact Nat.mul_pos hy (Nat.two_pow_pos s)
 go_wp2_with fail
 go_loopw [12] (fun sl wr=>∃ (k:Nat) (i:Int),i=(k:Int) - 1∧k≤n - nD+1∧sl = .int .i64 i∧∃ lr lq,RowAt wr w.heap.size w2.heap.size (n+1) (n+1) lr∧Wf lr∧RowAt wr w.heap.size w5.heap.size (n - nD+1) (n - nD+1) lq∧Wf lq ∧
   Hid (val lr+D*(B ^ k*val (lq.drop k))=X)∧Hid (val (lr.drop k)<D)∧NatS wr wr.heap.size AD nD cD D∧Below w.heap.size w wr) (fun sl _=>(intOf sl+1).toNat)
 case atStart=>
  refine ⟨n - nD+1,_,rfl,Nat.le_refl _,by congr 1;omega,lr,_,hrowr6,hwf5,hrow6,Wf.replicate _,?_,HI,hND6,hbw6⟩
  rw [Hid,List.drop_of_length_le (by simp),val_nil,Nat.mul_zero,Nat.mul_zero,Nat.add_zero]
  exact HV5.out
 case round=>
  clear hrowr6 hwf5 hrow6 HI HV5 hND6 hbw6 hb6
  obtain ⟨k,i,hi,hk,rfl,lr,lq,hrr,hwr,hrq,hwq,hX,hlt,hND,hbel⟩:=hrel
  by_cases hk0:0<k
  ·obtain ⟨j,rfl⟩:∃ j,k=j+1:=⟨k - 1,by omega⟩
   obtain rfl:i=(j:Int):=by omega
   clear hi
   have hR1:val ((lr.drop j).take (nD+1))<D*B:=by
    have h6:=long_rest lr j nD D hwr hlt.out (by rw [hrr.len];omega)
    exact h6
   have hds:=divideStep_any AD w.heap.size w2.heap.size j (n+1) (n+1) nD (n+1 - j) cD D lr wr hrr hwr hND (fun h=>hoffD h) hn2 (by omega) (by omega) hR1
   have HDS:=Lib.hid hds
   have hqlt:val ((lr.drop j).take (nD+1)) / D<18446744073709551616:=by
    rw [Nat.div_lt_iff_lt_mul hD0,Nat.mul_comm];exact hR1
   obtain ⟨q1,hq1⟩:∃ q1,q1=val ((lr.drop j).take (nD+1)) / D:=⟨_,rfl⟩
   rw [←hq1] at HDS hqlt
   have HQ:=Lib.hid hq1
   clear hq1 hds hR1
   go_wp2_with fail
   rw [show j+nD+1 - j=nD+1 from by omega]
   refine HDS.out.mono ?_
   rintro e wd ⟨rfl,lr',hrr',hwr',hval',hsame',hgr⟩
   have hrq':=hrq.kept hgr (by simpa using hgne)
   have hcs:=hrq'.cell j (by omega)
   have hfs:=hrq'.free j
   generalize lq.getD j 0=old at hcs
   obtain ⟨f1,f2⟩:=long_step lr lr' lq j nD q1 D X _ hwr (by rw [hrr'.len,hrr.len]) (by rw [hrr.len];omega) (by rw [hrq.len];omega) (Nat.le_of_lt HDB.out) hD0 hX.out hlt.out rfl hval' HQ.out hsame'
   have F1:=Lib.hid f1
   have F2:=Lib.hid f2
   have hbd:Below w.heap.size w wd:=hbel.grown hgr hbel.size (fun k hk=>by cases hk;exact hbw2.size)
   have hgs:wd.grownBy (wd.setCell ⟨w5.heap.size,j,none⟩ (.int .u64 (q1:Int))) (some w5.heap.size):=only_setCell (World.grownBy.refl wd _) (p:=⟨w5.heap.size,j,none⟩) (.inl rfl) _
   have hrr2:=hrr'.kept hgs (by simpa using fun h=>hgne h.symm)
   have hrq2:=hrq'.set j q1
   have hND2:=(hND.kept hgr hoffD).kept hgs (fun h0=>HOFQ h0)
   have hb2:Below w.heap.size w (wd.setCell ⟨w5.heap.size,j,none⟩ (.int .u64 (q1:Int))):=hbd.setCell (p:=⟨w5.heap.size,j,none⟩) hbw5.size _
   have HA1:=Lib.hid hrr2
   have HA2:=Lib.hid hrq2
   have HA3:=Lib.hid hND2
   have HA4:=Lib.hid hb2
   have HW1:=Lib.hid hwr'
   clear f1 f2 hgs hrr2 hrq2 hND2 hb2 hval' hsame' hgr hX hlt hrr hrr' hrq hND
   go_wp2
   go_roundw
   case rel=>exact ⟨j,(j:Int) - 1,rfl,by omega,by go_num,lr',_,HA1.out,HW1.out,HA2.out,hwq.set j hqlt,F1.out,F2.out,HA3.out,HA4.out⟩
   case measure=>simp [intOf]<;>omega
  ·obtain rfl:k=0:=by omega
   have hi0:i<0:=by omega
   clear hi
   obtain ⟨g1,g2⟩:=long_done X D x y s (val lr) (val lq) HX.out HD.out hy (by have h:=hX.out;rwa [Nat.pow_zero,Nat.one_mul,List.drop_zero] at h) (by have h:=hlt.out;rwa [List.drop_zero] at h)
   have ht1:=trimmed_row w.heap.size w5.heap.size (n - nD+1) (n - nD+1) lq wr hrq hwq
   rw [g1] at ht1
   have HT1:=Lib.hid ht1
   have HT2:=Lib.hid (trimmed_row w.heap.size w2.heap.size (n+1) (n+1) lr wr hrr hwr)
   have HG2:=Lib.hid g2
   clear ht1 g1 g2 hX hlt
   go_wp2_with fail
   refine HT1.out.mono ?_
   rintro e w7 ⟨m7,rfl,hr7,rfl⟩
   go_wp2_with fail
   refine HT2.out.mono ?_
   rintro e w8 ⟨m8,rfl,hr8,rfl⟩
   have hm8:m8≤n+1:=by
    have h9:=hr8.len
    have h10:=digs_length_le (val_lt hwr)
    rw [hrr.len] at h10
    omega
   have hsr:=shiftedRight_any (some ⟨w2.heap.size,0,none⟩) m8 (n+1) (val lr) s wr hr8.nat (by omega) (by omega)
   rw [HG2.out] at hsr
   go_wp2_with fail
   refine hsr.mono ?_
   rintro e w9 ⟨hb9,hr9⟩
   obtain ⟨A9,m9,c9,he9,hn9,_⟩:=hr9.ret hb9
   subst he9
   go_wp2
   go_ret2
   exact ⟨_,m7,_,A9,m9,c9,rfl,hr7.nat.later hb9,hn9,hbel.trans (hb9.mono hbel.size)⟩
theorem over_any (A A':Option Addr) (n c n' c' x y:Nat) (w:World) (ha:NatS w w.heap.size A n c x) (hb:NatS w w.heap.size A' n' c' y) (hy:0<y) (hn:n≤549755813888) :
  Calls Tryz.prog 142 #[.slice A n c,.slice A' n' c'] w (RetTwo w (x / y) (x % y)):=by
 rcases Nat.lt_or_ge x y with h | h
 ·exact over_small A A' n c n' c' x y w ha hb h
 ·have h1:0<n':=by rw [←hb.len];exact digs_length_pos hy
  rcases Nat.lt_or_ge n' 2 with h2 | h2
  ·obtain rfl:n'=1:=by omega
   exact over_word A A' n c c' x y w ha hb h hy (by omega)
  ·exact over_long A A' n c n' c' x y w ha hb h h2 hn
end Go.Proofs.YteajibbphcfmeaaGreatDoor
