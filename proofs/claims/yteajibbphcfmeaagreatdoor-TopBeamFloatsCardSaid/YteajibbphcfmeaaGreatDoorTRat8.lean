/- Contract of plus of rational numbers. -/
import Derived.Test.YteajibbphcfmeaaGreatDoorTRat2
import Derived.Test.YteajibbphcfmeaaGreatDoorTDiv1
import Derived.Test.YteajibbphcfmeaaGreatDoorTRb2
namespace Go.Proofs.YteajibbphcfmeaaGreatDoor
open Go.RowKit Bn
def plusQ (p q:Q):Q:=
 if p.neg=q.neg then lowQ p.neg (p.top*q.bot+q.top*p.bot) (p.bot*q.bot)
 else if p.top*q.bot<q.top*p.bot then lowQ q.neg (q.top*p.bot - p.top*q.bot) (p.bot*q.bot)
 else lowQ p.neg (p.top*q.bot - q.top*p.bot) (p.bot*q.bot)
theorem len_plus {a b x y:Nat} (hx:(digs x).length≤a) (hy:(digs y).length≤b):(digs (x+y)).length≤a+b+1:=by
 refine digs_length_le ?_
 have h1:=lt_of_digs_length x
 have h2:=lt_of_digs_length y
 have h3:B ^ (digs x).length≤B ^ (a+b):=Nat.pow_le_pow_right B_pos (by omega)
 have h4:B ^ (digs y).length≤B ^ (a+b):=Nat.pow_le_pow_right B_pos (by omega)
 rw [Nat.pow_succ]
 have h5:B ^ (a+b)*2≤B ^ (a+b)*B:=Nat.mul_le_mul_left _ (by rw [B_def];omega)
 omega
theorem len_minus (x y:Nat):(digs (x - y)).length≤(digs x).length:=digs_length_mono (Nat.sub_le _ _)
theorem len_times {a b x y:Nat} (hx:(digs x).length≤a) (hy:(digs y).length≤b):(digs (x*y)).length≤a+b:=by
 refine digs_length_le ?_
 rw [Nat.pow_add]
 have h3:B ^ (digs x).length≤B ^ a:=Nat.pow_le_pow_right B_pos hx
 have h4:B ^ (digs y).length≤B ^ b:=Nat.pow_le_pow_right B_pos hy
 exact Nat.mul_lt_mul'' (Nat.lt_of_lt_of_le (lt_of_digs_length x) h3) (Nat.lt_of_lt_of_le (lt_of_digs_length y) h4)
set_option maxHeartbeats 8000000 in
set_option maxRecDepth 100000 in
theorem ratPlus_any (p q:Q) (A1 A2 A3 A4:Option Addr) (n1 c1 n2 c2 n3 c3 n4 c4:Nat) (w:World) (hT:Tabs w)
  (h1:NatS w w.heap.size A1 n1 c1 p.top) (h2:NatS w w.heap.size A2 n2 c2 p.bot) (h3:NatS w w.heap.size A3 n3 c3 q.top) (h4:NatS w w.heap.size A4 n4 c4 q.bot)
  (k1:n1≤134217728) (k2:n2≤134217728) (k3:n3≤134217728) (k4:n4≤134217728) :
  Calls Tryz.prog 65 #[.agg #[.bool p.neg,.slice A1 n1 c1,.slice A2 n2 c2],.agg #[.bool q.neg,.slice A3 n3 c3,.slice A4 n4 c4]] w (RetRat w (plusQ p q)):=by
 obtain ⟨bp,x1,x2⟩:=p
 obtain ⟨bq,x3,x4⟩:=q
 dsimp only at h1 h2 h3 h4 ⊢
 have hb3:Below w.heap.size w (((w.alloc (.cells #[.bool bp,.slice A1 n1 c1,.slice A2 n2 c2] 91)).alloc (.cells #[.bool bq,.slice A3 n3 c3,.slice A4 n4 c4] 91)).alloc (.cells #[.bool false,.slice none 0 0,.slice none 0 0] 91)):=
  (((Below.refl _ _).alloc (Nat.le_refl _) _).alloc (by simp) _).alloc (by simp;omega) _
 have hx0:ResBlk (((w.alloc (.cells #[.bool bp,.slice A1 n1 c1,.slice A2 n2 c2] 91)).alloc (.cells #[.bool bq,.slice A3 n3 c3,.slice A4 n4 c4] 91)).alloc (.cells #[.bool false,.slice none 0 0,.slice none 0 0] 91)) (w.heap.size) bp (.slice A1 n1 c1) (.slice A2 n2 c2):=
  (((ResBlk.new w _ _ _).below ((Below.refl _ _).alloc (Nat.le_refl _) _) (by simp))).below ((Below.refl _ _).alloc (Nat.le_refl _) _) (by simp;omega)
 have hx1:ResBlk (((w.alloc (.cells #[.bool bp,.slice A1 n1 c1,.slice A2 n2 c2] 91)).alloc (.cells #[.bool bq,.slice A3 n3 c3,.slice A4 n4 c4] 91)).alloc (.cells #[.bool false,.slice none 0 0,.slice none 0 0] 91)) (w.heap.size+1) bq (.slice A3 n3 c3) (.slice A4 n4 c4):=by
  have h:=(ResBlk.new (w.alloc (.cells #[.bool bp,.slice A1 n1 c1,.slice A2 n2 c2] 91)) bq (.slice A3 n3 c3) (.slice A4 n4 c4)).below ((Below.refl _ _).alloc (Nat.le_refl _) (.cells #[.bool false,.slice none 0 0,.slice none 0 0] 91)) (by simp)
  simpa using h
 have hx2:ResBlk (((w.alloc (.cells #[.bool bp,.slice A1 n1 c1,.slice A2 n2 c2] 91)).alloc (.cells #[.bool bq,.slice A3 n3 c3,.slice A4 n4 c4] 91)).alloc (.cells #[.bool false,.slice none 0 0,.slice none 0 0] 91)) (w.heap.size+1+1) false (.slice none 0 0) (.slice none 0 0):=by
  have h:=ResBlk.new ((w.alloc (.cells #[.bool bp,.slice A1 n1 c1,.slice A2 n2 c2] 91)).alloc (.cells #[.bool bq,.slice A3 n3 c3,.slice A4 n4 c4] 91)) false (.slice none 0 0) (.slice none 0 0)
  simpa using h
 go_enter Tryz.func65,Tryz.ntmps65
 go_wp2_with fail
 generalize (((w.alloc (.cells #[.bool bp,.slice A1 n1 c1,.slice A2 n2 c2] 91)).alloc (.cells #[.bool bq,.slice A3 n3 c3,.slice A4 n4 c4] 91)).alloc (.cells #[.bool false,.slice none 0 0,.slice none 0 0] 91))=w3 at *
 obtain ⟨a0,a1,a2,_,_,_,al⟩:=hx0.cells
 obtain ⟨b0,b1,b2,_,_,_,bl⟩:=hx1.cells
 have hd3:Below w3.heap.size w3 w3.drew:=Below.drew (Below.refl _ _)
 have g1:=(h1.later hb3).later hd3
 have g2:=(h2.later hb3).later hd3
 have g3:=(h3.later hb3).later hd3
 have g4:=(h4.later hb3).later hd3
 go_region_held3 (fun w'=>w'.cell? ⟨w.heap.size,0,none⟩=some (.bool bp)∧w'.cell? ⟨w.heap.size,1,none⟩=some (.slice A1 n1 c1)∧w'.cell? ⟨w.heap.size,2,none⟩=some (.slice A2 n2 c2)∧w'.cell? ⟨w.heap.size+1,0,none⟩=some (.bool bq)∧w'.cell? ⟨w.heap.size+1,1,none⟩=some (.slice A3 n3 c3)∧w'.cell? ⟨w.heap.size+1,2,none⟩=some (.slice A4 n4 c4))
  (first | exact ⟨a0,a1,a2,b0,b1,b2⟩ | exact ⟨((hb5.cell (p:=⟨w.heap.size,0,none⟩) al).trans a0),((hb5.cell (p:=⟨w.heap.size,1,none⟩) al).trans a1),((hb5.cell (p:=⟨w.heap.size,2,none⟩) al).trans a2),((hb5.cell (p:=⟨w.heap.size+1,0,none⟩) bl).trans b0),((hb5.cell (p:=⟨w.heap.size+1,1,none⟩) bl).trans b1),((hb5.cell (p:=⟨w.heap.size+1,2,none⟩) bl).trans b2)⟩ | exact ⟨((hb6.cell (p:=⟨w.heap.size,0,none⟩) al6).trans ((hb5.cell (p:=⟨w.heap.size,0,none⟩) al).trans a0)),((hb6.cell (p:=⟨w.heap.size,1,none⟩) al6).trans ((hb5.cell (p:=⟨w.heap.size,1,none⟩) al).trans a1)),((hb6.cell (p:=⟨w.heap.size,2,none⟩) al6).trans ((hb5.cell (p:=⟨w.heap.size,2,none⟩) al).trans a2)),((hb6.cell (p:=⟨w.heap.size+1,0,none⟩) bl6).trans ((hb5.cell (p:=⟨w.heap.size+1,0,none⟩) bl).trans b0)),((hb6.cell (p:=⟨w.heap.size+1,1,none⟩) bl6).trans ((hb5.cell (p:=⟨w.heap.size+1,1,none⟩) bl).trans b1)),((hb6.cell (p:=⟨w.heap.size+1,2,none⟩) bl6).trans ((hb5.cell (p:=⟨w.heap.size+1,2,none⟩) bl).trans b2))⟩)
  (first
   |(go_at_call_of 105 (Value.slice A1 n1 c1);refine (times_any A1 A4 n1 c1 n4 c4 x1 x4 w3.drew g1 g4 (by omega) (by omega)).mono ?_;rintro e w4 ⟨A5,m5,c5,rfl,hn5,hb5⟩;have al6:=Nat.lt_of_lt_of_le al hb5.size;have bl6:=Nat.lt_of_lt_of_le bl hb5.size)
   |(go_at_call_of 105 (Value.slice A3 n3 c3);refine (times_any A3 A2 n3 c3 n2 c2 x3 x2 w4 (g3.later hb5) (g2.later hb5) (by omega) (by omega)).mono ?_;rintro e w6 ⟨A6,m6,c6,rfl,hn6,hb6⟩))
 have hB6:Below w3.heap.size w3 w6:=(hd3.trans hb5).trans (hb6.mono hb5.size)
 have y2:=(hB6.cell (p:=⟨w.heap.size,2,none⟩) al).trans a2
 have y4:=(hB6.cell (p:=⟨w.heap.size+1,2,none⟩) bl).trans b2
 have q2:=(g2.later hb5).later hb6
 have q4:=(g4.later hb5).later hb6
 have p5:=hn5.later hb6
 clear g1 g2 g3 g4 hn5
 go_wp2_with fail
 refine (times_any A2 A4 n2 c2 n4 c4 x2 x4 w6 q2 q4 (by omega) (by omega)).mono ?_
 rintro e w8 ⟨A7,m7,c7,rfl,hn7,hb8⟩
 have hB8:Below w3.heap.size w3 w8:=hB6.trans (hb8.mono hB6.size)
 have a0x:=(hB8.cell (p:=⟨w.heap.size,0,none⟩) al).trans a0
 have a1x:=(hB8.cell (p:=⟨w.heap.size,1,none⟩) al).trans a1
 have a2x:=(hB8.cell (p:=⟨w.heap.size,2,none⟩) al).trans a2
 have b0x:=(hB8.cell (p:=⟨w.heap.size+1,0,none⟩) bl).trans b0
 have b1x:=(hB8.cell (p:=⟨w.heap.size+1,1,none⟩) bl).trans b1
 have b2x:=(hB8.cell (p:=⟨w.heap.size+1,2,none⟩) bl).trans b2
 have hx8:=hx2.below hB8 hx2.cells.2.2.2.2.2.2
 have cl8:=hx8.cells.2.2.2.2.2.2
 have alx:=Nat.lt_of_lt_of_le al hB8.size
 have blx:=Nat.lt_of_lt_of_le bl hB8.size
 have hBw8:Below w.heap.size w w8:=hb3.trans (hB8.mono hb3.size)
 have hT8:=hT.later hBw8
 have r5:=p5.later hb8
 have r6:=hn6.later hb8
 have l5:m5≤n1+n4:=by have h:=len_times (Nat.le_of_eq h1.len) (Nat.le_of_eq h4.len);rw [r5.len] at h;exact h
 have l6:m6≤n3+n2:=by have h:=len_times (Nat.le_of_eq h3.len) (Nat.le_of_eq h2.len);rw [r6.len] at h;exact h
 have l7:m7≤n2+n4:=by have h:=len_times (Nat.le_of_eq h2.len) (Nat.le_of_eq h4.len);rw [hn7.len] at h;exact h
 have hs8:=hBw8.size
 clear p5 q2 q4 hn6 y2 y4 hb5 hb6 hb8 hB6 hx0 hx1 hx2 a0 a1 a2 b0 b1 b2
 by_cases hs:bp=bq
 ·have HV:Hid (plusQ ⟨bp,x1,x2⟩ ⟨bq,x3,x4⟩=lowQ bp (x1*x4+x3*x2) (x2*x4)):=by unfold Hid plusQ;rw [if_pos hs]
  have hbe:(bp==bq)=true:=by simpa using hs
  have hlr:=len_plus (Nat.le_of_eq r5.len) (Nat.le_of_eq r6.len)
  have hbd:Below w8.heap.size w8 w8.drew:=Below.drew (Below.refl _ _)
  clear hs
  go_wp2_with fail
  go_region_held3 (fun w'=>w'.cell? ⟨w.heap.size,0,none⟩=some (.bool bp)∧w'.cell? ⟨w.heap.size,1,none⟩=some (.slice A1 n1 c1)∧w'.cell? ⟨w.heap.size,2,none⟩=some (.slice A2 n2 c2)∧w'.cell? ⟨w.heap.size+1,0,none⟩=some (.bool bq)∧w'.cell? ⟨w.heap.size+1,1,none⟩=some (.slice A3 n3 c3)∧w'.cell? ⟨w.heap.size+1,2,none⟩=some (.slice A4 n4 c4))
   (first | exact ⟨a0x,a1x,a2x,b0x,b1x,b2x⟩ | exact ⟨((hb9.cell (p:=⟨w.heap.size,0,none⟩) alx).trans a0x),((hb9.cell (p:=⟨w.heap.size,1,none⟩) alx).trans a1x),((hb9.cell (p:=⟨w.heap.size,2,none⟩) alx).trans a2x),((hb9.cell (p:=⟨w.heap.size+1,0,none⟩) blx).trans b0x),((hb9.cell (p:=⟨w.heap.size+1,1,none⟩) blx).trans b1x),((hb9.cell (p:=⟨w.heap.size+1,2,none⟩) blx).trans b2x)⟩ | exact ⟨((hb10.cell (p:=⟨w.heap.size,0,none⟩) al9).trans ((hb9.cell (p:=⟨w.heap.size,0,none⟩) alx).trans a0x)),((hb10.cell (p:=⟨w.heap.size,1,none⟩) al9).trans ((hb9.cell (p:=⟨w.heap.size,1,none⟩) alx).trans a1x)),((hb10.cell (p:=⟨w.heap.size,2,none⟩) al9).trans ((hb9.cell (p:=⟨w.heap.size,2,none⟩) alx).trans a2x)),((hb10.cell (p:=⟨w.heap.size+1,0,none⟩) bl9).trans ((hb9.cell (p:=⟨w.heap.size+1,0,none⟩) blx).trans b0x)),((hb10.cell (p:=⟨w.heap.size+1,1,none⟩) bl9).trans ((hb9.cell (p:=⟨w.heap.size+1,1,none⟩) blx).trans b1x)),((hb10.cell (p:=⟨w.heap.size+1,2,none⟩) bl9).trans ((hb9.cell (p:=⟨w.heap.size+1,2,none⟩) blx).trans b2x))⟩ | exact ⟨((far3 _ _ _ _ (by dsimp only;omega)).trans ((hb10.cell (p:=⟨w.heap.size,0,none⟩) al9).trans ((hb9.cell (p:=⟨w.heap.size,0,none⟩) alx).trans a0x))),((far3 _ _ _ _ (by dsimp only;omega)).trans ((hb10.cell (p:=⟨w.heap.size,1,none⟩) al9).trans ((hb9.cell (p:=⟨w.heap.size,1,none⟩) alx).trans a1x))),((far3 _ _ _ _ (by dsimp only;omega)).trans ((hb10.cell (p:=⟨w.heap.size,2,none⟩) al9).trans ((hb9.cell (p:=⟨w.heap.size,2,none⟩) alx).trans a2x))),((far3 _ _ _ _ (by dsimp only;omega)).trans ((hb10.cell (p:=⟨w.heap.size+1,0,none⟩) bl9).trans ((hb9.cell (p:=⟨w.heap.size+1,0,none⟩) blx).trans b0x))),((far3 _ _ _ _ (by dsimp only;omega)).trans ((hb10.cell (p:=⟨w.heap.size+1,1,none⟩) bl9).trans ((hb9.cell (p:=⟨w.heap.size+1,1,none⟩) blx).trans b1x))),((far3 _ _ _ _ (by dsimp only;omega)).trans ((hb10.cell (p:=⟨w.heap.size+1,2,none⟩) bl9).trans ((hb9.cell (p:=⟨w.heap.size+1,2,none⟩) blx).trans b2x)))⟩)
   (first
    |(go_at_call 128;refine (plus_any A5 A6 m5 c5 m6 c6 (x1*x4) (x3*x2) w8.drew (r5.later hbd) (r6.later hbd) (by omega) (by omega)).mono ?_;rintro e w9 ⟨A9,m9,c9,rfl,hn9,hb9⟩;have al9:=Nat.lt_of_lt_of_le alx hb9.size;have bl9:=Nat.lt_of_lt_of_le blx hb9.size)
    |(go_at_call 104;refine (lowest_any _ A9 A7 m9 c9 m7 c7 _ _ w9 ((hT8.later hbd).later hb9) hn9 ((hn7.later hbd).later hb9) (by have:=hn9.len;have:=hlr;omega) (by omega)).mono ?_;rintro e w10 ⟨v,rfl,⟨A11,m11,c11,A12,m12,c12,rfl,h11,h12⟩,hb10⟩;have hk10:=((hx8.below hbd cl8).below hb9 (Nat.lt_of_lt_of_le cl8 hbd.size)).below hb10 (Nat.lt_of_lt_of_le (Nat.lt_of_lt_of_le cl8 hbd.size) hb9.size);obtain ⟨e0,e1,e2,f0,f1,f2,gl⟩:=hk10.cells))
  go_wp2_with fail
  have hBw10:Below w.heap.size w w10:=((hBw8.trans (hbd.mono hs8)).trans (hb9.mono hs8)).trans (hb10.mono (by have:=hb9.size;exact Nat.le_trans hs8 this))
  have hset:=three_set hBw10 (g:=w.heap.size+1+1) (by omega) (.bool (lowQ bp (x1*x4+x3*x2) (x2*x4)).neg) (.slice A11 m11 c11) (.slice A12 m12 c12)
  refine bodyPost_ret (v := .agg #[.bool (lowQ bp (x1*x4+x3*x2) (x2*x4)).neg,.slice A11 m11 c11,.slice A12 m12 c12]) (by simp [results,Tryz.results65,go_sem,e0,e1,e2]) rfl ⟨_,rfl,⟨A11,m11,c11,A12,m12,c12,by rw [HV.out],?_,?_⟩,hset⟩
  ·rw [size_set3,HV.out];exact h11.res hk10 _ _ _
  ·rw [size_set3,HV.out];exact h12.res hk10 _ _ _
 ·have hbe:(bp==bq)=false:=by simpa using hs
  by_cases hlt:x1*x4<x3*x2
  ·have HV:Hid (plusQ ⟨bp,x1,x2⟩ ⟨bq,x3,x4⟩=lowQ bq (x3*x2 - x1*x4) (x2*x4)):=by unfold Hid plusQ;rw [if_neg hs,if_pos hlt]
   have hcm:=compare_any A5 A6 m5 c5 m6 c6 (x1*x4) (x3*x2) w8 r5 r6
   rw [show ncmp (x1*x4) (x3*x2) = -1 from by unfold ncmp;rw [if_pos hlt]] at hcm
   have hlr:=len_minus (x3*x2) (x1*x4)
   rw [r6.len] at hlr
   have HLT:=Lib.hid hlt
   clear hs hlt
   go_wp2_with fail
   refine hcm.mono ?_
   rintro e wq ⟨rfl,nq,rfl⟩
   clear hcm
   go_wp2_with fail
   have hbd:Below w8.heap.size w8 (w8.drewN nq).drew:=Below.drew (below_drewN (Below.refl _ _) nq)
   go_region_held3 (fun w'=>w'.cell? ⟨w.heap.size,0,none⟩=some (.bool bp)∧w'.cell? ⟨w.heap.size,1,none⟩=some (.slice A1 n1 c1)∧w'.cell? ⟨w.heap.size,2,none⟩=some (.slice A2 n2 c2)∧w'.cell? ⟨w.heap.size+1,0,none⟩=some (.bool bq)∧w'.cell? ⟨w.heap.size+1,1,none⟩=some (.slice A3 n3 c3)∧w'.cell? ⟨w.heap.size+1,2,none⟩=some (.slice A4 n4 c4))
    (first | exact ⟨a0x,a1x,a2x,b0x,b1x,b2x⟩ | exact ⟨((hb9.cell (p:=⟨w.heap.size,0,none⟩) alx).trans a0x),((hb9.cell (p:=⟨w.heap.size,1,none⟩) alx).trans a1x),((hb9.cell (p:=⟨w.heap.size,2,none⟩) alx).trans a2x),((hb9.cell (p:=⟨w.heap.size+1,0,none⟩) blx).trans b0x),((hb9.cell (p:=⟨w.heap.size+1,1,none⟩) blx).trans b1x),((hb9.cell (p:=⟨w.heap.size+1,2,none⟩) blx).trans b2x)⟩ | exact ⟨((hb10.cell (p:=⟨w.heap.size,0,none⟩) al9).trans ((hb9.cell (p:=⟨w.heap.size,0,none⟩) alx).trans a0x)),((hb10.cell (p:=⟨w.heap.size,1,none⟩) al9).trans ((hb9.cell (p:=⟨w.heap.size,1,none⟩) alx).trans a1x)),((hb10.cell (p:=⟨w.heap.size,2,none⟩) al9).trans ((hb9.cell (p:=⟨w.heap.size,2,none⟩) alx).trans a2x)),((hb10.cell (p:=⟨w.heap.size+1,0,none⟩) bl9).trans ((hb9.cell (p:=⟨w.heap.size+1,0,none⟩) blx).trans b0x)),((hb10.cell (p:=⟨w.heap.size+1,1,none⟩) bl9).trans ((hb9.cell (p:=⟨w.heap.size+1,1,none⟩) blx).trans b1x)),((hb10.cell (p:=⟨w.heap.size+1,2,none⟩) bl9).trans ((hb9.cell (p:=⟨w.heap.size+1,2,none⟩) blx).trans b2x))⟩ | exact ⟨((far3 _ _ _ _ (by dsimp only;omega)).trans ((hb10.cell (p:=⟨w.heap.size,0,none⟩) al9).trans ((hb9.cell (p:=⟨w.heap.size,0,none⟩) alx).trans a0x))),((far3 _ _ _ _ (by dsimp only;omega)).trans ((hb10.cell (p:=⟨w.heap.size,1,none⟩) al9).trans ((hb9.cell (p:=⟨w.heap.size,1,none⟩) alx).trans a1x))),((far3 _ _ _ _ (by dsimp only;omega)).trans ((hb10.cell (p:=⟨w.heap.size,2,none⟩) al9).trans ((hb9.cell (p:=⟨w.heap.size,2,none⟩) alx).trans a2x))),((far3 _ _ _ _ (by dsimp only;omega)).trans ((hb10.cell (p:=⟨w.heap.size+1,0,none⟩) bl9).trans ((hb9.cell (p:=⟨w.heap.size+1,0,none⟩) blx).trans b0x))),((far3 _ _ _ _ (by dsimp only;omega)).trans ((hb10.cell (p:=⟨w.heap.size+1,1,none⟩) bl9).trans ((hb9.cell (p:=⟨w.heap.size+1,1,none⟩) blx).trans b1x))),((far3 _ _ _ _ (by dsimp only;omega)).trans ((hb10.cell (p:=⟨w.heap.size+1,2,none⟩) bl9).trans ((hb9.cell (p:=⟨w.heap.size+1,2,none⟩) blx).trans b2x)))⟩)
    (first
     |(go_at_call 130;refine (minus_any A6 A5 m6 c6 m5 c5 (x3*x2) (x1*x4) (w8.drewN nq).drew (r6.later hbd) (r5.later hbd) (Nat.le_of_lt HLT.out) (by omega)).mono ?_;rintro e w9 ⟨A9,m9,c9,rfl,hn9,hb9⟩;have al9:=Nat.lt_of_lt_of_le alx hb9.size;have bl9:=Nat.lt_of_lt_of_le blx hb9.size)
     |(go_at_call 104;refine (lowest_any _ A9 A7 m9 c9 m7 c7 _ _ w9 ((hT8.later hbd).later hb9) hn9 ((hn7.later hbd).later hb9) (by have:=hn9.len;have:=hlr;omega) (by omega)).mono ?_;rintro e w10 ⟨v,rfl,⟨A11,m11,c11,A12,m12,c12,rfl,h11,h12⟩,hb10⟩;have hk10:=((hx8.below hbd cl8).below hb9 (Nat.lt_of_lt_of_le cl8 hbd.size)).below hb10 (Nat.lt_of_lt_of_le (Nat.lt_of_lt_of_le cl8 hbd.size) hb9.size);obtain ⟨e0,e1,e2,f0,f1,f2,gl⟩:=hk10.cells))
   go_wp2_with fail
   have hBw10:Below w.heap.size w w10:=((hBw8.trans (hbd.mono hs8)).trans (hb9.mono hs8)).trans (hb10.mono (by have:=hb9.size;exact Nat.le_trans hs8 this))
   have hset:=three_set hBw10 (g:=w.heap.size+1+1) (by omega) (.bool (lowQ bq (x3*x2 - x1*x4) (x2*x4)).neg) (.slice A11 m11 c11) (.slice A12 m12 c12)
   refine bodyPost_ret (v := .agg #[.bool (lowQ bq (x3*x2 - x1*x4) (x2*x4)).neg,.slice A11 m11 c11,.slice A12 m12 c12]) (by simp [results,Tryz.results65,go_sem,e0,e1,e2]) rfl ⟨_,rfl,⟨A11,m11,c11,A12,m12,c12,by rw [HV.out],?_,?_⟩,hset⟩
   ·rw [size_set3,HV.out];exact h11.res hk10 _ _ _
   ·rw [size_set3,HV.out];exact h12.res hk10 _ _ _
  ·have HV:Hid (plusQ ⟨bp,x1,x2⟩ ⟨bq,x3,x4⟩=lowQ bp (x1*x4 - x3*x2) (x2*x4)):=by unfold Hid plusQ;rw [if_neg hs,if_neg hlt]
   have hcm:=compare_any A5 A6 m5 c5 m6 c6 (x1*x4) (x3*x2) w8 r5 r6
   have hcv:ncmp (x1*x4) (x3*x2)=0∨ncmp (x1*x4) (x3*x2)=1:=by
    unfold ncmp;rw [if_neg hlt];split<;>simp
   have hlr:=len_minus (x1*x4) (x3*x2)
   rw [r5.len] at hlr
   have HLT:=Lib.hid (Nat.le_of_not_lt hlt)
   generalize ncmp (x1*x4) (x3*x2)=cv at hcm hcv
   have hcd:decide (cv<0)=false:=by simp;omega
   clear hs hlt hcv
   go_wp2_with fail
   refine hcm.mono ?_
   rintro e wq ⟨rfl,nq,rfl⟩
   clear hcm
   go_wp2_with fail
   have hbd:Below w8.heap.size w8 (w8.drewN nq).drew:=Below.drew (below_drewN (Below.refl _ _) nq)
   go_region_held3 (fun w'=>w'.cell? ⟨w.heap.size,0,none⟩=some (.bool bp)∧w'.cell? ⟨w.heap.size,1,none⟩=some (.slice A1 n1 c1)∧w'.cell? ⟨w.heap.size,2,none⟩=some (.slice A2 n2 c2)∧w'.cell? ⟨w.heap.size+1,0,none⟩=some (.bool bq)∧w'.cell? ⟨w.heap.size+1,1,none⟩=some (.slice A3 n3 c3)∧w'.cell? ⟨w.heap.size+1,2,none⟩=some (.slice A4 n4 c4))
    (first | exact ⟨a0x,a1x,a2x,b0x,b1x,b2x⟩ | exact ⟨((hb9.cell (p:=⟨w.heap.size,0,none⟩) alx).trans a0x),((hb9.cell (p:=⟨w.heap.size,1,none⟩) alx).trans a1x),((hb9.cell (p:=⟨w.heap.size,2,none⟩) alx).trans a2x),((hb9.cell (p:=⟨w.heap.size+1,0,none⟩) blx).trans b0x),((hb9.cell (p:=⟨w.heap.size+1,1,none⟩) blx).trans b1x),((hb9.cell (p:=⟨w.heap.size+1,2,none⟩) blx).trans b2x)⟩ | exact ⟨((hb10.cell (p:=⟨w.heap.size,0,none⟩) al9).trans ((hb9.cell (p:=⟨w.heap.size,0,none⟩) alx).trans a0x)),((hb10.cell (p:=⟨w.heap.size,1,none⟩) al9).trans ((hb9.cell (p:=⟨w.heap.size,1,none⟩) alx).trans a1x)),((hb10.cell (p:=⟨w.heap.size,2,none⟩) al9).trans ((hb9.cell (p:=⟨w.heap.size,2,none⟩) alx).trans a2x)),((hb10.cell (p:=⟨w.heap.size+1,0,none⟩) bl9).trans ((hb9.cell (p:=⟨w.heap.size+1,0,none⟩) blx).trans b0x)),((hb10.cell (p:=⟨w.heap.size+1,1,none⟩) bl9).trans ((hb9.cell (p:=⟨w.heap.size+1,1,none⟩) blx).trans b1x)),((hb10.cell (p:=⟨w.heap.size+1,2,none⟩) bl9).trans ((hb9.cell (p:=⟨w.heap.size+1,2,none⟩) blx).trans b2x))⟩ | exact ⟨((far3 _ _ _ _ (by dsimp only;omega)).trans ((hb10.cell (p:=⟨w.heap.size,0,none⟩) al9).trans ((hb9.cell (p:=⟨w.heap.size,0,none⟩) alx).trans a0x))),((far3 _ _ _ _ (by dsimp only;omega)).trans ((hb10.cell (p:=⟨w.heap.size,1,none⟩) al9).trans ((hb9.cell (p:=⟨w.heap.size,1,none⟩) alx).trans a1x))),((far3 _ _ _ _ (by dsimp only;omega)).trans ((hb10.cell (p:=⟨w.heap.size,2,none⟩) al9).trans ((hb9.cell (p:=⟨w.heap.size,2,none⟩) alx).trans a2x))),((far3 _ _ _ _ (by dsimp only;omega)).trans ((hb10.cell (p:=⟨w.heap.size+1,0,none⟩) bl9).trans ((hb9.cell (p:=⟨w.heap.size+1,0,none⟩) blx).trans b0x))),((far3 _ _ _ _ (by dsimp only;omega)).trans ((hb10.cell (p:=⟨w.heap.size+1,1,none⟩) bl9).trans ((hb9.cell (p:=⟨w.heap.size+1,1,none⟩) blx).trans b1x))),((far3 _ _ _ _ (by dsimp only;omega)).trans ((hb10.cell (p:=⟨w.heap.size+1,2,none⟩) bl9).trans ((hb9.cell (p:=⟨w.heap.size+1,2,none⟩) blx).trans b2x)))⟩)
    (first
     |(go_at_call 130;refine (minus_any A5 A6 m5 c5 m6 c6 (x1*x4) (x3*x2) (w8.drewN nq).drew (r5.later hbd) (r6.later hbd) HLT.out (by omega)).mono ?_;rintro e w9 ⟨A9,m9,c9,rfl,hn9,hb9⟩;have al9:=Nat.lt_of_lt_of_le alx hb9.size;have bl9:=Nat.lt_of_lt_of_le blx hb9.size)
     |(go_at_call 104;refine (lowest_any _ A9 A7 m9 c9 m7 c7 _ _ w9 ((hT8.later hbd).later hb9) hn9 ((hn7.later hbd).later hb9) (by have:=hn9.len;have:=hlr;omega) (by omega)).mono ?_;rintro e w10 ⟨v,rfl,⟨A11,m11,c11,A12,m12,c12,rfl,h11,h12⟩,hb10⟩;have hk10:=((hx8.below hbd cl8).below hb9 (Nat.lt_of_lt_of_le cl8 hbd.size)).below hb10 (Nat.lt_of_lt_of_le (Nat.lt_of_lt_of_le cl8 hbd.size) hb9.size);obtain ⟨e0,e1,e2,f0,f1,f2,gl⟩:=hk10.cells))
   go_wp2_with fail
   have hBw10:Below w.heap.size w w10:=((hBw8.trans (hbd.mono hs8)).trans (hb9.mono hs8)).trans (hb10.mono (by have:=hb9.size;exact Nat.le_trans hs8 this))
   have hset:=three_set hBw10 (g:=w.heap.size+1+1) (by omega) (.bool (lowQ bp (x1*x4 - x3*x2) (x2*x4)).neg) (.slice A11 m11 c11) (.slice A12 m12 c12)
   refine bodyPost_ret (v := .agg #[.bool (lowQ bp (x1*x4 - x3*x2) (x2*x4)).neg,.slice A11 m11 c11,.slice A12 m12 c12]) (by simp [results,Tryz.results65,go_sem,e0,e1,e2]) rfl ⟨_,rfl,⟨A11,m11,c11,A12,m12,c12,by rw [HV.out],?_,?_⟩,hset⟩
   ·rw [size_set3,HV.out];exact h11.res hk10 _ _ _
   ·rw [size_set3,HV.out];exact h12.res hk10 _ _ _
end Go.Proofs.YteajibbphcfmeaaGreatDoor
namespace Go.Proofs.YteajibbphcfmeaaGreatDoor
open Go.RowKit Dn
def Sml (q:Q):Prop:=q.top<1000000000∧q.bot<1000000000
instance (q:Q):Decidable (Sml q):=inferInstanceAs (Decidable (_∧_))
theorem NatD.small {w:World} {B n c x:Nat} {A:Option Addr} (h:NatD w B A n c x) (hx:x<1000000000):n≤1:=by
 have h1:=h.len
 have h2:=Dn.digs_length_le (n:=x) (k:=1) (by rw [Nat.pow_one];exact hx)
 omega
theorem RatD.later {w w':World} {v:Value} {q:Q} (h:RatD w w.heap.size v q) (hb:Below w.heap.size w w'):RatD w' w'.heap.size v q:=by
 obtain ⟨A,n,c,A',n',c',rfl,h1,h2⟩:=h
 exact ⟨A,n,c,A',n',c',rfl,h1.later hb,h2.later hb⟩
end Go.Proofs.YteajibbphcfmeaaGreatDoor
