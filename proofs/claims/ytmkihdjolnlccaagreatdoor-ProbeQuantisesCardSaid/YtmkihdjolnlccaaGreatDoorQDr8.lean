/- Contract of plus of package rational's numbers. -/
import Derived.Test.YtmkihdjolnlccaaGreatDoorQDr2
import Derived.Test.YtmkihdjolnlccaaGreatDoorQRb2
namespace Go.Proofs.YtmkihdjolnlccaaGreatDoor
open Go.RowKit Dn
theorem zmU {a b x y:Nat} (hx:(digs x).length≤a) (hy:(digs y).length≤b):(digs (x+y)).length≤a+b+1:=by
 refine digs_length_le ?_
 have h1:=zaa x
 have h2:=zaa y
 have h3:B ^ (digs x).length≤B ^ (a+b):=Nat.pow_le_pow_right zaA (by omega)
 have h4:B ^ (digs y).length≤B ^ (a+b):=Nat.pow_le_pow_right zaA (by omega)
 rw [Nat.pow_succ]
 have h5:B ^ (a+b)*2≤B ^ (a+b)*B:=Nat.mul_le_mul_left _ (by rw [zfV];omega)
 omega
theorem zgK (x y:Nat):(digs (x - y)).length≤(digs x).length:=zac (Nat.sub_le _ _)
theorem ze1 {a b x y:Nat} (hx:(digs x).length≤a) (hy:(digs y).length≤b):(digs (x*y)).length≤a+b:=by
 refine digs_length_le ?_
 rw [Nat.pow_add]
 have h3:B ^ (digs x).length≤B ^ a:=Nat.pow_le_pow_right zaA hx
 have h4:B ^ (digs y).length≤B ^ b:=Nat.pow_le_pow_right zaA hy
 exact Nat.mul_lt_mul'' (Nat.lt_of_lt_of_le (zaa x) h3) (Nat.lt_of_lt_of_le (zaa y) h4)
set_option maxHeartbeats 8000000 in
set_option maxRecDepth 100000 in
theorem ze9 (p q:Q) (A1 A2 A3 A4:Option Addr) (n1 c1 n2 c2 n3 c3 n4 c4:Nat) (w:World) (hT:Tabs w)
  (h1:NatD w w.heap.size A1 n1 c1 p.top) (h2:NatD w w.heap.size A2 n2 c2 p.bot) (h3:NatD w w.heap.size A3 n3 c3 q.top) (h4:NatD w w.heap.size A4 n4 c4 q.bot)
  (k1:n1≤134217728) (k2:n2≤134217728) (k3:n3≤134217728) (k4:n4≤134217728) :
  Calls Tryz.prog 161 #[.agg #[.bool p.neg,.slice A1 n1 c1,.slice A2 n2 c2],.agg #[.bool q.neg,.slice A3 n3 c3,.slice A4 n4 c4]] w (zbH w (zcw p q)):=by
 obtain ⟨bp,x1,x2⟩:=p
 obtain ⟨bq,x3,x4⟩:=q
 dsimp only at h1 h2 h3 h4 ⊢
 have hb3:Below w.heap.size w (((w.alloc (.cells #[.bool bp,.slice A1 n1 c1,.slice A2 n2 c2] 142)).alloc (.cells #[.bool bq,.slice A3 n3 c3,.slice A4 n4 c4] 142)).alloc (.cells #[.bool false,.slice none 0 0,.slice none 0 0] 142)):=
  (((Below.refl _ _).alloc (Nat.le_refl _) _).alloc (by simp) _).alloc (by simp;omega) _
 have hx0:zaQ (((w.alloc (.cells #[.bool bp,.slice A1 n1 c1,.slice A2 n2 c2] 142)).alloc (.cells #[.bool bq,.slice A3 n3 c3,.slice A4 n4 c4] 142)).alloc (.cells #[.bool false,.slice none 0 0,.slice none 0 0] 142)) (w.heap.size) bp (.slice A1 n1 c1) (.slice A2 n2 c2):=
  (((zaQ.new w _ _ _).below ((Below.refl _ _).alloc (Nat.le_refl _) _) (by simp))).below ((Below.refl _ _).alloc (Nat.le_refl _) _) (by simp;omega)
 have hx1:zaQ (((w.alloc (.cells #[.bool bp,.slice A1 n1 c1,.slice A2 n2 c2] 142)).alloc (.cells #[.bool bq,.slice A3 n3 c3,.slice A4 n4 c4] 142)).alloc (.cells #[.bool false,.slice none 0 0,.slice none 0 0] 142)) (w.heap.size+1) bq (.slice A3 n3 c3) (.slice A4 n4 c4):=by
  have h:=(zaQ.new (w.alloc (.cells #[.bool bp,.slice A1 n1 c1,.slice A2 n2 c2] 142)) bq (.slice A3 n3 c3) (.slice A4 n4 c4)).below ((Below.refl _ _).alloc (Nat.le_refl _) (.cells #[.bool false,.slice none 0 0,.slice none 0 0] 142)) (by simp)
  simpa using h
 have hx2:zaQ (((w.alloc (.cells #[.bool bp,.slice A1 n1 c1,.slice A2 n2 c2] 142)).alloc (.cells #[.bool bq,.slice A3 n3 c3,.slice A4 n4 c4] 142)).alloc (.cells #[.bool false,.slice none 0 0,.slice none 0 0] 142)) (w.heap.size+1+1) false (.slice none 0 0) (.slice none 0 0):=by
  have h:=zaQ.new ((w.alloc (.cells #[.bool bp,.slice A1 n1 c1,.slice A2 n2 c2] 142)).alloc (.cells #[.bool bq,.slice A3 n3 c3,.slice A4 n4 c4] 142)) false (.slice none 0 0) (.slice none 0 0)
  simpa using h
 go_enter Tryz.func161,Tryz.ntmps161
 go_wp2_with fail
 generalize (((w.alloc (.cells #[.bool bp,.slice A1 n1 c1,.slice A2 n2 c2] 142)).alloc (.cells #[.bool bq,.slice A3 n3 c3,.slice A4 n4 c4] 142)).alloc (.cells #[.bool false,.slice none 0 0,.slice none 0 0] 142))=w3 at *
 obtain ⟨a0,a1,a2,_,_,_,al⟩:=hx0.cells
 obtain ⟨b0,b1,b2,_,_,_,bl⟩:=hx1.cells
 have hd3:Below w3.heap.size w3 w3.drew:=Below.drew (Below.refl _ _)
 have g1:=(h1.later hb3).later hd3
 have g2:=(h2.later hb3).later hd3
 have g3:=(h3.later hb3).later hd3
 have g4:=(h4.later hb3).later hd3
 go_region_held3 (fun w'=>w'.cell? ⟨w.heap.size,0,none⟩=some (.bool bp)∧w'.cell? ⟨w.heap.size,1,none⟩=some (.slice A1 n1 c1)∧w'.cell? ⟨w.heap.size,2,none⟩=some (.slice A2 n2 c2)∧w'.cell? ⟨w.heap.size+1,0,none⟩=some (.bool bq)∧w'.cell? ⟨w.heap.size+1,1,none⟩=some (.slice A3 n3 c3)∧w'.cell? ⟨w.heap.size+1,2,none⟩=some (.slice A4 n4 c4))
  (first | exact ⟨a0,a1,a2,b0,b1,b2⟩ | exact ⟨((hb5.cell (p:=⟨w.heap.size,0,none⟩) al).trans a0),((hb5.cell (p:=⟨w.heap.size,1,none⟩) al).trans a1),((hb5.cell (p:=⟨w.heap.size,2,none⟩) al).trans a2),((hb5.cell (p:=⟨w.heap.size+1,0,none⟩) bl).trans b0),((hb5.cell (p:=⟨w.heap.size+1,1,none⟩) bl).trans b1),((hb5.cell (p:=⟨w.heap.size+1,2,none⟩) bl).trans b2)⟩ | exact ⟨((hb6.cell (p:=⟨w.heap.size,0,none⟩) al6).trans ((hb5.cell (p:=⟨w.heap.size,0,none⟩) al).trans a0)),((hb6.cell (p:=⟨w.heap.size,1,none⟩) al6).trans ((hb5.cell (p:=⟨w.heap.size,1,none⟩) al).trans a1)),((hb6.cell (p:=⟨w.heap.size,2,none⟩) al6).trans ((hb5.cell (p:=⟨w.heap.size,2,none⟩) al).trans a2)),((hb6.cell (p:=⟨w.heap.size+1,0,none⟩) bl6).trans ((hb5.cell (p:=⟨w.heap.size+1,0,none⟩) bl).trans b0)),((hb6.cell (p:=⟨w.heap.size+1,1,none⟩) bl6).trans ((hb5.cell (p:=⟨w.heap.size+1,1,none⟩) bl).trans b1)),((hb6.cell (p:=⟨w.heap.size+1,2,none⟩) bl6).trans ((hb5.cell (p:=⟨w.heap.size+1,2,none⟩) bl).trans b2))⟩)
  (first
   |(go_at_call_of 163 (Value.slice A1 n1 c1);refine (zbN A1 A4 n1 c1 n4 c4 x1 x4 w3.drew g1 g4 (by omega) (by omega)).mono ?_;rintro e w4 ⟨A5,m5,c5,rfl,hn5,hb5⟩;have al6:=Nat.lt_of_lt_of_le al hb5.size;have bl6:=Nat.lt_of_lt_of_le bl hb5.size)
   |(go_at_call_of 163 (Value.slice A3 n3 c3);refine (zbN A3 A2 n3 c3 n2 c2 x3 x2 w4 (g3.later hb5) (g2.later hb5) (by omega) (by omega)).mono ?_;rintro e w6 ⟨A6,m6,c6,rfl,hn6,hb6⟩))
 have hB6:Below w3.heap.size w3 w6:=(hd3.trans hb5).trans (hb6.mono hb5.size)
 have y2:=(hB6.cell (p:=⟨w.heap.size,2,none⟩) al).trans a2
 have y4:=(hB6.cell (p:=⟨w.heap.size+1,2,none⟩) bl).trans b2
 have q2:=(g2.later hb5).later hb6
 have q4:=(g4.later hb5).later hb6
 have p5:=hn5.later hb6
 clear g1 g2 g3 g4 hn5
 go_wp2_with fail
 refine (zbN A2 A4 n2 c2 n4 c4 x2 x4 w6 q2 q4 (by omega) (by omega)).mono ?_
 rintro e w8 ⟨A7,m7,c7,rfl,hn7,hb8⟩
 have hB8:Below w3.heap.size w3 w8:=hB6.trans (hb8.mono hB6.size)
 have a0x:=(hB8.cell (p:=⟨w.heap.size,0,none⟩) al).trans a0
 have a1x:=(hB8.cell (p:=⟨w.heap.size,1,none⟩) al).trans a1
 have a2x:=(hB8.cell (p:=⟨w.heap.size,2,none⟩) al).trans a2
 have b0x:=(hB8.cell (p:=⟨w.heap.size+1,0,none⟩) bl).trans b0
 have b1x:=(hB8.cell (p:=⟨w.heap.size+1,1,none⟩) bl).trans b1
 have b2x:=(hB8.cell (p:=⟨w.heap.size+1,2,none⟩) bl).trans b2
 have hx8:=hx2.below hB8 hx2.cells.2.2.2.2.2.2
 have cl8:=hx8.cells.2.2.2.2.2.2
 have alx:=Nat.lt_of_lt_of_le al hB8.size
 have blx:=Nat.lt_of_lt_of_le bl hB8.size
 have hBw8:Below w.heap.size w w8:=hb3.trans (hB8.mono hb3.size)
 have hT8:=hT.later hBw8
 have r5:=p5.later hb8
 have r6:=hn6.later hb8
 have l5:m5≤n1+n4:=by have h:=ze1 (Nat.le_of_eq h1.len) (Nat.le_of_eq h4.len);rw [r5.len] at h;exact h
 have l6:m6≤n3+n2:=by have h:=ze1 (Nat.le_of_eq h3.len) (Nat.le_of_eq h2.len);rw [r6.len] at h;exact h
 have l7:m7≤n2+n4:=by have h:=ze1 (Nat.le_of_eq h2.len) (Nat.le_of_eq h4.len);rw [hn7.len] at h;exact h
 have hs8:=hBw8.size
 clear p5 q2 q4 hn6 y2 y4 hb5 hb6 hb8 hB6 hx0 hx1 hx2 a0 a1 a2 b0 b1 b2
 by_cases hs:bp=bq
 ·have HV:Hid (zcw ⟨bp,x1,x2⟩ ⟨bq,x3,x4⟩=lowQ bp (x1*x4+x3*x2) (x2*x4)):=by unfold Hid zcw;rw [if_pos hs]
  have hbe:(bp==bq)=true:=by simpa using hs
  have hlr:=zmU (Nat.le_of_eq r5.len) (Nat.le_of_eq r6.len)
  have hbd:Below w8.heap.size w8 w8.drew:=Below.drew (Below.refl _ _)
  clear hs
  go_wp2_with fail
  go_region_held3 (fun w'=>w'.cell? ⟨w.heap.size,0,none⟩=some (.bool bp)∧w'.cell? ⟨w.heap.size,1,none⟩=some (.slice A1 n1 c1)∧w'.cell? ⟨w.heap.size,2,none⟩=some (.slice A2 n2 c2)∧w'.cell? ⟨w.heap.size+1,0,none⟩=some (.bool bq)∧w'.cell? ⟨w.heap.size+1,1,none⟩=some (.slice A3 n3 c3)∧w'.cell? ⟨w.heap.size+1,2,none⟩=some (.slice A4 n4 c4))
   (first | exact ⟨a0x,a1x,a2x,b0x,b1x,b2x⟩ | exact ⟨((hb9.cell (p:=⟨w.heap.size,0,none⟩) alx).trans a0x),((hb9.cell (p:=⟨w.heap.size,1,none⟩) alx).trans a1x),((hb9.cell (p:=⟨w.heap.size,2,none⟩) alx).trans a2x),((hb9.cell (p:=⟨w.heap.size+1,0,none⟩) blx).trans b0x),((hb9.cell (p:=⟨w.heap.size+1,1,none⟩) blx).trans b1x),((hb9.cell (p:=⟨w.heap.size+1,2,none⟩) blx).trans b2x)⟩ | exact ⟨((hb10.cell (p:=⟨w.heap.size,0,none⟩) al9).trans ((hb9.cell (p:=⟨w.heap.size,0,none⟩) alx).trans a0x)),((hb10.cell (p:=⟨w.heap.size,1,none⟩) al9).trans ((hb9.cell (p:=⟨w.heap.size,1,none⟩) alx).trans a1x)),((hb10.cell (p:=⟨w.heap.size,2,none⟩) al9).trans ((hb9.cell (p:=⟨w.heap.size,2,none⟩) alx).trans a2x)),((hb10.cell (p:=⟨w.heap.size+1,0,none⟩) bl9).trans ((hb9.cell (p:=⟨w.heap.size+1,0,none⟩) blx).trans b0x)),((hb10.cell (p:=⟨w.heap.size+1,1,none⟩) bl9).trans ((hb9.cell (p:=⟨w.heap.size+1,1,none⟩) blx).trans b1x)),((hb10.cell (p:=⟨w.heap.size+1,2,none⟩) bl9).trans ((hb9.cell (p:=⟨w.heap.size+1,2,none⟩) blx).trans b2x))⟩ | exact ⟨((far3 _ _ _ _ (by dsimp only;omega)).trans ((hb10.cell (p:=⟨w.heap.size,0,none⟩) al9).trans ((hb9.cell (p:=⟨w.heap.size,0,none⟩) alx).trans a0x))),((far3 _ _ _ _ (by dsimp only;omega)).trans ((hb10.cell (p:=⟨w.heap.size,1,none⟩) al9).trans ((hb9.cell (p:=⟨w.heap.size,1,none⟩) alx).trans a1x))),((far3 _ _ _ _ (by dsimp only;omega)).trans ((hb10.cell (p:=⟨w.heap.size,2,none⟩) al9).trans ((hb9.cell (p:=⟨w.heap.size,2,none⟩) alx).trans a2x))),((far3 _ _ _ _ (by dsimp only;omega)).trans ((hb10.cell (p:=⟨w.heap.size+1,0,none⟩) bl9).trans ((hb9.cell (p:=⟨w.heap.size+1,0,none⟩) blx).trans b0x))),((far3 _ _ _ _ (by dsimp only;omega)).trans ((hb10.cell (p:=⟨w.heap.size+1,1,none⟩) bl9).trans ((hb9.cell (p:=⟨w.heap.size+1,1,none⟩) blx).trans b1x))),((far3 _ _ _ _ (by dsimp only;omega)).trans ((hb10.cell (p:=⟨w.heap.size+1,2,none⟩) bl9).trans ((hb9.cell (p:=⟨w.heap.size+1,2,none⟩) blx).trans b2x)))⟩)
   (first
    |(go_at_call 214;refine (zmH A5 A6 m5 c5 m6 c6 (x1*x4) (x3*x2) w8.drew (r5.later hbd) (r6.later hbd) (by omega) (by omega)).mono ?_;rintro e w9 ⟨A9,m9,c9,rfl,hn9,hb9⟩;have al9:=Nat.lt_of_lt_of_le alx hb9.size;have bl9:=Nat.lt_of_lt_of_le blx hb9.size)
    |(go_at_call 162;refine (zce _ A9 A7 m9 c9 m7 c7 _ _ w9 ((hT8.later hbd).later hb9) hn9 ((hn7.later hbd).later hb9) (by have:=hn9.len;have:=hlr;omega) (by omega)).mono ?_;rintro e w10 ⟨v,rfl,⟨A11,m11,c11,A12,m12,c12,rfl,h11,h12⟩,hb10⟩;have hk10:=((hx8.below hbd cl8).below hb9 (Nat.lt_of_lt_of_le cl8 hbd.size)).below hb10 (Nat.lt_of_lt_of_le (Nat.lt_of_lt_of_le cl8 hbd.size) hb9.size);obtain ⟨e0,e1,e2,f0,f1,f2,gl⟩:=hk10.cells))
  go_wp2_with fail
  have hBw10:Below w.heap.size w w10:=((hBw8.trans (hbd.mono hs8)).trans (hb9.mono hs8)).trans (hb10.mono (by have:=hb9.size;exact Nat.le_trans hs8 this))
  have hset:=zao hBw10 (g:=w.heap.size+1+1) (by omega) (.bool (lowQ bp (x1*x4+x3*x2) (x2*x4)).neg) (.slice A11 m11 c11) (.slice A12 m12 c12)
  refine bodyPost_ret (v := .agg #[.bool (lowQ bp (x1*x4+x3*x2) (x2*x4)).neg,.slice A11 m11 c11,.slice A12 m12 c12]) (by simp [results,Tryz.results161,go_sem,e0,e1,e2]) rfl ⟨_,rfl,⟨A11,m11,c11,A12,m12,c12,by rw [HV.out],?_,?_⟩,hset⟩
  ·rw [zah,HV.out];exact h11.res hk10 _ _ _
  ·rw [zah,HV.out];exact h12.res hk10 _ _ _
 ·have hbe:(bp==bq)=false:=by simpa using hs
  by_cases hlt:x1*x4<x3*x2
  ·have HV:Hid (zcw ⟨bp,x1,x2⟩ ⟨bq,x3,x4⟩=lowQ bq (x3*x2 - x1*x4) (x2*x4)):=by unfold Hid zcw;rw [if_neg hs,if_pos hlt]
   have hcm:=zgX A5 A6 m5 c5 m6 c6 (x1*x4) (x3*x2) w8 r5 r6 (by omega) (by omega)
   rw [show Bn.ncmp (x1*x4) (x3*x2) = -1 from by unfold Bn.ncmp;rw [if_pos hlt]] at hcm
   have hlr:=zgK (x3*x2) (x1*x4)
   rw [r6.len] at hlr
   have HLT:=Lib.hid hlt
   clear hs hlt
   go_wp2_with fail
   refine hcm.mono ?_
   rintro e wq ⟨rfl,nq,rfl⟩
   clear hcm
   go_wp2_with fail
   have hbd:Below w8.heap.size w8 (w8.drewN nq).drew:=Below.drew (zab (Below.refl _ _) nq)
   go_region_held3 (fun w'=>w'.cell? ⟨w.heap.size,0,none⟩=some (.bool bp)∧w'.cell? ⟨w.heap.size,1,none⟩=some (.slice A1 n1 c1)∧w'.cell? ⟨w.heap.size,2,none⟩=some (.slice A2 n2 c2)∧w'.cell? ⟨w.heap.size+1,0,none⟩=some (.bool bq)∧w'.cell? ⟨w.heap.size+1,1,none⟩=some (.slice A3 n3 c3)∧w'.cell? ⟨w.heap.size+1,2,none⟩=some (.slice A4 n4 c4))
    (first | exact ⟨a0x,a1x,a2x,b0x,b1x,b2x⟩ | exact ⟨((hb9.cell (p:=⟨w.heap.size,0,none⟩) alx).trans a0x),((hb9.cell (p:=⟨w.heap.size,1,none⟩) alx).trans a1x),((hb9.cell (p:=⟨w.heap.size,2,none⟩) alx).trans a2x),((hb9.cell (p:=⟨w.heap.size+1,0,none⟩) blx).trans b0x),((hb9.cell (p:=⟨w.heap.size+1,1,none⟩) blx).trans b1x),((hb9.cell (p:=⟨w.heap.size+1,2,none⟩) blx).trans b2x)⟩ | exact ⟨((hb10.cell (p:=⟨w.heap.size,0,none⟩) al9).trans ((hb9.cell (p:=⟨w.heap.size,0,none⟩) alx).trans a0x)),((hb10.cell (p:=⟨w.heap.size,1,none⟩) al9).trans ((hb9.cell (p:=⟨w.heap.size,1,none⟩) alx).trans a1x)),((hb10.cell (p:=⟨w.heap.size,2,none⟩) al9).trans ((hb9.cell (p:=⟨w.heap.size,2,none⟩) alx).trans a2x)),((hb10.cell (p:=⟨w.heap.size+1,0,none⟩) bl9).trans ((hb9.cell (p:=⟨w.heap.size+1,0,none⟩) blx).trans b0x)),((hb10.cell (p:=⟨w.heap.size+1,1,none⟩) bl9).trans ((hb9.cell (p:=⟨w.heap.size+1,1,none⟩) blx).trans b1x)),((hb10.cell (p:=⟨w.heap.size+1,2,none⟩) bl9).trans ((hb9.cell (p:=⟨w.heap.size+1,2,none⟩) blx).trans b2x))⟩ | exact ⟨((far3 _ _ _ _ (by dsimp only;omega)).trans ((hb10.cell (p:=⟨w.heap.size,0,none⟩) al9).trans ((hb9.cell (p:=⟨w.heap.size,0,none⟩) alx).trans a0x))),((far3 _ _ _ _ (by dsimp only;omega)).trans ((hb10.cell (p:=⟨w.heap.size,1,none⟩) al9).trans ((hb9.cell (p:=⟨w.heap.size,1,none⟩) alx).trans a1x))),((far3 _ _ _ _ (by dsimp only;omega)).trans ((hb10.cell (p:=⟨w.heap.size,2,none⟩) al9).trans ((hb9.cell (p:=⟨w.heap.size,2,none⟩) alx).trans a2x))),((far3 _ _ _ _ (by dsimp only;omega)).trans ((hb10.cell (p:=⟨w.heap.size+1,0,none⟩) bl9).trans ((hb9.cell (p:=⟨w.heap.size+1,0,none⟩) blx).trans b0x))),((far3 _ _ _ _ (by dsimp only;omega)).trans ((hb10.cell (p:=⟨w.heap.size+1,1,none⟩) bl9).trans ((hb9.cell (p:=⟨w.heap.size+1,1,none⟩) blx).trans b1x))),((far3 _ _ _ _ (by dsimp only;omega)).trans ((hb10.cell (p:=⟨w.heap.size+1,2,none⟩) bl9).trans ((hb9.cell (p:=⟨w.heap.size+1,2,none⟩) blx).trans b2x)))⟩)
    (first
     |(go_at_call 216;refine (zgQ A6 A5 m6 c6 m5 c5 (x3*x2) (x1*x4) (w8.drewN nq).drew (r6.later hbd) (r5.later hbd) (Nat.le_of_lt HLT.out) (by omega)).mono ?_;rintro e w9 ⟨A9,m9,c9,rfl,hn9,hb9⟩;have al9:=Nat.lt_of_lt_of_le alx hb9.size;have bl9:=Nat.lt_of_lt_of_le blx hb9.size)
     |(go_at_call 162;refine (zce _ A9 A7 m9 c9 m7 c7 _ _ w9 ((hT8.later hbd).later hb9) hn9 ((hn7.later hbd).later hb9) (by have:=hn9.len;have:=hlr;omega) (by omega)).mono ?_;rintro e w10 ⟨v,rfl,⟨A11,m11,c11,A12,m12,c12,rfl,h11,h12⟩,hb10⟩;have hk10:=((hx8.below hbd cl8).below hb9 (Nat.lt_of_lt_of_le cl8 hbd.size)).below hb10 (Nat.lt_of_lt_of_le (Nat.lt_of_lt_of_le cl8 hbd.size) hb9.size);obtain ⟨e0,e1,e2,f0,f1,f2,gl⟩:=hk10.cells))
   go_wp2_with fail
   have hBw10:Below w.heap.size w w10:=((hBw8.trans (hbd.mono hs8)).trans (hb9.mono hs8)).trans (hb10.mono (by have:=hb9.size;exact Nat.le_trans hs8 this))
   have hset:=zao hBw10 (g:=w.heap.size+1+1) (by omega) (.bool (lowQ bq (x3*x2 - x1*x4) (x2*x4)).neg) (.slice A11 m11 c11) (.slice A12 m12 c12)
   refine bodyPost_ret (v := .agg #[.bool (lowQ bq (x3*x2 - x1*x4) (x2*x4)).neg,.slice A11 m11 c11,.slice A12 m12 c12]) (by simp [results,Tryz.results161,go_sem,e0,e1,e2]) rfl ⟨_,rfl,⟨A11,m11,c11,A12,m12,c12,by rw [HV.out],?_,?_⟩,hset⟩
   ·rw [zah,HV.out];exact h11.res hk10 _ _ _
   ·rw [zah,HV.out];exact h12.res hk10 _ _ _
  ·have HV:Hid (zcw ⟨bp,x1,x2⟩ ⟨bq,x3,x4⟩=lowQ bp (x1*x4 - x3*x2) (x2*x4)):=by unfold Hid zcw;rw [if_neg hs,if_neg hlt]
   have hcm:=zgX A5 A6 m5 c5 m6 c6 (x1*x4) (x3*x2) w8 r5 r6 (by omega) (by omega)
   have hcv:Bn.ncmp (x1*x4) (x3*x2)=0∨Bn.ncmp (x1*x4) (x3*x2)=1:=by
    unfold Bn.ncmp;rw [if_neg hlt];split<;>simp
   have hlr:=zgK (x1*x4) (x3*x2)
   rw [r5.len] at hlr
   have HLT:=Lib.hid (Nat.le_of_not_lt hlt)
   generalize Bn.ncmp (x1*x4) (x3*x2)=cv at hcm hcv
   have hcd:decide (cv<0)=false:=by simp;omega
   clear hs hlt hcv
   go_wp2_with fail
   refine hcm.mono ?_
   rintro e wq ⟨rfl,nq,rfl⟩
   clear hcm
   go_wp2_with fail
   have hbd:Below w8.heap.size w8 (w8.drewN nq).drew:=Below.drew (zab (Below.refl _ _) nq)
   go_region_held3 (fun w'=>w'.cell? ⟨w.heap.size,0,none⟩=some (.bool bp)∧w'.cell? ⟨w.heap.size,1,none⟩=some (.slice A1 n1 c1)∧w'.cell? ⟨w.heap.size,2,none⟩=some (.slice A2 n2 c2)∧w'.cell? ⟨w.heap.size+1,0,none⟩=some (.bool bq)∧w'.cell? ⟨w.heap.size+1,1,none⟩=some (.slice A3 n3 c3)∧w'.cell? ⟨w.heap.size+1,2,none⟩=some (.slice A4 n4 c4))
    (first | exact ⟨a0x,a1x,a2x,b0x,b1x,b2x⟩ | exact ⟨((hb9.cell (p:=⟨w.heap.size,0,none⟩) alx).trans a0x),((hb9.cell (p:=⟨w.heap.size,1,none⟩) alx).trans a1x),((hb9.cell (p:=⟨w.heap.size,2,none⟩) alx).trans a2x),((hb9.cell (p:=⟨w.heap.size+1,0,none⟩) blx).trans b0x),((hb9.cell (p:=⟨w.heap.size+1,1,none⟩) blx).trans b1x),((hb9.cell (p:=⟨w.heap.size+1,2,none⟩) blx).trans b2x)⟩ | exact ⟨((hb10.cell (p:=⟨w.heap.size,0,none⟩) al9).trans ((hb9.cell (p:=⟨w.heap.size,0,none⟩) alx).trans a0x)),((hb10.cell (p:=⟨w.heap.size,1,none⟩) al9).trans ((hb9.cell (p:=⟨w.heap.size,1,none⟩) alx).trans a1x)),((hb10.cell (p:=⟨w.heap.size,2,none⟩) al9).trans ((hb9.cell (p:=⟨w.heap.size,2,none⟩) alx).trans a2x)),((hb10.cell (p:=⟨w.heap.size+1,0,none⟩) bl9).trans ((hb9.cell (p:=⟨w.heap.size+1,0,none⟩) blx).trans b0x)),((hb10.cell (p:=⟨w.heap.size+1,1,none⟩) bl9).trans ((hb9.cell (p:=⟨w.heap.size+1,1,none⟩) blx).trans b1x)),((hb10.cell (p:=⟨w.heap.size+1,2,none⟩) bl9).trans ((hb9.cell (p:=⟨w.heap.size+1,2,none⟩) blx).trans b2x))⟩ | exact ⟨((far3 _ _ _ _ (by dsimp only;omega)).trans ((hb10.cell (p:=⟨w.heap.size,0,none⟩) al9).trans ((hb9.cell (p:=⟨w.heap.size,0,none⟩) alx).trans a0x))),((far3 _ _ _ _ (by dsimp only;omega)).trans ((hb10.cell (p:=⟨w.heap.size,1,none⟩) al9).trans ((hb9.cell (p:=⟨w.heap.size,1,none⟩) alx).trans a1x))),((far3 _ _ _ _ (by dsimp only;omega)).trans ((hb10.cell (p:=⟨w.heap.size,2,none⟩) al9).trans ((hb9.cell (p:=⟨w.heap.size,2,none⟩) alx).trans a2x))),((far3 _ _ _ _ (by dsimp only;omega)).trans ((hb10.cell (p:=⟨w.heap.size+1,0,none⟩) bl9).trans ((hb9.cell (p:=⟨w.heap.size+1,0,none⟩) blx).trans b0x))),((far3 _ _ _ _ (by dsimp only;omega)).trans ((hb10.cell (p:=⟨w.heap.size+1,1,none⟩) bl9).trans ((hb9.cell (p:=⟨w.heap.size+1,1,none⟩) blx).trans b1x))),((far3 _ _ _ _ (by dsimp only;omega)).trans ((hb10.cell (p:=⟨w.heap.size+1,2,none⟩) bl9).trans ((hb9.cell (p:=⟨w.heap.size+1,2,none⟩) blx).trans b2x)))⟩)
    (first
     |(go_at_call 216;refine (zgQ A5 A6 m5 c5 m6 c6 (x1*x4) (x3*x2) (w8.drewN nq).drew (r5.later hbd) (r6.later hbd) HLT.out (by omega)).mono ?_;rintro e w9 ⟨A9,m9,c9,rfl,hn9,hb9⟩;have al9:=Nat.lt_of_lt_of_le alx hb9.size;have bl9:=Nat.lt_of_lt_of_le blx hb9.size)
     |(go_at_call 162;refine (zce _ A9 A7 m9 c9 m7 c7 _ _ w9 ((hT8.later hbd).later hb9) hn9 ((hn7.later hbd).later hb9) (by have:=hn9.len;have:=hlr;omega) (by omega)).mono ?_;rintro e w10 ⟨v,rfl,⟨A11,m11,c11,A12,m12,c12,rfl,h11,h12⟩,hb10⟩;have hk10:=((hx8.below hbd cl8).below hb9 (Nat.lt_of_lt_of_le cl8 hbd.size)).below hb10 (Nat.lt_of_lt_of_le (Nat.lt_of_lt_of_le cl8 hbd.size) hb9.size);obtain ⟨e0,e1,e2,f0,f1,f2,gl⟩:=hk10.cells))
   go_wp2_with fail
   have hBw10:Below w.heap.size w w10:=((hBw8.trans (hbd.mono hs8)).trans (hb9.mono hs8)).trans (hb10.mono (by have:=hb9.size;exact Nat.le_trans hs8 this))
   have hset:=zao hBw10 (g:=w.heap.size+1+1) (by omega) (.bool (lowQ bp (x1*x4 - x3*x2) (x2*x4)).neg) (.slice A11 m11 c11) (.slice A12 m12 c12)
   refine bodyPost_ret (v := .agg #[.bool (lowQ bp (x1*x4 - x3*x2) (x2*x4)).neg,.slice A11 m11 c11,.slice A12 m12 c12]) (by simp [results,Tryz.results161,go_sem,e0,e1,e2]) rfl ⟨_,rfl,⟨A11,m11,c11,A12,m12,c12,by rw [HV.out],?_,?_⟩,hset⟩
   ·rw [zah,HV.out];exact h11.res hk10 _ _ _
   ·rw [zah,HV.out];exact h12.res hk10 _ _ _
set_option maxHeartbeats 4000000 in
set_option maxRecDepth 100000 in
theorem zev (p q:Q) (A1 A2 A3 A4:Option Addr) (n1 c1 n2 c2 n3 c3 n4 c4:Nat) (w:World) (hT:Tabs w)
  (h1:NatD w w.heap.size A1 n1 c1 p.top) (h2:NatD w w.heap.size A2 n2 c2 p.bot) (h3:NatD w w.heap.size A3 n3 c3 q.top) (h4:NatD w w.heap.size A4 n4 c4 q.bot)
  (k1:n1≤134217728) (k2:n2≤134217728) (k3:n3≤134217728) (k4:n4≤134217728) :
  Calls Tryz.prog 93 #[.agg #[.bool p.neg,.slice A1 n1 c1,.slice A2 n2 c2],.agg #[.bool q.neg,.slice A3 n3 c3,.slice A4 n4 c4]] w (zbH w (zcw p ⟨!q.neg,q.top,q.bot⟩)):=by
 have hb3:Below w.heap.size w (((w.alloc (.cells #[.bool p.neg,.slice A1 n1 c1,.slice A2 n2 c2] 142)).alloc (.cells #[.bool q.neg,.slice A3 n3 c3,.slice A4 n4 c4] 142)).alloc (.cells #[.bool false,.slice none 0 0,.slice none 0 0] 142)):=
  (((Below.refl _ _).alloc (Nat.le_refl _) _).alloc (by simp) _).alloc (by simp;omega) _
 have hx2:zaQ (((w.alloc (.cells #[.bool p.neg,.slice A1 n1 c1,.slice A2 n2 c2] 142)).alloc (.cells #[.bool q.neg,.slice A3 n3 c3,.slice A4 n4 c4] 142)).alloc (.cells #[.bool false,.slice none 0 0,.slice none 0 0] 142)) (w.heap.size+1+1) false (.slice none 0 0) (.slice none 0 0):=by
  have h:=zaQ.new ((w.alloc (.cells #[.bool p.neg,.slice A1 n1 c1,.slice A2 n2 c2] 142)).alloc (.cells #[.bool q.neg,.slice A3 n3 c3,.slice A4 n4 c4] 142)) false (.slice none 0 0) (.slice none 0 0)
  simpa using h
 have hp:=Lib.hid (ze9 p ⟨!q.neg,q.top,q.bot⟩ A1 A2 A3 A4 n1 c1 n2 c2 n3 c3 n4 c4 _ (hT.later hb3) (h1.later hb3) (h2.later hb3) (h3.later hb3) (h4.later hb3) k1 k2 k3 k4)
 have HB3:=Lib.hid hb3
 have HX2:=Lib.hid hx2
 clear hb3 hx2
 generalize zcw p ⟨!q.neg,q.top,q.bot⟩=z at *
 go_enter Tryz.func93,Tryz.ntmps93
 go_wp2_with fail
 refine hp.out.mono ?_
 rintro e w7 ⟨v,rfl,⟨A7,m7,c7,A8,m8,c8,rfl,h7,h8⟩,hb7⟩
 have hk7:=HX2.out.below hb7 HX2.out.cells.2.2.2.2.2.2
 have hs3:=HB3.out.size
 have hb7all:Below w.heap.size w w7:=HB3.out.trans (hb7.mono hs3)
 obtain ⟨e0,e1,e2,g0,g1,g2,gl⟩:=hk7.cells
 have hset:=zao hb7all (g:=w.heap.size+1+1) (by omega) (.bool z.neg) (.slice A7 m7 c7) (.slice A8 m8 c8)
 clear hp HB3 HX2 hb7 hs3
 go_wp2_with fail
 refine bodyPost_ret (v := .agg #[.bool z.neg,.slice A7 m7 c7,.slice A8 m8 c8]) (by simp [results,Tryz.results93,go_sem,e0,e1,e2]) rfl ⟨_,rfl,⟨A7,m7,c7,A8,m8,c8,rfl,?_,?_⟩,hset⟩
 ·rw [zah];exact h7.res hk7 _ _ _
 ·rw [zah];exact h8.res hk7 _ _ _
def zgy (q:Q):Int:=if q.top=0 then 0 else if q.neg then -1 else 1
set_option maxHeartbeats 1000000 in
theorem zim (b:Bool) (x y:Nat) (A1 A2:Option Addr) (n1 c1 n2 c2:Nat) (w:World) (h1:NatD w w.heap.size A1 n1 c1 x) :
  Calls Tryz.prog 95 #[.agg #[.bool b,.slice A1 n1 c1,.slice A2 n2 c2]] w fun e w'=>e = .returned (.int .i64 (zgy ⟨b,x,y⟩))∧Below w.heap.size w w':=by
 have hb1:Below w.heap.size w (w.alloc (.cells #[.bool b,.slice A1 n1 c1,.slice A2 n2 c2] 142)):=(Below.refl _ _).alloc (Nat.le_refl _) _
 have hz:=zbn A1 n1 c1 x _ (h1.later hb1)
 have HB1:=Lib.hid hb1
 by_cases hx:x=0
 ·have hs:zgy ⟨b,x,y⟩=0:=by simp [zgy,hx]
  rw [hs]
  have d1:decide (x=0)=true:=by simpa using hx
  rw [d1] at hz
  have HZ:=Lib.hid hz
  clear hz hx hs d1 hb1
  go_enter Tryz.func95,Tryz.ntmps95
  go_wp2_with fail
  refine HZ.out.mono ?_
  rintro e w1 ⟨rfl,rfl⟩
  go_wp2
  go_ret
  exact ⟨rfl,HB1.out⟩
 ·have d1:decide (x=0)=false:=by simpa using hx
  rw [d1] at hz
  have HZ:=Lib.hid hz
  cases b
  ·have hs:zgy ⟨false,x,y⟩=1:=by simp [zgy,hx]
   rw [hs]
   clear hz hx hs d1 hb1
   go_enter Tryz.func95,Tryz.ntmps95
   go_wp2_with fail
   refine HZ.out.mono ?_
   rintro e w1 ⟨rfl,rfl⟩
   go_wp2
   go_ret
   exact ⟨rfl,HB1.out⟩
  ·have hs:zgy ⟨true,x,y⟩ = -1:=by simp [zgy,hx]
   rw [hs]
   clear hz hx hs d1 hb1
   go_enter Tryz.func95,Tryz.ntmps95
   go_wp2_with fail
   refine HZ.out.mono ?_
   rintro e w1 ⟨rfl,rfl⟩
   go_wp2
   go_ret
   exact ⟨rfl,HB1.out⟩
def Sml (q:Q):Prop:=q.top<1000000000∧q.bot<1000000000
instance (q:Q):Decidable (Sml q):=inferInstanceAs (Decidable (_∧_))
theorem NatD.small {w:World} {B n c x:Nat} {A:Option Addr} (h:NatD w B A n c x) (hx:x<1000000000):n≤1:=by
 have h1:=h.len
 have h2:=Dn.digs_length_le (n:=x) (k:=1) (by rw [Nat.pow_one];exact hx)
 omega
theorem RatD.later {w w':World} {v:Value} {q:Q} (h:RatD w w.heap.size v q) (hb:Below w.heap.size w w'):RatD w' w'.heap.size v q:=by
 obtain ⟨A,n,c,A',n',c',rfl,h1,h2⟩:=h
 exact ⟨A,n,c,A',n',c',rfl,h1.later hb,h2.later hb⟩
theorem zk0 (p q:Q) (v u:Value) (w:World) (hT:Tabs w) (hv:RatD w w.heap.size v p) (hu:RatD w w.heap.size u q) (hp:Sml p) (hq:Sml q) :
  Calls Tryz.prog 97 #[v,u] w (zbH w (lowQ (p.neg != q.neg) (p.top*q.top) (p.bot*q.bot))):=by
 obtain ⟨A1,n1,c1,A2,n2,c2,rfl,h1,h2⟩:=hv
 obtain ⟨A3,n3,c3,A4,n4,c4,rfl,h3,h4⟩:=hu
 have b1:=h1.small hp.1
 have b2:=h2.small hp.2
 have b3:=h3.small hq.1
 have b4:=h4.small hq.2
 exact zd6 p q _ _ _ _ _ _ _ _ _ _ _ _ w hT h1 h2 h3 h4 (by omega) (by omega) (by omega) (by omega)
theorem zrG (p q:Q) (v u:Value) (w:World) (hT:Tabs w) (hv:RatD w w.heap.size v p) (hu:RatD w w.heap.size u q) (hp:Sml p) (hq:Sml q) :
  Calls Tryz.prog 94 #[v,u] w (zbH w (lowQ (p.neg != q.neg) (p.top*q.bot) (p.bot*q.top))):=by
 obtain ⟨A1,n1,c1,A2,n2,c2,rfl,h1,h2⟩:=hv
 obtain ⟨A3,n3,c3,A4,n4,c4,rfl,h3,h4⟩:=hu
 have b1:=h1.small hp.1
 have b2:=h2.small hp.2
 have b3:=h3.small hq.1
 have b4:=h4.small hq.2
 exact zfd p q _ _ _ _ _ _ _ _ _ _ _ _ w hT h1 h2 h3 h4 (by omega) (by omega) (by omega) (by omega)
theorem zrV (p q:Q) (v u:Value) (w:World) (hT:Tabs w) (hv:RatD w w.heap.size v p) (hu:RatD w w.heap.size u q) (hp:Sml p) (hq:Sml q) :
  Calls Tryz.prog 161 #[v,u] w (zbH w (zcw p q)):=by
 obtain ⟨A1,n1,c1,A2,n2,c2,rfl,h1,h2⟩:=hv
 obtain ⟨A3,n3,c3,A4,n4,c4,rfl,h3,h4⟩:=hu
 have b1:=h1.small hp.1
 have b2:=h2.small hp.2
 have b3:=h3.small hq.1
 have b4:=h4.small hq.2
 exact ze9 p q _ _ _ _ _ _ _ _ _ _ _ _ w hT h1 h2 h3 h4 (by omega) (by omega) (by omega) (by omega)
theorem zqF (p q:Q) (v u:Value) (w:World) (hT:Tabs w) (hv:RatD w w.heap.size v p) (hu:RatD w w.heap.size u q) (hp:Sml p) (hq:Sml q) :
  Calls Tryz.prog 93 #[v,u] w (zbH w (zcw p ⟨!q.neg,q.top,q.bot⟩)):=by
 obtain ⟨A1,n1,c1,A2,n2,c2,rfl,h1,h2⟩:=hv
 obtain ⟨A3,n3,c3,A4,n4,c4,rfl,h3,h4⟩:=hu
 have b1:=h1.small hp.1
 have b2:=h2.small hp.2
 have b3:=h3.small hq.1
 have b4:=h4.small hq.2
 exact zev p q _ _ _ _ _ _ _ _ _ _ _ _ w hT h1 h2 h3 h4 (by omega) (by omega) (by omega) (by omega)
theorem znf (p:Q) (v:Value) (w:World) (hv:RatD w w.heap.size v p) :
  Calls Tryz.prog 95 #[v] w fun e w'=>e = .returned (.int .i64 (zgy p))∧Below w.heap.size w w':=by
 obtain ⟨A1,n1,c1,A2,n2,c2,rfl,h1,h2⟩:=hv
 exact zim p.neg p.top p.bot _ _ _ _ _ _ w h1
theorem zk7 (p:Q) (v:Value) (w:World) (hT:Tabs w) (hv:RatD w w.heap.size v p) (hp:Sml p) :
  Calls Tryz.prog 96 #[v] w (zcY w (zaS p) (zaO p)):=by
 obtain ⟨A1,n1,c1,A2,n2,c2,rfl,h1,h2⟩:=hv
 have b1:=h1.small hp.1
 have b2:=h2.small hp.2
 exact zgY p _ _ _ _ _ _ w hT h1 h2 (by omega) (by omega)
set_option maxHeartbeats 1000000 in
theorem zec (s:ByteArray) (w:World) (hT:Tabs w) (hs:s.size≤4294967296) :
  Calls Tryz.prog 91 #[.string s] w (zbH w (zad s.data.toList)):=by
 have hb0:Below w.heap.size w (w.alloc (.cells #[.bool false,.slice none 0 0,.slice none 0 0] 142)):=(Below.refl _ _).alloc (Nat.le_refl _) _
 have hk0:=zaQ.new w false (.slice none 0 0) (.slice none 0 0)
 have h:=zob s _ (hT.later hb0) hs
 generalize zad s.data.toList=q at *
 generalize zam s.data.toList=x at *
 have H:=Lib.hid h
 have HB0:=Lib.hid hb0
 have HK0:=Lib.hid hk0
 clear h hb0 hk0
 go_enter Tryz.func91,Tryz.ntmps91
 go_wp2_with fail
 refine H.out.mono ?_
 rintro e w2 ⟨v,rfl,hv,hb2⟩
 obtain ⟨A1,n1,c1,A2,n2,c2,rfl,h1,h2⟩:=hv
 have hB2:=HB0.out.trans (hb2.mono HB0.out.size)
 have hk2:=HK0.out.below hb2 HK0.out.cells.2.2.2.2.2.2
 have hb3:Below w2.heap.size w2 (w2.alloc (.cells #[.bool q.neg,.slice A1 n1 c1,.slice A2 n2 c2] 142)):=(Below.refl _ _).alloc (Nat.le_refl _) _
 have hk3:=hk2.below hb3 hk2.cells.2.2.2.2.2.2
 obtain ⟨k0,k1,k2,f0,f1,f2,_⟩:=hk3.cells
 have hB3:=hB2.trans (hb3.mono hB2.size)
 have hset:=zao hB3 (g:=w.heap.size) (Nat.le_refl _) (.bool q.neg) (.slice A1 n1 c1) (.slice A2 n2 c2)
 have h1':=h1.later hb3
 have h2':=h2.later hb3
 clear H HB0 HK0 hb2 hb3 hB2 hB3 h1 h2
 go_wp2
 refine bodyPost_ret (v := .agg #[.bool q.neg,.slice A1 n1 c1,.slice A2 n2 c2]) (by simp [results,Tryz.results91,go_sem,k0,k1,k2]) rfl ⟨_,rfl,⟨A1,n1,c1,A2,n2,c2,rfl,?_,?_⟩,hset⟩
 ·rw [zah];exact h1'.res hk3 _ _ _
 ·rw [zah];exact h2'.res hk3 _ _ _
end Go.Proofs.YtmkihdjolnlccaaGreatDoor
