/- Contracts of package number's rational numbers: times. -/
import Derived.Test.YteajibbphcfmeaaGreatDoorTGcd1
import Derived.Test.YteajibbphcfmeaaGreatDoorTNat4
import Derived.Deep.RegionHeld3
import Derived.Test.YteajibbphcfmeaaGreatDoorTDiv4
namespace Go.Proofs.YteajibbphcfmeaaGreatDoor
open Go.RowKit Bn
theorem times_len {A:Option Addr} {n c m k x y:Nat} {w:World} (h:NatS w w.heap.size A n c (x*y)) (hx:(digs x).length≤m) (hy:(digs y).length≤k):n≤m+k:=by
 rw [←h.len]
 refine digs_length_le ?_
 rw [Nat.pow_add]
 have h1:=lt_of_digs_length x
 have h2:=lt_of_digs_length y
 have h3:B ^ (digs x).length≤B ^ m:=Nat.pow_le_pow_right B_pos hx
 have h4:B ^ (digs y).length≤B ^ k:=Nat.pow_le_pow_right B_pos hy
 exact Nat.mul_lt_mul'' (Nat.lt_of_lt_of_le h1 h3) (Nat.lt_of_lt_of_le h2 h4)
theorem far3 {g:Nat} (w:World) (u v x:Value) {q:Addr} (h:g≠q.block):(((w.setCell ⟨g,0,none⟩ u).setCell ⟨g,1,none⟩ v).setCell ⟨g,2,none⟩ x).cell? q=w.cell? q:=by
 rw [World.cell?_setCell_far _ _ _ _ (by exact h),World.cell?_setCell_far _ _ _ _ (by exact h),World.cell?_setCell_far _ _ _ _ (by exact h)]
set_option maxHeartbeats 4000000 in
set_option maxRecDepth 100000 in
theorem ratTimes_any (p q:Q) (A1 A2 A3 A4:Option Addr) (n1 c1 n2 c2 n3 c3 n4 c4:Nat) (w:World) (hT:Tabs w)
  (h1:NatS w w.heap.size A1 n1 c1 p.top) (h2:NatS w w.heap.size A2 n2 c2 p.bot) (h3:NatS w w.heap.size A3 n3 c3 q.top) (h4:NatS w w.heap.size A4 n4 c4 q.bot)
  (k1:n1≤268435456) (k2:n2≤268435456) (k3:n3≤268435456) (k4:n4≤268435456) :
  Calls Tryz.prog 68 #[.agg #[.bool p.neg,.slice A1 n1 c1,.slice A2 n2 c2],.agg #[.bool q.neg,.slice A3 n3 c3,.slice A4 n4 c4]] w (RetRat w (lowQ (p.neg != q.neg) (p.top*q.top) (p.bot*q.bot))):=by
 go_enter Tryz.func68,Tryz.ntmps68
 go_wp2_with fail
 have hb3:Below w.heap.size w (((w.alloc (.cells #[.bool p.neg,.slice A1 n1 c1,.slice A2 n2 c2] 91)).alloc (.cells #[.bool q.neg,.slice A3 n3 c3,.slice A4 n4 c4] 91)).alloc (.cells #[.bool false,.slice none 0 0,.slice none 0 0] 91)):=
  (((Below.refl _ _).alloc (Nat.le_refl _) _).alloc (by simp) _).alloc (by simp;omega) _
 have hx0:ResBlk (((w.alloc (.cells #[.bool p.neg,.slice A1 n1 c1,.slice A2 n2 c2] 91)).alloc (.cells #[.bool q.neg,.slice A3 n3 c3,.slice A4 n4 c4] 91)).alloc (.cells #[.bool false,.slice none 0 0,.slice none 0 0] 91)) w.heap.size p.neg (.slice A1 n1 c1) (.slice A2 n2 c2):=
  (((ResBlk.new w _ _ _).below ((Below.refl _ _).alloc (Nat.le_refl _) _) (by simp))).below ((Below.refl _ _).alloc (Nat.le_refl _) _) (by simp;omega)
 have hx1:ResBlk (((w.alloc (.cells #[.bool p.neg,.slice A1 n1 c1,.slice A2 n2 c2] 91)).alloc (.cells #[.bool q.neg,.slice A3 n3 c3,.slice A4 n4 c4] 91)).alloc (.cells #[.bool false,.slice none 0 0,.slice none 0 0] 91)) (w.heap.size+1) q.neg (.slice A3 n3 c3) (.slice A4 n4 c4):=by
  have h:=(ResBlk.new (w.alloc (.cells #[.bool p.neg,.slice A1 n1 c1,.slice A2 n2 c2] 91)) q.neg (.slice A3 n3 c3) (.slice A4 n4 c4)).below ((Below.refl _ _).alloc (Nat.le_refl _) (.cells #[.bool false,.slice none 0 0,.slice none 0 0] 91)) (by simp)
  simpa using h
 have hx2:ResBlk (((w.alloc (.cells #[.bool p.neg,.slice A1 n1 c1,.slice A2 n2 c2] 91)).alloc (.cells #[.bool q.neg,.slice A3 n3 c3,.slice A4 n4 c4] 91)).alloc (.cells #[.bool false,.slice none 0 0,.slice none 0 0] 91)) (w.heap.size+1+1) false (.slice none 0 0) (.slice none 0 0):=by
  have h:=ResBlk.new ((w.alloc (.cells #[.bool p.neg,.slice A1 n1 c1,.slice A2 n2 c2] 91)).alloc (.cells #[.bool q.neg,.slice A3 n3 c3,.slice A4 n4 c4] 91)) false (.slice none 0 0) (.slice none 0 0)
  simpa using h
 generalize (((w.alloc (.cells #[.bool p.neg,.slice A1 n1 c1,.slice A2 n2 c2] 91)).alloc (.cells #[.bool q.neg,.slice A3 n3 c3,.slice A4 n4 c4] 91)).alloc (.cells #[.bool false,.slice none 0 0,.slice none 0 0] 91))=w3 at *
 obtain ⟨a0,a1,a2,_,_,_,al⟩:=hx0.cells
 obtain ⟨b0,b1,b2,_,_,_,bl⟩:=hx1.cells
 have hb3d:Below w.heap.size w w3.drew:=hb3.drew
 have ht1:=times_any A1 A3 n1 c1 n3 c3 p.top q.top w3.drew (h1.later hb3d) (h3.later hb3d) (by omega) (by omega)
 have hx2d:ResBlk w3.drew (w.heap.size+1+1) false (.slice none 0 0) (.slice none 0 0):=hx2
 have cl:w.heap.size+1+1<w3.drew.heap.size:=hx2d.cells.2.2.2.2.2.2
 have HT1:=Lib.hid ht1
 clear ht1
 go_region_held3 (fun w'=>w'.cell? ⟨w.heap.size,0,none⟩=some (.bool p.neg)∧w'.cell? ⟨w.heap.size,1,none⟩=some (.slice A1 n1 c1)∧w'.cell? ⟨w.heap.size,2,none⟩=some (.slice A2 n2 c2)∧w'.cell? ⟨w.heap.size+1,0,none⟩=some (.bool q.neg)∧w'.cell? ⟨w.heap.size+1,1,none⟩=some (.slice A3 n3 c3)∧w'.cell? ⟨w.heap.size+1,2,none⟩=some (.slice A4 n4 c4))
  (first | exact ⟨a0,a1,a2,b0,b1,b2⟩ | exact ⟨((hb5.cell (p:=⟨w.heap.size,0,none⟩) al).trans a0),((hb5.cell (p:=⟨w.heap.size,1,none⟩) al).trans a1),((hb5.cell (p:=⟨w.heap.size,2,none⟩) al).trans a2),((hb5.cell (p:=⟨w.heap.size+1,0,none⟩) bl).trans b0),((hb5.cell (p:=⟨w.heap.size+1,1,none⟩) bl).trans b1),((hb5.cell (p:=⟨w.heap.size+1,2,none⟩) bl).trans b2)⟩ | exact ⟨((hb6.cell (p:=⟨w.heap.size,0,none⟩) (al6)).trans ((hb5.cell (p:=⟨w.heap.size,0,none⟩) al).trans a0)),((hb6.cell (p:=⟨w.heap.size,1,none⟩) (al6)).trans ((hb5.cell (p:=⟨w.heap.size,1,none⟩) al).trans a1)),((hb6.cell (p:=⟨w.heap.size,2,none⟩) (al6)).trans ((hb5.cell (p:=⟨w.heap.size,2,none⟩) al).trans a2)),((hb6.cell (p:=⟨w.heap.size+1,0,none⟩) (bl6)).trans ((hb5.cell (p:=⟨w.heap.size+1,0,none⟩) bl).trans b0)),((hb6.cell (p:=⟨w.heap.size+1,1,none⟩) (bl6)).trans ((hb5.cell (p:=⟨w.heap.size+1,1,none⟩) bl).trans b1)),((hb6.cell (p:=⟨w.heap.size+1,2,none⟩) (bl6)).trans ((hb5.cell (p:=⟨w.heap.size+1,2,none⟩) bl).trans b2))⟩ | exact ⟨((hb7.cell (p:=⟨w.heap.size,0,none⟩) (al7)).trans ((hb6.cell (p:=⟨w.heap.size,0,none⟩) (al6)).trans ((hb5.cell (p:=⟨w.heap.size,0,none⟩) al).trans a0))),((hb7.cell (p:=⟨w.heap.size,1,none⟩) (al7)).trans ((hb6.cell (p:=⟨w.heap.size,1,none⟩) (al6)).trans ((hb5.cell (p:=⟨w.heap.size,1,none⟩) al).trans a1))),((hb7.cell (p:=⟨w.heap.size,2,none⟩) (al7)).trans ((hb6.cell (p:=⟨w.heap.size,2,none⟩) (al6)).trans ((hb5.cell (p:=⟨w.heap.size,2,none⟩) al).trans a2))),((hb7.cell (p:=⟨w.heap.size+1,0,none⟩) (bl7)).trans ((hb6.cell (p:=⟨w.heap.size+1,0,none⟩) (bl6)).trans ((hb5.cell (p:=⟨w.heap.size+1,0,none⟩) bl).trans b0))),((hb7.cell (p:=⟨w.heap.size+1,1,none⟩) (bl7)).trans ((hb6.cell (p:=⟨w.heap.size+1,1,none⟩) (bl6)).trans ((hb5.cell (p:=⟨w.heap.size+1,1,none⟩) bl).trans b1))),((hb7.cell (p:=⟨w.heap.size+1,2,none⟩) (bl7)).trans ((hb6.cell (p:=⟨w.heap.size+1,2,none⟩) (bl6)).trans ((hb5.cell (p:=⟨w.heap.size+1,2,none⟩) bl).trans b2)))⟩ | exact ⟨((far3 _ _ _ _ (by dsimp only;omega)).trans ((hb7.cell (p:=⟨w.heap.size,0,none⟩) (al7)).trans ((hb6.cell (p:=⟨w.heap.size,0,none⟩) (al6)).trans ((hb5.cell (p:=⟨w.heap.size,0,none⟩) al).trans a0)))),((far3 _ _ _ _ (by dsimp only;omega)).trans ((hb7.cell (p:=⟨w.heap.size,1,none⟩) (al7)).trans ((hb6.cell (p:=⟨w.heap.size,1,none⟩) (al6)).trans ((hb5.cell (p:=⟨w.heap.size,1,none⟩) al).trans a1)))),((far3 _ _ _ _ (by dsimp only;omega)).trans ((hb7.cell (p:=⟨w.heap.size,2,none⟩) (al7)).trans ((hb6.cell (p:=⟨w.heap.size,2,none⟩) (al6)).trans ((hb5.cell (p:=⟨w.heap.size,2,none⟩) al).trans a2)))),((far3 _ _ _ _ (by dsimp only;omega)).trans ((hb7.cell (p:=⟨w.heap.size+1,0,none⟩) (bl7)).trans ((hb6.cell (p:=⟨w.heap.size+1,0,none⟩) (bl6)).trans ((hb5.cell (p:=⟨w.heap.size+1,0,none⟩) bl).trans b0)))),((far3 _ _ _ _ (by dsimp only;omega)).trans ((hb7.cell (p:=⟨w.heap.size+1,1,none⟩) (bl7)).trans ((hb6.cell (p:=⟨w.heap.size+1,1,none⟩) (bl6)).trans ((hb5.cell (p:=⟨w.heap.size+1,1,none⟩) bl).trans b1)))),((far3 _ _ _ _ (by dsimp only;omega)).trans ((hb7.cell (p:=⟨w.heap.size+1,2,none⟩) (bl7)).trans ((hb6.cell (p:=⟨w.heap.size+1,2,none⟩) (bl6)).trans ((hb5.cell (p:=⟨w.heap.size+1,2,none⟩) bl).trans b2))))⟩)
  (first
   |(go_at_call_of 105 (Value.slice A1 n1 c1);refine (HT1.out).mono ?_;rintro e w4 ⟨A5,m5,c5,rfl,hn5,hb5⟩;have al6:=Nat.lt_of_lt_of_le al hb5.size;have bl6:=Nat.lt_of_lt_of_le bl hb5.size)
   |(go_at_call_of 105 (Value.slice A2 n2 c2);refine (times_any A2 A4 n2 c2 n4 c4 p.bot q.bot w4 ((h2.later hb3d).later hb5) ((h4.later hb3d).later hb5) (by omega) (by omega)).mono ?_;rintro e w6 ⟨A6,m6,c6,rfl,hn6,hb6⟩;have al7:=Nat.lt_of_lt_of_le al6 hb6.size;have bl7:=Nat.lt_of_lt_of_le bl6 hb6.size)
   |(go_at_call 104;refine (lowest_any _ A5 A6 m5 c5 m6 c6 _ _ w6 (((hT.later hb3d).later hb5).later hb6) (hn5.later hb6) hn6 (by have:=times_len hn5 (Nat.le_of_eq h1.len) (Nat.le_of_eq h3.len);omega) (by have:=times_len hn6 (Nat.le_of_eq h2.len) (Nat.le_of_eq h4.len);omega)).mono ?_;rintro e w7 ⟨v,rfl,⟨A7,m7,c7,A8,m8,c8,rfl,h7,h8⟩,hb7⟩;have hk7:=((hx2d.below hb5 cl).below hb6 (Nat.lt_of_lt_of_le cl hb5.size)).below hb7 (Nat.lt_of_lt_of_le (Nat.lt_of_lt_of_le cl hb5.size) hb6.size);obtain ⟨e0,e1,e2,g0,g1,g2,gl⟩:=hk7.cells))
 go_wp2_with fail
 have hb7all:Below w.heap.size w w7:=by
  have s5:=hb3d.size
  have s6:=hb5.size
  have s7:=hb6.size
  exact ((hb3d.trans (hb5.mono s5)).trans (hb6.mono (by omega))).trans (hb7.mono (by omega))
 have hset:=three_set hb7all (g:=w.heap.size+1+1) (by omega) (.bool (lowQ (!p.neg==q.neg) (p.top*q.top) (p.bot*q.bot)).neg) (.slice A7 m7 c7) (.slice A8 m8 c8)
 have hne:(!p.neg==q.neg)=(p.neg != q.neg):=by cases p.neg<;>cases q.neg<;>rfl
 refine bodyPost_ret (v := .agg #[.bool (lowQ (!p.neg==q.neg) (p.top*q.top) (p.bot*q.bot)).neg,.slice A7 m7 c7,.slice A8 m8 c8]) (by simp [results,Tryz.results68,go_sem,e0,e1,e2]) rfl ⟨_,rfl,⟨A7,m7,c7,A8,m8,c8,by rw [hne],?_,?_⟩,hset⟩
 ·rw [size_set3,←hne];exact h7.res hk7 _ _ _
 ·rw [size_set3,←hne];exact h8.res hk7 _ _ _
def rcmp (p q:Q):Int:=if p.neg=q.neg then (if p.neg then -(ncmp (p.top*q.bot) (q.top*p.bot)) else ncmp (p.top*q.bot) (q.top*p.bot)) else (if q.neg then 1 else -1)
theorem ncmp_three (x y:Nat):ncmp x y = -1∨ncmp x y=0∨ncmp x y=1:=by
 unfold ncmp;split<;>(try split)<;>simp
theorem wrap_1:wrap64 1=1:=by simp [wrap64]
theorem wrap_0:wrap64 0=0:=by simp [wrap64]
theorem wrap_m1:wrap64 (-1) = -1:=by simp [wrap64]
set_option maxHeartbeats 4000000 in
set_option maxRecDepth 100000 in
theorem ratCompare_same (b:Bool) (t1 u1 t2 u2:Nat) (A1 A2 A3 A4:Option Addr) (n1 c1 n2 c2 n3 c3 n4 c4:Nat) (w:World)
  (h1:NatS w w.heap.size A1 n1 c1 t1) (h2:NatS w w.heap.size A2 n2 c2 u1) (h3:NatS w w.heap.size A3 n3 c3 t2) (h4:NatS w w.heap.size A4 n4 c4 u2)
  (k1:n1≤268435456) (k2:n2≤268435456) (k3:n3≤268435456) (k4:n4≤268435456) :
  Calls Tryz.prog 71 #[.agg #[.bool b,.slice A1 n1 c1,.slice A2 n2 c2],.agg #[.bool b,.slice A3 n3 c3,.slice A4 n4 c4]] w
   fun e w'=>e = .returned (.int .i64 (if b then -(ncmp (t1*u2) (t2*u1)) else ncmp (t1*u2) (t2*u1)))∧Below w.heap.size w w':=by
 go_enter Tryz.func71,Tryz.ntmps71
 cases b
 ·go_wp2_with fail
  have hb3:Below w.heap.size w ((w.alloc (.cells #[.bool false,.slice A1 n1 c1,.slice A2 n2 c2] 91)).alloc (.cells #[.bool false,.slice A3 n3 c3,.slice A4 n4 c4] 91)):=((Below.refl _ _).alloc (Nat.le_refl _) _).alloc (by simp) _
  have hx0:ResBlk ((w.alloc (.cells #[.bool false,.slice A1 n1 c1,.slice A2 n2 c2] 91)).alloc (.cells #[.bool false,.slice A3 n3 c3,.slice A4 n4 c4] 91)) w.heap.size false (.slice A1 n1 c1) (.slice A2 n2 c2):=(ResBlk.new w _ _ _).below ((Below.refl _ _).alloc (Nat.le_refl _) _) (by simp)
  have hx1:ResBlk ((w.alloc (.cells #[.bool false,.slice A1 n1 c1,.slice A2 n2 c2] 91)).alloc (.cells #[.bool false,.slice A3 n3 c3,.slice A4 n4 c4] 91)) (w.heap.size+1) false (.slice A3 n3 c3) (.slice A4 n4 c4):=by
   have h:=ResBlk.new (w.alloc (.cells #[.bool false,.slice A1 n1 c1,.slice A2 n2 c2] 91)) false (.slice A3 n3 c3) (.slice A4 n4 c4)
   simpa using h
  generalize ((w.alloc (.cells #[.bool false,.slice A1 n1 c1,.slice A2 n2 c2] 91)).alloc (.cells #[.bool false,.slice A3 n3 c3,.slice A4 n4 c4] 91))=w3 at *
  obtain ⟨a0,a1,a2,_,_,_,al⟩:=hx0.cells
  obtain ⟨b0,b1,b2,_,_,_,bl⟩:=hx1.cells
  have hb3d:Below w.heap.size w w3.drew:=hb3.drew
  have ht1:=times_any A1 A4 n1 c1 n4 c4 t1 u2 w3.drew (h1.later hb3d) (h4.later hb3d) (by omega) (by omega)
  have HT1:=Lib.hid ht1
  clear ht1
  go_region_held3 (fun w'=>w'.cell? ⟨w.heap.size,0,none⟩=some (.bool false)∧w'.cell? ⟨w.heap.size,1,none⟩=some (.slice A1 n1 c1)∧w'.cell? ⟨w.heap.size,2,none⟩=some (.slice A2 n2 c2)∧w'.cell? ⟨w.heap.size+1,0,none⟩=some (.bool false)∧w'.cell? ⟨w.heap.size+1,1,none⟩=some (.slice A3 n3 c3)∧w'.cell? ⟨w.heap.size+1,2,none⟩=some (.slice A4 n4 c4))
   (first | exact ⟨a0,a1,a2,b0,b1,b2⟩ | exact ⟨((hb5.cell (p:=⟨w.heap.size,0,none⟩) al).trans a0),((hb5.cell (p:=⟨w.heap.size,1,none⟩) al).trans a1),((hb5.cell (p:=⟨w.heap.size,2,none⟩) al).trans a2),((hb5.cell (p:=⟨w.heap.size+1,0,none⟩) bl).trans b0),((hb5.cell (p:=⟨w.heap.size+1,1,none⟩) bl).trans b1),((hb5.cell (p:=⟨w.heap.size+1,2,none⟩) bl).trans b2)⟩ | exact ⟨((hb6.cell (p:=⟨w.heap.size,0,none⟩) (al6)).trans ((hb5.cell (p:=⟨w.heap.size,0,none⟩) al).trans a0)),((hb6.cell (p:=⟨w.heap.size,1,none⟩) (al6)).trans ((hb5.cell (p:=⟨w.heap.size,1,none⟩) al).trans a1)),((hb6.cell (p:=⟨w.heap.size,2,none⟩) (al6)).trans ((hb5.cell (p:=⟨w.heap.size,2,none⟩) al).trans a2)),((hb6.cell (p:=⟨w.heap.size+1,0,none⟩) (bl6)).trans ((hb5.cell (p:=⟨w.heap.size+1,0,none⟩) bl).trans b0)),((hb6.cell (p:=⟨w.heap.size+1,1,none⟩) (bl6)).trans ((hb5.cell (p:=⟨w.heap.size+1,1,none⟩) bl).trans b1)),((hb6.cell (p:=⟨w.heap.size+1,2,none⟩) (bl6)).trans ((hb5.cell (p:=⟨w.heap.size+1,2,none⟩) bl).trans b2))⟩)
   (first
    |(go_at_call_of 105 (Value.slice A1 n1 c1);refine (HT1.out).mono ?_;rintro e w4 ⟨A5,m5,c5,rfl,hn5,hb5⟩;have al6:=Nat.lt_of_lt_of_le al hb5.size;have bl6:=Nat.lt_of_lt_of_le bl hb5.size)
    |(go_at_call_of 105 (Value.slice A3 n3 c3);refine (times_any A3 A2 n3 c3 n2 c2 t2 u1 w4 ((h3.later hb3d).later hb5) ((h2.later hb3d).later hb5) (by omega) (by omega)).mono ?_;rintro e w6 ⟨A6,m6,c6,rfl,hn6,hb6⟩;have al7:=Nat.lt_of_lt_of_le al6 hb6.size;have bl7:=Nat.lt_of_lt_of_le bl6 hb6.size)
    |(go_at_call 129;refine (compare_any A5 A6 m5 c5 m6 c6 _ _ w6 (hn5.later hb6) hn6).mono ?_;rintro e w7 ⟨rfl,nq,rfl⟩))
  have hb7all:Below w.heap.size w (w6.drewN nq):=by
   have s5:=hb3d.size
   have s6:=hb5.size
   exact below_drewN ((hb3d.trans (hb5.mono s5)).trans (hb6.mono (by omega))) nq
  go_wp2
  refine bodyPost_ret (v := .int .i64 (ncmp (t1*u2) (t2*u1))) (by simp [results,Tryz.results71,go_sem]) rfl ⟨rfl,hb7all⟩
 ·go_wp2_with fail
  have hb3:Below w.heap.size w ((w.alloc (.cells #[.bool true,.slice A1 n1 c1,.slice A2 n2 c2] 91)).alloc (.cells #[.bool true,.slice A3 n3 c3,.slice A4 n4 c4] 91)):=((Below.refl _ _).alloc (Nat.le_refl _) _).alloc (by simp) _
  have hx0:ResBlk ((w.alloc (.cells #[.bool true,.slice A1 n1 c1,.slice A2 n2 c2] 91)).alloc (.cells #[.bool true,.slice A3 n3 c3,.slice A4 n4 c4] 91)) w.heap.size true (.slice A1 n1 c1) (.slice A2 n2 c2):=(ResBlk.new w _ _ _).below ((Below.refl _ _).alloc (Nat.le_refl _) _) (by simp)
  have hx1:ResBlk ((w.alloc (.cells #[.bool true,.slice A1 n1 c1,.slice A2 n2 c2] 91)).alloc (.cells #[.bool true,.slice A3 n3 c3,.slice A4 n4 c4] 91)) (w.heap.size+1) true (.slice A3 n3 c3) (.slice A4 n4 c4):=by
   have h:=ResBlk.new (w.alloc (.cells #[.bool true,.slice A1 n1 c1,.slice A2 n2 c2] 91)) true (.slice A3 n3 c3) (.slice A4 n4 c4)
   simpa using h
  generalize ((w.alloc (.cells #[.bool true,.slice A1 n1 c1,.slice A2 n2 c2] 91)).alloc (.cells #[.bool true,.slice A3 n3 c3,.slice A4 n4 c4] 91))=w3 at *
  obtain ⟨a0,a1,a2,_,_,_,al⟩:=hx0.cells
  obtain ⟨b0,b1,b2,_,_,_,bl⟩:=hx1.cells
  have hb3d:Below w.heap.size w w3.drew:=hb3.drew
  have ht1:=times_any A1 A4 n1 c1 n4 c4 t1 u2 w3.drew (h1.later hb3d) (h4.later hb3d) (by omega) (by omega)
  have HT1:=Lib.hid ht1
  clear ht1
  go_region_held3 (fun w'=>w'.cell? ⟨w.heap.size,0,none⟩=some (.bool true)∧w'.cell? ⟨w.heap.size,1,none⟩=some (.slice A1 n1 c1)∧w'.cell? ⟨w.heap.size,2,none⟩=some (.slice A2 n2 c2)∧w'.cell? ⟨w.heap.size+1,0,none⟩=some (.bool true)∧w'.cell? ⟨w.heap.size+1,1,none⟩=some (.slice A3 n3 c3)∧w'.cell? ⟨w.heap.size+1,2,none⟩=some (.slice A4 n4 c4))
   (first | exact ⟨a0,a1,a2,b0,b1,b2⟩ | exact ⟨((hb5.cell (p:=⟨w.heap.size,0,none⟩) al).trans a0),((hb5.cell (p:=⟨w.heap.size,1,none⟩) al).trans a1),((hb5.cell (p:=⟨w.heap.size,2,none⟩) al).trans a2),((hb5.cell (p:=⟨w.heap.size+1,0,none⟩) bl).trans b0),((hb5.cell (p:=⟨w.heap.size+1,1,none⟩) bl).trans b1),((hb5.cell (p:=⟨w.heap.size+1,2,none⟩) bl).trans b2)⟩ | exact ⟨((hb6.cell (p:=⟨w.heap.size,0,none⟩) (al6)).trans ((hb5.cell (p:=⟨w.heap.size,0,none⟩) al).trans a0)),((hb6.cell (p:=⟨w.heap.size,1,none⟩) (al6)).trans ((hb5.cell (p:=⟨w.heap.size,1,none⟩) al).trans a1)),((hb6.cell (p:=⟨w.heap.size,2,none⟩) (al6)).trans ((hb5.cell (p:=⟨w.heap.size,2,none⟩) al).trans a2)),((hb6.cell (p:=⟨w.heap.size+1,0,none⟩) (bl6)).trans ((hb5.cell (p:=⟨w.heap.size+1,0,none⟩) bl).trans b0)),((hb6.cell (p:=⟨w.heap.size+1,1,none⟩) (bl6)).trans ((hb5.cell (p:=⟨w.heap.size+1,1,none⟩) bl).trans b1)),((hb6.cell (p:=⟨w.heap.size+1,2,none⟩) (bl6)).trans ((hb5.cell (p:=⟨w.heap.size+1,2,none⟩) bl).trans b2))⟩)
   (first
    |(go_at_call_of 105 (Value.slice A1 n1 c1);refine (HT1.out).mono ?_;rintro e w4 ⟨A5,m5,c5,rfl,hn5,hb5⟩;have al6:=Nat.lt_of_lt_of_le al hb5.size;have bl6:=Nat.lt_of_lt_of_le bl hb5.size)
    |(go_at_call_of 105 (Value.slice A3 n3 c3);refine (times_any A3 A2 n3 c3 n2 c2 t2 u1 w4 ((h3.later hb3d).later hb5) ((h2.later hb3d).later hb5) (by omega) (by omega)).mono ?_;rintro e w6 ⟨A6,m6,c6,rfl,hn6,hb6⟩;have al7:=Nat.lt_of_lt_of_le al6 hb6.size;have bl7:=Nat.lt_of_lt_of_le bl6 hb6.size)
    |(go_at_call 129;refine (compare_any A5 A6 m5 c5 m6 c6 _ _ w6 (hn5.later hb6) hn6).mono ?_;rintro e w7 ⟨rfl,nq,rfl⟩))
  have hb7all:Below w.heap.size w (w6.drewN nq):=by
   have s5:=hb3d.size
   have s6:=hb5.size
   exact below_drewN ((hb3d.trans (hb5.mono s5)).trans (hb6.mono (by omega))) nq
  go_wp2_with fail
  rcases ncmp_three (t1*u2) (t2*u1) with e3 | e3 | e3
  all_goals
   rw [e3]
   go_wp2
   exact bodyPost_ret (by simp [results,Tryz.results71,go_sem,wrap_m1,wrap_0,wrap_1];try rfl) rfl ⟨by simp,hb7all⟩
set_option maxHeartbeats 4000000 in
set_option maxRecDepth 100000 in
theorem ratCompare_diff (b:Bool) (A1 A2 A3 A4:Option Addr) (n1 c1 n2 c2 n3 c3 n4 c4:Nat) (w:World) :
  Calls Tryz.prog 71 #[.agg #[.bool (!b),.slice A1 n1 c1,.slice A2 n2 c2],.agg #[.bool b,.slice A3 n3 c3,.slice A4 n4 c4]] w
   fun e w'=>e = .returned (.int .i64 (if b then 1 else -1))∧Below w.heap.size w w':=by
 go_enter Tryz.func71,Tryz.ntmps71
 cases b
 ·go_wp2_with fail
  refine (sign_any _ _).mono ?_
  rintro e w2 ⟨rfl,rfl⟩
  go_wp2
  exact bodyPost_ret (by simp [results,Tryz.results71,go_sem];try rfl) rfl ⟨rfl,(((Below.refl _ _).alloc (Nat.le_refl _) _).alloc (by simp) _)⟩
 ·go_wp2_with fail
  refine (sign_any _ _).mono ?_
  rintro e w2 ⟨rfl,rfl⟩
  go_wp2
  exact bodyPost_ret (by simp [results,Tryz.results71,go_sem];try rfl) rfl ⟨rfl,(((Below.refl _ _).alloc (Nat.le_refl _) _).alloc (by simp) _)⟩
theorem ratCompare_any (p q:Q) (A1 A2 A3 A4:Option Addr) (n1 c1 n2 c2 n3 c3 n4 c4:Nat) (w:World)
  (h1:NatS w w.heap.size A1 n1 c1 p.top) (h2:NatS w w.heap.size A2 n2 c2 p.bot) (h3:NatS w w.heap.size A3 n3 c3 q.top) (h4:NatS w w.heap.size A4 n4 c4 q.bot)
  (k1:n1≤268435456) (k2:n2≤268435456) (k3:n3≤268435456) (k4:n4≤268435456) :
  Calls Tryz.prog 71 #[.agg #[.bool p.neg,.slice A1 n1 c1,.slice A2 n2 c2],.agg #[.bool q.neg,.slice A3 n3 c3,.slice A4 n4 c4]] w
   fun e w'=>e = .returned (.int .i64 (rcmp p q))∧Below w.heap.size w w':=by
 unfold rcmp
 by_cases h:p.neg=q.neg
 ·rw [if_pos h,←h]
  exact ratCompare_same p.neg p.top p.bot q.top q.bot A1 A2 A3 A4 n1 c1 n2 c2 n3 c3 n4 c4 w h1 h2 h3 h4 k1 k2 k3 k4
 ·rw [if_neg h]
  have hq:p.neg = !q.neg:=by revert h;cases p.neg<;>cases q.neg<;>simp
  rw [hq]
  exact ratCompare_diff q.neg A1 A2 A3 A4 n1 c1 n2 c2 n3 c3 n4 c4 w
theorem ratIsZero_any (b:Bool) (x:Nat) (A1 A2:Option Addr) (n1 c1 n2 c2:Nat) (w:World) (h1:NatS w w.heap.size A1 n1 c1 x) :
  Calls Tryz.prog 96 #[.agg #[.bool b,.slice A1 n1 c1,.slice A2 n2 c2]] w
   fun e w'=>e = .returned (.bool (decide (x=0)))∧Below w.heap.size w w':=by
 go_enter Tryz.func96,Tryz.ntmps96
 go_wp2_with fail
 have hb:=(Below.refl w.heap.size w).alloc (Nat.le_refl _) (.cells #[.bool b,.slice A1 n1 c1,.slice A2 n2 c2] 91)
 refine (isZero_val A1 n1 c1 x _ (h1.later hb)).mono ?_
 rintro e w2 ⟨rfl,rfl⟩
 go_wp2
 exact bodyPost_ret (by simp [results,Tryz.results96,go_sem];try rfl) rfl ⟨rfl,hb⟩
set_option maxHeartbeats 4000000 in
set_option maxRecDepth 100000 in
theorem scaled_neg (b:Bool) (x1 x2 s:Nat) (A1 A2:Option Addr) (n1 c1 n2 c2:Nat) (w:World) (h1:NatS w w.heap.size A1 n1 c1 x1) (h2:NatS w w.heap.size A2 n2 c2 x2) (k1:n1≤134217728) (_k2:n2≤134217728) (hs:s≤1099511627776) (hs0:0<s) :
  Calls Tryz.prog 148 #[.agg #[.bool b,.slice A1 n1 c1,.slice A2 n2 c2],.int .i64 (-(s:Int))] w (RetTwo w (x1*2 ^ s) x2):=by
 have hb1:Below w.heap.size w (w.alloc (.cells #[.bool b,.slice A1 n1 c1,.slice A2 n2 c2] 91)):=(Below.refl _ _).alloc (Nat.le_refl _) _
 have hx0:ResBlk (w.alloc (.cells #[.bool b,.slice A1 n1 c1,.slice A2 n2 c2] 91)) w.heap.size b (.slice A1 n1 c1) (.slice A2 n2 c2):=ResBlk.new w _ _ _
 have hlt:decide (-(s:Int)<0)=true:=by simp;omega
 have hw:wrap64 (s:Int)=(s:Int):=IntWalk.wrap64_in _ (by omega)
 have hw2:IntKind.i64.wrap (s:Int)=(s:Int):=IntWalk.i64_in _ (by omega)
 have hw3:IntKind.i64.wrap (- -(s:Int))=(s:Int):=by rw [Int.neg_neg];exact IntWalk.i64_in _ (by omega)
 go_enter Tryz.func148,Tryz.ntmps148
 go_wp2_with fail
 generalize (w.alloc (.cells #[.bool b,.slice A1 n1 c1,.slice A2 n2 c2] 91))=w3 at *
 obtain ⟨a0,a1,a2,_,_,_,al⟩:=hx0.cells
 have hd3:Below w3.heap.size w3 w3.drew:=Below.drew (Below.refl _ _)
 have g:=(h1.later hb1).later hd3
 go_region_held3 (fun w'=>w'.cell? ⟨w.heap.size,0,none⟩=some (.bool b)∧w'.cell? ⟨w.heap.size,1,none⟩=some (.slice A1 n1 c1)∧w'.cell? ⟨w.heap.size,2,none⟩=some (.slice A2 n2 c2))
  (first | exact ⟨a0,a1,a2⟩ | exact ⟨((hb5.cell (p:=⟨w.heap.size,0,none⟩) al).trans a0),((hb5.cell (p:=⟨w.heap.size,1,none⟩) al).trans a1),((hb5.cell (p:=⟨w.heap.size,2,none⟩) al).trans a2)⟩)
  (first | (go_at_call 103;refine (shiftedLeft_any A1 n1 c1 x1 s w3.drew g (by omega) hs).mono ?_;rintro e w4 ⟨A5,m5,c5,rfl,hn5,hb5⟩;have al6:=Nat.lt_of_lt_of_le al hb5.size))
 have hBw:Below w.heap.size w w4:=(hb1.trans (hd3.mono hb1.size)).trans (hb5.mono hb1.size)
 have hO:=(((h2.later hb1).later hd3).later hb5)
 go_wp2
 go_ret2
 exact ⟨A5,m5,c5,A2,n2,c2,rfl,hn5,hO,hBw⟩
set_option maxHeartbeats 4000000 in
set_option maxRecDepth 100000 in
theorem scaled_pos (b:Bool) (x1 x2 s:Nat) (A1 A2:Option Addr) (n1 c1 n2 c2:Nat) (w:World) (h1:NatS w w.heap.size A1 n1 c1 x1) (h2:NatS w w.heap.size A2 n2 c2 x2) (_k1:n1≤134217728) (k2:n2≤134217728) (hs:s≤1099511627776) :
  Calls Tryz.prog 148 #[.agg #[.bool b,.slice A1 n1 c1,.slice A2 n2 c2],.int .i64 ((s:Int))] w (RetTwo w x1 (x2*2 ^ s)):=by
 have hb1:Below w.heap.size w (w.alloc (.cells #[.bool b,.slice A1 n1 c1,.slice A2 n2 c2] 91)):=(Below.refl _ _).alloc (Nat.le_refl _) _
 have hx0:ResBlk (w.alloc (.cells #[.bool b,.slice A1 n1 c1,.slice A2 n2 c2] 91)) w.heap.size b (.slice A1 n1 c1) (.slice A2 n2 c2):=ResBlk.new w _ _ _
 have hlt:decide ((s:Int)<0)=false:=by simp
 go_enter Tryz.func148,Tryz.ntmps148
 go_wp2_with fail
 generalize (w.alloc (.cells #[.bool b,.slice A1 n1 c1,.slice A2 n2 c2] 91))=w3 at *
 obtain ⟨a0,a1,a2,_,_,_,al⟩:=hx0.cells
 have hd3:Below w3.heap.size w3 w3.drew:=Below.drew (Below.refl _ _)
 have g:=(h2.later hb1).later hd3
 go_region_held3 (fun w'=>w'.cell? ⟨w.heap.size,0,none⟩=some (.bool b)∧w'.cell? ⟨w.heap.size,1,none⟩=some (.slice A1 n1 c1)∧w'.cell? ⟨w.heap.size,2,none⟩=some (.slice A2 n2 c2))
  (first | exact ⟨a0,a1,a2⟩ | exact ⟨((hb5.cell (p:=⟨w.heap.size,0,none⟩) al).trans a0),((hb5.cell (p:=⟨w.heap.size,1,none⟩) al).trans a1),((hb5.cell (p:=⟨w.heap.size,2,none⟩) al).trans a2)⟩)
  (first | (go_at_call 103;refine (shiftedLeft_any A2 n2 c2 x2 s w3.drew g (by omega) hs).mono ?_;rintro e w4 ⟨A5,m5,c5,rfl,hn5,hb5⟩;have al6:=Nat.lt_of_lt_of_le al hb5.size))
 have hBw:Below w.heap.size w w4:=(hb1.trans (hd3.mono hb1.size)).trans (hb5.mono hb1.size)
 have hO:=(((h1.later hb1).later hd3).later hb5)
 go_wp2
 go_ret2
 exact ⟨A1,n1,c1,A5,m5,c5,rfl,hO,hn5,hBw⟩
def scT (t:Nat) (e:Int):Nat:=if e<0 then t*2 ^ (-e).toNat else t
def scB (b:Nat) (e:Int):Nat:=if e<0 then b else b*2 ^ e.toNat
theorem scaled_any (b:Bool) (x1 x2:Nat) (i:Int) (A1 A2:Option Addr) (n1 c1 n2 c2:Nat) (w:World) (h1:NatS w w.heap.size A1 n1 c1 x1) (h2:NatS w w.heap.size A2 n2 c2 x2) (k1:n1≤134217728) (k2:n2≤134217728) (hs : -1099511627776≤i∧i≤1099511627776) :
  Calls Tryz.prog 148 #[.agg #[.bool b,.slice A1 n1 c1,.slice A2 n2 c2],.int .i64 i] w (RetTwo w (scT x1 i) (scB x2 i)):=by
 by_cases h:i<0
 ·obtain ⟨s,rfl⟩:∃ s:Nat,i = -(s:Int):=⟨(-i).toNat,by omega⟩
  have e1:scT x1 (-(s:Int))=x1*2 ^ s:=by unfold scT;rw [if_pos h];congr 2;omega
  have e2:scB x2 (-(s:Int))=x2:=by unfold scB;rw [if_pos h]
  rw [e1,e2]
  exact scaled_neg b x1 x2 s A1 A2 n1 c1 n2 c2 w h1 h2 k1 k2 (by omega) (by omega)
 ·obtain ⟨s,rfl⟩:=Int.eq_ofNat_of_zero_le (Int.not_lt.1 h)
  have e1:scT x1 (s:Int)=x1:=by unfold scT;rw [if_neg h]
  have e2:scB x2 (s:Int)=x2*2 ^ s:=by unfold scB;rw [if_neg h];simp
  rw [e1,e2]
  exact scaled_pos b x1 x2 s A1 A2 n1 c1 n2 c2 w h1 h2 k1 k2 (by omega)
end Go.Proofs.YteajibbphcfmeaaGreatDoor
