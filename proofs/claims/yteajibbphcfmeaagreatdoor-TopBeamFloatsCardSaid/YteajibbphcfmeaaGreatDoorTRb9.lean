/- Contracts of the reference's integers: minus, times, plus. -/
import Derived.Test.YteajibbphcfmeaaGreatDoorTFloat
import Derived.Test.YteajibbphcfmeaaGreatDoorTRb8
import Derived.Deep.RegionHeld3
namespace Go.Proofs.YteajibbphcfmeaaGreatDoor
open Go.RowKit Dn
theorem far2w {g:Nat} (w:World) (u v:Value) {q:Addr} (h:g≠q.block):((w.setCell ⟨g,0,none⟩ u).setCell ⟨g,1,none⟩ v).cell? q=w.cell? q:=by
 rw [World.cell?_setCell_far _ _ _ _ (by exact h),World.cell?_setCell_far _ _ _ _ (by exact h)]
theorem sgn_mul (b1 b2:Bool) (x y:Nat):sgn (!b1==b2) (x*y)=sgn b1 x*sgn b2 y:=by
 unfold sgn
 cases b1<;>cases b2<;>simp [Int.natCast_mul,Int.neg_mul,Int.mul_neg]
theorem mul_len {w:World} {A:Option Addr} {n c x y m k:Nat} (h:DigI w A n c (digs (x*y))) (hx:(digs x).length=m) (hy:(digs y).length=k):n≤m+k:=by
 rw [←h.len]
 refine digs_length_le ?_
 rw [Nat.pow_add]
 have h1:=lt_of_digs_length x
 have h2:=lt_of_digs_length y
 rw [hx] at h1
 rw [hy] at h2
 exact Nat.mul_lt_mul'' h1 h2
set_option maxHeartbeats 4000000 in
set_option maxRecDepth 100000 in
theorem rtimes_any (b1 b2:Bool) (x1 x2:Nat) (A1 A2:Option Addr) (n1 c1 n2 c2:Nat) (w:World) (h1:DigI w A1 n1 c1 (digs x1)) (h2:DigI w A2 n2 c2 (digs x2)) (k1:n1≤524288) (k2:n2≤524288) :
  Calls Tryz.prog 76 #[.agg #[.bool b1,.slice A1 n1 c1],.agg #[.bool b2,.slice A2 n2 c2]] w (RetZ w (sgn b1 x1*sgn b2 x2)):=by
 rw [←sgn_mul]
 go_enter Tryz.func76,Tryz.ntmps76
 go_wp2_with fail
 have hb3:Below w.heap.size w (((w.alloc (.cells #[.bool b1,.slice A1 n1 c1] 84)).alloc (.cells #[.bool b2,.slice A2 n2 c2] 84)).alloc (.cells #[.bool false,.slice none 0 0] 84)):=
  (((Below.refl _ _).alloc (Nat.le_refl _) _).alloc (by simp) _).alloc (by simp;omega) _
 have hx0:CBlk (((w.alloc (.cells #[.bool b1,.slice A1 n1 c1] 84)).alloc (.cells #[.bool b2,.slice A2 n2 c2] 84)).alloc (.cells #[.bool false,.slice none 0 0] 84)) w.heap.size #[.bool b1,.slice A1 n1 c1] 84:=
  (((CBlk.new w _ _ _ rfl).below ((Below.refl _ _).alloc (Nat.le_refl _) _) (by simp))).below ((Below.refl _ _).alloc (Nat.le_refl _) _) (by simp;omega)
 have hx1:CBlk (((w.alloc (.cells #[.bool b1,.slice A1 n1 c1] 84)).alloc (.cells #[.bool b2,.slice A2 n2 c2] 84)).alloc (.cells #[.bool false,.slice none 0 0] 84)) (w.heap.size+1) #[.bool b2,.slice A2 n2 c2] 84:=
  (CBlk.new (w.alloc (.cells #[.bool b1,.slice A1 n1 c1] 84)) #[.bool b2,.slice A2 n2 c2] 84 (w.heap.size+1) (by simp)).below ((Below.refl _ _).alloc (Nat.le_refl _) _) (by simp)
 have hx2:CBlk (((w.alloc (.cells #[.bool b1,.slice A1 n1 c1] 84)).alloc (.cells #[.bool b2,.slice A2 n2 c2] 84)).alloc (.cells #[.bool false,.slice none 0 0] 84)) (w.heap.size+1+1) #[.bool false,.slice none 0 0] 84:=CBlk.new ((w.alloc (.cells #[.bool b1,.slice A1 n1 c1] 84)).alloc (.cells #[.bool b2,.slice A2 n2 c2] 84)) _ _ (w.heap.size+1+1) (by simp)
 generalize (((w.alloc (.cells #[.bool b1,.slice A1 n1 c1] 84)).alloc (.cells #[.bool b2,.slice A2 n2 c2] 84)).alloc (.cells #[.bool false,.slice none 0 0] 84))=w3 at *
 have a0:w3.cell? ⟨w.heap.size,0,none⟩=some (.bool b1):=hx0.cell 0
 have a1:w3.cell? ⟨w.heap.size,1,none⟩=some (.slice A1 n1 c1):=hx0.cell 1
 have q0:w3.cell? ⟨w.heap.size+1,0,none⟩=some (.bool b2):=hx1.cell 0
 have q1:w3.cell? ⟨w.heap.size+1,1,none⟩=some (.slice A2 n2 c2):=hx1.cell 1
 have al:=hx0.lt
 have bl:=hx1.lt
 have cl:=hx2.lt
 have hb3d:Below w.heap.size w w3.drew:=hb3.drew
 have hx2d:CBlk w3.drew (w.heap.size+1+1) #[.bool false,.slice none 0 0] 84:=hx2
 have HT1:=Lib.hid (rmulDigits_any A1 A2 n1 c1 n2 c2 x1 x2 w3.drew (h1.later hb3d) (h2.later hb3d) (by omega) (by omega))
 have hl1:=Lib.hid h1.len
 have hl2:=Lib.hid h2.len
 go_region_held3 (fun w'=>w'.cell? ⟨w.heap.size,0,none⟩=some (.bool b1)∧w'.cell? ⟨w.heap.size,1,none⟩=some (.slice A1 n1 c1)∧w'.cell? ⟨w.heap.size+1,0,none⟩=some (.bool b2)∧w'.cell? ⟨w.heap.size+1,1,none⟩=some (.slice A2 n2 c2))
  (first | exact ⟨a0,a1,q0,q1⟩ | exact ⟨((hb5.cell (p:=⟨w.heap.size,0,none⟩) (al)).trans a0),((hb5.cell (p:=⟨w.heap.size,1,none⟩) (al)).trans a1),((hb5.cell (p:=⟨w.heap.size+1,0,none⟩) (bl)).trans q0),((hb5.cell (p:=⟨w.heap.size+1,1,none⟩) (bl)).trans q1)⟩ | exact ⟨((hb6.cell (p:=⟨w.heap.size,0,none⟩) (al6)).trans ((hb5.cell (p:=⟨w.heap.size,0,none⟩) (al)).trans a0)),((hb6.cell (p:=⟨w.heap.size,1,none⟩) (al6)).trans ((hb5.cell (p:=⟨w.heap.size,1,none⟩) (al)).trans a1)),((hb6.cell (p:=⟨w.heap.size+1,0,none⟩) (bl6)).trans ((hb5.cell (p:=⟨w.heap.size+1,0,none⟩) (bl)).trans q0)),((hb6.cell (p:=⟨w.heap.size+1,1,none⟩) (bl6)).trans ((hb5.cell (p:=⟨w.heap.size+1,1,none⟩) (bl)).trans q1))⟩ | exact ⟨((far2w _ _ _ (by dsimp only;omega)).trans ((hb6.cell (p:=⟨w.heap.size,0,none⟩) (al6)).trans ((hb5.cell (p:=⟨w.heap.size,0,none⟩) (al)).trans a0))),((far2w _ _ _ (by dsimp only;omega)).trans ((hb6.cell (p:=⟨w.heap.size,1,none⟩) (al6)).trans ((hb5.cell (p:=⟨w.heap.size,1,none⟩) (al)).trans a1))),((far2w _ _ _ (by dsimp only;omega)).trans ((hb6.cell (p:=⟨w.heap.size+1,0,none⟩) (bl6)).trans ((hb5.cell (p:=⟨w.heap.size+1,0,none⟩) (bl)).trans q0))),((far2w _ _ _ (by dsimp only;omega)).trans ((hb6.cell (p:=⟨w.heap.size+1,1,none⟩) (bl6)).trans ((hb5.cell (p:=⟨w.heap.size+1,1,none⟩) (bl)).trans q1)))⟩)
  (first
   |(go_at_call 141;refine (HT1.out).mono ?_;rintro e w4 ⟨A5,m5,c5,rfl,hd5,hb5⟩;have hm5:=mul_len hd5 hl1.out hl2.out;have al6:=Nat.lt_of_lt_of_le al hb5.size;have bl6:=Nat.lt_of_lt_of_le bl hb5.size)
   |(go_at_call 137;refine (rsigned_any _ A5 m5 c5 _ w4 hd5 (by omega)).mono ?_;rintro e w6 ⟨A6,m6,c6,rfl,hd6,hb6⟩;have hk6:=(hx2d.below hb5 cl).below hb6 (Nat.lt_of_lt_of_le cl hb5.size);have e0:=hk6.cell 0;have e1:=hk6.cell 1;have g0:=hk6.frozen 0;have g1:=hk6.frozen 1))
 go_wp2_with fail
 have k0:w6.cell? ⟨w.heap.size+1+1,0,none⟩=some (.bool false):=e0
 have k1':w6.cell? ⟨w.heap.size+1+1,1,none⟩=some (.slice none 0 0):=e1
 have hB:=hb3d.trans ((hb5.trans (hb6.mono hb5.size)).mono hb3d.size)
 refine bodyPost_ret (v := .agg #[.bool (decide (sgn (!b1==b2) (val (digs (x1*x2)))<0)),.slice A6 m6 c6]) (by simp [results,Tryz.results76,go_sem,k0,k1']) rfl ?_
 rw [val_digs] at hd6 ⊢
 exact ⟨A6,m6,c6,rfl,hd6.box hk6 _ _,two_set hB (by omega) _ _⟩
theorem sgn_same (b:Bool) (x y:Nat):sgn b x+sgn b y=sgn b (x+y):=by
 unfold sgn
 cases b<;>simp<;>omega
theorem sgn_ge (b:Bool) (x y:Nat) (h:y≤x):sgn b x+sgn (!b) y=sgn b (x - y):=by
 unfold sgn
 cases b<;>simp<;>omega
theorem sgn_lt (b:Bool) (x y:Nat) (h:x≤y):sgn b x+sgn (!b) y=sgn (!b) (y - x):=by
 unfold sgn
 cases b<;>simp<;>omega
set_option maxHeartbeats 4000000 in
set_option maxRecDepth 100000 in
theorem rplus_same (b:Bool) (x1 x2:Nat) (A1 A2:Option Addr) (n1 c1 n2 c2:Nat) (w:World) (h1:DigI w A1 n1 c1 (digs x1)) (h2:DigI w A2 n2 c2 (digs x2)) (k1:n1≤524288) (k2:n2≤524288) :
  Calls Tryz.prog 75 #[.agg #[.bool b,.slice A1 n1 c1],.agg #[.bool b,.slice A2 n2 c2]] w (RetZ w (sgn b x1+sgn b x2)):=by
 rw [sgn_same]
 go_enter Tryz.func75,Tryz.ntmps75
 go_upto_region 2 with (fail)
 have hb3:Below w.heap.size w (((w.alloc (.cells #[.bool b,.slice A1 n1 c1] 84)).alloc (.cells #[.bool b,.slice A2 n2 c2] 84)).alloc (.cells #[.bool false,.slice none 0 0] 84)):=
  (((Below.refl _ _).alloc (Nat.le_refl _) _).alloc (by simp) _).alloc (by simp;omega) _
 have hx0:CBlk (((w.alloc (.cells #[.bool b,.slice A1 n1 c1] 84)).alloc (.cells #[.bool b,.slice A2 n2 c2] 84)).alloc (.cells #[.bool false,.slice none 0 0] 84)) w.heap.size #[.bool b,.slice A1 n1 c1] 84:=
  (((CBlk.new w _ _ _ rfl).below ((Below.refl _ _).alloc (Nat.le_refl _) _) (by simp))).below ((Below.refl _ _).alloc (Nat.le_refl _) _) (by simp;omega)
 have hx1:CBlk (((w.alloc (.cells #[.bool b,.slice A1 n1 c1] 84)).alloc (.cells #[.bool b,.slice A2 n2 c2] 84)).alloc (.cells #[.bool false,.slice none 0 0] 84)) (w.heap.size+1) #[.bool b,.slice A2 n2 c2] 84:=
  (CBlk.new (w.alloc (.cells #[.bool b,.slice A1 n1 c1] 84)) #[.bool b,.slice A2 n2 c2] 84 (w.heap.size+1) (by simp)).below ((Below.refl _ _).alloc (Nat.le_refl _) _) (by simp)
 have hx2:CBlk (((w.alloc (.cells #[.bool b,.slice A1 n1 c1] 84)).alloc (.cells #[.bool b,.slice A2 n2 c2] 84)).alloc (.cells #[.bool false,.slice none 0 0] 84)) (w.heap.size+1+1) #[.bool false,.slice none 0 0] 84:=CBlk.new ((w.alloc (.cells #[.bool b,.slice A1 n1 c1] 84)).alloc (.cells #[.bool b,.slice A2 n2 c2] 84)) _ _ (w.heap.size+1+1) (by simp)
 generalize (((w.alloc (.cells #[.bool b,.slice A1 n1 c1] 84)).alloc (.cells #[.bool b,.slice A2 n2 c2] 84)).alloc (.cells #[.bool false,.slice none 0 0] 84))=w3 at *
 have a0:w3.cell? ⟨w.heap.size,0,none⟩=some (.bool b):=hx0.cell 0
 have a1:w3.cell? ⟨w.heap.size,1,none⟩=some (.slice A1 n1 c1):=hx0.cell 1
 have q0:w3.cell? ⟨w.heap.size+1,0,none⟩=some (.bool b):=hx1.cell 0
 have q1:w3.cell? ⟨w.heap.size+1,1,none⟩=some (.slice A2 n2 c2):=hx1.cell 1
 have al:=hx0.lt
 have bl:=hx1.lt
 have cl:=hx2.lt
 have hb3d:Below w.heap.size w w3.drew:=hb3.drew
 have hx2d:CBlk w3.drew (w.heap.size+1+1) #[.bool false,.slice none 0 0] 84:=hx2
 have HT1:=Lib.hid (raddDigits_any A1 A2 n1 c1 n2 c2 (digs x1) (digs x2) w3.drew (h1.later hb3d) (h2.later hb3d) (by omega) (by omega))
 go_region_held3 (fun w'=>w'.cell? ⟨w.heap.size,0,none⟩=some (.bool b)∧w'.cell? ⟨w.heap.size,1,none⟩=some (.slice A1 n1 c1)∧w'.cell? ⟨w.heap.size+1,0,none⟩=some (.bool b)∧w'.cell? ⟨w.heap.size+1,1,none⟩=some (.slice A2 n2 c2))
  (first | exact ⟨a0,a1,q0,q1⟩ | exact ⟨((hb5.cell (p:=⟨w.heap.size,0,none⟩) (al)).trans a0),((hb5.cell (p:=⟨w.heap.size,1,none⟩) (al)).trans a1),((hb5.cell (p:=⟨w.heap.size+1,0,none⟩) (bl)).trans q0),((hb5.cell (p:=⟨w.heap.size+1,1,none⟩) (bl)).trans q1)⟩ | exact ⟨((hb6.cell (p:=⟨w.heap.size,0,none⟩) (al6)).trans ((hb5.cell (p:=⟨w.heap.size,0,none⟩) (al)).trans a0)),((hb6.cell (p:=⟨w.heap.size,1,none⟩) (al6)).trans ((hb5.cell (p:=⟨w.heap.size,1,none⟩) (al)).trans a1)),((hb6.cell (p:=⟨w.heap.size+1,0,none⟩) (bl6)).trans ((hb5.cell (p:=⟨w.heap.size+1,0,none⟩) (bl)).trans q0)),((hb6.cell (p:=⟨w.heap.size+1,1,none⟩) (bl6)).trans ((hb5.cell (p:=⟨w.heap.size+1,1,none⟩) (bl)).trans q1))⟩ | exact ⟨((far2w _ _ _ (by dsimp only;omega)).trans ((hb6.cell (p:=⟨w.heap.size,0,none⟩) (al6)).trans ((hb5.cell (p:=⟨w.heap.size,0,none⟩) (al)).trans a0))),((far2w _ _ _ (by dsimp only;omega)).trans ((hb6.cell (p:=⟨w.heap.size,1,none⟩) (al6)).trans ((hb5.cell (p:=⟨w.heap.size,1,none⟩) (al)).trans a1))),((far2w _ _ _ (by dsimp only;omega)).trans ((hb6.cell (p:=⟨w.heap.size+1,0,none⟩) (bl6)).trans ((hb5.cell (p:=⟨w.heap.size+1,0,none⟩) (bl)).trans q0))),((far2w _ _ _ (by dsimp only;omega)).trans ((hb6.cell (p:=⟨w.heap.size+1,1,none⟩) (bl6)).trans ((hb5.cell (p:=⟨w.heap.size+1,1,none⟩) (bl)).trans q1)))⟩)
  (first
   |(go_at_call 138;refine (HT1.out).mono ?_;rintro e w4 ⟨A5,m5,c5,ls,rfl,hd5,hm5,hv5,hb5⟩;have HV5:=Lib.hid hv5;clear hv5;have al6:=Nat.lt_of_lt_of_le al hb5.size;have bl6:=Nat.lt_of_lt_of_le bl hb5.size)
   |(go_at_call 137;refine (rsigned_any _ A5 m5 c5 _ w4 hd5 (by omega)).mono ?_;rintro e w6 ⟨A6,m6,c6,rfl,hd6,hb6⟩;have hk6:=(hx2d.below hb5 cl).below hb6 (Nat.lt_of_lt_of_le cl hb5.size);have e0:=hk6.cell 0;have e1:=hk6.cell 1;have g0:=hk6.frozen 0;have g1:=hk6.frozen 1))
 go_wp2_with fail
 have k0:w6.cell? ⟨w.heap.size+1+1,0,none⟩=some (.bool false):=e0
 have k1':w6.cell? ⟨w.heap.size+1+1,1,none⟩=some (.slice none 0 0):=e1
 have hB:=hb3d.trans ((hb5.trans (hb6.mono hb5.size)).mono hb3d.size)
 refine bodyPost_ret (v := .agg #[.bool (decide (sgn b (val ls)<0)),.slice A6 m6 c6]) (by simp [results,Tryz.results75,go_sem,k0,k1']) rfl ?_
 have hv5:=HV5.out
 rw [val_digs,val_digs] at hv5
 rw [←hv5]
 exact ⟨A6,m6,c6,rfl,hd6.box hk6 _ _,two_set hB (by omega) _ _⟩
set_option maxHeartbeats 4000000 in
set_option maxRecDepth 100000 in
theorem rplus_ge (b:Bool) (x1 x2:Nat) (A1 A2:Option Addr) (n1 c1 n2 c2:Nat) (w:World) (h1:DigI w A1 n1 c1 (digs x1)) (h2:DigI w A2 n2 c2 (digs x2)) (k1:n1≤524288) (k2:n2≤524288) (hx:x2≤x1) :
  Calls Tryz.prog 75 #[.agg #[.bool b,.slice A1 n1 c1],.agg #[.bool (!b),.slice A2 n2 c2]] w (RetZ w (sgn b x1+sgn (!b) x2)):=by
 rw [sgn_ge b x1 x2 hx]
 have hbb:(b == !b)=false:=by cases b<;>rfl
 obtain ⟨r,hr0,hr⟩:∃ r:Int,0≤r∧Bn.ncmp x1 x2=r:=⟨Bn.ncmp x1 x2,by rcases Nat.lt_or_ge x2 x1 with h | h;(· rw [Bn.ncmp_gt h];decide);(· rw [show x1=x2 from by omega,Bn.ncmp_eq];exact Int.le_refl 0),rfl⟩
 have d0:decide (0≤r)=true:=by simpa using hr0
 have HR:=Lib.hid hr
 have HHX:=Lib.hid hx
 clear hr hx hr0
 go_enter Tryz.func75,Tryz.ntmps75
 go_wp2_with fail
 have hb3:Below w.heap.size w (((w.alloc (.cells #[.bool b,.slice A1 n1 c1] 84)).alloc (.cells #[.bool (!b),.slice A2 n2 c2] 84)).alloc (.cells #[.bool false,.slice none 0 0] 84)):=
  (((Below.refl _ _).alloc (Nat.le_refl _) _).alloc (by simp) _).alloc (by simp;omega) _
 have hx0:CBlk (((w.alloc (.cells #[.bool b,.slice A1 n1 c1] 84)).alloc (.cells #[.bool (!b),.slice A2 n2 c2] 84)).alloc (.cells #[.bool false,.slice none 0 0] 84)) w.heap.size #[.bool b,.slice A1 n1 c1] 84:=
  (((CBlk.new w _ _ _ rfl).below ((Below.refl _ _).alloc (Nat.le_refl _) _) (by simp))).below ((Below.refl _ _).alloc (Nat.le_refl _) _) (by simp;omega)
 have hx1:CBlk (((w.alloc (.cells #[.bool b,.slice A1 n1 c1] 84)).alloc (.cells #[.bool (!b),.slice A2 n2 c2] 84)).alloc (.cells #[.bool false,.slice none 0 0] 84)) (w.heap.size+1) #[.bool (!b),.slice A2 n2 c2] 84:=
  (CBlk.new (w.alloc (.cells #[.bool b,.slice A1 n1 c1] 84)) #[.bool (!b),.slice A2 n2 c2] 84 (w.heap.size+1) (by simp)).below ((Below.refl _ _).alloc (Nat.le_refl _) _) (by simp)
 have hx2:CBlk (((w.alloc (.cells #[.bool b,.slice A1 n1 c1] 84)).alloc (.cells #[.bool (!b),.slice A2 n2 c2] 84)).alloc (.cells #[.bool false,.slice none 0 0] 84)) (w.heap.size+1+1) #[.bool false,.slice none 0 0] 84:=CBlk.new ((w.alloc (.cells #[.bool b,.slice A1 n1 c1] 84)).alloc (.cells #[.bool (!b),.slice A2 n2 c2] 84)) _ _ (w.heap.size+1+1) (by simp)
 generalize (((w.alloc (.cells #[.bool b,.slice A1 n1 c1] 84)).alloc (.cells #[.bool (!b),.slice A2 n2 c2] 84)).alloc (.cells #[.bool false,.slice none 0 0] 84))=w3 at *
 have a0:w3.cell? ⟨w.heap.size,0,none⟩=some (.bool b):=hx0.cell 0
 have a1:w3.cell? ⟨w.heap.size,1,none⟩=some (.slice A1 n1 c1):=hx0.cell 1
 have q0:w3.cell? ⟨w.heap.size+1,0,none⟩=some (.bool (!b)):=hx1.cell 0
 have q1:w3.cell? ⟨w.heap.size+1,1,none⟩=some (.slice A2 n2 c2):=hx1.cell 1
 have al:=hx0.lt
 have bl:=hx1.lt
 have cl:=hx2.lt
 have hb3d:Below w.heap.size w w3.drew:=hb3.drew
 have hx2d:CBlk w3.drew (w.heap.size+1+1) #[.bool false,.slice none 0 0] 84:=hx2
 have hc:=rcompare_any A1 A2 n1 c1 n2 c2 x1 x2 w3 (h1.later hb3).rd (h2.later hb3).rd (by omega) (by omega)
 rw [HR.out] at hc
 have HC:=Lib.hid hc
 clear hc hb3d hx2d
 go_wp2_with fail
 refine HC.out.mono ?_
 rintro e wc ⟨rfl,hbc⟩
 replace a0:=(hbc.cell (p:=⟨w.heap.size,0,none⟩) al).trans a0
 replace a1:=(hbc.cell (p:=⟨w.heap.size,1,none⟩) al).trans a1
 replace q0:=(hbc.cell (p:=⟨w.heap.size+1,0,none⟩) bl).trans q0
 replace q1:=(hbc.cell (p:=⟨w.heap.size+1,1,none⟩) bl).trans q1
 replace hx2:=hx2.below hbc cl
 replace hb3:=hb3.trans (hbc.mono hb3.size)
 replace al:=Nat.lt_of_lt_of_le al hbc.size
 replace bl:=Nat.lt_of_lt_of_le bl hbc.size
 replace cl:=Nat.lt_of_lt_of_le cl hbc.size
 clear hx0 hx1 hbc HC
 have hb3d:Below w.heap.size w wc.drew:=hb3.drew
 have hx2d:CBlk wc.drew (w.heap.size+1+1) #[.bool false,.slice none 0 0] 84:=hx2
 have HT1:=Lib.hid (rsubDigits_any A1 A2 n1 c1 n2 c2 x1 x2 wc.drew (h1.later hb3d) (h2.later hb3d) HHX.out (by omega) (by omega))
 go_upto_region 4 with (fail)
 have hl5:Hid (∀ m,(digs (x1 - x2)).length=m→m≤524288):=fun m h=>by
  have h9:=digs_length_mono (Nat.sub_le x1 x2)
  have h8:=h1.len
  omega
 go_region_held3 (fun w'=>w'.cell? ⟨w.heap.size,0,none⟩=some (.bool b)∧w'.cell? ⟨w.heap.size,1,none⟩=some (.slice A1 n1 c1)∧w'.cell? ⟨w.heap.size+1,0,none⟩=some (.bool (!b))∧w'.cell? ⟨w.heap.size+1,1,none⟩=some (.slice A2 n2 c2))
  (first | exact ⟨a0,a1,q0,q1⟩ | exact ⟨((hb5.cell (p:=⟨w.heap.size,0,none⟩) (al)).trans a0),((hb5.cell (p:=⟨w.heap.size,1,none⟩) (al)).trans a1),((hb5.cell (p:=⟨w.heap.size+1,0,none⟩) (bl)).trans q0),((hb5.cell (p:=⟨w.heap.size+1,1,none⟩) (bl)).trans q1)⟩ | exact ⟨((hb6.cell (p:=⟨w.heap.size,0,none⟩) (al6)).trans ((hb5.cell (p:=⟨w.heap.size,0,none⟩) (al)).trans a0)),((hb6.cell (p:=⟨w.heap.size,1,none⟩) (al6)).trans ((hb5.cell (p:=⟨w.heap.size,1,none⟩) (al)).trans a1)),((hb6.cell (p:=⟨w.heap.size+1,0,none⟩) (bl6)).trans ((hb5.cell (p:=⟨w.heap.size+1,0,none⟩) (bl)).trans q0)),((hb6.cell (p:=⟨w.heap.size+1,1,none⟩) (bl6)).trans ((hb5.cell (p:=⟨w.heap.size+1,1,none⟩) (bl)).trans q1))⟩ | exact ⟨((far2w _ _ _ (by dsimp only;omega)).trans ((hb6.cell (p:=⟨w.heap.size,0,none⟩) (al6)).trans ((hb5.cell (p:=⟨w.heap.size,0,none⟩) (al)).trans a0))),((far2w _ _ _ (by dsimp only;omega)).trans ((hb6.cell (p:=⟨w.heap.size,1,none⟩) (al6)).trans ((hb5.cell (p:=⟨w.heap.size,1,none⟩) (al)).trans a1))),((far2w _ _ _ (by dsimp only;omega)).trans ((hb6.cell (p:=⟨w.heap.size+1,0,none⟩) (bl6)).trans ((hb5.cell (p:=⟨w.heap.size+1,0,none⟩) (bl)).trans q0))),((far2w _ _ _ (by dsimp only;omega)).trans ((hb6.cell (p:=⟨w.heap.size+1,1,none⟩) (bl6)).trans ((hb5.cell (p:=⟨w.heap.size+1,1,none⟩) (bl)).trans q1)))⟩)
  (first
   |(go_at_call 140;refine (HT1.out).mono ?_;rintro e w4 ⟨A5,m5,c5,rfl,hd5,hb5⟩;have hm5:=hl5.out m5 hd5.len;have al6:=Nat.lt_of_lt_of_le al hb5.size;have bl6:=Nat.lt_of_lt_of_le bl hb5.size)
   |(go_at_call 137;refine (rsigned_any _ A5 m5 c5 _ w4 hd5 (by omega)).mono ?_;rintro e w6 ⟨A6,m6,c6,rfl,hd6,hb6⟩;have hk6:=(hx2d.below hb5 cl).below hb6 (Nat.lt_of_lt_of_le cl hb5.size);have e0:=hk6.cell 0;have e1:=hk6.cell 1;have g0:=hk6.frozen 0;have g1:=hk6.frozen 1))
 go_wp2_with fail
 have k0:w6.cell? ⟨w.heap.size+1+1,0,none⟩=some (.bool false):=e0
 have k1':w6.cell? ⟨w.heap.size+1+1,1,none⟩=some (.slice none 0 0):=e1
 have hB:=hb3d.trans ((hb5.trans (hb6.mono hb5.size)).mono hb3d.size)
 refine bodyPost_ret (v := .agg #[.bool (decide (sgn b (val (digs (x1 - x2)))<0)),.slice A6 m6 c6]) (by simp [results,Tryz.results75,go_sem,k0,k1']) rfl ?_
 rw [val_digs] at hd6 ⊢
 exact ⟨A6,m6,c6,rfl,hd6.box hk6 _ _,two_set hB (by omega) _ _⟩
set_option maxHeartbeats 4000000 in
set_option maxRecDepth 100000 in
theorem rplus_lt (b:Bool) (x1 x2:Nat) (A1 A2:Option Addr) (n1 c1 n2 c2:Nat) (w:World) (h1:DigI w A1 n1 c1 (digs x1)) (h2:DigI w A2 n2 c2 (digs x2)) (k1:n1≤524288) (k2:n2≤524288) (hx:x1<x2) :
  Calls Tryz.prog 75 #[.agg #[.bool b,.slice A1 n1 c1],.agg #[.bool (!b),.slice A2 n2 c2]] w (RetZ w (sgn b x1+sgn (!b) x2)):=by
 rw [sgn_lt b x1 x2 (Nat.le_of_lt hx)]
 have hbb:(b == !b)=false:=by cases b<;>rfl
 obtain ⟨r,hr0,hr⟩:∃ r:Int,r<0∧Bn.ncmp x1 x2=r:=⟨Bn.ncmp x1 x2,by rw [Bn.ncmp_lt hx];decide,rfl⟩
 have d0:decide (0≤r)=false:=by simp;omega
 have HR:=Lib.hid hr
 have HHX:=Lib.hid hx
 clear hr hx hr0
 go_enter Tryz.func75,Tryz.ntmps75
 go_wp2_with fail
 have hb3:Below w.heap.size w (((w.alloc (.cells #[.bool b,.slice A1 n1 c1] 84)).alloc (.cells #[.bool (!b),.slice A2 n2 c2] 84)).alloc (.cells #[.bool false,.slice none 0 0] 84)):=
  (((Below.refl _ _).alloc (Nat.le_refl _) _).alloc (by simp) _).alloc (by simp;omega) _
 have hx0:CBlk (((w.alloc (.cells #[.bool b,.slice A1 n1 c1] 84)).alloc (.cells #[.bool (!b),.slice A2 n2 c2] 84)).alloc (.cells #[.bool false,.slice none 0 0] 84)) w.heap.size #[.bool b,.slice A1 n1 c1] 84:=
  (((CBlk.new w _ _ _ rfl).below ((Below.refl _ _).alloc (Nat.le_refl _) _) (by simp))).below ((Below.refl _ _).alloc (Nat.le_refl _) _) (by simp;omega)
 have hx1:CBlk (((w.alloc (.cells #[.bool b,.slice A1 n1 c1] 84)).alloc (.cells #[.bool (!b),.slice A2 n2 c2] 84)).alloc (.cells #[.bool false,.slice none 0 0] 84)) (w.heap.size+1) #[.bool (!b),.slice A2 n2 c2] 84:=
  (CBlk.new (w.alloc (.cells #[.bool b,.slice A1 n1 c1] 84)) #[.bool (!b),.slice A2 n2 c2] 84 (w.heap.size+1) (by simp)).below ((Below.refl _ _).alloc (Nat.le_refl _) _) (by simp)
 have hx2:CBlk (((w.alloc (.cells #[.bool b,.slice A1 n1 c1] 84)).alloc (.cells #[.bool (!b),.slice A2 n2 c2] 84)).alloc (.cells #[.bool false,.slice none 0 0] 84)) (w.heap.size+1+1) #[.bool false,.slice none 0 0] 84:=CBlk.new ((w.alloc (.cells #[.bool b,.slice A1 n1 c1] 84)).alloc (.cells #[.bool (!b),.slice A2 n2 c2] 84)) _ _ (w.heap.size+1+1) (by simp)
 generalize (((w.alloc (.cells #[.bool b,.slice A1 n1 c1] 84)).alloc (.cells #[.bool (!b),.slice A2 n2 c2] 84)).alloc (.cells #[.bool false,.slice none 0 0] 84))=w3 at *
 have a0:w3.cell? ⟨w.heap.size,0,none⟩=some (.bool b):=hx0.cell 0
 have a1:w3.cell? ⟨w.heap.size,1,none⟩=some (.slice A1 n1 c1):=hx0.cell 1
 have q0:w3.cell? ⟨w.heap.size+1,0,none⟩=some (.bool (!b)):=hx1.cell 0
 have q1:w3.cell? ⟨w.heap.size+1,1,none⟩=some (.slice A2 n2 c2):=hx1.cell 1
 have al:=hx0.lt
 have bl:=hx1.lt
 have cl:=hx2.lt
 have hb3d:Below w.heap.size w w3.drew:=hb3.drew
 have hx2d:CBlk w3.drew (w.heap.size+1+1) #[.bool false,.slice none 0 0] 84:=hx2
 have hc:=rcompare_any A1 A2 n1 c1 n2 c2 x1 x2 w3 (h1.later hb3).rd (h2.later hb3).rd (by omega) (by omega)
 rw [HR.out] at hc
 have HC:=Lib.hid hc
 clear hc hb3d hx2d
 go_wp2_with fail
 refine HC.out.mono ?_
 rintro e wc ⟨rfl,hbc⟩
 replace a0:=(hbc.cell (p:=⟨w.heap.size,0,none⟩) al).trans a0
 replace a1:=(hbc.cell (p:=⟨w.heap.size,1,none⟩) al).trans a1
 replace q0:=(hbc.cell (p:=⟨w.heap.size+1,0,none⟩) bl).trans q0
 replace q1:=(hbc.cell (p:=⟨w.heap.size+1,1,none⟩) bl).trans q1
 replace hx2:=hx2.below hbc cl
 replace hb3:=hb3.trans (hbc.mono hb3.size)
 replace al:=Nat.lt_of_lt_of_le al hbc.size
 replace bl:=Nat.lt_of_lt_of_le bl hbc.size
 replace cl:=Nat.lt_of_lt_of_le cl hbc.size
 clear hx0 hx1 hbc HC
 have hb3d:Below w.heap.size w wc.drew:=hb3.drew
 have hx2d:CBlk wc.drew (w.heap.size+1+1) #[.bool false,.slice none 0 0] 84:=hx2
 have HT1:=Lib.hid (rsubDigits_any A2 A1 n2 c2 n1 c1 x2 x1 wc.drew (h2.later hb3d) (h1.later hb3d) (Nat.le_of_lt HHX.out) (by omega) (by omega))
 go_upto_region 5 with (fail)
 have hl5:Hid (∀ m,(digs (x2 - x1)).length=m→m≤524288):=fun m h=>by
  have h9:=digs_length_mono (Nat.sub_le x2 x1)
  have h8:=h2.len
  omega
 go_region_held3 (fun w'=>w'.cell? ⟨w.heap.size,0,none⟩=some (.bool b)∧w'.cell? ⟨w.heap.size,1,none⟩=some (.slice A1 n1 c1)∧w'.cell? ⟨w.heap.size+1,0,none⟩=some (.bool (!b))∧w'.cell? ⟨w.heap.size+1,1,none⟩=some (.slice A2 n2 c2))
  (first | exact ⟨a0,a1,q0,q1⟩ | exact ⟨((hb5.cell (p:=⟨w.heap.size,0,none⟩) (al)).trans a0),((hb5.cell (p:=⟨w.heap.size,1,none⟩) (al)).trans a1),((hb5.cell (p:=⟨w.heap.size+1,0,none⟩) (bl)).trans q0),((hb5.cell (p:=⟨w.heap.size+1,1,none⟩) (bl)).trans q1)⟩ | exact ⟨((hb6.cell (p:=⟨w.heap.size,0,none⟩) (al6)).trans ((hb5.cell (p:=⟨w.heap.size,0,none⟩) (al)).trans a0)),((hb6.cell (p:=⟨w.heap.size,1,none⟩) (al6)).trans ((hb5.cell (p:=⟨w.heap.size,1,none⟩) (al)).trans a1)),((hb6.cell (p:=⟨w.heap.size+1,0,none⟩) (bl6)).trans ((hb5.cell (p:=⟨w.heap.size+1,0,none⟩) (bl)).trans q0)),((hb6.cell (p:=⟨w.heap.size+1,1,none⟩) (bl6)).trans ((hb5.cell (p:=⟨w.heap.size+1,1,none⟩) (bl)).trans q1))⟩ | exact ⟨((far2w _ _ _ (by dsimp only;omega)).trans ((hb6.cell (p:=⟨w.heap.size,0,none⟩) (al6)).trans ((hb5.cell (p:=⟨w.heap.size,0,none⟩) (al)).trans a0))),((far2w _ _ _ (by dsimp only;omega)).trans ((hb6.cell (p:=⟨w.heap.size,1,none⟩) (al6)).trans ((hb5.cell (p:=⟨w.heap.size,1,none⟩) (al)).trans a1))),((far2w _ _ _ (by dsimp only;omega)).trans ((hb6.cell (p:=⟨w.heap.size+1,0,none⟩) (bl6)).trans ((hb5.cell (p:=⟨w.heap.size+1,0,none⟩) (bl)).trans q0))),((far2w _ _ _ (by dsimp only;omega)).trans ((hb6.cell (p:=⟨w.heap.size+1,1,none⟩) (bl6)).trans ((hb5.cell (p:=⟨w.heap.size+1,1,none⟩) (bl)).trans q1)))⟩)
  (first
   |(go_at_call 140;refine (HT1.out).mono ?_;rintro e w4 ⟨A5,m5,c5,rfl,hd5,hb5⟩;have hm5:=hl5.out m5 hd5.len;have al6:=Nat.lt_of_lt_of_le al hb5.size;have bl6:=Nat.lt_of_lt_of_le bl hb5.size)
   |(go_at_call 137;refine (rsigned_any _ A5 m5 c5 _ w4 hd5 (by omega)).mono ?_;rintro e w6 ⟨A6,m6,c6,rfl,hd6,hb6⟩;have hk6:=(hx2d.below hb5 cl).below hb6 (Nat.lt_of_lt_of_le cl hb5.size);have e0:=hk6.cell 0;have e1:=hk6.cell 1;have g0:=hk6.frozen 0;have g1:=hk6.frozen 1))
 go_wp2_with fail
 have k0:w6.cell? ⟨w.heap.size+1+1,0,none⟩=some (.bool false):=e0
 have k1':w6.cell? ⟨w.heap.size+1+1,1,none⟩=some (.slice none 0 0):=e1
 have hB:=hb3d.trans ((hb5.trans (hb6.mono hb5.size)).mono hb3d.size)
 refine bodyPost_ret (v := .agg #[.bool (decide (sgn (!b) (val (digs (x2 - x1)))<0)),.slice A6 m6 c6]) (by simp [results,Tryz.results75,go_sem,k0,k1']) rfl ?_
 rw [val_digs] at hd6 ⊢
 exact ⟨A6,m6,c6,rfl,hd6.box hk6 _ _,two_set hB (by omega) _ _⟩
theorem rplus_any (b1 b2:Bool) (x1 x2:Nat) (A1 A2:Option Addr) (n1 c1 n2 c2:Nat) (w:World) (h1:DigI w A1 n1 c1 (digs x1)) (h2:DigI w A2 n2 c2 (digs x2)) (k1:n1≤524288) (k2:n2≤524288) :
  Calls Tryz.prog 75 #[.agg #[.bool b1,.slice A1 n1 c1],.agg #[.bool b2,.slice A2 n2 c2]] w (RetZ w (sgn b1 x1+sgn b2 x2)):=by
 by_cases hb:b2=b1
 ·subst hb
  exact rplus_same b2 x1 x2 A1 A2 n1 c1 n2 c2 w h1 h2 k1 k2
 ·have e:b2 = !b1:=by cases b1<;>cases b2<;>simp at hb ⊢
  subst e
  rcases Nat.lt_or_ge x1 x2 with h | h
  ·exact rplus_lt b1 x1 x2 A1 A2 n1 c1 n2 c2 w h1 h2 k1 k2 h
  ·exact rplus_ge b1 x1 x2 A1 A2 n1 c1 n2 c2 w h1 h2 k1 k2 h
end Go.Proofs.YteajibbphcfmeaaGreatDoor
