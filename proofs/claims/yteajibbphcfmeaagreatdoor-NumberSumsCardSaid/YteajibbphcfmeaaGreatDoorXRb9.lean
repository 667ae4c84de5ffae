/- Contracts of the reference's integers: minus, times, plus. -/
import Derived.Test.YteajibbphcfmeaaGreatDoorXRb5
import Derived.Test.YteajibbphcfmeaaGreatDoorXRb8
import Derived.Deep.RegionHeld3
namespace Go.Proofs.YteajibbphcfmeaaGreatDoor
open Go.RowKit Dn
theorem zdI {g:Nat} (w:World) (u v:Value) {q:Addr} (h:g≠q.block):((w.setCell ⟨g,0,none⟩ u).setCell ⟨g,1,none⟩ v).cell? q=w.cell? q:=by
 rw [World.cell?_setCell_far _ _ _ _ (by exact h),World.cell?_setCell_far _ _ _ _ (by exact h)]
theorem zii (b1 b2:Bool) (x y:Nat):sgn (!b1==b2) (x*y)=sgn b1 x*sgn b2 y:=by
 unfold sgn
 cases b1<;>cases b2<;>simp [Int.natCast_mul,Int.neg_mul,Int.mul_neg]
theorem zow (b:Bool) (x:Nat):sgn (!b) x = - sgn b x:=by
 unfold sgn
 cases b<;>simp
theorem zep {w:World} {A:Option Addr} {n c x y m k:Nat} (h:DigI w A n c (digs (x*y))) (hx:(digs x).length=m) (hy:(digs y).length=k):n≤m+k:=by
 rw [←h.len];refine digs_length_le ?_;rw [Nat.pow_add];have h1:=zac x;have h2:=zac y;rw [hx] at h1;rw [hy] at h2;exact Nat.mul_lt_mul'' h1 h2
set_option maxHeartbeats 4000000 in
set_option maxRecDepth 100000 in
theorem zcU (b1 b2:Bool) (x1 x2:Nat) (A1 A2:Option Addr) (n1 c1 n2 c2:Nat) (w:World) (h1:DigI w A1 n1 c1 (digs x1)) (h2:DigI w A2 n2 c2 (digs x2)) (k1:n1≤524288) (k2:n2≤524288) :
  Calls Tryz.prog 76 #[.agg #[.bool b1,.slice A1 n1 c1],.agg #[.bool b2,.slice A2 n2 c2]] w (RetZ w (sgn b1 x1*sgn b2 x2)):=by
 rw [←zii];go_enter Tryz.func76,Tryz.ntmps76
 go_wp2_with fail
 have aO:Below w.heap.size w (((w.alloc (.cells #[.bool b1,.slice A1 n1 c1] 84)).alloc (.cells #[.bool b2,.slice A2 n2 c2] 84)).alloc (.cells #[.bool false,.slice none 0 0] 84)):=
  (((Below.refl _ _).alloc (Nat.le_refl _) _).alloc (by simp) _).alloc (by simp;omega) _
 have aH:CBlk (((w.alloc (.cells #[.bool b1,.slice A1 n1 c1] 84)).alloc (.cells #[.bool b2,.slice A2 n2 c2] 84)).alloc (.cells #[.bool false,.slice none 0 0] 84)) w.heap.size #[.bool b1,.slice A1 n1 c1] 84:=
  (((CBlk.new w _ _ _ rfl).below ((Below.refl _ _).alloc (Nat.le_refl _) _) (by simp))).below ((Below.refl _ _).alloc (Nat.le_refl _) _) (by simp;omega)
 have aI:CBlk (((w.alloc (.cells #[.bool b1,.slice A1 n1 c1] 84)).alloc (.cells #[.bool b2,.slice A2 n2 c2] 84)).alloc (.cells #[.bool false,.slice none 0 0] 84)) (w.heap.size+1) #[.bool b2,.slice A2 n2 c2] 84:=
  (CBlk.new (w.alloc (.cells #[.bool b1,.slice A1 n1 c1] 84)) #[.bool b2,.slice A2 n2 c2] 84 (w.heap.size+1) (by simp)).below ((Below.refl _ _).alloc (Nat.le_refl _) _) (by simp)
 have aK:CBlk (((w.alloc (.cells #[.bool b1,.slice A1 n1 c1] 84)).alloc (.cells #[.bool b2,.slice A2 n2 c2] 84)).alloc (.cells #[.bool false,.slice none 0 0] 84)) (w.heap.size+1+1) #[.bool false,.slice none 0 0] 84:=CBlk.new ((w.alloc (.cells #[.bool b1,.slice A1 n1 c1] 84)).alloc (.cells #[.bool b2,.slice A2 n2 c2] 84)) _ _ (w.heap.size+1+1) (by simp);generalize (((w.alloc (.cells #[.bool b1,.slice A1 n1 c1] 84)).alloc (.cells #[.bool b2,.slice A2 n2 c2] 84)).alloc (.cells #[.bool false,.slice none 0 0] 84))=w3 at *;have a0:w3.cell? ⟨w.heap.size,0,none⟩=some (.bool b1):=aH.cell 0;have a1:w3.cell? ⟨w.heap.size,1,none⟩=some (.slice A1 n1 c1):=aH.cell 1;have q0:w3.cell? ⟨w.heap.size+1,0,none⟩=some (.bool b2):=aI.cell 0;have q1:w3.cell? ⟨w.heap.size+1,1,none⟩=some (.slice A2 n2 c2):=aI.cell 1;have al:=aH.lt;have bl:=aI.lt;have cl:=aK.lt;have aD:Below w.heap.size w w3.drew:=aO.drew;have aJ:CBlk w3.drew (w.heap.size+1+1) #[.bool false,.slice none 0 0] 84:=aK;have aP:=Lib.hid (zcI A1 A2 n1 c1 n2 c2 x1 x2 w3.drew (h1.later aD) (h2.later aD) (by omega) (by omega));have aN:=Lib.hid h1.len;have aR:=Lib.hid h2.len
 go_region_held3 (fun w'=>w'.cell? ⟨w.heap.size,0,none⟩=some (.bool b1)∧w'.cell? ⟨w.heap.size,1,none⟩=some (.slice A1 n1 c1)∧w'.cell? ⟨w.heap.size+1,0,none⟩=some (.bool b2)∧w'.cell? ⟨w.heap.size+1,1,none⟩=some (.slice A2 n2 c2))
  (first | exact ⟨a0,a1,q0,q1⟩ | exact ⟨((aA.cell (p:=⟨w.heap.size,0,none⟩) (al)).trans a0),((aA.cell (p:=⟨w.heap.size,1,none⟩) (al)).trans a1),((aA.cell (p:=⟨w.heap.size+1,0,none⟩) (bl)).trans q0),((aA.cell (p:=⟨w.heap.size+1,1,none⟩) (bl)).trans q1)⟩ | exact ⟨((aC.cell (p:=⟨w.heap.size,0,none⟩) (aG)).trans ((aA.cell (p:=⟨w.heap.size,0,none⟩) (al)).trans a0)),((aC.cell (p:=⟨w.heap.size,1,none⟩) (aG)).trans ((aA.cell (p:=⟨w.heap.size,1,none⟩) (al)).trans a1)),((aC.cell (p:=⟨w.heap.size+1,0,none⟩) (aF)).trans ((aA.cell (p:=⟨w.heap.size+1,0,none⟩) (bl)).trans q0)),((aC.cell (p:=⟨w.heap.size+1,1,none⟩) (aF)).trans ((aA.cell (p:=⟨w.heap.size+1,1,none⟩) (bl)).trans q1))⟩ | exact ⟨((zdI _ _ _ (by dsimp only;omega)).trans ((aC.cell (p:=⟨w.heap.size,0,none⟩) (aG)).trans ((aA.cell (p:=⟨w.heap.size,0,none⟩) (al)).trans a0))),((zdI _ _ _ (by dsimp only;omega)).trans ((aC.cell (p:=⟨w.heap.size,1,none⟩) (aG)).trans ((aA.cell (p:=⟨w.heap.size,1,none⟩) (al)).trans a1))),((zdI _ _ _ (by dsimp only;omega)).trans ((aC.cell (p:=⟨w.heap.size+1,0,none⟩) (aF)).trans ((aA.cell (p:=⟨w.heap.size+1,0,none⟩) (bl)).trans q0))),((zdI _ _ _ (by dsimp only;omega)).trans ((aC.cell (p:=⟨w.heap.size+1,1,none⟩) (aF)).trans ((aA.cell (p:=⟨w.heap.size+1,1,none⟩) (bl)).trans q1)))⟩)
  (first
   |(go_at_call 141;refine (aP.out).mono ?_;rintro e w4 ⟨A5,m5,c5,rfl,aM,aA⟩;have aS:=zep aM aN.out aR.out;have aG:=Nat.lt_of_lt_of_le al aA.size;have aF:=Nat.lt_of_lt_of_le bl aA.size)
   |(go_at_call 137;refine (za4 _ A5 m5 c5 _ w4 aM (by omega)).mono ?_;rintro e w6 ⟨A6,m6,c6,rfl,aL,aC⟩;have aE:=(aJ.below aA cl).below aC (Nat.lt_of_lt_of_le cl aA.size);have e0:=aE.cell 0;have e1:=aE.cell 1;have g0:=aE.frozen 0;have g1:=aE.frozen 1))
 go_wp2_with fail
 have k0:w6.cell? ⟨w.heap.size+1+1,0,none⟩=some (.bool false):=e0;have aQ:w6.cell? ⟨w.heap.size+1+1,1,none⟩=some (.slice none 0 0):=e1;have hB:=aD.trans ((aA.trans (aC.mono aA.size)).mono aD.size);refine bodyPost_ret (v := .agg #[.bool (decide (sgn (!b1==b2) (val (digs (x1*x2)))<0)),.slice A6 m6 c6]) (by simp [results,Tryz.results76,go_sem,k0,aQ]) rfl ?_;rw [zak] at aL ⊢;exact ⟨A6,m6,c6,rfl,aL.box aE _ _,zbP hB (by omega) _ _⟩
set_option maxHeartbeats 1000000 in
set_option maxRecDepth 100000 in
theorem zf0 (b1:Bool) (x1:Nat) (A1:Option Addr) (n1 c1:Nat) (w:World) (h1:DigI w A1 n1 c1 (digs x1)) (k1:n1≤1048576) :
  Calls Tryz.prog 136 #[.agg #[.bool b1,.slice A1 n1 c1]] w (RetZ w (- sgn b1 x1)):=by
 rw [←zow];have aC:Below w.heap.size w ((w.alloc (.cells #[.bool b1,.slice A1 n1 c1] 84)).alloc (.cells #[.bool false,.slice none 0 0] 84)):=((Below.refl _ _).alloc (Nat.le_refl _) _).alloc (by simp) _;have aF:CBlk ((w.alloc (.cells #[.bool b1,.slice A1 n1 c1] 84)).alloc (.cells #[.bool false,.slice none 0 0] 84)) (w.heap.size+1) #[.bool false,.slice none 0 0] 84:=CBlk.new (w.alloc (.cells #[.bool b1,.slice A1 n1 c1] 84)) _ _ (w.heap.size+1) (by simp);have hp:=za4 (!b1) A1 n1 c1 (digs x1) _ (h1.later aC) (by omega);rw [zak] at hp;have HP:=Lib.hid hp;have aD:=Lib.hid aC;have HX:=Lib.hid aF;clear hp aC aF;generalize sgn (!b1) x1=z at *;go_enter Tryz.func136,Tryz.ntmps136
 go_wp2_with fail
 refine HP.out.mono ?_;rintro e w6 ⟨A6,m6,c6,rfl,aG,aE⟩;have aA:=HX.out.below aE HX.out.lt;have e0:w6.cell? ⟨w.heap.size+1,0,none⟩=some (.bool false):=aA.cell 0;have e1:w6.cell? ⟨w.heap.size+1,1,none⟩=some (.slice none 0 0):=aA.cell 1;have f0:w6.frozen? ⟨w.heap.size+1,0,none⟩=false:=aA.frozen 0;have f1:w6.frozen? ⟨w.heap.size+1,1,none⟩=false:=aA.frozen 1;have hB:=aD.out.trans (aE.mono aD.out.size);clear aE HP aD
 go_wp2_with fail
 refine bodyPost_ret (v := .agg #[.bool (decide (z<0)),.slice A6 m6 c6]) (by simp [results,Tryz.results136,go_sem,e0,e1]) rfl ?_;exact ⟨A6,m6,c6,rfl,aG.box aA _ _,zbP hB (by omega) _ _⟩
theorem zmR (b:Bool) (x y:Nat):sgn b x+sgn b y=sgn b (x+y):=by
 unfold sgn
 cases b<;>simp<;>omega
theorem zo7 (b:Bool) (x y:Nat) (h:y≤x):sgn b x+sgn (!b) y=sgn b (x - y):=by
 unfold sgn
 cases b<;>simp<;>omega
theorem zpb (b:Bool) (x y:Nat) (h:x≤y):sgn b x+sgn (!b) y=sgn (!b) (y - x):=by
 unfold sgn
 cases b<;>simp<;>omega
set_option maxHeartbeats 4000000 in
set_option maxRecDepth 100000 in
theorem zjk (b:Bool) (x1 x2:Nat) (A1 A2:Option Addr) (n1 c1 n2 c2:Nat) (w:World) (h1:DigI w A1 n1 c1 (digs x1)) (h2:DigI w A2 n2 c2 (digs x2)) (k1:n1≤524288) (k2:n2≤524288) :
  Calls Tryz.prog 75 #[.agg #[.bool b,.slice A1 n1 c1],.agg #[.bool b,.slice A2 n2 c2]] w (RetZ w (sgn b x1+sgn b x2)):=by
 rw [zmR];go_enter Tryz.func75,Tryz.ntmps75
 go_upto_region 2 with (fail)
 have aR:Below w.heap.size w (((w.alloc (.cells #[.bool b,.slice A1 n1 c1] 84)).alloc (.cells #[.bool b,.slice A2 n2 c2] 84)).alloc (.cells #[.bool false,.slice none 0 0] 84)):=
  (((Below.refl _ _).alloc (Nat.le_refl _) _).alloc (by simp) _).alloc (by simp;omega) _
 have aI:CBlk (((w.alloc (.cells #[.bool b,.slice A1 n1 c1] 84)).alloc (.cells #[.bool b,.slice A2 n2 c2] 84)).alloc (.cells #[.bool false,.slice none 0 0] 84)) w.heap.size #[.bool b,.slice A1 n1 c1] 84:=
  (((CBlk.new w _ _ _ rfl).below ((Below.refl _ _).alloc (Nat.le_refl _) _) (by simp))).below ((Below.refl _ _).alloc (Nat.le_refl _) _) (by simp;omega)
 have aJ:CBlk (((w.alloc (.cells #[.bool b,.slice A1 n1 c1] 84)).alloc (.cells #[.bool b,.slice A2 n2 c2] 84)).alloc (.cells #[.bool false,.slice none 0 0] 84)) (w.heap.size+1) #[.bool b,.slice A2 n2 c2] 84:=
  (CBlk.new (w.alloc (.cells #[.bool b,.slice A1 n1 c1] 84)) #[.bool b,.slice A2 n2 c2] 84 (w.heap.size+1) (by simp)).below ((Below.refl _ _).alloc (Nat.le_refl _) _) (by simp)
 have aL:CBlk (((w.alloc (.cells #[.bool b,.slice A1 n1 c1] 84)).alloc (.cells #[.bool b,.slice A2 n2 c2] 84)).alloc (.cells #[.bool false,.slice none 0 0] 84)) (w.heap.size+1+1) #[.bool false,.slice none 0 0] 84:=CBlk.new ((w.alloc (.cells #[.bool b,.slice A1 n1 c1] 84)).alloc (.cells #[.bool b,.slice A2 n2 c2] 84)) _ _ (w.heap.size+1+1) (by simp);generalize (((w.alloc (.cells #[.bool b,.slice A1 n1 c1] 84)).alloc (.cells #[.bool b,.slice A2 n2 c2] 84)).alloc (.cells #[.bool false,.slice none 0 0] 84))=w3 at *;have a0:w3.cell? ⟨w.heap.size,0,none⟩=some (.bool b):=aI.cell 0;have a1:w3.cell? ⟨w.heap.size,1,none⟩=some (.slice A1 n1 c1):=aI.cell 1;have q0:w3.cell? ⟨w.heap.size+1,0,none⟩=some (.bool b):=aJ.cell 0;have q1:w3.cell? ⟨w.heap.size+1,1,none⟩=some (.slice A2 n2 c2):=aJ.cell 1;have al:=aI.lt;have bl:=aJ.lt;have cl:=aL.lt;have aD:Below w.heap.size w w3.drew:=aR.drew;have aK:CBlk w3.drew (w.heap.size+1+1) #[.bool false,.slice none 0 0] 84:=aL;have aP:=Lib.hid (zfI A1 A2 n1 c1 n2 c2 (digs x1) (digs x2) w3.drew (h1.later aD) (h2.later aD) (by omega) (by omega))
 go_region_held3 (fun w'=>w'.cell? ⟨w.heap.size,0,none⟩=some (.bool b)∧w'.cell? ⟨w.heap.size,1,none⟩=some (.slice A1 n1 c1)∧w'.cell? ⟨w.heap.size+1,0,none⟩=some (.bool b)∧w'.cell? ⟨w.heap.size+1,1,none⟩=some (.slice A2 n2 c2))
  (first | exact ⟨a0,a1,q0,q1⟩ | exact ⟨((aA.cell (p:=⟨w.heap.size,0,none⟩) (al)).trans a0),((aA.cell (p:=⟨w.heap.size,1,none⟩) (al)).trans a1),((aA.cell (p:=⟨w.heap.size+1,0,none⟩) (bl)).trans q0),((aA.cell (p:=⟨w.heap.size+1,1,none⟩) (bl)).trans q1)⟩ | exact ⟨((aC.cell (p:=⟨w.heap.size,0,none⟩) (aH)).trans ((aA.cell (p:=⟨w.heap.size,0,none⟩) (al)).trans a0)),((aC.cell (p:=⟨w.heap.size,1,none⟩) (aH)).trans ((aA.cell (p:=⟨w.heap.size,1,none⟩) (al)).trans a1)),((aC.cell (p:=⟨w.heap.size+1,0,none⟩) (aG)).trans ((aA.cell (p:=⟨w.heap.size+1,0,none⟩) (bl)).trans q0)),((aC.cell (p:=⟨w.heap.size+1,1,none⟩) (aG)).trans ((aA.cell (p:=⟨w.heap.size+1,1,none⟩) (bl)).trans q1))⟩ | exact ⟨((zdI _ _ _ (by dsimp only;omega)).trans ((aC.cell (p:=⟨w.heap.size,0,none⟩) (aH)).trans ((aA.cell (p:=⟨w.heap.size,0,none⟩) (al)).trans a0))),((zdI _ _ _ (by dsimp only;omega)).trans ((aC.cell (p:=⟨w.heap.size,1,none⟩) (aH)).trans ((aA.cell (p:=⟨w.heap.size,1,none⟩) (al)).trans a1))),((zdI _ _ _ (by dsimp only;omega)).trans ((aC.cell (p:=⟨w.heap.size+1,0,none⟩) (aG)).trans ((aA.cell (p:=⟨w.heap.size+1,0,none⟩) (bl)).trans q0))),((zdI _ _ _ (by dsimp only;omega)).trans ((aC.cell (p:=⟨w.heap.size+1,1,none⟩) (aG)).trans ((aA.cell (p:=⟨w.heap.size+1,1,none⟩) (bl)).trans q1)))⟩)
  (first
   |(go_at_call 138;refine (aP.out).mono ?_;rintro e w4 ⟨A5,m5,c5,ls,rfl,aO,aS,aF,aA⟩;have aM:=Lib.hid aF;clear aF;have aH:=Nat.lt_of_lt_of_le al aA.size;have aG:=Nat.lt_of_lt_of_le bl aA.size)
   |(go_at_call 137;refine (za4 _ A5 m5 c5 _ w4 aO (by omega)).mono ?_;rintro e w6 ⟨A6,m6,c6,rfl,aN,aC⟩;have aE:=(aK.below aA cl).below aC (Nat.lt_of_lt_of_le cl aA.size);have e0:=aE.cell 0;have e1:=aE.cell 1;have g0:=aE.frozen 0;have g1:=aE.frozen 1))
 go_wp2_with fail
 have k0:w6.cell? ⟨w.heap.size+1+1,0,none⟩=some (.bool false):=e0;have aQ:w6.cell? ⟨w.heap.size+1+1,1,none⟩=some (.slice none 0 0):=e1;have hB:=aD.trans ((aA.trans (aC.mono aA.size)).mono aD.size);refine bodyPost_ret (v := .agg #[.bool (decide (sgn b (val ls)<0)),.slice A6 m6 c6]) (by simp [results,Tryz.results75,go_sem,k0,aQ]) rfl ?_;have aF:=aM.out;rw [zak,zak] at aF;rw [←aF];exact ⟨A6,m6,c6,rfl,aN.box aE _ _,zbP hB (by omega) _ _⟩
set_option maxHeartbeats 4000000 in
set_option maxRecDepth 100000 in
theorem zm8 (b:Bool) (x1 x2:Nat) (A1 A2:Option Addr) (n1 c1 n2 c2:Nat) (w:World) (h1:DigI w A1 n1 c1 (digs x1)) (h2:DigI w A2 n2 c2 (digs x2)) (k1:n1≤524288) (k2:n2≤524288) (hx:x2≤x1) :
  Calls Tryz.prog 75 #[.agg #[.bool b,.slice A1 n1 c1],.agg #[.bool (!b),.slice A2 n2 c2]] w (RetZ w (sgn b x1+sgn (!b) x2)):=by
 rw [zo7 b x1 x2 hx];have aU:(b == !b)=false:=by cases b<;>rfl
 obtain ⟨r,aP,hr⟩:∃ r:Int,0≤r∧Bn.ncmp x1 x2=r:=⟨Bn.ncmp x1 x2,by rcases Nat.lt_or_ge x2 x1 with h | h;(· rw [Bn.ncmp_gt h];decide);(· rw [show x1=x2 from by omega,Bn.ncmp_eq];exact Int.le_refl 0),rfl⟩
 have d0:decide (0≤r)=true:=by simpa using aP
 have HR:=Lib.hid hr;have aQ:=Lib.hid hx;clear hr hx aP;go_enter Tryz.func75,Tryz.ntmps75
 go_wp2_with fail
 have aF:Below w.heap.size w (((w.alloc (.cells #[.bool b,.slice A1 n1 c1] 84)).alloc (.cells #[.bool (!b),.slice A2 n2 c2] 84)).alloc (.cells #[.bool false,.slice none 0 0] 84)):=
  (((Below.refl _ _).alloc (Nat.le_refl _) _).alloc (by simp) _).alloc (by simp;omega) _
 have aL:CBlk (((w.alloc (.cells #[.bool b,.slice A1 n1 c1] 84)).alloc (.cells #[.bool (!b),.slice A2 n2 c2] 84)).alloc (.cells #[.bool false,.slice none 0 0] 84)) w.heap.size #[.bool b,.slice A1 n1 c1] 84:=
  (((CBlk.new w _ _ _ rfl).below ((Below.refl _ _).alloc (Nat.le_refl _) _) (by simp))).below ((Below.refl _ _).alloc (Nat.le_refl _) _) (by simp;omega)
 have aM:CBlk (((w.alloc (.cells #[.bool b,.slice A1 n1 c1] 84)).alloc (.cells #[.bool (!b),.slice A2 n2 c2] 84)).alloc (.cells #[.bool false,.slice none 0 0] 84)) (w.heap.size+1) #[.bool (!b),.slice A2 n2 c2] 84:=
  (CBlk.new (w.alloc (.cells #[.bool b,.slice A1 n1 c1] 84)) #[.bool (!b),.slice A2 n2 c2] 84 (w.heap.size+1) (by simp)).below ((Below.refl _ _).alloc (Nat.le_refl _) _) (by simp)
 have aI:CBlk (((w.alloc (.cells #[.bool b,.slice A1 n1 c1] 84)).alloc (.cells #[.bool (!b),.slice A2 n2 c2] 84)).alloc (.cells #[.bool false,.slice none 0 0] 84)) (w.heap.size+1+1) #[.bool false,.slice none 0 0] 84:=CBlk.new ((w.alloc (.cells #[.bool b,.slice A1 n1 c1] 84)).alloc (.cells #[.bool (!b),.slice A2 n2 c2] 84)) _ _ (w.heap.size+1+1) (by simp);generalize (((w.alloc (.cells #[.bool b,.slice A1 n1 c1] 84)).alloc (.cells #[.bool (!b),.slice A2 n2 c2] 84)).alloc (.cells #[.bool false,.slice none 0 0] 84))=w3 at *;have a0:w3.cell? ⟨w.heap.size,0,none⟩=some (.bool b):=aL.cell 0;have a1:w3.cell? ⟨w.heap.size,1,none⟩=some (.slice A1 n1 c1):=aL.cell 1;have q0:w3.cell? ⟨w.heap.size+1,0,none⟩=some (.bool (!b)):=aM.cell 0;have q1:w3.cell? ⟨w.heap.size+1,1,none⟩=some (.slice A2 n2 c2):=aM.cell 1;have al:=aL.lt;have bl:=aM.lt;have cl:=aI.lt;have aC:Below w.heap.size w w3.drew:=aF.drew;have aG:CBlk w3.drew (w.heap.size+1+1) #[.bool false,.slice none 0 0] 84:=aI;have hc:=zb3 A1 A2 n1 c1 n2 c2 x1 x2 w3 (h1.later aF).rd (h2.later aF).rd (by omega) (by omega);rw [HR.out] at hc;have HC:=Lib.hid hc;clear hc aC aG
 go_wp2_with fail
 refine HC.out.mono ?_;rintro e wc ⟨rfl,aE⟩
 replace a0:=(aE.cell (p:=⟨w.heap.size,0,none⟩) al).trans a0
 replace a1:=(aE.cell (p:=⟨w.heap.size,1,none⟩) al).trans a1
 replace q0:=(aE.cell (p:=⟨w.heap.size+1,0,none⟩) bl).trans q0
 replace q1:=(aE.cell (p:=⟨w.heap.size+1,1,none⟩) bl).trans q1
 replace aI:=aI.below aE cl
 replace aF:=aF.trans (aE.mono aF.size)
 replace al:=Nat.lt_of_lt_of_le al aE.size
 replace bl:=Nat.lt_of_lt_of_le bl aE.size
 replace cl:=Nat.lt_of_lt_of_le cl aE.size
 clear aL aM aE HC;have aC:Below w.heap.size w wc.drew:=aF.drew;have aG:CBlk wc.drew (w.heap.size+1+1) #[.bool false,.slice none 0 0] 84:=aI;have aR:=Lib.hid (zdL A1 A2 n1 c1 n2 c2 x1 x2 wc.drew (h1.later aC) (h2.later aC) aQ.out (by omega) (by omega));go_upto_region 4 with (fail)
 have aT:Hid (∀ m,(digs (x1 - x2)).length=m→m≤524288):=fun m h=>by
  have h9:=zaa (Nat.sub_le x1 x2);have h8:=h1.len;omega
 go_region_held3 (fun w'=>w'.cell? ⟨w.heap.size,0,none⟩=some (.bool b)∧w'.cell? ⟨w.heap.size,1,none⟩=some (.slice A1 n1 c1)∧w'.cell? ⟨w.heap.size+1,0,none⟩=some (.bool (!b))∧w'.cell? ⟨w.heap.size+1,1,none⟩=some (.slice A2 n2 c2))
  (first | exact ⟨a0,a1,q0,q1⟩ | exact ⟨((aA.cell (p:=⟨w.heap.size,0,none⟩) (al)).trans a0),((aA.cell (p:=⟨w.heap.size,1,none⟩) (al)).trans a1),((aA.cell (p:=⟨w.heap.size+1,0,none⟩) (bl)).trans q0),((aA.cell (p:=⟨w.heap.size+1,1,none⟩) (bl)).trans q1)⟩ | exact ⟨((aD.cell (p:=⟨w.heap.size,0,none⟩) (aK)).trans ((aA.cell (p:=⟨w.heap.size,0,none⟩) (al)).trans a0)),((aD.cell (p:=⟨w.heap.size,1,none⟩) (aK)).trans ((aA.cell (p:=⟨w.heap.size,1,none⟩) (al)).trans a1)),((aD.cell (p:=⟨w.heap.size+1,0,none⟩) (aJ)).trans ((aA.cell (p:=⟨w.heap.size+1,0,none⟩) (bl)).trans q0)),((aD.cell (p:=⟨w.heap.size+1,1,none⟩) (aJ)).trans ((aA.cell (p:=⟨w.heap.size+1,1,none⟩) (bl)).trans q1))⟩ | exact ⟨((zdI _ _ _ (by dsimp only;omega)).trans ((aD.cell (p:=⟨w.heap.size,0,none⟩) (aK)).trans ((aA.cell (p:=⟨w.heap.size,0,none⟩) (al)).trans a0))),((zdI _ _ _ (by dsimp only;omega)).trans ((aD.cell (p:=⟨w.heap.size,1,none⟩) (aK)).trans ((aA.cell (p:=⟨w.heap.size,1,none⟩) (al)).trans a1))),((zdI _ _ _ (by dsimp only;omega)).trans ((aD.cell (p:=⟨w.heap.size+1,0,none⟩) (aJ)).trans ((aA.cell (p:=⟨w.heap.size+1,0,none⟩) (bl)).trans q0))),((zdI _ _ _ (by dsimp only;omega)).trans ((aD.cell (p:=⟨w.heap.size+1,1,none⟩) (aJ)).trans ((aA.cell (p:=⟨w.heap.size+1,1,none⟩) (bl)).trans q1)))⟩)
  (first
   |(go_at_call 140;refine (aR.out).mono ?_;rintro e w4 ⟨A5,m5,c5,rfl,aO,aA⟩;have aV:=aT.out m5 aO.len;have aK:=Nat.lt_of_lt_of_le al aA.size;have aJ:=Nat.lt_of_lt_of_le bl aA.size)
   |(go_at_call 137;refine (za4 _ A5 m5 c5 _ w4 aO (by omega)).mono ?_;rintro e w6 ⟨A6,m6,c6,rfl,aN,aD⟩;have aH:=(aG.below aA cl).below aD (Nat.lt_of_lt_of_le cl aA.size);have e0:=aH.cell 0;have e1:=aH.cell 1;have g0:=aH.frozen 0;have g1:=aH.frozen 1))
 go_wp2_with fail
 have k0:w6.cell? ⟨w.heap.size+1+1,0,none⟩=some (.bool false):=e0;have aS:w6.cell? ⟨w.heap.size+1+1,1,none⟩=some (.slice none 0 0):=e1;have hB:=aC.trans ((aA.trans (aD.mono aA.size)).mono aC.size);refine bodyPost_ret (v := .agg #[.bool (decide (sgn b (val (digs (x1 - x2)))<0)),.slice A6 m6 c6]) (by simp [results,Tryz.results75,go_sem,k0,aS]) rfl ?_;rw [zak] at aN ⊢;exact ⟨A6,m6,c6,rfl,aN.box aH _ _,zbP hB (by omega) _ _⟩
set_option maxHeartbeats 4000000 in
set_option maxRecDepth 100000 in
theorem zmx (b:Bool) (x1 x2:Nat) (A1 A2:Option Addr) (n1 c1 n2 c2:Nat) (w:World) (h1:DigI w A1 n1 c1 (digs x1)) (h2:DigI w A2 n2 c2 (digs x2)) (k1:n1≤524288) (k2:n2≤524288) (hx:x1<x2) :
  Calls Tryz.prog 75 #[.agg #[.bool b,.slice A1 n1 c1],.agg #[.bool (!b),.slice A2 n2 c2]] w (RetZ w (sgn b x1+sgn (!b) x2)):=by
 rw [zpb b x1 x2 (Nat.le_of_lt hx)];have aU:(b == !b)=false:=by cases b<;>rfl
 obtain ⟨r,aT,hr⟩:∃ r:Int,r<0∧Bn.ncmp x1 x2=r:=⟨Bn.ncmp x1 x2,by rw [Bn.ncmp_lt hx];decide,rfl⟩;have d0:decide (0≤r)=false:=by simp;omega
 have HR:=Lib.hid hr;have aP:=Lib.hid hx;clear hr hx aT;go_enter Tryz.func75,Tryz.ntmps75
 go_wp2_with fail
 have aF:Below w.heap.size w (((w.alloc (.cells #[.bool b,.slice A1 n1 c1] 84)).alloc (.cells #[.bool (!b),.slice A2 n2 c2] 84)).alloc (.cells #[.bool false,.slice none 0 0] 84)):=
  (((Below.refl _ _).alloc (Nat.le_refl _) _).alloc (by simp) _).alloc (by simp;omega) _
 have aL:CBlk (((w.alloc (.cells #[.bool b,.slice A1 n1 c1] 84)).alloc (.cells #[.bool (!b),.slice A2 n2 c2] 84)).alloc (.cells #[.bool false,.slice none 0 0] 84)) w.heap.size #[.bool b,.slice A1 n1 c1] 84:=
  (((CBlk.new w _ _ _ rfl).below ((Below.refl _ _).alloc (Nat.le_refl _) _) (by simp))).below ((Below.refl _ _).alloc (Nat.le_refl _) _) (by simp;omega)
 have aM:CBlk (((w.alloc (.cells #[.bool b,.slice A1 n1 c1] 84)).alloc (.cells #[.bool (!b),.slice A2 n2 c2] 84)).alloc (.cells #[.bool false,.slice none 0 0] 84)) (w.heap.size+1) #[.bool (!b),.slice A2 n2 c2] 84:=
  (CBlk.new (w.alloc (.cells #[.bool b,.slice A1 n1 c1] 84)) #[.bool (!b),.slice A2 n2 c2] 84 (w.heap.size+1) (by simp)).below ((Below.refl _ _).alloc (Nat.le_refl _) _) (by simp)
 have aI:CBlk (((w.alloc (.cells #[.bool b,.slice A1 n1 c1] 84)).alloc (.cells #[.bool (!b),.slice A2 n2 c2] 84)).alloc (.cells #[.bool false,.slice none 0 0] 84)) (w.heap.size+1+1) #[.bool false,.slice none 0 0] 84:=CBlk.new ((w.alloc (.cells #[.bool b,.slice A1 n1 c1] 84)).alloc (.cells #[.bool (!b),.slice A2 n2 c2] 84)) _ _ (w.heap.size+1+1) (by simp);generalize (((w.alloc (.cells #[.bool b,.slice A1 n1 c1] 84)).alloc (.cells #[.bool (!b),.slice A2 n2 c2] 84)).alloc (.cells #[.bool false,.slice none 0 0] 84))=w3 at *;have a0:w3.cell? ⟨w.heap.size,0,none⟩=some (.bool b):=aL.cell 0;have a1:w3.cell? ⟨w.heap.size,1,none⟩=some (.slice A1 n1 c1):=aL.cell 1;have q0:w3.cell? ⟨w.heap.size+1,0,none⟩=some (.bool (!b)):=aM.cell 0;have q1:w3.cell? ⟨w.heap.size+1,1,none⟩=some (.slice A2 n2 c2):=aM.cell 1;have al:=aL.lt;have bl:=aM.lt;have cl:=aI.lt;have aC:Below w.heap.size w w3.drew:=aF.drew;have aG:CBlk w3.drew (w.heap.size+1+1) #[.bool false,.slice none 0 0] 84:=aI;have hc:=zb3 A1 A2 n1 c1 n2 c2 x1 x2 w3 (h1.later aF).rd (h2.later aF).rd (by omega) (by omega);rw [HR.out] at hc;have HC:=Lib.hid hc;clear hc aC aG
 go_wp2_with fail
 refine HC.out.mono ?_;rintro e wc ⟨rfl,aE⟩
 replace a0:=(aE.cell (p:=⟨w.heap.size,0,none⟩) al).trans a0
 replace a1:=(aE.cell (p:=⟨w.heap.size,1,none⟩) al).trans a1
 replace q0:=(aE.cell (p:=⟨w.heap.size+1,0,none⟩) bl).trans q0
 replace q1:=(aE.cell (p:=⟨w.heap.size+1,1,none⟩) bl).trans q1
 replace aI:=aI.below aE cl
 replace aF:=aF.trans (aE.mono aF.size)
 replace al:=Nat.lt_of_lt_of_le al aE.size
 replace bl:=Nat.lt_of_lt_of_le bl aE.size
 replace cl:=Nat.lt_of_lt_of_le cl aE.size
 clear aL aM aE HC;have aC:Below w.heap.size w wc.drew:=aF.drew;have aG:CBlk wc.drew (w.heap.size+1+1) #[.bool false,.slice none 0 0] 84:=aI;have aQ:=Lib.hid (zdL A2 A1 n2 c2 n1 c1 x2 x1 wc.drew (h2.later aC) (h1.later aC) (Nat.le_of_lt aP.out) (by omega) (by omega));go_upto_region 5 with (fail)
 have aS:Hid (∀ m,(digs (x2 - x1)).length=m→m≤524288):=fun m h=>by
  have h9:=zaa (Nat.sub_le x2 x1);have h8:=h2.len;omega
 go_region_held3 (fun w'=>w'.cell? ⟨w.heap.size,0,none⟩=some (.bool b)∧w'.cell? ⟨w.heap.size,1,none⟩=some (.slice A1 n1 c1)∧w'.cell? ⟨w.heap.size+1,0,none⟩=some (.bool (!b))∧w'.cell? ⟨w.heap.size+1,1,none⟩=some (.slice A2 n2 c2))
  (first | exact ⟨a0,a1,q0,q1⟩ | exact ⟨((aA.cell (p:=⟨w.heap.size,0,none⟩) (al)).trans a0),((aA.cell (p:=⟨w.heap.size,1,none⟩) (al)).trans a1),((aA.cell (p:=⟨w.heap.size+1,0,none⟩) (bl)).trans q0),((aA.cell (p:=⟨w.heap.size+1,1,none⟩) (bl)).trans q1)⟩ | exact ⟨((aD.cell (p:=⟨w.heap.size,0,none⟩) (aK)).trans ((aA.cell (p:=⟨w.heap.size,0,none⟩) (al)).trans a0)),((aD.cell (p:=⟨w.heap.size,1,none⟩) (aK)).trans ((aA.cell (p:=⟨w.heap.size,1,none⟩) (al)).trans a1)),((aD.cell (p:=⟨w.heap.size+1,0,none⟩) (aJ)).trans ((aA.cell (p:=⟨w.heap.size+1,0,none⟩) (bl)).trans q0)),((aD.cell (p:=⟨w.heap.size+1,1,none⟩) (aJ)).trans ((aA.cell (p:=⟨w.heap.size+1,1,none⟩) (bl)).trans q1))⟩ | exact ⟨((zdI _ _ _ (by dsimp only;omega)).trans ((aD.cell (p:=⟨w.heap.size,0,none⟩) (aK)).trans ((aA.cell (p:=⟨w.heap.size,0,none⟩) (al)).trans a0))),((zdI _ _ _ (by dsimp only;omega)).trans ((aD.cell (p:=⟨w.heap.size,1,none⟩) (aK)).trans ((aA.cell (p:=⟨w.heap.size,1,none⟩) (al)).trans a1))),((zdI _ _ _ (by dsimp only;omega)).trans ((aD.cell (p:=⟨w.heap.size+1,0,none⟩) (aJ)).trans ((aA.cell (p:=⟨w.heap.size+1,0,none⟩) (bl)).trans q0))),((zdI _ _ _ (by dsimp only;omega)).trans ((aD.cell (p:=⟨w.heap.size+1,1,none⟩) (aJ)).trans ((aA.cell (p:=⟨w.heap.size+1,1,none⟩) (bl)).trans q1)))⟩)
  (first
   |(go_at_call 140;refine (aQ.out).mono ?_;rintro e w4 ⟨A5,m5,c5,rfl,aO,aA⟩;have aV:=aS.out m5 aO.len;have aK:=Nat.lt_of_lt_of_le al aA.size;have aJ:=Nat.lt_of_lt_of_le bl aA.size)
   |(go_at_call 137;refine (za4 _ A5 m5 c5 _ w4 aO (by omega)).mono ?_;rintro e w6 ⟨A6,m6,c6,rfl,aN,aD⟩;have aH:=(aG.below aA cl).below aD (Nat.lt_of_lt_of_le cl aA.size);have e0:=aH.cell 0;have e1:=aH.cell 1;have g0:=aH.frozen 0;have g1:=aH.frozen 1))
 go_wp2_with fail
 have k0:w6.cell? ⟨w.heap.size+1+1,0,none⟩=some (.bool false):=e0;have aR:w6.cell? ⟨w.heap.size+1+1,1,none⟩=some (.slice none 0 0):=e1;have hB:=aC.trans ((aA.trans (aD.mono aA.size)).mono aC.size);refine bodyPost_ret (v := .agg #[.bool (decide (sgn (!b) (val (digs (x2 - x1)))<0)),.slice A6 m6 c6]) (by simp [results,Tryz.results75,go_sem,k0,aR]) rfl ?_;rw [zak] at aN ⊢;exact ⟨A6,m6,c6,rfl,aN.box aH _ _,zbP hB (by omega) _ _⟩
theorem zls (b1 b2:Bool) (x1 x2:Nat) (A1 A2:Option Addr) (n1 c1 n2 c2:Nat) (w:World) (h1:DigI w A1 n1 c1 (digs x1)) (h2:DigI w A2 n2 c2 (digs x2)) (k1:n1≤524288) (k2:n2≤524288) :
  Calls Tryz.prog 75 #[.agg #[.bool b1,.slice A1 n1 c1],.agg #[.bool b2,.slice A2 n2 c2]] w (RetZ w (sgn b1 x1+sgn b2 x2)):=by
 by_cases hb:b2=b1
 ·subst hb
  exact zjk b2 x1 x2 A1 A2 n1 c1 n2 c2 w h1 h2 k1 k2
 ·have e:b2 = !b1:=by cases b1<;>cases b2<;>simp at hb ⊢
  subst e
  rcases Nat.lt_or_ge x1 x2 with h | h
  ·exact zmx b1 x1 x2 A1 A2 n1 c1 n2 c2 w h1 h2 k1 k2 h
  ·exact zm8 b1 x1 x2 A1 A2 n1 c1 n2 c2 w h1 h2 k1 k2 h
set_option maxHeartbeats 2000000 in
set_option maxRecDepth 100000 in
theorem zdc (A A':Option Addr) (n c n' c' x y:Nat) (w:World) (ha:DigI w A n c (digs x)) (hb:DigI w A' n' c' (digs y)) (hn:n≤1048576) (hn':n'≤1048576) :
  Calls Tryz.prog 62 #[.slice A n c,.slice A' n' c'] w (zmn w (Nat.gcd x y)):=by
 go_enter Tryz.func62,Tryz.ntmps62
 go_wp2
 go_loopg [0,1] y (fun q av bv W=>∃ (A:Option Addr) (n c:Nat) (A':Option Addr) (n' c' u v:Nat),av = .slice A n c∧bv = .slice A' n' c'∧DigI W A n c (digs u)∧DigI W A' n' c' (digs v)∧n≤1048576∧n'≤1048576∧Hid (Nat.gcd u v=Nat.gcd x y)∧v≤q∧Below w.heap.size w W)
 case atStart=>exact ⟨A,n,c,A',n',c',x,y,rfl,rfl,ha,hb,hn,hn',rfl,Nat.le_refl _,Below.refl _ _⟩
 case round=>
  obtain ⟨A,n,c,A',n',c',u,v,rfl,rfl,h1,h2,hn,hn',hg,hq,aA⟩:=hrel;have aC:=h2.len
  by_cases hv:v=0
  ·obtain rfl:n'=0:=by rw [←aC,hv,digs_zero];rfl
   have aG:Nat.gcd x y=u:=by rw [←hg.out,hv,Nat.gcd_zero_right]
   have HR:Hid (zmn w (Nat.gcd x y) (.returned (.slice A n c)) wr):=⟨A,n,c,rfl,by rw [aG];exact h1,aA⟩;clear hv aG aC;go_wp2
   go_ret;exact HR.out
  ·have aD:0<v:=by omega
   have aI:0<n':=by rw [←aC];exact zas aD
   have aE:=Nat.mod_lt u aD;have HO:=Lib.hid (zbD A A' n c n' c' u v wr h1 h2 aD hn hn');have HG:Hid (Nat.gcd v (u % v)=Nat.gcd x y):=by
    show Nat.gcd v (u % v)=Nat.gcd x y
    rw [←hg.out,Nat.gcd_comm v (u % v),←Nat.gcd_rec,Nat.gcd_comm]
   have aK:=Lib.hid aC;have d1:decide (0<n')=true:=by simpa using aI
   clear hv aC
   go_wp2_with fail
   refine HO.out.mono ?_;rintro e w2 ⟨A3,n3,c3,A4,n4,c4,rfl,aM,aH,aF⟩;have aL:n4≤n':=by rw [←aH.len,←aK.out];exact zaa (Nat.le_of_lt aE)
   have aJ:=h2.later aF;generalize u % v=r at *;go_wp2
   go_roundg r
   case measure=>omega
   case rel=>exact ⟨A',n',c',A4,n4,c4,v,r,rfl,rfl,aJ,aH,hn',by omega,HG.out,Nat.le_refl _,aA.trans (aF.mono aA.size)⟩
theorem zj8 {ls:List Nat} {k q n:Nat} (hk:ls.length=k) (h:val ls+B ^ k*q=n):val (ls++[q % B])+B ^ (k+1)*(q / B)=n:=by
 rw [zaL,zaT,hk,Nat.pow_succ,Nat.mul_assoc,Nat.add_assoc,←Nat.mul_add,Nat.mod_add_div];exact h
set_option maxHeartbeats 2000000 in
set_option maxRecDepth 100000 in
theorem zju (n:Nat) (w:World) (hn:n≤9223372036854775807) :
  Calls Tryz.prog 82 #[.int .i64 (n:Int)] w (RetZ w (n:Int)):=by
 obtain ⟨i0,aU,bC,bA,aW⟩:=info_parts zb9;have aN:Below w.heap.size w (w.alloc (.cells #[.bool false,.slice none 0 0] 84)):=(Below.refl _ _).alloc (Nat.le_refl _) _;have hk:=CBlk.new w #[.bool false,.slice none 0 0] 84 _ rfl;have dn:decide ((n:Int)<0)=false:=by simp
 go_enter Tryz.func82,Tryz.ntmps82
 go_wp2
 generalize (w.alloc (.cells #[.bool false,.slice none 0 0] 84))=w0 at *
 go_loopg [0,3] n (fun g v0 v3 W=>∃ (q k:Nat) (ls:List Nat),v0 = .int .i64 (q:Int)∧q≤g∧q≤9223372036854775807∧k≤100∧q≤9223372036854775807 / 2 ^ k∧W.ownsRow w0.heap.size 3 1 v3 k (ls.map natv)∧Hid (Wf ls∧ls.length=k∧val ls+B ^ k*q=n)∧Below w0.heap.size w0 W)
 case atStart=>exact ⟨n,0,[],rfl,Nat.le_refl _,hn,by omega,by simpa using hn,World.ownsRow_nil _ _ _ _,⟨Wf.nil,rfl,by simp⟩,Below.refl _ _⟩
 case round=>
  obtain ⟨q,k,ls,rfl,hq,bF,bH,aK,aA,hv,aD⟩:=hrel;have aT:=aD.size;obtain ⟨hw,hl,aC⟩:=hv.out
  by_cases h0:q=0
  ·subst h0
   rw [Nat.mul_zero,Nat.add_zero] at aC;obtain ⟨A9,c9,rfl,bB,aR,aP⟩:=zcv aA;have hs:=za4 false A9 k c9 ls wr ⟨aP,bB,aR,hw⟩ (by omega);rw [show sgn false (val ls)=(n:Int) from by rw [aC];rfl] at hs;have HS:=Lib.hid hs;have aQ:=hk.below aD hk.lt;have bG:=hk.lt;clear hs aC hl hw aA aP hv aK
   go_wp2_with fail
   refine HS.out.mono ?_;rintro e w6 ⟨A6,m6,c6,rfl,aS,aL⟩;have aF:=aQ.below aL aQ.lt;have e0:w6.cell? ⟨w.heap.size,0,none⟩=some (.bool false):=aF.cell 0;have e1:w6.cell? ⟨w.heap.size,1,none⟩=some (.slice none 0 0):=aF.cell 1;have f0:w6.frozen? ⟨w.heap.size,0,none⟩=false:=aF.frozen 0;have f1:w6.frozen? ⟨w.heap.size,1,none⟩=false:=aF.frozen 1;have hB:=aN.trans ((aD.trans (aL.mono aD.size)).mono aN.size);clear aL
   go_wp2_with fail
   refine bodyPost_ret (v := .agg #[.bool (decide ((n:Int)<0)),.slice A6 m6 c6]) (by simp [results,Tryz.results82,go_sem,e0,e1]) rfl ?_;exact ⟨A6,m6,c6,rfl,aS.box aF _ _,zbP hB (by omega) _ _⟩
  ·obtain ⟨d,hd⟩:∃ d,d=q % B:=⟨_,rfl⟩
   obtain ⟨q',aI⟩:∃ q',q'=q / B:=⟨_,rfl⟩;have aO:d<B:=by rw [hd];exact Nat.mod_lt _ zaN
   have bD:d<1000000000:=aO;have aM:q'≤q / 2:=by rw [aI];unfold B;omega
   have ed:(q:Int) % 1000000000=(d:Int):=by rw [hd];unfold B;omega
   have eq:(q:Int) / 1000000000=(q':Int):=by rw [aI];unfold B;omega
   have aJ:=zj8 hl aC;rw [←hd,←aI] at aJ;have HI:Hid (Wf (ls++[d])∧(ls++[d]).length=k+1∧val (ls++[d])+B ^ (k+1)*q'=n):=⟨hw.append (Wf.cons aO Wf.nil),by simp [hl],aJ⟩;have aG:q'≤9223372036854775807 / 2 ^ (k+1):=by
    rw [Nat.pow_succ,←Nat.div_div_eq_div_mul];exact Nat.le_trans aM (Nat.div_le_div_right aK)
   have aX:k<63:=by
    rcases Nat.lt_or_ge k 63 with h9 | h9
    ·exact h9
    ·exfalso
     have:9223372036854775807 / 2 ^ k≤9223372036854775807 / 2 ^ 63:=Nat.div_le_div_left (Nat.pow_le_pow_right (by omega) h9) (Nat.two_pow_pos _);have bE:9223372036854775807 / 2 ^ 63=0:=by decide
     omega
   have aZ:=Lib.hid aG;have d1:((q:Int) != 0)=true:=by rw [bne_iff_ne];omega
   have d2:((q:Int)==0)=false:=by rw [beq_eq_false_iff_ne];omega
   have d3:decide ((d:Int)<0)=false:=by simp
   have aY:q'<q:=by omega
   clear hd aI aJ aG aK aC hl hw hv aM
   go_wp2_with (at_builtin;refine wpList_append_own _ rfl _ _ 45 rfl w0.heap.size 3 i0 (.int .i64 0) 1 8 Tryz.underlying45 aU bC bA aW rfl (by decide) _ _ _ rfl (aA.alloc _) ⟨wr.heap.size,0,none⟩ 1 1 [.int .i64 (d:Int)] rfl rfl ?c1 ?c2 ?c3 ?c4 ?c5 ?_)
   case c1=>exact cell_one_new _ _ _
   case c2=>intro u hu;simp at hu;subst hu;rfl
   case c3=>unfold maxLen;omega
   case c4=>omega
   case c5=>simp;omega
   intro v' w2 aH aE _;have aV:Below w0.heap.size w0 w2:=(aD.alloc aT _).grown aE (by simp;omega) (fun g hg=>(World.ownsRow.lt aA g hg).1);clear aE aA;go_wp2
   go_roundg q'
   case measure=>omega
   case rel=>exact ⟨q',k+1,ls++[d],rfl,Nat.le_refl _,by omega,by omega,aZ.out,by rw [List.map_append];exact aH,HI.out,aV⟩
set_option maxHeartbeats 4000000 in
set_option maxRecDepth 100000 in
theorem zd9 (b:Bool) (x:Nat) (A:Option Addr) (n c:Nat) (w:World) (h:DigI w A n c (digs x)) (hb:b=true→0<x) (hn:n≤524288) :
  Calls Tryz.prog 86 #[.agg #[.bool b,.slice A n c]] w fun e w'=>(∃ s:ByteArray,e = .returned (.string s)∧s.data.toList=sgnT b (Lib.decDigits x))∧Below w.heap.size w w':=by
 have aI:Below w.heap.size w (w.alloc (.cells #[.bool b,.slice A n c] 84)):=(Below.refl _ _).alloc (Nat.le_refl _) _;have hk:=CBlk.new w #[.bool b,.slice A n c] 84 _ rfl;have h1:=h.later aI;have aC:=h.len;go_enter Tryz.func86,Tryz.ntmps86
 go_upto_region 1 with (fail)
 generalize (w.alloc (.cells #[.bool b,.slice A n c] 84))=w1 at *;have a0:w1.cell? ⟨w.heap.size,0,none⟩=some (.bool b):=hk.cell 0;have a1:w1.cell? ⟨w.heap.size,1,none⟩=some (.slice A n c):=hk.cell 1
 by_cases hx:x=0
 ·obtain rfl:n=0:=by rw [←aC,hx,digs_zero];rfl
  obtain rfl:b=false:=by
   cases b
   ·rfl
   ·exact absurd (hb rfl) (by omega)
  have hd:Hid ((⟨#[48]⟩:ByteArray).data.toList=sgnT false (Lib.decDigits x)):=by
   show [48]=sgnT false (Lib.decDigits x)
   rw [hx,Dec.dec_lt (by omega)];rfl
  clear hx hb aC;go_wp2
  go_ret;exact ⟨⟨_,rfl,hd.out⟩,aI⟩
 ·have aV:0<x:=by omega
  have bD:0<n:=by have:=zas aV;omega
  have aP:x<B ^ n:=by have:=zac x;rwa [aC] at this
  have aO:=zaD aV;rw [aC] at aO;have aF:∀ j,j≤n - 1→0<x / B ^ j:=fun j hj=>Nat.div_pos (Nat.le_trans (Nat.pow_le_pow_right zaN hj) aO) (Nat.pow_pos zaN)
  have aD:x / B ^ (n - 1)<B:=Nat.div_lt_of_lt_mul (by rw [←Nat.pow_succ,show (n - 1).succ=n from by omega];exact aP);obtain ⟨n1,bE⟩:∃ n1,n=n1+1:=⟨n - 1,by omega⟩;subst bE;rw [Nat.add_sub_cancel] at aF aD;obtain ⟨ad,bB,rfl,bK,aA⟩:=h1.rd.cellM (k:=n1) (by omega);have aT:(digs x)[n1]=x / B ^ n1:=by
   have h9:=zcm n1 x;rw [Dn.getD_in bB,Nat.mod_eq_of_lt aD] at h9;exact h9
  unfold natv at aA;obtain ⟨tw,aJ⟩:∃ tw,tw=x / B ^ n1:=⟨_,rfl⟩;rw [aT,←aJ] at aA;rw [←aJ] at aD;have aS:tw<1000000000:=aD;have bH:=Lib.hid (ziG bD aP);have aM:=Lib.hid aF;have bC:=Lib.hid aJ;have e1:((n1+1:Nat):Int) - 1=(n1:Int):=by omega
  have e2:((n1+1:Nat):Int) - 2=(n1:Int) - 1:=by omega
  generalize hN:n1+1=N at *;have HN:=Lib.hid hN;have bL:n1<N:=by omega
  have d0:((N:Int)==0)=false:=by rw [beq_eq_false_iff_ne];omega
  have aR:=Lib.hid (zcy tw 1 w1 (by omega) (by omega));rw [zgK] at aR;clear aF aT aJ hx hb aP aO aC hN
  go_wp2_with fail
  refine aR.out.mono ?_;rintro e w2 ⟨⟨s0,rfl,aU⟩,aK⟩;obtain rfl:w1=w2:=aK;have aX:=Lib.hid aU;clear aU aR e1 aA;go_wp2
  go_loopg [3,4] n1 (fun g v3 v4 W=>∃ (j:Nat) (s:ByteArray),j≤n1∧v4 = .int .i64 ((j:Int) - 1)∧v3 = .string s∧j≤g∧Hid (s.data.toList=Lib.decDigits (x / B ^ j))∧w1=W)
  case atStart=>exact ⟨n1,s0,Nat.le_refl _,by first | rfl | go_num,rfl,Nat.le_refl _,by rw [←bC.out];exact aX.out,rfl⟩
  case round=>
   obtain ⟨j,s,hj,rfl,rfl,bI,hs,hW⟩:=hrel;obtain rfl:w1=wr:=hW;have bA:s.size≤9*N:=by
    have h9:=bH.out j;rw [←hs.out] at h9
    simpa using h9
   by_cases h0:0<j
   ·obtain ⟨q,rfl⟩:∃ q,j=q+1:=⟨j - 1,by omega⟩
    have e3:((q+1:Nat):Int) - 1=(q:Int):=by omega
    rw [e3];obtain ⟨bJ,aG,ea,_,aA⟩:=h1.rd.cellM (k:=q) (by omega);injection ea with ea
    subst ea;have aW:=zaq x _ (List.getElem_mem aG);have aL:=zlo x q (aM.out (q+1) hj);rw [←zcm,Dn.getD_in aG] at aL;unfold natv at aA;generalize (digs x)[q]=v at *;have bG:v<1000000000:=aW;have aN:=zcy v 9 w1 (by omega) (by omega);rw [zkN aW] at aN;have aY:=Lib.hid aN;have aZ:=Lib.hid aL;clear aL aN e3
    go_wp2_with fail
    refine aY.out.mono ?_;rintro e w2 ⟨⟨s9,rfl,aH⟩,aK⟩;obtain rfl:w1=w2:=aK;have bM:=Lib.hid aH;have HI:Hid ((s++s9).data.toList=Lib.decDigits (x / B ^ q)):=by
     show (s++s9).data.toList=_
     rw [ByteArray.data_append,Array.toList_append,hs.out,aH,aZ.out]
    have aQ:s9.size=9:=by
     have h9:s9.data.toList.length=s9.size:=Array.length_toList;rw [aH,Dec.pad_length] at h9;exact h9.symm
    have bF:s9.size≤9:=by omega
    clear aH aQ;go_wp2
    go_roundg q
    case measure=>omega
    case rel=>exact ⟨q,s++s9,by omega,rfl,rfl,Nat.le_refl _,HI.out,rfl⟩
   ·obtain rfl:j=0:=by omega
    have aE:s.data.toList=Lib.decDigits x:=by have:=hs.out;simpa using this
    cases b
    ·have HR:Hid (s.data.toList=sgnT false (Lib.decDigits x)):=aE
     clear aE hs;go_wp2
     go_ret;exact ⟨⟨s,rfl,HR.out⟩,aI⟩
    ·have HR:Hid (((⟨#[45]⟩:ByteArray)++s).data.toList=sgnT true (Lib.decDigits x)):=by
      show ((⟨#[45]⟩:ByteArray)++s).data.toList=_
      rw [ByteArray.data_append,Array.toList_append,aE];rfl
     clear aE hs;go_wp2
     go_ret;exact ⟨⟨_,rfl,HR.out⟩,aI⟩
end Go.Proofs.YteajibbphcfmeaaGreatDoor
