/- Contracts of the reference's integers: minus, times, plus. -/
import Derived.Test.YtmkondcdejlhcaaGreatDoorBFloat
import Derived.Test.YtmkondcdejlhcaaGreatDoorBRb8
import Derived.Deep.RegionHeld3
set_option maxRecDepth 100000
set_option maxHeartbeats 4000000
namespace Go.Proofs.YtmkondcdejlhcaaGreatDoor
open Go.RowKit Dn
theorem zeE {g:Nat} (w:World) (u v:Value) {q:Addr} (h:g≠q.block):((w.setCell ⟨g,0,none⟩ u).setCell ⟨g,1,none⟩ v).cell? q=w.cell? q:=by
 rw [World.cell?_setCell_far _ _ _ _ (by exact h),World.cell?_setCell_far _ _ _ _ (by exact h)]
theorem ziC (b1 b2:Bool) (x y:Nat):sgn (!b1==b2) (x*y)=sgn b1 x*sgn b2 y:=by
 unfold sgn
 cases b1<;>cases b2<;>simp [Int.natCast_mul,Int.neg_mul,Int.mul_neg]
theorem zft {w:World} {A:Option Addr} {n c x y m k:Nat} (h:DigI w A n c (digs (x*y))) (hx:(digs x).length=m) (hy:(digs y).length=k):n≤m+k:=by
 rw [←h.len];refine digs_length_le ?_;rw [Nat.pow_add];have h1:=zae x;have h2:=zae y;rw [hx] at h1;rw [hy] at h2;exact Nat.mul_lt_mul'' h1 h2
theorem zdo (b1 b2:Bool) (x1 x2:Nat) (A1 A2:Option Addr) (n1 c1 n2 c2:Nat) (w:World) (h1:DigI w A1 n1 c1 (digs x1)) (h2:DigI w A2 n2 c2 (digs x2)) (k1:n1≤524288) (k2:n2≤524288) :
  Calls Tryz.prog 75 #[.agg #[.bool b1,.slice A1 n1 c1],.agg #[.bool b2,.slice A2 n2 c2]] w (RetZ w (sgn b1 x1*sgn b2 x2)):=by
 rw [←ziC];go_enter Tryz.func75,Tryz.ntmps75
 go_wp2_with fail
 have aN:Below w.heap.size w (((w.alloc (.cells #[.bool b1,.slice A1 n1 c1] 84)).alloc (.cells #[.bool b2,.slice A2 n2 c2] 84)).alloc (.cells #[.bool false,.slice none 0 0] 84)):=
  (((Below.refl _ _).alloc (Nat.le_refl _) _).alloc (by simp) _).alloc (by simp;omega) _
 have aH:CBlk (((w.alloc (.cells #[.bool b1,.slice A1 n1 c1] 84)).alloc (.cells #[.bool b2,.slice A2 n2 c2] 84)).alloc (.cells #[.bool false,.slice none 0 0] 84)) w.heap.size #[.bool b1,.slice A1 n1 c1] 84:=
  (((CBlk.new w _ _ _ rfl).below ((Below.refl _ _).alloc (Nat.le_refl _) _) (by simp))).below ((Below.refl _ _).alloc (Nat.le_refl _) _) (by simp;omega)
 have aJ:CBlk (((w.alloc (.cells #[.bool b1,.slice A1 n1 c1] 84)).alloc (.cells #[.bool b2,.slice A2 n2 c2] 84)).alloc (.cells #[.bool false,.slice none 0 0] 84)) (w.heap.size+1) #[.bool b2,.slice A2 n2 c2] 84:=
  (CBlk.new (w.alloc (.cells #[.bool b1,.slice A1 n1 c1] 84)) #[.bool b2,.slice A2 n2 c2] 84 (w.heap.size+1) (by simp)).below ((Below.refl _ _).alloc (Nat.le_refl _) _) (by simp)
 have aL:CBlk (((w.alloc (.cells #[.bool b1,.slice A1 n1 c1] 84)).alloc (.cells #[.bool b2,.slice A2 n2 c2] 84)).alloc (.cells #[.bool false,.slice none 0 0] 84)) (w.heap.size+1+1) #[.bool false,.slice none 0 0] 84:=CBlk.new ((w.alloc (.cells #[.bool b1,.slice A1 n1 c1] 84)).alloc (.cells #[.bool b2,.slice A2 n2 c2] 84)) _ _ (w.heap.size+1+1) (by simp);generalize (((w.alloc (.cells #[.bool b1,.slice A1 n1 c1] 84)).alloc (.cells #[.bool b2,.slice A2 n2 c2] 84)).alloc (.cells #[.bool false,.slice none 0 0] 84))=w3 at *;have a0:w3.cell? ⟨w.heap.size,0,none⟩=some (.bool b1):=aH.cell 0;have a1:w3.cell? ⟨w.heap.size,1,none⟩=some (.slice A1 n1 c1):=aH.cell 1;have q0:w3.cell? ⟨w.heap.size+1,0,none⟩=some (.bool b2):=aJ.cell 0;have q1:w3.cell? ⟨w.heap.size+1,1,none⟩=some (.slice A2 n2 c2):=aJ.cell 1;have al:=aH.lt;have bl:=aJ.lt;have cl:=aL.lt;have aD:Below w.heap.size w w3.drew:=aN.drew;have aI:CBlk w3.drew (w.heap.size+1+1) #[.bool false,.slice none 0 0] 84:=aL;have aO:=Aa (zdj A1 A2 n1 c1 n2 c2 x1 x2 w3.drew (h1.later aD) (h2.later aD) (by omega) (by omega));have aQ:=Aa h1.len;have aP:=Aa h2.len
 go_region_held3 (fun w'=>w'.cell? ⟨w.heap.size,0,none⟩=some (.bool b1)∧w'.cell? ⟨w.heap.size,1,none⟩=some (.slice A1 n1 c1)∧w'.cell? ⟨w.heap.size+1,0,none⟩=some (.bool b2)∧w'.cell? ⟨w.heap.size+1,1,none⟩=some (.slice A2 n2 c2))
  (first | exact ⟨a0,a1,q0,q1⟩ | exact ⟨((aA.cell (p:=⟨w.heap.size,0,none⟩) (al)).trans a0),((aA.cell (p:=⟨w.heap.size,1,none⟩) (al)).trans a1),((aA.cell (p:=⟨w.heap.size+1,0,none⟩) (bl)).trans q0),((aA.cell (p:=⟨w.heap.size+1,1,none⟩) (bl)).trans q1)⟩ | exact ⟨((aC.cell (p:=⟨w.heap.size,0,none⟩) (aG)).trans ((aA.cell (p:=⟨w.heap.size,0,none⟩) (al)).trans a0)),((aC.cell (p:=⟨w.heap.size,1,none⟩) (aG)).trans ((aA.cell (p:=⟨w.heap.size,1,none⟩) (al)).trans a1)),((aC.cell (p:=⟨w.heap.size+1,0,none⟩) (aF)).trans ((aA.cell (p:=⟨w.heap.size+1,0,none⟩) (bl)).trans q0)),((aC.cell (p:=⟨w.heap.size+1,1,none⟩) (aF)).trans ((aA.cell (p:=⟨w.heap.size+1,1,none⟩) (bl)).trans q1))⟩ | exact ⟨((zeE _ _ _ (by dsimp only;omega)).trans ((aC.cell (p:=⟨w.heap.size,0,none⟩) (aG)).trans ((aA.cell (p:=⟨w.heap.size,0,none⟩) (al)).trans a0))),((zeE _ _ _ (by dsimp only;omega)).trans ((aC.cell (p:=⟨w.heap.size,1,none⟩) (aG)).trans ((aA.cell (p:=⟨w.heap.size,1,none⟩) (al)).trans a1))),((zeE _ _ _ (by dsimp only;omega)).trans ((aC.cell (p:=⟨w.heap.size+1,0,none⟩) (aF)).trans ((aA.cell (p:=⟨w.heap.size+1,0,none⟩) (bl)).trans q0))),((zeE _ _ _ (by dsimp only;omega)).trans ((aC.cell (p:=⟨w.heap.size+1,1,none⟩) (aF)).trans ((aA.cell (p:=⟨w.heap.size+1,1,none⟩) (bl)).trans q1)))⟩)
  (first
   |(go_at_call 137;refine (aO.out).mono ?_;rintro e w4 ⟨A5,m5,c5,rfl,aK,aA⟩;have aS:=zft aK aQ.out aP.out;have aG:=Nat.lt_of_lt_of_le al aA.size;have aF:=Nat.lt_of_lt_of_le bl aA.size)
   |(go_at_call 133;refine (zbc _ A5 m5 c5 _ w4 aK (by omega)).mono ?_;rintro e w6 ⟨A6,m6,c6,rfl,aM,aC⟩;have aE:=(aI.below aA cl).below aC (Nat.lt_of_lt_of_le cl aA.size);have e0:=aE.cell 0;have e1:=aE.cell 1;have g0:=aE.frozen 0;have g1:=aE.frozen 1))
 go_wp2_with fail
 have k0:w6.cell? ⟨w.heap.size+1+1,0,none⟩=some (.bool false):=e0;have aR:w6.cell? ⟨w.heap.size+1+1,1,none⟩=some (.slice none 0 0):=e1;have hB:=aD.trans ((aA.trans (aC.mono aA.size)).mono aD.size);refine bodyPost_ret (v := .agg #[.bool (decide (sgn (!b1==b2) (val (digs (x1*x2)))<0)),.slice A6 m6 c6]) (by simp [results,Tryz.results75,go_sem,k0,aR]) rfl ?_;rw [zak] at aM ⊢;exact ⟨A6,m6,c6,rfl,aM.box aE _ _,zcf hB (by omega) _ _⟩
theorem zpP (b:Bool) (x y:Nat):sgn b x+sgn b y=sgn b (x+y):=by
 unfold sgn
 cases b<;>simp<;>omega
theorem zrb (b:Bool) (x y:Nat) (h:y≤x):sgn b x+sgn (!b) y=sgn b (x - y):=by
 unfold sgn
 cases b<;>simp<;>omega
theorem zrh (b:Bool) (x y:Nat) (h:x≤y):sgn b x+sgn (!b) y=sgn (!b) (y - x):=by
 unfold sgn
 cases b<;>simp<;>omega
theorem zlG (b:Bool) (x1 x2:Nat) (A1 A2:Option Addr) (n1 c1 n2 c2:Nat) (w:World) (h1:DigI w A1 n1 c1 (digs x1)) (h2:DigI w A2 n2 c2 (digs x2)) (k1:n1≤524288) (k2:n2≤524288) :
  Calls Tryz.prog 74 #[.agg #[.bool b,.slice A1 n1 c1],.agg #[.bool b,.slice A2 n2 c2]] w (RetZ w (sgn b x1+sgn b x2)):=by
 rw [zpP];go_enter Tryz.func74,Tryz.ntmps74
 go_upto_region 2 with (fail)
 have aN:Below w.heap.size w (((w.alloc (.cells #[.bool b,.slice A1 n1 c1] 84)).alloc (.cells #[.bool b,.slice A2 n2 c2] 84)).alloc (.cells #[.bool false,.slice none 0 0] 84)):=
  (((Below.refl _ _).alloc (Nat.le_refl _) _).alloc (by simp) _).alloc (by simp;omega) _
 have aI:CBlk (((w.alloc (.cells #[.bool b,.slice A1 n1 c1] 84)).alloc (.cells #[.bool b,.slice A2 n2 c2] 84)).alloc (.cells #[.bool false,.slice none 0 0] 84)) w.heap.size #[.bool b,.slice A1 n1 c1] 84:=
  (((CBlk.new w _ _ _ rfl).below ((Below.refl _ _).alloc (Nat.le_refl _) _) (by simp))).below ((Below.refl _ _).alloc (Nat.le_refl _) _) (by simp;omega)
 have aK:CBlk (((w.alloc (.cells #[.bool b,.slice A1 n1 c1] 84)).alloc (.cells #[.bool b,.slice A2 n2 c2] 84)).alloc (.cells #[.bool false,.slice none 0 0] 84)) (w.heap.size+1) #[.bool b,.slice A2 n2 c2] 84:=
  (CBlk.new (w.alloc (.cells #[.bool b,.slice A1 n1 c1] 84)) #[.bool b,.slice A2 n2 c2] 84 (w.heap.size+1) (by simp)).below ((Below.refl _ _).alloc (Nat.le_refl _) _) (by simp)
 have aL:CBlk (((w.alloc (.cells #[.bool b,.slice A1 n1 c1] 84)).alloc (.cells #[.bool b,.slice A2 n2 c2] 84)).alloc (.cells #[.bool false,.slice none 0 0] 84)) (w.heap.size+1+1) #[.bool false,.slice none 0 0] 84:=CBlk.new ((w.alloc (.cells #[.bool b,.slice A1 n1 c1] 84)).alloc (.cells #[.bool b,.slice A2 n2 c2] 84)) _ _ (w.heap.size+1+1) (by simp);generalize (((w.alloc (.cells #[.bool b,.slice A1 n1 c1] 84)).alloc (.cells #[.bool b,.slice A2 n2 c2] 84)).alloc (.cells #[.bool false,.slice none 0 0] 84))=w3 at *;have a0:w3.cell? ⟨w.heap.size,0,none⟩=some (.bool b):=aI.cell 0;have a1:w3.cell? ⟨w.heap.size,1,none⟩=some (.slice A1 n1 c1):=aI.cell 1;have q0:w3.cell? ⟨w.heap.size+1,0,none⟩=some (.bool b):=aK.cell 0;have q1:w3.cell? ⟨w.heap.size+1,1,none⟩=some (.slice A2 n2 c2):=aK.cell 1;have al:=aI.lt;have bl:=aK.lt;have cl:=aL.lt;have aD:Below w.heap.size w w3.drew:=aN.drew;have aJ:CBlk w3.drew (w.heap.size+1+1) #[.bool false,.slice none 0 0] 84:=aL;have aO:=Aa (zhh A1 A2 n1 c1 n2 c2 (digs x1) (digs x2) w3.drew (h1.later aD) (h2.later aD) (by omega) (by omega))
 go_region_held3 (fun w'=>w'.cell? ⟨w.heap.size,0,none⟩=some (.bool b)∧w'.cell? ⟨w.heap.size,1,none⟩=some (.slice A1 n1 c1)∧w'.cell? ⟨w.heap.size+1,0,none⟩=some (.bool b)∧w'.cell? ⟨w.heap.size+1,1,none⟩=some (.slice A2 n2 c2))
  (first | exact ⟨a0,a1,q0,q1⟩ | exact ⟨((aA.cell (p:=⟨w.heap.size,0,none⟩) (al)).trans a0),((aA.cell (p:=⟨w.heap.size,1,none⟩) (al)).trans a1),((aA.cell (p:=⟨w.heap.size+1,0,none⟩) (bl)).trans q0),((aA.cell (p:=⟨w.heap.size+1,1,none⟩) (bl)).trans q1)⟩ | exact ⟨((aC.cell (p:=⟨w.heap.size,0,none⟩) (aH)).trans ((aA.cell (p:=⟨w.heap.size,0,none⟩) (al)).trans a0)),((aC.cell (p:=⟨w.heap.size,1,none⟩) (aH)).trans ((aA.cell (p:=⟨w.heap.size,1,none⟩) (al)).trans a1)),((aC.cell (p:=⟨w.heap.size+1,0,none⟩) (aG)).trans ((aA.cell (p:=⟨w.heap.size+1,0,none⟩) (bl)).trans q0)),((aC.cell (p:=⟨w.heap.size+1,1,none⟩) (aG)).trans ((aA.cell (p:=⟨w.heap.size+1,1,none⟩) (bl)).trans q1))⟩ | exact ⟨((zeE _ _ _ (by dsimp only;omega)).trans ((aC.cell (p:=⟨w.heap.size,0,none⟩) (aH)).trans ((aA.cell (p:=⟨w.heap.size,0,none⟩) (al)).trans a0))),((zeE _ _ _ (by dsimp only;omega)).trans ((aC.cell (p:=⟨w.heap.size,1,none⟩) (aH)).trans ((aA.cell (p:=⟨w.heap.size,1,none⟩) (al)).trans a1))),((zeE _ _ _ (by dsimp only;omega)).trans ((aC.cell (p:=⟨w.heap.size+1,0,none⟩) (aG)).trans ((aA.cell (p:=⟨w.heap.size+1,0,none⟩) (bl)).trans q0))),((zeE _ _ _ (by dsimp only;omega)).trans ((aC.cell (p:=⟨w.heap.size+1,1,none⟩) (aG)).trans ((aA.cell (p:=⟨w.heap.size+1,1,none⟩) (bl)).trans q1)))⟩)
  (first
   |(go_at_call 134;refine (aO.out).mono ?_;rintro e w4 ⟨A5,m5,c5,ls,rfl,aM,aS,aF,aA⟩;have aP:=Aa aF;clear aF;have aH:=Nat.lt_of_lt_of_le al aA.size;have aG:=Nat.lt_of_lt_of_le bl aA.size)
   |(go_at_call 133;refine (zbc _ A5 m5 c5 _ w4 aM (by omega)).mono ?_;rintro e w6 ⟨A6,m6,c6,rfl,aQ,aC⟩;have aE:=(aJ.below aA cl).below aC (Nat.lt_of_lt_of_le cl aA.size);have e0:=aE.cell 0;have e1:=aE.cell 1;have g0:=aE.frozen 0;have g1:=aE.frozen 1))
 go_wp2_with fail
 have k0:w6.cell? ⟨w.heap.size+1+1,0,none⟩=some (.bool false):=e0;have aR:w6.cell? ⟨w.heap.size+1+1,1,none⟩=some (.slice none 0 0):=e1;have hB:=aD.trans ((aA.trans (aC.mono aA.size)).mono aD.size);refine bodyPost_ret (v := .agg #[.bool (decide (sgn b (val ls)<0)),.slice A6 m6 c6]) (by simp [results,Tryz.results74,go_sem,k0,aR]) rfl ?_;have aF:=aP.out;rw [zak,zak] at aF;rw [←aF];exact ⟨A6,m6,c6,rfl,aQ.box aE _ _,zcf hB (by omega) _ _⟩
theorem zpN (b:Bool) (x1 x2:Nat) (A1 A2:Option Addr) (n1 c1 n2 c2:Nat) (w:World) (h1:DigI w A1 n1 c1 (digs x1)) (h2:DigI w A2 n2 c2 (digs x2)) (k1:n1≤524288) (k2:n2≤524288) (hx:x2≤x1) :
  Calls Tryz.prog 74 #[.agg #[.bool b,.slice A1 n1 c1],.agg #[.bool (!b),.slice A2 n2 c2]] w (RetZ w (sgn b x1+sgn (!b) x2)):=by
 rw [zrb b x1 x2 hx];have aU:(b == !b)=false:=by cases b<;>rfl
 obtain ⟨r,aN,hr⟩:∃ r:Int,0≤r∧Bn.ncmp x1 x2=r:=⟨Bn.ncmp x1 x2,by rcases Nat.lt_or_ge x2 x1 with h | h;(· rw [Bn.ncmp_gt h];decide);(· rw [show x1=x2 from by omega,Bn.ncmp_eq];exact Int.le_refl 0),rfl⟩
 have d0:decide (0≤r)=true:=by simpa using aN
 have HR:=Aa hr;have aR:=Aa hx;clear hr hx aN;go_enter Tryz.func74,Tryz.ntmps74
 go_wp2_with fail
 have aF:Below w.heap.size w (((w.alloc (.cells #[.bool b,.slice A1 n1 c1] 84)).alloc (.cells #[.bool (!b),.slice A2 n2 c2] 84)).alloc (.cells #[.bool false,.slice none 0 0] 84)):=
  (((Below.refl _ _).alloc (Nat.le_refl _) _).alloc (by simp) _).alloc (by simp;omega) _
 have aK:CBlk (((w.alloc (.cells #[.bool b,.slice A1 n1 c1] 84)).alloc (.cells #[.bool (!b),.slice A2 n2 c2] 84)).alloc (.cells #[.bool false,.slice none 0 0] 84)) w.heap.size #[.bool b,.slice A1 n1 c1] 84:=
  (((CBlk.new w _ _ _ rfl).below ((Below.refl _ _).alloc (Nat.le_refl _) _) (by simp))).below ((Below.refl _ _).alloc (Nat.le_refl _) _) (by simp;omega)
 have aL:CBlk (((w.alloc (.cells #[.bool b,.slice A1 n1 c1] 84)).alloc (.cells #[.bool (!b),.slice A2 n2 c2] 84)).alloc (.cells #[.bool false,.slice none 0 0] 84)) (w.heap.size+1) #[.bool (!b),.slice A2 n2 c2] 84:=
  (CBlk.new (w.alloc (.cells #[.bool b,.slice A1 n1 c1] 84)) #[.bool (!b),.slice A2 n2 c2] 84 (w.heap.size+1) (by simp)).below ((Below.refl _ _).alloc (Nat.le_refl _) _) (by simp)
 have aH:CBlk (((w.alloc (.cells #[.bool b,.slice A1 n1 c1] 84)).alloc (.cells #[.bool (!b),.slice A2 n2 c2] 84)).alloc (.cells #[.bool false,.slice none 0 0] 84)) (w.heap.size+1+1) #[.bool false,.slice none 0 0] 84:=CBlk.new ((w.alloc (.cells #[.bool b,.slice A1 n1 c1] 84)).alloc (.cells #[.bool (!b),.slice A2 n2 c2] 84)) _ _ (w.heap.size+1+1) (by simp);generalize (((w.alloc (.cells #[.bool b,.slice A1 n1 c1] 84)).alloc (.cells #[.bool (!b),.slice A2 n2 c2] 84)).alloc (.cells #[.bool false,.slice none 0 0] 84))=w3 at *;have a0:w3.cell? ⟨w.heap.size,0,none⟩=some (.bool b):=aK.cell 0;have a1:w3.cell? ⟨w.heap.size,1,none⟩=some (.slice A1 n1 c1):=aK.cell 1;have q0:w3.cell? ⟨w.heap.size+1,0,none⟩=some (.bool (!b)):=aL.cell 0;have q1:w3.cell? ⟨w.heap.size+1,1,none⟩=some (.slice A2 n2 c2):=aL.cell 1;have al:=aK.lt;have bl:=aL.lt;have cl:=aH.lt;have aC:Below w.heap.size w w3.drew:=aF.drew;have aG:CBlk w3.drew (w.heap.size+1+1) #[.bool false,.slice none 0 0] 84:=aH;have hc:=zcw A1 A2 n1 c1 n2 c2 x1 x2 w3 (h1.later aF).rd (h2.later aF).rd (by omega) (by omega);rw [HR.out] at hc;have HC:=Aa hc;clear hc aC aG
 go_wp2_with fail
 refine HC.out.mono ?_;rintro e wc ⟨rfl,aE⟩
 replace a0:=(aE.cell (p:=⟨w.heap.size,0,none⟩) al).trans a0
 replace a1:=(aE.cell (p:=⟨w.heap.size,1,none⟩) al).trans a1
 replace q0:=(aE.cell (p:=⟨w.heap.size+1,0,none⟩) bl).trans q0
 replace q1:=(aE.cell (p:=⟨w.heap.size+1,1,none⟩) bl).trans q1
 replace aH:=aH.below aE cl
 replace aF:=Ad aF aE
 replace al:=Nat.lt_of_lt_of_le al aE.size
 replace bl:=Nat.lt_of_lt_of_le bl aE.size
 replace cl:=Nat.lt_of_lt_of_le cl aE.size
 clear aK aL aE HC;have aC:Below w.heap.size w wc.drew:=aF.drew;have aG:CBlk wc.drew (w.heap.size+1+1) #[.bool false,.slice none 0 0] 84:=aH;have aS:=Aa (zeH A1 A2 n1 c1 n2 c2 x1 x2 wc.drew (h1.later aC) (h2.later aC) aR.out (by omega) (by omega));go_upto_region 4 with (fail)
 have aQ:Hid (∀ m,(digs (x1 - x2)).length=m→m≤524288):=fun m h=>by
  have h9:=zaa (Nat.sub_le x1 x2);have h8:=h1.len;omega
 go_region_held3 (fun w'=>w'.cell? ⟨w.heap.size,0,none⟩=some (.bool b)∧w'.cell? ⟨w.heap.size,1,none⟩=some (.slice A1 n1 c1)∧w'.cell? ⟨w.heap.size+1,0,none⟩=some (.bool (!b))∧w'.cell? ⟨w.heap.size+1,1,none⟩=some (.slice A2 n2 c2))
  (first | exact ⟨a0,a1,q0,q1⟩ | exact ⟨((aA.cell (p:=⟨w.heap.size,0,none⟩) (al)).trans a0),((aA.cell (p:=⟨w.heap.size,1,none⟩) (al)).trans a1),((aA.cell (p:=⟨w.heap.size+1,0,none⟩) (bl)).trans q0),((aA.cell (p:=⟨w.heap.size+1,1,none⟩) (bl)).trans q1)⟩ | exact ⟨((aD.cell (p:=⟨w.heap.size,0,none⟩) (aM)).trans ((aA.cell (p:=⟨w.heap.size,0,none⟩) (al)).trans a0)),((aD.cell (p:=⟨w.heap.size,1,none⟩) (aM)).trans ((aA.cell (p:=⟨w.heap.size,1,none⟩) (al)).trans a1)),((aD.cell (p:=⟨w.heap.size+1,0,none⟩) (aJ)).trans ((aA.cell (p:=⟨w.heap.size+1,0,none⟩) (bl)).trans q0)),((aD.cell (p:=⟨w.heap.size+1,1,none⟩) (aJ)).trans ((aA.cell (p:=⟨w.heap.size+1,1,none⟩) (bl)).trans q1))⟩ | exact ⟨((zeE _ _ _ (by dsimp only;omega)).trans ((aD.cell (p:=⟨w.heap.size,0,none⟩) (aM)).trans ((aA.cell (p:=⟨w.heap.size,0,none⟩) (al)).trans a0))),((zeE _ _ _ (by dsimp only;omega)).trans ((aD.cell (p:=⟨w.heap.size,1,none⟩) (aM)).trans ((aA.cell (p:=⟨w.heap.size,1,none⟩) (al)).trans a1))),((zeE _ _ _ (by dsimp only;omega)).trans ((aD.cell (p:=⟨w.heap.size+1,0,none⟩) (aJ)).trans ((aA.cell (p:=⟨w.heap.size+1,0,none⟩) (bl)).trans q0))),((zeE _ _ _ (by dsimp only;omega)).trans ((aD.cell (p:=⟨w.heap.size+1,1,none⟩) (aJ)).trans ((aA.cell (p:=⟨w.heap.size+1,1,none⟩) (bl)).trans q1)))⟩)
  (first
   |(go_at_call 136;refine (aS.out).mono ?_;rintro e w4 ⟨A5,m5,c5,rfl,aO,aA⟩;have aV:=aQ.out m5 aO.len;have aM:=Nat.lt_of_lt_of_le al aA.size;have aJ:=Nat.lt_of_lt_of_le bl aA.size)
   |(go_at_call 133;refine (zbc _ A5 m5 c5 _ w4 aO (by omega)).mono ?_;rintro e w6 ⟨A6,m6,c6,rfl,aP,aD⟩;have aI:=(aG.below aA cl).below aD (Nat.lt_of_lt_of_le cl aA.size);have e0:=aI.cell 0;have e1:=aI.cell 1;have g0:=aI.frozen 0;have g1:=aI.frozen 1))
 go_wp2_with fail
 have k0:w6.cell? ⟨w.heap.size+1+1,0,none⟩=some (.bool false):=e0;have aT:w6.cell? ⟨w.heap.size+1+1,1,none⟩=some (.slice none 0 0):=e1;have hB:=aC.trans ((aA.trans (aD.mono aA.size)).mono aC.size);refine bodyPost_ret (v := .agg #[.bool (decide (sgn b (val (digs (x1 - x2)))<0)),.slice A6 m6 c6]) (by simp [results,Tryz.results74,go_sem,k0,aT]) rfl ?_;rw [zak] at aP ⊢;exact ⟨A6,m6,c6,rfl,aP.box aI _ _,zcf hB (by omega) _ _⟩
theorem zpp (b:Bool) (x1 x2:Nat) (A1 A2:Option Addr) (n1 c1 n2 c2:Nat) (w:World) (h1:DigI w A1 n1 c1 (digs x1)) (h2:DigI w A2 n2 c2 (digs x2)) (k1:n1≤524288) (k2:n2≤524288) (hx:x1<x2) :
  Calls Tryz.prog 74 #[.agg #[.bool b,.slice A1 n1 c1],.agg #[.bool (!b),.slice A2 n2 c2]] w (RetZ w (sgn b x1+sgn (!b) x2)):=by
 rw [zrh b x1 x2 (Nat.le_of_lt hx)];have aU:(b == !b)=false:=by cases b<;>rfl
 obtain ⟨r,aP,hr⟩:∃ r:Int,r<0∧Bn.ncmp x1 x2=r:=⟨Bn.ncmp x1 x2,by rw [Bn.ncmp_lt hx];decide,rfl⟩;have d0:decide (0≤r)=false:=by simp;omega
 have HR:=Aa hr;have aR:=Aa hx;clear hr hx aP;go_enter Tryz.func74,Tryz.ntmps74
 go_wp2_with fail
 have aF:Below w.heap.size w (((w.alloc (.cells #[.bool b,.slice A1 n1 c1] 84)).alloc (.cells #[.bool (!b),.slice A2 n2 c2] 84)).alloc (.cells #[.bool false,.slice none 0 0] 84)):=
  (((Below.refl _ _).alloc (Nat.le_refl _) _).alloc (by simp) _).alloc (by simp;omega) _
 have aK:CBlk (((w.alloc (.cells #[.bool b,.slice A1 n1 c1] 84)).alloc (.cells #[.bool (!b),.slice A2 n2 c2] 84)).alloc (.cells #[.bool false,.slice none 0 0] 84)) w.heap.size #[.bool b,.slice A1 n1 c1] 84:=
  (((CBlk.new w _ _ _ rfl).below ((Below.refl _ _).alloc (Nat.le_refl _) _) (by simp))).below ((Below.refl _ _).alloc (Nat.le_refl _) _) (by simp;omega)
 have aL:CBlk (((w.alloc (.cells #[.bool b,.slice A1 n1 c1] 84)).alloc (.cells #[.bool (!b),.slice A2 n2 c2] 84)).alloc (.cells #[.bool false,.slice none 0 0] 84)) (w.heap.size+1) #[.bool (!b),.slice A2 n2 c2] 84:=
  (CBlk.new (w.alloc (.cells #[.bool b,.slice A1 n1 c1] 84)) #[.bool (!b),.slice A2 n2 c2] 84 (w.heap.size+1) (by simp)).below ((Below.refl _ _).alloc (Nat.le_refl _) _) (by simp)
 have aH:CBlk (((w.alloc (.cells #[.bool b,.slice A1 n1 c1] 84)).alloc (.cells #[.bool (!b),.slice A2 n2 c2] 84)).alloc (.cells #[.bool false,.slice none 0 0] 84)) (w.heap.size+1+1) #[.bool false,.slice none 0 0] 84:=CBlk.new ((w.alloc (.cells #[.bool b,.slice A1 n1 c1] 84)).alloc (.cells #[.bool (!b),.slice A2 n2 c2] 84)) _ _ (w.heap.size+1+1) (by simp);generalize (((w.alloc (.cells #[.bool b,.slice A1 n1 c1] 84)).alloc (.cells #[.bool (!b),.slice A2 n2 c2] 84)).alloc (.cells #[.bool false,.slice none 0 0] 84))=w3 at *;have a0:w3.cell? ⟨w.heap.size,0,none⟩=some (.bool b):=aK.cell 0;have a1:w3.cell? ⟨w.heap.size,1,none⟩=some (.slice A1 n1 c1):=aK.cell 1;have q0:w3.cell? ⟨w.heap.size+1,0,none⟩=some (.bool (!b)):=aL.cell 0;have q1:w3.cell? ⟨w.heap.size+1,1,none⟩=some (.slice A2 n2 c2):=aL.cell 1;have al:=aK.lt;have bl:=aL.lt;have cl:=aH.lt;have aC:Below w.heap.size w w3.drew:=aF.drew;have aG:CBlk w3.drew (w.heap.size+1+1) #[.bool false,.slice none 0 0] 84:=aH;have hc:=zcw A1 A2 n1 c1 n2 c2 x1 x2 w3 (h1.later aF).rd (h2.later aF).rd (by omega) (by omega);rw [HR.out] at hc;have HC:=Aa hc;clear hc aC aG
 go_wp2_with fail
 refine HC.out.mono ?_;rintro e wc ⟨rfl,aE⟩
 replace a0:=(aE.cell (p:=⟨w.heap.size,0,none⟩) al).trans a0
 replace a1:=(aE.cell (p:=⟨w.heap.size,1,none⟩) al).trans a1
 replace q0:=(aE.cell (p:=⟨w.heap.size+1,0,none⟩) bl).trans q0
 replace q1:=(aE.cell (p:=⟨w.heap.size+1,1,none⟩) bl).trans q1
 replace aH:=aH.below aE cl
 replace aF:=Ad aF aE
 replace al:=Nat.lt_of_lt_of_le al aE.size
 replace bl:=Nat.lt_of_lt_of_le bl aE.size
 replace cl:=Nat.lt_of_lt_of_le cl aE.size
 clear aK aL aE HC;have aC:Below w.heap.size w wc.drew:=aF.drew;have aG:CBlk wc.drew (w.heap.size+1+1) #[.bool false,.slice none 0 0] 84:=aH;have aS:=Aa (zeH A2 A1 n2 c2 n1 c1 x2 x1 wc.drew (h2.later aC) (h1.later aC) (Nat.le_of_lt aR.out) (by omega) (by omega));go_upto_region 5 with (fail)
 have aQ:Hid (∀ m,(digs (x2 - x1)).length=m→m≤524288):=fun m h=>by
  have h9:=zaa (Nat.sub_le x2 x1);have h8:=h2.len;omega
 go_region_held3 (fun w'=>w'.cell? ⟨w.heap.size,0,none⟩=some (.bool b)∧w'.cell? ⟨w.heap.size,1,none⟩=some (.slice A1 n1 c1)∧w'.cell? ⟨w.heap.size+1,0,none⟩=some (.bool (!b))∧w'.cell? ⟨w.heap.size+1,1,none⟩=some (.slice A2 n2 c2))
  (first | exact ⟨a0,a1,q0,q1⟩ | exact ⟨((aA.cell (p:=⟨w.heap.size,0,none⟩) (al)).trans a0),((aA.cell (p:=⟨w.heap.size,1,none⟩) (al)).trans a1),((aA.cell (p:=⟨w.heap.size+1,0,none⟩) (bl)).trans q0),((aA.cell (p:=⟨w.heap.size+1,1,none⟩) (bl)).trans q1)⟩ | exact ⟨((aD.cell (p:=⟨w.heap.size,0,none⟩) (aM)).trans ((aA.cell (p:=⟨w.heap.size,0,none⟩) (al)).trans a0)),((aD.cell (p:=⟨w.heap.size,1,none⟩) (aM)).trans ((aA.cell (p:=⟨w.heap.size,1,none⟩) (al)).trans a1)),((aD.cell (p:=⟨w.heap.size+1,0,none⟩) (aJ)).trans ((aA.cell (p:=⟨w.heap.size+1,0,none⟩) (bl)).trans q0)),((aD.cell (p:=⟨w.heap.size+1,1,none⟩) (aJ)).trans ((aA.cell (p:=⟨w.heap.size+1,1,none⟩) (bl)).trans q1))⟩ | exact ⟨((zeE _ _ _ (by dsimp only;omega)).trans ((aD.cell (p:=⟨w.heap.size,0,none⟩) (aM)).trans ((aA.cell (p:=⟨w.heap.size,0,none⟩) (al)).trans a0))),((zeE _ _ _ (by dsimp only;omega)).trans ((aD.cell (p:=⟨w.heap.size,1,none⟩) (aM)).trans ((aA.cell (p:=⟨w.heap.size,1,none⟩) (al)).trans a1))),((zeE _ _ _ (by dsimp only;omega)).trans ((aD.cell (p:=⟨w.heap.size+1,0,none⟩) (aJ)).trans ((aA.cell (p:=⟨w.heap.size+1,0,none⟩) (bl)).trans q0))),((zeE _ _ _ (by dsimp only;omega)).trans ((aD.cell (p:=⟨w.heap.size+1,1,none⟩) (aJ)).trans ((aA.cell (p:=⟨w.heap.size+1,1,none⟩) (bl)).trans q1)))⟩)
  (first
   |(go_at_call 136;refine (aS.out).mono ?_;rintro e w4 ⟨A5,m5,c5,rfl,aN,aA⟩;have aV:=aQ.out m5 aN.len;have aM:=Nat.lt_of_lt_of_le al aA.size;have aJ:=Nat.lt_of_lt_of_le bl aA.size)
   |(go_at_call 133;refine (zbc _ A5 m5 c5 _ w4 aN (by omega)).mono ?_;rintro e w6 ⟨A6,m6,c6,rfl,aO,aD⟩;have aI:=(aG.below aA cl).below aD (Nat.lt_of_lt_of_le cl aA.size);have e0:=aI.cell 0;have e1:=aI.cell 1;have g0:=aI.frozen 0;have g1:=aI.frozen 1))
 go_wp2_with fail
 have k0:w6.cell? ⟨w.heap.size+1+1,0,none⟩=some (.bool false):=e0;have aT:w6.cell? ⟨w.heap.size+1+1,1,none⟩=some (.slice none 0 0):=e1;have hB:=aC.trans ((aA.trans (aD.mono aA.size)).mono aC.size);refine bodyPost_ret (v := .agg #[.bool (decide (sgn (!b) (val (digs (x2 - x1)))<0)),.slice A6 m6 c6]) (by simp [results,Tryz.results74,go_sem,k0,aT]) rfl ?_;rw [zak] at aO ⊢;exact ⟨A6,m6,c6,rfl,aO.box aI _ _,zcf hB (by omega) _ _⟩
theorem zof (b1 b2:Bool) (x1 x2:Nat) (A1 A2:Option Addr) (n1 c1 n2 c2:Nat) (w:World) (h1:DigI w A1 n1 c1 (digs x1)) (h2:DigI w A2 n2 c2 (digs x2)) (k1:n1≤524288) (k2:n2≤524288) :
  Calls Tryz.prog 74 #[.agg #[.bool b1,.slice A1 n1 c1],.agg #[.bool b2,.slice A2 n2 c2]] w (RetZ w (sgn b1 x1+sgn b2 x2)):=by
 by_cases hb:b2=b1
 ·subst hb
  exact zlG b2 x1 x2 A1 A2 n1 c1 n2 c2 w h1 h2 k1 k2
 ·have e:b2 = !b1:=by cases b1<;>cases b2<;>simp at hb ⊢
  subst e
  rcases Nat.lt_or_ge x1 x2 with h | h
  ·exact zpp b1 x1 x2 A1 A2 n1 c1 n2 c2 w h1 h2 k1 k2 h
  ·exact zpN b1 x1 x2 A1 A2 n1 c1 n2 c2 w h1 h2 k1 k2 h
theorem zdF (A A':Option Addr) (n c n' c' x y:Nat) (w:World) (ha:DigI w A n c (digs x)) (hb:DigI w A' n' c' (digs y)) (hn:n≤1048576) (hn':n'≤1048576) :
  Calls Tryz.prog 61 #[.slice A n c,.slice A' n' c'] w (zo2 w (Nat.gcd x y)):=by
 go_enter Tryz.func61,Tryz.ntmps61
 go_wp2
 go_loopg [0,1] y (fun q av bv W=>∃ (A:Option Addr) (n c:Nat) (A':Option Addr) (n' c' u v:Nat),av = .slice A n c∧bv = .slice A' n' c'∧DigI W A n c (digs u)∧DigI W A' n' c' (digs v)∧n≤1048576∧n'≤1048576∧Hid (Nat.gcd u v=Nat.gcd x y)∧v≤q∧Below w.heap.size w W)
 case atStart=>exact ⟨A,n,c,A',n',c',x,y,rfl,rfl,ha,hb,hn,hn',rfl,Nat.le_refl _,Below.refl _ _⟩
 case round=>
  obtain ⟨A,n,c,A',n',c',u,v,rfl,rfl,h1,h2,hn,hn',hg,hq,aA⟩:=hrel;have aC:=h2.len
  by_cases hv:v=0
  ·obtain rfl:n'=0:=by rw [←aC,hv,zam];rfl
   have aH:Nat.gcd x y=u:=by rw [←hg.out,hv,Nat.gcd_zero_right]
   have HR:Hid (zo2 w (Nat.gcd x y) (.returned (.slice A n c)) wr):=⟨A,n,c,rfl,by rw [aH];exact h1,aA⟩;clear hv aH aC;go_wp2
   go_ret;exact HR.out
  ·have aE:0<v:=by omega
   have aI:0<n':=by rw [←aC];exact zav aE
   have aD:=Nat.mod_lt u aE;have HO:=Aa (zbY A A' n c n' c' u v wr h1 h2 aE hn hn');have HG:Hid (Nat.gcd v (u % v)=Nat.gcd x y):=by
    show Nat.gcd v (u % v)=Nat.gcd x y
    rw [←hg.out,Nat.gcd_comm v (u % v),←Nat.gcd_rec,Nat.gcd_comm]
   have aK:=Aa aC;have d1:decide (0<n')=true:=by simpa using aI
   clear hv aC
   go_wp2_with fail
   refine HO.out.mono ?_;rintro e w2 ⟨A3,n3,c3,A4,n4,c4,rfl,aM,aF,aG⟩;have aL:n4≤n':=by rw [←aF.len,←aK.out];exact zaa (Nat.le_of_lt aD)
   have aJ:=h2.later aG;generalize u % v=r at *;go_wp2
   go_roundg r
   case measure=>omega
   case rel=>exact ⟨A',n',c',A4,n4,c4,v,r,rfl,rfl,aJ,aF,hn',by omega,HG.out,Nat.le_refl _,aA.trans (aG.mono aA.size)⟩
theorem zma {ls:List Nat} {k q n:Nat} (hk:ls.length=k) (h:val ls+B ^ k*q=n):val (ls++[q % B])+B ^ (k+1)*(q / B)=n:=by
 rw [zaT,za1,hk,Nat.pow_succ,Nat.mul_assoc,Nat.add_assoc,←Nat.mul_add,Nat.mod_add_div];exact h
theorem zlO (n:Nat) (w:World) (hn:n≤9223372036854775807) :
  Calls Tryz.prog 96 #[.int .i64 (n:Int)] w (RetZ w (n:Int)):=by
 obtain ⟨i0,bB,aZ,aS,aW⟩:=info_parts zcL;have aP:Below w.heap.size w (w.alloc (.cells #[.bool false,.slice none 0 0] 84)):=Ac;have hk:=CBlk.new w #[.bool false,.slice none 0 0] 84 _ rfl;have dn:decide ((n:Int)<0)=false:=by simp
 go_enter Tryz.func96,Tryz.ntmps96
 go_wp2
 generalize (w.alloc (.cells #[.bool false,.slice none 0 0] 84))=w0 at *
 go_loopg [0,3] n (fun g v0 v3 W=>∃ (q k:Nat) (ls:List Nat),v0 = .int .i64 (q:Int)∧q≤g∧q≤9223372036854775807∧k≤100∧q≤9223372036854775807 / 2 ^ k∧W.ownsRow w0.heap.size 3 1 v3 k (ls.map natv)∧Hid (Wf ls∧ls.length=k∧val ls+B ^ k*q=n)∧Below w0.heap.size w0 W)
 case atStart=>exact ⟨n,0,[],rfl,Nat.le_refl _,hn,by omega,by simpa using hn,World.ownsRow_nil _ _ _ _,⟨Wf.nil,rfl,by simp⟩,Below.refl _ _⟩
 case round=>
  obtain ⟨q,k,ls,rfl,hq,bH,bI,aL,aA,hv,aD⟩:=hrel;have bA:=aD.size;obtain ⟨hw,hl,aC⟩:=hv.out
  by_cases h0:q=0
  ·subst h0
   rw [Nat.mul_zero,Nat.add_zero] at aC;obtain ⟨A9,c9,rfl,aR,aU,aM⟩:=zdr aA;have hs:=zbc false A9 k c9 ls wr ⟨aM,aR,aU,hw⟩ (by omega);rw [show sgn false (val ls)=(n:Int) from by rw [aC];rfl] at hs;have HS:=Aa hs;have aQ:=hk.below aD hk.lt;have bG:=hk.lt;clear hs aC hl hw aA aM hv aL
   go_wp2_with fail
   refine HS.out.mono ?_;rintro e w6 ⟨A6,m6,c6,rfl,bF,aK⟩;have aH:=aQ.below aK aQ.lt;have e0:w6.cell? ⟨w.heap.size,0,none⟩=some (.bool false):=aH.cell 0;have e1:w6.cell? ⟨w.heap.size,1,none⟩=some (.slice none 0 0):=aH.cell 1;have f0:w6.frozen? ⟨w.heap.size,0,none⟩=false:=aH.frozen 0;have f1:w6.frozen? ⟨w.heap.size,1,none⟩=false:=aH.frozen 1;have hB:=aP.trans ((aD.trans (aK.mono aD.size)).mono aP.size);clear aK
   go_wp2_with fail
   refine bodyPost_ret (v := .agg #[.bool (decide ((n:Int)<0)),.slice A6 m6 c6]) (by simp [results,Tryz.results96,go_sem,e0,e1]) rfl ?_;exact ⟨A6,m6,c6,rfl,bF.box aH _ _,zcf hB (by omega) _ _⟩
  ·obtain ⟨d,hd⟩:∃ d,d=q % B:=⟨_,rfl⟩
   obtain ⟨q',aI⟩:∃ q',q'=q / B:=⟨_,rfl⟩;have aN:d<B:=by rw [hd];exact Nat.mod_lt _ zaV
   have bC:d<1000000000:=aN;have aO:q'≤q / 2:=by rw [aI];unfold B;omega
   have ed:(q:Int) % 1000000000=(d:Int):=by rw [hd];unfold B;omega
   have eq:(q:Int) / 1000000000=(q':Int):=by rw [aI];unfold B;omega
   have aJ:=zma hl aC;rw [←hd,←aI] at aJ;have HI:Hid (Wf (ls++[d])∧(ls++[d]).length=k+1∧val (ls++[d])+B ^ (k+1)*q'=n):=⟨hw.append (Wf.cons aN Wf.nil),by simp [hl],aJ⟩;have aG:q'≤9223372036854775807 / 2 ^ (k+1):=by
    rw [Nat.pow_succ,←Nat.div_div_eq_div_mul];exact Nat.le_trans aO (Nat.div_le_div_right aL)
   have bE:k<63:=by
    rcases Nat.lt_or_ge k 63 with h9 | h9
    ·exact h9
    ·exfalso
     have:9223372036854775807 / 2 ^ k≤9223372036854775807 / 2 ^ 63:=Nat.div_le_div_left (Nat.pow_le_pow_right (by omega) h9) (Nat.two_pow_pos _);have bJ:9223372036854775807 / 2 ^ 63=0:=by decide
     omega
   have bD:=Aa aG;have d1:((q:Int) != 0)=true:=by rw [bne_iff_ne];omega
   have d2:((q:Int)==0)=false:=by rw [beq_eq_false_iff_ne];omega
   have d3:decide ((d:Int)<0)=false:=by simp
   have aT:q'<q:=by omega
   clear hd aI aJ aG aL aC hl hw hv aO
   go_wp2_with (at_builtin;refine wpList_append_own _ rfl _ _ 60 rfl w0.heap.size 3 i0 (.int .i64 0) 1 8 Tryz.underlying60 bB aZ aS aW rfl (by decide) _ _ _ rfl (aA.alloc _) ⟨wr.heap.size,0,none⟩ 1 1 [.int .i64 (d:Int)] rfl rfl ?c1 ?c2 ?c3 ?c4 ?c5 ?_)
   case c1=>exact cell_one_new _ _ _
   case c2=>intro u hu;simp at hu;subst hu;rfl
   case c3=>unfold maxLen;omega
   case c4=>omega
   case c5=>simp;omega
   intro v' w2 aF aE _;have aV:Below w0.heap.size w0 w2:=(aD.alloc bA _).grown aE (by simp;omega) (fun g hg=>(World.ownsRow.lt aA g hg).1);clear aE aA;go_wp2
   go_roundg q'
   case measure=>omega
   case rel=>exact ⟨q',k+1,ls++[d],rfl,Nat.le_refl _,by omega,by omega,bD.out,by rw [List.map_append];exact aF,HI.out,aV⟩
theorem ze4 (b:Bool) (x:Nat) (A:Option Addr) (n c:Nat) (w:World) (h:DigI w A n c (digs x)) (hb:b=true→0<x) (hn:n≤524288) :
  Calls Tryz.prog 132 #[.agg #[.bool b,.slice A n c]] w fun e w'=>(∃ s:ByteArray,e = .returned (.string s)∧s.data.toList=sgnT b (Lib.decDigits x))∧Below w.heap.size w w':=by
 have aH:Below w.heap.size w (w.alloc (.cells #[.bool b,.slice A n c] 84)):=Ac;have hk:=CBlk.new w #[.bool b,.slice A n c] 84 _ rfl;have h1:=h.later aH;have aC:=h.len;go_enter Tryz.func132,Tryz.ntmps132
 go_upto_region 1 with (fail)
 generalize (w.alloc (.cells #[.bool b,.slice A n c] 84))=w1 at *;have a0:w1.cell? ⟨w.heap.size,0,none⟩=some (.bool b):=hk.cell 0;have a1:w1.cell? ⟨w.heap.size,1,none⟩=some (.slice A n c):=hk.cell 1
 by_cases hx:x=0
 ·obtain rfl:n=0:=by rw [←aC,hx,zam];rfl
  obtain rfl:b=false:=by
   cases b
   ·rfl
   ·exact absurd (hb rfl) (by omega)
  have hd:Hid ((⟨#[48]⟩:ByteArray).data.toList=sgnT false (Lib.decDigits x)):=by
   show [48]=sgnT false (Lib.decDigits x)
   rw [hx,Dec.dec_lt (by omega)];rfl
  clear hx hb aC;go_wp2
  go_ret;exact ⟨⟨_,rfl,hd.out⟩,aH⟩
 ·have aS:0<x:=by omega
  have bE:0<n:=by have:=zav aS;omega
  have aR:x<B ^ n:=by have:=zae x;rwa [aC] at this
  have aM:=zaH aS;rw [aC] at aM;have aF:∀ j,j≤n - 1→0<x / B ^ j:=fun j hj=>Nat.div_pos (Nat.le_trans (Nat.pow_le_pow_right zaV hj) aM) (Nat.pow_pos zaV)
  have aD:x / B ^ (n - 1)<B:=Nat.div_lt_of_lt_mul (by rw [←Nat.pow_succ,show (n - 1).succ=n from by omega];exact aR);obtain ⟨n1,bH⟩:∃ n1,n=n1+1:=⟨n - 1,by omega⟩;subst bH;rw [Nat.add_sub_cancel] at aF aD;obtain ⟨ad,bD,rfl,bK,aA⟩:=h1.rd.cellM (k:=n1) (by omega);have aV:(digs x)[n1]=x / B ^ n1:=by
   have h9:=zcW n1 x;rw [Dn.getD_in bD,Nat.mod_eq_of_lt aD] at h9;exact h9
  unfold natv at aA;obtain ⟨tw,aJ⟩:∃ tw,tw=x / B ^ n1:=⟨_,rfl⟩;rw [aV,←aJ] at aA;rw [←aJ] at aD;have aW:tw<1000000000:=aD;have bG:=Aa (zkQ bE aR);have aK:=Aa aF;have bJ:=Aa aJ;have e1:((n1+1:Nat):Int) - 1=(n1:Int):=by omega
  have e2:((n1+1:Nat):Int) - 2=(n1:Int) - 1:=by omega
  generalize hN:n1+1=N at *;have HN:=Aa hN;have bN:n1<N:=by omega
  have d0:((N:Int)==0)=false:=by rw [beq_eq_false_iff_ne];omega
  have aQ:=Aa (zb3 tw 1 w1 (by omega) (by omega));rw [zfe] at aQ;clear aF aV aJ hx hb aR aM aC hN
  go_wp2_with fail
  refine aQ.out.mono ?_;rintro e w2 ⟨⟨s0,rfl,aU⟩,aP⟩;obtain rfl:w1=w2:=aP;have bF:=Aa aU;clear aU aQ e1 aA;go_wp2
  go_loopg [3,4] n1 (fun g v3 v4 W=>∃ (j:Nat) (s:ByteArray),j≤n1∧v4 = .int .i64 ((j:Int) - 1)∧v3 = .string s∧j≤g∧Hid (s.data.toList=Lib.decDigits (x / B ^ j))∧w1=W)
  case atStart=>exact ⟨n1,s0,Nat.le_refl _,by first | rfl | go_num,rfl,Nat.le_refl _,by rw [←bJ.out];exact bF.out,rfl⟩
  case round=>
   obtain ⟨j,s,hj,rfl,rfl,bL,hs,hW⟩:=hrel;obtain rfl:w1=wr:=hW;have bB:s.size≤9*N:=by
    have h9:=bG.out j;rw [←hs.out] at h9
    simpa using h9
   by_cases h0:0<j
   ·obtain ⟨q,rfl⟩:∃ q,j=q+1:=⟨j - 1,by omega⟩
    have e3:((q+1:Nat):Int) - 1=(q:Int):=by omega
    rw [e3];obtain ⟨bO,aG,ea,_,aA⟩:=h1.rd.cellM (k:=q) (by omega);injection ea with ea
    subst ea;have aT:=zat x _ (List.getElem_mem aG);have aL:=znM x q (aK.out (q+1) hj);rw [←zcW,Dn.getD_in aG] at aL;unfold natv at aA;generalize (digs x)[q]=v at *;have bC:v<1000000000:=aT;have aO:=zb3 v 9 w1 (by omega) (by omega);rw [znH aT] at aO;have bA:=Aa aO;have bI:=Aa aL;clear aL aO e3
    go_wp2_with fail
    refine bA.out.mono ?_;rintro e w2 ⟨⟨s9,rfl,aI⟩,aP⟩;obtain rfl:w1=w2:=aP;have bM:=Aa aI;have HI:Hid ((s++s9).data.toList=Lib.decDigits (x / B ^ q)):=by
     show (s++s9).data.toList=_
     rw [ByteArray.data_append,Array.toList_append,hs.out,aI,bI.out]
    have aN:s9.size=9:=by
     have h9:s9.data.toList.length=s9.size:=Array.length_toList;rw [aI,Dec.pad_length] at h9;exact h9.symm
    have aZ:s9.size≤9:=by omega
    clear aI aN;go_wp2
    go_roundg q
    case measure=>omega
    case rel=>exact ⟨q,s++s9,by omega,rfl,rfl,Nat.le_refl _,HI.out,rfl⟩
   ·obtain rfl:j=0:=by omega
    have aE:s.data.toList=Lib.decDigits x:=by have:=hs.out;simpa using this
    cases b
    ·have HR:Hid (s.data.toList=sgnT false (Lib.decDigits x)):=aE
     clear aE hs;go_wp2
     go_ret;exact ⟨⟨s,rfl,HR.out⟩,aH⟩
    ·have HR:Hid (((⟨#[45]⟩:ByteArray)++s).data.toList=sgnT true (Lib.decDigits x)):=by
      show ((⟨#[45]⟩:ByteArray)++s).data.toList=_
      rw [ByteArray.data_append,Array.toList_append,aE];rfl
     clear aE hs;go_wp2
     go_ret;exact ⟨⟨_,rfl,HR.out⟩,aH⟩
end Go.Proofs.YtmkondcdejlhcaaGreatDoor
