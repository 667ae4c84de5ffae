/- Contracts of the reference's integers: minus, times, plus. -/
import Derived.Test.YtbkgkoenppkhpaaGreatDoorBRb7
set_option maxRecDepth 100000
set_option maxHeartbeats 4000000
namespace Go.Proofs.YtbkgkoenppkhpaaGreatDoor
open Go.RowKit Dn
theorem zes{g:Nat}(w:World)(u v:Value){q:Addr}(h:g≠q.block):((w.setCell ⟨g,0,none⟩ u).setCell ⟨g,1,none⟩ v).cell? q=w.cell? q:=by
 rw[World.cell?_setCell_far _ _ _ _ (by exact h),World.cell?_setCell_far _ _ _ _ (by exact h)]
theorem zn7(b1 b2:Bool)(x y:Nat):sgn (!b1==b2) (x*y)=sgn b1 x*sgn b2 y:=by
 unfold sgn
 cases b1<;>cases b2<;>simp[Int.natCast_mul,Int.neg_mul,Int.mul_neg]
theorem zqs(b:Bool)(x:Nat):sgn (!b) x = - sgn b x:=by
 unfold sgn
 cases b<;>simp
theorem zfn{w:World}{A:Option Addr}{n c x y m k:Nat}(h:DigI w A n c (digs (x*y)))(hx:(digs x).length=m)(hy:(digs y).length=k):n≤m+k:=by
 rw[←h.len];refine zab ?_;rw[Nat.pow_add];have h1:=zac x;have h2:=zac y;rw[hx] at h1;rw[hy] at h2;exact Nat.mul_lt_mul'' h1 h2
theorem zdk(b1 b2:Bool)(x1 x2:Nat)(A1 A2:Option Addr)(n1 c1 n2 c2:Nat)(w:World)(h1:DigI w A1 n1 c1 (digs x1))(h2:DigI w A2 n2 c2 (digs x2))(k1:n1≤524288)(k2:n2≤524288) :
  Calls Tryz.prog 106 #[.agg #[.bool b1,.slice A1 n1 c1],.agg #[.bool b2,.slice A2 n2 c2]] w (RetZ w (sgn b1 x1*sgn b2 x2)):=by
 rw[←zn7];go_enter Tryz.func106,Tryz.ntmps106
 go_wp2_with fail
 have aR:Below w.heap.size w (((w.alloc (.cells #[.bool b1,.slice A1 n1 c1] 97)).alloc (.cells #[.bool b2,.slice A2 n2 c2] 97)).alloc (.cells #[.bool false,.slice none 0 0] 97)):=
  (((Below.refl _ _).alloc (Nat.le_refl _) _).alloc (by simp) _).alloc (by simp;omega) _
 have aH:CBlk (((w.alloc (.cells #[.bool b1,.slice A1 n1 c1] 97)).alloc (.cells #[.bool b2,.slice A2 n2 c2] 97)).alloc (.cells #[.bool false,.slice none 0 0] 97)) w.heap.size #[.bool b1,.slice A1 n1 c1] 97:=
  (((CBlk.new w _ _ _ rfl).below ((Below.refl _ _).alloc (Nat.le_refl _) _) (by simp))).below ((Below.refl _ _).alloc (Nat.le_refl _) _) (by simp;omega)
 have aJ:CBlk (((w.alloc (.cells #[.bool b1,.slice A1 n1 c1] 97)).alloc (.cells #[.bool b2,.slice A2 n2 c2] 97)).alloc (.cells #[.bool false,.slice none 0 0] 97)) (w.heap.size+1) #[.bool b2,.slice A2 n2 c2] 97:=
  (CBlk.new (w.alloc (.cells #[.bool b1,.slice A1 n1 c1] 97)) #[.bool b2,.slice A2 n2 c2] 97 (w.heap.size+1) (by simp)).below ((Below.refl _ _).alloc (Nat.le_refl _) _) (by simp)
 have aK:CBlk (((w.alloc (.cells #[.bool b1,.slice A1 n1 c1] 97)).alloc (.cells #[.bool b2,.slice A2 n2 c2] 97)).alloc (.cells #[.bool false,.slice none 0 0] 97)) (w.heap.size+1+1) #[.bool false,.slice none 0 0] 97:=CBlk.new ((w.alloc (.cells #[.bool b1,.slice A1 n1 c1] 97)).alloc (.cells #[.bool b2,.slice A2 n2 c2] 97)) _ _ (w.heap.size+1+1) (by simp);generalize (((w.alloc (.cells #[.bool b1,.slice A1 n1 c1] 97)).alloc (.cells #[.bool b2,.slice A2 n2 c2] 97)).alloc (.cells #[.bool false,.slice none 0 0] 97))=w3 at *;have a0:w3.cell? ⟨w.heap.size,0,none⟩=some (.bool b1):=aH.cell 0;have a1:w3.cell? ⟨w.heap.size,1,none⟩=some (.slice A1 n1 c1):=aH.cell 1;have q0:w3.cell? ⟨w.heap.size+1,0,none⟩=some (.bool b2):=aJ.cell 0;have q1:w3.cell? ⟨w.heap.size+1,1,none⟩=some (.slice A2 n2 c2):=aJ.cell 1;have al:=aH.lt;have bl:=aJ.lt;have cl:=aK.lt;have aD:Below w.heap.size w w3.drew:=aR.drew;have aI:CBlk w3.drew (w.heap.size+1+1) #[.bool false,.slice none 0 0] 97:=aK;have aP:=Aa (zc3 A1 A2 n1 c1 n2 c2 x1 x2 w3.drew (h1.later aD) (h2.later aD) (by omega) (by omega));have aO:=Aa h1.len;have aQ:=Aa h2.len
 go_region_held3 (fun w'=>w'.cell? ⟨w.heap.size,0,none⟩=some (.bool b1)∧w'.cell? ⟨w.heap.size,1,none⟩=some (.slice A1 n1 c1)∧w'.cell? ⟨w.heap.size+1,0,none⟩=some (.bool b2)∧w'.cell? ⟨w.heap.size+1,1,none⟩=some (.slice A2 n2 c2))
  (first | exact⟨a0,a1,q0,q1⟩ | exact⟨((aA.cell (p:=⟨w.heap.size,0,none⟩) (al)).trans a0),((aA.cell (p:=⟨w.heap.size,1,none⟩) (al)).trans a1),((aA.cell (p:=⟨w.heap.size+1,0,none⟩) (bl)).trans q0),((aA.cell (p:=⟨w.heap.size+1,1,none⟩) (bl)).trans q1)⟩ | exact⟨((aC.cell (p:=⟨w.heap.size,0,none⟩) (aG)).trans ((aA.cell (p:=⟨w.heap.size,0,none⟩) (al)).trans a0)),((aC.cell (p:=⟨w.heap.size,1,none⟩) (aG)).trans ((aA.cell (p:=⟨w.heap.size,1,none⟩) (al)).trans a1)),((aC.cell (p:=⟨w.heap.size+1,0,none⟩) (aF)).trans ((aA.cell (p:=⟨w.heap.size+1,0,none⟩) (bl)).trans q0)),((aC.cell (p:=⟨w.heap.size+1,1,none⟩) (aF)).trans ((aA.cell (p:=⟨w.heap.size+1,1,none⟩) (bl)).trans q1))⟩ | exact⟨((zes _ _ _ (by dsimp only;omega)).trans ((aC.cell (p:=⟨w.heap.size,0,none⟩) (aG)).trans ((aA.cell (p:=⟨w.heap.size,0,none⟩) (al)).trans a0))),((zes _ _ _ (by dsimp only;omega)).trans ((aC.cell (p:=⟨w.heap.size,1,none⟩) (aG)).trans ((aA.cell (p:=⟨w.heap.size,1,none⟩) (al)).trans a1))),((zes _ _ _ (by dsimp only;omega)).trans ((aC.cell (p:=⟨w.heap.size+1,0,none⟩) (aF)).trans ((aA.cell (p:=⟨w.heap.size+1,0,none⟩) (bl)).trans q0))),((zes _ _ _ (by dsimp only;omega)).trans ((aC.cell (p:=⟨w.heap.size+1,1,none⟩) (aF)).trans ((aA.cell (p:=⟨w.heap.size+1,1,none⟩) (bl)).trans q1)))⟩)
  (first
   |(go_at_call 167;refine(aP.out).mono ?_;rintro e w4 ⟨A5,m5,c5,rfl,aM,aA⟩;have aS:=zfn aM aO.out aQ.out;have aG:=Nat.lt_of_lt_of_le al aA.size;have aF:=Nat.lt_of_lt_of_le bl aA.size)
   |(go_at_call 163;refine(za3 _ A5 m5 c5 _ w4 aM (by omega)).mono ?_;rintro e w6 ⟨A6,m6,c6,rfl,aL,aC⟩;have aE:=(aI.below aA cl).below aC (Nat.lt_of_lt_of_le cl aA.size);have e0:=aE.cell 0;have e1:=aE.cell 1;have g0:=aE.frozen 0;have g1:=aE.frozen 1))
 go_wp2_with fail
 have k0:w6.cell? ⟨w.heap.size+1+1,0,none⟩=some (.bool false):=e0;have aN:w6.cell? ⟨w.heap.size+1+1,1,none⟩=some (.slice none 0 0):=e1;have hB:=aD.trans ((aA.trans (aC.mono aA.size)).mono aD.size);refine bodyPost_ret (v := .agg #[.bool (decide (sgn (!b1==b2) (val (digs (x1*x2)))<0)),.slice A6 m6 c6]) (by simp[results,Tryz.results106,go_sem,k0,aN]) rfl ?_;rw[zak] at aL ⊢;exact⟨A6,m6,c6,rfl,aL.box aE _ _,zbO hB (by omega) _ _⟩
theorem zpa(b:Bool)(x y:Nat):sgn b x+sgn b y=sgn b (x+y):=by
 unfold sgn
 cases b<;>simp<;>omega
theorem zr5(b:Bool)(x y:Nat)(h:y≤x):sgn b x+sgn (!b) y=sgn b (x-y):=by
 unfold sgn
 cases b<;>simp<;>omega
theorem zrY(b:Bool)(x y:Nat)(h:x≤y):sgn b x+sgn (!b) y=sgn (!b) (y-x):=by
 unfold sgn
 cases b<;>simp<;>omega
theorem zlj(b:Bool)(x1 x2:Nat)(A1 A2:Option Addr)(n1 c1 n2 c2:Nat)(w:World)(h1:DigI w A1 n1 c1 (digs x1))(h2:DigI w A2 n2 c2 (digs x2))(k1:n1≤524288)(k2:n2≤524288) :
  Calls Tryz.prog 105 #[.agg #[.bool b,.slice A1 n1 c1],.agg #[.bool b,.slice A2 n2 c2]] w (RetZ w (sgn b x1+sgn b x2)):=by
 rw[zpa];go_enter Tryz.func105,Tryz.ntmps105
 go_upto_region 2 with(fail)
 have aQ:Below w.heap.size w (((w.alloc (.cells #[.bool b,.slice A1 n1 c1] 97)).alloc (.cells #[.bool b,.slice A2 n2 c2] 97)).alloc (.cells #[.bool false,.slice none 0 0] 97)):=
  (((Below.refl _ _).alloc (Nat.le_refl _) _).alloc (by simp) _).alloc (by simp;omega) _
 have aI:CBlk (((w.alloc (.cells #[.bool b,.slice A1 n1 c1] 97)).alloc (.cells #[.bool b,.slice A2 n2 c2] 97)).alloc (.cells #[.bool false,.slice none 0 0] 97)) w.heap.size #[.bool b,.slice A1 n1 c1] 97:=
  (((CBlk.new w _ _ _ rfl).below ((Below.refl _ _).alloc (Nat.le_refl _) _) (by simp))).below ((Below.refl _ _).alloc (Nat.le_refl _) _) (by simp;omega)
 have aK:CBlk (((w.alloc (.cells #[.bool b,.slice A1 n1 c1] 97)).alloc (.cells #[.bool b,.slice A2 n2 c2] 97)).alloc (.cells #[.bool false,.slice none 0 0] 97)) (w.heap.size+1) #[.bool b,.slice A2 n2 c2] 97:=
  (CBlk.new (w.alloc (.cells #[.bool b,.slice A1 n1 c1] 97)) #[.bool b,.slice A2 n2 c2] 97 (w.heap.size+1) (by simp)).below ((Below.refl _ _).alloc (Nat.le_refl _) _) (by simp)
 have aL:CBlk (((w.alloc (.cells #[.bool b,.slice A1 n1 c1] 97)).alloc (.cells #[.bool b,.slice A2 n2 c2] 97)).alloc (.cells #[.bool false,.slice none 0 0] 97)) (w.heap.size+1+1) #[.bool false,.slice none 0 0] 97:=CBlk.new ((w.alloc (.cells #[.bool b,.slice A1 n1 c1] 97)).alloc (.cells #[.bool b,.slice A2 n2 c2] 97)) _ _ (w.heap.size+1+1) (by simp);generalize (((w.alloc (.cells #[.bool b,.slice A1 n1 c1] 97)).alloc (.cells #[.bool b,.slice A2 n2 c2] 97)).alloc (.cells #[.bool false,.slice none 0 0] 97))=w3 at *;have a0:w3.cell? ⟨w.heap.size,0,none⟩=some (.bool b):=aI.cell 0;have a1:w3.cell? ⟨w.heap.size,1,none⟩=some (.slice A1 n1 c1):=aI.cell 1;have q0:w3.cell? ⟨w.heap.size+1,0,none⟩=some (.bool b):=aK.cell 0;have q1:w3.cell? ⟨w.heap.size+1,1,none⟩=some (.slice A2 n2 c2):=aK.cell 1;have al:=aI.lt;have bl:=aK.lt;have cl:=aL.lt;have aD:Below w.heap.size w w3.drew:=aQ.drew;have aJ:CBlk w3.drew (w.heap.size+1+1) #[.bool false,.slice none 0 0] 97:=aL;have aO:=Aa (zev A1 A2 n1 c1 n2 c2 (digs x1) (digs x2) w3.drew (h1.later aD) (h2.later aD) (by omega) (by omega))
 go_region_held3 (fun w'=>w'.cell? ⟨w.heap.size,0,none⟩=some (.bool b)∧w'.cell? ⟨w.heap.size,1,none⟩=some (.slice A1 n1 c1)∧w'.cell? ⟨w.heap.size+1,0,none⟩=some (.bool b)∧w'.cell? ⟨w.heap.size+1,1,none⟩=some (.slice A2 n2 c2))
  (first | exact⟨a0,a1,q0,q1⟩ | exact⟨((aA.cell (p:=⟨w.heap.size,0,none⟩) (al)).trans a0),((aA.cell (p:=⟨w.heap.size,1,none⟩) (al)).trans a1),((aA.cell (p:=⟨w.heap.size+1,0,none⟩) (bl)).trans q0),((aA.cell (p:=⟨w.heap.size+1,1,none⟩) (bl)).trans q1)⟩ | exact⟨((aC.cell (p:=⟨w.heap.size,0,none⟩) (aH)).trans ((aA.cell (p:=⟨w.heap.size,0,none⟩) (al)).trans a0)),((aC.cell (p:=⟨w.heap.size,1,none⟩) (aH)).trans ((aA.cell (p:=⟨w.heap.size,1,none⟩) (al)).trans a1)),((aC.cell (p:=⟨w.heap.size+1,0,none⟩) (aG)).trans ((aA.cell (p:=⟨w.heap.size+1,0,none⟩) (bl)).trans q0)),((aC.cell (p:=⟨w.heap.size+1,1,none⟩) (aG)).trans ((aA.cell (p:=⟨w.heap.size+1,1,none⟩) (bl)).trans q1))⟩ | exact⟨((zes _ _ _ (by dsimp only;omega)).trans ((aC.cell (p:=⟨w.heap.size,0,none⟩) (aH)).trans ((aA.cell (p:=⟨w.heap.size,0,none⟩) (al)).trans a0))),((zes _ _ _ (by dsimp only;omega)).trans ((aC.cell (p:=⟨w.heap.size,1,none⟩) (aH)).trans ((aA.cell (p:=⟨w.heap.size,1,none⟩) (al)).trans a1))),((zes _ _ _ (by dsimp only;omega)).trans ((aC.cell (p:=⟨w.heap.size+1,0,none⟩) (aG)).trans ((aA.cell (p:=⟨w.heap.size+1,0,none⟩) (bl)).trans q0))),((zes _ _ _ (by dsimp only;omega)).trans ((aC.cell (p:=⟨w.heap.size+1,1,none⟩) (aG)).trans ((aA.cell (p:=⟨w.heap.size+1,1,none⟩) (bl)).trans q1)))⟩)
  (first
   |(go_at_call 164;refine(aO.out).mono ?_;rintro e w4 ⟨A5,m5,c5,ls,rfl,aP,aS,aE,aA⟩;have aR:=Aa aE;clear aE;have aH:=Nat.lt_of_lt_of_le al aA.size;have aG:=Nat.lt_of_lt_of_le bl aA.size)
   |(go_at_call 163;refine(za3 _ A5 m5 c5 _ w4 aP (by omega)).mono ?_;rintro e w6 ⟨A6,m6,c6,rfl,aN,aC⟩;have aF:=(aJ.below aA cl).below aC (Nat.lt_of_lt_of_le cl aA.size);have e0:=aF.cell 0;have e1:=aF.cell 1;have g0:=aF.frozen 0;have g1:=aF.frozen 1))
 go_wp2_with fail
 have k0:w6.cell? ⟨w.heap.size+1+1,0,none⟩=some (.bool false):=e0;have aM:w6.cell? ⟨w.heap.size+1+1,1,none⟩=some (.slice none 0 0):=e1;have hB:=aD.trans ((aA.trans (aC.mono aA.size)).mono aD.size);refine bodyPost_ret (v := .agg #[.bool (decide (sgn b (val ls)<0)),.slice A6 m6 c6]) (by simp[results,Tryz.results105,go_sem,k0,aM]) rfl ?_;have aE:=aR.out;rw[zak,zak] at aE;rw[←aE];exact⟨A6,m6,c6,rfl,aN.box aF _ _,zbO hB (by omega) _ _⟩
theorem zpE(b:Bool)(x1 x2:Nat)(A1 A2:Option Addr)(n1 c1 n2 c2:Nat)(w:World)(h1:DigI w A1 n1 c1 (digs x1))(h2:DigI w A2 n2 c2 (digs x2))(k1:n1≤524288)(k2:n2≤524288)(hx:x2≤x1) :
  Calls Tryz.prog 105 #[.agg #[.bool b,.slice A1 n1 c1],.agg #[.bool (!b),.slice A2 n2 c2]] w (RetZ w (sgn b x1+sgn (!b) x2)):=by
 rw[zr5 b x1 x2 hx];have aV:(b == !b)=false:=by cases b<;>rfl
 obtain⟨r,aO,hr⟩:∃ r:Int,0≤r∧Bn.ncmp x1 x2=r:=⟨Bn.ncmp x1 x2,by rcases Nat.lt_or_ge x2 x1 with h | h;(· rw[Bn.ncmp_gt h];decide);(· rw[show x1=x2 from by omega,Bn.ncmp_eq];exact Int.le_refl 0),rfl⟩
 have d0:decide (0≤r)=true:=by simpa using aO
 have HR:=Aa hr;have aQ:=Aa hx;clear hr hx aO;go_enter Tryz.func105,Tryz.ntmps105
 go_wp2_with fail
 have aG:Below w.heap.size w (((w.alloc (.cells #[.bool b,.slice A1 n1 c1] 97)).alloc (.cells #[.bool (!b),.slice A2 n2 c2] 97)).alloc (.cells #[.bool false,.slice none 0 0] 97)):=
  (((Below.refl _ _).alloc (Nat.le_refl _) _).alloc (by simp) _).alloc (by simp;omega) _
 have aK:CBlk (((w.alloc (.cells #[.bool b,.slice A1 n1 c1] 97)).alloc (.cells #[.bool (!b),.slice A2 n2 c2] 97)).alloc (.cells #[.bool false,.slice none 0 0] 97)) w.heap.size #[.bool b,.slice A1 n1 c1] 97:=
  (((CBlk.new w _ _ _ rfl).below ((Below.refl _ _).alloc (Nat.le_refl _) _) (by simp))).below ((Below.refl _ _).alloc (Nat.le_refl _) _) (by simp;omega)
 have aM:CBlk (((w.alloc (.cells #[.bool b,.slice A1 n1 c1] 97)).alloc (.cells #[.bool (!b),.slice A2 n2 c2] 97)).alloc (.cells #[.bool false,.slice none 0 0] 97)) (w.heap.size+1) #[.bool (!b),.slice A2 n2 c2] 97:=
  (CBlk.new (w.alloc (.cells #[.bool b,.slice A1 n1 c1] 97)) #[.bool (!b),.slice A2 n2 c2] 97 (w.heap.size+1) (by simp)).below ((Below.refl _ _).alloc (Nat.le_refl _) _) (by simp)
 have aI:CBlk (((w.alloc (.cells #[.bool b,.slice A1 n1 c1] 97)).alloc (.cells #[.bool (!b),.slice A2 n2 c2] 97)).alloc (.cells #[.bool false,.slice none 0 0] 97)) (w.heap.size+1+1) #[.bool false,.slice none 0 0] 97:=CBlk.new ((w.alloc (.cells #[.bool b,.slice A1 n1 c1] 97)).alloc (.cells #[.bool (!b),.slice A2 n2 c2] 97)) _ _ (w.heap.size+1+1) (by simp);generalize (((w.alloc (.cells #[.bool b,.slice A1 n1 c1] 97)).alloc (.cells #[.bool (!b),.slice A2 n2 c2] 97)).alloc (.cells #[.bool false,.slice none 0 0] 97))=w3 at *;have a0:w3.cell? ⟨w.heap.size,0,none⟩=some (.bool b):=aK.cell 0;have a1:w3.cell? ⟨w.heap.size,1,none⟩=some (.slice A1 n1 c1):=aK.cell 1;have q0:w3.cell? ⟨w.heap.size+1,0,none⟩=some (.bool (!b)):=aM.cell 0;have q1:w3.cell? ⟨w.heap.size+1,1,none⟩=some (.slice A2 n2 c2):=aM.cell 1;have al:=aK.lt;have bl:=aM.lt;have cl:=aI.lt;have aC:Below w.heap.size w w3.drew:=aG.drew;have aF:CBlk w3.drew (w.heap.size+1+1) #[.bool false,.slice none 0 0] 97:=aI;have hc:=zcg A1 A2 n1 c1 n2 c2 x1 x2 w3 (h1.later aG).rd (h2.later aG).rd (by omega) (by omega);rw[HR.out] at hc;have HC:=Aa hc;clear hc aC aF
 go_wp2_with fail
 refine HC.out.mono ?_;rintro e wc ⟨rfl,aD⟩
 replace a0:=(aD.cell (p:=⟨w.heap.size,0,none⟩) al).trans a0
 replace a1:=(aD.cell (p:=⟨w.heap.size,1,none⟩) al).trans a1
 replace q0:=(aD.cell (p:=⟨w.heap.size+1,0,none⟩) bl).trans q0
 replace q1:=(aD.cell (p:=⟨w.heap.size+1,1,none⟩) bl).trans q1
 replace aI:=aI.below aD cl
 replace aG:=Ad aG aD
 replace al:=Nat.lt_of_lt_of_le al aD.size
 replace bl:=Nat.lt_of_lt_of_le bl aD.size
 replace cl:=Nat.lt_of_lt_of_le cl aD.size
 clear aK aM aD HC;have aC:Below w.heap.size w wc.drew:=aG.drew;have aF:CBlk wc.drew (w.heap.size+1+1) #[.bool false,.slice none 0 0] 97:=aI;have aS:=Aa (zeu A1 A2 n1 c1 n2 c2 x1 x2 wc.drew (h1.later aC) (h2.later aC) aQ.out (by omega) (by omega));go_upto_region 4 with(fail)
 have aT:Hid (∀ m,(digs (x1-x2)).length=m→m≤524288):=fun m h=>by
  have h9:=zaa (Nat.sub_le x1 x2);have h8:=h1.len;omega
 go_region_held3 (fun w'=>w'.cell? ⟨w.heap.size,0,none⟩=some (.bool b)∧w'.cell? ⟨w.heap.size,1,none⟩=some (.slice A1 n1 c1)∧w'.cell? ⟨w.heap.size+1,0,none⟩=some (.bool (!b))∧w'.cell? ⟨w.heap.size+1,1,none⟩=some (.slice A2 n2 c2))
  (first | exact⟨a0,a1,q0,q1⟩ | exact⟨((aA.cell (p:=⟨w.heap.size,0,none⟩) (al)).trans a0),((aA.cell (p:=⟨w.heap.size,1,none⟩) (al)).trans a1),((aA.cell (p:=⟨w.heap.size+1,0,none⟩) (bl)).trans q0),((aA.cell (p:=⟨w.heap.size+1,1,none⟩) (bl)).trans q1)⟩ | exact⟨((aE.cell (p:=⟨w.heap.size,0,none⟩) (aL)).trans ((aA.cell (p:=⟨w.heap.size,0,none⟩) (al)).trans a0)),((aE.cell (p:=⟨w.heap.size,1,none⟩) (aL)).trans ((aA.cell (p:=⟨w.heap.size,1,none⟩) (al)).trans a1)),((aE.cell (p:=⟨w.heap.size+1,0,none⟩) (aJ)).trans ((aA.cell (p:=⟨w.heap.size+1,0,none⟩) (bl)).trans q0)),((aE.cell (p:=⟨w.heap.size+1,1,none⟩) (aJ)).trans ((aA.cell (p:=⟨w.heap.size+1,1,none⟩) (bl)).trans q1))⟩ | exact⟨((zes _ _ _ (by dsimp only;omega)).trans ((aE.cell (p:=⟨w.heap.size,0,none⟩) (aL)).trans ((aA.cell (p:=⟨w.heap.size,0,none⟩) (al)).trans a0))),((zes _ _ _ (by dsimp only;omega)).trans ((aE.cell (p:=⟨w.heap.size,1,none⟩) (aL)).trans ((aA.cell (p:=⟨w.heap.size,1,none⟩) (al)).trans a1))),((zes _ _ _ (by dsimp only;omega)).trans ((aE.cell (p:=⟨w.heap.size+1,0,none⟩) (aJ)).trans ((aA.cell (p:=⟨w.heap.size+1,0,none⟩) (bl)).trans q0))),((zes _ _ _ (by dsimp only;omega)).trans ((aE.cell (p:=⟨w.heap.size+1,1,none⟩) (aJ)).trans ((aA.cell (p:=⟨w.heap.size+1,1,none⟩) (bl)).trans q1)))⟩)
  (first
   |(go_at_call 166;refine(aS.out).mono ?_;rintro e w4 ⟨A5,m5,c5,rfl,aN,aA⟩;have aU:=aT.out m5 aN.len;have aL:=Nat.lt_of_lt_of_le al aA.size;have aJ:=Nat.lt_of_lt_of_le bl aA.size)
   |(go_at_call 163;refine(za3 _ A5 m5 c5 _ w4 aN (by omega)).mono ?_;rintro e w6 ⟨A6,m6,c6,rfl,aP,aE⟩;have aH:=(aF.below aA cl).below aE (Nat.lt_of_lt_of_le cl aA.size);have e0:=aH.cell 0;have e1:=aH.cell 1;have g0:=aH.frozen 0;have g1:=aH.frozen 1))
 go_wp2_with fail
 have k0:w6.cell? ⟨w.heap.size+1+1,0,none⟩=some (.bool false):=e0;have aR:w6.cell? ⟨w.heap.size+1+1,1,none⟩=some (.slice none 0 0):=e1;have hB:=aC.trans ((aA.trans (aE.mono aA.size)).mono aC.size);refine bodyPost_ret (v := .agg #[.bool (decide (sgn b (val (digs (x1-x2)))<0)),.slice A6 m6 c6]) (by simp[results,Tryz.results105,go_sem,k0,aR]) rfl ?_;rw[zak] at aP ⊢;exact⟨A6,m6,c6,rfl,aP.box aH _ _,zbO hB (by omega) _ _⟩
theorem zpH(b:Bool)(x1 x2:Nat)(A1 A2:Option Addr)(n1 c1 n2 c2:Nat)(w:World)(h1:DigI w A1 n1 c1 (digs x1))(h2:DigI w A2 n2 c2 (digs x2))(k1:n1≤524288)(k2:n2≤524288)(hx:x1<x2) :
  Calls Tryz.prog 105 #[.agg #[.bool b,.slice A1 n1 c1],.agg #[.bool (!b),.slice A2 n2 c2]] w (RetZ w (sgn b x1+sgn (!b) x2)):=by
 rw[zrY b x1 x2 (Nat.le_of_lt hx)];have aV:(b == !b)=false:=by cases b<;>rfl
 obtain⟨r,aS,hr⟩:∃ r:Int,r<0∧Bn.ncmp x1 x2=r:=⟨Bn.ncmp x1 x2,by rw[Bn.ncmp_lt hx];decide,rfl⟩;have d0:decide (0≤r)=false:=by simp;omega
 have HR:=Aa hr;have aP:=Aa hx;clear hr hx aS;go_enter Tryz.func105,Tryz.ntmps105
 go_wp2_with fail
 have aG:Below w.heap.size w (((w.alloc (.cells #[.bool b,.slice A1 n1 c1] 97)).alloc (.cells #[.bool (!b),.slice A2 n2 c2] 97)).alloc (.cells #[.bool false,.slice none 0 0] 97)):=
  (((Below.refl _ _).alloc (Nat.le_refl _) _).alloc (by simp) _).alloc (by simp;omega) _
 have aK:CBlk (((w.alloc (.cells #[.bool b,.slice A1 n1 c1] 97)).alloc (.cells #[.bool (!b),.slice A2 n2 c2] 97)).alloc (.cells #[.bool false,.slice none 0 0] 97)) w.heap.size #[.bool b,.slice A1 n1 c1] 97:=
  (((CBlk.new w _ _ _ rfl).below ((Below.refl _ _).alloc (Nat.le_refl _) _) (by simp))).below ((Below.refl _ _).alloc (Nat.le_refl _) _) (by simp;omega)
 have aM:CBlk (((w.alloc (.cells #[.bool b,.slice A1 n1 c1] 97)).alloc (.cells #[.bool (!b),.slice A2 n2 c2] 97)).alloc (.cells #[.bool false,.slice none 0 0] 97)) (w.heap.size+1) #[.bool (!b),.slice A2 n2 c2] 97:=
  (CBlk.new (w.alloc (.cells #[.bool b,.slice A1 n1 c1] 97)) #[.bool (!b),.slice A2 n2 c2] 97 (w.heap.size+1) (by simp)).below ((Below.refl _ _).alloc (Nat.le_refl _) _) (by simp)
 have aI:CBlk (((w.alloc (.cells #[.bool b,.slice A1 n1 c1] 97)).alloc (.cells #[.bool (!b),.slice A2 n2 c2] 97)).alloc (.cells #[.bool false,.slice none 0 0] 97)) (w.heap.size+1+1) #[.bool false,.slice none 0 0] 97:=CBlk.new ((w.alloc (.cells #[.bool b,.slice A1 n1 c1] 97)).alloc (.cells #[.bool (!b),.slice A2 n2 c2] 97)) _ _ (w.heap.size+1+1) (by simp);generalize (((w.alloc (.cells #[.bool b,.slice A1 n1 c1] 97)).alloc (.cells #[.bool (!b),.slice A2 n2 c2] 97)).alloc (.cells #[.bool false,.slice none 0 0] 97))=w3 at *;have a0:w3.cell? ⟨w.heap.size,0,none⟩=some (.bool b):=aK.cell 0;have a1:w3.cell? ⟨w.heap.size,1,none⟩=some (.slice A1 n1 c1):=aK.cell 1;have q0:w3.cell? ⟨w.heap.size+1,0,none⟩=some (.bool (!b)):=aM.cell 0;have q1:w3.cell? ⟨w.heap.size+1,1,none⟩=some (.slice A2 n2 c2):=aM.cell 1;have al:=aK.lt;have bl:=aM.lt;have cl:=aI.lt;have aC:Below w.heap.size w w3.drew:=aG.drew;have aF:CBlk w3.drew (w.heap.size+1+1) #[.bool false,.slice none 0 0] 97:=aI;have hc:=zcg A1 A2 n1 c1 n2 c2 x1 x2 w3 (h1.later aG).rd (h2.later aG).rd (by omega) (by omega);rw[HR.out] at hc;have HC:=Aa hc;clear hc aC aF
 go_wp2_with fail
 refine HC.out.mono ?_;rintro e wc ⟨rfl,aD⟩
 replace a0:=(aD.cell (p:=⟨w.heap.size,0,none⟩) al).trans a0
 replace a1:=(aD.cell (p:=⟨w.heap.size,1,none⟩) al).trans a1
 replace q0:=(aD.cell (p:=⟨w.heap.size+1,0,none⟩) bl).trans q0
 replace q1:=(aD.cell (p:=⟨w.heap.size+1,1,none⟩) bl).trans q1
 replace aI:=aI.below aD cl
 replace aG:=Ad aG aD
 replace al:=Nat.lt_of_lt_of_le al aD.size
 replace bl:=Nat.lt_of_lt_of_le bl aD.size
 replace cl:=Nat.lt_of_lt_of_le cl aD.size
 clear aK aM aD HC;have aC:Below w.heap.size w wc.drew:=aG.drew;have aF:CBlk wc.drew (w.heap.size+1+1) #[.bool false,.slice none 0 0] 97:=aI;have aR:=Aa (zeu A2 A1 n2 c2 n1 c1 x2 x1 wc.drew (h2.later aC) (h1.later aC) (Nat.le_of_lt aP.out) (by omega) (by omega));go_upto_region 5 with(fail)
 have aT:Hid (∀ m,(digs (x2-x1)).length=m→m≤524288):=fun m h=>by
  have h9:=zaa (Nat.sub_le x2 x1);have h8:=h2.len;omega
 go_region_held3 (fun w'=>w'.cell? ⟨w.heap.size,0,none⟩=some (.bool b)∧w'.cell? ⟨w.heap.size,1,none⟩=some (.slice A1 n1 c1)∧w'.cell? ⟨w.heap.size+1,0,none⟩=some (.bool (!b))∧w'.cell? ⟨w.heap.size+1,1,none⟩=some (.slice A2 n2 c2))
  (first | exact⟨a0,a1,q0,q1⟩ | exact⟨((aA.cell (p:=⟨w.heap.size,0,none⟩) (al)).trans a0),((aA.cell (p:=⟨w.heap.size,1,none⟩) (al)).trans a1),((aA.cell (p:=⟨w.heap.size+1,0,none⟩) (bl)).trans q0),((aA.cell (p:=⟨w.heap.size+1,1,none⟩) (bl)).trans q1)⟩ | exact⟨((aE.cell (p:=⟨w.heap.size,0,none⟩) (aL)).trans ((aA.cell (p:=⟨w.heap.size,0,none⟩) (al)).trans a0)),((aE.cell (p:=⟨w.heap.size,1,none⟩) (aL)).trans ((aA.cell (p:=⟨w.heap.size,1,none⟩) (al)).trans a1)),((aE.cell (p:=⟨w.heap.size+1,0,none⟩) (aJ)).trans ((aA.cell (p:=⟨w.heap.size+1,0,none⟩) (bl)).trans q0)),((aE.cell (p:=⟨w.heap.size+1,1,none⟩) (aJ)).trans ((aA.cell (p:=⟨w.heap.size+1,1,none⟩) (bl)).trans q1))⟩ | exact⟨((zes _ _ _ (by dsimp only;omega)).trans ((aE.cell (p:=⟨w.heap.size,0,none⟩) (aL)).trans ((aA.cell (p:=⟨w.heap.size,0,none⟩) (al)).trans a0))),((zes _ _ _ (by dsimp only;omega)).trans ((aE.cell (p:=⟨w.heap.size,1,none⟩) (aL)).trans ((aA.cell (p:=⟨w.heap.size,1,none⟩) (al)).trans a1))),((zes _ _ _ (by dsimp only;omega)).trans ((aE.cell (p:=⟨w.heap.size+1,0,none⟩) (aJ)).trans ((aA.cell (p:=⟨w.heap.size+1,0,none⟩) (bl)).trans q0))),((zes _ _ _ (by dsimp only;omega)).trans ((aE.cell (p:=⟨w.heap.size+1,1,none⟩) (aJ)).trans ((aA.cell (p:=⟨w.heap.size+1,1,none⟩) (bl)).trans q1)))⟩)
  (first
   |(go_at_call 166;refine(aR.out).mono ?_;rintro e w4 ⟨A5,m5,c5,rfl,aN,aA⟩;have aU:=aT.out m5 aN.len;have aL:=Nat.lt_of_lt_of_le al aA.size;have aJ:=Nat.lt_of_lt_of_le bl aA.size)
   |(go_at_call 163;refine(za3 _ A5 m5 c5 _ w4 aN (by omega)).mono ?_;rintro e w6 ⟨A6,m6,c6,rfl,aO,aE⟩;have aH:=(aF.below aA cl).below aE (Nat.lt_of_lt_of_le cl aA.size);have e0:=aH.cell 0;have e1:=aH.cell 1;have g0:=aH.frozen 0;have g1:=aH.frozen 1))
 go_wp2_with fail
 have k0:w6.cell? ⟨w.heap.size+1+1,0,none⟩=some (.bool false):=e0;have aQ:w6.cell? ⟨w.heap.size+1+1,1,none⟩=some (.slice none 0 0):=e1;have hB:=aC.trans ((aA.trans (aE.mono aA.size)).mono aC.size);refine bodyPost_ret (v := .agg #[.bool (decide (sgn (!b) (val (digs (x2-x1)))<0)),.slice A6 m6 c6]) (by simp[results,Tryz.results105,go_sem,k0,aQ]) rfl ?_;rw[zak] at aO ⊢;exact⟨A6,m6,c6,rfl,aO.box aH _ _,zbO hB (by omega) _ _⟩
theorem zn8(b1 b2:Bool)(x1 x2:Nat)(A1 A2:Option Addr)(n1 c1 n2 c2:Nat)(w:World)(h1:DigI w A1 n1 c1 (digs x1))(h2:DigI w A2 n2 c2 (digs x2))(k1:n1≤524288)(k2:n2≤524288) :
  Calls Tryz.prog 105 #[.agg #[.bool b1,.slice A1 n1 c1],.agg #[.bool b2,.slice A2 n2 c2]] w (RetZ w (sgn b1 x1+sgn b2 x2)):=by
 by_cases hb:b2=b1
 ·subst hb
  exact zlj b2 x1 x2 A1 A2 n1 c1 n2 c2 w h1 h2 k1 k2
 ·have e:b2 = !b1:=by cases b1<;>cases b2<;>simp at hb ⊢
  subst e
  rcases Nat.lt_or_ge x1 x2 with h | h
  ·exact zpH b1 x1 x2 A1 A2 n1 c1 n2 c2 w h1 h2 k1 k2 h
  ·exact zpE b1 x1 x2 A1 A2 n1 c1 n2 c2 w h1 h2 k1 k2 h
theorem zeL(A A':Option Addr)(n c n' c' x y:Nat)(w:World)(ha:DigI w A n c (digs x))(hb:DigI w A' n' c' (digs y))(hn:n≤1048576)(hn':n'≤1048576) :
  Calls Tryz.prog 65 #[.slice A n c,.slice A' n' c'] w (zpQ w (Nat.gcd x y)):=by
 go_enter Tryz.func65,Tryz.ntmps65
 go_wp2
 go_loopg [0,1] y (fun q av bv W=>∃ (A:Option Addr) (n c:Nat) (A':Option Addr) (n' c' u v:Nat),av = .slice A n c∧bv = .slice A' n' c'∧DigI W A n c (digs u)∧DigI W A' n' c' (digs v)∧n≤1048576∧n'≤1048576∧Hid (Nat.gcd u v=Nat.gcd x y)∧v≤q∧Below w.heap.size w W)
 case atStart=>exact⟨A,n,c,A',n',c',x,y,rfl,rfl,ha,hb,hn,hn',rfl,Nat.le_refl _,Below.refl _ _⟩
 case round=>
  obtain⟨A,n,c,A',n',c',u,v,rfl,rfl,h1,h2,hn,hn',hg,hq,aA⟩:=hrel;have aC:=h2.len
  by_cases hv:v=0
  ·obtain rfl:n'=0:=by rw[←aC,hv,zal];rfl
   have aG:Nat.gcd x y=u:=by rw[←hg.out,hv,Nat.gcd_zero_right]
   have HR:Hid (zpQ w (Nat.gcd x y) (.returned (.slice A n c)) wr):=⟨A,n,c,rfl,by rw[aG];exact h1,aA⟩;clear hv aG aC;go_wp2
   go_ret;exact HR.out
  ·have aD:0<v:=by omega
   have aK:0<n':=by rw[←aC];exact zap aD
   have aE:=Nat.mod_lt u aD;have HO:=Aa (zce A A' n c n' c' u v wr h1 h2 aD hn hn');have HG:Hid (Nat.gcd v (u%v)=Nat.gcd x y):=by
    show Nat.gcd v (u%v)=Nat.gcd x y
    rw[←hg.out,Nat.gcd_comm v (u%v),←Nat.gcd_rec,Nat.gcd_comm]
   have aJ:=Aa aC;have d1:decide (0<n')=true:=by simpa using aK
   clear hv aC
   go_wp2_with fail
   refine HO.out.mono ?_;rintro e w2 ⟨A3,n3,c3,A4,n4,c4,rfl,aM,aF,aH⟩;have aL:n4≤n':=by rw[←aF.len,←aJ.out];exact zaa (Nat.le_of_lt aE)
   have aI:=h2.later aH;generalize u%v=r at *;go_wp2
   go_roundg r
   case measure=>omega
   case rel=>exact⟨A',n',c',A4,n4,c4,v,r,rfl,rfl,aI,aF,hn',by omega,HG.out,Nat.le_refl _,aA.trans (aH.mono aA.size)⟩
theorem zg4{ls:List Nat}{k q n:Nat}(hk:ls.length=k)(h:val ls+B^k*q=n):val (ls++[q%B])+B^(k+1)*(q/B)=n:=by
 rw[zaQ,zaX,hk,Nat.pow_succ,Nat.mul_assoc,Nat.add_assoc,←Nat.mul_add,Nat.mod_add_div];exact h
theorem zha(n:Nat)(w:World)(hn:n≤9223372036854775807) :
  Calls Tryz.prog 107 #[.int .i64 (n:Int)] w (RetZ w (n:Int)):=by
 obtain⟨i0,aV,aR,bB,aZ⟩:=info_parts zcc;have aO:Below w.heap.size w (w.alloc (.cells #[.bool false,.slice none 0 0] 97)):=Ac;have hk:=CBlk.new w #[.bool false,.slice none 0 0] 97 _ rfl;have dn:decide ((n:Int)<0)=false:=by simp
 go_enter Tryz.func107,Tryz.ntmps107
 go_wp2
 generalize (w.alloc (.cells #[.bool false,.slice none 0 0] 97))=w0 at *
 go_loopg [0,3] n (fun g v0 v3 W=>∃ (q k:Nat) (ls:List Nat),v0 = .int .i64 (q:Int)∧q≤g∧q≤9223372036854775807∧k≤100∧q≤9223372036854775807/2^k∧W.ownsRow w0.heap.size 3 1 v3 k (ls.map natv)∧Hid (Wf ls∧ls.length=k∧val ls+B^k*q=n)∧Below w0.heap.size w0 W)
 case atStart=>exact⟨n,0,[],rfl,Nat.le_refl _,hn,by omega,by simpa using hn,World.ownsRow_nil _ _ _ _,⟨Wf.nil,rfl,by simp⟩,Below.refl _ _⟩
 case round=>
  obtain⟨q,k,ls,rfl,hq,bH,bE,aL,aC,hv,aD⟩:=hrel;have aS:=aD.size;obtain⟨hw,hl,aA⟩:=hv.out
  by_cases h0:q=0
  ·subst h0
   rw[Nat.mul_zero,Nat.add_zero] at aA;obtain⟨A9,c9,rfl,aX,aU,aQ⟩:=zcF aC;have hs:=za3 false A9 k c9 ls wr ⟨aQ,aX,aU,hw⟩ (by omega);rw[show sgn false (val ls)=(n:Int) from by rw[aA];rfl] at hs;have HS:=Aa hs;have aM:=hk.below aD hk.lt;have bG:=hk.lt;clear hs aA hl hw aC aQ hv aL
   go_wp2_with fail
   refine HS.out.mono ?_;rintro e w6 ⟨A6,m6,c6,rfl,bA,aJ⟩;have aF:=aM.below aJ aM.lt;have e0:w6.cell? ⟨w.heap.size,0,none⟩=some (.bool false):=aF.cell 0;have e1:w6.cell? ⟨w.heap.size,1,none⟩=some (.slice none 0 0):=aF.cell 1;have f0:w6.frozen? ⟨w.heap.size,0,none⟩=false:=aF.frozen 0;have f1:w6.frozen? ⟨w.heap.size,1,none⟩=false:=aF.frozen 1;have hB:=aO.trans ((aD.trans (aJ.mono aD.size)).mono aO.size);clear aJ
   go_wp2_with fail
   refine bodyPost_ret (v := .agg #[.bool (decide ((n:Int)<0)),.slice A6 m6 c6]) (by simp[results,Tryz.results107,go_sem,e0,e1]) rfl ?_;exact⟨A6,m6,c6,rfl,bA.box aF _ _,zbO hB (by omega) _ _⟩
  ·obtain⟨d,hd⟩:∃ d,d=q%B:=⟨_,rfl⟩
   obtain⟨q',aI⟩:∃ q',q'=q/B:=⟨_,rfl⟩;have aN:d<B:=by rw[hd];exact Nat.mod_lt _ zaS
   have aY:d<1000000000:=aN;have aP:q'≤q/2:=by rw[aI];unfold B;omega
   have ed:(q:Int)%1000000000=(d:Int):=by rw[hd];unfold B;omega
   have eq:(q:Int)/1000000000=(q':Int):=by rw[aI];unfold B;omega
   have aK:=zg4 hl aA;rw[←hd,←aI] at aK;have HI:Hid (Wf (ls++[d])∧(ls++[d]).length=k+1∧val (ls++[d])+B^(k+1)*q'=n):=⟨hw.append (Wf.cons aN Wf.nil),by simp[hl],aK⟩;have aG:q'≤9223372036854775807/2^(k+1):=by
    rw[Nat.pow_succ,←Nat.div_div_eq_div_mul];exact Nat.le_trans aP (Nat.div_le_div_right aL)
   have aW:k<63:=by
    rcases Nat.lt_or_ge k 63 with h9 | h9
    ·exact h9
    ·exfalso
     have:9223372036854775807/2^k≤9223372036854775807/2^63:=Nat.div_le_div_left (Nat.pow_le_pow_right (by omega) h9) (Nat.two_pow_pos _);have bF:9223372036854775807/2^63=0:=by decide
     omega
   have aT:=Aa aG;have d1:((q:Int) != 0)=true:=by rw[bne_iff_ne];omega
   have d2:((q:Int)==0)=false:=by rw[beq_eq_false_iff_ne];omega
   have d3:decide ((d:Int)<0)=false:=by simp
   have bD:q'<q:=by omega
   clear hd aI aK aG aL aA hl hw hv aP
   go_wp2_with (at_builtin;refine wpList_append_own _ rfl _ _ 78 rfl w0.heap.size 3 i0 (.int .i64 0) 1 8 Tryz.underlying78 aV aR bB aZ rfl (by decide) _ _ _ rfl (aC.alloc _) ⟨wr.heap.size,0,none⟩ 1 1 [.int .i64 (d:Int)] rfl rfl ?c1 ?c2 ?c3 ?c4 ?c5 ?_)
   case c1=>exact cell_one_new _ _ _
   case c2=>intro u hu;simp at hu;subst hu;rfl
   case c3=>unfold maxLen;omega
   case c4=>omega
   case c5=>simp;omega
   intro v' w2 aH aE _;have bC:Below w0.heap.size w0 w2:=(aD.alloc aS _).grown aE (by simp;omega) (fun g hg=>(World.ownsRow.lt aC g hg).1);clear aE aC;go_wp2
   go_roundg q'
   case measure=>omega
   case rel=>exact⟨q',k+1,ls++[d],rfl,Nat.le_refl _,by omega,by omega,aT.out,by rw[List.map_append];exact aH,HI.out,bC⟩
theorem zeP(b:Bool)(x:Nat)(A:Option Addr)(n c:Nat)(w:World)(h:DigI w A n c (digs x))(hb:b=true→0<x)(hn:n≤524288) :
  Calls Tryz.prog 140 #[.agg #[.bool b,.slice A n c]] w fun e w'=>(∃ s:ByteArray,e = .returned (.string s)∧s.data.toList=sgnT b (Lib.decDigits x))∧Below w.heap.size w w':=by
 have aI:Below w.heap.size w (w.alloc (.cells #[.bool b,.slice A n c] 97)):=Ac;have hk:=CBlk.new w #[.bool b,.slice A n c] 97 _ rfl;have h1:=h.later aI;have aC:=h.len;go_enter Tryz.func140,Tryz.ntmps140
 go_upto_region 1 with(fail)
 generalize (w.alloc (.cells #[.bool b,.slice A n c] 97))=w1 at *;have a0:w1.cell? ⟨w.heap.size,0,none⟩=some (.bool b):=hk.cell 0;have a1:w1.cell? ⟨w.heap.size,1,none⟩=some (.slice A n c):=hk.cell 1
 by_cases hx:x=0
 ·obtain rfl:n=0:=by rw[←aC,hx,zal];rfl
  obtain rfl:b=false:=by
   cases b
   ·rfl
   ·exact absurd (hb rfl) (by omega)
  have hd:Hid ((⟨#[48]⟩:ByteArray).data.toList=sgnT false (Lib.decDigits x)):=by
   show[48]=sgnT false (Lib.decDigits x)
   rw[hx,Dec.dec_lt (by omega)];rfl
  clear hx hb aC;go_wp2
  go_ret;exact⟨⟨_,rfl,hd.out⟩,aI⟩
 ·have aU:0<x:=by omega
  have bH:0<n:=by have:=zap aU;omega
  have aL:x<B^n:=by have:=zac x;rwa [aC] at this
  have aQ:=zaG aU;rw[aC] at aQ;have aF:∀ j,j≤n-1→0<x/B^j:=fun j hj=>Nat.div_pos (Nat.le_trans (Nat.pow_le_pow_right zaS hj) aQ) (Nat.pow_pos zaS)
  have aD:x/B^(n-1)<B:=Nat.div_lt_of_lt_mul (by rw[←Nat.pow_succ,show(n-1).succ=n from by omega];exact aL);obtain⟨n1,bE⟩:∃ n1,n=n1+1:=⟨n-1,by omega⟩;subst bE;rw[Nat.add_sub_cancel] at aF aD;obtain⟨ad,aZ,rfl,bM,aA⟩:=h1.rd.cellM (k:=n1) (by omega);have aV:(digs x)[n1]=x/B^n1:=by
   have h9:=zcP n1 x;rw[Dn.getD_in aZ,Nat.mod_eq_of_lt aD] at h9;exact h9
  unfold natv at aA;obtain⟨tw,aH⟩:∃ tw,tw=x/B^n1:=⟨_,rfl⟩;rw[aV,←aH] at aA;rw[←aH] at aD;have aW:tw<1000000000:=aD;have aX:=Aa (zkP bH aL);have aM:=Aa aF;have aY:=Aa aH;have e1:((n1+1:Nat):Int)-1=(n1:Int):=by omega
  have e2:((n1+1:Nat):Int)-2=(n1:Int)-1:=by omega
  generalize hN:n1+1=N at *;have HN:=Aa hN;have bI:n1<N:=by omega
  have d0:((N:Int)==0)=false:=by rw[beq_eq_false_iff_ne];omega
  have aP:=Aa (zc0 tw 1 w1 (by omega) (by omega));rw[zih] at aP;clear aF aV aH hx hb aL aQ aC hN
  go_wp2_with fail
  refine aP.out.mono ?_;rintro e w2 ⟨⟨s0,rfl,aT⟩,aO⟩;obtain rfl:w1=w2:=aO;have bC:=Aa aT;clear aT aP e1 aA;go_wp2
  go_loopg [3,4] n1 (fun g v3 v4 W=>∃ (j:Nat) (s:ByteArray),j≤n1∧v4 = .int .i64 ((j:Int)-1)∧v3 = .string s∧j≤g∧Hid (s.data.toList=Lib.decDigits (x/B^j))∧w1=W)
  case atStart=>exact⟨n1,s0,Nat.le_refl _,by first | rfl | go_num,rfl,Nat.le_refl _,by rw[←aY.out];exact bC.out,rfl⟩
  case round=>
   obtain⟨j,s,hj,rfl,rfl,bJ,hs,hW⟩:=hrel;obtain rfl:w1=wr:=hW;have bF:s.size≤9*N:=by
    have h9:=aX.out j;rw[←hs.out] at h9
    simpa using h9
   by_cases h0:0<j
   ·obtain⟨q,rfl⟩:∃ q,j=q+1:=⟨j-1,by omega⟩
    have e3:((q+1:Nat):Int)-1=(q:Int):=by omega
    rw[e3];obtain⟨bK,aG,ea,_,aA⟩:=h1.rd.cellM (k:=q) (by omega);injection ea with ea
    subst ea;have aS:=zaq x _ (List.getElem_mem aG);have aR:=zm2 x q (aM.out (q+1) hj);rw[←zcP,Dn.getD_in aG] at aR;unfold natv at aA;generalize (digs x)[q]=v at *;have bG:v<1000000000:=aS;have aK:=zc0 v 9 w1 (by omega) (by omega);rw[zmr aS] at aK;have bD:=Aa aK;have bA:=Aa aR;clear aR aK e3
    go_wp2_with fail
    refine bD.out.mono ?_;rintro e w2 ⟨⟨s9,rfl,aJ⟩,aO⟩;obtain rfl:w1=w2:=aO;have bL:=Aa aJ;have HI:Hid ((s++s9).data.toList=Lib.decDigits (x/B^q)):=by
     show(s++s9).data.toList=_
     rw[ByteArray.data_append,Array.toList_append,hs.out,aJ,bA.out]
    have aN:s9.size=9:=by
     have h9:s9.data.toList.length=s9.size:=Array.length_toList;rw[aJ,Dec.pad_length] at h9;exact h9.symm
    have bB:s9.size≤9:=by omega
    clear aJ aN;go_wp2
    go_roundg q
    case measure=>omega
    case rel=>exact⟨q,s++s9,by omega,rfl,rfl,Nat.le_refl _,HI.out,rfl⟩
   ·obtain rfl:j=0:=by omega
    have aE:s.data.toList=Lib.decDigits x:=by have:=hs.out;simpa using this
    cases b
    ·have HR:Hid (s.data.toList=sgnT false (Lib.decDigits x)):=aE
     clear aE hs;go_wp2
     go_ret;exact⟨⟨s,rfl,HR.out⟩,aI⟩
    ·have HR:Hid (((⟨#[45]⟩:ByteArray)++s).data.toList=sgnT true (Lib.decDigits x)):=by
      show((⟨#[45]⟩:ByteArray)++s).data.toList=_
      rw[ByteArray.data_append,Array.toList_append,aE];rfl
     clear aE hs;go_wp2
     go_ret;exact⟨⟨_,rfl,HR.out⟩,aI⟩
end Go.Proofs.YtbkgkoenppkhpaaGreatDoor
