/- Contracts of package number's rational numbers: times. -/
import Derived.Deep.RegionHeld3
import Derived.Test.YtbkgkoenppkhpaaGreatDoorBRead2
import Derived.Lib.AppendIntMem
set_option maxRecDepth 100000
set_option maxHeartbeats 4000000
namespace Go.Proofs.YtbkgkoenppkhpaaGreatDoor
section
open Go.RowKit Bn
theorem zdT{A:Option Addr}{n c m k x y:Nat}{w:World}(h:NatS w w.heap.size A n c (x*y))(hx:(digs x).length≤m)(hy:(digs y).length≤k):n≤m+k:=by
 rw[←h.len];refine zab ?_;rw[Nat.pow_add];have h1:=zac x;have h2:=zac y;have h3:B^(digs x).length≤B^m:=Nat.pow_le_pow_right zaS hx;have h4:B^(digs y).length≤B^k:=Nat.pow_le_pow_right zaS hy;exact Nat.mul_lt_mul'' (Nat.lt_of_lt_of_le h1 h3) (Nat.lt_of_lt_of_le h2 h4)
theorem far3{g:Nat}(w:World)(u v x:Value){q:Addr}(h:g≠q.block):(((w.setCell ⟨g,0,none⟩ u).setCell ⟨g,1,none⟩ v).setCell ⟨g,2,none⟩ x).cell? q=w.cell? q:=by
 rw[World.cell?_setCell_far _ _ _ _ (by exact h),World.cell?_setCell_far _ _ _ _ (by exact h),World.cell?_setCell_far _ _ _ _ (by exact h)]
theorem ziF(p q:Q)(A1 A2 A3 A4:Option Addr)(n1 c1 n2 c2 n3 c3 n4 c4:Nat)(w:World)(hT:Tabs w)
 (h1:NatS w w.heap.size A1 n1 c1 p.top)(h2:NatS w w.heap.size A2 n2 c2 p.bot)(h3:NatS w w.heap.size A3 n3 c3 q.top)(h4:NatS w w.heap.size A4 n4 c4 q.bot)
 (k1:n1≤268435456)(k2:n2≤268435456)(k3:n3≤268435456)(k4:n4≤268435456) :
  Calls Tryz.prog 145 #[.agg #[.bool p.neg,.slice A1 n1 c1,.slice A2 n2 c2],.agg #[.bool q.neg,.slice A3 n3 c3,.slice A4 n4 c4]] w (za5 w (lowQ (p.neg != q.neg) (p.top*q.top) (p.bot*q.bot))):=by
 go_enter Tryz.func145,Tryz.ntmps145
 go_wp2_with fail
 have aV:Below w.heap.size w (((w.alloc (.cells #[.bool p.neg,.slice A1 n1 c1,.slice A2 n2 c2] 87)).alloc (.cells #[.bool q.neg,.slice A3 n3 c3,.slice A4 n4 c4] 87)).alloc (.cells #[.bool false,.slice none 0 0,.slice none 0 0] 87)):=
  (((Below.refl _ _).alloc (Nat.le_refl _) _).alloc (by simp) _).alloc (by simp;omega) _
 have aR:zae (((w.alloc (.cells #[.bool p.neg,.slice A1 n1 c1,.slice A2 n2 c2] 87)).alloc (.cells #[.bool q.neg,.slice A3 n3 c3,.slice A4 n4 c4] 87)).alloc (.cells #[.bool false,.slice none 0 0,.slice none 0 0] 87)) w.heap.size p.neg (.slice A1 n1 c1) (.slice A2 n2 c2):=
  (((zae.new w _ _ _).below ((Below.refl _ _).alloc (Nat.le_refl _) _) (by simp))).below ((Below.refl _ _).alloc (Nat.le_refl _) _) (by simp;omega)
 have aU:zae (((w.alloc (.cells #[.bool p.neg,.slice A1 n1 c1,.slice A2 n2 c2] 87)).alloc (.cells #[.bool q.neg,.slice A3 n3 c3,.slice A4 n4 c4] 87)).alloc (.cells #[.bool false,.slice none 0 0,.slice none 0 0] 87)) (w.heap.size+1) q.neg (.slice A3 n3 c3) (.slice A4 n4 c4):=by
  have h:=(zae.new (w.alloc (.cells #[.bool p.neg,.slice A1 n1 c1,.slice A2 n2 c2] 87)) q.neg (.slice A3 n3 c3) (.slice A4 n4 c4)).below ((Below.refl _ _).alloc (Nat.le_refl _) (.cells #[.bool false,.slice none 0 0,.slice none 0 0] 87)) (by simp)
  simpa using h
 have aT:zae (((w.alloc (.cells #[.bool p.neg,.slice A1 n1 c1,.slice A2 n2 c2] 87)).alloc (.cells #[.bool q.neg,.slice A3 n3 c3,.slice A4 n4 c4] 87)).alloc (.cells #[.bool false,.slice none 0 0,.slice none 0 0] 87)) (w.heap.size+1+1) false (.slice none 0 0) (.slice none 0 0):=by
  have h:=zae.new ((w.alloc (.cells #[.bool p.neg,.slice A1 n1 c1,.slice A2 n2 c2] 87)).alloc (.cells #[.bool q.neg,.slice A3 n3 c3,.slice A4 n4 c4] 87)) false (.slice none 0 0) (.slice none 0 0)
  simpa using h
 generalize (((w.alloc (.cells #[.bool p.neg,.slice A1 n1 c1,.slice A2 n2 c2] 87)).alloc (.cells #[.bool q.neg,.slice A3 n3 c3,.slice A4 n4 c4] 87)).alloc (.cells #[.bool false,.slice none 0 0,.slice none 0 0] 87))=w3 at *;obtain⟨a0,a1,a2,_,_,_,al⟩:=aR.cells;obtain⟨b0,b1,b2,_,_,_,bl⟩:=aU.cells;have aD:Below w.heap.size w w3.drew:=aV.drew;have aQ:=zaJ A1 A3 n1 c1 n3 c3 p.top q.top w3.drew (h1.later aD) (h3.later aD) (by omega) (by omega);have aK:zae w3.drew (w.heap.size+1+1) false (.slice none 0 0) (.slice none 0 0):=aT;have cl:w.heap.size+1+1<w3.drew.heap.size:=aK.cells.2.2.2.2.2.2;have aS:=Aa aQ;clear aQ
 go_region_held3 (fun w'=>w'.cell? ⟨w.heap.size,0,none⟩=some (.bool p.neg)∧w'.cell? ⟨w.heap.size,1,none⟩=some (.slice A1 n1 c1)∧w'.cell? ⟨w.heap.size,2,none⟩=some (.slice A2 n2 c2)∧w'.cell? ⟨w.heap.size+1,0,none⟩=some (.bool q.neg)∧w'.cell? ⟨w.heap.size+1,1,none⟩=some (.slice A3 n3 c3)∧w'.cell? ⟨w.heap.size+1,2,none⟩=some (.slice A4 n4 c4))
  (first | exact⟨a0,a1,a2,b0,b1,b2⟩ | exact⟨((aA.cell (p:=⟨w.heap.size,0,none⟩) al).trans a0),((aA.cell (p:=⟨w.heap.size,1,none⟩) al).trans a1),((aA.cell (p:=⟨w.heap.size,2,none⟩) al).trans a2),((aA.cell (p:=⟨w.heap.size+1,0,none⟩) bl).trans b0),((aA.cell (p:=⟨w.heap.size+1,1,none⟩) bl).trans b1),((aA.cell (p:=⟨w.heap.size+1,2,none⟩) bl).trans b2)⟩ | exact⟨((aC.cell (p:=⟨w.heap.size,0,none⟩) (aG)).trans ((aA.cell (p:=⟨w.heap.size,0,none⟩) al).trans a0)),((aC.cell (p:=⟨w.heap.size,1,none⟩) (aG)).trans ((aA.cell (p:=⟨w.heap.size,1,none⟩) al).trans a1)),((aC.cell (p:=⟨w.heap.size,2,none⟩) (aG)).trans ((aA.cell (p:=⟨w.heap.size,2,none⟩) al).trans a2)),((aC.cell (p:=⟨w.heap.size+1,0,none⟩) (aF)).trans ((aA.cell (p:=⟨w.heap.size+1,0,none⟩) bl).trans b0)),((aC.cell (p:=⟨w.heap.size+1,1,none⟩) (aF)).trans ((aA.cell (p:=⟨w.heap.size+1,1,none⟩) bl).trans b1)),((aC.cell (p:=⟨w.heap.size+1,2,none⟩) (aF)).trans ((aA.cell (p:=⟨w.heap.size+1,2,none⟩) bl).trans b2))⟩ | exact⟨((aE.cell (p:=⟨w.heap.size,0,none⟩) (aJ)).trans ((aC.cell (p:=⟨w.heap.size,0,none⟩) (aG)).trans ((aA.cell (p:=⟨w.heap.size,0,none⟩) al).trans a0))),((aE.cell (p:=⟨w.heap.size,1,none⟩) (aJ)).trans ((aC.cell (p:=⟨w.heap.size,1,none⟩) (aG)).trans ((aA.cell (p:=⟨w.heap.size,1,none⟩) al).trans a1))),((aE.cell (p:=⟨w.heap.size,2,none⟩) (aJ)).trans ((aC.cell (p:=⟨w.heap.size,2,none⟩) (aG)).trans ((aA.cell (p:=⟨w.heap.size,2,none⟩) al).trans a2))),((aE.cell (p:=⟨w.heap.size+1,0,none⟩) (aI)).trans ((aC.cell (p:=⟨w.heap.size+1,0,none⟩) (aF)).trans ((aA.cell (p:=⟨w.heap.size+1,0,none⟩) bl).trans b0))),((aE.cell (p:=⟨w.heap.size+1,1,none⟩) (aI)).trans ((aC.cell (p:=⟨w.heap.size+1,1,none⟩) (aF)).trans ((aA.cell (p:=⟨w.heap.size+1,1,none⟩) bl).trans b1))),((aE.cell (p:=⟨w.heap.size+1,2,none⟩) (aI)).trans ((aC.cell (p:=⟨w.heap.size+1,2,none⟩) (aF)).trans ((aA.cell (p:=⟨w.heap.size+1,2,none⟩) bl).trans b2)))⟩ | exact⟨((far3 _ _ _ _ (by dsimp only;omega)).trans ((aE.cell (p:=⟨w.heap.size,0,none⟩) (aJ)).trans ((aC.cell (p:=⟨w.heap.size,0,none⟩) (aG)).trans ((aA.cell (p:=⟨w.heap.size,0,none⟩) al).trans a0)))),((far3 _ _ _ _ (by dsimp only;omega)).trans ((aE.cell (p:=⟨w.heap.size,1,none⟩) (aJ)).trans ((aC.cell (p:=⟨w.heap.size,1,none⟩) (aG)).trans ((aA.cell (p:=⟨w.heap.size,1,none⟩) al).trans a1)))),((far3 _ _ _ _ (by dsimp only;omega)).trans ((aE.cell (p:=⟨w.heap.size,2,none⟩) (aJ)).trans ((aC.cell (p:=⟨w.heap.size,2,none⟩) (aG)).trans ((aA.cell (p:=⟨w.heap.size,2,none⟩) al).trans a2)))),((far3 _ _ _ _ (by dsimp only;omega)).trans ((aE.cell (p:=⟨w.heap.size+1,0,none⟩) (aI)).trans ((aC.cell (p:=⟨w.heap.size+1,0,none⟩) (aF)).trans ((aA.cell (p:=⟨w.heap.size+1,0,none⟩) bl).trans b0)))),((far3 _ _ _ _ (by dsimp only;omega)).trans ((aE.cell (p:=⟨w.heap.size+1,1,none⟩) (aI)).trans ((aC.cell (p:=⟨w.heap.size+1,1,none⟩) (aF)).trans ((aA.cell (p:=⟨w.heap.size+1,1,none⟩) bl).trans b1)))),((far3 _ _ _ _ (by dsimp only;omega)).trans ((aE.cell (p:=⟨w.heap.size+1,2,none⟩) (aI)).trans ((aC.cell (p:=⟨w.heap.size+1,2,none⟩) (aF)).trans ((aA.cell (p:=⟨w.heap.size+1,2,none⟩) bl).trans b2))))⟩)
  (first
   |(go_at_call_of 90 (Value.slice A1 n1 c1);refine(aS.out).mono ?_;rintro e w4 ⟨A5,m5,c5,rfl,aP,aA⟩;have aG:=Nat.lt_of_lt_of_le al aA.size;have aF:=Nat.lt_of_lt_of_le bl aA.size)
   |(go_at_call_of 90 (Value.slice A2 n2 c2);refine(zaJ A2 A4 n2 c2 n4 c4 p.bot q.bot w4 ((h2.later aD).later aA) ((h4.later aD).later aA) (by omega) (by omega)).mono ?_;rintro e w6 ⟨A6,m6,c6,rfl,aO,aC⟩;have aJ:=Nat.lt_of_lt_of_le aG aC.size;have aI:=Nat.lt_of_lt_of_le aF aC.size)
   |(go_at_call 88;refine(zbH _ A5 A6 m5 c5 m6 c6 _ _ w6 (((hT.later aD).later aA).later aC) (aP.later aC) aO (by have:=zdT aP (Nat.le_of_eq h1.len) (Nat.le_of_eq h3.len);omega) (by have:=zdT aO (Nat.le_of_eq h2.len) (Nat.le_of_eq h4.len);omega)).mono ?_;rintro e w7 ⟨v,rfl,⟨A7,m7,c7,A8,m8,c8,rfl,h7,h8⟩,aE⟩;have aM:=((aK.below aA cl).below aC (Nat.lt_of_lt_of_le cl aA.size)).below aE (Nat.lt_of_lt_of_le (Nat.lt_of_lt_of_le cl aA.size) aC.size);obtain⟨e0,e1,e2,g0,g1,g2,gl⟩:=aM.cells))
 go_wp2_with fail
 have aH:Below w.heap.size w w7:=by
  have s5:=aD.size;have s6:=aA.size;have s7:=aC.size;exact((aD.trans (aA.mono s5)).trans (aC.mono (by omega))).trans (aE.mono (by omega))
 have aL:=zao aH (g:=w.heap.size+1+1) (by omega) (.bool (lowQ (!p.neg==q.neg) (p.top*q.top) (p.bot*q.bot)).neg) (.slice A7 m7 c7) (.slice A8 m8 c8);have aN:(!p.neg==q.neg)=(p.neg != q.neg):=by cases p.neg<;>cases q.neg<;>rfl
 refine bodyPost_ret (v := .agg #[.bool (lowQ (!p.neg==q.neg) (p.top*q.top) (p.bot*q.bot)).neg,.slice A7 m7 c7,.slice A8 m8 c8]) (by simp[results,Tryz.results145,go_sem,e0,e1,e2]) rfl ⟨_,rfl,⟨A7,m7,c7,A8,m8,c8,by rw[aN],?_,?_⟩,aL⟩
 ·rw[zah,←aN];exact h7.res aM _ _ _
 ·rw[zah,←aN];exact h8.res aM _ _ _
def rcmp (p q:Q):Int:=if p.neg=q.neg then(if p.neg then -(ncmp (p.top*q.bot) (q.top*p.bot)) else ncmp (p.top*q.bot) (q.top*p.bot)) else(if q.neg then 1 else -1)
theorem zk5(x y:Nat):ncmp x y = -1∨ncmp x y=0∨ncmp x y=1:=by
 unfold ncmp;split<;>(try split)<;>simp
theorem zrT:wrap64 1=1:=by simp[wrap64]
theorem zrW:wrap64 0=0:=by simp[wrap64]
theorem zqY:wrap64 (-1) = -1:=by simp[wrap64]
theorem zgo(b:Bool)(t1 u1 t2 u2:Nat)(A1 A2 A3 A4:Option Addr)(n1 c1 n2 c2 n3 c3 n4 c4:Nat)(w:World)
 (h1:NatS w w.heap.size A1 n1 c1 t1)(h2:NatS w w.heap.size A2 n2 c2 u1)(h3:NatS w w.heap.size A3 n3 c3 t2)(h4:NatS w w.heap.size A4 n4 c4 u2)
 (k1:n1≤268435456)(k2:n2≤268435456)(k3:n3≤268435456)(k4:n4≤268435456) :
  Calls Tryz.prog 81 #[.agg #[.bool b,.slice A1 n1 c1,.slice A2 n2 c2],.agg #[.bool b,.slice A3 n3 c3,.slice A4 n4 c4]] w
   fun e w'=>e = .returned (.int .i64 (if b then -(ncmp (t1*u2) (t2*u1)) else ncmp (t1*u2) (t2*u1)))∧Below w.heap.size w w':=by
 go_enter Tryz.func81,Tryz.ntmps81
 cases b
 ·go_wp2_with fail
  have aM:Below w.heap.size w ((w.alloc (.cells #[.bool false,.slice A1 n1 c1,.slice A2 n2 c2] 87)).alloc (.cells #[.bool false,.slice A3 n3 c3,.slice A4 n4 c4] 87)):=((Below.refl _ _).alloc (Nat.le_refl _) _).alloc (by simp) _;have aI:zae ((w.alloc (.cells #[.bool false,.slice A1 n1 c1,.slice A2 n2 c2] 87)).alloc (.cells #[.bool false,.slice A3 n3 c3,.slice A4 n4 c4] 87)) w.heap.size false (.slice A1 n1 c1) (.slice A2 n2 c2):=(zae.new w _ _ _).below ((Below.refl _ _).alloc (Nat.le_refl _) _) (by simp);have aL:zae ((w.alloc (.cells #[.bool false,.slice A1 n1 c1,.slice A2 n2 c2] 87)).alloc (.cells #[.bool false,.slice A3 n3 c3,.slice A4 n4 c4] 87)) (w.heap.size+1) false (.slice A3 n3 c3) (.slice A4 n4 c4):=by
   have h:=zae.new (w.alloc (.cells #[.bool false,.slice A1 n1 c1,.slice A2 n2 c2] 87)) false (.slice A3 n3 c3) (.slice A4 n4 c4)
   simpa using h
  generalize ((w.alloc (.cells #[.bool false,.slice A1 n1 c1,.slice A2 n2 c2] 87)).alloc (.cells #[.bool false,.slice A3 n3 c3,.slice A4 n4 c4] 87))=w3 at *;obtain⟨a0,a1,a2,_,_,_,al⟩:=aI.cells;obtain⟨b0,b1,b2,_,_,_,bl⟩:=aL.cells;have aC:Below w.heap.size w w3.drew:=aM.drew;have aH:=zaJ A1 A4 n1 c1 n4 c4 t1 u2 w3.drew (h1.later aC) (h4.later aC) (by omega) (by omega);have aJ:=Aa aH;clear aH
  go_region_held3 (fun w'=>w'.cell? ⟨w.heap.size,0,none⟩=some (.bool false)∧w'.cell? ⟨w.heap.size,1,none⟩=some (.slice A1 n1 c1)∧w'.cell? ⟨w.heap.size,2,none⟩=some (.slice A2 n2 c2)∧w'.cell? ⟨w.heap.size+1,0,none⟩=some (.bool false)∧w'.cell? ⟨w.heap.size+1,1,none⟩=some (.slice A3 n3 c3)∧w'.cell? ⟨w.heap.size+1,2,none⟩=some (.slice A4 n4 c4))
   (first | exact⟨a0,a1,a2,b0,b1,b2⟩ | exact⟨((aA.cell (p:=⟨w.heap.size,0,none⟩) al).trans a0),((aA.cell (p:=⟨w.heap.size,1,none⟩) al).trans a1),((aA.cell (p:=⟨w.heap.size,2,none⟩) al).trans a2),((aA.cell (p:=⟨w.heap.size+1,0,none⟩) bl).trans b0),((aA.cell (p:=⟨w.heap.size+1,1,none⟩) bl).trans b1),((aA.cell (p:=⟨w.heap.size+1,2,none⟩) bl).trans b2)⟩ | exact⟨((aD.cell (p:=⟨w.heap.size,0,none⟩) (aG)).trans ((aA.cell (p:=⟨w.heap.size,0,none⟩) al).trans a0)),((aD.cell (p:=⟨w.heap.size,1,none⟩) (aG)).trans ((aA.cell (p:=⟨w.heap.size,1,none⟩) al).trans a1)),((aD.cell (p:=⟨w.heap.size,2,none⟩) (aG)).trans ((aA.cell (p:=⟨w.heap.size,2,none⟩) al).trans a2)),((aD.cell (p:=⟨w.heap.size+1,0,none⟩) (aF)).trans ((aA.cell (p:=⟨w.heap.size+1,0,none⟩) bl).trans b0)),((aD.cell (p:=⟨w.heap.size+1,1,none⟩) (aF)).trans ((aA.cell (p:=⟨w.heap.size+1,1,none⟩) bl).trans b1)),((aD.cell (p:=⟨w.heap.size+1,2,none⟩) (aF)).trans ((aA.cell (p:=⟨w.heap.size+1,2,none⟩) bl).trans b2))⟩)
   (first
    |(go_at_call_of 90 (Value.slice A1 n1 c1);refine(aJ.out).mono ?_;rintro e w4 ⟨A5,m5,c5,rfl,aK,aA⟩;have aG:=Nat.lt_of_lt_of_le al aA.size;have aF:=Nat.lt_of_lt_of_le bl aA.size)
    |(go_at_call_of 90 (Value.slice A3 n3 c3);refine(zaJ A3 A2 n3 c3 n2 c2 t2 u1 w4 ((h3.later aC).later aA) ((h2.later aC).later aA) (by omega) (by omega)).mono ?_;rintro e w6 ⟨A6,m6,c6,rfl,aN,aD⟩;have aP:=Nat.lt_of_lt_of_le aG aD.size;have aO:=Nat.lt_of_lt_of_le aF aD.size)
    |(go_at_call 130;refine(zaU A5 A6 m5 c5 m6 c6 _ _ w6 (aK.later aD) aN).mono ?_;rintro e w7 ⟨rfl,nq,rfl⟩))
  have aE:Below w.heap.size w (w6.drewN nq):=by
   have s5:=aC.size;have s6:=aA.size;exact zad ((aC.trans (aA.mono s5)).trans (aD.mono (by omega))) nq
  go_wp2
  refine bodyPost_ret (v := .int .i64 (ncmp (t1*u2) (t2*u1))) (by simp[results,Tryz.results81,go_sem]) rfl ⟨rfl,aE⟩
 ·go_wp2_with fail
  have aM:Below w.heap.size w ((w.alloc (.cells #[.bool true,.slice A1 n1 c1,.slice A2 n2 c2] 87)).alloc (.cells #[.bool true,.slice A3 n3 c3,.slice A4 n4 c4] 87)):=((Below.refl _ _).alloc (Nat.le_refl _) _).alloc (by simp) _;have aI:zae ((w.alloc (.cells #[.bool true,.slice A1 n1 c1,.slice A2 n2 c2] 87)).alloc (.cells #[.bool true,.slice A3 n3 c3,.slice A4 n4 c4] 87)) w.heap.size true (.slice A1 n1 c1) (.slice A2 n2 c2):=(zae.new w _ _ _).below ((Below.refl _ _).alloc (Nat.le_refl _) _) (by simp);have aL:zae ((w.alloc (.cells #[.bool true,.slice A1 n1 c1,.slice A2 n2 c2] 87)).alloc (.cells #[.bool true,.slice A3 n3 c3,.slice A4 n4 c4] 87)) (w.heap.size+1) true (.slice A3 n3 c3) (.slice A4 n4 c4):=by
   have h:=zae.new (w.alloc (.cells #[.bool true,.slice A1 n1 c1,.slice A2 n2 c2] 87)) true (.slice A3 n3 c3) (.slice A4 n4 c4)
   simpa using h
  generalize ((w.alloc (.cells #[.bool true,.slice A1 n1 c1,.slice A2 n2 c2] 87)).alloc (.cells #[.bool true,.slice A3 n3 c3,.slice A4 n4 c4] 87))=w3 at *;obtain⟨a0,a1,a2,_,_,_,al⟩:=aI.cells;obtain⟨b0,b1,b2,_,_,_,bl⟩:=aL.cells;have aC:Below w.heap.size w w3.drew:=aM.drew;have aH:=zaJ A1 A4 n1 c1 n4 c4 t1 u2 w3.drew (h1.later aC) (h4.later aC) (by omega) (by omega);have aJ:=Aa aH;clear aH
  go_region_held3 (fun w'=>w'.cell? ⟨w.heap.size,0,none⟩=some (.bool true)∧w'.cell? ⟨w.heap.size,1,none⟩=some (.slice A1 n1 c1)∧w'.cell? ⟨w.heap.size,2,none⟩=some (.slice A2 n2 c2)∧w'.cell? ⟨w.heap.size+1,0,none⟩=some (.bool true)∧w'.cell? ⟨w.heap.size+1,1,none⟩=some (.slice A3 n3 c3)∧w'.cell? ⟨w.heap.size+1,2,none⟩=some (.slice A4 n4 c4))
   (first | exact⟨a0,a1,a2,b0,b1,b2⟩ | exact⟨((aA.cell (p:=⟨w.heap.size,0,none⟩) al).trans a0),((aA.cell (p:=⟨w.heap.size,1,none⟩) al).trans a1),((aA.cell (p:=⟨w.heap.size,2,none⟩) al).trans a2),((aA.cell (p:=⟨w.heap.size+1,0,none⟩) bl).trans b0),((aA.cell (p:=⟨w.heap.size+1,1,none⟩) bl).trans b1),((aA.cell (p:=⟨w.heap.size+1,2,none⟩) bl).trans b2)⟩ | exact⟨((aD.cell (p:=⟨w.heap.size,0,none⟩) (aG)).trans ((aA.cell (p:=⟨w.heap.size,0,none⟩) al).trans a0)),((aD.cell (p:=⟨w.heap.size,1,none⟩) (aG)).trans ((aA.cell (p:=⟨w.heap.size,1,none⟩) al).trans a1)),((aD.cell (p:=⟨w.heap.size,2,none⟩) (aG)).trans ((aA.cell (p:=⟨w.heap.size,2,none⟩) al).trans a2)),((aD.cell (p:=⟨w.heap.size+1,0,none⟩) (aF)).trans ((aA.cell (p:=⟨w.heap.size+1,0,none⟩) bl).trans b0)),((aD.cell (p:=⟨w.heap.size+1,1,none⟩) (aF)).trans ((aA.cell (p:=⟨w.heap.size+1,1,none⟩) bl).trans b1)),((aD.cell (p:=⟨w.heap.size+1,2,none⟩) (aF)).trans ((aA.cell (p:=⟨w.heap.size+1,2,none⟩) bl).trans b2))⟩)
   (first
    |(go_at_call_of 90 (Value.slice A1 n1 c1);refine(aJ.out).mono ?_;rintro e w4 ⟨A5,m5,c5,rfl,aK,aA⟩;have aG:=Nat.lt_of_lt_of_le al aA.size;have aF:=Nat.lt_of_lt_of_le bl aA.size)
    |(go_at_call_of 90 (Value.slice A3 n3 c3);refine(zaJ A3 A2 n3 c3 n2 c2 t2 u1 w4 ((h3.later aC).later aA) ((h2.later aC).later aA) (by omega) (by omega)).mono ?_;rintro e w6 ⟨A6,m6,c6,rfl,aN,aD⟩;have aP:=Nat.lt_of_lt_of_le aG aD.size;have aO:=Nat.lt_of_lt_of_le aF aD.size)
    |(go_at_call 130;refine(zaU A5 A6 m5 c5 m6 c6 _ _ w6 (aK.later aD) aN).mono ?_;rintro e w7 ⟨rfl,nq,rfl⟩))
  have aE:Below w.heap.size w (w6.drewN nq):=by
   have s5:=aC.size;have s6:=aA.size;exact zad ((aC.trans (aA.mono s5)).trans (aD.mono (by omega))) nq
  go_wp2_with fail
  rcases zk5 (t1*u2) (t2*u1) with e3 | e3 | e3
  all_goals
   rw[e3];go_wp2
   exact bodyPost_ret (by simp[results,Tryz.results81,go_sem,zqY,zrW,zrT];try rfl) rfl ⟨by simp,aE⟩
theorem zgg(b:Bool)(A1 A2 A3 A4:Option Addr)(n1 c1 n2 c2 n3 c3 n4 c4:Nat)(w:World) :
  Calls Tryz.prog 81 #[.agg #[.bool (!b),.slice A1 n1 c1,.slice A2 n2 c2],.agg #[.bool b,.slice A3 n3 c3,.slice A4 n4 c4]] w
   fun e w'=>e = .returned (.int .i64 (if b then 1 else -1))∧Below w.heap.size w w':=by
 go_enter Tryz.func81,Tryz.ntmps81
 cases b
 ·go_wp2_with fail
  refine(zcZ _ _).mono ?_;rintro e w2 ⟨rfl,rfl⟩;go_wp2
  exact bodyPost_ret (by simp[results,Tryz.results81,go_sem];try rfl) rfl ⟨rfl,(((Below.refl _ _).alloc (Nat.le_refl _) _).alloc (by simp) _)⟩
 ·go_wp2_with fail
  refine(zcZ _ _).mono ?_;rintro e w2 ⟨rfl,rfl⟩;go_wp2
  exact bodyPost_ret (by simp[results,Tryz.results81,go_sem];try rfl) rfl ⟨rfl,(((Below.refl _ _).alloc (Nat.le_refl _) _).alloc (by simp) _)⟩
theorem zgP(p q:Q)(A1 A2 A3 A4:Option Addr)(n1 c1 n2 c2 n3 c3 n4 c4:Nat)(w:World)
 (h1:NatS w w.heap.size A1 n1 c1 p.top)(h2:NatS w w.heap.size A2 n2 c2 p.bot)(h3:NatS w w.heap.size A3 n3 c3 q.top)(h4:NatS w w.heap.size A4 n4 c4 q.bot)
 (k1:n1≤268435456)(k2:n2≤268435456)(k3:n3≤268435456)(k4:n4≤268435456) :
  Calls Tryz.prog 81 #[.agg #[.bool p.neg,.slice A1 n1 c1,.slice A2 n2 c2],.agg #[.bool q.neg,.slice A3 n3 c3,.slice A4 n4 c4]] w
   fun e w'=>e = .returned (.int .i64 (rcmp p q))∧Below w.heap.size w w':=by
 unfold rcmp
 by_cases h:p.neg=q.neg
 ·rw[if_pos h,←h]
  exact zgo p.neg p.top p.bot q.top q.bot A1 A2 A3 A4 n1 c1 n2 c2 n3 c3 n4 c4 w h1 h2 h3 h4 k1 k2 k3 k4
 ·rw[if_neg h]
  have hq:p.neg = !q.neg:=by revert h;cases p.neg<;>cases q.neg<;>simp
  rw[hq];exact zgg q.neg A1 A2 A3 A4 n1 c1 n2 c2 n3 c3 n4 c4 w
theorem zcx(b:Bool)(x:Nat)(A1 A2:Option Addr)(n1 c1 n2 c2:Nat)(w:World)(h1:NatS w w.heap.size A1 n1 c1 x) :
  Calls Tryz.prog 97 #[.agg #[.bool b,.slice A1 n1 c1,.slice A2 n2 c2]] w
   fun e w'=>e = .returned (.bool (decide (x=0)))∧Below w.heap.size w w':=by
 go_enter Tryz.func97,Tryz.ntmps97
 go_wp2_with fail
 have hb:=(Below.refl w.heap.size w).alloc (Nat.le_refl _) (.cells #[.bool b,.slice A1 n1 c1,.slice A2 n2 c2] 87);refine(zaR A1 n1 c1 x _ (h1.later hb)).mono ?_;rintro e w2 ⟨rfl,rfl⟩;go_wp2
 exact bodyPost_ret (by simp[results,Tryz.results97,go_sem];try rfl) rfl ⟨rfl,hb⟩
end
section
open Go.RowKit
def i64v (d:Int):Value := .int .i64 d
def zdo:List Int→Int
 | []=>0
 | x :: t=>if x≠0 then x else zdo t
theorem zaA.lit(w:World)(l:List Value)(t:TypeId):zaA (w.alloc (.cells l.toArray t)) (w.alloc (.cells l.toArray t)).heap.size 1 (some ⟨w.heap.size,0,none⟩) l.length l:=by
 refine⟨by simp,fun _=>⟨_,rfl,by simp,fun j u hu => ?_⟩⟩;have h:=cell_of_row (w.alloc (.cells l.toArray t)) w.heap.size j l.toArray t (0,0) (heap_alloc_new w _);have e:(⟨w.heap.size,0,none⟩:Addr).add j=⟨w.heap.size,j,none⟩:=by
  unfold Addr.add
  by_cases hj:j=0<;>simp[hj]
 rw[e,h]
 simpa using hu
theorem zk7(A:Option Addr)(n c:Nat)(l:List Int)(w:World)(h:zaA w w.heap.size 1 A n (l.map i64v))(hn:n≤maxLen) :
  Calls Tryz.prog 80 #[.slice A n c] w fun e w'=>e = .returned (.int .i64 (zdo l))∧w=w':=by
 unfold maxLen at hn;have hl:l.length=n:=by have:=h.1;rw[List.length_map] at this;omega
 go_enter Tryz.func80,Tryz.ntmps80
 go_wp2
 have HL:=Aa hl;clear hl
 go_loop [7] (fun s=>∃ k:Nat,k≤n∧s = .int .i64 k∧Hid (zdo l=zdo (l.drop k))) (fun s=>n-(intOf s).toNat)
 case atStart=>exact⟨0,Nat.zero_le _,rfl,rfl⟩
 case round=>
  obtain⟨k,hk,rfl,hf⟩:=hrel
  by_cases h0:k<n
  ·obtain⟨ad,u,rfl,hb,hu,aE⟩:=h.at_ h0
   have aF:k<l.length:=by have:=HL.out;omega
   have aD:u = .int .i64 l[k]:=by
    rw[List.getElem?_map,List.getElem?_eq_getElem aF] at hu;injection hu with hu;exact hu.symm
   have aA:=hf.out;rw[List.drop_eq_getElem_cons aF] at aA;generalize l[k]=x at aD aA;subst aD
   by_cases hx:x=0
   ·subst hx
    have aC:Hid (zdo l=zdo (l.drop (k+1))):=by unfold Hid;rw[aA];rfl
    clear aA hu;go_wp2
    go_round
    case rel=>exact⟨k+1,by omega,by go_num,aC⟩
    case measure=>simp[intOf];omega
   ·have aC:Hid (zdo l=x):=by unfold Hid;rw[aA];unfold zdo;rw[if_pos hx]
    have aH:(x != 0)=true:=by simpa using hx
    clear aA hu hx;go_wp2
    go_ret;exact⟨by rw[aC.out];rfl,rfl⟩
  ·have aG:k=n:=by omega
   have aC:Hid (zdo l=0):=by
    unfold Hid;rw[hf.out,List.drop_eq_nil_of_le (by have:=HL.out;omega)];rfl
   clear aG;go_wp2
   go_ret;exact⟨by rw[aC.out];rfl,rfl⟩
theorem zfj(x y:Int)(w:World)(t:TypeId)(g:Nat)(hg:w.heap.size=g) :
  Calls Tryz.prog 80 #[.slice (some ⟨g,0,none⟩) 2 2] (w.alloc (.cells #[.int .i64 x,.int .i64 y] t)) fun e w'=>e = .returned (.int .i64 (if x≠0 then x else y))∧w.alloc (.cells #[.int .i64 x,.int .i64 y] t)=w':=by
 subst hg;have h:=zk7 (some ⟨w.heap.size,0,none⟩) 2 2 [x,y] (w.alloc (.cells #[.int .i64 x,.int .i64 y] t)) (zaA.lit w [.int .i64 x,.int .i64 y] t) (by unfold maxLen;omega);have e:zdo [x,y]=if x≠0 then x else y:=by unfold zdo;split<;>(try rfl);unfold zdo;split<;>simp_all [zdo]
 rwa [e] at h
end
section
open Go.RowKit Bn
theorem zdn{l:List UInt8}(h:zan l=0) :
  zaB (topL l)=true∧(topL l).length≤600∧(negL l=true→topL l≠[48]) ∧
   (zd4 l=true→zaB (botL l)=true∧botL l≠[48]∧botL l≠[49]∧(botL l).length≤600∧Nat.gcd (zaj (topL l)) (zaj (botL l))=1):=by
 unfold zan zbg at h
 by_cases h1:zaB (topL l)=false∨(negL l=true∧topL l=[48])
 ·rw[if_pos h1] at h;cases h
 ·rw[if_neg h1] at h
  by_cases h2:zd4 l=true∧(zaB (botL l)=false∨botL l=[48]∨botL l=[49])
  ·rw[if_pos h2] at h;cases h
  ·rw[if_neg h2] at h
   by_cases h3:600<(topL l).length∨600<(botL l).length
   ·rw[if_pos h3] at h;cases h
   ·rw[if_neg h3] at h
    by_cases h4:zd4 l=true∧Nat.gcd (zaj (topL l)) (zaj (botL l))≠1
    ·rw[if_pos h4] at h;cases h
    ·refine⟨by cases hd:zaB (topL l)<;>simp_all,by omega,fun hn e=>h1 (.inr ⟨hn,e⟩),fun hf=>⟨?_,fun e=>h2 ⟨hf,.inr (.inl e)⟩,fun e=>h2 ⟨hf,.inr (.inr e)⟩,by omega,?_⟩⟩
     ·cases hd:zaB (botL l)
      ·exact absurd ⟨hf,.inl hd⟩ h2
      ·rfl
     ·exact Classical.byContradiction fun e=>h4 ⟨hf,e⟩
theorem zdh{l:List UInt8}(h:zaB l=true)(h0:l≠[48]):0<zaj l:=by
 unfold zaB at h;rw[Bool.and_eq_true,Bool.or_eq_true] at h;obtain⟨hd,h | h⟩:=h
 ·exact absurd (by simpa using h) h0
 ·cases l with
  | nil=>simp at h
  | cons c t=>
   simp at h
   have e:zar (c :: t)=(digB (c.toNat:Int) && zar t):=rfl;rw[e,Bool.and_eq_true] at hd;have hc:=hd.1;unfold digB at hc;simp only[Bool.and_eq_true,decide_eq_true_eq] at hc
   have aA:c.toNat≠48:=fun e=>h (UInt8.toNat_inj.1 (by rw[e];rfl))
   rw[zgD];have:0<(c.toNat-48)*10^t.length:=Nat.mul_pos (by omega) (Nat.pow_pos (by omega));omega
theorem zeS{l:List UInt8}(h:zan l=0):0<(zaf l).bot:=by
 obtain⟨_,_,_,hf⟩:=zdn h;unfold zaf;rw[if_pos h]
 cases hb:zd4 l
 ·simp
 ·obtain⟨h1,h2,_⟩:=hf hb
  simpa using zdh h1 h2
theorem zaE{l:List UInt8}(h:zan l=0):(digs (zaf l).top).length≤600∧(digs (zaf l).bot).length≤600:=by
 obtain⟨h1,h2,_,hf⟩:=zdn h;unfold zaf;rw[if_pos h];refine⟨zaL (zaz h1) h2,?_⟩
 cases hb:zd4 l
 ·simp only[Bool.false_eq_true,if_false]
  exact Nat.le_trans (zab (k:=1) (by rw[zdC];omega)) (by omega)
 ·obtain⟨h3,_,_,h4,_⟩:=hf hb
  simpa using zaL (zaz h3) h4
theorem zm6{l:List UInt8}(h:zan l=0):Nat.gcd (zaf l).top (zaf l).bot=1:=by
 obtain⟨_,_,_,hf⟩:=zdn h;unfold zaf;rw[if_pos h]
 cases hb:zd4 l
 ·simp
 ·simpa using (hf hb).2.2.2.2
theorem znC{l:List UInt8}(h:zan l=0):(zaf l).neg=true→0<(zaf l).top:=by
 obtain⟨h1,_,h3,_⟩:=zdn h;unfold zaf;rw[if_pos h];intro hn;exact zdh h1 (h3 hn)
end
end Go.Proofs.YtbkgkoenppkhpaaGreatDoor
namespace Go.Proofs.YtbkgkoenppkhpaaGreatDoor.Dec
open Go.Lib
def dgt (n:Nat):UInt8:=UInt8.ofNat (48+n)
def pad:Nat→Nat→List UInt8
 | 0,_=>[]
 | k+1,r=>pad k (r/10)++[dgt (r%10)]
theorem dec_lt{u:Nat}(h:u<10):decDigits u=[dgt u]:=by rw[decDigits,dif_pos h];rfl
theorem dec_ge{u:Nat}(h:¬ u<10):decDigits u=decDigits (u/10)++[dgt (u%10)]:=by rw[decDigits,dif_neg h];rfl
theorem pad_length(k r:Nat):(pad k r).length=k:=by
 induction k generalizing r with
 | zero=>rfl
 | succ k ih=>simp[pad,ih]
theorem dec_append(k q r:Nat)(hq:0<q)(hr:r<10^k):decDigits (q*10^k+r)=decDigits q++pad k r:=by
 induction k generalizing r with
 | zero=>
  have:r=0:=by simpa using hr
  subst this;simp[pad]
 | succ k ih=>
  rw[Nat.pow_succ] at hr;have hp:0<10^k:=Nat.pow_pos (by omega);have h1:¬ q*10^(k+1)+r<10:=by
   rw[Nat.pow_succ];have:1*(10^k*10)≤q*(10^k*10):=Nat.mul_le_mul_right _ hq;omega
  have h2:(q*10^(k+1)+r)/10=q*10^k+r/10:=by
   rw[Nat.pow_succ,←Nat.mul_assoc];omega
  have h3:(q*10^(k+1)+r)%10=r%10:=by
   rw[Nat.pow_succ,←Nat.mul_assoc];omega
  rw[dec_ge h1,h2,h3,ih (r/10) (by omega),pad,List.append_assoc]
theorem pad_dec(k r:Nat)(hk:0<k)(hr:r<10^k):pad k r=List.replicate (k-(decDigits r).length) 48++decDigits r:=by
 induction k generalizing r with
 | zero=>omega
 | succ k ih=>
  rw[pad]
  rcases Nat.eq_zero_or_pos k with rfl | aA
  ·have h1:r<10:=by simpa using hr
   rw[dec_lt h1,Nat.mod_eq_of_lt h1];simp[pad]
  ·rw[Nat.pow_succ] at hr
   rw[ih (r/10) aA (by omega)]
   by_cases h1:r<10
   ·have h0:r/10=0:=by omega
    rw[h0,dec_lt h1,dec_lt (by omega:0<10),Nat.mod_eq_of_lt h1];simp only[List.length_singleton,Nat.add_sub_cancel]
    have e:k=(k-1)+1:=by omega
    rw[show List.replicate k (48:UInt8)=List.replicate (k-1) 48++[48] from by rw[←List.replicate_succ',←e]];rfl
   ·rw[dec_ge h1,List.length_append,List.length_singleton]
    have hl:(decDigits (r/10)).length+1≤k+1∨True := .inr trivial;rw[show k+1-((decDigits (r/10)).length+1)=k-(decDigits (r/10)).length from by omega,List.append_assoc]
theorem dec_length_le{k r:Nat}(hk:0<k)(hr:r<10^k):(decDigits r).length≤k:=by
 have h:=congrArg List.length (pad_dec k r hk hr);rw[pad_length,List.length_append,List.length_replicate] at h;omega
theorem dec_length_pos(r:Nat):0<(decDigits r).length:=by
 by_cases h:r<10
 ·rw[dec_lt h];simp
 ·rw[dec_ge h];simp
def T:Nat:=10000000000000000000
theorem T_def:T=10000000000000000000:=rfl
theorem T_pow:T=10^19:=by decide
theorem T_pos:0<T:=by decide
theorem dec_chunk(x k:Nat)(hq:0<x/T^(k+1)) :
  decDigits (x/T^k)=decDigits (x/T^(k+1))++(List.replicate (19-(decDigits (x/T^k%T)).length) 48++decDigits (x/T^k%T)):=by
 have h1:x/T^(k+1)=x/T^k/T:=by rw[Nat.pow_succ,Nat.div_div_eq_div_mul]
 rw[h1] at hq ⊢;generalize x/T^k=y at *;have hr:y%T<10^19:=by rw[←T_pow];exact Nat.mod_lt _ T_pos
 rw[←pad_dec 19 (y%T) (by omega) hr,←dec_append 19 (y/T) (y%T) hq hr,←T_pow,Nat.mul_comm (y/T) T,Nat.div_add_mod]
def chunks (x k:Nat):List Nat:=(List.range k).map fun j=>x/T^j%T
theorem chunks_succ(x k:Nat):chunks x (k+1)=chunks x k++[x/T^k%T]:=by simp[chunks,List.range_succ]
theorem chunks_get(x k j:Nat)(h:j<k):(chunks x k).getD j 0=x/T^j%T:=by simp[chunks,List.getD,h]
end Go.Proofs.YtbkgkoenppkhpaaGreatDoor.Dec
namespace Go.Proofs.YtbkgkoenppkhpaaGreatDoor
section
open Go.RowKit
theorem zml:(Tryz.prog.info? 212).map (·.size)=some 2:=by kernel_rfl
theorem zq8:liesAt Tryz.prog Tryz.prog.depth 212 (2/Tryz.prog.cellsOf 212) 0 212 1=true:=by kernel_rfl
theorem zgT(b:Nat)(w:World)(h0:w.cell? ⟨b,0,none⟩=some (.pointer (some ⟨b,0,none⟩))) :
  Calls Tryz.prog 219 #[.pointer (some ⟨b,0,none⟩)] w fun e w'=>e = .returned (.tuple #[])∧w'=w:=by
 obtain⟨j,hj,_⟩:=Option.map_eq_some_iff.1 zml;have aA:=Lib.run_neq_ptr_same w ⟨b,0,none⟩ Tryz.underlying209 hj;go_enter Tryz.func219,Tryz.ntmps219
 go_wp2
 go_end0
 exact⟨rfl,rfl⟩
theorem zgj(b:Nat)(w:World)(h0:w.cell? ⟨b,0,none⟩=some (.pointer none))(hsh:w.shape? b=some (212,2))(hfz:w.frozen? ⟨b,0,none⟩=false) :
  Calls Tryz.prog 219 #[.pointer (some ⟨b,0,none⟩)] w fun e w'=>e = .returned (.tuple #[])∧w'=w.setCell ⟨b,0,none⟩ (.pointer (some ⟨b,0,none⟩)):=by
 obtain⟨j,hj,aA⟩:=Option.map_eq_some_iff.1 zml;have a1:=Lib.run_to_unsafe w ⟨b,0,none⟩ Tryz.underlying209 Tryz.underlying245 hj (by rw[aA];decide) hsh (Nat.zero_lt_succ 1);have a2:=Lib.run_from_unsafe w ⟨b,0,none⟩ Tryz.underlying245 Tryz.underlying209 hj hsh zq8;have a3:∀ x:Value,(callFunc 233 #[x]).run Tryz.prog w = .ok (.value x) w:=fun x=>by
  rw[run_callFunc_extern Tryz.func233 (by kernel_rfl) (by kernel_rfl) (by kernel_rfl) (e:=Extern.AbiNoEscape.same) (by kernel_rfl),Lib.run_noEscape];rfl
 have aC:∀ W:World,(binOp .neq 209 (.pointer (some ⟨b,0,none⟩)) (.pointer (some ⟨b,0,none⟩))).run Tryz.prog W = .ok (.bool false) W:=fun W=>Lib.run_neq_ptr_same W ⟨b,0,none⟩ Tryz.underlying209 hj
 clear aA hj;go_enter Tryz.func219,Tryz.ntmps219
 go_wp2
 go_end0
 exact⟨rfl,rfl⟩
theorem zhv(B b:Nat)(bs:List Value)(w:World)(h:Lib.IsBuilder 212 5 B b bs w) :
  Calls Tryz.prog 219 #[.pointer (some ⟨b,0,none⟩)] w fun e w'=>e = .returned (.tuple #[])∧(Lib.BuilderAt 212 5 B b (.pointer (some ⟨b,0,none⟩)) bs w'∧Below B w w'):=by
 rcases h with h | h
 ·refine(zgj b w h.cell0 h.shape h.frozen0).mono ?_
  rintro e w' ⟨rfl,rfl⟩;exact⟨rfl,h.used _,(Below.refl B w).setCell (p:=⟨b,0,none⟩) h.1 _⟩
 ·refine(zgT b w h.cell0).mono ?_
  rintro e w' ⟨rfl,rfl⟩;exact⟨rfl,h,Below.refl B _⟩
theorem zqy:(Tryz.prog.info? 5).map (fun i=>(i.zero,i.size,i.bytes))=some (some (.int .u8 0),1,1):=by kernel_rfl
theorem zcE(B b:Nat)(bs:List Value)(s:ByteArray)(w:World)(h:Lib.IsBuilder 212 5 B b bs w)(hlen:bs.length+s.size≤140737488355328)(hBw:B≤w.heap.size) :
  Calls Tryz.prog 199 #[.pointer (some ⟨b,0,none⟩),.string s] w fun e w'=>e = .returned (.tuple #[.int .i64 s.size,.nilIface])∧(Lib.BuilderAt 212 5 B b (.pointer (some ⟨b,0,none⟩)) (bs++Lib.strCells s) w'∧Below B w w'):=by
 obtain⟨i0,hi,aK,aJ,aL⟩:=info_parts zqy;go_enter Tryz.func199,Tryz.ntmps199
 go_wp2_with fail
 refine(zhv B b bs _ h).mono ?_;rintro e w1 ⟨rfl,h1,aG⟩;obtain⟨hB,v,aF,aD,aM⟩:=h1;have c0:w1.cell? ⟨b,0,none⟩=some (.pointer (some ⟨b,0,none⟩)):=by rw[Lib.cell_of_heap aF];rfl
 have c1:w1.cell? ⟨b,1,none⟩=some v:=by rw[Lib.cell_of_heap aF];rfl
 go_wp2_with (at_builtin;refine Lib.wpList_append_own_string _ rfl _ _ 210 9 rfl B 5 i0 Tryz.underlying210 Tryz.underlying9 hi aK aJ aL _ _ _ rfl aD s rfl ?c3 ?c4 ?c5 ?_)
 case c3=>unfold maxLen;omega
 case c4=>omega
 case c5=>have:=aG.size;omega
 intro v' w2 aC aA _;have aI:b<w1.heap.size:=by
  rcases Nat.lt_or_ge b w1.heap.size with h' | h'
  ·exact h'
  ·simp[Array.getElem?_eq_none h'] at aF
 have aE:w2.heap[b]? = some (.cells #[.pointer (some ⟨b,0,none⟩),v] 212 (0,0)):=by
  rw[aA.block b aI (fun e=>aM e.symm)];exact aF
 have d0:w2.cell? ⟨b,0,none⟩=some (.pointer (some ⟨b,0,none⟩)):=by rw[Lib.cell_of_heap aE];rfl
 have d1:w2.cell? ⟨b,1,none⟩=some v:=by rw[Lib.cell_of_heap aE];rfl
 have f1:w2.frozen? ⟨b,1,none⟩=false:=Lib.frozen_of_heap aE 1;obtain⟨ao,n',aH,rfl⟩:∃ ao n' aH,v' = .slice ao n' aH:=by
  rcases aC.2 with⟨hv,_⟩ | ⟨g,aH,aN,hv,_⟩
  ·exact⟨_,_,_,hv⟩
  ·exact⟨_,_,_,hv⟩
 go_wp2
 go_ret2
 refine⟨rfl,?_,?_⟩
 ·exact Lib.BuilderAt.put (T:=212) (e:=5) hB aE (bs':=bs++Lib.strCells s) (by simpa[Lib.strCells_length] using aC) (by decide)
 ·exact(aG.grown aA (by have:=aG.size;omega) (fun k hk=>(aD.lt k hk).1)).setCell (p:=⟨b,1,none⟩) hB _
end
section
open Go.RowKit Go.Lib Go.Sort
theorem zia(u:Nat)(hu64:u<18446744073709551616)(w:World)(hT:Tabs w) :
  Calls Tryz.prog 218 #[.int .u64 u,.int .i64 10] w fun e w'=>e = .returned (.string ⟨(Lib.decDigits u).toArray⟩)∧Below w.heap.size w w':=by
 by_cases hs:u<100
 ·have hw:IntKind.i64.wrap (u:Int)=(u:Int):=IntWalk.i64_in _ (by omega)
  have hd:decide ((u:Int)<100)=true:=by simp;omega
  go_enter Tryz.func218,Tryz.ntmps218
  go_wp2_with fail
  refine(Tryz.internal_strconv_small u hs _).mono ?_;rintro e w1 ⟨rfl,rfl⟩;go_wp2
  go_ret;exact⟨rfl,Below.refl _ _⟩
 ·have hd:decide ((u:Int)<100)=false:=by simp;omega
  have aC:1≤u:=by omega
  have aE:Lib.nDigits u≤20:=by have:=Lib.numDigits_eq u aC hu64;split at this<;>omega
  have aF:Tryz.prog.arrayLen 241=24:=by kernel_rfl
  have aJ:∀ W,(Instr.sliceAt 241 (.pointer (some ⟨w.heap.size,0,none⟩)) none (some (.int .i64 (Lib.nDigits u:Int))) none).run Tryz.prog W = .ok (.slice (some ⟨w.heap.size,0,none⟩) (Lib.nDigits u) 24) W:=fun W=>by
   rw[run_sliceAt_array_h W 241 ⟨w.heap.size,0,none⟩ (by kernel_rfl) .i64 (Lib.nDigits u:Int) (by omega) (by rw[aF];omega)]
   go_simp
  have aD:=Lib.holds_zero0 w 241 (Lib.nDigits u) (by omega);have aA:=Tryz.internal_strconv_formatBase10 w.heap.size 0 24 u (Array.replicate (Lib.nDigits u) 0) (w.alloc (.cells Lib.zeros24 241)) aD (by rw[Array.size_replicate];exact Lib.lt_pow_nDigits u) hu64 (by rw[Array.size_replicate];omega);rw[Array.size_replicate] at aA;have aG:=Aa aD;have HN:=Aa (Tryz.internal_strconv_numDigits u aC hu64 (w.alloc (.cells Lib.zeros24 241)) (Lib.tabIs_alloc hT.pow _));clear aD aF aC;go_enter Tryz.func218,Tryz.ntmps218
  go_wp2_with fail
  refine HN.out.mono ?_;rintro e w1 ⟨rfl,rfl⟩
  go_wp2_with fail
  refine aA.mono ?_;rintro e w' ⟨rfl,k,v',dk,rfl,hF⟩;have aI:(convert 210 9 (.slice (some ⟨w.heap.size,0,none⟩) (Lib.nDigits u) 24)).run Tryz.prog ((putRow (fun (b:UInt8)=>Value.int .u8 (b.toNat:Int)) (w.alloc (.cells Lib.zeros24 241)) w.heap.size 0 dk).drewN k) = .ok (.string ⟨(Lib.decDigits u).toArray⟩) ((putRow (fun (b:UInt8)=>Value.int .u8 (b.toNat:Int)) (w.alloc (.cells Lib.zeros24 241)) w.heap.size 0 dk).drewN k):=by
   have h:=run_convert_bytes_back (P:=Tryz.prog) ((putRow (fun (b:UInt8)=>Value.int .u8 (b.toNat:Int)) (w.alloc (.cells Lib.zeros24 241)) w.heap.size 0 dk).drewN k) 210 9 5 ⟨w.heap.size,0,none⟩ 24 (Lib.decDigits u) Tryz.underlying210 Tryz.underlying5 Tryz.underlying9 (fun j hj=>by
    rw[Lib.row_is_numeral hF j hj,Lib.add_plain,World.cell?_drewN];exact cell?_putRow (fun (b:UInt8)=>Value.int .u8 (b.toNat:Int)) _ w.heap.size 0 _ dk aG.out (by rw[hF.size,Array.size_replicate]) j (by rw[hF.size];rw[Lib.decDigits_length] at hj;exact hj))
   rw[Lib.decDigits_length] at h;exact h
  have hB:Below w.heap.size w ((putRow (fun (b:UInt8)=>Value.int .u8 (b.toNat:Int)) (w.alloc (.cells Lib.zeros24 241)) w.heap.size 0 dk).drewN k):=by
   refine zad ?_ k;rw[alloc_eq_grow];obtain⟨aH,_,e⟩:=putRow_grow_new (fun (b:UInt8)=>Value.int .u8 (b.toNat:Int)) w #[.cells Lib.zeros24 241] w.heap.size 0 dk (Nat.le_refl _);rw[e];have h:=below_grow w.heap.size w (Nat.le_refl _) 0 aH
   rwa [World.drewN_zero] at h
  go_wp2
  go_ret;exact⟨rfl,hB⟩
theorem zgQ(u:Nat)(hu64:u<18446744073709551616)(w:World)(hT:Tabs w) :
  Calls Tryz.prog 197 #[.int .u64 u,.int .i64 10] w fun e w'=>e = .returned (.string ⟨(Lib.decDigits u).toArray⟩)∧Below w.heap.size w w':=by
 have h:=zia u hu64 w hT;generalize (⟨(Lib.decDigits u).toArray⟩:ByteArray)=s at h ⊢;go_enter Tryz.func197,Tryz.ntmps197
 go_wp2_with fail
 refine h.mono ?_;rintro e w1 ⟨rfl,hb⟩;go_wp2
 go_ret;exact⟨rfl,hb⟩
end
end Go.Proofs.YtbkgkoenppkhpaaGreatDoor
