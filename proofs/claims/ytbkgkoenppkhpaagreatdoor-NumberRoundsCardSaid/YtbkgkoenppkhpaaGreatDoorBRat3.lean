/- Contracts of over of two rational numbers. -/
import Derived.Test.YtbkgkoenppkhpaaGreatDoorBRat8
set_option maxRecDepth 100000
set_option maxHeartbeats 4000000
namespace Go.Proofs.YtbkgkoenppkhpaaGreatDoor
open Go.RowKit Bn
theorem zjN(p q:Q)(A1 A2 A3 A4:Option Addr)(n1 c1 n2 c2 n3 c3 n4 c4:Nat)(w:World)(hT:Tabs w)
 (h1:NatS w w.heap.size A1 n1 c1 p.top)(h2:NatS w w.heap.size A2 n2 c2 p.bot)(h3:NatS w w.heap.size A3 n3 c3 q.top)(h4:NatS w w.heap.size A4 n4 c4 q.bot)
 (k1:n1≤268435456)(k2:n2≤268435456)(k3:n3≤268435456)(k4:n4≤268435456) :
  Calls Tryz.prog 112 #[.agg #[.bool p.neg,.slice A1 n1 c1,.slice A2 n2 c2],.agg #[.bool q.neg,.slice A3 n3 c3,.slice A4 n4 c4]] w (za5 w (lowQ (p.neg != q.neg) (p.top*q.bot) (p.bot*q.top))):=by
 go_enter Tryz.func112,Tryz.ntmps112
 go_wp2_with fail
 have aV:Below w.heap.size w (((w.alloc (.cells #[.bool p.neg,.slice A1 n1 c1,.slice A2 n2 c2] 87)).alloc (.cells #[.bool q.neg,.slice A3 n3 c3,.slice A4 n4 c4] 87)).alloc (.cells #[.bool false,.slice none 0 0,.slice none 0 0] 87)):=
  (((Below.refl _ _).alloc (Nat.le_refl _) _).alloc (by simp) _).alloc (by simp;omega) _
 have aR:zae (((w.alloc (.cells #[.bool p.neg,.slice A1 n1 c1,.slice A2 n2 c2] 87)).alloc (.cells #[.bool q.neg,.slice A3 n3 c3,.slice A4 n4 c4] 87)).alloc (.cells #[.bool false,.slice none 0 0,.slice none 0 0] 87)) w.heap.size p.neg (.slice A1 n1 c1) (.slice A2 n2 c2):=
  (((zae.new w _ _ _).below ((Below.refl _ _).alloc (Nat.le_refl _) _) (by simp))).below ((Below.refl _ _).alloc (Nat.le_refl _) _) (by simp;omega)
 have aU:zae (((w.alloc (.cells #[.bool p.neg,.slice A1 n1 c1,.slice A2 n2 c2] 87)).alloc (.cells #[.bool q.neg,.slice A3 n3 c3,.slice A4 n4 c4] 87)).alloc (.cells #[.bool false,.slice none 0 0,.slice none 0 0] 87)) (w.heap.size+1) q.neg (.slice A3 n3 c3) (.slice A4 n4 c4):=by
  have h:=(zae.new (w.alloc (.cells #[.bool p.neg,.slice A1 n1 c1,.slice A2 n2 c2] 87)) q.neg (.slice A3 n3 c3) (.slice A4 n4 c4)).below ((Below.refl _ _).alloc (Nat.le_refl _) (.cells #[.bool false,.slice none 0 0,.slice none 0 0] 87)) (by simp)
  simpa using h
 have aT:zae (((w.alloc (.cells #[.bool p.neg,.slice A1 n1 c1,.slice A2 n2 c2] 87)).alloc (.cells #[.bool q.neg,.slice A3 n3 c3,.slice A4 n4 c4] 87)).alloc (.cells #[.bool false,.slice none 0 0,.slice none 0 0] 87)) (w.heap.size+1+1) false (.slice none 0 0) (.slice none 0 0):=by
  have h:=zae.new ((w.alloc (.cells #[.bool p.neg,.slice A1 n1 c1,.slice A2 n2 c2] 87)).alloc (.cells #[.bool q.neg,.slice A3 n3 c3,.slice A4 n4 c4] 87)) false (.slice none 0 0) (.slice none 0 0)
  simpa using h
 generalize (((w.alloc (.cells #[.bool p.neg,.slice A1 n1 c1,.slice A2 n2 c2] 87)).alloc (.cells #[.bool q.neg,.slice A3 n3 c3,.slice A4 n4 c4] 87)).alloc (.cells #[.bool false,.slice none 0 0,.slice none 0 0] 87))=w3 at *;obtain⟨a0,a1,a2,_,_,_,al⟩:=aR.cells;obtain⟨b0,b1,b2,_,_,_,bl⟩:=aU.cells;have aD:Below w.heap.size w w3.drew:=aV.drew;have aQ:=zaJ A1 A4 n1 c1 n4 c4 p.top q.bot w3.drew (h1.later aD) (h4.later aD) (by omega) (by omega);have aK:zae w3.drew (w.heap.size+1+1) false (.slice none 0 0) (.slice none 0 0):=aT;have cl:w.heap.size+1+1<w3.drew.heap.size:=aK.cells.2.2.2.2.2.2;have aS:=Aa aQ;clear aQ
 go_region_held3 (fun w'=>w'.cell? ⟨w.heap.size,0,none⟩=some (.bool p.neg)∧w'.cell? ⟨w.heap.size,1,none⟩=some (.slice A1 n1 c1)∧w'.cell? ⟨w.heap.size,2,none⟩=some (.slice A2 n2 c2)∧w'.cell? ⟨w.heap.size+1,0,none⟩=some (.bool q.neg)∧w'.cell? ⟨w.heap.size+1,1,none⟩=some (.slice A3 n3 c3)∧w'.cell? ⟨w.heap.size+1,2,none⟩=some (.slice A4 n4 c4))
  (first | exact⟨a0,a1,a2,b0,b1,b2⟩ | exact⟨((aA.cell (p:=⟨w.heap.size,0,none⟩) al).trans a0),((aA.cell (p:=⟨w.heap.size,1,none⟩) al).trans a1),((aA.cell (p:=⟨w.heap.size,2,none⟩) al).trans a2),((aA.cell (p:=⟨w.heap.size+1,0,none⟩) bl).trans b0),((aA.cell (p:=⟨w.heap.size+1,1,none⟩) bl).trans b1),((aA.cell (p:=⟨w.heap.size+1,2,none⟩) bl).trans b2)⟩ | exact⟨((aC.cell (p:=⟨w.heap.size,0,none⟩) (aG)).trans ((aA.cell (p:=⟨w.heap.size,0,none⟩) al).trans a0)),((aC.cell (p:=⟨w.heap.size,1,none⟩) (aG)).trans ((aA.cell (p:=⟨w.heap.size,1,none⟩) al).trans a1)),((aC.cell (p:=⟨w.heap.size,2,none⟩) (aG)).trans ((aA.cell (p:=⟨w.heap.size,2,none⟩) al).trans a2)),((aC.cell (p:=⟨w.heap.size+1,0,none⟩) (aF)).trans ((aA.cell (p:=⟨w.heap.size+1,0,none⟩) bl).trans b0)),((aC.cell (p:=⟨w.heap.size+1,1,none⟩) (aF)).trans ((aA.cell (p:=⟨w.heap.size+1,1,none⟩) bl).trans b1)),((aC.cell (p:=⟨w.heap.size+1,2,none⟩) (aF)).trans ((aA.cell (p:=⟨w.heap.size+1,2,none⟩) bl).trans b2))⟩ | exact⟨((aE.cell (p:=⟨w.heap.size,0,none⟩) (aJ)).trans ((aC.cell (p:=⟨w.heap.size,0,none⟩) (aG)).trans ((aA.cell (p:=⟨w.heap.size,0,none⟩) al).trans a0))),((aE.cell (p:=⟨w.heap.size,1,none⟩) (aJ)).trans ((aC.cell (p:=⟨w.heap.size,1,none⟩) (aG)).trans ((aA.cell (p:=⟨w.heap.size,1,none⟩) al).trans a1))),((aE.cell (p:=⟨w.heap.size,2,none⟩) (aJ)).trans ((aC.cell (p:=⟨w.heap.size,2,none⟩) (aG)).trans ((aA.cell (p:=⟨w.heap.size,2,none⟩) al).trans a2))),((aE.cell (p:=⟨w.heap.size+1,0,none⟩) (aI)).trans ((aC.cell (p:=⟨w.heap.size+1,0,none⟩) (aF)).trans ((aA.cell (p:=⟨w.heap.size+1,0,none⟩) bl).trans b0))),((aE.cell (p:=⟨w.heap.size+1,1,none⟩) (aI)).trans ((aC.cell (p:=⟨w.heap.size+1,1,none⟩) (aF)).trans ((aA.cell (p:=⟨w.heap.size+1,1,none⟩) bl).trans b1))),((aE.cell (p:=⟨w.heap.size+1,2,none⟩) (aI)).trans ((aC.cell (p:=⟨w.heap.size+1,2,none⟩) (aF)).trans ((aA.cell (p:=⟨w.heap.size+1,2,none⟩) bl).trans b2)))⟩ | exact⟨((far3 _ _ _ _ (by dsimp only;omega)).trans ((aE.cell (p:=⟨w.heap.size,0,none⟩) (aJ)).trans ((aC.cell (p:=⟨w.heap.size,0,none⟩) (aG)).trans ((aA.cell (p:=⟨w.heap.size,0,none⟩) al).trans a0)))),((far3 _ _ _ _ (by dsimp only;omega)).trans ((aE.cell (p:=⟨w.heap.size,1,none⟩) (aJ)).trans ((aC.cell (p:=⟨w.heap.size,1,none⟩) (aG)).trans ((aA.cell (p:=⟨w.heap.size,1,none⟩) al).trans a1)))),((far3 _ _ _ _ (by dsimp only;omega)).trans ((aE.cell (p:=⟨w.heap.size,2,none⟩) (aJ)).trans ((aC.cell (p:=⟨w.heap.size,2,none⟩) (aG)).trans ((aA.cell (p:=⟨w.heap.size,2,none⟩) al).trans a2)))),((far3 _ _ _ _ (by dsimp only;omega)).trans ((aE.cell (p:=⟨w.heap.size+1,0,none⟩) (aI)).trans ((aC.cell (p:=⟨w.heap.size+1,0,none⟩) (aF)).trans ((aA.cell (p:=⟨w.heap.size+1,0,none⟩) bl).trans b0)))),((far3 _ _ _ _ (by dsimp only;omega)).trans ((aE.cell (p:=⟨w.heap.size+1,1,none⟩) (aI)).trans ((aC.cell (p:=⟨w.heap.size+1,1,none⟩) (aF)).trans ((aA.cell (p:=⟨w.heap.size+1,1,none⟩) bl).trans b1)))),((far3 _ _ _ _ (by dsimp only;omega)).trans ((aE.cell (p:=⟨w.heap.size+1,2,none⟩) (aI)).trans ((aC.cell (p:=⟨w.heap.size+1,2,none⟩) (aF)).trans ((aA.cell (p:=⟨w.heap.size+1,2,none⟩) bl).trans b2))))⟩)
  (first
   |(go_at_call_of 90 (Value.slice A1 n1 c1);refine(aS.out).mono ?_;rintro e w4 ⟨A5,m5,c5,rfl,aP,aA⟩;have aG:=Nat.lt_of_lt_of_le al aA.size;have aF:=Nat.lt_of_lt_of_le bl aA.size)
   |(go_at_call_of 90 (Value.slice A2 n2 c2);refine(zaJ A2 A3 n2 c2 n3 c3 p.bot q.top w4 ((h2.later aD).later aA) ((h3.later aD).later aA) (by omega) (by omega)).mono ?_;rintro e w6 ⟨A6,m6,c6,rfl,aO,aC⟩;have aJ:=Nat.lt_of_lt_of_le aG aC.size;have aI:=Nat.lt_of_lt_of_le aF aC.size)
   |(go_at_call 88;refine(zbH _ A5 A6 m5 c5 m6 c6 _ _ w6 (((hT.later aD).later aA).later aC) (aP.later aC) aO (by have:=zdT aP (Nat.le_of_eq h1.len) (Nat.le_of_eq h4.len);omega) (by have:=zdT aO (Nat.le_of_eq h2.len) (Nat.le_of_eq h3.len);omega)).mono ?_;rintro e w7 ⟨v,rfl,⟨A7,m7,c7,A8,m8,c8,rfl,h7,h8⟩,aE⟩;have aM:=((aK.below aA cl).below aC (Nat.lt_of_lt_of_le cl aA.size)).below aE (Nat.lt_of_lt_of_le (Nat.lt_of_lt_of_le cl aA.size) aC.size);obtain⟨e0,e1,e2,g0,g1,g2,gl⟩:=aM.cells))
 go_wp2_with fail
 have aH:Below w.heap.size w w7:=by
  have s5:=aD.size;have s6:=aA.size;have s7:=aC.size;exact((aD.trans (aA.mono s5)).trans (aC.mono (by omega))).trans (aE.mono (by omega))
 have aL:=zao aH (g:=w.heap.size+1+1) (by omega) (.bool (lowQ (!p.neg==q.neg) (p.top*q.bot) (p.bot*q.top)).neg) (.slice A7 m7 c7) (.slice A8 m8 c8);have aN:(!p.neg==q.neg)=(p.neg != q.neg):=by cases p.neg<;>cases q.neg<;>rfl
 refine bodyPost_ret (v := .agg #[.bool (lowQ (!p.neg==q.neg) (p.top*q.bot) (p.bot*q.top)).neg,.slice A7 m7 c7,.slice A8 m8 c8]) (by simp[results,Tryz.results112,go_sem,e0,e1,e2]) rfl ⟨_,rfl,⟨A7,m7,c7,A8,m8,c8,by rw[aN],?_,?_⟩,aL⟩
 ·rw[zah,←aN];exact h7.res aM _ _ _
 ·rw[zah,←aN];exact h8.res aM _ _ _
theorem zgX(b:Bool)(x y:Nat)(A1 A2:Option Addr)(n1 c1 n2 c2:Nat)(w:World)(h1:NatS w w.heap.size A1 n1 c1 x)(h2:NatS w w.heap.size A2 n2 c2 y) :
  Calls Tryz.prog 174 #[.agg #[.bool b,.slice A1 n1 c1,.slice A2 n2 c2]] w (za5 w ⟨!b && !decide (x=0),x,y⟩):=by
 go_enter Tryz.func174,Tryz.ntmps174
 cases b
 ·go_wp2_with fail
  have aH:Below w.heap.size w ((w.alloc (.cells #[.bool false,.slice A1 n1 c1,.slice A2 n2 c2] 87)).alloc (.cells #[.bool false,.slice none 0 0,.slice none 0 0] 87)):=((Below.refl _ _).alloc (Nat.le_refl _) _).alloc (by simp) _;have aI:zae ((w.alloc (.cells #[.bool false,.slice A1 n1 c1,.slice A2 n2 c2] 87)).alloc (.cells #[.bool false,.slice none 0 0,.slice none 0 0] 87)) w.heap.size false (.slice A1 n1 c1) (.slice A2 n2 c2):=(zae.new w _ _ _).below ((Below.refl _ _).alloc (Nat.le_refl _) _) (by simp);have aG:zae ((w.alloc (.cells #[.bool false,.slice A1 n1 c1,.slice A2 n2 c2] 87)).alloc (.cells #[.bool false,.slice none 0 0,.slice none 0 0] 87)) (w.heap.size+1) false (.slice none 0 0) (.slice none 0 0):=by
   have h:=zae.new (w.alloc (.cells #[.bool false,.slice A1 n1 c1,.slice A2 n2 c2] 87)) false (.slice none 0 0) (.slice none 0 0)
   simpa using h
  generalize ((w.alloc (.cells #[.bool false,.slice A1 n1 c1,.slice A2 n2 c2] 87)).alloc (.cells #[.bool false,.slice none 0 0,.slice none 0 0] 87))=w3 at *;obtain⟨a0,a1,a2,_,_,_,al⟩:=aI.cells;have aD:Below w.heap.size w w3.drew:=aH.drew;have aA:zae w3.drew (w.heap.size+1) false (.slice none 0 0) (.slice none 0 0):=aG;have cl:w.heap.size+1<w3.drew.heap.size:=aA.cells.2.2.2.2.2.2;obtain⟨d0,d1,d2,f0,f1,f2,_⟩:=aA.cells
  go_region_held3 (fun w'=>w'.cell? ⟨w.heap.size,0,none⟩=some (.bool false)∧w'.cell? ⟨w.heap.size,1,none⟩=some (.slice A1 n1 c1)∧w'.cell? ⟨w.heap.size,2,none⟩=some (.slice A2 n2 c2))
   (first | exact⟨a0,a1,a2⟩ | exact⟨((aE.cell (p:=⟨w.heap.size,0,none⟩) al).trans a0),((aE.cell (p:=⟨w.heap.size,1,none⟩) al).trans a1),((aE.cell (p:=⟨w.heap.size,2,none⟩) al).trans a2)⟩ | exact⟨((far3 _ _ _ _ (by dsimp only;omega)).trans a0),((far3 _ _ _ _ (by dsimp only;omega)).trans a1),((far3 _ _ _ _ (by dsimp only;omega)).trans a2)⟩ | exact⟨((far3 _ _ _ _ (by dsimp only;omega)).trans ((aE.cell (p:=⟨w.heap.size,0,none⟩) al).trans a0)),((far3 _ _ _ _ (by dsimp only;omega)).trans ((aE.cell (p:=⟨w.heap.size,1,none⟩) al).trans a1)),((far3 _ _ _ _ (by dsimp only;omega)).trans ((aE.cell (p:=⟨w.heap.size,2,none⟩) al).trans a2))⟩)
   (first
    |(go_at_call 97;refine(zcx _ x A1 A2 n1 c1 n2 c2 w3.drew (h1.later aD)).mono ?_;rintro e w4 ⟨rfl,aE⟩;have aJ:=aA.below aE cl;obtain⟨e0,e1,e2,g0,g1,g2,gl⟩:=aJ.cells))
  go_wp2_with fail
  have aC:Below w.heap.size w w4:=Ad aD aE;have aF:=zao aC (g:=w.heap.size+1) (by omega) (.bool (!decide (x=0))) (.slice A1 n1 c1) (.slice A2 n2 c2);refine bodyPost_ret (v := .agg #[.bool (!decide (x=0)),.slice A1 n1 c1,.slice A2 n2 c2]) (by simp[results,Tryz.results174,go_sem,e0,e1,e2]) rfl ⟨_,rfl,⟨A1,n1,c1,A2,n2,c2,by simp,?_,?_⟩,aF⟩
  ·rw[zah];exact(h1.later aC).res aJ _ _ _
  ·rw[zah];exact(h2.later aC).res aJ _ _ _
 ·go_wp2_with fail
  have aH:Below w.heap.size w ((w.alloc (.cells #[.bool true,.slice A1 n1 c1,.slice A2 n2 c2] 87)).alloc (.cells #[.bool false,.slice none 0 0,.slice none 0 0] 87)):=((Below.refl _ _).alloc (Nat.le_refl _) _).alloc (by simp) _;have aI:zae ((w.alloc (.cells #[.bool true,.slice A1 n1 c1,.slice A2 n2 c2] 87)).alloc (.cells #[.bool false,.slice none 0 0,.slice none 0 0] 87)) w.heap.size true (.slice A1 n1 c1) (.slice A2 n2 c2):=(zae.new w _ _ _).below ((Below.refl _ _).alloc (Nat.le_refl _) _) (by simp);have aG:zae ((w.alloc (.cells #[.bool true,.slice A1 n1 c1,.slice A2 n2 c2] 87)).alloc (.cells #[.bool false,.slice none 0 0,.slice none 0 0] 87)) (w.heap.size+1) false (.slice none 0 0) (.slice none 0 0):=by
   have h:=zae.new (w.alloc (.cells #[.bool true,.slice A1 n1 c1,.slice A2 n2 c2] 87)) false (.slice none 0 0) (.slice none 0 0)
   simpa using h
  generalize ((w.alloc (.cells #[.bool true,.slice A1 n1 c1,.slice A2 n2 c2] 87)).alloc (.cells #[.bool false,.slice none 0 0,.slice none 0 0] 87))=w3 at *;obtain⟨a0,a1,a2,_,_,_,al⟩:=aI.cells;have aD:Below w.heap.size w w3.drew:=aH.drew;have aA:zae w3.drew (w.heap.size+1) false (.slice none 0 0) (.slice none 0 0):=aG;have cl:w.heap.size+1<w3.drew.heap.size:=aA.cells.2.2.2.2.2.2;obtain⟨d0,d1,d2,f0,f1,f2,_⟩:=aA.cells;obtain⟨x0,x1,x2,y0,y1,y2,_⟩:=aG.cells
  go_region
  go_wp2_with fail
  have aF:=(zao aH (g:=w.heap.size+1) (by omega) (.bool false) (.slice A1 n1 c1) (.slice A2 n2 c2)).drew;refine bodyPost_ret (v := .agg #[.bool false,.slice A1 n1 c1,.slice A2 n2 c2]) (by simp[results,Tryz.results174,go_sem,x0,x1,x2]) rfl ⟨_,rfl,⟨A1,n1,c1,A2,n2,c2,by simp,?_,?_⟩,aF⟩
  ·show NatS _ (((w3.setCell _ _).setCell _ _).setCell _ _).heap.size _ _ _ _
   rw[zah];exact(h1.later aD).res aA _ _ _
  ·show NatS _ (((w3.setCell _ _).setCell _ _).setCell _ _).heap.size _ _ _ _
   rw[zah];exact(h2.later aD).res aA _ _ _
def zbd (q:Q):Q:=⟨q.neg,if q.neg=true∧q.top%q.bot≠0 then q.top/q.bot+1 else q.top/q.bot,1⟩
theorem ziJ(b:Bool)(x y:Nat)(A1 A2:Option Addr)(n1 c1 n2 c2:Nat)(w:World)(h1:NatS w w.heap.size A1 n1 c1 x)(h2:NatS w w.heap.size A2 n2 c2 y)(hy:0<y)(k1:n1≤268435456) :
  Calls Tryz.prog 113 #[.agg #[.bool b,.slice A1 n1 c1,.slice A2 n2 c2]] w (za5 w (zbd ⟨b,x,y⟩)):=by
 have aO:Below w.heap.size w ((w.alloc (.cells #[.bool b,.slice A1 n1 c1,.slice A2 n2 c2] 87)).alloc (.cells #[.bool false,.slice none 0 0,.slice none 0 0] 87)):=((Below.refl _ _).alloc (Nat.le_refl _) _).alloc (by simp) _;go_enter Tryz.func113,Tryz.ntmps113
 go_wp2_with fail
 refine(zcU A1 A2 n1 c1 n2 c2 x y _ (h1.later aO) (h2.later aO) hy (by omega)).mono ?_;rintro e w4 ⟨A5,m5,c5,A6,m6,c6,rfl,hq,hr,aQ⟩;have aN:Below w.heap.size w w4:=Ad aO aQ;have aM:=((zae.new w b (.slice A1 n1 c1) (.slice A2 n2 c2)).below ((Below.refl _ _).alloc (Nat.le_refl _) (.cells #[.bool false,.slice none 0 0,.slice none 0 0] 87)) (by simp)).below aQ (by simp;omega);have aL:zae w4 (w.heap.size+1) false (.slice none 0 0) (.slice none 0 0):=by
  have h:=(zae.new (w.alloc (.cells #[.bool b,.slice A1 n1 c1,.slice A2 n2 c2] 87)) false (.slice none 0 0) (.slice none 0 0)).below aQ (by simp)
  simpa using h
 obtain⟨z0,z1,z2,_,_,_,zl⟩:=aM.cells;have aT:(digs (x/y)).length≤n1:=zab (Nat.lt_of_le_of_lt (Nat.div_le_self x y) (by have:=zac x;rw[h1.len] at this;exact this))
 cases b
 ·have aG:(zbd ⟨false,x,y⟩).top=x/y:=by simp[zbd]
  go_wp2_with fail
  have hW:=aN;have aE:=aM;have aI:=aL;have aH:=hq;obtain⟨a0,a1,a2,_,_,_,al⟩:=aE.cells;have aD:zae w4.drew (w.heap.size+1) false (.slice none 0 0) (.slice none 0 0):=aI;have cl:w.heap.size+1<w4.drew.heap.size:=aD.cells.2.2.2.2.2.2
  go_region_held3 (fun w'=>w'.cell? ⟨w.heap.size,0,none⟩=some (.bool false)∧w'.cell? ⟨w.heap.size,1,none⟩=some (.slice A1 n1 c1)∧w'.cell? ⟨w.heap.size,2,none⟩=some (.slice A2 n2 c2))
   (first | exact⟨a0,a1,a2⟩ | exact⟨((aA.cell (p:=⟨w.heap.size,0,none⟩) al).trans a0),((aA.cell (p:=⟨w.heap.size,1,none⟩) al).trans a1),((aA.cell (p:=⟨w.heap.size,2,none⟩) al).trans a2)⟩ | exact⟨((far3 _ _ _ _ (by dsimp only;omega)).trans ((aA.cell (p:=⟨w.heap.size,0,none⟩) al).trans a0)),((far3 _ _ _ _ (by dsimp only;omega)).trans ((aA.cell (p:=⟨w.heap.size,1,none⟩) al).trans a1)),((far3 _ _ _ _ (by dsimp only;omega)).trans ((aA.cell (p:=⟨w.heap.size,2,none⟩) al).trans a2))⟩)
   (first | (go_at_call 86;refine(zai 1 w4.drew (by omega) (by omega)).mono ?_;rintro e w8 ⟨A8,m8,c8,rfl,aJ,aA⟩;have hk:=aD.below aA cl;obtain⟨e0,e1,e2,g0,g1,g2,gl⟩:=hk.cells))
  go_wp2_with fail
  have aC:Below w.heap.size w w8:=hW.drew.trans (aA.mono hW.size);have aF:=zao aC (g:=w.heap.size+1) (by omega) (.bool false) (.slice A5 m5 c5) (.slice A8 m8 c8);refine bodyPost_ret (v := .agg #[.bool false,.slice A5 m5 c5,.slice A8 m8 c8]) (by simp[results,Tryz.results113,go_sem,e0,e1,e2]) rfl ⟨_,rfl,⟨A5,m5,c5,A8,m8,c8,by rfl,?_,?_⟩,aF⟩
  ·rw[zah,aG];exact(aH.later (Below.drew (Below.refl _ _) |>.trans aA)).res hk _ _ _
  ·rw[zah];exact aJ.res hk _ _ _
 ·go_wp2_with fail
  refine(zaR A6 m6 c6 (x%y) _ hr).mono ?_;rintro e w5 ⟨rfl,rfl⟩
  by_cases h0:x%y=0
  ·have aG:(zbd ⟨true,x,y⟩).top=x/y:=by simp[zbd,h0]
   have hd:decide (x%y=0)=true:=by simpa using h0
   rw[hd]
   go_wp2_with fail
   have hW:=aN;have aE:=aM;have aI:=aL;have aH:=hq;obtain⟨a0,a1,a2,_,_,_,al⟩:=aE.cells;have aD:zae w4.drew (w.heap.size+1) false (.slice none 0 0) (.slice none 0 0):=aI;have cl:w.heap.size+1<w4.drew.heap.size:=aD.cells.2.2.2.2.2.2
   go_region_held3 (fun w'=>w'.cell? ⟨w.heap.size,0,none⟩=some (.bool true)∧w'.cell? ⟨w.heap.size,1,none⟩=some (.slice A1 n1 c1)∧w'.cell? ⟨w.heap.size,2,none⟩=some (.slice A2 n2 c2))
    (first | exact⟨a0,a1,a2⟩ | exact⟨((aA.cell (p:=⟨w.heap.size,0,none⟩) al).trans a0),((aA.cell (p:=⟨w.heap.size,1,none⟩) al).trans a1),((aA.cell (p:=⟨w.heap.size,2,none⟩) al).trans a2)⟩ | exact⟨((far3 _ _ _ _ (by dsimp only;omega)).trans ((aA.cell (p:=⟨w.heap.size,0,none⟩) al).trans a0)),((far3 _ _ _ _ (by dsimp only;omega)).trans ((aA.cell (p:=⟨w.heap.size,1,none⟩) al).trans a1)),((far3 _ _ _ _ (by dsimp only;omega)).trans ((aA.cell (p:=⟨w.heap.size,2,none⟩) al).trans a2))⟩)
    (first | (go_at_call 86;refine(zai 1 w4.drew (by omega) (by omega)).mono ?_;rintro e w8 ⟨A8,m8,c8,rfl,aJ,aA⟩;have hk:=aD.below aA cl;obtain⟨e0,e1,e2,g0,g1,g2,gl⟩:=hk.cells))
   go_wp2_with fail
   have aC:Below w.heap.size w w8:=hW.drew.trans (aA.mono hW.size);have aF:=zao aC (g:=w.heap.size+1) (by omega) (.bool true) (.slice A5 m5 c5) (.slice A8 m8 c8);refine bodyPost_ret (v := .agg #[.bool true,.slice A5 m5 c5,.slice A8 m8 c8]) (by simp[results,Tryz.results113,go_sem,e0,e1,e2]) rfl ⟨_,rfl,⟨A5,m5,c5,A8,m8,c8,by rfl,?_,?_⟩,aF⟩
   ·rw[zah,aG];exact(aH.later (Below.drew (Below.refl _ _) |>.trans aA)).res hk _ _ _
   ·rw[zah];exact aJ.res hk _ _ _
  ·have aG:(zbd ⟨true,x,y⟩).top=x/y+1:=by simp[zbd,h0]
   have hd:decide (x%y=0)=false:=by simpa using h0
   rw[hd]
   go_wp2_with fail
   refine(zai 1 _ (by omega) (by omega)).mono ?_;rintro e w6 ⟨A9,m9,c9,rfl,aR,aK⟩
   go_wp2_with fail
   refine(zcw A5 A9 m5 c5 m9 c9 _ _ _ (hq.later aK) aR (by have:=hq.len;omega) (by have:=aR.len;have h3:(digs (Int.toNat 1)).length≤1:=zab (by decide);omega)).mono ?_;rintro e w7 ⟨A7,m7,c7,rfl,aS,aP⟩
   go_wp2_with fail
   have s4:=aN.size;have s9:=aK.size;have hW:Below w.heap.size w w7:=(aN.trans (aK.mono s4)).trans (aP.mono (by omega));have aE:=(aM.below aK zl).below aP (by omega);have aI:=(aL.below aK aL.cells.2.2.2.2.2.2).below aP (by have:=aL.cells.2.2.2.2.2.2;omega);have aH:=aS;obtain⟨a0,a1,a2,_,_,_,al⟩:=aE.cells;have aD:zae w7.drew (w.heap.size+1) false (.slice none 0 0) (.slice none 0 0):=aI;have cl:w.heap.size+1<w7.drew.heap.size:=aD.cells.2.2.2.2.2.2
   go_region_held3 (fun w'=>w'.cell? ⟨w.heap.size,0,none⟩=some (.bool true)∧w'.cell? ⟨w.heap.size,1,none⟩=some (.slice A1 n1 c1)∧w'.cell? ⟨w.heap.size,2,none⟩=some (.slice A2 n2 c2))
    (first | exact⟨a0,a1,a2⟩ | exact⟨((aA.cell (p:=⟨w.heap.size,0,none⟩) al).trans a0),((aA.cell (p:=⟨w.heap.size,1,none⟩) al).trans a1),((aA.cell (p:=⟨w.heap.size,2,none⟩) al).trans a2)⟩ | exact⟨((far3 _ _ _ _ (by dsimp only;omega)).trans ((aA.cell (p:=⟨w.heap.size,0,none⟩) al).trans a0)),((far3 _ _ _ _ (by dsimp only;omega)).trans ((aA.cell (p:=⟨w.heap.size,1,none⟩) al).trans a1)),((far3 _ _ _ _ (by dsimp only;omega)).trans ((aA.cell (p:=⟨w.heap.size,2,none⟩) al).trans a2))⟩)
    (first | (go_at_call 86;refine(zai 1 w7.drew (by omega) (by omega)).mono ?_;rintro e w8 ⟨A8,m8,c8,rfl,aJ,aA⟩;have hk:=aD.below aA cl;obtain⟨e0,e1,e2,g0,g1,g2,gl⟩:=hk.cells))
   go_wp2_with fail
   have aC:Below w.heap.size w w8:=hW.drew.trans (aA.mono hW.size);have aF:=zao aC (g:=w.heap.size+1) (by omega) (.bool true) (.slice A7 m7 c7) (.slice A8 m8 c8);refine bodyPost_ret (v := .agg #[.bool true,.slice A7 m7 c7,.slice A8 m8 c8]) (by simp[results,Tryz.results113,go_sem,e0,e1,e2]) rfl ⟨_,rfl,⟨A7,m7,c7,A8,m8,c8,by rfl,?_,?_⟩,aF⟩
   ·rw[zah,aG];exact(aH.later (Below.drew (Below.refl _ _) |>.trans aA)).res hk _ _ _
   ·rw[zah];exact aJ.res hk _ _ _
def LenQ (q:Q) (K:Nat):Prop:=(digs q.top).length≤K∧(digs q.bot).length≤K
theorem LenQ.mono{q:Q}{K L:Nat}(h:LenQ q K)(hl:K≤L):LenQ q L:=⟨Nat.le_trans h.1 hl,Nat.le_trans h.2 hl⟩
theorem RatS.later {w w':World} {v:Value} {q:Q} (h:RatS w w.heap.size v q) (hb:Below w.heap.size w w'):RatS w' w'.heap.size v q:=by
 obtain⟨A,n,c,A',n',c',rfl,h1,h2⟩:=h;exact⟨A,n,c,A',n',c',rfl,h1.later hb,h2.later hb⟩
theorem zbF:(digs 1).length≤1:=zab (by decide)
theorem zem{b:Bool}{x y K:Nat}(hx:(digs x).length≤K)(hy:(digs y).length≤K)(hK:1≤K):LenQ (lowQ b x y) K:=by
 unfold lowQ
 split
 ·exact⟨by show(digs 0).length≤K;rw[zal];exact Nat.zero_le _,by show(digs 0).length≤K;rw[zal];exact Nat.zero_le _⟩
 ·split
  ·exact⟨by show(digs 0).length≤K;rw[zal];exact Nat.zero_le _,Nat.le_trans zbF hK⟩
  ·exact⟨Nat.le_trans (zaa (Nat.div_le_self _ _)) hx,Nat.le_trans (zaa (Nat.div_le_self _ _)) hy⟩
def zci (q:Q):Q:=⟨!q.neg && !decide (q.top=0),q.top,q.bot⟩
def za6 (p q:Q):Q:=zcS p (zci q)
theorem zbZ{q:Q}{K:Nat}(h:LenQ q K):LenQ (zci q) K:=h
theorem zby {p q:Q} {K L:Nat} (b:Bool) (hp:LenQ p K) (hq:LenQ q L) (h1:1≤K+L):LenQ (lowQ b (p.top*q.top) (p.bot*q.bot)) (K+L):=
 zem (zaD hp.1 hq.1) (zaD hp.2 hq.2) h1
theorem zbC {p q:Q} {K L:Nat} (b:Bool) (hp:LenQ p K) (hq:LenQ q L) (h1:1≤K+L):LenQ (lowQ b (p.top*q.bot) (p.bot*q.top)) (K+L):=
 zem (zaD hp.1 hq.2) (zaD hp.2 hq.1) h1
theorem zbw {p q:Q} {K L:Nat} (hp:LenQ p K) (hq:LenQ q L):LenQ (zcS p q) (K+L+K+L+1):=by
 have hb:(digs (p.bot*q.bot)).length≤K+L:=zaD hp.2 hq.2;have h1:(digs (p.top*q.bot)).length≤K+L:=zaD hp.1 hq.2;have h2:(digs (q.top*p.bot)).length≤L+K:=zaD hq.1 hp.2;have h3:=zdw h1 h2;have h4:=zdS (p.top*q.bot) (q.top*p.bot);have h5:=zdS (q.top*p.bot) (p.top*q.bot);unfold zcS
 split
 ·exact zem (by omega) (by omega) (by omega)
 ·split
  ·exact zem (by omega) (by omega) (by omega)
  ·exact zem (by omega) (by omega) (by omega)
theorem zhS(p q:Q)(v u:Value)(w:World)(hT:Tabs w)(hv:RatS w w.heap.size v p)(hu:RatS w w.heap.size u q)(hp:LenQ p 134217728)(hq:LenQ q 134217728) :
  Calls Tryz.prog 142 #[v,u] w (za5 w (zcS p q)):=by
 obtain⟨A1,n1,c1,A2,n2,c2,rfl,h1,h2⟩:=hv;obtain⟨A3,n3,c3,A4,n4,c4,rfl,h3,h4⟩:=hu;exact zjy p q A1 A2 A3 A4 n1 c1 n2 c2 n3 c3 n4 c4 w hT h1 h2 h3 h4 (by rw[←h1.len];exact hp.1) (by rw[←h2.len];exact hp.2) (by rw[←h3.len];exact hq.1) (by rw[←h4.len];exact hq.2)
theorem ze2(p q:Q)(v u:Value)(w:World)(hT:Tabs w)(hv:RatS w w.heap.size v p)(hu:RatS w w.heap.size u q)(hp:LenQ p 268435456)(hq:LenQ q 268435456) :
  Calls Tryz.prog 145 #[v,u] w (za5 w (lowQ (p.neg != q.neg) (p.top*q.top) (p.bot*q.bot))):=by
 obtain⟨A1,n1,c1,A2,n2,c2,rfl,h1,h2⟩:=hv;obtain⟨A3,n3,c3,A4,n4,c4,rfl,h3,h4⟩:=hu;exact ziF p q A1 A2 A3 A4 n1 c1 n2 c2 n3 c3 n4 c4 w hT h1 h2 h3 h4 (by rw[←h1.len];exact hp.1) (by rw[←h2.len];exact hp.2) (by rw[←h3.len];exact hq.1) (by rw[←h4.len];exact hq.2)
theorem zfl(p q:Q)(v u:Value)(w:World)(hT:Tabs w)(hv:RatS w w.heap.size v p)(hu:RatS w w.heap.size u q)(hp:LenQ p 268435456)(hq:LenQ q 268435456) :
  Calls Tryz.prog 112 #[v,u] w (za5 w (lowQ (p.neg != q.neg) (p.top*q.bot) (p.bot*q.top))):=by
 obtain⟨A1,n1,c1,A2,n2,c2,rfl,h1,h2⟩:=hv;obtain⟨A3,n3,c3,A4,n4,c4,rfl,h3,h4⟩:=hu;exact zjN p q A1 A2 A3 A4 n1 c1 n2 c2 n3 c3 n4 c4 w hT h1 h2 h3 h4 (by rw[←h1.len];exact hp.1) (by rw[←h2.len];exact hp.2) (by rw[←h3.len];exact hq.1) (by rw[←h4.len];exact hq.2)
theorem zbp(p q:Q)(v u:Value)(w:World)(hv:RatS w w.heap.size v p)(hu:RatS w w.heap.size u q)(hp:LenQ p 268435456)(hq:LenQ q 268435456) :
  Calls Tryz.prog 81 #[v,u] w fun e w'=>e = .returned (.int .i64 (rcmp p q))∧Below w.heap.size w w':=by
 obtain⟨A1,n1,c1,A2,n2,c2,rfl,h1,h2⟩:=hv;obtain⟨A3,n3,c3,A4,n4,c4,rfl,h3,h4⟩:=hu;exact zgP p q A1 A2 A3 A4 n1 c1 n2 c2 n3 c3 n4 c4 w h1 h2 h3 h4 (by rw[←h1.len];exact hp.1) (by rw[←h2.len];exact hp.2) (by rw[←h3.len];exact hq.1) (by rw[←h4.len];exact hq.2)
theorem znF(p:Q)(v:Value)(w:World)(hv:RatS w w.heap.size v p) :
  Calls Tryz.prog 174 #[v] w (za5 w (zci p)):=by
 obtain⟨A1,n1,c1,A2,n2,c2,rfl,h1,h2⟩:=hv;exact zgX p.neg p.top p.bot A1 A2 n1 c1 n2 c2 w h1 h2
theorem zj7(p:Q)(v:Value)(w:World)(hv:RatS w w.heap.size v p) :
  Calls Tryz.prog 97 #[v] w fun e w'=>e = .returned (.bool (decide (p.top=0)))∧Below w.heap.size w w':=by
 obtain⟨A1,n1,c1,A2,n2,c2,rfl,h1,h2⟩:=hv;exact zcx p.neg p.top A1 A2 n1 c1 n2 c2 w h1
theorem zkA(p:Q)(v:Value)(w:World)(hv:RatS w w.heap.size v p)(hy:0<p.bot)(hp:LenQ p 268435456) :
  Calls Tryz.prog 113 #[v] w (za5 w (zbd p)):=by
 obtain⟨A1,n1,c1,A2,n2,c2,rfl,h1,h2⟩:=hv;exact ziJ p.neg p.top p.bot A1 A2 n1 c1 n2 c2 w h1 h2 hy (by rw[←h1.len];exact hp.1)
theorem zcd(p:Q)(v:Value)(w:World)(hT:Tabs w)(hv:RatS w w.heap.size v p)(hp:LenQ p 268435456) :
  Calls Tryz.prog 89 #[v] w (zb7 w (zbr p) (zau p)):=by
 obtain⟨A1,n1,c1,A2,n2,c2,rfl,h1,h2⟩:=hv;exact zgh p A1 A2 n1 c1 n2 c2 w hT h1 h2 (by rw[←h1.len];exact hp.1) (by rw[←h2.len];exact hp.2)
theorem zsg(a b:Int)(w:World)(hT:Tabs w)(ha : -9223372036854775808≤a∧a<9223372036854775808)(hb : -9223372036854775808≤b∧b<9223372036854775808) :
  Calls Tryz.prog 51 #[.int .i64 a,.int .i64 b] w (zb7 w (zbr (lowQ (decide (a<0) != decide (b<0)) (a.natAbs*1) (1*b.natAbs))) (zau (lowQ (decide (a<0) != decide (b<0)) (a.natAbs*1) (1*b.natAbs)))):=by
 have la:LenQ ⟨decide (a<0),a.natAbs,1⟩ 2:=⟨zab (by have e:B^2=340282366920938463463374607431768211456:=(by decide);rw[e];show a.natAbs<_;omega),Nat.le_trans zbF (by omega)⟩;have lb:LenQ ⟨decide (b<0),b.natAbs,1⟩ 2:=⟨zab (by have e:B^2=340282366920938463463374607431768211456:=(by decide);rw[e];show b.natAbs<_;omega),Nat.le_trans zbF (by omega)⟩;have HA:=Aa (zcG a w ha.1 ha.2);have HB:=Aa (fun W=>zcG b W hb.1 hb.2);have lo:=zbC (decide (a<0) != decide (b<0)) la lb (by omega);have HO:=Aa (fun v u W h1 h2 h3=>zfl ⟨decide (a<0),a.natAbs,1⟩ ⟨decide (b<0),b.natAbs,1⟩ v u W h1 h2 h3 (la.mono (by omega)) (lb.mono (by omega)))
 dsimp only at lo HO
 generalize lowQ (decide (a<0) != decide (b<0)) (a.natAbs*1) (1*b.natAbs)=q at *;clear la lb;go_enter Tryz.func51,Tryz.ntmps51
 go_wp2_with fail
 refine HA.out.mono ?_;rintro e w1 ⟨v1,rfl,h1,aD⟩
 go_wp2_with fail
 refine(HB.out w1).mono ?_;rintro e w2 ⟨v2,rfl,h2,aE⟩;have aC:=Ad aD aE
 go_wp2_with fail
 refine(HO.out v1 v2 w2 (hT.later aC) (h1.later aE) h2).mono ?_;rintro e w3 ⟨v3,rfl,h3,aF⟩;have aA:=Ad aC aF
 go_wp2_with fail
 refine(zcd q v3 w3 (hT.later aA) h3 (lo.mono (by omega))).mono ?_;rintro e w4 ⟨s,rfl,hs,aG⟩;go_wp2
 go_ret2
 exact⟨s,rfl,hs,aA.trans (aG.mono aA.size)⟩
theorem zoW(s:ByteArray)(w:World)(hT:Tabs w)(hs:s.size≤4294967296)(hx:zan s.data.toList=0) :
  Calls Tryz.prog 52 #[.string s] w (zb7 w (zbr (zbd (zaf s.data.toList))) (zau (zbd (zaf s.data.toList)))):=by
 have hr:=zca s w hT hs;have aA:=@zaE s.data.toList hx;have aI:=zeS hx;rw[hx] at hr;generalize zaf s.data.toList=p at *;have lf:LenQ (zbd p) 602:=by
  refine⟨?_,Nat.le_trans zbF (by omega)⟩;unfold zbd
  dsimp only
  have h1:(digs (p.top/p.bot)).length≤600:=Nat.le_trans (zaa (Nat.div_le_self _ _)) aA.1
  split
  ·have:=zdw h1 (y:=1) (b:=0+1) (by exact zbF)
   refine Nat.le_trans (zdw h1 zbF) ?_;omega
  ·omega
 have HR:=Aa hr;clear hr hx;go_enter Tryz.func52,Tryz.ntmps52
 go_wp2_with fail
 refine HR.out.mono ?_;rintro e w1 ⟨v,rfl,⟨A1,n1,c1,A2,n2,c2,rfl,h1,h2⟩,aD⟩;have hv:RatS w1 w1.heap.size (.agg #[.bool p.neg,.slice A1 n1 c1,.slice A2 n2 c2]) p:=⟨A1,n1,c1,A2,n2,c2,rfl,h1,h2⟩;have aF:Below w1.heap.size w1 (w1.alloc (.cells #[.bool p.neg,.slice A1 n1 c1,.slice A2 n2 c2] 87)):=Ac;have aE:=Ad aD aF
 go_wp2_with fail
 refine(zkA p _ _ (hv.later aF) aI ⟨by have:=aA.1;omega,by have:=aA.2;omega⟩).mono ?_;rintro e w2 ⟨v2,rfl,h2,aH⟩;have aC:=Ad aE aH
 go_wp2_with fail
 refine(zcd (zbd p) v2 w2 (hT.later aC) h2 (lf.mono (by omega))).mono ?_;rintro e w3 ⟨t,rfl,ht,aG⟩;go_wp2
 go_ret2
 exact⟨t,rfl,ht,aC.trans (aG.mono aC.size)⟩
end Go.Proofs.YtbkgkoenppkhpaaGreatDoor
