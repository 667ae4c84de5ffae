/- Contract of plus of rational numbers. -/
import Derived.Shelf.SlSorted.Search
import Derived.Test.YtbkgkoenppkhpaaGreatDoorBRb2
set_option maxRecDepth 100000
set_option maxHeartbeats 8000000
namespace Go.Proofs.YtbkgkoenppkhpaaGreatDoor
section
open Go.RowKit Bn
def zcS (p q:Q):Q:=
 if p.neg=q.neg then lowQ p.neg (p.top*q.bot+q.top*p.bot) (p.bot*q.bot)
 else if p.top*q.bot<q.top*p.bot then lowQ q.neg (q.top*p.bot-p.top*q.bot) (p.bot*q.bot)
 else lowQ p.neg (p.top*q.bot-q.top*p.bot) (p.bot*q.bot)
theorem zdw{a b x y:Nat}(hx:(digs x).length≤a)(hy:(digs y).length≤b):(digs (x+y)).length≤a+b+1:=by
 refine zab ?_;have h1:=zac x;have h2:=zac y;have h3:B^(digs x).length≤B^(a+b):=Nat.pow_le_pow_right zaS (by omega);have h4:B^(digs y).length≤B^(a+b):=Nat.pow_le_pow_right zaS (by omega);rw[Nat.pow_succ];have h5:B^(a+b)*2≤B^(a+b)*B:=Nat.mul_le_mul_left _ (by rw[zdC];omega);omega
theorem zdS(x y:Nat):(digs (x-y)).length≤(digs x).length:=zaa (Nat.sub_le _ _)
theorem zaD {a b x y:Nat} (hx:(digs x).length≤a) (hy:(digs y).length≤b):(digs (x*y)).length≤a+b:=by
 refine zab ?_;rw[Nat.pow_add];have h3:B^(digs x).length≤B^a:=Nat.pow_le_pow_right zaS hx;have h4:B^(digs y).length≤B^b:=Nat.pow_le_pow_right zaS hy;exact Nat.mul_lt_mul'' (Nat.lt_of_lt_of_le (zac x) h3) (Nat.lt_of_lt_of_le (zac y) h4)
theorem zjy(p q:Q)(A1 A2 A3 A4:Option Addr)(n1 c1 n2 c2 n3 c3 n4 c4:Nat)(w:World)(hT:Tabs w)
 (h1:NatS w w.heap.size A1 n1 c1 p.top)(h2:NatS w w.heap.size A2 n2 c2 p.bot)(h3:NatS w w.heap.size A3 n3 c3 q.top)(h4:NatS w w.heap.size A4 n4 c4 q.bot)
 (k1:n1≤134217728)(k2:n2≤134217728)(k3:n3≤134217728)(k4:n4≤134217728) :
  Calls Tryz.prog 142 #[.agg #[.bool p.neg,.slice A1 n1 c1,.slice A2 n2 c2],.agg #[.bool q.neg,.slice A3 n3 c3,.slice A4 n4 c4]] w (za5 w (zcS p q)):=by
 obtain⟨bp,x1,x2⟩:=p;obtain⟨bq,x3,x4⟩:=q
 dsimp only at h1 h2 h3 h4 ⊢
 have bG:Below w.heap.size w (((w.alloc (.cells #[.bool bp,.slice A1 n1 c1,.slice A2 n2 c2] 87)).alloc (.cells #[.bool bq,.slice A3 n3 c3,.slice A4 n4 c4] 87)).alloc (.cells #[.bool false,.slice none 0 0,.slice none 0 0] 87)):=
  (((Below.refl _ _).alloc (Nat.le_refl _) _).alloc (by simp) _).alloc (by simp;omega) _
 have bU:zae (((w.alloc (.cells #[.bool bp,.slice A1 n1 c1,.slice A2 n2 c2] 87)).alloc (.cells #[.bool bq,.slice A3 n3 c3,.slice A4 n4 c4] 87)).alloc (.cells #[.bool false,.slice none 0 0,.slice none 0 0] 87)) (w.heap.size) bp (.slice A1 n1 c1) (.slice A2 n2 c2):=
  (((zae.new w _ _ _).below ((Below.refl _ _).alloc (Nat.le_refl _) _) (by simp))).below ((Below.refl _ _).alloc (Nat.le_refl _) _) (by simp;omega)
 have bY:zae (((w.alloc (.cells #[.bool bp,.slice A1 n1 c1,.slice A2 n2 c2] 87)).alloc (.cells #[.bool bq,.slice A3 n3 c3,.slice A4 n4 c4] 87)).alloc (.cells #[.bool false,.slice none 0 0,.slice none 0 0] 87)) (w.heap.size+1) bq (.slice A3 n3 c3) (.slice A4 n4 c4):=by
  have h:=(zae.new (w.alloc (.cells #[.bool bp,.slice A1 n1 c1,.slice A2 n2 c2] 87)) bq (.slice A3 n3 c3) (.slice A4 n4 c4)).below ((Below.refl _ _).alloc (Nat.le_refl _) (.cells #[.bool false,.slice none 0 0,.slice none 0 0] 87)) (by simp)
  simpa using h
 have bT:zae (((w.alloc (.cells #[.bool bp,.slice A1 n1 c1,.slice A2 n2 c2] 87)).alloc (.cells #[.bool bq,.slice A3 n3 c3,.slice A4 n4 c4] 87)).alloc (.cells #[.bool false,.slice none 0 0,.slice none 0 0] 87)) (w.heap.size+1+1) false (.slice none 0 0) (.slice none 0 0):=by
  have h:=zae.new ((w.alloc (.cells #[.bool bp,.slice A1 n1 c1,.slice A2 n2 c2] 87)).alloc (.cells #[.bool bq,.slice A3 n3 c3,.slice A4 n4 c4] 87)) false (.slice none 0 0) (.slice none 0 0)
  simpa using h
 go_enter Tryz.func142,Tryz.ntmps142
 go_wp2_with fail
 generalize (((w.alloc (.cells #[.bool bp,.slice A1 n1 c1,.slice A2 n2 c2] 87)).alloc (.cells #[.bool bq,.slice A3 n3 c3,.slice A4 n4 c4] 87)).alloc (.cells #[.bool false,.slice none 0 0,.slice none 0 0] 87))=w3 at *;obtain⟨a0,a1,a2,_,_,_,al⟩:=bU.cells;obtain⟨b0,b1,b2,_,_,_,bl⟩:=bY.cells;have bJ:Below w3.heap.size w3 w3.drew:=Below.drew (Below.refl _ _);have g1:=(h1.later bG).later bJ;have g2:=(h2.later bG).later bJ;have g3:=(h3.later bG).later bJ;have g4:=(h4.later bG).later bJ
 go_region_held3 (fun w'=>w'.cell? ⟨w.heap.size,0,none⟩=some (.bool bp)∧w'.cell? ⟨w.heap.size,1,none⟩=some (.slice A1 n1 c1)∧w'.cell? ⟨w.heap.size,2,none⟩=some (.slice A2 n2 c2)∧w'.cell? ⟨w.heap.size+1,0,none⟩=some (.bool bq)∧w'.cell? ⟨w.heap.size+1,1,none⟩=some (.slice A3 n3 c3)∧w'.cell? ⟨w.heap.size+1,2,none⟩=some (.slice A4 n4 c4))
  (first | exact⟨a0,a1,a2,b0,b1,b2⟩ | exact⟨((aH.cell (p:=⟨w.heap.size,0,none⟩) al).trans a0),((aH.cell (p:=⟨w.heap.size,1,none⟩) al).trans a1),((aH.cell (p:=⟨w.heap.size,2,none⟩) al).trans a2),((aH.cell (p:=⟨w.heap.size+1,0,none⟩) bl).trans b0),((aH.cell (p:=⟨w.heap.size+1,1,none⟩) bl).trans b1),((aH.cell (p:=⟨w.heap.size+1,2,none⟩) bl).trans b2)⟩ | exact⟨((aU.cell (p:=⟨w.heap.size,0,none⟩) bR).trans ((aH.cell (p:=⟨w.heap.size,0,none⟩) al).trans a0)),((aU.cell (p:=⟨w.heap.size,1,none⟩) bR).trans ((aH.cell (p:=⟨w.heap.size,1,none⟩) al).trans a1)),((aU.cell (p:=⟨w.heap.size,2,none⟩) bR).trans ((aH.cell (p:=⟨w.heap.size,2,none⟩) al).trans a2)),((aU.cell (p:=⟨w.heap.size+1,0,none⟩) bP).trans ((aH.cell (p:=⟨w.heap.size+1,0,none⟩) bl).trans b0)),((aU.cell (p:=⟨w.heap.size+1,1,none⟩) bP).trans ((aH.cell (p:=⟨w.heap.size+1,1,none⟩) bl).trans b1)),((aU.cell (p:=⟨w.heap.size+1,2,none⟩) bP).trans ((aH.cell (p:=⟨w.heap.size+1,2,none⟩) bl).trans b2))⟩)
  (first
   |(go_at_call_of 90 (Value.slice A1 n1 c1);refine(zaJ A1 A4 n1 c1 n4 c4 x1 x4 w3.drew g1 g4 (by omega) (by omega)).mono ?_;rintro e w4 ⟨A5,m5,c5,rfl,bX,aH⟩;have bR:=Nat.lt_of_lt_of_le al aH.size;have bP:=Nat.lt_of_lt_of_le bl aH.size)
   |(go_at_call_of 90 (Value.slice A3 n3 c3);refine(zaJ A3 A2 n3 c3 n2 c2 x3 x2 w4 (g3.later aH) (g2.later aH) (by omega) (by omega)).mono ?_;rintro e w6 ⟨A6,m6,c6,rfl,bV,aU⟩))
 have bL:Below w3.heap.size w3 w6:=(bJ.trans aH).trans (aU.mono aH.size);have y2:=(bL.cell (p:=⟨w.heap.size,2,none⟩) al).trans a2;have y4:=(bL.cell (p:=⟨w.heap.size+1,2,none⟩) bl).trans b2;have q2:=(g2.later aH).later aU;have q4:=(g4.later aH).later aU;have p5:=bX.later aU;clear g1 g2 g3 g4 bX
 go_wp2_with fail
 refine(zaJ A2 A4 n2 c2 n4 c4 x2 x4 w6 q2 q4 (by omega) (by omega)).mono ?_;rintro e w8 ⟨A7,m7,c7,rfl,bM,bN⟩;have bA:Below w3.heap.size w3 w8:=Ad bL bN;have aP:=(bA.cell (p:=⟨w.heap.size,0,none⟩) al).trans a0;have aL:=(bA.cell (p:=⟨w.heap.size,1,none⟩) al).trans a1;have aM:=(bA.cell (p:=⟨w.heap.size,2,none⟩) al).trans a2;have aQ:=(bA.cell (p:=⟨w.heap.size+1,0,none⟩) bl).trans b0;have aO:=(bA.cell (p:=⟨w.heap.size+1,1,none⟩) bl).trans b1;have aN:=(bA.cell (p:=⟨w.heap.size+1,2,none⟩) bl).trans b2;have bO:=bT.below bA bT.cells.2.2.2.2.2.2;have bB:=bO.cells.2.2.2.2.2.2;have aE:=Nat.lt_of_lt_of_le al bA.size;have aD:=Nat.lt_of_lt_of_le bl bA.size;have aR:Below w.heap.size w w8:=Ad bG bA;have bQ:=hT.later aR;have r5:=p5.later bN;have r6:=bV.later bN;have l5:m5≤n1+n4:=by have h:=zaD (Nat.le_of_eq h1.len) (Nat.le_of_eq h4.len);rw[r5.len] at h;exact h
 have l6:m6≤n3+n2:=by have h:=zaD (Nat.le_of_eq h3.len) (Nat.le_of_eq h2.len);rw[r6.len] at h;exact h
 have l7:m7≤n2+n4:=by have h:=zaD (Nat.le_of_eq h2.len) (Nat.le_of_eq h4.len);rw[bM.len] at h;exact h
 have bC:=aR.size;clear p5 q2 q4 bV y2 y4 aH aU bN bL bU bY bT a0 a1 a2 b0 b1 b2
 by_cases hs:bp=bq
 ·have HV:Hid (zcS ⟨bp,x1,x2⟩ ⟨bq,x3,x4⟩=lowQ bp (x1*x4+x3*x2) (x2*x4)):=by unfold Hid zcS;rw[if_pos hs]
  have bZ:(bp==bq)=true:=by simpa using hs
  have bE:=zdw (Nat.le_of_eq r5.len) (Nat.le_of_eq r6.len);have aF:Below w8.heap.size w8 w8.drew:=Below.drew (Below.refl _ _);clear hs
  go_wp2_with fail
  go_region_held3 (fun w'=>w'.cell? ⟨w.heap.size,0,none⟩=some (.bool bp)∧w'.cell? ⟨w.heap.size,1,none⟩=some (.slice A1 n1 c1)∧w'.cell? ⟨w.heap.size,2,none⟩=some (.slice A2 n2 c2)∧w'.cell? ⟨w.heap.size+1,0,none⟩=some (.bool bq)∧w'.cell? ⟨w.heap.size+1,1,none⟩=some (.slice A3 n3 c3)∧w'.cell? ⟨w.heap.size+1,2,none⟩=some (.slice A4 n4 c4))
   (first | exact⟨aP,aL,aM,aQ,aO,aN⟩ | exact⟨((aC.cell (p:=⟨w.heap.size,0,none⟩) aE).trans aP),((aC.cell (p:=⟨w.heap.size,1,none⟩) aE).trans aL),((aC.cell (p:=⟨w.heap.size,2,none⟩) aE).trans aM),((aC.cell (p:=⟨w.heap.size+1,0,none⟩) aD).trans aQ),((aC.cell (p:=⟨w.heap.size+1,1,none⟩) aD).trans aO),((aC.cell (p:=⟨w.heap.size+1,2,none⟩) aD).trans aN)⟩ | exact⟨((aA.cell (p:=⟨w.heap.size,0,none⟩) aI).trans ((aC.cell (p:=⟨w.heap.size,0,none⟩) aE).trans aP)),((aA.cell (p:=⟨w.heap.size,1,none⟩) aI).trans ((aC.cell (p:=⟨w.heap.size,1,none⟩) aE).trans aL)),((aA.cell (p:=⟨w.heap.size,2,none⟩) aI).trans ((aC.cell (p:=⟨w.heap.size,2,none⟩) aE).trans aM)),((aA.cell (p:=⟨w.heap.size+1,0,none⟩) aJ).trans ((aC.cell (p:=⟨w.heap.size+1,0,none⟩) aD).trans aQ)),((aA.cell (p:=⟨w.heap.size+1,1,none⟩) aJ).trans ((aC.cell (p:=⟨w.heap.size+1,1,none⟩) aD).trans aO)),((aA.cell (p:=⟨w.heap.size+1,2,none⟩) aJ).trans ((aC.cell (p:=⟨w.heap.size+1,2,none⟩) aD).trans aN))⟩ | exact⟨((far3 _ _ _ _ (by dsimp only;omega)).trans ((aA.cell (p:=⟨w.heap.size,0,none⟩) aI).trans ((aC.cell (p:=⟨w.heap.size,0,none⟩) aE).trans aP))),((far3 _ _ _ _ (by dsimp only;omega)).trans ((aA.cell (p:=⟨w.heap.size,1,none⟩) aI).trans ((aC.cell (p:=⟨w.heap.size,1,none⟩) aE).trans aL))),((far3 _ _ _ _ (by dsimp only;omega)).trans ((aA.cell (p:=⟨w.heap.size,2,none⟩) aI).trans ((aC.cell (p:=⟨w.heap.size,2,none⟩) aE).trans aM))),((far3 _ _ _ _ (by dsimp only;omega)).trans ((aA.cell (p:=⟨w.heap.size+1,0,none⟩) aJ).trans ((aC.cell (p:=⟨w.heap.size+1,0,none⟩) aD).trans aQ))),((far3 _ _ _ _ (by dsimp only;omega)).trans ((aA.cell (p:=⟨w.heap.size+1,1,none⟩) aJ).trans ((aC.cell (p:=⟨w.heap.size+1,1,none⟩) aD).trans aO))),((far3 _ _ _ _ (by dsimp only;omega)).trans ((aA.cell (p:=⟨w.heap.size+1,2,none⟩) aJ).trans ((aC.cell (p:=⟨w.heap.size+1,2,none⟩) aD).trans aN)))⟩)
   (first
    |(go_at_call 170;refine(zcw A5 A6 m5 c5 m6 c6 (x1*x4) (x3*x2) w8.drew (r5.later aF) (r6.later aF) (by omega) (by omega)).mono ?_;rintro e w9 ⟨A9,m9,c9,rfl,bD,aC⟩;have aI:=Nat.lt_of_lt_of_le aE aC.size;have aJ:=Nat.lt_of_lt_of_le aD aC.size)
    |(go_at_call 88;refine(zbH _ A9 A7 m9 c9 m7 c7 _ _ w9 ((bQ.later aF).later aC) bD ((bM.later aF).later aC) (by have:=bD.len;have:=bE;omega) (by omega)).mono ?_;rintro e bH ⟨v,rfl,⟨aT,aY,aW,aV,aZ,aX,rfl,bK,bI⟩,aA⟩;have aG:=((bO.below aF bB).below aC (Nat.lt_of_lt_of_le bB aF.size)).below aA (Nat.lt_of_lt_of_le (Nat.lt_of_lt_of_le bB aF.size) aC.size);obtain⟨e0,e1,e2,f0,f1,f2,gl⟩:=aG.cells))
  go_wp2_with fail
  have aK:Below w.heap.size w bH:=((aR.trans (aF.mono bC)).trans (aC.mono bC)).trans (aA.mono (by have:=aC.size;exact Nat.le_trans bC this));have aS:=zao aK (g:=w.heap.size+1+1) (by omega) (.bool (lowQ bp (x1*x4+x3*x2) (x2*x4)).neg) (.slice aT aY aW) (.slice aV aZ aX);refine bodyPost_ret (v := .agg #[.bool (lowQ bp (x1*x4+x3*x2) (x2*x4)).neg,.slice aT aY aW,.slice aV aZ aX]) (by simp[results,Tryz.results142,go_sem,e0,e1,e2]) rfl ⟨_,rfl,⟨aT,aY,aW,aV,aZ,aX,by rw[HV.out],?_,?_⟩,aS⟩
  ·rw[zah,HV.out];exact bK.res aG _ _ _
  ·rw[zah,HV.out];exact bI.res aG _ _ _
 ·have bZ:(bp==bq)=false:=by simpa using hs
  by_cases hlt:x1*x4<x3*x2
  ·have HV:Hid (zcS ⟨bp,x1,x2⟩ ⟨bq,x3,x4⟩=lowQ bq (x3*x2-x1*x4) (x2*x4)):=by unfold Hid zcS;rw[if_neg hs,if_pos hlt]
   have bF:=zaU A5 A6 m5 c5 m6 c6 (x1*x4) (x3*x2) w8 r5 r6;rw[show ncmp (x1*x4) (x3*x2) = -1 from by unfold ncmp;rw[if_pos hlt]] at bF;have bE:=zdS (x3*x2) (x1*x4);rw[r6.len] at bE;have bS:=Aa hlt;clear hs hlt
   go_wp2_with fail
   refine bF.mono ?_;rintro e wq ⟨rfl,nq,rfl⟩;clear bF
   go_wp2_with fail
   have aF:Below w8.heap.size w8 (w8.drewN nq).drew:=Below.drew (zad (Below.refl _ _) nq)
   go_region_held3 (fun w'=>w'.cell? ⟨w.heap.size,0,none⟩=some (.bool bp)∧w'.cell? ⟨w.heap.size,1,none⟩=some (.slice A1 n1 c1)∧w'.cell? ⟨w.heap.size,2,none⟩=some (.slice A2 n2 c2)∧w'.cell? ⟨w.heap.size+1,0,none⟩=some (.bool bq)∧w'.cell? ⟨w.heap.size+1,1,none⟩=some (.slice A3 n3 c3)∧w'.cell? ⟨w.heap.size+1,2,none⟩=some (.slice A4 n4 c4))
    (first | exact⟨aP,aL,aM,aQ,aO,aN⟩ | exact⟨((aC.cell (p:=⟨w.heap.size,0,none⟩) aE).trans aP),((aC.cell (p:=⟨w.heap.size,1,none⟩) aE).trans aL),((aC.cell (p:=⟨w.heap.size,2,none⟩) aE).trans aM),((aC.cell (p:=⟨w.heap.size+1,0,none⟩) aD).trans aQ),((aC.cell (p:=⟨w.heap.size+1,1,none⟩) aD).trans aO),((aC.cell (p:=⟨w.heap.size+1,2,none⟩) aD).trans aN)⟩ | exact⟨((aA.cell (p:=⟨w.heap.size,0,none⟩) aI).trans ((aC.cell (p:=⟨w.heap.size,0,none⟩) aE).trans aP)),((aA.cell (p:=⟨w.heap.size,1,none⟩) aI).trans ((aC.cell (p:=⟨w.heap.size,1,none⟩) aE).trans aL)),((aA.cell (p:=⟨w.heap.size,2,none⟩) aI).trans ((aC.cell (p:=⟨w.heap.size,2,none⟩) aE).trans aM)),((aA.cell (p:=⟨w.heap.size+1,0,none⟩) aJ).trans ((aC.cell (p:=⟨w.heap.size+1,0,none⟩) aD).trans aQ)),((aA.cell (p:=⟨w.heap.size+1,1,none⟩) aJ).trans ((aC.cell (p:=⟨w.heap.size+1,1,none⟩) aD).trans aO)),((aA.cell (p:=⟨w.heap.size+1,2,none⟩) aJ).trans ((aC.cell (p:=⟨w.heap.size+1,2,none⟩) aD).trans aN))⟩ | exact⟨((far3 _ _ _ _ (by dsimp only;omega)).trans ((aA.cell (p:=⟨w.heap.size,0,none⟩) aI).trans ((aC.cell (p:=⟨w.heap.size,0,none⟩) aE).trans aP))),((far3 _ _ _ _ (by dsimp only;omega)).trans ((aA.cell (p:=⟨w.heap.size,1,none⟩) aI).trans ((aC.cell (p:=⟨w.heap.size,1,none⟩) aE).trans aL))),((far3 _ _ _ _ (by dsimp only;omega)).trans ((aA.cell (p:=⟨w.heap.size,2,none⟩) aI).trans ((aC.cell (p:=⟨w.heap.size,2,none⟩) aE).trans aM))),((far3 _ _ _ _ (by dsimp only;omega)).trans ((aA.cell (p:=⟨w.heap.size+1,0,none⟩) aJ).trans ((aC.cell (p:=⟨w.heap.size+1,0,none⟩) aD).trans aQ))),((far3 _ _ _ _ (by dsimp only;omega)).trans ((aA.cell (p:=⟨w.heap.size+1,1,none⟩) aJ).trans ((aC.cell (p:=⟨w.heap.size+1,1,none⟩) aD).trans aO))),((far3 _ _ _ _ (by dsimp only;omega)).trans ((aA.cell (p:=⟨w.heap.size+1,2,none⟩) aJ).trans ((aC.cell (p:=⟨w.heap.size+1,2,none⟩) aD).trans aN)))⟩)
    (first
     |(go_at_call 192;refine(zdd A6 A5 m6 c6 m5 c5 (x3*x2) (x1*x4) (w8.drewN nq).drew (r6.later aF) (r5.later aF) (Nat.le_of_lt bS.out) (by omega)).mono ?_;rintro e w9 ⟨A9,m9,c9,rfl,bD,aC⟩;have aI:=Nat.lt_of_lt_of_le aE aC.size;have aJ:=Nat.lt_of_lt_of_le aD aC.size)
     |(go_at_call 88;refine(zbH _ A9 A7 m9 c9 m7 c7 _ _ w9 ((bQ.later aF).later aC) bD ((bM.later aF).later aC) (by have:=bD.len;have:=bE;omega) (by omega)).mono ?_;rintro e bH ⟨v,rfl,⟨aT,aY,aW,aV,aZ,aX,rfl,bK,bI⟩,aA⟩;have aG:=((bO.below aF bB).below aC (Nat.lt_of_lt_of_le bB aF.size)).below aA (Nat.lt_of_lt_of_le (Nat.lt_of_lt_of_le bB aF.size) aC.size);obtain⟨e0,e1,e2,f0,f1,f2,gl⟩:=aG.cells))
   go_wp2_with fail
   have aK:Below w.heap.size w bH:=((aR.trans (aF.mono bC)).trans (aC.mono bC)).trans (aA.mono (by have:=aC.size;exact Nat.le_trans bC this));have aS:=zao aK (g:=w.heap.size+1+1) (by omega) (.bool (lowQ bq (x3*x2-x1*x4) (x2*x4)).neg) (.slice aT aY aW) (.slice aV aZ aX);refine bodyPost_ret (v := .agg #[.bool (lowQ bq (x3*x2-x1*x4) (x2*x4)).neg,.slice aT aY aW,.slice aV aZ aX]) (by simp[results,Tryz.results142,go_sem,e0,e1,e2]) rfl ⟨_,rfl,⟨aT,aY,aW,aV,aZ,aX,by rw[HV.out],?_,?_⟩,aS⟩
   ·rw[zah,HV.out];exact bK.res aG _ _ _
   ·rw[zah,HV.out];exact bI.res aG _ _ _
  ·have HV:Hid (zcS ⟨bp,x1,x2⟩ ⟨bq,x3,x4⟩=lowQ bp (x1*x4-x3*x2) (x2*x4)):=by unfold Hid zcS;rw[if_neg hs,if_neg hlt]
   have bF:=zaU A5 A6 m5 c5 m6 c6 (x1*x4) (x3*x2) w8 r5 r6;have bW:ncmp (x1*x4) (x3*x2)=0∨ncmp (x1*x4) (x3*x2)=1:=by
    unfold ncmp;rw[if_neg hlt];split<;>simp
   have bE:=zdS (x1*x4) (x3*x2);rw[r5.len] at bE;have bS:=Aa (Nat.le_of_not_lt hlt);generalize ncmp (x1*x4) (x3*x2)=cv at bF bW;have cA:decide (cv<0)=false:=by simp;omega
   clear hs hlt bW
   go_wp2_with fail
   refine bF.mono ?_;rintro e wq ⟨rfl,nq,rfl⟩;clear bF
   go_wp2_with fail
   have aF:Below w8.heap.size w8 (w8.drewN nq).drew:=Below.drew (zad (Below.refl _ _) nq)
   go_region_held3 (fun w'=>w'.cell? ⟨w.heap.size,0,none⟩=some (.bool bp)∧w'.cell? ⟨w.heap.size,1,none⟩=some (.slice A1 n1 c1)∧w'.cell? ⟨w.heap.size,2,none⟩=some (.slice A2 n2 c2)∧w'.cell? ⟨w.heap.size+1,0,none⟩=some (.bool bq)∧w'.cell? ⟨w.heap.size+1,1,none⟩=some (.slice A3 n3 c3)∧w'.cell? ⟨w.heap.size+1,2,none⟩=some (.slice A4 n4 c4))
    (first | exact⟨aP,aL,aM,aQ,aO,aN⟩ | exact⟨((aC.cell (p:=⟨w.heap.size,0,none⟩) aE).trans aP),((aC.cell (p:=⟨w.heap.size,1,none⟩) aE).trans aL),((aC.cell (p:=⟨w.heap.size,2,none⟩) aE).trans aM),((aC.cell (p:=⟨w.heap.size+1,0,none⟩) aD).trans aQ),((aC.cell (p:=⟨w.heap.size+1,1,none⟩) aD).trans aO),((aC.cell (p:=⟨w.heap.size+1,2,none⟩) aD).trans aN)⟩ | exact⟨((aA.cell (p:=⟨w.heap.size,0,none⟩) aI).trans ((aC.cell (p:=⟨w.heap.size,0,none⟩) aE).trans aP)),((aA.cell (p:=⟨w.heap.size,1,none⟩) aI).trans ((aC.cell (p:=⟨w.heap.size,1,none⟩) aE).trans aL)),((aA.cell (p:=⟨w.heap.size,2,none⟩) aI).trans ((aC.cell (p:=⟨w.heap.size,2,none⟩) aE).trans aM)),((aA.cell (p:=⟨w.heap.size+1,0,none⟩) aJ).trans ((aC.cell (p:=⟨w.heap.size+1,0,none⟩) aD).trans aQ)),((aA.cell (p:=⟨w.heap.size+1,1,none⟩) aJ).trans ((aC.cell (p:=⟨w.heap.size+1,1,none⟩) aD).trans aO)),((aA.cell (p:=⟨w.heap.size+1,2,none⟩) aJ).trans ((aC.cell (p:=⟨w.heap.size+1,2,none⟩) aD).trans aN))⟩ | exact⟨((far3 _ _ _ _ (by dsimp only;omega)).trans ((aA.cell (p:=⟨w.heap.size,0,none⟩) aI).trans ((aC.cell (p:=⟨w.heap.size,0,none⟩) aE).trans aP))),((far3 _ _ _ _ (by dsimp only;omega)).trans ((aA.cell (p:=⟨w.heap.size,1,none⟩) aI).trans ((aC.cell (p:=⟨w.heap.size,1,none⟩) aE).trans aL))),((far3 _ _ _ _ (by dsimp only;omega)).trans ((aA.cell (p:=⟨w.heap.size,2,none⟩) aI).trans ((aC.cell (p:=⟨w.heap.size,2,none⟩) aE).trans aM))),((far3 _ _ _ _ (by dsimp only;omega)).trans ((aA.cell (p:=⟨w.heap.size+1,0,none⟩) aJ).trans ((aC.cell (p:=⟨w.heap.size+1,0,none⟩) aD).trans aQ))),((far3 _ _ _ _ (by dsimp only;omega)).trans ((aA.cell (p:=⟨w.heap.size+1,1,none⟩) aJ).trans ((aC.cell (p:=⟨w.heap.size+1,1,none⟩) aD).trans aO))),((far3 _ _ _ _ (by dsimp only;omega)).trans ((aA.cell (p:=⟨w.heap.size+1,2,none⟩) aJ).trans ((aC.cell (p:=⟨w.heap.size+1,2,none⟩) aD).trans aN)))⟩)
    (first
     |(go_at_call 192;refine(zdd A5 A6 m5 c5 m6 c6 (x1*x4) (x3*x2) (w8.drewN nq).drew (r5.later aF) (r6.later aF) bS.out (by omega)).mono ?_;rintro e w9 ⟨A9,m9,c9,rfl,bD,aC⟩;have aI:=Nat.lt_of_lt_of_le aE aC.size;have aJ:=Nat.lt_of_lt_of_le aD aC.size)
     |(go_at_call 88;refine(zbH _ A9 A7 m9 c9 m7 c7 _ _ w9 ((bQ.later aF).later aC) bD ((bM.later aF).later aC) (by have:=bD.len;have:=bE;omega) (by omega)).mono ?_;rintro e bH ⟨v,rfl,⟨aT,aY,aW,aV,aZ,aX,rfl,bK,bI⟩,aA⟩;have aG:=((bO.below aF bB).below aC (Nat.lt_of_lt_of_le bB aF.size)).below aA (Nat.lt_of_lt_of_le (Nat.lt_of_lt_of_le bB aF.size) aC.size);obtain⟨e0,e1,e2,f0,f1,f2,gl⟩:=aG.cells))
   go_wp2_with fail
   have aK:Below w.heap.size w bH:=((aR.trans (aF.mono bC)).trans (aC.mono bC)).trans (aA.mono (by have:=aC.size;exact Nat.le_trans bC this));have aS:=zao aK (g:=w.heap.size+1+1) (by omega) (.bool (lowQ bp (x1*x4-x3*x2) (x2*x4)).neg) (.slice aT aY aW) (.slice aV aZ aX);refine bodyPost_ret (v := .agg #[.bool (lowQ bp (x1*x4-x3*x2) (x2*x4)).neg,.slice aT aY aW,.slice aV aZ aX]) (by simp[results,Tryz.results142,go_sem,e0,e1,e2]) rfl ⟨_,rfl,⟨aT,aY,aW,aV,aZ,aX,by rw[HV.out],?_,?_⟩,aS⟩
   ·rw[zah,HV.out];exact bK.res aG _ _ _
   ·rw[zah,HV.out];exact bI.res aG _ _ _
end
section
open Go.RowKit Bn
open Flt
theorem zrZ:dn 1 0=4607182418800017408:=by decide +kernel
theorem zh8(W:World):Calls Tryz.prog 99 #[.float .f64 4607182418800017408,.int .i64 128] W fun e' w'=>e' = .returned (.float .f64 (dn 1 128))∧W=w':=by
 rw[←zrZ];have b1:(1:Nat).log2=0:=by decide
 exact ze0 W (zkU W (by omega) (by omega) (by rw[b1];omega) (by rw[b1];omega))
theorem zpo:Ieee.double.read 9218868437227405312 = .infinity false:=by decide +kernel
theorem zrX{x m:Nat}{p:Int}(h:Ieee.double.read x = .number false m p):(FloatKind.f64.format.order 9218868437227405312 x==some .gt || FloatKind.f64.format.order 9218868437227405312 x==some .eq)=true:=by
 have:FloatKind.f64.format.order 9218868437227405312 x=some .gt:=by
  show(Ieee.double.read 9218868437227405312).order (Ieee.double.read x)=_
  rw[zpo,h];rfl
 rw[this];rfl
theorem zrb{n:Nat}{e:Int}(h:Rnd n e)(h0:0<n)(he:e≤1099511627776) :
  ∃ r:Nat,(∀ W:World,Calls Tryz.prog 99 #[.float .f64 (dn n 0),.int .i64 e] W fun e' w'=>e' = .returned (.float .f64 r)∧W=w') ∧
   (FloatKind.f64.format.order r (dn 1 128)==some .gt || FloatKind.f64.format.order r (dn 1 128)==some .eq)=decide (2139095040≤rung n e) ∧
   (rung n e<2139095040→r=dn n e∧Nrm (sg n) (e+n.log2-52)):=by
 have hp:=h.place;have hh:=h.hi;have hl:=h.log2 h0
 by_cases hc:e+n.log2≤1023
 ·exact⟨dn n e,fun W=>ze0 W (zkU W h0 (by omega) (by omega) hc),zrO h h0 hc rfl,fun _=>⟨rfl,zeY h0 (by omega) (by omega) hc⟩⟩
 ·have hr:2139095040≤rung n e:=by unfold rung;omega
  refine⟨9218868437227405312,fun W=>ze0 W (zmB W h0 (by omega) (by omega) (by omega)),?_,fun hx=>absurd hr (by omega)⟩;have b1:(1:Nat).log2=0:=by decide
  rw[zrX (zjr (n:=1) (e:=128) (by omega) (by omega) (by rw[b1];omega) (by rw[b1];omega)),decide_eq_true hr]
theorem zmJ(s:ByteArray)(w:World)(hT:Tabs w)(hs:s.size≤4294967296)(hx:zan s.data.toList≠0) :
  Calls Tryz.prog 36 #[.string s] w fun e w'=>e = .returned (.tuple #[.float .f32 0,.int .i64 (zan s.data.toList)])∧Below w.heap.size w w':=by
 have hr:=zca s w hT hs;generalize zan s.data.toList=x at hr hx ⊢;generalize zaf s.data.toList=q at hr;have aA:(x != 0)=true:=by simpa using hx
 go_enter Tryz.func36,Tryz.ntmps36
 go_wp2_with fail
 refine hr.mono ?_;rintro e w1 ⟨v,rfl,⟨A,n,c,A',n',c',rfl,h1,h2⟩,hb⟩;go_wp2
 go_ret2
 exact⟨rfl,hb.alloc hb.size _⟩
theorem zll(s:ByteArray)(w:World)(hT:Tabs w)(hs:s.size≤4294967296)(hx:zan s.data.toList=0)(hz:(zaf s.data.toList).top=0) :
  Calls Tryz.prog 36 #[.string s] w fun e w'=>e = .returned (.tuple #[.float .f32 0,.int .i64 0])∧Below w.heap.size w w':=by
 have hr:=zca s w hT hs;rw[hx] at hr;generalize zaf s.data.toList=q at hr hz;go_enter Tryz.func36,Tryz.ntmps36
 go_wp2_with fail
 refine hr.mono ?_;rintro e w1 ⟨v,rfl,⟨A,n,c,A',n',c',rfl,h1,h2⟩,hb⟩;have aC:Below w1.heap.size w1 (w1.alloc (.cells #[.bool q.neg,.slice A n c,.slice A' n' c'] 87)):=Ac;have aA:=zcx q.neg q.top A A' n c n' c' _ (h1.later aC);rw[decide_eq_true hz] at aA;have aD:=Aa aA;clear aA hr
 go_wp2_with fail
 refine aD.out.mono ?_;rintro e w3 ⟨rfl,aE⟩;go_wp2
 go_ret2
 exact⟨rfl,(hb.trans (aC.mono hb.size)).trans (aE.mono (by have:=hb.size;simp;omega))⟩
theorem zfk(s:ByteArray)(w:World)(X r r2 R E:Nat)(g:Bool)(hT:Tabs w)(hs:s.size≤4294967296)(hx:zan s.data.toList=0)(hz:0<(zaf s.data.toList).top)
 (hX:floatOfInt .f64 ((flN (zaf s.data.toList).top (zaf s.data.toList).bot:Nat):Int)=X)
 (hL:∀ W:World,Calls Tryz.prog 99 #[.float .f64 X,.int .i64 (flE (zaf s.data.toList).top (zaf s.data.toList).bot)] W fun e' w'=>e' = .returned (.float .f64 r)∧W=w')
 (hE:∀ W:World,Calls Tryz.prog 99 #[.float .f64 4607182418800017408,.int .i64 128] W fun e' w'=>e' = .returned (.float .f64 E)∧W=w')
 (hG:(FloatKind.f64.format.order r E==some .gt || FloatKind.f64.format.order r E==some .eq)=g)
 (hN:g=false→(zaf s.data.toList).neg=true→floatBits .sub .f64 0 r=some r2)
 (hR:g=false→floatToFloatBits .f64 (if (zaf s.data.toList).neg then r2 else r) .f32=some R) :
  Calls Tryz.prog 36 #[.string s] w fun e w'=>e = .returned (.tuple #[.float .f32 (if g then 0 else R),.int .i64 (if g then 4 else 0)])∧Below w.heap.size w w':=by
 have hr:=zca s w hT hs;have hl:=@zaE s.data.toList hx;have aA:=@zeS s.data.toList hx;rw[hx] at hr;generalize zaf s.data.toList=q at hr hz hX hL hN hR hl aA;obtain⟨aS,hq⟩:=zdD hz aA;have nb:=zg6 (zb3 hl.1) (zb3 hl.2);have aX:flE q.top q.bot≤1073741824:=by unfold flE;omega
 have aU : -1073741824≤flE q.top q.bot:=by unfold flE;omega
 have aR:=zdO aA (flE q.top q.bot);have w1:wrap64 (bexp q.top q.bot+1)=bexp q.top q.bot+1:=IntWalk.wrap64_in _ (by omega);have w2:wrap64 (bexp q.top q.bot+1-24)=bexp q.top q.bot+1-24:=IntWalk.wrap64_in _ (by omega);have aZ:max (bexp q.top q.bot+1-24) (-149)=flE q.top q.bot:=rfl;obtain⟨l1,l2⟩:=hl;have HZ:=Aa hz;have HL:=Aa hL;have HE:=Aa hE;have HN:=Aa hN;have HR:=Aa hR;have HG:=Aa hG;clear hz hL hE hN hR hG;go_enter Tryz.func36,Tryz.ntmps36
 go_wp2_with fail
 refine hr.mono ?_;rintro e w1 ⟨v,rfl,⟨A,n,c,A',n',c',rfl,h1,h2⟩,hb⟩;rw[h1.len] at l1;rw[h2.len] at l2;have aE:Below w1.heap.size w1 (w1.alloc (.cells #[.bool q.neg,.slice A n c,.slice A' n' c'] 87)):=Ac;have aI:=zcx q.neg q.top A A' n c n' c' _ (h1.later aE);rw[decide_eq_false (show ¬ q.top=0 by have:=HZ.out;omega)] at aI;have aP:=Aa aI;clear aI hr
 go_wp2_with fail
 refine aP.out.mono ?_;rintro e w3 ⟨rfl,aD⟩;clear aP;have aM:zae w3 w1.heap.size q.neg (.slice A n c) (.slice A' n' c'):=(zae.new w1 _ _ _).below aD (by simp);have aG:Below w.heap.size w w3:=(hb.trans (aE.mono hb.size)).trans (aD.mono (by have:=hb.size;simp;omega));have aQ:w1.heap.size<w3.heap.size:=by have:=aD.size;simp at this;omega
 have g1:=(h1.later aE).later aD;have g2:=(h2.later aE).later aD;have aJ:=ze6 q.neg q.top q.bot A A' n c n' c' w3 g1 g2 (by omega) (by omega);obtain⟨x0,x1,x2,_,_,_,xl⟩:=aM.cells;have aL:=Aa aJ;clear aJ
 go_wp2_with fail
 refine aL.out.mono ?_;rintro e w4 ⟨rfl,aC⟩;clear aL x0 x1 x2 xl;have aN:=aM.below aC aQ;have aT:w1.heap.size<w4.heap.size:=by have:=aC.size;omega
 have aF:=zjQ q.neg q.top q.bot (flE q.top q.bot) A A' n c n' c' w4 (g1.later aC) (g2.later aC) (by omega) (by omega) ⟨aU,aX⟩ aR (by omega);have aY:near (scT q.top (flE q.top q.bot)) (scB q.bot (flE q.top q.bot))=flN q.top q.bot:=rfl;rw[aY] at aF;obtain⟨x0,x1,x2,_,_,_,xl⟩:=aN.cells;have aO:=Aa aF;clear aF
 go_wp2_with fail
 refine aO.out.mono ?_;rintro e w5 ⟨rfl,aK⟩;clear aO x0 x1 x2 xl;have aW:=aN.below aK aT;obtain⟨x0,x1,x2,_,_,_,xl⟩:=aW.cells;have aH:Below w.heap.size w w5:=(aG.trans (aC.mono aG.size)).trans (aK.mono (by have:=aG.size;have:=aC.size;omega));generalize flN q.top q.bot=N at *;generalize flE q.top q.bot=e at *
 go_wp2_with fail
 refine(HL.out _).mono ?_;rintro e6 w6 ⟨rfl,rfl⟩
 go_wp2_with fail
 refine(HE.out _).mono ?_;rintro e7 w7 ⟨rfl,rfl⟩;have hG:=HG.out
 cases hg:g
 ·subst hg
  have hR:=HR.out rfl
  cases hn:q.neg
  ·rw[hn,if_neg (by decide)] at hR
   rw[hn] at x0;have aV:=fun W:World=>run_convert_float_float (P:=Tryz.prog) W 111 46 .f64 .f32 r R (by kernel_rfl) (by kernel_rfl) hR
   go_wp2
   go_ret2
   exact⟨rfl,aH⟩
  ·have hN:=HN.out rfl hn
   rw[hn,if_pos rfl] at hR;rw[hn] at x0;have bA:=fun W:World=>run_float_arith (P:=Tryz.prog) W .sub 111 .f64 0 r r2 hN
   have aV:=fun W:World=>run_convert_float_float (P:=Tryz.prog) W 111 46 .f64 .f32 r2 R (by kernel_rfl) (by kernel_rfl) hR
   go_wp2
   go_ret2
   exact⟨rfl,aH⟩
 ·subst hg
  go_wp2
  go_ret2
  exact⟨rfl,aH⟩
theorem zlR:floatOfInt .f64 ((0:Nat):Int)=0:=by decide +kernel
theorem zjK:(FloatKind.f64.format.order 0 (dn 1 128)==some .gt || FloatKind.f64.format.order 0 (dn 1 128)==some .eq)=false:=by
 have b1:(1:Nat).log2=0:=by decide
 have f2:=znX (e:=128) (by omega) (by omega);have k2:=zof (e:=128) (u:=1178) (by omega) (by omega) (by omega);have f4:=zaT zck;have k4:=zbh zck;rw[Nat.zero_mul] at k4;show(Ieee.double.order _ _==some .gt || Ieee.double.order _ _==some .eq)=false
 rw[zba f4 f2,k4,k2];have:=Nat.two_pow_pos (24+1178);generalize 2^(24+1178)=A at this;rw[zda (by omega)];rfl
theorem znG:floatToFloatBits .f64 0 .f32=some 0:=by decide +kernel
theorem zdP(s:ByteArray)(w:World)(hT:Tabs w)(hs:s.size≤4294967296) :
  Calls Tryz.prog 36 #[.string s] w fun e w'=>
   e = .returned (.tuple #[.float .f32 (if zan s.data.toList≠0 then 0 else flW (zaf s.data.toList)),.int .i64 (if zan s.data.toList≠0 then zan s.data.toList else flX (zaf s.data.toList))])∧Below w.heap.size w w':=by
 by_cases hx:zan s.data.toList=0
 ·rw[if_neg (by simpa using hx),if_neg (by simpa using hx)]
  by_cases hz:(zaf s.data.toList).top=0
  ·have:=zll s w hT hs hx hz
   unfold flW flX;rw[if_pos hz,if_pos hz];exact this
  ·have aC:0<(zaf s.data.toList).top:=by omega
   obtain⟨aA,hq⟩:=zdD aC (zeS hx);have hl:=zaE hx;have nb:=zg6 (zb3 hl.1) (zb3 hl.2);have aD:flE (zaf s.data.toList).top (zaf s.data.toList).bot≤1073741824:=by unfold flE;omega
   unfold flW flX;rw[if_neg hz,if_neg hz]
   by_cases hN:flN (zaf s.data.toList).top (zaf s.data.toList).bot=0
   ·rw[if_pos hN,if_pos hN]
    exact zfk s w 0 0 0 0 (dn 1 128) false hT hs hx aC (by rw[hN];exact zlR) (fun W=>ze0 W (zl6 W)) zh8 zjK (fun _ _=>zhO) (fun _=>by rw[ite_self];exact znG)
   ·rw[if_neg hN,if_neg hN]
    have h0:0<flN (zaf s.data.toList).top (zaf s.data.toList).bot:=by omega
    obtain⟨r,hL,hG,hD⟩:=zrb aA h0 (by omega);have hX:=zpT (n:=flN (zaf s.data.toList).top (zaf s.data.toList).bot) h0 (by have:=aA.hi;omega)
    by_cases hR:2139095040≤rung (flN (zaf s.data.toList).top (zaf s.data.toList).bot) (flE (zaf s.data.toList).top (zaf s.data.toList).bot)
    ·rw[if_pos hR,if_pos hR]
     rw[decide_eq_true hR] at hG;exact zfk s w _ r 0 0 (dn 1 128) true hT hs hx aC hX hL zh8 hG (fun h=>by cases h) (fun h=>by cases h)
    ·rw[if_neg hR,if_neg hR]
     rw[decide_eq_false hR] at hG;obtain⟨hr,hn⟩:=hD (by omega);refine zfk s w _ r (dw true (sg (flN (zaf s.data.toList).top (zaf s.data.toList).bot)) (flE (zaf s.data.toList).top (zaf s.data.toList).bot+(flN (zaf s.data.toList).top (zaf s.data.toList).bot).log2-52)) _ (dn 1 128) false hT hs hx aC hX hL zh8 hG (fun _ _ => ?_) (fun _ => ?_)
     ·rw[hr];exact zo5 hn
     ·rw[hr]
      have hc:=fun b=>zqM b aA h0 (by omega)
      cases (zaf s.data.toList).neg
      ·exact hc false
      ·exact hc true
 ·rw[if_pos (by simpa using hx),if_pos (by simpa using hx)]
  exact zmJ s w hT hs hx
theorem zbO{a w:World}{B g:Nat}(h:Below B a w)(hg:B≤g)(u v:Value):Below B a ((w.setCell ⟨g,0,none⟩ u).setCell ⟨g,1,none⟩ v):=
 (h.setCell (p:=⟨g,0,none⟩) hg _).setCell (p:=⟨g,1,none⟩) hg _
theorem CBlk.far2 {w:World} {g g':Nat} {c:Array Value} {t:TypeId} (h:CBlk w g c t) (hne:g'≠g) (u v:Value):CBlk ((w.setCell ⟨g',0,none⟩ u).setCell ⟨g',1,none⟩ v) g c t:=
 (Below.heap_setCell _ ⟨g',1,none⟩ v g (fun e=>hne e.symm)).trans ((Below.heap_setCell w ⟨g',0,none⟩ u g (fun e=>hne e.symm)).trans h)
end
section
open Go.RowKit Dn
def sgn (b:Bool) (x:Nat):Int:=if b then -(x:Int) else(x:Int)
theorem zb2 (b:Bool) (x:Nat):(sgn b x).natAbs=x:=by unfold sgn;cases b<;>simp
theorem zdp(b:Bool)(x:Nat):decide (sgn b x<0)=(b && decide (0<x)):=by
 unfold sgn
 cases b
 ·simp
 ·simp
theorem zkS(z:Int):sgn (decide (z<0)) z.natAbs=z:=by
 unfold sgn
 by_cases h:z<0
 ·rw[decide_eq_true h,if_pos rfl];omega
 ·rw[decide_eq_false h,if_neg (by decide)];omega
def RetZ (w:World) (z:Int) (e:Ending) (w':World):Prop:=∃ A n c,e = .returned (.agg #[.bool (decide (z<0)),.slice A n c])∧DigI w' A n c (digs z.natAbs)∧Below w.heap.size w w'
theorem DigI.box{w:World}{A A1:Option Addr}{n c n1 c1 g:Nat}{b:Bool}{l:List Nat}{t:TypeId}(h:DigI w A n c l)(hk:CBlk w g #[.bool b,.slice A1 n1 c1] t)(u v:Value) :
  DigI ((w.setCell ⟨g,0,none⟩ u).setCell ⟨g,1,none⟩ v) A n c l:=by
 have k0:w.cell? ⟨g,0,none⟩=some (.bool b):=hk.cell 0;have k1:w.cell? ⟨g,1,none⟩=some (.slice A1 n1 c1):=hk.cell 1;refine⟨⟨h.rd.1,fun hn => ?_⟩,h.nc,h.cm,h.wf⟩;obtain⟨ad,e,hb,hc⟩:=h.rd.2 hn;refine⟨ad,e,by simpa[World.setCell] using hb,fun j z hz => ?_⟩;have aA:=hc j z hz;have aC:∃ d:Nat,z = .int .i64 (d:Int):=by
  rw[List.getElem?_map] at hz
  cases hd:l[j]? with
  | none=>rw[hd] at hz;cases hz
  | some d=>rw[hd] at hz;injection hz with hz;exact⟨d,hz.symm⟩
 obtain⟨d,rfl⟩:=aC;have n0:ad.add j≠⟨g,0,none⟩:=fun e0=>by rw[e0,k0] at aA;injection aA with aA;cases aA
 have aD:ad.add j≠⟨g,1,none⟩:=fun e0=>by rw[e0,k1] at aA;injection aA with aA;cases aA
 rw[World.cell?_setCell_other _ _ _ _ aD.symm,World.cell?_setCell_other _ _ _ _ n0.symm];exact aA
theorem ziQ{w:World}{A:Option Addr}{n c x:Nat}(h:DigI w A n c (digs x)):decide (0<(n:Int))=decide (0<x):=by
 rw[←h.len]
 rcases Nat.eq_zero_or_pos x with rfl | hx
 ·simp[zal]
 ·have:=zap hx
  simp[hx]
  omega
theorem za3(b:Bool)(A:Option Addr)(n c:Nat)(l:List Nat)(w:World)(h:DigI w A n c l)(hn:n≤1099511627776) :
  Calls Tryz.prog 163 #[.bool b,.slice A n c] w (RetZ w (sgn b (val l))):=by
 have aG:Below w.heap.size w (w.alloc (.cells #[.bool false,.slice none 0 0] 97)):=Ac;have hk:=CBlk.new w #[.bool false,.slice none 0 0] 97 _ rfl;have K1:=Aa (zcM A n c l _ (h.later aG) hn);have HA:=Aa (zb2 b (val l));have HN:=Aa (zdp b (val l));generalize val l=x at *;generalize sgn b x=z at *;clear h;go_enter Tryz.func163,Tryz.ntmps163
 go_wp2_with fail
 refine K1.out.mono ?_;rintro e w1 ⟨m,rfl,hd,aH⟩;have aD:=hk.below aH (by simp);have hB:=Ad aG aH;have k0:w1.cell? ⟨w.heap.size,0,none⟩=some (.bool false):=aD.cell 0;have k1:w1.cell? ⟨w.heap.size,1,none⟩=some (.slice none 0 0):=aD.cell 1;have f0:w1.frozen? ⟨w.heap.size,0,none⟩=false:=aD.frozen 0;have f1:w1.frozen? ⟨w.heap.size,1,none⟩=false:=aD.frozen 1;have hp:=ziQ hd;have aF:=zbO hB (g:=w.heap.size) (Nat.le_refl _) (.bool (b && decide (0<x))) (.slice A m c);have aC:=hd.box aD (.bool (b && decide (0<x))) (.slice A m c);have HS:=Aa aF;have HX:=Aa aC;clear aF aC aG aH hB K1;have aA:∀ bb:Bool,bb=(b && decide (0<x))→RetZ w z (.returned (.agg #[.bool bb,.slice A m c])) ((w1.setCell ⟨w.heap.size,0,none⟩ (.bool bb)).setCell ⟨w.heap.size,1,none⟩ (.slice A m c)):=fun bb aI=>by
  subst aI;exact⟨A,m,c,by rw[HN.out],by rw[HA.out];exact HX.out,HS.out⟩
 have aE:b=false∨(b=true∧0<x)∨(b=true∧x=0):=by
  cases b
  ·exact .inl rfl
  ·rcases Nat.eq_zero_or_pos x with h0 | h0
   ·exact .inr (.inr ⟨rfl,h0⟩)
   ·exact .inr (.inl ⟨rfl,h0⟩)
 rcases aE with rfl | ⟨rfl,hx⟩ | ⟨rfl,hx⟩
 ·have HR:=Aa (aA false (by simp))
  clear hp aA HS HX;go_wp2
  refine bodyPost_ret (v := .agg #[.bool false,.slice A m c]) (by simp[results,Tryz.results163,go_sem,k0,k1]) rfl ?_;exact HR.out
 ·have HR:=Aa (aA true (by simp[hx]))
  have dx:decide (0<(m:Int))=true:=by rw[hp];simpa using hx
  have dy:decide (0<m)=true:=by simpa using dx
  clear hp aA HS HX dx;go_wp2
  refine bodyPost_ret (v := .agg #[.bool true,.slice A m c]) (by simp[results,Tryz.results163,go_sem,k0,k1]) rfl ?_;exact HR.out
 ·have HR:=Aa (aA false (by simp[hx]))
  have dx:decide (0<(m:Int))=false:=by rw[hp];simpa using hx
  obtain rfl:m=0:=by simp at dx;omega
  clear hp aA HS HX dx;go_wp2
  refine bodyPost_ret (v := .agg #[.bool false,.slice A 0 c]) (by simp[results,Tryz.results163,go_sem,k0,k1]) rfl ?_;exact HR.out
end
end Go.Proofs.YtbkgkoenppkhpaaGreatDoor
