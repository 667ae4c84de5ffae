/- Contract of plus of rational numbers. -/
import Derived.Test.YteajibbphcfmeaaGreatDoorXRat2
import Derived.Test.YteajibbphcfmeaaGreatDoorXShelf
import Derived.Test.YteajibbphcfmeaaGreatDoorXRb2
import Derived.Test.YteajibbphcfmeaaGreatDoorXFl2
import Derived.Test.YteajibbphcfmeaaGreatDoorXLdx
import Derived.Test.YteajibbphcfmeaaGreatDoorXEx2
import Derived.Deep.RegionHeld3
import Derived.Test.YteajibbphcfmeaaGreatDoorXWords
import Derived.Deep.LoopGhost
import Derived.Shelf.SlSorted.Search
import Derived.Test.YteajibbphcfmeaaGreatDoorXDw
namespace Go.Proofs.YteajibbphcfmeaaGreatDoor
open Go.RowKit Bn
def zdi (p q:Q):Q:=
 if p.neg=q.neg then lowQ p.neg (p.top*q.bot+q.top*p.bot) (p.bot*q.bot)
 else if p.top*q.bot<q.top*p.bot then lowQ q.neg (q.top*p.bot - p.top*q.bot) (p.bot*q.bot)
 else lowQ p.neg (p.top*q.bot - q.top*p.bot) (p.bot*q.bot)
theorem zc0 {a b x y:Nat} (hx:(digs x).length≤a) (hy:(digs y).length≤b):(digs (x+y)).length≤a+b+1:=by
 refine digs_length_le ?_;have h1:=zac x;have h2:=zac y;have h3:B ^ (digs x).length≤B ^ (a+b):=Nat.pow_le_pow_right zaN (by omega);have h4:B ^ (digs y).length≤B ^ (a+b):=Nat.pow_le_pow_right zaN (by omega);rw [Nat.pow_succ];have h5:B ^ (a+b)*2≤B ^ (a+b)*B:=Nat.mul_le_mul_left _ (by rw [zdf];omega);omega
theorem zdp (x y:Nat):(digs (x - y)).length≤(digs x).length:=zaa (Nat.sub_le _ _)
theorem zaB {a b x y:Nat} (hx:(digs x).length≤a) (hy:(digs y).length≤b):(digs (x*y)).length≤a+b:=by
 refine digs_length_le ?_;rw [Nat.pow_add];have h3:B ^ (digs x).length≤B ^ a:=Nat.pow_le_pow_right zaN hx;have h4:B ^ (digs y).length≤B ^ b:=Nat.pow_le_pow_right zaN hy;exact Nat.mul_lt_mul'' (Nat.lt_of_lt_of_le (zac x) h3) (Nat.lt_of_lt_of_le (zac y) h4)
set_option maxHeartbeats 8000000 in
set_option maxRecDepth 100000 in
theorem ziq (p q:Q) (A1 A2 A3 A4:Option Addr) (n1 c1 n2 c2 n3 c3 n4 c4:Nat) (w:World) (hT:Tabs w)
  (h1:NatS w w.heap.size A1 n1 c1 p.top) (h2:NatS w w.heap.size A2 n2 c2 p.bot) (h3:NatS w w.heap.size A3 n3 c3 q.top) (h4:NatS w w.heap.size A4 n4 c4 q.bot)
  (k1:n1≤134217728) (k2:n2≤134217728) (k3:n3≤134217728) (k4:n4≤134217728) :
  Calls Tryz.prog 65 #[.agg #[.bool p.neg,.slice A1 n1 c1,.slice A2 n2 c2],.agg #[.bool q.neg,.slice A3 n3 c3,.slice A4 n4 c4]] w (zaU w (zdi p q)):=by
 obtain ⟨bp,x1,x2⟩:=p;obtain ⟨bq,x3,x4⟩:=q
 dsimp only at h1 h2 h3 h4 ⊢
 have bG:Below w.heap.size w (((w.alloc (.cells #[.bool bp,.slice A1 n1 c1,.slice A2 n2 c2] 91)).alloc (.cells #[.bool bq,.slice A3 n3 c3,.slice A4 n4 c4] 91)).alloc (.cells #[.bool false,.slice none 0 0,.slice none 0 0] 91)):=
  (((Below.refl _ _).alloc (Nat.le_refl _) _).alloc (by simp) _).alloc (by simp;omega) _
 have bX:zaf (((w.alloc (.cells #[.bool bp,.slice A1 n1 c1,.slice A2 n2 c2] 91)).alloc (.cells #[.bool bq,.slice A3 n3 c3,.slice A4 n4 c4] 91)).alloc (.cells #[.bool false,.slice none 0 0,.slice none 0 0] 91)) (w.heap.size) bp (.slice A1 n1 c1) (.slice A2 n2 c2):=
  (((zaf.new w _ _ _).below ((Below.refl _ _).alloc (Nat.le_refl _) _) (by simp))).below ((Below.refl _ _).alloc (Nat.le_refl _) _) (by simp;omega)
 have bY:zaf (((w.alloc (.cells #[.bool bp,.slice A1 n1 c1,.slice A2 n2 c2] 91)).alloc (.cells #[.bool bq,.slice A3 n3 c3,.slice A4 n4 c4] 91)).alloc (.cells #[.bool false,.slice none 0 0,.slice none 0 0] 91)) (w.heap.size+1) bq (.slice A3 n3 c3) (.slice A4 n4 c4):=by
  have h:=(zaf.new (w.alloc (.cells #[.bool bp,.slice A1 n1 c1,.slice A2 n2 c2] 91)) bq (.slice A3 n3 c3) (.slice A4 n4 c4)).below ((Below.refl _ _).alloc (Nat.le_refl _) (.cells #[.bool false,.slice none 0 0,.slice none 0 0] 91)) (by simp)
  simpa using h
 have bQ:zaf (((w.alloc (.cells #[.bool bp,.slice A1 n1 c1,.slice A2 n2 c2] 91)).alloc (.cells #[.bool bq,.slice A3 n3 c3,.slice A4 n4 c4] 91)).alloc (.cells #[.bool false,.slice none 0 0,.slice none 0 0] 91)) (w.heap.size+1+1) false (.slice none 0 0) (.slice none 0 0):=by
  have h:=zaf.new ((w.alloc (.cells #[.bool bp,.slice A1 n1 c1,.slice A2 n2 c2] 91)).alloc (.cells #[.bool bq,.slice A3 n3 c3,.slice A4 n4 c4] 91)) false (.slice none 0 0) (.slice none 0 0)
  simpa using h
 go_enter Tryz.func65,Tryz.ntmps65
 go_wp2_with fail
 generalize (((w.alloc (.cells #[.bool bp,.slice A1 n1 c1,.slice A2 n2 c2] 91)).alloc (.cells #[.bool bq,.slice A3 n3 c3,.slice A4 n4 c4] 91)).alloc (.cells #[.bool false,.slice none 0 0,.slice none 0 0] 91))=w3 at *;obtain ⟨a0,a1,a2,_,_,_,al⟩:=bX.cells;obtain ⟨b0,b1,b2,_,_,_,bl⟩:=bY.cells;have bI:Below w3.heap.size w3 w3.drew:=Below.drew (Below.refl _ _);have g1:=(h1.later bG).later bI;have g2:=(h2.later bG).later bI;have g3:=(h3.later bG).later bI;have g4:=(h4.later bG).later bI
 go_region_held3 (fun w'=>w'.cell? ⟨w.heap.size,0,none⟩=some (.bool bp)∧w'.cell? ⟨w.heap.size,1,none⟩=some (.slice A1 n1 c1)∧w'.cell? ⟨w.heap.size,2,none⟩=some (.slice A2 n2 c2)∧w'.cell? ⟨w.heap.size+1,0,none⟩=some (.bool bq)∧w'.cell? ⟨w.heap.size+1,1,none⟩=some (.slice A3 n3 c3)∧w'.cell? ⟨w.heap.size+1,2,none⟩=some (.slice A4 n4 c4))
  (first | exact ⟨a0,a1,a2,b0,b1,b2⟩ | exact ⟨((aH.cell (p:=⟨w.heap.size,0,none⟩) al).trans a0),((aH.cell (p:=⟨w.heap.size,1,none⟩) al).trans a1),((aH.cell (p:=⟨w.heap.size,2,none⟩) al).trans a2),((aH.cell (p:=⟨w.heap.size+1,0,none⟩) bl).trans b0),((aH.cell (p:=⟨w.heap.size+1,1,none⟩) bl).trans b1),((aH.cell (p:=⟨w.heap.size+1,2,none⟩) bl).trans b2)⟩ | exact ⟨((aT.cell (p:=⟨w.heap.size,0,none⟩) bR).trans ((aH.cell (p:=⟨w.heap.size,0,none⟩) al).trans a0)),((aT.cell (p:=⟨w.heap.size,1,none⟩) bR).trans ((aH.cell (p:=⟨w.heap.size,1,none⟩) al).trans a1)),((aT.cell (p:=⟨w.heap.size,2,none⟩) bR).trans ((aH.cell (p:=⟨w.heap.size,2,none⟩) al).trans a2)),((aT.cell (p:=⟨w.heap.size+1,0,none⟩) bP).trans ((aH.cell (p:=⟨w.heap.size+1,0,none⟩) bl).trans b0)),((aT.cell (p:=⟨w.heap.size+1,1,none⟩) bP).trans ((aH.cell (p:=⟨w.heap.size+1,1,none⟩) bl).trans b1)),((aT.cell (p:=⟨w.heap.size+1,2,none⟩) bP).trans ((aH.cell (p:=⟨w.heap.size+1,2,none⟩) bl).trans b2))⟩)
  (first
   |(go_at_call_of 105 (Value.slice A1 n1 c1);refine (zaE A1 A4 n1 c1 n4 c4 x1 x4 w3.drew g1 g4 (by omega) (by omega)).mono ?_;rintro e w4 ⟨A5,m5,c5,rfl,bW,aH⟩;have bR:=Nat.lt_of_lt_of_le al aH.size;have bP:=Nat.lt_of_lt_of_le bl aH.size)
   |(go_at_call_of 105 (Value.slice A3 n3 c3);refine (zaE A3 A2 n3 c3 n2 c2 x3 x2 w4 (g3.later aH) (g2.later aH) (by omega) (by omega)).mono ?_;rintro e w6 ⟨A6,m6,c6,rfl,bU,aT⟩))
 have bK:Below w3.heap.size w3 w6:=(bI.trans aH).trans (aT.mono aH.size);have y2:=(bK.cell (p:=⟨w.heap.size,2,none⟩) al).trans a2;have y4:=(bK.cell (p:=⟨w.heap.size+1,2,none⟩) bl).trans b2;have q2:=(g2.later aH).later aT;have q4:=(g4.later aH).later aT;have p5:=bW.later aT;clear g1 g2 g3 g4 bW
 go_wp2_with fail
 refine (zaE A2 A4 n2 c2 n4 c4 x2 x4 w6 q2 q4 (by omega) (by omega)).mono ?_;rintro e w8 ⟨A7,m7,c7,rfl,bO,bM⟩;have bA:Below w3.heap.size w3 w8:=bK.trans (bM.mono bK.size);have aO:=(bA.cell (p:=⟨w.heap.size,0,none⟩) al).trans a0;have aQ:=(bA.cell (p:=⟨w.heap.size,1,none⟩) al).trans a1;have aM:=(bA.cell (p:=⟨w.heap.size,2,none⟩) al).trans a2;have aP:=(bA.cell (p:=⟨w.heap.size+1,0,none⟩) bl).trans b0;have aL:=(bA.cell (p:=⟨w.heap.size+1,1,none⟩) bl).trans b1;have aN:=(bA.cell (p:=⟨w.heap.size+1,2,none⟩) bl).trans b2;have bN:=bQ.below bA bQ.cells.2.2.2.2.2.2;have bC:=bN.cells.2.2.2.2.2.2;have aE:=Nat.lt_of_lt_of_le al bA.size;have aD:=Nat.lt_of_lt_of_le bl bA.size;have aU:Below w.heap.size w w8:=bG.trans (bA.mono bG.size);have bS:=hT.later aU;have r5:=p5.later bM;have r6:=bU.later bM;have l5:m5≤n1+n4:=by have h:=zaB (Nat.le_of_eq h1.len) (Nat.le_of_eq h4.len);rw [r5.len] at h;exact h
 have l6:m6≤n3+n2:=by have h:=zaB (Nat.le_of_eq h3.len) (Nat.le_of_eq h2.len);rw [r6.len] at h;exact h
 have l7:m7≤n2+n4:=by have h:=zaB (Nat.le_of_eq h2.len) (Nat.le_of_eq h4.len);rw [bO.len] at h;exact h
 have bB:=aU.size;clear p5 q2 q4 bU y2 y4 aH aT bM bK bX bY bQ a0 a1 a2 b0 b1 b2
 by_cases hs:bp=bq
 ·have HV:Hid (zdi ⟨bp,x1,x2⟩ ⟨bq,x3,x4⟩=lowQ bp (x1*x4+x3*x2) (x2*x4)):=by unfold Hid zdi;rw [if_pos hs]
  have bZ:(bp==bq)=true:=by simpa using hs
  have bF:=zc0 (Nat.le_of_eq r5.len) (Nat.le_of_eq r6.len);have aF:Below w8.heap.size w8 w8.drew:=Below.drew (Below.refl _ _);clear hs
  go_wp2_with fail
  go_region_held3 (fun w'=>w'.cell? ⟨w.heap.size,0,none⟩=some (.bool bp)∧w'.cell? ⟨w.heap.size,1,none⟩=some (.slice A1 n1 c1)∧w'.cell? ⟨w.heap.size,2,none⟩=some (.slice A2 n2 c2)∧w'.cell? ⟨w.heap.size+1,0,none⟩=some (.bool bq)∧w'.cell? ⟨w.heap.size+1,1,none⟩=some (.slice A3 n3 c3)∧w'.cell? ⟨w.heap.size+1,2,none⟩=some (.slice A4 n4 c4))
   (first | exact ⟨aO,aQ,aM,aP,aL,aN⟩ | exact ⟨((aC.cell (p:=⟨w.heap.size,0,none⟩) aE).trans aO),((aC.cell (p:=⟨w.heap.size,1,none⟩) aE).trans aQ),((aC.cell (p:=⟨w.heap.size,2,none⟩) aE).trans aM),((aC.cell (p:=⟨w.heap.size+1,0,none⟩) aD).trans aP),((aC.cell (p:=⟨w.heap.size+1,1,none⟩) aD).trans aL),((aC.cell (p:=⟨w.heap.size+1,2,none⟩) aD).trans aN)⟩ | exact ⟨((aA.cell (p:=⟨w.heap.size,0,none⟩) aI).trans ((aC.cell (p:=⟨w.heap.size,0,none⟩) aE).trans aO)),((aA.cell (p:=⟨w.heap.size,1,none⟩) aI).trans ((aC.cell (p:=⟨w.heap.size,1,none⟩) aE).trans aQ)),((aA.cell (p:=⟨w.heap.size,2,none⟩) aI).trans ((aC.cell (p:=⟨w.heap.size,2,none⟩) aE).trans aM)),((aA.cell (p:=⟨w.heap.size+1,0,none⟩) aJ).trans ((aC.cell (p:=⟨w.heap.size+1,0,none⟩) aD).trans aP)),((aA.cell (p:=⟨w.heap.size+1,1,none⟩) aJ).trans ((aC.cell (p:=⟨w.heap.size+1,1,none⟩) aD).trans aL)),((aA.cell (p:=⟨w.heap.size+1,2,none⟩) aJ).trans ((aC.cell (p:=⟨w.heap.size+1,2,none⟩) aD).trans aN))⟩ | exact ⟨((far3 _ _ _ _ (by dsimp only;omega)).trans ((aA.cell (p:=⟨w.heap.size,0,none⟩) aI).trans ((aC.cell (p:=⟨w.heap.size,0,none⟩) aE).trans aO))),((far3 _ _ _ _ (by dsimp only;omega)).trans ((aA.cell (p:=⟨w.heap.size,1,none⟩) aI).trans ((aC.cell (p:=⟨w.heap.size,1,none⟩) aE).trans aQ))),((far3 _ _ _ _ (by dsimp only;omega)).trans ((aA.cell (p:=⟨w.heap.size,2,none⟩) aI).trans ((aC.cell (p:=⟨w.heap.size,2,none⟩) aE).trans aM))),((far3 _ _ _ _ (by dsimp only;omega)).trans ((aA.cell (p:=⟨w.heap.size+1,0,none⟩) aJ).trans ((aC.cell (p:=⟨w.heap.size+1,0,none⟩) aD).trans aP))),((far3 _ _ _ _ (by dsimp only;omega)).trans ((aA.cell (p:=⟨w.heap.size+1,1,none⟩) aJ).trans ((aC.cell (p:=⟨w.heap.size+1,1,none⟩) aD).trans aL))),((far3 _ _ _ _ (by dsimp only;omega)).trans ((aA.cell (p:=⟨w.heap.size+1,2,none⟩) aJ).trans ((aC.cell (p:=⟨w.heap.size+1,2,none⟩) aD).trans aN)))⟩)
   (first
    |(go_at_call 128;refine (zcf A5 A6 m5 c5 m6 c6 (x1*x4) (x3*x2) w8.drew (r5.later aF) (r6.later aF) (by omega) (by omega)).mono ?_;rintro e w9 ⟨A9,m9,c9,rfl,bD,aC⟩;have aI:=Nat.lt_of_lt_of_le aE aC.size;have aJ:=Nat.lt_of_lt_of_le aD aC.size)
    |(go_at_call 104;refine (zbz _ A9 A7 m9 c9 m7 c7 _ _ w9 ((bS.later aF).later aC) bD ((bO.later aF).later aC) (by have:=bD.len;have:=bF;omega) (by omega)).mono ?_;rintro e bJ ⟨v,rfl,⟨aX,aY,aZ,aR,aS,aW,rfl,bH,bL⟩,aA⟩;have aG:=((bN.below aF bC).below aC (Nat.lt_of_lt_of_le bC aF.size)).below aA (Nat.lt_of_lt_of_le (Nat.lt_of_lt_of_le bC aF.size) aC.size);obtain ⟨e0,e1,e2,f0,f1,f2,gl⟩:=aG.cells))
  go_wp2_with fail
  have aK:Below w.heap.size w bJ:=((aU.trans (aF.mono bB)).trans (aC.mono bB)).trans (aA.mono (by have:=aC.size;exact Nat.le_trans bB this));have aV:=zan aK (g:=w.heap.size+1+1) (by omega) (.bool (lowQ bp (x1*x4+x3*x2) (x2*x4)).neg) (.slice aX aY aZ) (.slice aR aS aW);refine bodyPost_ret (v := .agg #[.bool (lowQ bp (x1*x4+x3*x2) (x2*x4)).neg,.slice aX aY aZ,.slice aR aS aW]) (by simp [results,Tryz.results65,go_sem,e0,e1,e2]) rfl ⟨_,rfl,⟨aX,aY,aZ,aR,aS,aW,by rw [HV.out],?_,?_⟩,aV⟩
  ·rw [zah,HV.out];exact bH.res aG _ _ _
  ·rw [zah,HV.out];exact bL.res aG _ _ _
 ·have bZ:(bp==bq)=false:=by simpa using hs
  by_cases hlt:x1*x4<x3*x2
  ·have HV:Hid (zdi ⟨bp,x1,x2⟩ ⟨bq,x3,x4⟩=lowQ bq (x3*x2 - x1*x4) (x2*x4)):=by unfold Hid zdi;rw [if_neg hs,if_pos hlt]
   have bE:=zaO A5 A6 m5 c5 m6 c6 (x1*x4) (x3*x2) w8 r5 r6;rw [show ncmp (x1*x4) (x3*x2) = -1 from by unfold ncmp;rw [if_pos hlt]] at bE;have bF:=zdp (x3*x2) (x1*x4);rw [r6.len] at bF;have bT:=Lib.hid hlt;clear hs hlt
   go_wp2_with fail
   refine bE.mono ?_;rintro e wq ⟨rfl,nq,rfl⟩;clear bE
   go_wp2_with fail
   have aF:Below w8.heap.size w8 (w8.drewN nq).drew:=Below.drew (zad (Below.refl _ _) nq)
   go_region_held3 (fun w'=>w'.cell? ⟨w.heap.size,0,none⟩=some (.bool bp)∧w'.cell? ⟨w.heap.size,1,none⟩=some (.slice A1 n1 c1)∧w'.cell? ⟨w.heap.size,2,none⟩=some (.slice A2 n2 c2)∧w'.cell? ⟨w.heap.size+1,0,none⟩=some (.bool bq)∧w'.cell? ⟨w.heap.size+1,1,none⟩=some (.slice A3 n3 c3)∧w'.cell? ⟨w.heap.size+1,2,none⟩=some (.slice A4 n4 c4))
    (first | exact ⟨aO,aQ,aM,aP,aL,aN⟩ | exact ⟨((aC.cell (p:=⟨w.heap.size,0,none⟩) aE).trans aO),((aC.cell (p:=⟨w.heap.size,1,none⟩) aE).trans aQ),((aC.cell (p:=⟨w.heap.size,2,none⟩) aE).trans aM),((aC.cell (p:=⟨w.heap.size+1,0,none⟩) aD).trans aP),((aC.cell (p:=⟨w.heap.size+1,1,none⟩) aD).trans aL),((aC.cell (p:=⟨w.heap.size+1,2,none⟩) aD).trans aN)⟩ | exact ⟨((aA.cell (p:=⟨w.heap.size,0,none⟩) aI).trans ((aC.cell (p:=⟨w.heap.size,0,none⟩) aE).trans aO)),((aA.cell (p:=⟨w.heap.size,1,none⟩) aI).trans ((aC.cell (p:=⟨w.heap.size,1,none⟩) aE).trans aQ)),((aA.cell (p:=⟨w.heap.size,2,none⟩) aI).trans ((aC.cell (p:=⟨w.heap.size,2,none⟩) aE).trans aM)),((aA.cell (p:=⟨w.heap.size+1,0,none⟩) aJ).trans ((aC.cell (p:=⟨w.heap.size+1,0,none⟩) aD).trans aP)),((aA.cell (p:=⟨w.heap.size+1,1,none⟩) aJ).trans ((aC.cell (p:=⟨w.heap.size+1,1,none⟩) aD).trans aL)),((aA.cell (p:=⟨w.heap.size+1,2,none⟩) aJ).trans ((aC.cell (p:=⟨w.heap.size+1,2,none⟩) aD).trans aN))⟩ | exact ⟨((far3 _ _ _ _ (by dsimp only;omega)).trans ((aA.cell (p:=⟨w.heap.size,0,none⟩) aI).trans ((aC.cell (p:=⟨w.heap.size,0,none⟩) aE).trans aO))),((far3 _ _ _ _ (by dsimp only;omega)).trans ((aA.cell (p:=⟨w.heap.size,1,none⟩) aI).trans ((aC.cell (p:=⟨w.heap.size,1,none⟩) aE).trans aQ))),((far3 _ _ _ _ (by dsimp only;omega)).trans ((aA.cell (p:=⟨w.heap.size,2,none⟩) aI).trans ((aC.cell (p:=⟨w.heap.size,2,none⟩) aE).trans aM))),((far3 _ _ _ _ (by dsimp only;omega)).trans ((aA.cell (p:=⟨w.heap.size+1,0,none⟩) aJ).trans ((aC.cell (p:=⟨w.heap.size+1,0,none⟩) aD).trans aP))),((far3 _ _ _ _ (by dsimp only;omega)).trans ((aA.cell (p:=⟨w.heap.size+1,1,none⟩) aJ).trans ((aC.cell (p:=⟨w.heap.size+1,1,none⟩) aD).trans aL))),((far3 _ _ _ _ (by dsimp only;omega)).trans ((aA.cell (p:=⟨w.heap.size+1,2,none⟩) aJ).trans ((aC.cell (p:=⟨w.heap.size+1,2,none⟩) aD).trans aN)))⟩)
    (first
     |(go_at_call 130;refine (zcR A6 A5 m6 c6 m5 c5 (x3*x2) (x1*x4) (w8.drewN nq).drew (r6.later aF) (r5.later aF) (Nat.le_of_lt bT.out) (by omega)).mono ?_;rintro e w9 ⟨A9,m9,c9,rfl,bD,aC⟩;have aI:=Nat.lt_of_lt_of_le aE aC.size;have aJ:=Nat.lt_of_lt_of_le aD aC.size)
     |(go_at_call 104;refine (zbz _ A9 A7 m9 c9 m7 c7 _ _ w9 ((bS.later aF).later aC) bD ((bO.later aF).later aC) (by have:=bD.len;have:=bF;omega) (by omega)).mono ?_;rintro e bJ ⟨v,rfl,⟨aX,aY,aZ,aR,aS,aW,rfl,bH,bL⟩,aA⟩;have aG:=((bN.below aF bC).below aC (Nat.lt_of_lt_of_le bC aF.size)).below aA (Nat.lt_of_lt_of_le (Nat.lt_of_lt_of_le bC aF.size) aC.size);obtain ⟨e0,e1,e2,f0,f1,f2,gl⟩:=aG.cells))
   go_wp2_with fail
   have aK:Below w.heap.size w bJ:=((aU.trans (aF.mono bB)).trans (aC.mono bB)).trans (aA.mono (by have:=aC.size;exact Nat.le_trans bB this));have aV:=zan aK (g:=w.heap.size+1+1) (by omega) (.bool (lowQ bq (x3*x2 - x1*x4) (x2*x4)).neg) (.slice aX aY aZ) (.slice aR aS aW);refine bodyPost_ret (v := .agg #[.bool (lowQ bq (x3*x2 - x1*x4) (x2*x4)).neg,.slice aX aY aZ,.slice aR aS aW]) (by simp [results,Tryz.results65,go_sem,e0,e1,e2]) rfl ⟨_,rfl,⟨aX,aY,aZ,aR,aS,aW,by rw [HV.out],?_,?_⟩,aV⟩
   ·rw [zah,HV.out];exact bH.res aG _ _ _
   ·rw [zah,HV.out];exact bL.res aG _ _ _
  ·have HV:Hid (zdi ⟨bp,x1,x2⟩ ⟨bq,x3,x4⟩=lowQ bp (x1*x4 - x3*x2) (x2*x4)):=by unfold Hid zdi;rw [if_neg hs,if_neg hlt]
   have bE:=zaO A5 A6 m5 c5 m6 c6 (x1*x4) (x3*x2) w8 r5 r6;have bV:ncmp (x1*x4) (x3*x2)=0∨ncmp (x1*x4) (x3*x2)=1:=by
    unfold ncmp;rw [if_neg hlt];split<;>simp
   have bF:=zdp (x1*x4) (x3*x2);rw [r5.len] at bF;have bT:=Lib.hid (Nat.le_of_not_lt hlt);generalize ncmp (x1*x4) (x3*x2)=cv at bE bV;have cA:decide (cv<0)=false:=by simp;omega
   clear hs hlt bV
   go_wp2_with fail
   refine bE.mono ?_;rintro e wq ⟨rfl,nq,rfl⟩;clear bE
   go_wp2_with fail
   have aF:Below w8.heap.size w8 (w8.drewN nq).drew:=Below.drew (zad (Below.refl _ _) nq)
   go_region_held3 (fun w'=>w'.cell? ⟨w.heap.size,0,none⟩=some (.bool bp)∧w'.cell? ⟨w.heap.size,1,none⟩=some (.slice A1 n1 c1)∧w'.cell? ⟨w.heap.size,2,none⟩=some (.slice A2 n2 c2)∧w'.cell? ⟨w.heap.size+1,0,none⟩=some (.bool bq)∧w'.cell? ⟨w.heap.size+1,1,none⟩=some (.slice A3 n3 c3)∧w'.cell? ⟨w.heap.size+1,2,none⟩=some (.slice A4 n4 c4))
    (first | exact ⟨aO,aQ,aM,aP,aL,aN⟩ | exact ⟨((aC.cell (p:=⟨w.heap.size,0,none⟩) aE).trans aO),((aC.cell (p:=⟨w.heap.size,1,none⟩) aE).trans aQ),((aC.cell (p:=⟨w.heap.size,2,none⟩) aE).trans aM),((aC.cell (p:=⟨w.heap.size+1,0,none⟩) aD).trans aP),((aC.cell (p:=⟨w.heap.size+1,1,none⟩) aD).trans aL),((aC.cell (p:=⟨w.heap.size+1,2,none⟩) aD).trans aN)⟩ | exact ⟨((aA.cell (p:=⟨w.heap.size,0,none⟩) aI).trans ((aC.cell (p:=⟨w.heap.size,0,none⟩) aE).trans aO)),((aA.cell (p:=⟨w.heap.size,1,none⟩) aI).trans ((aC.cell (p:=⟨w.heap.size,1,none⟩) aE).trans aQ)),((aA.cell (p:=⟨w.heap.size,2,none⟩) aI).trans ((aC.cell (p:=⟨w.heap.size,2,none⟩) aE).trans aM)),((aA.cell (p:=⟨w.heap.size+1,0,none⟩) aJ).trans ((aC.cell (p:=⟨w.heap.size+1,0,none⟩) aD).trans aP)),((aA.cell (p:=⟨w.heap.size+1,1,none⟩) aJ).trans ((aC.cell (p:=⟨w.heap.size+1,1,none⟩) aD).trans aL)),((aA.cell (p:=⟨w.heap.size+1,2,none⟩) aJ).trans ((aC.cell (p:=⟨w.heap.size+1,2,none⟩) aD).trans aN))⟩ | exact ⟨((far3 _ _ _ _ (by dsimp only;omega)).trans ((aA.cell (p:=⟨w.heap.size,0,none⟩) aI).trans ((aC.cell (p:=⟨w.heap.size,0,none⟩) aE).trans aO))),((far3 _ _ _ _ (by dsimp only;omega)).trans ((aA.cell (p:=⟨w.heap.size,1,none⟩) aI).trans ((aC.cell (p:=⟨w.heap.size,1,none⟩) aE).trans aQ))),((far3 _ _ _ _ (by dsimp only;omega)).trans ((aA.cell (p:=⟨w.heap.size,2,none⟩) aI).trans ((aC.cell (p:=⟨w.heap.size,2,none⟩) aE).trans aM))),((far3 _ _ _ _ (by dsimp only;omega)).trans ((aA.cell (p:=⟨w.heap.size+1,0,none⟩) aJ).trans ((aC.cell (p:=⟨w.heap.size+1,0,none⟩) aD).trans aP))),((far3 _ _ _ _ (by dsimp only;omega)).trans ((aA.cell (p:=⟨w.heap.size+1,1,none⟩) aJ).trans ((aC.cell (p:=⟨w.heap.size+1,1,none⟩) aD).trans aL))),((far3 _ _ _ _ (by dsimp only;omega)).trans ((aA.cell (p:=⟨w.heap.size+1,2,none⟩) aJ).trans ((aC.cell (p:=⟨w.heap.size+1,2,none⟩) aD).trans aN)))⟩)
    (first
     |(go_at_call 130;refine (zcR A5 A6 m5 c5 m6 c6 (x1*x4) (x3*x2) (w8.drewN nq).drew (r5.later aF) (r6.later aF) bT.out (by omega)).mono ?_;rintro e w9 ⟨A9,m9,c9,rfl,bD,aC⟩;have aI:=Nat.lt_of_lt_of_le aE aC.size;have aJ:=Nat.lt_of_lt_of_le aD aC.size)
     |(go_at_call 104;refine (zbz _ A9 A7 m9 c9 m7 c7 _ _ w9 ((bS.later aF).later aC) bD ((bO.later aF).later aC) (by have:=bD.len;have:=bF;omega) (by omega)).mono ?_;rintro e bJ ⟨v,rfl,⟨aX,aY,aZ,aR,aS,aW,rfl,bH,bL⟩,aA⟩;have aG:=((bN.below aF bC).below aC (Nat.lt_of_lt_of_le bC aF.size)).below aA (Nat.lt_of_lt_of_le (Nat.lt_of_lt_of_le bC aF.size) aC.size);obtain ⟨e0,e1,e2,f0,f1,f2,gl⟩:=aG.cells))
   go_wp2_with fail
   have aK:Below w.heap.size w bJ:=((aU.trans (aF.mono bB)).trans (aC.mono bB)).trans (aA.mono (by have:=aC.size;exact Nat.le_trans bB this));have aV:=zan aK (g:=w.heap.size+1+1) (by omega) (.bool (lowQ bp (x1*x4 - x3*x2) (x2*x4)).neg) (.slice aX aY aZ) (.slice aR aS aW);refine bodyPost_ret (v := .agg #[.bool (lowQ bp (x1*x4 - x3*x2) (x2*x4)).neg,.slice aX aY aZ,.slice aR aS aW]) (by simp [results,Tryz.results65,go_sem,e0,e1,e2]) rfl ⟨_,rfl,⟨aX,aY,aZ,aR,aS,aW,by rw [HV.out],?_,?_⟩,aV⟩
   ·rw [zah,HV.out];exact bH.res aG _ _ _
   ·rw [zah,HV.out];exact bL.res aG _ _ _
end Go.Proofs.YteajibbphcfmeaaGreatDoor
namespace Go.Proofs.YteajibbphcfmeaaGreatDoor
open Go.RowKit Dn
def Sml (q:Q):Prop:=q.top<1000000000∧q.bot<1000000000
instance (q:Q):Decidable (Sml q):=inferInstanceAs (Decidable (_∧_))
theorem NatD.small {w:World} {B n c x:Nat} {A:Option Addr} (h:NatD w B A n c x) (hx:x<1000000000):n≤1:=by
 have h1:=h.len;have h2:=Dn.digs_length_le (n:=x) (k:=1) (by rw [Nat.pow_one];exact hx);omega
theorem RatD.later {w w':World} {v:Value} {q:Q} (h:RatD w w.heap.size v q) (hb:Below w.heap.size w w'):RatD w' w'.heap.size v q:=by
 obtain ⟨A,n,c,A',n',c',rfl,h1,h2⟩:=h;exact ⟨A,n,c,A',n',c',rfl,h1.later hb,h2.later hb⟩
end Go.Proofs.YteajibbphcfmeaaGreatDoor
namespace Go.Proofs.YteajibbphcfmeaaGreatDoor
open Go.RowKit Bn
open Flt
theorem zoD:dn 1 0=4607182418800017408:=by decide +kernel
theorem zgl (W:World):Calls Tryz.prog 98 #[.float .f64 4607182418800017408,.int .i64 128] W fun e' w'=>e' = .returned (.float .f64 (dn 1 128))∧W=w':=by
 rw [←zoD];have b1:(1:Nat).log2=0:=by decide
 exact zee W (zi6 W (by omega) (by omega) (by rw [b1];omega) (by rw [b1];omega))
theorem zmr:Ieee.double.read 9218868437227405312 = .infinity false:=by decide +kernel
theorem zoL {x m:Nat} {p:Int} (h:Ieee.double.read x = .number false m p):(FloatKind.f64.format.order 9218868437227405312 x==some .gt || FloatKind.f64.format.order 9218868437227405312 x==some .eq)=true:=by
 have:FloatKind.f64.format.order 9218868437227405312 x=some .gt:=by
  show (Ieee.double.read 9218868437227405312).order (Ieee.double.read x)=_
  rw [zmr,h];rfl
 rw [this];rfl
theorem zn0 {n:Nat} {e:Int} (h:Rnd n e) (h0:0<n) (he:e≤1099511627776) :
  ∃ r:Nat,(∀ W:World,Calls Tryz.prog 98 #[.float .f64 (dn n 0),.int .i64 e] W fun e' w'=>e' = .returned (.float .f64 r)∧W=w') ∧
   (FloatKind.f64.format.order r (dn 1 128)==some .gt || FloatKind.f64.format.order r (dn 1 128)==some .eq)=decide (2139095040≤rung n e) ∧
   (rung n e<2139095040→r=dn n e∧Nrm (sg n) (e+n.log2 - 52)):=by
 have hp:=h.place;have hh:=h.hi;have hl:=h.log2 h0
 by_cases hc:e+n.log2≤1023
 ·exact ⟨dn n e,fun W=>zee W (zi6 W h0 (by omega) (by omega) hc),zoU h h0 hc rfl,fun _=>⟨rfl,zeg h0 (by omega) (by omega) hc⟩⟩
 ·have hr:2139095040≤rung n e:=by unfold rung;omega
  refine ⟨9218868437227405312,fun W=>zee W (zk3 W h0 (by omega) (by omega) (by omega)),?_,fun hx=>absurd hr (by omega)⟩;have b1:(1:Nat).log2=0:=by decide
  rw [zoL (zh9 (n:=1) (e:=128) (by omega) (by omega) (by rw [b1];omega) (by rw [b1];omega)),decide_eq_true hr]
set_option maxHeartbeats 2000000 in
set_option maxRecDepth 100000 in
theorem zlb (s:ByteArray) (w:World) (hT:Tabs w) (hs:s.size≤4294967296) (hx:zae s.data.toList≠0) :
  Calls Tryz.prog 39 #[.string s] w fun e w'=>e = .returned (.tuple #[.float .f32 0,.int .i64 (zae s.data.toList)])∧Below w.heap.size w w':=by
 have hr:=zbj s w hT hs;generalize zae s.data.toList=x at hr hx ⊢;generalize zab s.data.toList=q at hr;have aA:(x != 0)=true:=by simpa using hx
 go_enter Tryz.func39,Tryz.ntmps39
 go_wp2_with fail
 refine hr.mono ?_;rintro e w1 ⟨v,rfl,⟨A,n,c,A',n',c',rfl,h1,h2⟩,hb⟩;go_wp2
 go_ret2
 exact ⟨rfl,hb.alloc hb.size _⟩
set_option maxHeartbeats 2000000 in
set_option maxRecDepth 100000 in
theorem zjg (s:ByteArray) (w:World) (hT:Tabs w) (hs:s.size≤4294967296) (hx:zae s.data.toList=0) (hz:(zab s.data.toList).top=0) :
  Calls Tryz.prog 39 #[.string s] w fun e w'=>e = .returned (.tuple #[.float .f32 0,.int .i64 0])∧Below w.heap.size w w':=by
 have hr:=zbj s w hT hs;rw [hx] at hr;generalize zab s.data.toList=q at hr hz;go_enter Tryz.func39,Tryz.ntmps39
 go_wp2_with fail
 refine hr.mono ?_;rintro e w1 ⟨v,rfl,⟨A,n,c,A',n',c',rfl,h1,h2⟩,hb⟩;have aC:Below w1.heap.size w1 (w1.alloc (.cells #[.bool q.neg,.slice A n c,.slice A' n' c'] 91)):=(Below.refl _ _).alloc (Nat.le_refl _) _;have aA:=zca q.neg q.top A A' n c n' c' _ (h1.later aC);rw [decide_eq_true hz] at aA;have aE:=Lib.hid aA;clear aA hr
 go_wp2_with fail
 refine aE.out.mono ?_;rintro e w3 ⟨rfl,aD⟩;go_wp2
 go_ret2
 exact ⟨rfl,(hb.trans (aC.mono hb.size)).trans (aD.mono (by have:=hb.size;simp;omega))⟩
set_option maxHeartbeats 4000000 in
set_option maxRecDepth 100000 in
theorem zeq (s:ByteArray) (w:World) (X r r2 R E:Nat) (g:Bool) (hT:Tabs w) (hs:s.size≤4294967296) (hx:zae s.data.toList=0) (hz:0<(zab s.data.toList).top)
  (hX:floatOfInt .f64 ((flN (zab s.data.toList).top (zab s.data.toList).bot:Nat):Int)=X)
  (hL:∀ W:World,Calls Tryz.prog 98 #[.float .f64 X,.int .i64 (flE (zab s.data.toList).top (zab s.data.toList).bot)] W fun e' w'=>e' = .returned (.float .f64 r)∧W=w')
  (hE:∀ W:World,Calls Tryz.prog 98 #[.float .f64 4607182418800017408,.int .i64 128] W fun e' w'=>e' = .returned (.float .f64 E)∧W=w')
  (hG:(FloatKind.f64.format.order r E==some .gt || FloatKind.f64.format.order r E==some .eq)=g)
  (hN:g=false→(zab s.data.toList).neg=true→floatBits .sub .f64 0 r=some r2)
  (hR:g=false→floatToFloatBits .f64 (if (zab s.data.toList).neg then r2 else r) .f32=some R) :
  Calls Tryz.prog 39 #[.string s] w fun e w'=>e = .returned (.tuple #[.float .f32 (if g then 0 else R),.int .i64 (if g then 4 else 0)])∧Below w.heap.size w w':=by
 have hr:=zbj s w hT hs;have hl:=@zam s.data.toList hx;have aA:=@zd1 s.data.toList hx;rw [hx] at hr;generalize zab s.data.toList=q at hr hz hX hL hN hR hl aA;obtain ⟨aU,hq⟩:=zkV hz aA;have nb:=zfV (zbX hl.1) (zbX hl.2);have aS:flE q.top q.bot≤1073741824:=by unfold flE;omega
 have aR : -1073741824≤flE q.top q.bot:=by unfold flE;omega
 have aW:=zlA aA (flE q.top q.bot);have w1:wrap64 (bexp q.top q.bot+1)=bexp q.top q.bot+1:=IntWalk.wrap64_in _ (by omega);have w2:wrap64 (bexp q.top q.bot+1 - 24)=bexp q.top q.bot+1 - 24:=IntWalk.wrap64_in _ (by omega);have bA:max (bexp q.top q.bot+1 - 24) (-149)=flE q.top q.bot:=rfl;obtain ⟨l1,l2⟩:=hl;have HZ:=Lib.hid hz;have HL:=Lib.hid hL;have HE:=Lib.hid hE;have HN:=Lib.hid hN;have HR:=Lib.hid hR;have HG:=Lib.hid hG;clear hz hL hE hN hR hG;go_enter Tryz.func39,Tryz.ntmps39
 go_wp2_with fail
 refine hr.mono ?_;rintro e w1 ⟨v,rfl,⟨A,n,c,A',n',c',rfl,h1,h2⟩,hb⟩;rw [h1.len] at l1;rw [h2.len] at l2;have aE:Below w1.heap.size w1 (w1.alloc (.cells #[.bool q.neg,.slice A n c,.slice A' n' c'] 91)):=(Below.refl _ _).alloc (Nat.le_refl _) _;have aH:=zca q.neg q.top A A' n c n' c' _ (h1.later aE);rw [decide_eq_false (show ¬ q.top=0 by have:=HZ.out;omega)] at aH;have aN:=Lib.hid aH;clear aH hr
 go_wp2_with fail
 refine aN.out.mono ?_;rintro e w3 ⟨rfl,aD⟩;clear aN;have aK:zaf w3 w1.heap.size q.neg (.slice A n c) (.slice A' n' c'):=(zaf.new w1 _ _ _).below aD (by simp);have aI:Below w.heap.size w w3:=(hb.trans (aE.mono hb.size)).trans (aD.mono (by have:=hb.size;simp;omega));have aV:w1.heap.size<w3.heap.size:=by have:=aD.size;simp at this;omega
 have g1:=(h1.later aE).later aD;have g2:=(h2.later aE).later aD;have aM:=zeb q.neg q.top q.bot A A' n c n' c' w3 g1 g2 (by omega) (by omega);obtain ⟨x0,x1,x2,_,_,_,xl⟩:=aK.cells;have aL:=Lib.hid aM;clear aM
 go_wp2_with fail
 refine aL.out.mono ?_;rintro e w4 ⟨rfl,aC⟩;clear aL x0 x1 x2 xl;have aO:=aK.below aC aV;have aX:w1.heap.size<w4.heap.size:=by have:=aC.size;omega
 have aF:=ziy q.neg q.top q.bot (flE q.top q.bot) A A' n c n' c' w4 (g1.later aC) (g2.later aC) (by omega) (by omega) ⟨aR,aS⟩ aW (by omega);have aY:near (scT q.top (flE q.top q.bot)) (scB q.bot (flE q.top q.bot))=flN q.top q.bot:=rfl;rw [aY] at aF;obtain ⟨x0,x1,x2,_,_,_,xl⟩:=aO.cells;have aJ:=Lib.hid aF;clear aF
 go_wp2_with fail
 refine aJ.out.mono ?_;rintro e w5 ⟨rfl,aP⟩;clear aJ x0 x1 x2 xl;have aT:=aO.below aP aX;obtain ⟨x0,x1,x2,_,_,_,xl⟩:=aT.cells;have aG:Below w.heap.size w w5:=(aI.trans (aC.mono aI.size)).trans (aP.mono (by have:=aI.size;have:=aC.size;omega));generalize flN q.top q.bot=N at *;generalize flE q.top q.bot=e at *
 go_wp2_with fail
 refine (HL.out _).mono ?_;rintro e6 w6 ⟨rfl,rfl⟩
 go_wp2_with fail
 refine (HE.out _).mono ?_;rintro e7 w7 ⟨rfl,rfl⟩;have hG:=HG.out
 cases hg:g
 ·subst hg
  have hR:=HR.out rfl
  cases hn:q.neg
  ·rw [hn,if_neg (by decide)] at hR
   rw [hn] at x0;have aQ:=fun W:World=>run_convert_float_float (P:=Tryz.prog) W 118 55 .f64 .f32 r R (by kernel_rfl) (by kernel_rfl) hR
   go_wp2
   go_ret2
   exact ⟨rfl,aG⟩
  ·have hN:=HN.out rfl hn
   rw [hn,if_pos rfl] at hR;rw [hn] at x0;have aZ:=fun W:World=>run_float_arith (P:=Tryz.prog) W .sub 118 .f64 0 r r2 hN
   have aQ:=fun W:World=>run_convert_float_float (P:=Tryz.prog) W 118 55 .f64 .f32 r2 R (by kernel_rfl) (by kernel_rfl) hR
   go_wp2
   go_ret2
   exact ⟨rfl,aG⟩
 ·subst hg
  go_wp2
  go_ret2
  exact ⟨rfl,aG⟩
theorem zjE:floatOfInt .f64 ((0:Nat):Int)=0:=by decide +kernel
theorem ziA:(FloatKind.f64.format.order 0 (dn 1 128)==some .gt || FloatKind.f64.format.order 0 (dn 1 128)==some .eq)=false:=by
 have b1:(1:Nat).log2=0:=by decide
 have f2:=zkX (e:=128) (by omega) (by omega);have k2:=zkO (e:=128) (u:=1178) (by omega) (by omega) (by omega);have f4:=za2 zb1;have k4:=zbb zb1;rw [Nat.zero_mul] at k4;show (Ieee.double.order _ _==some .gt || Ieee.double.order _ _==some .eq)=false
 rw [zcN f4 f2,k4,k2];have:=Nat.two_pow_pos (24+1178);generalize 2 ^ (24+1178)=A at this;rw [zf6 (by omega)];rfl
theorem zkq:floatToFloatBits .f64 0 .f32=some 0:=by decide +kernel
theorem zfz (s:ByteArray) (w:World) (hT:Tabs w) (hs:s.size≤4294967296) :
  Calls Tryz.prog 39 #[.string s] w fun e w'=>
   e = .returned (.tuple #[.float .f32 (if zae s.data.toList≠0 then 0 else flW (zab s.data.toList)),.int .i64 (if zae s.data.toList≠0 then zae s.data.toList else flX (zab s.data.toList))])∧Below w.heap.size w w':=by
 by_cases hx:zae s.data.toList=0
 ·rw [if_neg (by simpa using hx),if_neg (by simpa using hx)]
  by_cases hz:(zab s.data.toList).top=0
  ·have:=zjg s w hT hs hx hz
   unfold flW flX;rw [if_pos hz,if_pos hz];exact this
  ·have aC:0<(zab s.data.toList).top:=by omega
   obtain ⟨aA,hq⟩:=zkV aC (zd1 hx);have hl:=zam hx;have nb:=zfV (zbX hl.1) (zbX hl.2);have aD:flE (zab s.data.toList).top (zab s.data.toList).bot≤1073741824:=by unfold flE;omega
   unfold flW flX;rw [if_neg hz,if_neg hz]
   by_cases hN:flN (zab s.data.toList).top (zab s.data.toList).bot=0
   ·rw [if_pos hN,if_pos hN]
    exact zeq s w 0 0 0 0 (dn 1 128) false hT hs hx aC (by rw [hN];exact zjE) (fun W=>zee W (zjs W)) zgl ziA (fun _ _=>zgE) (fun _=>by rw [ite_self];exact zkq)
   ·rw [if_neg hN,if_neg hN]
    have h0:0<flN (zab s.data.toList).top (zab s.data.toList).bot:=by omega
    obtain ⟨r,hL,hG,hD⟩:=zn0 aA h0 (by omega);have hX:=zm0 (n:=flN (zab s.data.toList).top (zab s.data.toList).bot) h0 (by have:=aA.hi;omega)
    by_cases hR:2139095040≤rung (flN (zab s.data.toList).top (zab s.data.toList).bot) (flE (zab s.data.toList).top (zab s.data.toList).bot)
    ·rw [if_pos hR,if_pos hR]
     rw [decide_eq_true hR] at hG;exact zeq s w _ r 0 0 (dn 1 128) true hT hs hx aC hX hL zgl hG (fun h=>by cases h) (fun h=>by cases h)
    ·rw [if_neg hR,if_neg hR]
     rw [decide_eq_false hR] at hG;obtain ⟨hr,hn⟩:=hD (by omega);refine zeq s w _ r (dw true (sg (flN (zab s.data.toList).top (zab s.data.toList).bot)) (flE (zab s.data.toList).top (zab s.data.toList).bot+(flN (zab s.data.toList).top (zab s.data.toList).bot).log2 - 52)) _ (dn 1 128) false hT hs hx aC hX hL zgl hG (fun _ _ => ?_) (fun _ => ?_)
     ·rw [hr];exact zml hn
     ·rw [hr]
      have hc:=fun b=>zoh b aA h0 (by omega)
      cases (zab s.data.toList).neg
      ·exact hc false
      ·exact hc true
 ·rw [if_pos (by simpa using hx),if_pos (by simpa using hx)]
  exact zlb s w hT hs hx
end Go.Proofs.YteajibbphcfmeaaGreatDoor
namespace Go.Proofs.YteajibbphcfmeaaGreatDoor
open Go.RowKit
end Go.Proofs.YteajibbphcfmeaaGreatDoor
namespace Go.Proofs.YteajibbphcfmeaaGreatDoor
open Go.RowKit Bn
open Flt
def zfK (w:World) (g:Nat) (c:Array Value) (t:TypeId):Prop:=w.heap[g]? = some (.cells c t (0,0))
theorem zfK.new (w:World) (c:Array Value) (t:TypeId) (g:Nat) (hg:g=w.heap.size):zfK (w.alloc (.cells c t)) g c t:=by subst hg;exact heap_alloc_new w _
theorem zfK.below {w w':World} {g B:Nat} {c:Array Value} {t:TypeId} (h:zfK w g c t) (hb:Below B w w') (hg:g<B):zfK w' g c t:=(hb.block g hg).trans h
theorem zfK.cell {w:World} {g:Nat} {c:Array Value} {t:TypeId} (h:zfK w g c t) (i:Nat):w.cell? ⟨g,i,none⟩=c[i]? := cell_of_row w g i _ _ _ h
theorem zfK.lt {w:World} {g:Nat} {c:Array Value} {t:TypeId} (h:zfK w g c t):g<w.heap.size:=by
 unfold zfK at h
 rcases Nat.lt_or_ge g w.heap.size with aA | aC
 ·exact aA
 ·rw [Array.getElem?_eq_none aC] at h;cases h
theorem zbP {a w:World} {B g:Nat} (h:Below B a w) (hg:B≤g) (u v:Value):Below B a ((w.setCell ⟨g,0,none⟩ u).setCell ⟨g,1,none⟩ v):=
 (h.setCell (p:=⟨g,0,none⟩) hg _).setCell (p:=⟨g,1,none⟩) hg _
theorem CBlk.far2 {w:World} {g g':Nat} {c:Array Value} {t:TypeId} (h:CBlk w g c t) (hne:g'≠g) (u v:Value):CBlk ((w.setCell ⟨g',0,none⟩ u).setCell ⟨g',1,none⟩ v) g c t:=
 (Below.heap_setCell _ ⟨g',1,none⟩ v g (fun e=>hne e.symm)).trans ((Below.heap_setCell w ⟨g',0,none⟩ u g (fun e=>hne e.symm)).trans h)
end Go.Proofs.YteajibbphcfmeaaGreatDoor
