/- Contract of negated of a rational number. -/
import Derived.Test.YteajibbphcfmeaaGreatDoorXRat2
import Derived.Test.YteajibbphcfmeaaGreatDoorXLdx
import Derived.Test.YteajibbphcfmeaaGreatDoorXRc4
import Derived.Test.YteajibbphcfmeaaGreatDoorXRat8
import Derived.Test.YteajibbphcfmeaaGreatDoorXFmt
import Derived.Test.YteajibbphcfmeaaGreatDoorXDw
namespace Go.Proofs.YteajibbphcfmeaaGreatDoor
open Go.RowKit Bn
set_option maxHeartbeats 4000000 in
set_option maxRecDepth 100000 in
theorem zfR (b:Bool) (x y:Nat) (A1 A2:Option Addr) (n1 c1 n2 c2:Nat) (w:World) (h1:NatS w w.heap.size A1 n1 c1 x) (h2:NatS w w.heap.size A2 n2 c2 y) :
  Calls Tryz.prog 133 #[.agg #[.bool b,.slice A1 n1 c1,.slice A2 n2 c2]] w (zaU w ⟨!b && !decide (x=0),x,y⟩):=by
 go_enter Tryz.func133,Tryz.ntmps133
 cases b
 ·go_wp2_with fail
  have aH:Below w.heap.size w ((w.alloc (.cells #[.bool false,.slice A1 n1 c1,.slice A2 n2 c2] 91)).alloc (.cells #[.bool false,.slice none 0 0,.slice none 0 0] 91)):=((Below.refl _ _).alloc (Nat.le_refl _) _).alloc (by simp) _;have aI:zaf ((w.alloc (.cells #[.bool false,.slice A1 n1 c1,.slice A2 n2 c2] 91)).alloc (.cells #[.bool false,.slice none 0 0,.slice none 0 0] 91)) w.heap.size false (.slice A1 n1 c1) (.slice A2 n2 c2):=(zaf.new w _ _ _).below ((Below.refl _ _).alloc (Nat.le_refl _) _) (by simp);have aG:zaf ((w.alloc (.cells #[.bool false,.slice A1 n1 c1,.slice A2 n2 c2] 91)).alloc (.cells #[.bool false,.slice none 0 0,.slice none 0 0] 91)) (w.heap.size+1) false (.slice none 0 0) (.slice none 0 0):=by
   have h:=zaf.new (w.alloc (.cells #[.bool false,.slice A1 n1 c1,.slice A2 n2 c2] 91)) false (.slice none 0 0) (.slice none 0 0)
   simpa using h
  generalize ((w.alloc (.cells #[.bool false,.slice A1 n1 c1,.slice A2 n2 c2] 91)).alloc (.cells #[.bool false,.slice none 0 0,.slice none 0 0] 91))=w3 at *;obtain ⟨a0,a1,a2,_,_,_,al⟩:=aI.cells;have aD:Below w.heap.size w w3.drew:=aH.drew;have aA:zaf w3.drew (w.heap.size+1) false (.slice none 0 0) (.slice none 0 0):=aG;have cl:w.heap.size+1<w3.drew.heap.size:=aA.cells.2.2.2.2.2.2;obtain ⟨d0,d1,d2,f0,f1,f2,_⟩:=aA.cells
  go_region_held3 (fun w'=>w'.cell? ⟨w.heap.size,0,none⟩=some (.bool false)∧w'.cell? ⟨w.heap.size,1,none⟩=some (.slice A1 n1 c1)∧w'.cell? ⟨w.heap.size,2,none⟩=some (.slice A2 n2 c2))
   (first | exact ⟨a0,a1,a2⟩ | exact ⟨((aE.cell (p:=⟨w.heap.size,0,none⟩) al).trans a0),((aE.cell (p:=⟨w.heap.size,1,none⟩) al).trans a1),((aE.cell (p:=⟨w.heap.size,2,none⟩) al).trans a2)⟩ | exact ⟨((far3 _ _ _ _ (by dsimp only;omega)).trans a0),((far3 _ _ _ _ (by dsimp only;omega)).trans a1),((far3 _ _ _ _ (by dsimp only;omega)).trans a2)⟩ | exact ⟨((far3 _ _ _ _ (by dsimp only;omega)).trans ((aE.cell (p:=⟨w.heap.size,0,none⟩) al).trans a0)),((far3 _ _ _ _ (by dsimp only;omega)).trans ((aE.cell (p:=⟨w.heap.size,1,none⟩) al).trans a1)),((far3 _ _ _ _ (by dsimp only;omega)).trans ((aE.cell (p:=⟨w.heap.size,2,none⟩) al).trans a2))⟩)
   (first
    |(go_at_call 96;refine (zca _ x A1 A2 n1 c1 n2 c2 w3.drew (h1.later aD)).mono ?_;rintro e w4 ⟨rfl,aE⟩;have aJ:=aA.below aE cl;obtain ⟨e0,e1,e2,g0,g1,g2,gl⟩:=aJ.cells))
  go_wp2_with fail
  have aC:Below w.heap.size w w4:=aD.trans (aE.mono aD.size);have aF:=zan aC (g:=w.heap.size+1) (by omega) (.bool (!decide (x=0))) (.slice A1 n1 c1) (.slice A2 n2 c2);refine bodyPost_ret (v := .agg #[.bool (!decide (x=0)),.slice A1 n1 c1,.slice A2 n2 c2]) (by simp [results,Tryz.results133,go_sem,e0,e1,e2]) rfl ⟨_,rfl,⟨A1,n1,c1,A2,n2,c2,by simp,?_,?_⟩,aF⟩
  ·rw [zah];exact (h1.later aC).res aJ _ _ _
  ·rw [zah];exact (h2.later aC).res aJ _ _ _
 ·go_wp2_with fail
  have aH:Below w.heap.size w ((w.alloc (.cells #[.bool true,.slice A1 n1 c1,.slice A2 n2 c2] 91)).alloc (.cells #[.bool false,.slice none 0 0,.slice none 0 0] 91)):=((Below.refl _ _).alloc (Nat.le_refl _) _).alloc (by simp) _;have aI:zaf ((w.alloc (.cells #[.bool true,.slice A1 n1 c1,.slice A2 n2 c2] 91)).alloc (.cells #[.bool false,.slice none 0 0,.slice none 0 0] 91)) w.heap.size true (.slice A1 n1 c1) (.slice A2 n2 c2):=(zaf.new w _ _ _).below ((Below.refl _ _).alloc (Nat.le_refl _) _) (by simp);have aG:zaf ((w.alloc (.cells #[.bool true,.slice A1 n1 c1,.slice A2 n2 c2] 91)).alloc (.cells #[.bool false,.slice none 0 0,.slice none 0 0] 91)) (w.heap.size+1) false (.slice none 0 0) (.slice none 0 0):=by
   have h:=zaf.new (w.alloc (.cells #[.bool true,.slice A1 n1 c1,.slice A2 n2 c2] 91)) false (.slice none 0 0) (.slice none 0 0)
   simpa using h
  generalize ((w.alloc (.cells #[.bool true,.slice A1 n1 c1,.slice A2 n2 c2] 91)).alloc (.cells #[.bool false,.slice none 0 0,.slice none 0 0] 91))=w3 at *;obtain ⟨a0,a1,a2,_,_,_,al⟩:=aI.cells;have aD:Below w.heap.size w w3.drew:=aH.drew;have aA:zaf w3.drew (w.heap.size+1) false (.slice none 0 0) (.slice none 0 0):=aG;have cl:w.heap.size+1<w3.drew.heap.size:=aA.cells.2.2.2.2.2.2;obtain ⟨d0,d1,d2,f0,f1,f2,_⟩:=aA.cells;obtain ⟨x0,x1,x2,y0,y1,y2,_⟩:=aG.cells
  go_region
  go_wp2_with fail
  have aF:=(zan aH (g:=w.heap.size+1) (by omega) (.bool false) (.slice A1 n1 c1) (.slice A2 n2 c2)).drew;refine bodyPost_ret (v := .agg #[.bool false,.slice A1 n1 c1,.slice A2 n2 c2]) (by simp [results,Tryz.results133,go_sem,x0,x1,x2]) rfl ⟨_,rfl,⟨A1,n1,c1,A2,n2,c2,by simp,?_,?_⟩,aF⟩
  ·show NatS _ (((w3.setCell _ _).setCell _ _).setCell _ _).heap.size _ _ _ _
   rw [zah];exact (h1.later aD).res aA _ _ _
  ·show NatS _ (((w3.setCell _ _).setCell _ _).setCell _ _).heap.size _ _ _ _
   rw [zah];exact (h2.later aD).res aA _ _ _
def za7 (q:Q):Q:=⟨q.neg,if q.neg=true∧q.top % q.bot≠0 then q.top / q.bot+1 else q.top / q.bot,1⟩
set_option maxHeartbeats 2000000 in
set_option maxRecDepth 100000 in
theorem zhu (b:Bool) (x y:Nat) (A1 A2:Option Addr) (n1 c1 n2 c2:Nat) (w:World) (h1:NatS w w.heap.size A1 n1 c1 x) (h2:NatS w w.heap.size A2 n2 c2 y) (hy:0<y) (k1:n1≤268435456) :
  Calls Tryz.prog 79 #[.agg #[.bool b,.slice A1 n1 c1,.slice A2 n2 c2]] w (zaU w (za7 ⟨b,x,y⟩)):=by
 have aN:Below w.heap.size w ((w.alloc (.cells #[.bool b,.slice A1 n1 c1,.slice A2 n2 c2] 91)).alloc (.cells #[.bool false,.slice none 0 0,.slice none 0 0] 91)):=((Below.refl _ _).alloc (Nat.le_refl _) _).alloc (by simp) _;go_enter Tryz.func79,Tryz.ntmps79
 go_wp2_with fail
 refine (zcx A1 A2 n1 c1 n2 c2 x y _ (h1.later aN) (h2.later aN) hy (by omega)).mono ?_;rintro e w4 ⟨A5,m5,c5,A6,m6,c6,rfl,hq,hr,aQ⟩;have aM:Below w.heap.size w w4:=aN.trans (aQ.mono aN.size);have aO:=((zaf.new w b (.slice A1 n1 c1) (.slice A2 n2 c2)).below ((Below.refl _ _).alloc (Nat.le_refl _) (.cells #[.bool false,.slice none 0 0,.slice none 0 0] 91)) (by simp)).below aQ (by simp;omega);have aL:zaf w4 (w.heap.size+1) false (.slice none 0 0) (.slice none 0 0):=by
  have h:=(zaf.new (w.alloc (.cells #[.bool b,.slice A1 n1 c1,.slice A2 n2 c2] 91)) false (.slice none 0 0) (.slice none 0 0)).below aQ (by simp)
  simpa using h
 obtain ⟨z0,z1,z2,_,_,_,zl⟩:=aO.cells;have aT:(digs (x / y)).length≤n1:=digs_length_le (Nat.lt_of_le_of_lt (Nat.div_le_self x y) (by have:=zac x;rw [h1.len] at this;exact this))
 cases b
 ·have aH:(za7 ⟨false,x,y⟩).top=x / y:=by simp [za7]
  go_wp2_with fail
  have hW:=aM;have aF:=aO;have aE:=aL;have aI:=hq;obtain ⟨a0,a1,a2,_,_,_,al⟩:=aF.cells;have aC:zaf w4.drew (w.heap.size+1) false (.slice none 0 0) (.slice none 0 0):=aE;have cl:w.heap.size+1<w4.drew.heap.size:=aC.cells.2.2.2.2.2.2
  go_region_held3 (fun w'=>w'.cell? ⟨w.heap.size,0,none⟩=some (.bool false)∧w'.cell? ⟨w.heap.size,1,none⟩=some (.slice A1 n1 c1)∧w'.cell? ⟨w.heap.size,2,none⟩=some (.slice A2 n2 c2))
   (first | exact ⟨a0,a1,a2⟩ | exact ⟨((aA.cell (p:=⟨w.heap.size,0,none⟩) al).trans a0),((aA.cell (p:=⟨w.heap.size,1,none⟩) al).trans a1),((aA.cell (p:=⟨w.heap.size,2,none⟩) al).trans a2)⟩ | exact ⟨((far3 _ _ _ _ (by dsimp only;omega)).trans ((aA.cell (p:=⟨w.heap.size,0,none⟩) al).trans a0)),((far3 _ _ _ _ (by dsimp only;omega)).trans ((aA.cell (p:=⟨w.heap.size,1,none⟩) al).trans a1)),((far3 _ _ _ _ (by dsimp only;omega)).trans ((aA.cell (p:=⟨w.heap.size,2,none⟩) al).trans a2))⟩)
   (first | (go_at_call 102;refine (zai 1 w4.drew (by omega) (by omega)).mono ?_;rintro e w8 ⟨A8,m8,c8,rfl,aJ,aA⟩;have hk:=aC.below aA cl;obtain ⟨e0,e1,e2,g0,g1,g2,gl⟩:=hk.cells))
  go_wp2_with fail
  have aD:Below w.heap.size w w8:=hW.drew.trans (aA.mono hW.size);have aG:=zan aD (g:=w.heap.size+1) (by omega) (.bool false) (.slice A5 m5 c5) (.slice A8 m8 c8);refine bodyPost_ret (v := .agg #[.bool false,.slice A5 m5 c5,.slice A8 m8 c8]) (by simp [results,Tryz.results79,go_sem,e0,e1,e2]) rfl ⟨_,rfl,⟨A5,m5,c5,A8,m8,c8,by rfl,?_,?_⟩,aG⟩
  ·rw [zah,aH];exact (aI.later (Below.drew (Below.refl _ _) |>.trans aA)).res hk _ _ _
  ·rw [zah];exact aJ.res hk _ _ _
 ·go_wp2_with fail
  refine (zaM A6 m6 c6 (x % y) _ hr).mono ?_;rintro e w5 ⟨rfl,rfl⟩
  by_cases h0:x % y=0
  ·have aH:(za7 ⟨true,x,y⟩).top=x / y:=by simp [za7,h0]
   have hd:decide (x % y=0)=true:=by simpa using h0
   rw [hd]
   go_wp2_with fail
   have hW:=aM;have aF:=aO;have aE:=aL;have aI:=hq;obtain ⟨a0,a1,a2,_,_,_,al⟩:=aF.cells;have aC:zaf w4.drew (w.heap.size+1) false (.slice none 0 0) (.slice none 0 0):=aE;have cl:w.heap.size+1<w4.drew.heap.size:=aC.cells.2.2.2.2.2.2
   go_region_held3 (fun w'=>w'.cell? ⟨w.heap.size,0,none⟩=some (.bool true)∧w'.cell? ⟨w.heap.size,1,none⟩=some (.slice A1 n1 c1)∧w'.cell? ⟨w.heap.size,2,none⟩=some (.slice A2 n2 c2))
    (first | exact ⟨a0,a1,a2⟩ | exact ⟨((aA.cell (p:=⟨w.heap.size,0,none⟩) al).trans a0),((aA.cell (p:=⟨w.heap.size,1,none⟩) al).trans a1),((aA.cell (p:=⟨w.heap.size,2,none⟩) al).trans a2)⟩ | exact ⟨((far3 _ _ _ _ (by dsimp only;omega)).trans ((aA.cell (p:=⟨w.heap.size,0,none⟩) al).trans a0)),((far3 _ _ _ _ (by dsimp only;omega)).trans ((aA.cell (p:=⟨w.heap.size,1,none⟩) al).trans a1)),((far3 _ _ _ _ (by dsimp only;omega)).trans ((aA.cell (p:=⟨w.heap.size,2,none⟩) al).trans a2))⟩)
    (first | (go_at_call 102;refine (zai 1 w4.drew (by omega) (by omega)).mono ?_;rintro e w8 ⟨A8,m8,c8,rfl,aJ,aA⟩;have hk:=aC.below aA cl;obtain ⟨e0,e1,e2,g0,g1,g2,gl⟩:=hk.cells))
   go_wp2_with fail
   have aD:Below w.heap.size w w8:=hW.drew.trans (aA.mono hW.size);have aG:=zan aD (g:=w.heap.size+1) (by omega) (.bool true) (.slice A5 m5 c5) (.slice A8 m8 c8);refine bodyPost_ret (v := .agg #[.bool true,.slice A5 m5 c5,.slice A8 m8 c8]) (by simp [results,Tryz.results79,go_sem,e0,e1,e2]) rfl ⟨_,rfl,⟨A5,m5,c5,A8,m8,c8,by rfl,?_,?_⟩,aG⟩
   ·rw [zah,aH];exact (aI.later (Below.drew (Below.refl _ _) |>.trans aA)).res hk _ _ _
   ·rw [zah];exact aJ.res hk _ _ _
  ·have aH:(za7 ⟨true,x,y⟩).top=x / y+1:=by simp [za7,h0]
   have hd:decide (x % y=0)=false:=by simpa using h0
   rw [hd]
   go_wp2_with fail
   refine (zai 1 _ (by omega) (by omega)).mono ?_;rintro e w6 ⟨A9,m9,c9,rfl,aR,aK⟩
   go_wp2_with fail
   refine (zcf A5 A9 m5 c5 m9 c9 _ _ _ (hq.later aK) aR (by have:=hq.len;omega) (by have:=aR.len;have h3:(digs (Int.toNat 1)).length≤1:=digs_length_le (by decide);omega)).mono ?_;rintro e w7 ⟨A7,m7,c7,rfl,aS,aP⟩
   go_wp2_with fail
   have s4:=aM.size;have s9:=aK.size;have hW:Below w.heap.size w w7:=(aM.trans (aK.mono s4)).trans (aP.mono (by omega));have aF:=(aO.below aK zl).below aP (by omega);have aE:=(aL.below aK aL.cells.2.2.2.2.2.2).below aP (by have:=aL.cells.2.2.2.2.2.2;omega);have aI:=aS;obtain ⟨a0,a1,a2,_,_,_,al⟩:=aF.cells;have aC:zaf w7.drew (w.heap.size+1) false (.slice none 0 0) (.slice none 0 0):=aE;have cl:w.heap.size+1<w7.drew.heap.size:=aC.cells.2.2.2.2.2.2
   go_region_held3 (fun w'=>w'.cell? ⟨w.heap.size,0,none⟩=some (.bool true)∧w'.cell? ⟨w.heap.size,1,none⟩=some (.slice A1 n1 c1)∧w'.cell? ⟨w.heap.size,2,none⟩=some (.slice A2 n2 c2))
    (first | exact ⟨a0,a1,a2⟩ | exact ⟨((aA.cell (p:=⟨w.heap.size,0,none⟩) al).trans a0),((aA.cell (p:=⟨w.heap.size,1,none⟩) al).trans a1),((aA.cell (p:=⟨w.heap.size,2,none⟩) al).trans a2)⟩ | exact ⟨((far3 _ _ _ _ (by dsimp only;omega)).trans ((aA.cell (p:=⟨w.heap.size,0,none⟩) al).trans a0)),((far3 _ _ _ _ (by dsimp only;omega)).trans ((aA.cell (p:=⟨w.heap.size,1,none⟩) al).trans a1)),((far3 _ _ _ _ (by dsimp only;omega)).trans ((aA.cell (p:=⟨w.heap.size,2,none⟩) al).trans a2))⟩)
    (first | (go_at_call 102;refine (zai 1 w7.drew (by omega) (by omega)).mono ?_;rintro e w8 ⟨A8,m8,c8,rfl,aJ,aA⟩;have hk:=aC.below aA cl;obtain ⟨e0,e1,e2,g0,g1,g2,gl⟩:=hk.cells))
   go_wp2_with fail
   have aD:Below w.heap.size w w8:=hW.drew.trans (aA.mono hW.size);have aG:=zan aD (g:=w.heap.size+1) (by omega) (.bool true) (.slice A7 m7 c7) (.slice A8 m8 c8);refine bodyPost_ret (v := .agg #[.bool true,.slice A7 m7 c7,.slice A8 m8 c8]) (by simp [results,Tryz.results79,go_sem,e0,e1,e2]) rfl ⟨_,rfl,⟨A7,m7,c7,A8,m8,c8,by rfl,?_,?_⟩,aG⟩
   ·rw [zah,aH];exact (aI.later (Below.drew (Below.refl _ _) |>.trans aA)).res hk _ _ _
   ·rw [zah];exact aJ.res hk _ _ _
def LenQ (q:Q) (K:Nat):Prop:=(digs q.top).length≤K∧(digs q.bot).length≤K
theorem LenQ.mono {q:Q} {K L:Nat} (h:LenQ q K) (hl:K≤L):LenQ q L:=⟨Nat.le_trans h.1 hl,Nat.le_trans h.2 hl⟩
theorem RatS.later {w w':World} {v:Value} {q:Q} (h:RatS w w.heap.size v q) (hb:Below w.heap.size w w'):RatS w' w'.heap.size v q:=by
 obtain ⟨A,n,c,A',n',c',rfl,h1,h2⟩:=h;exact ⟨A,n,c,A',n',c',rfl,h1.later hb,h2.later hb⟩
theorem zbs:(digs 1).length≤1:=digs_length_le (by decide)
theorem zdE {b:Bool} {x y K:Nat} (hx:(digs x).length≤K) (hy:(digs y).length≤K) (hK:1≤K):LenQ (lowQ b x y) K:=by
 unfold lowQ
 split
 ·exact ⟨by show (digs 0).length≤K;rw [digs_zero];exact Nat.zero_le _,by show (digs 0).length≤K;rw [digs_zero];exact Nat.zero_le _⟩
 ·split
  ·exact ⟨by show (digs 0).length≤K;rw [digs_zero];exact Nat.zero_le _,Nat.le_trans zbs hK⟩
  ·exact ⟨Nat.le_trans (zaa (Nat.div_le_self _ _)) hx,Nat.le_trans (zaa (Nat.div_le_self _ _)) hy⟩
def zbQ (q:Q):Q:=⟨!q.neg && !decide (q.top=0),q.top,q.bot⟩
def zaZ (p q:Q):Q:=zdi p (zbQ q)
theorem zbE {q:Q} {K:Nat} (h:LenQ q K):LenQ (zbQ q) K:=h
theorem zbf {p q:Q} {K L:Nat} (b:Bool) (hp:LenQ p K) (hq:LenQ q L) (h1:1≤K+L):LenQ (lowQ b (p.top*q.top) (p.bot*q.bot)) (K+L):=
 zdE (zaB hp.1 hq.1) (zaB hp.2 hq.2) h1
theorem zbm {p q:Q} {K L:Nat} (b:Bool) (hp:LenQ p K) (hq:LenQ q L) (h1:1≤K+L):LenQ (lowQ b (p.top*q.bot) (p.bot*q.top)) (K+L):=
 zdE (zaB hp.1 hq.2) (zaB hp.2 hq.1) h1
theorem zbl {p q:Q} {K L:Nat} (hp:LenQ p K) (hq:LenQ q L):LenQ (zdi p q) (K+L+K+L+1):=by
 have hb:(digs (p.bot*q.bot)).length≤K+L:=zaB hp.2 hq.2;have h1:(digs (p.top*q.bot)).length≤K+L:=zaB hp.1 hq.2;have h2:(digs (q.top*p.bot)).length≤L+K:=zaB hq.1 hp.2;have h3:=zc0 h1 h2;have h4:=zdp (p.top*q.bot) (q.top*p.bot);have h5:=zdp (q.top*p.bot) (p.top*q.bot);unfold zdi
 split
 ·exact zdE (by omega) (by omega) (by omega)
 ·split
  ·exact zdE (by omega) (by omega) (by omega)
  ·exact zdE (by omega) (by omega) (by omega)
theorem zhP (p q:Q) (v u:Value) (w:World) (hT:Tabs w) (hv:RatS w w.heap.size v p) (hu:RatS w w.heap.size u q) (hp:LenQ p 134217728) (hq:LenQ q 134217728) :
  Calls Tryz.prog 65 #[v,u] w (zaU w (zdi p q)):=by
 obtain ⟨A1,n1,c1,A2,n2,c2,rfl,h1,h2⟩:=hv;obtain ⟨A3,n3,c3,A4,n4,c4,rfl,h3,h4⟩:=hu;exact ziq p q A1 A2 A3 A4 n1 c1 n2 c2 n3 c3 n4 c4 w hT h1 h2 h3 h4 (by rw [←h1.len];exact hp.1) (by rw [←h2.len];exact hp.2) (by rw [←h3.len];exact hq.1) (by rw [←h4.len];exact hq.2)
theorem zdv (p q:Q) (v u:Value) (w:World) (hT:Tabs w) (hv:RatS w w.heap.size v p) (hu:RatS w w.heap.size u q) (hp:LenQ p 268435456) (hq:LenQ q 268435456) :
  Calls Tryz.prog 68 #[v,u] w (zaU w (lowQ (p.neg != q.neg) (p.top*q.top) (p.bot*q.bot))):=by
 obtain ⟨A1,n1,c1,A2,n2,c2,rfl,h1,h2⟩:=hv;obtain ⟨A3,n3,c3,A4,n4,c4,rfl,h3,h4⟩:=hu;exact zhi p q A1 A2 A3 A4 n1 c1 n2 c2 n3 c3 n4 c4 w hT h1 h2 h3 h4 (by rw [←h1.len];exact hp.1) (by rw [←h2.len];exact hp.2) (by rw [←h3.len];exact hq.1) (by rw [←h4.len];exact hq.2)
theorem zdQ (p q:Q) (v u:Value) (w:World) (hT:Tabs w) (hv:RatS w w.heap.size v p) (hu:RatS w w.heap.size u q) (hp:LenQ p 268435456) (hq:LenQ q 268435456) :
  Calls Tryz.prog 69 #[v,u] w (zaU w (lowQ (p.neg != q.neg) (p.top*q.bot) (p.bot*q.top))):=by
 obtain ⟨A1,n1,c1,A2,n2,c2,rfl,h1,h2⟩:=hv;obtain ⟨A3,n3,c3,A4,n4,c4,rfl,h3,h4⟩:=hu;exact zhT p q A1 A2 A3 A4 n1 c1 n2 c2 n3 c3 n4 c4 w hT h1 h2 h3 h4 (by rw [←h1.len];exact hp.1) (by rw [←h2.len];exact hp.2) (by rw [←h3.len];exact hq.1) (by rw [←h4.len];exact hq.2)
theorem zbe (p q:Q) (v u:Value) (w:World) (hv:RatS w w.heap.size v p) (hu:RatS w w.heap.size u q) (hp:LenQ p 268435456) (hq:LenQ q 268435456) :
  Calls Tryz.prog 71 #[v,u] w fun e w'=>e = .returned (.int .i64 (rcmp p q))∧Below w.heap.size w w':=by
 obtain ⟨A1,n1,c1,A2,n2,c2,rfl,h1,h2⟩:=hv;obtain ⟨A3,n3,c3,A4,n4,c4,rfl,h3,h4⟩:=hu;exact zdK p q A1 A2 A3 A4 n1 c1 n2 c2 n3 c3 n4 c4 w h1 h2 h3 h4 (by rw [←h1.len];exact hp.1) (by rw [←h2.len];exact hp.2) (by rw [←h3.len];exact hq.1) (by rw [←h4.len];exact hq.2)
theorem zl9 (p:Q) (v:Value) (w:World) (hv:RatS w w.heap.size v p) :
  Calls Tryz.prog 133 #[v] w (zaU w (zbQ p)):=by
 obtain ⟨A1,n1,c1,A2,n2,c2,rfl,h1,h2⟩:=hv;exact zfR p.neg p.top p.bot A1 A2 n1 c1 n2 c2 w h1 h2
theorem zhW (p:Q) (v:Value) (w:World) (hv:RatS w w.heap.size v p) :
  Calls Tryz.prog 96 #[v] w fun e w'=>e = .returned (.bool (decide (p.top=0)))∧Below w.heap.size w w':=by
 obtain ⟨A1,n1,c1,A2,n2,c2,rfl,h1,h2⟩:=hv;exact zca p.neg p.top A1 A2 n1 c1 n2 c2 w h1
theorem zi4 (p:Q) (v:Value) (w:World) (hv:RatS w w.heap.size v p) (hy:0<p.bot) (hp:LenQ p 268435456) :
  Calls Tryz.prog 79 #[v] w (zaU w (za7 p)):=by
 obtain ⟨A1,n1,c1,A2,n2,c2,rfl,h1,h2⟩:=hv;exact zhu p.neg p.top p.bot A1 A2 n1 c1 n2 c2 w h1 h2 hy (by rw [←h1.len];exact hp.1)
theorem zbN (p:Q) (v:Value) (w:World) (hT:Tabs w) (hv:RatS w w.heap.size v p) (hp:LenQ p 268435456) :
  Calls Tryz.prog 66 #[v] w (zaR w (zaI p) (zao p)):=by
 obtain ⟨A1,n1,c1,A2,n2,c2,rfl,h1,h2⟩:=hv;exact ze1 p A1 A2 n1 c1 n2 c2 w hT h1 h2 (by rw [←h1.len];exact hp.1) (by rw [←h2.len];exact hp.2)
set_option maxHeartbeats 1000000 in
set_option maxRecDepth 100000 in
theorem zo0 (a b:Int) (w:World) (hT:Tabs w) (ha : -9223372036854775808≤a∧a<9223372036854775808) (hb : -9223372036854775808≤b∧b<9223372036854775808) :
  Calls Tryz.prog 25 #[.int .i64 a,.int .i64 b] w (zaR w (zaI (lowQ (decide (a<0) != decide (b<0)) (a.natAbs*1) (1*b.natAbs))) (zao (lowQ (decide (a<0) != decide (b<0)) (a.natAbs*1) (1*b.natAbs)))):=by
 have la:LenQ ⟨decide (a<0),a.natAbs,1⟩ 2:=⟨digs_length_le (by have e:B ^ 2=340282366920938463463374607431768211456:=(by decide);rw [e];show a.natAbs<_;omega),Nat.le_trans zbs (by omega)⟩;have lb:LenQ ⟨decide (b<0),b.natAbs,1⟩ 2:=⟨digs_length_le (by have e:B ^ 2=340282366920938463463374607431768211456:=(by decide);rw [e];show b.natAbs<_;omega),Nat.le_trans zbs (by omega)⟩;have HA:=Lib.hid (zcn a w ha.1 ha.2);have HB:=Lib.hid (fun W=>zcn b W hb.1 hb.2);have lo:=zbm (decide (a<0) != decide (b<0)) la lb (by omega);have HO:=Lib.hid (fun v u W h1 h2 h3=>zdQ ⟨decide (a<0),a.natAbs,1⟩ ⟨decide (b<0),b.natAbs,1⟩ v u W h1 h2 h3 (la.mono (by omega)) (lb.mono (by omega)))
 dsimp only at lo HO
 generalize lowQ (decide (a<0) != decide (b<0)) (a.natAbs*1) (1*b.natAbs)=q at *;clear la lb;go_enter Tryz.func25,Tryz.ntmps25
 go_wp2_with fail
 refine HA.out.mono ?_;rintro e w1 ⟨v1,rfl,h1,aE⟩
 go_wp2_with fail
 refine (HB.out w1).mono ?_;rintro e w2 ⟨v2,rfl,h2,aD⟩;have aC:=aE.trans (aD.mono aE.size)
 go_wp2_with fail
 refine (HO.out v1 v2 w2 (hT.later aC) (h1.later aD) h2).mono ?_;rintro e w3 ⟨v3,rfl,h3,aG⟩;have aA:=aC.trans (aG.mono aC.size)
 go_wp2_with fail
 refine (zbN q v3 w3 (hT.later aA) h3 (lo.mono (by omega))).mono ?_;rintro e w4 ⟨s,rfl,hs,aF⟩;go_wp2
 go_ret2
 exact ⟨s,rfl,hs,aA.trans (aF.mono aA.size)⟩
set_option maxHeartbeats 1000000 in
set_option maxRecDepth 100000 in
theorem znm (s:ByteArray) (w:World) (hT:Tabs w) (hs:s.size≤4294967296) (hx:zae s.data.toList=0) :
  Calls Tryz.prog 26 #[.string s] w (zaR w (zaI (za7 (zab s.data.toList))) (zao (za7 (zab s.data.toList)))):=by
 have hr:=zbj s w hT hs;have aA:=@zam s.data.toList hx;have aG:=zd1 hx;rw [hx] at hr;generalize zab s.data.toList=p at *;have lf:LenQ (za7 p) 602:=by
  refine ⟨?_,Nat.le_trans zbs (by omega)⟩;unfold za7
  dsimp only
  have h1:(digs (p.top / p.bot)).length≤600:=Nat.le_trans (zaa (Nat.div_le_self _ _)) aA.1
  split
  ·have:=zc0 h1 (y:=1) (b:=0+1) (by exact zbs)
   refine Nat.le_trans (zc0 h1 zbs) ?_;omega
  ·omega
 have HR:=Lib.hid hr;clear hr hx;go_enter Tryz.func26,Tryz.ntmps26
 go_wp2_with fail
 refine HR.out.mono ?_;rintro e w1 ⟨v,rfl,⟨A1,n1,c1,A2,n2,c2,rfl,h1,h2⟩,aD⟩;have hv:RatS w1 w1.heap.size (.agg #[.bool p.neg,.slice A1 n1 c1,.slice A2 n2 c2]) p:=⟨A1,n1,c1,A2,n2,c2,rfl,h1,h2⟩;have aE:Below w1.heap.size w1 (w1.alloc (.cells #[.bool p.neg,.slice A1 n1 c1,.slice A2 n2 c2] 91)):=(Below.refl _ _).alloc (Nat.le_refl _) _;have aF:=aD.trans (aE.mono aD.size)
 go_wp2_with fail
 refine (zi4 p _ _ (hv.later aE) aG ⟨by have:=aA.1;omega,by have:=aA.2;omega⟩).mono ?_;rintro e w2 ⟨v2,rfl,h2,aH⟩;have aC:=aF.trans (aH.mono aF.size)
 go_wp2_with fail
 refine (zbN (za7 p) v2 w2 (hT.later aC) h2 (lf.mono (by omega))).mono ?_;rintro e w3 ⟨t,rfl,ht,aI⟩;go_wp2
 go_ret2
 exact ⟨t,rfl,ht,aC.trans (aI.mono aC.size)⟩
def zcF (cs:Array Value):Prop:=∀ (i:Nat) (v:Value),cs[i]? = some v→∀ (k:IntKind) (d:Int),v ≠ .int k d
theorem zcF.set {cs:Array Value} (h:zcF cs) (i:Nat) {u:Value} (hu:∀ (k:IntKind) (d:Int),u ≠ .int k d):zcF (cs.setIfInBounds i u):=by
 intro j v hv;rw [Array.getElem?_setIfInBounds] at hv
 split at hv
 ·split at hv
  ·injection hv with hv;subst hv;exact hu
  ·cases hv
 ·exact h j v hv
theorem NatS.store {w:World} {B n c x g i:Nat} {A:Option Addr} {cs:Array Value} {t:TypeId} (h:NatS w B A n c x) (hk:CBlk w g cs t) (hn:zcF cs) (u:Value):NatS (w.setCell ⟨g,i,none⟩ u) B A n c x:=by
 refine ⟨⟨h.words.1,fun h0 => ?_⟩,h.nc,h.cm⟩;obtain ⟨ad,e,hb,hc⟩:=h.words.2 h0;refine ⟨ad,e,hb,fun j z hz => ?_⟩;have aA:=hc j z hz;have aC:∃ d:Nat,z = .int .u64 (d:Int):=by
  rw [List.getElem?_map] at hz
  cases hd:(digs x)[j]? with
  | none=>rw [hd] at hz;cases hz
  | some d=>rw [hd] at hz;injection hz with hz;exact ⟨d,hz.symm⟩
 obtain ⟨d,rfl⟩:=aC;rw [World.cell?_setCell_other _ _ _ _ (fun e0=>by
  rw [←e0,hk.cell i] at aA;exact hn i _ aA _ _ rfl)]
 exact aA
theorem RatS.store {w:World} {B g i:Nat} {v:Value} {q:Q} {cs:Array Value} {t:TypeId} (h:RatS w B v q) (hk:CBlk w g cs t) (hn:zcF cs) (u:Value):RatS (w.setCell ⟨g,i,none⟩ u) B v q:=by
 obtain ⟨A,n,c,A',n',c',rfl,h1,h2⟩:=h;exact ⟨A,n,c,A',n',c',rfl,h1.store hk hn u,h2.store hk hn u⟩
theorem CBlk.alloc {w:World} {g:Nat} {c:Array Value} {t:TypeId} (h:CBlk w g c t) (o:Obj):CBlk (w.alloc o) g c t:=h.below ((Below.refl _ _).alloc (Nat.le_refl _) o) h.lt
theorem CBlk.drew {w:World} {g:Nat} {c:Array Value} {t:TypeId} (h:CBlk w g c t):CBlk w.drew g c t:=h
theorem CBlk.set {w:World} {g:Nat} {c:Array Value} {t:TypeId} (h:CBlk w g c t) (i:Nat) (u:Value):CBlk (w.setCell ⟨g,i,none⟩ u) g (c.setIfInBounds i u) t:=heap_setCell_same w g i c t u h
def set6 (w:World) (g:Nat) (a b c d e f:Value):World:=
 (((((w.setCell ⟨g,0,none⟩ a).setCell ⟨g,1,none⟩ b).setCell ⟨g,2,none⟩ c).setCell ⟨g,3,none⟩ d).setCell ⟨g,4,none⟩ e).setCell ⟨g,5,none⟩ f
theorem zei (w:World) (g:Nat) (a b c d e f:Value):(set6 w g a b c d e f).heap.size=w.heap.size:=by simp [set6,World.setCell]
theorem znM {a w:World} {B g:Nat} (h:Below B a w) (hg:B≤g) (u1 u2 u3 u4 u5 u6:Value):Below B a (set6 w g u1 u2 u3 u4 u5 u6):=
 (((((h.setCell (p:=⟨g,0,none⟩) hg _).setCell (p:=⟨g,1,none⟩) hg _).setCell (p:=⟨g,2,none⟩) hg _).setCell (p:=⟨g,3,none⟩) hg _).setCell (p:=⟨g,4,none⟩) hg _).setCell (p:=⟨g,5,none⟩) hg _
theorem za3 (b b':Bool) (A1 A2 A3 A4:Option Addr) (n1 c1 n2 c2 n3 c3 n4 c4:Nat):zcF #[.bool b,.slice A1 n1 c1,.slice A2 n2 c2,.bool b',.slice A3 n3 c3,.slice A4 n4 c4]:=by
 intro i v hv k d
 rcases (show i=0∨i=1∨i=2∨i=3∨i=4∨i=5∨6≤i from by omega) with rfl | rfl | rfl | rfl | rfl | rfl | h
 ·injection hv with hv;subst hv;intro h;cases h
 ·injection hv with hv;subst hv;intro h;cases h
 ·injection hv with hv;subst hv;intro h;cases h
 ·injection hv with hv;subst hv;intro h;cases h
 ·injection hv with hv;subst hv;intro h;cases h
 ·injection hv with hv;subst hv;intro h;cases h
 ·rw [Array.getElem?_eq_none h] at hv;cases hv
theorem zfd (b:Bool) (A1 A2:Option Addr) (n1 c1 n2 c2:Nat):zcF #[.bool b,.slice A1 n1 c1,.slice A2 n2 c2]:=by
 intro i v hv k d
 rcases (show i=0∨i=1∨i=2∨3≤i from by omega) with rfl | rfl | rfl | h
 ·injection hv with hv;subst hv;intro h;cases h
 ·injection hv with hv;subst hv;intro h;cases h
 ·injection hv with hv;subst hv;intro h;cases h
 ·rw [Array.getElem?_eq_none h] at hv;cases hv
theorem NatS.set6 {w:World} {B n c x g:Nat} {A:Option Addr} {b0 b0':Bool} {a1 a2 a3 a4:Option Addr} {m1 d1 m2 d2 m3 d3 m4 d4:Nat} {t:TypeId} (h:NatS w B A n c x)
  (hk:CBlk w g #[.bool b0,.slice a1 m1 d1,.slice a2 m2 d2,.bool b0',.slice a3 m3 d3,.slice a4 m4 d4] t)
  (b b':Bool) (A1 A2 A3 A4:Option Addr) (n1 c1 n2 c2 n3 c3 n4 c4:Nat) :
  NatS (set6 w g (.bool b) (.slice A1 n1 c1) (.slice A2 n2 c2) (.bool b') (.slice A3 n3 c3) (.slice A4 n4 c4)) B A n c x:=by
 unfold Go.Proofs.YteajibbphcfmeaaGreatDoor.set6;have k0:=hk;have k1:CBlk _ g #[.bool b,.slice a1 m1 d1,.slice a2 m2 d2,.bool b0',.slice a3 m3 d3,.slice a4 m4 d4] t:=k0.set 0 (.bool b);have k2:CBlk _ g #[.bool b,.slice A1 n1 c1,.slice a2 m2 d2,.bool b0',.slice a3 m3 d3,.slice a4 m4 d4] t:=k1.set 1 (.slice A1 n1 c1);have k3:CBlk _ g #[.bool b,.slice A1 n1 c1,.slice A2 n2 c2,.bool b0',.slice a3 m3 d3,.slice a4 m4 d4] t:=k2.set 2 (.slice A2 n2 c2);have k4:CBlk _ g #[.bool b,.slice A1 n1 c1,.slice A2 n2 c2,.bool b',.slice a3 m3 d3,.slice a4 m4 d4] t:=k3.set 3 (.bool b');have k5:CBlk _ g #[.bool b,.slice A1 n1 c1,.slice A2 n2 c2,.bool b',.slice A3 n3 c3,.slice a4 m4 d4] t:=k4.set 4 (.slice A3 n3 c3);exact (((((h.store k0 (za3 _ _ _ _ _ _ _ _ _ _ _ _ _ _) _).store k1 (za3 _ _ _ _ _ _ _ _ _ _ _ _ _ _) _).store k2 (za3 _ _ _ _ _ _ _ _ _ _ _ _ _ _) _).store k3 (za3 _ _ _ _ _ _ _ _ _ _ _ _ _ _) _).store k4 (za3 _ _ _ _ _ _ _ _ _ _ _ _ _ _) _).store k5 (za3 _ _ _ _ _ _ _ _ _ _ _ _ _ _) _
theorem CBlk.set6 {w:World} {g:Nat} {u1 u2 u3 u4 u5 u6:Value} {t:TypeId} (hk:CBlk w g #[u1,u2,u3,u4,u5,u6] t) (v1 v2 v3 v4 v5 v6:Value):CBlk (set6 w g v1 v2 v3 v4 v5 v6) g #[v1,v2,v3,v4,v5,v6] t:=by
 unfold Go.Proofs.YteajibbphcfmeaaGreatDoor.set6;exact (((((hk.set 0 v1).set 1 v2).set 2 v3).set 3 v4).set 4 v5).set 5 v6
def ItvS (w:World) (B:Nat) (v:Value) (p q:Q):Prop:=
 ∃ A1 n1 c1 A2 n2 c2 A3 n3 c3 A4 n4 c4,v = .agg #[.bool p.neg,.slice A1 n1 c1,.slice A2 n2 c2,.bool q.neg,.slice A3 n3 c3,.slice A4 n4 c4]∧NatS w B A1 n1 c1 p.top∧NatS w B A2 n2 c2 p.bot∧NatS w B A3 n3 c3 q.top∧NatS w B A4 n4 c4 q.bot
theorem ItvS.later {w w':World} {v:Value} {p q:Q} (h:ItvS w w.heap.size v p q) (hb:Below w.heap.size w w'):ItvS w' w'.heap.size v p q:=by
 obtain ⟨A1,n1,c1,A2,n2,c2,A3,n3,c3,A4,n4,c4,rfl,h1,h2,h3,h4⟩:=h;exact ⟨A1,n1,c1,A2,n2,c2,A3,n3,c3,A4,n4,c4,rfl,h1.later hb,h2.later hb,h3.later hb,h4.later hb⟩
def zb7 (w:World) (p q:Q) (e:Ending) (w':World):Prop:=∃ v,e = .returned v∧ItvS w' w'.heap.size v p q∧Below w.heap.size w w'
def zcr:Q:=⟨false,0,0⟩
theorem ItvS.zero (w:World) (B:Nat):ItvS w B (.agg #[.bool false,.slice none 0 0,.slice none 0 0,.bool false,.slice none 0 0,.slice none 0 0]) zcr zcr:=
 ⟨none,0,0,none,0,0,none,0,0,none,0,0,rfl,NatS.nil _ _,NatS.nil _ _,NatS.nil _ _,NatS.nil _ _⟩
theorem zbV {w W:World} {B g:Nat} {p q:Q} {v:Value} {b0 b0':Bool} {a1 a2 a3 a4:Option Addr} {m1 d1 m2 d2 m3 d3 m4 d4:Nat} {t:TypeId} {A1 A2 A3 A4:Option Addr} {n1 c1 n2 c2 n3 c3 n4 c4:Nat}
  (hk:CBlk W g #[.bool b0,.slice a1 m1 d1,.slice a2 m2 d2,.bool b0',.slice a3 m3 d3,.slice a4 m4 d4] t) (hB:Below B w W) (hg:B≤g)
  (hv:v = .agg #[.bool p.neg,.slice A1 n1 c1,.slice A2 n2 c2,.bool q.neg,.slice A3 n3 c3,.slice A4 n4 c4])
  (h1:NatS W W.heap.size A1 n1 c1 p.top) (h2:NatS W W.heap.size A2 n2 c2 p.bot) (h3:NatS W W.heap.size A3 n3 c3 q.top) (h4:NatS W W.heap.size A4 n4 c4 q.bot) :
  ItvS (set6 W g (.bool p.neg) (.slice A1 n1 c1) (.slice A2 n2 c2) (.bool q.neg) (.slice A3 n3 c3) (.slice A4 n4 c4)) (set6 W g (.bool p.neg) (.slice A1 n1 c1) (.slice A2 n2 c2) (.bool q.neg) (.slice A3 n3 c3) (.slice A4 n4 c4)).heap.size v p q∧Below B w (set6 W g (.bool p.neg) (.slice A1 n1 c1) (.slice A2 n2 c2) (.bool q.neg) (.slice A3 n3 c3) (.slice A4 n4 c4)):=by
 refine ⟨⟨A1,n1,c1,A2,n2,c2,A3,n3,c3,A4,n4,c4,hv,?_,?_,?_,?_⟩,znM hB hg _ _ _ _ _ _⟩
 ·rw [zei];exact h1.set6 hk _ _ _ _ _ _ _ _ _ _ _ _ _ _
 ·rw [zei];exact h2.set6 hk _ _ _ _ _ _ _ _ _ _ _ _ _ _
 ·rw [zei];exact h3.set6 hk _ _ _ _ _ _ _ _ _ _ _ _ _ _
 ·rw [zei];exact h4.set6 hk _ _ _ _ _ _ _ _ _ _ _ _ _ _
set_option maxHeartbeats 1000000 in
set_option maxRecDepth 100000 in
theorem zjO (p:Q) (v:Value) (w:World) (hv:RatS w w.heap.size v p) :
  Calls Tryz.prog 161 #[v] w (zb7 w p p):=by
 obtain ⟨A1,n1,c1,A2,n2,c2,rfl,h1,h2⟩:=hv;have aC:Below w.heap.size w (w.alloc (.cells #[.bool p.neg,.slice A1 n1 c1,.slice A2 n2 c2] 91)):=(Below.refl _ _).alloc (Nat.le_refl _) _;have aA:Below w.heap.size w ((w.alloc (.cells #[.bool p.neg,.slice A1 n1 c1,.slice A2 n2 c2] 91)).alloc (.cells #[.bool false,.slice none 0 0,.slice none 0 0,.bool false,.slice none 0 0,.slice none 0 0] 139)):=aC.alloc (by simp) _;have q0:CBlk ((w.alloc (.cells #[.bool p.neg,.slice A1 n1 c1,.slice A2 n2 c2] 91)).alloc (.cells #[.bool false,.slice none 0 0,.slice none 0 0,.bool false,.slice none 0 0,.slice none 0 0] 139)) w.heap.size #[.bool p.neg,.slice A1 n1 c1,.slice A2 n2 c2] 91:=(CBlk.new w _ _ _ rfl).below ((Below.refl _ _).alloc (Nat.le_refl _) _) (by simp);have q1:CBlk ((w.alloc (.cells #[.bool p.neg,.slice A1 n1 c1,.slice A2 n2 c2] 91)).alloc (.cells #[.bool false,.slice none 0 0,.slice none 0 0,.bool false,.slice none 0 0,.slice none 0 0] 139)) (w.heap.size+1) #[.bool false,.slice none 0 0,.slice none 0 0,.bool false,.slice none 0 0,.slice none 0 0] 139:=CBlk.new _ _ _ _ (by simp);go_enter Tryz.func161,Tryz.ntmps161
 go_upto_region 1 with (fail)
 generalize ((w.alloc (.cells #[.bool p.neg,.slice A1 n1 c1,.slice A2 n2 c2] 91)).alloc (.cells #[.bool false,.slice none 0 0,.slice none 0 0,.bool false,.slice none 0 0,.slice none 0 0] 139))=W at *;have x0:=q0.cell 0;have x1:=q0.cell 1;have x2:=q0.cell 2;have y0:=q1.cell 0;have y1:=q1.cell 1;have y2:=q1.cell 2;have y3:=q1.cell 3;have y4:=q1.cell 4;have y5:=q1.cell 5;have z0:=q1.frozen 0;have z1:=q1.frozen 1;have z2:=q1.frozen 2;have z3:=q1.frozen 3;have z4:=q1.frozen 4;have z5:=q1.frozen 5;have hI:=zbV (p:=p) (q:=p) q1 aA (by omega) rfl (h1.later aA) (h2.later aA) (h1.later aA) (h2.later aA);have hD:=q1.set6 (.bool p.neg) (.slice A1 n1 c1) (.slice A2 n2 c2) (.bool p.neg) (.slice A1 n1 c1) (.slice A2 n2 c2);unfold Go.Proofs.YteajibbphcfmeaaGreatDoor.set6 at hI hD;have r0:=hD.cell 0;have r1:=hD.cell 1;have r2:=hD.cell 2;have r3:=hD.cell 3;have r4:=hD.cell 4;have r5:=hD.cell 5;have HI:=Lib.hid hI;clear hI hD aC aA h1 h2 q0 q1;go_wp2
 refine bodyPost_ret (v := .agg #[.bool p.neg,.slice A1 n1 c1,.slice A2 n2 c2,.bool p.neg,.slice A1 n1 c1,.slice A2 n2 c2]) (by simp [results,Tryz.results161,go_sem,y0,y1,y2,y3,y4,y5]) rfl ⟨_,rfl,HI.out⟩
end Go.Proofs.YteajibbphcfmeaaGreatDoor
