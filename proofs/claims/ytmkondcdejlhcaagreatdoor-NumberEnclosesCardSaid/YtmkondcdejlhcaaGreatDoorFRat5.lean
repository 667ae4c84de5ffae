/- Contract of negated of a rational number. -/
import Derived.Test.YtmkondcdejlhcaaGreatDoorFRc4
set_option maxRecDepth 100000
set_option maxHeartbeats 4000000
namespace Go.Proofs.YtmkondcdejlhcaaGreatDoor
open Go.RowKit Bn
theorem zgq(b:Bool)(x y:Nat)(A1 A2:Option Addr)(n1 c1 n2 c2:Nat)(w:World)(h1:NatS w w.heap.size A1 n1 c1 x)(h2:NatS w w.heap.size A2 n2 c2 y) :
  Calls Tryz.prog 128 #[.agg #[.bool b,.slice A1 n1 c1,.slice A2 n2 c2]] w (za3 w ⟨!b && !decide (x=0),x,y⟩):=by
 go_enter Tryz.func128,Tryz.ntmps128
 cases b
 ·go_wp2_with fail
  have aH:Below w.heap.size w ((w.alloc (.cells #[.bool false,.slice A1 n1 c1,.slice A2 n2 c2] 91)).alloc (.cells #[.bool false,.slice none 0 0,.slice none 0 0] 91)):=((Below.refl _ _).alloc (Nat.le_refl _) _).alloc (by simp) _;have aI:zae ((w.alloc (.cells #[.bool false,.slice A1 n1 c1,.slice A2 n2 c2] 91)).alloc (.cells #[.bool false,.slice none 0 0,.slice none 0 0] 91)) w.heap.size false (.slice A1 n1 c1) (.slice A2 n2 c2):=(zae.new w _ _ _).below ((Below.refl _ _).alloc (Nat.le_refl _) _) (by simp);have aG:zae ((w.alloc (.cells #[.bool false,.slice A1 n1 c1,.slice A2 n2 c2] 91)).alloc (.cells #[.bool false,.slice none 0 0,.slice none 0 0] 91)) (w.heap.size+1) false (.slice none 0 0) (.slice none 0 0):=by
   have h:=zae.new (w.alloc (.cells #[.bool false,.slice A1 n1 c1,.slice A2 n2 c2] 91)) false (.slice none 0 0) (.slice none 0 0)
   simpa using h
  generalize ((w.alloc (.cells #[.bool false,.slice A1 n1 c1,.slice A2 n2 c2] 91)).alloc (.cells #[.bool false,.slice none 0 0,.slice none 0 0] 91))=w3 at *;obtain⟨a0,a1,a2,_,_,_,al⟩:=aI.cells;have aD:Below w.heap.size w w3.drew:=aH.drew;have aA:zae w3.drew (w.heap.size+1) false (.slice none 0 0) (.slice none 0 0):=aG;have cl:w.heap.size+1<w3.drew.heap.size:=aA.cells.2.2.2.2.2.2;obtain⟨d0,d1,d2,f0,f1,f2,_⟩:=aA.cells
  go_region_held3 (fun w'=>w'.cell? ⟨w.heap.size,0,none⟩=some (.bool false)∧w'.cell? ⟨w.heap.size,1,none⟩=some (.slice A1 n1 c1)∧w'.cell? ⟨w.heap.size,2,none⟩=some (.slice A2 n2 c2))
   (first | exact⟨a0,a1,a2⟩ | exact⟨((aE.cell (p:=⟨w.heap.size,0,none⟩) al).trans a0),((aE.cell (p:=⟨w.heap.size,1,none⟩) al).trans a1),((aE.cell (p:=⟨w.heap.size,2,none⟩) al).trans a2)⟩ | exact⟨((far3 _ _ _ _ (by dsimp only;omega)).trans a0),((far3 _ _ _ _ (by dsimp only;omega)).trans a1),((far3 _ _ _ _ (by dsimp only;omega)).trans a2)⟩ | exact⟨((far3 _ _ _ _ (by dsimp only;omega)).trans ((aE.cell (p:=⟨w.heap.size,0,none⟩) al).trans a0)),((far3 _ _ _ _ (by dsimp only;omega)).trans ((aE.cell (p:=⟨w.heap.size,1,none⟩) al).trans a1)),((far3 _ _ _ _ (by dsimp only;omega)).trans ((aE.cell (p:=⟨w.heap.size,2,none⟩) al).trans a2))⟩)
   (first
    |(go_at_call 104;refine(zcp _ x A1 A2 n1 c1 n2 c2 w3.drew (h1.later aD)).mono ?_;rintro e w4 ⟨rfl,aE⟩;have aJ:=aA.below aE cl;obtain⟨e0,e1,e2,g0,g1,g2,gl⟩:=aJ.cells))
  go_wp2_with fail
  have aC:Below w.heap.size w w4:=Ad aD aE;have aF:=zan aC (g:=w.heap.size+1) (by omega) (.bool (!decide (x=0))) (.slice A1 n1 c1) (.slice A2 n2 c2);refine bodyPost_ret (v := .agg #[.bool (!decide (x=0)),.slice A1 n1 c1,.slice A2 n2 c2]) (by simp[results,Tryz.results128,go_sem,e0,e1,e2]) rfl ⟨_,rfl,⟨A1,n1,c1,A2,n2,c2,by simp,?_,?_⟩,aF⟩
  ·rw[zah];exact(h1.later aC).res aJ _ _ _
  ·rw[zah];exact(h2.later aC).res aJ _ _ _
 ·go_wp2_with fail
  have aH:Below w.heap.size w ((w.alloc (.cells #[.bool true,.slice A1 n1 c1,.slice A2 n2 c2] 91)).alloc (.cells #[.bool false,.slice none 0 0,.slice none 0 0] 91)):=((Below.refl _ _).alloc (Nat.le_refl _) _).alloc (by simp) _;have aI:zae ((w.alloc (.cells #[.bool true,.slice A1 n1 c1,.slice A2 n2 c2] 91)).alloc (.cells #[.bool false,.slice none 0 0,.slice none 0 0] 91)) w.heap.size true (.slice A1 n1 c1) (.slice A2 n2 c2):=(zae.new w _ _ _).below ((Below.refl _ _).alloc (Nat.le_refl _) _) (by simp);have aG:zae ((w.alloc (.cells #[.bool true,.slice A1 n1 c1,.slice A2 n2 c2] 91)).alloc (.cells #[.bool false,.slice none 0 0,.slice none 0 0] 91)) (w.heap.size+1) false (.slice none 0 0) (.slice none 0 0):=by
   have h:=zae.new (w.alloc (.cells #[.bool true,.slice A1 n1 c1,.slice A2 n2 c2] 91)) false (.slice none 0 0) (.slice none 0 0)
   simpa using h
  generalize ((w.alloc (.cells #[.bool true,.slice A1 n1 c1,.slice A2 n2 c2] 91)).alloc (.cells #[.bool false,.slice none 0 0,.slice none 0 0] 91))=w3 at *;obtain⟨a0,a1,a2,_,_,_,al⟩:=aI.cells;have aD:Below w.heap.size w w3.drew:=aH.drew;have aA:zae w3.drew (w.heap.size+1) false (.slice none 0 0) (.slice none 0 0):=aG;have cl:w.heap.size+1<w3.drew.heap.size:=aA.cells.2.2.2.2.2.2;obtain⟨d0,d1,d2,f0,f1,f2,_⟩:=aA.cells;obtain⟨x0,x1,x2,y0,y1,y2,_⟩:=aG.cells
  go_region
  go_wp2_with fail
  have aF:=(zan aH (g:=w.heap.size+1) (by omega) (.bool false) (.slice A1 n1 c1) (.slice A2 n2 c2)).drew;refine bodyPost_ret (v := .agg #[.bool false,.slice A1 n1 c1,.slice A2 n2 c2]) (by simp[results,Tryz.results128,go_sem,x0,x1,x2]) rfl ⟨_,rfl,⟨A1,n1,c1,A2,n2,c2,by simp,?_,?_⟩,aF⟩
  ·show NatS _ (((w3.setCell _ _).setCell _ _).setCell _ _).heap.size _ _ _ _
   rw[zah];exact(h1.later aD).res aA _ _ _
  ·show NatS _ (((w3.setCell _ _).setCell _ _).setCell _ _).heap.size _ _ _ _
   rw[zah];exact(h2.later aD).res aA _ _ _
def zbb (q:Q):Q:=⟨q.neg,if q.neg=true∧q.top%q.bot≠0 then q.top/q.bot+1 else q.top/q.bot,1⟩
theorem zim(b:Bool)(x y:Nat)(A1 A2:Option Addr)(n1 c1 n2 c2:Nat)(w:World)(h1:NatS w w.heap.size A1 n1 c1 x)(h2:NatS w w.heap.size A2 n2 c2 y)(hy:0<y)(k1:n1≤268435456) :
  Calls Tryz.prog 100 #[.agg #[.bool b,.slice A1 n1 c1,.slice A2 n2 c2]] w (za3 w (zbb ⟨b,x,y⟩)):=by
 have aO:Below w.heap.size w ((w.alloc (.cells #[.bool b,.slice A1 n1 c1,.slice A2 n2 c2] 91)).alloc (.cells #[.bool false,.slice none 0 0,.slice none 0 0] 91)):=((Below.refl _ _).alloc (Nat.le_refl _) _).alloc (by simp) _;go_enter Tryz.func100,Tryz.ntmps100
 go_wp2_with fail
 refine(zcK A1 A2 n1 c1 n2 c2 x y _ (h1.later aO) (h2.later aO) hy (by omega)).mono ?_;rintro e w4 ⟨A5,m5,c5,A6,m6,c6,rfl,hq,hr,aQ⟩;have aM:Below w.heap.size w w4:=Ad aO aQ;have aN:=((zae.new w b (.slice A1 n1 c1) (.slice A2 n2 c2)).below ((Below.refl _ _).alloc (Nat.le_refl _) (.cells #[.bool false,.slice none 0 0,.slice none 0 0] 91)) (by simp)).below aQ (by simp;omega);have aJ:zae w4 (w.heap.size+1) false (.slice none 0 0) (.slice none 0 0):=by
  have h:=(zae.new (w.alloc (.cells #[.bool b,.slice A1 n1 c1,.slice A2 n2 c2] 91)) false (.slice none 0 0) (.slice none 0 0)).below aQ (by simp)
  simpa using h
 obtain⟨z0,z1,z2,_,_,_,zl⟩:=aN.cells;have aT:(digs (x/y)).length≤n1:=zab (Nat.lt_of_le_of_lt (Nat.div_le_self x y) (by have:=zad x;rw[h1.len] at this;exact this))
 cases b
 ·have aF:(zbb ⟨false,x,y⟩).top=x/y:=by simp[zbb]
  go_wp2_with fail
  have hW:=aM;have aH:=aN;have aG:=aJ;have aI:=hq;obtain⟨a0,a1,a2,_,_,_,al⟩:=aH.cells;have aC:zae w4.drew (w.heap.size+1) false (.slice none 0 0) (.slice none 0 0):=aG;have cl:w.heap.size+1<w4.drew.heap.size:=aC.cells.2.2.2.2.2.2
  go_region_held3 (fun w'=>w'.cell? ⟨w.heap.size,0,none⟩=some (.bool false)∧w'.cell? ⟨w.heap.size,1,none⟩=some (.slice A1 n1 c1)∧w'.cell? ⟨w.heap.size,2,none⟩=some (.slice A2 n2 c2))
   (first | exact⟨a0,a1,a2⟩ | exact⟨((aA.cell (p:=⟨w.heap.size,0,none⟩) al).trans a0),((aA.cell (p:=⟨w.heap.size,1,none⟩) al).trans a1),((aA.cell (p:=⟨w.heap.size,2,none⟩) al).trans a2)⟩ | exact⟨((far3 _ _ _ _ (by dsimp only;omega)).trans ((aA.cell (p:=⟨w.heap.size,0,none⟩) al).trans a0)),((far3 _ _ _ _ (by dsimp only;omega)).trans ((aA.cell (p:=⟨w.heap.size,1,none⟩) al).trans a1)),((far3 _ _ _ _ (by dsimp only;omega)).trans ((aA.cell (p:=⟨w.heap.size,2,none⟩) al).trans a2))⟩)
   (first | (go_at_call 110;refine(zai 1 w4.drew (by omega) (by omega)).mono ?_;rintro e w8 ⟨A8,m8,c8,rfl,aK,aA⟩;have hk:=aC.below aA cl;obtain⟨e0,e1,e2,g0,g1,g2,gl⟩:=hk.cells))
  go_wp2_with fail
  have aD:Below w.heap.size w w8:=hW.drew.trans (aA.mono hW.size);have aE:=zan aD (g:=w.heap.size+1) (by omega) (.bool false) (.slice A5 m5 c5) (.slice A8 m8 c8);refine bodyPost_ret (v := .agg #[.bool false,.slice A5 m5 c5,.slice A8 m8 c8]) (by simp[results,Tryz.results100,go_sem,e0,e1,e2]) rfl ⟨_,rfl,⟨A5,m5,c5,A8,m8,c8,by rfl,?_,?_⟩,aE⟩
  ·rw[zah,aF];exact(aI.later (Below.drew (Below.refl _ _) |>.trans aA)).res hk _ _ _
  ·rw[zah];exact aK.res hk _ _ _
 ·go_wp2_with fail
  refine(zaO A6 m6 c6 (x%y) _ hr).mono ?_;rintro e w5 ⟨rfl,rfl⟩
  by_cases h0:x%y=0
  ·have aF:(zbb ⟨true,x,y⟩).top=x/y:=by simp[zbb,h0]
   have hd:decide (x%y=0)=true:=by simpa using h0
   rw[hd]
   go_wp2_with fail
   have hW:=aM;have aH:=aN;have aG:=aJ;have aI:=hq;obtain⟨a0,a1,a2,_,_,_,al⟩:=aH.cells;have aC:zae w4.drew (w.heap.size+1) false (.slice none 0 0) (.slice none 0 0):=aG;have cl:w.heap.size+1<w4.drew.heap.size:=aC.cells.2.2.2.2.2.2
   go_region_held3 (fun w'=>w'.cell? ⟨w.heap.size,0,none⟩=some (.bool true)∧w'.cell? ⟨w.heap.size,1,none⟩=some (.slice A1 n1 c1)∧w'.cell? ⟨w.heap.size,2,none⟩=some (.slice A2 n2 c2))
    (first | exact⟨a0,a1,a2⟩ | exact⟨((aA.cell (p:=⟨w.heap.size,0,none⟩) al).trans a0),((aA.cell (p:=⟨w.heap.size,1,none⟩) al).trans a1),((aA.cell (p:=⟨w.heap.size,2,none⟩) al).trans a2)⟩ | exact⟨((far3 _ _ _ _ (by dsimp only;omega)).trans ((aA.cell (p:=⟨w.heap.size,0,none⟩) al).trans a0)),((far3 _ _ _ _ (by dsimp only;omega)).trans ((aA.cell (p:=⟨w.heap.size,1,none⟩) al).trans a1)),((far3 _ _ _ _ (by dsimp only;omega)).trans ((aA.cell (p:=⟨w.heap.size,2,none⟩) al).trans a2))⟩)
    (first | (go_at_call 110;refine(zai 1 w4.drew (by omega) (by omega)).mono ?_;rintro e w8 ⟨A8,m8,c8,rfl,aK,aA⟩;have hk:=aC.below aA cl;obtain⟨e0,e1,e2,g0,g1,g2,gl⟩:=hk.cells))
   go_wp2_with fail
   have aD:Below w.heap.size w w8:=hW.drew.trans (aA.mono hW.size);have aE:=zan aD (g:=w.heap.size+1) (by omega) (.bool true) (.slice A5 m5 c5) (.slice A8 m8 c8);refine bodyPost_ret (v := .agg #[.bool true,.slice A5 m5 c5,.slice A8 m8 c8]) (by simp[results,Tryz.results100,go_sem,e0,e1,e2]) rfl ⟨_,rfl,⟨A5,m5,c5,A8,m8,c8,by rfl,?_,?_⟩,aE⟩
   ·rw[zah,aF];exact(aI.later (Below.drew (Below.refl _ _) |>.trans aA)).res hk _ _ _
   ·rw[zah];exact aK.res hk _ _ _
  ·have aF:(zbb ⟨true,x,y⟩).top=x/y+1:=by simp[zbb,h0]
   have hd:decide (x%y=0)=false:=by simpa using h0
   rw[hd]
   go_wp2_with fail
   refine(zai 1 _ (by omega) (by omega)).mono ?_;rintro e w6 ⟨A9,m9,c9,rfl,aR,aL⟩
   go_wp2_with fail
   refine(zcq A5 A9 m5 c5 m9 c9 _ _ _ (hq.later aL) aR (by have:=hq.len;omega) (by have:=aR.len;have h3:(digs (Int.toNat 1)).length≤1:=zab (by decide);omega)).mono ?_;rintro e w7 ⟨A7,m7,c7,rfl,aS,aP⟩
   go_wp2_with fail
   have s4:=aM.size;have s9:=aL.size;have hW:Below w.heap.size w w7:=(aM.trans (aL.mono s4)).trans (aP.mono (by omega));have aH:=(aN.below aL zl).below aP (by omega);have aG:=(aJ.below aL aJ.cells.2.2.2.2.2.2).below aP (by have:=aJ.cells.2.2.2.2.2.2;omega);have aI:=aS;obtain⟨a0,a1,a2,_,_,_,al⟩:=aH.cells;have aC:zae w7.drew (w.heap.size+1) false (.slice none 0 0) (.slice none 0 0):=aG;have cl:w.heap.size+1<w7.drew.heap.size:=aC.cells.2.2.2.2.2.2
   go_region_held3 (fun w'=>w'.cell? ⟨w.heap.size,0,none⟩=some (.bool true)∧w'.cell? ⟨w.heap.size,1,none⟩=some (.slice A1 n1 c1)∧w'.cell? ⟨w.heap.size,2,none⟩=some (.slice A2 n2 c2))
    (first | exact⟨a0,a1,a2⟩ | exact⟨((aA.cell (p:=⟨w.heap.size,0,none⟩) al).trans a0),((aA.cell (p:=⟨w.heap.size,1,none⟩) al).trans a1),((aA.cell (p:=⟨w.heap.size,2,none⟩) al).trans a2)⟩ | exact⟨((far3 _ _ _ _ (by dsimp only;omega)).trans ((aA.cell (p:=⟨w.heap.size,0,none⟩) al).trans a0)),((far3 _ _ _ _ (by dsimp only;omega)).trans ((aA.cell (p:=⟨w.heap.size,1,none⟩) al).trans a1)),((far3 _ _ _ _ (by dsimp only;omega)).trans ((aA.cell (p:=⟨w.heap.size,2,none⟩) al).trans a2))⟩)
    (first | (go_at_call 110;refine(zai 1 w7.drew (by omega) (by omega)).mono ?_;rintro e w8 ⟨A8,m8,c8,rfl,aK,aA⟩;have hk:=aC.below aA cl;obtain⟨e0,e1,e2,g0,g1,g2,gl⟩:=hk.cells))
   go_wp2_with fail
   have aD:Below w.heap.size w w8:=hW.drew.trans (aA.mono hW.size);have aE:=zan aD (g:=w.heap.size+1) (by omega) (.bool true) (.slice A7 m7 c7) (.slice A8 m8 c8);refine bodyPost_ret (v := .agg #[.bool true,.slice A7 m7 c7,.slice A8 m8 c8]) (by simp[results,Tryz.results100,go_sem,e0,e1,e2]) rfl ⟨_,rfl,⟨A7,m7,c7,A8,m8,c8,by rfl,?_,?_⟩,aE⟩
   ·rw[zah,aF];exact(aI.later (Below.drew (Below.refl _ _) |>.trans aA)).res hk _ _ _
   ·rw[zah];exact aK.res hk _ _ _
def LenQ (q:Q) (K:Nat):Prop:=(digs q.top).length≤K∧(digs q.bot).length≤K
theorem LenQ.mono{q:Q}{K L:Nat}(h:LenQ q K)(hl:K≤L):LenQ q L:=⟨Nat.le_trans h.1 hl,Nat.le_trans h.2 hl⟩
theorem RatS.later {w w':World} {v:Value} {q:Q} (h:RatS w w.heap.size v q) (hb:Below w.heap.size w w'):RatS w' w'.heap.size v q:=by
 obtain⟨A,n,c,A',n',c',rfl,h1,h2⟩:=h;exact⟨A,n,c,A',n',c',rfl,h1.later hb,h2.later hb⟩
theorem zbD:(digs 1).length≤1:=zab (by decide)
theorem zdZ{b:Bool}{x y K:Nat}(hx:(digs x).length≤K)(hy:(digs y).length≤K)(hK:1≤K):LenQ (lowQ b x y) K:=by
 unfold lowQ
 split
 ·exact⟨by show(digs 0).length≤K;rw[zam];exact Nat.zero_le _,by show(digs 0).length≤K;rw[zam];exact Nat.zero_le _⟩
 ·split
  ·exact⟨by show(digs 0).length≤K;rw[zam];exact Nat.zero_le _,Nat.le_trans zbD hK⟩
  ·exact⟨Nat.le_trans (zaa (Nat.div_le_self _ _)) hx,Nat.le_trans (zaa (Nat.div_le_self _ _)) hy⟩
def zbH (q:Q):Q:=⟨!q.neg && !decide (q.top=0),q.top,q.bot⟩
def zaU (p q:Q):Q:=zb0 p (zbH q)
theorem zbJ{q:Q}{K:Nat}(h:LenQ q K):LenQ (zbH q) K:=h
theorem zbv {p q:Q} {K L:Nat} (b:Bool) (hp:LenQ p K) (hq:LenQ q L) (h1:1≤K+L):LenQ (lowQ b (p.top*q.top) (p.bot*q.bot)) (K+L):=
 zdZ (zaB hp.1 hq.1) (zaB hp.2 hq.2) h1
theorem zbz {p q:Q} {K L:Nat} (b:Bool) (hp:LenQ p K) (hq:LenQ q L) (h1:1≤K+L):LenQ (lowQ b (p.top*q.bot) (p.bot*q.top)) (K+L):=
 zdZ (zaB hp.1 hq.2) (zaB hp.2 hq.1) h1
theorem za9 {p q:Q} {K L:Nat} (hp:LenQ p K) (hq:LenQ q L):LenQ (zb0 p q) (K+L+K+L+1):=by
 have hb:(digs (p.bot*q.bot)).length≤K+L:=zaB hp.2 hq.2;have h1:(digs (p.top*q.bot)).length≤K+L:=zaB hp.1 hq.2;have h2:(digs (q.top*p.bot)).length≤L+K:=zaB hq.1 hp.2;have h3:=zdp h1 h2;have h4:=zdF (p.top*q.bot) (q.top*p.bot);have h5:=zdF (q.top*p.bot) (p.top*q.bot);unfold zb0
 split
 ·exact zdZ (by omega) (by omega) (by omega)
 ·split
  ·exact zdZ (by omega) (by omega) (by omega)
  ·exact zdZ (by omega) (by omega) (by omega)
theorem zgV(p q:Q)(v u:Value)(w:World)(hT:Tabs w)(hv:RatS w w.heap.size v p)(hu:RatS w w.heap.size u q)(hp:LenQ p 134217728)(hq:LenQ q 134217728) :
  Calls Tryz.prog 64 #[v,u] w (za3 w (zb0 p q)):=by
 obtain⟨A1,n1,c1,A2,n2,c2,rfl,h1,h2⟩:=hv;obtain⟨A3,n3,c3,A4,n4,c4,rfl,h3,h4⟩:=hu;exact ziT p q A1 A2 A3 A4 n1 c1 n2 c2 n3 c3 n4 c4 w hT h1 h2 h3 h4 (by rw[←h1.len];exact hp.1) (by rw[←h2.len];exact hp.2) (by rw[←h3.len];exact hq.1) (by rw[←h4.len];exact hq.2)
theorem zep(p q:Q)(v u:Value)(w:World)(hT:Tabs w)(hv:RatS w w.heap.size v p)(hu:RatS w w.heap.size u q)(hp:LenQ p 268435456)(hq:LenQ q 268435456) :
  Calls Tryz.prog 67 #[v,u] w (za3 w (lowQ (p.neg != q.neg) (p.top*q.top) (p.bot*q.bot))):=by
 obtain⟨A1,n1,c1,A2,n2,c2,rfl,h1,h2⟩:=hv;obtain⟨A3,n3,c3,A4,n4,c4,rfl,h3,h4⟩:=hu;exact zig p q A1 A2 A3 A4 n1 c1 n2 c2 n3 c3 n4 c4 w hT h1 h2 h3 h4 (by rw[←h1.len];exact hp.1) (by rw[←h2.len];exact hp.2) (by rw[←h3.len];exact hq.1) (by rw[←h4.len];exact hq.2)
theorem zeQ(p q:Q)(v u:Value)(w:World)(hT:Tabs w)(hv:RatS w w.heap.size v p)(hu:RatS w w.heap.size u q)(hp:LenQ p 268435456)(hq:LenQ q 268435456) :
  Calls Tryz.prog 68 #[v,u] w (za3 w (lowQ (p.neg != q.neg) (p.top*q.bot) (p.bot*q.top))):=by
 obtain⟨A1,n1,c1,A2,n2,c2,rfl,h1,h2⟩:=hv;obtain⟨A3,n3,c3,A4,n4,c4,rfl,h3,h4⟩:=hu;exact ziY p q A1 A2 A3 A4 n1 c1 n2 c2 n3 c3 n4 c4 w hT h1 h2 h3 h4 (by rw[←h1.len];exact hp.1) (by rw[←h2.len];exact hp.2) (by rw[←h3.len];exact hq.1) (by rw[←h4.len];exact hq.2)
theorem zbq(p q:Q)(v u:Value)(w:World)(hv:RatS w w.heap.size v p)(hu:RatS w w.heap.size u q)(hp:LenQ p 268435456)(hq:LenQ q 268435456) :
  Calls Tryz.prog 70 #[v,u] w fun e w'=>e = .returned (.int .i64 (rcmp p q))∧Below w.heap.size w w':=by
 obtain⟨A1,n1,c1,A2,n2,c2,rfl,h1,h2⟩:=hv;obtain⟨A3,n3,c3,A4,n4,c4,rfl,h3,h4⟩:=hu;exact zgl p q A1 A2 A3 A4 n1 c1 n2 c2 n3 c3 n4 c4 w h1 h2 h3 h4 (by rw[←h1.len];exact hp.1) (by rw[←h2.len];exact hp.2) (by rw[←h3.len];exact hq.1) (by rw[←h4.len];exact hq.2)
theorem zlQ(p:Q)(v:Value)(w:World)(hv:RatS w w.heap.size v p) :
  Calls Tryz.prog 128 #[v] w (za3 w (zbH p)):=by
 obtain⟨A1,n1,c1,A2,n2,c2,rfl,h1,h2⟩:=hv;exact zgq p.neg p.top p.bot A1 A2 n1 c1 n2 c2 w h1 h2
theorem ziP(p:Q)(v:Value)(w:World)(hv:RatS w w.heap.size v p) :
  Calls Tryz.prog 104 #[v] w fun e w'=>e = .returned (.bool (decide (p.top=0)))∧Below w.heap.size w w':=by
 obtain⟨A1,n1,c1,A2,n2,c2,rfl,h1,h2⟩:=hv;exact zcp p.neg p.top A1 A2 n1 c1 n2 c2 w h1
theorem zju(p:Q)(v:Value)(w:World)(hv:RatS w w.heap.size v p)(hy:0<p.bot)(hp:LenQ p 268435456) :
  Calls Tryz.prog 100 #[v] w (za3 w (zbb p)):=by
 obtain⟨A1,n1,c1,A2,n2,c2,rfl,h1,h2⟩:=hv;exact zim p.neg p.top p.bot A1 A2 n1 c1 n2 c2 w h1 h2 hy (by rw[←h1.len];exact hp.1)
theorem zcc(p:Q)(v:Value)(w:World)(hT:Tabs w)(hv:RatS w w.heap.size v p)(hp:LenQ p 268435456) :
  Calls Tryz.prog 65 #[v] w (zb5 w (zbx p) (zaC p)):=by
 obtain⟨A1,n1,c1,A2,n2,c2,rfl,h1,h2⟩:=hv;exact zfF p A1 A2 n1 c1 n2 c2 w hT h1 h2 (by rw[←h1.len];exact hp.1) (by rw[←h2.len];exact hp.2)
theorem zpB(a b:Int)(w:World)(hT:Tabs w)(ha : -9223372036854775808≤a∧a<9223372036854775808)(hb : -9223372036854775808≤b∧b<9223372036854775808) :
  Calls Tryz.prog 51 #[.int .i64 a,.int .i64 b] w (zb5 w (zbx (lowQ (decide (a<0) != decide (b<0)) (a.natAbs*1) (1*b.natAbs))) (zaC (lowQ (decide (a<0) != decide (b<0)) (a.natAbs*1) (1*b.natAbs)))):=by
 have la:LenQ ⟨decide (a<0),a.natAbs,1⟩ 2:=⟨zab (by have e:B^2=340282366920938463463374607431768211456:=(by decide);rw[e];show a.natAbs<_;omega),Nat.le_trans zbD (by omega)⟩;have lb:LenQ ⟨decide (b<0),b.natAbs,1⟩ 2:=⟨zab (by have e:B^2=340282366920938463463374607431768211456:=(by decide);rw[e];show b.natAbs<_;omega),Nat.le_trans zbD (by omega)⟩;have HA:=Aa (zcG a w ha.1 ha.2);have HB:=Aa (fun W=>zcG b W hb.1 hb.2);have lo:=zbz (decide (a<0) != decide (b<0)) la lb (by omega);have HO:=Aa (fun v u W h1 h2 h3=>zeQ ⟨decide (a<0),a.natAbs,1⟩ ⟨decide (b<0),b.natAbs,1⟩ v u W h1 h2 h3 (la.mono (by omega)) (lb.mono (by omega)))
 dsimp only at lo HO
 generalize lowQ (decide (a<0) != decide (b<0)) (a.natAbs*1) (1*b.natAbs)=q at *;clear la lb;go_enter Tryz.func51,Tryz.ntmps51
 go_wp2_with fail
 refine HA.out.mono ?_;rintro e w1 ⟨v1,rfl,h1,aE⟩
 go_wp2_with fail
 refine(HB.out w1).mono ?_;rintro e w2 ⟨v2,rfl,h2,aD⟩;have aA:=Ad aE aD
 go_wp2_with fail
 refine(HO.out v1 v2 w2 (hT.later aA) (h1.later aD) h2).mono ?_;rintro e w3 ⟨v3,rfl,h3,aG⟩;have aC:=Ad aA aG
 go_wp2_with fail
 refine(zcc q v3 w3 (hT.later aC) h3 (lo.mono (by omega))).mono ?_;rintro e w4 ⟨s,rfl,hs,aF⟩;go_wp2
 go_ret2
 exact⟨s,rfl,hs,aC.trans (aF.mono aC.size)⟩
theorem zm4(s:ByteArray)(w:World)(hT:Tabs w)(hs:s.size≤4294967296)(hx:zap s.data.toList=0) :
  Calls Tryz.prog 52 #[.string s] w (zb5 w (zbx (zbb (zaf s.data.toList))) (zaC (zbb (zaf s.data.toList)))):=by
 have hr:=zcf s w hT hs;have aA:=@zaD s.data.toList hx;have aI:=zeG hx;rw[hx] at hr;generalize zaf s.data.toList=p at *;have lf:LenQ (zbb p) 602:=by
  refine⟨?_,Nat.le_trans zbD (by omega)⟩;unfold zbb
  dsimp only
  have h1:(digs (p.top/p.bot)).length≤600:=Nat.le_trans (zaa (Nat.div_le_self _ _)) aA.1
  split
  ·have:=zdp h1 (y:=1) (b:=0+1) (by exact zbD)
   refine Nat.le_trans (zdp h1 zbD) ?_;omega
  ·omega
 have HR:=Aa hr;clear hr hx;go_enter Tryz.func52,Tryz.ntmps52
 go_wp2_with fail
 refine HR.out.mono ?_;rintro e w1 ⟨v,rfl,⟨A1,n1,c1,A2,n2,c2,rfl,h1,h2⟩,aF⟩;have hv:RatS w1 w1.heap.size (.agg #[.bool p.neg,.slice A1 n1 c1,.slice A2 n2 c2]) p:=⟨A1,n1,c1,A2,n2,c2,rfl,h1,h2⟩;have aD:Below w1.heap.size w1 (w1.alloc (.cells #[.bool p.neg,.slice A1 n1 c1,.slice A2 n2 c2] 91)):=Ac;have aE:=Ad aF aD
 go_wp2_with fail
 refine(zju p _ _ (hv.later aD) aI ⟨by have:=aA.1;omega,by have:=aA.2;omega⟩).mono ?_;rintro e w2 ⟨v2,rfl,h2,aG⟩;have aC:=Ad aE aG
 go_wp2_with fail
 refine(zcc (zbb p) v2 w2 (hT.later aC) h2 (lf.mono (by omega))).mono ?_;rintro e w3 ⟨t,rfl,ht,aH⟩;go_wp2
 go_ret2
 exact⟨t,rfl,ht,aC.trans (aH.mono aC.size)⟩
def zds (cs:Array Value):Prop:=∀ (i:Nat) (v:Value),cs[i]? = some v→∀ (k:IntKind) (d:Int),v ≠ .int k d
theorem zds.set{cs:Array Value}(h:zds cs)(i:Nat){u:Value}(hu:∀ (k:IntKind) (d:Int),u ≠ .int k d):zds (cs.setIfInBounds i u):=by
 intro j v hv;rw[Array.getElem?_setIfInBounds] at hv
 split at hv
 ·split at hv
  ·injection hv with hv;subst hv;exact hu
  ·cases hv
 ·exact h j v hv
theorem NatS.store{w:World}{B n c x g i:Nat}{A:Option Addr}{cs:Array Value}{t:TypeId}(h:NatS w B A n c x)(hk:CBlk w g cs t)(hn:zds cs)(u:Value):NatS (w.setCell ⟨g,i,none⟩ u) B A n c x:=by
 refine⟨⟨h.words.1,fun h0 => ?_⟩,h.nc,h.cm⟩;obtain⟨ad,e,hb,hc⟩:=h.words.2 h0;refine⟨ad,e,hb,fun j z hz => ?_⟩;have aA:=hc j z hz;have aC:∃ d:Nat,z = .int .u64 (d:Int):=by
  rw[List.getElem?_map] at hz
  cases hd:(digs x)[j]? with
  | none=>rw[hd] at hz;cases hz
  | some d=>rw[hd] at hz;injection hz with hz;exact⟨d,hz.symm⟩
 obtain⟨d,rfl⟩:=aC;rw[World.cell?_setCell_other _ _ _ _ (fun e0=>by
  rw[←e0,hk.cell i] at aA;exact hn i _ aA _ _ rfl)]
 exact aA
theorem CBlk.alloc{w:World}{g:Nat}{c:Array Value}{t:TypeId}(h:CBlk w g c t)(o:Obj):CBlk (w.alloc o) g c t:=h.below ((Below.refl _ _).alloc (Nat.le_refl _) o) h.lt
theorem CBlk.drew {w:World} {g:Nat} {c:Array Value} {t:TypeId} (h:CBlk w g c t):CBlk w.drew g c t:=h
theorem CBlk.set {w:World} {g:Nat} {c:Array Value} {t:TypeId} (h:CBlk w g c t) (i:Nat) (u:Value):CBlk (w.setCell ⟨g,i,none⟩ u) g (c.setIfInBounds i u) t:=heap_setCell_same w g i c t u h
def set6 (w:World) (g:Nat) (a b c d e f:Value):World:=
 (((((w.setCell ⟨g,0,none⟩ a).setCell ⟨g,1,none⟩ b).setCell ⟨g,2,none⟩ c).setCell ⟨g,3,none⟩ d).setCell ⟨g,4,none⟩ e).setCell ⟨g,5,none⟩ f
theorem zeD (w:World) (g:Nat) (a b c d e f:Value):(set6 w g a b c d e f).heap.size=w.heap.size:=by simp[set6,World.setCell]
theorem zpp{a w:World}{B g:Nat}(h:Below B a w)(hg:B≤g)(u1 u2 u3 u4 u5 u6:Value):Below B a (set6 w g u1 u2 u3 u4 u5 u6):=
 (((((h.setCell (p:=⟨g,0,none⟩) hg _).setCell (p:=⟨g,1,none⟩) hg _).setCell (p:=⟨g,2,none⟩) hg _).setCell (p:=⟨g,3,none⟩) hg _).setCell (p:=⟨g,4,none⟩) hg _).setCell (p:=⟨g,5,none⟩) hg _
theorem zbf (b b':Bool) (A1 A2 A3 A4:Option Addr) (n1 c1 n2 c2 n3 c3 n4 c4:Nat):zds #[.bool b,.slice A1 n1 c1,.slice A2 n2 c2,.bool b',.slice A3 n3 c3,.slice A4 n4 c4]:=by
 intro i v hv k d
 rcases (show i=0∨i=1∨i=2∨i=3∨i=4∨i=5∨6≤i from by omega) with rfl | rfl | rfl | rfl | rfl | rfl | h
 ·injection hv with hv;subst hv;intro h;cases h
 ·injection hv with hv;subst hv;intro h;cases h
 ·injection hv with hv;subst hv;intro h;cases h
 ·injection hv with hv;subst hv;intro h;cases h
 ·injection hv with hv;subst hv;intro h;cases h
 ·injection hv with hv;subst hv;intro h;cases h
 ·rw[Array.getElem?_eq_none h] at hv;cases hv
theorem zfS(b:Bool)(A1 A2:Option Addr)(n1 c1 n2 c2:Nat):zds #[.bool b,.slice A1 n1 c1,.slice A2 n2 c2]:=by
 intro i v hv k d
 rcases (show i=0∨i=1∨i=2∨3≤i from by omega) with rfl | rfl | rfl | h
 ·injection hv with hv;subst hv;intro h;cases h
 ·injection hv with hv;subst hv;intro h;cases h
 ·injection hv with hv;subst hv;intro h;cases h
 ·rw[Array.getElem?_eq_none h] at hv;cases hv
theorem NatS.set6{w:World}{B n c x g:Nat}{A:Option Addr}{b0 b0':Bool}{a1 a2 a3 a4:Option Addr}{m1 d1 m2 d2 m3 d3 m4 d4:Nat}{t:TypeId}(h:NatS w B A n c x)
 (hk:CBlk w g #[.bool b0,.slice a1 m1 d1,.slice a2 m2 d2,.bool b0',.slice a3 m3 d3,.slice a4 m4 d4] t)
 (b b':Bool)(A1 A2 A3 A4:Option Addr)(n1 c1 n2 c2 n3 c3 n4 c4:Nat) :
  NatS (set6 w g (.bool b) (.slice A1 n1 c1) (.slice A2 n2 c2) (.bool b') (.slice A3 n3 c3) (.slice A4 n4 c4)) B A n c x:=by
 unfold Go.Proofs.YtmkondcdejlhcaaGreatDoor.set6;have k0:=hk;have k1:CBlk _ g #[.bool b,.slice a1 m1 d1,.slice a2 m2 d2,.bool b0',.slice a3 m3 d3,.slice a4 m4 d4] t:=k0.set 0 (.bool b);have k2:CBlk _ g #[.bool b,.slice A1 n1 c1,.slice a2 m2 d2,.bool b0',.slice a3 m3 d3,.slice a4 m4 d4] t:=k1.set 1 (.slice A1 n1 c1);have k3:CBlk _ g #[.bool b,.slice A1 n1 c1,.slice A2 n2 c2,.bool b0',.slice a3 m3 d3,.slice a4 m4 d4] t:=k2.set 2 (.slice A2 n2 c2);have k4:CBlk _ g #[.bool b,.slice A1 n1 c1,.slice A2 n2 c2,.bool b',.slice a3 m3 d3,.slice a4 m4 d4] t:=k3.set 3 (.bool b');have k5:CBlk _ g #[.bool b,.slice A1 n1 c1,.slice A2 n2 c2,.bool b',.slice A3 n3 c3,.slice a4 m4 d4] t:=k4.set 4 (.slice A3 n3 c3);exact(((((h.store k0 (zbf _ _ _ _ _ _ _ _ _ _ _ _ _ _) _).store k1 (zbf _ _ _ _ _ _ _ _ _ _ _ _ _ _) _).store k2 (zbf _ _ _ _ _ _ _ _ _ _ _ _ _ _) _).store k3 (zbf _ _ _ _ _ _ _ _ _ _ _ _ _ _) _).store k4 (zbf _ _ _ _ _ _ _ _ _ _ _ _ _ _) _).store k5 (zbf _ _ _ _ _ _ _ _ _ _ _ _ _ _) _
theorem CBlk.set6{w:World}{g:Nat}{u1 u2 u3 u4 u5 u6:Value}{t:TypeId}(hk:CBlk w g #[u1,u2,u3,u4,u5,u6] t)(v1 v2 v3 v4 v5 v6:Value):CBlk (set6 w g v1 v2 v3 v4 v5 v6) g #[v1,v2,v3,v4,v5,v6] t:=by
 unfold Go.Proofs.YtmkondcdejlhcaaGreatDoor.set6;exact(((((hk.set 0 v1).set 1 v2).set 2 v3).set 3 v4).set 4 v5).set 5 v6
def ItvS (w:World) (B:Nat) (v:Value) (p q:Q):Prop:=
 ∃ A1 n1 c1 A2 n2 c2 A3 n3 c3 A4 n4 c4,v = .agg #[.bool p.neg,.slice A1 n1 c1,.slice A2 n2 c2,.bool q.neg,.slice A3 n3 c3,.slice A4 n4 c4]∧NatS w B A1 n1 c1 p.top∧NatS w B A2 n2 c2 p.bot∧NatS w B A3 n3 c3 q.top∧NatS w B A4 n4 c4 q.bot
theorem ItvS.later{w w':World}{v:Value}{p q:Q}(h:ItvS w w.heap.size v p q)(hb:Below w.heap.size w w'):ItvS w' w'.heap.size v p q:=by
 obtain⟨A1,n1,c1,A2,n2,c2,A3,n3,c3,A4,n4,c4,rfl,h1,h2,h3,h4⟩:=h;exact⟨A1,n1,c1,A2,n2,c2,A3,n3,c3,A4,n4,c4,rfl,h1.later hb,h2.later hb,h3.later hb,h4.later hb⟩
def zb3 (w:World) (p q:Q) (e:Ending) (w':World):Prop:=∃ v,e = .returned v∧ItvS w' w'.heap.size v p q∧Below w.heap.size w w'
def zb6:Q:=⟨false,0,0⟩
theorem zbS{w W:World}{B g:Nat}{p q:Q}{v:Value}{b0 b0':Bool}{a1 a2 a3 a4:Option Addr}{m1 d1 m2 d2 m3 d3 m4 d4:Nat}{t:TypeId}{A1 A2 A3 A4:Option Addr}{n1 c1 n2 c2 n3 c3 n4 c4:Nat}
 (hk:CBlk W g #[.bool b0,.slice a1 m1 d1,.slice a2 m2 d2,.bool b0',.slice a3 m3 d3,.slice a4 m4 d4] t)(hB:Below B w W)(hg:B≤g)
 (hv:v = .agg #[.bool p.neg,.slice A1 n1 c1,.slice A2 n2 c2,.bool q.neg,.slice A3 n3 c3,.slice A4 n4 c4])
 (h1:NatS W W.heap.size A1 n1 c1 p.top)(h2:NatS W W.heap.size A2 n2 c2 p.bot)(h3:NatS W W.heap.size A3 n3 c3 q.top)(h4:NatS W W.heap.size A4 n4 c4 q.bot) :
  ItvS (set6 W g (.bool p.neg) (.slice A1 n1 c1) (.slice A2 n2 c2) (.bool q.neg) (.slice A3 n3 c3) (.slice A4 n4 c4)) (set6 W g (.bool p.neg) (.slice A1 n1 c1) (.slice A2 n2 c2) (.bool q.neg) (.slice A3 n3 c3) (.slice A4 n4 c4)).heap.size v p q∧Below B w (set6 W g (.bool p.neg) (.slice A1 n1 c1) (.slice A2 n2 c2) (.bool q.neg) (.slice A3 n3 c3) (.slice A4 n4 c4)):=by
 refine⟨⟨A1,n1,c1,A2,n2,c2,A3,n3,c3,A4,n4,c4,hv,?_,?_,?_,?_⟩,zpp hB hg _ _ _ _ _ _⟩
 ·rw[zeD];exact h1.set6 hk _ _ _ _ _ _ _ _ _ _ _ _ _ _
 ·rw[zeD];exact h2.set6 hk _ _ _ _ _ _ _ _ _ _ _ _ _ _
 ·rw[zeD];exact h3.set6 hk _ _ _ _ _ _ _ _ _ _ _ _ _ _
 ·rw[zeD];exact h4.set6 hk _ _ _ _ _ _ _ _ _ _ _ _ _ _
theorem zkR(p:Q)(v:Value)(w:World)(hv:RatS w w.heap.size v p) :
  Calls Tryz.prog 141 #[v] w (zb3 w p p):=by
 obtain⟨A1,n1,c1,A2,n2,c2,rfl,h1,h2⟩:=hv;have aC:Below w.heap.size w (w.alloc (.cells #[.bool p.neg,.slice A1 n1 c1,.slice A2 n2 c2] 91)):=Ac;have aA:Below w.heap.size w ((w.alloc (.cells #[.bool p.neg,.slice A1 n1 c1,.slice A2 n2 c2] 91)).alloc (.cells #[.bool false,.slice none 0 0,.slice none 0 0,.bool false,.slice none 0 0,.slice none 0 0] 107)):=aC.alloc (by simp) _;have q0:CBlk ((w.alloc (.cells #[.bool p.neg,.slice A1 n1 c1,.slice A2 n2 c2] 91)).alloc (.cells #[.bool false,.slice none 0 0,.slice none 0 0,.bool false,.slice none 0 0,.slice none 0 0] 107)) w.heap.size #[.bool p.neg,.slice A1 n1 c1,.slice A2 n2 c2] 91:=(CBlk.new w _ _ _ rfl).below ((Below.refl _ _).alloc (Nat.le_refl _) _) (by simp);have q1:CBlk ((w.alloc (.cells #[.bool p.neg,.slice A1 n1 c1,.slice A2 n2 c2] 91)).alloc (.cells #[.bool false,.slice none 0 0,.slice none 0 0,.bool false,.slice none 0 0,.slice none 0 0] 107)) (w.heap.size+1) #[.bool false,.slice none 0 0,.slice none 0 0,.bool false,.slice none 0 0,.slice none 0 0] 107:=CBlk.new _ _ _ _ (by simp);go_enter Tryz.func141,Tryz.ntmps141
 go_upto_region 1 with(fail)
 generalize ((w.alloc (.cells #[.bool p.neg,.slice A1 n1 c1,.slice A2 n2 c2] 91)).alloc (.cells #[.bool false,.slice none 0 0,.slice none 0 0,.bool false,.slice none 0 0,.slice none 0 0] 107))=W at *;have x0:=q0.cell 0;have x1:=q0.cell 1;have x2:=q0.cell 2;have y0:=q1.cell 0;have y1:=q1.cell 1;have y2:=q1.cell 2;have y3:=q1.cell 3;have y4:=q1.cell 4;have y5:=q1.cell 5;have z0:=q1.frozen 0;have z1:=q1.frozen 1;have z2:=q1.frozen 2;have z3:=q1.frozen 3;have z4:=q1.frozen 4;have z5:=q1.frozen 5;have hI:=zbS (p:=p) (q:=p) q1 aA (by omega) rfl (h1.later aA) (h2.later aA) (h1.later aA) (h2.later aA);have hD:=q1.set6 (.bool p.neg) (.slice A1 n1 c1) (.slice A2 n2 c2) (.bool p.neg) (.slice A1 n1 c1) (.slice A2 n2 c2);unfold Go.Proofs.YtmkondcdejlhcaaGreatDoor.set6 at hI hD;have r0:=hD.cell 0;have r1:=hD.cell 1;have r2:=hD.cell 2;have r3:=hD.cell 3;have r4:=hD.cell 4;have r5:=hD.cell 5;have HI:=Aa hI;clear hI hD aC aA h1 h2 q0 q1;go_wp2
 refine bodyPost_ret (v := .agg #[.bool p.neg,.slice A1 n1 c1,.slice A2 n2 c2,.bool p.neg,.slice A1 n1 c1,.slice A2 n2 c2]) (by simp[results,Tryz.results141,go_sem,y0,y1,y2,y3,y4,y5]) rfl ⟨_,rfl,HI.out⟩
end Go.Proofs.YtmkondcdejlhcaaGreatDoor
