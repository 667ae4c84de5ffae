/- Contracts of package number: minus of two numbers; negated, plus and minus of spans. -/
import Derived.Test.YteajibbphcfmeaaGreatDoorVSp0
import Derived.Deep.RegionHeld3
namespace Go.Proofs.YteajibbphcfmeaaGreatDoor
open Go.RowKit Bn
theorem znF {g:Nat} (w:World) (u v:Value) {q:Addr} (h:g≠q.block):((w.setCell ⟨g,0,none⟩ u).setCell ⟨g,1,none⟩ v).cell? q=w.cell? q:=by
 rw [World.cell?_setCell_far _ _ _ _ (by exact h),World.cell?_setCell_far _ _ _ _ (by exact h)]
theorem zbB {g:Nat} (w:World) (u1 u2 u3 u4 u5 u6:Value) {q:Addr} (h:g≠q.block):((((((w.setCell ⟨g,0,none⟩ u1).setCell ⟨g,1,none⟩ u2).setCell ⟨g,2,none⟩ u3).setCell ⟨g,3,none⟩ u4).setCell ⟨g,4,none⟩ u5).setCell ⟨g,5,none⟩ u6).cell? q=w.cell? q:=by
 rw [World.cell?_setCell_far _ _ _ _ (by exact h),World.cell?_setCell_far _ _ _ _ (by exact h),World.cell?_setCell_far _ _ _ _ (by exact h),World.cell?_setCell_far _ _ _ _ (by exact h),World.cell?_setCell_far _ _ _ _ (by exact h),World.cell?_setCell_far _ _ _ _ (by exact h)]
theorem RatS.mk {w:World} {B:Nat} {q:Q} {A A':Option Addr} {n c n' c':Nat} (h1:NatS w B A n c q.top) (h2:NatS w B A' n' c' q.bot):RatS w B (.agg #[.bool q.neg,.slice A n c,.slice A' n' c']) q:=⟨A,n,c,A',n',c',rfl,h1,h2⟩
set_option maxHeartbeats 4000000 in
set_option maxRecDepth 100000 in
theorem zcZ (p q:Q) (v u:Value) (w:World) (hT:Tabs w) (hv:RatS w w.heap.size v p) (hu:RatS w w.heap.size u q) (hp:LenQ p 134217728) (hq:LenQ q 134217728) :
  Calls Tryz.prog 67 #[v,u] w (zaT w (zaX p q)):=by
 obtain ⟨A1,n1,c1,A2,n2,c2,rfl,h1,h2⟩:=hv
 obtain ⟨A3,n3,c3,A4,n4,c4,rfl,h3,h4⟩:=hu
 have aZ:Below w.heap.size w (((w.alloc (.cells #[.bool p.neg,.slice A1 n1 c1,.slice A2 n2 c2] 91)).alloc (.cells #[.bool q.neg,.slice A3 n3 c3,.slice A4 n4 c4] 91)).alloc (.cells #[.bool false,.slice none 0 0,.slice none 0 0] 91)):=((((Below.refl _ _).alloc (by simp<;>omega) _).alloc (by simp<;>omega) _).alloc (by simp<;>omega) _)
 have q0:CBlk (((w.alloc (.cells #[.bool p.neg,.slice A1 n1 c1,.slice A2 n2 c2] 91)).alloc (.cells #[.bool q.neg,.slice A3 n3 c3,.slice A4 n4 c4] 91)).alloc (.cells #[.bool false,.slice none 0 0,.slice none 0 0] 91)) (w.heap.size) #[.bool p.neg,.slice A1 n1 c1,.slice A2 n2 c2] 91:=(((CBlk.new _ _ _ _ (by simp)).alloc _).alloc _)
 have q1:CBlk (((w.alloc (.cells #[.bool p.neg,.slice A1 n1 c1,.slice A2 n2 c2] 91)).alloc (.cells #[.bool q.neg,.slice A3 n3 c3,.slice A4 n4 c4] 91)).alloc (.cells #[.bool false,.slice none 0 0,.slice none 0 0] 91)) (w.heap.size+1) #[.bool q.neg,.slice A3 n3 c3,.slice A4 n4 c4] 91:=((CBlk.new _ _ _ _ (by simp)).alloc _)
 have q2:CBlk (((w.alloc (.cells #[.bool p.neg,.slice A1 n1 c1,.slice A2 n2 c2] 91)).alloc (.cells #[.bool q.neg,.slice A3 n3 c3,.slice A4 n4 c4] 91)).alloc (.cells #[.bool false,.slice none 0 0,.slice none 0 0] 91)) (w.heap.size+1+1) #[.bool false,.slice none 0 0,.slice none 0 0] 91:=(CBlk.new _ _ _ _ (by simp))
 go_enter Tryz.func67,Tryz.ntmps67
 go_wp2_with fail
 generalize (((w.alloc (.cells #[.bool p.neg,.slice A1 n1 c1,.slice A2 n2 c2] 91)).alloc (.cells #[.bool q.neg,.slice A3 n3 c3,.slice A4 n4 c4] 91)).alloc (.cells #[.bool false,.slice none 0 0,.slice none 0 0] 91))=W at *
 have aX:w.heap.size<W.drew.heap.size:=q0.lt
 have aE:W.drew.cell? ⟨w.heap.size,0,none⟩=some (.bool p.neg):=q0.cell 0
 have aT:W.drew.cell? ⟨w.heap.size,1,none⟩=some (.slice A1 n1 c1):=q0.cell 1
 have aI:W.drew.cell? ⟨w.heap.size,2,none⟩=some (.slice A2 n2 c2):=q0.cell 2
 have aY:w.heap.size+1<W.drew.heap.size:=q1.lt
 have aQ:W.drew.cell? ⟨w.heap.size+1,0,none⟩=some (.bool q.neg):=q1.cell 0
 have aG:W.drew.cell? ⟨w.heap.size+1,1,none⟩=some (.slice A3 n3 c3):=q1.cell 1
 have aO:W.drew.cell? ⟨w.heap.size+1,2,none⟩=some (.slice A4 n4 c4):=q1.cell 2
 go_region_held3 (fun w'=>w'.cell? ⟨w.heap.size,0,none⟩=some (.bool p.neg)∧w'.cell? ⟨w.heap.size,1,none⟩=some (.slice A1 n1 c1)∧w'.cell? ⟨w.heap.size,2,none⟩=some (.slice A2 n2 c2)∧w'.cell? ⟨w.heap.size+1,0,none⟩=some (.bool q.neg)∧w'.cell? ⟨w.heap.size+1,1,none⟩=some (.slice A3 n3 c3)∧w'.cell? ⟨w.heap.size+1,2,none⟩=some (.slice A4 n4 c4))
  (first | with_reducible exact ⟨aE,aT,aI,aQ,aG,aO⟩ | with_reducible exact ⟨aR,aP,aN,aF,aH,aD⟩ | with_reducible exact ⟨aK,aL,aJ,aS,aM,aC⟩ | exact ⟨((far3 _ _ _ _ (by dsimp only;omega)).trans aK),((far3 _ _ _ _ (by dsimp only;omega)).trans aL),((far3 _ _ _ _ (by dsimp only;omega)).trans aJ),((far3 _ _ _ _ (by dsimp only;omega)).trans aS),((far3 _ _ _ _ (by dsimp only;omega)).trans aM),((far3 _ _ _ _ (by dsimp only;omega)).trans aC)⟩)
  (first
   |(go_at_call 133;refine (zjT q _ _ (RatS.mk (h3.later aZ.drew) (h4.later aZ.drew))).mono ?_;rintro e w4 ⟨v4,rfl,⟨A5,m5,c5,A6,m6,c6,rfl,h5,h6⟩,aA⟩;have aV:w.heap.size<w4.heap.size:=Nat.lt_of_lt_of_le aX aA.size;have aR:w4.cell? ⟨w.heap.size,0,none⟩=some (.bool p.neg):=(aA.cell (p:=⟨w.heap.size,0,none⟩) aX).trans aE;have aP:w4.cell? ⟨w.heap.size,1,none⟩=some (.slice A1 n1 c1):=(aA.cell (p:=⟨w.heap.size,1,none⟩) aX).trans aT;have aN:w4.cell? ⟨w.heap.size,2,none⟩=some (.slice A2 n2 c2):=(aA.cell (p:=⟨w.heap.size,2,none⟩) aX).trans aI;have aW:w.heap.size+1<w4.heap.size:=Nat.lt_of_lt_of_le aY aA.size;have aF:w4.cell? ⟨w.heap.size+1,0,none⟩=some (.bool q.neg):=(aA.cell (p:=⟨w.heap.size+1,0,none⟩) aY).trans aQ;have aH:w4.cell? ⟨w.heap.size+1,1,none⟩=some (.slice A3 n3 c3):=(aA.cell (p:=⟨w.heap.size+1,1,none⟩) aY).trans aG;have aD:w4.cell? ⟨w.heap.size+1,2,none⟩=some (.slice A4 n4 c4):=(aA.cell (p:=⟨w.heap.size+1,2,none⟩) aY).trans aO)
   |(go_at_call 65;refine (zkv p (zbV q) _ _ w4 ((hT.later aZ.drew).later aA) (RatS.mk ((h1.later aZ.drew).later aA) ((h2.later aZ.drew).later aA)) (RatS.mk h5 h6) hp hq).mono ?_;rintro e w5 ⟨v5,rfl,⟨A7,m7,c7,A8,m8,c8,rfl,h7,h8⟩,aU⟩;have qR:=((q2.drew.below aA q2.lt).below aU (Nat.lt_of_lt_of_le q2.lt aA.size));have y0:=qR.cell 0;have y1:=qR.cell 1;have y2:=qR.cell 2;have z0:=qR.frozen 0;have z1:=qR.frozen 1;have z2:=qR.frozen 2;have bD:w.heap.size<w5.heap.size:=Nat.lt_of_lt_of_le aV aU.size;have aK:w5.cell? ⟨w.heap.size,0,none⟩=some (.bool p.neg):=(aU.cell (p:=⟨w.heap.size,0,none⟩) aV).trans aR;have aL:w5.cell? ⟨w.heap.size,1,none⟩=some (.slice A1 n1 c1):=(aU.cell (p:=⟨w.heap.size,1,none⟩) aV).trans aP;have aJ:w5.cell? ⟨w.heap.size,2,none⟩=some (.slice A2 n2 c2):=(aU.cell (p:=⟨w.heap.size,2,none⟩) aV).trans aN;have bC:w.heap.size+1<w5.heap.size:=Nat.lt_of_lt_of_le aW aU.size;have aS:w5.cell? ⟨w.heap.size+1,0,none⟩=some (.bool q.neg):=(aU.cell (p:=⟨w.heap.size+1,0,none⟩) aW).trans aF;have aM:w5.cell? ⟨w.heap.size+1,1,none⟩=some (.slice A3 n3 c3):=(aU.cell (p:=⟨w.heap.size+1,1,none⟩) aW).trans aH;have aC:w5.cell? ⟨w.heap.size+1,2,none⟩=some (.slice A4 n4 c4):=(aU.cell (p:=⟨w.heap.size+1,2,none⟩) aW).trans aD))
 have bA:=((aZ.drew.trans (aA.mono aZ.drew.size)).trans (aU.mono (Nat.le_trans aZ.drew.size aA.size)))
 have bB:=zak bA (g:=w.heap.size+1+1) (by omega) (.bool (zdM p (zbV q)).neg) (.slice A7 m7 c7) (.slice A8 m8 c8)
 go_wp2_with fail
 refine bodyPost_ret (v := .agg #[.bool (zdM p (zbV q)).neg,.slice A7 m7 c7,.slice A8 m8 c8]) (by simp [results,Tryz.results67,go_sem,y0,y1,y2]) rfl ⟨_,rfl,⟨A7,m7,c7,A8,m8,c8,rfl,?_,?_⟩,bB⟩
 ·rw [zaf];exact h7.res qR _ _ _
 ·rw [zaf];exact h8.res qR _ _ _
set_option maxHeartbeats 4000000 in
set_option maxRecDepth 100000 in
theorem zmh (p q:Q) (v:Value) (w:World) (hv:ItvS w w.heap.size v p q) :
  Calls Tryz.prog 166 #[v] w (zb0 w (zbV q) (zbV p)):=by
 obtain ⟨A1,n1,c1,A2,n2,c2,A3,n3,c3,A4,n4,c4,rfl,h1,h2,h3,h4⟩:=hv
 have aX:Below w.heap.size w ((w.alloc (.cells #[.bool p.neg,.slice A1 n1 c1,.slice A2 n2 c2,.bool q.neg,.slice A3 n3 c3,.slice A4 n4 c4] 139)).alloc (.cells #[.bool false,.slice none 0 0,.slice none 0 0,.bool false,.slice none 0 0,.slice none 0 0] 139)):=(((Below.refl _ _).alloc (by simp<;>omega) _).alloc (by simp<;>omega) _)
 have q0:CBlk ((w.alloc (.cells #[.bool p.neg,.slice A1 n1 c1,.slice A2 n2 c2,.bool q.neg,.slice A3 n3 c3,.slice A4 n4 c4] 139)).alloc (.cells #[.bool false,.slice none 0 0,.slice none 0 0,.bool false,.slice none 0 0,.slice none 0 0] 139)) (w.heap.size) #[.bool p.neg,.slice A1 n1 c1,.slice A2 n2 c2,.bool q.neg,.slice A3 n3 c3,.slice A4 n4 c4] 139:=((CBlk.new _ _ _ _ (by simp)).alloc _)
 have q1:CBlk ((w.alloc (.cells #[.bool p.neg,.slice A1 n1 c1,.slice A2 n2 c2,.bool q.neg,.slice A3 n3 c3,.slice A4 n4 c4] 139)).alloc (.cells #[.bool false,.slice none 0 0,.slice none 0 0,.bool false,.slice none 0 0,.slice none 0 0] 139)) (w.heap.size+1) #[.bool false,.slice none 0 0,.slice none 0 0,.bool false,.slice none 0 0,.slice none 0 0] 139:=(CBlk.new _ _ _ _ (by simp))
 go_enter Tryz.func166,Tryz.ntmps166
 go_wp2_with fail
 generalize ((w.alloc (.cells #[.bool p.neg,.slice A1 n1 c1,.slice A2 n2 c2,.bool q.neg,.slice A3 n3 c3,.slice A4 n4 c4] 139)).alloc (.cells #[.bool false,.slice none 0 0,.slice none 0 0,.bool false,.slice none 0 0,.slice none 0 0] 139))=W at *
 have aC:w.heap.size<W.drew.heap.size:=q0.lt
 have aF:W.drew.cell? ⟨w.heap.size,0,none⟩=some (.bool p.neg):=q0.cell 0
 have aW:W.drew.cell? ⟨w.heap.size,1,none⟩=some (.slice A1 n1 c1):=q0.cell 1
 have aJ:W.drew.cell? ⟨w.heap.size,2,none⟩=some (.slice A2 n2 c2):=q0.cell 2
 have aH:W.drew.cell? ⟨w.heap.size,3,none⟩=some (.bool q.neg):=q0.cell 3
 have aL:W.drew.cell? ⟨w.heap.size,4,none⟩=some (.slice A3 n3 c3):=q0.cell 4
 have aU:W.drew.cell? ⟨w.heap.size,5,none⟩=some (.slice A4 n4 c4):=q0.cell 5
 go_region_held3 (fun w'=>w'.cell? ⟨w.heap.size,0,none⟩=some (.bool p.neg)∧w'.cell? ⟨w.heap.size,1,none⟩=some (.slice A1 n1 c1)∧w'.cell? ⟨w.heap.size,2,none⟩=some (.slice A2 n2 c2)∧w'.cell? ⟨w.heap.size,3,none⟩=some (.bool q.neg)∧w'.cell? ⟨w.heap.size,4,none⟩=some (.slice A3 n3 c3)∧w'.cell? ⟨w.heap.size,5,none⟩=some (.slice A4 n4 c4))
  (first | with_reducible exact ⟨aF,aW,aJ,aH,aL,aU⟩ | with_reducible exact ⟨aR,aQ,aP,aG,aO,aE⟩ | with_reducible exact ⟨aM,aN,aK,aT,aV,aI⟩ | exact ⟨((zbB _ _ _ _ _ _ _ (by dsimp only;omega)).trans aM),((zbB _ _ _ _ _ _ _ (by dsimp only;omega)).trans aN),((zbB _ _ _ _ _ _ _ (by dsimp only;omega)).trans aK),((zbB _ _ _ _ _ _ _ (by dsimp only;omega)).trans aT),((zbB _ _ _ _ _ _ _ (by dsimp only;omega)).trans aV),((zbB _ _ _ _ _ _ _ (by dsimp only;omega)).trans aI)⟩)
  (first
   |(go_at_call 133;refine (zjT p _ w4 (RatS.mk ((h1.later aX.drew).later aD) ((h2.later aX.drew).later aD))).mono ?_;rintro e w5 ⟨v5,rfl,⟨A7,m7,c7,A8,m8,c8,rfl,h7,h8⟩,aS⟩;have qR:=((q1.drew.below aD q1.lt).below aS (Nat.lt_of_lt_of_le q1.lt aD.size));have y0:=qR.cell 0;have y1:=qR.cell 1;have y2:=qR.cell 2;have y3:=qR.cell 3;have y4:=qR.cell 4;have y5:=qR.cell 5;have z0:=qR.frozen 0;have z1:=qR.frozen 1;have z2:=qR.frozen 2;have z3:=qR.frozen 3;have z4:=qR.frozen 4;have z5:=qR.frozen 5;have aZ:w.heap.size<w5.heap.size:=Nat.lt_of_lt_of_le aA aS.size;have aM:w5.cell? ⟨w.heap.size,0,none⟩=some (.bool p.neg):=(aS.cell (p:=⟨w.heap.size,0,none⟩) aA).trans aR;have aN:w5.cell? ⟨w.heap.size,1,none⟩=some (.slice A1 n1 c1):=(aS.cell (p:=⟨w.heap.size,1,none⟩) aA).trans aQ;have aK:w5.cell? ⟨w.heap.size,2,none⟩=some (.slice A2 n2 c2):=(aS.cell (p:=⟨w.heap.size,2,none⟩) aA).trans aP;have aT:w5.cell? ⟨w.heap.size,3,none⟩=some (.bool q.neg):=(aS.cell (p:=⟨w.heap.size,3,none⟩) aA).trans aG;have aV:w5.cell? ⟨w.heap.size,4,none⟩=some (.slice A3 n3 c3):=(aS.cell (p:=⟨w.heap.size,4,none⟩) aA).trans aO;have aI:w5.cell? ⟨w.heap.size,5,none⟩=some (.slice A4 n4 c4):=(aS.cell (p:=⟨w.heap.size,5,none⟩) aA).trans aE)
   |(go_at_call_of 133 (Value.agg #[.bool q.neg,.slice A3 n3 c3,.slice A4 n4 c4]);refine (zjT q _ _ (RatS.mk (h3.later aX.drew) (h4.later aX.drew))).mono ?_;rintro e w4 ⟨v4,rfl,⟨A5,m5,c5,A6,m6,c6,rfl,h5,h6⟩,aD⟩;have aA:w.heap.size<w4.heap.size:=Nat.lt_of_lt_of_le aC aD.size;have aR:w4.cell? ⟨w.heap.size,0,none⟩=some (.bool p.neg):=(aD.cell (p:=⟨w.heap.size,0,none⟩) aC).trans aF;have aQ:w4.cell? ⟨w.heap.size,1,none⟩=some (.slice A1 n1 c1):=(aD.cell (p:=⟨w.heap.size,1,none⟩) aC).trans aW;have aP:w4.cell? ⟨w.heap.size,2,none⟩=some (.slice A2 n2 c2):=(aD.cell (p:=⟨w.heap.size,2,none⟩) aC).trans aJ;have aG:w4.cell? ⟨w.heap.size,3,none⟩=some (.bool q.neg):=(aD.cell (p:=⟨w.heap.size,3,none⟩) aC).trans aH;have aO:w4.cell? ⟨w.heap.size,4,none⟩=some (.slice A3 n3 c3):=(aD.cell (p:=⟨w.heap.size,4,none⟩) aC).trans aL;have aE:w4.cell? ⟨w.heap.size,5,none⟩=some (.slice A4 n4 c4):=(aD.cell (p:=⟨w.heap.size,5,none⟩) aC).trans aU))
 have aY:=((aX.drew.trans (aD.mono aX.drew.size)).trans (aS.mono (Nat.le_trans aX.drew.size aD.size)))
 have hI:=zbK (p:=(zbV q)) (q:=(zbV p)) qR aY (by omega) rfl (h5.later aS) (h6.later aS) h7 h8
 unfold Go.Proofs.YteajibbphcfmeaaGreatDoor.set6 at hI
 go_wp2_with fail
 refine bodyPost_ret (v := .agg #[.bool (zbV q).neg,.slice A5 m5 c5,.slice A6 m6 c6,.bool (zbV p).neg,.slice A7 m7 c7,.slice A8 m8 c8]) (by simp [results,Tryz.results166,go_sem,y0,y1,y2,y3,y4,y5]) rfl ⟨_,rfl,hI⟩
end Go.Proofs.YteajibbphcfmeaaGreatDoor
