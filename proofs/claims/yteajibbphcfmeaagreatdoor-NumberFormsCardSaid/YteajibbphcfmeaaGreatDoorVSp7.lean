/- Contracts of package number's CheckSpan, Compare and Root. -/
import Derived.Test.YteajibbphcfmeaaGreatDoorVSp6
import Derived.Test.YteajibbphcfmeaaGreatDoorVCo2
import Derived.Laws.StructEq
namespace Go.Proofs.YteajibbphcfmeaaGreatDoor
open Go.RowKit Bn
set_option maxHeartbeats 4000000 in
set_option maxRecDepth 100000 in
theorem zgN (x y E:Int) (p q p' q':Q) (s t s2 t2:ByteArray) (w:World) (hT:Tabs w) (HE:Hid (E=if x≠0 then x else y)) (H0:Hid (E≠0)) (HR1:Hid (∀ W,Tabs W→Calls Tryz.prog 111 #[.agg #[.string s,.string t]] W (za6 W p q x))) (HR2:Hid (∀ W,Tabs W→Calls Tryz.prog 111 #[.agg #[.string s2,.string t2]] W (za6 W p' q' y))) :
  Calls Tryz.prog 54 #[.agg #[.string s,.string t],.agg #[.string s2,.string t2]] w fun e w'=>e = .returned (.tuple #[.int .i64 0,.int .i64 E])∧Below w.heap.size w w':=by
 have bE:(E != 0)=true:=by simpa using H0.out
 have aF:Below w.heap.size w ((w.alloc (.cells #[.string s,.string t] 74)).alloc (.cells #[.string s2,.string t2] 74)):=(((Below.refl _ _).alloc (by simp<;>omega) _).alloc (by simp<;>omega) _)
 have q0:CBlk ((w.alloc (.cells #[.string s,.string t] 74)).alloc (.cells #[.string s2,.string t2] 74)) (w.heap.size) #[.string s,.string t] 74:=((CBlk.new _ _ _ _ (by simp)).alloc _)
 have q1:CBlk ((w.alloc (.cells #[.string s,.string t] 74)).alloc (.cells #[.string s2,.string t2] 74)) (w.heap.size+1) #[.string s2,.string t2] 74:=(CBlk.new _ _ _ _ (by simp))
 go_enter Tryz.func54,Tryz.ntmps54
 go_upto_region 1 with (fail)
 generalize ((w.alloc (.cells #[.string s,.string t] 74)).alloc (.cells #[.string s2,.string t2] 74))=W at *
 have a0:=q0.cell 0
 have a1:=q0.cell 1
 go_wp2_with fail
 refine (HR1.out W (hT.later aF)).mono ?_
 rintro e w2 ⟨v2,rfl,⟨A1,n1,c1,A2,n2,c2,A3,n3,c3,A4,n4,c4,rfl,h1,h2,h3,h4⟩,aH⟩
 have aA:Below w2.heap.size w2 (w2.alloc (.cells #[.bool p.neg,.slice A1 n1 c1,.slice A2 n2 c2,.bool q.neg,.slice A3 n3 c3,.slice A4 n4 c4] 139)):=(Below.refl _ _).alloc (Nat.le_refl _) _
 have aJ:=aF.trans (aH.mono aF.size)
 have aG:=aJ.trans (aA.mono aJ.size)
 have aL:=(q0.below aH q0.lt).alloc (.cells #[.bool p.neg,.slice A1 n1 c1,.slice A2 n2 c2,.bool q.neg,.slice A3 n3 c3,.slice A4 n4 c4] 139)
 have aE:=(q1.below aH q1.lt).alloc (.cells #[.bool p.neg,.slice A1 n1 c1,.slice A2 n2 c2,.bool q.neg,.slice A3 n3 c3,.slice A4 n4 c4] 139)
 have aK:CBlk (w2.alloc (.cells #[.bool p.neg,.slice A1 n1 c1,.slice A2 n2 c2,.bool q.neg,.slice A3 n3 c3,.slice A4 n4 c4] 139)) w2.heap.size #[.bool p.neg,.slice A1 n1 c1,.slice A2 n2 c2,.bool q.neg,.slice A3 n3 c3,.slice A4 n4 c4] 139:=CBlk.new _ _ _ _ rfl
 have aX:=h1.later aA
 have aW:=h2.later aA
 have aV:=h3.later aA
 have aY:=h4.later aA
 clear a0 a1 q0 q1 aF aH aJ h1 h2 h3 h4 aA
 go_upto_region 2 with (fail)
 generalize (w2.alloc (.cells #[.bool p.neg,.slice A1 n1 c1,.slice A2 n2 c2,.bool q.neg,.slice A3 n3 c3,.slice A4 n4 c4] 139))=w3 at *
 have a0:=aE.cell 0
 have a1:=aE.cell 1
 go_wp2_with fail
 refine (HR2.out w3 (hT.later aG)).mono ?_
 rintro e w4 ⟨v4,rfl,⟨D1,e1,d1,D2,e2,d2,D3,e3,d3,D4,e4,d4,rfl,k1,k2,k3,k4⟩,aD⟩
 have aA:Below w4.heap.size w4 (w4.alloc (.cells #[.bool p'.neg,.slice D1 e1 d1,.slice D2 e2 d2,.bool q'.neg,.slice D3 e3 d3,.slice D4 e4 d4] 139)):=(Below.refl _ _).alloc (Nat.le_refl _) _
 have aM:=aG.trans (aD.mono aG.size)
 have aI:=aM.trans (aA.mono aM.size)
 have aS:=(aL.below aD aL.lt).alloc (.cells #[.bool p'.neg,.slice D1 e1 d1,.slice D2 e2 d2,.bool q'.neg,.slice D3 e3 d3,.slice D4 e4 d4] 139)
 have aN:=(aE.below aD aE.lt).alloc (.cells #[.bool p'.neg,.slice D1 e1 d1,.slice D2 e2 d2,.bool q'.neg,.slice D3 e3 d3,.slice D4 e4 d4] 139)
 have bB:=(aK.below aD aK.lt).alloc (.cells #[.bool p'.neg,.slice D1 e1 d1,.slice D2 e2 d2,.bool q'.neg,.slice D3 e3 d3,.slice D4 e4 d4] 139)
 have bA:CBlk (w4.alloc (.cells #[.bool p'.neg,.slice D1 e1 d1,.slice D2 e2 d2,.bool q'.neg,.slice D3 e3 d3,.slice D4 e4 d4] 139)) w4.heap.size #[.bool p'.neg,.slice D1 e1 d1,.slice D2 e2 d2,.bool q'.neg,.slice D3 e3 d3,.slice D4 e4 d4] 139:=CBlk.new _ _ _ _ rfl
 have aR:=(aX.later aD).later aA
 have aO:=(aW.later aD).later aA
 have aZ:=(aV.later aD).later aA
 have aT:=(aY.later aD).later aA
 have bC:=k1.later aA
 have aU:=k2.later aA
 have aP:=k3.later aA
 have aQ:=k4.later aA
 clear a0 a1 aL aE aK aG aD aM aX aW aV aY k1 k2 k3 k4 aA
 go_upto_region 3 with (fail)
 generalize (w4.alloc (.cells #[.bool p'.neg,.slice D1 e1 d1,.slice D2 e2 d2,.bool q'.neg,.slice D3 e3 d3,.slice D4 e4 d4] 139))=w5 at *
 have bD:Below w.heap.size w (w5.alloc (.cells #[.int .i64 x,.int .i64 y] 26)):=aI.alloc aI.size _
 have aC:Below w5.heap.size w5 (w5.alloc (.cells #[.int .i64 x,.int .i64 y] 26)):=(Below.refl _ _).alloc (Nat.le_refl _) _
 have bL:=aS.alloc (.cells #[.int .i64 x,.int .i64 y] 26)
 have bJ:=aN.alloc (.cells #[.int .i64 x,.int .i64 y] 26)
 have bI:=bB.alloc (.cells #[.int .i64 x,.int .i64 y] 26)
 have bP:=bA.alloc (.cells #[.int .i64 x,.int .i64 y] 26)
 have bM:=aR.later aC
 have bH:=aO.later aC
 have bO:=aZ.later aC
 have bQ:=aT.later aC
 have bK:=bC.later aC
 have bG:=aU.later aC
 have bN:=aP.later aC
 have bF:=aQ.later aC
 go_wp2_with fail
 refine (zaZ x y E HE.out w5 _ _ rfl).mono ?_
 rintro e w6 ⟨rfl,rfl⟩
 clear aS aN bB bA aI aC aR aO aZ aT bC aU aP aQ
 generalize (w5.alloc (.cells #[.int .i64 x,.int .i64 y] 26))=w6 at *
 go_wp2
 go_ret2
 exact ⟨rfl,bD⟩
set_option maxHeartbeats 4000000 in
set_option maxRecDepth 100000 in
theorem zgu (x y:Int) (p q p' q':Q) (s t s2 t2:ByteArray) (w:World) (hT:Tabs w) (HX:Hid (x=0∧y=0)) (r1 r2:Int) (HC1:Hid (∀ v u W,RatS W W.heap.size v q→RatS W W.heap.size u p'→Calls Tryz.prog 71 #[v,u] W fun e w'=>e = .returned (.int .i64 r1)∧Below W.heap.size W w')) (HC2:Hid (∀ v u W,RatS W W.heap.size v p→RatS W W.heap.size u q'→Calls Tryz.prog 71 #[v,u] W fun e w'=>e = .returned (.int .i64 r2)∧Below W.heap.size W w')) (HR1:Hid (∀ W,Tabs W→Calls Tryz.prog 111 #[.agg #[.string s,.string t]] W (za6 W p q x))) (HR2:Hid (∀ W,Tabs W→Calls Tryz.prog 111 #[.agg #[.string s2,.string t2]] W (za6 W p' q' y))) (d1:decide (r1<0)=true) :
  Calls Tryz.prog 54 #[.agg #[.string s,.string t],.agg #[.string s2,.string t2]] w fun e w'=>e = .returned (.tuple #[.int .i64 (-1),.int .i64 0])∧Below w.heap.size w w':=by
 obtain ⟨E,hE⟩:∃ E:Int,E=if x≠0 then x else y:=⟨_,rfl⟩
 have bP:(E != 0)=false:=by rw [hE,HX.out.1,HX.out.2];rfl
 have HE:=Lib.hid hE
 clear hE
 have aF:Below w.heap.size w ((w.alloc (.cells #[.string s,.string t] 74)).alloc (.cells #[.string s2,.string t2] 74)):=(((Below.refl _ _).alloc (by simp<;>omega) _).alloc (by simp<;>omega) _)
 have q0:CBlk ((w.alloc (.cells #[.string s,.string t] 74)).alloc (.cells #[.string s2,.string t2] 74)) (w.heap.size) #[.string s,.string t] 74:=((CBlk.new _ _ _ _ (by simp)).alloc _)
 have q1:CBlk ((w.alloc (.cells #[.string s,.string t] 74)).alloc (.cells #[.string s2,.string t2] 74)) (w.heap.size+1) #[.string s2,.string t2] 74:=(CBlk.new _ _ _ _ (by simp))
 go_enter Tryz.func54,Tryz.ntmps54
 go_upto_region 1 with (fail)
 generalize ((w.alloc (.cells #[.string s,.string t] 74)).alloc (.cells #[.string s2,.string t2] 74))=W at *
 have a0:=q0.cell 0
 have a1:=q0.cell 1
 go_wp2_with fail
 refine (HR1.out W (hT.later aF)).mono ?_
 rintro e w2 ⟨v2,rfl,⟨A1,n1,c1,A2,n2,c2,A3,n3,c3,A4,n4,c4,rfl,h1,h2,h3,h4⟩,aH⟩
 have aA:Below w2.heap.size w2 (w2.alloc (.cells #[.bool p.neg,.slice A1 n1 c1,.slice A2 n2 c2,.bool q.neg,.slice A3 n3 c3,.slice A4 n4 c4] 139)):=(Below.refl _ _).alloc (Nat.le_refl _) _
 have aJ:=aF.trans (aH.mono aF.size)
 have aG:=aJ.trans (aA.mono aJ.size)
 have aM:=(q0.below aH q0.lt).alloc (.cells #[.bool p.neg,.slice A1 n1 c1,.slice A2 n2 c2,.bool q.neg,.slice A3 n3 c3,.slice A4 n4 c4] 139)
 have aE:=(q1.below aH q1.lt).alloc (.cells #[.bool p.neg,.slice A1 n1 c1,.slice A2 n2 c2,.bool q.neg,.slice A3 n3 c3,.slice A4 n4 c4] 139)
 have aK:CBlk (w2.alloc (.cells #[.bool p.neg,.slice A1 n1 c1,.slice A2 n2 c2,.bool q.neg,.slice A3 n3 c3,.slice A4 n4 c4] 139)) w2.heap.size #[.bool p.neg,.slice A1 n1 c1,.slice A2 n2 c2,.bool q.neg,.slice A3 n3 c3,.slice A4 n4 c4] 139:=CBlk.new _ _ _ _ rfl
 have bA:=h1.later aA
 have aZ:=h2.later aA
 have aY:=h3.later aA
 have bB:=h4.later aA
 clear a0 a1 q0 q1 aF aH aJ h1 h2 h3 h4 aA
 go_upto_region 2 with (fail)
 generalize (w2.alloc (.cells #[.bool p.neg,.slice A1 n1 c1,.slice A2 n2 c2,.bool q.neg,.slice A3 n3 c3,.slice A4 n4 c4] 139))=w3 at *
 have a0:=aE.cell 0
 have a1:=aE.cell 1
 go_wp2_with fail
 refine (HR2.out w3 (hT.later aG)).mono ?_
 rintro e w4 ⟨v4,rfl,⟨D1,e1,d1,D2,e2,d2,D3,e3,d3,D4,e4,d4,rfl,k1,k2,k3,k4⟩,aD⟩
 have aA:Below w4.heap.size w4 (w4.alloc (.cells #[.bool p'.neg,.slice D1 e1 d1,.slice D2 e2 d2,.bool q'.neg,.slice D3 e3 d3,.slice D4 e4 d4] 139)):=(Below.refl _ _).alloc (Nat.le_refl _) _
 have aN:=aG.trans (aD.mono aG.size)
 have aI:=aN.trans (aA.mono aN.size)
 have aV:=(aM.below aD aM.lt).alloc (.cells #[.bool p'.neg,.slice D1 e1 d1,.slice D2 e2 d2,.bool q'.neg,.slice D3 e3 d3,.slice D4 e4 d4] 139)
 have aQ:=(aE.below aD aE.lt).alloc (.cells #[.bool p'.neg,.slice D1 e1 d1,.slice D2 e2 d2,.bool q'.neg,.slice D3 e3 d3,.slice D4 e4 d4] 139)
 have bE:=(aK.below aD aK.lt).alloc (.cells #[.bool p'.neg,.slice D1 e1 d1,.slice D2 e2 d2,.bool q'.neg,.slice D3 e3 d3,.slice D4 e4 d4] 139)
 have bD:CBlk (w4.alloc (.cells #[.bool p'.neg,.slice D1 e1 d1,.slice D2 e2 d2,.bool q'.neg,.slice D3 e3 d3,.slice D4 e4 d4] 139)) w4.heap.size #[.bool p'.neg,.slice D1 e1 d1,.slice D2 e2 d2,.bool q'.neg,.slice D3 e3 d3,.slice D4 e4 d4] 139:=CBlk.new _ _ _ _ rfl
 have aU:=(bA.later aD).later aA
 have aR:=(aZ.later aD).later aA
 have bC:=(aY.later aD).later aA
 have aW:=(bB.later aD).later aA
 have bF:=k1.later aA
 have aX:=k2.later aA
 have aS:=k3.later aA
 have aT:=k4.later aA
 clear a0 a1 aM aE aK aG aD aN bA aZ aY bB k1 k2 k3 k4 aA
 go_upto_region 3 with (fail)
 generalize (w4.alloc (.cells #[.bool p'.neg,.slice D1 e1 d1,.slice D2 e2 d2,.bool q'.neg,.slice D3 e3 d3,.slice D4 e4 d4] 139))=w5 at *
 have aP:Below w.heap.size w (w5.alloc (.cells #[.int .i64 x,.int .i64 y] 26)):=aI.alloc aI.size _
 have aC:Below w5.heap.size w5 (w5.alloc (.cells #[.int .i64 x,.int .i64 y] 26)):=(Below.refl _ _).alloc (Nat.le_refl _) _
 have bU:=aV.alloc (.cells #[.int .i64 x,.int .i64 y] 26)
 have bS:=aQ.alloc (.cells #[.int .i64 x,.int .i64 y] 26)
 have aL:=bE.alloc (.cells #[.int .i64 x,.int .i64 y] 26)
 have aO:=bD.alloc (.cells #[.int .i64 x,.int .i64 y] 26)
 have bV:=aU.later aC
 have bR:=aR.later aC
 have bK:=bC.later aC
 have bL:=aW.later aC
 have bJ:=bF.later aC
 have bH:=aX.later aC
 have bW:=aS.later aC
 have bQ:=aT.later aC
 go_wp2_with fail
 refine (zaZ x y E HE.out w5 _ _ rfl).mono ?_
 rintro e w6 ⟨rfl,rfl⟩
 clear aV aQ bE bD aI aC aU aR bC aW bF aX aS aT
 generalize (w5.alloc (.cells #[.int .i64 x,.int .i64 y] 26))=w6 at *
 have bY:=aL.cell 3
 have bO:=aL.cell 4
 have bN:=aL.cell 5
 have bT:=aO.cell 0
 have bX:=aO.cell 1
 have bM:=aO.cell 2
 go_wp2_with fail
 refine (HC1.out _ _ w6 (RatS.mk bK bL) (RatS.mk bJ bH)).mono ?_
 rintro e w7 ⟨rfl,bG⟩
 have bI:=aP.trans (bG.mono aP.size)
 go_wp2
 go_ret2
 exact ⟨rfl,bI⟩
set_option maxHeartbeats 4000000 in
set_option maxRecDepth 100000 in
theorem zgi (x y:Int) (p q p' q':Q) (s t s2 t2:ByteArray) (w:World) (hT:Tabs w) (HX:Hid (x=0∧y=0)) (r1 r2:Int) (HC1:Hid (∀ v u W,RatS W W.heap.size v q→RatS W W.heap.size u p'→Calls Tryz.prog 71 #[v,u] W fun e w'=>e = .returned (.int .i64 r1)∧Below W.heap.size W w')) (HC2:Hid (∀ v u W,RatS W W.heap.size v p→RatS W W.heap.size u q'→Calls Tryz.prog 71 #[v,u] W fun e w'=>e = .returned (.int .i64 r2)∧Below W.heap.size W w')) (HR1:Hid (∀ W,Tabs W→Calls Tryz.prog 111 #[.agg #[.string s,.string t]] W (za6 W p q x))) (HR2:Hid (∀ W,Tabs W→Calls Tryz.prog 111 #[.agg #[.string s2,.string t2]] W (za6 W p' q' y))) (d1:decide (r1<0)=false) (d2:decide (0<r2)=true) :
  Calls Tryz.prog 54 #[.agg #[.string s,.string t],.agg #[.string s2,.string t2]] w fun e w'=>e = .returned (.tuple #[.int .i64 1,.int .i64 0])∧Below w.heap.size w w':=by
 obtain ⟨E,hE⟩:∃ E:Int,E=if x≠0 then x else y:=⟨_,rfl⟩
 have cH:(E != 0)=false:=by rw [hE,HX.out.1,HX.out.2];rfl
 have HE:=Lib.hid hE
 clear hE
 have aI:Below w.heap.size w ((w.alloc (.cells #[.string s,.string t] 74)).alloc (.cells #[.string s2,.string t2] 74)):=(((Below.refl _ _).alloc (by simp<;>omega) _).alloc (by simp<;>omega) _)
 have q0:CBlk ((w.alloc (.cells #[.string s,.string t] 74)).alloc (.cells #[.string s2,.string t2] 74)) (w.heap.size) #[.string s,.string t] 74:=((CBlk.new _ _ _ _ (by simp)).alloc _)
 have q1:CBlk ((w.alloc (.cells #[.string s,.string t] 74)).alloc (.cells #[.string s2,.string t2] 74)) (w.heap.size+1) #[.string s2,.string t2] 74:=(CBlk.new _ _ _ _ (by simp))
 go_enter Tryz.func54,Tryz.ntmps54
 go_upto_region 1 with (fail)
 generalize ((w.alloc (.cells #[.string s,.string t] 74)).alloc (.cells #[.string s2,.string t2] 74))=W at *
 have a0:=q0.cell 0
 have a1:=q0.cell 1
 go_wp2_with fail
 refine (HR1.out W (hT.later aI)).mono ?_
 rintro e w2 ⟨v2,rfl,⟨A1,n1,c1,A2,n2,c2,A3,n3,c3,A4,n4,c4,rfl,h1,h2,h3,h4⟩,aK⟩
 have aA:Below w2.heap.size w2 (w2.alloc (.cells #[.bool p.neg,.slice A1 n1 c1,.slice A2 n2 c2,.bool q.neg,.slice A3 n3 c3,.slice A4 n4 c4] 139)):=(Below.refl _ _).alloc (Nat.le_refl _) _
 have aN:=aI.trans (aK.mono aI.size)
 have aJ:=aN.trans (aA.mono aN.size)
 have aT:=(q0.below aK q0.lt).alloc (.cells #[.bool p.neg,.slice A1 n1 c1,.slice A2 n2 c2,.bool q.neg,.slice A3 n3 c3,.slice A4 n4 c4] 139)
 have aH:=(q1.below aK q1.lt).alloc (.cells #[.bool p.neg,.slice A1 n1 c1,.slice A2 n2 c2,.bool q.neg,.slice A3 n3 c3,.slice A4 n4 c4] 139)
 have aP:CBlk (w2.alloc (.cells #[.bool p.neg,.slice A1 n1 c1,.slice A2 n2 c2,.bool q.neg,.slice A3 n3 c3,.slice A4 n4 c4] 139)) w2.heap.size #[.bool p.neg,.slice A1 n1 c1,.slice A2 n2 c2,.bool q.neg,.slice A3 n3 c3,.slice A4 n4 c4] 139:=CBlk.new _ _ _ _ rfl
 have bN:=h1.later aA
 have bM:=h2.later aA
 have bJ:=h3.later aA
 have bO:=h4.later aA
 clear a0 a1 q0 q1 aI aK aN h1 h2 h3 h4 aA
 go_upto_region 2 with (fail)
 generalize (w2.alloc (.cells #[.bool p.neg,.slice A1 n1 c1,.slice A2 n2 c2,.bool q.neg,.slice A3 n3 c3,.slice A4 n4 c4] 139))=w3 at *
 have a0:=aH.cell 0
 have a1:=aH.cell 1
 go_wp2_with fail
 refine (HR2.out w3 (hT.later aJ)).mono ?_
 rintro e w4 ⟨v4,rfl,⟨D1,e1,d1,D2,e2,d2,D3,e3,d3,D4,e4,d4,rfl,k1,k2,k3,k4⟩,aE⟩
 have aA:Below w4.heap.size w4 (w4.alloc (.cells #[.bool p'.neg,.slice D1 e1 d1,.slice D2 e2 d2,.bool q'.neg,.slice D3 e3 d3,.slice D4 e4 d4] 139)):=(Below.refl _ _).alloc (Nat.le_refl _) _
 have aU:=aJ.trans (aE.mono aJ.size)
 have aM:=aU.trans (aA.mono aU.size)
 have bE:=(aT.below aE aT.lt).alloc (.cells #[.bool p'.neg,.slice D1 e1 d1,.slice D2 e2 d2,.bool q'.neg,.slice D3 e3 d3,.slice D4 e4 d4] 139)
 have aV:=(aH.below aE aH.lt).alloc (.cells #[.bool p'.neg,.slice D1 e1 d1,.slice D2 e2 d2,.bool q'.neg,.slice D3 e3 d3,.slice D4 e4 d4] 139)
 have bS:=(aP.below aE aP.lt).alloc (.cells #[.bool p'.neg,.slice D1 e1 d1,.slice D2 e2 d2,.bool q'.neg,.slice D3 e3 d3,.slice D4 e4 d4] 139)
 have bQ:CBlk (w4.alloc (.cells #[.bool p'.neg,.slice D1 e1 d1,.slice D2 e2 d2,.bool q'.neg,.slice D3 e3 d3,.slice D4 e4 d4] 139)) w4.heap.size #[.bool p'.neg,.slice D1 e1 d1,.slice D2 e2 d2,.bool q'.neg,.slice D3 e3 d3,.slice D4 e4 d4] 139:=CBlk.new _ _ _ _ rfl
 have bD:=(bN.later aE).later aA
 have aY:=(bM.later aE).later aA
 have bP:=(bJ.later aE).later aA
 have bF:=(bO.later aE).later aA
 have bT:=k1.later aA
 have bI:=k2.later aA
 have aZ:=k3.later aA
 have bA:=k4.later aA
 clear a0 a1 aT aH aP aJ aE aU bN bM bJ bO k1 k2 k3 k4 aA
 go_upto_region 3 with (fail)
 generalize (w4.alloc (.cells #[.bool p'.neg,.slice D1 e1 d1,.slice D2 e2 d2,.bool q'.neg,.slice D3 e3 d3,.slice D4 e4 d4] 139))=w5 at *
 have aL:Below w.heap.size w (w5.alloc (.cells #[.int .i64 x,.int .i64 y] 26)):=aM.alloc aM.size _
 have aD:Below w5.heap.size w5 (w5.alloc (.cells #[.int .i64 x,.int .i64 y] 26)):=(Below.refl _ _).alloc (Nat.le_refl _) _
 have aR:=bE.alloc (.cells #[.int .i64 x,.int .i64 y] 26)
 have aQ:=aV.alloc (.cells #[.int .i64 x,.int .i64 y] 26)
 have aF:=bS.alloc (.cells #[.int .i64 x,.int .i64 y] 26)
 have aG:=bQ.alloc (.cells #[.int .i64 x,.int .i64 y] 26)
 have bK:=bD.later aD
 have bC:=aY.later aD
 have bR:=bP.later aD
 have bB:=bF.later aD
 have bH:=bT.later aD
 have aX:=bI.later aD
 have bL:=aZ.later aD
 have aW:=bA.later aD
 go_wp2_with fail
 refine (zaZ x y E HE.out w5 _ _ rfl).mono ?_
 rintro e w6 ⟨rfl,rfl⟩
 clear bE aV bS bQ aM aD bD aY bP bF bT bI aZ bA
 generalize (w5.alloc (.cells #[.int .i64 x,.int .i64 y] 26))=w6 at *
 have cF:=aF.cell 3
 have bX:=aF.cell 4
 have bV:=aF.cell 5
 have cC:=aG.cell 0
 have cE:=aG.cell 1
 have bU:=aG.cell 2
 go_wp2_with fail
 refine (HC1.out _ _ w6 (RatS.mk bR bB) (RatS.mk bH aX)).mono ?_
 rintro e w7 ⟨rfl,aC⟩
 have bG:=aL.trans (aC.mono aL.size)
 have cL:=aR.below aC aR.lt
 have cP:=aQ.below aC aQ.lt
 have aO:=aF.below aC aF.lt
 have aS:=aG.below aC aG.lt
 have bW:=bK.later aC
 have bZ:=bC.later aC
 have cB:=bL.later aC
 have bY:=aW.later aC
 clear cF bX bV cC cE bU aR aQ aF aG bK bC bR bB bH aX bL aW aL aC
 have cN:=aO.cell 0
 have cI:=aO.cell 1
 have cM:=aO.cell 2
 have cO:=aS.cell 3
 have cK:=aS.cell 4
 have cJ:=aS.cell 5
 go_wp2_with fail
 refine (HC2.out _ _ w7 (RatS.mk bW bZ) (RatS.mk cB bY)).mono ?_
 rintro e w8 ⟨rfl,cA⟩
 have cG:=bG.trans (cA.mono bG.size)
 go_wp2
 go_ret2
 exact ⟨rfl,cG⟩
set_option maxHeartbeats 4000000 in
set_option maxRecDepth 100000 in
theorem zgc (x y:Int) (p q p' q':Q) (s t s2 t2:ByteArray) (w:World) (hT:Tabs w) (HX:Hid (x=0∧y=0)) (r1 r2:Int) (HC1:Hid (∀ v u W,RatS W W.heap.size v q→RatS W W.heap.size u p'→Calls Tryz.prog 71 #[v,u] W fun e w'=>e = .returned (.int .i64 r1)∧Below W.heap.size W w')) (HC2:Hid (∀ v u W,RatS W W.heap.size v p→RatS W W.heap.size u q'→Calls Tryz.prog 71 #[v,u] W fun e w'=>e = .returned (.int .i64 r2)∧Below W.heap.size W w')) (HR1:Hid (∀ W,Tabs W→Calls Tryz.prog 111 #[.agg #[.string s,.string t]] W (za6 W p q x))) (HR2:Hid (∀ W,Tabs W→Calls Tryz.prog 111 #[.agg #[.string s2,.string t2]] W (za6 W p' q' y))) (d1:decide (r1<0)=false) (d2:decide (0<r2)=false) :
  Calls Tryz.prog 54 #[.agg #[.string s,.string t],.agg #[.string s2,.string t2]] w fun e w'=>e = .returned (.tuple #[.int .i64 0,.int .i64 (if s=s2∧t=t2∧s=t then 0 else 24)])∧Below w.heap.size w w':=by
 obtain ⟨b1,cH⟩:∃ b,(s.toList==s2.toList)=b:=⟨_,rfl⟩
 obtain ⟨b2,aG⟩:∃ b,(t.toList==t2.toList)=b:=⟨_,rfl⟩
 obtain ⟨b3,cI⟩:∃ b,(s.toList==t.toList)=b:=⟨_,rfl⟩
 obtain ⟨Z,hZ⟩:∃ Z:Int,Z=if s=s2∧t=t2∧s=t then 0 else 24:=⟨_,rfl⟩
 have hl:∀ a b:ByteArray,(a.toList==b.toList)=decide (a=b):=fun a b=>by
  rw [Bool.eq_iff_iff];simp only [beq_iff_eq,decide_eq_true_eq]
  exact ⟨fun h=>by
   rw [ByteArray.toList_eq,ByteArray.toList_eq] at h
   cases a;cases b;congr 1;exact Array.toList_inj.1 h,fun h=>by rw [h]⟩
 have HZ:Hid (Z=if (b1 && b2 && b3)=true then 0 else 24):=by
  rw [Hid,hZ,←cH,←aG,←cI,hl,hl,hl]
  congr 1
  rw [eq_iff_iff]
  simp [and_assoc]
 rw [←hZ]
 clear hZ hl
 obtain ⟨E,hE⟩:∃ E:Int,E=if x≠0 then x else y:=⟨_,rfl⟩
 have cT:(E != 0)=false:=by rw [hE,HX.out.1,HX.out.2];rfl
 have HE:=Lib.hid hE
 clear hE
 have aJ:Below w.heap.size w ((w.alloc (.cells #[.string s,.string t] 74)).alloc (.cells #[.string s2,.string t2] 74)):=(((Below.refl _ _).alloc (by simp<;>omega) _).alloc (by simp<;>omega) _)
 have q0:CBlk ((w.alloc (.cells #[.string s,.string t] 74)).alloc (.cells #[.string s2,.string t2] 74)) (w.heap.size) #[.string s,.string t] 74:=((CBlk.new _ _ _ _ (by simp)).alloc _)
 have q1:CBlk ((w.alloc (.cells #[.string s,.string t] 74)).alloc (.cells #[.string s2,.string t2] 74)) (w.heap.size+1) #[.string s2,.string t2] 74:=(CBlk.new _ _ _ _ (by simp))
 go_enter Tryz.func54,Tryz.ntmps54
 go_upto_region 1 with (fail)
 generalize ((w.alloc (.cells #[.string s,.string t] 74)).alloc (.cells #[.string s2,.string t2] 74))=W at *
 have a0:=q0.cell 0
 have a1:=q0.cell 1
 go_wp2_with fail
 refine (HR1.out W (hT.later aJ)).mono ?_
 rintro e w2 ⟨v2,rfl,⟨A1,n1,c1,A2,n2,c2,A3,n3,c3,A4,n4,c4,rfl,h1,h2,h3,h4⟩,aG⟩
 have aA:Below w2.heap.size w2 (w2.alloc (.cells #[.bool p.neg,.slice A1 n1 c1,.slice A2 n2 c2,.bool q.neg,.slice A3 n3 c3,.slice A4 n4 c4] 139)):=(Below.refl _ _).alloc (Nat.le_refl _) _
 have aQ:=aJ.trans (aG.mono aJ.size)
 have aM:=aQ.trans (aA.mono aQ.size)
 have aW:=(q0.below aG q0.lt).alloc (.cells #[.bool p.neg,.slice A1 n1 c1,.slice A2 n2 c2,.bool q.neg,.slice A3 n3 c3,.slice A4 n4 c4] 139)
 have aI:=(q1.below aG q1.lt).alloc (.cells #[.bool p.neg,.slice A1 n1 c1,.slice A2 n2 c2,.bool q.neg,.slice A3 n3 c3,.slice A4 n4 c4] 139)
 have aR:CBlk (w2.alloc (.cells #[.bool p.neg,.slice A1 n1 c1,.slice A2 n2 c2,.bool q.neg,.slice A3 n3 c3,.slice A4 n4 c4] 139)) w2.heap.size #[.bool p.neg,.slice A1 n1 c1,.slice A2 n2 c2,.bool q.neg,.slice A3 n3 c3,.slice A4 n4 c4] 139:=CBlk.new _ _ _ _ rfl
 have bV:=h1.later aA
 have bU:=h2.later aA
 have bR:=h3.later aA
 have bW:=h4.later aA
 clear a0 a1 q0 q1 aJ aG aQ h1 h2 h3 h4 aA
 go_upto_region 2 with (fail)
 generalize (w2.alloc (.cells #[.bool p.neg,.slice A1 n1 c1,.slice A2 n2 c2,.bool q.neg,.slice A3 n3 c3,.slice A4 n4 c4] 139))=w3 at *
 have a0:=aI.cell 0
 have a1:=aI.cell 1
 go_wp2_with fail
 refine (HR2.out w3 (hT.later aM)).mono ?_
 rintro e w4 ⟨v4,rfl,⟨D1,e1,d1,D2,e2,d2,D3,e3,d3,D4,e4,d4,rfl,k1,k2,k3,k4⟩,aE⟩
 have aA:Below w4.heap.size w4 (w4.alloc (.cells #[.bool p'.neg,.slice D1 e1 d1,.slice D2 e2 d2,.bool q'.neg,.slice D3 e3 d3,.slice D4 e4 d4] 139)):=(Below.refl _ _).alloc (Nat.le_refl _) _
 have aX:=aM.trans (aE.mono aM.size)
 have aP:=aX.trans (aA.mono aX.size)
 have bM:=(aW.below aE aW.lt).alloc (.cells #[.bool p'.neg,.slice D1 e1 d1,.slice D2 e2 d2,.bool q'.neg,.slice D3 e3 d3,.slice D4 e4 d4] 139)
 have bA:=(aI.below aE aI.lt).alloc (.cells #[.bool p'.neg,.slice D1 e1 d1,.slice D2 e2 d2,.bool q'.neg,.slice D3 e3 d3,.slice D4 e4 d4] 139)
 have cB:=(aR.below aE aR.lt).alloc (.cells #[.bool p'.neg,.slice D1 e1 d1,.slice D2 e2 d2,.bool q'.neg,.slice D3 e3 d3,.slice D4 e4 d4] 139)
 have bY:CBlk (w4.alloc (.cells #[.bool p'.neg,.slice D1 e1 d1,.slice D2 e2 d2,.bool q'.neg,.slice D3 e3 d3,.slice D4 e4 d4] 139)) w4.heap.size #[.bool p'.neg,.slice D1 e1 d1,.slice D2 e2 d2,.bool q'.neg,.slice D3 e3 d3,.slice D4 e4 d4] 139:=CBlk.new _ _ _ _ rfl
 have bL:=(bV.later aE).later aA
 have bD:=(bU.later aE).later aA
 have bX:=(bR.later aE).later aA
 have bN:=(bW.later aE).later aA
 have cC:=k1.later aA
 have bQ:=k2.later aA
 have bF:=k3.later aA
 have bH:=k4.later aA
 clear a0 a1 aW aI aR aM aE aX bV bU bR bW k1 k2 k3 k4 aA
 go_upto_region 3 with (fail)
 generalize (w4.alloc (.cells #[.bool p'.neg,.slice D1 e1 d1,.slice D2 e2 d2,.bool q'.neg,.slice D3 e3 d3,.slice D4 e4 d4] 139))=w5 at *
 have aO:Below w.heap.size w (w5.alloc (.cells #[.int .i64 x,.int .i64 y] 26)):=aP.alloc aP.size _
 have aD:Below w5.heap.size w5 (w5.alloc (.cells #[.int .i64 x,.int .i64 y] 26)):=(Below.refl _ _).alloc (Nat.le_refl _) _
 have aU:=bM.alloc (.cells #[.int .i64 x,.int .i64 y] 26)
 have aS:=bA.alloc (.cells #[.int .i64 x,.int .i64 y] 26)
 have aF:=cB.alloc (.cells #[.int .i64 x,.int .i64 y] 26)
 have aH:=bY.alloc (.cells #[.int .i64 x,.int .i64 y] 26)
 have bS:=bL.later aD
 have bJ:=bD.later aD
 have bZ:=bX.later aD
 have bI:=bN.later aD
 have bP:=cC.later aD
 have bC:=bQ.later aD
 have bT:=bF.later aD
 have bB:=bH.later aD
 go_wp2_with fail
 refine (zaZ x y E HE.out w5 _ _ rfl).mono ?_
 rintro e w6 ⟨rfl,rfl⟩
 clear bM bA cB bY aP aD bL bD bX bN cC bQ bF bH
 generalize (w5.alloc (.cells #[.int .i64 x,.int .i64 y] 26))=w6 at *
 have cR:=aF.cell 3
 have cG:=aF.cell 4
 have cF:=aF.cell 5
 have cK:=aH.cell 0
 have cN:=aH.cell 1
 have cE:=aH.cell 2
 go_wp2_with fail
 refine (HC1.out _ _ w6 (RatS.mk bZ bI) (RatS.mk bP bC)).mono ?_
 rintro e w7 ⟨rfl,aC⟩
 have aT:=aO.trans (aC.mono aO.size)
 have aV:=aU.below aC aU.lt
 have aY:=aS.below aC aS.lt
 have aK:=aF.below aC aF.lt
 have aN:=aH.below aC aH.lt
 have aZ:=bS.later aC
 have bK:=bJ.later aC
 have bO:=bT.later aC
 have bG:=bB.later aC
 clear cR cG cF cK cN cE aU aS aF aH bS bJ bZ bI bP bC bT bB aO aC
 have cP:=aK.cell 0
 have cJ:=aK.cell 1
 have cO:=aK.cell 2
 have cQ:=aN.cell 3
 have cM:=aN.cell 4
 have cL:=aN.cell 5
 go_wp2_with fail
 refine (HC2.out _ _ w7 (RatS.mk aZ bK) (RatS.mk bO bG)).mono ?_
 rintro e w8 ⟨rfl,aL⟩
 have cS:=aT.trans (aL.mono aT.size)
 have bE:=aV.below aL aV.lt
 have cA:=aY.below aL aY.lt
 have u0:=bE.cell 0
 have u1:=bE.cell 1
 have v0:=cA.cell 0
 have v1:=cA.cell 1
 clear cP cJ cO cQ cM cL aV aY aK aN aZ bK bO bG aL aT
 cases b1<;>cases b2<;>cases b3
 all_goals
  go_wp2
  go_ret2
  exact ⟨by rw [HZ.out];rfl,cS⟩
theorem zgY (s t s2 t2:ByteArray) (w:World) (hT:Tabs w) (hs:s.size≤4294967296) (ht:t.size≤4294967296) (hs2:s2.size≤4294967296) (ht2:t2.size≤4294967296) (X:Int) (hX:X=err2 (za3 s.data.toList t.data.toList) (za3 s2.data.toList t2.data.toList)) :
  Calls Tryz.prog 54 #[.agg #[.string s,.string t],.agg #[.string s2,.string t2]] w fun e w'=>
   e = .returned (.tuple #[.int .i64 (if X≠0 then 0 else if rcmp (zag t.data.toList) (zag s2.data.toList)<0 then -1 else if 0<rcmp (zag s.data.toList) (zag t2.data.toList) then 1 else 0),
    .int .i64 (if X≠0 then X else if rcmp (zag t.data.toList) (zag s2.data.toList)<0 then 0 else if 0<rcmp (zag s.data.toList) (zag t2.data.toList) then 0 else if s=s2∧t=t2∧s=t then 0 else 24)])∧Below w.heap.size w w':=by
 have aA:=Lib.hid (fun W h=>zcu s t W h hs ht)
 have aC:=Lib.hid (fun W h=>zcu s2 t2 W h hs2 ht2)
 by_cases h0:X=0
 ·have n0:¬ (X≠0):=by simpa using h0
  rw [if_neg n0,if_neg n0]
  rw [hX] at h0
  have hx:za3 s.data.toList t.data.toList=0:=by
   unfold err2 at h0
   by_cases h:za3 s.data.toList t.data.toList=0
   ·exact h
   ·rw [if_pos h] at h0;exact absurd h0 h
  have hy:za3 s2.data.toList t2.data.toList=0:=by
   unfold err2 at h0
   rwa [if_neg (by simpa using hx)] at h0
  obtain ⟨a1,a2,a3,a4⟩:=zio _ _ hx
  obtain ⟨b1,b2,b3,b4⟩:=zio _ _ hy
  rw [a3,a4] at aA
  rw [b3,b4] at aC
  have HX:Hid (za3 s.data.toList t.data.toList=0∧za3 s2.data.toList t2.data.toList=0):=⟨hx,hy⟩
  have aD:=Lib.hid (fun v u W h1 h2=>zbc (zag t.data.toList) (zag s2.data.toList) v u W h1 h2 (LenQ.mono (zaB a2) (by omega)) (LenQ.mono (zaB b1) (by omega)))
  have aE:=Lib.hid (fun v u W h1 h2=>zbc (zag s.data.toList) (zag t2.data.toList) v u W h1 h2 (LenQ.mono (zaB a1) (by omega)) (LenQ.mono (zaB b2) (by omega)))
  by_cases d1:rcmp (zag t.data.toList) (zag s2.data.toList)<0
  ·rw [if_pos d1,if_pos d1]
   exact zgu _ _ _ _ _ _ s t s2 t2 w hT HX _ _ aD aE aA aC (by simpa using d1)
  ·rw [if_neg d1,if_neg d1]
   by_cases d2:0<rcmp (zag s.data.toList) (zag t2.data.toList)
   ·rw [if_pos d2,if_pos d2]
    exact zgi _ _ _ _ _ _ s t s2 t2 w hT HX _ _ aD aE aA aC (by simpa using d1) (by simpa using d2)
   ·rw [if_neg d2,if_neg d2]
    exact zgc _ _ _ _ _ _ s t s2 t2 w hT HX _ _ aD aE aA aC (by simpa using d1) (by simpa using d2)
 ·rw [if_pos h0,if_pos h0]
  exact zgN _ _ X _ _ _ _ s t s2 t2 w hT (by rw [Hid,hX];rfl) h0 aA aC
end Go.Proofs.YteajibbphcfmeaaGreatDoor
