/- Contracts of package number's combine of two spans, and of Plus, Minus, Times, Over, CheckSpan. -/
import Derived.Test.YteajibbphcfmeaaGreatDoorVSp2
import Derived.Test.YteajibbphcfmeaaGreatDoorVSp5
import Derived.Test.YteajibbphcfmeaaGreatDoorVDiv4
import Derived.Deep.LoopGhost
namespace Go.Proofs.YteajibbphcfmeaaGreatDoor
open Go.RowKit Bn
set_option maxHeartbeats 4000000 in
set_option maxRecDepth 100000 in
theorem zg3 (fo:FuncId) (x y E:Int) (p q p' q':Q) (s t s2 t2:ByteArray) (w:World) (hT:Tabs w) (HE:Hid (E=if x≠0 then x else y)) (H0:Hid (E≠0)) (HR1:Hid (∀ W,Tabs W→Calls Tryz.prog 111 #[.agg #[.string s,.string t]] W (za6 W p q x))) (HR2:Hid (∀ W,Tabs W→Calls Tryz.prog 111 #[.agg #[.string s2,.string t2]] W (za6 W p' q' y))) :
  Calls Tryz.prog 110 #[.agg #[.string s,.string t],.agg #[.string s2,.string t2],.func (.func 111) #[] #[],.func (.func fo) #[] #[],.func (.func 113) #[] #[]] w (zc8 w [] [] E):=by
 have er:=fun aE w=>show (callFunc 111 aE).run Tryz.prog w = .ok (.enter 111 aE) w from by kernel_rfl
 have bS:(E != 0)=true:=by simpa using H0.out
 have aF:Below w.heap.size w (((w.alloc (.cells #[.string s,.string t] 74)).alloc (.cells #[.string s2,.string t2] 74)).alloc (.cells #[.string { data:=#[] },.string { data:=#[] }] 74)):=((((Below.refl _ _).alloc (by simp<;>omega) _).alloc (by simp<;>omega) _).alloc (by simp<;>omega) _)
 have q0:CBlk (((w.alloc (.cells #[.string s,.string t] 74)).alloc (.cells #[.string s2,.string t2] 74)).alloc (.cells #[.string { data:=#[] },.string { data:=#[] }] 74)) (w.heap.size) #[.string s,.string t] 74:=(((CBlk.new _ _ _ _ (by simp)).alloc _).alloc _)
 have q1:CBlk (((w.alloc (.cells #[.string s,.string t] 74)).alloc (.cells #[.string s2,.string t2] 74)).alloc (.cells #[.string { data:=#[] },.string { data:=#[] }] 74)) (w.heap.size+1) #[.string s2,.string t2] 74:=((CBlk.new _ _ _ _ (by simp)).alloc _)
 have q2:CBlk (((w.alloc (.cells #[.string s,.string t] 74)).alloc (.cells #[.string s2,.string t2] 74)).alloc (.cells #[.string { data:=#[] },.string { data:=#[] }] 74)) (w.heap.size+1+1) #[.string { data:=#[] },.string { data:=#[] }] 74:=(CBlk.new _ _ _ _ (by simp))
 go_enter Tryz.func110,Tryz.ntmps110
 go_upto_region 1 with (fail)
 generalize (((w.alloc (.cells #[.string s,.string t] 74)).alloc (.cells #[.string s2,.string t2] 74)).alloc (.cells #[.string { data:=#[] },.string { data:=#[] }] 74))=W at *
 have a0:=q0.cell 0
 have a1:=q0.cell 1
 go_wp2_with fail
 refine (HR1.out W (hT.later aF)).mono ?_
 rintro e w2 ⟨v2,rfl,⟨A1,n1,c1,A2,n2,c2,A3,n3,c3,A4,n4,c4,rfl,h1,h2,h3,h4⟩,aI⟩
 have aA:Below w2.heap.size w2 (w2.alloc (.cells #[.bool p.neg,.slice A1 n1 c1,.slice A2 n2 c2,.bool q.neg,.slice A3 n3 c3,.slice A4 n4 c4] 139)):=(Below.refl _ _).alloc (Nat.le_refl _) _
 have aM:=aF.trans (aI.mono aF.size)
 have aG:=aM.trans (aA.mono aM.size)
 have aN:=(q1.below aI q1.lt).alloc (.cells #[.bool p.neg,.slice A1 n1 c1,.slice A2 n2 c2,.bool q.neg,.slice A3 n3 c3,.slice A4 n4 c4] 139)
 have aP:=(q2.below aI q2.lt).alloc (.cells #[.bool p.neg,.slice A1 n1 c1,.slice A2 n2 c2,.bool q.neg,.slice A3 n3 c3,.slice A4 n4 c4] 139)
 have aO:CBlk (w2.alloc (.cells #[.bool p.neg,.slice A1 n1 c1,.slice A2 n2 c2,.bool q.neg,.slice A3 n3 c3,.slice A4 n4 c4] 139)) w2.heap.size #[.bool p.neg,.slice A1 n1 c1,.slice A2 n2 c2,.bool q.neg,.slice A3 n3 c3,.slice A4 n4 c4] 139:=CBlk.new _ _ _ _ rfl
 have bB:=h1.later aA
 have bA:=h2.later aA
 have aZ:=h3.later aA
 have bC:=h4.later aA
 clear a0 a1 q0 q1 q2 aF aI aM h1 h2 h3 h4 aA
 go_upto_region 2 with (fail)
 generalize (w2.alloc (.cells #[.bool p.neg,.slice A1 n1 c1,.slice A2 n2 c2,.bool q.neg,.slice A3 n3 c3,.slice A4 n4 c4] 139))=w3 at *
 have a0:=aN.cell 0
 have a1:=aN.cell 1
 go_wp2_with fail
 refine (HR2.out w3 (hT.later aG)).mono ?_
 rintro e w4 ⟨v4,rfl,⟨D1,e1,d1,D2,e2,d2,D3,e3,d3,D4,e4,d4,rfl,k1,k2,k3,k4⟩,aD⟩
 have aA:Below w4.heap.size w4 (w4.alloc (.cells #[.bool p'.neg,.slice D1 e1 d1,.slice D2 e2 d2,.bool q'.neg,.slice D3 e3 d3,.slice D4 e4 d4] 139)):=(Below.refl _ _).alloc (Nat.le_refl _) _
 have aQ:=aG.trans (aD.mono aG.size)
 have aL:=aQ.trans (aA.mono aQ.size)
 have aR:=(aP.below aD aP.lt).alloc (.cells #[.bool p'.neg,.slice D1 e1 d1,.slice D2 e2 d2,.bool q'.neg,.slice D3 e3 d3,.slice D4 e4 d4] 139)
 have bF:=(aO.below aD aO.lt).alloc (.cells #[.bool p'.neg,.slice D1 e1 d1,.slice D2 e2 d2,.bool q'.neg,.slice D3 e3 d3,.slice D4 e4 d4] 139)
 have bE:CBlk (w4.alloc (.cells #[.bool p'.neg,.slice D1 e1 d1,.slice D2 e2 d2,.bool q'.neg,.slice D3 e3 d3,.slice D4 e4 d4] 139)) w4.heap.size #[.bool p'.neg,.slice D1 e1 d1,.slice D2 e2 d2,.bool q'.neg,.slice D3 e3 d3,.slice D4 e4 d4] 139:=CBlk.new _ _ _ _ rfl
 have aV:=(bB.later aD).later aA
 have aS:=(bA.later aD).later aA
 have bD:=(aZ.later aD).later aA
 have aX:=(bC.later aD).later aA
 have bG:=k1.later aA
 have aY:=k2.later aA
 have aT:=k3.later aA
 have aU:=k4.later aA
 clear a0 a1 aN aP aO aG aD aQ bB bA aZ bC k1 k2 k3 k4 aA
 go_upto_region 3 with (fail)
 generalize (w4.alloc (.cells #[.bool p'.neg,.slice D1 e1 d1,.slice D2 e2 d2,.bool q'.neg,.slice D3 e3 d3,.slice D4 e4 d4] 139))=w5 at *
 have aJ:Below w.heap.size w (w5.alloc (.cells #[.int .i64 x,.int .i64 y] 26)):=aL.alloc aL.size _
 have aC:Below w5.heap.size w5 (w5.alloc (.cells #[.int .i64 x,.int .i64 y] 26)):=(Below.refl _ _).alloc (Nat.le_refl _) _
 have aW:=aR.alloc (.cells #[.int .i64 x,.int .i64 y] 26)
 have bK:=bF.alloc (.cells #[.int .i64 x,.int .i64 y] 26)
 have bQ:=bE.alloc (.cells #[.int .i64 x,.int .i64 y] 26)
 have bN:=aV.later aC
 have bJ:=aS.later aC
 have bP:=bD.later aC
 have bR:=aX.later aC
 have bM:=bG.later aC
 have bI:=aY.later aC
 have bO:=aT.later aC
 have bH:=aU.later aC
 go_wp2_with fail
 refine (zaZ x y E HE.out w5 _ _ rfl).mono ?_
 rintro e w6 ⟨rfl,rfl⟩
 clear aR bF bE aL aC aV aS bD aX bG aY aT aU
 generalize (w5.alloc (.cells #[.int .i64 x,.int .i64 y] 26))=w6 at *
 have qz:CBlk (w6.alloc (.cells #[.string { data:=#[] },.string { data:=#[] }] 74)) w6.heap.size #[.string { data:=#[] },.string { data:=#[] }] 74:=CBlk.new _ _ _ _ rfl
 have aH:=aW.alloc (.cells #[.string { data:=#[] },.string { data:=#[] }] 74)
 have bL:Below w.heap.size w (w6.alloc (.cells #[.string { data:=#[] },.string { data:=#[] }] 74)):=aJ.alloc aJ.size _
 clear bK bQ bN bJ bP bR bM bI bO bH aW aJ
 go_upto_region 6 with (fail)
 generalize (w6.alloc (.cells #[.string { data:=#[] },.string { data:=#[] }] 74))=w7 at *
 have x0:=qz.cell 0
 have x1:=qz.cell 1
 have y0:=aH.cell 0
 have y1:=aH.cell 1
 have z0:=aH.frozen 0
 have z1:=aH.frozen 1
 have aK:=zbH bL (g:=w.heap.size+1+1) (by omega) (.string ⟨#[]⟩) (.string ⟨#[]⟩)
 go_wp2
 refine bodyPost_ret (v := .tuple #[.agg #[.string ⟨#[]⟩,.string ⟨#[]⟩],.int .i64 E]) (by simp [results,Tryz.results110,go_sem,y0,y1]) rfl ⟨⟨#[]⟩,⟨#[]⟩,rfl,rfl,rfl,aK⟩
set_option maxHeartbeats 4000000 in
set_option maxRecDepth 100000 in
theorem zhD (fo:FuncId) (x y:Int) (p q p' q' r1 r2:Q) (s t s2 t2:ByteArray) (w:World) (hT:Tabs w) (HX:Hid (x=0∧y=0)) (eo:∀ args w,(callFunc fo args).run Tryz.prog w = .ok (.enter fo args) w) (lr1:LenQ r1 268435456) (lr2:LenQ r2 268435456) (HR1:Hid (∀ W,Tabs W→Calls Tryz.prog 111 #[.agg #[.string s,.string t]] W (za6 W p q x))) (HR2:Hid (∀ W,Tabs W→Calls Tryz.prog 111 #[.agg #[.string s2,.string t2]] W (za6 W p' q' y)))
  (HO:Hid (∀ v u W,Tabs W→ItvS W W.heap.size v p q→ItvS W W.heap.size u p' q'→Calls Tryz.prog fo #[v,u] W (zb0 W r1 r2))) :
  Calls Tryz.prog 110 #[.agg #[.string s,.string t],.agg #[.string s2,.string t2],.func (.func 111) #[] #[],.func (.func fo) #[] #[],.func (.func 113) #[] #[]] w (zc8 w (zdS r1 r2) (zdT r1 r2) (zci r1 r2)):=by
 have er:=fun args w=>show (callFunc 111 args).run Tryz.prog w = .ok (.enter 111 args) w from by kernel_rfl
 have ew:=fun args w=>show (callFunc 113 args).run Tryz.prog w = .ok (.enter 113 args) w from by kernel_rfl
 obtain ⟨E,hE⟩:∃ E:Int,E=if x≠0 then x else y:=⟨_,rfl⟩
 have cM:(E != 0)=false:=by rw [hE,HX.out.1,HX.out.2];rfl
 have HE:=Lib.hid hE
 clear hE
 have aI:Below w.heap.size w (((w.alloc (.cells #[.string s,.string t] 74)).alloc (.cells #[.string s2,.string t2] 74)).alloc (.cells #[.string { data:=#[] },.string { data:=#[] }] 74)):=((((Below.refl _ _).alloc (by simp<;>omega) _).alloc (by simp<;>omega) _).alloc (by simp<;>omega) _)
 have q0:CBlk (((w.alloc (.cells #[.string s,.string t] 74)).alloc (.cells #[.string s2,.string t2] 74)).alloc (.cells #[.string { data:=#[] },.string { data:=#[] }] 74)) (w.heap.size) #[.string s,.string t] 74:=(((CBlk.new _ _ _ _ (by simp)).alloc _).alloc _)
 have q1:CBlk (((w.alloc (.cells #[.string s,.string t] 74)).alloc (.cells #[.string s2,.string t2] 74)).alloc (.cells #[.string { data:=#[] },.string { data:=#[] }] 74)) (w.heap.size+1) #[.string s2,.string t2] 74:=((CBlk.new _ _ _ _ (by simp)).alloc _)
 have q2:CBlk (((w.alloc (.cells #[.string s,.string t] 74)).alloc (.cells #[.string s2,.string t2] 74)).alloc (.cells #[.string { data:=#[] },.string { data:=#[] }] 74)) (w.heap.size+1+1) #[.string { data:=#[] },.string { data:=#[] }] 74:=(CBlk.new _ _ _ _ (by simp))
 go_enter Tryz.func110,Tryz.ntmps110
 go_upto_region 1 with (fail)
 generalize (((w.alloc (.cells #[.string s,.string t] 74)).alloc (.cells #[.string s2,.string t2] 74)).alloc (.cells #[.string { data:=#[] },.string { data:=#[] }] 74))=W at *
 have a0:=q0.cell 0
 have a1:=q0.cell 1
 go_wp2_with fail
 refine (HR1.out W (hT.later aI)).mono ?_
 rintro e w2 ⟨v2,rfl,⟨A1,n1,c1,A2,n2,c2,A3,n3,c3,A4,n4,c4,rfl,h1,h2,h3,h4⟩,aL⟩
 have aA:Below w2.heap.size w2 (w2.alloc (.cells #[.bool p.neg,.slice A1 n1 c1,.slice A2 n2 c2,.bool q.neg,.slice A3 n3 c3,.slice A4 n4 c4] 139)):=(Below.refl _ _).alloc (Nat.le_refl _) _
 have aO:=aI.trans (aL.mono aI.size)
 have aJ:=aO.trans (aA.mono aO.size)
 have aP:=(q1.below aL q1.lt).alloc (.cells #[.bool p.neg,.slice A1 n1 c1,.slice A2 n2 c2,.bool q.neg,.slice A3 n3 c3,.slice A4 n4 c4] 139)
 have aS:=(q2.below aL q2.lt).alloc (.cells #[.bool p.neg,.slice A1 n1 c1,.slice A2 n2 c2,.bool q.neg,.slice A3 n3 c3,.slice A4 n4 c4] 139)
 have aQ:CBlk (w2.alloc (.cells #[.bool p.neg,.slice A1 n1 c1,.slice A2 n2 c2,.bool q.neg,.slice A3 n3 c3,.slice A4 n4 c4] 139)) w2.heap.size #[.bool p.neg,.slice A1 n1 c1,.slice A2 n2 c2,.bool q.neg,.slice A3 n3 c3,.slice A4 n4 c4] 139:=CBlk.new _ _ _ _ rfl
 have bM:=h1.later aA
 have bL:=h2.later aA
 have bI:=h3.later aA
 have bO:=h4.later aA
 clear a0 a1 q0 q1 q2 aI aL aO h1 h2 h3 h4 aA
 go_upto_region 2 with (fail)
 generalize (w2.alloc (.cells #[.bool p.neg,.slice A1 n1 c1,.slice A2 n2 c2,.bool q.neg,.slice A3 n3 c3,.slice A4 n4 c4] 139))=w3 at *
 have a0:=aP.cell 0
 have a1:=aP.cell 1
 go_wp2_with fail
 refine (HR2.out w3 (hT.later aJ)).mono ?_
 rintro e w4 ⟨v4,rfl,⟨D1,e1,d1,D2,e2,d2,D3,e3,d3,D4,e4,d4,rfl,k1,k2,k3,k4⟩,aD⟩
 have aA:Below w4.heap.size w4 (w4.alloc (.cells #[.bool p'.neg,.slice D1 e1 d1,.slice D2 e2 d2,.bool q'.neg,.slice D3 e3 d3,.slice D4 e4 d4] 139)):=(Below.refl _ _).alloc (Nat.le_refl _) _
 have aU:=aJ.trans (aD.mono aJ.size)
 have aN:=aU.trans (aA.mono aU.size)
 have aW:=(aS.below aD aS.lt).alloc (.cells #[.bool p'.neg,.slice D1 e1 d1,.slice D2 e2 d2,.bool q'.neg,.slice D3 e3 d3,.slice D4 e4 d4] 139)
 have bS:=(aQ.below aD aQ.lt).alloc (.cells #[.bool p'.neg,.slice D1 e1 d1,.slice D2 e2 d2,.bool q'.neg,.slice D3 e3 d3,.slice D4 e4 d4] 139)
 have bQ:CBlk (w4.alloc (.cells #[.bool p'.neg,.slice D1 e1 d1,.slice D2 e2 d2,.bool q'.neg,.slice D3 e3 d3,.slice D4 e4 d4] 139)) w4.heap.size #[.bool p'.neg,.slice D1 e1 d1,.slice D2 e2 d2,.bool q'.neg,.slice D3 e3 d3,.slice D4 e4 d4] 139:=CBlk.new _ _ _ _ rfl
 have bC:=(bM.later aD).later aA
 have aY:=(bL.later aD).later aA
 have bP:=(bI.later aD).later aA
 have bE:=(bO.later aD).later aA
 have bT:=k1.later aA
 have bH:=k2.later aA
 have aZ:=k3.later aA
 have bA:=k4.later aA
 clear a0 a1 aP aS aQ aJ aD aU bM bL bI bO k1 k2 k3 k4 aA
 go_upto_region 3 with (fail)
 generalize (w4.alloc (.cells #[.bool p'.neg,.slice D1 e1 d1,.slice D2 e2 d2,.bool q'.neg,.slice D3 e3 d3,.slice D4 e4 d4] 139))=w5 at *
 have aG:Below w.heap.size w (w5.alloc (.cells #[.int .i64 x,.int .i64 y] 26)):=aN.alloc aN.size _
 have aC:Below w5.heap.size w5 (w5.alloc (.cells #[.int .i64 x,.int .i64 y] 26)):=(Below.refl _ _).alloc (Nat.le_refl _) _
 have aR:=aW.alloc (.cells #[.int .i64 x,.int .i64 y] 26)
 have aE:=bS.alloc (.cells #[.int .i64 x,.int .i64 y] 26)
 have aF:=bQ.alloc (.cells #[.int .i64 x,.int .i64 y] 26)
 have bJ:=bC.later aC
 have bB:=aY.later aC
 have bR:=bP.later aC
 have bU:=bE.later aC
 have bG:=bT.later aC
 have aX:=bH.later aC
 have bK:=aZ.later aC
 have aV:=bA.later aC
 go_wp2_with fail
 refine (zaZ x y E HE.out w5 _ _ rfl).mono ?_
 rintro e w6 ⟨rfl,rfl⟩
 clear aW bS bQ aN aC bC aY bP bE bT bH aZ bA
 generalize (w5.alloc (.cells #[.int .i64 x,.int .i64 y] 26))=w6 at *
 have cI:=aE.cell 0
 have cB:=aE.cell 1
 have cH:=aE.cell 2
 have cK:=aE.cell 3
 have bY:=aE.cell 4
 have bW:=aE.cell 5
 have cC:=aF.cell 0
 have cG:=aF.cell 1
 have bV:=aF.cell 2
 have cJ:=aF.cell 3
 have cF:=aF.cell 4
 have cE:=aF.cell 5
 have aT:=hT.later aG
 go_wp2_with fail
 refine (HO.out _ _ w6 aT ⟨A1,n1,c1,A2,n2,c2,A3,n3,c3,A4,n4,c4,rfl,bJ,bB,bR,bU⟩ ⟨D1,e1,d1,D2,e2,d2,D3,e3,d3,D4,e4,d4,rfl,bG,aX,bK,aV⟩).mono ?_
 rintro e w7 ⟨v7,rfl,h7,aH⟩
 have bF:=aG.trans (aH.mono aG.size)
 have bN:=aR.below aH aR.lt
 have cA:=aT.later aH
 clear cI cC cB cG cH bV cK cJ bY cF bW cE aE aF bJ bB bR bU bG aX bK aV aR aG aH aT
 go_wp2_with fail
 refine (zdz r1 r2 v7 w7 cA h7 lr1 lr2).mono ?_
 rintro e w8 ⟨z1,z2,rfl,bX,bZ,bD⟩
 have cL:=bF.trans (bD.mono bF.size)
 have aK:=bN.below bD bN.lt
 have y0:=aK.cell 0
 have y1:=aK.cell 1
 have f0:=aK.frozen 0
 have f1:=aK.frozen 1
 have aM:=zbH cL (g:=w.heap.size+1+1) (by omega) (.string z1) (.string z2)
 go_wp2
 refine bodyPost_ret (v := .tuple #[.agg #[.string z1,.string z2],.int .i64 (zci r1 r2)]) (by simp [results,Tryz.results110,go_sem,y0,y1]) rfl ⟨z1,z2,rfl,bX,bZ,aM⟩
theorem zio (l m:List UInt8) (h:za3 l m=0):zam l=0∧zam m=0∧rdLo l m=zag l∧rdHi l m=zag m:=by
 unfold rdLo rdHi
 rw [if_pos h,if_pos h]
 unfold za3 at h
 by_cases hx:zam l=0
 ·by_cases hy:zam m=0
  ·exact ⟨hx,hy,rfl,rfl⟩
  ·rw [if_neg (by simpa using hx),if_pos hy] at h;exact absurd h hy
 ·rw [if_pos hx] at h;exact absurd h hx
theorem zeB (fo:FuncId) (r:Q→Q→Q→Q→Q × Q) (s t s2 t2:ByteArray) (w:World) (hT:Tabs w) (hs:s.size≤4294967296) (ht:t.size≤4294967296) (hs2:s2.size≤4294967296) (ht2:t2.size≤4294967296) (eo:∀ args w,(callFunc fo args).run Tryz.prog w = .ok (.enter fo args) w)
  (HO:∀ p q p' q' v u W,LenQ p 600→LenQ q 600→LenQ p' 600→LenQ q' 600→Tabs W→ItvS W W.heap.size v p q→ItvS W W.heap.size u p' q'→Calls Tryz.prog fo #[v,u] W (zb0 W (r p q p' q').1 (r p q p' q').2))
  (HL:∀ p q p' q',LenQ p 600→LenQ q 600→LenQ p' 600→LenQ q' 600→LenQ (r p q p' q').1 268435456∧LenQ (r p q p' q').2 268435456) (X:Int) (hX:X=err2 (za3 s.data.toList t.data.toList) (za3 s2.data.toList t2.data.toList)) (R:Q × Q) (hR:R=r (zag s.data.toList) (zag t.data.toList) (zag s2.data.toList) (zag t2.data.toList)) :
  Calls Tryz.prog 110 #[.agg #[.string s,.string t],.agg #[.string s2,.string t2],.func (.func 111) #[] #[],.func (.func fo) #[] #[],.func (.func 113) #[] #[]] w (zc8 w (if X≠0 then [] else zdS R.1 R.2) (if X≠0 then [] else zdT R.1 R.2) (if X≠0 then X else zci R.1 R.2)):=by
 have aA:=Lib.hid (fun W h=>zcu s t W h hs ht)
 have aC:=Lib.hid (fun W h=>zcu s2 t2 W h hs2 ht2)
 by_cases h0:X=0
 ·rw [if_neg (by simpa using h0),if_neg (by simpa using h0),if_neg (by simpa using h0)]
  rw [hX] at h0
  have hx:za3 s.data.toList t.data.toList=0:=by
   unfold err2 at h0
   by_cases h:za3 s.data.toList t.data.toList=0
   ·exact h
   ·rw [if_pos h] at h0;exact absurd h0 h
  have hy:za3 s2.data.toList t2.data.toList=0:=by
   unfold err2 at h0
   rwa [if_neg (by simpa using hx)] at h0
  obtain ⟨a1,a2,a3,a4⟩:=zio _ _ hx
  obtain ⟨b1,b2,b3,b4⟩:=zio _ _ hy
  rw [hR]
  refine zhD fo _ _ _ _ _ _ _ _ s t s2 t2 w hT ⟨hx,hy⟩ eo ?_ ?_ aA aC ?_
  ·exact (HL _ _ _ _ (zaB a1) (zaB a2) (zaB b1) (zaB b2)).1
  ·exact (HL _ _ _ _ (zaB a1) (zaB a2) (zaB b1) (zaB b2)).2
  ·exact fun v u W h1 h2 h3=>by
    rw [a3,a4] at h2
    rw [b3,b4] at h3
    exact (HO _ _ _ _ v u W (zaB a1) (zaB a2) (zaB b1) (zaB b2) h1 h2 h3)
 ·rw [if_pos h0,if_pos h0,if_pos h0]
  exact zg3 fo _ _ X _ _ _ _ s t s2 t2 w hT (by rw [Hid,hX];rfl) h0 aA aC
theorem zhe:LenQ zck 268435456:=⟨by show (digs 0).length≤_;rw [digs_zero];exact Nat.zero_le _,by show (digs 0).length≤_;rw [digs_zero];exact Nat.zero_le _⟩
theorem zjr (p q p' q':Q) (hp:LenQ p 600) (hq:LenQ q 600) (hp2:LenQ p' 600) (hq2:LenQ q' 600):LenQ (ze8 p q p' q').1 268435456∧LenQ (ze8 p q p' q').2 268435456:=by
 unfold ze8
 exact zhW _ (fun q=>LenQ q 268435456) ((zbg (K:=600) (L:=600) _ hp hp2 (by omega)).mono (by omega)) _ (by
  intro x hx
  simp only [List.mem_cons,List.not_mem_nil,or_false] at hx
  rcases hx with rfl | rfl | rfl
  ·exact (zbg (K:=600) (L:=600) _ hp hq2 (by omega)).mono (by omega)
  ·exact (zbg (K:=600) (L:=600) _ hq hp2 (by omega)).mono (by omega)
  ·exact (zbg (K:=600) (L:=600) _ hq hq2 (by omega)).mono (by omega))
theorem zj9 (p q p' q':Q) (hp:LenQ p 600) (hq:LenQ q 600) (hp2:LenQ p' 600) (hq2:LenQ q' 600):LenQ (zfu p q p' q').1 268435456∧LenQ (zfu p q p' q').2 268435456:=by
 unfold zfu
 split
 ·exact ⟨zhe,zhe⟩
 ·exact zhW _ (fun q=>LenQ q 268435456) ((zbn (K:=600) (L:=600) _ hp hp2 (by omega)).mono (by omega)) _ (by
  intro x hx
  simp only [List.mem_cons,List.not_mem_nil,or_false] at hx
  rcases hx with rfl | rfl | rfl
  ·exact (zbn (K:=600) (L:=600) _ hp hq2 (by omega)).mono (by omega)
  ·exact (zbn (K:=600) (L:=600) _ hq hp2 (by omega)).mono (by omega)
  ·exact (zbn (K:=600) (L:=600) _ hq hq2 (by omega)).mono (by omega))
set_option maxHeartbeats 1000000 in
set_option maxRecDepth 100000 in
theorem zi3 (s t s2 t2:ByteArray) (w:World) (hT:Tabs w) (hs:s.size≤4294967296) (ht:t.size≤4294967296) (hs2:s2.size≤4294967296) (ht2:t2.size≤4294967296) (X:Int) (hX:X=err2 (za3 s.data.toList t.data.toList) (za3 s2.data.toList t2.data.toList)) (R:Q × Q) (hR:R=ze8 (zag s.data.toList) (zag t.data.toList) (zag s2.data.toList) (zag t2.data.toList)) :
  Calls Tryz.prog 51 #[.agg #[.string s,.string t],.agg #[.string s2,.string t2]] w (zc8 w (if X≠0 then [] else zdS R.1 R.2) (if X≠0 then [] else zdT R.1 R.2) (if X≠0 then X else zci R.1 R.2)):=by
 have hc:=fun W h=>zeB 112 ze8 s t s2 t2 W h hs ht hs2 ht2 (fun aF w=>by kernel_rfl) (fun p q p' q' v u W a b c d h1 h2 h3=>ziY _ _ _ _ v u W h1 h2 h3 (LenQ.mono a (by omega)) (LenQ.mono b (by omega)) (LenQ.mono c (by omega)) (LenQ.mono d (by omega))) zjr X hX R hR
 generalize (if X≠0 then [] else zdS R.1 R.2)=l at *
 generalize (if X≠0 then [] else zdT R.1 R.2)=m at *
 generalize (if X≠0 then X else zci R.1 R.2)=E at *
 have HC:=Lib.hid hc
 clear hc
 have aD:Below w.heap.size w (((w.alloc (.cells #[.string s,.string t] 74)).alloc (.cells #[.string s2,.string t2] 74)).alloc (.cells #[.string { data:=#[] },.string { data:=#[] }] 74)):=((((Below.refl _ _).alloc (by simp<;>omega) _).alloc (by simp<;>omega) _).alloc (by simp<;>omega) _)
 have q0:CBlk (((w.alloc (.cells #[.string s,.string t] 74)).alloc (.cells #[.string s2,.string t2] 74)).alloc (.cells #[.string { data:=#[] },.string { data:=#[] }] 74)) (w.heap.size) #[.string s,.string t] 74:=(((CBlk.new _ _ _ _ (by simp)).alloc _).alloc _)
 have q1:CBlk (((w.alloc (.cells #[.string s,.string t] 74)).alloc (.cells #[.string s2,.string t2] 74)).alloc (.cells #[.string { data:=#[] },.string { data:=#[] }] 74)) (w.heap.size+1) #[.string s2,.string t2] 74:=((CBlk.new _ _ _ _ (by simp)).alloc _)
 have q2:CBlk (((w.alloc (.cells #[.string s,.string t] 74)).alloc (.cells #[.string s2,.string t2] 74)).alloc (.cells #[.string { data:=#[] },.string { data:=#[] }] 74)) (w.heap.size+1+1) #[.string { data:=#[] },.string { data:=#[] }] 74:=(CBlk.new _ _ _ _ (by simp))
 go_enter Tryz.func51,Tryz.ntmps51
 go_upto_region 1 with (fail)
 generalize (((w.alloc (.cells #[.string s,.string t] 74)).alloc (.cells #[.string s2,.string t2] 74)).alloc (.cells #[.string { data:=#[] },.string { data:=#[] }] 74))=W at *
 have a0:=q0.cell 0
 have a1:=q0.cell 1
 have b0:=q1.cell 0
 have b1:=q1.cell 1
 go_wp2_with fail
 refine (HC.out W (hT.later aD)).mono ?_
 rintro e w8 ⟨z1,z2,rfl,aG,aH,aE⟩
 have aI:=aD.trans (aE.mono aD.size)
 have aA:=q2.below aE q2.lt
 have y0:=aA.cell 0
 have y1:=aA.cell 1
 have f0:=aA.frozen 0
 have f1:=aA.frozen 1
 have aC:=zbH aI (g:=w.heap.size+1+1) (by omega) (.string z1) (.string z2)
 go_wp2
 refine bodyPost_ret (v := .tuple #[.agg #[.string z1,.string z2],.int .i64 E]) (by simp [results,Tryz.results51,go_sem,y0,y1]) rfl ⟨z1,z2,rfl,aG,aH,aC⟩
set_option maxHeartbeats 1000000 in
set_option maxRecDepth 100000 in
theorem zj6 (s t s2 t2:ByteArray) (w:World) (hT:Tabs w) (hs:s.size≤4294967296) (ht:t.size≤4294967296) (hs2:s2.size≤4294967296) (ht2:t2.size≤4294967296) (X:Int) (hX:X=err2 (za3 s.data.toList t.data.toList) (za3 s2.data.toList t2.data.toList)) (R:Q × Q) (hR:R=zfu (zag s.data.toList) (zag t.data.toList) (zag s2.data.toList) (zag t2.data.toList)) :
  Calls Tryz.prog 53 #[.agg #[.string s,.string t],.agg #[.string s2,.string t2]] w (zc8 w (if X≠0 then [] else zdS R.1 R.2) (if X≠0 then [] else zdT R.1 R.2) (if X≠0 then X else zci R.1 R.2)):=by
 have hc:=fun W h=>zeB 114 zfu s t s2 t2 W h hs ht hs2 ht2 (fun aF w=>by kernel_rfl) (fun p q p' q' v u W a b c d h1 h2 h3=>zk5 _ _ _ _ v u W h1 h2 h3 (LenQ.mono a (by omega)) (LenQ.mono b (by omega)) (LenQ.mono c (by omega)) (LenQ.mono d (by omega))) zj9 X hX R hR
 generalize (if X≠0 then [] else zdS R.1 R.2)=l at *
 generalize (if X≠0 then [] else zdT R.1 R.2)=m at *
 generalize (if X≠0 then X else zci R.1 R.2)=E at *
 have HC:=Lib.hid hc
 clear hc
 have aD:Below w.heap.size w (((w.alloc (.cells #[.string s,.string t] 74)).alloc (.cells #[.string s2,.string t2] 74)).alloc (.cells #[.string { data:=#[] },.string { data:=#[] }] 74)):=((((Below.refl _ _).alloc (by simp<;>omega) _).alloc (by simp<;>omega) _).alloc (by simp<;>omega) _)
 have q0:CBlk (((w.alloc (.cells #[.string s,.string t] 74)).alloc (.cells #[.string s2,.string t2] 74)).alloc (.cells #[.string { data:=#[] },.string { data:=#[] }] 74)) (w.heap.size) #[.string s,.string t] 74:=(((CBlk.new _ _ _ _ (by simp)).alloc _).alloc _)
 have q1:CBlk (((w.alloc (.cells #[.string s,.string t] 74)).alloc (.cells #[.string s2,.string t2] 74)).alloc (.cells #[.string { data:=#[] },.string { data:=#[] }] 74)) (w.heap.size+1) #[.string s2,.string t2] 74:=((CBlk.new _ _ _ _ (by simp)).alloc _)
 have q2:CBlk (((w.alloc (.cells #[.string s,.string t] 74)).alloc (.cells #[.string s2,.string t2] 74)).alloc (.cells #[.string { data:=#[] },.string { data:=#[] }] 74)) (w.heap.size+1+1) #[.string { data:=#[] },.string { data:=#[] }] 74:=(CBlk.new _ _ _ _ (by simp))
 go_enter Tryz.func53,Tryz.ntmps53
 go_upto_region 1 with (fail)
 generalize (((w.alloc (.cells #[.string s,.string t] 74)).alloc (.cells #[.string s2,.string t2] 74)).alloc (.cells #[.string { data:=#[] },.string { data:=#[] }] 74))=W at *
 have a0:=q0.cell 0
 have a1:=q0.cell 1
 have b0:=q1.cell 0
 have b1:=q1.cell 1
 go_wp2_with fail
 refine (HC.out W (hT.later aD)).mono ?_
 rintro e w8 ⟨z1,z2,rfl,aG,aH,aE⟩
 have aI:=aD.trans (aE.mono aD.size)
 have aA:=q2.below aE q2.lt
 have y0:=aA.cell 0
 have y1:=aA.cell 1
 have f0:=aA.frozen 0
 have f1:=aA.frozen 1
 have aC:=zbH aI (g:=w.heap.size+1+1) (by omega) (.string z1) (.string z2)
 go_wp2
 refine bodyPost_ret (v := .tuple #[.agg #[.string z1,.string z2],.int .i64 E]) (by simp [results,Tryz.results53,go_sem,y0,y1]) rfl ⟨z1,z2,rfl,aG,aH,aC⟩
def zeG (a s:Nat):Prop:=s*s≤a∧a<(s+1)*(s+1)
theorem zlx {a s r:Nat} (hs:zeG a s) (hr:s≤r) (h0:0<r):s≤(r+a / r) / 2:=by
 have aA:a<r*(a / r+1):=by
  have h:=Nat.div_add_mod a r
  have h2:=Nat.mod_lt a h0
  rw [Nat.mul_add,Nat.mul_one]
  omega
 rw [Nat.le_div_iff_mul_le (by omega)]
 rcases Nat.lt_or_ge (r+a / r) (s*2) with h | h
 ·exfalso
  obtain ⟨d,rfl⟩:∃ d,r=s+d:=⟨r - s,by omega⟩
  generalize a / (s+d)=q at *
  have h3:q+1≤s - d:=by omega
  have h4:(s+d)*(q+1)≤(s+d)*(s - d):=Nat.mul_le_mul_left _ h3
  have h5:(s+d)*(s - d)≤s*s:=by
   obtain ⟨e,rfl⟩:∃ e,s=d+e:=⟨s - d,by omega⟩
   have e0:d+e - d=e:=by omega
   have e1:(d+e+d)*e=d*e+e*e+d*e:=by rw [Nat.add_mul,Nat.add_mul]
   have e2:(d+e)*(d+e)=d*d+d*e+(e*d+e*e):=by rw [Nat.add_mul,Nat.mul_add,Nat.mul_add]
   have e3:=Nat.mul_comm d e
   rw [e0,e1,e2]
   omega
  have:=hs.1
  omega
 ·exact h
theorem zh0 {a s r:Nat} (hs:zeG a s) (hr:s≤r) (h0:0<r) (h:r≤(r+a / r) / 2):r=s:=by
 rw [Nat.le_div_iff_mul_le (by omega)] at h
 have h1:r≤a / r:=by omega
 have h2:r*r≤a:=(Nat.le_div_iff_mul_le h0).1 h1
 rcases Nat.lt_or_ge s r with h3 | h3
 ·exfalso
  have:(s+1)*(s+1)≤r*r:=Nat.mul_le_mul h3 h3
  have:=hs.2
  omega
 ·omega
theorem zg4 {a s:Nat} (hs:zeG a s):s≤2 ^ ((zaJ a+1) / 2):=by
 rcases Nat.lt_or_ge (2 ^ ((zaJ a+1) / 2)) s with h | h
 ·exfalso
  have h1:2 ^ ((zaJ a+1) / 2)*2 ^ ((zaJ a+1) / 2)≤s*s:=Nat.mul_le_mul (Nat.le_of_lt h) (Nat.le_of_lt h)
  rw [←Nat.pow_add] at h1
  have h2:2 ^ zaJ a≤2 ^ ((zaJ a+1) / 2+(zaJ a+1) / 2):=Nat.pow_le_pow_right (by omega) (by omega)
  have h3:=zeN a
  have:=hs.1
  omega
 ·exact h
theorem zj8 {x n:Nat} (h:(digs x).length≤n):zaJ x≤64*n:=by
 rcases Nat.eq_zero_or_pos x with rfl | hx
 ·simp [zaJ]
 ·have h1:=zeO hx
  have h2:=zac x
  have h3:B ^ (digs x).length≤B ^ n:=Nat.pow_le_pow_right zaL h
  rw [zeq,←Nat.pow_mul,←Nat.pow_mul] at *
  rcases Nat.lt_or_ge (64*n) (zaJ x) with h4 | h4
  ·exfalso
   have h5:2 ^ (64*n)≤2 ^ (zaJ x - 1):=Nat.pow_le_pow_right (by omega) (by omega)
   omega
  ·exact h4
set_option maxHeartbeats 4000000 in
set_option maxRecDepth 100000 in
theorem zgA (A:Option Addr) (n c x s:Nat) (w:World) (ha:NatS w w.heap.size A n c x) (hs:zeG x s) (hn:n≤16777216) :
  Calls Tryz.prog 160 #[.slice A n c] w (zbX w s):=by
 have h1:=ha.nc
 have h2:=ha.cm
 have hz:=fun W:World=>zb9 A n c W (by omega)
 unfold maxLen at h2
 have HS:=Lib.hid hs
 clear hs
 by_cases h0:n=0
 ·subst h0
  obtain rfl:x=0:=za1.1 ha.len
  have bG:s=0:=by
   rcases Nat.eq_zero_or_pos s with h | h
   ·exact h
   ·have:=HS.out.1
    have:=Nat.mul_pos h h
    omega
  subst bG
  go_enter Tryz.func160,Tryz.ntmps160
  go_wp2_with fail
  refine (hz _).mono ?_
  rintro e w1 ⟨rfl,rfl⟩
  go_wp2_with fail
  go_ret
  exact ⟨A,0,c,rfl,ha,Below.refl _ _⟩
 ·have hx:0<x:=by
   rcases Nat.eq_zero_or_pos x with rfl | h
   ·exact absurd (by rw [←ha.len,digs_zero];rfl) h0
   ·exact h
  have bH:(((n:Nat):Int)==0)=false:=by rw [beq_eq_false_iff_ne];omega
  simp only [bH] at hz
  have aR:=fun W:World=>fun h=>zcQ A n c x W h (by omega)
  have bE:=zj8 (x:=x) (n:=n) (by rw [ha.len];exact Nat.le_refl _)
  have aG:=zg4 HS.out
  obtain ⟨nb,aE⟩:∃ nb,nb=zaJ x:=⟨_,rfl⟩
  rw [←aE] at bE aG
  simp only [←aE] at aR
  obtain ⟨k,hk⟩:∃ k,k=(nb+1) / 2:=⟨_,rfl⟩
  rw [←hk] at aG
  have ek:((nb:Int)+1) / 2=(k:Int):=by omega
  have bC:k≤1099511627776:=by omega
  have HK:=Lib.hid hk
  clear hk aE
  have aS:=zah 1 w (by omega) (by omega)
  go_enter Tryz.func160,Tryz.ntmps160
  go_wp2_with fail
  refine (hz _).mono ?_
  rintro e w1 ⟨rfl,rfl⟩
  go_wp2_with fail
  refine aS.mono ?_
  rintro e w2 ⟨A1,m1,c1,rfl,aP,aK⟩
  go_wp2_with fail
  refine (aR _ (ha.later aK)).mono ?_
  rintro e w3 ⟨rfl,rfl⟩
  have bB:m1≤1099511627776:=by
   have:=aP.len
   have k2:(digs (Int.toNat 1)).length≤1:=digs_length_le (by decide)
   omega
  have aU:=zau A1 m1 c1 _ k _ aP bB bC
  go_wp2_with fail
  refine aU.mono ?_
  rintro e w4 ⟨A4,m4,c4,rfl,aJ,aT⟩
  rw [show Int.toNat 1*2 ^ k=2 ^ k from by simp] at aJ
  have aA:Below w.heap.size w w4:=aK.trans (aT.mono aK.size)
  have bA:m4≤n+1:=by
   have k1:=aJ.len
   have k2:(digs (2 ^ k)).length≤n+1:=digs_length_le (by
    rw [zeq,←Nat.pow_mul]
    exact (Nat.pow_lt_pow_iff_right (by omega)).2 (by omega))
   omega
  have hp:=Nat.two_pow_pos k
  obtain ⟨r0,aV⟩:∃ r0,r0=2 ^ k:=⟨_,rfl⟩
  rw [←aV] at aG aJ hp
  clear aV aS aU aP aK aT aR ek
  go_wp2_with fail
  go_loopg [3] r0 (fun G sl we=>∃ A2 m2 c2 r,sl = .slice A2 m2 c2∧NatS we we.heap.size A2 m2 c2 r∧m2≤n+1∧0<r∧s≤r∧r≤G∧Below w.heap.size w we)
  case atStart=>exact ⟨A4,m4,c4,r0,rfl,aJ,bA,hp,aG,Nat.le_refl _,aA⟩
  case round=>
   clear aJ bA hp aG aA
   obtain ⟨A2,m2,c2,r,rfl,aI,bL,hr,aZ,bO,aA⟩:=hrel
   have bK:=zcs A A2 n c m2 c2 x r wr (ha.later aA) aI hr (by omega)
   go_wp2_with fail
   refine bK.mono ?_
   rintro e w5 ⟨A5,m5,c5,A6,m6,c6,rfl,aO,_,aL⟩
   have bR:m5≤n:=by
    have k1:=aO.len
    have k2:=zaa (Nat.div_le_self x r)
    have k3:=ha.len
    omega
   go_wp2_with fail
   refine (zb3 A2 A5 m2 c2 m5 c5 r (x / r) _ (aI.later aL) aO (by omega) (by omega)).mono ?_
   rintro e w7 ⟨A7,m7,c7,rfl,aW,aM⟩
   have bQ:m7≤n+2:=by
    have k1:=aW.len
    have k2:(digs (r+x / r)).length≤n+2:=digs_length_le (by
     have j1:=zac r
     have j2:=zac (x / r)
     rw [aI.len] at j1
     rw [aO.len] at j2
     have j3:B ^ m2≤B ^ (n+1):=Nat.pow_le_pow_right zaL bL
     have j4:B ^ m5≤B ^ (n+1):=Nat.pow_le_pow_right zaL (by omega)
     exact zhl _ _ _ _ _ (Nat.lt_of_lt_of_le j1 j3) (Nat.lt_of_lt_of_le j2 j4) (Nat.le_refl _) (by rw [Nat.pow_succ B (n+1)];exact Nat.mul_le_mul_left _ zd0))
    omega
   go_wp2_with fail
   refine (zaO A7 m7 c7 (r+x / r) 1 _ aW (by omega) (by omega)).mono ?_
   rintro e w8 ⟨aN,bJ⟩
   obtain ⟨A8,m8,c8,bI,aF,_⟩:=bJ.ret aN
   subst bI
   rw [Nat.pow_one] at aF
   have aD:Below w.heap.size w w8:=aA.trans ((aL.trans ((aM.trans (aN.mono aM.size)).mono aL.size)).mono aA.size)
   have aC:=((aI.later aL).later aM).later aN
   have aQ:=zlx HS.out aZ hr
   have aH:=zaM A8 A2 m8 c8 m2 c2 _ r w8 aF aC
   obtain ⟨t,ht⟩:∃ t,t=(r+x / r) / 2:=⟨_,rfl⟩
   rw [←ht] at aQ aH aF
   by_cases hrt:r≤t
   ·have aY:r=s:=zh0 HS.out aZ hr (by rw [←ht];exact hrt)
    have hv:∃ v,v=ncmp t r∧0≤v:=⟨_,rfl,by unfold ncmp;rw [if_neg (by omega)];split<;>omega⟩
    obtain ⟨v,aX,bN⟩:=hv
    rw [←aX] at aH
    have bD:=Lib.hid aY
    clear aX aY ht aQ
    go_wp2_with fail
    refine aH.mono ?_
    rintro e w9 ⟨rfl,q,rfl⟩
    go_wp2_with fail
    go_ret
    exact ⟨A2,m2,c2,rfl,by rw [←bD.out];exact ⟨aC.words,aC.nc,aC.cm⟩,zab aD q⟩
   ·rw [ncmp_lt (by omega)] at aH
    have bP:=Lib.hid ht
    clear ht
    have bF:m8≤n+1:=by
     have k1:=aF.len
     have k2:=zaa (show t≤r by omega)
     have k3:=aI.len
     omega
    have bM:0<t:=by
     have k1:0<s:=by
      rcases Nat.eq_zero_or_pos s with h | h
      ·have:=HS.out.2
       rw [h] at this
       omega
      ·exact h
     omega
    go_wp2_with fail
    refine aH.mono ?_
    rintro e w9 ⟨rfl,q,rfl⟩
    go_wp2_with fail
    go_roundg t
    case measure=>omega
    case rel=>exact ⟨A8,m8,c8,t,rfl,⟨aF.words,aF.nc,aF.cm⟩,bF,bM,aQ,Nat.le_refl _,zab aD q⟩
end Go.Proofs.YteajibbphcfmeaaGreatDoor
