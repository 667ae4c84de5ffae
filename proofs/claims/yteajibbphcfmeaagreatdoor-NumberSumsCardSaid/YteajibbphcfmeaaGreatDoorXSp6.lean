/- Contracts of package number's combine of two spans, and of Plus, Minus, Times, Over, CheckSpan. -/
import Derived.Test.YteajibbphcfmeaaGreatDoorXSp2
import Derived.Test.YteajibbphcfmeaaGreatDoorXSp5
import Derived.Test.YteajibbphcfmeaaGreatDoorXDiv4
import Derived.Deep.LoopGhost
namespace Go.Proofs.YteajibbphcfmeaaGreatDoor
open Go.RowKit Bn
set_option maxHeartbeats 4000000 in
set_option maxRecDepth 100000 in
theorem zg3 (fo:FuncId) (x y E:Int) (p q p' q':Q) (s t s2 t2:ByteArray) (w:World) (hT:Tabs w) (HE:Hid (E=if x≠0 then x else y)) (H0:Hid (E≠0)) (HR1:Hid (∀ W,Tabs W→Calls Tryz.prog 111 #[.agg #[.string s,.string t]] W (zbd W p q x))) (HR2:Hid (∀ W,Tabs W→Calls Tryz.prog 111 #[.agg #[.string s2,.string t2]] W (zbd W p' q' y))) :
  Calls Tryz.prog 110 #[.agg #[.string s,.string t],.agg #[.string s2,.string t2],.func (.func 111) #[] #[],.func (.func fo) #[] #[],.func (.func 113) #[] #[]] w (zdj w [] [] E):=by
 have er:=fun aE w=>show (callFunc 111 aE).run Tryz.prog w = .ok (.enter 111 aE) w from by kernel_rfl
 have bS:(E != 0)=true:=by simpa using H0.out
 have aH:Below w.heap.size w (((w.alloc (.cells #[.string s,.string t] 74)).alloc (.cells #[.string s2,.string t2] 74)).alloc (.cells #[.string { data:=#[] },.string { data:=#[] }] 74)):=((((Below.refl _ _).alloc (by simp<;>omega) _).alloc (by simp<;>omega) _).alloc (by simp<;>omega) _);have q0:CBlk (((w.alloc (.cells #[.string s,.string t] 74)).alloc (.cells #[.string s2,.string t2] 74)).alloc (.cells #[.string { data:=#[] },.string { data:=#[] }] 74)) (w.heap.size) #[.string s,.string t] 74:=(((CBlk.new _ _ _ _ (by simp)).alloc _).alloc _);have q1:CBlk (((w.alloc (.cells #[.string s,.string t] 74)).alloc (.cells #[.string s2,.string t2] 74)).alloc (.cells #[.string { data:=#[] },.string { data:=#[] }] 74)) (w.heap.size+1) #[.string s2,.string t2] 74:=((CBlk.new _ _ _ _ (by simp)).alloc _);have q2:CBlk (((w.alloc (.cells #[.string s,.string t] 74)).alloc (.cells #[.string s2,.string t2] 74)).alloc (.cells #[.string { data:=#[] },.string { data:=#[] }] 74)) (w.heap.size+1+1) #[.string { data:=#[] },.string { data:=#[] }] 74:=(CBlk.new _ _ _ _ (by simp));go_enter Tryz.func110,Tryz.ntmps110
 go_upto_region 1 with (fail)
 generalize (((w.alloc (.cells #[.string s,.string t] 74)).alloc (.cells #[.string s2,.string t2] 74)).alloc (.cells #[.string { data:=#[] },.string { data:=#[] }] 74))=W at *;have a0:=q0.cell 0;have a1:=q0.cell 1
 go_wp2_with fail
 refine (HR1.out W (hT.later aH)).mono ?_;rintro e w2 ⟨v2,rfl,⟨A1,n1,c1,A2,n2,c2,A3,n3,c3,A4,n4,c4,rfl,h1,h2,h3,h4⟩,aF⟩;have aA:Below w2.heap.size w2 (w2.alloc (.cells #[.bool p.neg,.slice A1 n1 c1,.slice A2 n2 c2,.bool q.neg,.slice A3 n3 c3,.slice A4 n4 c4] 139)):=(Below.refl _ _).alloc (Nat.le_refl _) _;have aP:=aH.trans (aF.mono aH.size);have aI:=aP.trans (aA.mono aP.size);have aK:=(q1.below aF q1.lt).alloc (.cells #[.bool p.neg,.slice A1 n1 c1,.slice A2 n2 c2,.bool q.neg,.slice A3 n3 c3,.slice A4 n4 c4] 139);have aQ:=(q2.below aF q2.lt).alloc (.cells #[.bool p.neg,.slice A1 n1 c1,.slice A2 n2 c2,.bool q.neg,.slice A3 n3 c3,.slice A4 n4 c4] 139);have aM:CBlk (w2.alloc (.cells #[.bool p.neg,.slice A1 n1 c1,.slice A2 n2 c2,.bool q.neg,.slice A3 n3 c3,.slice A4 n4 c4] 139)) w2.heap.size #[.bool p.neg,.slice A1 n1 c1,.slice A2 n2 c2,.bool q.neg,.slice A3 n3 c3,.slice A4 n4 c4] 139:=CBlk.new _ _ _ _ rfl;have aR:=h1.later aA;have bG:=h2.later aA;have aU:=h3.later aA;have aV:=h4.later aA;clear a0 a1 q0 q1 q2 aH aF aP h1 h2 h3 h4 aA;go_upto_region 2 with (fail)
 generalize (w2.alloc (.cells #[.bool p.neg,.slice A1 n1 c1,.slice A2 n2 c2,.bool q.neg,.slice A3 n3 c3,.slice A4 n4 c4] 139))=w3 at *;have a0:=aK.cell 0;have a1:=aK.cell 1
 go_wp2_with fail
 refine (HR2.out w3 (hT.later aI)).mono ?_;rintro e w4 ⟨v4,rfl,⟨D1,e1,d1,D2,e2,d2,D3,e3,d3,D4,e4,d4,rfl,k1,k2,k3,k4⟩,aD⟩;have aA:Below w4.heap.size w4 (w4.alloc (.cells #[.bool p'.neg,.slice D1 e1 d1,.slice D2 e2 d2,.bool q'.neg,.slice D3 e3 d3,.slice D4 e4 d4] 139)):=(Below.refl _ _).alloc (Nat.le_refl _) _;have aJ:=aI.trans (aD.mono aI.size);have aL:=aJ.trans (aA.mono aJ.size);have aX:=(aQ.below aD aQ.lt).alloc (.cells #[.bool p'.neg,.slice D1 e1 d1,.slice D2 e2 d2,.bool q'.neg,.slice D3 e3 d3,.slice D4 e4 d4] 139);have bC:=(aM.below aD aM.lt).alloc (.cells #[.bool p'.neg,.slice D1 e1 d1,.slice D2 e2 d2,.bool q'.neg,.slice D3 e3 d3,.slice D4 e4 d4] 139);have bE:CBlk (w4.alloc (.cells #[.bool p'.neg,.slice D1 e1 d1,.slice D2 e2 d2,.bool q'.neg,.slice D3 e3 d3,.slice D4 e4 d4] 139)) w4.heap.size #[.bool p'.neg,.slice D1 e1 d1,.slice D2 e2 d2,.bool q'.neg,.slice D3 e3 d3,.slice D4 e4 d4] 139:=CBlk.new _ _ _ _ rfl;have bF:=(aR.later aD).later aA;have bA:=(bG.later aD).later aA;have aW:=(aU.later aD).later aA;have aY:=(aV.later aD).later aA;have aZ:=k1.later aA;have bB:=k2.later aA;have aT:=k3.later aA;have aS:=k4.later aA;clear a0 a1 aK aQ aM aI aD aJ aR bG aU aV k1 k2 k3 k4 aA;go_upto_region 3 with (fail)
 generalize (w4.alloc (.cells #[.bool p'.neg,.slice D1 e1 d1,.slice D2 e2 d2,.bool q'.neg,.slice D3 e3 d3,.slice D4 e4 d4] 139))=w5 at *;have aO:Below w.heap.size w (w5.alloc (.cells #[.int .i64 x,.int .i64 y] 26)):=aL.alloc aL.size _;have aC:Below w5.heap.size w5 (w5.alloc (.cells #[.int .i64 x,.int .i64 y] 26)):=(Below.refl _ _).alloc (Nat.le_refl _) _;have bD:=aX.alloc (.cells #[.int .i64 x,.int .i64 y] 26);have bQ:=bC.alloc (.cells #[.int .i64 x,.int .i64 y] 26);have bM:=bE.alloc (.cells #[.int .i64 x,.int .i64 y] 26);have bO:=bF.later aC;have bK:=bA.later aC;have bJ:=aW.later aC;have bH:=aY.later aC;have bR:=aZ.later aC;have bN:=bB.later aC;have bP:=aT.later aC;have bI:=aS.later aC
 go_wp2_with fail
 refine (zaV x y E HE.out w5 _ _ rfl).mono ?_;rintro e w6 ⟨rfl,rfl⟩;clear aX bC bE aL aC bF bA aW aY aZ bB aT aS;generalize (w5.alloc (.cells #[.int .i64 x,.int .i64 y] 26))=w6 at *;have qz:CBlk (w6.alloc (.cells #[.string { data:=#[] },.string { data:=#[] }] 74)) w6.heap.size #[.string { data:=#[] },.string { data:=#[] }] 74:=CBlk.new _ _ _ _ rfl;have aG:=bD.alloc (.cells #[.string { data:=#[] },.string { data:=#[] }] 74);have bL:Below w.heap.size w (w6.alloc (.cells #[.string { data:=#[] },.string { data:=#[] }] 74)):=aO.alloc aO.size _;clear bQ bM bO bK bJ bH bR bN bP bI bD aO;go_upto_region 6 with (fail)
 generalize (w6.alloc (.cells #[.string { data:=#[] },.string { data:=#[] }] 74))=w7 at *;have x0:=qz.cell 0;have x1:=qz.cell 1;have y0:=aG.cell 0;have y1:=aG.cell 1;have z0:=aG.frozen 0;have z1:=aG.frozen 1;have aN:=zbO bL (g:=w.heap.size+1+1) (by omega) (.string ⟨#[]⟩) (.string ⟨#[]⟩);go_wp2
 refine bodyPost_ret (v := .tuple #[.agg #[.string ⟨#[]⟩,.string ⟨#[]⟩],.int .i64 E]) (by simp [results,Tryz.results110,go_sem,y0,y1]) rfl ⟨⟨#[]⟩,⟨#[]⟩,rfl,rfl,rfl,aN⟩
set_option maxHeartbeats 4000000 in
set_option maxRecDepth 100000 in
theorem zim (fo:FuncId) (x y:Int) (p q p' q' r1 r2:Q) (s t s2 t2:ByteArray) (w:World) (hT:Tabs w) (HX:Hid (x=0∧y=0)) (eo:∀ args w,(callFunc fo args).run Tryz.prog w = .ok (.enter fo args) w) (lr1:LenQ r1 268435456) (lr2:LenQ r2 268435456) (HR1:Hid (∀ W,Tabs W→Calls Tryz.prog 111 #[.agg #[.string s,.string t]] W (zbd W p q x))) (HR2:Hid (∀ W,Tabs W→Calls Tryz.prog 111 #[.agg #[.string s2,.string t2]] W (zbd W p' q' y)))
  (HO:Hid (∀ v u W,Tabs W→ItvS W W.heap.size v p q→ItvS W W.heap.size u p' q'→Calls Tryz.prog fo #[v,u] W (zb7 W r1 r2))) :
  Calls Tryz.prog 110 #[.agg #[.string s,.string t],.agg #[.string s2,.string t2],.func (.func 111) #[] #[],.func (.func fo) #[] #[],.func (.func 113) #[] #[]] w (zdj w (zec r1 r2) (zeh r1 r2) (zcq r1 r2)):=by
 have er:=fun args w=>show (callFunc 111 args).run Tryz.prog w = .ok (.enter 111 args) w from by kernel_rfl
 have ew:=fun args w=>show (callFunc 113 args).run Tryz.prog w = .ok (.enter 113 args) w from by kernel_rfl
 obtain ⟨E,hE⟩:∃ E:Int,E=if x≠0 then x else y:=⟨_,rfl⟩
 have cM:(E != 0)=false:=by rw [hE,HX.out.1,HX.out.2];rfl
 have HE:=Lib.hid hE;clear hE;have aK:Below w.heap.size w (((w.alloc (.cells #[.string s,.string t] 74)).alloc (.cells #[.string s2,.string t2] 74)).alloc (.cells #[.string { data:=#[] },.string { data:=#[] }] 74)):=((((Below.refl _ _).alloc (by simp<;>omega) _).alloc (by simp<;>omega) _).alloc (by simp<;>omega) _);have q0:CBlk (((w.alloc (.cells #[.string s,.string t] 74)).alloc (.cells #[.string s2,.string t2] 74)).alloc (.cells #[.string { data:=#[] },.string { data:=#[] }] 74)) (w.heap.size) #[.string s,.string t] 74:=(((CBlk.new _ _ _ _ (by simp)).alloc _).alloc _);have q1:CBlk (((w.alloc (.cells #[.string s,.string t] 74)).alloc (.cells #[.string s2,.string t2] 74)).alloc (.cells #[.string { data:=#[] },.string { data:=#[] }] 74)) (w.heap.size+1) #[.string s2,.string t2] 74:=((CBlk.new _ _ _ _ (by simp)).alloc _);have q2:CBlk (((w.alloc (.cells #[.string s,.string t] 74)).alloc (.cells #[.string s2,.string t2] 74)).alloc (.cells #[.string { data:=#[] },.string { data:=#[] }] 74)) (w.heap.size+1+1) #[.string { data:=#[] },.string { data:=#[] }] 74:=(CBlk.new _ _ _ _ (by simp));go_enter Tryz.func110,Tryz.ntmps110
 go_upto_region 1 with (fail)
 generalize (((w.alloc (.cells #[.string s,.string t] 74)).alloc (.cells #[.string s2,.string t2] 74)).alloc (.cells #[.string { data:=#[] },.string { data:=#[] }] 74))=W at *;have a0:=q0.cell 0;have a1:=q0.cell 1
 go_wp2_with fail
 refine (HR1.out W (hT.later aK)).mono ?_;rintro e w2 ⟨v2,rfl,⟨A1,n1,c1,A2,n2,c2,A3,n3,c3,A4,n4,c4,rfl,h1,h2,h3,h4⟩,aH⟩;have aA:Below w2.heap.size w2 (w2.alloc (.cells #[.bool p.neg,.slice A1 n1 c1,.slice A2 n2 c2,.bool q.neg,.slice A3 n3 c3,.slice A4 n4 c4] 139)):=(Below.refl _ _).alloc (Nat.le_refl _) _;have aS:=aK.trans (aH.mono aK.size);have aL:=aS.trans (aA.mono aS.size);have aN:=(q1.below aH q1.lt).alloc (.cells #[.bool p.neg,.slice A1 n1 c1,.slice A2 n2 c2,.bool q.neg,.slice A3 n3 c3,.slice A4 n4 c4] 139);have aU:=(q2.below aH q2.lt).alloc (.cells #[.bool p.neg,.slice A1 n1 c1,.slice A2 n2 c2,.bool q.neg,.slice A3 n3 c3,.slice A4 n4 c4] 139);have aP:CBlk (w2.alloc (.cells #[.bool p.neg,.slice A1 n1 c1,.slice A2 n2 c2,.bool q.neg,.slice A3 n3 c3,.slice A4 n4 c4] 139)) w2.heap.size #[.bool p.neg,.slice A1 n1 c1,.slice A2 n2 c2,.bool q.neg,.slice A3 n3 c3,.slice A4 n4 c4] 139:=CBlk.new _ _ _ _ rfl;have aW:=h1.later aA;have bU:=h2.later aA;have aZ:=h3.later aA;have bA:=h4.later aA;clear a0 a1 q0 q1 q2 aK aH aS h1 h2 h3 h4 aA;go_upto_region 2 with (fail)
 generalize (w2.alloc (.cells #[.bool p.neg,.slice A1 n1 c1,.slice A2 n2 c2,.bool q.neg,.slice A3 n3 c3,.slice A4 n4 c4] 139))=w3 at *;have a0:=aN.cell 0;have a1:=aN.cell 1
 go_wp2_with fail
 refine (HR2.out w3 (hT.later aL)).mono ?_;rintro e w4 ⟨v4,rfl,⟨D1,e1,d1,D2,e2,d2,D3,e3,d3,D4,e4,d4,rfl,k1,k2,k3,k4⟩,aD⟩;have aA:Below w4.heap.size w4 (w4.alloc (.cells #[.bool p'.neg,.slice D1 e1 d1,.slice D2 e2 d2,.bool q'.neg,.slice D3 e3 d3,.slice D4 e4 d4] 139)):=(Below.refl _ _).alloc (Nat.le_refl _) _;have aM:=aL.trans (aD.mono aL.size);have aO:=aM.trans (aA.mono aM.size);have bC:=(aU.below aD aU.lt).alloc (.cells #[.bool p'.neg,.slice D1 e1 d1,.slice D2 e2 d2,.bool q'.neg,.slice D3 e3 d3,.slice D4 e4 d4] 139);have bR:=(aP.below aD aP.lt).alloc (.cells #[.bool p'.neg,.slice D1 e1 d1,.slice D2 e2 d2,.bool q'.neg,.slice D3 e3 d3,.slice D4 e4 d4] 139);have bS:CBlk (w4.alloc (.cells #[.bool p'.neg,.slice D1 e1 d1,.slice D2 e2 d2,.bool q'.neg,.slice D3 e3 d3,.slice D4 e4 d4] 139)) w4.heap.size #[.bool p'.neg,.slice D1 e1 d1,.slice D2 e2 d2,.bool q'.neg,.slice D3 e3 d3,.slice D4 e4 d4] 139:=CBlk.new _ _ _ _ rfl;have bT:=(aW.later aD).later aA;have bH:=(bU.later aD).later aA;have bB:=(aZ.later aD).later aA;have bE:=(bA.later aD).later aA;have bF:=k1.later aA;have bL:=k2.later aA;have aY:=k3.later aA;have aX:=k4.later aA;clear a0 a1 aN aU aP aL aD aM aW bU aZ bA k1 k2 k3 k4 aA;go_upto_region 3 with (fail)
 generalize (w4.alloc (.cells #[.bool p'.neg,.slice D1 e1 d1,.slice D2 e2 d2,.bool q'.neg,.slice D3 e3 d3,.slice D4 e4 d4] 139))=w5 at *;have aI:Below w.heap.size w (w5.alloc (.cells #[.int .i64 x,.int .i64 y] 26)):=aO.alloc aO.size _;have aC:Below w5.heap.size w5 (w5.alloc (.cells #[.int .i64 x,.int .i64 y] 26)):=(Below.refl _ _).alloc (Nat.le_refl _) _;have aT:=bC.alloc (.cells #[.int .i64 x,.int .i64 y] 26);have aF:=bR.alloc (.cells #[.int .i64 x,.int .i64 y] 26);have aE:=bS.alloc (.cells #[.int .i64 x,.int .i64 y] 26);have bO:=bT.later aC;have bI:=bH.later aC;have bG:=bB.later aC;have aV:=bE.later aC;have bQ:=bF.later aC;have bN:=bL.later aC;have bP:=aY.later aC;have bD:=aX.later aC
 go_wp2_with fail
 refine (zaV x y E HE.out w5 _ _ rfl).mono ?_;rintro e w6 ⟨rfl,rfl⟩;clear bC bR bS aO aC bT bH bB bE bF bL aY aX;generalize (w5.alloc (.cells #[.int .i64 x,.int .i64 y] 26))=w6 at *;have cI:=aF.cell 0;have cF:=aF.cell 1;have cA:=aF.cell 2;have cH:=aF.cell 3;have bZ:=aF.cell 4;have cJ:=aF.cell 5;have cG:=aE.cell 0;have cL:=aE.cell 1;have cB:=aE.cell 2;have bY:=aE.cell 3;have cE:=aE.cell 4;have bV:=aE.cell 5;have aR:=hT.later aI
 go_wp2_with fail
 refine (HO.out _ _ w6 aR ⟨A1,n1,c1,A2,n2,c2,A3,n3,c3,A4,n4,c4,rfl,bO,bI,bG,aV⟩ ⟨D1,e1,d1,D2,e2,d2,D3,e3,d3,D4,e4,d4,rfl,bQ,bN,bP,bD⟩).mono ?_;rintro e w7 ⟨v7,rfl,h7,aG⟩;have bK:=aI.trans (aG.mono aI.size);have bM:=aT.below aG aT.lt;have bX:=aR.later aG;clear cI cG cF cL cA cB cH bY bZ cE cJ bV aF aE bO bI bG aV bQ bN bP bD aT aI aG aR
 go_wp2_with fail
 refine (zdF r1 r2 v7 w7 bX h7 lr1 lr2).mono ?_;rintro e w8 ⟨z1,z2,rfl,cK,cC,bJ⟩;have bW:=bK.trans (bJ.mono bK.size);have aJ:=bM.below bJ bM.lt;have y0:=aJ.cell 0;have y1:=aJ.cell 1;have f0:=aJ.frozen 0;have f1:=aJ.frozen 1;have aQ:=zbO bW (g:=w.heap.size+1+1) (by omega) (.string z1) (.string z2);go_wp2
 refine bodyPost_ret (v := .tuple #[.agg #[.string z1,.string z2],.int .i64 (zcq r1 r2)]) (by simp [results,Tryz.results110,go_sem,y0,y1]) rfl ⟨z1,z2,rfl,cK,cC,aQ⟩
theorem zi5 (l m:List UInt8) (h:za6 l m=0):zae l=0∧zae m=0∧rdLo l m=zab l∧rdHi l m=zab m:=by
 unfold rdLo rdHi;rw [if_pos h,if_pos h];unfold za6 at h
 by_cases hx:zae l=0
 ·by_cases hy:zae m=0
  ·exact ⟨hx,hy,rfl,rfl⟩
  ·rw [if_neg (by simpa using hx),if_pos hy] at h;exact absurd h hy
 ·rw [if_pos hx] at h;exact absurd h hx
theorem zeK (fo:FuncId) (r:Q→Q→Q→Q→Q × Q) (s t s2 t2:ByteArray) (w:World) (hT:Tabs w) (hs:s.size≤4294967296) (ht:t.size≤4294967296) (hs2:s2.size≤4294967296) (ht2:t2.size≤4294967296) (eo:∀ args w,(callFunc fo args).run Tryz.prog w = .ok (.enter fo args) w)
  (HO:∀ p q p' q' v u W,LenQ p 600→LenQ q 600→LenQ p' 600→LenQ q' 600→Tabs W→ItvS W W.heap.size v p q→ItvS W W.heap.size u p' q'→Calls Tryz.prog fo #[v,u] W (zb7 W (r p q p' q').1 (r p q p' q').2))
  (HL:∀ p q p' q',LenQ p 600→LenQ q 600→LenQ p' 600→LenQ q' 600→LenQ (r p q p' q').1 268435456∧LenQ (r p q p' q').2 268435456) (X:Int) (hX:X=err2 (za6 s.data.toList t.data.toList) (za6 s2.data.toList t2.data.toList)) (R:Q × Q) (hR:R=r (zab s.data.toList) (zab t.data.toList) (zab s2.data.toList) (zab t2.data.toList)) :
  Calls Tryz.prog 110 #[.agg #[.string s,.string t],.agg #[.string s2,.string t2],.func (.func 111) #[] #[],.func (.func fo) #[] #[],.func (.func 113) #[] #[]] w (zdj w (if X≠0 then [] else zec R.1 R.2) (if X≠0 then [] else zeh R.1 R.2) (if X≠0 then X else zcq R.1 R.2)):=by
 have aC:=Lib.hid (fun W h=>zcC s t W h hs ht);have aA:=Lib.hid (fun W h=>zcC s2 t2 W h hs2 ht2)
 by_cases h0:X=0
 ·rw [if_neg (by simpa using h0),if_neg (by simpa using h0),if_neg (by simpa using h0)]
  rw [hX] at h0;have hx:za6 s.data.toList t.data.toList=0:=by
   unfold err2 at h0
   by_cases h:za6 s.data.toList t.data.toList=0
   ·exact h
   ·rw [if_pos h] at h0;exact absurd h0 h
  have hy:za6 s2.data.toList t2.data.toList=0:=by
   unfold err2 at h0
   rwa [if_neg (by simpa using hx)] at h0
  obtain ⟨a1,a2,a3,a4⟩:=zi5 _ _ hx;obtain ⟨b1,b2,b3,b4⟩:=zi5 _ _ hy;rw [hR];refine zim fo _ _ _ _ _ _ _ _ s t s2 t2 w hT ⟨hx,hy⟩ eo ?_ ?_ aC aA ?_
  ·exact (HL _ _ _ _ (zam a1) (zam a2) (zam b1) (zam b2)).1
  ·exact (HL _ _ _ _ (zam a1) (zam a2) (zam b1) (zam b2)).2
  ·exact fun v u W h1 h2 h3=>by
    rw [a3,a4] at h2;rw [b3,b4] at h3;exact (HO _ _ _ _ v u W (zam a1) (zam a2) (zam b1) (zam b2) h1 h2 h3)
 ·rw [if_pos h0,if_pos h0,if_pos h0]
  exact zg3 fo _ _ X _ _ _ _ s t s2 t2 w hT (by rw [Hid,hX];rfl) h0 aC aA
theorem zhj:LenQ zcr 268435456:=⟨by show (digs 0).length≤_;rw [digs_zero];exact Nat.zero_le _,by show (digs 0).length≤_;rw [digs_zero];exact Nat.zero_le _⟩
theorem zji (p q p' q':Q) (hp:LenQ p 600) (hq:LenQ q 600) (hp2:LenQ p' 600) (hq2:LenQ q' 600):LenQ (zfA p q p' q').1 268435456∧LenQ (zfA p q p' q').2 268435456:=by
 unfold zfA;exact zig _ (fun q=>LenQ q 268435456) ((zbf (K:=600) (L:=600) _ hp hp2 (by omega)).mono (by omega)) _ (by
  intro x hx;simp only [List.mem_cons,List.not_mem_nil,or_false] at hx
  rcases hx with rfl | rfl | rfl
  ·exact (zbf (K:=600) (L:=600) _ hp hq2 (by omega)).mono (by omega)
  ·exact (zbf (K:=600) (L:=600) _ hq hp2 (by omega)).mono (by omega)
  ·exact (zbf (K:=600) (L:=600) _ hq hq2 (by omega)).mono (by omega))
theorem zl2 (p q p' q':Q) (hp:LenQ p 600) (hq:LenQ q 600) (hp2:LenQ p' 600) (hq2:LenQ q' 600):LenQ (zfT p q p' q').1 268435456∧LenQ (zfT p q p' q').2 268435456:=by
 unfold zfT
 split
 ·exact ⟨zhj,zhj⟩
 ·exact zig _ (fun q=>LenQ q 268435456) ((zbm (K:=600) (L:=600) _ hp hp2 (by omega)).mono (by omega)) _ (by
  intro x hx;simp only [List.mem_cons,List.not_mem_nil,or_false] at hx
  rcases hx with rfl | rfl | rfl
  ·exact (zbm (K:=600) (L:=600) _ hp hq2 (by omega)).mono (by omega)
  ·exact (zbm (K:=600) (L:=600) _ hq hp2 (by omega)).mono (by omega)
  ·exact (zbm (K:=600) (L:=600) _ hq hq2 (by omega)).mono (by omega))
set_option maxHeartbeats 1000000 in
set_option maxRecDepth 100000 in
theorem zjJ (s t s2 t2:ByteArray) (w:World) (hT:Tabs w) (hs:s.size≤4294967296) (ht:t.size≤4294967296) (hs2:s2.size≤4294967296) (ht2:t2.size≤4294967296) (X:Int) (hX:X=err2 (za6 s.data.toList t.data.toList) (za6 s2.data.toList t2.data.toList)) (R:Q × Q) (hR:R=zfA (zab s.data.toList) (zab t.data.toList) (zab s2.data.toList) (zab t2.data.toList)) :
  Calls Tryz.prog 51 #[.agg #[.string s,.string t],.agg #[.string s2,.string t2]] w (zdj w (if X≠0 then [] else zec R.1 R.2) (if X≠0 then [] else zeh R.1 R.2) (if X≠0 then X else zcq R.1 R.2)):=by
 have hc:=fun W h=>zeK 112 zfA s t s2 t2 W h hs ht hs2 ht2 (fun aH w=>by kernel_rfl) (fun p q p' q' v u W a b c d h1 h2 h3=>zjS _ _ _ _ v u W h1 h2 h3 (LenQ.mono a (by omega)) (LenQ.mono b (by omega)) (LenQ.mono c (by omega)) (LenQ.mono d (by omega))) zji X hX R hR
 generalize (if X≠0 then [] else zec R.1 R.2)=l at *
 generalize (if X≠0 then [] else zeh R.1 R.2)=m at *
 generalize (if X≠0 then X else zcq R.1 R.2)=E at *
 have HC:=Lib.hid hc;clear hc;have aD:Below w.heap.size w (((w.alloc (.cells #[.string s,.string t] 74)).alloc (.cells #[.string s2,.string t2] 74)).alloc (.cells #[.string { data:=#[] },.string { data:=#[] }] 74)):=((((Below.refl _ _).alloc (by simp<;>omega) _).alloc (by simp<;>omega) _).alloc (by simp<;>omega) _);have q0:CBlk (((w.alloc (.cells #[.string s,.string t] 74)).alloc (.cells #[.string s2,.string t2] 74)).alloc (.cells #[.string { data:=#[] },.string { data:=#[] }] 74)) (w.heap.size) #[.string s,.string t] 74:=(((CBlk.new _ _ _ _ (by simp)).alloc _).alloc _);have q1:CBlk (((w.alloc (.cells #[.string s,.string t] 74)).alloc (.cells #[.string s2,.string t2] 74)).alloc (.cells #[.string { data:=#[] },.string { data:=#[] }] 74)) (w.heap.size+1) #[.string s2,.string t2] 74:=((CBlk.new _ _ _ _ (by simp)).alloc _);have q2:CBlk (((w.alloc (.cells #[.string s,.string t] 74)).alloc (.cells #[.string s2,.string t2] 74)).alloc (.cells #[.string { data:=#[] },.string { data:=#[] }] 74)) (w.heap.size+1+1) #[.string { data:=#[] },.string { data:=#[] }] 74:=(CBlk.new _ _ _ _ (by simp));go_enter Tryz.func51,Tryz.ntmps51
 go_upto_region 1 with (fail)
 generalize (((w.alloc (.cells #[.string s,.string t] 74)).alloc (.cells #[.string s2,.string t2] 74)).alloc (.cells #[.string { data:=#[] },.string { data:=#[] }] 74))=W at *;have a0:=q0.cell 0;have a1:=q0.cell 1;have b0:=q1.cell 0;have b1:=q1.cell 1
 go_wp2_with fail
 refine (HC.out W (hT.later aD)).mono ?_;rintro e w8 ⟨z1,z2,rfl,aG,aF,aE⟩;have aI:=aD.trans (aE.mono aD.size);have aA:=q2.below aE q2.lt;have y0:=aA.cell 0;have y1:=aA.cell 1;have f0:=aA.frozen 0;have f1:=aA.frozen 1;have aC:=zbO aI (g:=w.heap.size+1+1) (by omega) (.string z1) (.string z2);go_wp2
 refine bodyPost_ret (v := .tuple #[.agg #[.string z1,.string z2],.int .i64 E]) (by simp [results,Tryz.results51,go_sem,y0,y1]) rfl ⟨z1,z2,rfl,aG,aF,aC⟩
set_option maxHeartbeats 1000000 in
set_option maxRecDepth 100000 in
theorem zkw (s t s2 t2:ByteArray) (w:World) (hT:Tabs w) (hs:s.size≤4294967296) (ht:t.size≤4294967296) (hs2:s2.size≤4294967296) (ht2:t2.size≤4294967296) (X:Int) (hX:X=err2 (za6 s.data.toList t.data.toList) (za6 s2.data.toList t2.data.toList)) (R:Q × Q) (hR:R=zfT (zab s.data.toList) (zab t.data.toList) (zab s2.data.toList) (zab t2.data.toList)) :
  Calls Tryz.prog 53 #[.agg #[.string s,.string t],.agg #[.string s2,.string t2]] w (zdj w (if X≠0 then [] else zec R.1 R.2) (if X≠0 then [] else zeh R.1 R.2) (if X≠0 then X else zcq R.1 R.2)):=by
 have hc:=fun W h=>zeK 114 zfT s t s2 t2 W h hs ht hs2 ht2 (fun aH w=>by kernel_rfl) (fun p q p' q' v u W a b c d h1 h2 h3=>zle _ _ _ _ v u W h1 h2 h3 (LenQ.mono a (by omega)) (LenQ.mono b (by omega)) (LenQ.mono c (by omega)) (LenQ.mono d (by omega))) zl2 X hX R hR
 generalize (if X≠0 then [] else zec R.1 R.2)=l at *
 generalize (if X≠0 then [] else zeh R.1 R.2)=m at *
 generalize (if X≠0 then X else zcq R.1 R.2)=E at *
 have HC:=Lib.hid hc;clear hc;have aD:Below w.heap.size w (((w.alloc (.cells #[.string s,.string t] 74)).alloc (.cells #[.string s2,.string t2] 74)).alloc (.cells #[.string { data:=#[] },.string { data:=#[] }] 74)):=((((Below.refl _ _).alloc (by simp<;>omega) _).alloc (by simp<;>omega) _).alloc (by simp<;>omega) _);have q0:CBlk (((w.alloc (.cells #[.string s,.string t] 74)).alloc (.cells #[.string s2,.string t2] 74)).alloc (.cells #[.string { data:=#[] },.string { data:=#[] }] 74)) (w.heap.size) #[.string s,.string t] 74:=(((CBlk.new _ _ _ _ (by simp)).alloc _).alloc _);have q1:CBlk (((w.alloc (.cells #[.string s,.string t] 74)).alloc (.cells #[.string s2,.string t2] 74)).alloc (.cells #[.string { data:=#[] },.string { data:=#[] }] 74)) (w.heap.size+1) #[.string s2,.string t2] 74:=((CBlk.new _ _ _ _ (by simp)).alloc _);have q2:CBlk (((w.alloc (.cells #[.string s,.string t] 74)).alloc (.cells #[.string s2,.string t2] 74)).alloc (.cells #[.string { data:=#[] },.string { data:=#[] }] 74)) (w.heap.size+1+1) #[.string { data:=#[] },.string { data:=#[] }] 74:=(CBlk.new _ _ _ _ (by simp));go_enter Tryz.func53,Tryz.ntmps53
 go_upto_region 1 with (fail)
 generalize (((w.alloc (.cells #[.string s,.string t] 74)).alloc (.cells #[.string s2,.string t2] 74)).alloc (.cells #[.string { data:=#[] },.string { data:=#[] }] 74))=W at *;have a0:=q0.cell 0;have a1:=q0.cell 1;have b0:=q1.cell 0;have b1:=q1.cell 1
 go_wp2_with fail
 refine (HC.out W (hT.later aD)).mono ?_;rintro e w8 ⟨z1,z2,rfl,aG,aF,aE⟩;have aI:=aD.trans (aE.mono aD.size);have aA:=q2.below aE q2.lt;have y0:=aA.cell 0;have y1:=aA.cell 1;have f0:=aA.frozen 0;have f1:=aA.frozen 1;have aC:=zbO aI (g:=w.heap.size+1+1) (by omega) (.string z1) (.string z2);go_wp2
 refine bodyPost_ret (v := .tuple #[.agg #[.string z1,.string z2],.int .i64 E]) (by simp [results,Tryz.results53,go_sem,y0,y1]) rfl ⟨z1,z2,rfl,aG,aF,aC⟩
def zeN (a s:Nat):Prop:=s*s≤a∧a<(s+1)*(s+1)
theorem zkR {a s r:Nat} (hs:zeN a s) (hr:s≤r) (h0:0<r):s≤(r+a / r) / 2:=by
 have aA:a<r*(a / r+1):=by
  have h:=Nat.div_add_mod a r;have h2:=Nat.mod_lt a h0;rw [Nat.mul_add,Nat.mul_one];omega
 rw [Nat.le_div_iff_mul_le (by omega)]
 rcases Nat.lt_or_ge (r+a / r) (s*2) with h | h
 ·exfalso
  obtain ⟨d,rfl⟩:∃ d,r=s+d:=⟨r - s,by omega⟩;generalize a / (s+d)=q at *;have h3:q+1≤s - d:=by omega
  have h4:(s+d)*(q+1)≤(s+d)*(s - d):=Nat.mul_le_mul_left _ h3;have h5:(s+d)*(s - d)≤s*s:=by
   obtain ⟨e,rfl⟩:∃ e,s=d+e:=⟨s - d,by omega⟩;have e0:d+e - d=e:=by omega
   have e1:(d+e+d)*e=d*e+e*e+d*e:=by rw [Nat.add_mul,Nat.add_mul]
   have e2:(d+e)*(d+e)=d*d+d*e+(e*d+e*e):=by rw [Nat.add_mul,Nat.mul_add,Nat.mul_add]
   have e3:=Nat.mul_comm d e;rw [e0,e1,e2];omega
  have:=hs.1;omega
 ·exact h
theorem zhM {a s r:Nat} (hs:zeN a s) (hr:s≤r) (h0:0<r) (h:r≤(r+a / r) / 2):r=s:=by
 rw [Nat.le_div_iff_mul_le (by omega)] at h;have h1:r≤a / r:=by omega
 have h2:r*r≤a:=(Nat.le_div_iff_mul_le h0).1 h1
 rcases Nat.lt_or_ge s r with h3 | h3
 ·exfalso
  have:(s+1)*(s+1)≤r*r:=Nat.mul_le_mul h3 h3;have:=hs.2;omega
 ·omega
theorem zg6 {a s:Nat} (hs:zeN a s):s≤2 ^ ((zaK a+1) / 2):=by
 rcases Nat.lt_or_ge (2 ^ ((zaK a+1) / 2)) s with h | h
 ·exfalso
  have h1:2 ^ ((zaK a+1) / 2)*2 ^ ((zaK a+1) / 2)≤s*s:=Nat.mul_le_mul (Nat.le_of_lt h) (Nat.le_of_lt h);rw [←Nat.pow_add] at h1;have h2:2 ^ zaK a≤2 ^ ((zaK a+1) / 2+(zaK a+1) / 2):=Nat.pow_le_pow_right (by omega) (by omega);have h3:=zeQ a;have:=hs.1;omega
 ·exact h
theorem zlF {x n:Nat} (h:(digs x).length≤n):zaK x≤64*n:=by
 rcases Nat.eq_zero_or_pos x with rfl | hx
 ·simp [zaK]
 ·have h1:=zeS hx
  have h2:=zac x;have h3:B ^ (digs x).length≤B ^ n:=Nat.pow_le_pow_right zaN h;rw [zem,←Nat.pow_mul,←Nat.pow_mul] at *
  rcases Nat.lt_or_ge (64*n) (zaK x) with h4 | h4
  ·exfalso
   have h5:2 ^ (64*n)≤2 ^ (zaK x - 1):=Nat.pow_le_pow_right (by omega) (by omega);omega
  ·exact h4
set_option maxHeartbeats 4000000 in
set_option maxRecDepth 100000 in
theorem zgS (A:Option Addr) (n c x s:Nat) (w:World) (ha:NatS w w.heap.size A n c x) (hs:zeN x s) (hn:n≤16777216) :
  Calls Tryz.prog 160 #[.slice A n c] w (zb4 w s):=by
 have h1:=ha.nc;have h2:=ha.cm;have hz:=fun W:World=>zcj A n c W (by omega)
 unfold maxLen at h2;have HS:=Lib.hid hs;clear hs
 by_cases h0:n=0
 ·subst h0
  obtain rfl:x=0:=zaY.1 ha.len;have bF:s=0:=by
   rcases Nat.eq_zero_or_pos s with h | h
   ·exact h
   ·have:=HS.out.1
    have:=Nat.mul_pos h h;omega
  subst bF;go_enter Tryz.func160,Tryz.ntmps160
  go_wp2_with fail
  refine (hz _).mono ?_;rintro e w1 ⟨rfl,rfl⟩
  go_wp2_with fail
  go_ret;exact ⟨A,0,c,rfl,ha,Below.refl _ _⟩
 ·have hx:0<x:=by
   rcases Nat.eq_zero_or_pos x with rfl | h
   ·exact absurd (by rw [←ha.len,digs_zero];rfl) h0
   ·exact h
  have bD:(((n:Nat):Int)==0)=false:=by rw [beq_eq_false_iff_ne];omega
  simp only [bD] at hz
  have aN:=fun W:World=>fun h=>zdg A n c x W h (by omega)
  have bB:=zlF (x:=x) (n:=n) (by rw [ha.len];exact Nat.le_refl _);have aH:=zg6 HS.out;obtain ⟨nb,aF⟩:∃ nb,nb=zaK x:=⟨_,rfl⟩;rw [←aF] at bB aH;simp only [←aF] at aN
  obtain ⟨k,hk⟩:∃ k,k=(nb+1) / 2:=⟨_,rfl⟩;rw [←hk] at aH;have ek:((nb:Int)+1) / 2=(k:Int):=by omega
  have bK:k≤1099511627776:=by omega
  have HK:=Lib.hid hk;clear hk aF;have aT:=zai 1 w (by omega) (by omega);go_enter Tryz.func160,Tryz.ntmps160
  go_wp2_with fail
  refine (hz _).mono ?_;rintro e w1 ⟨rfl,rfl⟩
  go_wp2_with fail
  refine aT.mono ?_;rintro e w2 ⟨A1,m1,c1,rfl,aR,aK⟩
  go_wp2_with fail
  refine (aN _ (ha.later aK)).mono ?_;rintro e w3 ⟨rfl,rfl⟩;have bL:m1≤1099511627776:=by
   have:=aR.len;have k2:(digs (Int.toNat 1)).length≤1:=digs_length_le (by decide);omega
  have aW:=zaw A1 m1 c1 _ k _ aR bL bK
  go_wp2_with fail
  refine aW.mono ?_;rintro e w4 ⟨A4,m4,c4,rfl,aI,aS⟩;rw [show Int.toNat 1*2 ^ k=2 ^ k from by simp] at aI;have aA:Below w.heap.size w w4:=aK.trans (aS.mono aK.size);have aX:m4≤n+1:=by
   have k1:=aI.len;have k2:(digs (2 ^ k)).length≤n+1:=digs_length_le (by
    rw [zem,←Nat.pow_mul];exact (Nat.pow_lt_pow_iff_right (by omega)).2 (by omega))
   omega
  have hp:=Nat.two_pow_pos k;obtain ⟨r0,aZ⟩:∃ r0,r0=2 ^ k:=⟨_,rfl⟩;rw [←aZ] at aH aI hp;clear aZ aT aW aR aK aS aN ek
  go_wp2_with fail
  go_loopg [3] r0 (fun G sl we=>∃ A2 m2 c2 r,sl = .slice A2 m2 c2∧NatS we we.heap.size A2 m2 c2 r∧m2≤n+1∧0<r∧s≤r∧r≤G∧Below w.heap.size w we)
  case atStart=>exact ⟨A4,m4,c4,r0,rfl,aI,aX,hp,aH,Nat.le_refl _,aA⟩
  case round=>
   clear aI aX hp aH aA;obtain ⟨A2,m2,c2,r,rfl,aJ,bJ,hr,aY,bQ,aA⟩:=hrel;have bG:=zcx A A2 n c m2 c2 x r wr (ha.later aA) aJ hr (by omega)
   go_wp2_with fail
   refine bG.mono ?_;rintro e w5 ⟨A5,m5,c5,A6,m6,c6,rfl,aM,_,aL⟩;have bR:m5≤n:=by
    have k1:=aM.len;have k2:=zaa (Nat.div_le_self x r);have k3:=ha.len;omega
   go_wp2_with fail
   refine (zcf A2 A5 m2 c2 m5 c5 r (x / r) _ (aJ.later aL) aM (by omega) (by omega)).mono ?_;rintro e w7 ⟨A7,m7,c7,rfl,bA,aO⟩;have bO:m7≤n+2:=by
    have k1:=bA.len;have k2:(digs (r+x / r)).length≤n+2:=digs_length_le (by
     have j1:=zac r;have j2:=zac (x / r);rw [aJ.len] at j1;rw [aM.len] at j2;have j3:B ^ m2≤B ^ (n+1):=Nat.pow_le_pow_right zaN bJ;have j4:B ^ m5≤B ^ (n+1):=Nat.pow_le_pow_right zaN (by omega);exact zg8 _ _ _ _ _ (Nat.lt_of_lt_of_le j1 j3) (Nat.lt_of_lt_of_le j2 j4) (Nat.le_refl _) (by rw [Nat.pow_succ B (n+1)];exact Nat.mul_le_mul_left _ zdP))
    omega
   go_wp2_with fail
   refine (zaP A7 m7 c7 (r+x / r) 1 _ bA (by omega) (by omega)).mono ?_;rintro e w8 ⟨aQ,bC⟩;obtain ⟨A8,m8,c8,bM,aE,_⟩:=bC.ret aQ;subst bM;rw [Nat.pow_one] at aE;have aD:Below w.heap.size w w8:=aA.trans ((aL.trans ((aO.trans (aQ.mono aO.size)).mono aL.size)).mono aA.size);have aC:=((aJ.later aL).later aO).later aQ;have aP:=zkR HS.out aY hr;have aG:=zaO A8 A2 m8 c8 m2 c2 _ r w8 aE aC;obtain ⟨t,ht⟩:∃ t,t=(r+x / r) / 2:=⟨_,rfl⟩;rw [←ht] at aP aG aE
   by_cases hrt:r≤t
   ·have aV:r=s:=zhM HS.out aY hr (by rw [←ht];exact hrt)
    have hv:∃ v,v=ncmp t r∧0≤v:=⟨_,rfl,by unfold ncmp;rw [if_neg (by omega)];split<;>omega⟩;obtain ⟨v,aU,bP⟩:=hv;rw [←aU] at aG;have bH:=Lib.hid aV;clear aU aV ht aP
    go_wp2_with fail
    refine aG.mono ?_;rintro e w9 ⟨rfl,q,rfl⟩
    go_wp2_with fail
    go_ret;exact ⟨A2,m2,c2,rfl,by rw [←bH.out];exact ⟨aC.words,aC.nc,aC.cm⟩,zad aD q⟩
   ·rw [ncmp_lt (by omega)] at aG
    have bN:=Lib.hid ht;clear ht;have bI:m8≤n+1:=by
     have k1:=aE.len;have k2:=zaa (show t≤r by omega);have k3:=aJ.len;omega
    have bE:0<t:=by
     have k1:0<s:=by
      rcases Nat.eq_zero_or_pos s with h | h
      ·have:=HS.out.2
       rw [h] at this;omega
      ·exact h
     omega
    go_wp2_with fail
    refine aG.mono ?_;rintro e w9 ⟨rfl,q,rfl⟩
    go_wp2_with fail
    go_roundg t
    case measure=>omega
    case rel=>exact ⟨A8,m8,c8,t,rfl,⟨aE.words,aE.nc,aE.cm⟩,bI,bE,aP,Nat.le_refl _,zad aD q⟩
end Go.Proofs.YteajibbphcfmeaaGreatDoor
