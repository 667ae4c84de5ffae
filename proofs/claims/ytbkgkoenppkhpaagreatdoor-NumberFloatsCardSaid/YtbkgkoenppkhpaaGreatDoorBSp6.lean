/- Contracts of package number's combine of two spans, and of Plus, Minus, Times, Over, CheckSpan. -/
import Derived.Test.YtbkgkoenppkhpaaGreatDoorBSp2
import Derived.Test.YtbkgkoenppkhpaaGreatDoorBSp5
set_option maxRecDepth 100000
set_option maxHeartbeats 4000000
namespace Go.Proofs.YtbkgkoenppkhpaaGreatDoor
open Go.RowKit Bn
theorem ziC(fo:FuncId)(x y E:Int)(p q p' q':Q)(s t s2 t2:ByteArray)(w:World)(hT:Tabs w)(HE:Hid (E=if x≠0 then x else y))(H0:Hid (E≠0))(HR1:Hid (∀ W,Tabs W→Calls Tryz.prog 74 #[.agg #[.string s,.string t]] W (zbn W p q x)))(HR2:Hid (∀ W,Tabs W→Calls Tryz.prog 74 #[.agg #[.string s2,.string t2]] W (zbn W p' q' y))) :
  Calls Tryz.prog 75 #[.agg #[.string s,.string t],.agg #[.string s2,.string t2],.func (.func 74) #[] #[],.func (.func fo) #[] #[],.func (.func 61) #[] #[]] w (zdI w [] [] E):=by
 have er:=fun aE w=>show(callFunc 74 aE).run Tryz.prog w = .ok (.enter 74 aE) w from by kernel_rfl
 have bS:(E != 0)=true:=by simpa using H0.out
 have aG:Below w.heap.size w (((w.alloc (.cells #[.string s,.string t] 24)).alloc (.cells #[.string s2,.string t2] 24)).alloc (.cells #[.string ⟨#[]⟩,.string ⟨#[]⟩] 24)):=((((Below.refl _ _).alloc (by simp<;>omega) _).alloc (by simp<;>omega) _).alloc (by simp<;>omega) _);have q0:CBlk (((w.alloc (.cells #[.string s,.string t] 24)).alloc (.cells #[.string s2,.string t2] 24)).alloc (.cells #[.string ⟨#[]⟩,.string ⟨#[]⟩] 24)) (w.heap.size) #[.string s,.string t] 24:=(((CBlk.new _ _ _ _ (by simp)).alloc _).alloc _);have q1:CBlk (((w.alloc (.cells #[.string s,.string t] 24)).alloc (.cells #[.string s2,.string t2] 24)).alloc (.cells #[.string ⟨#[]⟩,.string ⟨#[]⟩] 24)) (w.heap.size+1) #[.string s2,.string t2] 24:=((CBlk.new _ _ _ _ (by simp)).alloc _);have q2:CBlk (((w.alloc (.cells #[.string s,.string t] 24)).alloc (.cells #[.string s2,.string t2] 24)).alloc (.cells #[.string ⟨#[]⟩,.string ⟨#[]⟩] 24)) (w.heap.size+1+1) #[.string ⟨#[]⟩,.string ⟨#[]⟩] 24:=(CBlk.new _ _ _ _ (by simp));go_enter Tryz.func75,Tryz.ntmps75
 go_upto_region 1 with(fail)
 generalize (((w.alloc (.cells #[.string s,.string t] 24)).alloc (.cells #[.string s2,.string t2] 24)).alloc (.cells #[.string ⟨#[]⟩,.string ⟨#[]⟩] 24))=W at *;have a0:=q0.cell 0;have a1:=q0.cell 1
 go_wp2_with fail
 refine(HR1.out W (hT.later aG)).mono ?_;rintro e w2 ⟨v2,rfl,⟨A1,n1,c1,A2,n2,c2,A3,n3,c3,A4,n4,c4,rfl,h1,h2,h3,h4⟩,aI⟩;have aA:Below w2.heap.size w2 (w2.alloc (.cells #[.bool p.neg,.slice A1 n1 c1,.slice A2 n2 c2,.bool q.neg,.slice A3 n3 c3,.slice A4 n4 c4] 91)):=Ac;have aL:=Ad aG aI;have aH:=Ad aL aA;have aP:=(q1.below aI q1.lt).alloc (.cells #[.bool p.neg,.slice A1 n1 c1,.slice A2 n2 c2,.bool q.neg,.slice A3 n3 c3,.slice A4 n4 c4] 91);have aK:=(q2.below aI q2.lt).alloc (.cells #[.bool p.neg,.slice A1 n1 c1,.slice A2 n2 c2,.bool q.neg,.slice A3 n3 c3,.slice A4 n4 c4] 91);have aO:CBlk (w2.alloc (.cells #[.bool p.neg,.slice A1 n1 c1,.slice A2 n2 c2,.bool q.neg,.slice A3 n3 c3,.slice A4 n4 c4] 91)) w2.heap.size #[.bool p.neg,.slice A1 n1 c1,.slice A2 n2 c2,.bool q.neg,.slice A3 n3 c3,.slice A4 n4 c4] 91:=CBlk.new _ _ _ _ rfl;have bE:=h1.later aA;have bF:=h2.later aA;have aV:=h3.later aA;have bG:=h4.later aA;clear a0 a1 q0 q1 q2 aG aI aL h1 h2 h3 h4 aA;go_upto_region 2 with(fail)
 generalize (w2.alloc (.cells #[.bool p.neg,.slice A1 n1 c1,.slice A2 n2 c2,.bool q.neg,.slice A3 n3 c3,.slice A4 n4 c4] 91))=w3 at *;have a0:=aP.cell 0;have a1:=aP.cell 1
 go_wp2_with fail
 refine(HR2.out w3 (hT.later aH)).mono ?_;rintro e w4 ⟨v4,rfl,⟨D1,e1,d1,D2,e2,d2,D3,e3,d3,D4,e4,d4,rfl,k1,k2,k3,k4⟩,aD⟩;have aA:Below w4.heap.size w4 (w4.alloc (.cells #[.bool p'.neg,.slice D1 e1 d1,.slice D2 e2 d2,.bool q'.neg,.slice D3 e3 d3,.slice D4 e4 d4] 91)):=Ac;have aM:=Ad aH aD;have aQ:=Ad aM aA;have bA:=(aK.below aD aK.lt).alloc (.cells #[.bool p'.neg,.slice D1 e1 d1,.slice D2 e2 d2,.bool q'.neg,.slice D3 e3 d3,.slice D4 e4 d4] 91);have bD:=(aO.below aD aO.lt).alloc (.cells #[.bool p'.neg,.slice D1 e1 d1,.slice D2 e2 d2,.bool q'.neg,.slice D3 e3 d3,.slice D4 e4 d4] 91);have aS:CBlk (w4.alloc (.cells #[.bool p'.neg,.slice D1 e1 d1,.slice D2 e2 d2,.bool q'.neg,.slice D3 e3 d3,.slice D4 e4 d4] 91)) w4.heap.size #[.bool p'.neg,.slice D1 e1 d1,.slice D2 e2 d2,.bool q'.neg,.slice D3 e3 d3,.slice D4 e4 d4] 91:=CBlk.new _ _ _ _ rfl;have aW:=(bE.later aD).later aA;have aU:=(bF.later aD).later aA;have aR:=(aV.later aD).later aA;have bC:=(bG.later aD).later aA;have aT:=k1.later aA;have aZ:=k2.later aA;have bB:=k3.later aA;have aY:=k4.later aA;clear a0 a1 aP aK aO aH aD aM bE bF aV bG k1 k2 k3 k4 aA;go_upto_region 3 with(fail)
 generalize (w4.alloc (.cells #[.bool p'.neg,.slice D1 e1 d1,.slice D2 e2 d2,.bool q'.neg,.slice D3 e3 d3,.slice D4 e4 d4] 91))=w5 at *;have aN:Below w.heap.size w (w5.alloc (.cells #[.int .i64 x,.int .i64 y] 27)):=aQ.alloc aQ.size _;have aC:Below w5.heap.size w5 (w5.alloc (.cells #[.int .i64 x,.int .i64 y] 27)):=Ac;have aX:=bA.alloc (.cells #[.int .i64 x,.int .i64 y] 27);have bO:=bD.alloc (.cells #[.int .i64 x,.int .i64 y] 27);have bP:=aS.alloc (.cells #[.int .i64 x,.int .i64 y] 27);have bN:=aW.later aC;have bJ:=aU.later aC;have bK:=aR.later aC;have bH:=bC.later aC;have bI:=aT.later aC;have bL:=aZ.later aC;have bR:=bB.later aC;have bQ:=aY.later aC
 go_wp2_with fail
 refine(za8 x y E HE.out w5 _ _ rfl).mono ?_;rintro e w6 ⟨rfl,rfl⟩;clear bA bD aS aQ aC aW aU aR bC aT aZ bB aY;generalize (w5.alloc (.cells #[.int .i64 x,.int .i64 y] 27))=w6 at *;have qz:CBlk (w6.alloc (.cells #[.string ⟨#[]⟩,.string ⟨#[]⟩] 24)) w6.heap.size #[.string ⟨#[]⟩,.string ⟨#[]⟩] 24:=CBlk.new _ _ _ _ rfl;have aF:=aX.alloc (.cells #[.string ⟨#[]⟩,.string ⟨#[]⟩] 24);have bM:Below w.heap.size w (w6.alloc (.cells #[.string ⟨#[]⟩,.string ⟨#[]⟩] 24)):=aN.alloc aN.size _;clear bO bP bN bJ bK bH bI bL bR bQ aX aN;go_upto_region 6 with(fail)
 generalize (w6.alloc (.cells #[.string ⟨#[]⟩,.string ⟨#[]⟩] 24))=w7 at *;have x0:=qz.cell 0;have x1:=qz.cell 1;have y0:=aF.cell 0;have y1:=aF.cell 1;have z0:=aF.frozen 0;have z1:=aF.frozen 1;have aJ:=zbN bM (g:=w.heap.size+1+1) (by omega) (.string ⟨#[]⟩) (.string ⟨#[]⟩);go_wp2
 refine bodyPost_ret (v := .tuple #[.agg #[.string ⟨#[]⟩,.string ⟨#[]⟩],.int .i64 E]) (by simp[results,Tryz.results75,go_sem,y0,y1]) rfl ⟨⟨#[]⟩,⟨#[]⟩,rfl,rfl,rfl,aJ⟩
theorem zj1(fo:FuncId)(x y:Int)(p q p' q' r1 r2:Q)(s t s2 t2:ByteArray)(w:World)(hT:Tabs w)(HX:Hid (x=0∧y=0))(eo:∀ args w,(callFunc fo args).run Tryz.prog w = .ok (.enter fo args) w)(lr1:LenQ r1 268435456)(lr2:LenQ r2 268435456)(HR1:Hid (∀ W,Tabs W→Calls Tryz.prog 74 #[.agg #[.string s,.string t]] W (zbn W p q x)))(HR2:Hid (∀ W,Tabs W→Calls Tryz.prog 74 #[.agg #[.string s2,.string t2]] W (zbn W p' q' y)))
 (HO:Hid (∀ v u W,Tabs W→ItvS W W.heap.size v p q→ItvS W W.heap.size u p' q'→Calls Tryz.prog fo #[v,u] W (zch W r1 r2))) :
  Calls Tryz.prog 75 #[.agg #[.string s,.string t],.agg #[.string s2,.string t2],.func (.func 74) #[] #[],.func (.func fo) #[] #[],.func (.func 61) #[] #[]] w (zdI w (zer r1 r2) (zet r1 r2) (zcm r1 r2)):=by
 have er:=fun args w=>show(callFunc 74 args).run Tryz.prog w = .ok (.enter 74 args) w from by kernel_rfl
 have ew:=fun args w=>show(callFunc 61 args).run Tryz.prog w = .ok (.enter 61 args) w from by kernel_rfl
 obtain⟨E,hE⟩:∃ E:Int,E=if x≠0 then x else y:=⟨_,rfl⟩
 have cM:(E != 0)=false:=by rw[hE,HX.out.1,HX.out.2];rfl
 have HE:=Aa hE;clear hE;have aJ:Below w.heap.size w (((w.alloc (.cells #[.string s,.string t] 24)).alloc (.cells #[.string s2,.string t2] 24)).alloc (.cells #[.string ⟨#[]⟩,.string ⟨#[]⟩] 24)):=((((Below.refl _ _).alloc (by simp<;>omega) _).alloc (by simp<;>omega) _).alloc (by simp<;>omega) _);have q0:CBlk (((w.alloc (.cells #[.string s,.string t] 24)).alloc (.cells #[.string s2,.string t2] 24)).alloc (.cells #[.string ⟨#[]⟩,.string ⟨#[]⟩] 24)) (w.heap.size) #[.string s,.string t] 24:=(((CBlk.new _ _ _ _ (by simp)).alloc _).alloc _);have q1:CBlk (((w.alloc (.cells #[.string s,.string t] 24)).alloc (.cells #[.string s2,.string t2] 24)).alloc (.cells #[.string ⟨#[]⟩,.string ⟨#[]⟩] 24)) (w.heap.size+1) #[.string s2,.string t2] 24:=((CBlk.new _ _ _ _ (by simp)).alloc _);have q2:CBlk (((w.alloc (.cells #[.string s,.string t] 24)).alloc (.cells #[.string s2,.string t2] 24)).alloc (.cells #[.string ⟨#[]⟩,.string ⟨#[]⟩] 24)) (w.heap.size+1+1) #[.string ⟨#[]⟩,.string ⟨#[]⟩] 24:=(CBlk.new _ _ _ _ (by simp));go_enter Tryz.func75,Tryz.ntmps75
 go_upto_region 1 with(fail)
 generalize (((w.alloc (.cells #[.string s,.string t] 24)).alloc (.cells #[.string s2,.string t2] 24)).alloc (.cells #[.string ⟨#[]⟩,.string ⟨#[]⟩] 24))=W at *;have a0:=q0.cell 0;have a1:=q0.cell 1
 go_wp2_with fail
 refine(HR1.out W (hT.later aJ)).mono ?_;rintro e w2 ⟨v2,rfl,⟨A1,n1,c1,A2,n2,c2,A3,n3,c3,A4,n4,c4,rfl,h1,h2,h3,h4⟩,aL⟩;have aA:Below w2.heap.size w2 (w2.alloc (.cells #[.bool p.neg,.slice A1 n1 c1,.slice A2 n2 c2,.bool q.neg,.slice A3 n3 c3,.slice A4 n4 c4] 91)):=Ac;have aO:=Ad aJ aL;have aK:=Ad aO aA;have aT:=(q1.below aL q1.lt).alloc (.cells #[.bool p.neg,.slice A1 n1 c1,.slice A2 n2 c2,.bool q.neg,.slice A3 n3 c3,.slice A4 n4 c4] 91);have aN:=(q2.below aL q2.lt).alloc (.cells #[.bool p.neg,.slice A1 n1 c1,.slice A2 n2 c2,.bool q.neg,.slice A3 n3 c3,.slice A4 n4 c4] 91);have aS:CBlk (w2.alloc (.cells #[.bool p.neg,.slice A1 n1 c1,.slice A2 n2 c2,.bool q.neg,.slice A3 n3 c3,.slice A4 n4 c4] 91)) w2.heap.size #[.bool p.neg,.slice A1 n1 c1,.slice A2 n2 c2,.bool q.neg,.slice A3 n3 c3,.slice A4 n4 c4] 91:=CBlk.new _ _ _ _ rfl;have bS:=h1.later aA;have aY:=h2.later aA;have bI:=h3.later aA;have bT:=h4.later aA;clear a0 a1 q0 q1 q2 aJ aL aO h1 h2 h3 h4 aA;go_upto_region 2 with(fail)
 generalize (w2.alloc (.cells #[.bool p.neg,.slice A1 n1 c1,.slice A2 n2 c2,.bool q.neg,.slice A3 n3 c3,.slice A4 n4 c4] 91))=w3 at *;have a0:=aT.cell 0;have a1:=aT.cell 1
 go_wp2_with fail
 refine(HR2.out w3 (hT.later aK)).mono ?_;rintro e w4 ⟨v4,rfl,⟨D1,e1,d1,D2,e2,d2,D3,e3,d3,D4,e4,d4,rfl,k1,k2,k3,k4⟩,aD⟩;have aA:Below w4.heap.size w4 (w4.alloc (.cells #[.bool p'.neg,.slice D1 e1 d1,.slice D2 e2 d2,.bool q'.neg,.slice D3 e3 d3,.slice D4 e4 d4] 91)):=Ac;have aP:=Ad aK aD;have aU:=Ad aP aA;have bM:=(aN.below aD aN.lt).alloc (.cells #[.bool p'.neg,.slice D1 e1 d1,.slice D2 e2 d2,.bool q'.neg,.slice D3 e3 d3,.slice D4 e4 d4] 91);have bR:=(aS.below aD aS.lt).alloc (.cells #[.bool p'.neg,.slice D1 e1 d1,.slice D2 e2 d2,.bool q'.neg,.slice D3 e3 d3,.slice D4 e4 d4] 91);have aZ:CBlk (w4.alloc (.cells #[.bool p'.neg,.slice D1 e1 d1,.slice D2 e2 d2,.bool q'.neg,.slice D3 e3 d3,.slice D4 e4 d4] 91)) w4.heap.size #[.bool p'.neg,.slice D1 e1 d1,.slice D2 e2 d2,.bool q'.neg,.slice D3 e3 d3,.slice D4 e4 d4] 91:=CBlk.new _ _ _ _ rfl;have bK:=(bS.later aD).later aA;have bD:=(aY.later aD).later aA;have aX:=(bI.later aD).later aA;have bQ:=(bT.later aD).later aA;have bB:=k1.later aA;have bP:=k2.later aA;have bN:=k3.later aA;have bL:=k4.later aA;clear a0 a1 aT aN aS aK aD aP bS aY bI bT k1 k2 k3 k4 aA;go_upto_region 3 with(fail)
 generalize (w4.alloc (.cells #[.bool p'.neg,.slice D1 e1 d1,.slice D2 e2 d2,.bool q'.neg,.slice D3 e3 d3,.slice D4 e4 d4] 91))=w5 at *;have aI:Below w.heap.size w (w5.alloc (.cells #[.int .i64 x,.int .i64 y] 27)):=aU.alloc aU.size _;have aC:Below w5.heap.size w5 (w5.alloc (.cells #[.int .i64 x,.int .i64 y] 27)):=Ac;have aR:=bM.alloc (.cells #[.int .i64 x,.int .i64 y] 27);have aE:=bR.alloc (.cells #[.int .i64 x,.int .i64 y] 27);have aF:=aZ.alloc (.cells #[.int .i64 x,.int .i64 y] 27);have bG:=bK.later aC;have bA:=bD.later aC;have bC:=aX.later aC;have aV:=bQ.later aC;have aW:=bB.later aC;have bE:=bP.later aC;have bU:=bN.later aC;have bJ:=bL.later aC
 go_wp2_with fail
 refine(za8 x y E HE.out w5 _ _ rfl).mono ?_;rintro e w6 ⟨rfl,rfl⟩;clear bM bR aZ aU aC bK bD aX bQ bB bP bN bL;generalize (w5.alloc (.cells #[.int .i64 x,.int .i64 y] 27))=w6 at *;have cF:=aE.cell 0;have bX:=aE.cell 1;have cI:=aE.cell 2;have cB:=aE.cell 3;have cE:=aE.cell 4;have cC:=aE.cell 5;have bV:=aF.cell 0;have cK:=aF.cell 1;have cL:=aF.cell 2;have bZ:=aF.cell 3;have bW:=aF.cell 4;have cA:=aF.cell 5;have aQ:=hT.later aI
 go_wp2_with fail
 refine(HO.out _ _ w6 aQ ⟨A1,n1,c1,A2,n2,c2,A3,n3,c3,A4,n4,c4,rfl,bG,bA,bC,aV⟩ ⟨D1,e1,d1,D2,e2,d2,D3,e3,d3,D4,e4,d4,rfl,aW,bE,bU,bJ⟩).mono ?_;rintro e w7 ⟨v7,rfl,h7,aG⟩;have bF:=Ad aI aG;have bH:=aR.below aG aR.lt;have cG:=aQ.later aG;clear cF bV bX cK cI cL cB bZ cE bW cC cA aE aF bG bA bC aV aW bE bU bJ aR aI aG aQ
 go_wp2_with fail
 refine(zed r1 r2 v7 w7 cG h7 lr1 lr2).mono ?_;rintro e w8 ⟨z1,z2,rfl,cJ,cH,bO⟩;have bY:=Ad bF bO;have aH:=bH.below bO bH.lt;have y0:=aH.cell 0;have y1:=aH.cell 1;have f0:=aH.frozen 0;have f1:=aH.frozen 1;have aM:=zbN bY (g:=w.heap.size+1+1) (by omega) (.string z1) (.string z2);go_wp2
 refine bodyPost_ret (v := .tuple #[.agg #[.string z1,.string z2],.int .i64 (zcm r1 r2)]) (by simp[results,Tryz.results75,go_sem,y0,y1]) rfl ⟨z1,z2,rfl,cJ,cH,aM⟩
theorem zkD(l m:List UInt8)(h:za7 l m=0):zan l=0∧zan m=0∧rdLo l m=zaf l∧rdHi l m=zaf m:=by
 unfold rdLo rdHi;rw[if_pos h,if_pos h];unfold za7 at h
 by_cases hx:zan l=0
 ·by_cases hy:zan m=0
  ·exact⟨hx,hy,rfl,rfl⟩
  ·rw[if_neg (by simpa using hx),if_pos hy] at h;exact absurd h hy
 ·rw[if_pos hx] at h;exact absurd h hx
theorem zdM(fo:FuncId)(r:Q→Q→Q→Q→Q × Q)(s t s2 t2:ByteArray)(w:World)(hT:Tabs w)(hs:s.size≤4294967296)(ht:t.size≤4294967296)(hs2:s2.size≤4294967296)(ht2:t2.size≤4294967296)(eo:∀ args w,(callFunc fo args).run Tryz.prog w = .ok (.enter fo args) w)
 (HO:∀ p q p' q' v u W,LenQ p 600→LenQ q 600→LenQ p' 600→LenQ q' 600→Tabs W→ItvS W W.heap.size v p q→ItvS W W.heap.size u p' q'→Calls Tryz.prog fo #[v,u] W (zch W (r p q p' q').1 (r p q p' q').2))
 (HL:∀ p q p' q',LenQ p 600→LenQ q 600→LenQ p' 600→LenQ q' 600→LenQ (r p q p' q').1 268435456∧LenQ (r p q p' q').2 268435456)(X:Int)(hX:X=err2 (za7 s.data.toList t.data.toList) (za7 s2.data.toList t2.data.toList))(R:Q × Q)(hR:R=r (zaf s.data.toList) (zaf t.data.toList) (zaf s2.data.toList) (zaf t2.data.toList)) :
  Calls Tryz.prog 75 #[.agg #[.string s,.string t],.agg #[.string s2,.string t2],.func (.func 74) #[] #[],.func (.func fo) #[] #[],.func (.func 61) #[] #[]] w (zdI w (if X≠0 then[] else zer R.1 R.2) (if X≠0 then[] else zet R.1 R.2) (if X≠0 then X else zcm R.1 R.2)):=by
 have aC:=Aa (fun W h=>zc1 s t W h hs ht);have aA:=Aa (fun W h=>zc1 s2 t2 W h hs2 ht2)
 by_cases h0:X=0
 ·rw[if_neg (by simpa using h0),if_neg (by simpa using h0),if_neg (by simpa using h0)]
  rw[hX] at h0;have hx:za7 s.data.toList t.data.toList=0:=by
   unfold err2 at h0
   by_cases h:za7 s.data.toList t.data.toList=0
   ·exact h
   ·rw[if_pos h] at h0;exact absurd h0 h
  have hy:za7 s2.data.toList t2.data.toList=0:=by
   unfold err2 at h0
   rwa [if_neg (by simpa using hx)] at h0
  obtain⟨a1,a2,a3,a4⟩:=zkD _ _ hx;obtain⟨b1,b2,b3,b4⟩:=zkD _ _ hy;rw[hR];refine zj1 fo _ _ _ _ _ _ _ _ s t s2 t2 w hT ⟨hx,hy⟩ eo ?_ ?_ aC aA ?_
  ·exact(HL _ _ _ _ (zaE a1) (zaE a2) (zaE b1) (zaE b2)).1
  ·exact(HL _ _ _ _ (zaE a1) (zaE a2) (zaE b1) (zaE b2)).2
  ·exact fun v u W h1 h2 h3=>by
    rw[a3,a4] at h2;rw[b3,b4] at h3;exact(HO _ _ _ _ v u W (zaE a1) (zaE a2) (zaE b1) (zaE b2) h1 h2 h3)
 ·rw[if_pos h0,if_pos h0,if_pos h0]
  exact ziC fo _ _ X _ _ _ _ s t s2 t2 w hT (by rw[Hid,hX];rfl) h0 aC aA
def zoY (p q p' q':Q):Q × Q:=(zcS p p',zcS q q')
theorem ziS:LenQ zc7 268435456:=⟨by show(digs 0).length≤_;rw[zal];exact Nat.zero_le _,by show(digs 0).length≤_;rw[zal];exact Nat.zero_le _⟩
theorem zmY(p q p' q':Q)(hp:LenQ p 600)(hq:LenQ q 600)(hp2:LenQ p' 600)(hq2:LenQ q' 600):LenQ (zoY p q p' q').1 268435456∧LenQ (zoY p q p' q').2 268435456:=
 ⟨(zbw hp hp2).mono (by omega),(zbw hq hq2).mono (by omega)⟩
theorem zlE (p q p' q':Q) (hp:LenQ p 600) (hq:LenQ q 600) (hp2:LenQ p' 600) (hq2:LenQ q' 600):LenQ (zf7 p q p' q').1 268435456∧LenQ (zf7 p q p' q').2 268435456:=by
 unfold zf7;exact zju _ (fun q=>LenQ q 268435456) ((zby (K:=600) (L:=600) _ hp hp2 (by omega)).mono (by omega)) _ (by
  intro x hx;simp only[List.mem_cons,List.not_mem_nil,or_false] at hx
  rcases hx with rfl | rfl | rfl
  ·exact(zby (K:=600) (L:=600) _ hp hq2 (by omega)).mono (by omega)
  ·exact(zby (K:=600) (L:=600) _ hq hp2 (by omega)).mono (by omega)
  ·exact(zby (K:=600) (L:=600) _ hq hq2 (by omega)).mono (by omega))
theorem zod(p q p' q':Q)(hp:LenQ p 600)(hq:LenQ q 600)(hp2:LenQ p' 600)(hq2:LenQ q' 600):LenQ (zgS p q p' q').1 268435456∧LenQ (zgS p q p' q').2 268435456:=by
 unfold zgS
 split
 ·exact⟨ziS,ziS⟩
 ·exact zju _ (fun q=>LenQ q 268435456) ((zbC (K:=600) (L:=600) _ hp hp2 (by omega)).mono (by omega)) _ (by
  intro x hx;simp only[List.mem_cons,List.not_mem_nil,or_false] at hx
  rcases hx with rfl | rfl | rfl
  ·exact(zbC (K:=600) (L:=600) _ hp hq2 (by omega)).mono (by omega)
  ·exact(zbC (K:=600) (L:=600) _ hq hp2 (by omega)).mono (by omega)
  ·exact(zbC (K:=600) (L:=600) _ hq hq2 (by omega)).mono (by omega))
theorem zrB(s t s2 t2:ByteArray)(w:World)(hT:Tabs w)(hs:s.size≤4294967296)(ht:t.size≤4294967296)(hs2:s2.size≤4294967296)(ht2:t2.size≤4294967296)(X:Int)(hX:X=err2 (za7 s.data.toList t.data.toList) (za7 s2.data.toList t2.data.toList))(R:Q × Q)(hR:R=zoY (zaf s.data.toList) (zaf t.data.toList) (zaf s2.data.toList) (zaf t2.data.toList)) :
  Calls Tryz.prog 18 #[.agg #[.string s,.string t],.agg #[.string s2,.string t2]] w (zdI w (if X≠0 then[] else zer R.1 R.2) (if X≠0 then[] else zet R.1 R.2) (if X≠0 then X else zcm R.1 R.2)):=by
 have hc:=fun W h=>zdM 76 zoY s t s2 t2 W h hs ht hs2 ht2 (fun aG w=>by kernel_rfl) (fun p q p' q' v u W a b c d h1 h2 h3=>zni _ _ _ _ v u W h1 h2 h3 (LenQ.mono a (by omega)) (LenQ.mono b (by omega)) (LenQ.mono c (by omega)) (LenQ.mono d (by omega))) zmY X hX R hR
 generalize (if X≠0 then[] else zer R.1 R.2)=l at *
 generalize (if X≠0 then[] else zet R.1 R.2)=m at *
 generalize (if X≠0 then X else zcm R.1 R.2)=E at *
 have HC:=Aa hc;clear hc;have aD:Below w.heap.size w (((w.alloc (.cells #[.string s,.string t] 24)).alloc (.cells #[.string s2,.string t2] 24)).alloc (.cells #[.string ⟨#[]⟩,.string ⟨#[]⟩] 24)):=((((Below.refl _ _).alloc (by simp<;>omega) _).alloc (by simp<;>omega) _).alloc (by simp<;>omega) _);have q0:CBlk (((w.alloc (.cells #[.string s,.string t] 24)).alloc (.cells #[.string s2,.string t2] 24)).alloc (.cells #[.string ⟨#[]⟩,.string ⟨#[]⟩] 24)) (w.heap.size) #[.string s,.string t] 24:=(((CBlk.new _ _ _ _ (by simp)).alloc _).alloc _);have q1:CBlk (((w.alloc (.cells #[.string s,.string t] 24)).alloc (.cells #[.string s2,.string t2] 24)).alloc (.cells #[.string ⟨#[]⟩,.string ⟨#[]⟩] 24)) (w.heap.size+1) #[.string s2,.string t2] 24:=((CBlk.new _ _ _ _ (by simp)).alloc _);have q2:CBlk (((w.alloc (.cells #[.string s,.string t] 24)).alloc (.cells #[.string s2,.string t2] 24)).alloc (.cells #[.string ⟨#[]⟩,.string ⟨#[]⟩] 24)) (w.heap.size+1+1) #[.string ⟨#[]⟩,.string ⟨#[]⟩] 24:=(CBlk.new _ _ _ _ (by simp));go_enter Tryz.func18,Tryz.ntmps18
 go_upto_region 1 with(fail)
 generalize (((w.alloc (.cells #[.string s,.string t] 24)).alloc (.cells #[.string s2,.string t2] 24)).alloc (.cells #[.string ⟨#[]⟩,.string ⟨#[]⟩] 24))=W at *;have a0:=q0.cell 0;have a1:=q0.cell 1;have b0:=q1.cell 0;have b1:=q1.cell 1
 go_wp2_with fail
 refine(HC.out W (hT.later aD)).mono ?_;rintro e w8 ⟨z1,z2,rfl,aF,aH,aE⟩;have aI:=Ad aD aE;have aA:=q2.below aE q2.lt;have y0:=aA.cell 0;have y1:=aA.cell 1;have f0:=aA.frozen 0;have f1:=aA.frozen 1;have aC:=zbN aI (g:=w.heap.size+1+1) (by omega) (.string z1) (.string z2);go_wp2
 refine bodyPost_ret (v := .tuple #[.agg #[.string z1,.string z2],.int .i64 E]) (by simp[results,Tryz.results18,go_sem,y0,y1]) rfl ⟨z1,z2,rfl,aF,aH,aC⟩
theorem zlx(s t s2 t2:ByteArray)(w:World)(hT:Tabs w)(hs:s.size≤4294967296)(ht:t.size≤4294967296)(hs2:s2.size≤4294967296)(ht2:t2.size≤4294967296)(X:Int)(hX:X=err2 (za7 s.data.toList t.data.toList) (za7 s2.data.toList t2.data.toList))(R:Q × Q)(hR:R=zf7 (zaf s.data.toList) (zaf t.data.toList) (zaf s2.data.toList) (zaf t2.data.toList)) :
  Calls Tryz.prog 20 #[.agg #[.string s,.string t],.agg #[.string s2,.string t2]] w (zdI w (if X≠0 then[] else zer R.1 R.2) (if X≠0 then[] else zet R.1 R.2) (if X≠0 then X else zcm R.1 R.2)):=by
 have hc:=fun W h=>zdM 78 zf7 s t s2 t2 W h hs ht hs2 ht2 (fun aG w=>by kernel_rfl) (fun p q p' q' v u W a b c d h1 h2 h3=>zle _ _ _ _ v u W h1 h2 h3 (LenQ.mono a (by omega)) (LenQ.mono b (by omega)) (LenQ.mono c (by omega)) (LenQ.mono d (by omega))) zlE X hX R hR
 generalize (if X≠0 then[] else zer R.1 R.2)=l at *
 generalize (if X≠0 then[] else zet R.1 R.2)=m at *
 generalize (if X≠0 then X else zcm R.1 R.2)=E at *
 have HC:=Aa hc;clear hc;have aD:Below w.heap.size w (((w.alloc (.cells #[.string s,.string t] 24)).alloc (.cells #[.string s2,.string t2] 24)).alloc (.cells #[.string ⟨#[]⟩,.string ⟨#[]⟩] 24)):=((((Below.refl _ _).alloc (by simp<;>omega) _).alloc (by simp<;>omega) _).alloc (by simp<;>omega) _);have q0:CBlk (((w.alloc (.cells #[.string s,.string t] 24)).alloc (.cells #[.string s2,.string t2] 24)).alloc (.cells #[.string ⟨#[]⟩,.string ⟨#[]⟩] 24)) (w.heap.size) #[.string s,.string t] 24:=(((CBlk.new _ _ _ _ (by simp)).alloc _).alloc _);have q1:CBlk (((w.alloc (.cells #[.string s,.string t] 24)).alloc (.cells #[.string s2,.string t2] 24)).alloc (.cells #[.string ⟨#[]⟩,.string ⟨#[]⟩] 24)) (w.heap.size+1) #[.string s2,.string t2] 24:=((CBlk.new _ _ _ _ (by simp)).alloc _);have q2:CBlk (((w.alloc (.cells #[.string s,.string t] 24)).alloc (.cells #[.string s2,.string t2] 24)).alloc (.cells #[.string ⟨#[]⟩,.string ⟨#[]⟩] 24)) (w.heap.size+1+1) #[.string ⟨#[]⟩,.string ⟨#[]⟩] 24:=(CBlk.new _ _ _ _ (by simp));go_enter Tryz.func20,Tryz.ntmps20
 go_upto_region 1 with(fail)
 generalize (((w.alloc (.cells #[.string s,.string t] 24)).alloc (.cells #[.string s2,.string t2] 24)).alloc (.cells #[.string ⟨#[]⟩,.string ⟨#[]⟩] 24))=W at *;have a0:=q0.cell 0;have a1:=q0.cell 1;have b0:=q1.cell 0;have b1:=q1.cell 1
 go_wp2_with fail
 refine(HC.out W (hT.later aD)).mono ?_;rintro e w8 ⟨z1,z2,rfl,aF,aH,aE⟩;have aI:=Ad aD aE;have aA:=q2.below aE q2.lt;have y0:=aA.cell 0;have y1:=aA.cell 1;have f0:=aA.frozen 0;have f1:=aA.frozen 1;have aC:=zbN aI (g:=w.heap.size+1+1) (by omega) (.string z1) (.string z2);go_wp2
 refine bodyPost_ret (v := .tuple #[.agg #[.string z1,.string z2],.int .i64 E]) (by simp[results,Tryz.results20,go_sem,y0,y1]) rfl ⟨z1,z2,rfl,aF,aH,aC⟩
theorem zmA(s t s2 t2:ByteArray)(w:World)(hT:Tabs w)(hs:s.size≤4294967296)(ht:t.size≤4294967296)(hs2:s2.size≤4294967296)(ht2:t2.size≤4294967296)(X:Int)(hX:X=err2 (za7 s.data.toList t.data.toList) (za7 s2.data.toList t2.data.toList))(R:Q × Q)(hR:R=zgS (zaf s.data.toList) (zaf t.data.toList) (zaf s2.data.toList) (zaf t2.data.toList)) :
  Calls Tryz.prog 21 #[.agg #[.string s,.string t],.agg #[.string s2,.string t2]] w (zdI w (if X≠0 then[] else zer R.1 R.2) (if X≠0 then[] else zet R.1 R.2) (if X≠0 then X else zcm R.1 R.2)):=by
 have hc:=fun W h=>zdM 79 zgS s t s2 t2 W h hs ht hs2 ht2 (fun aG w=>by kernel_rfl) (fun p q p' q' v u W a b c d h1 h2 h3=>zn9 _ _ _ _ v u W h1 h2 h3 (LenQ.mono a (by omega)) (LenQ.mono b (by omega)) (LenQ.mono c (by omega)) (LenQ.mono d (by omega))) zod X hX R hR
 generalize (if X≠0 then[] else zer R.1 R.2)=l at *
 generalize (if X≠0 then[] else zet R.1 R.2)=m at *
 generalize (if X≠0 then X else zcm R.1 R.2)=E at *
 have HC:=Aa hc;clear hc;have aD:Below w.heap.size w (((w.alloc (.cells #[.string s,.string t] 24)).alloc (.cells #[.string s2,.string t2] 24)).alloc (.cells #[.string ⟨#[]⟩,.string ⟨#[]⟩] 24)):=((((Below.refl _ _).alloc (by simp<;>omega) _).alloc (by simp<;>omega) _).alloc (by simp<;>omega) _);have q0:CBlk (((w.alloc (.cells #[.string s,.string t] 24)).alloc (.cells #[.string s2,.string t2] 24)).alloc (.cells #[.string ⟨#[]⟩,.string ⟨#[]⟩] 24)) (w.heap.size) #[.string s,.string t] 24:=(((CBlk.new _ _ _ _ (by simp)).alloc _).alloc _);have q1:CBlk (((w.alloc (.cells #[.string s,.string t] 24)).alloc (.cells #[.string s2,.string t2] 24)).alloc (.cells #[.string ⟨#[]⟩,.string ⟨#[]⟩] 24)) (w.heap.size+1) #[.string s2,.string t2] 24:=((CBlk.new _ _ _ _ (by simp)).alloc _);have q2:CBlk (((w.alloc (.cells #[.string s,.string t] 24)).alloc (.cells #[.string s2,.string t2] 24)).alloc (.cells #[.string ⟨#[]⟩,.string ⟨#[]⟩] 24)) (w.heap.size+1+1) #[.string ⟨#[]⟩,.string ⟨#[]⟩] 24:=(CBlk.new _ _ _ _ (by simp));go_enter Tryz.func21,Tryz.ntmps21
 go_upto_region 1 with(fail)
 generalize (((w.alloc (.cells #[.string s,.string t] 24)).alloc (.cells #[.string s2,.string t2] 24)).alloc (.cells #[.string ⟨#[]⟩,.string ⟨#[]⟩] 24))=W at *;have a0:=q0.cell 0;have a1:=q0.cell 1;have b0:=q1.cell 0;have b1:=q1.cell 1
 go_wp2_with fail
 refine(HC.out W (hT.later aD)).mono ?_;rintro e w8 ⟨z1,z2,rfl,aF,aH,aE⟩;have aI:=Ad aD aE;have aA:=q2.below aE q2.lt;have y0:=aA.cell 0;have y1:=aA.cell 1;have f0:=aA.frozen 0;have f1:=aA.frozen 1;have aC:=zbN aI (g:=w.heap.size+1+1) (by omega) (.string z1) (.string z2);go_wp2
 refine bodyPost_ret (v := .tuple #[.agg #[.string z1,.string z2],.int .i64 E]) (by simp[results,Tryz.results21,go_sem,y0,y1]) rfl ⟨z1,z2,rfl,aF,aH,aC⟩
def zfC (a s:Nat):Prop:=s*s≤a∧a<(s+1)*(s+1)
theorem zn1{a s r:Nat}(hs:zfC a s)(hr:s≤r)(h0:0<r):s≤(r+a/r)/2:=by
 have aA:a<r*(a/r+1):=by
  have h:=Nat.div_add_mod a r;have h2:=Nat.mod_lt a h0;rw[Nat.mul_add,Nat.mul_one];omega
 rw[Nat.le_div_iff_mul_le (by omega)]
 rcases Nat.lt_or_ge (r+a/r) (s*2) with h | h
 ·exfalso
  obtain⟨d,rfl⟩:∃ d,r=s+d:=⟨r-s,by omega⟩;generalize a/(s+d)=q at *;have h3:q+1≤s-d:=by omega
  have h4:(s+d)*(q+1)≤(s+d)*(s-d):=Nat.mul_le_mul_left _ h3;have h5:(s+d)*(s-d)≤s*s:=by
   obtain⟨e,rfl⟩:∃ e,s=d+e:=⟨s-d,by omega⟩;have e0:d+e-d=e:=by omega
   have e1:(d+e+d)*e=d*e+e*e+d*e:=by rw[Nat.add_mul,Nat.add_mul]
   have e2:(d+e)*(d+e)=d*d+d*e+(e*d+e*e):=by rw[Nat.add_mul,Nat.mul_add,Nat.mul_add]
   have e3:=Nat.mul_comm d e;rw[e0,e1,e2];omega
  have:=hs.1;omega
 ·exact h
theorem zjI{a s r:Nat}(hs:zfC a s)(hr:s≤r)(h0:0<r)(h:r≤(r+a/r)/2):r=s:=by
 rw[Nat.le_div_iff_mul_le (by omega)] at h;have h1:r≤a/r:=by omega
 have h2:r*r≤a:=(Nat.le_div_iff_mul_le h0).1 h1
 rcases Nat.lt_or_ge s r with h3 | h3
 ·exfalso
  have:(s+1)*(s+1)≤r*r:=Nat.mul_le_mul h3 h3;have:=hs.2;omega
 ·omega
theorem zis{a s:Nat}(hs:zfC a s):s≤2^((zaP a+1)/2):=by
 rcases Nat.lt_or_ge (2^((zaP a+1)/2)) s with h | h
 ·exfalso
  have h1:2^((zaP a+1)/2)*2^((zaP a+1)/2)≤s*s:=Nat.mul_le_mul (Nat.le_of_lt h) (Nat.le_of_lt h);rw[←Nat.pow_add] at h1;have h2:2^zaP a≤2^((zaP a+1)/2+(zaP a+1)/2):=Nat.pow_le_pow_right (by omega) (by omega);have h3:=zfN a;have:=hs.1;omega
 ·exact h
theorem znB{x n:Nat}(h:(digs x).length≤n):zaP x≤64*n:=by
 rcases Nat.eq_zero_or_pos x with rfl | hx
 ·simp[zaP]
 ·have h1:=zfM hx
  have h2:=zac x;have h3:B^(digs x).length≤B^n:=Nat.pow_le_pow_right zaS h;rw[zfd,←Nat.pow_mul,←Nat.pow_mul] at *
  rcases Nat.lt_or_ge (64*n) (zaP x) with h4 | h4
  ·exfalso
   have h5:2^(64*n)≤2^(zaP x-1):=Nat.pow_le_pow_right (by omega) (by omega);omega
  ·exact h4
theorem zhV(A:Option Addr)(n c x s:Nat)(w:World)(ha:NatS w w.heap.size A n c x)(hs:zfC x s)(hn:n≤16777216) :
  Calls Tryz.prog 129 #[.slice A n c] w (zcj w s):=by
 have h1:=ha.nc;have h2:=ha.cm;have hz:=fun W:World=>zcC A n c W (by omega)
 unfold maxLen at h2;have HS:=Aa hs;clear hs
 by_cases h0:n=0
 ·subst h0
  obtain rfl:x=0:=za4.1 ha.len;have bE:s=0:=by
   rcases Nat.eq_zero_or_pos s with h | h
   ·exact h
   ·have:=HS.out.1
    have:=Nat.mul_pos h h;omega
  subst bE;go_enter Tryz.func129,Tryz.ntmps129
  go_wp2_with fail
  refine(hz _).mono ?_;rintro e w1 ⟨rfl,rfl⟩
  go_wp2_with fail
  go_ret;exact⟨A,0,c,rfl,ha,Below.refl _ _⟩
 ·have hx:0<x:=by
   rcases Nat.eq_zero_or_pos x with rfl | h
   ·exact absurd (by rw[←ha.len,zal];rfl) h0
   ·exact h
  have bM:(((n:Nat):Int)==0)=false:=by rw[beq_eq_false_iff_ne];omega
  simp only[bM] at hz
  have aN:=fun W:World=>fun h=>zdz A n c x W h (by omega)
  have bL:=znB (x:=x) (n:=n) (by rw[ha.len];exact Nat.le_refl _);have aJ:=zis HS.out;obtain⟨nb,aF⟩:∃ nb,nb=zaP x:=⟨_,rfl⟩;rw[←aF] at bL aJ;simp only[←aF] at aN
  obtain⟨k,hk⟩:∃ k,k=(nb+1)/2:=⟨_,rfl⟩;rw[←hk] at aJ;have ek:((nb:Int)+1)/2=(k:Int):=by omega
  have bC:k≤1099511627776:=by omega
  have HK:=Aa hk;clear hk aF;have bA:=zai 1 w (by omega) (by omega);go_enter Tryz.func129,Tryz.ntmps129
  go_wp2_with fail
  refine(hz _).mono ?_;rintro e w1 ⟨rfl,rfl⟩
  go_wp2_with fail
  refine bA.mono ?_;rintro e w2 ⟨A1,m1,c1,rfl,aQ,aL⟩
  go_wp2_with fail
  refine(aN _ (ha.later aL)).mono ?_;rintro e w3 ⟨rfl,rfl⟩;have bK:m1≤1099511627776:=by
   have:=aQ.len;have k2:(digs (Int.toNat 1)).length≤1:=zab (by decide);omega
  have aX:=zaw A1 m1 c1 _ k _ aQ bK bC
  go_wp2_with fail
  refine aX.mono ?_;rintro e w4 ⟨A4,m4,c4,rfl,aG,aU⟩;rw[show Int.toNat 1*2^k=2^k from by simp] at aG;have aA:Below w.heap.size w w4:=Ad aL aU;have aW:m4≤n+1:=by
   have k1:=aG.len;have k2:(digs (2^k)).length≤n+1:=zab (by
    rw[zfd,←Nat.pow_mul];exact(Nat.pow_lt_pow_iff_right (by omega)).2 (by omega))
   omega
  have hp:=Nat.two_pow_pos k;obtain⟨r0,aV⟩:∃ r0,r0=2^k:=⟨_,rfl⟩;rw[←aV] at aJ aG hp;clear aV bA aX aQ aL aU aN ek
  go_wp2_with fail
  go_loopg [3] r0 (fun G sl we=>∃ A2 m2 c2 r,sl = .slice A2 m2 c2∧NatS we we.heap.size A2 m2 c2 r∧m2≤n+1∧0<r∧s≤r∧r≤G∧Below w.heap.size w we)
  case atStart=>exact⟨A4,m4,c4,r0,rfl,aG,aW,hp,aJ,Nat.le_refl _,aA⟩
  case round=>
   clear aG aW hp aJ aA;obtain⟨A2,m2,c2,r,rfl,aH,bD,hr,aS,bQ,aA⟩:=hrel;have bF:=zcU A A2 n c m2 c2 x r wr (ha.later aA) aH hr (by omega)
   go_wp2_with fail
   refine bF.mono ?_;rintro e w5 ⟨A5,m5,c5,A6,m6,c6,rfl,aO,_,aK⟩;have bP:m5≤n:=by
    have k1:=aO.len;have k2:=zaa (Nat.div_le_self x r);have k3:=ha.len;omega
   go_wp2_with fail
   refine(zcw A2 A5 m2 c2 m5 c5 r (x/r) _ (aH.later aK) aO (by omega) (by omega)).mono ?_;rintro e w7 ⟨A7,m7,c7,rfl,aT,aM⟩;have bO:m7≤n+2:=by
    have k1:=aT.len;have k2:(digs (r+x/r)).length≤n+2:=zab (by
     have j1:=zac r;have j2:=zac (x/r);rw[aH.len] at j1;rw[aO.len] at j2;have j3:B^m2≤B^(n+1):=Nat.pow_le_pow_right zaS bD;have j4:B^m5≤B^(n+1):=Nat.pow_le_pow_right zaS (by omega);exact ziy _ _ _ _ _ (Nat.lt_of_lt_of_le j1 j3) (Nat.lt_of_lt_of_le j2 j4) (Nat.le_refl _) (by rw[Nat.pow_succ B (n+1)];exact Nat.mul_le_mul_left _ zey))
    omega
   go_wp2_with fail
   refine(zaV A7 m7 c7 (r+x/r) 1 _ aT (by omega) (by omega)).mono ?_;rintro e w8 ⟨aR,bB⟩;obtain⟨A8,m8,c8,bG,aE,_⟩:=bB.ret aR;subst bG;rw[Nat.pow_one] at aE;have aD:Below w.heap.size w w8:=aA.trans ((aK.trans ((aM.trans (aR.mono aM.size)).mono aK.size)).mono aA.size);have aC:=((aH.later aK).later aM).later aR;have aP:=zn1 HS.out aS hr;have aI:=zaU A8 A2 m8 c8 m2 c2 _ r w8 aE aC;obtain⟨t,ht⟩:∃ t,t=(r+x/r)/2:=⟨_,rfl⟩;rw[←ht] at aP aI aE
   by_cases hrt:r≤t
   ·have aY:r=s:=zjI HS.out aS hr (by rw[←ht];exact hrt)
    have hv:∃ v,v=ncmp t r∧0≤v:=⟨_,rfl,by unfold ncmp;rw[if_neg (by omega)];split<;>omega⟩;obtain⟨v,aZ,bR⟩:=hv;rw[←aZ] at aI;have bJ:=Aa aY;clear aZ aY ht aP
    go_wp2_with fail
    refine aI.mono ?_;rintro e w9 ⟨rfl,q,rfl⟩
    go_wp2_with fail
    go_ret;exact⟨A2,m2,c2,rfl,by rw[←bJ.out];exact⟨aC.words,aC.nc,aC.cm⟩,zad aD q⟩
   ·rw[ncmp_lt (by omega)] at aI
    have bN:=Aa ht;clear ht;have bH:m8≤n+1:=by
     have k1:=aE.len;have k2:=zaa (show t≤r by omega);have k3:=aH.len;omega
    have bI:0<t:=by
     have k1:0<s:=by
      rcases Nat.eq_zero_or_pos s with h | h
      ·have:=HS.out.2
       rw[h] at this;omega
      ·exact h
     omega
    go_wp2_with fail
    refine aI.mono ?_;rintro e w9 ⟨rfl,q,rfl⟩
    go_wp2_with fail
    go_roundg t
    case measure=>omega
    case rel=>exact⟨A8,m8,c8,t,rfl,⟨aE.words,aE.nc,aE.cm⟩,bH,bI,aP,Nat.le_refl _,zad aD q⟩
end Go.Proofs.YtbkgkoenppkhpaaGreatDoor
