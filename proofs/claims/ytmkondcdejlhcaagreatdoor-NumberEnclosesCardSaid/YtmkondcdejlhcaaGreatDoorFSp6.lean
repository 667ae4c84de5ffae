/- Contracts of package number's combine of two spans, and of Plus, Minus, Times, Over, CheckSpan. -/
import Derived.Test.YtmkondcdejlhcaaGreatDoorFSp2
import Derived.Test.YtmkondcdejlhcaaGreatDoorFSp5
set_option maxRecDepth 100000
set_option maxHeartbeats 4000000
namespace Go.Proofs.YtmkondcdejlhcaaGreatDoor
open Go.RowKit Bn
theorem zhQ(fo:FuncId)(x y E:Int)(p q p' q':Q)(s t s2 t2:ByteArray)(w:World)(hT:Tabs w)(HE:Hid (E=if x≠0 then x else y))(H0:Hid (E≠0))(HR1:Hid (∀ W,Tabs W→Calls Tryz.prog 78 #[.agg #[.string s,.string t]] W (zbm W p q x)))(HR2:Hid (∀ W,Tabs W→Calls Tryz.prog 78 #[.agg #[.string s2,.string t2]] W (zbm W p' q' y))) :
  Calls Tryz.prog 77 #[.agg #[.string s,.string t],.agg #[.string s2,.string t2],.func (.func 78) #[] #[],.func (.func fo) #[] #[],.func (.func 80) #[] #[]] w (zcT w [] [] E):=by
 have er:=fun aE w=>show(callFunc 78 aE).run Tryz.prog w = .ok (.enter 78 aE) w from by kernel_rfl
 have bS:(E != 0)=true:=by simpa using H0.out
 have aH:Below w.heap.size w (((w.alloc (.cells #[.string s,.string t] 39)).alloc (.cells #[.string s2,.string t2] 39)).alloc (.cells #[.string ⟨#[]⟩,.string ⟨#[]⟩] 39)):=((((Below.refl _ _).alloc (by simp<;>omega) _).alloc (by simp<;>omega) _).alloc (by simp<;>omega) _);have q0:CBlk (((w.alloc (.cells #[.string s,.string t] 39)).alloc (.cells #[.string s2,.string t2] 39)).alloc (.cells #[.string ⟨#[]⟩,.string ⟨#[]⟩] 39)) (w.heap.size) #[.string s,.string t] 39:=(((CBlk.new _ _ _ _ (by simp)).alloc _).alloc _);have q1:CBlk (((w.alloc (.cells #[.string s,.string t] 39)).alloc (.cells #[.string s2,.string t2] 39)).alloc (.cells #[.string ⟨#[]⟩,.string ⟨#[]⟩] 39)) (w.heap.size+1) #[.string s2,.string t2] 39:=((CBlk.new _ _ _ _ (by simp)).alloc _);have q2:CBlk (((w.alloc (.cells #[.string s,.string t] 39)).alloc (.cells #[.string s2,.string t2] 39)).alloc (.cells #[.string ⟨#[]⟩,.string ⟨#[]⟩] 39)) (w.heap.size+1+1) #[.string ⟨#[]⟩,.string ⟨#[]⟩] 39:=(CBlk.new _ _ _ _ (by simp));go_enter Tryz.func77,Tryz.ntmps77
 go_upto_region 1 with(fail)
 generalize (((w.alloc (.cells #[.string s,.string t] 39)).alloc (.cells #[.string s2,.string t2] 39)).alloc (.cells #[.string ⟨#[]⟩,.string ⟨#[]⟩] 39))=W at *;have a0:=q0.cell 0;have a1:=q0.cell 1
 go_wp2_with fail
 refine(HR1.out W (hT.later aH)).mono ?_;rintro e w2 ⟨v2,rfl,⟨A1,n1,c1,A2,n2,c2,A3,n3,c3,A4,n4,c4,rfl,h1,h2,h3,h4⟩,aI⟩;have aA:Below w2.heap.size w2 (w2.alloc (.cells #[.bool p.neg,.slice A1 n1 c1,.slice A2 n2 c2,.bool q.neg,.slice A3 n3 c3,.slice A4 n4 c4] 107)):=Ac;have aQ:=Ad aH aI;have aG:=Ad aQ aA;have aP:=(q1.below aI q1.lt).alloc (.cells #[.bool p.neg,.slice A1 n1 c1,.slice A2 n2 c2,.bool q.neg,.slice A3 n3 c3,.slice A4 n4 c4] 107);have aL:=(q2.below aI q2.lt).alloc (.cells #[.bool p.neg,.slice A1 n1 c1,.slice A2 n2 c2,.bool q.neg,.slice A3 n3 c3,.slice A4 n4 c4] 107);have aM:CBlk (w2.alloc (.cells #[.bool p.neg,.slice A1 n1 c1,.slice A2 n2 c2,.bool q.neg,.slice A3 n3 c3,.slice A4 n4 c4] 107)) w2.heap.size #[.bool p.neg,.slice A1 n1 c1,.slice A2 n2 c2,.bool q.neg,.slice A3 n3 c3,.slice A4 n4 c4] 107:=CBlk.new _ _ _ _ rfl;have bG:=h1.later aA;have aX:=h2.later aA;have aV:=h3.later aA;have aY:=h4.later aA;clear a0 a1 q0 q1 q2 aH aI aQ h1 h2 h3 h4 aA;go_upto_region 2 with(fail)
 generalize (w2.alloc (.cells #[.bool p.neg,.slice A1 n1 c1,.slice A2 n2 c2,.bool q.neg,.slice A3 n3 c3,.slice A4 n4 c4] 107))=w3 at *;have a0:=aP.cell 0;have a1:=aP.cell 1
 go_wp2_with fail
 refine(HR2.out w3 (hT.later aG)).mono ?_;rintro e w4 ⟨v4,rfl,⟨D1,e1,d1,D2,e2,d2,D3,e3,d3,D4,e4,d4,rfl,k1,k2,k3,k4⟩,aD⟩;have aA:Below w4.heap.size w4 (w4.alloc (.cells #[.bool p'.neg,.slice D1 e1 d1,.slice D2 e2 d2,.bool q'.neg,.slice D3 e3 d3,.slice D4 e4 d4] 107)):=Ac;have aO:=Ad aG aD;have aK:=Ad aO aA;have aR:=(aL.below aD aL.lt).alloc (.cells #[.bool p'.neg,.slice D1 e1 d1,.slice D2 e2 d2,.bool q'.neg,.slice D3 e3 d3,.slice D4 e4 d4] 107);have bE:=(aM.below aD aM.lt).alloc (.cells #[.bool p'.neg,.slice D1 e1 d1,.slice D2 e2 d2,.bool q'.neg,.slice D3 e3 d3,.slice D4 e4 d4] 107);have bA:CBlk (w4.alloc (.cells #[.bool p'.neg,.slice D1 e1 d1,.slice D2 e2 d2,.bool q'.neg,.slice D3 e3 d3,.slice D4 e4 d4] 107)) w4.heap.size #[.bool p'.neg,.slice D1 e1 d1,.slice D2 e2 d2,.bool q'.neg,.slice D3 e3 d3,.slice D4 e4 d4] 107:=CBlk.new _ _ _ _ rfl;have bC:=(bG.later aD).later aA;have aU:=(aX.later aD).later aA;have bB:=(aV.later aD).later aA;have aW:=(aY.later aD).later aA;have bD:=k1.later aA;have aS:=k2.later aA;have bF:=k3.later aA;have aT:=k4.later aA;clear a0 a1 aP aL aM aG aD aO bG aX aV aY k1 k2 k3 k4 aA;go_upto_region 3 with(fail)
 generalize (w4.alloc (.cells #[.bool p'.neg,.slice D1 e1 d1,.slice D2 e2 d2,.bool q'.neg,.slice D3 e3 d3,.slice D4 e4 d4] 107))=w5 at *;have aN:Below w.heap.size w (w5.alloc (.cells #[.int .i64 x,.int .i64 y] 26)):=aK.alloc aK.size _;have aC:Below w5.heap.size w5 (w5.alloc (.cells #[.int .i64 x,.int .i64 y] 26)):=Ac;have aZ:=aR.alloc (.cells #[.int .i64 x,.int .i64 y] 26);have bK:=bE.alloc (.cells #[.int .i64 x,.int .i64 y] 26);have bR:=bA.alloc (.cells #[.int .i64 x,.int .i64 y] 26);have bI:=bC.later aC;have bP:=aU.later aC;have bO:=bB.later aC;have bH:=aW.later aC;have bN:=bD.later aC;have bM:=aS.later aC;have bJ:=bF.later aC;have bL:=aT.later aC
 go_wp2_with fail
 refine(za7 x y E HE.out w5 _ _ rfl).mono ?_;rintro e w6 ⟨rfl,rfl⟩;clear aR bE bA aK aC bC aU bB aW bD aS bF aT;generalize (w5.alloc (.cells #[.int .i64 x,.int .i64 y] 26))=w6 at *;have qz:CBlk (w6.alloc (.cells #[.string ⟨#[]⟩,.string ⟨#[]⟩] 39)) w6.heap.size #[.string ⟨#[]⟩,.string ⟨#[]⟩] 39:=CBlk.new _ _ _ _ rfl;have aF:=aZ.alloc (.cells #[.string ⟨#[]⟩,.string ⟨#[]⟩] 39);have bQ:Below w.heap.size w (w6.alloc (.cells #[.string ⟨#[]⟩,.string ⟨#[]⟩] 39)):=aN.alloc aN.size _;clear bK bR bI bP bO bH bN bM bJ bL aZ aN;go_upto_region 6 with(fail)
 generalize (w6.alloc (.cells #[.string ⟨#[]⟩,.string ⟨#[]⟩] 39))=w7 at *;have x0:=qz.cell 0;have x1:=qz.cell 1;have y0:=aF.cell 0;have y1:=aF.cell 1;have z0:=aF.frozen 0;have z1:=aF.frozen 1;have aJ:=zbL bQ (g:=w.heap.size+1+1) (by omega) (.string ⟨#[]⟩) (.string ⟨#[]⟩);go_wp2
 refine bodyPost_ret (v := .tuple #[.agg #[.string ⟨#[]⟩,.string ⟨#[]⟩],.int .i64 E]) (by simp[results,Tryz.results77,go_sem,y0,y1]) rfl ⟨⟨#[]⟩,⟨#[]⟩,rfl,rfl,rfl,aJ⟩
theorem zi5(fo:FuncId)(x y:Int)(p q p' q' r1 r2:Q)(s t s2 t2:ByteArray)(w:World)(hT:Tabs w)(HX:Hid (x=0∧y=0))(eo:∀ args w,(callFunc fo args).run Tryz.prog w = .ok (.enter fo args) w)(lr1:LenQ r1 268435456)(lr2:LenQ r2 268435456)(HR1:Hid (∀ W,Tabs W→Calls Tryz.prog 78 #[.agg #[.string s,.string t]] W (zbm W p q x)))(HR2:Hid (∀ W,Tabs W→Calls Tryz.prog 78 #[.agg #[.string s2,.string t2]] W (zbm W p' q' y)))
 (HO:Hid (∀ v u W,Tabs W→ItvS W W.heap.size v p q→ItvS W W.heap.size u p' q'→Calls Tryz.prog fo #[v,u] W (zb3 W r1 r2))) :
  Calls Tryz.prog 77 #[.agg #[.string s,.string t],.agg #[.string s2,.string t2],.func (.func 78) #[] #[],.func (.func fo) #[] #[],.func (.func 80) #[] #[]] w (zcT w (zc0 r1 r2) (zcZ r1 r2) (zbY r1 r2)):=by
 have er:=fun args w=>show(callFunc 78 args).run Tryz.prog w = .ok (.enter 78 args) w from by kernel_rfl
 have ew:=fun args w=>show(callFunc 80 args).run Tryz.prog w = .ok (.enter 80 args) w from by kernel_rfl
 obtain⟨E,hE⟩:∃ E:Int,E=if x≠0 then x else y:=⟨_,rfl⟩
 have cM:(E != 0)=false:=by rw[hE,HX.out.1,HX.out.2];rfl
 have HE:=Aa hE;clear hE;have aK:Below w.heap.size w (((w.alloc (.cells #[.string s,.string t] 39)).alloc (.cells #[.string s2,.string t2] 39)).alloc (.cells #[.string ⟨#[]⟩,.string ⟨#[]⟩] 39)):=((((Below.refl _ _).alloc (by simp<;>omega) _).alloc (by simp<;>omega) _).alloc (by simp<;>omega) _);have q0:CBlk (((w.alloc (.cells #[.string s,.string t] 39)).alloc (.cells #[.string s2,.string t2] 39)).alloc (.cells #[.string ⟨#[]⟩,.string ⟨#[]⟩] 39)) (w.heap.size) #[.string s,.string t] 39:=(((CBlk.new _ _ _ _ (by simp)).alloc _).alloc _);have q1:CBlk (((w.alloc (.cells #[.string s,.string t] 39)).alloc (.cells #[.string s2,.string t2] 39)).alloc (.cells #[.string ⟨#[]⟩,.string ⟨#[]⟩] 39)) (w.heap.size+1) #[.string s2,.string t2] 39:=((CBlk.new _ _ _ _ (by simp)).alloc _);have q2:CBlk (((w.alloc (.cells #[.string s,.string t] 39)).alloc (.cells #[.string s2,.string t2] 39)).alloc (.cells #[.string ⟨#[]⟩,.string ⟨#[]⟩] 39)) (w.heap.size+1+1) #[.string ⟨#[]⟩,.string ⟨#[]⟩] 39:=(CBlk.new _ _ _ _ (by simp));go_enter Tryz.func77,Tryz.ntmps77
 go_upto_region 1 with(fail)
 generalize (((w.alloc (.cells #[.string s,.string t] 39)).alloc (.cells #[.string s2,.string t2] 39)).alloc (.cells #[.string ⟨#[]⟩,.string ⟨#[]⟩] 39))=W at *;have a0:=q0.cell 0;have a1:=q0.cell 1
 go_wp2_with fail
 refine(HR1.out W (hT.later aK)).mono ?_;rintro e w2 ⟨v2,rfl,⟨A1,n1,c1,A2,n2,c2,A3,n3,c3,A4,n4,c4,rfl,h1,h2,h3,h4⟩,aL⟩;have aA:Below w2.heap.size w2 (w2.alloc (.cells #[.bool p.neg,.slice A1 n1 c1,.slice A2 n2 c2,.bool q.neg,.slice A3 n3 c3,.slice A4 n4 c4] 107)):=Ac;have aU:=Ad aK aL;have aJ:=Ad aU aA;have aT:=(q1.below aL q1.lt).alloc (.cells #[.bool p.neg,.slice A1 n1 c1,.slice A2 n2 c2,.bool q.neg,.slice A3 n3 c3,.slice A4 n4 c4] 107);have aP:=(q2.below aL q2.lt).alloc (.cells #[.bool p.neg,.slice A1 n1 c1,.slice A2 n2 c2,.bool q.neg,.slice A3 n3 c3,.slice A4 n4 c4] 107);have aQ:CBlk (w2.alloc (.cells #[.bool p.neg,.slice A1 n1 c1,.slice A2 n2 c2,.bool q.neg,.slice A3 n3 c3,.slice A4 n4 c4] 107)) w2.heap.size #[.bool p.neg,.slice A1 n1 c1,.slice A2 n2 c2,.bool q.neg,.slice A3 n3 c3,.slice A4 n4 c4] 107:=CBlk.new _ _ _ _ rfl;have bU:=h1.later aA;have bJ:=h2.later aA;have bC:=h3.later aA;have bK:=h4.later aA;clear a0 a1 q0 q1 q2 aK aL aU h1 h2 h3 h4 aA;go_upto_region 2 with(fail)
 generalize (w2.alloc (.cells #[.bool p.neg,.slice A1 n1 c1,.slice A2 n2 c2,.bool q.neg,.slice A3 n3 c3,.slice A4 n4 c4] 107))=w3 at *;have a0:=aT.cell 0;have a1:=aT.cell 1
 go_wp2_with fail
 refine(HR2.out w3 (hT.later aJ)).mono ?_;rintro e w4 ⟨v4,rfl,⟨D1,e1,d1,D2,e2,d2,D3,e3,d3,D4,e4,d4,rfl,k1,k2,k3,k4⟩,aD⟩;have aA:Below w4.heap.size w4 (w4.alloc (.cells #[.bool p'.neg,.slice D1 e1 d1,.slice D2 e2 d2,.bool q'.neg,.slice D3 e3 d3,.slice D4 e4 d4] 107)):=Ac;have aS:=Ad aJ aD;have aO:=Ad aS aA;have aV:=(aP.below aD aP.lt).alloc (.cells #[.bool p'.neg,.slice D1 e1 d1,.slice D2 e2 d2,.bool q'.neg,.slice D3 e3 d3,.slice D4 e4 d4] 107);have bS:=(aQ.below aD aQ.lt).alloc (.cells #[.bool p'.neg,.slice D1 e1 d1,.slice D2 e2 d2,.bool q'.neg,.slice D3 e3 d3,.slice D4 e4 d4] 107);have bO:CBlk (w4.alloc (.cells #[.bool p'.neg,.slice D1 e1 d1,.slice D2 e2 d2,.bool q'.neg,.slice D3 e3 d3,.slice D4 e4 d4] 107)) w4.heap.size #[.bool p'.neg,.slice D1 e1 d1,.slice D2 e2 d2,.bool q'.neg,.slice D3 e3 d3,.slice D4 e4 d4] 107:=CBlk.new _ _ _ _ rfl;have bQ:=(bU.later aD).later aA;have bB:=(bJ.later aD).later aA;have bP:=(bC.later aD).later aA;have bE:=(bK.later aD).later aA;have bR:=k1.later aA;have aZ:=k2.later aA;have bT:=k3.later aA;have bA:=k4.later aA;clear a0 a1 aT aP aQ aJ aD aS bU bJ bC bK k1 k2 k3 k4 aA;go_upto_region 3 with(fail)
 generalize (w4.alloc (.cells #[.bool p'.neg,.slice D1 e1 d1,.slice D2 e2 d2,.bool q'.neg,.slice D3 e3 d3,.slice D4 e4 d4] 107))=w5 at *;have aI:Below w.heap.size w (w5.alloc (.cells #[.int .i64 x,.int .i64 y] 26)):=aO.alloc aO.size _;have aC:Below w5.heap.size w5 (w5.alloc (.cells #[.int .i64 x,.int .i64 y] 26)):=Ac;have aR:=aV.alloc (.cells #[.int .i64 x,.int .i64 y] 26);have aE:=bS.alloc (.cells #[.int .i64 x,.int .i64 y] 26);have aF:=bO.alloc (.cells #[.int .i64 x,.int .i64 y] 26);have aX:=bQ.later aC;have bM:=bB.later aC;have bL:=bP.later aC;have aW:=bE.later aC;have bI:=bR.later aC;have bH:=aZ.later aC;have aY:=bT.later aC;have bF:=bA.later aC
 go_wp2_with fail
 refine(za7 x y E HE.out w5 _ _ rfl).mono ?_;rintro e w6 ⟨rfl,rfl⟩;clear aV bS bO aO aC bQ bB bP bE bR aZ bT bA;generalize (w5.alloc (.cells #[.int .i64 x,.int .i64 y] 26))=w6 at *;have cK:=aE.cell 0;have cA:=aE.cell 1;have bZ:=aE.cell 2;have bX:=aE.cell 3;have cC:=aE.cell 4;have cJ:=aE.cell 5;have cB:=aF.cell 0;have bY:=aF.cell 1;have bV:=aF.cell 2;have cH:=aF.cell 3;have cG:=aF.cell 4;have cL:=aF.cell 5;have aM:=hT.later aI
 go_wp2_with fail
 refine(HO.out _ _ w6 aM ⟨A1,n1,c1,A2,n2,c2,A3,n3,c3,A4,n4,c4,rfl,aX,bM,bL,aW⟩ ⟨D1,e1,d1,D2,e2,d2,D3,e3,d3,D4,e4,d4,rfl,bI,bH,aY,bF⟩).mono ?_;rintro e w7 ⟨v7,rfl,h7,aG⟩;have bN:=Ad aI aG;have bG:=aR.below aG aR.lt;have cI:=aM.later aG;clear cK cB cA bY bZ bV bX cH cC cG cJ cL aE aF aX bM bL aW bI bH aY bF aR aI aG aM
 go_wp2_with fail
 refine(zd2 r1 r2 v7 w7 cI h7 lr1 lr2).mono ?_;rintro e w8 ⟨z1,z2,rfl,cF,cE,bD⟩;have bW:=Ad bN bD;have aH:=bG.below bD bG.lt;have y0:=aH.cell 0;have y1:=aH.cell 1;have f0:=aH.frozen 0;have f1:=aH.frozen 1;have aN:=zbL bW (g:=w.heap.size+1+1) (by omega) (.string z1) (.string z2);go_wp2
 refine bodyPost_ret (v := .tuple #[.agg #[.string z1,.string z2],.int .i64 (zbY r1 r2)]) (by simp[results,Tryz.results77,go_sem,y0,y1]) rfl ⟨z1,z2,rfl,cF,cE,aN⟩
theorem zjL(l m:List UInt8)(h:zaW l m=0):zap l=0∧zap m=0∧rdLo l m=zaf l∧rdHi l m=zaf m:=by
 unfold rdLo rdHi;rw[if_pos h,if_pos h];unfold zaW at h
 by_cases hx:zap l=0
 ·by_cases hy:zap m=0
  ·exact⟨hx,hy,rfl,rfl⟩
  ·rw[if_neg (by simpa using hx),if_pos hy] at h;exact absurd h hy
 ·rw[if_pos hx] at h;exact absurd h hx
theorem zcM(fo:FuncId)(r:Q→Q→Q→Q→Q × Q)(s t s2 t2:ByteArray)(w:World)(hT:Tabs w)(hs:s.size≤4294967296)(ht:t.size≤4294967296)(hs2:s2.size≤4294967296)(ht2:t2.size≤4294967296)(eo:∀ args w,(callFunc fo args).run Tryz.prog w = .ok (.enter fo args) w)
 (HO:∀ p q p' q' v u W,LenQ p 600→LenQ q 600→LenQ p' 600→LenQ q' 600→Tabs W→ItvS W W.heap.size v p q→ItvS W W.heap.size u p' q'→Calls Tryz.prog fo #[v,u] W (zb3 W (r p q p' q').1 (r p q p' q').2))
 (HL:∀ p q p' q',LenQ p 600→LenQ q 600→LenQ p' 600→LenQ q' 600→LenQ (r p q p' q').1 268435456∧LenQ (r p q p' q').2 268435456)(X:Int)(hX:X=err2 (zaW s.data.toList t.data.toList) (zaW s2.data.toList t2.data.toList))(R:Q × Q)(hR:R=r (zaf s.data.toList) (zaf t.data.toList) (zaf s2.data.toList) (zaf t2.data.toList)) :
  Calls Tryz.prog 77 #[.agg #[.string s,.string t],.agg #[.string s2,.string t2],.func (.func 78) #[] #[],.func (.func fo) #[] #[],.func (.func 80) #[] #[]] w (zcT w (if X≠0 then[] else zc0 R.1 R.2) (if X≠0 then[] else zcZ R.1 R.2) (if X≠0 then X else zbY R.1 R.2)):=by
 have aA:=Aa (fun W h=>zcQ s t W h hs ht);have aC:=Aa (fun W h=>zcQ s2 t2 W h hs2 ht2)
 by_cases h0:X=0
 ·rw[if_neg (by simpa using h0),if_neg (by simpa using h0),if_neg (by simpa using h0)]
  rw[hX] at h0;have hx:zaW s.data.toList t.data.toList=0:=by
   unfold err2 at h0
   by_cases h:zaW s.data.toList t.data.toList=0
   ·exact h
   ·rw[if_pos h] at h0;exact absurd h0 h
  have hy:zaW s2.data.toList t2.data.toList=0:=by
   unfold err2 at h0
   rwa [if_neg (by simpa using hx)] at h0
  obtain⟨a1,a2,a3,a4⟩:=zjL _ _ hx;obtain⟨b1,b2,b3,b4⟩:=zjL _ _ hy;rw[hR];refine zi5 fo _ _ _ _ _ _ _ _ s t s2 t2 w hT ⟨hx,hy⟩ eo ?_ ?_ aA aC ?_
  ·exact(HL _ _ _ _ (zaD a1) (zaD a2) (zaD b1) (zaD b2)).1
  ·exact(HL _ _ _ _ (zaD a1) (zaD a2) (zaD b1) (zaD b2)).2
  ·exact fun v u W h1 h2 h3=>by
    rw[a3,a4] at h2;rw[b3,b4] at h3;exact(HO _ _ _ _ v u W (zaD a1) (zaD a2) (zaD b1) (zaD b2) h1 h2 h3)
 ·rw[if_pos h0,if_pos h0,if_pos h0]
  exact zhQ fo _ _ X _ _ _ _ s t s2 t2 w hT (by rw[Hid,hX];rfl) h0 aA aC
def zeW (p q p' q':Q):Q × Q:=(zb0 p p',zb0 q q')
def zdx (p q p' q':Q):Q × Q:=(zaU p q',zaU q p')
theorem zib:LenQ zb6 268435456:=⟨by show(digs 0).length≤_;rw[zam];exact Nat.zero_le _,by show(digs 0).length≤_;rw[zam];exact Nat.zero_le _⟩
theorem zl2(p q p' q':Q)(hp:LenQ p 600)(hq:LenQ q 600)(hp2:LenQ p' 600)(hq2:LenQ q' 600):LenQ (zeW p q p' q').1 268435456∧LenQ (zeW p q p' q').2 268435456:=
 ⟨(za9 hp hp2).mono (by omega),(za9 hq hq2).mono (by omega)⟩
theorem zkq (p q p' q':Q) (hp:LenQ p 600) (hq:LenQ q 600) (hp2:LenQ p' 600) (hq2:LenQ q' 600):LenQ (zdx p q p' q').1 268435456∧LenQ (zdx p q p' q').2 268435456:=
 ⟨(za9 hp (zbJ hq2)).mono (by omega),(za9 hq (zbJ hp2)).mono (by omega)⟩
theorem zkh (p q p' q':Q) (hp:LenQ p 600) (hq:LenQ q 600) (hp2:LenQ p' 600) (hq2:LenQ q' 600):LenQ (zcC p q p' q').1 268435456∧LenQ (zcC p q p' q').2 268435456:=by
 unfold zcC;exact ziz _ (fun q=>LenQ q 268435456) ((zbv (K:=600) (L:=600) _ hp hp2 (by omega)).mono (by omega)) _ (by
  intro x hx;simp only[List.mem_cons,List.not_mem_nil,or_false] at hx
  rcases hx with rfl | rfl | rfl
  ·exact(zbv (K:=600) (L:=600) _ hp hq2 (by omega)).mono (by omega)
  ·exact(zbv (K:=600) (L:=600) _ hq hp2 (by omega)).mono (by omega)
  ·exact(zbv (K:=600) (L:=600) _ hq hq2 (by omega)).mono (by omega))
theorem zl7(p q p' q':Q)(hp:LenQ p 600)(hq:LenQ q 600)(hp2:LenQ p' 600)(hq2:LenQ q' 600):LenQ (zcH p q p' q').1 268435456∧LenQ (zcH p q p' q').2 268435456:=by
 unfold zcH
 split
 ·exact⟨zib,zib⟩
 ·exact ziz _ (fun q=>LenQ q 268435456) ((zbz (K:=600) (L:=600) _ hp hp2 (by omega)).mono (by omega)) _ (by
  intro x hx;simp only[List.mem_cons,List.not_mem_nil,or_false] at hx
  rcases hx with rfl | rfl | rfl
  ·exact(zbz (K:=600) (L:=600) _ hp hq2 (by omega)).mono (by omega)
  ·exact(zbz (K:=600) (L:=600) _ hq hp2 (by omega)).mono (by omega)
  ·exact(zbz (K:=600) (L:=600) _ hq hq2 (by omega)).mono (by omega))
theorem zma(s t s2 t2:ByteArray)(w:World)(hT:Tabs w)(hs:s.size≤4294967296)(ht:t.size≤4294967296)(hs2:s2.size≤4294967296)(ht2:t2.size≤4294967296)(X:Int)(hX:X=err2 (zaW s.data.toList t.data.toList) (zaW s2.data.toList t2.data.toList))(R:Q × Q)(hR:R=zeW (zaf s.data.toList) (zaf t.data.toList) (zaf s2.data.toList) (zaf t2.data.toList)) :
  Calls Tryz.prog 28 #[.agg #[.string s,.string t],.agg #[.string s2,.string t2]] w (zcT w (if X≠0 then[] else zc0 R.1 R.2) (if X≠0 then[] else zcZ R.1 R.2) (if X≠0 then X else zbY R.1 R.2)):=by
 have hc:=fun W h=>zcM 79 zeW s t s2 t2 W h hs ht hs2 ht2 (fun aI w=>by kernel_rfl) (fun p q p' q' v u W a b c d h1 h2 h3=>zhW _ _ _ _ v u W h1 h2 h3 (LenQ.mono a (by omega)) (LenQ.mono b (by omega)) (LenQ.mono c (by omega)) (LenQ.mono d (by omega))) zl2 X hX R hR
 generalize (if X≠0 then[] else zc0 R.1 R.2)=l at *
 generalize (if X≠0 then[] else zcZ R.1 R.2)=m at *
 generalize (if X≠0 then X else zbY R.1 R.2)=E at *
 have HC:=Aa hc;clear hc;have aD:Below w.heap.size w (((w.alloc (.cells #[.string s,.string t] 39)).alloc (.cells #[.string s2,.string t2] 39)).alloc (.cells #[.string ⟨#[]⟩,.string ⟨#[]⟩] 39)):=((((Below.refl _ _).alloc (by simp<;>omega) _).alloc (by simp<;>omega) _).alloc (by simp<;>omega) _);have q0:CBlk (((w.alloc (.cells #[.string s,.string t] 39)).alloc (.cells #[.string s2,.string t2] 39)).alloc (.cells #[.string ⟨#[]⟩,.string ⟨#[]⟩] 39)) (w.heap.size) #[.string s,.string t] 39:=(((CBlk.new _ _ _ _ (by simp)).alloc _).alloc _);have q1:CBlk (((w.alloc (.cells #[.string s,.string t] 39)).alloc (.cells #[.string s2,.string t2] 39)).alloc (.cells #[.string ⟨#[]⟩,.string ⟨#[]⟩] 39)) (w.heap.size+1) #[.string s2,.string t2] 39:=((CBlk.new _ _ _ _ (by simp)).alloc _);have q2:CBlk (((w.alloc (.cells #[.string s,.string t] 39)).alloc (.cells #[.string s2,.string t2] 39)).alloc (.cells #[.string ⟨#[]⟩,.string ⟨#[]⟩] 39)) (w.heap.size+1+1) #[.string ⟨#[]⟩,.string ⟨#[]⟩] 39:=(CBlk.new _ _ _ _ (by simp));go_enter Tryz.func28,Tryz.ntmps28
 go_upto_region 1 with(fail)
 generalize (((w.alloc (.cells #[.string s,.string t] 39)).alloc (.cells #[.string s2,.string t2] 39)).alloc (.cells #[.string ⟨#[]⟩,.string ⟨#[]⟩] 39))=W at *;have a0:=q0.cell 0;have a1:=q0.cell 1;have b0:=q1.cell 0;have b1:=q1.cell 1
 go_wp2_with fail
 refine(HC.out W (hT.later aD)).mono ?_;rintro e w8 ⟨z1,z2,rfl,aH,aF,aE⟩;have aG:=Ad aD aE;have aA:=q2.below aE q2.lt;have y0:=aA.cell 0;have y1:=aA.cell 1;have f0:=aA.frozen 0;have f1:=aA.frozen 1;have aC:=zbL aG (g:=w.heap.size+1+1) (by omega) (.string z1) (.string z2);go_wp2
 refine bodyPost_ret (v := .tuple #[.agg #[.string z1,.string z2],.int .i64 E]) (by simp[results,Tryz.results28,go_sem,y0,y1]) rfl ⟨z1,z2,rfl,aH,aF,aC⟩
theorem zkW(s t s2 t2:ByteArray)(w:World)(hT:Tabs w)(hs:s.size≤4294967296)(ht:t.size≤4294967296)(hs2:s2.size≤4294967296)(ht2:t2.size≤4294967296)(X:Int)(hX:X=err2 (zaW s.data.toList t.data.toList) (zaW s2.data.toList t2.data.toList))(R:Q × Q)(hR:R=zdx (zaf s.data.toList) (zaf t.data.toList) (zaf s2.data.toList) (zaf t2.data.toList)) :
  Calls Tryz.prog 29 #[.agg #[.string s,.string t],.agg #[.string s2,.string t2]] w (zcT w (if X≠0 then[] else zc0 R.1 R.2) (if X≠0 then[] else zcZ R.1 R.2) (if X≠0 then X else zbY R.1 R.2)):=by
 have hc:=fun W h=>zcM 81 zdx s t s2 t2 W h hs ht hs2 ht2 (fun aI w=>by kernel_rfl) (fun p q p' q' v u W a b c d h1 h2 h3=>zkM _ _ _ _ v u W h1 h2 h3 (LenQ.mono a (by omega)) (LenQ.mono b (by omega)) (LenQ.mono c (by omega)) (LenQ.mono d (by omega))) zkq X hX R hR
 generalize (if X≠0 then[] else zc0 R.1 R.2)=l at *
 generalize (if X≠0 then[] else zcZ R.1 R.2)=m at *
 generalize (if X≠0 then X else zbY R.1 R.2)=E at *
 have HC:=Aa hc;clear hc;have aD:Below w.heap.size w (((w.alloc (.cells #[.string s,.string t] 39)).alloc (.cells #[.string s2,.string t2] 39)).alloc (.cells #[.string ⟨#[]⟩,.string ⟨#[]⟩] 39)):=((((Below.refl _ _).alloc (by simp<;>omega) _).alloc (by simp<;>omega) _).alloc (by simp<;>omega) _);have q0:CBlk (((w.alloc (.cells #[.string s,.string t] 39)).alloc (.cells #[.string s2,.string t2] 39)).alloc (.cells #[.string ⟨#[]⟩,.string ⟨#[]⟩] 39)) (w.heap.size) #[.string s,.string t] 39:=(((CBlk.new _ _ _ _ (by simp)).alloc _).alloc _);have q1:CBlk (((w.alloc (.cells #[.string s,.string t] 39)).alloc (.cells #[.string s2,.string t2] 39)).alloc (.cells #[.string ⟨#[]⟩,.string ⟨#[]⟩] 39)) (w.heap.size+1) #[.string s2,.string t2] 39:=((CBlk.new _ _ _ _ (by simp)).alloc _);have q2:CBlk (((w.alloc (.cells #[.string s,.string t] 39)).alloc (.cells #[.string s2,.string t2] 39)).alloc (.cells #[.string ⟨#[]⟩,.string ⟨#[]⟩] 39)) (w.heap.size+1+1) #[.string ⟨#[]⟩,.string ⟨#[]⟩] 39:=(CBlk.new _ _ _ _ (by simp));go_enter Tryz.func29,Tryz.ntmps29
 go_upto_region 1 with(fail)
 generalize (((w.alloc (.cells #[.string s,.string t] 39)).alloc (.cells #[.string s2,.string t2] 39)).alloc (.cells #[.string ⟨#[]⟩,.string ⟨#[]⟩] 39))=W at *;have a0:=q0.cell 0;have a1:=q0.cell 1;have b0:=q1.cell 0;have b1:=q1.cell 1
 go_wp2_with fail
 refine(HC.out W (hT.later aD)).mono ?_;rintro e w8 ⟨z1,z2,rfl,aH,aF,aE⟩;have aG:=Ad aD aE;have aA:=q2.below aE q2.lt;have y0:=aA.cell 0;have y1:=aA.cell 1;have f0:=aA.frozen 0;have f1:=aA.frozen 1;have aC:=zbL aG (g:=w.heap.size+1+1) (by omega) (.string z1) (.string z2);go_wp2
 refine bodyPost_ret (v := .tuple #[.agg #[.string z1,.string z2],.int .i64 E]) (by simp[results,Tryz.results29,go_sem,y0,y1]) rfl ⟨z1,z2,rfl,aH,aF,aC⟩
theorem zgx(s t s2 t2:ByteArray)(w:World)(hT:Tabs w)(hs:s.size≤4294967296)(ht:t.size≤4294967296)(hs2:s2.size≤4294967296)(ht2:t2.size≤4294967296)(X:Int)(hX:X=err2 (zaW s.data.toList t.data.toList) (zaW s2.data.toList t2.data.toList))(R:Q × Q)(hR:R=zcC (zaf s.data.toList) (zaf t.data.toList) (zaf s2.data.toList) (zaf t2.data.toList)) :
  Calls Tryz.prog 30 #[.agg #[.string s,.string t],.agg #[.string s2,.string t2]] w (zcT w (if X≠0 then[] else zc0 R.1 R.2) (if X≠0 then[] else zcZ R.1 R.2) (if X≠0 then X else zbY R.1 R.2)):=by
 have hc:=fun W h=>zcM 82 zcC s t s2 t2 W h hs ht hs2 ht2 (fun aI w=>by kernel_rfl) (fun p q p' q' v u W a b c d h1 h2 h3=>zkK _ _ _ _ v u W h1 h2 h3 (LenQ.mono a (by omega)) (LenQ.mono b (by omega)) (LenQ.mono c (by omega)) (LenQ.mono d (by omega))) zkh X hX R hR
 generalize (if X≠0 then[] else zc0 R.1 R.2)=l at *
 generalize (if X≠0 then[] else zcZ R.1 R.2)=m at *
 generalize (if X≠0 then X else zbY R.1 R.2)=E at *
 have HC:=Aa hc;clear hc;have aD:Below w.heap.size w (((w.alloc (.cells #[.string s,.string t] 39)).alloc (.cells #[.string s2,.string t2] 39)).alloc (.cells #[.string ⟨#[]⟩,.string ⟨#[]⟩] 39)):=((((Below.refl _ _).alloc (by simp<;>omega) _).alloc (by simp<;>omega) _).alloc (by simp<;>omega) _);have q0:CBlk (((w.alloc (.cells #[.string s,.string t] 39)).alloc (.cells #[.string s2,.string t2] 39)).alloc (.cells #[.string ⟨#[]⟩,.string ⟨#[]⟩] 39)) (w.heap.size) #[.string s,.string t] 39:=(((CBlk.new _ _ _ _ (by simp)).alloc _).alloc _);have q1:CBlk (((w.alloc (.cells #[.string s,.string t] 39)).alloc (.cells #[.string s2,.string t2] 39)).alloc (.cells #[.string ⟨#[]⟩,.string ⟨#[]⟩] 39)) (w.heap.size+1) #[.string s2,.string t2] 39:=((CBlk.new _ _ _ _ (by simp)).alloc _);have q2:CBlk (((w.alloc (.cells #[.string s,.string t] 39)).alloc (.cells #[.string s2,.string t2] 39)).alloc (.cells #[.string ⟨#[]⟩,.string ⟨#[]⟩] 39)) (w.heap.size+1+1) #[.string ⟨#[]⟩,.string ⟨#[]⟩] 39:=(CBlk.new _ _ _ _ (by simp));go_enter Tryz.func30,Tryz.ntmps30
 go_upto_region 1 with(fail)
 generalize (((w.alloc (.cells #[.string s,.string t] 39)).alloc (.cells #[.string s2,.string t2] 39)).alloc (.cells #[.string ⟨#[]⟩,.string ⟨#[]⟩] 39))=W at *;have a0:=q0.cell 0;have a1:=q0.cell 1;have b0:=q1.cell 0;have b1:=q1.cell 1
 go_wp2_with fail
 refine(HC.out W (hT.later aD)).mono ?_;rintro e w8 ⟨z1,z2,rfl,aH,aF,aE⟩;have aG:=Ad aD aE;have aA:=q2.below aE q2.lt;have y0:=aA.cell 0;have y1:=aA.cell 1;have f0:=aA.frozen 0;have f1:=aA.frozen 1;have aC:=zbL aG (g:=w.heap.size+1+1) (by omega) (.string z1) (.string z2);go_wp2
 refine bodyPost_ret (v := .tuple #[.agg #[.string z1,.string z2],.int .i64 E]) (by simp[results,Tryz.results30,go_sem,y0,y1]) rfl ⟨z1,z2,rfl,aH,aF,aC⟩
theorem zfL(s t s2 t2:ByteArray)(w:World)(hT:Tabs w)(hs:s.size≤4294967296)(ht:t.size≤4294967296)(hs2:s2.size≤4294967296)(ht2:t2.size≤4294967296)(X:Int)(hX:X=err2 (zaW s.data.toList t.data.toList) (zaW s2.data.toList t2.data.toList))(R:Q × Q)(hR:R=zcH (zaf s.data.toList) (zaf t.data.toList) (zaf s2.data.toList) (zaf t2.data.toList)) :
  Calls Tryz.prog 34 #[.agg #[.string s,.string t],.agg #[.string s2,.string t2]] w (zcT w (if X≠0 then[] else zc0 R.1 R.2) (if X≠0 then[] else zcZ R.1 R.2) (if X≠0 then X else zbY R.1 R.2)):=by
 have hc:=fun W h=>zcM 84 zcH s t s2 t2 W h hs ht hs2 ht2 (fun aI w=>by kernel_rfl) (fun p q p' q' v u W a b c d h1 h2 h3=>zlk _ _ _ _ v u W h1 h2 h3 (LenQ.mono a (by omega)) (LenQ.mono b (by omega)) (LenQ.mono c (by omega)) (LenQ.mono d (by omega))) zl7 X hX R hR
 generalize (if X≠0 then[] else zc0 R.1 R.2)=l at *
 generalize (if X≠0 then[] else zcZ R.1 R.2)=m at *
 generalize (if X≠0 then X else zbY R.1 R.2)=E at *
 have HC:=Aa hc;clear hc;have aD:Below w.heap.size w (((w.alloc (.cells #[.string s,.string t] 39)).alloc (.cells #[.string s2,.string t2] 39)).alloc (.cells #[.string ⟨#[]⟩,.string ⟨#[]⟩] 39)):=((((Below.refl _ _).alloc (by simp<;>omega) _).alloc (by simp<;>omega) _).alloc (by simp<;>omega) _);have q0:CBlk (((w.alloc (.cells #[.string s,.string t] 39)).alloc (.cells #[.string s2,.string t2] 39)).alloc (.cells #[.string ⟨#[]⟩,.string ⟨#[]⟩] 39)) (w.heap.size) #[.string s,.string t] 39:=(((CBlk.new _ _ _ _ (by simp)).alloc _).alloc _);have q1:CBlk (((w.alloc (.cells #[.string s,.string t] 39)).alloc (.cells #[.string s2,.string t2] 39)).alloc (.cells #[.string ⟨#[]⟩,.string ⟨#[]⟩] 39)) (w.heap.size+1) #[.string s2,.string t2] 39:=((CBlk.new _ _ _ _ (by simp)).alloc _);have q2:CBlk (((w.alloc (.cells #[.string s,.string t] 39)).alloc (.cells #[.string s2,.string t2] 39)).alloc (.cells #[.string ⟨#[]⟩,.string ⟨#[]⟩] 39)) (w.heap.size+1+1) #[.string ⟨#[]⟩,.string ⟨#[]⟩] 39:=(CBlk.new _ _ _ _ (by simp));go_enter Tryz.func34,Tryz.ntmps34
 go_upto_region 1 with(fail)
 generalize (((w.alloc (.cells #[.string s,.string t] 39)).alloc (.cells #[.string s2,.string t2] 39)).alloc (.cells #[.string ⟨#[]⟩,.string ⟨#[]⟩] 39))=W at *;have a0:=q0.cell 0;have a1:=q0.cell 1;have b0:=q1.cell 0;have b1:=q1.cell 1
 go_wp2_with fail
 refine(HC.out W (hT.later aD)).mono ?_;rintro e w8 ⟨z1,z2,rfl,aH,aF,aE⟩;have aG:=Ad aD aE;have aA:=q2.below aE q2.lt;have y0:=aA.cell 0;have y1:=aA.cell 1;have f0:=aA.frozen 0;have f1:=aA.frozen 1;have aC:=zbL aG (g:=w.heap.size+1+1) (by omega) (.string z1) (.string z2);go_wp2
 refine bodyPost_ret (v := .tuple #[.agg #[.string z1,.string z2],.int .i64 E]) (by simp[results,Tryz.results34,go_sem,y0,y1]) rfl ⟨z1,z2,rfl,aH,aF,aC⟩
def zfe (a s:Nat):Prop:=s*s≤a∧a<(s+1)*(s+1)
theorem zlj{a s r:Nat}(hs:zfe a s)(hr:s≤r)(h0:0<r):s≤(r+a/r)/2:=by
 have aA:a<r*(a/r+1):=by
  have h:=Nat.div_add_mod a r;have h2:=Nat.mod_lt a h0;rw[Nat.mul_add,Nat.mul_one];omega
 rw[Nat.le_div_iff_mul_le (by omega)]
 rcases Nat.lt_or_ge (r+a/r) (s*2) with h | h
 ·exfalso
  obtain⟨d,rfl⟩:∃ d,r=s+d:=⟨r-s,by omega⟩;generalize a/(s+d)=q at *;have h3:q+1≤s-d:=by omega
  have h4:(s+d)*(q+1)≤(s+d)*(s-d):=Nat.mul_le_mul_left _ h3;have h5:(s+d)*(s-d)≤s*s:=by
   obtain⟨e,rfl⟩:∃ e,s=d+e:=⟨s-d,by omega⟩;have e0:d+e-d=e:=by omega
   have e1:(d+e+d)*e=d*e+e*e+d*e:=by rw[Nat.add_mul,Nat.add_mul]
   have e2:(d+e)*(d+e)=d*d+d*e+(e*d+e*e):=by rw[Nat.add_mul,Nat.mul_add,Nat.mul_add]
   have e3:=Nat.mul_comm d e;rw[e0,e1,e2];omega
  have:=hs.1;omega
 ·exact h
theorem ziU{a s r:Nat}(hs:zfe a s)(hr:s≤r)(h0:0<r)(h:r≤(r+a/r)/2):r=s:=by
 rw[Nat.le_div_iff_mul_le (by omega)] at h;have h1:r≤a/r:=by omega
 have h2:r*r≤a:=(Nat.le_div_iff_mul_le h0).1 h1
 rcases Nat.lt_or_ge s r with h3 | h3
 ·exfalso
  have:(s+1)*(s+1)≤r*r:=Nat.mul_le_mul h3 h3;have:=hs.2;omega
 ·omega
theorem zhD{a s:Nat}(hs:zfe a s):s≤2^((zaN a+1)/2):=by
 rcases Nat.lt_or_ge (2^((zaN a+1)/2)) s with h | h
 ·exfalso
  have h1:2^((zaN a+1)/2)*2^((zaN a+1)/2)≤s*s:=Nat.mul_le_mul (Nat.le_of_lt h) (Nat.le_of_lt h);rw[←Nat.pow_add] at h1;have h2:2^zaN a≤2^((zaN a+1)/2+(zaN a+1)/2):=Nat.pow_le_pow_right (by omega) (by omega);have h3:=zfm a;have:=hs.1;omega
 ·exact h
theorem zlX{x n:Nat}(h:(digs x).length≤n):zaN x≤64*n:=by
 rcases Nat.eq_zero_or_pos x with rfl | hx
 ·simp[zaN]
 ·have h1:=zfn hx
  have h2:=zad x;have h3:B^(digs x).length≤B^n:=Nat.pow_le_pow_right zaQ h;rw[ze9,←Nat.pow_mul,←Nat.pow_mul] at *
  rcases Nat.lt_or_ge (64*n) (zaN x) with h4 | h4
  ·exfalso
   have h5:2^(64*n)≤2^(zaN x-1):=Nat.pow_le_pow_right (by omega) (by omega);omega
  ·exact h4
theorem zgU(A:Option Addr)(n c x s:Nat)(w:World)(ha:NatS w w.heap.size A n c x)(hs:zfe x s)(hn:n≤16777216) :
  Calls Tryz.prog 140 #[.slice A n c] w (zch w s):=by
 have h1:=ha.nc;have h2:=ha.cm;have hz:=fun W:World=>zcv A n c W (by omega)
 unfold maxLen at h2;have HS:=Aa hs;clear hs
 by_cases h0:n=0
 ·subst h0
  obtain rfl:x=0:=za2.1 ha.len;have bM:s=0:=by
   rcases Nat.eq_zero_or_pos s with h | h
   ·exact h
   ·have:=HS.out.1
    have:=Nat.mul_pos h h;omega
  subst bM;go_enter Tryz.func140,Tryz.ntmps140
  go_wp2_with fail
  refine(hz _).mono ?_;rintro e w1 ⟨rfl,rfl⟩
  go_wp2_with fail
  go_ret;exact⟨A,0,c,rfl,ha,Below.refl _ _⟩
 ·have hx:0<x:=by
   rcases Nat.eq_zero_or_pos x with rfl | h
   ·exact absurd (by rw[←ha.len,zam];rfl) h0
   ·exact h
  have bI:(((n:Nat):Int)==0)=false:=by rw[beq_eq_false_iff_ne];omega
  simp only[bI] at hz
  have aM:=fun W:World=>fun h=>zdf A n c x W h (by omega)
  have bC:=zlX (x:=x) (n:=n) (by rw[ha.len];exact Nat.le_refl _);have aJ:=zhD HS.out;obtain⟨nb,aF⟩:∃ nb,nb=zaN x:=⟨_,rfl⟩;rw[←aF] at bC aJ;simp only[←aF] at aM
  obtain⟨k,hk⟩:∃ k,k=(nb+1)/2:=⟨_,rfl⟩;rw[←hk] at aJ;have ek:((nb:Int)+1)/2=(k:Int):=by omega
  have bJ:k≤1099511627776:=by omega
  have HK:=Aa hk;clear hk aF;have aV:=zai 1 w (by omega) (by omega);go_enter Tryz.func140,Tryz.ntmps140
  go_wp2_with fail
  refine(hz _).mono ?_;rintro e w1 ⟨rfl,rfl⟩
  go_wp2_with fail
  refine aV.mono ?_;rintro e w2 ⟨A1,m1,c1,rfl,aQ,aL⟩
  go_wp2_with fail
  refine(aM _ (ha.later aL)).mono ?_;rintro e w3 ⟨rfl,rfl⟩;have bD:m1≤1099511627776:=by
   have:=aQ.len;have k2:(digs (Int.toNat 1)).length≤1:=zab (by decide);omega
  have aW:=zaw A1 m1 c1 _ k _ aQ bD bJ
  go_wp2_with fail
  refine aW.mono ?_;rintro e w4 ⟨A4,m4,c4,rfl,aI,bA⟩;rw[show Int.toNat 1*2^k=2^k from by simp] at aI;have aA:Below w.heap.size w w4:=Ad aL bA;have aU:m4≤n+1:=by
   have k1:=aI.len;have k2:(digs (2^k)).length≤n+1:=zab (by
    rw[ze9,←Nat.pow_mul];exact(Nat.pow_lt_pow_iff_right (by omega)).2 (by omega))
   omega
  have hp:=Nat.two_pow_pos k;obtain⟨r0,aZ⟩:∃ r0,r0=2^k:=⟨_,rfl⟩;rw[←aZ] at aJ aI hp;clear aZ aV aW aQ aL bA aM ek
  go_wp2_with fail
  go_loopg [3] r0 (fun G sl we=>∃ A2 m2 c2 r,sl = .slice A2 m2 c2∧NatS we we.heap.size A2 m2 c2 r∧m2≤n+1∧0<r∧s≤r∧r≤G∧Below w.heap.size w we)
  case atStart=>exact⟨A4,m4,c4,r0,rfl,aI,aU,hp,aJ,Nat.le_refl _,aA⟩
  case round=>
   clear aI aU hp aJ aA;obtain⟨A2,m2,c2,r,rfl,aH,bE,hr,aS,bR,aA⟩:=hrel;have bK:=zcK A A2 n c m2 c2 x r wr (ha.later aA) aH hr (by omega)
   go_wp2_with fail
   refine bK.mono ?_;rintro e w5 ⟨A5,m5,c5,A6,m6,c6,rfl,aP,_,aK⟩;have bP:m5≤n:=by
    have k1:=aP.len;have k2:=zaa (Nat.div_le_self x r);have k3:=ha.len;omega
   go_wp2_with fail
   refine(zcq A2 A5 m2 c2 m5 c5 r (x/r) _ (aH.later aK) aP (by omega) (by omega)).mono ?_;rintro e w7 ⟨A7,m7,c7,rfl,aT,aN⟩;have bN:m7≤n+2:=by
    have k1:=aT.len;have k2:(digs (r+x/r)).length≤n+2:=zab (by
     have j1:=zad r;have j2:=zad (x/r);rw[aH.len] at j1;rw[aP.len] at j2;have j3:B^m2≤B^(n+1):=Nat.pow_le_pow_right zaQ bE;have j4:B^m5≤B^(n+1):=Nat.pow_le_pow_right zaQ (by omega);exact zhN _ _ _ _ _ (Nat.lt_of_lt_of_le j1 j3) (Nat.lt_of_lt_of_le j2 j4) (Nat.le_refl _) (by rw[Nat.pow_succ B (n+1)];exact Nat.mul_le_mul_left _ zd9))
    omega
   go_wp2_with fail
   refine(zaT A7 m7 c7 (r+x/r) 1 _ aT (by omega) (by omega)).mono ?_;rintro e w8 ⟨aO,bB⟩;obtain⟨A8,m8,c8,bG,aE,_⟩:=bB.ret aO;subst bG;rw[Nat.pow_one] at aE;have aD:Below w.heap.size w w8:=aA.trans ((aK.trans ((aN.trans (aO.mono aN.size)).mono aK.size)).mono aA.size);have aC:=((aH.later aK).later aN).later aO;have aR:=zlj HS.out aS hr;have aG:=zaS A8 A2 m8 c8 m2 c2 _ r w8 aE aC;obtain⟨t,ht⟩:∃ t,t=(r+x/r)/2:=⟨_,rfl⟩;rw[←ht] at aR aG aE
   by_cases hrt:r≤t
   ·have aX:r=s:=ziU HS.out aS hr (by rw[←ht];exact hrt)
    have hv:∃ v,v=ncmp t r∧0≤v:=⟨_,rfl,by unfold ncmp;rw[if_neg (by omega)];split<;>omega⟩;obtain⟨v,aY,bO⟩:=hv;rw[←aY] at aG;have bF:=Aa aX;clear aY aX ht aR
    go_wp2_with fail
    refine aG.mono ?_;rintro e w9 ⟨rfl,q,rfl⟩
    go_wp2_with fail
    go_ret;exact⟨A2,m2,c2,rfl,by rw[←bF.out];exact⟨aC.words,aC.nc,aC.cm⟩,zac aD q⟩
   ·rw[ncmp_lt (by omega)] at aG
    have bQ:=Aa ht;clear ht;have bL:m8≤n+1:=by
     have k1:=aE.len;have k2:=zaa (show t≤r by omega);have k3:=aH.len;omega
    have bH:0<t:=by
     have k1:0<s:=by
      rcases Nat.eq_zero_or_pos s with h | h
      ·have:=HS.out.2
       rw[h] at this;omega
      ·exact h
     omega
    go_wp2_with fail
    refine aG.mono ?_;rintro e w9 ⟨rfl,q,rfl⟩
    go_wp2_with fail
    go_roundg t
    case measure=>omega
    case rel=>exact⟨A8,m8,c8,t,rfl,⟨aE.words,aE.nc,aE.cm⟩,bL,bH,aR,Nat.le_refl _,zac aD q⟩
end Go.Proofs.YtmkondcdejlhcaaGreatDoor
