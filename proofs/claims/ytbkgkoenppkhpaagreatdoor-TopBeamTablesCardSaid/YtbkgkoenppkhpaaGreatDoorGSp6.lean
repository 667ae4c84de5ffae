/- Contracts of package number's combine of two spans, and of Plus, Minus, Times, Over, CheckSpan. -/
import Derived.Test.YtbkgkoenppkhpaaGreatDoorGSp2
import Derived.Test.YtbkgkoenppkhpaaGreatDoorGSp5
import Derived.Test.YtbkgkoenppkhpaaGreatDoorGNat3
import Derived.Test.YtbkgkoenppkhpaaGreatDoorGNat5
import Derived.Test.YtbkgkoenppkhpaaGreatDoorGNa1
set_option maxRecDepth 100000
set_option maxHeartbeats 4000000
namespace Go.Proofs.YtbkgkoenppkhpaaGreatDoor
section
open Go.RowKit Bn
theorem zhZ (fo:FuncId) (x y E:Int) (p q p' q':Q) (s t s2 t2:ByteArray) (w:World) (hT:Tabs w) (HE:Hid (E=if x≠0 then x else y)) (H0:Hid (E≠0)) (HR1:Hid (∀ W,Tabs W→Calls Tryz.prog 74 #[.agg #[.string s,.string t]] W (zcy W p q x))) (HR2:Hid (∀ W,Tabs W→Calls Tryz.prog 74 #[.agg #[.string s2,.string t2]] W (zcy W p' q' y))) :
  Calls Tryz.prog 75 #[.agg #[.string s,.string t],.agg #[.string s2,.string t2],.func (.func 74) #[] #[],.func (.func fo) #[] #[],.func (.func 61) #[] #[]] w (zen w [] [] E):=by
 have er:=fun aE w=>show (callFunc 74 aE).run Tryz.prog w = .ok (.enter 74 aE) w from by kernel_rfl
 have bS:(E != 0)=true:=by simpa using H0.out
 have aF:Below w.heap.size w (((w.alloc (.cells #[.string s,.string t] 24)).alloc (.cells #[.string s2,.string t2] 24)).alloc (.cells #[.string ⟨#[]⟩,.string ⟨#[]⟩] 24)):=((((Below.refl _ _).alloc (by simp<;>omega) _).alloc (by simp<;>omega) _).alloc (by simp<;>omega) _);have q0:CBlk (((w.alloc (.cells #[.string s,.string t] 24)).alloc (.cells #[.string s2,.string t2] 24)).alloc (.cells #[.string ⟨#[]⟩,.string ⟨#[]⟩] 24)) (w.heap.size) #[.string s,.string t] 24:=(((CBlk.new _ _ _ _ (by simp)).alloc _).alloc _);have q1:CBlk (((w.alloc (.cells #[.string s,.string t] 24)).alloc (.cells #[.string s2,.string t2] 24)).alloc (.cells #[.string ⟨#[]⟩,.string ⟨#[]⟩] 24)) (w.heap.size+1) #[.string s2,.string t2] 24:=((CBlk.new _ _ _ _ (by simp)).alloc _);have q2:CBlk (((w.alloc (.cells #[.string s,.string t] 24)).alloc (.cells #[.string s2,.string t2] 24)).alloc (.cells #[.string ⟨#[]⟩,.string ⟨#[]⟩] 24)) (w.heap.size+1+1) #[.string ⟨#[]⟩,.string ⟨#[]⟩] 24:=(CBlk.new _ _ _ _ (by simp));go_enter Tryz.func75,Tryz.ntmps75
 go_upto_region 1 with (fail)
 generalize (((w.alloc (.cells #[.string s,.string t] 24)).alloc (.cells #[.string s2,.string t2] 24)).alloc (.cells #[.string ⟨#[]⟩,.string ⟨#[]⟩] 24))=W at *;have a0:=q0.cell 0;have a1:=q0.cell 1
 go_wp2_with fail
 refine (HR1.out W (hT.later aF)).mono ?_;rintro e w2 ⟨v2,rfl,⟨A1,n1,c1,A2,n2,c2,A3,n3,c3,A4,n4,c4,rfl,h1,h2,h3,h4⟩,aH⟩;have aA:Below w2.heap.size w2 (w2.alloc (.cells #[.bool p.neg,.slice A1 n1 c1,.slice A2 n2 c2,.bool q.neg,.slice A3 n3 c3,.slice A4 n4 c4] 91)):=Ac;have aK:=Ad aF aH;have aI:=Ad aK aA;have aO:=(q1.below aH q1.lt).alloc (.cells #[.bool p.neg,.slice A1 n1 c1,.slice A2 n2 c2,.bool q.neg,.slice A3 n3 c3,.slice A4 n4 c4] 91);have aJ:=(q2.below aH q2.lt).alloc (.cells #[.bool p.neg,.slice A1 n1 c1,.slice A2 n2 c2,.bool q.neg,.slice A3 n3 c3,.slice A4 n4 c4] 91);have aM:CBlk (w2.alloc (.cells #[.bool p.neg,.slice A1 n1 c1,.slice A2 n2 c2,.bool q.neg,.slice A3 n3 c3,.slice A4 n4 c4] 91)) w2.heap.size #[.bool p.neg,.slice A1 n1 c1,.slice A2 n2 c2,.bool q.neg,.slice A3 n3 c3,.slice A4 n4 c4] 91:=CBlk.new _ _ _ _ rfl;have aT:=h1.later aA;have aR:=h2.later aA;have bD:=h3.later aA;have aX:=h4.later aA;clear a0 a1 q0 q1 q2 aF aH aK h1 h2 h3 h4 aA;go_upto_region 2 with (fail)
 generalize (w2.alloc (.cells #[.bool p.neg,.slice A1 n1 c1,.slice A2 n2 c2,.bool q.neg,.slice A3 n3 c3,.slice A4 n4 c4] 91))=w3 at *;have a0:=aO.cell 0;have a1:=aO.cell 1
 go_wp2_with fail
 refine (HR2.out w3 (hT.later aI)).mono ?_;rintro e w4 ⟨v4,rfl,⟨D1,e1,d1,D2,e2,d2,D3,e3,d3,D4,e4,d4,rfl,k1,k2,k3,k4⟩,aD⟩;have aA:Below w4.heap.size w4 (w4.alloc (.cells #[.bool p'.neg,.slice D1 e1 d1,.slice D2 e2 d2,.bool q'.neg,.slice D3 e3 d3,.slice D4 e4 d4] 91)):=Ac;have aL:=Ad aI aD;have aQ:=Ad aL aA;have bA:=(aJ.below aD aJ.lt).alloc (.cells #[.bool p'.neg,.slice D1 e1 d1,.slice D2 e2 d2,.bool q'.neg,.slice D3 e3 d3,.slice D4 e4 d4] 91);have bF:=(aM.below aD aM.lt).alloc (.cells #[.bool p'.neg,.slice D1 e1 d1,.slice D2 e2 d2,.bool q'.neg,.slice D3 e3 d3,.slice D4 e4 d4] 91);have bG:CBlk (w4.alloc (.cells #[.bool p'.neg,.slice D1 e1 d1,.slice D2 e2 d2,.bool q'.neg,.slice D3 e3 d3,.slice D4 e4 d4] 91)) w4.heap.size #[.bool p'.neg,.slice D1 e1 d1,.slice D2 e2 d2,.bool q'.neg,.slice D3 e3 d3,.slice D4 e4 d4] 91:=CBlk.new _ _ _ _ rfl;have bC:=(aT.later aD).later aA;have bB:=(aR.later aD).later aA;have aS:=(bD.later aD).later aA;have aU:=(aX.later aD).later aA;have aW:=k1.later aA;have aV:=k2.later aA;have aZ:=k3.later aA;have aY:=k4.later aA;clear a0 a1 aO aJ aM aI aD aL aT aR bD aX k1 k2 k3 k4 aA;go_upto_region 3 with (fail)
 generalize (w4.alloc (.cells #[.bool p'.neg,.slice D1 e1 d1,.slice D2 e2 d2,.bool q'.neg,.slice D3 e3 d3,.slice D4 e4 d4] 91))=w5 at *;have aP:Below w.heap.size w (w5.alloc (.cells #[.int .i64 x,.int .i64 y] 27)):=aQ.alloc aQ.size _;have aC:Below w5.heap.size w5 (w5.alloc (.cells #[.int .i64 x,.int .i64 y] 27)):=Ac;have bE:=bA.alloc (.cells #[.int .i64 x,.int .i64 y] 27);have bJ:=bF.alloc (.cells #[.int .i64 x,.int .i64 y] 27);have bK:=bG.alloc (.cells #[.int .i64 x,.int .i64 y] 27);have bP:=bC.later aC;have bR:=bB.later aC;have bO:=aS.later aC;have bL:=aU.later aC;have bI:=aW.later aC;have bN:=aV.later aC;have bH:=aZ.later aC;have bQ:=aY.later aC
 go_wp2_with fail
 refine (zbl x y E HE.out w5 _ _ rfl).mono ?_;rintro e w6 ⟨rfl,rfl⟩;clear bA bF bG aQ aC bC bB aS aU aW aV aZ aY;generalize (w5.alloc (.cells #[.int .i64 x,.int .i64 y] 27))=w6 at *;have qz:CBlk (w6.alloc (.cells #[.string ⟨#[]⟩,.string ⟨#[]⟩] 24)) w6.heap.size #[.string ⟨#[]⟩,.string ⟨#[]⟩] 24:=CBlk.new _ _ _ _ rfl;have aG:=bE.alloc (.cells #[.string ⟨#[]⟩,.string ⟨#[]⟩] 24);have bM:Below w.heap.size w (w6.alloc (.cells #[.string ⟨#[]⟩,.string ⟨#[]⟩] 24)):=aP.alloc aP.size _;clear bJ bK bP bR bO bL bI bN bH bQ bE aP;go_upto_region 6 with (fail)
 generalize (w6.alloc (.cells #[.string ⟨#[]⟩,.string ⟨#[]⟩] 24))=w7 at *;have x0:=qz.cell 0;have x1:=qz.cell 1;have y0:=aG.cell 0;have y1:=aG.cell 1;have z0:=aG.frozen 0;have z1:=aG.frozen 1;have aN:=zcK bM (g:=w.heap.size+1+1) (by omega) (.string ⟨#[]⟩) (.string ⟨#[]⟩);go_wp2
 refine bodyPost_ret (v := .tuple #[.agg #[.string ⟨#[]⟩,.string ⟨#[]⟩],.int .i64 E]) (by simp [results,Tryz.results75,go_sem,y0,y1]) rfl ⟨⟨#[]⟩,⟨#[]⟩,rfl,rfl,rfl,aN⟩
theorem zib (fo:FuncId) (x y:Int) (p q p' q' r1 r2:Q) (s t s2 t2:ByteArray) (w:World) (hT:Tabs w) (HX:Hid (x=0∧y=0)) (eo:∀ args w,(callFunc fo args).run Tryz.prog w = .ok (.enter fo args) w) (lr1:LenQ r1 268435456) (lr2:LenQ r2 268435456) (HR1:Hid (∀ W,Tabs W→Calls Tryz.prog 74 #[.agg #[.string s,.string t]] W (zcy W p q x))) (HR2:Hid (∀ W,Tabs W→Calls Tryz.prog 74 #[.agg #[.string s2,.string t2]] W (zcy W p' q' y)))
  (HO:Hid (∀ v u W,Tabs W→ItvS W W.heap.size v p q→ItvS W W.heap.size u p' q'→Calls Tryz.prog fo #[v,u] W (zd4 W r1 r2))) :
  Calls Tryz.prog 75 #[.agg #[.string s,.string t],.agg #[.string s2,.string t2],.func (.func 74) #[] #[],.func (.func fo) #[] #[],.func (.func 61) #[] #[]] w (zen w (zf1 r1 r2) (zfZ r1 r2) (zdw r1 r2)):=by
 have er:=fun args w=>show (callFunc 74 args).run Tryz.prog w = .ok (.enter 74 args) w from by kernel_rfl
 have ew:=fun args w=>show (callFunc 61 args).run Tryz.prog w = .ok (.enter 61 args) w from by kernel_rfl
 obtain ⟨E,hE⟩:∃ E:Int,E=if x≠0 then x else y:=⟨_,rfl⟩
 have cM:(E != 0)=false:=by rw [hE,HX.out.1,HX.out.2];rfl
 have HE:=Aa hE;clear hE;have aG:Below w.heap.size w (((w.alloc (.cells #[.string s,.string t] 24)).alloc (.cells #[.string s2,.string t2] 24)).alloc (.cells #[.string ⟨#[]⟩,.string ⟨#[]⟩] 24)):=((((Below.refl _ _).alloc (by simp<;>omega) _).alloc (by simp<;>omega) _).alloc (by simp<;>omega) _);have q0:CBlk (((w.alloc (.cells #[.string s,.string t] 24)).alloc (.cells #[.string s2,.string t2] 24)).alloc (.cells #[.string ⟨#[]⟩,.string ⟨#[]⟩] 24)) (w.heap.size) #[.string s,.string t] 24:=(((CBlk.new _ _ _ _ (by simp)).alloc _).alloc _);have q1:CBlk (((w.alloc (.cells #[.string s,.string t] 24)).alloc (.cells #[.string s2,.string t2] 24)).alloc (.cells #[.string ⟨#[]⟩,.string ⟨#[]⟩] 24)) (w.heap.size+1) #[.string s2,.string t2] 24:=((CBlk.new _ _ _ _ (by simp)).alloc _);have q2:CBlk (((w.alloc (.cells #[.string s,.string t] 24)).alloc (.cells #[.string s2,.string t2] 24)).alloc (.cells #[.string ⟨#[]⟩,.string ⟨#[]⟩] 24)) (w.heap.size+1+1) #[.string ⟨#[]⟩,.string ⟨#[]⟩] 24:=(CBlk.new _ _ _ _ (by simp));go_enter Tryz.func75,Tryz.ntmps75
 go_upto_region 1 with (fail)
 generalize (((w.alloc (.cells #[.string s,.string t] 24)).alloc (.cells #[.string s2,.string t2] 24)).alloc (.cells #[.string ⟨#[]⟩,.string ⟨#[]⟩] 24))=W at *;have a0:=q0.cell 0;have a1:=q0.cell 1
 go_wp2_with fail
 refine (HR1.out W (hT.later aG)).mono ?_;rintro e w2 ⟨v2,rfl,⟨A1,n1,c1,A2,n2,c2,A3,n3,c3,A4,n4,c4,rfl,h1,h2,h3,h4⟩,aI⟩;have aA:Below w2.heap.size w2 (w2.alloc (.cells #[.bool p.neg,.slice A1 n1 c1,.slice A2 n2 c2,.bool q.neg,.slice A3 n3 c3,.slice A4 n4 c4] 91)):=Ac;have aN:=Ad aG aI;have aJ:=Ad aN aA;have aR:=(q1.below aI q1.lt).alloc (.cells #[.bool p.neg,.slice A1 n1 c1,.slice A2 n2 c2,.bool q.neg,.slice A3 n3 c3,.slice A4 n4 c4] 91);have aM:=(q2.below aI q2.lt).alloc (.cells #[.bool p.neg,.slice A1 n1 c1,.slice A2 n2 c2,.bool q.neg,.slice A3 n3 c3,.slice A4 n4 c4] 91);have aP:CBlk (w2.alloc (.cells #[.bool p.neg,.slice A1 n1 c1,.slice A2 n2 c2,.bool q.neg,.slice A3 n3 c3,.slice A4 n4 c4] 91)) w2.heap.size #[.bool p.neg,.slice A1 n1 c1,.slice A2 n2 c2,.bool q.neg,.slice A3 n3 c3,.slice A4 n4 c4] 91:=CBlk.new _ _ _ _ rfl;have aX:=h1.later aA;have aV:=h2.later aA;have bP:=h3.later aA;have bE:=h4.later aA;clear a0 a1 q0 q1 q2 aG aI aN h1 h2 h3 h4 aA;go_upto_region 2 with (fail)
 generalize (w2.alloc (.cells #[.bool p.neg,.slice A1 n1 c1,.slice A2 n2 c2,.bool q.neg,.slice A3 n3 c3,.slice A4 n4 c4] 91))=w3 at *;have a0:=aR.cell 0;have a1:=aR.cell 1
 go_wp2_with fail
 refine (HR2.out w3 (hT.later aJ)).mono ?_;rintro e w4 ⟨v4,rfl,⟨D1,e1,d1,D2,e2,d2,D3,e3,d3,D4,e4,d4,rfl,k1,k2,k3,k4⟩,aD⟩;have aA:Below w4.heap.size w4 (w4.alloc (.cells #[.bool p'.neg,.slice D1 e1 d1,.slice D2 e2 d2,.bool q'.neg,.slice D3 e3 d3,.slice D4 e4 d4] 91)):=Ac;have aO:=Ad aJ aD;have aU:=Ad aO aA;have bJ:=(aM.below aD aM.lt).alloc (.cells #[.bool p'.neg,.slice D1 e1 d1,.slice D2 e2 d2,.bool q'.neg,.slice D3 e3 d3,.slice D4 e4 d4] 91);have bS:=(aP.below aD aP.lt).alloc (.cells #[.bool p'.neg,.slice D1 e1 d1,.slice D2 e2 d2,.bool q'.neg,.slice D3 e3 d3,.slice D4 e4 d4] 91);have bT:CBlk (w4.alloc (.cells #[.bool p'.neg,.slice D1 e1 d1,.slice D2 e2 d2,.bool q'.neg,.slice D3 e3 d3,.slice D4 e4 d4] 91)) w4.heap.size #[.bool p'.neg,.slice D1 e1 d1,.slice D2 e2 d2,.bool q'.neg,.slice D3 e3 d3,.slice D4 e4 d4] 91:=CBlk.new _ _ _ _ rfl;have bL:=(aX.later aD).later aA;have bK:=(aV.later aD).later aA;have aW:=(bP.later aD).later aA;have aZ:=(bE.later aD).later aA;have bD:=k1.later aA;have bB:=k2.later aA;have bI:=k3.later aA;have bF:=k4.later aA;clear a0 a1 aR aM aP aJ aD aO aX aV bP bE k1 k2 k3 k4 aA;go_upto_region 3 with (fail)
 generalize (w4.alloc (.cells #[.bool p'.neg,.slice D1 e1 d1,.slice D2 e2 d2,.bool q'.neg,.slice D3 e3 d3,.slice D4 e4 d4] 91))=w5 at *;have aL:Below w.heap.size w (w5.alloc (.cells #[.int .i64 x,.int .i64 y] 27)):=aU.alloc aU.size _;have aC:Below w5.heap.size w5 (w5.alloc (.cells #[.int .i64 x,.int .i64 y] 27)):=Ac;have aT:=bJ.alloc (.cells #[.int .i64 x,.int .i64 y] 27);have aE:=bS.alloc (.cells #[.int .i64 x,.int .i64 y] 27);have aF:=bT.alloc (.cells #[.int .i64 x,.int .i64 y] 27);have bQ:=bL.later aC;have bU:=bK.later aC;have bN:=aW.later aC;have bG:=aZ.later aC;have bC:=bD.later aC;have bM:=bB.later aC;have bA:=bI.later aC;have bR:=bF.later aC
 go_wp2_with fail
 refine (zbl x y E HE.out w5 _ _ rfl).mono ?_;rintro e w6 ⟨rfl,rfl⟩;clear bJ bS bT aU aC bL bK aW aZ bD bB bI bF;generalize (w5.alloc (.cells #[.int .i64 x,.int .i64 y] 27))=w6 at *;have bZ:=aE.cell 0;have cJ:=aE.cell 1;have cB:=aE.cell 2;have cK:=aE.cell 3;have cE:=aE.cell 4;have cA:=aE.cell 5;have bV:=aF.cell 0;have cG:=aF.cell 1;have cI:=aF.cell 2;have cF:=aF.cell 3;have bW:=aF.cell 4;have bX:=aF.cell 5;have aS:=hT.later aL
 go_wp2_with fail
 refine (HO.out _ _ w6 aS ⟨A1,n1,c1,A2,n2,c2,A3,n3,c3,A4,n4,c4,rfl,bQ,bU,bN,bG⟩ ⟨D1,e1,d1,D2,e2,d2,D3,e3,d3,D4,e4,d4,rfl,bC,bM,bA,bR⟩).mono ?_;rintro e w7 ⟨v7,rfl,h7,aK⟩;have bH:=Ad aL aK;have aY:=aT.below aK aT.lt;have cC:=aS.later aK;clear bZ bV cJ cG cB cI cK cF cE bW cA bX aE aF bQ bU bN bG bC bM bA bR aT aL aK aS
 go_wp2_with fail
 refine (ze5 r1 r2 v7 w7 cC h7 lr1 lr2).mono ?_;rintro e w8 ⟨z1,z2,rfl,bY,cL,bO⟩;have cH:=Ad bH bO;have aH:=aY.below bO aY.lt;have y0:=aH.cell 0;have y1:=aH.cell 1;have f0:=aH.frozen 0;have f1:=aH.frozen 1;have aQ:=zcK cH (g:=w.heap.size+1+1) (by omega) (.string z1) (.string z2);go_wp2
 refine bodyPost_ret (v := .tuple #[.agg #[.string z1,.string z2],.int .i64 (zdw r1 r2)]) (by simp [results,Tryz.results75,go_sem,y0,y1]) rfl ⟨z1,z2,rfl,bY,cL,aQ⟩
theorem znM (l m:List UInt8) (h:zbP l m=0):zam l=0∧zam m=0∧rdLo l m=zak l∧rdHi l m=zak m:=by
 unfold rdLo rdHi;rw [if_pos h,if_pos h];unfold zbP at h
 by_cases hx:zam l=0
 ·by_cases hy:zam m=0
  ·exact ⟨hx,hy,rfl,rfl⟩
  ·rw [if_neg (by simpa using hx),if_pos hy] at h;exact absurd h hy
 ·rw [if_pos hx] at h;exact absurd h hx
theorem zhH (fo:FuncId) (r:Q→Q→Q→Q→Q × Q) (s t s2 t2:ByteArray) (w:World) (hT:Tabs w) (hs:s.size≤4294967296) (ht:t.size≤4294967296) (hs2:s2.size≤4294967296) (ht2:t2.size≤4294967296) (eo:∀ args w,(callFunc fo args).run Tryz.prog w = .ok (.enter fo args) w)
  (HO:∀ p q p' q' v u W,LenQ p 600→LenQ q 600→LenQ p' 600→LenQ q' 600→Tabs W→ItvS W W.heap.size v p q→ItvS W W.heap.size u p' q'→Calls Tryz.prog fo #[v,u] W (zd4 W (r p q p' q').1 (r p q p' q').2))
  (HL:∀ p q p' q',LenQ p 600→LenQ q 600→LenQ p' 600→LenQ q' 600→LenQ (r p q p' q').1 268435456∧LenQ (r p q p' q').2 268435456) (X:Int) (hX:X=err2 (zbP s.data.toList t.data.toList) (zbP s2.data.toList t2.data.toList)) (R:Q × Q) (hR:R=r (zak s.data.toList) (zak t.data.toList) (zak s2.data.toList) (zak t2.data.toList)) :
  Calls Tryz.prog 75 #[.agg #[.string s,.string t],.agg #[.string s2,.string t2],.func (.func 74) #[] #[],.func (.func fo) #[] #[],.func (.func 61) #[] #[]] w (zen w (if X≠0 then [] else zf1 R.1 R.2) (if X≠0 then [] else zfZ R.1 R.2) (if X≠0 then X else zdw R.1 R.2)):=by
 have aC:=Aa (fun W h=>zfa s t W h hs ht);have aA:=Aa (fun W h=>zfa s2 t2 W h hs2 ht2)
 by_cases h0:X=0
 ·rw [if_neg (by simpa using h0),if_neg (by simpa using h0),if_neg (by simpa using h0)]
  rw [hX] at h0;have hx:zbP s.data.toList t.data.toList=0:=by
   unfold err2 at h0
   by_cases h:zbP s.data.toList t.data.toList=0
   ·exact h
   ·rw [if_pos h] at h0;exact absurd h0 h
  have hy:zbP s2.data.toList t2.data.toList=0:=by
   unfold err2 at h0
   rwa [if_neg (by simpa using hx)] at h0
  obtain ⟨a1,a2,a3,a4⟩:=znM _ _ hx;obtain ⟨b1,b2,b3,b4⟩:=znM _ _ hy;rw [hR];refine zib fo _ _ _ _ _ _ _ _ s t s2 t2 w hT ⟨hx,hy⟩ eo ?_ ?_ aC aA ?_
  ·exact (HL _ _ _ _ (zaN a1) (zaN a2) (zaN b1) (zaN b2)).1
  ·exact (HL _ _ _ _ (zaN a1) (zaN a2) (zaN b1) (zaN b2)).2
  ·exact fun v u W h1 h2 h3=>by
    rw [a3,a4] at h2;rw [b3,b4] at h3;exact (HO _ _ _ _ v u W (zaN a1) (zaN a2) (zaN b1) (zaN b2) h1 h2 h3)
 ·rw [if_pos h0,if_pos h0,if_pos h0]
  exact zhZ fo _ _ X _ _ _ _ s t s2 t2 w hT (by rw [Hid,hX];rfl) h0 aC aA
theorem zku (p q p' q':Q) (hp:LenQ p 600) (hq:LenQ q 600) (hp2:LenQ p' 600) (hq2:LenQ q' 600):LenQ (zfF p q p' q').1 268435456∧LenQ (zfF p q p' q').2 268435456:=by
 unfold zfF;exact zl1 _ (fun q=>LenQ q 268435456) ((zbk (K:=600) (L:=600) _ hp hp2 (by omega)).mono (by omega)) _ (by
  intro x hx;simp only [List.mem_cons,List.not_mem_nil,or_false] at hx
  rcases hx with rfl | rfl | rfl
  ·exact (zbk (K:=600) (L:=600) _ hp hq2 (by omega)).mono (by omega)
  ·exact (zbk (K:=600) (L:=600) _ hq hp2 (by omega)).mono (by omega)
  ·exact (zbk (K:=600) (L:=600) _ hq hq2 (by omega)).mono (by omega))
theorem zko (s t s2 t2:ByteArray) (w:World) (hT:Tabs w) (hs:s.size≤4294967296) (ht:t.size≤4294967296) (hs2:s2.size≤4294967296) (ht2:t2.size≤4294967296) (X:Int) (hX:X=err2 (zbP s.data.toList t.data.toList) (zbP s2.data.toList t2.data.toList)) (R:Q × Q) (hR:R=zfF (zak s.data.toList) (zak t.data.toList) (zak s2.data.toList) (zak t2.data.toList)) :
  Calls Tryz.prog 20 #[.agg #[.string s,.string t],.agg #[.string s2,.string t2]] w (zen w (if X≠0 then [] else zf1 R.1 R.2) (if X≠0 then [] else zfZ R.1 R.2) (if X≠0 then X else zdw R.1 R.2)):=by
 have hc:=fun W h=>zhH 78 zfF s t s2 t2 W h hs ht hs2 ht2 (fun aH w=>by kernel_rfl) (fun p q p' q' v u W a b c d h1 h2 h3=>zky _ _ _ _ v u W h1 h2 h3 (LenQ.mono a (by omega)) (LenQ.mono b (by omega)) (LenQ.mono c (by omega)) (LenQ.mono d (by omega))) zku X hX R hR
 generalize (if X≠0 then [] else zf1 R.1 R.2)=l at *
 generalize (if X≠0 then [] else zfZ R.1 R.2)=m at *
 generalize (if X≠0 then X else zdw R.1 R.2)=E at *
 have HC:=Aa hc;clear hc;have aC:Below w.heap.size w (((w.alloc (.cells #[.string s,.string t] 24)).alloc (.cells #[.string s2,.string t2] 24)).alloc (.cells #[.string ⟨#[]⟩,.string ⟨#[]⟩] 24)):=((((Below.refl _ _).alloc (by simp<;>omega) _).alloc (by simp<;>omega) _).alloc (by simp<;>omega) _);have q0:CBlk (((w.alloc (.cells #[.string s,.string t] 24)).alloc (.cells #[.string s2,.string t2] 24)).alloc (.cells #[.string ⟨#[]⟩,.string ⟨#[]⟩] 24)) (w.heap.size) #[.string s,.string t] 24:=(((CBlk.new _ _ _ _ (by simp)).alloc _).alloc _);have q1:CBlk (((w.alloc (.cells #[.string s,.string t] 24)).alloc (.cells #[.string s2,.string t2] 24)).alloc (.cells #[.string ⟨#[]⟩,.string ⟨#[]⟩] 24)) (w.heap.size+1) #[.string s2,.string t2] 24:=((CBlk.new _ _ _ _ (by simp)).alloc _);have q2:CBlk (((w.alloc (.cells #[.string s,.string t] 24)).alloc (.cells #[.string s2,.string t2] 24)).alloc (.cells #[.string ⟨#[]⟩,.string ⟨#[]⟩] 24)) (w.heap.size+1+1) #[.string ⟨#[]⟩,.string ⟨#[]⟩] 24:=(CBlk.new _ _ _ _ (by simp));go_enter Tryz.func20,Tryz.ntmps20
 go_upto_region 1 with (fail)
 generalize (((w.alloc (.cells #[.string s,.string t] 24)).alloc (.cells #[.string s2,.string t2] 24)).alloc (.cells #[.string ⟨#[]⟩,.string ⟨#[]⟩] 24))=W at *;have a0:=q0.cell 0;have a1:=q0.cell 1;have b0:=q1.cell 0;have b1:=q1.cell 1
 go_wp2_with fail
 refine (HC.out W (hT.later aC)).mono ?_;rintro e w8 ⟨z1,z2,rfl,aG,aI,aE⟩;have aF:=Ad aC aE;have aA:=q2.below aE q2.lt;have y0:=aA.cell 0;have y1:=aA.cell 1;have f0:=aA.frozen 0;have f1:=aA.frozen 1;have aD:=zcK aF (g:=w.heap.size+1+1) (by omega) (.string z1) (.string z2);go_wp2
 refine bodyPost_ret (v := .tuple #[.agg #[.string z1,.string z2],.int .i64 E]) (by simp [results,Tryz.results20,go_sem,y0,y1]) rfl ⟨z1,z2,rfl,aG,aI,aD⟩
end
end Go.Proofs.YtbkgkoenppkhpaaGreatDoor
namespace Go.Proofs.YtbkgkoenppkhpaaGreatDoor.Cs
def tanAt (n bits:Nat):Nat→Nat × Nat × Nat
 | 0=>(0,0,2 ^ bits / n)
 | k+1=>match tanAt n bits k with
  | (a,b,p)=>if k % 2=0 then (a+p / (2*k+1),b,p / (n*n)) else (a,b+p / (2*k+1),p / (n*n))
def tanVal (n bits k:Nat):Nat:=(tanAt n bits k).1 - (tanAt n bits k).2.1
structure TanOk (n bits k:Nat):Prop where
 zero:(tanAt n bits k).2.2=0
 pos:∀ j,j<k→0<(tanAt n bits j).2.2
 le:(tanAt n bits k).2.1≤(tanAt n bits k).1
theorem tan_bound (n bits:Nat) (hn:2≤n):∀ k,(tanAt n bits k).1+(tanAt n bits k).2.1+2*(tanAt n bits k).2.2≤2*2 ^ bits
 | 0=>by
  have h:2 ^ bits / n≤2 ^ bits:=Nat.div_le_self _ _;simp only [tanAt];omega
 | k+1=>by
  have ih:=tan_bound n bits hn k;simp only [tanAt]
  generalize tanAt n bits k=s at ih ⊢;obtain ⟨a,b,p⟩:=s
  dsimp only at ih ⊢
  have h1:p / (2*k+1)≤p:=Nat.div_le_self _ _;have h2:p / (n*n)≤p / 2:=Nat.div_le_div_left (Nat.le_trans (by omega:2≤2*1) (Nat.mul_le_mul hn (by omega))) (by omega)
  split<;>(dsimp only;omega)
def circleOf (bits k l:Nat):Nat:=tanVal 5 bits k*32 - tanVal 239 bits l*8
def serAt (sq bits:Nat):Nat→Nat × Nat × Nat
 | 0=>(0,0,2 ^ bits)
 | n+1=>match serAt sq bits n with
  | (a,b,t)=>if n % 2=0 then (a+t,b,t*sq / 2 ^ bits / ((2*n+1)*(2*n+2))) else (a,b+t,t*sq / 2 ^ bits / ((2*n+1)*(2*n+2)))
def zo4 (c top bot:Nat):Nat:=c*top / bot
def sqOf (c top bot bits:Nat):Nat:=zo4 c top bot*zo4 c top bot / 2 ^ bits
def serVal (sq bits k:Nat):Nat:=(serAt sq bits k).1 - (serAt sq bits k).2.1
structure SerOk (sq bits k M:Nat):Prop where
 zero:(serAt sq bits k).2.2=0
 pos:∀ j,j<k→0<(serAt sq bits j).2.2
 le:(serAt sq bits k).2.1≤(serAt sq bits k).1
 bound:∀ j,j<k+1→(serAt sq bits j).1<2 ^ M∧(serAt sq bits j).2.1<2 ^ M∧(serAt sq bits j).2.2<2 ^ M
theorem tan5:TanOk 5 112 24:=⟨by decide +kernel,by decide +kernel,by decide +kernel⟩
theorem znH:TanOk 239 112 7:=⟨by decide +kernel,by decide +kernel,by decide +kernel⟩
theorem ser8:SerOk (sqOf (circleOf 112 24 7) 1 8 112) 112 15 192:=⟨by decide +kernel,by decide +kernel,by decide +kernel,by decide +kernel⟩
theorem zpo:SerOk (sqOf (circleOf 112 24 7) 1 10 112) 112 14 192:=⟨by decide +kernel,by decide +kernel,by decide +kernel,by decide +kernel⟩
theorem zl9:tanVal 239 112 7*8≤tanVal 5 112 24*32:=by decide +kernel
structure AcOk (top bot bits k l m scale low:Nat):Prop where
 a:TanOk 5 bits k
 b:TanOk 239 bits l
 c:tanVal 239 bits l*8≤tanVal 5 bits k*32
 s:∃ M,M≤1048576∧SerOk (sqOf (circleOf bits k l) top bot bits) bits m M
 big:2 ^ 64≤serVal (sqOf (circleOf bits k l) top bot bits) bits m
 lo:(serVal (sqOf (circleOf bits k l) top bot bits) bits m - 2 ^ 64)*scale / 2 ^ bits=low
 hi:(serVal (sqOf (circleOf bits k l) top bot bits) bits m+2 ^ 64)*scale / 2 ^ bits=low
theorem ac8:AcOk 1 8 112 24 7 15 1000 707:=⟨tan5,znH,zl9,⟨192,by decide,ser8⟩,by decide +kernel,by decide +kernel,by decide +kernel⟩
theorem ac10:AcOk 1 10 112 24 7 14 1000 809:=⟨tan5,znH,zl9,⟨192,by decide,zpo⟩,by decide +kernel,by decide +kernel,by decide +kernel⟩
end Go.Proofs.YtbkgkoenppkhpaaGreatDoor.Cs
namespace Go.Proofs.YtbkgkoenppkhpaaGreatDoor
section
open Go.RowKit Bn
theorem zmu {x K:Nat} (h:x<2 ^ (64*K)):(digs x).length≤K:=by
 refine zad ?_;rw [show B=2 ^ 64 from rfl,←Nat.pow_mul];exact h
theorem zaP (A1 A2:Option Addr) (n1 c1 n2 c2:Nat):zcV #[.slice A1 n1 c1,.slice A2 n2 c2]:=by
 intro i v hv k d
 rcases (show i=0∨i=1∨2≤i from by omega) with rfl | rfl | h
 ·injection hv with hv;subst hv;intro h;cases h
 ·injection hv with hv;subst hv;intro h;cases h
 ·rw [Array.getElem?_eq_none h] at hv;cases hv
theorem zcH {n bits k:Nat} (hn:2≤n) (hb:bits≤1048576):(digs (Cs.tanAt n bits k).1).length≤1048576∧(digs (Cs.tanAt n bits k).2.1).length≤1048576∧(digs (Cs.tanAt n bits k).2.2).length≤1048576:=by
 have h:=Cs.tan_bound n bits hn k;obtain ⟨N,hN⟩:∃ N,N=64*1048576:=⟨_,rfl⟩;have h2:2*2 ^ bits<2 ^ N:=by
  rw [show 2*2 ^ bits=2 ^ (bits+1) by rw [Nat.pow_succ,Nat.mul_comm]];exact Nat.pow_lt_pow_right (by omega) (by omega)
 generalize 2*2 ^ bits=X at h h2;have h3:∀ x,x≤X→(digs x).length≤1048576:=fun x hx=>zmu (by rw [←hN];exact Nat.lt_of_le_of_lt hx h2)
 exact ⟨h3 _ (by omega),h3 _ (by omega),h3 _ (by omega)⟩
theorem zn4 {bits:Nat} (hb:bits≤1048576):(digs (2 ^ bits)).length≤1048576:=by
 obtain ⟨N,hN⟩:∃ N,N=64*1048576:=⟨_,rfl⟩;exact zmu (by rw [←hN];exact Nat.pow_lt_pow_right (by omega) (by omega))
theorem zd1 {z:Int} (h0:0≤z) (h1:z<18446744073709551616):IntKind.u64.wrap z=z:=by rw [zgV];omega
theorem zf6 (n bits k0:Nat) (w:World) (hok:Cs.TanOk n bits k0) (hn:2≤n) (hn2:n<4294967296) (hb:bits≤1048576) (hk0:k0<4294967296) :
  Calls Tryz.prog 236 #[.int .u64 (n:Int),.int .i64 (bits:Int)] w (zb9 w (Cs.tanVal n bits k0)):=by
 have hZ:=Aa hok.zero;have bL:=Aa hok.pos;have bV:=Aa hok.le;have hV:Hid (Cs.tanVal n bits k0=(Cs.tanAt n bits k0).1 - (Cs.tanAt n bits k0).2.1):=rfl;clear hok;obtain ⟨nn,aS⟩:∃ nn,nn=n*n:=⟨_,rfl⟩;have bW:4≤nn:=by rw [aS];exact Nat.mul_le_mul hn hn
 have cA:nn<18446744073709551616:=by
  rw [aS];have:n*n<4294967296*4294967296:=Nat.mul_lt_mul'' hn2 hn2;omega
 have cB:IntKind.u64.wrap ((n:Int)*(n:Int))=(nn:Int):=by
  rw [zd1 (Int.mul_nonneg (by omega) (by omega)) (by rw [←Int.natCast_mul,←aS];omega),←Int.natCast_mul,←aS]
 have bQ:=Aa aS;clear aS;go_enter Tryz.func236,Tryz.ntmps236
 go_wp2_with fail
 refine (zai 1 w (by omega) (by omega)).mono ?_;rintro e w1 ⟨A1,m1,c1,rfl,bJ,bM⟩
 go_wp2_with fail
 refine (zaw A1 m1 c1 _ bits w1 bJ (by rw [←bJ.len];exact Nat.le_trans zck (by omega)) (by omega)).mono ?_;rintro e w2 ⟨A2,m2,c2,rfl,aK,aC⟩;have aF:=Ad bM aC;rw [show Int.toNat 1*2 ^ bits=2 ^ bits by simp] at aK;have bY:m2≤1048576:=by
  rw [←aK.len];exact zn4 hb
 go_wp2_with fail
 refine (za9 A2 m2 c2 _ n w2 aK (by omega) (by omega) (by omega)).mono ?_;rintro e w3 ⟨m3,c3,rfl,bS,aD⟩;have bR:=bS.nat;have aI:=Ad aF aD;have bX:Below w.heap.size w (w3.alloc (.cells #[.slice none 0 0,.slice none 0 0] 237)):=aI.alloc aI.size _;have bT:CBlk (w3.alloc (.cells #[.slice none 0 0,.slice none 0 0] 237)) w3.heap.size #[.slice none 0 0,.slice none 0 0] 237:=CBlk.new _ _ _ _ rfl;have bZ:=bR.later ((Below.refl _ _).alloc (Nat.le_refl _) (.cells #[.slice none 0 0,.slice none 0 0] 237));obtain ⟨g,bI⟩:∃ g,g=w3.heap.size:=⟨_,rfl⟩;have hg:w.heap.size≤g:=by rw [bI];exact aI.size
 rw [←bI] at bT;have HG:=Aa bI;clear bI aF aI bS bJ aK bY bM aC aD bR;go_upto_region 4 with (fail)
 rw [←HG.out];generalize (w3.alloc (.cells #[.slice none 0 0,.slice none 0 0] 237))=wa at *
 go_wp2_with fail
 go_loopw [5,8] (fun pv kv wr=>∃ (k:Nat) (A:Option Addr) (m c:Nat) (A0:Option Addr) (m0 c0:Nat) (A1:Option Addr) (m1 c1:Nat),k≤k0∧pv = .slice A m c∧kv = .int .u64 (k:Int)∧NatS wr wr.heap.size A m c (Cs.tanAt n bits k).2.2∧NatS wr wr.heap.size A0 m0 c0 (Cs.tanAt n bits k).1∧NatS wr wr.heap.size A1 m1 c1 (Cs.tanAt n bits k).2.1∧CBlk wr g #[.slice A0 m0 c0,.slice A1 m1 c1] 237∧Below w.heap.size w wr) (fun _ kv _=>k0 - (intOf kv).toNat)
 case atStart=>exact ⟨0,_,m3,c3,none,0,0,none,0,0,Nat.zero_le _,rfl,rfl,bZ,NatS.nil _ _,NatS.nil _ _,bT,bX⟩
 case round=>
  obtain ⟨k,A,m,c,A0,m0,c0,A1,m1,c1,cC,rfl,rfl,hp,h0,h1,hk,hB⟩:=hrel
  by_cases hlt:k<k0
  ·have bP:=Aa (bL.out k hlt)
   obtain ⟨k2,aZ⟩:∃ k2,k2=2*k:=⟨_,rfl⟩;obtain ⟨aE,aJ⟩:∃ aE,aE=2*k+1:=⟨_,rfl⟩;obtain ⟨kk,aG⟩:∃ kk,kk=k+1:=⟨_,rfl⟩;have f1:IntKind.u64.wrap (2*(k:Int))=(k2:Int):=by rw [zd1 (by omega) (by omega)];omega
   have f2:IntKind.u64.wrap ((k2:Int)+1)=(aE:Int):=by rw [zd1 (by omega) (by omega)];omega
   have f3:IntKind.u64.wrap ((k:Int)+1)=(kk:Int):=by rw [zd1 (by omega) (by omega)];omega
   have bA:0<aE∧aE<18446744073709551616:=by omega
   have bH:Hid (kk=k+1∧k<k0):=⟨aG,hlt⟩;obtain ⟨bU,bO⟩:=bA
   rcases Nat.mod_two_eq_zero_or_one k with aM | aM
   ·have f4:Int.tmod (k:Int) 2=0:=by rw [Int.tmod_eq_emod_of_nonneg (by omega)];omega
    have aR:Cs.tanAt n bits kk=((Cs.tanAt n bits k).1+(Cs.tanAt n bits k).2.2 / aE,(Cs.tanAt n bits k).2.1,(Cs.tanAt n bits k).2.2 / nn):=by
     rw [aG];simp only [Cs.tanAt];rw [if_pos aM,aJ,bQ.out]
    clear aZ aJ aG hlt aM
    go_wp2_with fail
    refine (zaJ A m c (Cs.tanAt n bits k).2.2 _ hp).mono ?_;rintro e w1 ⟨rfl,rfl⟩;rw [decide_eq_false (by have:=bP.out;omega)]
    go_wp2_with fail
    refine (za9 A m c _ aE _ hp (by have h:=hp.len;have h2:=(zcH (k:=k) hn hb).2.2;omega) (by omega) (by omega)).mono ?_;rintro e w2 ⟨m2,c2,rfl,aT,aC⟩;have aP:=aT.nat;have aF:=Ad hB aC;have aH:=hk.below aC hk.lt;have aY:=hp.later aC;have aQ:=h0.later aC;have aN:=h1.later aC;clear aT hk hp h0 h1;have x0:=aH.cell 0;have x1:=aH.cell 1
    go_wp2_with fail
    refine (zcF A0 _ m0 c0 _ _ _ _ _ aQ aP (by have h:=aQ.len;have h2:=(zcH (k:=k) hn hb).1;omega) (by
     have h:=aP.len;have h2:=(zcH (k:=k) hn hb).2.2;have h3:=zaa (Nat.div_le_self (Cs.tanAt n bits k).2.2 aE);omega)).mono ?_
    rintro e w3 ⟨A3,m3,c3,rfl,bC,aD⟩;have aI:=Ad aF aD;have aA:=aH.below aD aH.lt;have aV:=aY.later aD;have bE:=aQ.later aD;have aU:=aN.later aD;clear x0 x1 aH aY aQ aN aP aF;have x0:=aA.cell 0;have x1:=aA.cell 1;have y0:=aA.frozen 0;have y1:=aA.frozen 1;have aW:=aI.setCell (p:=⟨g,0,none⟩) hg (.slice A3 m3 c3);have bD:=aA.set 0 (.slice A3 m3 c3);have aO:=aV.store (i:=0) aA (zaP _ _ _ _ _ _) (.slice A3 m3 c3);have bF:=bE.store (i:=0) aA (zaP _ _ _ _ _ _) (.slice A3 m3 c3);have bG:=aU.store (i:=0) aA (zaP _ _ _ _ _ _) (.slice A3 m3 c3);have bB:=bC.store (i:=0) aA (zaP _ _ _ _ _ _) (.slice A3 m3 c3);have aX:(w3.setCell ⟨g,0,none⟩ (.slice A3 m3 c3)).heap.size=w3.heap.size:=by simp [World.setCell]
    clear aV bE aU bC aI aA;go_upto_region 8 with (fail)
    generalize (w3.setCell ⟨g,0,none⟩ (.slice A3 m3 c3))=w4 at *;rw [←aX] at aO bF bG bB
    go_wp2_with fail
    refine (za9 A m c _ nn _ aO (by have h:=aO.len;have h2:=(zcH (k:=k) hn hb).2.2;omega) (by omega) (by omega)).mono ?_;rintro e w5 ⟨m5,c5,rfl,bK,aL⟩;have bN:=bK.nat
    go_wp2_with fail
    go_roundw
    case rel=>
     refine ⟨kk,_,m5,c5,A3,m3,c3,A1,m1,c1,by have:=bH.out;omega,rfl,rfl,?_,?_,?_,bD.below aL bD.lt,aW.trans (aL.mono aW.size)⟩
     ·rw [aR,←aX];exact bN
     ·rw [aR];exact bB.later aL
     ·rw [aR];exact bG.later aL
    case measure=>have:=bH.out;simp [intOf]<;>omega
   ·have f4:Int.tmod (k:Int) 2=1:=by rw [Int.tmod_eq_emod_of_nonneg (by omega)];omega
    have aR:Cs.tanAt n bits kk=((Cs.tanAt n bits k).1,(Cs.tanAt n bits k).2.1+(Cs.tanAt n bits k).2.2 / aE,(Cs.tanAt n bits k).2.2 / nn):=by
     rw [aG];simp only [Cs.tanAt];rw [if_neg (by omega),aJ,bQ.out]
    clear aZ aJ aG hlt aM
    go_wp2_with fail
    refine (zaJ A m c (Cs.tanAt n bits k).2.2 _ hp).mono ?_;rintro e w1 ⟨rfl,rfl⟩;rw [decide_eq_false (by have:=bP.out;omega)]
    go_wp2_with fail
    refine (za9 A m c _ aE _ hp (by have h:=hp.len;have h2:=(zcH (k:=k) hn hb).2.2;omega) (by omega) (by omega)).mono ?_;rintro e w2 ⟨m2,c2,rfl,aT,aC⟩;have aP:=aT.nat;have aF:=Ad hB aC;have aH:=hk.below aC hk.lt;have aY:=hp.later aC;have aQ:=h0.later aC;have aN:=h1.later aC;clear aT hk hp h0 h1;have x0:=aH.cell 0;have x1:=aH.cell 1
    go_wp2_with fail
    refine (zcF A1 _ m1 c1 _ _ _ _ _ aN aP (by have h:=aN.len;have h2:=(zcH (k:=k) hn hb).2.1;omega) (by
     have h:=aP.len;have h2:=(zcH (k:=k) hn hb).2.2;have h3:=zaa (Nat.div_le_self (Cs.tanAt n bits k).2.2 aE);omega)).mono ?_
    rintro e w3 ⟨A3,m3,c3,rfl,bC,aD⟩;have aI:=Ad aF aD;have aA:=aH.below aD aH.lt;have aV:=aY.later aD;have bE:=aQ.later aD;have aU:=aN.later aD;clear x0 x1 aH aY aQ aN aP aF;have x0:=aA.cell 0;have x1:=aA.cell 1;have y0:=aA.frozen 0;have y1:=aA.frozen 1;have aW:=aI.setCell (p:=⟨g,1,none⟩) hg (.slice A3 m3 c3);have bD:=aA.set 1 (.slice A3 m3 c3);have aO:=aV.store (i:=1) aA (zaP _ _ _ _ _ _) (.slice A3 m3 c3);have bF:=bE.store (i:=1) aA (zaP _ _ _ _ _ _) (.slice A3 m3 c3);have bG:=aU.store (i:=1) aA (zaP _ _ _ _ _ _) (.slice A3 m3 c3);have bB:=bC.store (i:=1) aA (zaP _ _ _ _ _ _) (.slice A3 m3 c3);have aX:(w3.setCell ⟨g,1,none⟩ (.slice A3 m3 c3)).heap.size=w3.heap.size:=by simp [World.setCell]
    clear aV bE aU bC aI aA;go_upto_region 8 with (fail)
    generalize (w3.setCell ⟨g,1,none⟩ (.slice A3 m3 c3))=w4 at *;rw [←aX] at aO bF bG bB
    go_wp2_with fail
    refine (za9 A m c _ nn _ aO (by have h:=aO.len;have h2:=(zcH (k:=k) hn hb).2.2;omega) (by omega) (by omega)).mono ?_;rintro e w5 ⟨m5,c5,rfl,bK,aL⟩;have bN:=bK.nat
    go_wp2_with fail
    go_roundw
    case rel=>
     refine ⟨kk,_,m5,c5,A0,m0,c0,A3,m3,c3,by have:=bH.out;omega,rfl,rfl,?_,?_,?_,bD.below aL bD.lt,aW.trans (aL.mono aW.size)⟩
     ·rw [aR,←aX];exact bN
     ·rw [aR];exact bF.later aL
     ·rw [aR];exact bB.later aL
    case measure=>have:=bH.out;simp [intOf]<;>omega
  ·obtain rfl:k=k0:=by omega
   go_wp2_with fail
   refine (zaJ A m c (Cs.tanAt n bits k).2.2 _ hp).mono ?_;rintro e w1 ⟨rfl,rfl⟩;rw [decide_eq_true hZ.out];have x0:=hk.cell 0;have x1:=hk.cell 1
   go_wp2_with fail
   refine (zc0 A0 A1 m0 c0 m1 c1 _ _ _ h0 h1 bV.out (by have h:=h0.len;have h2:=(zcH (k:=k) hn hb).1;omega)).mono ?_;rintro e w2 ⟨A2,m2,c2,rfl,hn2,aC⟩;go_wp2
   go_ret;exact ⟨A2,m2,c2,rfl,by rw [hV.out];exact hn2,hB.trans (aC.mono hB.size)⟩
theorem zeV {n bits k:Nat} (hn:2≤n) (hb:bits≤1048576):(digs (Cs.tanVal n bits k)).length≤1048576:=
 Nat.le_trans (zaa (Nat.sub_le _ _)) (zcH (k:=k) hn hb).1
theorem zks (bits k l:Nat) (w:World) (h5:Cs.TanOk 5 bits k) (h239:Cs.TanOk 239 bits l) (hc:Cs.tanVal 239 bits l*8≤Cs.tanVal 5 bits k*32) (hb:bits≤1048576) (hk:k<4294967296) (hl:l<4294967296) :
  Calls Tryz.prog 223 #[.int .i64 (bits:Int)] w (zb9 w (Cs.circleOf bits k l)):=by
 have H5:=Aa (zf6 5 bits k w h5 (by omega) (by omega) hb hk);have H9:=Aa (fun W=>zf6 239 bits l W h239 (by omega) (by omega) hb hl);have l5:=zeV (n:=5) (k:=k) (by omega) hb;have l9:=zeV (n:=239) (k:=l) (by omega) hb;have HV:Hid (Cs.circleOf bits k l=Cs.tanVal 5 bits k*32 - Cs.tanVal 239 bits l*8):=rfl;clear h5 h239;generalize Cs.tanVal 5 bits k=x at *;generalize Cs.tanVal 239 bits l=y at *;generalize Cs.circleOf bits k l=z at *;have aW:(digs 32).length≤1:=zad (by decide);have e8:(digs 8).length≤1:=zad (by decide);go_enter Tryz.func223,Tryz.ntmps223
 go_wp2_with fail
 refine H5.out.mono ?_;rintro e w1 ⟨A1,m1,c1,rfl,aV,aP⟩
 go_wp2_with fail
 refine (H9.out w1).mono ?_;rintro e w2 ⟨A2,m2,c2,rfl,aX,aM⟩;have aK:=Ad aP aM;have aH:=aV.later aM;clear aV aP aM
 go_wp2_with fail
 refine (zai 32 w2 (by omega) (by omega)).mono ?_;rintro e w3 ⟨A3,m3,c3,rfl,aQ,aJ⟩;have aN:=Ad aK aJ;have aA:=aH.later aJ;have aE:=aX.later aJ;clear aH aX aK aJ
 go_wp2_with fail
 refine (zaL A1 A3 m1 c1 m3 c3 x 32 w3 aA aQ (by have:=aA.len;omega) (by have h:=aQ.len;have h2:(digs (Int.toNat 32)).length≤1:=aW;omega)).mono ?_;rintro e w4 ⟨A4,m4,c4,rfl,aY,aR⟩;have aL:=Ad aN aR;have aG:=aE.later aR;clear aA aQ aE aN aR
 go_wp2_with fail
 refine (zai 8 w4 (by omega) (by omega)).mono ?_;rintro e w5 ⟨A5,m5,c5,rfl,aT,aI⟩;have aS:=Ad aL aI;have aF:=aY.later aI;have aC:=aG.later aI;clear aY aG aL aI
 go_wp2_with fail
 refine (zaL A2 A5 m2 c2 m5 c5 y 8 w5 aC aT (by have:=aC.len;omega) (by have h:=aT.len;have h2:(digs (Int.toNat 8)).length≤1:=e8;omega)).mono ?_;rintro e w6 ⟨A6,m6,c6,rfl,bA,aO⟩;have aU:=Ad aS aO;have aD:=aF.later aO;clear aF aC aT aS aO
 go_wp2_with fail
 refine (zc0 A4 A6 m4 c4 m6 c6 _ _ w6 aD bA hc (by have:=aD.len;have:=zaD l5 aW;omega)).mono ?_;rintro e w7 ⟨A7,m7,c7,rfl,aZ,bB⟩;go_wp2
 go_ret;exact ⟨A7,m7,c7,rfl,by rw [HV.out];exact aZ,aU.trans (bB.mono aU.size)⟩
end
end Go.Proofs.YtbkgkoenppkhpaaGreatDoor
