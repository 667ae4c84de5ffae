/- Contracts of package number's combine of two spans, and of Plus, Minus, Times, Over, CheckSpan. -/
import Derived.Test.YtmkondcdejlhcaaGreatDoorBSp2
import Derived.Test.YtmkondcdejlhcaaGreatDoorBSp5
import Derived.Test.YtmkondcdejlhcaaGreatDoorBDiv4
import Derived.Deep.LoopGhost
set_option maxRecDepth 100000
set_option maxHeartbeats 4000000
namespace Go.Proofs.YtmkondcdejlhcaaGreatDoor
open Go.RowKit Bn
theorem ziL (fo:FuncId) (x y E:Int) (p q p' q':Q) (s t s2 t2:ByteArray) (w:World) (hT:Tabs w) (HE:Hid (E=if x≠0 then x else y)) (H0:Hid (E≠0)) (HR1:Hid (∀ W,Tabs W→Calls Tryz.prog 78 #[.agg #[.string s,.string t]] W (zbv W p q x))) (HR2:Hid (∀ W,Tabs W→Calls Tryz.prog 78 #[.agg #[.string s2,.string t2]] W (zbv W p' q' y))) :
  Calls Tryz.prog 77 #[.agg #[.string s,.string t],.agg #[.string s2,.string t2],.func (.func 78) #[] #[],.func (.func fo) #[] #[],.func (.func 80) #[] #[]] w (zde w [] [] E):=by
 have er:=fun aE w=>show (callFunc 78 aE).run Tryz.prog w = .ok (.enter 78 aE) w from by kernel_rfl
 have bU:(E != 0)=true:=by simpa using H0.out
 have aI:Below w.heap.size w (((w.alloc (.cells #[.string s,.string t] 39)).alloc (.cells #[.string s2,.string t2] 39)).alloc (.cells #[.string ⟨#[]⟩,.string ⟨#[]⟩] 39)):=((((Below.refl _ _).alloc (by simp<;>omega) _).alloc (by simp<;>omega) _).alloc (by simp<;>omega) _);have q0:CBlk (((w.alloc (.cells #[.string s,.string t] 39)).alloc (.cells #[.string s2,.string t2] 39)).alloc (.cells #[.string ⟨#[]⟩,.string ⟨#[]⟩] 39)) (w.heap.size) #[.string s,.string t] 39:=(((CBlk.new _ _ _ _ (by simp)).alloc _).alloc _);have q1:CBlk (((w.alloc (.cells #[.string s,.string t] 39)).alloc (.cells #[.string s2,.string t2] 39)).alloc (.cells #[.string ⟨#[]⟩,.string ⟨#[]⟩] 39)) (w.heap.size+1) #[.string s2,.string t2] 39:=((CBlk.new _ _ _ _ (by simp)).alloc _);have q2:CBlk (((w.alloc (.cells #[.string s,.string t] 39)).alloc (.cells #[.string s2,.string t2] 39)).alloc (.cells #[.string ⟨#[]⟩,.string ⟨#[]⟩] 39)) (w.heap.size+1+1) #[.string ⟨#[]⟩,.string ⟨#[]⟩] 39:=(CBlk.new _ _ _ _ (by simp));go_enter Tryz.func77,Tryz.ntmps77
 go_upto_region 1 with (fail)
 generalize (((w.alloc (.cells #[.string s,.string t] 39)).alloc (.cells #[.string s2,.string t2] 39)).alloc (.cells #[.string ⟨#[]⟩,.string ⟨#[]⟩] 39))=W at *;have a0:=q0.cell 0;have a1:=q0.cell 1
 go_wp2_with fail
 refine (HR1.out W (hT.later aI)).mono ?_;rintro e w2 ⟨v2,rfl,⟨A1,n1,c1,A2,n2,c2,A3,n3,c3,A4,n4,c4,rfl,h1,h2,h3,h4⟩,aH⟩;have aA:Below w2.heap.size w2 (w2.alloc (.cells #[.bool p.neg,.slice A1 n1 c1,.slice A2 n2 c2,.bool q.neg,.slice A3 n3 c3,.slice A4 n4 c4] 107)):=Ac;have aJ:=Ad aI aH;have aF:=Ad aJ aA;have aM:=(q1.below aH q1.lt).alloc (.cells #[.bool p.neg,.slice A1 n1 c1,.slice A2 n2 c2,.bool q.neg,.slice A3 n3 c3,.slice A4 n4 c4] 107);have aO:=(q2.below aH q2.lt).alloc (.cells #[.bool p.neg,.slice A1 n1 c1,.slice A2 n2 c2,.bool q.neg,.slice A3 n3 c3,.slice A4 n4 c4] 107);have aP:CBlk (w2.alloc (.cells #[.bool p.neg,.slice A1 n1 c1,.slice A2 n2 c2,.bool q.neg,.slice A3 n3 c3,.slice A4 n4 c4] 107)) w2.heap.size #[.bool p.neg,.slice A1 n1 c1,.slice A2 n2 c2,.bool q.neg,.slice A3 n3 c3,.slice A4 n4 c4] 107:=CBlk.new _ _ _ _ rfl;have bH:=h1.later aA;have aW:=h2.later aA;have bC:=h3.later aA;have bF:=h4.later aA;clear a0 a1 q0 q1 q2 aI aH aJ h1 h2 h3 h4 aA;go_upto_region 2 with (fail)
 generalize (w2.alloc (.cells #[.bool p.neg,.slice A1 n1 c1,.slice A2 n2 c2,.bool q.neg,.slice A3 n3 c3,.slice A4 n4 c4] 107))=w3 at *;have a0:=aM.cell 0;have a1:=aM.cell 1
 go_wp2_with fail
 refine (HR2.out w3 (hT.later aF)).mono ?_;rintro e w4 ⟨v4,rfl,⟨D1,e1,d1,D2,e2,d2,D3,e3,d3,D4,e4,d4,rfl,k1,k2,k3,k4⟩,aD⟩;have aA:Below w4.heap.size w4 (w4.alloc (.cells #[.bool p'.neg,.slice D1 e1 d1,.slice D2 e2 d2,.bool q'.neg,.slice D3 e3 d3,.slice D4 e4 d4] 107)):=Ac;have aN:=Ad aF aD;have aQ:=Ad aN aA;have aV:=(aO.below aD aO.lt).alloc (.cells #[.bool p'.neg,.slice D1 e1 d1,.slice D2 e2 d2,.bool q'.neg,.slice D3 e3 d3,.slice D4 e4 d4] 107);have bA:=(aP.below aD aP.lt).alloc (.cells #[.bool p'.neg,.slice D1 e1 d1,.slice D2 e2 d2,.bool q'.neg,.slice D3 e3 d3,.slice D4 e4 d4] 107);have aU:CBlk (w4.alloc (.cells #[.bool p'.neg,.slice D1 e1 d1,.slice D2 e2 d2,.bool q'.neg,.slice D3 e3 d3,.slice D4 e4 d4] 107)) w4.heap.size #[.bool p'.neg,.slice D1 e1 d1,.slice D2 e2 d2,.bool q'.neg,.slice D3 e3 d3,.slice D4 e4 d4] 107:=CBlk.new _ _ _ _ rfl;have bD:=(bH.later aD).later aA;have aZ:=(aW.later aD).later aA;have bI:=(bC.later aD).later aA;have bE:=(bF.later aD).later aA;have aR:=k1.later aA;have aT:=k2.later aA;have aS:=k3.later aA;have bG:=k4.later aA;clear a0 a1 aM aO aP aF aD aN bH aW bC bF k1 k2 k3 k4 aA;go_upto_region 3 with (fail)
 generalize (w4.alloc (.cells #[.bool p'.neg,.slice D1 e1 d1,.slice D2 e2 d2,.bool q'.neg,.slice D3 e3 d3,.slice D4 e4 d4] 107))=w5 at *;have aL:Below w.heap.size w (w5.alloc (.cells #[.int .i64 x,.int .i64 y] 26)):=aQ.alloc aQ.size _;have aC:Below w5.heap.size w5 (w5.alloc (.cells #[.int .i64 x,.int .i64 y] 26)):=Ac;have bB:=aV.alloc (.cells #[.int .i64 x,.int .i64 y] 26);have bK:=bA.alloc (.cells #[.int .i64 x,.int .i64 y] 26);have bJ:=aU.alloc (.cells #[.int .i64 x,.int .i64 y] 26);have bN:=bD.later aC;have bO:=aZ.later aC;have bP:=bI.later aC;have bQ:=bE.later aC;have bR:=aR.later aC;have bL:=aT.later aC;have bT:=aS.later aC;have bM:=bG.later aC
 go_wp2_with fail
 refine (za7 x y E HE.out w5 _ _ rfl).mono ?_;rintro e w6 ⟨rfl,rfl⟩;clear aV bA aU aQ aC bD aZ bI bE aR aT aS bG;generalize (w5.alloc (.cells #[.int .i64 x,.int .i64 y] 26))=w6 at *;have qz:CBlk (w6.alloc (.cells #[.string ⟨#[]⟩,.string ⟨#[]⟩] 39)) w6.heap.size #[.string ⟨#[]⟩,.string ⟨#[]⟩] 39:=CBlk.new _ _ _ _ rfl;have aG:=bB.alloc (.cells #[.string ⟨#[]⟩,.string ⟨#[]⟩] 39);have bS:Below w.heap.size w (w6.alloc (.cells #[.string ⟨#[]⟩,.string ⟨#[]⟩] 39)):=aL.alloc aL.size _;clear bK bJ bN bO bP bQ bR bL bT bM bB aL;go_upto_region 6 with (fail)
 generalize (w6.alloc (.cells #[.string ⟨#[]⟩,.string ⟨#[]⟩] 39))=w7 at *;have x0:=qz.cell 0;have x1:=qz.cell 1;have y0:=aG.cell 0;have y1:=aG.cell 1;have z0:=aG.frozen 0;have z1:=aG.frozen 1;have aK:=zbH bS (g:=w.heap.size+1+1) (by omega) (.string ⟨#[]⟩) (.string ⟨#[]⟩);go_wp2
 refine bodyPost_ret (v := .tuple #[.agg #[.string ⟨#[]⟩,.string ⟨#[]⟩],.int .i64 E]) (by simp [results,Tryz.results77,go_sem,y0,y1]) rfl ⟨⟨#[]⟩,⟨#[]⟩,rfl,rfl,rfl,aK⟩
theorem zj4 (fo:FuncId) (x y:Int) (p q p' q' r1 r2:Q) (s t s2 t2:ByteArray) (w:World) (hT:Tabs w) (HX:Hid (x=0∧y=0)) (eo:∀ args w,(callFunc fo args).run Tryz.prog w = .ok (.enter fo args) w) (lr1:LenQ r1 268435456) (lr2:LenQ r2 268435456) (HR1:Hid (∀ W,Tabs W→Calls Tryz.prog 78 #[.agg #[.string s,.string t]] W (zbv W p q x))) (HR2:Hid (∀ W,Tabs W→Calls Tryz.prog 78 #[.agg #[.string s2,.string t2]] W (zbv W p' q' y)))
  (HO:Hid (∀ v u W,Tabs W→ItvS W W.heap.size v p q→ItvS W W.heap.size u p' q'→Calls Tryz.prog fo #[v,u] W (zb5 W r1 r2))) :
  Calls Tryz.prog 77 #[.agg #[.string s,.string t],.agg #[.string s2,.string t2],.func (.func 78) #[] #[],.func (.func fo) #[] #[],.func (.func 80) #[] #[]] w (zde w (zd6 r1 r2) (zd5 r1 r2) (zcj r1 r2)):=by
 have er:=fun args w=>show (callFunc 78 args).run Tryz.prog w = .ok (.enter 78 args) w from by kernel_rfl
 have ew:=fun args w=>show (callFunc 80 args).run Tryz.prog w = .ok (.enter 80 args) w from by kernel_rfl
 obtain ⟨E,hE⟩:∃ E:Int,E=if x≠0 then x else y:=⟨_,rfl⟩
 have cQ:(E != 0)=false:=by rw [hE,HX.out.1,HX.out.2];rfl
 have HE:=Aa hE;clear hE;have aJ:Below w.heap.size w (((w.alloc (.cells #[.string s,.string t] 39)).alloc (.cells #[.string s2,.string t2] 39)).alloc (.cells #[.string ⟨#[]⟩,.string ⟨#[]⟩] 39)):=((((Below.refl _ _).alloc (by simp<;>omega) _).alloc (by simp<;>omega) _).alloc (by simp<;>omega) _);have q0:CBlk (((w.alloc (.cells #[.string s,.string t] 39)).alloc (.cells #[.string s2,.string t2] 39)).alloc (.cells #[.string ⟨#[]⟩,.string ⟨#[]⟩] 39)) (w.heap.size) #[.string s,.string t] 39:=(((CBlk.new _ _ _ _ (by simp)).alloc _).alloc _);have q1:CBlk (((w.alloc (.cells #[.string s,.string t] 39)).alloc (.cells #[.string s2,.string t2] 39)).alloc (.cells #[.string ⟨#[]⟩,.string ⟨#[]⟩] 39)) (w.heap.size+1) #[.string s2,.string t2] 39:=((CBlk.new _ _ _ _ (by simp)).alloc _);have q2:CBlk (((w.alloc (.cells #[.string s,.string t] 39)).alloc (.cells #[.string s2,.string t2] 39)).alloc (.cells #[.string ⟨#[]⟩,.string ⟨#[]⟩] 39)) (w.heap.size+1+1) #[.string ⟨#[]⟩,.string ⟨#[]⟩] 39:=(CBlk.new _ _ _ _ (by simp));go_enter Tryz.func77,Tryz.ntmps77
 go_upto_region 1 with (fail)
 generalize (((w.alloc (.cells #[.string s,.string t] 39)).alloc (.cells #[.string s2,.string t2] 39)).alloc (.cells #[.string ⟨#[]⟩,.string ⟨#[]⟩] 39))=W at *;have a0:=q0.cell 0;have a1:=q0.cell 1
 go_wp2_with fail
 refine (HR1.out W (hT.later aJ)).mono ?_;rintro e w2 ⟨v2,rfl,⟨A1,n1,c1,A2,n2,c2,A3,n3,c3,A4,n4,c4,rfl,h1,h2,h3,h4⟩,aI⟩;have aA:Below w2.heap.size w2 (w2.alloc (.cells #[.bool p.neg,.slice A1 n1 c1,.slice A2 n2 c2,.bool q.neg,.slice A3 n3 c3,.slice A4 n4 c4] 107)):=Ac;have aN:=Ad aJ aI;have aH:=Ad aN aA;have aQ:=(q1.below aI q1.lt).alloc (.cells #[.bool p.neg,.slice A1 n1 c1,.slice A2 n2 c2,.bool q.neg,.slice A3 n3 c3,.slice A4 n4 c4] 107);have aS:=(q2.below aI q2.lt).alloc (.cells #[.bool p.neg,.slice A1 n1 c1,.slice A2 n2 c2,.bool q.neg,.slice A3 n3 c3,.slice A4 n4 c4] 107);have aT:CBlk (w2.alloc (.cells #[.bool p.neg,.slice A1 n1 c1,.slice A2 n2 c2,.bool q.neg,.slice A3 n3 c3,.slice A4 n4 c4] 107)) w2.heap.size #[.bool p.neg,.slice A1 n1 c1,.slice A2 n2 c2,.bool q.neg,.slice A3 n3 c3,.slice A4 n4 c4] 107:=CBlk.new _ _ _ _ rfl;have bT:=h1.later aA;have bF:=h2.later aA;have bM:=h3.later aA;have bR:=h4.later aA;clear a0 a1 q0 q1 q2 aJ aI aN h1 h2 h3 h4 aA;go_upto_region 2 with (fail)
 generalize (w2.alloc (.cells #[.bool p.neg,.slice A1 n1 c1,.slice A2 n2 c2,.bool q.neg,.slice A3 n3 c3,.slice A4 n4 c4] 107))=w3 at *;have a0:=aQ.cell 0;have a1:=aQ.cell 1
 go_wp2_with fail
 refine (HR2.out w3 (hT.later aH)).mono ?_;rintro e w4 ⟨v4,rfl,⟨D1,e1,d1,D2,e2,d2,D3,e3,d3,D4,e4,d4,rfl,k1,k2,k3,k4⟩,aD⟩;have aA:Below w4.heap.size w4 (w4.alloc (.cells #[.bool p'.neg,.slice D1 e1 d1,.slice D2 e2 d2,.bool q'.neg,.slice D3 e3 d3,.slice D4 e4 d4] 107)):=Ac;have aR:=Ad aH aD;have aU:=Ad aR aA;have bE:=(aS.below aD aS.lt).alloc (.cells #[.bool p'.neg,.slice D1 e1 d1,.slice D2 e2 d2,.bool q'.neg,.slice D3 e3 d3,.slice D4 e4 d4] 107);have bK:=(aT.below aD aT.lt).alloc (.cells #[.bool p'.neg,.slice D1 e1 d1,.slice D2 e2 d2,.bool q'.neg,.slice D3 e3 d3,.slice D4 e4 d4] 107);have bD:CBlk (w4.alloc (.cells #[.bool p'.neg,.slice D1 e1 d1,.slice D2 e2 d2,.bool q'.neg,.slice D3 e3 d3,.slice D4 e4 d4] 107)) w4.heap.size #[.bool p'.neg,.slice D1 e1 d1,.slice D2 e2 d2,.bool q'.neg,.slice D3 e3 d3,.slice D4 e4 d4] 107:=CBlk.new _ _ _ _ rfl;have bN:=(bT.later aD).later aA;have bG:=(bF.later aD).later aA;have bW:=(bM.later aD).later aA;have bQ:=(bR.later aD).later aA;have aW:=k1.later aA;have bC:=k2.later aA;have bA:=k3.later aA;have bS:=k4.later aA;clear a0 a1 aQ aS aT aH aD aR bT bF bM bR k1 k2 k3 k4 aA;go_upto_region 3 with (fail)
 generalize (w4.alloc (.cells #[.bool p'.neg,.slice D1 e1 d1,.slice D2 e2 d2,.bool q'.neg,.slice D3 e3 d3,.slice D4 e4 d4] 107))=w5 at *;have aG:Below w.heap.size w (w5.alloc (.cells #[.int .i64 x,.int .i64 y] 26)):=aU.alloc aU.size _;have aC:Below w5.heap.size w5 (w5.alloc (.cells #[.int .i64 x,.int .i64 y] 26)):=Ac;have aP:=bE.alloc (.cells #[.int .i64 x,.int .i64 y] 26);have aF:=bK.alloc (.cells #[.int .i64 x,.int .i64 y] 26);have aE:=bD.alloc (.cells #[.int .i64 x,.int .i64 y] 26);have bI:=bN.later aC;have bJ:=bG.later aC;have bL:=bW.later aC;have bO:=bQ.later aC;have bP:=aW.later aC;have aZ:=bC.later aC;have bV:=bA.later aC;have bB:=bS.later aC
 go_wp2_with fail
 refine (za7 x y E HE.out w5 _ _ rfl).mono ?_;rintro e w6 ⟨rfl,rfl⟩;clear bE bK bD aU aC bN bG bW bQ aW bC bA bS;generalize (w5.alloc (.cells #[.int .i64 x,.int .i64 y] 26))=w6 at *;have cC:=aF.cell 0;have cE:=aF.cell 1;have cN:=aF.cell 2;have cA:=aF.cell 3;have cO:=aF.cell 4;have bZ:=aF.cell 5;have cM:=aE.cell 0;have cP:=aE.cell 1;have cJ:=aE.cell 2;have cH:=aE.cell 3;have cK:=aE.cell 4;have cI:=aE.cell 5;have aM:=hT.later aG
 go_wp2_with fail
 refine (HO.out _ _ w6 aM ⟨A1,n1,c1,A2,n2,c2,A3,n3,c3,A4,n4,c4,rfl,bI,bJ,bL,bO⟩ ⟨D1,e1,d1,D2,e2,d2,D3,e3,d3,D4,e4,d4,rfl,bP,aZ,bV,bB⟩).mono ?_;rintro e w7 ⟨v7,rfl,h7,aL⟩;have bU:=Ad aG aL;have bH:=aP.below aL aP.lt;have cF:=aM.later aL;clear cC cM cE cP cN cJ cA cH cO cK bZ cI aF aE bI bJ bL bO bP aZ bV bB aP aG aL aM
 go_wp2_with fail
 refine (zer r1 r2 v7 w7 cF h7 lr1 lr2).mono ?_;rintro e w8 ⟨z1,z2,rfl,cB,cG,aV⟩;have cL:=Ad bU aV;have aK:=bH.below aV bH.lt;have y0:=aK.cell 0;have y1:=aK.cell 1;have f0:=aK.frozen 0;have f1:=aK.frozen 1;have aO:=zbH cL (g:=w.heap.size+1+1) (by omega) (.string z1) (.string z2);go_wp2
 refine bodyPost_ret (v := .tuple #[.agg #[.string z1,.string z2],.int .i64 (zcj r1 r2)]) (by simp [results,Tryz.results77,go_sem,y0,y1]) rfl ⟨z1,z2,rfl,cB,cG,aO⟩
theorem zkU (l m:List UInt8) (h:zbb l m=0):zad l=0∧zad m=0∧rdLo l m=zab l∧rdHi l m=zab m:=by
 unfold rdLo rdHi;rw [if_pos h,if_pos h];unfold zbb at h
 by_cases hx:zad l=0
 ·by_cases hy:zad m=0
  ·exact ⟨hx,hy,rfl,rfl⟩
  ·rw [if_neg (by simpa using hx),if_pos hy] at h;exact absurd h hy
 ·rw [if_pos hx] at h;exact absurd h hx
theorem zek (fo:FuncId) (r:Q→Q→Q→Q→Q × Q) (s t s2 t2:ByteArray) (w:World) (hT:Tabs w) (hs:s.size≤4294967296) (ht:t.size≤4294967296) (hs2:s2.size≤4294967296) (ht2:t2.size≤4294967296) (eo:∀ args w,(callFunc fo args).run Tryz.prog w = .ok (.enter fo args) w)
  (HO:∀ p q p' q' v u W,LenQ p 600→LenQ q 600→LenQ p' 600→LenQ q' 600→Tabs W→ItvS W W.heap.size v p q→ItvS W W.heap.size u p' q'→Calls Tryz.prog fo #[v,u] W (zb5 W (r p q p' q').1 (r p q p' q').2))
  (HL:∀ p q p' q',LenQ p 600→LenQ q 600→LenQ p' 600→LenQ q' 600→LenQ (r p q p' q').1 268435456∧LenQ (r p q p' q').2 268435456) (X:Int) (hX:X=err2 (zbb s.data.toList t.data.toList) (zbb s2.data.toList t2.data.toList)) (R:Q × Q) (hR:R=r (zab s.data.toList) (zab t.data.toList) (zab s2.data.toList) (zab t2.data.toList)) :
  Calls Tryz.prog 77 #[.agg #[.string s,.string t],.agg #[.string s2,.string t2],.func (.func 78) #[] #[],.func (.func fo) #[] #[],.func (.func 80) #[] #[]] w (zde w (if X≠0 then [] else zd6 R.1 R.2) (if X≠0 then [] else zd5 R.1 R.2) (if X≠0 then X else zcj R.1 R.2)):=by
 have aC:=Aa (fun W h=>zdb s t W h hs ht);have aA:=Aa (fun W h=>zdb s2 t2 W h hs2 ht2)
 by_cases h0:X=0
 ·rw [if_neg (by simpa using h0),if_neg (by simpa using h0),if_neg (by simpa using h0)]
  rw [hX] at h0;have hx:zbb s.data.toList t.data.toList=0:=by
   unfold err2 at h0
   by_cases h:zbb s.data.toList t.data.toList=0
   ·exact h
   ·rw [if_pos h] at h0;exact absurd h0 h
  have hy:zbb s2.data.toList t2.data.toList=0:=by
   unfold err2 at h0
   rwa [if_neg (by simpa using hx)] at h0
  obtain ⟨a1,a2,a3,a4⟩:=zkU _ _ hx;obtain ⟨b1,b2,b3,b4⟩:=zkU _ _ hy;rw [hR];refine zj4 fo _ _ _ _ _ _ _ _ s t s2 t2 w hT ⟨hx,hy⟩ eo ?_ ?_ aC aA ?_
  ·exact (HL _ _ _ _ (zan a1) (zan a2) (zan b1) (zan b2)).1
  ·exact (HL _ _ _ _ (zan a1) (zan a2) (zan b1) (zan b2)).2
  ·exact fun v u W h1 h2 h3=>by
    rw [a3,a4] at h2;rw [b3,b4] at h3;exact (HO _ _ _ _ v u W (zan a1) (zan a2) (zan b1) (zan b2) h1 h2 h3)
 ·rw [if_pos h0,if_pos h0,if_pos h0]
  exact ziL fo _ _ X _ _ _ _ s t s2 t2 w hT (by rw [Hid,hX];rfl) h0 aC aA
def zoN (p q p' q':Q):Q × Q:=(zcd p p',zcd q q')
theorem ziS:LenQ zdc 268435456:=⟨by show (digs 0).length≤_;rw [zam];exact Nat.zero_le _,by show (digs 0).length≤_;rw [zam];exact Nat.zero_le _⟩
theorem zmZ (p q p' q':Q) (hp:LenQ p 600) (hq:LenQ q 600) (hp2:LenQ p' 600) (hq2:LenQ q' 600):LenQ (zoN p q p' q').1 268435456∧LenQ (zoN p q p' q').2 268435456:=
 ⟨(zbj hp hp2).mono (by omega),(zbj hq hq2).mono (by omega)⟩
theorem zlM (p q p' q':Q) (hp:LenQ p 600) (hq:LenQ q 600) (hp2:LenQ p' 600) (hq2:LenQ q' 600):LenQ (zg3 p q p' q').1 268435456∧LenQ (zg3 p q p' q').2 268435456:=by
 unfold zg3;exact zjK _ (fun q=>LenQ q 268435456) ((zbz (K:=600) (L:=600) _ hp hp2 (by omega)).mono (by omega)) _ (by
  intro x hx;simp only [List.mem_cons,List.not_mem_nil,or_false] at hx
  rcases hx with rfl | rfl | rfl
  ·exact (zbz (K:=600) (L:=600) _ hp hq2 (by omega)).mono (by omega)
  ·exact (zbz (K:=600) (L:=600) _ hq hp2 (by omega)).mono (by omega)
  ·exact (zbz (K:=600) (L:=600) _ hq hq2 (by omega)).mono (by omega))
theorem znr (p q p' q':Q) (hp:LenQ p 600) (hq:LenQ q 600) (hp2:LenQ p' 600) (hq2:LenQ q' 600):LenQ (zhi p q p' q').1 268435456∧LenQ (zhi p q p' q').2 268435456:=by
 unfold zhi
 split
 ·exact ⟨ziS,ziS⟩
 ·exact zjK _ (fun q=>LenQ q 268435456) ((zbD (K:=600) (L:=600) _ hp hp2 (by omega)).mono (by omega)) _ (by
  intro x hx;simp only [List.mem_cons,List.not_mem_nil,or_false] at hx
  rcases hx with rfl | rfl | rfl
  ·exact (zbD (K:=600) (L:=600) _ hp hq2 (by omega)).mono (by omega)
  ·exact (zbD (K:=600) (L:=600) _ hq hp2 (by omega)).mono (by omega)
  ·exact (zbD (K:=600) (L:=600) _ hq hq2 (by omega)).mono (by omega))
theorem zrp (s t s2 t2:ByteArray) (w:World) (hT:Tabs w) (hs:s.size≤4294967296) (ht:t.size≤4294967296) (hs2:s2.size≤4294967296) (ht2:t2.size≤4294967296) (X:Int) (hX:X=err2 (zbb s.data.toList t.data.toList) (zbb s2.data.toList t2.data.toList)) (R:Q × Q) (hR:R=zoN (zab s.data.toList) (zab t.data.toList) (zab s2.data.toList) (zab t2.data.toList)) :
  Calls Tryz.prog 28 #[.agg #[.string s,.string t],.agg #[.string s2,.string t2]] w (zde w (if X≠0 then [] else zd6 R.1 R.2) (if X≠0 then [] else zd5 R.1 R.2) (if X≠0 then X else zcj R.1 R.2)):=by
 have hc:=fun W h=>zek 79 zoN s t s2 t2 W h hs ht hs2 ht2 (fun aH w=>by kernel_rfl) (fun p q p' q' v u W a b c d h1 h2 h3=>zn6 _ _ _ _ v u W h1 h2 h3 (LenQ.mono a (by omega)) (LenQ.mono b (by omega)) (LenQ.mono c (by omega)) (LenQ.mono d (by omega))) zmZ X hX R hR
 generalize (if X≠0 then [] else zd6 R.1 R.2)=l at *
 generalize (if X≠0 then [] else zd5 R.1 R.2)=m at *
 generalize (if X≠0 then X else zcj R.1 R.2)=E at *
 have HC:=Aa hc;clear hc;have aC:Below w.heap.size w (((w.alloc (.cells #[.string s,.string t] 39)).alloc (.cells #[.string s2,.string t2] 39)).alloc (.cells #[.string ⟨#[]⟩,.string ⟨#[]⟩] 39)):=((((Below.refl _ _).alloc (by simp<;>omega) _).alloc (by simp<;>omega) _).alloc (by simp<;>omega) _);have q0:CBlk (((w.alloc (.cells #[.string s,.string t] 39)).alloc (.cells #[.string s2,.string t2] 39)).alloc (.cells #[.string ⟨#[]⟩,.string ⟨#[]⟩] 39)) (w.heap.size) #[.string s,.string t] 39:=(((CBlk.new _ _ _ _ (by simp)).alloc _).alloc _);have q1:CBlk (((w.alloc (.cells #[.string s,.string t] 39)).alloc (.cells #[.string s2,.string t2] 39)).alloc (.cells #[.string ⟨#[]⟩,.string ⟨#[]⟩] 39)) (w.heap.size+1) #[.string s2,.string t2] 39:=((CBlk.new _ _ _ _ (by simp)).alloc _);have q2:CBlk (((w.alloc (.cells #[.string s,.string t] 39)).alloc (.cells #[.string s2,.string t2] 39)).alloc (.cells #[.string ⟨#[]⟩,.string ⟨#[]⟩] 39)) (w.heap.size+1+1) #[.string ⟨#[]⟩,.string ⟨#[]⟩] 39:=(CBlk.new _ _ _ _ (by simp));go_enter Tryz.func28,Tryz.ntmps28
 go_upto_region 1 with (fail)
 generalize (((w.alloc (.cells #[.string s,.string t] 39)).alloc (.cells #[.string s2,.string t2] 39)).alloc (.cells #[.string ⟨#[]⟩,.string ⟨#[]⟩] 39))=W at *;have a0:=q0.cell 0;have a1:=q0.cell 1;have b0:=q1.cell 0;have b1:=q1.cell 1
 go_wp2_with fail
 refine (HC.out W (hT.later aC)).mono ?_;rintro e w8 ⟨z1,z2,rfl,aG,aF,aE⟩;have aI:=Ad aC aE;have aA:=q2.below aE q2.lt;have y0:=aA.cell 0;have y1:=aA.cell 1;have f0:=aA.frozen 0;have f1:=aA.frozen 1;have aD:=zbH aI (g:=w.heap.size+1+1) (by omega) (.string z1) (.string z2);go_wp2
 refine bodyPost_ret (v := .tuple #[.agg #[.string z1,.string z2],.int .i64 E]) (by simp [results,Tryz.results28,go_sem,y0,y1]) rfl ⟨z1,z2,rfl,aG,aF,aD⟩
theorem zlq (s t s2 t2:ByteArray) (w:World) (hT:Tabs w) (hs:s.size≤4294967296) (ht:t.size≤4294967296) (hs2:s2.size≤4294967296) (ht2:t2.size≤4294967296) (X:Int) (hX:X=err2 (zbb s.data.toList t.data.toList) (zbb s2.data.toList t2.data.toList)) (R:Q × Q) (hR:R=zg3 (zab s.data.toList) (zab t.data.toList) (zab s2.data.toList) (zab t2.data.toList)) :
  Calls Tryz.prog 30 #[.agg #[.string s,.string t],.agg #[.string s2,.string t2]] w (zde w (if X≠0 then [] else zd6 R.1 R.2) (if X≠0 then [] else zd5 R.1 R.2) (if X≠0 then X else zcj R.1 R.2)):=by
 have hc:=fun W h=>zek 82 zg3 s t s2 t2 W h hs ht hs2 ht2 (fun aH w=>by kernel_rfl) (fun p q p' q' v u W a b c d h1 h2 h3=>zlD _ _ _ _ v u W h1 h2 h3 (LenQ.mono a (by omega)) (LenQ.mono b (by omega)) (LenQ.mono c (by omega)) (LenQ.mono d (by omega))) zlM X hX R hR
 generalize (if X≠0 then [] else zd6 R.1 R.2)=l at *
 generalize (if X≠0 then [] else zd5 R.1 R.2)=m at *
 generalize (if X≠0 then X else zcj R.1 R.2)=E at *
 have HC:=Aa hc;clear hc;have aC:Below w.heap.size w (((w.alloc (.cells #[.string s,.string t] 39)).alloc (.cells #[.string s2,.string t2] 39)).alloc (.cells #[.string ⟨#[]⟩,.string ⟨#[]⟩] 39)):=((((Below.refl _ _).alloc (by simp<;>omega) _).alloc (by simp<;>omega) _).alloc (by simp<;>omega) _);have q0:CBlk (((w.alloc (.cells #[.string s,.string t] 39)).alloc (.cells #[.string s2,.string t2] 39)).alloc (.cells #[.string ⟨#[]⟩,.string ⟨#[]⟩] 39)) (w.heap.size) #[.string s,.string t] 39:=(((CBlk.new _ _ _ _ (by simp)).alloc _).alloc _);have q1:CBlk (((w.alloc (.cells #[.string s,.string t] 39)).alloc (.cells #[.string s2,.string t2] 39)).alloc (.cells #[.string ⟨#[]⟩,.string ⟨#[]⟩] 39)) (w.heap.size+1) #[.string s2,.string t2] 39:=((CBlk.new _ _ _ _ (by simp)).alloc _);have q2:CBlk (((w.alloc (.cells #[.string s,.string t] 39)).alloc (.cells #[.string s2,.string t2] 39)).alloc (.cells #[.string ⟨#[]⟩,.string ⟨#[]⟩] 39)) (w.heap.size+1+1) #[.string ⟨#[]⟩,.string ⟨#[]⟩] 39:=(CBlk.new _ _ _ _ (by simp));go_enter Tryz.func30,Tryz.ntmps30
 go_upto_region 1 with (fail)
 generalize (((w.alloc (.cells #[.string s,.string t] 39)).alloc (.cells #[.string s2,.string t2] 39)).alloc (.cells #[.string ⟨#[]⟩,.string ⟨#[]⟩] 39))=W at *;have a0:=q0.cell 0;have a1:=q0.cell 1;have b0:=q1.cell 0;have b1:=q1.cell 1
 go_wp2_with fail
 refine (HC.out W (hT.later aC)).mono ?_;rintro e w8 ⟨z1,z2,rfl,aG,aF,aE⟩;have aI:=Ad aC aE;have aA:=q2.below aE q2.lt;have y0:=aA.cell 0;have y1:=aA.cell 1;have f0:=aA.frozen 0;have f1:=aA.frozen 1;have aD:=zbH aI (g:=w.heap.size+1+1) (by omega) (.string z1) (.string z2);go_wp2
 refine bodyPost_ret (v := .tuple #[.agg #[.string z1,.string z2],.int .i64 E]) (by simp [results,Tryz.results30,go_sem,y0,y1]) rfl ⟨z1,z2,rfl,aG,aF,aD⟩
theorem zmV (s t s2 t2:ByteArray) (w:World) (hT:Tabs w) (hs:s.size≤4294967296) (ht:t.size≤4294967296) (hs2:s2.size≤4294967296) (ht2:t2.size≤4294967296) (X:Int) (hX:X=err2 (zbb s.data.toList t.data.toList) (zbb s2.data.toList t2.data.toList)) (R:Q × Q) (hR:R=zhi (zab s.data.toList) (zab t.data.toList) (zab s2.data.toList) (zab t2.data.toList)) :
  Calls Tryz.prog 34 #[.agg #[.string s,.string t],.agg #[.string s2,.string t2]] w (zde w (if X≠0 then [] else zd6 R.1 R.2) (if X≠0 then [] else zd5 R.1 R.2) (if X≠0 then X else zcj R.1 R.2)):=by
 have hc:=fun W h=>zek 84 zhi s t s2 t2 W h hs ht hs2 ht2 (fun aH w=>by kernel_rfl) (fun p q p' q' v u W a b c d h1 h2 h3=>znz _ _ _ _ v u W h1 h2 h3 (LenQ.mono a (by omega)) (LenQ.mono b (by omega)) (LenQ.mono c (by omega)) (LenQ.mono d (by omega))) znr X hX R hR
 generalize (if X≠0 then [] else zd6 R.1 R.2)=l at *
 generalize (if X≠0 then [] else zd5 R.1 R.2)=m at *
 generalize (if X≠0 then X else zcj R.1 R.2)=E at *
 have HC:=Aa hc;clear hc;have aC:Below w.heap.size w (((w.alloc (.cells #[.string s,.string t] 39)).alloc (.cells #[.string s2,.string t2] 39)).alloc (.cells #[.string ⟨#[]⟩,.string ⟨#[]⟩] 39)):=((((Below.refl _ _).alloc (by simp<;>omega) _).alloc (by simp<;>omega) _).alloc (by simp<;>omega) _);have q0:CBlk (((w.alloc (.cells #[.string s,.string t] 39)).alloc (.cells #[.string s2,.string t2] 39)).alloc (.cells #[.string ⟨#[]⟩,.string ⟨#[]⟩] 39)) (w.heap.size) #[.string s,.string t] 39:=(((CBlk.new _ _ _ _ (by simp)).alloc _).alloc _);have q1:CBlk (((w.alloc (.cells #[.string s,.string t] 39)).alloc (.cells #[.string s2,.string t2] 39)).alloc (.cells #[.string ⟨#[]⟩,.string ⟨#[]⟩] 39)) (w.heap.size+1) #[.string s2,.string t2] 39:=((CBlk.new _ _ _ _ (by simp)).alloc _);have q2:CBlk (((w.alloc (.cells #[.string s,.string t] 39)).alloc (.cells #[.string s2,.string t2] 39)).alloc (.cells #[.string ⟨#[]⟩,.string ⟨#[]⟩] 39)) (w.heap.size+1+1) #[.string ⟨#[]⟩,.string ⟨#[]⟩] 39:=(CBlk.new _ _ _ _ (by simp));go_enter Tryz.func34,Tryz.ntmps34
 go_upto_region 1 with (fail)
 generalize (((w.alloc (.cells #[.string s,.string t] 39)).alloc (.cells #[.string s2,.string t2] 39)).alloc (.cells #[.string ⟨#[]⟩,.string ⟨#[]⟩] 39))=W at *;have a0:=q0.cell 0;have a1:=q0.cell 1;have b0:=q1.cell 0;have b1:=q1.cell 1
 go_wp2_with fail
 refine (HC.out W (hT.later aC)).mono ?_;rintro e w8 ⟨z1,z2,rfl,aG,aF,aE⟩;have aI:=Ad aC aE;have aA:=q2.below aE q2.lt;have y0:=aA.cell 0;have y1:=aA.cell 1;have f0:=aA.frozen 0;have f1:=aA.frozen 1;have aD:=zbH aI (g:=w.heap.size+1+1) (by omega) (.string z1) (.string z2);go_wp2
 refine bodyPost_ret (v := .tuple #[.agg #[.string z1,.string z2],.int .i64 E]) (by simp [results,Tryz.results34,go_sem,y0,y1]) rfl ⟨z1,z2,rfl,aG,aF,aD⟩
def zbK (a s:Nat):Prop:=s*s≤a∧a<(s+1)*(s+1)
theorem zmT {a s r:Nat} (hs:zbK a s) (hr:s≤r) (h0:0<r):s≤(r+a / r) / 2:=by
 have aA:a<r*(a / r+1):=by
  have h:=Nat.div_add_mod a r;have h2:=Nat.mod_lt a h0;rw [Nat.mul_add,Nat.mul_one];omega
 rw [Nat.le_div_iff_mul_le (by omega)]
 rcases Nat.lt_or_ge (r+a / r) (s*2) with h | h
 ·exfalso
  obtain ⟨d,rfl⟩:∃ d,r=s+d:=⟨r - s,by omega⟩;generalize a / (s+d)=q at *;have h3:q+1≤s - d:=by omega
  have h4:(s+d)*(q+1)≤(s+d)*(s - d):=Nat.mul_le_mul_left _ h3;have h5:(s+d)*(s - d)≤s*s:=by
   obtain ⟨e,rfl⟩:∃ e,s=d+e:=⟨s - d,by omega⟩;have e0:d+e - d=e:=by omega
   have e1:(d+e+d)*e=d*e+e*e+d*e:=by rw [Nat.add_mul,Nat.add_mul]
   have e2:(d+e)*(d+e)=d*d+d*e+(e*d+e*e):=by rw [Nat.add_mul,Nat.mul_add,Nat.mul_add]
   have e3:=Nat.mul_comm d e;rw [e0,e1,e2];omega
  have:=hs.1;omega
 ·exact h
theorem zkk {a s r:Nat} (hs:zbK a s) (hr:s≤r) (h0:0<r) (h:r≤(r+a / r) / 2):r=s:=by
 rw [Nat.le_div_iff_mul_le (by omega)] at h;have h1:r≤a / r:=by omega
 have h2:r*r≤a:=(Nat.le_div_iff_mul_le h0).1 h1
 rcases Nat.lt_or_ge s r with h3 | h3
 ·exfalso
  have:(s+1)*(s+1)≤r*r:=Nat.mul_le_mul h3 h3;have:=hs.2;omega
 ·omega
theorem ziU {a s:Nat} (hs:zbK a s):s≤2 ^ ((zaR a+1) / 2):=by
 rcases Nat.lt_or_ge (2 ^ ((zaR a+1) / 2)) s with h | h
 ·exfalso
  have h1:2 ^ ((zaR a+1) / 2)*2 ^ ((zaR a+1) / 2)≤s*s:=Nat.mul_le_mul (Nat.le_of_lt h) (Nat.le_of_lt h);rw [←Nat.pow_add] at h1;have h2:2 ^ zaR a≤2 ^ ((zaR a+1) / 2+(zaR a+1) / 2):=Nat.pow_le_pow_right (by omega) (by omega);have h3:=zgd a;have:=hs.1;omega
 ·exact h
theorem znk {x n:Nat} (h:(digs x).length≤n):zaR x≤64*n:=by
 rcases Nat.eq_zero_or_pos x with rfl | hx
 ·simp [zaR]
 ·have h1:=zf9 hx
  have h2:=zae x;have h3:B ^ (digs x).length≤B ^ n:=Nat.pow_le_pow_right zaV h;rw [zfH,←Nat.pow_mul,←Nat.pow_mul] at *
  rcases Nat.lt_or_ge (64*n) (zaR x) with h4 | h4
  ·exfalso
   have h5:2 ^ (64*n)≤2 ^ (zaR x - 1):=Nat.pow_le_pow_right (by omega) (by omega);omega
  ·exact h4
theorem zc4 (A:Option Addr) (n c x s:Nat) (w:World) (ha:NatS w w.heap.size A n c x) (hs:zbK x s) (hn:n≤16777216) :
  Calls Tryz.prog 140 #[.slice A n c] w (zcy w s):=by
 have h1:=ha.nc;have h2:=ha.cm;have hz:=fun W:World=>zcP A n c W (by omega)
 unfold maxLen at h2;have HS:=Aa hs;clear hs
 by_cases h0:n=0
 ·subst h0
  obtain rfl:x=0:=za8.1 ha.len;have bJ:s=0:=by
   rcases Nat.eq_zero_or_pos s with h | h
   ·exact h
   ·have:=HS.out.1
    have:=Nat.mul_pos h h;omega
  subst bJ;go_enter Tryz.func140,Tryz.ntmps140
  go_wp2_with fail
  refine (hz _).mono ?_;rintro e w1 ⟨rfl,rfl⟩
  go_wp2_with fail
  go_ret;exact ⟨A,0,c,rfl,ha,Below.refl _ _⟩
 ·have hx:0<x:=by
   rcases Nat.eq_zero_or_pos x with rfl | h
   ·exact absurd (by rw [←ha.len,zam];rfl) h0
   ·exact h
  have bG:(((n:Nat):Int)==0)=false:=by rw [beq_eq_false_iff_ne];omega
  simp only [bG] at hz
  have aN:=fun W:World=>fun h=>zdC A n c x W h (by omega)
  have bM:=znk (x:=x) (n:=n) (by rw [ha.len];exact Nat.le_refl _);have aG:=ziU HS.out;obtain ⟨nb,aF⟩:∃ nb,nb=zaR x:=⟨_,rfl⟩;rw [←aF] at bM aG;simp only [←aF] at aN
  obtain ⟨k,hk⟩:∃ k,k=(nb+1) / 2:=⟨_,rfl⟩;rw [←hk] at aG;have ek:((nb:Int)+1) / 2=(k:Int):=by omega
  have bE:k≤1099511627776:=by omega
  have HK:=Aa hk;clear hk aF;have bB:=zah 1 w (by omega) (by omega);go_enter Tryz.func140,Tryz.ntmps140
  go_wp2_with fail
  refine (hz _).mono ?_;rintro e w1 ⟨rfl,rfl⟩
  go_wp2_with fail
  refine bB.mono ?_;rintro e w2 ⟨A1,m1,c1,rfl,aQ,aL⟩
  go_wp2_with fail
  refine (aN _ (ha.later aL)).mono ?_;rintro e w3 ⟨rfl,rfl⟩;have bF:m1≤1099511627776:=by
   have:=aQ.len;have k2:(digs (Int.toNat 1)).length≤1:=digs_length_le (by decide);omega
  have bC:=zay A1 m1 c1 _ k _ aQ bF bE
  go_wp2_with fail
  refine bC.mono ?_;rintro e w4 ⟨A4,m4,c4,rfl,aJ,aU⟩;rw [show Int.toNat 1*2 ^ k=2 ^ k from by simp] at aJ;have aA:Below w.heap.size w w4:=Ad aL aU;have aS:m4≤n+1:=by
   have k1:=aJ.len;have k2:(digs (2 ^ k)).length≤n+1:=digs_length_le (by
    rw [zfH,←Nat.pow_mul];exact (Nat.pow_lt_pow_iff_right (by omega)).2 (by omega))
   omega
  have hp:=Nat.two_pow_pos k;obtain ⟨r0,aT⟩:∃ r0,r0=2 ^ k:=⟨_,rfl⟩;rw [←aT] at aG aJ hp;clear aT bB bC aQ aL aU aN ek
  go_wp2_with fail
  go_loopg [3] r0 (fun G sl we=>∃ A2 m2 c2 r,sl = .slice A2 m2 c2∧NatS we we.heap.size A2 m2 c2 r∧m2≤n+1∧0<r∧s≤r∧r≤G∧Below w.heap.size w we)
  case atStart=>exact ⟨A4,m4,c4,r0,rfl,aJ,aS,hp,aG,Nat.le_refl _,aA⟩
  case round=>
   clear aJ aS hp aG aA;obtain ⟨A2,m2,c2,r,rfl,aH,bK,hr,aZ,bS,aA⟩:=hrel;have bN:=zcM A A2 n c m2 c2 x r wr (ha.later aA) aH hr (by omega)
   go_wp2_with fail
   refine bN.mono ?_;rintro e w5 ⟨A5,m5,c5,A6,m6,c6,rfl,aO,_,aK⟩;have bQ:m5≤n:=by
    have k1:=aO.len;have k2:=zaa (Nat.div_le_self x r);have k3:=ha.len;omega
   go_wp2_with fail
   refine (zcJ A2 A5 m2 c2 m5 c5 r (x / r) _ (aH.later aK) aO (by omega) (by omega)).mono ?_;rintro e w7 ⟨A7,m7,c7,rfl,aV,aR⟩;have bR:m7≤n+2:=by
    have k1:=aV.len;have k2:(digs (r+x / r)).length≤n+2:=digs_length_le (by
     have j1:=zae r;have j2:=zae (x / r);rw [aH.len] at j1;rw [aO.len] at j2;have j3:B ^ m2≤B ^ (n+1):=Nat.pow_le_pow_right zaV bK;have j4:B ^ m5≤B ^ (n+1):=Nat.pow_le_pow_right zaV (by omega);exact zjE _ _ _ _ _ (Nat.lt_of_lt_of_le j1 j3) (Nat.lt_of_lt_of_le j2 j4) (Nat.le_refl _) (by rw [Nat.pow_succ B (n+1)];exact Nat.mul_le_mul_left _ zeW))
    omega
   go_wp2_with fail
   refine (zaY A7 m7 c7 (r+x / r) 1 _ aV (by omega) (by omega)).mono ?_;rintro e w8 ⟨aM,bD⟩;obtain ⟨A8,m8,c8,bL,aE,_⟩:=bD.ret aM;subst bL;rw [Nat.pow_one] at aE;have aD:Below w.heap.size w w8:=aA.trans ((aK.trans ((aR.trans (aM.mono aR.size)).mono aK.size)).mono aA.size);have aC:=((aH.later aK).later aR).later aM;have aP:=zmT HS.out aZ hr;have aI:=zaX A8 A2 m8 c8 m2 c2 _ r w8 aE aC;obtain ⟨t,ht⟩:∃ t,t=(r+x / r) / 2:=⟨_,rfl⟩;rw [←ht] at aP aI aE
   by_cases hrt:r≤t
   ·have bA:r=s:=zkk HS.out aZ hr (by rw [←ht];exact hrt)
    have hv:∃ v,v=ncmp t r∧0≤v:=⟨_,rfl,by unfold ncmp;rw [if_neg (by omega)];split<;>omega⟩;obtain ⟨v,aW,bP⟩:=hv;rw [←aW] at aI;have bO:=Aa bA;clear aW bA ht aP
    go_wp2_with fail
    refine aI.mono ?_;rintro e w9 ⟨rfl,q,rfl⟩
    go_wp2_with fail
    go_ret;exact ⟨A2,m2,c2,rfl,by rw [←bO.out];exact ⟨aC.words,aC.nc,aC.cm⟩,zac aD q⟩
   ·rw [ncmp_lt (by omega)] at aI
    have bT:=Aa ht;clear ht;have bI:m8≤n+1:=by
     have k1:=aE.len;have k2:=zaa (show t≤r by omega);have k3:=aH.len;omega
    have bH:0<t:=by
     have k1:0<s:=by
      rcases Nat.eq_zero_or_pos s with h | h
      ·have:=HS.out.2
       rw [h] at this;omega
      ·exact h
     omega
    go_wp2_with fail
    refine aI.mono ?_;rintro e w9 ⟨rfl,q,rfl⟩
    go_wp2_with fail
    go_roundg t
    case measure=>omega
    case rel=>exact ⟨A8,m8,c8,t,rfl,⟨aE.words,aE.nc,aE.cm⟩,bI,bH,aP,Nat.le_refl _,zac aD q⟩
end Go.Proofs.YtmkondcdejlhcaaGreatDoor
