/- Contract of the closure of readTable: a breakpoint that is right. -/
import Derived.Test.YteajibbphcfmeaaGreatDoorVKn
import Derived.Deep.LoopGhost
namespace Go.Proofs.YteajibbphcfmeaaGreatDoor
open Go.RowKit Bn
set_option maxHeartbeats 4000000 in
set_option maxRecDepth 100000 in
theorem zkc (ii x y:Int) (p q:Q) (X Y:ByteArray) (g B n:Nat) (v:Value) (ks:List (Q × Q)) (w:World) (hT:Tabs w) (hB1:B≤w.heap.size) (hB:B≤g) (hst:KState w B g n ks v) (HX:Hid (x=0∧y=0)) (HN:Hid (n<64)) (HI:Hid (ii=0))
  (HR1:Hid (∀ W,Tabs W→Calls Tryz.prog 63 #[.string X] W (zay W p x))) (HR2:Hid (∀ W,Tabs W→Calls Tryz.prog 63 #[.string Y] W (zay W q y))) :
  Calls Tryz.prog 158 #[.int .i64 ii,.agg #[.string X,.string Y],.pointer (some ⟨g,0,none⟩)] w fun e w'=>e = .returned (.int .i64 0)∧(∃ v',KState w' B g (n+1) (ks++[(p,q)]) v')∧Below B w w':=by
 obtain ⟨E,hE⟩:∃ E,E=if x≠0 then x else y:=⟨_,rfl⟩
 have HE:=Lib.hid hE
 have cR:(E != 0)=false:=by rw [hE,HX.out.1,HX.out.2];rfl
 have d2:decide (0<ii)=false:=decide_eq_false (by have:=HI.out;omega)
 clear hE
 have aP:Below w.heap.size w (w.alloc (.cells #[.string X,.string Y] 70)):=(Below.refl _ _).alloc (Nat.le_refl _) _
 have q0:CBlk (w.alloc (.cells #[.string X,.string Y] 70)) w.heap.size #[.string X,.string Y] 70:=CBlk.new _ _ _ _ rfl
 go_enter Tryz.func158,Tryz.ntmps158
 go_upto_region 1 with (fail)
 generalize (w.alloc (.cells #[.string X,.string Y] 70))=W at *
 have a0:=q0.cell 0
 have a1:=q0.cell 1
 go_wp2_with fail
 refine (HR1.out W (hT.later aP)).mono ?_
 rintro e w2 ⟨v2,rfl,⟨A1,n1,c1,A2,n2,c2,rfl,h1,h2⟩,aX⟩
 have aO:=aP.trans (aX.mono aP.size)
 have aY:=(q0.below aX q0.lt).alloc (.cells #[.bool p.neg,.slice A1 n1 c1,.slice A2 n2 c2] 91)
 have aA:Below w2.heap.size w2 (w2.alloc (.cells #[.bool p.neg,.slice A1 n1 c1,.slice A2 n2 c2] 91)):=(Below.refl _ _).alloc (Nat.le_refl _) _
 have aS:CBlk (w2.alloc (.cells #[.bool p.neg,.slice A1 n1 c1,.slice A2 n2 c2] 91)) w2.heap.size #[.bool p.neg,.slice A1 n1 c1,.slice A2 n2 c2] 91:=CBlk.new _ _ _ _ rfl
 have aC:=aO.trans (aA.mono aO.size)
 have bE:=h1.later aA
 have bF:=h2.later aA
 have cL:=aO.size
 clear a0 a1 q0 aP aX aO h1 h2 aA
 go_upto_region 2 with (fail)
 generalize (w2.alloc (.cells #[.bool p.neg,.slice A1 n1 c1,.slice A2 n2 c2] 91))=w3 at *
 have a0:=aY.cell 0
 have a1:=aY.cell 1
 go_wp2_with fail
 refine (HR2.out w3 (hT.later aC)).mono ?_
 rintro e w4 ⟨v4,rfl,⟨A3,n3,c3,A4,n4,c4,rfl,h3,h4⟩,aK⟩
 have aW:=aC.trans (aK.mono aC.size)
 have bV:=(aS.below aK aS.lt).alloc (.cells #[.bool q.neg,.slice A3 n3 c3,.slice A4 n4 c4] 91)
 have cB:CBlk (w4.alloc (.cells #[.bool q.neg,.slice A3 n3 c3,.slice A4 n4 c4] 91)) w4.heap.size #[.bool q.neg,.slice A3 n3 c3,.slice A4 n4 c4] 91:=CBlk.new _ _ _ _ rfl
 have aA:Below w4.heap.size w4 (w4.alloc (.cells #[.bool q.neg,.slice A3 n3 c3,.slice A4 n4 c4] 91)):=(Below.refl _ _).alloc (Nat.le_refl _) _
 have aH:=aW.trans (aA.mono aW.size)
 have bW:=(bE.later aK).later aA
 have bR:=(bF.later aK).later aA
 have bH:=h3.later aA
 have bS:=h4.later aA
 clear a0 a1 aY aS aC aK aW bE bF h3 h4 aA
 go_upto_region 3 with (fail)
 generalize (w4.alloc (.cells #[.bool q.neg,.slice A3 n3 c3,.slice A4 n4 c4] 91))=w5 at *
 have aM:Below w.heap.size w (w5.alloc (.cells #[.int .i64 x,.int .i64 y] 26)):=aH.alloc aH.size _
 have aI:Below w5.heap.size w5 (w5.alloc (.cells #[.int .i64 x,.int .i64 y] 26)):=(Below.refl _ _).alloc (Nat.le_refl _) _
 have bL:=bV.alloc (.cells #[.int .i64 x,.int .i64 y] 26)
 have bX:=cB.alloc (.cells #[.int .i64 x,.int .i64 y] 26)
 have bP:=bW.later aI
 have bJ:=bR.later aI
 have bZ:=bH.later aI
 have cE:=bS.later aI
 go_wp2_with fail
 refine (zaZ x y E HE.out w5 _ _ rfl).mono ?_
 rintro e w6 ⟨rfl,rfl⟩
 clear bV cB aH aI bW bR bH bS
 generalize (w5.alloc (.cells #[.int .i64 x,.int .i64 y] 26))=w6 at *
 have k6:=hst.later aM
 generalize w2.heap.size=gx at *
 generalize w4.heap.size=gy at *
 go_upto_region 6 with (fail)
 go_region
 have aF:Below w6.heap.size w6 w6.drew:=(Below.refl _ _).drew
 have bN:=aM.trans (aF.mono aM.size)
 have k7:=k6.later aF
 have aQ:=bL.drew
 have aN:=bX.drew
 have bB:=bP.later aF
 have bK:=bJ.later aF
 have bT:=bZ.later aF
 have bM:=cE.later aF
 clear aF aM k6 bL bX bP bJ bZ cE
 generalize w6.drew=w7 at *
 obtain ⟨cK,xs,hx,bG⟩:=k7.kn
 have aG:Below w7.heap.size w7 (w7.alloc (.cells #[.bool p.neg,.slice A1 n1 c1,.slice A2 n2 c2,.bool q.neg,.slice A3 n3 c3,.slice A4 n4 c4] 135)):=(Below.refl _ _).alloc (Nat.le_refl _) _
 have kV:=k7.later aG
 have aJ:=hx.alloc (.cells #[.bool p.neg,.slice A1 n1 c1,.slice A2 n2 c2,.bool q.neg,.slice A3 n3 c3,.slice A4 n4 c4] 135)
 have bQ:CBlk (w7.alloc (.cells #[.bool p.neg,.slice A1 n1 c1,.slice A2 n2 c2,.bool q.neg,.slice A3 n3 c3,.slice A4 n4 c4] 135)) w7.heap.size #[.bool p.neg,.slice A1 n1 c1,.slice A2 n2 c2,.bool q.neg,.slice A3 n3 c3,.slice A4 n4 c4] 135:=CBlk.new _ _ _ _ rfl
 have bA:ItvS (w7.alloc (.cells #[.bool p.neg,.slice A1 n1 c1,.slice A2 n2 c2,.bool q.neg,.slice A3 n3 c3,.slice A4 n4 c4] 135)) (w7.alloc (.cells #[.bool p.neg,.slice A1 n1 c1,.slice A2 n2 c2,.bool q.neg,.slice A3 n3 c3,.slice A4 n4 c4] 135)).heap.size (.agg #[.bool p.neg,.slice A1 n1 c1,.slice A2 n2 c2,.bool q.neg,.slice A3 n3 c3,.slice A4 n4 c4]) p q:=⟨A1,n1,c1,A2,n2,c2,A3,n3,c3,A4,n4,c4,rfl,bB.later aG,bK.later aG,bT.later aG,bM.later aG⟩
 have bC:=fun (v':Value) (V':World) ho hg hat hf=>zfe (W:=w7) (V:=w7.alloc (.cells #[.bool p.neg,.slice A1 n1 c1,.slice A2 n2 c2,.bool q.neg,.slice A3 n3 c3,.slice A4 n4 c4] 135)) (V':=V') (v':=v') (a:=#[.bool p.neg,.slice A1 n1 c1,.slice A2 n2 c2,.bool q.neg,.slice A3 n3 c3,.slice A4 n4 c4]) (p:=p) (q:=q) k7 hx bG aG bA rfl ho hg hat hf
 have bO:=kV.apart
 have bI:=kV.box
 have bU:=kV.free
 have cJ:w7.heap.size≤(w7.alloc (.cells #[.bool p.neg,.slice A1 n1 c1,.slice A2 n2 c2,.bool q.neg,.slice A3 n3 c3,.slice A4 n4 c4] 135)).heap.size:=aG.size
 have aZ:=bN.size
 have b0:w7.cell? ⟨g,0,none⟩=some v:=k7.box.cell 0
 have x0:w7.cell? ⟨gx,0,none⟩=some (.bool p.neg):=aQ.cell 0
 have x1:w7.cell? ⟨gx,1,none⟩=some (.slice A1 n1 c1):=aQ.cell 1
 have x2:w7.cell? ⟨gx,2,none⟩=some (.slice A2 n2 c2):=aQ.cell 2
 have y0:w7.cell? ⟨gy,0,none⟩=some (.bool q.neg):=aN.cell 0
 have y1:w7.cell? ⟨gy,1,none⟩=some (.slice A3 n3 c3):=aN.cell 1
 have y2:w7.cell? ⟨gy,2,none⟩=some (.slice A4 n4 c4):=aN.cell 2
 have aD:∀ j u,[Value.bool p.neg,.slice A1 n1 c1,.slice A2 n2 c2,.bool q.neg,.slice A3 n3 c3,.slice A4 n4 c4][j]? = some u→(w7.alloc (.cells #[.bool p.neg,.slice A1 n1 c1,.slice A2 n2 c2,.bool q.neg,.slice A3 n3 c3,.slice A4 n4 c4] 135)).cell? ((⟨w7.heap.size,0,none⟩:Addr).add j)=some u:=fun j u hu=>by
  have e2:(⟨w7.heap.size,0,none⟩:Addr).add j=⟨w7.heap.size,j,none⟩:=by unfold Addr.add;split<;>simp_all
  rw [e2,bQ.cell j]
  simpa using hu
 have cH:=Lib.hid bC
 have cO:=Lib.hid aD
 have aU:=Lib.hid aJ
 have cM:=Lib.hid bU
 have cP:=Lib.hid bO
 have bD:=Lib.hid bI
 have cQ:=hB
 clear bC aD aJ bU bO bI kV hx bG cK bA bQ k7 hst bB bK bT bM aQ aN
 obtain ⟨i0,cI,cN,cF,cG⟩:=info_parts zg8
 go_wp2_with (at_builtin;refine zcn rfl _ _ 131 rfl B 135 i0 _ 6 112 Tryz.underlying131 cI cN cF cG rfl (by decide) (zaW _ _ _ _ _ _ _ _ _ _ _ _ _ _) v n xs rfl aU.out cM.out ⟨w7.heap.size,0,none⟩ 1 1 [Value.bool p.neg,.slice A1 n1 c1,.slice A2 n2 c2,.bool q.neg,.slice A3 n3 c3,.slice A4 n4 c4] (by decide) rfl rfl cO.out ?ca1 ?ca2 ?ca3 ?ca4 ?ca5 ?_)
 case ca1=>exact ⟨rfl,rfl,rfl,rfl,rfl,rfl⟩
 case ca3=>have:=HN.out;unfold maxLen;omega
 case ca4=>have:=HN.out;omega
 case ca5=>have:=HN.out;omega
 intro v' w9 aR aT aL cC
 have aE:v'.ownBlock=v.ownBlock∨v'.ownBlock=some (w7.alloc (.cells #[.bool p.neg,.slice A1 n1 c1,.slice A2 n2 c2,.bool q.neg,.slice A3 n3 c3,.slice A4 n4 c4] 135)).heap.size:=by simpa [Value.ownBlock] using aL
 have bY:=cH.out v' w9 aR aT aE cC
 have aV:=bD.out.grown aT bD.out.lt (fun e=>cP.out e)
 have z0:w9.cell? ⟨g,0,none⟩=some v:=aV.cell 0
 have z1:=aV.frozen 0
 obtain ⟨A9,c9,rfl,_,_,_⟩:=zcE aR
 have cA:=Lib.hid bY
 clear bY aV aR aT aL aE cC
 go_wp2
 go_ret
 exact ⟨rfl,⟨_,cA.out.1⟩,(bN.mono hB1).trans (cA.out.2 B (Nat.le_trans hB1 aZ) (Nat.le_refl _) hB)⟩
set_option maxHeartbeats 4000000 in
set_option maxRecDepth 100000 in
theorem zlX (ii x y:Int) (p q:Q) (X Y:ByteArray) (g B k n:Nat) (v:Value) (ks:List (Q × Q)) (w:World) (hT:Tabs w) (hB1:B≤w.heap.size) (hB:B≤g) (hst:KState w B g n ks v) (HX:Hid (x=0∧y=0)) (HN:Hid (n<64)) (HI:Hid (ii=(n:Int)∧n=k+1∧k<64))
  (o oo:Q) (hk:Hid (ks[k]? = some (o,oo))) (HO:Hid (0<rcmp p o)) (lp:LenQ p 268435456) (lq:LenQ o 268435456)
  (HR1:Hid (∀ W,Tabs W→Calls Tryz.prog 63 #[.string X] W (zay W p x))) (HR2:Hid (∀ W,Tabs W→Calls Tryz.prog 63 #[.string Y] W (zay W q y))) :
  Calls Tryz.prog 158 #[.int .i64 ii,.agg #[.string X,.string Y],.pointer (some ⟨g,0,none⟩)] w fun e w'=>e = .returned (.int .i64 0)∧(∃ v',KState w' B g (n+1) (ks++[(p,q)]) v')∧Below B w w':=by
 obtain ⟨E,hE⟩:∃ E,E=if x≠0 then x else y:=⟨_,rfl⟩
 have HE:=Lib.hid hE
 have dL:(E != 0)=false:=by rw [hE,HX.out.1,HX.out.2];rfl
 have HC:=Lib.hid (fun v u W h1 h2=>zbc p o v u W h1 h2 lp lq)
 obtain ⟨r,hr⟩:∃ r,r=rcmp p o:=⟨_,rfl⟩
 rw [←hr] at HC HO
 have d1:decide (r≤0)=false:=decide_eq_false (by have:=HO.out;omega)
 have d2:decide (0<ii)=true:=decide_eq_true (by have:=HI.out;omega)
 have d3:wrap64 (ii - 1)=(k:Int):=by rw [IntWalk.wrap64_in _ (by have:=HI.out;omega)];have:=HI.out;omega
 have d4:IntKind.i64.wrap (ii - 1)=(k:Int):=by rw [IntWalk.i64_in _ (by have:=HI.out;omega)];have:=HI.out;omega
 have dM:(0:Int)≤(k:Int):=by omega
 have dO:(k:Int)<(n:Int):=by have:=HI.out;omega
 clear hE hr lp lq
 have aU:Below w.heap.size w (w.alloc (.cells #[.string X,.string Y] 70)):=(Below.refl _ _).alloc (Nat.le_refl _) _
 have q0:CBlk (w.alloc (.cells #[.string X,.string Y] 70)) w.heap.size #[.string X,.string Y] 70:=CBlk.new _ _ _ _ rfl
 go_enter Tryz.func158,Tryz.ntmps158
 go_upto_region 1 with (fail)
 generalize (w.alloc (.cells #[.string X,.string Y] 70))=W at *
 have a0:=q0.cell 0
 have a1:=q0.cell 1
 go_wp2_with fail
 refine (HR1.out W (hT.later aU)).mono ?_
 rintro e w2 ⟨v2,rfl,⟨A1,n1,c1,A2,n2,c2,rfl,h1,h2⟩,bI⟩
 have aT:=aU.trans (bI.mono aU.size)
 have bJ:=(q0.below bI q0.lt).alloc (.cells #[.bool p.neg,.slice A1 n1 c1,.slice A2 n2 c2] 91)
 have aC:Below w2.heap.size w2 (w2.alloc (.cells #[.bool p.neg,.slice A1 n1 c1,.slice A2 n2 c2] 91)):=(Below.refl _ _).alloc (Nat.le_refl _) _
 have bF:CBlk (w2.alloc (.cells #[.bool p.neg,.slice A1 n1 c1,.slice A2 n2 c2] 91)) w2.heap.size #[.bool p.neg,.slice A1 n1 c1,.slice A2 n2 c2] 91:=CBlk.new _ _ _ _ rfl
 have aE:=aT.trans (aC.mono aT.size)
 have cP:=h1.later aC
 have bN:=h2.later aC
 have dG:=aT.size
 clear a0 a1 q0 aU bI aT h1 h2 aC
 go_upto_region 2 with (fail)
 generalize (w2.alloc (.cells #[.bool p.neg,.slice A1 n1 c1,.slice A2 n2 c2] 91))=w3 at *
 have a0:=bJ.cell 0
 have a1:=bJ.cell 1
 go_wp2_with fail
 refine (HR2.out w3 (hT.later aE)).mono ?_
 rintro e w4 ⟨v4,rfl,⟨A3,n3,c3,A4,n4,c4,rfl,h3,h4⟩,aR⟩
 have bB:=aE.trans (aR.mono aE.size)
 have cA:=(bF.below aR bF.lt).alloc (.cells #[.bool q.neg,.slice A3 n3 c3,.slice A4 n4 c4] 91)
 have cC:CBlk (w4.alloc (.cells #[.bool q.neg,.slice A3 n3 c3,.slice A4 n4 c4] 91)) w4.heap.size #[.bool q.neg,.slice A3 n3 c3,.slice A4 n4 c4] 91:=CBlk.new _ _ _ _ rfl
 have aC:Below w4.heap.size w4 (w4.alloc (.cells #[.bool q.neg,.slice A3 n3 c3,.slice A4 n4 c4] 91)):=(Below.refl _ _).alloc (Nat.le_refl _) _
 have aL:=bB.trans (aC.mono bB.size)
 have cB:=(cP.later aR).later aC
 have bQ:=(bN.later aR).later aC
 have cQ:=h3.later aC
 have cL:=h4.later aC
 clear a0 a1 bJ bF aE aR bB cP bN h3 h4 aC
 go_upto_region 3 with (fail)
 generalize (w4.alloc (.cells #[.bool q.neg,.slice A3 n3 c3,.slice A4 n4 c4] 91))=w5 at *
 have aS:Below w.heap.size w (w5.alloc (.cells #[.int .i64 x,.int .i64 y] 26)):=aL.alloc aL.size _
 have aQ:Below w5.heap.size w5 (w5.alloc (.cells #[.int .i64 x,.int .i64 y] 26)):=(Below.refl _ _).alloc (Nat.le_refl _) _
 have aN:=cA.alloc (.cells #[.int .i64 x,.int .i64 y] 26)
 have bE:=cC.alloc (.cells #[.int .i64 x,.int .i64 y] 26)
 have bH:=cB.later aQ
 have bG:=bQ.later aQ
 have cW:=cQ.later aQ
 have cZ:=cL.later aQ
 go_wp2_with fail
 refine (zaZ x y E HE.out w5 _ _ rfl).mono ?_
 rintro e w6 ⟨rfl,rfl⟩
 clear cA cC aL aQ cB bQ cQ cL
 generalize (w5.alloc (.cells #[.int .i64 x,.int .i64 y] 26))=w6 at *
 have k6:=hst.later aS
 generalize w2.heap.size=gx at *
 generalize w4.heap.size=gy at *
 obtain ⟨gk,aD,rfl,_,aX,_⟩:∃ gk aD,v = .slice (some ⟨gk,0,none⟩) n aD∧B≤gk∧gk<w6.heap.size∧v.ownBlock=some gk:=by
  rcases k6.kn.form with ⟨_,h⟩ | h
  ·have:=HI.out;omega
  ·exact h
 obtain ⟨K1,m1,e1,K2,m2,e2,K3,m3,e3,K4,m4,e4,aW,r1,r2,_,_⟩:=k6.kn.at_ hk.out
 have y0:w6.cell? ⟨gk,k*6,none⟩=some (.bool o.neg):=aW 0 _ rfl
 have y1:w6.cell? ⟨gk,k*6+1,none⟩=some (.slice K1 m1 e1):=aW 1 _ rfl
 have y2:w6.cell? ⟨gk,k*6+2,none⟩=some (.slice K2 m2 e2):=aW 2 _ rfl
 clear aW
 have aJ:Below w6.heap.size w6 w6.drew:=(Below.refl _ _).drew
 have aH:=Lib.hid (HC.out _ _ w6.drew (RatS.mk (q:=p) (bH.later aJ) (bG.later aJ)) (RatS.mk (q:=o) (r1.later aJ) (r2.later aJ)))
 go_upto_region 6 with (fail)
 have cE:w6.drew.cell? ⟨gx,0,none⟩=some (.bool p.neg):=aN.cell 0
 have cU:w6.drew.cell? ⟨gx,1,none⟩=some (.slice A1 n1 c1):=aN.cell 1
 have cG:w6.drew.cell? ⟨gx,2,none⟩=some (.slice A2 n2 c2):=aN.cell 2
 have cV:w6.drew.cell? ⟨g,0,none⟩=some (.slice (some ⟨gk,0,none⟩) n aD):=k6.box.cell 0
 have aY:w6.drew.cell? ⟨gk,k*6,none⟩=some (.bool o.neg):=y0
 have bM:w6.drew.cell? ⟨gk,k*6+1,none⟩=some (.slice K1 m1 e1):=y1
 have bD:w6.drew.cell? ⟨gk,k*6+2,none⟩=some (.slice K2 m2 e2):=y2
 clear y0 y1 y2
 go_region_held3 (fun w'=>w'.cell? ⟨gx,0,none⟩=some (.bool p.neg)∧w'.cell? ⟨gx,1,none⟩=some (.slice A1 n1 c1)∧w'.cell? ⟨gx,2,none⟩=some (.slice A2 n2 c2)∧w'.cell? ⟨g,0,none⟩=some (.slice (some ⟨gk,0,none⟩) n aD)∧w'.cell? ⟨gk,k*6,none⟩=some (.bool o.neg)∧w'.cell? ⟨gk,k*6+1,none⟩=some (.slice K1 m1 e1)∧w'.cell? ⟨gk,k*6+2,none⟩=some (.slice K2 m2 e2))
  (first | with_reducible exact ⟨cE,cU,cG,cV,aY,bM,bD⟩ | with_reducible exact ⟨bU,bW,cT,bT,cJ,cR,bR⟩)
  (first | (go_at_call 71;refine aH.out.mono ?_;rintro e w7 ⟨rfl,aF⟩;have aM:=aN.drew.below aF aN.lt;have k7:=(k6.later aJ).later aF;have bU:w7.cell? ⟨gx,0,none⟩=some (.bool p.neg):=aM.cell 0;have bW:w7.cell? ⟨gx,1,none⟩=some (.slice A1 n1 c1):=aM.cell 1;have cT:w7.cell? ⟨gx,2,none⟩=some (.slice A2 n2 c2):=aM.cell 2;have bT:w7.cell? ⟨g,0,none⟩=some (.slice (some ⟨gk,0,none⟩) n aD):=k7.box.cell 0;have cJ:w7.cell? ⟨gk,k*6,none⟩=some (.bool o.neg):=(aF.cell aX).trans aY;have cR:w7.cell? ⟨gk,k*6+1,none⟩=some (.slice K1 m1 e1):=(aF.cell aX).trans bM;have bR:w7.cell? ⟨gk,k*6+2,none⟩=some (.slice K2 m2 e2):=(aF.cell aX).trans bD))
 have aA:=aJ.trans (aF.mono aJ.size)
 have bX:=aS.trans (aA.mono aS.size)
 have aV:=bE.drew.below aF bE.lt
 have cO:=bH.later aA
 have bO:=bG.later aA
 have cM:=cW.later aA
 have cK:=cZ.later aA
 clear aJ aF aA aS k6 aN bE bH bG cW cZ bU bW cT bT cJ cR bR cE cU cG cV aY bM bD r1 r2 aH HC aX d1 d2 d3 d4
 obtain ⟨dF,xs,hx,bV⟩:=k7.kn
 have aK:Below w7.heap.size w7 (w7.alloc (.cells #[.bool p.neg,.slice A1 n1 c1,.slice A2 n2 c2,.bool q.neg,.slice A3 n3 c3,.slice A4 n4 c4] 135)):=(Below.refl _ _).alloc (Nat.le_refl _) _
 have kV:=k7.later aK
 have aO:=hx.alloc (.cells #[.bool p.neg,.slice A1 n1 c1,.slice A2 n2 c2,.bool q.neg,.slice A3 n3 c3,.slice A4 n4 c4] 135)
 have bP:CBlk (w7.alloc (.cells #[.bool p.neg,.slice A1 n1 c1,.slice A2 n2 c2,.bool q.neg,.slice A3 n3 c3,.slice A4 n4 c4] 135)) w7.heap.size #[.bool p.neg,.slice A1 n1 c1,.slice A2 n2 c2,.bool q.neg,.slice A3 n3 c3,.slice A4 n4 c4] 135:=CBlk.new _ _ _ _ rfl
 have cF:ItvS (w7.alloc (.cells #[.bool p.neg,.slice A1 n1 c1,.slice A2 n2 c2,.bool q.neg,.slice A3 n3 c3,.slice A4 n4 c4] 135)) (w7.alloc (.cells #[.bool p.neg,.slice A1 n1 c1,.slice A2 n2 c2,.bool q.neg,.slice A3 n3 c3,.slice A4 n4 c4] 135)).heap.size (.agg #[.bool p.neg,.slice A1 n1 c1,.slice A2 n2 c2,.bool q.neg,.slice A3 n3 c3,.slice A4 n4 c4]) p q:=⟨A1,n1,c1,A2,n2,c2,A3,n3,c3,A4,n4,c4,rfl,cO.later aK,bO.later aK,cM.later aK,cK.later aK⟩
 have cH:=fun (v':Value) (V':World) ho hg hat hf=>zfe (W:=w7) (V:=w7.alloc (.cells #[.bool p.neg,.slice A1 n1 c1,.slice A2 n2 c2,.bool q.neg,.slice A3 n3 c3,.slice A4 n4 c4] 135)) (V':=V') (v':=v') (a:=#[.bool p.neg,.slice A1 n1 c1,.slice A2 n2 c2,.bool q.neg,.slice A3 n3 c3,.slice A4 n4 c4]) (p:=p) (q:=q) k7 hx bV aK cF rfl ho hg hat hf
 have bY:=kV.apart
 have cS:=kV.box
 have bZ:=kV.free
 have dA:w7.heap.size≤(w7.alloc (.cells #[.bool p.neg,.slice A1 n1 c1,.slice A2 n2 c2,.bool q.neg,.slice A3 n3 c3,.slice A4 n4 c4] 135)).heap.size:=aK.size
 have bK:=bX.size
 have b0:w7.cell? ⟨g,0,none⟩=some (Value.slice (some ⟨gk,0,none⟩) n aD):=k7.box.cell 0
 have x0:w7.cell? ⟨gx,0,none⟩=some (.bool p.neg):=aM.cell 0
 have x1:w7.cell? ⟨gx,1,none⟩=some (.slice A1 n1 c1):=aM.cell 1
 have x2:w7.cell? ⟨gx,2,none⟩=some (.slice A2 n2 c2):=aM.cell 2
 have y0:w7.cell? ⟨gy,0,none⟩=some (.bool q.neg):=aV.cell 0
 have y1:w7.cell? ⟨gy,1,none⟩=some (.slice A3 n3 c3):=aV.cell 1
 have y2:w7.cell? ⟨gy,2,none⟩=some (.slice A4 n4 c4):=aV.cell 2
 have aI:∀ j u,[Value.bool p.neg,.slice A1 n1 c1,.slice A2 n2 c2,.bool q.neg,.slice A3 n3 c3,.slice A4 n4 c4][j]? = some u→(w7.alloc (.cells #[.bool p.neg,.slice A1 n1 c1,.slice A2 n2 c2,.bool q.neg,.slice A3 n3 c3,.slice A4 n4 c4] 135)).cell? ((⟨w7.heap.size,0,none⟩:Addr).add j)=some u:=fun j u hu=>by
  have e2:(⟨w7.heap.size,0,none⟩:Addr).add j=⟨w7.heap.size,j,none⟩:=by unfold Addr.add;split<;>simp_all
  rw [e2,bP.cell j]
  simpa using hu
 have dE:=Lib.hid cH
 have dB:=Lib.hid aI
 have bL:=Lib.hid aO
 have dK:=Lib.hid bZ
 have dC:=Lib.hid bY
 have cI:=Lib.hid cS
 have dN:=hB
 clear cH aI aO bZ bY cS kV hx bV dF cF bP k7 hst cO bO cM cK aM aV
 obtain ⟨i0,dJ,dH,dI,dD⟩:=info_parts zg8
 go_wp2_with (at_builtin;refine zcn rfl _ _ 131 rfl B 135 i0 _ 6 112 Tryz.underlying131 dJ dH dI dD rfl (by decide) (zaW _ _ _ _ _ _ _ _ _ _ _ _ _ _) (Value.slice (some ⟨gk,0,none⟩) n aD) n xs rfl bL.out dK.out ⟨w7.heap.size,0,none⟩ 1 1 [Value.bool p.neg,.slice A1 n1 c1,.slice A2 n2 c2,.bool q.neg,.slice A3 n3 c3,.slice A4 n4 c4] (by decide) rfl rfl dB.out ?ca1 ?ca2 ?ca3 ?ca4 ?ca5 ?_)
 case ca1=>exact ⟨rfl,rfl,rfl,rfl,rfl,rfl⟩
 case ca3=>have:=HN.out;unfold maxLen;omega
 case ca4=>have:=HN.out;omega
 case ca5=>have:=HN.out;omega
 intro v' w9 aZ bC aP cY
 have aG:v'.ownBlock=(Value.slice (some ⟨gk,0,none⟩) n aD).ownBlock∨v'.ownBlock=some (w7.alloc (.cells #[.bool p.neg,.slice A1 n1 c1,.slice A2 n2 c2,.bool q.neg,.slice A3 n3 c3,.slice A4 n4 c4] 135)).heap.size:=by simpa [Value.ownBlock] using aP
 have cN:=dE.out v' w9 aZ bC aG cY
 have bA:=cI.out.grown bC cI.out.lt (fun e=>dC.out e)
 have z0:w9.cell? ⟨g,0,none⟩=some (Value.slice (some ⟨gk,0,none⟩) n aD):=bA.cell 0
 have z1:=bA.frozen 0
 obtain ⟨A9,c9,rfl,_,_,_⟩:=zcE aZ
 have bS:=Lib.hid cN
 clear cN bA aZ bC aP aG cY
 go_wp2
 go_ret
 exact ⟨rfl,⟨_,bS.out.1⟩,(bX.mono hB1).trans (bS.out.2 B (Nat.le_trans hB1 bK) (Nat.le_refl _) hB)⟩
def PtsR (w:World) (B:Nat) (A:Option Addr) (n:Nat) (C:List (ByteArray × ByteArray)):Prop:=
 C.length=n∧(0<n→∃ ad,A=some ad∧ad.block<B∧∀ i (h:i<C.length),w.cell? ((ad.add (i*2)).add 0)=some (.string C[i].1)∧w.cell? ((ad.add (i*2)).add 1)=some (.string C[i].2))
theorem PtsR.below {w w':World} {B:Nat} {A:Option Addr} {n:Nat} {C:List (ByteArray × ByteArray)} (h:PtsR w B A n C) (hb:Below B w w'):PtsR w' B A n C:=by
 refine ⟨h.1,fun h0 => ?_⟩
 obtain ⟨ad,e,aA,hc⟩:=h.2 h0
 refine ⟨ad,e,aA,fun i hi => ?_⟩
 have hx:∀ p q:Nat,((ad.add p).add q).block<B:=fun p q=>by rw [zbd,zbd];exact aA
 exact ⟨(hb.cell (hx _ _)).trans (hc i hi).1,(hb.cell (hx _ _)).trans (hc i hi).2⟩
theorem PtsR.later {w w':World} {A:Option Addr} {n:Nat} {C:List (ByteArray × ByteArray)} (h:PtsR w w.heap.size A n C) (hb:Below w.heap.size w w'):PtsR w' w'.heap.size A n C:=by
 have h1:=h.below hb
 refine ⟨h1.1,fun h0 => ?_⟩
 obtain ⟨ad,e,aA,hc⟩:=h1.2 h0
 exact ⟨ad,e,Nat.lt_of_lt_of_le aA hb.size,hc⟩
def rdP (p:ByteArray × ByteArray):Q × Q:=(zag p.1.data.toList,zag p.2.data.toList)
def zcG:Option Q→List (ByteArray × ByteArray)→Int
 | _,[]=>0
 | o,p :: t=>if rowE o p.1.data.toList p.2.data.toList≠0 then rowE o p.1.data.toList p.2.data.toList else zcG (some (zag p.1.data.toList)) t
def tabE (l:List (ByteArray × ByteArray)):Int:=if l.length<1 then 12 else if 64<l.length then 5 else zcG none l
def zcH (l:List (ByteArray × ByteArray)) (k:Nat):Option Q:=if k=0 then none else (l[k - 1]?).map fun p=>zag p.1.data.toList
theorem znt (k:Nat) (X Y:ByteArray) (o:Option Q) (g B:Nat) (v:Value) (ks:List (Q × Q)) (w:World) (hT:Tabs w) (hB1:B≤w.heap.size) (hB:B≤g) (hst:KState w B g k ks v) (hk:k<64)
  (ho:(k=0∧o=none)∨∃ j q qq,k=j+1∧o=some q∧ks[j]? = some (q,qq)∧LenQ q 268435456) (hX:X.size≤4294967296) (hY:Y.size≤4294967296) :
  Calls Tryz.prog 158 #[.int .i64 (k:Int),.agg #[.string X,.string Y],.pointer (some ⟨g,0,none⟩)] w fun e w'=>e = .returned (.int .i64 (rowE o X.data.toList Y.data.toList))∧Below B w w' ∧
   ∃ A' m' c',CBlk w' g #[.slice A' m' c'] 131∧(rowE o X.data.toList Y.data.toList=0→KState w' B g (k+1) (ks++[rdP (X,Y)]) (.slice A' m' c')):=by
 have aC:Hid (∀ W,Tabs W→Calls Tryz.prog 63 #[.string X] W (zay W (zag X.data.toList) (zam X.data.toList))):=fun W hT=>zbC X W hT hX
 have aD:Hid (∀ W,Tabs W→Calls Tryz.prog 63 #[.string Y] W (zay W (zag Y.data.toList) (zam Y.data.toList))):=fun W hT=>zbC Y W hT hY
 have aI:∃ A' m' c',v = .slice A' m' c':=by
  rcases hst.kn.form with ⟨e,_⟩ | ⟨gk,aJ,e,_⟩
  ·exact ⟨_,_,_,e⟩
  ·exact ⟨_,_,_,e⟩
 have same:∀ w',Below w.heap.size w w'→∃ A' m' c',CBlk w' g #[.slice A' m' c'] 131:=fun w' hb=>by
  obtain ⟨A',m',c',rfl⟩:=aI
  exact ⟨A',m',c',(hst.later hb).box⟩
 have aE:∀ w',(∃ v',KState w' B g (k+1) (ks++[(zag X.data.toList,zag Y.data.toList)]) v')→∃ A' m' c',CBlk w' g #[.slice A' m' c'] 131∧KState w' B g (k+1) (ks++[rdP (X,Y)]) (.slice A' m' c'):=fun w' ⟨v',h⟩=>by
  rcases h.kn.form with ⟨rfl,_⟩ | ⟨gk,aJ,rfl,_⟩
  ·exact ⟨_,_,_,h.box,h⟩
  ·exact ⟨_,_,_,h.box,h⟩
 by_cases hx:zam X.data.toList=0
 ·by_cases hy:zam Y.data.toList=0
  ·rcases ho with ⟨rfl,rfl⟩ | ⟨j,q,qq,rfl,rfl,hj,aH⟩
   ·have hr:rowE none X.data.toList Y.data.toList=0:=by unfold rowE;rw [if_neg (by omega),if_neg (by omega)]
    rw [hr]
    refine (zkc ((0:Nat):Int) _ _ _ _ X Y g B 0 v ks w hT hB1 hB hst ⟨hx,hy⟩ (show (0:Nat)<64 by omega) rfl aC aD).mono ?_
    rintro e w' ⟨rfl,aG,aA⟩
    obtain ⟨A',m',c',h1,h2⟩:=aE w' aG
    exact ⟨rfl,aA,A',m',c',h1,fun _=>h2⟩
   ·have lp:LenQ (zag X.data.toList) 268435456:=by
     have h9:=@zaB X.data.toList hx
     exact ⟨by omega,by omega⟩
    by_cases hr:rcmp (zag X.data.toList) q≤0
    ·have aF:rowE (some q) X.data.toList Y.data.toList=11:=by unfold rowE;rw [if_neg (by omega),if_neg (by omega)];exact if_pos hr
     rw [aF]
     refine (zkz ((j+1:Nat):Int) _ _ _ _ X Y g B j (j+1) v ks w hT hst ⟨hx,hy⟩ ⟨rfl,rfl,by omega⟩ q qq hj hr lp aH aC aD).mono ?_
     rintro e w' ⟨rfl,aA⟩
     obtain ⟨A',m',c',h1⟩:=same w' aA
     exact ⟨rfl,aA.mono hB1,A',m',c',h1,(fun h=>by omega)⟩
    ·have aF:rowE (some q) X.data.toList Y.data.toList=0:=by unfold rowE;rw [if_neg (by omega),if_neg (by omega)];exact if_neg hr
     rw [aF]
     refine (zlX ((j+1:Nat):Int) _ _ _ _ X Y g B j (j+1) v ks w hT hB1 hB hst ⟨hx,hy⟩ hk ⟨rfl,rfl,by omega⟩ q qq hj (show 0<rcmp (zag X.data.toList) q by omega) lp aH aC aD).mono ?_
     rintro e w' ⟨rfl,aG,aA⟩
     obtain ⟨A',m',c',h1,h2⟩:=aE w' aG
     exact ⟨rfl,aA,A',m',c',h1,fun _=>h2⟩
  ·have hr:rowE o X.data.toList Y.data.toList=zam Y.data.toList:=by unfold rowE;rw [if_neg (by omega),if_pos hy]
   rw [hr]
   refine (zlC (k:Int) _ _ (zam Y.data.toList) _ _ X Y g B k v ks w hT hst (show zam Y.data.toList=if zam X.data.toList≠0 then zam X.data.toList else zam Y.data.toList by rw [if_neg (by omega)]) hy aC aD).mono ?_
   rintro e w' ⟨rfl,aA⟩
   obtain ⟨A',m',c',h1⟩:=same w' aA
   exact ⟨rfl,aA.mono hB1,A',m',c',h1,fun h=>absurd h hy⟩
 ·have hr:rowE o X.data.toList Y.data.toList=zam X.data.toList:=by unfold rowE;rw [if_pos hx]
  rw [hr]
  refine (zlC (k:Int) _ _ (zam X.data.toList) _ _ X Y g B k v ks w hT hst (show zam X.data.toList=if zam X.data.toList≠0 then zam X.data.toList else zam Y.data.toList by rw [if_pos hx]) hx aC aD).mono ?_
  rintro e w' ⟨rfl,aA⟩
  obtain ⟨A',m',c',h1⟩:=same w' aA
  exact ⟨rfl,aA.mono hB1,A',m',c',h1,fun h=>absurd h hx⟩
theorem zlc (args:Array Value) (w:World):(callFunc 158 args).run Tryz.prog w = .ok (.enter 158 args) w:=by kernel_rfl
theorem zjg:(Tryz.prog.info? 70).map (·.size)=some 2:=by kernel_rfl
theorem zfq {P:Program} {ops:Array Oper} {rest:List Oper} {op:Oper} {a:Act} {w:World} {Q:Exit→Act→World→Prop} (hgd:op.guard=none) (ty:TypeId) (x:Operand) (ho:op.op = .load ty x)
  (ad:Addr) (hx:a.eval x = .pointer (some ad)) (cs:List Value) (d:TypeDesc) (hc:∀ j v,cs[j]? = some v→w.cell? (ad.add j)=some v)
  (hu:P.underlying ty=some d) (hd:d.isRow=true) (hi:(P.info? ty).map (·.size)=some cs.length)
  (h:wpList P ops Q rest (a.put op.dst (.agg cs.toArray)) w):wpList P ops Q (op :: rest) a w:=by
 have hl:(loadCells ad cs.length).run P w = .ok cs.toArray w:=run_loadCells_list (P:=P) w ad cs hc
 have hv:(loadVar ty ad).run P w = .ok (.agg cs.toArray) w:=by
  cases hq:P.info? ty with
  | none=>simp [hq] at hi
  | some i=>
   have hs:i.size=cs.length:=by simpa [hq] using hi
   have aA:(isAgg ty).run P w = .ok true w:=by
    unfold isAgg
    rw [Sem.run_bind,run_underlying hu w]
    cases d<;>simp_all
   simp [loadVar,Sem.run_bind,aA,sizeOf,typeInfo,hq,hs,hl]
 refine wpList_plain hgd fun _ hK => ?_
 unfold Oper.wp execOp
 simp only [ho,hx,Instr.loadAt,Instr.sureAddr,Sem.run_bind,Sem.run_pure,Result.andThen_ok,hv]
 exact hK _ _ h
theorem ziP {l:List (ByteArray × ByteArray)} {k:Nat} (h:k<l.length) (he:zcG none l=zcG (zcH l k) (l.drop k)) :
  (rowE (zcH l k) l[k].1.data.toList l[k].2.data.toList≠0→zcG none l=rowE (zcH l k) l[k].1.data.toList l[k].2.data.toList) ∧
  (rowE (zcH l k) l[k].1.data.toList l[k].2.data.toList=0→zcG none l=zcG (zcH l (k+1)) (l.drop (k+1))∧zam l[k].1.data.toList=0):=by
 rw [List.drop_eq_getElem_cons h] at he
 have hc:zcG (zcH l k) (l[k] :: l.drop (k+1))=if rowE (zcH l k) l[k].1.data.toList l[k].2.data.toList≠0 then rowE (zcH l k) l[k].1.data.toList l[k].2.data.toList else zcG (some (zag l[k].1.data.toList)) (l.drop (k+1)):=by
  cases zcH l k<;>rfl
 rw [hc] at he
 constructor
 ·intro h0
  rw [he,if_pos h0]
 ·intro h0
  refine ⟨?_,?_⟩
  ·rw [he,if_neg (by omega)]
   have:zcH l (k+1)=some (zag l[k].1.data.toList):=by
    unfold zcH
    rw [if_neg (by omega),Nat.add_sub_cancel,List.getElem?_eq_getElem h]
    rfl
   rw [this]
  ·unfold rowE at h0
   by_cases hx:zam l[k].1.data.toList=0
   ·exact hx
   ·rw [if_pos hx] at h0
    exact h0
set_option maxHeartbeats 4000000 in
set_option maxRecDepth 100000 in
theorem zje (A:Option Addr) (n c g:Nat) (l:List (ByteArray × ByteArray)) (w0 w:World) (hT:Tabs w0) (hb0:Below w0.heap.size w0 w) (hB:w0.heap.size≤g) (h:PtsR w0 w0.heap.size A n l) (hsz:∀ p ∈ l,p.1.size≤4294967296∧p.2.size≤4294967296)
  (hn1:1≤n) (hn:n≤64) (hst:KState w w0.heap.size g 0 [] (.slice none 0 0)) :
  Calls Tryz.prog 157 #[.slice A n c,.int .i64 1,.int .i64 64,.func (.func 158) #[] #[.pointer (some ⟨g,0,none⟩)]] w fun e w'=>e = .returned (.int .i64 (zcG none l))∧Below w0.heap.size w0 w' ∧
   ∃ A' m' c',CBlk w' g #[.slice A' m' c'] 131∧(zcG none l=0→KState w' w0.heap.size g n (l.map rdP) (.slice A' m' c')):=by
 have bH:=Lib.hid hsz
 have aH:l.length=n:=h.1
 have aJ:=Lib.hid aH
 have bK:decide ((n:Int)<1)=false:=decide_eq_false (by omega)
 have bL:decide ((64:Int)<(n:Int))=false:=decide_eq_false (by omega)
 have eg:=zlc
 obtain ⟨R,hR⟩:∃ R,R=zcG none l:=⟨_,rfl⟩
 have bO:=Lib.hid (show R=zcG (zcH l 0) (l.drop 0) from hR)
 have aP:=Lib.hid hR
 rw [←hR]
 clear hsz aH hR
 go_enter Tryz.func157,Tryz.ntmps157
 go_wp2
 go_loopg [22] n (fun m s W=>∃ k:Nat,k≤n∧s = .int .i64 k∧n - k≤m∧(∃ A' m' c',KState W w0.heap.size g k ((l.take k).map rdP) (.slice A' m' c'))∧Below w0.heap.size w0 W∧zcG none l=zcG (zcH l k) (l.drop k)∧(0<k→∀ p,l[k - 1]? = some p→zam p.1.data.toList=0))
 case atStart=>exact ⟨0,Nat.zero_le _,rfl,by omega,⟨none,0,0,hst⟩,hb0,rfl,(fun h=>absurd h (by omega))⟩
 case round=>
  obtain ⟨k,hk,rfl,hm,⟨A',m',c',aF⟩,aC,aY,aR⟩:=hrel
  have aT:=Lib.hid aY
  have bE:=Lib.hid aR
  clear aY aR
  by_cases h0:k<n
  ·have aG:k<l.length:=by have:=aJ.out;omega
   obtain ⟨ad,rfl,bN,bA⟩:=(h.below aC).2 (by omega)
   obtain ⟨aN,aK⟩:=bA k aG
   have aA:=ziP aG aT.out
   have hs:=bH.out l[k] (List.getElem_mem aG)
   have aM:(l.take (k+1)).map rdP=(l.take k).map rdP++[rdP (l[k].1,l[k].2)]:=by
    rw [List.take_succ_eq_append_getElem aG,List.map_append];rfl
   have bC:l[k]? = some l[k]:=List.getElem?_eq_getElem aG
   have ho:(k=0∧zcH l k=none)∨∃ j q qq,k=j+1∧zcH l k=some q∧((l.take k).map rdP)[j]? = some (q,qq)∧LenQ q 268435456:=by
    rcases Nat.eq_zero_or_pos k with h1 | h1
    ·exact .inl ⟨h1,by unfold zcH;rw [if_pos h1]⟩
    ·have hj:k - 1<l.length:=by omega
     have hz:=bE.out h1 l[k - 1] (List.getElem?_eq_getElem hj)
     refine .inr ⟨k - 1,zag l[k - 1].1.data.toList,zag l[k - 1].2.data.toList,by omega,?_,?_,?_⟩
     ·unfold zcH
      rw [if_neg (by omega),List.getElem?_eq_getElem hj]
      rfl
     ·rw [List.getElem?_map,List.getElem?_take,if_pos (by omega),List.getElem?_eq_getElem hj]
      rfl
     ·have h9:=@zaB _ hz
      exact ⟨by omega,by omega⟩
   generalize l[k]=pt at *
   obtain ⟨X,Y⟩:=pt
   dsimp only at aN aK aA hs aM
   have aX:∀ j v,[Value.string X,Value.string Y][j]? = some v→wr.cell? ((ad.add (k*2)).add j)=some v:=fun j v hj=>by
    match j,hj with
    | 0,hj=>injection hj with hj;subst hj;exact aN
    | 1,hj=>injection hj with hj;subst hj;exact aK
    | j+2,hj=>simp at hj
   have bF:=Lib.hid aX
   have aL:Below wr.heap.size wr (wr.alloc (.cells #[.string X,.string Y] 70)):=(Below.refl _ _).alloc (Nat.le_refl _) _
   have aS:CBlk (wr.alloc (.cells #[.string X,.string Y] 70)) wr.heap.size #[.string X,.string Y] 70:=CBlk.new _ _ _ _ rfl
   have bI:=aC.size
   have aI:=aC.trans (aL.mono bI)
   have aD:=znt k X Y (zcH l k) g w0.heap.size _ _ _ (hT.later aI) aI.size hB (aF.later aL) (by omega) ho hs.1 hs.2
   have aE:=Lib.hid aD
   have aQ:=Lib.hid aA
   have bD:=Lib.hid aM
   have bG:=Lib.hid bC
   have bB:=Lib.hid aS
   have aZ:=Lib.hid aI
   clear aX aN aK aA hs aM bC ho bA aL aS aI aD aF
   go_upto_region 8 with (first
    |(refine zfq rfl 70 (.tmp 25) rfl (ad.add (k*2)) rfl [Value.string X,Value.string Y] _ bF.out Tryz.underlying70 rfl zjg ?_))
   generalize wr.alloc (.cells #[.string X,.string Y] 70)=w3 at *
   have p0:w3.cell? ⟨wr.heap.size,0,none⟩=some (.string X):=bB.out.cell 0
   have p1:w3.cell? ⟨wr.heap.size,1,none⟩=some (.string Y):=bB.out.cell 1
   generalize rowE (zcH l k) X.data.toList Y.data.toList=rr at *
   by_cases hrr:rr=0
   ·subst hrr
    go_wp2_with (go_at_fn 158;refine aE.out.mono ?_;rintro e w4 ⟨rfl,aO,A9,m9,c9,aU,aW⟩)
    go_roundg (n - (k+1))
    case measure=>omega
    case rel=>exact ⟨k+1,by omega,by go_num,Nat.le_refl _,⟨A9,m9,c9,by rw [bD.out];exact aW trivial⟩,aZ.out.trans aO,(aQ.out.2 trivial).1,fun _ p hp=>by
     rw [Nat.add_sub_cancel,bG.out] at hp
     injection hp with hp
     subst hp
     exact (aQ.out.2 trivial).2⟩
   ·have bM:(rr != 0)=true:=by simpa using hrr
    have aV:=Lib.hid (aQ.out.1 hrr)
    have bJ:=Lib.hid hrr
    clear hrr
    go_wp2_with (go_at_fn 158;refine aE.out.mono ?_;rintro e w4 ⟨rfl,aO,A9,m9,c9,aU,aW⟩)
    go_ret
    exact ⟨by rw [aP.out,aV.out];rfl,aZ.out.trans aO,A9,m9,c9,aU,fun h=>absurd (aV.out.symm.trans (aP.out.symm.trans h)) bJ.out⟩
  ·obtain rfl:n=k:=by omega
   have hz:Hid (R=0):=by
    have h9:=aP.out.trans aT.out
    rw [List.drop_eq_nil_of_le (by have:=aJ.out;omega)] at h9
    cases zcH l n<;>exact h9
   rw [List.take_of_length_le (by have:=aJ.out;omega)] at aF
   go_wp2
   go_ret
   exact ⟨by rw [hz.out];rfl,aC,A',m',c',aF.box,fun _=>aF⟩
end Go.Proofs.YteajibbphcfmeaaGreatDoor
