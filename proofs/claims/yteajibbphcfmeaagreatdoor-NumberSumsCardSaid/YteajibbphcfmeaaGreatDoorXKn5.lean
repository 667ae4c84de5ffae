/- Contract of the closure of readTable: a breakpoint that is right. -/
import Derived.Test.YteajibbphcfmeaaGreatDoorXKn
import Derived.Deep.LoopGhost
namespace Go.Proofs.YteajibbphcfmeaaGreatDoor
open Go.RowKit Bn
set_option maxHeartbeats 4000000 in
set_option maxRecDepth 100000 in
theorem zlL (ii x y:Int) (p q:Q) (X Y:ByteArray) (g B n:Nat) (v:Value) (ks:List (Q × Q)) (w:World) (hT:Tabs w) (hB1:B≤w.heap.size) (hB:B≤g) (hst:KState w B g n ks v) (HX:Hid (x=0∧y=0)) (HN:Hid (n<64)) (HI:Hid (ii=0))
  (HR1:Hid (∀ W,Tabs W→Calls Tryz.prog 63 #[.string X] W (zau W p x))) (HR2:Hid (∀ W,Tabs W→Calls Tryz.prog 63 #[.string Y] W (zau W q y))) :
  Calls Tryz.prog 158 #[.int .i64 ii,.agg #[.string X,.string Y],.pointer (some ⟨g,0,none⟩)] w fun e w'=>e = .returned (.int .i64 0)∧(∃ v',KState w' B g (n+1) (ks++[(p,q)]) v')∧Below B w w':=by
 obtain ⟨E,hE⟩:∃ E,E=if x≠0 then x else y:=⟨_,rfl⟩
 have HE:=Lib.hid hE;have cQ:(E != 0)=false:=by rw [hE,HX.out.1,HX.out.2];rfl
 have d2:decide (0<ii)=false:=decide_eq_false (by have:=HI.out;omega);clear hE;have aQ:Below w.heap.size w (w.alloc (.cells #[.string X,.string Y] 70)):=(Below.refl _ _).alloc (Nat.le_refl _) _;have q0:CBlk (w.alloc (.cells #[.string X,.string Y] 70)) w.heap.size #[.string X,.string Y] 70:=CBlk.new _ _ _ _ rfl;go_enter Tryz.func158,Tryz.ntmps158
 go_upto_region 1 with (fail)
 generalize (w.alloc (.cells #[.string X,.string Y] 70))=W at *;have a0:=q0.cell 0;have a1:=q0.cell 1
 go_wp2_with fail
 refine (HR1.out W (hT.later aQ)).mono ?_;rintro e w2 ⟨v2,rfl,⟨A1,n1,c1,A2,n2,c2,rfl,h1,h2⟩,aV⟩;have aP:=aQ.trans (aV.mono aQ.size);have aU:=(q0.below aV q0.lt).alloc (.cells #[.bool p.neg,.slice A1 n1 c1,.slice A2 n2 c2] 91);have aA:Below w2.heap.size w2 (w2.alloc (.cells #[.bool p.neg,.slice A1 n1 c1,.slice A2 n2 c2] 91)):=(Below.refl _ _).alloc (Nat.le_refl _) _;have aT:CBlk (w2.alloc (.cells #[.bool p.neg,.slice A1 n1 c1,.slice A2 n2 c2] 91)) w2.heap.size #[.bool p.neg,.slice A1 n1 c1,.slice A2 n2 c2] 91:=CBlk.new _ _ _ _ rfl;have aC:=aP.trans (aA.mono aP.size);have cB:=h1.later aA;have bV:=h2.later aA;have cM:=aP.size;clear a0 a1 q0 aQ aV aP h1 h2 aA;go_upto_region 2 with (fail)
 generalize (w2.alloc (.cells #[.bool p.neg,.slice A1 n1 c1,.slice A2 n2 c2] 91))=w3 at *;have a0:=aU.cell 0;have a1:=aU.cell 1
 go_wp2_with fail
 refine (HR2.out w3 (hT.later aC)).mono ?_;rintro e w4 ⟨v4,rfl,⟨A3,n3,c3,A4,n4,c4,rfl,h3,h4⟩,aI⟩;have aR:=aC.trans (aI.mono aC.size);have bM:=(aT.below aI aT.lt).alloc (.cells #[.bool q.neg,.slice A3 n3 c3,.slice A4 n4 c4] 91);have bS:CBlk (w4.alloc (.cells #[.bool q.neg,.slice A3 n3 c3,.slice A4 n4 c4] 91)) w4.heap.size #[.bool q.neg,.slice A3 n3 c3,.slice A4 n4 c4] 91:=CBlk.new _ _ _ _ rfl;have aA:Below w4.heap.size w4 (w4.alloc (.cells #[.bool q.neg,.slice A3 n3 c3,.slice A4 n4 c4] 91)):=(Below.refl _ _).alloc (Nat.le_refl _) _;have aF:=aR.trans (aA.mono aR.size);have bJ:=(cB.later aI).later aA;have bQ:=(bV.later aI).later aA;have bI:=h3.later aA;have bD:=h4.later aA;clear a0 a1 aU aT aC aI aR cB bV h3 h4 aA;go_upto_region 3 with (fail)
 generalize (w4.alloc (.cells #[.bool q.neg,.slice A3 n3 c3,.slice A4 n4 c4] 91))=w5 at *;have aO:Below w.heap.size w (w5.alloc (.cells #[.int .i64 x,.int .i64 y] 26)):=aF.alloc aF.size _;have aJ:Below w5.heap.size w5 (w5.alloc (.cells #[.int .i64 x,.int .i64 y] 26)):=(Below.refl _ _).alloc (Nat.le_refl _) _;have bW:=bM.alloc (.cells #[.int .i64 x,.int .i64 y] 26);have bB:=bS.alloc (.cells #[.int .i64 x,.int .i64 y] 26);have bT:=bJ.later aJ;have bL:=bQ.later aJ;have bH:=bI.later aJ;have bA:=bD.later aJ
 go_wp2_with fail
 refine (zaV x y E HE.out w5 _ _ rfl).mono ?_;rintro e w6 ⟨rfl,rfl⟩;clear bM bS aF aJ bJ bQ bI bD;generalize (w5.alloc (.cells #[.int .i64 x,.int .i64 y] 26))=w6 at *;have k6:=hst.later aO;generalize w2.heap.size=gx at *;generalize w4.heap.size=gy at *;go_upto_region 6 with (fail)
 go_region
 have aG:Below w6.heap.size w6 w6.drew:=(Below.refl _ _).drew;have bN:=aO.trans (aG.mono aO.size);have k7:=k6.later aG;have aN:=bW.drew;have aM:=bB.drew;have bR:=bT.later aG;have bZ:=bL.later aG;have bX:=bH.later aG;have bG:=bA.later aG;clear aG aO k6 bW bB bT bL bH bA;generalize w6.drew=w7 at *;obtain ⟨cG,xs,hx,bE⟩:=k7.kn;have aH:Below w7.heap.size w7 (w7.alloc (.cells #[.bool p.neg,.slice A1 n1 c1,.slice A2 n2 c2,.bool q.neg,.slice A3 n3 c3,.slice A4 n4 c4] 135)):=(Below.refl _ _).alloc (Nat.le_refl _) _;have kV:=k7.later aH;have aK:=hx.alloc (.cells #[.bool p.neg,.slice A1 n1 c1,.slice A2 n2 c2,.bool q.neg,.slice A3 n3 c3,.slice A4 n4 c4] 135);have bY:CBlk (w7.alloc (.cells #[.bool p.neg,.slice A1 n1 c1,.slice A2 n2 c2,.bool q.neg,.slice A3 n3 c3,.slice A4 n4 c4] 135)) w7.heap.size #[.bool p.neg,.slice A1 n1 c1,.slice A2 n2 c2,.bool q.neg,.slice A3 n3 c3,.slice A4 n4 c4] 135:=CBlk.new _ _ _ _ rfl;have bU:ItvS (w7.alloc (.cells #[.bool p.neg,.slice A1 n1 c1,.slice A2 n2 c2,.bool q.neg,.slice A3 n3 c3,.slice A4 n4 c4] 135)) (w7.alloc (.cells #[.bool p.neg,.slice A1 n1 c1,.slice A2 n2 c2,.bool q.neg,.slice A3 n3 c3,.slice A4 n4 c4] 135)).heap.size (.agg #[.bool p.neg,.slice A1 n1 c1,.slice A2 n2 c2,.bool q.neg,.slice A3 n3 c3,.slice A4 n4 c4]) p q:=⟨A1,n1,c1,A2,n2,c2,A3,n3,c3,A4,n4,c4,rfl,bR.later aH,bZ.later aH,bX.later aH,bG.later aH⟩;have cC:=fun (v':Value) (V':World) ho hg hat hf=>ze7 (W:=w7) (V:=w7.alloc (.cells #[.bool p.neg,.slice A1 n1 c1,.slice A2 n2 c2,.bool q.neg,.slice A3 n3 c3,.slice A4 n4 c4] 135)) (V':=V') (v':=v') (a:=#[.bool p.neg,.slice A1 n1 c1,.slice A2 n2 c2,.bool q.neg,.slice A3 n3 c3,.slice A4 n4 c4]) (p:=p) (q:=q) k7 hx bE aH bU rfl ho hg hat hf
 have bF:=kV.apart;have cA:=kV.box;have bK:=kV.free;have cH:w7.heap.size≤(w7.alloc (.cells #[.bool p.neg,.slice A1 n1 c1,.slice A2 n2 c2,.bool q.neg,.slice A3 n3 c3,.slice A4 n4 c4] 135)).heap.size:=aH.size;have aZ:=bN.size;have b0:w7.cell? ⟨g,0,none⟩=some v:=k7.box.cell 0;have x0:w7.cell? ⟨gx,0,none⟩=some (.bool p.neg):=aN.cell 0;have x1:w7.cell? ⟨gx,1,none⟩=some (.slice A1 n1 c1):=aN.cell 1;have x2:w7.cell? ⟨gx,2,none⟩=some (.slice A2 n2 c2):=aN.cell 2;have y0:w7.cell? ⟨gy,0,none⟩=some (.bool q.neg):=aM.cell 0;have y1:w7.cell? ⟨gy,1,none⟩=some (.slice A3 n3 c3):=aM.cell 1;have y2:w7.cell? ⟨gy,2,none⟩=some (.slice A4 n4 c4):=aM.cell 2;have aE:∀ j u,[Value.bool p.neg,.slice A1 n1 c1,.slice A2 n2 c2,.bool q.neg,.slice A3 n3 c3,.slice A4 n4 c4][j]? = some u→(w7.alloc (.cells #[.bool p.neg,.slice A1 n1 c1,.slice A2 n2 c2,.bool q.neg,.slice A3 n3 c3,.slice A4 n4 c4] 135)).cell? ((⟨w7.heap.size,0,none⟩:Addr).add j)=some u:=fun j u hu=>by
  have e2:(⟨w7.heap.size,0,none⟩:Addr).add j=⟨w7.heap.size,j,none⟩:=by unfold Addr.add;split<;>simp_all
  rw [e2,bY.cell j]
  simpa using hu
 have cK:=Lib.hid cC;have cL:=Lib.hid aE;have aW:=Lib.hid aK;have cJ:=Lib.hid bK;have cP:=Lib.hid bF;have bP:=Lib.hid cA;have cR:=hB;clear cC aE aK bK bF cA kV hx bE cG bU bY k7 hst bR bZ bX bG aN aM;obtain ⟨i0,cF,cO,cN,cI⟩:=info_parts zhI
 go_wp2_with (at_builtin;refine zcB rfl _ _ 131 rfl B 135 i0 _ 6 112 Tryz.underlying131 cF cO cN cI rfl (by decide) (za3 _ _ _ _ _ _ _ _ _ _ _ _ _ _) v n xs rfl aW.out cJ.out ⟨w7.heap.size,0,none⟩ 1 1 [Value.bool p.neg,.slice A1 n1 c1,.slice A2 n2 c2,.bool q.neg,.slice A3 n3 c3,.slice A4 n4 c4] (by decide) rfl rfl cL.out ?ca1 ?ca2 ?ca3 ?ca4 ?ca5 ?_)
 case ca1=>exact ⟨rfl,rfl,rfl,rfl,rfl,rfl⟩
 case ca3=>have:=HN.out;unfold maxLen;omega
 case ca4=>have:=HN.out;omega
 case ca5=>have:=HN.out;omega
 intro v' w9 aY aX aL bC;have aD:v'.ownBlock=v.ownBlock∨v'.ownBlock=some (w7.alloc (.cells #[.bool p.neg,.slice A1 n1 c1,.slice A2 n2 c2,.bool q.neg,.slice A3 n3 c3,.slice A4 n4 c4] 135)).heap.size:=by simpa [Value.ownBlock] using aL
 have cE:=cK.out v' w9 aY aX aD bC;have aS:=bP.out.grown aX bP.out.lt (fun e=>cP.out e);have z0:w9.cell? ⟨g,0,none⟩=some v:=aS.cell 0;have z1:=aS.frozen 0;obtain ⟨A9,c9,rfl,_,_,_⟩:=zcv aY;have bO:=Lib.hid cE;clear cE aS aY aX aL aD bC;go_wp2
 go_ret;exact ⟨rfl,⟨_,bO.out.1⟩,(bN.mono hB1).trans (bO.out.2 B (Nat.le_trans hB1 aZ) (Nat.le_refl _) hB)⟩
set_option maxHeartbeats 4000000 in
set_option maxRecDepth 100000 in
theorem zmQ (ii x y:Int) (p q:Q) (X Y:ByteArray) (g B k n:Nat) (v:Value) (ks:List (Q × Q)) (w:World) (hT:Tabs w) (hB1:B≤w.heap.size) (hB:B≤g) (hst:KState w B g n ks v) (HX:Hid (x=0∧y=0)) (HN:Hid (n<64)) (HI:Hid (ii=(n:Int)∧n=k+1∧k<64))
  (o oo:Q) (hk:Hid (ks[k]? = some (o,oo))) (HO:Hid (0<rcmp p o)) (lp:LenQ p 268435456) (lq:LenQ o 268435456)
  (HR1:Hid (∀ W,Tabs W→Calls Tryz.prog 63 #[.string X] W (zau W p x))) (HR2:Hid (∀ W,Tabs W→Calls Tryz.prog 63 #[.string Y] W (zau W q y))) :
  Calls Tryz.prog 158 #[.int .i64 ii,.agg #[.string X,.string Y],.pointer (some ⟨g,0,none⟩)] w fun e w'=>e = .returned (.int .i64 0)∧(∃ v',KState w' B g (n+1) (ks++[(p,q)]) v')∧Below B w w':=by
 obtain ⟨E,hE⟩:∃ E,E=if x≠0 then x else y:=⟨_,rfl⟩
 have HE:=Lib.hid hE;have dL:(E != 0)=false:=by rw [hE,HX.out.1,HX.out.2];rfl
 have HC:=Lib.hid (fun v u W h1 h2=>zbe p o v u W h1 h2 lp lq);obtain ⟨r,hr⟩:∃ r,r=rcmp p o:=⟨_,rfl⟩;rw [←hr] at HC HO;have d1:decide (r≤0)=false:=decide_eq_false (by have:=HO.out;omega);have d2:decide (0<ii)=true:=decide_eq_true (by have:=HI.out;omega);have d3:wrap64 (ii - 1)=(k:Int):=by rw [IntWalk.wrap64_in _ (by have:=HI.out;omega)];have:=HI.out;omega
 have d4:IntKind.i64.wrap (ii - 1)=(k:Int):=by rw [IntWalk.i64_in _ (by have:=HI.out;omega)];have:=HI.out;omega
 have dN:(0:Int)≤(k:Int):=by omega
 have dO:(k:Int)<(n:Int):=by have:=HI.out;omega
 clear hE hr lp lq;have aW:Below w.heap.size w (w.alloc (.cells #[.string X,.string Y] 70)):=(Below.refl _ _).alloc (Nat.le_refl _) _;have q0:CBlk (w.alloc (.cells #[.string X,.string Y] 70)) w.heap.size #[.string X,.string Y] 70:=CBlk.new _ _ _ _ rfl;go_enter Tryz.func158,Tryz.ntmps158
 go_upto_region 1 with (fail)
 generalize (w.alloc (.cells #[.string X,.string Y] 70))=W at *;have a0:=q0.cell 0;have a1:=q0.cell 1
 go_wp2_with fail
 refine (HR1.out W (hT.later aW)).mono ?_;rintro e w2 ⟨v2,rfl,⟨A1,n1,c1,A2,n2,c2,rfl,h1,h2⟩,bA⟩;have aV:=aW.trans (bA.mono aW.size);have aZ:=(q0.below bA q0.lt).alloc (.cells #[.bool p.neg,.slice A1 n1 c1,.slice A2 n2 c2] 91);have aC:Below w2.heap.size w2 (w2.alloc (.cells #[.bool p.neg,.slice A1 n1 c1,.slice A2 n2 c2] 91)):=(Below.refl _ _).alloc (Nat.le_refl _) _;have bC:CBlk (w2.alloc (.cells #[.bool p.neg,.slice A1 n1 c1,.slice A2 n2 c2] 91)) w2.heap.size #[.bool p.neg,.slice A1 n1 c1,.slice A2 n2 c2] 91:=CBlk.new _ _ _ _ rfl;have aE:=aV.trans (aC.mono aV.size);have cK:=h1.later aC;have cQ:=h2.later aC;have dE:=aV.size;clear a0 a1 q0 aW bA aV h1 h2 aC;go_upto_region 2 with (fail)
 generalize (w2.alloc (.cells #[.bool p.neg,.slice A1 n1 c1,.slice A2 n2 c2] 91))=w3 at *;have a0:=aZ.cell 0;have a1:=aZ.cell 1
 go_wp2_with fail
 refine (HR2.out w3 (hT.later aE)).mono ?_;rintro e w4 ⟨v4,rfl,⟨A3,n3,c3,A4,n4,c4,rfl,h3,h4⟩,aQ⟩;have bB:=aE.trans (aQ.mono aE.size);have cF:=(bC.below aQ bC.lt).alloc (.cells #[.bool q.neg,.slice A3 n3 c3,.slice A4 n4 c4] 91);have bR:CBlk (w4.alloc (.cells #[.bool q.neg,.slice A3 n3 c3,.slice A4 n4 c4] 91)) w4.heap.size #[.bool q.neg,.slice A3 n3 c3,.slice A4 n4 c4] 91:=CBlk.new _ _ _ _ rfl;have aC:Below w4.heap.size w4 (w4.alloc (.cells #[.bool q.neg,.slice A3 n3 c3,.slice A4 n4 c4] 91)):=(Below.refl _ _).alloc (Nat.le_refl _) _;have aL:=bB.trans (aC.mono bB.size);have cE:=(cK.later aQ).later aC;have cU:=(cQ.later aQ).later aC;have bQ:=h3.later aC;have bY:=h4.later aC;clear a0 a1 aZ bC aE aQ bB cK cQ h3 h4 aC;go_upto_region 3 with (fail)
 generalize (w4.alloc (.cells #[.bool q.neg,.slice A3 n3 c3,.slice A4 n4 c4] 91))=w5 at *;have aX:Below w.heap.size w (w5.alloc (.cells #[.int .i64 x,.int .i64 y] 26)):=aL.alloc aL.size _;have aR:Below w5.heap.size w5 (w5.alloc (.cells #[.int .i64 x,.int .i64 y] 26)):=(Below.refl _ _).alloc (Nat.le_refl _) _;have aN:=cF.alloc (.cells #[.int .i64 x,.int .i64 y] 26);have aY:=bR.alloc (.cells #[.int .i64 x,.int .i64 y] 26);have bH:=cE.later aR;have bD:=cU.later aR;have bP:=bQ.later aR;have cS:=bY.later aR
 go_wp2_with fail
 refine (zaV x y E HE.out w5 _ _ rfl).mono ?_;rintro e w6 ⟨rfl,rfl⟩;clear cF bR aL aR cE cU bQ bY;generalize (w5.alloc (.cells #[.int .i64 x,.int .i64 y] 26))=w6 at *;have k6:=hst.later aX;generalize w2.heap.size=gx at *;generalize w4.heap.size=gy at *;obtain ⟨gk,aD,rfl,_,aU,_⟩:∃ gk aD,v = .slice (some ⟨gk,0,none⟩) n aD∧B≤gk∧gk<w6.heap.size∧v.ownBlock=some gk:=by
  rcases k6.kn.form with ⟨_,h⟩ | h
  ·have:=HI.out;omega
  ·exact h
 obtain ⟨K1,m1,e1,K2,m2,e2,K3,m3,e3,K4,m4,e4,aS,r1,r2,_,_⟩:=k6.kn.at_ hk.out;have y0:w6.cell? ⟨gk,k*6,none⟩=some (.bool o.neg):=aS 0 _ rfl;have y1:w6.cell? ⟨gk,k*6+1,none⟩=some (.slice K1 m1 e1):=aS 1 _ rfl;have y2:w6.cell? ⟨gk,k*6+2,none⟩=some (.slice K2 m2 e2):=aS 2 _ rfl;clear aS;have aI:Below w6.heap.size w6 w6.drew:=(Below.refl _ _).drew;have aJ:=Lib.hid (HC.out _ _ w6.drew (RatS.mk (q:=p) (bH.later aI) (bD.later aI)) (RatS.mk (q:=o) (r1.later aI) (r2.later aI)));go_upto_region 6 with (fail)
 have cB:w6.drew.cell? ⟨gx,0,none⟩=some (.bool p.neg):=aN.cell 0;have bS:w6.drew.cell? ⟨gx,1,none⟩=some (.slice A1 n1 c1):=aN.cell 1;have cA:w6.drew.cell? ⟨gx,2,none⟩=some (.slice A2 n2 c2):=aN.cell 2;have cC:w6.drew.cell? ⟨g,0,none⟩=some (.slice (some ⟨gk,0,none⟩) n aD):=k6.box.cell 0;have bL:w6.drew.cell? ⟨gk,k*6,none⟩=some (.bool o.neg):=y0;have bG:w6.drew.cell? ⟨gk,k*6+1,none⟩=some (.slice K1 m1 e1):=y1;have bJ:w6.drew.cell? ⟨gk,k*6+2,none⟩=some (.slice K2 m2 e2):=y2;clear y0 y1 y2
 go_region_held3 (fun w'=>w'.cell? ⟨gx,0,none⟩=some (.bool p.neg)∧w'.cell? ⟨gx,1,none⟩=some (.slice A1 n1 c1)∧w'.cell? ⟨gx,2,none⟩=some (.slice A2 n2 c2)∧w'.cell? ⟨g,0,none⟩=some (.slice (some ⟨gk,0,none⟩) n aD)∧w'.cell? ⟨gk,k*6,none⟩=some (.bool o.neg)∧w'.cell? ⟨gk,k*6+1,none⟩=some (.slice K1 m1 e1)∧w'.cell? ⟨gk,k*6+2,none⟩=some (.slice K2 m2 e2))
  (first | with_reducible exact ⟨cB,bS,cA,cC,bL,bG,bJ⟩ | with_reducible exact ⟨cM,cN,cT,bW,bZ,cP,cJ⟩)
  (first | (go_at_call 71;refine aJ.out.mono ?_;rintro e w7 ⟨rfl,aH⟩;have aK:=aN.drew.below aH aN.lt;have k7:=(k6.later aI).later aH;have cM:w7.cell? ⟨gx,0,none⟩=some (.bool p.neg):=aK.cell 0;have cN:w7.cell? ⟨gx,1,none⟩=some (.slice A1 n1 c1):=aK.cell 1;have cT:w7.cell? ⟨gx,2,none⟩=some (.slice A2 n2 c2):=aK.cell 2;have bW:w7.cell? ⟨g,0,none⟩=some (.slice (some ⟨gk,0,none⟩) n aD):=k7.box.cell 0;have bZ:w7.cell? ⟨gk,k*6,none⟩=some (.bool o.neg):=(aH.cell aU).trans bL;have cP:w7.cell? ⟨gk,k*6+1,none⟩=some (.slice K1 m1 e1):=(aH.cell aU).trans bG;have cJ:w7.cell? ⟨gk,k*6+2,none⟩=some (.slice K2 m2 e2):=(aH.cell aU).trans bJ))
 have aA:=aI.trans (aH.mono aI.size);have cO:=aX.trans (aA.mono aX.size);have aT:=aY.drew.below aH aY.lt;have cV:=bH.later aA;have cW:=bD.later aA;have bT:=bP.later aA;have cY:=cS.later aA;clear aI aH aA aX k6 aN aY bH bD bP cS cM cN cT bW bZ cP cJ cB bS cA cC bL bG bJ r1 r2 aJ HC aU d1 d2 d3 d4;obtain ⟨dG,xs,hx,bN⟩:=k7.kn;have aM:Below w7.heap.size w7 (w7.alloc (.cells #[.bool p.neg,.slice A1 n1 c1,.slice A2 n2 c2,.bool q.neg,.slice A3 n3 c3,.slice A4 n4 c4] 135)):=(Below.refl _ _).alloc (Nat.le_refl _) _;have kV:=k7.later aM;have aP:=hx.alloc (.cells #[.bool p.neg,.slice A1 n1 c1,.slice A2 n2 c2,.bool q.neg,.slice A3 n3 c3,.slice A4 n4 c4] 135);have bU:CBlk (w7.alloc (.cells #[.bool p.neg,.slice A1 n1 c1,.slice A2 n2 c2,.bool q.neg,.slice A3 n3 c3,.slice A4 n4 c4] 135)) w7.heap.size #[.bool p.neg,.slice A1 n1 c1,.slice A2 n2 c2,.bool q.neg,.slice A3 n3 c3,.slice A4 n4 c4] 135:=CBlk.new _ _ _ _ rfl;have cI:ItvS (w7.alloc (.cells #[.bool p.neg,.slice A1 n1 c1,.slice A2 n2 c2,.bool q.neg,.slice A3 n3 c3,.slice A4 n4 c4] 135)) (w7.alloc (.cells #[.bool p.neg,.slice A1 n1 c1,.slice A2 n2 c2,.bool q.neg,.slice A3 n3 c3,.slice A4 n4 c4] 135)).heap.size (.agg #[.bool p.neg,.slice A1 n1 c1,.slice A2 n2 c2,.bool q.neg,.slice A3 n3 c3,.slice A4 n4 c4]) p q:=⟨A1,n1,c1,A2,n2,c2,A3,n3,c3,A4,n4,c4,rfl,cV.later aM,cW.later aM,bT.later aM,cY.later aM⟩;have cL:=fun (v':Value) (V':World) ho hg hat hf=>ze7 (W:=w7) (V:=w7.alloc (.cells #[.bool p.neg,.slice A1 n1 c1,.slice A2 n2 c2,.bool q.neg,.slice A3 n3 c3,.slice A4 n4 c4] 135)) (V':=V') (v':=v') (a:=#[.bool p.neg,.slice A1 n1 c1,.slice A2 n2 c2,.bool q.neg,.slice A3 n3 c3,.slice A4 n4 c4]) (p:=p) (q:=q) k7 hx bN aM cI rfl ho hg hat hf
 have bO:=kV.apart;have bV:=kV.box;have cR:=kV.free;have dH:w7.heap.size≤(w7.alloc (.cells #[.bool p.neg,.slice A1 n1 c1,.slice A2 n2 c2,.bool q.neg,.slice A3 n3 c3,.slice A4 n4 c4] 135)).heap.size:=aM.size;have bM:=cO.size;have b0:w7.cell? ⟨g,0,none⟩=some (Value.slice (some ⟨gk,0,none⟩) n aD):=k7.box.cell 0;have x0:w7.cell? ⟨gx,0,none⟩=some (.bool p.neg):=aK.cell 0;have x1:w7.cell? ⟨gx,1,none⟩=some (.slice A1 n1 c1):=aK.cell 1;have x2:w7.cell? ⟨gx,2,none⟩=some (.slice A2 n2 c2):=aK.cell 2;have y0:w7.cell? ⟨gy,0,none⟩=some (.bool q.neg):=aT.cell 0;have y1:w7.cell? ⟨gy,1,none⟩=some (.slice A3 n3 c3):=aT.cell 1;have y2:w7.cell? ⟨gy,2,none⟩=some (.slice A4 n4 c4):=aT.cell 2;have aF:∀ j u,[Value.bool p.neg,.slice A1 n1 c1,.slice A2 n2 c2,.bool q.neg,.slice A3 n3 c3,.slice A4 n4 c4][j]? = some u→(w7.alloc (.cells #[.bool p.neg,.slice A1 n1 c1,.slice A2 n2 c2,.bool q.neg,.slice A3 n3 c3,.slice A4 n4 c4] 135)).cell? ((⟨w7.heap.size,0,none⟩:Addr).add j)=some u:=fun j u hu=>by
  have e2:(⟨w7.heap.size,0,none⟩:Addr).add j=⟨w7.heap.size,j,none⟩:=by unfold Addr.add;split<;>simp_all
  rw [e2,bU.cell j]
  simpa using hu
 have dI:=Lib.hid cL;have dA:=Lib.hid aF;have bE:=Lib.hid aP;have dD:=Lib.hid cR;have dC:=Lib.hid bO;have cH:=Lib.hid bV;have dM:=hB;clear cL aF aP cR bO bV kV hx bN dG cI bU k7 hst cV cW bT cY aK aT;obtain ⟨i0,dF,dB,dJ,dK⟩:=info_parts zhI
 go_wp2_with (at_builtin;refine zcB rfl _ _ 131 rfl B 135 i0 _ 6 112 Tryz.underlying131 dF dB dJ dK rfl (by decide) (za3 _ _ _ _ _ _ _ _ _ _ _ _ _ _) (Value.slice (some ⟨gk,0,none⟩) n aD) n xs rfl bE.out dD.out ⟨w7.heap.size,0,none⟩ 1 1 [Value.bool p.neg,.slice A1 n1 c1,.slice A2 n2 c2,.bool q.neg,.slice A3 n3 c3,.slice A4 n4 c4] (by decide) rfl rfl dA.out ?ca1 ?ca2 ?ca3 ?ca4 ?ca5 ?_)
 case ca1=>exact ⟨rfl,rfl,rfl,rfl,rfl,rfl⟩
 case ca3=>have:=HN.out;unfold maxLen;omega
 case ca4=>have:=HN.out;omega
 case ca5=>have:=HN.out;omega
 intro v' w9 bF bI aO bX;have aG:v'.ownBlock=(Value.slice (some ⟨gk,0,none⟩) n aD).ownBlock∨v'.ownBlock=some (w7.alloc (.cells #[.bool p.neg,.slice A1 n1 c1,.slice A2 n2 c2,.bool q.neg,.slice A3 n3 c3,.slice A4 n4 c4] 135)).heap.size:=by simpa [Value.ownBlock] using aO
 have cZ:=dI.out v' w9 bF bI aG bX;have bK:=cH.out.grown bI cH.out.lt (fun e=>dC.out e);have z0:w9.cell? ⟨g,0,none⟩=some (Value.slice (some ⟨gk,0,none⟩) n aD):=bK.cell 0;have z1:=bK.frozen 0;obtain ⟨A9,c9,rfl,_,_,_⟩:=zcv bF;have cG:=Lib.hid cZ;clear cZ bK bF bI aO aG bX;go_wp2
 go_ret;exact ⟨rfl,⟨_,cG.out.1⟩,(cO.mono hB1).trans (cG.out.2 B (Nat.le_trans hB1 bM) (Nat.le_refl _) hB)⟩
def PtsR (w:World) (B:Nat) (A:Option Addr) (n:Nat) (C:List (ByteArray × ByteArray)):Prop:=
 C.length=n∧(0<n→∃ ad,A=some ad∧ad.block<B∧∀ i (h:i<C.length),w.cell? ((ad.add (i*2)).add 0)=some (.string C[i].1)∧w.cell? ((ad.add (i*2)).add 1)=some (.string C[i].2))
theorem PtsR.below {w w':World} {B:Nat} {A:Option Addr} {n:Nat} {C:List (ByteArray × ByteArray)} (h:PtsR w B A n C) (hb:Below B w w'):PtsR w' B A n C:=by
 refine ⟨h.1,fun h0 => ?_⟩;obtain ⟨ad,e,aA,hc⟩:=h.2 h0;refine ⟨ad,e,aA,fun i hi => ?_⟩;have hx:∀ p q:Nat,((ad.add p).add q).block<B:=fun p q=>by rw [zbi,zbi];exact aA
 exact ⟨(hb.cell (hx _ _)).trans (hc i hi).1,(hb.cell (hx _ _)).trans (hc i hi).2⟩
theorem PtsR.later {w w':World} {A:Option Addr} {n:Nat} {C:List (ByteArray × ByteArray)} (h:PtsR w w.heap.size A n C) (hb:Below w.heap.size w w'):PtsR w' w'.heap.size A n C:=by
 have h1:=h.below hb;refine ⟨h1.1,fun h0 => ?_⟩;obtain ⟨ad,e,aA,hc⟩:=h1.2 h0;exact ⟨ad,e,Nat.lt_of_lt_of_le aA hb.size,hc⟩
def rdP (p:ByteArray × ByteArray):Q × Q:=(zab p.1.data.toList,zab p.2.data.toList)
def zcM:Option Q→List (ByteArray × ByteArray)→Int
 | _,[]=>0
 | o,p :: t=>if rowE o p.1.data.toList p.2.data.toList≠0 then rowE o p.1.data.toList p.2.data.toList else zcM (some (zab p.1.data.toList)) t
def tabE (l:List (ByteArray × ByteArray)):Int:=if l.length<1 then 12 else if 64<l.length then 5 else zcM none l
def zcV (l:List (ByteArray × ByteArray)) (k:Nat):Option Q:=if k=0 then none else (l[k - 1]?).map fun p=>zab p.1.data.toList
theorem zoc (k:Nat) (X Y:ByteArray) (o:Option Q) (g B:Nat) (v:Value) (ks:List (Q × Q)) (w:World) (hT:Tabs w) (hB1:B≤w.heap.size) (hB:B≤g) (hst:KState w B g k ks v) (hk:k<64)
  (ho:(k=0∧o=none)∨∃ j q qq,k=j+1∧o=some q∧ks[j]? = some (q,qq)∧LenQ q 268435456) (hX:X.size≤4294967296) (hY:Y.size≤4294967296) :
  Calls Tryz.prog 158 #[.int .i64 (k:Int),.agg #[.string X,.string Y],.pointer (some ⟨g,0,none⟩)] w fun e w'=>e = .returned (.int .i64 (rowE o X.data.toList Y.data.toList))∧Below B w w' ∧
   ∃ A' m' c',CBlk w' g #[.slice A' m' c'] 131∧(rowE o X.data.toList Y.data.toList=0→KState w' B g (k+1) (ks++[rdP (X,Y)]) (.slice A' m' c')):=by
 have aD:Hid (∀ W,Tabs W→Calls Tryz.prog 63 #[.string X] W (zau W (zab X.data.toList) (zae X.data.toList))):=fun W hT=>zbj X W hT hX
 have aE:Hid (∀ W,Tabs W→Calls Tryz.prog 63 #[.string Y] W (zau W (zab Y.data.toList) (zae Y.data.toList))):=fun W hT=>zbj Y W hT hY
 have aI:∃ A' m' c',v = .slice A' m' c':=by
  rcases hst.kn.form with ⟨e,_⟩ | ⟨gk,aJ,e,_⟩
  ·exact ⟨_,_,_,e⟩
  ·exact ⟨_,_,_,e⟩
 have same:∀ w',Below w.heap.size w w'→∃ A' m' c',CBlk w' g #[.slice A' m' c'] 131:=fun w' hb=>by
  obtain ⟨A',m',c',rfl⟩:=aI;exact ⟨A',m',c',(hst.later hb).box⟩
 have aC:∀ w',(∃ v',KState w' B g (k+1) (ks++[(zab X.data.toList,zab Y.data.toList)]) v')→∃ A' m' c',CBlk w' g #[.slice A' m' c'] 131∧KState w' B g (k+1) (ks++[rdP (X,Y)]) (.slice A' m' c'):=fun w' ⟨v',h⟩=>by
  rcases h.kn.form with ⟨rfl,_⟩ | ⟨gk,aJ,rfl,_⟩
  ·exact ⟨_,_,_,h.box,h⟩
  ·exact ⟨_,_,_,h.box,h⟩
 by_cases hx:zae X.data.toList=0
 ·by_cases hy:zae Y.data.toList=0
  ·rcases ho with ⟨rfl,rfl⟩ | ⟨j,q,qq,rfl,rfl,hj,aH⟩
   ·have hr:rowE none X.data.toList Y.data.toList=0:=by unfold rowE;rw [if_neg (by omega),if_neg (by omega)]
    rw [hr];refine (zlL ((0:Nat):Int) _ _ _ _ X Y g B 0 v ks w hT hB1 hB hst ⟨hx,hy⟩ (show (0:Nat)<64 by omega) rfl aD aE).mono ?_;rintro e w' ⟨rfl,aF,aA⟩;obtain ⟨A',m',c',h1,h2⟩:=aC w' aF;exact ⟨rfl,aA,A',m',c',h1,fun _=>h2⟩
   ·have lp:LenQ (zab X.data.toList) 268435456:=by
     have h9:=@zam X.data.toList hx;exact ⟨by omega,by omega⟩
    by_cases hr:rcmp (zab X.data.toList) q≤0
    ·have aG:rowE (some q) X.data.toList Y.data.toList=11:=by unfold rowE;rw [if_neg (by omega),if_neg (by omega)];exact if_pos hr
     rw [aG];refine (zkL ((j+1:Nat):Int) _ _ _ _ X Y g B j (j+1) v ks w hT hst ⟨hx,hy⟩ ⟨rfl,rfl,by omega⟩ q qq hj hr lp aH aD aE).mono ?_;rintro e w' ⟨rfl,aA⟩;obtain ⟨A',m',c',h1⟩:=same w' aA;exact ⟨rfl,aA.mono hB1,A',m',c',h1,(fun h=>by omega)⟩
    ·have aG:rowE (some q) X.data.toList Y.data.toList=0:=by unfold rowE;rw [if_neg (by omega),if_neg (by omega)];exact if_neg hr
     rw [aG];refine (zmQ ((j+1:Nat):Int) _ _ _ _ X Y g B j (j+1) v ks w hT hB1 hB hst ⟨hx,hy⟩ hk ⟨rfl,rfl,by omega⟩ q qq hj (show 0<rcmp (zab X.data.toList) q by omega) lp aH aD aE).mono ?_;rintro e w' ⟨rfl,aF,aA⟩;obtain ⟨A',m',c',h1,h2⟩:=aC w' aF;exact ⟨rfl,aA,A',m',c',h1,fun _=>h2⟩
  ·have hr:rowE o X.data.toList Y.data.toList=zae Y.data.toList:=by unfold rowE;rw [if_neg (by omega),if_pos hy]
   rw [hr];refine (zkt (k:Int) _ _ (zae Y.data.toList) _ _ X Y g B k v ks w hT hst (show zae Y.data.toList=if zae X.data.toList≠0 then zae X.data.toList else zae Y.data.toList by rw [if_neg (by omega)]) hy aD aE).mono ?_
   rintro e w' ⟨rfl,aA⟩;obtain ⟨A',m',c',h1⟩:=same w' aA;exact ⟨rfl,aA.mono hB1,A',m',c',h1,fun h=>absurd h hy⟩
 ·have hr:rowE o X.data.toList Y.data.toList=zae X.data.toList:=by unfold rowE;rw [if_pos hx]
  rw [hr];refine (zkt (k:Int) _ _ (zae X.data.toList) _ _ X Y g B k v ks w hT hst (show zae X.data.toList=if zae X.data.toList≠0 then zae X.data.toList else zae Y.data.toList by rw [if_pos hx]) hx aD aE).mono ?_
  rintro e w' ⟨rfl,aA⟩;obtain ⟨A',m',c',h1⟩:=same w' aA;exact ⟨rfl,aA.mono hB1,A',m',c',h1,fun h=>absurd h hx⟩
theorem zlI (args:Array Value) (w:World):(callFunc 158 args).run Tryz.prog w = .ok (.enter 158 args) w:=by kernel_rfl
theorem zjj:(Tryz.prog.info? 70).map (·.size)=some 2:=by kernel_rfl
theorem zeY {P:Program} {ops:Array Oper} {rest:List Oper} {op:Oper} {a:Act} {w:World} {Q:Exit→Act→World→Prop} (hgd:op.guard=none) (ty:TypeId) (x:Operand) (ho:op.op = .load ty x)
  (ad:Addr) (hx:a.eval x = .pointer (some ad)) (cs:List Value) (d:TypeDesc) (hc:∀ j v,cs[j]? = some v→w.cell? (ad.add j)=some v)
  (hu:P.underlying ty=some d) (hd:d.isRow=true) (hi:(P.info? ty).map (·.size)=some cs.length)
  (h:wpList P ops Q rest (a.put op.dst (.agg cs.toArray)) w):wpList P ops Q (op :: rest) a w:=by
 have hl:(loadCells ad cs.length).run P w = .ok cs.toArray w:=run_loadCells_list (P:=P) w ad cs hc;have hv:(loadVar ty ad).run P w = .ok (.agg cs.toArray) w:=by
  cases hq:P.info? ty with
  | none=>simp [hq] at hi
  | some i=>
   have hs:i.size=cs.length:=by simpa [hq] using hi
   have aA:(isAgg ty).run P w = .ok true w:=by
    unfold isAgg;rw [Sem.run_bind,run_underlying hu w]
    cases d<;>simp_all
   simp [loadVar,Sem.run_bind,aA,sizeOf,typeInfo,hq,hs,hl]
 refine wpList_plain hgd fun _ hK => ?_
 unfold Oper.wp execOp;simp only [ho,hx,Instr.loadAt,Instr.sureAddr,Sem.run_bind,Sem.run_pure,Result.andThen_ok,hv]
 exact hK _ _ h
theorem zj2 {l:List (ByteArray × ByteArray)} {k:Nat} (h:k<l.length) (he:zcM none l=zcM (zcV l k) (l.drop k)) :
  (rowE (zcV l k) l[k].1.data.toList l[k].2.data.toList≠0→zcM none l=rowE (zcV l k) l[k].1.data.toList l[k].2.data.toList) ∧
  (rowE (zcV l k) l[k].1.data.toList l[k].2.data.toList=0→zcM none l=zcM (zcV l (k+1)) (l.drop (k+1))∧zae l[k].1.data.toList=0):=by
 rw [List.drop_eq_getElem_cons h] at he;have hc:zcM (zcV l k) (l[k] :: l.drop (k+1))=if rowE (zcV l k) l[k].1.data.toList l[k].2.data.toList≠0 then rowE (zcV l k) l[k].1.data.toList l[k].2.data.toList else zcM (some (zab l[k].1.data.toList)) (l.drop (k+1)):=by
  cases zcV l k<;>rfl
 rw [hc] at he
 constructor
 ·intro h0
  rw [he,if_pos h0]
 ·intro h0
  refine ⟨?_,?_⟩
  ·rw [he,if_neg (by omega)]
   have:zcV l (k+1)=some (zab l[k].1.data.toList):=by
    unfold zcV;rw [if_neg (by omega),Nat.add_sub_cancel,List.getElem?_eq_getElem h];rfl
   rw [this]
  ·unfold rowE at h0
   by_cases hx:zae l[k].1.data.toList=0
   ·exact hx
   ·rw [if_pos hx] at h0
    exact h0
set_option maxHeartbeats 4000000 in
set_option maxRecDepth 100000 in
theorem zj0 (A:Option Addr) (n c g:Nat) (l:List (ByteArray × ByteArray)) (w0 w:World) (hT:Tabs w0) (hb0:Below w0.heap.size w0 w) (hB:w0.heap.size≤g) (h:PtsR w0 w0.heap.size A n l) (hsz:∀ p ∈ l,p.1.size≤4294967296∧p.2.size≤4294967296)
  (hn1:1≤n) (hn:n≤64) (hst:KState w w0.heap.size g 0 [] (.slice none 0 0)) :
  Calls Tryz.prog 157 #[.slice A n c,.int .i64 1,.int .i64 64,.func (.func 158) #[] #[.pointer (some ⟨g,0,none⟩)]] w fun e w'=>e = .returned (.int .i64 (zcM none l))∧Below w0.heap.size w0 w' ∧
   ∃ A' m' c',CBlk w' g #[.slice A' m' c'] 131∧(zcM none l=0→KState w' w0.heap.size g n (l.map rdP) (.slice A' m' c')):=by
 have bD:=Lib.hid hsz;have aG:l.length=n:=h.1;have aQ:=Lib.hid aG;have bK:decide ((n:Int)<1)=false:=decide_eq_false (by omega);have bN:decide ((64:Int)<(n:Int))=false:=decide_eq_false (by omega);have eg:=zlI;obtain ⟨R,hR⟩:∃ R,R=zcM none l:=⟨_,rfl⟩;have bL:=Lib.hid (show R=zcM (zcV l 0) (l.drop 0) from hR);have aO:=Lib.hid hR;rw [←hR];clear hsz aG hR;go_enter Tryz.func157,Tryz.ntmps157
 go_wp2
 go_loopg [22] n (fun m s W=>∃ k:Nat,k≤n∧s = .int .i64 k∧n - k≤m∧(∃ A' m' c',KState W w0.heap.size g k ((l.take k).map rdP) (.slice A' m' c'))∧Below w0.heap.size w0 W∧zcM none l=zcM (zcV l k) (l.drop k)∧(0<k→∀ p,l[k - 1]? = some p→zae p.1.data.toList=0))
 case atStart=>exact ⟨0,Nat.zero_le _,rfl,by omega,⟨none,0,0,hst⟩,hb0,rfl,(fun h=>absurd h (by omega))⟩
 case round=>
  obtain ⟨k,hk,rfl,hm,⟨A',m',c',aF⟩,aC,aY,bA⟩:=hrel;have aW:=Lib.hid aY;have bJ:=Lib.hid bA;clear aY bA
  by_cases h0:k<n
  ·have aH:k<l.length:=by have:=aQ.out;omega
   obtain ⟨ad,rfl,bM,aU⟩:=(h.below aC).2 (by omega);obtain ⟨aP,aN⟩:=aU k aH;have aA:=zj2 aH aW.out;have hs:=bD.out l[k] (List.getElem_mem aH);have aL:(l.take (k+1)).map rdP=(l.take k).map rdP++[rdP (l[k].1,l[k].2)]:=by
    rw [List.take_succ_eq_append_getElem aH,List.map_append];rfl
   have aT:l[k]? = some l[k]:=List.getElem?_eq_getElem aH;have ho:(k=0∧zcV l k=none)∨∃ j q qq,k=j+1∧zcV l k=some q∧((l.take k).map rdP)[j]? = some (q,qq)∧LenQ q 268435456:=by
    rcases Nat.eq_zero_or_pos k with h1 | h1
    ·exact .inl ⟨h1,by unfold zcV;rw [if_pos h1]⟩
    ·have hj:k - 1<l.length:=by omega
     have hz:=bJ.out h1 l[k - 1] (List.getElem?_eq_getElem hj);refine .inr ⟨k - 1,zab l[k - 1].1.data.toList,zab l[k - 1].2.data.toList,by omega,?_,?_,?_⟩
     ·unfold zcV
      rw [if_neg (by omega),List.getElem?_eq_getElem hj];rfl
     ·rw [List.getElem?_map,List.getElem?_take,if_pos (by omega),List.getElem?_eq_getElem hj]
      rfl
     ·have h9:=@zam _ hz
      exact ⟨by omega,by omega⟩
   generalize l[k]=pt at *;obtain ⟨X,Y⟩:=pt
   dsimp only at aP aN aA hs aL
   have bC:∀ j v,[Value.string X,Value.string Y][j]? = some v→wr.cell? ((ad.add (k*2)).add j)=some v:=fun j v hj=>by
    match j,hj with
    | 0,hj=>injection hj with hj;subst hj;exact aP
    | 1,hj=>injection hj with hj;subst hj;exact aN
    | j+2,hj=>simp at hj
   have bG:=Lib.hid bC;have aM:Below wr.heap.size wr (wr.alloc (.cells #[.string X,.string Y] 70)):=(Below.refl _ _).alloc (Nat.le_refl _) _;have aS:CBlk (wr.alloc (.cells #[.string X,.string Y] 70)) wr.heap.size #[.string X,.string Y] 70:=CBlk.new _ _ _ _ rfl;have bE:=aC.size;have aI:=aC.trans (aM.mono bE);have aE:=zoc k X Y (zcV l k) g w0.heap.size _ _ _ (hT.later aI) aI.size hB (aF.later aM) (by omega) ho hs.1 hs.2;have aD:=Lib.hid aE;have aJ:=Lib.hid aA;have bF:=Lib.hid aL;have bI:=Lib.hid aT;have aX:=Lib.hid aS;have aV:=Lib.hid aI;clear bC aP aN aA hs aL aT ho aU aM aS aI aE aF;go_upto_region 8 with (first
    |(refine zeY rfl 70 (.tmp 25) rfl (ad.add (k*2)) rfl [Value.string X,Value.string Y] _ bG.out Tryz.underlying70 rfl zjj ?_))
   generalize wr.alloc (.cells #[.string X,.string Y] 70)=w3 at *;have p0:w3.cell? ⟨wr.heap.size,0,none⟩=some (.string X):=aX.out.cell 0;have p1:w3.cell? ⟨wr.heap.size,1,none⟩=some (.string Y):=aX.out.cell 1;generalize rowE (zcV l k) X.data.toList Y.data.toList=rr at *
   by_cases hrr:rr=0
   ·subst hrr
    go_wp2_with (go_at_fn 158;refine aD.out.mono ?_;rintro e w4 ⟨rfl,aK,A9,m9,c9,aZ,bB⟩)
    go_roundg (n - (k+1))
    case measure=>omega
    case rel=>exact ⟨k+1,by omega,by go_num,Nat.le_refl _,⟨A9,m9,c9,by rw [bF.out];exact bB trivial⟩,aV.out.trans aK,(aJ.out.2 trivial).1,fun _ p hp=>by
     rw [Nat.add_sub_cancel,bI.out] at hp;injection hp with hp
     subst hp;exact (aJ.out.2 trivial).2⟩
   ·have bO:(rr != 0)=true:=by simpa using hrr
    have aR:=Lib.hid (aJ.out.1 hrr);have bH:=Lib.hid hrr;clear hrr
    go_wp2_with (go_at_fn 158;refine aD.out.mono ?_;rintro e w4 ⟨rfl,aK,A9,m9,c9,aZ,bB⟩)
    go_ret;exact ⟨by rw [aO.out,aR.out];rfl,aV.out.trans aK,A9,m9,c9,aZ,fun h=>absurd (aR.out.symm.trans (aO.out.symm.trans h)) bH.out⟩
  ·obtain rfl:n=k:=by omega
   have hz:Hid (R=0):=by
    have h9:=aO.out.trans aW.out;rw [List.drop_eq_nil_of_le (by have:=aQ.out;omega)] at h9
    cases zcV l n<;>exact h9
   rw [List.take_of_length_le (by have:=aQ.out;omega)] at aF;go_wp2
   go_ret;exact ⟨by rw [hz.out];rfl,aC,A',m',c',aF.box,fun _=>aF⟩
set_option maxHeartbeats 2000000 in
set_option maxRecDepth 100000 in
theorem zid (A:Option Addr) (n c g:Nat) (l:List (ByteArray × ByteArray)) (w0 w:World) (hT:Tabs w0) (hb0:Below w0.heap.size w0 w) (hB:w0.heap.size≤g) (h:PtsR w0 w0.heap.size A n l) (hsz:∀ p ∈ l,p.1.size≤4294967296∧p.2.size≤4294967296)
  (hst:KState w w0.heap.size g 0 [] (.slice none 0 0)) :
  Calls Tryz.prog 157 #[.slice A n c,.int .i64 1,.int .i64 64,.func (.func 158) #[] #[.pointer (some ⟨g,0,none⟩)]] w fun e w'=>e = .returned (.int .i64 (tabE l))∧Below w0.heap.size w0 w' ∧
   ∃ A' m' c',CBlk w' g #[.slice A' m' c'] 131∧(tabE l=0→KState w' w0.heap.size g n (l.map rdP) (.slice A' m' c')):=by
 have aA:l.length=n:=h.1
 by_cases h1:n<1
 ·have e:tabE l=12:=by unfold tabE;rw [if_pos (by omega)]
  rw [e];have aD:decide ((n:Int)<1)=true:=decide_eq_true (by omega);have aC:=Lib.hid hst.box;clear e aA h1 h hst hsz hT;go_enter Tryz.func157,Tryz.ntmps157
  go_wp2
  go_ret;exact ⟨rfl,hb0,none,0,0,aC.out,(fun h=>by omega)⟩
 ·by_cases h2:64<n
  ·have e:tabE l=5:=by unfold tabE;rw [if_neg (by omega),if_pos (by omega)]
   rw [e];have aD:decide ((n:Int)<1)=false:=decide_eq_false (by omega);have aE:decide ((64:Int)<(n:Int))=true:=decide_eq_true (by omega);have aC:=Lib.hid hst.box;clear e aA h1 h2 h hst hsz hT;go_enter Tryz.func157,Tryz.ntmps157
   go_wp2
   go_ret;exact ⟨rfl,hb0,none,0,0,aC.out,(fun h=>by omega)⟩
  ·have e:tabE l=zcM none l:=by unfold tabE;rw [if_neg (by omega),if_neg (by omega)]
   rw [e];exact zj0 A n c g l w0 w hT hb0 hB h hsz (by omega) (by omega) hst
set_option maxHeartbeats 2000000 in
set_option maxRecDepth 100000 in
theorem zgp (A:Option Addr) (n c:Nat) (l:List (ByteArray × ByteArray)) (w:World) (hT:Tabs w) (h:PtsR w w.heap.size A n l) (hsz:∀ p ∈ l,p.1.size≤4294967296∧p.2.size≤4294967296) :
  Calls Tryz.prog 108 #[.slice A n c] w fun e w'=>(∃ A' m' c',e = .returned (.tuple #[.slice A' m' c',.int .i64 (tabE l)])∧(tabE l=0→zcL w' w.heap.size (.slice A' m' c') n (l.map rdP)))∧Below w.heap.size w w':=by
 have aC:Below w.heap.size w (w.alloc (.cells #[.slice none 0 0] 131)):=(Below.refl _ _).alloc (Nat.le_refl _) _;have q:CBlk (w.alloc (.cells #[.slice none 0 0] 131)) w.heap.size #[.slice none 0 0] 131:=CBlk.new _ _ _ _ rfl;have HL:=Lib.hid (zid A n c w.heap.size l w _ hT aC (Nat.le_refl _) h hsz ⟨q,zcL.nil _ _,Free.nil _⟩);generalize tabE l=E at *;clear q h hsz aC;go_enter Tryz.func108,Tryz.ntmps108
 go_wp2_with fail
 refine HL.out.mono ?_;rintro e w2 ⟨rfl,aD,A',m',c',aA,hk⟩;have b0:w2.cell? ⟨w.heap.size,0,none⟩=some (.slice A' m' c'):=aA.cell 0;have HK:=Lib.hid hk;clear hk aA
 go_wp2_with fail
 go_ret2
 exact ⟨⟨A',m',c',rfl,fun h=>(HK.out h).kn⟩,aD⟩
end Go.Proofs.YteajibbphcfmeaaGreatDoor
