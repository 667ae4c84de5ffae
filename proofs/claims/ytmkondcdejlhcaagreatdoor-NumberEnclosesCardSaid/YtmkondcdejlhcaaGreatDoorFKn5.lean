/- Contract of the closure of readTable: a breakpoint that is right. -/
import Derived.Test.YtmkondcdejlhcaaGreatDoorFKn
set_option maxRecDepth 100000
set_option maxHeartbeats 4000000
namespace Go.Proofs.YtmkondcdejlhcaaGreatDoor
open Go.RowKit Bn
theorem zlx(ii x y:Int)(p q:Q)(X Y:ByteArray)(g B n:Nat)(v:Value)(ks:List (Q × Q))(w:World)(hT:Tabs w)(hB1:B≤w.heap.size)(hB:B≤g)(hst:KState w B g n ks v)(HX:Hid (x=0∧y=0))(HN:Hid (n<64))(HI:Hid (ii=0))
 (HR1:Hid (∀ W,Tabs W→Calls Tryz.prog 62 #[.string X] W (zaz W p x)))(HR2:Hid (∀ W,Tabs W→Calls Tryz.prog 62 #[.string Y] W (zaz W q y))) :
  Calls Tryz.prog 145 #[.int .i64 ii,.agg #[.string X,.string Y],.pointer (some ⟨g,0,none⟩)] w fun e w'=>e = .returned (.int .i64 0)∧(∃ v',KState w' B g (n+1) (ks++[(p,q)]) v')∧Below B w w':=by
 obtain⟨E,hE⟩:∃ E,E=if x≠0 then x else y:=⟨_,rfl⟩
 have HE:=Aa hE;have cQ:(E != 0)=false:=by rw[hE,HX.out.1,HX.out.2];rfl
 have d2:decide (0<ii)=false:=decide_eq_false (by have:=HI.out;omega);clear hE;have aO:Below w.heap.size w (w.alloc (.cells #[.string X,.string Y] 57)):=Ac;have q0:CBlk (w.alloc (.cells #[.string X,.string Y] 57)) w.heap.size #[.string X,.string Y] 57:=CBlk.new _ _ _ _ rfl;go_enter Tryz.func145,Tryz.ntmps145
 go_upto_region 1 with(fail)
 generalize (w.alloc (.cells #[.string X,.string Y] 57))=W at *;have a0:=q0.cell 0;have a1:=q0.cell 1
 go_wp2_with fail
 refine(HR1.out W (hT.later aO)).mono ?_;rintro e w2 ⟨v2,rfl,⟨A1,n1,c1,A2,n2,c2,rfl,h1,h2⟩,aZ⟩;have aP:=Ad aO aZ;have aS:=(q0.below aZ q0.lt).alloc (.cells #[.bool p.neg,.slice A1 n1 c1,.slice A2 n2 c2] 91);have aA:Below w2.heap.size w2 (w2.alloc (.cells #[.bool p.neg,.slice A1 n1 c1,.slice A2 n2 c2] 91)):=Ac;have aX:CBlk (w2.alloc (.cells #[.bool p.neg,.slice A1 n1 c1,.slice A2 n2 c2] 91)) w2.heap.size #[.bool p.neg,.slice A1 n1 c1,.slice A2 n2 c2] 91:=CBlk.new _ _ _ _ rfl;have aC:=Ad aP aA;have bM:=h1.later aA;have bK:=h2.later aA;have cI:=aP.size;clear a0 a1 q0 aO aZ aP h1 h2 aA;go_upto_region 2 with(fail)
 generalize (w2.alloc (.cells #[.bool p.neg,.slice A1 n1 c1,.slice A2 n2 c2] 91))=w3 at *;have a0:=aS.cell 0;have a1:=aS.cell 1
 go_wp2_with fail
 refine(HR2.out w3 (hT.later aC)).mono ?_;rintro e w4 ⟨v4,rfl,⟨A3,n3,c3,A4,n4,c4,rfl,h3,h4⟩,aI⟩;have aW:=Ad aC aI;have bS:=(aX.below aI aX.lt).alloc (.cells #[.bool q.neg,.slice A3 n3 c3,.slice A4 n4 c4] 91);have bI:CBlk (w4.alloc (.cells #[.bool q.neg,.slice A3 n3 c3,.slice A4 n4 c4] 91)) w4.heap.size #[.bool q.neg,.slice A3 n3 c3,.slice A4 n4 c4] 91:=CBlk.new _ _ _ _ rfl;have aA:Below w4.heap.size w4 (w4.alloc (.cells #[.bool q.neg,.slice A3 n3 c3,.slice A4 n4 c4] 91)):=Ac;have aF:=Ad aW aA;have bL:=(bM.later aI).later aA;have bV:=(bK.later aI).later aA;have bA:=h3.later aA;have bN:=h4.later aA;clear a0 a1 aS aX aC aI aW bM bK h3 h4 aA;go_upto_region 3 with(fail)
 generalize (w4.alloc (.cells #[.bool q.neg,.slice A3 n3 c3,.slice A4 n4 c4] 91))=w5 at *;have aN:Below w.heap.size w (w5.alloc (.cells #[.int .i64 x,.int .i64 y] 26)):=aF.alloc aF.size _;have aJ:Below w5.heap.size w5 (w5.alloc (.cells #[.int .i64 x,.int .i64 y] 26)):=Ac;have bP:=bS.alloc (.cells #[.int .i64 x,.int .i64 y] 26);have bH:=bI.alloc (.cells #[.int .i64 x,.int .i64 y] 26);have bF:=bL.later aJ;have bQ:=bV.later aJ;have bO:=bA.later aJ;have bD:=bN.later aJ
 go_wp2_with fail
 refine(za7 x y E HE.out w5 _ _ rfl).mono ?_;rintro e w6 ⟨rfl,rfl⟩;clear bS bI aF aJ bL bV bA bN;generalize (w5.alloc (.cells #[.int .i64 x,.int .i64 y] 26))=w6 at *;have k6:=hst.later aN;generalize w2.heap.size=gx at *;generalize w4.heap.size=gy at *;go_upto_region 6 with(fail)
 go_region
 have aH:Below w6.heap.size w6 w6.drew:=(Below.refl _ _).drew;have bT:=Ad aN aH;have k7:=k6.later aH;have aM:=bP.drew;have aQ:=bH.drew;have bB:=bF.later aH;have bC:=bQ.later aH;have bX:=bO.later aH;have bW:=bD.later aH;clear aH aN k6 bP bH bF bQ bO bD;generalize w6.drew=w7 at *;obtain⟨cM,xs,hx,cA⟩:=k7.kn;have aG:Below w7.heap.size w7 (w7.alloc (.cells #[.bool p.neg,.slice A1 n1 c1,.slice A2 n2 c2,.bool q.neg,.slice A3 n3 c3,.slice A4 n4 c4] 121)):=Ac;have kV:=k7.later aG;have aL:=hx.alloc (.cells #[.bool p.neg,.slice A1 n1 c1,.slice A2 n2 c2,.bool q.neg,.slice A3 n3 c3,.slice A4 n4 c4] 121);have cB:CBlk (w7.alloc (.cells #[.bool p.neg,.slice A1 n1 c1,.slice A2 n2 c2,.bool q.neg,.slice A3 n3 c3,.slice A4 n4 c4] 121)) w7.heap.size #[.bool p.neg,.slice A1 n1 c1,.slice A2 n2 c2,.bool q.neg,.slice A3 n3 c3,.slice A4 n4 c4] 121:=CBlk.new _ _ _ _ rfl;have bY:ItvS (w7.alloc (.cells #[.bool p.neg,.slice A1 n1 c1,.slice A2 n2 c2,.bool q.neg,.slice A3 n3 c3,.slice A4 n4 c4] 121)) (w7.alloc (.cells #[.bool p.neg,.slice A1 n1 c1,.slice A2 n2 c2,.bool q.neg,.slice A3 n3 c3,.slice A4 n4 c4] 121)).heap.size (.agg #[.bool p.neg,.slice A1 n1 c1,.slice A2 n2 c2,.bool q.neg,.slice A3 n3 c3,.slice A4 n4 c4]) p q:=⟨A1,n1,c1,A2,n2,c2,A3,n3,c3,A4,n4,c4,rfl,bB.later aG,bC.later aG,bX.later aG,bW.later aG⟩;have bJ:=fun (v':Value) (V':World) ho hg hat hf=>zf7 (W:=w7) (V:=w7.alloc (.cells #[.bool p.neg,.slice A1 n1 c1,.slice A2 n2 c2,.bool q.neg,.slice A3 n3 c3,.slice A4 n4 c4] 121)) (V':=V') (v':=v') (a:=#[.bool p.neg,.slice A1 n1 c1,.slice A2 n2 c2,.bool q.neg,.slice A3 n3 c3,.slice A4 n4 c4]) (p:=p) (q:=q) k7 hx cA aG bY rfl ho hg hat hf
 have cE:=kV.apart;have bG:=kV.box;have bZ:=kV.free;have cL:w7.heap.size≤(w7.alloc (.cells #[.bool p.neg,.slice A1 n1 c1,.slice A2 n2 c2,.bool q.neg,.slice A3 n3 c3,.slice A4 n4 c4] 121)).heap.size:=aG.size;have aV:=bT.size;have b0:w7.cell? ⟨g,0,none⟩=some v:=k7.box.cell 0;have x0:w7.cell? ⟨gx,0,none⟩=some (.bool p.neg):=aM.cell 0;have x1:w7.cell? ⟨gx,1,none⟩=some (.slice A1 n1 c1):=aM.cell 1;have x2:w7.cell? ⟨gx,2,none⟩=some (.slice A2 n2 c2):=aM.cell 2;have y0:w7.cell? ⟨gy,0,none⟩=some (.bool q.neg):=aQ.cell 0;have y1:w7.cell? ⟨gy,1,none⟩=some (.slice A3 n3 c3):=aQ.cell 1;have y2:w7.cell? ⟨gy,2,none⟩=some (.slice A4 n4 c4):=aQ.cell 2;have aE:∀ j u,[Value.bool p.neg,.slice A1 n1 c1,.slice A2 n2 c2,.bool q.neg,.slice A3 n3 c3,.slice A4 n4 c4][j]? = some u→(w7.alloc (.cells #[.bool p.neg,.slice A1 n1 c1,.slice A2 n2 c2,.bool q.neg,.slice A3 n3 c3,.slice A4 n4 c4] 121)).cell? ((⟨w7.heap.size,0,none⟩:Addr).add j)=some u:=fun j u hu=>by
  have e2:(⟨w7.heap.size,0,none⟩:Addr).add j=⟨w7.heap.size,j,none⟩:=by unfold Addr.add;split<;>simp_all
  rw[e2,cB.cell j]
  simpa using hu
 have cP:=Aa bJ;have cO:=Aa aE;have aR:=Aa aL;have cH:=Aa bZ;have cF:=Aa cE;have bR:=Aa bG;have cR:=hB;clear bJ aE aL bZ cE bG kV hx cA cM bY cB k7 hst bB bC bX bW aM aQ;obtain⟨i0,cG,cN,cK,cJ⟩:=info_parts zh4
 go_wp2_with (at_builtin;refine zcO rfl _ _ 117 rfl B 121 i0 _ 6 112 Tryz.underlying117 cG cN cK cJ rfl (by decide) (zbf _ _ _ _ _ _ _ _ _ _ _ _ _ _) v n xs rfl aR.out cH.out ⟨w7.heap.size,0,none⟩ 1 1 [Value.bool p.neg,.slice A1 n1 c1,.slice A2 n2 c2,.bool q.neg,.slice A3 n3 c3,.slice A4 n4 c4] (by decide) rfl rfl cO.out ?ca1 ?ca2 ?ca3 ?ca4 ?ca5 ?_)
 case ca1=>exact⟨rfl,rfl,rfl,rfl,rfl,rfl⟩
 case ca3=>have:=HN.out;unfold maxLen;omega
 case ca4=>have:=HN.out;omega
 case ca5=>have:=HN.out;omega
 intro v' w9 aT aU aK bU;have aD:v'.ownBlock=v.ownBlock∨v'.ownBlock=some (w7.alloc (.cells #[.bool p.neg,.slice A1 n1 c1,.slice A2 n2 c2,.bool q.neg,.slice A3 n3 c3,.slice A4 n4 c4] 121)).heap.size:=by simpa[Value.ownBlock] using aK
 have bE:=cP.out v' w9 aT aU aD bU;have aY:=bR.out.grown aU bR.out.lt (fun e=>cF.out e);have z0:w9.cell? ⟨g,0,none⟩=some v:=aY.cell 0;have z1:=aY.frozen 0;obtain⟨A9,c9,rfl,_,_,_⟩:=zc4 aT;have cC:=Aa bE;clear bE aY aT aU aK aD bU;go_wp2
 go_ret;exact⟨rfl,⟨_,cC.out.1⟩,(bT.mono hB1).trans (cC.out.2 B (Nat.le_trans hB1 aV) (Nat.le_refl _) hB)⟩
theorem znT(ii x y:Int)(p q:Q)(X Y:ByteArray)(g B k n:Nat)(v:Value)(ks:List (Q × Q))(w:World)(hT:Tabs w)(hB1:B≤w.heap.size)(hB:B≤g)(hst:KState w B g n ks v)(HX:Hid (x=0∧y=0))(HN:Hid (n<64))(HI:Hid (ii=(n:Int)∧n=k+1∧k<64))
 (o oo:Q)(hk:Hid (ks[k]? = some (o,oo)))(HO:Hid (0<rcmp p o))(lp:LenQ p 268435456)(lq:LenQ o 268435456)
 (HR1:Hid (∀ W,Tabs W→Calls Tryz.prog 62 #[.string X] W (zaz W p x)))(HR2:Hid (∀ W,Tabs W→Calls Tryz.prog 62 #[.string Y] W (zaz W q y))) :
  Calls Tryz.prog 145 #[.int .i64 ii,.agg #[.string X,.string Y],.pointer (some ⟨g,0,none⟩)] w fun e w'=>e = .returned (.int .i64 0)∧(∃ v',KState w' B g (n+1) (ks++[(p,q)]) v')∧Below B w w':=by
 obtain⟨E,hE⟩:∃ E,E=if x≠0 then x else y:=⟨_,rfl⟩
 have HE:=Aa hE;have dO:(E != 0)=false:=by rw[hE,HX.out.1,HX.out.2];rfl
 have HC:=Aa (fun v u W h1 h2=>zbq p o v u W h1 h2 lp lq);obtain⟨r,hr⟩:∃ r,r=rcmp p o:=⟨_,rfl⟩;rw[←hr] at HC HO;have d1:decide (r≤0)=false:=decide_eq_false (by have:=HO.out;omega);have d2:decide (0<ii)=true:=decide_eq_true (by have:=HI.out;omega);have d3:wrap64 (ii-1)=(k:Int):=by rw[IntWalk.wrap64_in _ (by have:=HI.out;omega)];have:=HI.out;omega
 have d4:IntKind.i64.wrap (ii-1)=(k:Int):=by rw[IntWalk.i64_in _ (by have:=HI.out;omega)];have:=HI.out;omega
 have dM:(0:Int)≤(k:Int):=by omega
 have dN:(k:Int)<(n:Int):=by have:=HI.out;omega
 clear hE hr lp lq;have aU:Below w.heap.size w (w.alloc (.cells #[.string X,.string Y] 57)):=Ac;have q0:CBlk (w.alloc (.cells #[.string X,.string Y] 57)) w.heap.size #[.string X,.string Y] 57:=CBlk.new _ _ _ _ rfl;go_enter Tryz.func145,Tryz.ntmps145
 go_upto_region 1 with(fail)
 generalize (w.alloc (.cells #[.string X,.string Y] 57))=W at *;have a0:=q0.cell 0;have a1:=q0.cell 1
 go_wp2_with fail
 refine(HR1.out W (hT.later aU)).mono ?_;rintro e w2 ⟨v2,rfl,⟨A1,n1,c1,A2,n2,c2,rfl,h1,h2⟩,bC⟩;have aV:=Ad aU bC;have bD:=(q0.below bC q0.lt).alloc (.cells #[.bool p.neg,.slice A1 n1 c1,.slice A2 n2 c2] 91);have aC:Below w2.heap.size w2 (w2.alloc (.cells #[.bool p.neg,.slice A1 n1 c1,.slice A2 n2 c2] 91)):=Ac;have bM:CBlk (w2.alloc (.cells #[.bool p.neg,.slice A1 n1 c1,.slice A2 n2 c2] 91)) w2.heap.size #[.bool p.neg,.slice A1 n1 c1,.slice A2 n2 c2] 91:=CBlk.new _ _ _ _ rfl;have aE:=Ad aV aC;have cY:=h1.later aC;have bP:=h2.later aC;have dB:=aV.size;clear a0 a1 q0 aU bC aV h1 h2 aC;go_upto_region 2 with(fail)
 generalize (w2.alloc (.cells #[.bool p.neg,.slice A1 n1 c1,.slice A2 n2 c2] 91))=w3 at *;have a0:=bD.cell 0;have a1:=bD.cell 1
 go_wp2_with fail
 refine(HR2.out w3 (hT.later aE)).mono ?_;rintro e w4 ⟨v4,rfl,⟨A3,n3,c3,A4,n4,c4,rfl,h3,h4⟩,aO⟩;have bA:=Ad aE aO;have bS:=(bM.below aO bM.lt).alloc (.cells #[.bool q.neg,.slice A3 n3 c3,.slice A4 n4 c4] 91);have bO:CBlk (w4.alloc (.cells #[.bool q.neg,.slice A3 n3 c3,.slice A4 n4 c4] 91)) w4.heap.size #[.bool q.neg,.slice A3 n3 c3,.slice A4 n4 c4] 91:=CBlk.new _ _ _ _ rfl;have aC:Below w4.heap.size w4 (w4.alloc (.cells #[.bool q.neg,.slice A3 n3 c3,.slice A4 n4 c4] 91)):=Ac;have aL:=Ad bA aC;have bQ:=(cY.later aO).later aC;have cT:=(bP.later aO).later aC;have bY:=h3.later aC;have cQ:=h4.later aC;clear a0 a1 bD bM aE aO bA cY bP h3 h4 aC;go_upto_region 3 with(fail)
 generalize (w4.alloc (.cells #[.bool q.neg,.slice A3 n3 c3,.slice A4 n4 c4] 91))=w5 at *;have aS:Below w.heap.size w (w5.alloc (.cells #[.int .i64 x,.int .i64 y] 26)):=aL.alloc aL.size _;have aP:Below w5.heap.size w5 (w5.alloc (.cells #[.int .i64 x,.int .i64 y] 26)):=Ac;have aN:=bS.alloc (.cells #[.int .i64 x,.int .i64 y] 26);have bI:=bO.alloc (.cells #[.int .i64 x,.int .i64 y] 26);have aZ:=bQ.later aP;have bE:=cT.later aP;have cR:=bY.later aP;have cO:=cQ.later aP
 go_wp2_with fail
 refine(za7 x y E HE.out w5 _ _ rfl).mono ?_;rintro e w6 ⟨rfl,rfl⟩;clear bS bO aL aP bQ cT bY cQ;generalize (w5.alloc (.cells #[.int .i64 x,.int .i64 y] 26))=w6 at *;have k6:=hst.later aS;generalize w2.heap.size=gx at *;generalize w4.heap.size=gy at *;obtain⟨gk,aD,rfl,_,aT,_⟩:∃ gk aD,v = .slice (some ⟨gk,0,none⟩) n aD∧B≤gk∧gk<w6.heap.size∧v.ownBlock=some gk:=by
  rcases k6.kn.form with⟨_,h⟩ | h
  ·have:=HI.out;omega
  ·exact h
 obtain⟨K1,m1,e1,K2,m2,e2,K3,m3,e3,K4,m4,e4,aW,r1,r2,_,_⟩:=k6.kn.at_ hk.out;have y0:w6.cell? ⟨gk,k*6,none⟩=some (.bool o.neg):=aW 0 _ rfl;have y1:w6.cell? ⟨gk,k*6+1,none⟩=some (.slice K1 m1 e1):=aW 1 _ rfl;have y2:w6.cell? ⟨gk,k*6+2,none⟩=some (.slice K2 m2 e2):=aW 2 _ rfl;clear aW;have aJ:Below w6.heap.size w6 w6.drew:=(Below.refl _ _).drew;have aI:=Aa (HC.out _ _ w6.drew (RatS.mk (q:=p) (aZ.later aJ) (bE.later aJ)) (RatS.mk (q:=o) (r1.later aJ) (r2.later aJ)));go_upto_region 6 with(fail)
 have cG:w6.drew.cell? ⟨gx,0,none⟩=some (.bool p.neg):=aN.cell 0;have bW:w6.drew.cell? ⟨gx,1,none⟩=some (.slice A1 n1 c1):=aN.cell 1;have cA:w6.drew.cell? ⟨gx,2,none⟩=some (.slice A2 n2 c2):=aN.cell 2;have cH:w6.drew.cell? ⟨g,0,none⟩=some (.slice (some ⟨gk,0,none⟩) n aD):=k6.box.cell 0;have bF:w6.drew.cell? ⟨gk,k*6,none⟩=some (.bool o.neg):=y0;have bG:w6.drew.cell? ⟨gk,k*6+1,none⟩=some (.slice K1 m1 e1):=y1;have bL:w6.drew.cell? ⟨gk,k*6+2,none⟩=some (.slice K2 m2 e2):=y2;clear y0 y1 y2
 go_region_held3 (fun w'=>w'.cell? ⟨gx,0,none⟩=some (.bool p.neg)∧w'.cell? ⟨gx,1,none⟩=some (.slice A1 n1 c1)∧w'.cell? ⟨gx,2,none⟩=some (.slice A2 n2 c2)∧w'.cell? ⟨g,0,none⟩=some (.slice (some ⟨gk,0,none⟩) n aD)∧w'.cell? ⟨gk,k*6,none⟩=some (.bool o.neg)∧w'.cell? ⟨gk,k*6+1,none⟩=some (.slice K1 m1 e1)∧w'.cell? ⟨gk,k*6+2,none⟩=some (.slice K2 m2 e2))
  (first | with_reducible exact⟨cG,bW,cA,cH,bF,bG,bL⟩ | with_reducible exact⟨bR,cC,cB,cL,cF,cM,cW⟩)
  (first | (go_at_call 70;refine aI.out.mono ?_;rintro e w7 ⟨rfl,aF⟩;have aK:=aN.drew.below aF aN.lt;have k7:=(k6.later aJ).later aF;have bR:w7.cell? ⟨gx,0,none⟩=some (.bool p.neg):=aK.cell 0;have cC:w7.cell? ⟨gx,1,none⟩=some (.slice A1 n1 c1):=aK.cell 1;have cB:w7.cell? ⟨gx,2,none⟩=some (.slice A2 n2 c2):=aK.cell 2;have cL:w7.cell? ⟨g,0,none⟩=some (.slice (some ⟨gk,0,none⟩) n aD):=k7.box.cell 0;have cF:w7.cell? ⟨gk,k*6,none⟩=some (.bool o.neg):=(aF.cell aT).trans bF;have cM:w7.cell? ⟨gk,k*6+1,none⟩=some (.slice K1 m1 e1):=(aF.cell aT).trans bG;have cW:w7.cell? ⟨gk,k*6+2,none⟩=some (.slice K2 m2 e2):=(aF.cell aT).trans bL))
 have aA:=Ad aJ aF;have cZ:=Ad aS aA;have aX:=bI.drew.below aF bI.lt;have cN:=aZ.later aA;have bN:=bE.later aA;have cI:=cR.later aA;have bT:=cO.later aA;clear aJ aF aA aS k6 aN bI aZ bE cR cO bR cC cB cL cF cM cW cG bW cA cH bF bG bL r1 r2 aI HC aT d1 d2 d3 d4;obtain⟨dC,xs,hx,bV⟩:=k7.kn;have aM:Below w7.heap.size w7 (w7.alloc (.cells #[.bool p.neg,.slice A1 n1 c1,.slice A2 n2 c2,.bool q.neg,.slice A3 n3 c3,.slice A4 n4 c4] 121)):=Ac;have kV:=k7.later aM;have aR:=hx.alloc (.cells #[.bool p.neg,.slice A1 n1 c1,.slice A2 n2 c2,.bool q.neg,.slice A3 n3 c3,.slice A4 n4 c4] 121);have cU:CBlk (w7.alloc (.cells #[.bool p.neg,.slice A1 n1 c1,.slice A2 n2 c2,.bool q.neg,.slice A3 n3 c3,.slice A4 n4 c4] 121)) w7.heap.size #[.bool p.neg,.slice A1 n1 c1,.slice A2 n2 c2,.bool q.neg,.slice A3 n3 c3,.slice A4 n4 c4] 121:=CBlk.new _ _ _ _ rfl;have cJ:ItvS (w7.alloc (.cells #[.bool p.neg,.slice A1 n1 c1,.slice A2 n2 c2,.bool q.neg,.slice A3 n3 c3,.slice A4 n4 c4] 121)) (w7.alloc (.cells #[.bool p.neg,.slice A1 n1 c1,.slice A2 n2 c2,.bool q.neg,.slice A3 n3 c3,.slice A4 n4 c4] 121)).heap.size (.agg #[.bool p.neg,.slice A1 n1 c1,.slice A2 n2 c2,.bool q.neg,.slice A3 n3 c3,.slice A4 n4 c4]) p q:=⟨A1,n1,c1,A2,n2,c2,A3,n3,c3,A4,n4,c4,rfl,cN.later aM,bN.later aM,cI.later aM,bT.later aM⟩;have cP:=fun (v':Value) (V':World) ho hg hat hf=>zf7 (W:=w7) (V:=w7.alloc (.cells #[.bool p.neg,.slice A1 n1 c1,.slice A2 n2 c2,.bool q.neg,.slice A3 n3 c3,.slice A4 n4 c4] 121)) (V':=V') (v':=v') (a:=#[.bool p.neg,.slice A1 n1 c1,.slice A2 n2 c2,.bool q.neg,.slice A3 n3 c3,.slice A4 n4 c4]) (p:=p) (q:=q) k7 hx bV aM cJ rfl ho hg hat hf
 have bX:=kV.apart;have cV:=kV.box;have bU:=kV.free;have dJ:w7.heap.size≤(w7.alloc (.cells #[.bool p.neg,.slice A1 n1 c1,.slice A2 n2 c2,.bool q.neg,.slice A3 n3 c3,.slice A4 n4 c4] 121)).heap.size:=aM.size;have bB:=cZ.size;have b0:w7.cell? ⟨g,0,none⟩=some (Value.slice (some ⟨gk,0,none⟩) n aD):=k7.box.cell 0;have x0:w7.cell? ⟨gx,0,none⟩=some (.bool p.neg):=aK.cell 0;have x1:w7.cell? ⟨gx,1,none⟩=some (.slice A1 n1 c1):=aK.cell 1;have x2:w7.cell? ⟨gx,2,none⟩=some (.slice A2 n2 c2):=aK.cell 2;have y0:w7.cell? ⟨gy,0,none⟩=some (.bool q.neg):=aX.cell 0;have y1:w7.cell? ⟨gy,1,none⟩=some (.slice A3 n3 c3):=aX.cell 1;have y2:w7.cell? ⟨gy,2,none⟩=some (.slice A4 n4 c4):=aX.cell 2;have aH:∀ j u,[Value.bool p.neg,.slice A1 n1 c1,.slice A2 n2 c2,.bool q.neg,.slice A3 n3 c3,.slice A4 n4 c4][j]? = some u→(w7.alloc (.cells #[.bool p.neg,.slice A1 n1 c1,.slice A2 n2 c2,.bool q.neg,.slice A3 n3 c3,.slice A4 n4 c4] 121)).cell? ((⟨w7.heap.size,0,none⟩:Addr).add j)=some u:=fun j u hu=>by
  have e2:(⟨w7.heap.size,0,none⟩:Addr).add j=⟨w7.heap.size,j,none⟩:=by unfold Addr.add;split<;>simp_all
  rw[e2,cU.cell j]
  simpa using hu
 have dG:=Aa cP;have dK:=Aa aH;have aY:=Aa aR;have dD:=Aa bU;have dH:=Aa bX;have cS:=Aa cV;have dL:=hB;clear cP aH aR bU bX cV kV hx bV dC cJ cU k7 hst cN bN cI bT aK aX;obtain⟨i0,dI,dF,dA,dE⟩:=info_parts zh4
 go_wp2_with (at_builtin;refine zcO rfl _ _ 117 rfl B 121 i0 _ 6 112 Tryz.underlying117 dI dF dA dE rfl (by decide) (zbf _ _ _ _ _ _ _ _ _ _ _ _ _ _) (Value.slice (some ⟨gk,0,none⟩) n aD) n xs rfl aY.out dD.out ⟨w7.heap.size,0,none⟩ 1 1 [Value.bool p.neg,.slice A1 n1 c1,.slice A2 n2 c2,.bool q.neg,.slice A3 n3 c3,.slice A4 n4 c4] (by decide) rfl rfl dK.out ?ca1 ?ca2 ?ca3 ?ca4 ?ca5 ?_)
 case ca1=>exact⟨rfl,rfl,rfl,rfl,rfl,rfl⟩
 case ca3=>have:=HN.out;unfold maxLen;omega
 case ca4=>have:=HN.out;omega
 case ca5=>have:=HN.out;omega
 intro v' w9 bJ bK aQ cE;have aG:v'.ownBlock=(Value.slice (some ⟨gk,0,none⟩) n aD).ownBlock∨v'.ownBlock=some (w7.alloc (.cells #[.bool p.neg,.slice A1 n1 c1,.slice A2 n2 c2,.bool q.neg,.slice A3 n3 c3,.slice A4 n4 c4] 121)).heap.size:=by simpa[Value.ownBlock] using aQ
 have bZ:=dG.out v' w9 bJ bK aG cE;have bH:=cS.out.grown bK cS.out.lt (fun e=>dH.out e);have z0:w9.cell? ⟨g,0,none⟩=some (Value.slice (some ⟨gk,0,none⟩) n aD):=bH.cell 0;have z1:=bH.frozen 0;obtain⟨A9,c9,rfl,_,_,_⟩:=zc4 bJ;have cK:=Aa bZ;clear bZ bH bJ bK aQ aG cE;go_wp2
 go_ret;exact⟨rfl,⟨_,cK.out.1⟩,(cZ.mono hB1).trans (cK.out.2 B (Nat.le_trans hB1 bB) (Nat.le_refl _) hB)⟩
def PtsR (w:World) (B:Nat) (A:Option Addr) (n:Nat) (C:List (ByteArray × ByteArray)):Prop:=
 C.length=n∧(0<n→∃ ad,A=some ad∧ad.block<B∧∀ i (h:i<C.length),w.cell? ((ad.add (i*2)).add 0)=some (.string C[i].1)∧w.cell? ((ad.add (i*2)).add 1)=some (.string C[i].2))
theorem PtsR.below{w w':World}{B:Nat}{A:Option Addr}{n:Nat}{C:List (ByteArray × ByteArray)}(h:PtsR w B A n C)(hb:Below B w w'):PtsR w' B A n C:=by
 refine⟨h.1,fun h0 => ?_⟩;obtain⟨ad,e,aA,hc⟩:=h.2 h0;refine⟨ad,e,aA,fun i hi => ?_⟩;have hx:∀ p q:Nat,((ad.add p).add q).block<B:=fun p q=>by rw[zbr,zbr];exact aA
 exact⟨(hb.cell (hx _ _)).trans (hc i hi).1,(hb.cell (hx _ _)).trans (hc i hi).2⟩
def rdP (p:ByteArray × ByteArray):Q × Q:=(zaf p.1.data.toList,zaf p.2.data.toList)
def zc7:Option Q→List (ByteArray × ByteArray)→Int
 | _,[]=>0
 | o,p :: t=>if rowE o p.1.data.toList p.2.data.toList≠0 then rowE o p.1.data.toList p.2.data.toList else zc7 (some (zaf p.1.data.toList)) t
def tabE (l:List (ByteArray × ByteArray)):Int:=if l.length<1 then 12 else if 64<l.length then 5 else zc7 none l
def zc1 (l:List (ByteArray × ByteArray)) (k:Nat):Option Q:=if k=0 then none else(l[k-1]?).map fun p=>zaf p.1.data.toList
theorem zpx(k:Nat)(X Y:ByteArray)(o:Option Q)(g B:Nat)(v:Value)(ks:List (Q × Q))(w:World)(hT:Tabs w)(hB1:B≤w.heap.size)(hB:B≤g)(hst:KState w B g k ks v)(hk:k<64)
 (ho:(k=0∧o=none)∨∃ j q qq,k=j+1∧o=some q∧ks[j]? = some (q,qq)∧LenQ q 268435456)(hX:X.size≤4294967296)(hY:Y.size≤4294967296) :
  Calls Tryz.prog 145 #[.int .i64 (k:Int),.agg #[.string X,.string Y],.pointer (some ⟨g,0,none⟩)] w fun e w'=>e = .returned (.int .i64 (rowE o X.data.toList Y.data.toList))∧Below B w w' ∧
   ∃ A' m' c',CBlk w' g #[.slice A' m' c'] 117∧(rowE o X.data.toList Y.data.toList=0→KState w' B g (k+1) (ks++[rdP (X,Y)]) (.slice A' m' c')):=by
 have aC:Hid (∀ W,Tabs W→Calls Tryz.prog 62 #[.string X] W (zaz W (zaf X.data.toList) (zap X.data.toList))):=fun W hT=>zcf X W hT hX
 have aE:Hid (∀ W,Tabs W→Calls Tryz.prog 62 #[.string Y] W (zaz W (zaf Y.data.toList) (zap Y.data.toList))):=fun W hT=>zcf Y W hT hY
 have aJ:∃ A' m' c',v = .slice A' m' c':=by
  rcases hst.kn.form with⟨e,_⟩ | ⟨gk,aI,e,_⟩
  ·exact⟨_,_,_,e⟩
  ·exact⟨_,_,_,e⟩
 have same:∀ w',Below w.heap.size w w'→∃ A' m' c',CBlk w' g #[.slice A' m' c'] 117:=fun w' hb=>by
  obtain⟨A',m',c',rfl⟩:=aJ;exact⟨A',m',c',(hst.later hb).box⟩
 have aD:∀ w',(∃ v',KState w' B g (k+1) (ks++[(zaf X.data.toList,zaf Y.data.toList)]) v')→∃ A' m' c',CBlk w' g #[.slice A' m' c'] 117∧KState w' B g (k+1) (ks++[rdP (X,Y)]) (.slice A' m' c'):=fun w' ⟨v',h⟩=>by
  rcases h.kn.form with⟨rfl,_⟩ | ⟨gk,aI,rfl,_⟩
  ·exact⟨_,_,_,h.box,h⟩
  ·exact⟨_,_,_,h.box,h⟩
 by_cases hx:zap X.data.toList=0
 ·by_cases hy:zap Y.data.toList=0
  ·rcases ho with⟨rfl,rfl⟩ | ⟨j,q,qq,rfl,rfl,hj,aH⟩
   ·have hr:rowE none X.data.toList Y.data.toList=0:=by unfold rowE;rw[if_neg (by omega),if_neg (by omega)]
    rw[hr];refine(zlx ((0:Nat):Int) _ _ _ _ X Y g B 0 v ks w hT hB1 hB hst ⟨hx,hy⟩ (show(0:Nat)<64 by omega) rfl aC aE).mono ?_;rintro e w' ⟨rfl,aF,aA⟩;obtain⟨A',m',c',h1,h2⟩:=aD w' aF;exact⟨rfl,aA,A',m',c',h1,fun _=>h2⟩
   ·have lp:LenQ (zaf X.data.toList) 268435456:=by
     have h9:=@zaD X.data.toList hx;exact⟨by omega,by omega⟩
    by_cases hr:rcmp (zaf X.data.toList) q≤0
    ·have aG:rowE (some q) X.data.toList Y.data.toList=11:=by unfold rowE;rw[if_neg (by omega),if_neg (by omega)];exact if_pos hr
     rw[aG];refine(zmw ((j+1:Nat):Int) _ _ _ _ X Y g B j (j+1) v ks w hT hst ⟨hx,hy⟩ ⟨rfl,rfl,by omega⟩ q qq hj hr lp aH aC aE).mono ?_;rintro e w' ⟨rfl,aA⟩;obtain⟨A',m',c',h1⟩:=same w' aA;exact⟨rfl,aA.mono hB1,A',m',c',h1,(fun h=>by omega)⟩
    ·have aG:rowE (some q) X.data.toList Y.data.toList=0:=by unfold rowE;rw[if_neg (by omega),if_neg (by omega)];exact if_neg hr
     rw[aG];refine(znT ((j+1:Nat):Int) _ _ _ _ X Y g B j (j+1) v ks w hT hB1 hB hst ⟨hx,hy⟩ hk ⟨rfl,rfl,by omega⟩ q qq hj (show 0<rcmp (zaf X.data.toList) q by omega) lp aH aC aE).mono ?_;rintro e w' ⟨rfl,aF,aA⟩;obtain⟨A',m',c',h1,h2⟩:=aD w' aF;exact⟨rfl,aA,A',m',c',h1,fun _=>h2⟩
  ·have hr:rowE o X.data.toList Y.data.toList=zap Y.data.toList:=by unfold rowE;rw[if_neg (by omega),if_pos hy]
   rw[hr];refine(zlU (k:Int) _ _ (zap Y.data.toList) _ _ X Y g B k v ks w hT hst (show zap Y.data.toList=if zap X.data.toList≠0 then zap X.data.toList else zap Y.data.toList by rw[if_neg (by omega)]) hy aC aE).mono ?_
   rintro e w' ⟨rfl,aA⟩;obtain⟨A',m',c',h1⟩:=same w' aA;exact⟨rfl,aA.mono hB1,A',m',c',h1,fun h=>absurd h hy⟩
 ·have hr:rowE o X.data.toList Y.data.toList=zap X.data.toList:=by unfold rowE;rw[if_pos hx]
  rw[hr];refine(zlU (k:Int) _ _ (zap X.data.toList) _ _ X Y g B k v ks w hT hst (show zap X.data.toList=if zap X.data.toList≠0 then zap X.data.toList else zap Y.data.toList by rw[if_pos hx]) hx aC aE).mono ?_
  rintro e w' ⟨rfl,aA⟩;obtain⟨A',m',c',h1⟩:=same w' aA;exact⟨rfl,aA.mono hB1,A',m',c',h1,fun h=>absurd h hx⟩
theorem zmm(args:Array Value)(w:World):(callFunc 145 args).run Tryz.prog w = .ok (.enter 145 args) w:=by kernel_rfl
theorem zkG:(Tryz.prog.info? 57).map (·.size)=some 2:=by kernel_rfl
theorem zf9{P:Program}{ops:Array Oper}{rest:List Oper}{op:Oper}{a:Act}{w:World}{Q:Exit→Act→World→Prop}(hgd:op.guard=none)(ty:TypeId)(x:Operand)(ho:op.op = .load ty x)
 (ad:Addr)(hx:a.eval x = .pointer (some ad))(cs:List Value)(d:TypeDesc)(hc:∀ j v,cs[j]? = some v→w.cell? (ad.add j)=some v)
 (hu:P.underlying ty=some d)(hd:d.isRow=true)(hi:(P.info? ty).map (·.size)=some cs.length)
 (h:wpList P ops Q rest (a.put op.dst (.agg cs.toArray)) w):wpList P ops Q (op :: rest) a w:=by
 have hl:(loadCells ad cs.length).run P w = .ok cs.toArray w:=run_loadCells_list (P:=P) w ad cs hc;have hv:(loadVar ty ad).run P w = .ok (.agg cs.toArray) w:=by
  cases hq:P.info? ty with
  | none=>simp[hq] at hi
  | some i=>
   have hs:i.size=cs.length:=by simpa[hq] using hi
   have aA:(isAgg ty).run P w = .ok true w:=by
    unfold isAgg;rw[Sem.run_bind,run_underlying hu w]
    cases d<;>simp_all
   simp[loadVar,Sem.run_bind,aA,sizeOf,typeInfo,hq,hs,hl]
 refine wpList_plain hgd fun _ hK => ?_
 unfold Oper.wp execOp;simp only[ho,hx,Instr.loadAt,Instr.sureAddr,Sem.run_bind,Sem.run_pure,Result.andThen_ok,hv]
 exact hK _ _ h
theorem zj8{l:List (ByteArray × ByteArray)}{k:Nat}(h:k<l.length)(he:zc7 none l=zc7 (zc1 l k) (l.drop k)) :
  (rowE (zc1 l k) l[k].1.data.toList l[k].2.data.toList≠0→zc7 none l=rowE (zc1 l k) l[k].1.data.toList l[k].2.data.toList) ∧
  (rowE (zc1 l k) l[k].1.data.toList l[k].2.data.toList=0→zc7 none l=zc7 (zc1 l (k+1)) (l.drop (k+1))∧zap l[k].1.data.toList=0):=by
 rw[List.drop_eq_getElem_cons h] at he;have hc:zc7 (zc1 l k) (l[k] :: l.drop (k+1))=if rowE (zc1 l k) l[k].1.data.toList l[k].2.data.toList≠0 then rowE (zc1 l k) l[k].1.data.toList l[k].2.data.toList else zc7 (some (zaf l[k].1.data.toList)) (l.drop (k+1)):=by
  cases zc1 l k<;>rfl
 rw[hc] at he
 constructor
 ·intro h0
  rw[he,if_pos h0]
 ·intro h0
  refine⟨?_,?_⟩
  ·rw[he,if_neg (by omega)]
   have:zc1 l (k+1)=some (zaf l[k].1.data.toList):=by
    unfold zc1;rw[if_neg (by omega),Nat.add_sub_cancel,List.getElem?_eq_getElem h];rfl
   rw[this]
  ·unfold rowE at h0
   by_cases hx:zap l[k].1.data.toList=0
   ·exact hx
   ·rw[if_pos hx] at h0
    exact h0
theorem zke(A:Option Addr)(n c g:Nat)(l:List (ByteArray × ByteArray))(w0 w:World)(hT:Tabs w0)(hb0:Below w0.heap.size w0 w)(hB:w0.heap.size≤g)(h:PtsR w0 w0.heap.size A n l)(hsz:∀ p ∈ l,p.1.size≤4294967296∧p.2.size≤4294967296)
 (hn1:1≤n)(hn:n≤64)(hst:KState w w0.heap.size g 0 [] (.slice none 0 0)) :
  Calls Tryz.prog 144 #[.slice A n c,.int .i64 1,.int .i64 64,.func (.func 145) #[] #[.pointer (some ⟨g,0,none⟩)]] w fun e w'=>e = .returned (.int .i64 (zc7 none l))∧Below w0.heap.size w0 w' ∧
   ∃ A' m' c',CBlk w' g #[.slice A' m' c'] 117∧(zc7 none l=0→KState w' w0.heap.size g n (l.map rdP) (.slice A' m' c')):=by
 have bD:=Aa hsz;have aF:l.length=n:=h.1;have aJ:=Aa aF;have bL:decide ((n:Int)<1)=false:=decide_eq_false (by omega);have bM:decide ((64:Int)<(n:Int))=false:=decide_eq_false (by omega);have eg:=zmm;obtain⟨R,hR⟩:∃ R,R=zc7 none l:=⟨_,rfl⟩;have bO:=Aa (show R=zc7 (zc1 l 0) (l.drop 0) from hR);have aK:=Aa hR;rw[←hR];clear hsz aF hR;go_enter Tryz.func144,Tryz.ntmps144
 go_wp2
 go_loopg [22] n (fun m s W=>∃ k:Nat,k≤n∧s = .int .i64 k∧n-k≤m∧(∃ A' m' c',KState W w0.heap.size g k ((l.take k).map rdP) (.slice A' m' c'))∧Below w0.heap.size w0 W∧zc7 none l=zc7 (zc1 l k) (l.drop k)∧(0<k→∀ p,l[k-1]? = some p→zap p.1.data.toList=0))
 case atStart=>exact⟨0,Nat.zero_le _,rfl,by omega,⟨none,0,0,hst⟩,hb0,rfl,(fun h=>absurd h (by omega))⟩
 case round=>
  obtain⟨k,hk,rfl,hm,⟨A',m',c',aH⟩,aC,aY,aT⟩:=hrel;have aW:=Aa aY;have bH:=Aa aT;clear aY aT
  by_cases h0:k<n
  ·have aG:k<l.length:=by have:=aJ.out;omega
   obtain⟨ad,rfl,bN,bC⟩:=(h.below aC).2 (by omega);obtain⟨aQ,aO⟩:=bC k aG;have aA:=zj8 aG aW.out;have hs:=bD.out l[k] (List.getElem_mem aG);have aL:(l.take (k+1)).map rdP=(l.take k).map rdP++[rdP (l[k].1,l[k].2)]:=by
    rw[List.take_succ_eq_append_getElem aG,List.map_append];rfl
   have aS:l[k]? = some l[k]:=List.getElem?_eq_getElem aG;have ho:(k=0∧zc1 l k=none)∨∃ j q qq,k=j+1∧zc1 l k=some q∧((l.take k).map rdP)[j]? = some (q,qq)∧LenQ q 268435456:=by
    rcases Nat.eq_zero_or_pos k with h1 | h1
    ·exact .inl ⟨h1,by unfold zc1;rw[if_pos h1]⟩
    ·have hj:k-1<l.length:=by omega
     have hz:=bH.out h1 l[k-1] (List.getElem?_eq_getElem hj);refine .inr ⟨k-1,zaf l[k-1].1.data.toList,zaf l[k-1].2.data.toList,by omega,?_,?_,?_⟩
     ·unfold zc1
      rw[if_neg (by omega),List.getElem?_eq_getElem hj];rfl
     ·rw[List.getElem?_map,List.getElem?_take,if_pos (by omega),List.getElem?_eq_getElem hj]
      rfl
     ·have h9:=@zaD _ hz
      exact⟨by omega,by omega⟩
   generalize l[k]=pt at *;obtain⟨X,Y⟩:=pt
   dsimp only at aQ aO aA hs aL
   have aZ:∀ j v,[Value.string X,Value.string Y][j]? = some v→wr.cell? ((ad.add (k*2)).add j)=some v:=fun j v hj=>by
    match j,hj with
    | 0,hj=>injection hj with hj;subst hj;exact aQ
    | 1,hj=>injection hj with hj;subst hj;exact aO
    | j+2,hj=>simp at hj
   have bF:=Aa aZ;have aM:Below wr.heap.size wr (wr.alloc (.cells #[.string X,.string Y] 57)):=Ac;have aU:CBlk (wr.alloc (.cells #[.string X,.string Y] 57)) wr.heap.size #[.string X,.string Y] 57:=CBlk.new _ _ _ _ rfl;have bI:=aC.size;have aI:=aC.trans (aM.mono bI);have aD:=zpx k X Y (zc1 l k) g w0.heap.size _ _ _ (hT.later aI) aI.size hB (aH.later aM) (by omega) ho hs.1 hs.2;have aE:=Aa aD;have aN:=Aa aA;have bE:=Aa aL;have bJ:=Aa aS;have bB:=Aa aU;have bA:=Aa aI;clear aZ aQ aO aA hs aL aS ho bC aM aU aI aD aH;go_upto_region 8 with(first
    |(refine zf9 rfl 57 (.tmp 25) rfl (ad.add (k*2)) rfl [Value.string X,Value.string Y] _ bF.out Tryz.underlying57 rfl zkG ?_))
   generalize wr.alloc (.cells #[.string X,.string Y] 57)=w3 at *;have p0:w3.cell? ⟨wr.heap.size,0,none⟩=some (.string X):=bB.out.cell 0;have p1:w3.cell? ⟨wr.heap.size,1,none⟩=some (.string Y):=bB.out.cell 1;generalize rowE (zc1 l k) X.data.toList Y.data.toList=rr at *
   by_cases hrr:rr=0
   ·subst hrr
    go_wp2_with (go_at_fn 145;refine aE.out.mono ?_;rintro e w4 ⟨rfl,aP,A9,m9,c9,aV,aX⟩)
    go_roundg (n-(k+1))
    case measure=>omega
    case rel=>exact⟨k+1,by omega,by go_num,Nat.le_refl _,⟨A9,m9,c9,by rw[bE.out];exact aX trivial⟩,bA.out.trans aP,(aN.out.2 trivial).1,fun _ p hp=>by
     rw[Nat.add_sub_cancel,bJ.out] at hp;injection hp with hp
     subst hp;exact(aN.out.2 trivial).2⟩
   ·have bK:(rr != 0)=true:=by simpa using hrr
    have aR:=Aa (aN.out.1 hrr);have bG:=Aa hrr;clear hrr
    go_wp2_with (go_at_fn 145;refine aE.out.mono ?_;rintro e w4 ⟨rfl,aP,A9,m9,c9,aV,aX⟩)
    go_ret;exact⟨by rw[aK.out,aR.out];rfl,bA.out.trans aP,A9,m9,c9,aV,fun h=>absurd (aR.out.symm.trans (aK.out.symm.trans h)) bG.out⟩
  ·obtain rfl:n=k:=by omega
   have hz:Hid (R=0):=by
    have h9:=aK.out.trans aW.out;rw[List.drop_eq_nil_of_le (by have:=aJ.out;omega)] at h9
    cases zc1 l n<;>exact h9
   rw[List.take_of_length_le (by have:=aJ.out;omega)] at aH;go_wp2
   go_ret;exact⟨by rw[hz.out];rfl,aC,A',m',c',aH.box,fun _=>aH⟩
theorem zis(A:Option Addr)(n c g:Nat)(l:List (ByteArray × ByteArray))(w0 w:World)(hT:Tabs w0)(hb0:Below w0.heap.size w0 w)(hB:w0.heap.size≤g)(h:PtsR w0 w0.heap.size A n l)(hsz:∀ p ∈ l,p.1.size≤4294967296∧p.2.size≤4294967296)
 (hst:KState w w0.heap.size g 0 [] (.slice none 0 0)) :
  Calls Tryz.prog 144 #[.slice A n c,.int .i64 1,.int .i64 64,.func (.func 145) #[] #[.pointer (some ⟨g,0,none⟩)]] w fun e w'=>e = .returned (.int .i64 (tabE l))∧Below w0.heap.size w0 w' ∧
   ∃ A' m' c',CBlk w' g #[.slice A' m' c'] 117∧(tabE l=0→KState w' w0.heap.size g n (l.map rdP) (.slice A' m' c')):=by
 have aA:l.length=n:=h.1
 by_cases h1:n<1
 ·have e:tabE l=12:=by unfold tabE;rw[if_pos (by omega)]
  rw[e];have aD:decide ((n:Int)<1)=true:=decide_eq_true (by omega);have aC:=Aa hst.box;clear e aA h1 h hst hsz hT;go_enter Tryz.func144,Tryz.ntmps144
  go_wp2
  go_ret;exact⟨rfl,hb0,none,0,0,aC.out,(fun h=>by omega)⟩
 ·by_cases h2:64<n
  ·have e:tabE l=5:=by unfold tabE;rw[if_neg (by omega),if_pos (by omega)]
   rw[e];have aD:decide ((n:Int)<1)=false:=decide_eq_false (by omega);have aE:decide ((64:Int)<(n:Int))=true:=decide_eq_true (by omega);have aC:=Aa hst.box;clear e aA h1 h2 h hst hsz hT;go_enter Tryz.func144,Tryz.ntmps144
   go_wp2
   go_ret;exact⟨rfl,hb0,none,0,0,aC.out,(fun h=>by omega)⟩
  ·have e:tabE l=zc7 none l:=by unfold tabE;rw[if_neg (by omega),if_neg (by omega)]
   rw[e];exact zke A n c g l w0 w hT hb0 hB h hsz (by omega) (by omega) hst
theorem zg0(A:Option Addr)(n c:Nat)(l:List (ByteArray × ByteArray))(w:World)(hT:Tabs w)(h:PtsR w w.heap.size A n l)(hsz:∀ p ∈ l,p.1.size≤4294967296∧p.2.size≤4294967296) :
  Calls Tryz.prog 88 #[.slice A n c] w fun e w'=>(∃ A' m' c',e = .returned (.tuple #[.slice A' m' c',.int .i64 (tabE l)])∧(tabE l=0→zcV w' w.heap.size (.slice A' m' c') n (l.map rdP)))∧Below w.heap.size w w':=by
 have aA:Below w.heap.size w (w.alloc (.cells #[.slice none 0 0] 117)):=Ac;have q:CBlk (w.alloc (.cells #[.slice none 0 0] 117)) w.heap.size #[.slice none 0 0] 117:=CBlk.new _ _ _ _ rfl;have HL:=Aa (zis A n c w.heap.size l w _ hT aA (Nat.le_refl _) h hsz ⟨q,zcV.nil _ _,Free.nil _⟩);generalize tabE l=E at *;clear q h hsz aA;go_enter Tryz.func88,Tryz.ntmps88
 go_wp2_with fail
 refine HL.out.mono ?_;rintro e w2 ⟨rfl,aD,A',m',c',aC,hk⟩;have b0:w2.cell? ⟨w.heap.size,0,none⟩=some (.slice A' m' c'):=aC.cell 0;have HK:=Aa hk;clear hk aC
 go_wp2_with fail
 go_ret2
 exact⟨⟨A',m',c',rfl,fun h=>(HK.out h).kn⟩,aD⟩
end Go.Proofs.YtmkondcdejlhcaaGreatDoor
