/- Contract of the closure of readTable: a breakpoint that is right. -/
import Derived.Test.YtbkgkoenppkhpaaGreatDoorBKn
set_option maxRecDepth 100000
set_option maxHeartbeats 4000000
namespace Go.Proofs.YtbkgkoenppkhpaaGreatDoor
open Go.RowKit Bn
theorem znS(ii x y:Int)(p q:Q)(X Y:ByteArray)(g B n:Nat)(v:Value)(ks:List (Q × Q))(w:World)(hT:Tabs w)(hB1:B≤w.heap.size)(hB:B≤g)(hst:KState w B g n ks v)(HX:Hid (x=0∧y=0))(HN:Hid (n<64))(HI:Hid (ii=0))
 (HR1:Hid (∀ W,Tabs W→Calls Tryz.prog 59 #[.string X] W (zaC W p x)))(HR2:Hid (∀ W,Tabs W→Calls Tryz.prog 59 #[.string Y] W (zaC W q y))) :
  Calls Tryz.prog 169 #[.int .i64 ii,.agg #[.string X,.string Y],.pointer (some ⟨g,0,none⟩)] w fun e w'=>e = .returned (.int .i64 0)∧(∃ v',KState w' B g (n+1) (ks++[(p,q)]) v')∧Below B w w':=by
 obtain⟨E,hE⟩:∃ E,E=if x≠0 then x else y:=⟨_,rfl⟩
 have HE:=Aa hE;have cQ:(E != 0)=false:=by rw[hE,HX.out.1,HX.out.2];rfl
 have d2:decide (0<ii)=false:=decide_eq_false (by have:=HI.out;omega);clear hE;have aQ:Below w.heap.size w (w.alloc (.cells #[.string X,.string Y] 70)):=Ac;have q0:CBlk (w.alloc (.cells #[.string X,.string Y] 70)) w.heap.size #[.string X,.string Y] 70:=CBlk.new _ _ _ _ rfl;go_enter Tryz.func169,Tryz.ntmps169
 go_upto_region 1 with(fail)
 generalize (w.alloc (.cells #[.string X,.string Y] 70))=W at *;have a0:=q0.cell 0;have a1:=q0.cell 1
 go_wp2_with fail
 refine(HR1.out W (hT.later aQ)).mono ?_;rintro e w2 ⟨v2,rfl,⟨A1,n1,c1,A2,n2,c2,rfl,h1,h2⟩,aY⟩;have aN:=Ad aQ aY;have aR:=(q0.below aY q0.lt).alloc (.cells #[.bool p.neg,.slice A1 n1 c1,.slice A2 n2 c2] 87);have aA:Below w2.heap.size w2 (w2.alloc (.cells #[.bool p.neg,.slice A1 n1 c1,.slice A2 n2 c2] 87)):=Ac;have aT:CBlk (w2.alloc (.cells #[.bool p.neg,.slice A1 n1 c1,.slice A2 n2 c2] 87)) w2.heap.size #[.bool p.neg,.slice A1 n1 c1,.slice A2 n2 c2] 87:=CBlk.new _ _ _ _ rfl;have aC:=Ad aN aA;have bI:=h1.later aA;have bX:=h2.later aA;have cN:=aN.size;clear a0 a1 q0 aQ aY aN h1 h2 aA;go_upto_region 2 with(fail)
 generalize (w2.alloc (.cells #[.bool p.neg,.slice A1 n1 c1,.slice A2 n2 c2] 87))=w3 at *;have a0:=aR.cell 0;have a1:=aR.cell 1
 go_wp2_with fail
 refine(HR2.out w3 (hT.later aC)).mono ?_;rintro e w4 ⟨v4,rfl,⟨A3,n3,c3,A4,n4,c4,rfl,h3,h4⟩,aJ⟩;have aU:=Ad aC aJ;have bA:=(aT.below aJ aT.lt).alloc (.cells #[.bool q.neg,.slice A3 n3 c3,.slice A4 n4 c4] 87);have bE:CBlk (w4.alloc (.cells #[.bool q.neg,.slice A3 n3 c3,.slice A4 n4 c4] 87)) w4.heap.size #[.bool q.neg,.slice A3 n3 c3,.slice A4 n4 c4] 87:=CBlk.new _ _ _ _ rfl;have aA:Below w4.heap.size w4 (w4.alloc (.cells #[.bool q.neg,.slice A3 n3 c3,.slice A4 n4 c4] 87)):=Ac;have aF:=Ad aU aA;have bC:=(bI.later aJ).later aA;have bP:=(bX.later aJ).later aA;have cC:=h3.later aA;have cB:=h4.later aA;clear a0 a1 aR aT aC aJ aU bI bX h3 h4 aA;go_upto_region 3 with(fail)
 generalize (w4.alloc (.cells #[.bool q.neg,.slice A3 n3 c3,.slice A4 n4 c4] 87))=w5 at *;have aP:Below w.heap.size w (w5.alloc (.cells #[.int .i64 x,.int .i64 y] 27)):=aF.alloc aF.size _;have aI:Below w5.heap.size w5 (w5.alloc (.cells #[.int .i64 x,.int .i64 y] 27)):=Ac;have bZ:=bA.alloc (.cells #[.int .i64 x,.int .i64 y] 27);have bU:=bE.alloc (.cells #[.int .i64 x,.int .i64 y] 27);have bS:=bC.later aI;have bL:=bP.later aI;have bM:=cC.later aI;have bD:=cB.later aI
 go_wp2_with fail
 refine(za8 x y E HE.out w5 _ _ rfl).mono ?_;rintro e w6 ⟨rfl,rfl⟩;clear bA bE aF aI bC bP cC cB;generalize (w5.alloc (.cells #[.int .i64 x,.int .i64 y] 27))=w6 at *;have k6:=hst.later aP;generalize w2.heap.size=gx at *;generalize w4.heap.size=gy at *;go_upto_region 6 with(fail)
 go_region
 have aH:Below w6.heap.size w6 w6.drew:=(Below.refl _ _).drew;have bR:=Ad aP aH;have k7:=k6.later aH;have aO:=bZ.drew;have aM:=bU.drew;have bV:=bS.later aH;have cA:=bL.later aH;have bN:=bM.later aH;have bT:=bD.later aH;clear aH aP k6 bZ bU bS bL bM bD;generalize w6.drew=w7 at *;obtain⟨cK,xs,hx,bW⟩:=k7.kn;have aG:Below w7.heap.size w7 (w7.alloc (.cells #[.bool p.neg,.slice A1 n1 c1,.slice A2 n2 c2,.bool q.neg,.slice A3 n3 c3,.slice A4 n4 c4] 143)):=Ac;have kV:=k7.later aG;have aK:=hx.alloc (.cells #[.bool p.neg,.slice A1 n1 c1,.slice A2 n2 c2,.bool q.neg,.slice A3 n3 c3,.slice A4 n4 c4] 143);have bF:CBlk (w7.alloc (.cells #[.bool p.neg,.slice A1 n1 c1,.slice A2 n2 c2,.bool q.neg,.slice A3 n3 c3,.slice A4 n4 c4] 143)) w7.heap.size #[.bool p.neg,.slice A1 n1 c1,.slice A2 n2 c2,.bool q.neg,.slice A3 n3 c3,.slice A4 n4 c4] 143:=CBlk.new _ _ _ _ rfl;have bQ:ItvS (w7.alloc (.cells #[.bool p.neg,.slice A1 n1 c1,.slice A2 n2 c2,.bool q.neg,.slice A3 n3 c3,.slice A4 n4 c4] 143)) (w7.alloc (.cells #[.bool p.neg,.slice A1 n1 c1,.slice A2 n2 c2,.bool q.neg,.slice A3 n3 c3,.slice A4 n4 c4] 143)).heap.size (.agg #[.bool p.neg,.slice A1 n1 c1,.slice A2 n2 c2,.bool q.neg,.slice A3 n3 c3,.slice A4 n4 c4]) p q:=⟨A1,n1,c1,A2,n2,c2,A3,n3,c3,A4,n4,c4,rfl,bV.later aG,cA.later aG,bN.later aG,bT.later aG⟩;have cE:=fun (v':Value) (V':World) ho hg hat hf=>zgz (W:=w7) (V:=w7.alloc (.cells #[.bool p.neg,.slice A1 n1 c1,.slice A2 n2 c2,.bool q.neg,.slice A3 n3 c3,.slice A4 n4 c4] 143)) (V':=V') (v':=v') (a:=#[.bool p.neg,.slice A1 n1 c1,.slice A2 n2 c2,.bool q.neg,.slice A3 n3 c3,.slice A4 n4 c4]) (p:=p) (q:=q) k7 hx bW aG bQ rfl ho hg hat hf
 have bG:=kV.apart;have bK:=kV.box;have bO:=kV.free;have cG:w7.heap.size≤(w7.alloc (.cells #[.bool p.neg,.slice A1 n1 c1,.slice A2 n2 c2,.bool q.neg,.slice A3 n3 c3,.slice A4 n4 c4] 143)).heap.size:=aG.size;have aZ:=bR.size;have b0:w7.cell? ⟨g,0,none⟩=some v:=k7.box.cell 0;have x0:w7.cell? ⟨gx,0,none⟩=some (.bool p.neg):=aO.cell 0;have x1:w7.cell? ⟨gx,1,none⟩=some (.slice A1 n1 c1):=aO.cell 1;have x2:w7.cell? ⟨gx,2,none⟩=some (.slice A2 n2 c2):=aO.cell 2;have y0:w7.cell? ⟨gy,0,none⟩=some (.bool q.neg):=aM.cell 0;have y1:w7.cell? ⟨gy,1,none⟩=some (.slice A3 n3 c3):=aM.cell 1;have y2:w7.cell? ⟨gy,2,none⟩=some (.slice A4 n4 c4):=aM.cell 2;have aE:∀ j u,[Value.bool p.neg,.slice A1 n1 c1,.slice A2 n2 c2,.bool q.neg,.slice A3 n3 c3,.slice A4 n4 c4][j]? = some u→(w7.alloc (.cells #[.bool p.neg,.slice A1 n1 c1,.slice A2 n2 c2,.bool q.neg,.slice A3 n3 c3,.slice A4 n4 c4] 143)).cell? ((⟨w7.heap.size,0,none⟩:Addr).add j)=some u:=fun j u hu=>by
  have e2:(⟨w7.heap.size,0,none⟩:Addr).add j=⟨w7.heap.size,j,none⟩:=by unfold Addr.add;split<;>simp_all
  rw[e2,bF.cell j]
  simpa using hu
 have cF:=Aa cE;have cJ:=Aa aE;have aW:=Aa aK;have cI:=Aa bO;have cL:=Aa bG;have bY:=Aa bK;have cR:=hB;clear cE aE aK bO bG bK kV hx bW cK bQ bF k7 hst bV cA bN bT aO aM;obtain⟨i0,cM,cH,cP,cO⟩:=info_parts zim
 go_wp2_with (at_builtin;refine zcY rfl _ _ 139 rfl B 143 i0 _ 6 112 Tryz.underlying139 cM cH cP cO rfl (by decide) (zbc _ _ _ _ _ _ _ _ _ _ _ _ _ _) v n xs rfl aW.out cI.out ⟨w7.heap.size,0,none⟩ 1 1 [Value.bool p.neg,.slice A1 n1 c1,.slice A2 n2 c2,.bool q.neg,.slice A3 n3 c3,.slice A4 n4 c4] (by decide) rfl rfl cJ.out ?ca1 ?ca2 ?ca3 ?ca4 ?ca5 ?_)
 case ca1=>exact⟨rfl,rfl,rfl,rfl,rfl,rfl⟩
 case ca3=>have:=HN.out;unfold maxLen;omega
 case ca4=>have:=HN.out;omega
 case ca5=>have:=HN.out;omega
 intro v' w9 aV aX aL bB;have aD:v'.ownBlock=v.ownBlock∨v'.ownBlock=some (w7.alloc (.cells #[.bool p.neg,.slice A1 n1 c1,.slice A2 n2 c2,.bool q.neg,.slice A3 n3 c3,.slice A4 n4 c4] 143)).heap.size:=by simpa[Value.ownBlock] using aL
 have bH:=cF.out v' w9 aV aX aD bB;have aS:=bY.out.grown aX bY.out.lt (fun e=>cL.out e);have z0:w9.cell? ⟨g,0,none⟩=some v:=aS.cell 0;have z1:=aS.frozen 0;obtain⟨A9,c9,rfl,_,_,_⟩:=zcF aV;have bJ:=Aa bH;clear bH aS aV aX aL aD bB;go_wp2
 go_ret;exact⟨rfl,⟨_,bJ.out.1⟩,(bR.mono hB1).trans (bJ.out.2 B (Nat.le_trans hB1 aZ) (Nat.le_refl _) hB)⟩
theorem zoz(ii x y:Int)(p q:Q)(X Y:ByteArray)(g B k n:Nat)(v:Value)(ks:List (Q × Q))(w:World)(hT:Tabs w)(hB1:B≤w.heap.size)(hB:B≤g)(hst:KState w B g n ks v)(HX:Hid (x=0∧y=0))(HN:Hid (n<64))(HI:Hid (ii=(n:Int)∧n=k+1∧k<64))
 (o oo:Q)(hk:Hid (ks[k]? = some (o,oo)))(HO:Hid (0<rcmp p o))(lp:LenQ p 268435456)(lq:LenQ o 268435456)
 (HR1:Hid (∀ W,Tabs W→Calls Tryz.prog 59 #[.string X] W (zaC W p x)))(HR2:Hid (∀ W,Tabs W→Calls Tryz.prog 59 #[.string Y] W (zaC W q y))) :
  Calls Tryz.prog 169 #[.int .i64 ii,.agg #[.string X,.string Y],.pointer (some ⟨g,0,none⟩)] w fun e w'=>e = .returned (.int .i64 0)∧(∃ v',KState w' B g (n+1) (ks++[(p,q)]) v')∧Below B w w':=by
 obtain⟨E,hE⟩:∃ E,E=if x≠0 then x else y:=⟨_,rfl⟩
 have HE:=Aa hE;have dO:(E != 0)=false:=by rw[hE,HX.out.1,HX.out.2];rfl
 have HC:=Aa (fun v u W h1 h2=>zbp p o v u W h1 h2 lp lq);obtain⟨r,hr⟩:∃ r,r=rcmp p o:=⟨_,rfl⟩;rw[←hr] at HC HO;have d1:decide (r≤0)=false:=decide_eq_false (by have:=HO.out;omega);have d2:decide (0<ii)=true:=decide_eq_true (by have:=HI.out;omega);have d3:wrap64 (ii-1)=(k:Int):=by rw[IntWalk.wrap64_in _ (by have:=HI.out;omega)];have:=HI.out;omega
 have d4:IntKind.i64.wrap (ii-1)=(k:Int):=by rw[IntWalk.i64_in _ (by have:=HI.out;omega)];have:=HI.out;omega
 have dP:(0:Int)≤(k:Int):=by omega
 have dM:(k:Int)<(n:Int):=by have:=HI.out;omega
 clear hE hr lp lq;have aX:Below w.heap.size w (w.alloc (.cells #[.string X,.string Y] 70)):=Ac;have q0:CBlk (w.alloc (.cells #[.string X,.string Y] 70)) w.heap.size #[.string X,.string Y] 70:=CBlk.new _ _ _ _ rfl;go_enter Tryz.func169,Tryz.ntmps169
 go_upto_region 1 with(fail)
 generalize (w.alloc (.cells #[.string X,.string Y] 70))=W at *;have a0:=q0.cell 0;have a1:=q0.cell 1
 go_wp2_with fail
 refine(HR1.out W (hT.later aX)).mono ?_;rintro e w2 ⟨v2,rfl,⟨A1,n1,c1,A2,n2,c2,rfl,h1,h2⟩,bL⟩;have aT:=Ad aX bL;have bA:=(q0.below bL q0.lt).alloc (.cells #[.bool p.neg,.slice A1 n1 c1,.slice A2 n2 c2] 87);have aC:Below w2.heap.size w2 (w2.alloc (.cells #[.bool p.neg,.slice A1 n1 c1,.slice A2 n2 c2] 87)):=Ac;have bH:CBlk (w2.alloc (.cells #[.bool p.neg,.slice A1 n1 c1,.slice A2 n2 c2] 87)) w2.heap.size #[.bool p.neg,.slice A1 n1 c1,.slice A2 n2 c2] 87:=CBlk.new _ _ _ _ rfl;have aD:=Ad aT aC;have bO:=h1.later aC;have bS:=h2.later aC;have dL:=aT.size;clear a0 a1 q0 aX bL aT h1 h2 aC;go_upto_region 2 with(fail)
 generalize (w2.alloc (.cells #[.bool p.neg,.slice A1 n1 c1,.slice A2 n2 c2] 87))=w3 at *;have a0:=bA.cell 0;have a1:=bA.cell 1
 go_wp2_with fail
 refine(HR2.out w3 (hT.later aD)).mono ?_;rintro e w4 ⟨v4,rfl,⟨A3,n3,c3,A4,n4,c4,rfl,h3,h4⟩,aO⟩;have aY:=Ad aD aO;have cB:=(bH.below aO bH.lt).alloc (.cells #[.bool q.neg,.slice A3 n3 c3,.slice A4 n4 c4] 87);have cO:CBlk (w4.alloc (.cells #[.bool q.neg,.slice A3 n3 c3,.slice A4 n4 c4] 87)) w4.heap.size #[.bool q.neg,.slice A3 n3 c3,.slice A4 n4 c4] 87:=CBlk.new _ _ _ _ rfl;have aC:Below w4.heap.size w4 (w4.alloc (.cells #[.bool q.neg,.slice A3 n3 c3,.slice A4 n4 c4] 87)):=Ac;have aM:=Ad aY aC;have cN:=(bO.later aO).later aC;have cJ:=(bS.later aO).later aC;have cZ:=h3.later aC;have cL:=h4.later aC;clear a0 a1 bA bH aD aO aY bO bS h3 h4 aC;go_upto_region 3 with(fail)
 generalize (w4.alloc (.cells #[.bool q.neg,.slice A3 n3 c3,.slice A4 n4 c4] 87))=w5 at *;have aU:Below w.heap.size w (w5.alloc (.cells #[.int .i64 x,.int .i64 y] 27)):=aM.alloc aM.size _;have aP:Below w5.heap.size w5 (w5.alloc (.cells #[.int .i64 x,.int .i64 y] 27)):=Ac;have aN:=cB.alloc (.cells #[.int .i64 x,.int .i64 y] 27);have bB:=cO.alloc (.cells #[.int .i64 x,.int .i64 y] 27);have bI:=cN.later aP;have bG:=cJ.later aP;have bY:=cZ.later aP;have cF:=cL.later aP
 go_wp2_with fail
 refine(za8 x y E HE.out w5 _ _ rfl).mono ?_;rintro e w6 ⟨rfl,rfl⟩;clear cB cO aM aP cN cJ cZ cL;generalize (w5.alloc (.cells #[.int .i64 x,.int .i64 y] 27))=w6 at *;have k6:=hst.later aU;generalize w2.heap.size=gx at *;generalize w4.heap.size=gy at *;obtain⟨gk,aE,rfl,_,aV,_⟩:∃ gk aE,v = .slice (some ⟨gk,0,none⟩) n aE∧B≤gk∧gk<w6.heap.size∧v.ownBlock=some gk:=by
  rcases k6.kn.form with⟨_,h⟩ | h
  ·have:=HI.out;omega
  ·exact h
 obtain⟨K1,m1,e1,K2,m2,e2,K3,m3,e3,K4,m4,e4,aW,r1,r2,_,_⟩:=k6.kn.at_ hk.out;have y0:w6.cell? ⟨gk,k*6,none⟩=some (.bool o.neg):=aW 0 _ rfl;have y1:w6.cell? ⟨gk,k*6+1,none⟩=some (.slice K1 m1 e1):=aW 1 _ rfl;have y2:w6.cell? ⟨gk,k*6+2,none⟩=some (.slice K2 m2 e2):=aW 2 _ rfl;clear aW;have aJ:Below w6.heap.size w6 w6.drew:=(Below.refl _ _).drew;have aG:=Aa (HC.out _ _ w6.drew (RatS.mk (q:=p) (bI.later aJ) (bG.later aJ)) (RatS.mk (q:=o) (r1.later aJ) (r2.later aJ)));go_upto_region 6 with(fail)
 have cU:w6.drew.cell? ⟨gx,0,none⟩=some (.bool p.neg):=aN.cell 0;have bP:w6.drew.cell? ⟨gx,1,none⟩=some (.slice A1 n1 c1):=aN.cell 1;have cC:w6.drew.cell? ⟨gx,2,none⟩=some (.slice A2 n2 c2):=aN.cell 2;have bW:w6.drew.cell? ⟨g,0,none⟩=some (.slice (some ⟨gk,0,none⟩) n aE):=k6.box.cell 0;have bF:w6.drew.cell? ⟨gk,k*6,none⟩=some (.bool o.neg):=y0;have bE:w6.drew.cell? ⟨gk,k*6+1,none⟩=some (.slice K1 m1 e1):=y1;have bK:w6.drew.cell? ⟨gk,k*6+2,none⟩=some (.slice K2 m2 e2):=y2;clear y0 y1 y2
 go_region_held3 (fun w'=>w'.cell? ⟨gx,0,none⟩=some (.bool p.neg)∧w'.cell? ⟨gx,1,none⟩=some (.slice A1 n1 c1)∧w'.cell? ⟨gx,2,none⟩=some (.slice A2 n2 c2)∧w'.cell? ⟨g,0,none⟩=some (.slice (some ⟨gk,0,none⟩) n aE)∧w'.cell? ⟨gk,k*6,none⟩=some (.bool o.neg)∧w'.cell? ⟨gk,k*6+1,none⟩=some (.slice K1 m1 e1)∧w'.cell? ⟨gk,k*6+2,none⟩=some (.slice K2 m2 e2))
  (first | with_reducible exact⟨cU,bP,cC,bW,bF,bE,bK⟩ | with_reducible exact⟨bN,cV,cT,bV,cI,cR,cE⟩)
  (first | (go_at_call 81;refine aG.out.mono ?_;rintro e w7 ⟨rfl,aH⟩;have aL:=aN.drew.below aH aN.lt;have k7:=(k6.later aJ).later aH;have bN:w7.cell? ⟨gx,0,none⟩=some (.bool p.neg):=aL.cell 0;have cV:w7.cell? ⟨gx,1,none⟩=some (.slice A1 n1 c1):=aL.cell 1;have cT:w7.cell? ⟨gx,2,none⟩=some (.slice A2 n2 c2):=aL.cell 2;have bV:w7.cell? ⟨g,0,none⟩=some (.slice (some ⟨gk,0,none⟩) n aE):=k7.box.cell 0;have cI:w7.cell? ⟨gk,k*6,none⟩=some (.bool o.neg):=(aH.cell aV).trans bF;have cR:w7.cell? ⟨gk,k*6+1,none⟩=some (.slice K1 m1 e1):=(aH.cell aV).trans bE;have cE:w7.cell? ⟨gk,k*6+2,none⟩=some (.slice K2 m2 e2):=(aH.cell aV).trans bK))
 have aA:=Ad aJ aH;have bQ:=Ad aU aA;have aS:=bB.drew.below aH bB.lt;have cW:=bI.later aA;have bT:=bG.later aA;have bZ:=bY.later aA;have bR:=cF.later aA;clear aJ aH aA aU k6 aN bB bI bG bY cF bN cV cT bV cI cR cE cU bP cC bW bF bE bK r1 r2 aG HC aV d1 d2 d3 d4;obtain⟨dK,xs,hx,cK⟩:=k7.kn;have aK:Below w7.heap.size w7 (w7.alloc (.cells #[.bool p.neg,.slice A1 n1 c1,.slice A2 n2 c2,.bool q.neg,.slice A3 n3 c3,.slice A4 n4 c4] 143)):=Ac;have kV:=k7.later aK;have aR:=hx.alloc (.cells #[.bool p.neg,.slice A1 n1 c1,.slice A2 n2 c2,.bool q.neg,.slice A3 n3 c3,.slice A4 n4 c4] 143);have cP:CBlk (w7.alloc (.cells #[.bool p.neg,.slice A1 n1 c1,.slice A2 n2 c2,.bool q.neg,.slice A3 n3 c3,.slice A4 n4 c4] 143)) w7.heap.size #[.bool p.neg,.slice A1 n1 c1,.slice A2 n2 c2,.bool q.neg,.slice A3 n3 c3,.slice A4 n4 c4] 143:=CBlk.new _ _ _ _ rfl;have cA:ItvS (w7.alloc (.cells #[.bool p.neg,.slice A1 n1 c1,.slice A2 n2 c2,.bool q.neg,.slice A3 n3 c3,.slice A4 n4 c4] 143)) (w7.alloc (.cells #[.bool p.neg,.slice A1 n1 c1,.slice A2 n2 c2,.bool q.neg,.slice A3 n3 c3,.slice A4 n4 c4] 143)).heap.size (.agg #[.bool p.neg,.slice A1 n1 c1,.slice A2 n2 c2,.bool q.neg,.slice A3 n3 c3,.slice A4 n4 c4]) p q:=⟨A1,n1,c1,A2,n2,c2,A3,n3,c3,A4,n4,c4,rfl,cW.later aK,bT.later aK,bZ.later aK,bR.later aK⟩;have bU:=fun (v':Value) (V':World) ho hg hat hf=>zgz (W:=w7) (V:=w7.alloc (.cells #[.bool p.neg,.slice A1 n1 c1,.slice A2 n2 c2,.bool q.neg,.slice A3 n3 c3,.slice A4 n4 c4] 143)) (V':=V') (v':=v') (a:=#[.bool p.neg,.slice A1 n1 c1,.slice A2 n2 c2,.bool q.neg,.slice A3 n3 c3,.slice A4 n4 c4]) (p:=p) (q:=q) k7 hx cK aK cA rfl ho hg hat hf
 have cG:=kV.apart;have cH:=kV.box;have cS:=kV.free;have dI:w7.heap.size≤(w7.alloc (.cells #[.bool p.neg,.slice A1 n1 c1,.slice A2 n2 c2,.bool q.neg,.slice A3 n3 c3,.slice A4 n4 c4] 143)).heap.size:=aK.size;have bM:=bQ.size;have b0:w7.cell? ⟨g,0,none⟩=some (Value.slice (some ⟨gk,0,none⟩) n aE):=k7.box.cell 0;have x0:w7.cell? ⟨gx,0,none⟩=some (.bool p.neg):=aL.cell 0;have x1:w7.cell? ⟨gx,1,none⟩=some (.slice A1 n1 c1):=aL.cell 1;have x2:w7.cell? ⟨gx,2,none⟩=some (.slice A2 n2 c2):=aL.cell 2;have y0:w7.cell? ⟨gy,0,none⟩=some (.bool q.neg):=aS.cell 0;have y1:w7.cell? ⟨gy,1,none⟩=some (.slice A3 n3 c3):=aS.cell 1;have y2:w7.cell? ⟨gy,2,none⟩=some (.slice A4 n4 c4):=aS.cell 2;have aI:∀ j u,[Value.bool p.neg,.slice A1 n1 c1,.slice A2 n2 c2,.bool q.neg,.slice A3 n3 c3,.slice A4 n4 c4][j]? = some u→(w7.alloc (.cells #[.bool p.neg,.slice A1 n1 c1,.slice A2 n2 c2,.bool q.neg,.slice A3 n3 c3,.slice A4 n4 c4] 143)).cell? ((⟨w7.heap.size,0,none⟩:Addr).add j)=some u:=fun j u hu=>by
  have e2:(⟨w7.heap.size,0,none⟩:Addr).add j=⟨w7.heap.size,j,none⟩:=by unfold Addr.add;split<;>simp_all
  rw[e2,cP.cell j]
  simpa using hu
 have dA:=Aa bU;have dF:=Aa aI;have aZ:=Aa aR;have dD:=Aa cS;have dJ:=Aa cG;have cY:=Aa cH;have dN:=hB;clear bU aI aR cS cG cH kV hx cK dK cA cP k7 hst cW bT bZ bR aL aS;obtain⟨i0,dG,dB,dC,dH⟩:=info_parts zim
 go_wp2_with (at_builtin;refine zcY rfl _ _ 139 rfl B 143 i0 _ 6 112 Tryz.underlying139 dG dB dC dH rfl (by decide) (zbc _ _ _ _ _ _ _ _ _ _ _ _ _ _) (Value.slice (some ⟨gk,0,none⟩) n aE) n xs rfl aZ.out dD.out ⟨w7.heap.size,0,none⟩ 1 1 [Value.bool p.neg,.slice A1 n1 c1,.slice A2 n2 c2,.bool q.neg,.slice A3 n3 c3,.slice A4 n4 c4] (by decide) rfl rfl dF.out ?ca1 ?ca2 ?ca3 ?ca4 ?ca5 ?_)
 case ca1=>exact⟨rfl,rfl,rfl,rfl,rfl,rfl⟩
 case ca3=>have:=HN.out;unfold maxLen;omega
 case ca4=>have:=HN.out;omega
 case ca5=>have:=HN.out;omega
 intro v' w9 bJ bC aQ cM;have aF:v'.ownBlock=(Value.slice (some ⟨gk,0,none⟩) n aE).ownBlock∨v'.ownBlock=some (w7.alloc (.cells #[.bool p.neg,.slice A1 n1 c1,.slice A2 n2 c2,.bool q.neg,.slice A3 n3 c3,.slice A4 n4 c4] 143)).heap.size:=by simpa[Value.ownBlock] using aQ
 have cQ:=dA.out v' w9 bJ bC aF cM;have bD:=cY.out.grown bC cY.out.lt (fun e=>dJ.out e);have z0:w9.cell? ⟨g,0,none⟩=some (Value.slice (some ⟨gk,0,none⟩) n aE):=bD.cell 0;have z1:=bD.frozen 0;obtain⟨A9,c9,rfl,_,_,_⟩:=zcF bJ;have bX:=Aa cQ;clear cQ bD bJ bC aQ aF cM;go_wp2
 go_ret;exact⟨rfl,⟨_,bX.out.1⟩,(bQ.mono hB1).trans (bX.out.2 B (Nat.le_trans hB1 bM) (Nat.le_refl _) hB)⟩
def PtsR (w:World) (B:Nat) (A:Option Addr) (n:Nat) (C:List (ByteArray × ByteArray)):Prop:=
 C.length=n∧(0<n→∃ ad,A=some ad∧ad.block<B∧∀ i (h:i<C.length),w.cell? ((ad.add (i*2)).add 0)=some (.string C[i].1)∧w.cell? ((ad.add (i*2)).add 1)=some (.string C[i].2))
theorem PtsR.below{w w':World}{B:Nat}{A:Option Addr}{n:Nat}{C:List (ByteArray × ByteArray)}(h:PtsR w B A n C)(hb:Below B w w'):PtsR w' B A n C:=by
 refine⟨h.1,fun h0 => ?_⟩;obtain⟨ad,e,aA,hc⟩:=h.2 h0;refine⟨ad,e,aA,fun i hi => ?_⟩;have hx:∀ p q:Nat,((ad.add p).add q).block<B:=fun p q=>by rw[zbe,zbe];exact aA
 exact⟨(hb.cell (hx _ _)).trans (hc i hi).1,(hb.cell (hx _ _)).trans (hc i hi).2⟩
def rdP (p:ByteArray × ByteArray):Q × Q:=(zaf p.1.data.toList,zaf p.2.data.toList)
def zc9:Option Q→List (ByteArray × ByteArray)→Int
 | _,[]=>0
 | o,p :: t=>if rowE o p.1.data.toList p.2.data.toList≠0 then rowE o p.1.data.toList p.2.data.toList else zc9 (some (zaf p.1.data.toList)) t
def tabE (l:List (ByteArray × ByteArray)):Int:=if l.length<1 then 12 else if 64<l.length then 5 else zc9 none l
def zdj (l:List (ByteArray × ByteArray)) (k:Nat):Option Q:=if k=0 then none else(l[k-1]?).map fun p=>zaf p.1.data.toList
theorem zqC(k:Nat)(X Y:ByteArray)(o:Option Q)(g B:Nat)(v:Value)(ks:List (Q × Q))(w:World)(hT:Tabs w)(hB1:B≤w.heap.size)(hB:B≤g)(hst:KState w B g k ks v)(hk:k<64)
 (ho:(k=0∧o=none)∨∃ j q qq,k=j+1∧o=some q∧ks[j]? = some (q,qq)∧LenQ q 268435456)(hX:X.size≤4294967296)(hY:Y.size≤4294967296) :
  Calls Tryz.prog 169 #[.int .i64 (k:Int),.agg #[.string X,.string Y],.pointer (some ⟨g,0,none⟩)] w fun e w'=>e = .returned (.int .i64 (rowE o X.data.toList Y.data.toList))∧Below B w w' ∧
   ∃ A' m' c',CBlk w' g #[.slice A' m' c'] 139∧(rowE o X.data.toList Y.data.toList=0→KState w' B g (k+1) (ks++[rdP (X,Y)]) (.slice A' m' c')):=by
 have aD:Hid (∀ W,Tabs W→Calls Tryz.prog 59 #[.string X] W (zaC W (zaf X.data.toList) (zan X.data.toList))):=fun W hT=>zca X W hT hX
 have aE:Hid (∀ W,Tabs W→Calls Tryz.prog 59 #[.string Y] W (zaC W (zaf Y.data.toList) (zan Y.data.toList))):=fun W hT=>zca Y W hT hY
 have aI:∃ A' m' c',v = .slice A' m' c':=by
  rcases hst.kn.form with⟨e,_⟩ | ⟨gk,aJ,e,_⟩
  ·exact⟨_,_,_,e⟩
  ·exact⟨_,_,_,e⟩
 have same:∀ w',Below w.heap.size w w'→∃ A' m' c',CBlk w' g #[.slice A' m' c'] 139:=fun w' hb=>by
  obtain⟨A',m',c',rfl⟩:=aI;exact⟨A',m',c',(hst.later hb).box⟩
 have aC:∀ w',(∃ v',KState w' B g (k+1) (ks++[(zaf X.data.toList,zaf Y.data.toList)]) v')→∃ A' m' c',CBlk w' g #[.slice A' m' c'] 139∧KState w' B g (k+1) (ks++[rdP (X,Y)]) (.slice A' m' c'):=fun w' ⟨v',h⟩=>by
  rcases h.kn.form with⟨rfl,_⟩ | ⟨gk,aJ,rfl,_⟩
  ·exact⟨_,_,_,h.box,h⟩
  ·exact⟨_,_,_,h.box,h⟩
 by_cases hx:zan X.data.toList=0
 ·by_cases hy:zan Y.data.toList=0
  ·rcases ho with⟨rfl,rfl⟩ | ⟨j,q,qq,rfl,rfl,hj,aH⟩
   ·have hr:rowE none X.data.toList Y.data.toList=0:=by unfold rowE;rw[if_neg (by omega),if_neg (by omega)]
    rw[hr];refine(znS ((0:Nat):Int) _ _ _ _ X Y g B 0 v ks w hT hB1 hB hst ⟨hx,hy⟩ (show(0:Nat)<64 by omega) rfl aD aE).mono ?_;rintro e w' ⟨rfl,aF,aA⟩;obtain⟨A',m',c',h1,h2⟩:=aC w' aF;exact⟨rfl,aA,A',m',c',h1,fun _=>h2⟩
   ·have lp:LenQ (zaf X.data.toList) 268435456:=by
     have h9:=@zaE X.data.toList hx;exact⟨by omega,by omega⟩
    by_cases hr:rcmp (zaf X.data.toList) q≤0
    ·have aG:rowE (some q) X.data.toList Y.data.toList=11:=by unfold rowE;rw[if_neg (by omega),if_neg (by omega)];exact if_pos hr
     rw[aG];refine(zmw ((j+1:Nat):Int) _ _ _ _ X Y g B j (j+1) v ks w hT hst ⟨hx,hy⟩ ⟨rfl,rfl,by omega⟩ q qq hj hr lp aH aD aE).mono ?_;rintro e w' ⟨rfl,aA⟩;obtain⟨A',m',c',h1⟩:=same w' aA;exact⟨rfl,aA.mono hB1,A',m',c',h1,(fun h=>by omega)⟩
    ·have aG:rowE (some q) X.data.toList Y.data.toList=0:=by unfold rowE;rw[if_neg (by omega),if_neg (by omega)];exact if_neg hr
     rw[aG];refine(zoz ((j+1:Nat):Int) _ _ _ _ X Y g B j (j+1) v ks w hT hB1 hB hst ⟨hx,hy⟩ hk ⟨rfl,rfl,by omega⟩ q qq hj (show 0<rcmp (zaf X.data.toList) q by omega) lp aH aD aE).mono ?_;rintro e w' ⟨rfl,aF,aA⟩;obtain⟨A',m',c',h1,h2⟩:=aC w' aF;exact⟨rfl,aA,A',m',c',h1,fun _=>h2⟩
  ·have hr:rowE o X.data.toList Y.data.toList=zan Y.data.toList:=by unfold rowE;rw[if_neg (by omega),if_pos hy]
   rw[hr];refine(zmT (k:Int) _ _ (zan Y.data.toList) _ _ X Y g B k v ks w hT hst (show zan Y.data.toList=if zan X.data.toList≠0 then zan X.data.toList else zan Y.data.toList by rw[if_neg (by omega)]) hy aD aE).mono ?_
   rintro e w' ⟨rfl,aA⟩;obtain⟨A',m',c',h1⟩:=same w' aA;exact⟨rfl,aA.mono hB1,A',m',c',h1,fun h=>absurd h hy⟩
 ·have hr:rowE o X.data.toList Y.data.toList=zan X.data.toList:=by unfold rowE;rw[if_pos hx]
  rw[hr];refine(zmT (k:Int) _ _ (zan X.data.toList) _ _ X Y g B k v ks w hT hst (show zan X.data.toList=if zan X.data.toList≠0 then zan X.data.toList else zan Y.data.toList by rw[if_pos hx]) hx aD aE).mono ?_
  rintro e w' ⟨rfl,aA⟩;obtain⟨A',m',c',h1⟩:=same w' aA;exact⟨rfl,aA.mono hB1,A',m',c',h1,fun h=>absurd h hx⟩
theorem zmP(args:Array Value)(w:World):(callFunc 169 args).run Tryz.prog w = .ok (.enter 169 args) w:=by kernel_rfl
theorem zlC:(Tryz.prog.info? 70).map (·.size)=some 2:=by kernel_rfl
theorem zgF{P:Program}{ops:Array Oper}{rest:List Oper}{op:Oper}{a:Act}{w:World}{Q:Exit→Act→World→Prop}(hgd:op.guard=none)(ty:TypeId)(x:Operand)(ho:op.op = .load ty x)
 (ad:Addr)(hx:a.eval x = .pointer (some ad))(cs:List Value)(d:TypeDesc)(hc:∀ j v,cs[j]? = some v→w.cell? (ad.add j)=some v)
 (hu:P.underlying ty=some d)(hd:d.isRow=true)(hi:(P.info? ty).map (·.size)=some cs.length)
 (h:wpList P ops Q rest (a.put op.dst (.agg cs.toArray)) w):wpList P ops Q (op :: rest) a w:=by
 have hl:(loadCells ad cs.length).run P w = .ok cs.toArray w:=run_loadCells_list (P:=P) w ad cs hc;have hv:(loadVar ty ad).run P w = .ok (.agg cs.toArray) w:=by
  cases hq:P.info? ty with
  | none=>simp[hq] at hi
  | some i=>
   have hs:i.size=cs.length:=by simpa[hq] using hi
   have aA:(isAgg ty).run P w = .ok true w:=by
    unfold isAgg;rw[Sem.run_bind,run_underlying hu w]
    cases d<;>simp_all
   simp[loadVar,Sem.run_bind,aA,sizeOf,typeInfo,hq,hs,hl]
 refine wpList_plain hgd fun _ hK => ?_
 unfold Oper.wp execOp;simp only[ho,hx,Instr.loadAt,Instr.sureAddr,Sem.run_bind,Sem.run_pure,Result.andThen_ok,hv]
 exact hK _ _ h
theorem zla{l:List (ByteArray × ByteArray)}{k:Nat}(h:k<l.length)(he:zc9 none l=zc9 (zdj l k) (l.drop k)) :
  (rowE (zdj l k) l[k].1.data.toList l[k].2.data.toList≠0→zc9 none l=rowE (zdj l k) l[k].1.data.toList l[k].2.data.toList) ∧
  (rowE (zdj l k) l[k].1.data.toList l[k].2.data.toList=0→zc9 none l=zc9 (zdj l (k+1)) (l.drop (k+1))∧zan l[k].1.data.toList=0):=by
 rw[List.drop_eq_getElem_cons h] at he;have hc:zc9 (zdj l k) (l[k] :: l.drop (k+1))=if rowE (zdj l k) l[k].1.data.toList l[k].2.data.toList≠0 then rowE (zdj l k) l[k].1.data.toList l[k].2.data.toList else zc9 (some (zaf l[k].1.data.toList)) (l.drop (k+1)):=by
  cases zdj l k<;>rfl
 rw[hc] at he
 constructor
 ·intro h0
  rw[he,if_pos h0]
 ·intro h0
  refine⟨?_,?_⟩
  ·rw[he,if_neg (by omega)]
   have:zdj l (k+1)=some (zaf l[k].1.data.toList):=by
    unfold zdj;rw[if_neg (by omega),Nat.add_sub_cancel,List.getElem?_eq_getElem h];rfl
   rw[this]
  ·unfold rowE at h0
   by_cases hx:zan l[k].1.data.toList=0
   ·exact hx
   ·rw[if_pos hx] at h0
    exact h0
theorem zlK(A:Option Addr)(n c g:Nat)(l:List (ByteArray × ByteArray))(w0 w:World)(hT:Tabs w0)(hb0:Below w0.heap.size w0 w)(hB:w0.heap.size≤g)(h:PtsR w0 w0.heap.size A n l)(hsz:∀ p ∈ l,p.1.size≤4294967296∧p.2.size≤4294967296)
 (hn1:1≤n)(hn:n≤64)(hst:KState w w0.heap.size g 0 [] (.slice none 0 0)) :
  Calls Tryz.prog 168 #[.slice A n c,.int .i64 1,.int .i64 64,.func (.func 169) #[] #[.pointer (some ⟨g,0,none⟩)]] w fun e w'=>e = .returned (.int .i64 (zc9 none l))∧Below w0.heap.size w0 w' ∧
   ∃ A' m' c',CBlk w' g #[.slice A' m' c'] 139∧(zc9 none l=0→KState w' w0.heap.size g n (l.map rdP) (.slice A' m' c')):=by
 have bJ:=Aa hsz;have aF:l.length=n:=h.1;have aQ:=Aa aF;have bL:decide ((n:Int)<1)=false:=decide_eq_false (by omega);have bK:decide ((64:Int)<(n:Int))=false:=decide_eq_false (by omega);have eg:=zmP;obtain⟨R,hR⟩:∃ R,R=zc9 none l:=⟨_,rfl⟩;have bO:=Aa (show R=zc9 (zdj l 0) (l.drop 0) from hR);have aK:=Aa hR;rw[←hR];clear hsz aF hR;go_enter Tryz.func168,Tryz.ntmps168
 go_wp2
 go_loopg [22] n (fun m s W=>∃ k:Nat,k≤n∧s = .int .i64 k∧n-k≤m∧(∃ A' m' c',KState W w0.heap.size g k ((l.take k).map rdP) (.slice A' m' c'))∧Below w0.heap.size w0 W∧zc9 none l=zc9 (zdj l k) (l.drop k)∧(0<k→∀ p,l[k-1]? = some p→zan p.1.data.toList=0))
 case atStart=>exact⟨0,Nat.zero_le _,rfl,by omega,⟨none,0,0,hst⟩,hb0,rfl,(fun h=>absurd h (by omega))⟩
 case round=>
  obtain⟨k,hk,rfl,hm,⟨A',m',c',aH⟩,aC,aY,aS⟩:=hrel;have aW:=Aa aY;have bI:=Aa aS;clear aY aS
  by_cases h0:k<n
  ·have aG:k<l.length:=by have:=aQ.out;omega
   obtain⟨ad,rfl,bN,bB⟩:=(h.below aC).2 (by omega);obtain⟨aP,aN⟩:=bB k aG;have aA:=zla aG aW.out;have hs:=bJ.out l[k] (List.getElem_mem aG);have aM:(l.take (k+1)).map rdP=(l.take k).map rdP++[rdP (l[k].1,l[k].2)]:=by
    rw[List.take_succ_eq_append_getElem aG,List.map_append];rfl
   have bA:l[k]? = some l[k]:=List.getElem?_eq_getElem aG;have ho:(k=0∧zdj l k=none)∨∃ j q qq,k=j+1∧zdj l k=some q∧((l.take k).map rdP)[j]? = some (q,qq)∧LenQ q 268435456:=by
    rcases Nat.eq_zero_or_pos k with h1 | h1
    ·exact .inl ⟨h1,by unfold zdj;rw[if_pos h1]⟩
    ·have hj:k-1<l.length:=by omega
     have hz:=bI.out h1 l[k-1] (List.getElem?_eq_getElem hj);refine .inr ⟨k-1,zaf l[k-1].1.data.toList,zaf l[k-1].2.data.toList,by omega,?_,?_,?_⟩
     ·unfold zdj
      rw[if_neg (by omega),List.getElem?_eq_getElem hj];rfl
     ·rw[List.getElem?_map,List.getElem?_take,if_pos (by omega),List.getElem?_eq_getElem hj]
      rfl
     ·have h9:=@zaE _ hz
      exact⟨by omega,by omega⟩
   generalize l[k]=pt at *;obtain⟨X,Y⟩:=pt
   dsimp only at aP aN aA hs aM
   have aZ:∀ j v,[Value.string X,Value.string Y][j]? = some v→wr.cell? ((ad.add (k*2)).add j)=some v:=fun j v hj=>by
    match j,hj with
    | 0,hj=>injection hj with hj;subst hj;exact aP
    | 1,hj=>injection hj with hj;subst hj;exact aN
    | j+2,hj=>simp at hj
   have bE:=Aa aZ;have aJ:Below wr.heap.size wr (wr.alloc (.cells #[.string X,.string Y] 70)):=Ac;have aT:CBlk (wr.alloc (.cells #[.string X,.string Y] 70)) wr.heap.size #[.string X,.string Y] 70:=CBlk.new _ _ _ _ rfl;have bG:=aC.size;have aI:=aC.trans (aJ.mono bG);have aD:=zqC k X Y (zdj l k) g w0.heap.size _ _ _ (hT.later aI) aI.size hB (aH.later aJ) (by omega) ho hs.1 hs.2;have aE:=Aa aD;have aO:=Aa aA;have bH:=Aa aM;have bD:=Aa bA;have aX:=Aa aT;have aV:=Aa aI;clear aZ aP aN aA hs aM bA ho bB aJ aT aI aD aH;go_upto_region 8 with(first
    |(refine zgF rfl 70 (.tmp 25) rfl (ad.add (k*2)) rfl [Value.string X,Value.string Y] _ bE.out Tryz.underlying70 rfl zlC ?_))
   generalize wr.alloc (.cells #[.string X,.string Y] 70)=w3 at *;have p0:w3.cell? ⟨wr.heap.size,0,none⟩=some (.string X):=aX.out.cell 0;have p1:w3.cell? ⟨wr.heap.size,1,none⟩=some (.string Y):=aX.out.cell 1;generalize rowE (zdj l k) X.data.toList Y.data.toList=rr at *
   by_cases hrr:rr=0
   ·subst hrr
    go_wp2_with (go_at_fn 169;refine aE.out.mono ?_;rintro e w4 ⟨rfl,aL,A9,m9,c9,aU,aR⟩)
    go_roundg (n-(k+1))
    case measure=>omega
    case rel=>exact⟨k+1,by omega,by go_num,Nat.le_refl _,⟨A9,m9,c9,by rw[bH.out];exact aR trivial⟩,aV.out.trans aL,(aO.out.2 trivial).1,fun _ p hp=>by
     rw[Nat.add_sub_cancel,bD.out] at hp;injection hp with hp
     subst hp;exact(aO.out.2 trivial).2⟩
   ·have bM:(rr != 0)=true:=by simpa using hrr
    have bC:=Aa (aO.out.1 hrr);have bF:=Aa hrr;clear hrr
    go_wp2_with (go_at_fn 169;refine aE.out.mono ?_;rintro e w4 ⟨rfl,aL,A9,m9,c9,aU,aR⟩)
    go_ret;exact⟨by rw[aK.out,bC.out];rfl,aV.out.trans aL,A9,m9,c9,aU,fun h=>absurd (bC.out.symm.trans (aK.out.symm.trans h)) bF.out⟩
  ·obtain rfl:n=k:=by omega
   have hz:Hid (R=0):=by
    have h9:=aK.out.trans aW.out;rw[List.drop_eq_nil_of_le (by have:=aQ.out;omega)] at h9
    cases zdj l n<;>exact h9
   rw[List.take_of_length_le (by have:=aQ.out;omega)] at aH;go_wp2
   go_ret;exact⟨by rw[hz.out];rfl,aC,A',m',c',aH.box,fun _=>aH⟩
theorem zjS(A:Option Addr)(n c g:Nat)(l:List (ByteArray × ByteArray))(w0 w:World)(hT:Tabs w0)(hb0:Below w0.heap.size w0 w)(hB:w0.heap.size≤g)(h:PtsR w0 w0.heap.size A n l)(hsz:∀ p ∈ l,p.1.size≤4294967296∧p.2.size≤4294967296)
 (hst:KState w w0.heap.size g 0 [] (.slice none 0 0)) :
  Calls Tryz.prog 168 #[.slice A n c,.int .i64 1,.int .i64 64,.func (.func 169) #[] #[.pointer (some ⟨g,0,none⟩)]] w fun e w'=>e = .returned (.int .i64 (tabE l))∧Below w0.heap.size w0 w' ∧
   ∃ A' m' c',CBlk w' g #[.slice A' m' c'] 139∧(tabE l=0→KState w' w0.heap.size g n (l.map rdP) (.slice A' m' c')):=by
 have aA:l.length=n:=h.1
 by_cases h1:n<1
 ·have e:tabE l=12:=by unfold tabE;rw[if_pos (by omega)]
  rw[e];have aD:decide ((n:Int)<1)=true:=decide_eq_true (by omega);have aC:=Aa hst.box;clear e aA h1 h hst hsz hT;go_enter Tryz.func168,Tryz.ntmps168
  go_wp2
  go_ret;exact⟨rfl,hb0,none,0,0,aC.out,(fun h=>by omega)⟩
 ·by_cases h2:64<n
  ·have e:tabE l=5:=by unfold tabE;rw[if_neg (by omega),if_pos (by omega)]
   rw[e];have aD:decide ((n:Int)<1)=false:=decide_eq_false (by omega);have aE:decide ((64:Int)<(n:Int))=true:=decide_eq_true (by omega);have aC:=Aa hst.box;clear e aA h1 h2 h hst hsz hT;go_enter Tryz.func168,Tryz.ntmps168
   go_wp2
   go_ret;exact⟨rfl,hb0,none,0,0,aC.out,(fun h=>by omega)⟩
  ·have e:tabE l=zc9 none l:=by unfold tabE;rw[if_neg (by omega),if_neg (by omega)]
   rw[e];exact zlK A n c g l w0 w hT hb0 hB h hsz (by omega) (by omega) hst
theorem zhD(A:Option Addr)(n c:Nat)(l:List (ByteArray × ByteArray))(w:World)(hT:Tabs w)(h:PtsR w w.heap.size A n l)(hsz:∀ p ∈ l,p.1.size≤4294967296∧p.2.size≤4294967296) :
  Calls Tryz.prog 110 #[.slice A n c] w fun e w'=>(∃ A' m' c',e = .returned (.tuple #[.slice A' m' c',.int .i64 (tabE l)])∧(tabE l=0→zc6 w' w.heap.size (.slice A' m' c') n (l.map rdP)))∧Below w.heap.size w w':=by
 have aC:Below w.heap.size w (w.alloc (.cells #[.slice none 0 0] 139)):=Ac;have q:CBlk (w.alloc (.cells #[.slice none 0 0] 139)) w.heap.size #[.slice none 0 0] 139:=CBlk.new _ _ _ _ rfl;have HL:=Aa (zjS A n c w.heap.size l w _ hT aC (Nat.le_refl _) h hsz ⟨q,zc6.nil _ _,Free.nil _⟩);generalize tabE l=E at *;clear q h hsz aC;go_enter Tryz.func110,Tryz.ntmps110
 go_wp2_with fail
 refine HL.out.mono ?_;rintro e w2 ⟨rfl,aD,A',m',c',aA,hk⟩;have b0:w2.cell? ⟨w.heap.size,0,none⟩=some (.slice A' m' c'):=aA.cell 0;have HK:=Aa hk;clear hk aA
 go_wp2_with fail
 go_ret2
 exact⟨⟨A',m',c',rfl,fun h=>(HK.out h).kn⟩,aD⟩
end Go.Proofs.YtbkgkoenppkhpaaGreatDoor
