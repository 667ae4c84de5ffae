/- Contract of the closure of readTable: a breakpoint that is right. -/
import Derived.Test.YtmkondcdejlhcaaGreatDoorBKn
import Derived.Deep.LoopGhost
set_option maxRecDepth 100000
set_option maxHeartbeats 4000000
namespace Go.Proofs.YtmkondcdejlhcaaGreatDoor
open Go.RowKit Bn
theorem zob (ii x y:Int) (p q:Q) (X Y:ByteArray) (g B n:Nat) (v:Value) (ks:List (Q × Q)) (w:World) (hT:Tabs w) (hB1:B≤w.heap.size) (hB:B≤g) (hst:KState w B g n ks v) (HX:Hid (x=0∧y=0)) (HN:Hid (n<64)) (HI:Hid (ii=0))
  (HR1:Hid (∀ W,Tabs W→Calls Tryz.prog 62 #[.string X] W (zax W p x))) (HR2:Hid (∀ W,Tabs W→Calls Tryz.prog 62 #[.string Y] W (zax W q y))) :
  Calls Tryz.prog 145 #[.int .i64 ii,.agg #[.string X,.string Y],.pointer (some ⟨g,0,none⟩)] w fun e w'=>e = .returned (.int .i64 0)∧(∃ v',KState w' B g (n+1) (ks++[(p,q)]) v')∧Below B w w':=by
 obtain ⟨E,hE⟩:∃ E,E=if x≠0 then x else y:=⟨_,rfl⟩
 have HE:=Aa hE;have cU:(E != 0)=false:=by rw [hE,HX.out.1,HX.out.2];rfl
 have d2:decide (0<ii)=false:=decide_eq_false (by have:=HI.out;omega);clear hE;have aQ:Below w.heap.size w (w.alloc (.cells #[.string X,.string Y] 57)):=Ac;have q0:CBlk (w.alloc (.cells #[.string X,.string Y] 57)) w.heap.size #[.string X,.string Y] 57:=CBlk.new _ _ _ _ rfl;go_enter Tryz.func145,Tryz.ntmps145
 go_upto_region 1 with (fail)
 generalize (w.alloc (.cells #[.string X,.string Y] 57))=W at *;have a0:=q0.cell 0;have a1:=q0.cell 1
 go_wp2_with fail
 refine (HR1.out W (hT.later aQ)).mono ?_;rintro e w2 ⟨v2,rfl,⟨A1,n1,c1,A2,n2,c2,rfl,h1,h2⟩,aU⟩;have aM:=Ad aQ aU;have aS:=(q0.below aU q0.lt).alloc (.cells #[.bool p.neg,.slice A1 n1 c1,.slice A2 n2 c2] 91);have aA:Below w2.heap.size w2 (w2.alloc (.cells #[.bool p.neg,.slice A1 n1 c1,.slice A2 n2 c2] 91)):=Ac;have aV:CBlk (w2.alloc (.cells #[.bool p.neg,.slice A1 n1 c1,.slice A2 n2 c2] 91)) w2.heap.size #[.bool p.neg,.slice A1 n1 c1,.slice A2 n2 c2] 91:=CBlk.new _ _ _ _ rfl;have aC:=Ad aM aA;have bW:=h1.later aA;have bZ:=h2.later aA;have cS:=aM.size;clear a0 a1 q0 aQ aU aM h1 h2 aA;go_upto_region 2 with (fail)
 generalize (w2.alloc (.cells #[.bool p.neg,.slice A1 n1 c1,.slice A2 n2 c2] 91))=w3 at *;have a0:=aS.cell 0;have a1:=aS.cell 1
 go_wp2_with fail
 refine (HR2.out w3 (hT.later aC)).mono ?_;rintro e w4 ⟨v4,rfl,⟨A3,n3,c3,A4,n4,c4,rfl,h3,h4⟩,aJ⟩;have aW:=Ad aC aJ;have bD:=(aV.below aJ aV.lt).alloc (.cells #[.bool q.neg,.slice A3 n3 c3,.slice A4 n4 c4] 91);have cE:CBlk (w4.alloc (.cells #[.bool q.neg,.slice A3 n3 c3,.slice A4 n4 c4] 91)) w4.heap.size #[.bool q.neg,.slice A3 n3 c3,.slice A4 n4 c4] 91:=CBlk.new _ _ _ _ rfl;have aA:Below w4.heap.size w4 (w4.alloc (.cells #[.bool q.neg,.slice A3 n3 c3,.slice A4 n4 c4] 91)):=Ac;have aF:=Ad aW aA;have bH:=(bW.later aJ).later aA;have cC:=(bZ.later aJ).later aA;have cF:=h3.later aA;have bI:=h4.later aA;clear a0 a1 aS aV aC aJ aW bW bZ h3 h4 aA;go_upto_region 3 with (fail)
 generalize (w4.alloc (.cells #[.bool q.neg,.slice A3 n3 c3,.slice A4 n4 c4] 91))=w5 at *;have aO:Below w.heap.size w (w5.alloc (.cells #[.int .i64 x,.int .i64 y] 26)):=aF.alloc aF.size _;have aK:Below w5.heap.size w5 (w5.alloc (.cells #[.int .i64 x,.int .i64 y] 26)):=Ac;have bT:=bD.alloc (.cells #[.int .i64 x,.int .i64 y] 26);have cB:=cE.alloc (.cells #[.int .i64 x,.int .i64 y] 26);have bJ:=bH.later aK;have bM:=cC.later aK;have bV:=cF.later aK;have cA:=bI.later aK
 go_wp2_with fail
 refine (za7 x y E HE.out w5 _ _ rfl).mono ?_;rintro e w6 ⟨rfl,rfl⟩;clear bD cE aF aK bH cC cF bI;generalize (w5.alloc (.cells #[.int .i64 x,.int .i64 y] 26))=w6 at *;have k6:=hst.later aO;generalize w2.heap.size=gx at *;generalize w4.heap.size=gy at *;go_upto_region 6 with (fail)
 go_region
 have aG:Below w6.heap.size w6 w6.drew:=(Below.refl _ _).drew;have cG:=Ad aO aG;have k7:=k6.later aG;have aP:=bT.drew;have aN:=cB.drew;have cH:=bJ.later aG;have bS:=bM.later aG;have bQ:=bV.later aG;have bN:=cA.later aG;clear aG aO k6 bT cB bJ bM bV cA;generalize w6.drew=w7 at *;obtain ⟨cL,xs,hx,cI⟩:=k7.kn;have aH:Below w7.heap.size w7 (w7.alloc (.cells #[.bool p.neg,.slice A1 n1 c1,.slice A2 n2 c2,.bool q.neg,.slice A3 n3 c3,.slice A4 n4 c4] 121)):=Ac;have kV:=k7.later aH;have aI:=hx.alloc (.cells #[.bool p.neg,.slice A1 n1 c1,.slice A2 n2 c2,.bool q.neg,.slice A3 n3 c3,.slice A4 n4 c4] 121);have bG:CBlk (w7.alloc (.cells #[.bool p.neg,.slice A1 n1 c1,.slice A2 n2 c2,.bool q.neg,.slice A3 n3 c3,.slice A4 n4 c4] 121)) w7.heap.size #[.bool p.neg,.slice A1 n1 c1,.slice A2 n2 c2,.bool q.neg,.slice A3 n3 c3,.slice A4 n4 c4] 121:=CBlk.new _ _ _ _ rfl;have bO:ItvS (w7.alloc (.cells #[.bool p.neg,.slice A1 n1 c1,.slice A2 n2 c2,.bool q.neg,.slice A3 n3 c3,.slice A4 n4 c4] 121)) (w7.alloc (.cells #[.bool p.neg,.slice A1 n1 c1,.slice A2 n2 c2,.bool q.neg,.slice A3 n3 c3,.slice A4 n4 c4] 121)).heap.size (.agg #[.bool p.neg,.slice A1 n1 c1,.slice A2 n2 c2,.bool q.neg,.slice A3 n3 c3,.slice A4 n4 c4]) p q:=⟨A1,n1,c1,A2,n2,c2,A3,n3,c3,A4,n4,c4,rfl,cH.later aH,bS.later aH,bQ.later aH,bN.later aH⟩;have bP:=fun (v':Value) (V':World) ho hg hat hf=>zgo (W:=w7) (V:=w7.alloc (.cells #[.bool p.neg,.slice A1 n1 c1,.slice A2 n2 c2,.bool q.neg,.slice A3 n3 c3,.slice A4 n4 c4] 121)) (V':=V') (v':=v') (a:=#[.bool p.neg,.slice A1 n1 c1,.slice A2 n2 c2,.bool q.neg,.slice A3 n3 c3,.slice A4 n4 c4]) (p:=p) (q:=q) k7 hx cI aH bO rfl ho hg hat hf
 have bR:=kV.apart;have bF:=kV.box;have bC:=kV.free;have cK:w7.heap.size≤(w7.alloc (.cells #[.bool p.neg,.slice A1 n1 c1,.slice A2 n2 c2,.bool q.neg,.slice A3 n3 c3,.slice A4 n4 c4] 121)).heap.size:=aH.size;have aR:=cG.size;have b0:w7.cell? ⟨g,0,none⟩=some v:=k7.box.cell 0;have x0:w7.cell? ⟨gx,0,none⟩=some (.bool p.neg):=aP.cell 0;have x1:w7.cell? ⟨gx,1,none⟩=some (.slice A1 n1 c1):=aP.cell 1;have x2:w7.cell? ⟨gx,2,none⟩=some (.slice A2 n2 c2):=aP.cell 2;have y0:w7.cell? ⟨gy,0,none⟩=some (.bool q.neg):=aN.cell 0;have y1:w7.cell? ⟨gy,1,none⟩=some (.slice A3 n3 c3):=aN.cell 1;have y2:w7.cell? ⟨gy,2,none⟩=some (.slice A4 n4 c4):=aN.cell 2;have aD:∀ j u,[Value.bool p.neg,.slice A1 n1 c1,.slice A2 n2 c2,.bool q.neg,.slice A3 n3 c3,.slice A4 n4 c4][j]? = some u→(w7.alloc (.cells #[.bool p.neg,.slice A1 n1 c1,.slice A2 n2 c2,.bool q.neg,.slice A3 n3 c3,.slice A4 n4 c4] 121)).cell? ((⟨w7.heap.size,0,none⟩:Addr).add j)=some u:=fun j u hu=>by
  have e2:(⟨w7.heap.size,0,none⟩:Addr).add j=⟨w7.heap.size,j,none⟩:=by unfold Addr.add;split<;>simp_all
  rw [e2,bG.cell j]
  simpa using hu
 have cT:=Aa bP;have cQ:=Aa aD;have aZ:=Aa aI;have cN:=Aa bC;have cP:=Aa bR;have bU:=Aa bF;have cV:=hB;clear bP aD aI bC bR bF kV hx cI cL bO bG k7 hst cH bS bQ bN aP aN;obtain ⟨i0,cR,cO,cJ,cM⟩:=info_parts ziI
 go_wp2_with (at_builtin;refine zc7 rfl _ _ 117 rfl B 121 i0 _ 6 112 Tryz.underlying117 cR cO cJ cM rfl (by decide) (zbh _ _ _ _ _ _ _ _ _ _ _ _ _ _) v n xs rfl aZ.out cN.out ⟨w7.heap.size,0,none⟩ 1 1 [Value.bool p.neg,.slice A1 n1 c1,.slice A2 n2 c2,.bool q.neg,.slice A3 n3 c3,.slice A4 n4 c4] (by decide) rfl rfl cQ.out ?ca1 ?ca2 ?ca3 ?ca4 ?ca5 ?_)
 case ca1=>exact ⟨rfl,rfl,rfl,rfl,rfl,rfl⟩
 case ca3=>have:=HN.out;unfold maxLen;omega
 case ca4=>have:=HN.out;omega
 case ca5=>have:=HN.out;omega
 intro v' w9 bB bA aL bE;have aE:v'.ownBlock=v.ownBlock∨v'.ownBlock=some (w7.alloc (.cells #[.bool p.neg,.slice A1 n1 c1,.slice A2 n2 c2,.bool q.neg,.slice A3 n3 c3,.slice A4 n4 c4] 121)).heap.size:=by simpa [Value.ownBlock] using aL
 have bL:=cT.out v' w9 bB bA aE bE;have aT:=bU.out.grown bA bU.out.lt (fun e=>cP.out e);have z0:w9.cell? ⟨g,0,none⟩=some v:=aT.cell 0;have z1:=aT.frozen 0;obtain ⟨A9,c9,rfl,_,_,_⟩:=zdr bB;have bK:=Aa bL;clear bL aT bB bA aL aE bE;go_wp2
 go_ret;exact ⟨rfl,⟨_,bK.out.1⟩,(cG.mono hB1).trans (bK.out.2 B (Nat.le_trans hB1 aR) (Nat.le_refl _) hB)⟩
theorem zpm (ii x y:Int) (p q:Q) (X Y:ByteArray) (g B k n:Nat) (v:Value) (ks:List (Q × Q)) (w:World) (hT:Tabs w) (hB1:B≤w.heap.size) (hB:B≤g) (hst:KState w B g n ks v) (HX:Hid (x=0∧y=0)) (HN:Hid (n<64)) (HI:Hid (ii=(n:Int)∧n=k+1∧k<64))
  (o oo:Q) (hk:Hid (ks[k]? = some (o,oo))) (HO:Hid (0<rcmp p o)) (lp:LenQ p 268435456) (lq:LenQ o 268435456)
  (HR1:Hid (∀ W,Tabs W→Calls Tryz.prog 62 #[.string X] W (zax W p x))) (HR2:Hid (∀ W,Tabs W→Calls Tryz.prog 62 #[.string Y] W (zax W q y))) :
  Calls Tryz.prog 145 #[.int .i64 ii,.agg #[.string X,.string Y],.pointer (some ⟨g,0,none⟩)] w fun e w'=>e = .returned (.int .i64 0)∧(∃ v',KState w' B g (n+1) (ks++[(p,q)]) v')∧Below B w w':=by
 obtain ⟨E,hE⟩:∃ E,E=if x≠0 then x else y:=⟨_,rfl⟩
 have HE:=Aa hE;have dR:(E != 0)=false:=by rw [hE,HX.out.1,HX.out.2];rfl
 have HC:=Aa (fun v u W h1 h2=>zbx p o v u W h1 h2 lp lq);obtain ⟨r,hr⟩:∃ r,r=rcmp p o:=⟨_,rfl⟩;rw [←hr] at HC HO;have d1:decide (r≤0)=false:=decide_eq_false (by have:=HO.out;omega);have d2:decide (0<ii)=true:=decide_eq_true (by have:=HI.out;omega);have d3:wrap64 (ii - 1)=(k:Int):=by rw [IntWalk.wrap64_in _ (by have:=HI.out;omega)];have:=HI.out;omega
 have d4:IntKind.i64.wrap (ii - 1)=(k:Int):=by rw [IntWalk.i64_in _ (by have:=HI.out;omega)];have:=HI.out;omega
 have dS:(0:Int)≤(k:Int):=by omega
 have dT:(k:Int)<(n:Int):=by have:=HI.out;omega
 clear hE hr lp lq;have aV:Below w.heap.size w (w.alloc (.cells #[.string X,.string Y] 57)):=Ac;have q0:CBlk (w.alloc (.cells #[.string X,.string Y] 57)) w.heap.size #[.string X,.string Y] 57:=CBlk.new _ _ _ _ rfl;go_enter Tryz.func145,Tryz.ntmps145
 go_upto_region 1 with (fail)
 generalize (w.alloc (.cells #[.string X,.string Y] 57))=W at *;have a0:=q0.cell 0;have a1:=q0.cell 1
 go_wp2_with fail
 refine (HR1.out W (hT.later aV)).mono ?_;rintro e w2 ⟨v2,rfl,⟨A1,n1,c1,A2,n2,c2,rfl,h1,h2⟩,bN⟩;have aS:=Ad aV bN;have bB:=(q0.below bN q0.lt).alloc (.cells #[.bool p.neg,.slice A1 n1 c1,.slice A2 n2 c2] 91);have aC:Below w2.heap.size w2 (w2.alloc (.cells #[.bool p.neg,.slice A1 n1 c1,.slice A2 n2 c2] 91)):=Ac;have bD:CBlk (w2.alloc (.cells #[.bool p.neg,.slice A1 n1 c1,.slice A2 n2 c2] 91)) w2.heap.size #[.bool p.neg,.slice A1 n1 c1,.slice A2 n2 c2] 91:=CBlk.new _ _ _ _ rfl;have aD:=Ad aS aC;have cU:=h1.later aC;have bZ:=h2.later aC;have dQ:=aS.size;clear a0 a1 q0 aV bN aS h1 h2 aC;go_upto_region 2 with (fail)
 generalize (w2.alloc (.cells #[.bool p.neg,.slice A1 n1 c1,.slice A2 n2 c2] 91))=w3 at *;have a0:=bB.cell 0;have a1:=bB.cell 1
 go_wp2_with fail
 refine (HR2.out w3 (hT.later aD)).mono ?_;rintro e w4 ⟨v4,rfl,⟨A3,n3,c3,A4,n4,c4,rfl,h3,h4⟩,aR⟩;have bE:=Ad aD aR;have bP:=(bD.below aR bD.lt).alloc (.cells #[.bool q.neg,.slice A3 n3 c3,.slice A4 n4 c4] 91);have cB:CBlk (w4.alloc (.cells #[.bool q.neg,.slice A3 n3 c3,.slice A4 n4 c4] 91)) w4.heap.size #[.bool q.neg,.slice A3 n3 c3,.slice A4 n4 c4] 91:=CBlk.new _ _ _ _ rfl;have aC:Below w4.heap.size w4 (w4.alloc (.cells #[.bool q.neg,.slice A3 n3 c3,.slice A4 n4 c4] 91)):=Ac;have aM:=Ad bE aC;have bS:=(cU.later aR).later aC;have cY:=(bZ.later aR).later aC;have cK:=h3.later aC;have bT:=h4.later aC;clear a0 a1 bB bD aD aR bE cU bZ h3 h4 aC;go_upto_region 3 with (fail)
 generalize (w4.alloc (.cells #[.bool q.neg,.slice A3 n3 c3,.slice A4 n4 c4] 91))=w5 at *;have aT:Below w.heap.size w (w5.alloc (.cells #[.int .i64 x,.int .i64 y] 26)):=aM.alloc aM.size _;have aO:Below w5.heap.size w5 (w5.alloc (.cells #[.int .i64 x,.int .i64 y] 26)):=Ac;have aN:=bP.alloc (.cells #[.int .i64 x,.int .i64 y] 26);have bH:=cB.alloc (.cells #[.int .i64 x,.int .i64 y] 26);have bK:=bS.later aO;have bM:=cY.later aO;have cT:=cK.later aO;have cJ:=bT.later aO
 go_wp2_with fail
 refine (za7 x y E HE.out w5 _ _ rfl).mono ?_;rintro e w6 ⟨rfl,rfl⟩;clear bP cB aM aO bS cY cK bT;generalize (w5.alloc (.cells #[.int .i64 x,.int .i64 y] 26))=w6 at *;have k6:=hst.later aT;generalize w2.heap.size=gx at *;generalize w4.heap.size=gy at *;obtain ⟨gk,aE,rfl,_,aZ,_⟩:∃ gk aE,v = .slice (some ⟨gk,0,none⟩) n aE∧B≤gk∧gk<w6.heap.size∧v.ownBlock=some gk:=by
  rcases k6.kn.form with ⟨_,h⟩ | h
  ·have:=HI.out;omega
  ·exact h
 obtain ⟨K1,m1,e1,K2,m2,e2,K3,m3,e3,K4,m4,e4,aU,r1,r2,_,_⟩:=k6.kn.at_ hk.out;have y0:w6.cell? ⟨gk,k*6,none⟩=some (.bool o.neg):=aU 0 _ rfl;have y1:w6.cell? ⟨gk,k*6+1,none⟩=some (.slice K1 m1 e1):=aU 1 _ rfl;have y2:w6.cell? ⟨gk,k*6+2,none⟩=some (.slice K2 m2 e2):=aU 2 _ rfl;clear aU;have aF:Below w6.heap.size w6 w6.drew:=(Below.refl _ _).drew;have aH:=Aa (HC.out _ _ w6.drew (RatS.mk (q:=p) (bK.later aF) (bM.later aF)) (RatS.mk (q:=o) (r1.later aF) (r2.later aF)));go_upto_region 6 with (fail)
 have cZ:w6.drew.cell? ⟨gx,0,none⟩=some (.bool p.neg):=aN.cell 0;have dD:w6.drew.cell? ⟨gx,1,none⟩=some (.slice A1 n1 c1):=aN.cell 1;have cA:w6.drew.cell? ⟨gx,2,none⟩=some (.slice A2 n2 c2):=aN.cell 2;have cP:w6.drew.cell? ⟨g,0,none⟩=some (.slice (some ⟨gk,0,none⟩) n aE):=k6.box.cell 0;have bC:w6.drew.cell? ⟨gk,k*6,none⟩=some (.bool o.neg):=y0;have bJ:w6.drew.cell? ⟨gk,k*6+1,none⟩=some (.slice K1 m1 e1):=y1;have bL:w6.drew.cell? ⟨gk,k*6+2,none⟩=some (.slice K2 m2 e2):=y2;clear y0 y1 y2
 go_region_held3 (fun w'=>w'.cell? ⟨gx,0,none⟩=some (.bool p.neg)∧w'.cell? ⟨gx,1,none⟩=some (.slice A1 n1 c1)∧w'.cell? ⟨gx,2,none⟩=some (.slice A2 n2 c2)∧w'.cell? ⟨g,0,none⟩=some (.slice (some ⟨gk,0,none⟩) n aE)∧w'.cell? ⟨gk,k*6,none⟩=some (.bool o.neg)∧w'.cell? ⟨gk,k*6+1,none⟩=some (.slice K1 m1 e1)∧w'.cell? ⟨gk,k*6+2,none⟩=some (.slice K2 m2 e2))
  (first | with_reducible exact ⟨cZ,dD,cA,cP,bC,bJ,bL⟩ | with_reducible exact ⟨cN,cI,bU,cW,bR,cV,cC⟩)
  (first | (go_at_call 70;refine aH.out.mono ?_;rintro e w7 ⟨rfl,aJ⟩;have aL:=aN.drew.below aJ aN.lt;have k7:=(k6.later aF).later aJ;have cN:w7.cell? ⟨gx,0,none⟩=some (.bool p.neg):=aL.cell 0;have cI:w7.cell? ⟨gx,1,none⟩=some (.slice A1 n1 c1):=aL.cell 1;have bU:w7.cell? ⟨gx,2,none⟩=some (.slice A2 n2 c2):=aL.cell 2;have cW:w7.cell? ⟨g,0,none⟩=some (.slice (some ⟨gk,0,none⟩) n aE):=k7.box.cell 0;have bR:w7.cell? ⟨gk,k*6,none⟩=some (.bool o.neg):=(aJ.cell aZ).trans bC;have cV:w7.cell? ⟨gk,k*6+1,none⟩=some (.slice K1 m1 e1):=(aJ.cell aZ).trans bJ;have cC:w7.cell? ⟨gk,k*6+2,none⟩=some (.slice K2 m2 e2):=(aJ.cell aZ).trans bL))
 have aA:=Ad aF aJ;have cL:=Ad aT aA;have aW:=bH.drew.below aJ bH.lt;have dF:=bK.later aA;have cS:=bM.later aA;have cG:=cT.later aA;have bW:=cJ.later aA;clear aF aJ aA aT k6 aN bH bK bM cT cJ cN cI bU cW bR cV cC cZ dD cA cP bC bJ bL r1 r2 aH HC aZ d1 d2 d3 d4;obtain ⟨dH,xs,hx,cE⟩:=k7.kn;have aK:Below w7.heap.size w7 (w7.alloc (.cells #[.bool p.neg,.slice A1 n1 c1,.slice A2 n2 c2,.bool q.neg,.slice A3 n3 c3,.slice A4 n4 c4] 121)):=Ac;have kV:=k7.later aK;have aP:=hx.alloc (.cells #[.bool p.neg,.slice A1 n1 c1,.slice A2 n2 c2,.bool q.neg,.slice A3 n3 c3,.slice A4 n4 c4] 121);have cO:CBlk (w7.alloc (.cells #[.bool p.neg,.slice A1 n1 c1,.slice A2 n2 c2,.bool q.neg,.slice A3 n3 c3,.slice A4 n4 c4] 121)) w7.heap.size #[.bool p.neg,.slice A1 n1 c1,.slice A2 n2 c2,.bool q.neg,.slice A3 n3 c3,.slice A4 n4 c4] 121:=CBlk.new _ _ _ _ rfl;have cR:ItvS (w7.alloc (.cells #[.bool p.neg,.slice A1 n1 c1,.slice A2 n2 c2,.bool q.neg,.slice A3 n3 c3,.slice A4 n4 c4] 121)) (w7.alloc (.cells #[.bool p.neg,.slice A1 n1 c1,.slice A2 n2 c2,.bool q.neg,.slice A3 n3 c3,.slice A4 n4 c4] 121)).heap.size (.agg #[.bool p.neg,.slice A1 n1 c1,.slice A2 n2 c2,.bool q.neg,.slice A3 n3 c3,.slice A4 n4 c4]) p q:=⟨A1,n1,c1,A2,n2,c2,A3,n3,c3,A4,n4,c4,rfl,dF.later aK,cS.later aK,cG.later aK,bW.later aK⟩;have cQ:=fun (v':Value) (V':World) ho hg hat hf=>zgo (W:=w7) (V:=w7.alloc (.cells #[.bool p.neg,.slice A1 n1 c1,.slice A2 n2 c2,.bool q.neg,.slice A3 n3 c3,.slice A4 n4 c4] 121)) (V':=V') (v':=v') (a:=#[.bool p.neg,.slice A1 n1 c1,.slice A2 n2 c2,.bool q.neg,.slice A3 n3 c3,.slice A4 n4 c4]) (p:=p) (q:=q) k7 hx cE aK cR rfl ho hg hat hf
 have cH:=kV.apart;have bQ:=kV.box;have cM:=kV.free;have dG:w7.heap.size≤(w7.alloc (.cells #[.bool p.neg,.slice A1 n1 c1,.slice A2 n2 c2,.bool q.neg,.slice A3 n3 c3,.slice A4 n4 c4] 121)).heap.size:=aK.size;have bA:=cL.size;have b0:w7.cell? ⟨g,0,none⟩=some (Value.slice (some ⟨gk,0,none⟩) n aE):=k7.box.cell 0;have x0:w7.cell? ⟨gx,0,none⟩=some (.bool p.neg):=aL.cell 0;have x1:w7.cell? ⟨gx,1,none⟩=some (.slice A1 n1 c1):=aL.cell 1;have x2:w7.cell? ⟨gx,2,none⟩=some (.slice A2 n2 c2):=aL.cell 2;have y0:w7.cell? ⟨gy,0,none⟩=some (.bool q.neg):=aW.cell 0;have y1:w7.cell? ⟨gy,1,none⟩=some (.slice A3 n3 c3):=aW.cell 1;have y2:w7.cell? ⟨gy,2,none⟩=some (.slice A4 n4 c4):=aW.cell 2;have aI:∀ j u,[Value.bool p.neg,.slice A1 n1 c1,.slice A2 n2 c2,.bool q.neg,.slice A3 n3 c3,.slice A4 n4 c4][j]? = some u→(w7.alloc (.cells #[.bool p.neg,.slice A1 n1 c1,.slice A2 n2 c2,.bool q.neg,.slice A3 n3 c3,.slice A4 n4 c4] 121)).cell? ((⟨w7.heap.size,0,none⟩:Addr).add j)=some u:=fun j u hu=>by
  have e2:(⟨w7.heap.size,0,none⟩:Addr).add j=⟨w7.heap.size,j,none⟩:=by unfold Addr.add;split<;>simp_all
  rw [e2,cO.cell j]
  simpa using hu
 have dK:=Aa cQ;have dJ:=Aa aI;have bO:=Aa aP;have dO:=Aa cM;have dL:=Aa cH;have dB:=Aa bQ;have dU:=hB;clear cQ aI aP cM cH bQ kV hx cE dH cR cO k7 hst dF cS cG bW aL aW;obtain ⟨i0,dM,dP,dN,dI⟩:=info_parts ziI
 go_wp2_with (at_builtin;refine zc7 rfl _ _ 117 rfl B 121 i0 _ 6 112 Tryz.underlying117 dM dP dN dI rfl (by decide) (zbh _ _ _ _ _ _ _ _ _ _ _ _ _ _) (Value.slice (some ⟨gk,0,none⟩) n aE) n xs rfl bO.out dO.out ⟨w7.heap.size,0,none⟩ 1 1 [Value.bool p.neg,.slice A1 n1 c1,.slice A2 n2 c2,.bool q.neg,.slice A3 n3 c3,.slice A4 n4 c4] (by decide) rfl rfl dJ.out ?ca1 ?ca2 ?ca3 ?ca4 ?ca5 ?_)
 case ca1=>exact ⟨rfl,rfl,rfl,rfl,rfl,rfl⟩
 case ca3=>have:=HN.out;unfold maxLen;omega
 case ca4=>have:=HN.out;omega
 case ca5=>have:=HN.out;omega
 intro v' w9 bF bI aQ cF;have aG:v'.ownBlock=(Value.slice (some ⟨gk,0,none⟩) n aE).ownBlock∨v'.ownBlock=some (w7.alloc (.cells #[.bool p.neg,.slice A1 n1 c1,.slice A2 n2 c2,.bool q.neg,.slice A3 n3 c3,.slice A4 n4 c4] 121)).heap.size:=by simpa [Value.ownBlock] using aQ
 have bV:=dK.out v' w9 bF bI aG cF;have bG:=dB.out.grown bI dB.out.lt (fun e=>dL.out e);have z0:w9.cell? ⟨g,0,none⟩=some (Value.slice (some ⟨gk,0,none⟩) n aE):=bG.cell 0;have z1:=bG.frozen 0;obtain ⟨A9,c9,rfl,_,_,_⟩:=zdr bF;have dA:=Aa bV;clear bV bG bF bI aQ aG cF;go_wp2
 go_ret;exact ⟨rfl,⟨_,dA.out.1⟩,(cL.mono hB1).trans (dA.out.2 B (Nat.le_trans hB1 bA) (Nat.le_refl _) hB)⟩
def PtsR (w:World) (B:Nat) (A:Option Addr) (n:Nat) (C:List (ByteArray × ByteArray)):Prop:=
 C.length=n∧(0<n→∃ ad,A=some ad∧ad.block<B∧∀ i (h:i<C.length),w.cell? ((ad.add (i*2)).add 0)=some (.string C[i].1)∧w.cell? ((ad.add (i*2)).add 1)=some (.string C[i].2))
theorem PtsR.below {w w':World} {B:Nat} {A:Option Addr} {n:Nat} {C:List (ByteArray × ByteArray)} (h:PtsR w B A n C) (hb:Below B w w'):PtsR w' B A n C:=by
 refine ⟨h.1,fun h0 => ?_⟩;obtain ⟨ad,e,aA,hc⟩:=h.2 h0;refine ⟨ad,e,aA,fun i hi => ?_⟩;have hx:∀ p q:Nat,((ad.add p).add q).block<B:=fun p q=>by rw [zaN,zaN];exact aA
 exact ⟨(hb.cell (hx _ _)).trans (hc i hi).1,(hb.cell (hx _ _)).trans (hc i hi).2⟩
def rdP (p:ByteArray × ByteArray):Q × Q:=(zab p.1.data.toList,zab p.2.data.toList)
def zbV:Option Q→List (ByteArray × ByteArray)→Int
 | _,[]=>0
 | o,p :: t=>if rowE o p.1.data.toList p.2.data.toList≠0 then rowE o p.1.data.toList p.2.data.toList else zbV (some (zab p.1.data.toList)) t
def tabE (l:List (ByteArray × ByteArray)):Int:=if l.length<1 then 12 else if 64<l.length then 5 else zbV none l
def zcb (l:List (ByteArray × ByteArray)) (k:Nat):Option Q:=if k=0 then none else (l[k - 1]?).map fun p=>zab p.1.data.toList
theorem zqs (k:Nat) (X Y:ByteArray) (o:Option Q) (g B:Nat) (v:Value) (ks:List (Q × Q)) (w:World) (hT:Tabs w) (hB1:B≤w.heap.size) (hB:B≤g) (hst:KState w B g k ks v) (hk:k<64)
  (ho:(k=0∧o=none)∨∃ j q qq,k=j+1∧o=some q∧ks[j]? = some (q,qq)∧LenQ q 268435456) (hX:X.size≤4294967296) (hY:Y.size≤4294967296) :
  Calls Tryz.prog 145 #[.int .i64 (k:Int),.agg #[.string X,.string Y],.pointer (some ⟨g,0,none⟩)] w fun e w'=>e = .returned (.int .i64 (rowE o X.data.toList Y.data.toList))∧Below B w w' ∧
   ∃ A' m' c',CBlk w' g #[.slice A' m' c'] 117∧(rowE o X.data.toList Y.data.toList=0→KState w' B g (k+1) (ks++[rdP (X,Y)]) (.slice A' m' c')):=by
 have aE:Hid (∀ W,Tabs W→Calls Tryz.prog 62 #[.string X] W (zax W (zab X.data.toList) (zad X.data.toList))):=fun W hT=>zbn X W hT hX
 have aC:Hid (∀ W,Tabs W→Calls Tryz.prog 62 #[.string Y] W (zax W (zab Y.data.toList) (zad Y.data.toList))):=fun W hT=>zbn Y W hT hY
 have aJ:∃ A' m' c',v = .slice A' m' c':=by
  rcases hst.kn.form with ⟨e,_⟩ | ⟨gk,aI,e,_⟩
  ·exact ⟨_,_,_,e⟩
  ·exact ⟨_,_,_,e⟩
 have same:∀ w',Below w.heap.size w w'→∃ A' m' c',CBlk w' g #[.slice A' m' c'] 117:=fun w' hb=>by
  obtain ⟨A',m',c',rfl⟩:=aJ;exact ⟨A',m',c',(hst.later hb).box⟩
 have aD:∀ w',(∃ v',KState w' B g (k+1) (ks++[(zab X.data.toList,zab Y.data.toList)]) v')→∃ A' m' c',CBlk w' g #[.slice A' m' c'] 117∧KState w' B g (k+1) (ks++[rdP (X,Y)]) (.slice A' m' c'):=fun w' ⟨v',h⟩=>by
  rcases h.kn.form with ⟨rfl,_⟩ | ⟨gk,aI,rfl,_⟩
  ·exact ⟨_,_,_,h.box,h⟩
  ·exact ⟨_,_,_,h.box,h⟩
 by_cases hx:zad X.data.toList=0
 ·by_cases hy:zad Y.data.toList=0
  ·rcases ho with ⟨rfl,rfl⟩ | ⟨j,q,qq,rfl,rfl,hj,aH⟩
   ·have hr:rowE none X.data.toList Y.data.toList=0:=by unfold rowE;rw [if_neg (by omega),if_neg (by omega)]
    rw [hr];refine (zob ((0:Nat):Int) _ _ _ _ X Y g B 0 v ks w hT hB1 hB hst ⟨hx,hy⟩ (show (0:Nat)<64 by omega) rfl aE aC).mono ?_;rintro e w' ⟨rfl,aG,aA⟩;obtain ⟨A',m',c',h1,h2⟩:=aD w' aG;exact ⟨rfl,aA,A',m',c',h1,fun _=>h2⟩
   ·have lp:LenQ (zab X.data.toList) 268435456:=by
     have h9:=@zan X.data.toList hx;exact ⟨by omega,by omega⟩
    by_cases hr:rcmp (zab X.data.toList) q≤0
    ·have aF:rowE (some q) X.data.toList Y.data.toList=11:=by unfold rowE;rw [if_neg (by omega),if_neg (by omega)];exact if_pos hr
     rw [aF];refine (zoy ((j+1:Nat):Int) _ _ _ _ X Y g B j (j+1) v ks w hT hst ⟨hx,hy⟩ ⟨rfl,rfl,by omega⟩ q qq hj hr lp aH aE aC).mono ?_;rintro e w' ⟨rfl,aA⟩;obtain ⟨A',m',c',h1⟩:=same w' aA;exact ⟨rfl,aA.mono hB1,A',m',c',h1,(fun h=>by omega)⟩
    ·have aF:rowE (some q) X.data.toList Y.data.toList=0:=by unfold rowE;rw [if_neg (by omega),if_neg (by omega)];exact if_neg hr
     rw [aF];refine (zpm ((j+1:Nat):Int) _ _ _ _ X Y g B j (j+1) v ks w hT hB1 hB hst ⟨hx,hy⟩ hk ⟨rfl,rfl,by omega⟩ q qq hj (show 0<rcmp (zab X.data.toList) q by omega) lp aH aE aC).mono ?_;rintro e w' ⟨rfl,aG,aA⟩;obtain ⟨A',m',c',h1,h2⟩:=aD w' aG;exact ⟨rfl,aA,A',m',c',h1,fun _=>h2⟩
  ·have hr:rowE o X.data.toList Y.data.toList=zad Y.data.toList:=by unfold rowE;rw [if_neg (by omega),if_pos hy]
   rw [hr];refine (zn9 (k:Int) _ _ (zad Y.data.toList) _ _ X Y g B k v ks w hT hst (show zad Y.data.toList=if zad X.data.toList≠0 then zad X.data.toList else zad Y.data.toList by rw [if_neg (by omega)]) hy aE aC).mono ?_
   rintro e w' ⟨rfl,aA⟩;obtain ⟨A',m',c',h1⟩:=same w' aA;exact ⟨rfl,aA.mono hB1,A',m',c',h1,fun h=>absurd h hy⟩
 ·have hr:rowE o X.data.toList Y.data.toList=zad X.data.toList:=by unfold rowE;rw [if_pos hx]
  rw [hr];refine (zn9 (k:Int) _ _ (zad X.data.toList) _ _ X Y g B k v ks w hT hst (show zad X.data.toList=if zad X.data.toList≠0 then zad X.data.toList else zad Y.data.toList by rw [if_pos hx]) hx aE aC).mono ?_
  rintro e w' ⟨rfl,aA⟩;obtain ⟨A',m',c',h1⟩:=same w' aA;exact ⟨rfl,aA.mono hB1,A',m',c',h1,fun h=>absurd h hx⟩
theorem znJ (args:Array Value) (w:World):(callFunc 145 args).run Tryz.prog w = .ok (.enter 145 args) w:=by kernel_rfl
theorem zl1:(Tryz.prog.info? 57).map (·.size)=some 2:=by kernel_rfl
theorem zg0 {P:Program} {ops:Array Oper} {rest:List Oper} {op:Oper} {a:Act} {w:World} {Q:Exit→Act→World→Prop} (hgd:op.guard=none) (ty:TypeId) (x:Operand) (ho:op.op = .load ty x)
  (ad:Addr) (hx:a.eval x = .pointer (some ad)) (cs:List Value) (d:TypeDesc) (hc:∀ j v,cs[j]? = some v→w.cell? (ad.add j)=some v)
  (hu:P.underlying ty=some d) (hd:d.isRow=true) (hi:(P.info? ty).map (·.size)=some cs.length)
  (h:wpList P ops Q rest (a.put op.dst (.agg cs.toArray)) w):wpList P ops Q (op :: rest) a w:=by
 have hl:(loadCells ad cs.length).run P w = .ok cs.toArray w:=run_loadCells_list (P:=P) w ad cs hc;have hv:(loadVar ty ad).run P w = .ok (.agg cs.toArray) w:=by
  cases hq:P.info? ty with
  | none=>simp [hq] at hi
  | some i=>
   have hs:i.size=cs.length:=by simpa [hq] using hi
   have aA:(isAgg ty).run P w = .ok true w:=by
    unfold isAgg;rw [Sem.run_bind,run_underlying hu w]
    cases d<;>simp_all
   simp [loadVar,Sem.run_bind,aA,sizeOf,typeInfo,hq,hs,hl]
 refine wpList_plain hgd fun _ hK => ?_
 unfold Oper.wp execOp;simp only [ho,hx,Instr.loadAt,Instr.sureAddr,Sem.run_bind,Sem.run_pure,Result.andThen_ok,hv]
 exact hK _ _ h
theorem zhp {l:List (ByteArray × ByteArray)} {k:Nat} (h:k<l.length) (he:zbV none l=zbV (zcb l k) (l.drop k)) :
  (rowE (zcb l k) l[k].1.data.toList l[k].2.data.toList≠0→zbV none l=rowE (zcb l k) l[k].1.data.toList l[k].2.data.toList) ∧
  (rowE (zcb l k) l[k].1.data.toList l[k].2.data.toList=0→zbV none l=zbV (zcb l (k+1)) (l.drop (k+1))∧zad l[k].1.data.toList=0):=by
 rw [List.drop_eq_getElem_cons h] at he;have hc:zbV (zcb l k) (l[k] :: l.drop (k+1))=if rowE (zcb l k) l[k].1.data.toList l[k].2.data.toList≠0 then rowE (zcb l k) l[k].1.data.toList l[k].2.data.toList else zbV (some (zab l[k].1.data.toList)) (l.drop (k+1)):=by
  cases zcb l k<;>rfl
 rw [hc] at he
 constructor
 ·intro h0
  rw [he,if_pos h0]
 ·intro h0
  refine ⟨?_,?_⟩
  ·rw [he,if_neg (by omega)]
   have:zcb l (k+1)=some (zab l[k].1.data.toList):=by
    unfold zcb;rw [if_neg (by omega),Nat.add_sub_cancel,List.getElem?_eq_getElem h];rfl
   rw [this]
  ·unfold rowE at h0
   by_cases hx:zad l[k].1.data.toList=0
   ·exact hx
   ·rw [if_pos hx] at h0
    exact h0
theorem zlV (A:Option Addr) (n c g:Nat) (l:List (ByteArray × ByteArray)) (w0 w:World) (hT:Tabs w0) (hb0:Below w0.heap.size w0 w) (hB:w0.heap.size≤g) (h:PtsR w0 w0.heap.size A n l) (hsz:∀ p ∈ l,p.1.size≤4294967296∧p.2.size≤4294967296)
  (hn1:1≤n) (hn:n≤64) (hst:KState w w0.heap.size g 0 [] (.slice none 0 0)) :
  Calls Tryz.prog 144 #[.slice A n c,.int .i64 1,.int .i64 64,.func (.func 145) #[] #[.pointer (some ⟨g,0,none⟩)]] w fun e w'=>e = .returned (.int .i64 (zbV none l))∧Below w0.heap.size w0 w' ∧
   ∃ A' m' c',CBlk w' g #[.slice A' m' c'] 117∧(zbV none l=0→KState w' w0.heap.size g n (l.map rdP) (.slice A' m' c')):=by
 have bG:=Aa hsz;have aF:l.length=n:=h.1;have aM:=Aa aF;have bN:decide ((n:Int)<1)=false:=decide_eq_false (by omega);have bM:decide ((64:Int)<(n:Int))=false:=decide_eq_false (by omega);have eg:=znJ;obtain ⟨R,hR⟩:∃ R,R=zbV none l:=⟨_,rfl⟩;have bQ:=Aa (show R=zbV (zcb l 0) (l.drop 0) from hR);have aL:=Aa hR;rw [←hR];clear hsz aF hR;go_enter Tryz.func144,Tryz.ntmps144
 go_wp2
 go_loopg [22] n (fun m s W=>∃ k:Nat,k≤n∧s = .int .i64 k∧n - k≤m∧(∃ A' m' c',KState W w0.heap.size g k ((l.take k).map rdP) (.slice A' m' c'))∧Below w0.heap.size w0 W∧zbV none l=zbV (zcb l k) (l.drop k)∧(0<k→∀ p,l[k - 1]? = some p→zad p.1.data.toList=0))
 case atStart=>exact ⟨0,Nat.zero_le _,rfl,by omega,⟨none,0,0,hst⟩,hb0,rfl,(fun h=>absurd h (by omega))⟩
 case round=>
  obtain ⟨k,hk,rfl,hm,⟨A',m',c',aH⟩,aC,bD,aU⟩:=hrel;have bE:=Aa bD;have bL:=Aa aU;clear bD aU
  by_cases h0:k<n
  ·have aG:k<l.length:=by have:=aM.out;omega
   obtain ⟨ad,rfl,bO,bB⟩:=(h.below aC).2 (by omega);obtain ⟨aJ,aN⟩:=bB k aG;have aA:=zhp aG bE.out;have hs:=bG.out l[k] (List.getElem_mem aG);have aO:(l.take (k+1)).map rdP=(l.take k).map rdP++[rdP (l[k].1,l[k].2)]:=by
    rw [List.take_succ_eq_append_getElem aG,List.map_append];rfl
   have bC:l[k]? = some l[k]:=List.getElem?_eq_getElem aG;have ho:(k=0∧zcb l k=none)∨∃ j q qq,k=j+1∧zcb l k=some q∧((l.take k).map rdP)[j]? = some (q,qq)∧LenQ q 268435456:=by
    rcases Nat.eq_zero_or_pos k with h1 | h1
    ·exact .inl ⟨h1,by unfold zcb;rw [if_pos h1]⟩
    ·have hj:k - 1<l.length:=by omega
     have hz:=bL.out h1 l[k - 1] (List.getElem?_eq_getElem hj);refine .inr ⟨k - 1,zab l[k - 1].1.data.toList,zab l[k - 1].2.data.toList,by omega,?_,?_,?_⟩
     ·unfold zcb
      rw [if_neg (by omega),List.getElem?_eq_getElem hj];rfl
     ·rw [List.getElem?_map,List.getElem?_take,if_pos (by omega),List.getElem?_eq_getElem hj]
      rfl
     ·have h9:=@zan _ hz
      exact ⟨by omega,by omega⟩
   generalize l[k]=pt at *;obtain ⟨X,Y⟩:=pt
   dsimp only at aJ aN aA hs aO
   have aZ:∀ j v,[Value.string X,Value.string Y][j]? = some v→wr.cell? ((ad.add (k*2)).add j)=some v:=fun j v hj=>by
    match j,hj with
    | 0,hj=>injection hj with hj;subst hj;exact aJ
    | 1,hj=>injection hj with hj;subst hj;exact aN
    | j+2,hj=>simp at hj
   have bI:=Aa aZ;have aP:Below wr.heap.size wr (wr.alloc (.cells #[.string X,.string Y] 57)):=Ac;have aR:CBlk (wr.alloc (.cells #[.string X,.string Y] 57)) wr.heap.size #[.string X,.string Y] 57:=CBlk.new _ _ _ _ rfl;have bH:=aC.size;have aI:=aC.trans (aP.mono bH);have aD:=zqs k X Y (zcb l k) g w0.heap.size _ _ _ (hT.later aI) aI.size hB (aH.later aP) (by omega) ho hs.1 hs.2;have aE:=Aa aD;have aQ:=Aa aA;have bJ:=Aa aO;have bK:=Aa bC;have aT:=Aa aR;have aW:=Aa aI;clear aZ aJ aN aA hs aO bC ho bB aP aR aI aD aH;go_upto_region 8 with (first
    |(refine zg0 rfl 57 (.tmp 25) rfl (ad.add (k*2)) rfl [Value.string X,Value.string Y] _ bI.out Tryz.underlying57 rfl zl1 ?_))
   generalize wr.alloc (.cells #[.string X,.string Y] 57)=w3 at *;have p0:w3.cell? ⟨wr.heap.size,0,none⟩=some (.string X):=aT.out.cell 0;have p1:w3.cell? ⟨wr.heap.size,1,none⟩=some (.string Y):=aT.out.cell 1;generalize rowE (zcb l k) X.data.toList Y.data.toList=rr at *
   by_cases hrr:rr=0
   ·subst hrr
    go_wp2_with (go_at_fn 145;refine aE.out.mono ?_;rintro e w4 ⟨rfl,aK,A9,m9,c9,aS,bA⟩)
    go_roundg (n - (k+1))
    case measure=>omega
    case rel=>exact ⟨k+1,by omega,by go_num,Nat.le_refl _,⟨A9,m9,c9,by rw [bJ.out];exact bA trivial⟩,aW.out.trans aK,(aQ.out.2 trivial).1,fun _ p hp=>by
     rw [Nat.add_sub_cancel,bK.out] at hp;injection hp with hp
     subst hp;exact (aQ.out.2 trivial).2⟩
   ·have bP:(rr != 0)=true:=by simpa using hrr
    have aV:=Aa (aQ.out.1 hrr);have bF:=Aa hrr;clear hrr
    go_wp2_with (go_at_fn 145;refine aE.out.mono ?_;rintro e w4 ⟨rfl,aK,A9,m9,c9,aS,bA⟩)
    go_ret;exact ⟨by rw [aL.out,aV.out];rfl,aW.out.trans aK,A9,m9,c9,aS,fun h=>absurd (aV.out.symm.trans (aL.out.symm.trans h)) bF.out⟩
  ·obtain rfl:n=k:=by omega
   have hz:Hid (R=0):=by
    have h9:=aL.out.trans bE.out;rw [List.drop_eq_nil_of_le (by have:=aM.out;omega)] at h9
    cases zcb l n<;>exact h9
   rw [List.take_of_length_le (by have:=aM.out;omega)] at aH;go_wp2
   go_ret;exact ⟨by rw [hz.out];rfl,aC,A',m',c',aH.box,fun _=>aH⟩
theorem zkl (A:Option Addr) (n c g:Nat) (l:List (ByteArray × ByteArray)) (w0 w:World) (hT:Tabs w0) (hb0:Below w0.heap.size w0 w) (hB:w0.heap.size≤g) (h:PtsR w0 w0.heap.size A n l) (hsz:∀ p ∈ l,p.1.size≤4294967296∧p.2.size≤4294967296)
  (hst:KState w w0.heap.size g 0 [] (.slice none 0 0)) :
  Calls Tryz.prog 144 #[.slice A n c,.int .i64 1,.int .i64 64,.func (.func 145) #[] #[.pointer (some ⟨g,0,none⟩)]] w fun e w'=>e = .returned (.int .i64 (tabE l))∧Below w0.heap.size w0 w' ∧
   ∃ A' m' c',CBlk w' g #[.slice A' m' c'] 117∧(tabE l=0→KState w' w0.heap.size g n (l.map rdP) (.slice A' m' c')):=by
 have aA:l.length=n:=h.1
 by_cases h1:n<1
 ·have e:tabE l=12:=by unfold tabE;rw [if_pos (by omega)]
  rw [e];have aD:decide ((n:Int)<1)=true:=decide_eq_true (by omega);have aC:=Aa hst.box;clear e aA h1 h hst hsz hT;go_enter Tryz.func144,Tryz.ntmps144
  go_wp2
  go_ret;exact ⟨rfl,hb0,none,0,0,aC.out,(fun h=>by omega)⟩
 ·by_cases h2:64<n
  ·have e:tabE l=5:=by unfold tabE;rw [if_neg (by omega),if_pos (by omega)]
   rw [e];have aD:decide ((n:Int)<1)=false:=decide_eq_false (by omega);have aE:decide ((64:Int)<(n:Int))=true:=decide_eq_true (by omega);have aC:=Aa hst.box;clear e aA h1 h2 h hst hsz hT;go_enter Tryz.func144,Tryz.ntmps144
   go_wp2
   go_ret;exact ⟨rfl,hb0,none,0,0,aC.out,(fun h=>by omega)⟩
  ·have e:tabE l=zbV none l:=by unfold tabE;rw [if_neg (by omega),if_neg (by omega)]
   rw [e];exact zlV A n c g l w0 w hT hb0 hB h hsz (by omega) (by omega) hst
theorem zit (A:Option Addr) (n c:Nat) (l:List (ByteArray × ByteArray)) (w:World) (hT:Tabs w) (h:PtsR w w.heap.size A n l) (hsz:∀ p ∈ l,p.1.size≤4294967296∧p.2.size≤4294967296) :
  Calls Tryz.prog 88 #[.slice A n c] w fun e w'=>(∃ A' m' c',e = .returned (.tuple #[.slice A' m' c',.int .i64 (tabE l)])∧(tabE l=0→zdi w' w.heap.size (.slice A' m' c') n (l.map rdP)))∧Below w.heap.size w w':=by
 have aC:Below w.heap.size w (w.alloc (.cells #[.slice none 0 0] 117)):=Ac;have q:CBlk (w.alloc (.cells #[.slice none 0 0] 117)) w.heap.size #[.slice none 0 0] 117:=CBlk.new _ _ _ _ rfl;have HL:=Aa (zkl A n c w.heap.size l w _ hT aC (Nat.le_refl _) h hsz ⟨q,zdi.nil _ _,Free.nil _⟩);generalize tabE l=E at *;clear q h hsz aC;go_enter Tryz.func88,Tryz.ntmps88
 go_wp2_with fail
 refine HL.out.mono ?_;rintro e w2 ⟨rfl,aD,A',m',c',aA,hk⟩;have b0:w2.cell? ⟨w.heap.size,0,none⟩=some (.slice A' m' c'):=aA.cell 0;have HK:=Aa hk;clear hk aA
 go_wp2_with fail
 go_ret2
 exact ⟨⟨A',m',c',rfl,fun h=>(HK.out h).kn⟩,aD⟩
end Go.Proofs.YtmkondcdejlhcaaGreatDoor
