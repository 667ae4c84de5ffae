/- Contract of the closure of readTable: a breakpoint that is right. -/
import Derived.Test.YtbkgkoenppkhpaaGreatDoorGKn
import Derived.Deep.LoopGhost
set_option maxRecDepth 100000
set_option maxHeartbeats 4000000
namespace Go.Proofs.YtbkgkoenppkhpaaGreatDoor
open Go.RowKit Bn
theorem zlB (ii x y:Int) (p q:Q) (X Y:ByteArray) (g B n:Nat) (v:Value) (ks:List (Q × Q)) (w:World) (hT:Tabs w) (hB1:B≤w.heap.size) (hB:B≤g) (hst:KState w B g n ks v) (HX:Hid (x=0∧y=0)) (HN:Hid (n<64)) (HI:Hid (ii=0))
  (HR1:Hid (∀ W,Tabs W→Calls Tryz.prog 59 #[.string X] W (zay W p x))) (HR2:Hid (∀ W,Tabs W→Calls Tryz.prog 59 #[.string Y] W (zay W q y))) :
  Calls Tryz.prog 169 #[.int .i64 ii,.agg #[.string X,.string Y],.pointer (some ⟨g,0,none⟩)] w fun e w'=>e = .returned (.int .i64 0)∧(∃ v',KState w' B g (n+1) (ks++[(p,q)]) v')∧Below B w w':=by
 obtain ⟨E,hE⟩:∃ E,E=if x≠0 then x else y:=⟨_,rfl⟩
 have HE:=Aa hE;have cQ:(E != 0)=false:=by rw [hE,HX.out.1,HX.out.2];rfl
 have d2:decide (0<ii)=false:=decide_eq_false (by have:=HI.out;omega);clear hE;have aM:Below w.heap.size w (w.alloc (.cells #[.string X,.string Y] 70)):=Ac;have q0:CBlk (w.alloc (.cells #[.string X,.string Y] 70)) w.heap.size #[.string X,.string Y] 70:=CBlk.new _ _ _ _ rfl;go_enter Tryz.func169,Tryz.ntmps169
 go_upto_region 1 with (fail)
 generalize (w.alloc (.cells #[.string X,.string Y] 70))=W at *;have a0:=q0.cell 0;have a1:=q0.cell 1
 go_wp2_with fail
 refine (HR1.out W (hT.later aM)).mono ?_;rintro e w2 ⟨v2,rfl,⟨A1,n1,c1,A2,n2,c2,rfl,h1,h2⟩,aW⟩;have aO:=Ad aM aW;have aZ:=(q0.below aW q0.lt).alloc (.cells #[.bool p.neg,.slice A1 n1 c1,.slice A2 n2 c2] 87);have aA:Below w2.heap.size w2 (w2.alloc (.cells #[.bool p.neg,.slice A1 n1 c1,.slice A2 n2 c2] 87)):=Ac;have aR:CBlk (w2.alloc (.cells #[.bool p.neg,.slice A1 n1 c1,.slice A2 n2 c2] 87)) w2.heap.size #[.bool p.neg,.slice A1 n1 c1,.slice A2 n2 c2] 87:=CBlk.new _ _ _ _ rfl;have aC:=Ad aO aA;have bI:=h1.later aA;have bA:=h2.later aA;have cI:=aO.size;clear a0 a1 q0 aM aW aO h1 h2 aA;go_upto_region 2 with (fail)
 generalize (w2.alloc (.cells #[.bool p.neg,.slice A1 n1 c1,.slice A2 n2 c2] 87))=w3 at *;have a0:=aZ.cell 0;have a1:=aZ.cell 1
 go_wp2_with fail
 refine (HR2.out w3 (hT.later aC)).mono ?_;rintro e w4 ⟨v4,rfl,⟨A3,n3,c3,A4,n4,c4,rfl,h3,h4⟩,aL⟩;have aU:=Ad aC aL;have bZ:=(aR.below aL aR.lt).alloc (.cells #[.bool q.neg,.slice A3 n3 c3,.slice A4 n4 c4] 87);have cC:CBlk (w4.alloc (.cells #[.bool q.neg,.slice A3 n3 c3,.slice A4 n4 c4] 87)) w4.heap.size #[.bool q.neg,.slice A3 n3 c3,.slice A4 n4 c4] 87:=CBlk.new _ _ _ _ rfl;have aA:Below w4.heap.size w4 (w4.alloc (.cells #[.bool q.neg,.slice A3 n3 c3,.slice A4 n4 c4] 87)):=Ac;have aF:=Ad aU aA;have bB:=(bI.later aL).later aA;have cB:=(bA.later aL).later aA;have bE:=h3.later aA;have bM:=h4.later aA;clear a0 a1 aZ aR aC aL aU bI bA h3 h4 aA;go_upto_region 3 with (fail)
 generalize (w4.alloc (.cells #[.bool q.neg,.slice A3 n3 c3,.slice A4 n4 c4] 87))=w5 at *;have aP:Below w.heap.size w (w5.alloc (.cells #[.int .i64 x,.int .i64 y] 27)):=aF.alloc aF.size _;have aJ:Below w5.heap.size w5 (w5.alloc (.cells #[.int .i64 x,.int .i64 y] 27)):=Ac;have bX:=bZ.alloc (.cells #[.int .i64 x,.int .i64 y] 27);have bJ:=cC.alloc (.cells #[.int .i64 x,.int .i64 y] 27);have bY:=bB.later aJ;have cE:=cB.later aJ;have bW:=bE.later aJ;have bS:=bM.later aJ
 go_wp2_with fail
 refine (zbl x y E HE.out w5 _ _ rfl).mono ?_;rintro e w6 ⟨rfl,rfl⟩;clear bZ cC aF aJ bB cB bE bM;generalize (w5.alloc (.cells #[.int .i64 x,.int .i64 y] 27))=w6 at *;have k6:=hst.later aP;generalize w2.heap.size=gx at *;generalize w4.heap.size=gy at *;go_upto_region 6 with (fail)
 go_region
 have aG:Below w6.heap.size w6 w6.drew:=(Below.refl _ _).drew;have bT:=Ad aP aG;have k7:=k6.later aG;have aN:=bX.drew;have aQ:=bJ.drew;have bU:=bY.later aG;have bD:=cE.later aG;have bL:=bW.later aG;have bO:=bS.later aG;clear aG aP k6 bX bJ bY cE bW bS;generalize w6.drew=w7 at *;obtain ⟨cP,xs,hx,bH⟩:=k7.kn;have aH:Below w7.heap.size w7 (w7.alloc (.cells #[.bool p.neg,.slice A1 n1 c1,.slice A2 n2 c2,.bool q.neg,.slice A3 n3 c3,.slice A4 n4 c4] 143)):=Ac;have kV:=k7.later aH;have aK:=hx.alloc (.cells #[.bool p.neg,.slice A1 n1 c1,.slice A2 n2 c2,.bool q.neg,.slice A3 n3 c3,.slice A4 n4 c4] 143);have bV:CBlk (w7.alloc (.cells #[.bool p.neg,.slice A1 n1 c1,.slice A2 n2 c2,.bool q.neg,.slice A3 n3 c3,.slice A4 n4 c4] 143)) w7.heap.size #[.bool p.neg,.slice A1 n1 c1,.slice A2 n2 c2,.bool q.neg,.slice A3 n3 c3,.slice A4 n4 c4] 143:=CBlk.new _ _ _ _ rfl;have bN:ItvS (w7.alloc (.cells #[.bool p.neg,.slice A1 n1 c1,.slice A2 n2 c2,.bool q.neg,.slice A3 n3 c3,.slice A4 n4 c4] 143)) (w7.alloc (.cells #[.bool p.neg,.slice A1 n1 c1,.slice A2 n2 c2,.bool q.neg,.slice A3 n3 c3,.slice A4 n4 c4] 143)).heap.size (.agg #[.bool p.neg,.slice A1 n1 c1,.slice A2 n2 c2,.bool q.neg,.slice A3 n3 c3,.slice A4 n4 c4]) p q:=⟨A1,n1,c1,A2,n2,c2,A3,n3,c3,A4,n4,c4,rfl,bU.later aH,bD.later aH,bL.later aH,bO.later aH⟩;have bK:=fun (v':Value) (V':World) ho hg hat hf=>zf2 (W:=w7) (V:=w7.alloc (.cells #[.bool p.neg,.slice A1 n1 c1,.slice A2 n2 c2,.bool q.neg,.slice A3 n3 c3,.slice A4 n4 c4] 143)) (V':=V') (v':=v') (a:=#[.bool p.neg,.slice A1 n1 c1,.slice A2 n2 c2,.bool q.neg,.slice A3 n3 c3,.slice A4 n4 c4]) (p:=p) (q:=q) k7 hx bH aH bN rfl ho hg hat hf
 have bF:=kV.apart;have bQ:=kV.box;have bP:=kV.free;have cL:w7.heap.size≤(w7.alloc (.cells #[.bool p.neg,.slice A1 n1 c1,.slice A2 n2 c2,.bool q.neg,.slice A3 n3 c3,.slice A4 n4 c4] 143)).heap.size:=aH.size;have aT:=bT.size;have b0:w7.cell? ⟨g,0,none⟩=some v:=k7.box.cell 0;have x0:w7.cell? ⟨gx,0,none⟩=some (.bool p.neg):=aN.cell 0;have x1:w7.cell? ⟨gx,1,none⟩=some (.slice A1 n1 c1):=aN.cell 1;have x2:w7.cell? ⟨gx,2,none⟩=some (.slice A2 n2 c2):=aN.cell 2;have y0:w7.cell? ⟨gy,0,none⟩=some (.bool q.neg):=aQ.cell 0;have y1:w7.cell? ⟨gy,1,none⟩=some (.slice A3 n3 c3):=aQ.cell 1;have y2:w7.cell? ⟨gy,2,none⟩=some (.slice A4 n4 c4):=aQ.cell 2;have aE:∀ j u,[Value.bool p.neg,.slice A1 n1 c1,.slice A2 n2 c2,.bool q.neg,.slice A3 n3 c3,.slice A4 n4 c4][j]? = some u→(w7.alloc (.cells #[.bool p.neg,.slice A1 n1 c1,.slice A2 n2 c2,.bool q.neg,.slice A3 n3 c3,.slice A4 n4 c4] 143)).cell? ((⟨w7.heap.size,0,none⟩:Addr).add j)=some u:=fun j u hu=>by
  have e2:(⟨w7.heap.size,0,none⟩:Addr).add j=⟨w7.heap.size,j,none⟩:=by unfold Addr.add;split<;>simp_all
  rw [e2,bV.cell j]
  simpa using hu
 have cH:=Aa bK;have cF:=Aa aE;have aX:=Aa aK;have cG:=Aa bP;have cN:=Aa bF;have bR:=Aa bQ;have cR:=hB;clear bK aE aK bP bF bQ kV hx bH cP bN bV k7 hst bU bD bL bO aN aQ;obtain ⟨i0,cM,cK,cJ,cO⟩:=info_parts zhU
 go_wp2_with (at_builtin;refine zcB rfl _ _ 139 rfl B 143 i0 _ 6 112 Tryz.underlying139 cM cK cJ cO rfl (by decide) (za4 _ _ _ _ _ _ _ _ _ _ _ _ _ _) v n xs rfl aX.out cG.out ⟨w7.heap.size,0,none⟩ 1 1 [Value.bool p.neg,.slice A1 n1 c1,.slice A2 n2 c2,.bool q.neg,.slice A3 n3 c3,.slice A4 n4 c4] (by decide) rfl rfl cF.out ?ca1 ?ca2 ?ca3 ?ca4 ?ca5 ?_)
 case ca1=>exact ⟨rfl,rfl,rfl,rfl,rfl,rfl⟩
 case ca3=>have:=HN.out;unfold maxLen;omega
 case ca4=>have:=HN.out;omega
 case ca5=>have:=HN.out;omega
 intro v' w9 aV aS aI bG;have aD:v'.ownBlock=v.ownBlock∨v'.ownBlock=some (w7.alloc (.cells #[.bool p.neg,.slice A1 n1 c1,.slice A2 n2 c2,.bool q.neg,.slice A3 n3 c3,.slice A4 n4 c4] 143)).heap.size:=by simpa [Value.ownBlock] using aI
 have cA:=cH.out v' w9 aV aS aD bG;have aY:=bR.out.grown aS bR.out.lt (fun e=>cN.out e);have z0:w9.cell? ⟨g,0,none⟩=some v:=aY.cell 0;have z1:=aY.frozen 0;obtain ⟨A9,c9,rfl,_,_,_⟩:=zcs aV;have bC:=Aa cA;clear cA aY aV aS aI aD bG;go_wp2
 go_ret;exact ⟨rfl,⟨_,bC.out.1⟩,(bT.mono hB1).trans (bC.out.2 B (Nat.le_trans hB1 aT) (Nat.le_refl _) hB)⟩
theorem zmL (ii x y:Int) (p q:Q) (X Y:ByteArray) (g B k n:Nat) (v:Value) (ks:List (Q × Q)) (w:World) (hT:Tabs w) (hB1:B≤w.heap.size) (hB:B≤g) (hst:KState w B g n ks v) (HX:Hid (x=0∧y=0)) (HN:Hid (n<64)) (HI:Hid (ii=(n:Int)∧n=k+1∧k<64))
  (o oo:Q) (hk:Hid (ks[k]? = some (o,oo))) (HO:Hid (0<rcmp p o)) (lp:LenQ p 268435456) (lq:LenQ o 268435456)
  (HR1:Hid (∀ W,Tabs W→Calls Tryz.prog 59 #[.string X] W (zay W p x))) (HR2:Hid (∀ W,Tabs W→Calls Tryz.prog 59 #[.string Y] W (zay W q y))) :
  Calls Tryz.prog 169 #[.int .i64 ii,.agg #[.string X,.string Y],.pointer (some ⟨g,0,none⟩)] w fun e w'=>e = .returned (.int .i64 0)∧(∃ v',KState w' B g (n+1) (ks++[(p,q)]) v')∧Below B w w':=by
 obtain ⟨E,hE⟩:∃ E,E=if x≠0 then x else y:=⟨_,rfl⟩
 have HE:=Aa hE;have dP:(E != 0)=false:=by rw [hE,HX.out.1,HX.out.2];rfl
 have HC:=Aa (fun v u W h1 h2=>zbw p o v u W h1 h2 lp lq);obtain ⟨r,hr⟩:∃ r,r=rcmp p o:=⟨_,rfl⟩;rw [←hr] at HC HO;have d1:decide (r≤0)=false:=decide_eq_false (by have:=HO.out;omega);have d2:decide (0<ii)=true:=decide_eq_true (by have:=HI.out;omega);have d3:wrap64 (ii - 1)=(k:Int):=by rw [IntWalk.wrap64_in _ (by have:=HI.out;omega)];have:=HI.out;omega
 have d4:IntKind.i64.wrap (ii - 1)=(k:Int):=by rw [IntWalk.i64_in _ (by have:=HI.out;omega)];have:=HI.out;omega
 have dO:(0:Int)≤(k:Int):=by omega
 have dQ:(k:Int)<(n:Int):=by have:=HI.out;omega
 clear hE hr lp lq;have aV:Below w.heap.size w (w.alloc (.cells #[.string X,.string Y] 70)):=Ac;have q0:CBlk (w.alloc (.cells #[.string X,.string Y] 70)) w.heap.size #[.string X,.string Y] 70:=CBlk.new _ _ _ _ rfl;go_enter Tryz.func169,Tryz.ntmps169
 go_upto_region 1 with (fail)
 generalize (w.alloc (.cells #[.string X,.string Y] 70))=W at *;have a0:=q0.cell 0;have a1:=q0.cell 1
 go_wp2_with fail
 refine (HR1.out W (hT.later aV)).mono ?_;rintro e w2 ⟨v2,rfl,⟨A1,n1,c1,A2,n2,c2,rfl,h1,h2⟩,aY⟩;have aS:=Ad aV aY;have bM:=(q0.below aY q0.lt).alloc (.cells #[.bool p.neg,.slice A1 n1 c1,.slice A2 n2 c2] 87);have aC:Below w2.heap.size w2 (w2.alloc (.cells #[.bool p.neg,.slice A1 n1 c1,.slice A2 n2 c2] 87)):=Ac;have bJ:CBlk (w2.alloc (.cells #[.bool p.neg,.slice A1 n1 c1,.slice A2 n2 c2] 87)) w2.heap.size #[.bool p.neg,.slice A1 n1 c1,.slice A2 n2 c2] 87:=CBlk.new _ _ _ _ rfl;have aE:=Ad aS aC;have bS:=h1.later aC;have cE:=h2.later aC;have dG:=aS.size;clear a0 a1 q0 aV aY aS h1 h2 aC;go_upto_region 2 with (fail)
 generalize (w2.alloc (.cells #[.bool p.neg,.slice A1 n1 c1,.slice A2 n2 c2] 87))=w3 at *;have a0:=bM.cell 0;have a1:=bM.cell 1
 go_wp2_with fail
 refine (HR2.out w3 (hT.later aE)).mono ?_;rintro e w4 ⟨v4,rfl,⟨A3,n3,c3,A4,n4,c4,rfl,h3,h4⟩,aQ⟩;have bH:=Ad aE aQ;have cM:=(bJ.below aQ bJ.lt).alloc (.cells #[.bool q.neg,.slice A3 n3 c3,.slice A4 n4 c4] 87);have cY:CBlk (w4.alloc (.cells #[.bool q.neg,.slice A3 n3 c3,.slice A4 n4 c4] 87)) w4.heap.size #[.bool q.neg,.slice A3 n3 c3,.slice A4 n4 c4] 87:=CBlk.new _ _ _ _ rfl;have aC:Below w4.heap.size w4 (w4.alloc (.cells #[.bool q.neg,.slice A3 n3 c3,.slice A4 n4 c4] 87)):=Ac;have aL:=Ad bH aC;have bW:=(bS.later aQ).later aC;have cC:=(cE.later aQ).later aC;have cO:=h3.later aC;have cH:=h4.later aC;clear a0 a1 bM bJ aE aQ bH bS cE h3 h4 aC;go_upto_region 3 with (fail)
 generalize (w4.alloc (.cells #[.bool q.neg,.slice A3 n3 c3,.slice A4 n4 c4] 87))=w5 at *;have aU:Below w.heap.size w (w5.alloc (.cells #[.int .i64 x,.int .i64 y] 27)):=aL.alloc aL.size _;have aR:Below w5.heap.size w5 (w5.alloc (.cells #[.int .i64 x,.int .i64 y] 27)):=Ac;have aN:=cM.alloc (.cells #[.int .i64 x,.int .i64 y] 27);have bG:=cY.alloc (.cells #[.int .i64 x,.int .i64 y] 27);have bA:=bW.later aR;have bC:=cC.later aR;have cV:=cO.later aR;have cK:=cH.later aR
 go_wp2_with fail
 refine (zbl x y E HE.out w5 _ _ rfl).mono ?_;rintro e w6 ⟨rfl,rfl⟩;clear cM cY aL aR bW cC cO cH;generalize (w5.alloc (.cells #[.int .i64 x,.int .i64 y] 27))=w6 at *;have k6:=hst.later aU;generalize w2.heap.size=gx at *;generalize w4.heap.size=gy at *;obtain ⟨gk,aD,rfl,_,aW,_⟩:∃ gk aD,v = .slice (some ⟨gk,0,none⟩) n aD∧B≤gk∧gk<w6.heap.size∧v.ownBlock=some gk:=by
  rcases k6.kn.form with ⟨_,h⟩ | h
  ·have:=HI.out;omega
  ·exact h
 obtain ⟨K1,m1,e1,K2,m2,e2,K3,m3,e3,K4,m4,e4,aT,r1,r2,_,_⟩:=k6.kn.at_ hk.out;have y0:w6.cell? ⟨gk,k*6,none⟩=some (.bool o.neg):=aT 0 _ rfl;have y1:w6.cell? ⟨gk,k*6+1,none⟩=some (.slice K1 m1 e1):=aT 1 _ rfl;have y2:w6.cell? ⟨gk,k*6+2,none⟩=some (.slice K2 m2 e2):=aT 2 _ rfl;clear aT;have aF:Below w6.heap.size w6 w6.drew:=(Below.refl _ _).drew;have aI:=Aa (HC.out _ _ w6.drew (RatS.mk (q:=p) (bA.later aF) (bC.later aF)) (RatS.mk (q:=o) (r1.later aF) (r2.later aF)));go_upto_region 6 with (fail)
 have cF:w6.drew.cell? ⟨gx,0,none⟩=some (.bool p.neg):=aN.cell 0;have bX:w6.drew.cell? ⟨gx,1,none⟩=some (.slice A1 n1 c1):=aN.cell 1;have bQ:w6.drew.cell? ⟨gx,2,none⟩=some (.slice A2 n2 c2):=aN.cell 2;have cZ:w6.drew.cell? ⟨g,0,none⟩=some (.slice (some ⟨gk,0,none⟩) n aD):=k6.box.cell 0;have aZ:w6.drew.cell? ⟨gk,k*6,none⟩=some (.bool o.neg):=y0;have bL:w6.drew.cell? ⟨gk,k*6+1,none⟩=some (.slice K1 m1 e1):=y1;have bF:w6.drew.cell? ⟨gk,k*6+2,none⟩=some (.slice K2 m2 e2):=y2;clear y0 y1 y2
 go_region_held3 (fun w'=>w'.cell? ⟨gx,0,none⟩=some (.bool p.neg)∧w'.cell? ⟨gx,1,none⟩=some (.slice A1 n1 c1)∧w'.cell? ⟨gx,2,none⟩=some (.slice A2 n2 c2)∧w'.cell? ⟨g,0,none⟩=some (.slice (some ⟨gk,0,none⟩) n aD)∧w'.cell? ⟨gk,k*6,none⟩=some (.bool o.neg)∧w'.cell? ⟨gk,k*6+1,none⟩=some (.slice K1 m1 e1)∧w'.cell? ⟨gk,k*6+2,none⟩=some (.slice K2 m2 e2))
  (first | with_reducible exact ⟨cF,bX,bQ,cZ,aZ,bL,bF⟩ | with_reducible exact ⟨cW,cA,cG,bO,cB,bP,bU⟩)
  (first | (go_at_call 81;refine aI.out.mono ?_;rintro e w7 ⟨rfl,aH⟩;have aK:=aN.drew.below aH aN.lt;have k7:=(k6.later aF).later aH;have cW:w7.cell? ⟨gx,0,none⟩=some (.bool p.neg):=aK.cell 0;have cA:w7.cell? ⟨gx,1,none⟩=some (.slice A1 n1 c1):=aK.cell 1;have cG:w7.cell? ⟨gx,2,none⟩=some (.slice A2 n2 c2):=aK.cell 2;have bO:w7.cell? ⟨g,0,none⟩=some (.slice (some ⟨gk,0,none⟩) n aD):=k7.box.cell 0;have cB:w7.cell? ⟨gk,k*6,none⟩=some (.bool o.neg):=(aH.cell aW).trans aZ;have bP:w7.cell? ⟨gk,k*6+1,none⟩=some (.slice K1 m1 e1):=(aH.cell aW).trans bL;have bU:w7.cell? ⟨gk,k*6+2,none⟩=some (.slice K2 m2 e2):=(aH.cell aW).trans bF))
 have aA:=Ad aF aH;have cL:=Ad aU aA;have aX:=bG.drew.below aH bG.lt;have cT:=bA.later aA;have cN:=bC.later aA;have cQ:=cV.later aA;have cI:=cK.later aA;clear aF aH aA aU k6 aN bG bA bC cV cK cW cA cG bO cB bP bU cF bX bQ cZ aZ bL bF r1 r2 aI HC aW d1 d2 d3 d4;obtain ⟨dD,xs,hx,bR⟩:=k7.kn;have aM:Below w7.heap.size w7 (w7.alloc (.cells #[.bool p.neg,.slice A1 n1 c1,.slice A2 n2 c2,.bool q.neg,.slice A3 n3 c3,.slice A4 n4 c4] 143)):=Ac;have kV:=k7.later aM;have aP:=hx.alloc (.cells #[.bool p.neg,.slice A1 n1 c1,.slice A2 n2 c2,.bool q.neg,.slice A3 n3 c3,.slice A4 n4 c4] 143);have cU:CBlk (w7.alloc (.cells #[.bool p.neg,.slice A1 n1 c1,.slice A2 n2 c2,.bool q.neg,.slice A3 n3 c3,.slice A4 n4 c4] 143)) w7.heap.size #[.bool p.neg,.slice A1 n1 c1,.slice A2 n2 c2,.bool q.neg,.slice A3 n3 c3,.slice A4 n4 c4] 143:=CBlk.new _ _ _ _ rfl;have cR:ItvS (w7.alloc (.cells #[.bool p.neg,.slice A1 n1 c1,.slice A2 n2 c2,.bool q.neg,.slice A3 n3 c3,.slice A4 n4 c4] 143)) (w7.alloc (.cells #[.bool p.neg,.slice A1 n1 c1,.slice A2 n2 c2,.bool q.neg,.slice A3 n3 c3,.slice A4 n4 c4] 143)).heap.size (.agg #[.bool p.neg,.slice A1 n1 c1,.slice A2 n2 c2,.bool q.neg,.slice A3 n3 c3,.slice A4 n4 c4]) p q:=⟨A1,n1,c1,A2,n2,c2,A3,n3,c3,A4,n4,c4,rfl,cT.later aM,cN.later aM,cQ.later aM,cI.later aM⟩;have cP:=fun (v':Value) (V':World) ho hg hat hf=>zf2 (W:=w7) (V:=w7.alloc (.cells #[.bool p.neg,.slice A1 n1 c1,.slice A2 n2 c2,.bool q.neg,.slice A3 n3 c3,.slice A4 n4 c4] 143)) (V':=V') (v':=v') (a:=#[.bool p.neg,.slice A1 n1 c1,.slice A2 n2 c2,.bool q.neg,.slice A3 n3 c3,.slice A4 n4 c4]) (p:=p) (q:=q) k7 hx bR aM cR rfl ho hg hat hf
 have bY:=kV.apart;have cJ:=kV.box;have bT:=kV.free;have dL:w7.heap.size≤(w7.alloc (.cells #[.bool p.neg,.slice A1 n1 c1,.slice A2 n2 c2,.bool q.neg,.slice A3 n3 c3,.slice A4 n4 c4] 143)).heap.size:=aM.size;have bK:=cL.size;have b0:w7.cell? ⟨g,0,none⟩=some (Value.slice (some ⟨gk,0,none⟩) n aD):=k7.box.cell 0;have x0:w7.cell? ⟨gx,0,none⟩=some (.bool p.neg):=aK.cell 0;have x1:w7.cell? ⟨gx,1,none⟩=some (.slice A1 n1 c1):=aK.cell 1;have x2:w7.cell? ⟨gx,2,none⟩=some (.slice A2 n2 c2):=aK.cell 2;have y0:w7.cell? ⟨gy,0,none⟩=some (.bool q.neg):=aX.cell 0;have y1:w7.cell? ⟨gy,1,none⟩=some (.slice A3 n3 c3):=aX.cell 1;have y2:w7.cell? ⟨gy,2,none⟩=some (.slice A4 n4 c4):=aX.cell 2;have aJ:∀ j u,[Value.bool p.neg,.slice A1 n1 c1,.slice A2 n2 c2,.bool q.neg,.slice A3 n3 c3,.slice A4 n4 c4][j]? = some u→(w7.alloc (.cells #[.bool p.neg,.slice A1 n1 c1,.slice A2 n2 c2,.bool q.neg,.slice A3 n3 c3,.slice A4 n4 c4] 143)).cell? ((⟨w7.heap.size,0,none⟩:Addr).add j)=some u:=fun j u hu=>by
  have e2:(⟨w7.heap.size,0,none⟩:Addr).add j=⟨w7.heap.size,j,none⟩:=by unfold Addr.add;split<;>simp_all
  rw [e2,cU.cell j]
  simpa using hu
 have dK:=Aa cP;have dF:=Aa aJ;have bE:=Aa aP;have dA:=Aa bT;have dM:=Aa bY;have cS:=Aa cJ;have dN:=hB;clear cP aJ aP bT bY cJ kV hx bR dD cR cU k7 hst cT cN cQ cI aK aX;obtain ⟨i0,dH,dJ,dI,dB⟩:=info_parts zhU
 go_wp2_with (at_builtin;refine zcB rfl _ _ 139 rfl B 143 i0 _ 6 112 Tryz.underlying139 dH dJ dI dB rfl (by decide) (za4 _ _ _ _ _ _ _ _ _ _ _ _ _ _) (Value.slice (some ⟨gk,0,none⟩) n aD) n xs rfl bE.out dA.out ⟨w7.heap.size,0,none⟩ 1 1 [Value.bool p.neg,.slice A1 n1 c1,.slice A2 n2 c2,.bool q.neg,.slice A3 n3 c3,.slice A4 n4 c4] (by decide) rfl rfl dF.out ?ca1 ?ca2 ?ca3 ?ca4 ?ca5 ?_)
 case ca1=>exact ⟨rfl,rfl,rfl,rfl,rfl,rfl⟩
 case ca3=>have:=HN.out;unfold maxLen;omega
 case ca4=>have:=HN.out;omega
 case ca5=>have:=HN.out;omega
 intro v' w9 bI bD aO bZ;have aG:v'.ownBlock=(Value.slice (some ⟨gk,0,none⟩) n aD).ownBlock∨v'.ownBlock=some (w7.alloc (.cells #[.bool p.neg,.slice A1 n1 c1,.slice A2 n2 c2,.bool q.neg,.slice A3 n3 c3,.slice A4 n4 c4] 143)).heap.size:=by simpa [Value.ownBlock] using aO
 have bV:=dK.out v' w9 bI bD aG bZ;have bB:=cS.out.grown bD cS.out.lt (fun e=>dM.out e);have z0:w9.cell? ⟨g,0,none⟩=some (Value.slice (some ⟨gk,0,none⟩) n aD):=bB.cell 0;have z1:=bB.frozen 0;obtain ⟨A9,c9,rfl,_,_,_⟩:=zcs bI;have bN:=Aa bV;clear bV bB bI bD aO aG bZ;go_wp2
 go_ret;exact ⟨rfl,⟨_,bN.out.1⟩,(cL.mono hB1).trans (bN.out.2 B (Nat.le_trans hB1 bK) (Nat.le_refl _) hB)⟩
def PtsR (w:World) (B:Nat) (A:Option Addr) (n:Nat) (C:List (ByteArray × ByteArray)):Prop:=
 C.length=n∧(0<n→∃ ad,A=some ad∧ad.block<B∧∀ i (h:i<C.length),w.cell? ((ad.add (i*2)).add 0)=some (.string C[i].1)∧w.cell? ((ad.add (i*2)).add 1)=some (.string C[i].2))
theorem PtsR.below {w w':World} {B:Nat} {A:Option Addr} {n:Nat} {C:List (ByteArray × ByteArray)} (h:PtsR w B A n C) (hb:Below B w w'):PtsR w' B A n C:=by
 refine ⟨h.1,fun h0 => ?_⟩;obtain ⟨ad,e,aA,hc⟩:=h.2 h0;refine ⟨ad,e,aA,fun i hi => ?_⟩;have hx:∀ p q:Nat,((ad.add p).add q).block<B:=fun p q=>by rw [zaK,zaK];exact aA
 exact ⟨(hb.cell (hx _ _)).trans (hc i hi).1,(hb.cell (hx _ _)).trans (hc i hi).2⟩
theorem PtsR.later {w w':World} {A:Option Addr} {n:Nat} {C:List (ByteArray × ByteArray)} (h:PtsR w w.heap.size A n C) (hb:Below w.heap.size w w'):PtsR w' w'.heap.size A n C:=by
 have h1:=h.below hb;refine ⟨h1.1,fun h0 => ?_⟩;obtain ⟨ad,e,aA,hc⟩:=h1.2 h0;exact ⟨ad,e,Nat.lt_of_lt_of_le aA hb.size,hc⟩
def rdP (p:ByteArray × ByteArray):Q × Q:=(zak p.1.data.toList,zak p.2.data.toList)
def zbr:Option Q→List (ByteArray × ByteArray)→Int
 | _,[]=>0
 | o,p :: t=>if rowE o p.1.data.toList p.2.data.toList≠0 then rowE o p.1.data.toList p.2.data.toList else zbr (some (zak p.1.data.toList)) t
def tabE (l:List (ByteArray × ByteArray)):Int:=if l.length<1 then 12 else if 64<l.length then 5 else zbr none l
def zbQ (l:List (ByteArray × ByteArray)) (k:Nat):Option Q:=if k=0 then none else (l[k - 1]?).map fun p=>zak p.1.data.toList
theorem zn8 (k:Nat) (X Y:ByteArray) (o:Option Q) (g B:Nat) (v:Value) (ks:List (Q × Q)) (w:World) (hT:Tabs w) (hB1:B≤w.heap.size) (hB:B≤g) (hst:KState w B g k ks v) (hk:k<64)
  (ho:(k=0∧o=none)∨∃ j q qq,k=j+1∧o=some q∧ks[j]? = some (q,qq)∧LenQ q 268435456) (hX:X.size≤4294967296) (hY:Y.size≤4294967296) :
  Calls Tryz.prog 169 #[.int .i64 (k:Int),.agg #[.string X,.string Y],.pointer (some ⟨g,0,none⟩)] w fun e w'=>e = .returned (.int .i64 (rowE o X.data.toList Y.data.toList))∧Below B w w' ∧
   ∃ A' m' c',CBlk w' g #[.slice A' m' c'] 139∧(rowE o X.data.toList Y.data.toList=0→KState w' B g (k+1) (ks++[rdP (X,Y)]) (.slice A' m' c')):=by
 have aE:Hid (∀ W,Tabs W→Calls Tryz.prog 59 #[.string X] W (zay W (zak X.data.toList) (zam X.data.toList))):=fun W hT=>zcb X W hT hX
 have aD:Hid (∀ W,Tabs W→Calls Tryz.prog 59 #[.string Y] W (zay W (zak Y.data.toList) (zam Y.data.toList))):=fun W hT=>zcb Y W hT hY
 have aJ:∃ A' m' c',v = .slice A' m' c':=by
  rcases hst.kn.form with ⟨e,_⟩ | ⟨gk,aI,e,_⟩
  ·exact ⟨_,_,_,e⟩
  ·exact ⟨_,_,_,e⟩
 have same:∀ w',Below w.heap.size w w'→∃ A' m' c',CBlk w' g #[.slice A' m' c'] 139:=fun w' hb=>by
  obtain ⟨A',m',c',rfl⟩:=aJ;exact ⟨A',m',c',(hst.later hb).box⟩
 have aC:∀ w',(∃ v',KState w' B g (k+1) (ks++[(zak X.data.toList,zak Y.data.toList)]) v')→∃ A' m' c',CBlk w' g #[.slice A' m' c'] 139∧KState w' B g (k+1) (ks++[rdP (X,Y)]) (.slice A' m' c'):=fun w' ⟨v',h⟩=>by
  rcases h.kn.form with ⟨rfl,_⟩ | ⟨gk,aI,rfl,_⟩
  ·exact ⟨_,_,_,h.box,h⟩
  ·exact ⟨_,_,_,h.box,h⟩
 by_cases hx:zam X.data.toList=0
 ·by_cases hy:zam Y.data.toList=0
  ·rcases ho with ⟨rfl,rfl⟩ | ⟨j,q,qq,rfl,rfl,hj,aH⟩
   ·have hr:rowE none X.data.toList Y.data.toList=0:=by unfold rowE;rw [if_neg (by omega),if_neg (by omega)]
    rw [hr];refine (zlB ((0:Nat):Int) _ _ _ _ X Y g B 0 v ks w hT hB1 hB hst ⟨hx,hy⟩ (show (0:Nat)<64 by omega) rfl aE aD).mono ?_;rintro e w' ⟨rfl,aG,aA⟩;obtain ⟨A',m',c',h1,h2⟩:=aC w' aG;exact ⟨rfl,aA,A',m',c',h1,fun _=>h2⟩
   ·have lp:LenQ (zak X.data.toList) 268435456:=by
     have h9:=@zaN X.data.toList hx;exact ⟨by omega,by omega⟩
    by_cases hr:rcmp (zak X.data.toList) q≤0
    ·have aF:rowE (some q) X.data.toList Y.data.toList=11:=by unfold rowE;rw [if_neg (by omega),if_neg (by omega)];exact if_pos hr
     rw [aF];refine (zmk ((j+1:Nat):Int) _ _ _ _ X Y g B j (j+1) v ks w hT hst ⟨hx,hy⟩ ⟨rfl,rfl,by omega⟩ q qq hj hr lp aH aE aD).mono ?_;rintro e w' ⟨rfl,aA⟩;obtain ⟨A',m',c',h1⟩:=same w' aA;exact ⟨rfl,aA.mono hB1,A',m',c',h1,(fun h=>by omega)⟩
    ·have aF:rowE (some q) X.data.toList Y.data.toList=0:=by unfold rowE;rw [if_neg (by omega),if_neg (by omega)];exact if_neg hr
     rw [aF];refine (zmL ((j+1:Nat):Int) _ _ _ _ X Y g B j (j+1) v ks w hT hB1 hB hst ⟨hx,hy⟩ hk ⟨rfl,rfl,by omega⟩ q qq hj (show 0<rcmp (zak X.data.toList) q by omega) lp aH aE aD).mono ?_;rintro e w' ⟨rfl,aG,aA⟩;obtain ⟨A',m',c',h1,h2⟩:=aC w' aG;exact ⟨rfl,aA,A',m',c',h1,fun _=>h2⟩
  ·have hr:rowE o X.data.toList Y.data.toList=zam Y.data.toList:=by unfold rowE;rw [if_neg (by omega),if_pos hy]
   rw [hr];refine (zlg (k:Int) _ _ (zam Y.data.toList) _ _ X Y g B k v ks w hT hst (show zam Y.data.toList=if zam X.data.toList≠0 then zam X.data.toList else zam Y.data.toList by rw [if_neg (by omega)]) hy aE aD).mono ?_
   rintro e w' ⟨rfl,aA⟩;obtain ⟨A',m',c',h1⟩:=same w' aA;exact ⟨rfl,aA.mono hB1,A',m',c',h1,fun h=>absurd h hy⟩
 ·have hr:rowE o X.data.toList Y.data.toList=zam X.data.toList:=by unfold rowE;rw [if_pos hx]
  rw [hr];refine (zlg (k:Int) _ _ (zam X.data.toList) _ _ X Y g B k v ks w hT hst (show zam X.data.toList=if zam X.data.toList≠0 then zam X.data.toList else zam Y.data.toList by rw [if_pos hx]) hx aE aD).mono ?_
  rintro e w' ⟨rfl,aA⟩;obtain ⟨A',m',c',h1⟩:=same w' aA;exact ⟨rfl,aA.mono hB1,A',m',c',h1,fun h=>absurd h hx⟩
theorem zkQ (args:Array Value) (w:World):(callFunc 169 args).run Tryz.prog w = .ok (.enter 169 args) w:=by kernel_rfl
theorem zki:(Tryz.prog.info? 70).map (·.size)=some 2:=by kernel_rfl
theorem zfz {P:Program} {ops:Array Oper} {rest:List Oper} {op:Oper} {a:Act} {w:World} {Q:Exit→Act→World→Prop} (hgd:op.guard=none) (ty:TypeId) (x:Operand) (ho:op.op = .load ty x)
  (ad:Addr) (hx:a.eval x = .pointer (some ad)) (cs:List Value) (d:TypeDesc) (hc:∀ j v,cs[j]? = some v→w.cell? (ad.add j)=some v)
  (hu:P.underlying ty=some d) (hd:d.isRow=true) (hi:(P.info? ty).map (·.size)=some cs.length)
  (h:wpList P ops Q rest (a.put op.dst (.agg cs.toArray)) w):wpList P ops Q (op :: rest) a w:=by
 have hl:(loadCells ad cs.length).run P w = .ok cs.toArray w:=run_loadCells_list (P:=P) w ad cs hc;have hv:(loadVar ty ad).run P w = .ok (.agg cs.toArray) w:=by
  cases hq:P.info? ty with
  | none=>simp [hq] at hi
  | some i=>
   have hs:i.size=cs.length:=by simpa [hq] using hi
   have aA:(isAgg ty).run P w = .ok true w:=by
    unfold isAgg;rw [Sem.run_bind,run_underlying hu w]
    cases d<;>simp_all
   simp [loadVar,Sem.run_bind,aA,sizeOf,typeInfo,hq,hs,hl]
 refine wpList_plain hgd fun _ hK => ?_
 unfold Oper.wp execOp;simp only [ho,hx,Instr.loadAt,Instr.sureAddr,Sem.run_bind,Sem.run_pure,Result.andThen_ok,hv]
 exact hK _ _ h
theorem zgz {l:List (ByteArray × ByteArray)} {k:Nat} (h:k<l.length) (he:zbr none l=zbr (zbQ l k) (l.drop k)) :
  (rowE (zbQ l k) l[k].1.data.toList l[k].2.data.toList≠0→zbr none l=rowE (zbQ l k) l[k].1.data.toList l[k].2.data.toList) ∧
  (rowE (zbQ l k) l[k].1.data.toList l[k].2.data.toList=0→zbr none l=zbr (zbQ l (k+1)) (l.drop (k+1))∧zam l[k].1.data.toList=0):=by
 rw [List.drop_eq_getElem_cons h] at he;have hc:zbr (zbQ l k) (l[k] :: l.drop (k+1))=if rowE (zbQ l k) l[k].1.data.toList l[k].2.data.toList≠0 then rowE (zbQ l k) l[k].1.data.toList l[k].2.data.toList else zbr (some (zak l[k].1.data.toList)) (l.drop (k+1)):=by
  cases zbQ l k<;>rfl
 rw [hc] at he
 constructor
 ·intro h0
  rw [he,if_pos h0]
 ·intro h0
  refine ⟨?_,?_⟩
  ·rw [he,if_neg (by omega)]
   have:zbQ l (k+1)=some (zak l[k].1.data.toList):=by
    unfold zbQ;rw [if_neg (by omega),Nat.add_sub_cancel,List.getElem?_eq_getElem h];rfl
   rw [this]
  ·unfold rowE at h0
   by_cases hx:zam l[k].1.data.toList=0
   ·exact hx
   ·rw [if_pos hx] at h0
    exact h0
theorem zkJ (A:Option Addr) (n c g:Nat) (l:List (ByteArray × ByteArray)) (w0 w:World) (hT:Tabs w0) (hb0:Below w0.heap.size w0 w) (hB:w0.heap.size≤g) (h:PtsR w0 w0.heap.size A n l) (hsz:∀ p ∈ l,p.1.size≤4294967296∧p.2.size≤4294967296)
  (hn1:1≤n) (hn:n≤64) (hst:KState w w0.heap.size g 0 [] (.slice none 0 0)) :
  Calls Tryz.prog 168 #[.slice A n c,.int .i64 1,.int .i64 64,.func (.func 169) #[] #[.pointer (some ⟨g,0,none⟩)]] w fun e w'=>e = .returned (.int .i64 (zbr none l))∧Below w0.heap.size w0 w' ∧
   ∃ A' m' c',CBlk w' g #[.slice A' m' c'] 139∧(zbr none l=0→KState w' w0.heap.size g n (l.map rdP) (.slice A' m' c')):=by
 have bF:=Aa hsz;have aG:l.length=n:=h.1;have aJ:=Aa aG;have bO:decide ((n:Int)<1)=false:=decide_eq_false (by omega);have bN:decide ((64:Int)<(n:Int))=false:=decide_eq_false (by omega);have eg:=zkQ;obtain ⟨R,hR⟩:∃ R,R=zbr none l:=⟨_,rfl⟩;have bL:=Aa (show R=zbr (zbQ l 0) (l.drop 0) from hR);have aK:=Aa hR;rw [←hR];clear hsz aG hR;go_enter Tryz.func168,Tryz.ntmps168
 go_wp2
 go_loopg [22] n (fun m s W=>∃ k:Nat,k≤n∧s = .int .i64 k∧n - k≤m∧(∃ A' m' c',KState W w0.heap.size g k ((l.take k).map rdP) (.slice A' m' c'))∧Below w0.heap.size w0 W∧zbr none l=zbr (zbQ l k) (l.drop k)∧(0<k→∀ p,l[k - 1]? = some p→zam p.1.data.toList=0))
 case atStart=>exact ⟨0,Nat.zero_le _,rfl,by omega,⟨none,0,0,hst⟩,hb0,rfl,(fun h=>absurd h (by omega))⟩
 case round=>
  obtain ⟨k,hk,rfl,hm,⟨A',m',c',aF⟩,aC,aX,bB⟩:=hrel;have aS:=Aa aX;have bJ:=Aa bB;clear aX bB
  by_cases h0:k<n
  ·have aH:k<l.length:=by have:=aJ.out;omega
   obtain ⟨ad,rfl,bM,aR⟩:=(h.below aC).2 (by omega);obtain ⟨aN,aL⟩:=aR k aH;have aA:=zgz aH aS.out;have hs:=bF.out l[k] (List.getElem_mem aH);have aQ:(l.take (k+1)).map rdP=(l.take k).map rdP++[rdP (l[k].1,l[k].2)]:=by
    rw [List.take_succ_eq_append_getElem aH,List.map_append];rfl
   have bA:l[k]? = some l[k]:=List.getElem?_eq_getElem aH;have ho:(k=0∧zbQ l k=none)∨∃ j q qq,k=j+1∧zbQ l k=some q∧((l.take k).map rdP)[j]? = some (q,qq)∧LenQ q 268435456:=by
    rcases Nat.eq_zero_or_pos k with h1 | h1
    ·exact .inl ⟨h1,by unfold zbQ;rw [if_pos h1]⟩
    ·have hj:k - 1<l.length:=by omega
     have hz:=bJ.out h1 l[k - 1] (List.getElem?_eq_getElem hj);refine .inr ⟨k - 1,zak l[k - 1].1.data.toList,zak l[k - 1].2.data.toList,by omega,?_,?_,?_⟩
     ·unfold zbQ
      rw [if_neg (by omega),List.getElem?_eq_getElem hj];rfl
     ·rw [List.getElem?_map,List.getElem?_take,if_pos (by omega),List.getElem?_eq_getElem hj]
      rfl
     ·have h9:=@zaN _ hz
      exact ⟨by omega,by omega⟩
   generalize l[k]=pt at *;obtain ⟨X,Y⟩:=pt
   dsimp only at aN aL aA hs aQ
   have aU:∀ j v,[Value.string X,Value.string Y][j]? = some v→wr.cell? ((ad.add (k*2)).add j)=some v:=fun j v hj=>by
    match j,hj with
    | 0,hj=>injection hj with hj;subst hj;exact aN
    | 1,hj=>injection hj with hj;subst hj;exact aL
    | j+2,hj=>simp at hj
   have bI:=Aa aU;have aO:Below wr.heap.size wr (wr.alloc (.cells #[.string X,.string Y] 70)):=Ac;have aT:CBlk (wr.alloc (.cells #[.string X,.string Y] 70)) wr.heap.size #[.string X,.string Y] 70:=CBlk.new _ _ _ _ rfl;have bE:=aC.size;have aI:=aC.trans (aO.mono bE);have aE:=zn8 k X Y (zbQ l k) g w0.heap.size _ _ _ (hT.later aI) aI.size hB (aF.later aO) (by omega) ho hs.1 hs.2;have aD:=Aa aE;have aP:=Aa aA;have bH:=Aa aQ;have bD:=Aa bA;have aY:=Aa aT;have bC:=Aa aI;clear aU aN aL aA hs aQ bA ho aR aO aT aI aE aF;go_upto_region 8 with (first
    |(refine zfz rfl 70 (.tmp 25) rfl (ad.add (k*2)) rfl [Value.string X,Value.string Y] _ bI.out Tryz.underlying70 rfl zki ?_))
   generalize wr.alloc (.cells #[.string X,.string Y] 70)=w3 at *;have p0:w3.cell? ⟨wr.heap.size,0,none⟩=some (.string X):=aY.out.cell 0;have p1:w3.cell? ⟨wr.heap.size,1,none⟩=some (.string Y):=aY.out.cell 1;generalize rowE (zbQ l k) X.data.toList Y.data.toList=rr at *
   by_cases hrr:rr=0
   ·subst hrr
    go_wp2_with (go_at_fn 169;refine aD.out.mono ?_;rintro e w4 ⟨rfl,aM,A9,m9,c9,aV,aW⟩)
    go_roundg (n - (k+1))
    case measure=>omega
    case rel=>exact ⟨k+1,by omega,by go_num,Nat.le_refl _,⟨A9,m9,c9,by rw [bH.out];exact aW trivial⟩,bC.out.trans aM,(aP.out.2 trivial).1,fun _ p hp=>by
     rw [Nat.add_sub_cancel,bD.out] at hp;injection hp with hp
     subst hp;exact (aP.out.2 trivial).2⟩
   ·have bK:(rr != 0)=true:=by simpa using hrr
    have aZ:=Aa (aP.out.1 hrr);have bG:=Aa hrr;clear hrr
    go_wp2_with (go_at_fn 169;refine aD.out.mono ?_;rintro e w4 ⟨rfl,aM,A9,m9,c9,aV,aW⟩)
    go_ret;exact ⟨by rw [aK.out,aZ.out];rfl,bC.out.trans aM,A9,m9,c9,aV,fun h=>absurd (aZ.out.symm.trans (aK.out.symm.trans h)) bG.out⟩
  ·obtain rfl:n=k:=by omega
   have hz:Hid (R=0):=by
    have h9:=aK.out.trans aS.out;rw [List.drop_eq_nil_of_le (by have:=aJ.out;omega)] at h9
    cases zbQ l n<;>exact h9
   rw [List.take_of_length_le (by have:=aJ.out;omega)] at aF;go_wp2
   go_ret;exact ⟨by rw [hz.out];rfl,aC,A',m',c',aF.box,fun _=>aF⟩
theorem zic (A:Option Addr) (n c g:Nat) (l:List (ByteArray × ByteArray)) (w0 w:World) (hT:Tabs w0) (hb0:Below w0.heap.size w0 w) (hB:w0.heap.size≤g) (h:PtsR w0 w0.heap.size A n l) (hsz:∀ p ∈ l,p.1.size≤4294967296∧p.2.size≤4294967296)
  (hst:KState w w0.heap.size g 0 [] (.slice none 0 0)) :
  Calls Tryz.prog 168 #[.slice A n c,.int .i64 1,.int .i64 64,.func (.func 169) #[] #[.pointer (some ⟨g,0,none⟩)]] w fun e w'=>e = .returned (.int .i64 (tabE l))∧Below w0.heap.size w0 w' ∧
   ∃ A' m' c',CBlk w' g #[.slice A' m' c'] 139∧(tabE l=0→KState w' w0.heap.size g n (l.map rdP) (.slice A' m' c')):=by
 have aA:l.length=n:=h.1
 by_cases h1:n<1
 ·have e:tabE l=12:=by unfold tabE;rw [if_pos (by omega)]
  rw [e];have aD:decide ((n:Int)<1)=true:=decide_eq_true (by omega);have aC:=Aa hst.box;clear e aA h1 h hst hsz hT;go_enter Tryz.func168,Tryz.ntmps168
  go_wp2
  go_ret;exact ⟨rfl,hb0,none,0,0,aC.out,(fun h=>by omega)⟩
 ·by_cases h2:64<n
  ·have e:tabE l=5:=by unfold tabE;rw [if_neg (by omega),if_pos (by omega)]
   rw [e];have aD:decide ((n:Int)<1)=false:=decide_eq_false (by omega);have aE:decide ((64:Int)<(n:Int))=true:=decide_eq_true (by omega);have aC:=Aa hst.box;clear e aA h1 h2 h hst hsz hT;go_enter Tryz.func168,Tryz.ntmps168
   go_wp2
   go_ret;exact ⟨rfl,hb0,none,0,0,aC.out,(fun h=>by omega)⟩
  ·have e:tabE l=zbr none l:=by unfold tabE;rw [if_neg (by omega),if_neg (by omega)]
   rw [e];exact zkJ A n c g l w0 w hT hb0 hB h hsz (by omega) (by omega) hst
theorem zgZ (A:Option Addr) (n c:Nat) (l:List (ByteArray × ByteArray)) (w:World) (hT:Tabs w) (h:PtsR w w.heap.size A n l) (hsz:∀ p ∈ l,p.1.size≤4294967296∧p.2.size≤4294967296) :
  Calls Tryz.prog 110 #[.slice A n c] w fun e w'=>(∃ A' m' c',e = .returned (.tuple #[.slice A' m' c',.int .i64 (tabE l)])∧(tabE l=0→zcN w' w.heap.size (.slice A' m' c') n (l.map rdP)))∧Below w.heap.size w w':=by
 have aA:Below w.heap.size w (w.alloc (.cells #[.slice none 0 0] 139)):=Ac;have q:CBlk (w.alloc (.cells #[.slice none 0 0] 139)) w.heap.size #[.slice none 0 0] 139:=CBlk.new _ _ _ _ rfl;have HL:=Aa (zic A n c w.heap.size l w _ hT aA (Nat.le_refl _) h hsz ⟨q,zcN.nil _ _,Free.nil _⟩);generalize tabE l=E at *;clear q h hsz aA;go_enter Tryz.func110,Tryz.ntmps110
 go_wp2_with fail
 refine HL.out.mono ?_;rintro e w2 ⟨rfl,aD,A',m',c',aC,hk⟩;have b0:w2.cell? ⟨w.heap.size,0,none⟩=some (.slice A' m' c'):=aC.cell 0;have HK:=Aa hk;clear hk aC
 go_wp2_with fail
 go_ret2
 exact ⟨⟨A',m',c',rfl,fun h=>(HK.out h).kn⟩,aD⟩
end Go.Proofs.YtbkgkoenppkhpaaGreatDoor
