/- Contracts of package number's step, fraction, precision, and of acuteCosine where the first attempt tells. -/
import Derived.Test.YtbkgkoenppkhpaaGreatDoorBSp0
set_option maxRecDepth 100000
set_option maxHeartbeats 8000000
namespace Go.Proofs.YtbkgkoenppkhpaaGreatDoor
open Go.RowKit Bn
theorem zkj(x s:Nat)(A:Option Addr)(n c:Nat)(w:World)(hT:Tabs w)(hx:NatS w w.heap.size A n c x)(hn:n≤536870912)(hs:s<18446744073709551616) :
  Calls Tryz.prog 133 #[.slice A n c,.int .u64 (s:Int)] w (zch w (lowQ false x s) (lowQ false (x+1) s)):=by
 have aH:Below w.heap.size w (w.alloc (.cells #[.bool false,.slice none 0 0,.slice none 0 0,.bool false,.slice none 0 0,.slice none 0 0] 91)):=Ac;have q0:CBlk (w.alloc (.cells #[.bool false,.slice none 0 0,.slice none 0 0,.bool false,.slice none 0 0,.slice none 0 0] 91)) w.heap.size #[.bool false,.slice none 0 0,.slice none 0 0,.bool false,.slice none 0 0,.slice none 0 0] 91:=CBlk.new w _ _ _ rfl;have bD:=hx.later ((Below.refl _ _).alloc (Nat.le_refl _) (.cells #[.bool false,.slice none 0 0,.slice none 0 0,.bool false,.slice none 0 0,.slice none 0 0] 91));have bI:=hT.later aH;have aW:=hx.len;have bL:(digs s).length≤1:=zab (by rw[zdC,Nat.pow_one];exact hs);clear hx;go_enter Tryz.func133,Tryz.ntmps133
 go_upto_region 1 with(fail)
 generalize (w.alloc (.cells #[.bool false,.slice none 0 0,.slice none 0 0,.bool false,.slice none 0 0,.slice none 0 0] 91))=w1 at *
 go_wp2_with fail
 refine(zai (s:Int) w1 (by omega) (by omega)).mono ?_;rintro e w2 ⟨A2,m2,c2,rfl,aF,aG⟩;rw[Int.toNat_natCast] at aF;have aN:=Ad aH aG;have q2:=q0.below aG q0.lt;have aO:=bD.later aG;have aK:=bI.later aG;clear q0 bD aH aG bI
 go_wp2_with fail
 refine(zbH false A A2 n c m2 c2 x s w2 aK aO aF (by omega) (by have:=aF.len;omega)).mono ?_;rintro e w3 ⟨v3,rfl,⟨A3,m3,c3,A4,m4,c4,rfl,h3,h4⟩,aD⟩;have aQ:=Ad aN aD;have q3:=q2.below aD q2.lt;have aX:=aO.later aD;have bA:=aK.later aD;have aV:=aF.later aD;clear q2 aO aN aD aK aF
 go_wp2_with fail
 refine(zai 1 w3 (by omega) (by omega)).mono ?_;rintro e w5 ⟨A5,m5,c5,rfl,aP,aA⟩;have aR:=Ad aQ aA;have q5:=q3.below aA q3.lt;have bE:=aX.later aA;have bC:=bA.later aA;have bH:=aV.later aA;have aU:=h3.later aA;have bG:=h4.later aA;clear q3 aX aQ aA bA aV h3 h4
 go_wp2_with fail
 refine(zcw A A5 n c m5 c5 x _ w5 bE aP (by omega) (by have h:=aP.len;have h2:(digs (Int.toNat 1)).length≤1:=zbF;omega)).mono ?_;rintro e w6 ⟨A6,m6,c6,rfl,aM,aC⟩;have aS:=Ad aR aC;have q6:=q5.below aC q5.lt;have bF:=bC.later aC;have aL:=bH.later aC;have aY:=aU.later aC;have aT:=bG.later aC;clear q5 bE aR aC bC aP bH aU bG
 go_wp2_with fail
 refine(zbH false A6 A2 m6 c6 m2 c2 (x+Int.toNat 1) s w6 bF aM aL (by have h:=aM.len;have h2:(digs (Int.toNat 1)).length≤1:=zbF;have h3:=zdw (Nat.le_of_eq aW) h2;omega) (by have:=aL.len;omega)).mono ?_;rintro e w7 ⟨v7,rfl,⟨A7,m7,c7,A8,m8,c8,rfl,h7,h8⟩,aE⟩;have bK:=Ad aS aE;have q7:=q6.below aE q6.lt;have aZ:=aY.later aE;have bB:=aT.later aE;clear q6 aS aE bF aM aL aY aT aW bL;rw[show x+Int.toNat 1=x+1 from rfl] at h7 h8 ⊢;obtain⟨qa,aJ⟩:∃ qa,qa=lowQ false x s:=⟨_,rfl⟩;obtain⟨qb,aI⟩:∃ qb,qb=lowQ false (x+1) s:=⟨_,rfl⟩;rw[←aJ] at aZ bB;rw[←aI] at h7 h8
 try rw[←aJ]
 try rw[←aI]
 have bM:=Aa aJ;have bJ:=Aa aI;clear aJ aI;have y0:=q7.cell 0;have y1:=q7.cell 1;have y2:=q7.cell 2;have y3:=q7.cell 3;have y4:=q7.cell 4;have y5:=q7.cell 5;have z0:=q7.frozen 0;have z1:=q7.frozen 1;have z2:=q7.frozen 2;have z3:=q7.frozen 3;have z4:=q7.frozen 4;have z5:=q7.frozen 5;have hI:=zbX (p:=qa) (q:=qb) q7 bK (Nat.le_refl _) rfl aZ bB h7 h8;have hD:=q7.set6 (.bool qa.neg) (.slice A3 m3 c3) (.slice A4 m4 c4) (.bool qb.neg) (.slice A7 m7 c7) (.slice A8 m8 c8);unfold Go.Proofs.YtbkgkoenppkhpaaGreatDoor.set6 at hI hD;have r0:=hD.cell 0;have r1:=hD.cell 1;have r2:=hD.cell 2;have r3:=hD.cell 3;have r4:=hD.cell 4;have r5:=hD.cell 5;have HI:=Aa hI;clear hI hD;go_wp2
 refine bodyPost_ret (v := .agg #[.bool qa.neg,.slice A3 m3 c3,.slice A4 m4 c4,.bool qb.neg,.slice A7 m7 c7,.slice A8 m8 c8]) (by simp[results,Tryz.results133,go_sem,y0,y1,y2,y3,y4,y5]) rfl ⟨_,rfl,by obtain rfl:=bM.out;obtain rfl:=bJ.out;exact HI.out⟩
theorem zgO(w:World)(hT:Tabs w):Calls Tryz.prog 207 #[.int .i64 0] w fun e w'=>e = .returned (.int .i64 48)∧w=w':=by
 have h0:=hT.prec.1;clear hT;go_enter Tryz.func207,Tryz.ntmps207
 go_wp2
 go_ret;exact⟨rfl,rfl⟩
theorem zfB(x y:Nat)(w:World)(hT:Tabs w)(hx:x<18446744073709551616)(hy:y<18446744073709551616) :
  Calls Tryz.prog 116 #[.int .u64 (x:Int),.int .u64 (y:Int)] w (za5 w (lowQ false x y)):=by
 have aE:Below w.heap.size w (w.alloc (.cells #[.bool false,.slice none 0 0,.slice none 0 0] 87)):=Ac;have aK:(digs x).length≤1:=zab (by rw[zdC,Nat.pow_one];exact hx);have aL:(digs y).length≤1:=zab (by rw[zdC,Nat.pow_one];exact hy);go_enter Tryz.func116,Tryz.ntmps116
 go_wp2_with fail
 refine(zai (x:Int) _ (by omega) (by omega)).mono ?_;rintro e w2 ⟨A2,m2,c2,rfl,aG,aA⟩;rw[Int.toNat_natCast] at aG
 go_wp2_with fail
 refine(zai (y:Int) _ (by omega) (by omega)).mono ?_;rintro e w3 ⟨A3,m3,c3,rfl,aF,aD⟩;rw[Int.toNat_natCast] at aF;have aC:Below w.heap.size w w3:=(aE.trans (aA.mono aE.size)).trans (aD.mono (Nat.le_trans aE.size aA.size))
 go_wp2_with fail
 refine(zbH false A2 A3 m2 c2 m3 c3 x y w3 (hT.later aC) (aG.later aD) aF (by have:=aG.len;omega) (by have:=aF.len;omega)).mono ?_;rintro e w4 ⟨v4,rfl,⟨A4,m4,c4,A5,m5,c5,rfl,h4,h5⟩,aI⟩;have aJ:=Ad aC aI;have hk:=(((zae.new w false (.slice none 0 0) (.slice none 0 0)).below aA (by simp)).below aD (by have:=aA.size;simp at this;omega)).below aI (by have:=aC.size;have:=aA.size;have:=aD.size;simp at *; omega);obtain⟨k0,k1,k2,f0,f1,f2,_⟩:=hk.cells;generalize lowQ false x y=q at *;have aH:=zao aJ (g:=w.heap.size) (Nat.le_refl _) (.bool q.neg) (.slice A4 m4 c4) (.slice A5 m5 c5);go_wp2
 refine bodyPost_ret (v := .agg #[.bool q.neg,.slice A4 m4 c4,.slice A5 m5 c5]) (by simp[results,Tryz.results116,go_sem,k0,k1,k2]) rfl ⟨_,rfl,⟨A4,m4,c4,A5,m5,c5,rfl,?_,?_⟩,aH⟩
 ·rw[zah];exact h4.res hk _ _ _
 ·rw[zah];exact h5.res hk _ _ _
theorem znE(neg:Bool)(top bot k l mm scale low d:Nat)(At Ab:Option Addr)(nt ct nb cb:Nat)(w:World)(hT:Tabs w)(hok:Cs.AcOk top bot 112 k l mm scale low)(hd:d≤12)(hsc:scale=10^d)
 (hk0:k<4294967296)(hl0:l<4294967296)(hmm:mm<1073741824)(ht:NatS w w.heap.size At nt ct top)(hbo:NatS w w.heap.size Ab nb cb bot)(hbot:0<bot)(hnt:nt≤1048576) :
  Calls Tryz.prog 173 #[.agg #[.bool neg,.slice At nt ct,.slice Ab nb cb],.int .i64 (d:Int)] w (zch w (lowQ false low scale) (lowQ false (low+1) scale)):=by
 obtain⟨M,hM,dA⟩:=hok.s;have bK:=(dA.bound mm (by omega)).1;obtain⟨V,hV⟩:∃ V,V=Cs.serVal (Cs.sqOf (Cs.circleOf 112 k l) top bot 112) 112 mm:=⟨_,rfl⟩;have dR:(digs V).length≤1048576:=by
  rw[hV];exact Nat.le_trans (zaa (Nat.sub_le _ _)) (zcp bK hM)
 have hs:∀ W,NatS W W.heap.size At nt ct top→NatS W W.heap.size Ab nb cb bot→Calls Tryz.prog 208 #[.agg #[.bool neg,.slice At nt ct,.slice Ab nb cb],.int .i64 112] W (zcj W V):=fun W h1 h2=>by
  rw[hV];exact zlF neg top bot 112 k l mm M At Ab nt ct nb cb W hok.a hok.b hok.c dA hM (by omega) hk0 hl0 hmm h1 h2 hbot hnt
 have HS:=Aa hs;obtain⟨X,hX⟩:∃ X,X=2^64:=⟨_,rfl⟩;have fK:(digs X).length≤2:=by rw[hX];exact zab (by decide)
 obtain⟨Y,hY⟩:∃ Y,Y=2^112:=⟨_,rfl⟩;have bJ:=hok.big;have dK:=hok.lo;have cW:=hok.hi;rw[←hV,←hX] at bJ;rw[←hV,←hX,←hY] at dK cW;have dH:∀ W A n c,NatS W W.heap.size A n c 1→n≤1→Calls Tryz.prog 87 #[.slice A n c,.int .i64 64] W (zcj W X):=fun W A n c h h1=>by
  have h2:=zaw A n c 1 64 W h (by omega) (by omega);rw[Nat.one_mul,←hX] at h2;exact h2
 have dY:∀ W A n c x,NatS W W.heap.size A n c x→n≤1099511627776→Calls Tryz.prog 182 #[.slice A n c,.int .i64 112] W (zcj W (x/Y)):=fun W A n c x h h1=>by
  have h2:=zaV A n c x 112 W h h1 (by omega);rw[←hY] at h2;exact h2.mono fun e w' ⟨h3,h4⟩=>h4.ret h3
 have fC:=Aa dH;have dW:=Aa dY;clear hs dA dH dY hok hV hX hY bK;have fU:scale≤1000000000000:=by
  rw[hsc];have h1:10^d≤10^12:=Nat.pow_le_pow_right (by omega) hd;omega
 have aW:(digs scale).length≤1:=zab (by rw[zdC,Nat.pow_one];omega);have dJ:=Aa hsc;clear hsc;have bD:Below w.heap.size w ((w.alloc (.cells #[.bool neg,.slice At nt ct,.slice Ab nb cb] 87)).alloc (.cells #[.bool false,.slice none 0 0,.slice none 0 0,.bool false,.slice none 0 0,.slice none 0 0] 91)):=((Below.refl _ _).alloc (Nat.le_refl _) _).alloc (by simp) _;have q0:CBlk ((w.alloc (.cells #[.bool neg,.slice At nt ct,.slice Ab nb cb] 87)).alloc (.cells #[.bool false,.slice none 0 0,.slice none 0 0,.bool false,.slice none 0 0,.slice none 0 0] 91)) w.heap.size #[.bool neg,.slice At nt ct,.slice Ab nb cb] 87:=(CBlk.new w _ _ _ rfl).below ((Below.refl _ _).alloc (Nat.le_refl _) _) (by simp);have q1:CBlk ((w.alloc (.cells #[.bool neg,.slice At nt ct,.slice Ab nb cb] 87)).alloc (.cells #[.bool false,.slice none 0 0,.slice none 0 0,.bool false,.slice none 0 0,.slice none 0 0] 91)) (w.heap.size+1) #[.bool false,.slice none 0 0,.slice none 0 0,.bool false,.slice none 0 0,.slice none 0 0] 91:=CBlk.new _ _ _ _ (by simp);have dP:=ht.later bD;have bP:=hbo.later bD;have dC:=hT.later bD;clear ht hbo hT;go_enter Tryz.func173,Tryz.ntmps173
 go_wp2
 go_step3
 go_wp2
 generalize ((w.alloc (.cells #[.bool neg,.slice At nt ct,.slice Ab nb cb] 87)).alloc (.cells #[.bool false,.slice none 0 0,.slice none 0 0,.bool false,.slice none 0 0,.slice none 0 0] 91))=w1 at *
 go_loop [5,13] (fun s i=>∃ j t:Nat,j≤d∧i = .int .i64 (j:Int)∧s = .int .u64 (t:Int)∧Hid (t=10^j)) (fun _ i=>d-(intOf i).toNat)
 case atStart=>exact⟨0,1,Nat.zero_le _,rfl,rfl,rfl⟩
 case round=>
  obtain⟨j,t,hj,rfl,rfl,ht⟩:=hrel
  by_cases hlt:j<d
  ·obtain⟨t2,cP⟩:∃ t2,t2=t*10:=⟨_,rfl⟩
   have fR:t2≤1000000000000:=by
    rw[cP,ht.out,←Nat.pow_succ];have h1:10^(j+1)≤10^12:=Nat.pow_le_pow_right (by omega) (by omega);omega
   have f1:IntKind.u64.wrap ((t:Int)*10)=(t2:Int):=by rw[zex (by omega) (by omega)];omega
   have fO:Hid (t2=10^(j+1)):=by unfold Hid;rw[cP,ht.out,Nat.pow_succ]
   clear cP;go_wp2
   go_round
   case rel=>exact⟨j+1,t2,by omega,by go_num,rfl,fO⟩
   case measure=>simp[intOf];omega
  ·obtain rfl:j=d:=by omega
   obtain rfl:t=scale:=by rw[ht.out,dJ.out]
   clear ht dJ;go_wp2
   go_step3
   go_wp2
   go_loopw [7] (fun a wr=>a = .int .i64 0∧wr=w1) (fun _ _=>0)
   case atStart=>exact⟨rfl,rfl⟩
   case round=>
    obtain⟨rfl,rfl⟩:=hrel
    go_wp2_with fail
    refine(zgO _ dC).mono ?_;rintro e w2 ⟨rfl,rfl⟩;have x0:=q0.cell 0;have x1:=q0.cell 1;have x2:=q0.cell 2
    go_wp2_with fail
    refine(HS.out _ dP bP).mono ?_;rintro e w2 ⟨A2,m2,c2,rfl,dU,aP⟩;have cE:=Ad bD aP;have cZ:=q1.below aP q1.lt;have dG:=dC.later aP;clear x0 x1 x2 q0 q1 dP bP dC bD aP
    go_wp2_with fail
    refine(zai 1 w2 (by omega) (by omega)).mono ?_;rintro e w3 ⟨A3,m3,c3,rfl,cY,aM⟩;have cR:=Ad cE aM;have cT:=cZ.below aM cZ.lt;have dV:=dG.later aM;have bR:=dU.later aM;clear cZ dG cE aM dU
    go_wp2_with fail
    refine(fC.out w3 A3 m3 c3 cY (by rw[←cY.len];exact zbF)).mono ?_;rintro e w4 ⟨A4,m4,c4,rfl,cI,aL⟩;have cF:=Ad cR aL;have cB:=cT.below aL cT.lt;have dO:=dV.later aL;have aO:=bR.later aL;clear cT dV cR aL bR cY
    go_wp2_with fail
    refine(zdd A2 A4 m2 c2 m4 c4 V X w4 aO cI bJ (by have:=aO.len;omega)).mono ?_;rintro e w5 ⟨A5,m5,c5,rfl,dX,aG⟩;have dB:=Ad cF aG;have cN:=cB.below aG cB.lt;have dI:=dO.later aG;have bU:=aO.later aG;have bQ:=cI.later aG;clear cB dO cF aG aO cI
    go_wp2_with fail
    refine(zai (t:Int) w5 (by omega) (by omega)).mono ?_;rintro e w6 ⟨A6,m6,c6,rfl,bY,aF⟩;rw[Int.toNat_natCast] at bY;have cQ:=Ad dB aF;have cU:=cN.below aF cN.lt;have dN:=dI.later aF;have bG:=bU.later aF;have bF:=bQ.later aF;have aV:=dX.later aF;clear cN dI dB aF bU bQ dX;have fF:(digs (V-X)).length≤1048576:=Nat.le_trans (zdS _ _) dR
    go_wp2_with fail
    refine(zaJ A5 A6 m5 c5 m6 c6 (V-X) t w6 aV bY (by have:=aV.len;omega) (by have:=bY.len;omega)).mono ?_;rintro e w7 ⟨A7,m7,c7,rfl,cS,aH⟩;have cG:=Ad cQ aH;have cJ:=cU.below aH cU.lt;have dL:=dN.later aH;have bL:=bG.later aH;have bI:=bF.later aH;clear cU dN cQ aH bG bF aV bY
    go_wp2_with fail
    refine(dW.out w7 A7 m7 c7 _ cS (by have:=cS.len;have:=zaD fF aW;omega)).mono ?_;rintro e w8 ⟨A8,m8,c8,rfl,cK,aI⟩;rw[dK] at cK;have cL:=Ad cG aI;have cC:=cJ.below aI cJ.lt;have dF:=dL.later aI;have aX:=bL.later aI;have aZ:=bI.later aI;clear cJ dL cG aI bL bI cS
    go_wp2_with fail
    refine(zcw A2 A4 m2 c2 m4 c4 V X w8 aX aZ (by have:=aX.len;omega) (by have:=aZ.len;omega)).mono ?_;rintro e w9 ⟨A9,m9,c9,rfl,dM,aJ⟩;have cV:=Ad cL aJ;have cO:=cC.below aJ cC.lt;have dD:=dF.later aJ;have bM:=cK.later aJ;clear cC dF cL aJ aX aZ cK
    go_wp2_with fail
    refine(zai (t:Int) w9 (by omega) (by omega)).mono ?_;rintro e fD ⟨fP,fM,fB,rfl,aQ,aC⟩;rw[Int.toNat_natCast] at aQ;have bC:=Ad cV aC;have aY:=cO.below aC cO.lt;have bT:=dD.later aC;have aT:=bM.later aC;have aK:=dM.later aC;clear cO dD cV aC bM dM;have dT:(digs (V+X)).length≤1048576+2+1:=zdw dR fK
    go_wp2_with fail
    refine(zaJ A9 fP m9 c9 fM fB (V+X) t fD aK aQ (by have:=aK.len;omega) (by have:=aQ.len;omega)).mono ?_;rintro e fL ⟨fG,fI,dZ,rfl,aU,aD⟩;have bB:=Ad bC aD;have bA:=aY.below aD aY.lt;have bE:=bT.later aD;have aS:=aT.later aD;clear aY bT bC aD aT aK aQ
    go_wp2_with fail
    refine(dW.out fL fG fI dZ _ aU (by have:=aU.len;have:=zaD dT aW;omega)).mono ?_;rintro e bX ⟨fN,fJ,fH,rfl,bO,aE⟩;rw[cW] at bO;have bH:=Ad bB aE;have bN:=bA.below aE bA.lt;have cM:=bE.later aE;have aN:=aS.later aE;clear bA bE bB aE aS aU
    go_wp2_with fail
    refine(zaU A8 fN m8 c8 fJ fH low low bX aN bO).mono ?_;rintro e fT ⟨rfl,nq,rfl⟩;rw[ncmp_eq]
    go_wp2_with fail
    have dQ:(digs low).length≤1048580:=by
     rw[←cW];refine Nat.le_trans (zaa (Nat.div_le_self _ _)) ?_;exact Nat.le_trans (zaD dT aW) (by omega)
    have bZ:Below bX.heap.size bX (bX.drewN nq):=zad (Below.refl _ _) nq;have bS:=Ad bH bZ;have bV:=bN.below bZ bN.lt;refine(zkj low t A8 m8 c8 _ (cM.later bZ) (aN.later bZ) (by have:=aN.len;omega) (by omega)).mono ?_;rintro e fS ⟨fQ,rfl,⟨A3,m3,c3,A4,m4,c4,A7,m7,c7,A8,m8,c8,rfl,h3,h4,h7,h8⟩,aR⟩;have cH:=Ad bS aR;have aA:=bV.below aR bV.lt;obtain⟨qa,bW⟩:∃ qa,qa=lowQ false low t:=⟨_,rfl⟩;obtain⟨qb,cA⟩:∃ qb,qb=lowQ false (low+1) t:=⟨_,rfl⟩;rw[←bW] at h3 h4;rw[←cA] at h7 h8
    try rw[←bW]
    try rw[←cA]
    have fA:=Aa bW;have fE:=Aa cA;clear bW cA;have y0:=aA.cell 0;have y1:=aA.cell 1;have y2:=aA.cell 2;have y3:=aA.cell 3;have y4:=aA.cell 4;have y5:=aA.cell 5;have z0:=aA.frozen 0;have z1:=aA.frozen 1;have z2:=aA.frozen 2;have z3:=aA.frozen 3;have z4:=aA.frozen 4;have z5:=aA.frozen 5;have hI:=zbX (p:=qa) (q:=qb) aA cH (by omega) rfl h3 h4 h7 h8;have hD:=aA.set6 (.bool qa.neg) (.slice A3 m3 c3) (.slice A4 m4 c4) (.bool qb.neg) (.slice A7 m7 c7) (.slice A8 m8 c8);unfold Go.Proofs.YtbkgkoenppkhpaaGreatDoor.set6 at hI hD;have r0:=hD.cell 0;have r1:=hD.cell 1;have r2:=hD.cell 2;have r3:=hD.cell 3;have r4:=hD.cell 4;have r5:=hD.cell 5;have HI:=Aa hI;clear hI hD;go_wp2
    refine bodyPost_ret (v := .agg #[.bool qa.neg,.slice A3 m3 c3,.slice A4 m4 c4,.bool qb.neg,.slice A7 m7 c7,.slice A8 m8 c8]) (by simp[results,Tryz.results173,go_sem,y0,y1,y2,y3,y4,y5]) rfl ⟨_,rfl,by obtain rfl:=fA.out;obtain rfl:=fE.out;exact HI.out⟩
end Go.Proofs.YtbkgkoenppkhpaaGreatDoor
