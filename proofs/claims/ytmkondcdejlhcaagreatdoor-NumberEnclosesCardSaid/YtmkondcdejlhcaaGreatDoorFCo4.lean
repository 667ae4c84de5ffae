/- Contract of package number's acuteCosine where the first attempt tells. -/
import Derived.Test.YtmkondcdejlhcaaGreatDoorFCo1
namespace Go.Proofs.YtmkondcdejlhcaaGreatDoor
open Go.RowKit Bn
set_option maxHeartbeats 8000000 in
set_option maxRecDepth 100000 in
theorem zmJ(neg:Bool)(top bot k l mm scale low d:Nat)(At Ab:Option Addr)(nt ct nb cb:Nat)(w:World)(hT:Tabs w)(hok:Cs.AcOk top bot 112 k l mm scale low)(hd:d≤12)(hsc:scale=10^d)
 (hk0:k<4294967296)(hl0:l<4294967296)(hmm:mm<1073741824)(ht:NatS w w.heap.size At nt ct top)(hbo:NatS w w.heap.size Ab nb cb bot)(hbot:0<bot)(hnt:nt≤1048576) :
  Calls Tryz.prog 152 #[.agg #[.bool neg,.slice At nt ct,.slice Ab nb cb],.int .i64 (d:Int)] w (zb3 w (lowQ false low scale) (lowQ false (low+1) scale)):=by
 obtain⟨M,hM,cT⟩:=hok.s;have bN:=(cT.bound mm (by omega)).1;obtain⟨V,hV⟩:∃ V,V=Cs.serVal (Cs.sqOf (Cs.circleOf 112 k l) top bot 112) 112 mm:=⟨_,rfl⟩;have dD:(digs V).length≤1048576:=by
  rw[hV];exact Nat.le_trans (zaa (Nat.sub_le _ _)) (zck bN hM)
 have hs:∀ W,NatS W W.heap.size At nt ct top→NatS W W.heap.size Ab nb cb bot→Calls Tryz.prog 186 #[.agg #[.bool neg,.slice At nt ct,.slice Ab nb cb],.int .i64 112] W (zch W V):=fun W h1 h2=>by
  rw[hV];exact zkw neg top bot 112 k l mm M At Ab nt ct nb cb W hok.a hok.b hok.c cT hM (by omega) hk0 hl0 hmm h1 h2 hbot hnt
 have HS:=Aa hs;obtain⟨X,hX⟩:∃ X,X=2^64:=⟨_,rfl⟩;have fB:(digs X).length≤2:=by rw[hX];exact zab (by decide)
 obtain⟨Y,hY⟩:∃ Y,Y=2^112:=⟨_,rfl⟩;have bM:=hok.big;have dR:=hok.lo;have cL:=hok.hi;rw[←hV,←hX] at bM;rw[←hV,←hX,←hY] at dR cL;have dP:∀ W A n c,NatS W W.heap.size A n c 1→n≤1→Calls Tryz.prog 111 #[.slice A n c,.int .i64 64] W (zch W X):=fun W A n c h h1=>by
  have h2:=zaw A n c 1 64 W h (by omega) (by omega);rw[Nat.one_mul,←hX] at h2;exact h2
 have dT:∀ W A n c x,NatS W W.heap.size A n c x→n≤1099511627776→Calls Tryz.prog 169 #[.slice A n c,.int .i64 112] W (zch W (x/Y)):=fun W A n c x h h1=>by
  have h2:=zaT A n c x 112 W h h1 (by omega);rw[←hY] at h2;exact h2.mono fun e w' ⟨h3,h4⟩=>h4.ret h3
 have fH:=Aa dP;have dJ:=Aa dT;clear hs cT dP dT hok hV hX hY bN;have fP:scale≤1000000000000:=by
  rw[hsc];have h1:10^d≤10^12:=Nat.pow_le_pow_right (by omega) hd;omega
 have aV:(digs scale).length≤1:=zab (by rw[zdi,Nat.pow_one];omega);have dG:=Aa hsc;clear hsc;have bD:Below w.heap.size w ((w.alloc (.cells #[.bool neg,.slice At nt ct,.slice Ab nb cb] 91)).alloc (.cells #[.bool false,.slice none 0 0,.slice none 0 0,.bool false,.slice none 0 0,.slice none 0 0] 107)):=((Below.refl _ _).alloc (Nat.le_refl _) _).alloc (by simp) _;have q0:CBlk ((w.alloc (.cells #[.bool neg,.slice At nt ct,.slice Ab nb cb] 91)).alloc (.cells #[.bool false,.slice none 0 0,.slice none 0 0,.bool false,.slice none 0 0,.slice none 0 0] 107)) w.heap.size #[.bool neg,.slice At nt ct,.slice Ab nb cb] 91:=(CBlk.new w _ _ _ rfl).below ((Below.refl _ _).alloc (Nat.le_refl _) _) (by simp);have q1:CBlk ((w.alloc (.cells #[.bool neg,.slice At nt ct,.slice Ab nb cb] 91)).alloc (.cells #[.bool false,.slice none 0 0,.slice none 0 0,.bool false,.slice none 0 0,.slice none 0 0] 107)) (w.heap.size+1) #[.bool false,.slice none 0 0,.slice none 0 0,.bool false,.slice none 0 0,.slice none 0 0] 107:=CBlk.new _ _ _ _ (by simp);have dS:=ht.later bD;have bI:=hbo.later bD;have cS:=hT.later bD;clear ht hbo hT;go_enter Tryz.func152,Tryz.ntmps152
 go_wp2
 go_step3
 go_wp2
 generalize ((w.alloc (.cells #[.bool neg,.slice At nt ct,.slice Ab nb cb] 91)).alloc (.cells #[.bool false,.slice none 0 0,.slice none 0 0,.bool false,.slice none 0 0,.slice none 0 0] 107))=w1 at *
 go_loop [5,13] (fun s i=>∃ j t:Nat,j≤d∧i = .int .i64 (j:Int)∧s = .int .u64 (t:Int)∧Hid (t=10^j)) (fun _ i=>d-(intOf i).toNat)
 case atStart=>exact⟨0,1,Nat.zero_le _,rfl,rfl,rfl⟩
 case round=>
  obtain⟨j,t,hj,rfl,rfl,ht⟩:=hrel
  by_cases hlt:j<d
  ·obtain⟨t2,cJ⟩:∃ t2,t2=t*10:=⟨_,rfl⟩
   have fQ:t2≤1000000000000:=by
    rw[cJ,ht.out,←Nat.pow_succ];have h1:10^(j+1)≤10^12:=Nat.pow_le_pow_right (by omega) (by omega);omega
   have f1:IntKind.u64.wrap ((t:Int)*10)=(t2:Int):=by rw[zd6 (by omega) (by omega)];omega
   have fN:Hid (t2=10^(j+1)):=by unfold Hid;rw[cJ,ht.out,Nat.pow_succ]
   clear cJ;go_wp2
   go_round
   case rel=>exact⟨j+1,t2,by omega,by go_num,rfl,fN⟩
   case measure=>simp[intOf];omega
  ·obtain rfl:j=d:=by omega
   obtain rfl:t=scale:=by rw[ht.out,dG.out]
   clear ht dG;go_wp2
   go_step3
   go_wp2
   go_loopw [7] (fun a wr=>a = .int .i64 0∧wr=w1) (fun _ _=>0)
   case atStart=>exact⟨rfl,rfl⟩
   case round=>
    obtain⟨rfl,rfl⟩:=hrel
    go_wp2_with fail
    refine(zgf _ cS).mono ?_;rintro e w2 ⟨rfl,rfl⟩;have x0:=q0.cell 0;have x1:=q0.cell 1;have x2:=q0.cell 2
    go_wp2_with fail
    refine(HS.out _ dS bI).mono ?_;rintro e w2 ⟨A2,m2,c2,rfl,dK,aQ⟩;have cM:=Ad bD aQ;have cH:=q1.below aQ q1.lt;have dE:=cS.later aQ;clear x0 x1 x2 q0 q1 dS bI cS bD aQ
    go_wp2_with fail
    refine(zai 1 w2 (by omega) (by omega)).mono ?_;rintro e w3 ⟨A3,m3,c3,rfl,cC,aN⟩;have cQ:=Ad cM aN;have dC:=cH.below aN cH.lt;have dW:=dE.later aN;have bH:=dK.later aN;clear cH dE cM aN dK
    go_wp2_with fail
    refine(fH.out w3 A3 m3 c3 cC (by rw[←cC.len];exact zbD)).mono ?_;rintro e w4 ⟨A4,m4,c4,rfl,cF,aL⟩;have cG:=Ad cQ aL;have cW:=dC.below aL dC.lt;have dU:=dW.later aL;have aO:=bH.later aL;clear dC dW cQ aL bH cC
    go_wp2_with fail
    refine(zc9 A2 A4 m2 c2 m4 c4 V X w4 aO cF bM (by have:=aO.len;omega)).mono ?_;rintro e w5 ⟨A5,m5,c5,rfl,dV,aI⟩;have cB:=Ad cG aI;have cU:=cW.below aI cW.lt;have dN:=dU.later aI;have bE:=aO.later aI;have bV:=cF.later aI;clear cW dU cG aI aO cF
    go_wp2_with fail
    refine(zai (t:Int) w5 (by omega) (by omega)).mono ?_;rintro e w6 ⟨A6,m6,c6,rfl,bZ,aF⟩;rw[Int.toNat_natCast] at bZ;have cY:=Ad cB aF;have cR:=cU.below aF cU.lt;have dH:=dN.later aF;have bU:=bE.later aF;have bK:=bV.later aF;have aZ:=dV.later aF;clear cU dN cB aF bE bV dV;have fD:(digs (V-X)).length≤1048576:=Nat.le_trans (zdF _ _) dD
    go_wp2_with fail
    refine(zaI A5 A6 m5 c5 m6 c6 (V-X) t w6 aZ bZ (by have:=aZ.len;omega) (by have:=bZ.len;omega)).mono ?_;rintro e w7 ⟨A7,m7,c7,rfl,cO,aG⟩;have dB:=Ad cY aG;have cV:=cR.below aG cR.lt;have dF:=dH.later aG;have bT:=bU.later aG;have bL:=bK.later aG;clear cR dH cY aG bU bK aZ bZ
    go_wp2_with fail
    refine(dJ.out w7 A7 m7 c7 _ cO (by have:=cO.len;have:=zaB fD aV;omega)).mono ?_;rintro e w8 ⟨A8,m8,c8,rfl,cZ,aH⟩;rw[dR] at cZ;have cN:=Ad dB aH;have cE:=cV.below aH cV.lt;have dL:=dF.later aH;have bA:=bT.later aH;have aY:=bL.later aH;clear cV dF dB aH bT bL cO
    go_wp2_with fail
    refine(zcq A2 A4 m2 c2 m4 c4 V X w8 bA aY (by have:=bA.len;omega) (by have:=aY.len;omega)).mono ?_;rintro e w9 ⟨A9,m9,c9,rfl,dQ,aK⟩;have cK:=Ad cN aK;have cI:=cE.below aK cE.lt;have dI:=dL.later aK;have bJ:=cZ.later aK;clear cE dL cN aK bA aY cZ
    go_wp2_with fail
    refine(zai (t:Int) w9 (by omega) (by omega)).mono ?_;rintro e fC ⟨fF,dY,fG,rfl,aP,aC⟩;rw[Int.toNat_natCast] at aP;have bC:=Ad cK aC;have aW:=cI.below aC cI.lt;have bP:=dI.later aC;have aT:=bJ.later aC;have aM:=dQ.later aC;clear cI dI cK aC bJ dQ;have dM:(digs (V+X)).length≤1048576+2+1:=zdp dD fB
    go_wp2_with fail
    refine(zaI A9 fF m9 c9 dY fG (V+X) t fC aM aP (by have:=aM.len;omega) (by have:=aP.len;omega)).mono ?_;rintro e fA ⟨fK,fE,dX,rfl,bB,aE⟩;have aU:=Ad bC aE;have aX:=aW.below aE aW.lt;have bS:=bP.later aE;have aR:=aT.later aE;clear aW bP bC aE aT aM aP
    go_wp2_with fail
    refine(dJ.out fA fK fE dX _ bB (by have:=bB.len;have:=zaB dM aV;omega)).mono ?_;rintro e cA ⟨fL,dZ,fI,rfl,bQ,aD⟩;rw[cL] at bQ;have bO:=Ad aU aD;have bF:=aX.below aD aX.lt;have dA:=bS.later aD;have aJ:=aR.later aD;clear aX bS aU aD aR bB
    go_wp2_with fail
    refine(zaS A8 fL m8 c8 dZ fI low low cA aJ bQ).mono ?_;rintro e fS ⟨rfl,nq,rfl⟩;rw[ncmp_eq]
    go_wp2_with fail
    have dO:(digs low).length≤1048580:=by
     rw[←cL];refine Nat.le_trans (zaa (Nat.div_le_self _ _)) ?_;exact Nat.le_trans (zaB dM aV) (by omega)
    have bX:Below cA.heap.size cA (cA.drewN nq):=zac (Below.refl _ _) nq;have bR:=Ad bO bX;have bG:=bF.below bX bF.lt;refine(zjQ low t A8 m8 c8 _ (dA.later bX) (aJ.later bX) (by have:=aJ.len;omega) (by omega)).mono ?_;rintro e fO ⟨fR,rfl,⟨A3,m3,c3,A4,m4,c4,A7,m7,c7,A8,m8,c8,rfl,h3,h4,h7,h8⟩,aS⟩;have cP:=Ad bR aS;have aA:=bG.below aS bG.lt;obtain⟨qa,bW⟩:∃ qa,qa=lowQ false low t:=⟨_,rfl⟩;obtain⟨qb,bY⟩:∃ qb,qb=lowQ false (low+1) t:=⟨_,rfl⟩;rw[←bW] at h3 h4;rw[←bY] at h7 h8
    try rw[←bW]
    try rw[←bY]
    have fJ:=Aa bW;have fM:=Aa bY;clear bW bY;have y0:=aA.cell 0;have y1:=aA.cell 1;have y2:=aA.cell 2;have y3:=aA.cell 3;have y4:=aA.cell 4;have y5:=aA.cell 5;have z0:=aA.frozen 0;have z1:=aA.frozen 1;have z2:=aA.frozen 2;have z3:=aA.frozen 3;have z4:=aA.frozen 4;have z5:=aA.frozen 5;have hI:=zbS (p:=qa) (q:=qb) aA cP (by omega) rfl h3 h4 h7 h8;have hD:=aA.set6 (.bool qa.neg) (.slice A3 m3 c3) (.slice A4 m4 c4) (.bool qb.neg) (.slice A7 m7 c7) (.slice A8 m8 c8);unfold Go.Proofs.YtmkondcdejlhcaaGreatDoor.set6 at hI hD;have r0:=hD.cell 0;have r1:=hD.cell 1;have r2:=hD.cell 2;have r3:=hD.cell 3;have r4:=hD.cell 4;have r5:=hD.cell 5;have HI:=Aa hI;clear hI hD;go_wp2
    refine bodyPost_ret (v := .agg #[.bool qa.neg,.slice A3 m3 c3,.slice A4 m4 c4,.bool qb.neg,.slice A7 m7 c7,.slice A8 m8 c8]) (by simp[results,Tryz.results152,go_sem,y0,y1,y2,y3,y4,y5]) rfl ⟨_,rfl,by obtain rfl:=fJ.out;obtain rfl:=fM.out;exact HI.out⟩
end Go.Proofs.YtmkondcdejlhcaaGreatDoor
