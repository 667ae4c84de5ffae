/- Contracts of package number's step, fraction, precision, and of acuteCosine where the first attempt tells. -/
import Derived.Test.YtmkondcdejlhcaaGreatDoorBSp0
set_option maxRecDepth 100000
set_option maxHeartbeats 8000000
namespace Go.Proofs.YtmkondcdejlhcaaGreatDoor
open Go.RowKit Bn
theorem ziA (x s:Nat) (A:Option Addr) (n c:Nat) (w:World) (hT:Tabs w) (hx:NatS w w.heap.size A n c x) (hn:n≤536870912) (hs:s<18446744073709551616) :
  Calls Tryz.prog 143 #[.slice A n c,.int .u64 (s:Int)] w (zb5 w (lowQ false x s) (lowQ false (x+1) s)):=by
 have aI:Below w.heap.size w (w.alloc (.cells #[.bool false,.slice none 0 0,.slice none 0 0,.bool false,.slice none 0 0,.slice none 0 0] 107)):=Ac;have q0:CBlk (w.alloc (.cells #[.bool false,.slice none 0 0,.slice none 0 0,.bool false,.slice none 0 0,.slice none 0 0] 107)) w.heap.size #[.bool false,.slice none 0 0,.slice none 0 0,.bool false,.slice none 0 0,.slice none 0 0] 107:=CBlk.new w _ _ _ rfl;have bF:=hx.later ((Below.refl _ _).alloc (Nat.le_refl _) (.cells #[.bool false,.slice none 0 0,.slice none 0 0,.bool false,.slice none 0 0,.slice none 0 0] 107));have bB:=hT.later aI;have bJ:=hx.len;have bO:(digs s).length≤1:=digs_length_le (by rw [B_def,Nat.pow_one];exact hs);clear hx;go_enter Tryz.func143,Tryz.ntmps143
 go_upto_region 1 with (fail)
 generalize (w.alloc (.cells #[.bool false,.slice none 0 0,.slice none 0 0,.bool false,.slice none 0 0,.slice none 0 0] 107))=w1 at *
 go_wp2_with fail
 refine (zah (s:Int) w1 (by omega) (by omega)).mono ?_;rintro e w2 ⟨A2,m2,c2,rfl,aF,aE⟩;rw [Int.toNat_natCast] at aF;have aL:=Ad aI aE;have q2:=q0.below aE q0.lt;have aO:=bF.later aE;have aK:=bB.later aE;clear q0 bF aI aE bB
 go_wp2_with fail
 refine (zbO false A A2 n c m2 c2 x s w2 aK aO aF (by omega) (by have:=aF.len;omega)).mono ?_;rintro e w3 ⟨v3,rfl,⟨A3,m3,c3,A4,m4,c4,rfl,h3,h4⟩,aD⟩;have aM:=Ad aL aD;have q3:=q2.below aD q2.lt;have aV:=aO.later aD;have bI:=aK.later aD;have bE:=aF.later aD;clear q2 aO aL aD aK aF
 go_wp2_with fail
 refine (zah 1 w3 (by omega) (by omega)).mono ?_;rintro e w5 ⟨A5,m5,c5,rfl,aS,aA⟩;have aR:=Ad aM aA;have q5:=q3.below aA q3.lt;have aW:=aV.later aA;have aT:=bI.later aA;have bD:=bE.later aA;have bK:=h3.later aA;have bH:=h4.later aA;clear q3 aV aM aA bI bE h3 h4
 go_wp2_with fail
 refine (zcJ A A5 n c m5 c5 x _ w5 aW aS (by omega) (by have h:=aS.len;have h2:(digs (Int.toNat 1)).length≤1:=zbL;omega)).mono ?_;rintro e w6 ⟨A6,m6,c6,rfl,aQ,aC⟩;have aP:=Ad aR aC;have q6:=q5.below aC q5.lt;have aU:=aT.later aC;have aN:=bD.later aC;have bC:=bK.later aC;have bG:=bH.later aC;clear q5 aW aR aC aT aS bD bK bH
 go_wp2_with fail
 refine (zbO false A6 A2 m6 c6 m2 c2 (x+Int.toNat 1) s w6 aU aQ aN (by have h:=aQ.len;have h2:(digs (Int.toNat 1)).length≤1:=zbL;have h3:=zd3 (Nat.le_of_eq bJ) h2;omega) (by have:=aN.len;omega)).mono ?_;rintro e w7 ⟨v7,rfl,⟨A7,m7,c7,A8,m8,c8,rfl,h7,h8⟩,aG⟩;have bN:=Ad aP aG;have q7:=q6.below aG q6.lt;have aZ:=bC.later aG;have bA:=bG.later aG;clear q6 aP aG aU aQ aN bC bG bJ bO;rw [show x+Int.toNat 1=x+1 from rfl] at h7 h8 ⊢;obtain ⟨qa,aJ⟩:∃ qa,qa=lowQ false x s:=⟨_,rfl⟩;obtain ⟨qb,aH⟩:∃ qb,qb=lowQ false (x+1) s:=⟨_,rfl⟩;rw [←aJ] at aZ bA;rw [←aH] at h7 h8
 try rw [←aJ]
 try rw [←aH]
 have bM:=Aa aJ;have bL:=Aa aH;clear aJ aH;have y0:=q7.cell 0;have y1:=q7.cell 1;have y2:=q7.cell 2;have y3:=q7.cell 3;have y4:=q7.cell 4;have y5:=q7.cell 5;have z0:=q7.frozen 0;have z1:=q7.frozen 1;have z2:=q7.frozen 2;have z3:=q7.frozen 3;have z4:=q7.frozen 4;have z5:=q7.frozen 5;have hI:=zbS (p:=qa) (q:=qb) q7 bN (Nat.le_refl _) rfl aZ bA h7 h8;have hD:=q7.set6 (.bool qa.neg) (.slice A3 m3 c3) (.slice A4 m4 c4) (.bool qb.neg) (.slice A7 m7 c7) (.slice A8 m8 c8);unfold Go.Proofs.YtmkondcdejlhcaaGreatDoor.set6 at hI hD;have r0:=hD.cell 0;have r1:=hD.cell 1;have r2:=hD.cell 2;have r3:=hD.cell 3;have r4:=hD.cell 4;have r5:=hD.cell 5;have HI:=Aa hI;clear hI hD;go_wp2
 refine bodyPost_ret (v := .agg #[.bool qa.neg,.slice A3 m3 c3,.slice A4 m4 c4,.bool qb.neg,.slice A7 m7 c7,.slice A8 m8 c8]) (by simp [results,Tryz.results143,go_sem,y0,y1,y2,y3,y4,y5]) rfl ⟨_,rfl,by obtain rfl:=bM.out;obtain rfl:=bL.out;exact HI.out⟩
theorem zhk (w:World) (hT:Tabs w):Calls Tryz.prog 185 #[.int .i64 0] w fun e w'=>e = .returned (.int .i64 48)∧w=w':=by
 have h0:=hT.prec.1;clear hT;go_enter Tryz.func185,Tryz.ntmps185
 go_wp2
 go_ret;exact ⟨rfl,rfl⟩
theorem zf1 (x y:Nat) (w:World) (hT:Tabs w) (hx:x<18446744073709551616) (hy:y<18446744073709551616) :
  Calls Tryz.prog 103 #[.int .u64 (x:Int),.int .u64 (y:Int)] w (za4 w (lowQ false x y)):=by
 have aE:Below w.heap.size w (w.alloc (.cells #[.bool false,.slice none 0 0,.slice none 0 0] 91)):=Ac;have aK:(digs x).length≤1:=digs_length_le (by rw [B_def,Nat.pow_one];exact hx);have aL:(digs y).length≤1:=digs_length_le (by rw [B_def,Nat.pow_one];exact hy);go_enter Tryz.func103,Tryz.ntmps103
 go_wp2_with fail
 refine (zah (x:Int) _ (by omega) (by omega)).mono ?_;rintro e w2 ⟨A2,m2,c2,rfl,aF,aA⟩;rw [Int.toNat_natCast] at aF
 go_wp2_with fail
 refine (zah (y:Int) _ (by omega) (by omega)).mono ?_;rintro e w3 ⟨A3,m3,c3,rfl,aG,aD⟩;rw [Int.toNat_natCast] at aG;have aC:Below w.heap.size w w3:=(aE.trans (aA.mono aE.size)).trans (aD.mono (Nat.le_trans aE.size aA.size))
 go_wp2_with fail
 refine (zbO false A2 A3 m2 c2 m3 c3 x y w3 (hT.later aC) (aF.later aD) aG (by have:=aF.len;omega) (by have:=aG.len;omega)).mono ?_;rintro e w4 ⟨v4,rfl,⟨A4,m4,c4,A5,m5,c5,rfl,h4,h5⟩,aI⟩;have aJ:=Ad aC aI;have hk:=(((zaf.new w false (.slice none 0 0) (.slice none 0 0)).below aA (by simp)).below aD (by have:=aA.size;simp at this;omega)).below aI (by have:=aC.size;have:=aA.size;have:=aD.size;simp at *; omega);obtain ⟨k0,k1,k2,f0,f1,f2,_⟩:=hk.cells;generalize lowQ false x y=q at *;have aH:=zap aJ (g:=w.heap.size) (Nat.le_refl _) (.bool q.neg) (.slice A4 m4 c4) (.slice A5 m5 c5);go_wp2
 refine bodyPost_ret (v := .agg #[.bool q.neg,.slice A4 m4 c4,.slice A5 m5 c5]) (by simp [results,Tryz.results103,go_sem,k0,k1,k2]) rfl ⟨_,rfl,⟨A4,m4,c4,A5,m5,c5,rfl,?_,?_⟩,aH⟩
 ·rw [zai];exact h4.res hk _ _ _
 ·rw [zai];exact h5.res hk _ _ _
theorem zmP (neg:Bool) (top bot k l mm scale low d:Nat) (At Ab:Option Addr) (nt ct nb cb:Nat) (w:World) (hT:Tabs w) (hok:Cs.AcOk top bot 112 k l mm scale low) (hd:d≤12) (hsc:scale=10 ^ d)
  (hk0:k<4294967296) (hl0:l<4294967296) (hmm:mm<1073741824) (ht:NatS w w.heap.size At nt ct top) (hbo:NatS w w.heap.size Ab nb cb bot) (hbot:0<bot) (hnt:nt≤1048576) :
  Calls Tryz.prog 152 #[.agg #[.bool neg,.slice At nt ct,.slice Ab nb cb],.int .i64 (d:Int)] w (zb5 w (lowQ false low scale) (lowQ false (low+1) scale)):=by
 obtain ⟨M,hM,cR⟩:=hok.s;have bO:=(cR.bound mm (by omega)).1;obtain ⟨V,hV⟩:∃ V,V=Cs.serVal (Cs.sqOf (Cs.circleOf 112 k l) top bot 112) 112 mm:=⟨_,rfl⟩;have dY:(digs V).length≤1048576:=by
  rw [hV];exact Nat.le_trans (zaa (Nat.sub_le _ _)) (zcC bO hM)
 have hs:∀ W,NatS W W.heap.size At nt ct top→NatS W W.heap.size Ab nb cb bot→Calls Tryz.prog 186 #[.agg #[.bool neg,.slice At nt ct,.slice Ab nb cb],.int .i64 112] W (zcy W V):=fun W h1 h2=>by
  rw [hV];exact zmr neg top bot 112 k l mm M At Ab nt ct nb cb W hok.a hok.b hok.c cR hM (by omega) hk0 hl0 hmm h1 h2 hbot hnt
 have HS:=Aa hs;obtain ⟨X,hX⟩:∃ X,X=2 ^ 64:=⟨_,rfl⟩;have fK:(digs X).length≤2:=by rw [hX];exact digs_length_le (by decide)
 obtain ⟨Y,hY⟩:∃ Y,Y=2 ^ 112:=⟨_,rfl⟩;have bM:=hok.big;have dL:=hok.lo;have dI:=hok.hi;rw [←hV,←hX] at bM;rw [←hV,←hX,←hY] at dL dI;have fB:∀ W A n c,NatS W W.heap.size A n c 1→n≤1→Calls Tryz.prog 111 #[.slice A n c,.int .i64 64] W (zcy W X):=fun W A n c h h1=>by
  have h2:=zay A n c 1 64 W h (by omega) (by omega);rw [Nat.one_mul,←hX] at h2;exact h2
 have dW:∀ W A n c x,NatS W W.heap.size A n c x→n≤1099511627776→Calls Tryz.prog 169 #[.slice A n c,.int .i64 112] W (zcy W (x / Y)):=fun W A n c x h h1=>by
  have h2:=zaY A n c x 112 W h h1 (by omega);rw [←hY] at h2;exact h2.mono fun e w' ⟨h3,h4⟩=>h4.ret h3
 have fJ:=Aa fB;have dS:=Aa dW;clear hs cR fB dW hok hV hX hY bO;have fY:scale≤1000000000000:=by
  rw [hsc];have h1:10 ^ d≤10 ^ 12:=Nat.pow_le_pow_right (by omega) hd;omega
 have aV:(digs scale).length≤1:=digs_length_le (by rw [B_def,Nat.pow_one];omega);have dX:=Aa hsc;clear hsc;have bF:Below w.heap.size w ((w.alloc (.cells #[.bool neg,.slice At nt ct,.slice Ab nb cb] 91)).alloc (.cells #[.bool false,.slice none 0 0,.slice none 0 0,.bool false,.slice none 0 0,.slice none 0 0] 107)):=((Below.refl _ _).alloc (Nat.le_refl _) _).alloc (by simp) _;have q0:CBlk ((w.alloc (.cells #[.bool neg,.slice At nt ct,.slice Ab nb cb] 91)).alloc (.cells #[.bool false,.slice none 0 0,.slice none 0 0,.bool false,.slice none 0 0,.slice none 0 0] 107)) w.heap.size #[.bool neg,.slice At nt ct,.slice Ab nb cb] 91:=(CBlk.new w _ _ _ rfl).below ((Below.refl _ _).alloc (Nat.le_refl _) _) (by simp);have q1:CBlk ((w.alloc (.cells #[.bool neg,.slice At nt ct,.slice Ab nb cb] 91)).alloc (.cells #[.bool false,.slice none 0 0,.slice none 0 0,.bool false,.slice none 0 0,.slice none 0 0] 107)) (w.heap.size+1) #[.bool false,.slice none 0 0,.slice none 0 0,.bool false,.slice none 0 0,.slice none 0 0] 107:=CBlk.new _ _ _ _ (by simp);have dR:=ht.later bF;have bT:=hbo.later bF;have cU:=hT.later bF;clear ht hbo hT;go_enter Tryz.func152,Tryz.ntmps152
 go_wp2
 go_step3
 go_wp2
 generalize ((w.alloc (.cells #[.bool neg,.slice At nt ct,.slice Ab nb cb] 91)).alloc (.cells #[.bool false,.slice none 0 0,.slice none 0 0,.bool false,.slice none 0 0,.slice none 0 0] 107))=w1 at *
 go_loop [5,13] (fun s i=>∃ j t:Nat,j≤d∧i = .int .i64 (j:Int)∧s = .int .u64 (t:Int)∧Hid (t=10 ^ j)) (fun _ i=>d - (intOf i).toNat)
 case atStart=>exact ⟨0,1,Nat.zero_le _,rfl,rfl,rfl⟩
 case round=>
  obtain ⟨j,t,hj,rfl,rfl,ht⟩:=hrel
  by_cases hlt:j<d
  ·obtain ⟨t2,dF⟩:∃ t2,t2=t*10:=⟨_,rfl⟩
   have fX:t2≤1000000000000:=by
    rw [dF,ht.out,←Nat.pow_succ];have h1:10 ^ (j+1)≤10 ^ 12:=Nat.pow_le_pow_right (by omega) (by omega);omega
   have f1:IntKind.u64.wrap ((t:Int)*10)=(t2:Int):=by rw [zeJ (by omega) (by omega)];omega
   have fF:Hid (t2=10 ^ (j+1)):=by unfold Hid;rw [dF,ht.out,Nat.pow_succ]
   clear dF;go_wp2
   go_round
   case rel=>exact ⟨j+1,t2,by omega,by go_num,rfl,fF⟩
   case measure=>simp [intOf];omega
  ·obtain rfl:j=d:=by omega
   obtain rfl:t=scale:=by rw [ht.out,dX.out]
   clear ht dX;go_wp2
   go_step3
   go_wp2
   go_loopw [7] (fun a wr=>a = .int .i64 0∧wr=w1) (fun _ _=>0)
   case atStart=>exact ⟨rfl,rfl⟩
   case round=>
    obtain ⟨rfl,rfl⟩:=hrel
    go_wp2_with fail
    refine (zhk _ cU).mono ?_;rintro e w2 ⟨rfl,rfl⟩;have x0:=q0.cell 0;have x1:=q0.cell 1;have x2:=q0.cell 2
    go_wp2_with fail
    refine (HS.out _ dR bT).mono ?_;rintro e w2 ⟨A2,m2,c2,rfl,fA,aO⟩;have cG:=Ad bF aO;have dH:=q1.below aO q1.lt;have dK:=cU.later aO;clear x0 x1 x2 q0 q1 dR bT cU bF aO
    go_wp2_with fail
    refine (zah 1 w2 (by omega) (by omega)).mono ?_;rintro e w3 ⟨A3,m3,c3,rfl,cL,aJ⟩;have cH:=Ad cG aJ;have cK:=dH.below aJ dH.lt;have fC:=dK.later aJ;have bU:=fA.later aJ;clear dH dK cG aJ fA
    go_wp2_with fail
    refine (fJ.out w3 A3 m3 c3 cL (by rw [←cL.len];exact zbL)).mono ?_;rintro e w4 ⟨A4,m4,c4,rfl,cZ,aL⟩;have cM:=Ad cH aL;have dG:=cK.below aL cK.lt;have dM:=fC.later aL;have aP:=bU.later aL;clear cK fC cH aL bU cL
    go_wp2_with fail
    refine (zdq A2 A4 m2 c2 m4 c4 V X w4 aP cZ bM (by have:=aP.len;omega)).mono ?_;rintro e w5 ⟨A5,m5,c5,rfl,dQ,aG⟩;have cV:=Ad cM aG;have cP:=dG.below aG dG.lt;have dN:=dM.later aG;have bS:=aP.later aG;have bL:=cZ.later aG;clear dG dM cM aG aP cZ
    go_wp2_with fail
    refine (zah (t:Int) w5 (by omega) (by omega)).mono ?_;rintro e w6 ⟨A6,m6,c6,rfl,cB,aF⟩;rw [Int.toNat_natCast] at cB;have dA:=Ad cV aF;have dB:=cP.below aF cP.lt;have dJ:=dN.later aF;have bH:=bS.later aF;have bI:=bL.later aF;have bA:=dQ.later aF;clear cP dN cV aF bS bL dQ;have fT:(digs (V - X)).length≤1048576:=Nat.le_trans (zd8 _ _) dY
    go_wp2_with fail
    refine (zaE A5 A6 m5 c5 m6 c6 (V - X) t w6 bA cB (by have:=bA.len;omega) (by have:=cB.len;omega)).mono ?_;rintro e w7 ⟨A7,m7,c7,rfl,dD,aH⟩;have cY:=Ad dA aH;have cI:=dB.below aH dB.lt;have dV:=dJ.later aH;have bG:=bH.later aH;have bJ:=bI.later aH;clear dB dJ dA aH bH bI bA cB
    go_wp2_with fail
    refine (dS.out w7 A7 m7 c7 _ dD (by have:=dD.len;have:=zaB fT aV;omega)).mono ?_;rintro e w8 ⟨A8,m8,c8,rfl,cS,aI⟩;rw [dL] at cS;have cN:=Ad cY aI;have cO:=cI.below aI cI.lt;have dT:=dV.later aI;have bD:=bG.later aI;have aW:=bJ.later aI;clear cI dV cY aI bG bJ dD
    go_wp2_with fail
    refine (zcJ A2 A4 m2 c2 m4 c4 V X w8 bD aW (by have:=bD.len;omega) (by have:=aW.len;omega)).mono ?_;rintro e w9 ⟨A9,m9,c9,rfl,dZ,aK⟩;have cW:=Ad cN aK;have cJ:=cO.below aK cO.lt;have dO:=dT.later aK;have bQ:=cS.later aK;clear cO dT cN aK bD aW cS
    go_wp2_with fail
    refine (zah (t:Int) w9 (by omega) (by omega)).mono ?_;rintro e fQ ⟨fG,fH,fI,rfl,aQ,aC⟩;rw [Int.toNat_natCast] at aQ;have bC:=Ad cW aC;have aU:=cJ.below aC cJ.lt;have bR:=dO.later aC;have aT:=bQ.later aC;have aN:=dZ.later aC;clear cJ dO cW aC bQ dZ;have dP:(digs (V+X)).length≤1048576+2+1:=zd3 dY fK
    go_wp2_with fail
    refine (zaE A9 fG m9 c9 fH fI (V+X) t fQ aN aQ (by have:=aN.len;omega) (by have:=aQ.len;omega)).mono ?_;rintro e fL ⟨fD,fM,fO,rfl,bE,aE⟩;have bB:=Ad bC aE;have aZ:=aU.below aE aU.lt;have bP:=bR.later aE;have aS:=aT.later aE;clear aU bR bC aE aT aN aQ
    go_wp2_with fail
    refine (dS.out fL fD fM fO _ bE (by have:=bE.len;have:=zaB dP aV;omega)).mono ?_;rintro e cF ⟨fP,fS,fR,rfl,bV,aD⟩;rw [dI] at bV;have bN:=Ad bB aD;have bZ:=aZ.below aD aZ.lt;have cT:=bP.later aD;have aM:=aS.later aD;clear aZ bP bB aD aS bE
    go_wp2_with fail
    refine (zaX A8 fP m8 c8 fS fR low low cF aM bV).mono ?_;rintro e fV ⟨rfl,nq,rfl⟩;rw [ncmp_eq]
    go_wp2_with fail
    have dU:(digs low).length≤1048580:=by
     rw [←dI];refine Nat.le_trans (zaa (Nat.div_le_self _ _)) ?_;exact Nat.le_trans (zaB dP aV) (by omega)
    have cA:Below cF.heap.size cF (cF.drewN nq):=zac (Below.refl _ _) nq;have bK:=Ad bN cA;have bW:=bZ.below cA bZ.lt;refine (ziA low t A8 m8 c8 _ (cT.later cA) (aM.later cA) (by have:=aM.len;omega) (by omega)).mono ?_;rintro e fW ⟨fU,rfl,⟨A3,m3,c3,A4,m4,c4,A7,m7,c7,A8,m8,c8,rfl,h3,h4,h7,h8⟩,aR⟩;have cQ:=Ad bK aR;have aA:=bW.below aR bW.lt;obtain ⟨qa,cE⟩:∃ qa,qa=lowQ false low t:=⟨_,rfl⟩;obtain ⟨qb,cC⟩:∃ qb,qb=lowQ false (low+1) t:=⟨_,rfl⟩;rw [←cE] at h3 h4;rw [←cC] at h7 h8
    try rw [←cE]
    try rw [←cC]
    have fE:=Aa cE;have fN:=Aa cC;clear cE cC;have y0:=aA.cell 0;have y1:=aA.cell 1;have y2:=aA.cell 2;have y3:=aA.cell 3;have y4:=aA.cell 4;have y5:=aA.cell 5;have z0:=aA.frozen 0;have z1:=aA.frozen 1;have z2:=aA.frozen 2;have z3:=aA.frozen 3;have z4:=aA.frozen 4;have z5:=aA.frozen 5;have hI:=zbS (p:=qa) (q:=qb) aA cQ (by omega) rfl h3 h4 h7 h8;have hD:=aA.set6 (.bool qa.neg) (.slice A3 m3 c3) (.slice A4 m4 c4) (.bool qb.neg) (.slice A7 m7 c7) (.slice A8 m8 c8);unfold Go.Proofs.YtmkondcdejlhcaaGreatDoor.set6 at hI hD;have r0:=hD.cell 0;have r1:=hD.cell 1;have r2:=hD.cell 2;have r3:=hD.cell 3;have r4:=hD.cell 4;have r5:=hD.cell 5;have HI:=Aa hI;clear hI hD;go_wp2
    refine bodyPost_ret (v := .agg #[.bool qa.neg,.slice A3 m3 c3,.slice A4 m4 c4,.bool qb.neg,.slice A7 m7 c7,.slice A8 m8 c8]) (by simp [results,Tryz.results152,go_sem,y0,y1,y2,y3,y4,y5]) rfl ⟨_,rfl,by obtain rfl:=fE.out;obtain rfl:=fN.out;exact HI.out⟩
end Go.Proofs.YtmkondcdejlhcaaGreatDoor
