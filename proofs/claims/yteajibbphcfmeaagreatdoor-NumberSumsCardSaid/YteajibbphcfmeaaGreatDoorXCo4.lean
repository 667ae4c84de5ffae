/- Contract of package number's acuteCosine where the first attempt tells. -/
import Derived.Test.YteajibbphcfmeaaGreatDoorXCo1
import Derived.Test.YteajibbphcfmeaaGreatDoorXRat5
import Derived.Deep.RegionHeld3
namespace Go.Proofs.YteajibbphcfmeaaGreatDoor
open Go.RowKit Bn
set_option maxHeartbeats 8000000 in
set_option maxRecDepth 100000 in
theorem zk4 (neg:Bool) (top bot k l mm scale low d:Nat) (At Ab:Option Addr) (nt ct nb cb:Nat) (w:World) (hT:Tabs w) (hok:Cs.AcOk top bot 112 k l mm scale low) (hd:d≤12) (hsc:scale=10 ^ d)
  (hk0:k<4294967296) (hl0:l<4294967296) (hmm:mm<1073741824) (ht:NatS w w.heap.size At nt ct top) (hbo:NatS w w.heap.size Ab nb cb bot) (hbot:0<bot) (hnt:nt≤1048576) :
  Calls Tryz.prog 165 #[.agg #[.bool neg,.slice At nt ct,.slice Ab nb cb],.int .i64 (d:Int)] w (zb7 w (lowQ false low scale) (lowQ false (low+1) scale)):=by
 obtain ⟨M,hM,cM⟩:=hok.s;have bO:=(cM.bound mm (by omega)).1;obtain ⟨V,hV⟩:∃ V,V=Cs.serVal (Cs.sqOf (Cs.circleOf 112 k l) top bot 112) 112 mm:=⟨_,rfl⟩;have dI:(digs V).length≤1048576:=by
  rw [hV];exact Nat.le_trans (zaa (Nat.sub_le _ _)) (zb6 bO hM)
 have hs:∀ W,NatS W W.heap.size At nt ct top→NatS W W.heap.size Ab nb cb bot→Calls Tryz.prog 196 #[.agg #[.bool neg,.slice At nt ct,.slice Ab nb cb],.int .i64 112] W (zb4 W V):=fun W h1 h2=>by
  rw [hV];exact zjH neg top bot 112 k l mm M At Ab nt ct nb cb W hok.a hok.b hok.c cM hM (by omega) hk0 hl0 hmm h1 h2 hbot hnt
 have HS:=Lib.hid hs;obtain ⟨X,hX⟩:∃ X,X=2 ^ 64:=⟨_,rfl⟩;have fN:(digs X).length≤2:=by rw [hX];exact digs_length_le (by decide)
 obtain ⟨Y,hY⟩:∃ Y,Y=2 ^ 112:=⟨_,rfl⟩;have bN:=hok.big;have dJ:=hok.lo;have cW:=hok.hi;rw [←hV,←hX] at bN;rw [←hV,←hX,←hY] at dJ cW;have dW:∀ W A n c,NatS W W.heap.size A n c 1→n≤1→Calls Tryz.prog 103 #[.slice A n c,.int .i64 64] W (zb4 W X):=fun W A n c h h1=>by
  have h2:=zaw A n c 1 64 W h (by omega) (by omega);rw [Nat.one_mul,←hX] at h2;exact h2
 have dK:∀ W A n c x,NatS W W.heap.size A n c x→n≤1099511627776→Calls Tryz.prog 172 #[.slice A n c,.int .i64 112] W (zb4 W (x / Y)):=fun W A n c x h h1=>by
  have h2:=zaP A n c x 112 W h h1 (by omega);rw [←hY] at h2;exact h2.mono fun e w' ⟨h3,h4⟩=>h4.ret h3
 have fB:=Lib.hid dW;have dU:=Lib.hid dK;clear hs cM dW dK hok hV hX hY bO;have fO:scale≤1000000000000:=by
  rw [hsc];have h1:10 ^ d≤10 ^ 12:=Nat.pow_le_pow_right (by omega) hd;omega
 have bC:(digs scale).length≤1:=digs_length_le (by rw [zdf,Nat.pow_one];omega);have dQ:=Lib.hid hsc;clear hsc;have bD:Below w.heap.size w ((w.alloc (.cells #[.bool neg,.slice At nt ct,.slice Ab nb cb] 91)).alloc (.cells #[.bool false,.slice none 0 0,.slice none 0 0,.bool false,.slice none 0 0,.slice none 0 0] 139)):=((Below.refl _ _).alloc (Nat.le_refl _) _).alloc (by simp) _;have q0:CBlk ((w.alloc (.cells #[.bool neg,.slice At nt ct,.slice Ab nb cb] 91)).alloc (.cells #[.bool false,.slice none 0 0,.slice none 0 0,.bool false,.slice none 0 0,.slice none 0 0] 139)) w.heap.size #[.bool neg,.slice At nt ct,.slice Ab nb cb] 91:=(CBlk.new w _ _ _ rfl).below ((Below.refl _ _).alloc (Nat.le_refl _) _) (by simp);have q1:CBlk ((w.alloc (.cells #[.bool neg,.slice At nt ct,.slice Ab nb cb] 91)).alloc (.cells #[.bool false,.slice none 0 0,.slice none 0 0,.bool false,.slice none 0 0,.slice none 0 0] 139)) (w.heap.size+1) #[.bool false,.slice none 0 0,.slice none 0 0,.bool false,.slice none 0 0,.slice none 0 0] 139:=CBlk.new _ _ _ _ (by simp);have dR:=ht.later bD;have bM:=hbo.later bD;have cU:=hT.later bD;clear ht hbo hT;go_enter Tryz.func165,Tryz.ntmps165
 go_wp2
 go_step3
 go_wp2
 generalize ((w.alloc (.cells #[.bool neg,.slice At nt ct,.slice Ab nb cb] 91)).alloc (.cells #[.bool false,.slice none 0 0,.slice none 0 0,.bool false,.slice none 0 0,.slice none 0 0] 139))=w1 at *
 go_loop [5,13] (fun s i=>∃ j t:Nat,j≤d∧i = .int .i64 (j:Int)∧s = .int .u64 (t:Int)∧Hid (t=10 ^ j)) (fun _ i=>d - (intOf i).toNat)
 case atStart=>exact ⟨0,1,Nat.zero_le _,rfl,rfl,rfl⟩
 case round=>
  obtain ⟨j,t,hj,rfl,rfl,ht⟩:=hrel
  by_cases hlt:j<d
  ·obtain ⟨t2,cQ⟩:∃ t2,t2=t*10:=⟨_,rfl⟩
   have fS:t2≤1000000000000:=by
    rw [cQ,ht.out,←Nat.pow_succ];have h1:10 ^ (j+1)≤10 ^ 12:=Nat.pow_le_pow_right (by omega) (by omega);omega
   have f1:IntKind.u64.wrap ((t:Int)*10)=(t2:Int):=by rw [zdM (by omega) (by omega)];omega
   have fJ:Hid (t2=10 ^ (j+1)):=by unfold Hid;rw [cQ,ht.out,Nat.pow_succ]
   clear cQ;go_wp2
   go_round
   case rel=>exact ⟨j+1,t2,by omega,by go_num,rfl,fJ⟩
   case measure=>simp [intOf];omega
  ·obtain rfl:j=d:=by omega
   obtain rfl:t=scale:=by rw [ht.out,dQ.out]
   clear ht dQ;go_wp2
   go_step3
   go_wp2
   go_loopw [7] (fun a wr=>a = .int .i64 0∧wr=w1) (fun _ _=>0)
   case atStart=>exact ⟨rfl,rfl⟩
   case round=>
    obtain ⟨rfl,rfl⟩:=hrel
    go_wp2_with fail
    refine (zfL _ cU).mono ?_;rintro e w2 ⟨rfl,rfl⟩;have x0:=q0.cell 0;have x1:=q0.cell 1;have x2:=q0.cell 2
    go_wp2_with fail
    refine (HS.out _ dR bM).mono ?_;rintro e w2 ⟨A2,m2,c2,rfl,dH,aO⟩;have cV:=bD.trans (aO.mono bD.size);have dB:=q1.below aO q1.lt;have dL:=cU.later aO;clear x0 x1 x2 q0 q1 dR bM cU bD aO
    go_wp2_with fail
    refine (zai 1 w2 (by omega) (by omega)).mono ?_;rintro e w3 ⟨A3,m3,c3,rfl,cK,aN⟩;have cP:=cV.trans (aN.mono cV.size);have cY:=dB.below aN dB.lt;have dF:=dL.later aN;have bJ:=dH.later aN;clear dB dL cV aN dH
    go_wp2_with fail
    refine (fB.out w3 A3 m3 c3 cK (by rw [←cK.len];exact zbs)).mono ?_;rintro e w4 ⟨A4,m4,c4,rfl,cO,aM⟩;have cJ:=cP.trans (aM.mono cP.size);have dC:=cY.below aM cY.lt;have dD:=dF.later aM;have aP:=bJ.later aM;clear cY dF cP aM bJ cK
    go_wp2_with fail
    refine (zcR A2 A4 m2 c2 m4 c4 V X w4 aP cO bN (by have:=aP.len;omega)).mono ?_;rintro e w5 ⟨A5,m5,c5,rfl,dN,aG⟩;have cZ:=cJ.trans (aG.mono cJ.size);have cF:=dC.below aG dC.lt;have dS:=dD.later aG;have bI:=aP.later aG;have bP:=cO.later aG;clear dC dD cJ aG aP cO
    go_wp2_with fail
    refine (zai (t:Int) w5 (by omega) (by omega)).mono ?_;rintro e w6 ⟨A6,m6,c6,rfl,bW,aF⟩;rw [Int.toNat_natCast] at bW;have cH:=cZ.trans (aF.mono cZ.size);have cG:=cF.below aF cF.lt;have dO:=dS.later aF;have bQ:=bI.later aF;have bR:=bP.later aF;have aV:=dN.later aF;clear cF dS cZ aF bI bP dN;have dX:(digs (V - X)).length≤1048576:=Nat.le_trans (zdp _ _) dI
    go_wp2_with fail
    refine (zaE A5 A6 m5 c5 m6 c6 (V - X) t w6 aV bW (by have:=aV.len;omega) (by have:=bW.len;omega)).mono ?_;rintro e w7 ⟨A7,m7,c7,rfl,cI,aH⟩;have cT:=cH.trans (aH.mono cH.size);have dA:=cG.below aH cG.lt;have dE:=dO.later aH;have bK:=bQ.later aH;have bH:=bR.later aH;clear cG dO cH aH bQ bR aV bW
    go_wp2_with fail
    refine (dU.out w7 A7 m7 c7 _ cI (by have:=cI.len;have:=zaB dX bC;omega)).mono ?_;rintro e w8 ⟨A8,m8,c8,rfl,cC,aI⟩;rw [dJ] at cC;have cB:=cT.trans (aI.mono cT.size);have cN:=dA.below aI dA.lt;have dP:=dE.later aI;have aZ:=bK.later aI;have bA:=bH.later aI;clear dA dE cT aI bK bH cI
    go_wp2_with fail
    refine (zcf A2 A4 m2 c2 m4 c4 V X w8 aZ bA (by have:=aZ.len;omega) (by have:=bA.len;omega)).mono ?_;rintro e w9 ⟨A9,m9,c9,rfl,dG,aL⟩;have cR:=cB.trans (aL.mono cB.size);have cL:=cN.below aL cN.lt;have dT:=dP.later aL;have bG:=cC.later aL;clear cN dP cB aL aZ bA cC
    go_wp2_with fail
    refine (zai (t:Int) w9 (by omega) (by omega)).mono ?_;rintro e dY ⟨fC,fA,fE,rfl,aQ,aC⟩;rw [Int.toNat_natCast] at aQ;have aU:=cR.trans (aC.mono cR.size);have bB:=cL.below aC cL.lt;have bU:=dT.later aC;have aT:=bG.later aC;have aJ:=dG.later aC;clear cL dT cR aC bG dG;have dM:(digs (V+X)).length≤1048576+2+1:=zc0 dI fN
    go_wp2_with fail
    refine (zaE A9 fC m9 c9 fA fE (V+X) t dY aJ aQ (by have:=aJ.len;omega) (by have:=aQ.len;omega)).mono ?_;rintro e fG ⟨fL,fM,fD,rfl,aY,aE⟩;have aX:=aU.trans (aE.mono aU.size);have aW:=bB.below aE bB.lt;have bL:=bU.later aE;have aS:=aT.later aE;clear bB bU aU aE aT aJ aQ
    go_wp2_with fail
    refine (dU.out fG fL fM fD _ aY (by have:=aY.len;have:=zaB dM bC;omega)).mono ?_;rintro e bZ ⟨fK,dZ,fF,rfl,bF,aD⟩;rw [cW] at bF;have bS:=aX.trans (aD.mono aX.size);have bV:=aW.below aD aW.lt;have cS:=bL.later aD;have aK:=aS.later aD;clear aW bL aX aD aS aY
    go_wp2_with fail
    refine (zaO A8 fK m8 c8 dZ fF low low bZ aK bF).mono ?_;rintro e fR ⟨rfl,nq,rfl⟩;rw [ncmp_eq]
    go_wp2_with fail
    have dV:(digs low).length≤1048580:=by
     rw [←cW];refine Nat.le_trans (zaa (Nat.div_le_self _ _)) ?_;exact Nat.le_trans (zaB dM bC) (by omega)
    have bX:Below bZ.heap.size bZ (bZ.drewN nq):=zad (Below.refl _ _) nq;have bT:=bS.trans (bX.mono bS.size);have bE:=bV.below bX bV.lt;refine (ziO low t A8 m8 c8 _ (cS.later bX) (aK.later bX) (by have:=aK.len;omega) (by omega)).mono ?_;rintro e fQ ⟨fP,rfl,⟨A3,m3,c3,A4,m4,c4,A7,m7,c7,A8,m8,c8,rfl,h3,h4,h7,h8⟩,aR⟩;have cE:=bT.trans (aR.mono bT.size);have aA:=bE.below aR bE.lt;obtain ⟨qa,cA⟩:∃ qa,qa=lowQ false low t:=⟨_,rfl⟩;obtain ⟨qb,bY⟩:∃ qb,qb=lowQ false (low+1) t:=⟨_,rfl⟩;rw [←cA] at h3 h4;rw [←bY] at h7 h8
    try rw [←cA]
    try rw [←bY]
    have fH:=Lib.hid cA;have fI:=Lib.hid bY;clear cA bY;have y0:=aA.cell 0;have y1:=aA.cell 1;have y2:=aA.cell 2;have y3:=aA.cell 3;have y4:=aA.cell 4;have y5:=aA.cell 5;have z0:=aA.frozen 0;have z1:=aA.frozen 1;have z2:=aA.frozen 2;have z3:=aA.frozen 3;have z4:=aA.frozen 4;have z5:=aA.frozen 5;have hI:=zbV (p:=qa) (q:=qb) aA cE (by omega) rfl h3 h4 h7 h8;have hD:=aA.set6 (.bool qa.neg) (.slice A3 m3 c3) (.slice A4 m4 c4) (.bool qb.neg) (.slice A7 m7 c7) (.slice A8 m8 c8);unfold Go.Proofs.YteajibbphcfmeaaGreatDoor.set6 at hI hD;have r0:=hD.cell 0;have r1:=hD.cell 1;have r2:=hD.cell 2;have r3:=hD.cell 3;have r4:=hD.cell 4;have r5:=hD.cell 5;have HI:=Lib.hid hI;clear hI hD;go_wp2
    refine bodyPost_ret (v := .agg #[.bool qa.neg,.slice A3 m3 c3,.slice A4 m4 c4,.bool qb.neg,.slice A7 m7 c7,.slice A8 m8 c8]) (by simp [results,Tryz.results165,go_sem,y0,y1,y2,y3,y4,y5]) rfl ⟨_,rfl,by obtain rfl:=fH.out;obtain rfl:=fI.out;exact HI.out⟩
theorem zn4 {g:Nat} (w:World) (u v:Value) {q:Addr} (h:g≠q.block):((w.setCell ⟨g,0,none⟩ u).setCell ⟨g,1,none⟩ v).cell? q=w.cell? q:=by
 rw [World.cell?_setCell_far _ _ _ _ (by exact h),World.cell?_setCell_far _ _ _ _ (by exact h)]
theorem zbK {g:Nat} (w:World) (u1 u2 u3 u4 u5 u6:Value) {q:Addr} (h:g≠q.block):((((((w.setCell ⟨g,0,none⟩ u1).setCell ⟨g,1,none⟩ u2).setCell ⟨g,2,none⟩ u3).setCell ⟨g,3,none⟩ u4).setCell ⟨g,4,none⟩ u5).setCell ⟨g,5,none⟩ u6).cell? q=w.cell? q:=by
 rw [World.cell?_setCell_far _ _ _ _ (by exact h),World.cell?_setCell_far _ _ _ _ (by exact h),World.cell?_setCell_far _ _ _ _ (by exact h),World.cell?_setCell_far _ _ _ _ (by exact h),World.cell?_setCell_far _ _ _ _ (by exact h),World.cell?_setCell_far _ _ _ _ (by exact h)]
theorem RatS.mk {w:World} {B:Nat} {q:Q} {A A':Option Addr} {n c n' c':Nat} (h1:NatS w B A n c q.top) (h2:NatS w B A' n' c' q.bot):RatS w B (.agg #[.bool q.neg,.slice A n c,.slice A' n' c']) q:=⟨A,n,c,A',n',c',rfl,h1,h2⟩
set_option maxHeartbeats 4000000 in
set_option maxRecDepth 100000 in
theorem zcz (p q:Q) (v u:Value) (w:World) (hT:Tabs w) (hv:RatS w w.heap.size v p) (hu:RatS w w.heap.size u q) (hp:LenQ p 134217728) (hq:LenQ q 134217728) :
  Calls Tryz.prog 67 #[v,u] w (zaU w (zaZ p q)):=by
 obtain ⟨A1,n1,c1,A2,n2,c2,rfl,h1,h2⟩:=hv;obtain ⟨A3,n3,c3,A4,n4,c4,rfl,h3,h4⟩:=hu;have aZ:Below w.heap.size w (((w.alloc (.cells #[.bool p.neg,.slice A1 n1 c1,.slice A2 n2 c2] 91)).alloc (.cells #[.bool q.neg,.slice A3 n3 c3,.slice A4 n4 c4] 91)).alloc (.cells #[.bool false,.slice none 0 0,.slice none 0 0] 91)):=((((Below.refl _ _).alloc (by simp<;>omega) _).alloc (by simp<;>omega) _).alloc (by simp<;>omega) _);have q0:CBlk (((w.alloc (.cells #[.bool p.neg,.slice A1 n1 c1,.slice A2 n2 c2] 91)).alloc (.cells #[.bool q.neg,.slice A3 n3 c3,.slice A4 n4 c4] 91)).alloc (.cells #[.bool false,.slice none 0 0,.slice none 0 0] 91)) (w.heap.size) #[.bool p.neg,.slice A1 n1 c1,.slice A2 n2 c2] 91:=(((CBlk.new _ _ _ _ (by simp)).alloc _).alloc _);have q1:CBlk (((w.alloc (.cells #[.bool p.neg,.slice A1 n1 c1,.slice A2 n2 c2] 91)).alloc (.cells #[.bool q.neg,.slice A3 n3 c3,.slice A4 n4 c4] 91)).alloc (.cells #[.bool false,.slice none 0 0,.slice none 0 0] 91)) (w.heap.size+1) #[.bool q.neg,.slice A3 n3 c3,.slice A4 n4 c4] 91:=((CBlk.new _ _ _ _ (by simp)).alloc _);have q2:CBlk (((w.alloc (.cells #[.bool p.neg,.slice A1 n1 c1,.slice A2 n2 c2] 91)).alloc (.cells #[.bool q.neg,.slice A3 n3 c3,.slice A4 n4 c4] 91)).alloc (.cells #[.bool false,.slice none 0 0,.slice none 0 0] 91)) (w.heap.size+1+1) #[.bool false,.slice none 0 0,.slice none 0 0] 91:=(CBlk.new _ _ _ _ (by simp));go_enter Tryz.func67,Tryz.ntmps67
 go_wp2_with fail
 generalize (((w.alloc (.cells #[.bool p.neg,.slice A1 n1 c1,.slice A2 n2 c2] 91)).alloc (.cells #[.bool q.neg,.slice A3 n3 c3,.slice A4 n4 c4] 91)).alloc (.cells #[.bool false,.slice none 0 0,.slice none 0 0] 91))=W at *;have aW:w.heap.size<W.drew.heap.size:=q0.lt;have aT:W.drew.cell? ⟨w.heap.size,0,none⟩=some (.bool p.neg):=q0.cell 0;have aP:W.drew.cell? ⟨w.heap.size,1,none⟩=some (.slice A1 n1 c1):=q0.cell 1;have aK:W.drew.cell? ⟨w.heap.size,2,none⟩=some (.slice A2 n2 c2):=q0.cell 2;have aY:w.heap.size+1<W.drew.heap.size:=q1.lt;have aN:W.drew.cell? ⟨w.heap.size+1,0,none⟩=some (.bool q.neg):=q1.cell 0;have aR:W.drew.cell? ⟨w.heap.size+1,1,none⟩=some (.slice A3 n3 c3):=q1.cell 1;have aE:W.drew.cell? ⟨w.heap.size+1,2,none⟩=some (.slice A4 n4 c4):=q1.cell 2
 go_region_held3 (fun w'=>w'.cell? ⟨w.heap.size,0,none⟩=some (.bool p.neg)∧w'.cell? ⟨w.heap.size,1,none⟩=some (.slice A1 n1 c1)∧w'.cell? ⟨w.heap.size,2,none⟩=some (.slice A2 n2 c2)∧w'.cell? ⟨w.heap.size+1,0,none⟩=some (.bool q.neg)∧w'.cell? ⟨w.heap.size+1,1,none⟩=some (.slice A3 n3 c3)∧w'.cell? ⟨w.heap.size+1,2,none⟩=some (.slice A4 n4 c4))
  (first | with_reducible exact ⟨aT,aP,aK,aN,aR,aE⟩ | with_reducible exact ⟨aD,aF,aM,aI,aQ,aG⟩ | with_reducible exact ⟨aH,aC,aL,aO,aS,aJ⟩ | exact ⟨((far3 _ _ _ _ (by dsimp only;omega)).trans aH),((far3 _ _ _ _ (by dsimp only;omega)).trans aC),((far3 _ _ _ _ (by dsimp only;omega)).trans aL),((far3 _ _ _ _ (by dsimp only;omega)).trans aO),((far3 _ _ _ _ (by dsimp only;omega)).trans aS),((far3 _ _ _ _ (by dsimp only;omega)).trans aJ)⟩)
  (first
   |(go_at_call 133;refine (zl9 q _ _ (RatS.mk (h3.later aZ.drew) (h4.later aZ.drew))).mono ?_;rintro e w4 ⟨v4,rfl,⟨A5,m5,c5,A6,m6,c6,rfl,h5,h6⟩,aA⟩;have aV:w.heap.size<w4.heap.size:=Nat.lt_of_lt_of_le aW aA.size;have aD:w4.cell? ⟨w.heap.size,0,none⟩=some (.bool p.neg):=(aA.cell (p:=⟨w.heap.size,0,none⟩) aW).trans aT;have aF:w4.cell? ⟨w.heap.size,1,none⟩=some (.slice A1 n1 c1):=(aA.cell (p:=⟨w.heap.size,1,none⟩) aW).trans aP;have aM:w4.cell? ⟨w.heap.size,2,none⟩=some (.slice A2 n2 c2):=(aA.cell (p:=⟨w.heap.size,2,none⟩) aW).trans aK;have aX:w.heap.size+1<w4.heap.size:=Nat.lt_of_lt_of_le aY aA.size;have aI:w4.cell? ⟨w.heap.size+1,0,none⟩=some (.bool q.neg):=(aA.cell (p:=⟨w.heap.size+1,0,none⟩) aY).trans aN;have aQ:w4.cell? ⟨w.heap.size+1,1,none⟩=some (.slice A3 n3 c3):=(aA.cell (p:=⟨w.heap.size+1,1,none⟩) aY).trans aR;have aG:w4.cell? ⟨w.heap.size+1,2,none⟩=some (.slice A4 n4 c4):=(aA.cell (p:=⟨w.heap.size+1,2,none⟩) aY).trans aE)
   |(go_at_call 65;refine (zhP p (zbQ q) _ _ w4 ((hT.later aZ.drew).later aA) (RatS.mk ((h1.later aZ.drew).later aA) ((h2.later aZ.drew).later aA)) (RatS.mk h5 h6) hp hq).mono ?_;rintro e w5 ⟨v5,rfl,⟨A7,m7,c7,A8,m8,c8,rfl,h7,h8⟩,aU⟩;have qR:=((q2.drew.below aA q2.lt).below aU (Nat.lt_of_lt_of_le q2.lt aA.size));have y0:=qR.cell 0;have y1:=qR.cell 1;have y2:=qR.cell 2;have z0:=qR.frozen 0;have z1:=qR.frozen 1;have z2:=qR.frozen 2;have bC:w.heap.size<w5.heap.size:=Nat.lt_of_lt_of_le aV aU.size;have aH:w5.cell? ⟨w.heap.size,0,none⟩=some (.bool p.neg):=(aU.cell (p:=⟨w.heap.size,0,none⟩) aV).trans aD;have aC:w5.cell? ⟨w.heap.size,1,none⟩=some (.slice A1 n1 c1):=(aU.cell (p:=⟨w.heap.size,1,none⟩) aV).trans aF;have aL:w5.cell? ⟨w.heap.size,2,none⟩=some (.slice A2 n2 c2):=(aU.cell (p:=⟨w.heap.size,2,none⟩) aV).trans aM;have bD:w.heap.size+1<w5.heap.size:=Nat.lt_of_lt_of_le aX aU.size;have aO:w5.cell? ⟨w.heap.size+1,0,none⟩=some (.bool q.neg):=(aU.cell (p:=⟨w.heap.size+1,0,none⟩) aX).trans aI;have aS:w5.cell? ⟨w.heap.size+1,1,none⟩=some (.slice A3 n3 c3):=(aU.cell (p:=⟨w.heap.size+1,1,none⟩) aX).trans aQ;have aJ:w5.cell? ⟨w.heap.size+1,2,none⟩=some (.slice A4 n4 c4):=(aU.cell (p:=⟨w.heap.size+1,2,none⟩) aX).trans aG))
 have bA:=((aZ.drew.trans (aA.mono aZ.drew.size)).trans (aU.mono (Nat.le_trans aZ.drew.size aA.size)));have bB:=zan bA (g:=w.heap.size+1+1) (by omega) (.bool (zdi p (zbQ q)).neg) (.slice A7 m7 c7) (.slice A8 m8 c8)
 go_wp2_with fail
 refine bodyPost_ret (v := .agg #[.bool (zdi p (zbQ q)).neg,.slice A7 m7 c7,.slice A8 m8 c8]) (by simp [results,Tryz.results67,go_sem,y0,y1,y2]) rfl ⟨_,rfl,⟨A7,m7,c7,A8,m8,c8,rfl,?_,?_⟩,bB⟩
 ·rw [zah];exact h7.res qR _ _ _
 ·rw [zah];exact h8.res qR _ _ _
set_option maxHeartbeats 4000000 in
set_option maxRecDepth 100000 in
theorem znr (p q:Q) (v:Value) (w:World) (hv:ItvS w w.heap.size v p q) :
  Calls Tryz.prog 166 #[v] w (zb7 w (zbQ q) (zbQ p)):=by
 obtain ⟨A1,n1,c1,A2,n2,c2,A3,n3,c3,A4,n4,c4,rfl,h1,h2,h3,h4⟩:=hv;have aX:Below w.heap.size w ((w.alloc (.cells #[.bool p.neg,.slice A1 n1 c1,.slice A2 n2 c2,.bool q.neg,.slice A3 n3 c3,.slice A4 n4 c4] 139)).alloc (.cells #[.bool false,.slice none 0 0,.slice none 0 0,.bool false,.slice none 0 0,.slice none 0 0] 139)):=(((Below.refl _ _).alloc (by simp<;>omega) _).alloc (by simp<;>omega) _);have q0:CBlk ((w.alloc (.cells #[.bool p.neg,.slice A1 n1 c1,.slice A2 n2 c2,.bool q.neg,.slice A3 n3 c3,.slice A4 n4 c4] 139)).alloc (.cells #[.bool false,.slice none 0 0,.slice none 0 0,.bool false,.slice none 0 0,.slice none 0 0] 139)) (w.heap.size) #[.bool p.neg,.slice A1 n1 c1,.slice A2 n2 c2,.bool q.neg,.slice A3 n3 c3,.slice A4 n4 c4] 139:=((CBlk.new _ _ _ _ (by simp)).alloc _);have q1:CBlk ((w.alloc (.cells #[.bool p.neg,.slice A1 n1 c1,.slice A2 n2 c2,.bool q.neg,.slice A3 n3 c3,.slice A4 n4 c4] 139)).alloc (.cells #[.bool false,.slice none 0 0,.slice none 0 0,.bool false,.slice none 0 0,.slice none 0 0] 139)) (w.heap.size+1) #[.bool false,.slice none 0 0,.slice none 0 0,.bool false,.slice none 0 0,.slice none 0 0] 139:=(CBlk.new _ _ _ _ (by simp));go_enter Tryz.func166,Tryz.ntmps166
 go_wp2_with fail
 generalize ((w.alloc (.cells #[.bool p.neg,.slice A1 n1 c1,.slice A2 n2 c2,.bool q.neg,.slice A3 n3 c3,.slice A4 n4 c4] 139)).alloc (.cells #[.bool false,.slice none 0 0,.slice none 0 0,.bool false,.slice none 0 0,.slice none 0 0] 139))=W at *;have aC:w.heap.size<W.drew.heap.size:=q0.lt;have aW:W.drew.cell? ⟨w.heap.size,0,none⟩=some (.bool p.neg):=q0.cell 0;have aS:W.drew.cell? ⟨w.heap.size,1,none⟩=some (.slice A1 n1 c1):=q0.cell 1;have aK:W.drew.cell? ⟨w.heap.size,2,none⟩=some (.slice A2 n2 c2):=q0.cell 2;have aU:W.drew.cell? ⟨w.heap.size,3,none⟩=some (.bool q.neg):=q0.cell 3;have aJ:W.drew.cell? ⟨w.heap.size,4,none⟩=some (.slice A3 n3 c3):=q0.cell 4;have aO:W.drew.cell? ⟨w.heap.size,5,none⟩=some (.slice A4 n4 c4):=q0.cell 5
 go_region_held3 (fun w'=>w'.cell? ⟨w.heap.size,0,none⟩=some (.bool p.neg)∧w'.cell? ⟨w.heap.size,1,none⟩=some (.slice A1 n1 c1)∧w'.cell? ⟨w.heap.size,2,none⟩=some (.slice A2 n2 c2)∧w'.cell? ⟨w.heap.size,3,none⟩=some (.bool q.neg)∧w'.cell? ⟨w.heap.size,4,none⟩=some (.slice A3 n3 c3)∧w'.cell? ⟨w.heap.size,5,none⟩=some (.slice A4 n4 c4))
  (first | with_reducible exact ⟨aW,aS,aK,aU,aJ,aO⟩ | with_reducible exact ⟨aF,aH,aQ,aG,aP,aM⟩ | with_reducible exact ⟨aI,aE,aL,aN,aV,aR⟩ | exact ⟨((zbK _ _ _ _ _ _ _ (by dsimp only;omega)).trans aI),((zbK _ _ _ _ _ _ _ (by dsimp only;omega)).trans aE),((zbK _ _ _ _ _ _ _ (by dsimp only;omega)).trans aL),((zbK _ _ _ _ _ _ _ (by dsimp only;omega)).trans aN),((zbK _ _ _ _ _ _ _ (by dsimp only;omega)).trans aV),((zbK _ _ _ _ _ _ _ (by dsimp only;omega)).trans aR)⟩)
  (first
   |(go_at_call 133;refine (zl9 p _ w4 (RatS.mk ((h1.later aX.drew).later aD) ((h2.later aX.drew).later aD))).mono ?_;rintro e w5 ⟨v5,rfl,⟨A7,m7,c7,A8,m8,c8,rfl,h7,h8⟩,aT⟩;have qR:=((q1.drew.below aD q1.lt).below aT (Nat.lt_of_lt_of_le q1.lt aD.size));have y0:=qR.cell 0;have y1:=qR.cell 1;have y2:=qR.cell 2;have y3:=qR.cell 3;have y4:=qR.cell 4;have y5:=qR.cell 5;have z0:=qR.frozen 0;have z1:=qR.frozen 1;have z2:=qR.frozen 2;have z3:=qR.frozen 3;have z4:=qR.frozen 4;have z5:=qR.frozen 5;have aZ:w.heap.size<w5.heap.size:=Nat.lt_of_lt_of_le aA aT.size;have aI:w5.cell? ⟨w.heap.size,0,none⟩=some (.bool p.neg):=(aT.cell (p:=⟨w.heap.size,0,none⟩) aA).trans aF;have aE:w5.cell? ⟨w.heap.size,1,none⟩=some (.slice A1 n1 c1):=(aT.cell (p:=⟨w.heap.size,1,none⟩) aA).trans aH;have aL:w5.cell? ⟨w.heap.size,2,none⟩=some (.slice A2 n2 c2):=(aT.cell (p:=⟨w.heap.size,2,none⟩) aA).trans aQ;have aN:w5.cell? ⟨w.heap.size,3,none⟩=some (.bool q.neg):=(aT.cell (p:=⟨w.heap.size,3,none⟩) aA).trans aG;have aV:w5.cell? ⟨w.heap.size,4,none⟩=some (.slice A3 n3 c3):=(aT.cell (p:=⟨w.heap.size,4,none⟩) aA).trans aP;have aR:w5.cell? ⟨w.heap.size,5,none⟩=some (.slice A4 n4 c4):=(aT.cell (p:=⟨w.heap.size,5,none⟩) aA).trans aM)
   |(go_at_call_of 133 (Value.agg #[.bool q.neg,.slice A3 n3 c3,.slice A4 n4 c4]);refine (zl9 q _ _ (RatS.mk (h3.later aX.drew) (h4.later aX.drew))).mono ?_;rintro e w4 ⟨v4,rfl,⟨A5,m5,c5,A6,m6,c6,rfl,h5,h6⟩,aD⟩;have aA:w.heap.size<w4.heap.size:=Nat.lt_of_lt_of_le aC aD.size;have aF:w4.cell? ⟨w.heap.size,0,none⟩=some (.bool p.neg):=(aD.cell (p:=⟨w.heap.size,0,none⟩) aC).trans aW;have aH:w4.cell? ⟨w.heap.size,1,none⟩=some (.slice A1 n1 c1):=(aD.cell (p:=⟨w.heap.size,1,none⟩) aC).trans aS;have aQ:w4.cell? ⟨w.heap.size,2,none⟩=some (.slice A2 n2 c2):=(aD.cell (p:=⟨w.heap.size,2,none⟩) aC).trans aK;have aG:w4.cell? ⟨w.heap.size,3,none⟩=some (.bool q.neg):=(aD.cell (p:=⟨w.heap.size,3,none⟩) aC).trans aU;have aP:w4.cell? ⟨w.heap.size,4,none⟩=some (.slice A3 n3 c3):=(aD.cell (p:=⟨w.heap.size,4,none⟩) aC).trans aJ;have aM:w4.cell? ⟨w.heap.size,5,none⟩=some (.slice A4 n4 c4):=(aD.cell (p:=⟨w.heap.size,5,none⟩) aC).trans aO))
 have aY:=((aX.drew.trans (aD.mono aX.drew.size)).trans (aT.mono (Nat.le_trans aX.drew.size aD.size)));have hI:=zbV (p:=(zbQ q)) (q:=(zbQ p)) qR aY (by omega) rfl (h5.later aT) (h6.later aT) h7 h8;unfold Go.Proofs.YteajibbphcfmeaaGreatDoor.set6 at hI
 go_wp2_with fail
 refine bodyPost_ret (v := .agg #[.bool (zbQ q).neg,.slice A5 m5 c5,.slice A6 m6 c6,.bool (zbQ p).neg,.slice A7 m7 c7,.slice A8 m8 c8]) (by simp [results,Tryz.results166,go_sem,y0,y1,y2,y3,y4,y5]) rfl ⟨_,rfl,hI⟩
end Go.Proofs.YteajibbphcfmeaaGreatDoor
