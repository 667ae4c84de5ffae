/- Contract of package number's series of the cosine, where it is known when it ends. -/
import Derived.Test.YteajibbphcfmeaaGreatDoorVSp0
import Derived.Test.YteajibbphcfmeaaGreatDoorVDiv4
import Derived.Deep.RegionHeld3
namespace Go.Proofs.YteajibbphcfmeaaGreatDoor
open Go.RowKit Bn
theorem zbZ {x M:Nat} (h:x<2 ^ M) (hM:M≤1048576):(digs x).length≤1048576:=by
 obtain ⟨N,hN⟩:∃ N,N=64*1048576:=⟨_,rfl⟩
 exact zkt (by rw [←hN];exact Nat.lt_of_lt_of_le h (Nat.pow_le_pow_right (by omega) (by omega)))
set_option maxHeartbeats 8000000 in
set_option maxRecDepth 100000 in
theorem zjh (neg:Bool) (top bot bits k l mm M:Nat) (At Ab:Option Addr) (nt ct nb cb:Nat) (w:World) (h5:Cs.TanOk 5 bits k) (h239:Cs.TanOk 239 bits l) (hc:Cs.tanVal 239 bits l*8≤Cs.tanVal 5 bits k*32)
  (hok:Cs.SerOk (Cs.sqOf (Cs.circleOf bits k l) top bot bits) bits mm M) (hM:M≤1048576) (hb:bits≤1048576) (hk0:k<4294967296) (hl0:l<4294967296) (hmm:mm<1073741824)
  (ht:NatS w w.heap.size At nt ct top) (hbo:NatS w w.heap.size Ab nb cb bot) (hbot:0<bot) (hnt:nt≤1048576) :
  Calls Tryz.prog 196 #[.agg #[.bool neg,.slice At nt ct,.slice Ab nb cb],.int .i64 (bits:Int)] w (zbX w (Cs.serVal (Cs.sqOf (Cs.circleOf bits k l) top bot bits) bits mm)):=by
 have cQ:(digs (Cs.circleOf bits k l)).length≤1048578:=by
  have h:=zaA (zei (n:=5) (k:=k) (by omega) hb) (show (digs 32).length≤1 from digs_length_le (by decide))
  exact Nat.le_trans (Nat.le_trans (zaa (Nat.sub_le _ _)) h) (by omega)
 have cP:=ht.len
 have cS:=zaA cQ (Nat.le_of_eq cP)
 have HC:=Lib.hid (fun W=>zjL bits k l W h5 h239 hc hb hk0 hl0)
 have cK:Hid (Cs.sqOf (Cs.circleOf bits k l) top bot bits=Cs.circleOf bits k l*top / bot*(Cs.circleOf bits k l*top / bot) / 2 ^ bits):=rfl
 clear h5 h239 hc
 generalize Cs.circleOf bits k l=ci at *
 obtain ⟨sq,bE⟩:∃ sq,sq=Cs.sqOf ci top bot bits:=⟨_,rfl⟩
 rw [←bE] at hok cK ⊢
 have aN:(digs (ci*top / bot)).length≤1048578+nt:=Nat.le_trans (zaa (Nat.div_le_self _ _)) cS
 have cA:(digs sq).length≤1048578+nt+(1048578+nt):=by
  rw [cK.out]
  exact Nat.le_trans (zaa (Nat.div_le_self _ _)) (zaA aN aN)
 have hZ:=Lib.hid hok.zero
 have cJ:=Lib.hid hok.pos
 have dI:=Lib.hid hok.le
 have bI:=hok.bound
 have aK:∀ j,j≤mm→_:=fun j hj=>bI j (by omega)
 have hV:Hid (Cs.serVal sq bits mm=(Cs.serAt sq bits mm).1 - (Cs.serAt sq bits mm).2.1):=rfl
 clear hok bE bI cP
 have cZ:Below w.heap.size w (w.alloc (.cells #[.bool neg,.slice At nt ct,.slice Ab nb cb] 91)):=(Below.refl _ _).alloc (Nat.le_refl _) _
 have q0:CBlk (w.alloc (.cells #[.bool neg,.slice At nt ct,.slice Ab nb cb] 91)) w.heap.size #[.bool neg,.slice At nt ct,.slice Ab nb cb] 91:=CBlk.new w _ _ _ rfl
 go_enter Tryz.func196,Tryz.ntmps196
 go_wp2_with fail
 generalize (w.alloc (.cells #[.bool neg,.slice At nt ct,.slice Ab nb cb] 91))=w3 at *
 have a1:=q0.cell 1
 have a2:=q0.cell 2
 have al:=q0.lt
 have aD:Below w.heap.size w w3.drew:=cZ.drew
 go_region_held3 (fun w'=>w'.cell? ⟨w.heap.size,1,none⟩=some (.slice At nt ct)∧w'.cell? ⟨w.heap.size,2,none⟩=some (.slice Ab nb cb))
  (first | exact ⟨a1,a2⟩ | exact ⟨(aG.cell (p:=⟨w.heap.size,1,none⟩) al).trans a1,(aG.cell (p:=⟨w.heap.size,2,none⟩) al).trans a2⟩ | exact ⟨(aC.cell (p:=⟨w.heap.size,1,none⟩) bD).trans ((aG.cell (p:=⟨w.heap.size,1,none⟩) al).trans a1),(aC.cell (p:=⟨w.heap.size,2,none⟩) bD).trans ((aG.cell (p:=⟨w.heap.size,2,none⟩) al).trans a2)⟩ | exact ⟨(aE.cell (p:=⟨w.heap.size,1,none⟩) cB).trans ((aC.cell (p:=⟨w.heap.size,1,none⟩) bD).trans ((aG.cell (p:=⟨w.heap.size,1,none⟩) al).trans a1)),(aE.cell (p:=⟨w.heap.size,2,none⟩) cB).trans ((aC.cell (p:=⟨w.heap.size,2,none⟩) bD).trans ((aG.cell (p:=⟨w.heap.size,2,none⟩) al).trans a2))⟩)
  (first
   |(go_at_call 210;refine (HC.out w3.drew).mono ?_;rintro e w4 ⟨A4,m4,c4,rfl,aT,aG⟩;have bD:=Nat.lt_of_lt_of_le al aG.size)
   |(go_at_call 105;refine (zaE A4 At m4 c4 nt ct ci top w4 aT ((ht.later aD).later aG) (by have:=aT.len;omega) (by omega)).mono ?_;rintro e w5 ⟨A5,m5,c5,rfl,aQ,aC⟩;have cB:=Nat.lt_of_lt_of_le bD aC.size)
   |(go_at_call 142;refine (zcs A5 Ab m5 c5 nb cb (ci*top) bot w5 aQ (((hbo.later aD).later aG).later aC) hbot (by have:=aQ.len;omega)).mono ?_;rintro e w6 ⟨A6,m6,c6,A7,m7,c7,rfl,aI,dK,aE⟩))
 have cG:Below w.heap.size w w6:=((aD.trans (aG.mono aD.size)).trans (aC.mono (Nat.le_trans aD.size aG.size))).trans (aE.mono (Nat.le_trans aD.size (Nat.le_trans aG.size aC.size)))
 clear aD aG aC aE aT aQ dK q0 a1 a2 al ht hbo HC cQ cS
 try clear bD cB
 go_wp2_with fail
 refine (zaE A6 A6 m6 c6 m6 c6 _ _ w6 aI aI (by have:=aI.len;omega) (by have:=aI.len;omega)).mono ?_
 rintro e w8 ⟨A8,m8,c8,rfl,cM,cR⟩
 have cL:=cG.trans (cR.mono cG.size)
 go_wp2_with fail
 refine (zaO A8 m8 c8 _ bits w8 cM (by have:=cM.len;have:=zaA aN aN;omega) (by omega)).mono ?_
 rintro e w9 ⟨bS,bX⟩
 obtain ⟨As,ms,cs,rfl,cH,bX⟩:=bX.ret bS
 rw [←cK.out] at cH
 have cN:=cL.trans (bX.mono cL.size)
 clear cR bX bS cG cL aI cM
 go_wp2_with fail
 refine (zah 1 w9 (by omega) (by omega)).mono ?_
 rintro e cY ⟨dB,cW,dC,rfl,aW,aY⟩
 have bO:=cH.later aY
 have bA:=cN.trans (aY.mono cN.size)
 go_wp2_with fail
 refine (zau dB cW dC _ bits cY aW (by rw [←aW.len];exact Nat.le_trans zbm (by omega)) (by omega)).mono ?_
 rintro e bT ⟨cV,dJ,dL,rfl,bC,aX⟩
 have bR:=bO.later aX
 have aM:=bA.trans (aX.mono bA.size)
 rw [show Int.toNat 1*2 ^ bits=2 ^ bits by simp] at bC
 have dG:Below w.heap.size w (bT.alloc (.cells #[.slice none 0 0,.slice none 0 0] 229)):=aM.alloc aM.size _
 have cT:CBlk (bT.alloc (.cells #[.slice none 0 0,.slice none 0 0] 229)) bT.heap.size #[.slice none 0 0,.slice none 0 0] 229:=CBlk.new _ _ _ _ rfl
 have dD:=bC.later ((Below.refl _ _).alloc (Nat.le_refl _) (.cells #[.slice none 0 0,.slice none 0 0] 229))
 have dA:=bR.later ((Below.refl _ _).alloc (Nat.le_refl _) (.cells #[.slice none 0 0,.slice none 0 0] 229))
 obtain ⟨g,bZ⟩:∃ g,g=bT.heap.size:=⟨_,rfl⟩
 have hg:w.heap.size≤g:=by rw [bZ];exact aM.size
 rw [←bZ] at cT
 have HG:=Lib.hid bZ
 clear bZ cN bA aM cH bO bR aW bC aY aX
 go_upto_region 6 with (fail)
 rw [←HG.out]
 generalize (bT.alloc (.cells #[.slice none 0 0,.slice none 0 0] 229))=wa at *
 go_wp2_with fail
 go_loopw [8,10] (fun pv kv wr=>∃ (k:Nat) (A:Option Addr) (m c:Nat) (A0:Option Addr) (m0 c0:Nat) (A1:Option Addr) (m1 c1:Nat),k≤mm∧pv = .slice A m c∧kv = .int .u64 (k:Int)∧NatS wr wr.heap.size A m c (Cs.serAt sq bits k).2.2∧NatS wr wr.heap.size A0 m0 c0 (Cs.serAt sq bits k).1∧NatS wr wr.heap.size A1 m1 c1 (Cs.serAt sq bits k).2.1∧CBlk wr g #[.slice A0 m0 c0,.slice A1 m1 c1] 229∧NatS wr wr.heap.size As ms cs sq∧Below w.heap.size w wr) (fun _ kv _=>mm - (intOf kv).toNat)
 case atStart=>exact ⟨0,cV,dJ,dL,none,0,0,none,0,0,Nat.zero_le _,rfl,rfl,dD,NatS.nil _ _,NatS.nil _ _,cT,dA,dG⟩
 case round=>
  obtain ⟨k,A,m,c,A0,m0,c0,A1,m1,c1,dM,rfl,rfl,hp,h0,h1,hk,hs,hB⟩:=hrel
  by_cases hlt:k<mm
  ·have cO:=Lib.hid (cJ.out k hlt)
   obtain ⟨k2,bU⟩:∃ k2,k2=2*k:=⟨_,rfl⟩
   obtain ⟨bG,aO⟩:∃ bG,bG=2*k+1:=⟨_,rfl⟩
   obtain ⟨bK,aR⟩:∃ bK,bK=2*k+2:=⟨_,rfl⟩
   obtain ⟨kp,aU⟩:∃ kp,kp=bG*bK:=⟨_,rfl⟩
   obtain ⟨kk,aJ⟩:∃ kk,kk=k+1:=⟨_,rfl⟩
   have f1:IntKind.u64.wrap (2*(k:Int))=(k2:Int):=by rw [zdD (by omega) (by omega)];omega
   have f2:IntKind.u64.wrap ((k2:Int)+1)=(bG:Int):=by rw [zdD (by omega) (by omega)];omega
   have dN:IntKind.u64.wrap ((k2:Int)+2)=(bK:Int):=by rw [zdD (by omega) (by omega)];omega
   have f3:IntKind.u64.wrap ((k:Int)+1)=(kk:Int):=by rw [zdD (by omega) (by omega)];omega
   have bL:kp<4294967296*4294967296:=by rw [aU];exact Nat.mul_lt_mul'' (by omega) (by omega)
   have cU:0<kp:=by rw [aU];exact Nat.mul_pos (by omega) (by omega)
   have f5:IntKind.u64.wrap ((bG:Int)*(bK:Int))=(kp:Int):=by
    rw [zdD (Int.mul_nonneg (by omega) (by omega)) (by rw [←Int.natCast_mul,←aU];omega),←Int.natCast_mul,←aU]
   have dE:kp<18446744073709551616:=by omega
   have aF:Hid (kk=k+1∧k<mm):=⟨aJ,hlt⟩
   rcases Nat.mod_two_eq_zero_or_one k with aS | aS
   ·have f4:Int.tmod (k:Int) 2=0:=by rw [Int.tmod_eq_emod_of_nonneg (by omega)];omega
    have aV:Cs.serAt sq bits kk=((Cs.serAt sq bits k).1+(Cs.serAt sq bits k).2.2,(Cs.serAt sq bits k).2.1,(Cs.serAt sq bits k).2.2*sq / 2 ^ bits / kp):=by
     rw [aJ,aU,aO,aR];simp only [Cs.serAt];rw [if_pos aS]
    clear bU aO aR aU bL aJ hlt aS
    have x0:=hk.cell 0
    have x1:=hk.cell 1
    go_wp2_with fail
    refine (zaK A m c (Cs.serAt sq bits k).2.2 _ hp).mono ?_
    rintro e w1 ⟨rfl,rfl⟩
    rw [decide_eq_false (by have:=cO.out;omega)]
    go_wp2_with fail
    refine (zb3 A0 A m0 c0 m c _ _ _ h0 hp (by have h:=h0.len;have h2:=zbZ (aK k (by have:=aF.out;omega)).1 hM;omega) (by have h:=hp.len;have h2:=zbZ (aK k (by have:=aF.out;omega)).2.2 hM;omega)).mono ?_
    rintro e w3 ⟨A3,m3,c3,rfl,bF,aH⟩
    have bH:=hB.trans (aH.mono hB.size)
    have aA:=hk.below aH hk.lt
    have bQ:=hp.later aH
    have bM:=h0.later aH
    have bV:=h1.later aH
    have bN:=hs.later aH
    clear x0 x1 hk hp h0 h1 hB hs
    have x0:=aA.cell 0
    have x1:=aA.cell 1
    have y0:=aA.frozen 0
    have y1:=aA.frozen 1
    have bJ:=bH.setCell (p:=⟨g,0,none⟩) hg (.slice A3 m3 c3)
    have bP:=aA.set 0 (.slice A3 m3 c3)
    have aZ:=bQ.store (i:=0) aA (zaP _ _ _ _ _ _) (.slice A3 m3 c3)
    have bW:=bM.store (i:=0) aA (zaP _ _ _ _ _ _) (.slice A3 m3 c3)
    have bY:=bV.store (i:=0) aA (zaP _ _ _ _ _ _) (.slice A3 m3 c3)
    have aT:=bF.store (i:=0) aA (zaP _ _ _ _ _ _) (.slice A3 m3 c3)
    have aP:=bN.store (i:=0) aA (zaP _ _ _ _ _ _) (.slice A3 m3 c3)
    have cC:(w3.setCell ⟨g,0,none⟩ (.slice A3 m3 c3)).heap.size=w3.heap.size:=by simp [World.setCell]
    clear bQ bM bV bF bH aA bN
    go_upto_region 9 with (fail)
    generalize (w3.setCell ⟨g,0,none⟩ (.slice A3 m3 c3))=w4 at *
    rw [←cC] at aZ bW bY aT aP
    go_wp2_with fail
    refine (zaE A As m c ms cs _ _ w4 aZ aP (by have h:=aZ.len;have h2:=zbZ (aK k (by have:=aF.out;omega)).2.2 hM;omega) (by have h:=aP.len;omega)).mono ?_
    rintro e w5 ⟨A5,m5,c5,rfl,aQ,aC⟩
    go_wp2_with fail
    refine (zaO A5 m5 c5 _ bits w5 aQ (by
     have h:=aQ.len
     have h2:=zaA (zbZ (aK k (by have:=aF.out;omega)).2.2 hM) cA
     omega) (by omega)).mono ?_
    rintro e w6 ⟨bB,aE⟩
    obtain ⟨A6,m6,c6,rfl,aI,aE⟩:=aE.ret bB
    go_wp2_with fail
    refine (za2 A6 m6 c6 _ kp w6 aI (by
     have h:=aI.len
     have h2:=zaA (zbZ (aK k (by have:=aF.out;omega)).2.2 hM) cA
     have h3:=zaa (Nat.div_le_self ((Cs.serAt sq bits k).2.2*sq) (2 ^ bits))
     omega) (by omega) (by omega)).mono ?_
    rintro e w7 ⟨m7,c7,rfl,cF,cE⟩
    have cI:=cF.nat
    have aL:=(aC.trans (aE.mono aC.size)).trans (cE.mono (Nat.le_trans aC.size aE.size))
    go_wp2_with fail
    go_roundw
    case rel=>
     refine ⟨kk,_,m7,c7,A3,m3,c3,A1,m1,c1,by have:=aF.out;omega,rfl,rfl,?_,?_,?_,bP.below aL bP.lt,aP.later aL,bJ.trans (aL.mono bJ.size)⟩
     ·rw [aV];exact cI
     ·rw [aV];exact aT.later aL
     ·rw [aV];exact bY.later aL
    case measure=>have:=aF.out;simp [intOf]<;>omega
   ·have f4:Int.tmod (k:Int) 2=1:=by rw [Int.tmod_eq_emod_of_nonneg (by omega)];omega
    have aV:Cs.serAt sq bits kk=((Cs.serAt sq bits k).1,(Cs.serAt sq bits k).2.1+(Cs.serAt sq bits k).2.2,(Cs.serAt sq bits k).2.2*sq / 2 ^ bits / kp):=by
     rw [aJ,aU,aO,aR];simp only [Cs.serAt];rw [if_neg (by omega)]
    clear bU aO aR aU bL aJ hlt aS
    have x0:=hk.cell 0
    have x1:=hk.cell 1
    go_wp2_with fail
    refine (zaK A m c (Cs.serAt sq bits k).2.2 _ hp).mono ?_
    rintro e w1 ⟨rfl,rfl⟩
    rw [decide_eq_false (by have:=cO.out;omega)]
    go_wp2_with fail
    refine (zb3 A1 A m1 c1 m c _ _ _ h1 hp (by have h:=h1.len;have h2:=zbZ (aK k (by have:=aF.out;omega)).2.1 hM;omega) (by have h:=hp.len;have h2:=zbZ (aK k (by have:=aF.out;omega)).2.2 hM;omega)).mono ?_
    rintro e w3 ⟨A3,m3,c3,rfl,bF,aH⟩
    have bH:=hB.trans (aH.mono hB.size)
    have aA:=hk.below aH hk.lt
    have bQ:=hp.later aH
    have bM:=h0.later aH
    have bV:=h1.later aH
    have bN:=hs.later aH
    clear x0 x1 hk hp h0 h1 hB hs
    have x0:=aA.cell 0
    have x1:=aA.cell 1
    have y0:=aA.frozen 0
    have y1:=aA.frozen 1
    have bJ:=bH.setCell (p:=⟨g,1,none⟩) hg (.slice A3 m3 c3)
    have bP:=aA.set 1 (.slice A3 m3 c3)
    have aZ:=bQ.store (i:=1) aA (zaP _ _ _ _ _ _) (.slice A3 m3 c3)
    have bW:=bM.store (i:=1) aA (zaP _ _ _ _ _ _) (.slice A3 m3 c3)
    have bY:=bV.store (i:=1) aA (zaP _ _ _ _ _ _) (.slice A3 m3 c3)
    have aT:=bF.store (i:=1) aA (zaP _ _ _ _ _ _) (.slice A3 m3 c3)
    have aP:=bN.store (i:=1) aA (zaP _ _ _ _ _ _) (.slice A3 m3 c3)
    have cC:(w3.setCell ⟨g,1,none⟩ (.slice A3 m3 c3)).heap.size=w3.heap.size:=by simp [World.setCell]
    clear bQ bM bV bF bH aA bN
    go_upto_region 9 with (fail)
    generalize (w3.setCell ⟨g,1,none⟩ (.slice A3 m3 c3))=w4 at *
    rw [←cC] at aZ bW bY aT aP
    go_wp2_with fail
    refine (zaE A As m c ms cs _ _ w4 aZ aP (by have h:=aZ.len;have h2:=zbZ (aK k (by have:=aF.out;omega)).2.2 hM;omega) (by have h:=aP.len;omega)).mono ?_
    rintro e w5 ⟨A5,m5,c5,rfl,aQ,aC⟩
    go_wp2_with fail
    refine (zaO A5 m5 c5 _ bits w5 aQ (by
     have h:=aQ.len
     have h2:=zaA (zbZ (aK k (by have:=aF.out;omega)).2.2 hM) cA
     omega) (by omega)).mono ?_
    rintro e w6 ⟨bB,aE⟩
    obtain ⟨A6,m6,c6,rfl,aI,aE⟩:=aE.ret bB
    go_wp2_with fail
    refine (za2 A6 m6 c6 _ kp w6 aI (by
     have h:=aI.len
     have h2:=zaA (zbZ (aK k (by have:=aF.out;omega)).2.2 hM) cA
     have h3:=zaa (Nat.div_le_self ((Cs.serAt sq bits k).2.2*sq) (2 ^ bits))
     omega) (by omega) (by omega)).mono ?_
    rintro e w7 ⟨m7,c7,rfl,cF,cE⟩
    have cI:=cF.nat
    have aL:=(aC.trans (aE.mono aC.size)).trans (cE.mono (Nat.le_trans aC.size aE.size))
    go_wp2_with fail
    go_roundw
    case rel=>
     refine ⟨kk,_,m7,c7,A0,m0,c0,A3,m3,c3,by have:=aF.out;omega,rfl,rfl,?_,?_,?_,bP.below aL bP.lt,aP.later aL,bJ.trans (aL.mono bJ.size)⟩
     ·rw [aV];exact cI
     ·rw [aV];exact bW.later aL
     ·rw [aV];exact aT.later aL
    case measure=>have:=aF.out;simp [intOf]<;>omega
  ·obtain rfl:k=mm:=by omega
   go_wp2_with fail
   refine (zaK A m c (Cs.serAt sq bits k).2.2 _ hp).mono ?_
   rintro e w1 ⟨rfl,rfl⟩
   rw [decide_eq_true hZ.out]
   have x0:=hk.cell 0
   have x1:=hk.cell 1
   go_wp2_with fail
   refine (zcC A0 A1 m0 c0 m1 c1 _ _ _ h0 h1 dI.out (by have h:=h0.len;have h2:=zbZ (aK k (by omega)).1 hM;omega)).mono ?_
   rintro e w2 ⟨A2,m2,c2,rfl,dF,dH⟩
   go_wp2
   go_ret
   exact ⟨A2,m2,c2,rfl,by rw [hV.out];exact dF,hB.trans (dH.mono hB.size)⟩
set_option maxHeartbeats 2000000 in
set_option maxRecDepth 100000 in
theorem zij (x s:Nat) (A:Option Addr) (n c:Nat) (w:World) (hT:Tabs w) (hx:NatS w w.heap.size A n c x) (hn:n≤536870912) (hs:s<18446744073709551616) :
  Calls Tryz.prog 162 #[.slice A n c,.int .u64 (s:Int)] w (zb0 w (lowQ false x s) (lowQ false (x+1) s)):=by
 have aH:Below w.heap.size w (w.alloc (.cells #[.bool false,.slice none 0 0,.slice none 0 0,.bool false,.slice none 0 0,.slice none 0 0] 139)):=(Below.refl _ _).alloc (Nat.le_refl _) _
 have q0:CBlk (w.alloc (.cells #[.bool false,.slice none 0 0,.slice none 0 0,.bool false,.slice none 0 0,.slice none 0 0] 139)) w.heap.size #[.bool false,.slice none 0 0,.slice none 0 0,.bool false,.slice none 0 0,.slice none 0 0] 139:=CBlk.new w _ _ _ rfl
 have bD:=hx.later ((Below.refl _ _).alloc (Nat.le_refl _) (.cells #[.bool false,.slice none 0 0,.slice none 0 0,.bool false,.slice none 0 0,.slice none 0 0] 139))
 have bH:=hT.later aH
 have aT:=hx.len
 have bJ:(digs s).length≤1:=digs_length_le (by rw [zcN,Nat.pow_one];exact hs)
 clear hx
 go_enter Tryz.func162,Tryz.ntmps162
 go_upto_region 1 with (fail)
 generalize (w.alloc (.cells #[.bool false,.slice none 0 0,.slice none 0 0,.bool false,.slice none 0 0,.slice none 0 0] 139))=w1 at *
 go_wp2_with fail
 refine (zah (s:Int) w1 (by omega) (by omega)).mono ?_
 rintro e w2 ⟨A2,m2,c2,rfl,aF,aG⟩
 rw [Int.toNat_natCast] at aF
 have aL:=aH.trans (aG.mono aH.size)
 have q2:=q0.below aG q0.lt
 have aP:=bD.later aG
 have aR:=bH.later aG
 clear q0 bD aH aG bH
 go_wp2_with fail
 refine (zbq false A A2 n c m2 c2 x s w2 aR aP aF (by omega) (by have:=aF.len;omega)).mono ?_
 rintro e w3 ⟨v3,rfl,⟨A3,m3,c3,A4,m4,c4,rfl,h3,h4⟩,aD⟩
 have aN:=aL.trans (aD.mono aL.size)
 have q3:=q2.below aD q2.lt
 have aW:=aP.later aD
 have bF:=aR.later aD
 have aV:=aF.later aD
 clear q2 aP aL aD aR aF
 go_wp2_with fail
 refine (zah 1 w3 (by omega) (by omega)).mono ?_
 rintro e w5 ⟨A5,m5,c5,rfl,aO,aA⟩
 have aK:=aN.trans (aA.mono aN.size)
 have q5:=q3.below aA q3.lt
 have aU:=aW.later aA
 have aX:=bF.later aA
 have bC:=aV.later aA
 have bE:=h3.later aA
 have aY:=h4.later aA
 clear q3 aW aN aA bF aV h3 h4
 go_wp2_with fail
 refine (zb3 A A5 n c m5 c5 x _ w5 aU aO (by omega) (by have h:=aO.len;have h2:(digs (Int.toNat 1)).length≤1:=zbm;omega)).mono ?_
 rintro e w6 ⟨A6,m6,c6,rfl,aQ,aC⟩
 have aM:=aK.trans (aC.mono aK.size)
 have q6:=q5.below aC q5.lt
 have aZ:=aX.later aC
 have aS:=bC.later aC
 have bG:=bE.later aC
 have bI:=aY.later aC
 clear q5 aU aK aC aX aO bC bE aY
 go_wp2_with fail
 refine (zbq false A6 A2 m6 c6 m2 c2 (x+Int.toNat 1) s w6 aZ aQ aS (by have h:=aQ.len;have h2:(digs (Int.toNat 1)).length≤1:=zbm;have h3:=zc2 (Nat.le_of_eq aT) h2;omega) (by have:=aS.len;omega)).mono ?_
 rintro e w7 ⟨v7,rfl,⟨A7,m7,c7,A8,m8,c8,rfl,h7,h8⟩,aE⟩
 have bL:=aM.trans (aE.mono aM.size)
 have q7:=q6.below aE q6.lt
 have bB:=bG.later aE
 have bA:=bI.later aE
 clear q6 aM aE aZ aQ aS bG bI aT bJ
 rw [show x+Int.toNat 1=x+1 from rfl] at h7 h8 ⊢
 obtain ⟨qa,aJ⟩:∃ qa,qa=lowQ false x s:=⟨_,rfl⟩
 obtain ⟨qb,aI⟩:∃ qb,qb=lowQ false (x+1) s:=⟨_,rfl⟩
 rw [←aJ] at bB bA
 rw [←aI] at h7 h8
 try rw [←aJ]
 try rw [←aI]
 have bM:=Lib.hid aJ
 have bK:=Lib.hid aI
 clear aJ aI
 have y0:=q7.cell 0
 have y1:=q7.cell 1
 have y2:=q7.cell 2
 have y3:=q7.cell 3
 have y4:=q7.cell 4
 have y5:=q7.cell 5
 have z0:=q7.frozen 0
 have z1:=q7.frozen 1
 have z2:=q7.frozen 2
 have z3:=q7.frozen 3
 have z4:=q7.frozen 4
 have z5:=q7.frozen 5
 have hI:=zbK (p:=qa) (q:=qb) q7 bL (Nat.le_refl _) rfl bB bA h7 h8
 have hD:=q7.set6 (.bool qa.neg) (.slice A3 m3 c3) (.slice A4 m4 c4) (.bool qb.neg) (.slice A7 m7 c7) (.slice A8 m8 c8)
 unfold Go.Proofs.YteajibbphcfmeaaGreatDoor.set6 at hI hD
 have r0:=hD.cell 0
 have r1:=hD.cell 1
 have r2:=hD.cell 2
 have r3:=hD.cell 3
 have r4:=hD.cell 4
 have r5:=hD.cell 5
 have HI:=Lib.hid hI
 clear hI hD
 go_wp2
 refine bodyPost_ret (v := .agg #[.bool qa.neg,.slice A3 m3 c3,.slice A4 m4 c4,.bool qb.neg,.slice A7 m7 c7,.slice A8 m8 c8]) (by simp [results,Tryz.results162,go_sem,y0,y1,y2,y3,y4,y5]) rfl ⟨_,rfl,by obtain rfl:=bM.out;obtain rfl:=bK.out;exact HI.out⟩
set_option maxHeartbeats 1000000 in
set_option maxRecDepth 100000 in
theorem zfD (w:World) (hT:Tabs w):Calls Tryz.prog 195 #[.int .i64 0] w fun e w'=>e = .returned (.int .i64 48)∧w=w':=by
 have h0:=hT.prec.1
 clear hT
 go_enter Tryz.func195,Tryz.ntmps195
 go_wp2
 go_ret
 exact ⟨rfl,rfl⟩
set_option maxHeartbeats 2000000 in
set_option maxRecDepth 100000 in
theorem zeC (x y:Nat) (w:World) (hT:Tabs w) (hx:x<18446744073709551616) (hy:y<18446744073709551616) :
  Calls Tryz.prog 118 #[.int .u64 (x:Int),.int .u64 (y:Int)] w (zaT w (lowQ false x y)):=by
 have aG:Below w.heap.size w (w.alloc (.cells #[.bool false,.slice none 0 0,.slice none 0 0] 91)):=(Below.refl _ _).alloc (Nat.le_refl _) _
 have aK:(digs x).length≤1:=digs_length_le (by rw [zcN,Nat.pow_one];exact hx)
 have aL:(digs y).length≤1:=digs_length_le (by rw [zcN,Nat.pow_one];exact hy)
 go_enter Tryz.func118,Tryz.ntmps118
 go_wp2_with fail
 refine (zah (x:Int) _ (by omega) (by omega)).mono ?_
 rintro e w2 ⟨A2,m2,c2,rfl,aF,aA⟩
 rw [Int.toNat_natCast] at aF
 go_wp2_with fail
 refine (zah (y:Int) _ (by omega) (by omega)).mono ?_
 rintro e w3 ⟨A3,m3,c3,rfl,aH,aC⟩
 rw [Int.toNat_natCast] at aH
 have aD:Below w.heap.size w w3:=(aG.trans (aA.mono aG.size)).trans (aC.mono (Nat.le_trans aG.size aA.size))
 go_wp2_with fail
 refine (zbq false A2 A3 m2 c2 m3 c3 x y w3 (hT.later aD) (aF.later aC) aH (by have:=aF.len;omega) (by have:=aH.len;omega)).mono ?_
 rintro e w4 ⟨v4,rfl,⟨A4,m4,c4,A5,m5,c5,rfl,h4,h5⟩,aI⟩
 have aJ:=aD.trans (aI.mono aD.size)
 have hk:=(((zad.new w false (.slice none 0 0) (.slice none 0 0)).below aA (by simp)).below aC (by have:=aA.size;simp at this;omega)).below aI (by have:=aD.size;have:=aA.size;have:=aC.size;simp at *; omega)
 obtain ⟨k0,k1,k2,f0,f1,f2,_⟩:=hk.cells
 generalize lowQ false x y=q at *
 have aE:=zak aJ (g:=w.heap.size) (Nat.le_refl _) (.bool q.neg) (.slice A4 m4 c4) (.slice A5 m5 c5)
 go_wp2
 refine bodyPost_ret (v := .agg #[.bool q.neg,.slice A4 m4 c4,.slice A5 m5 c5]) (by simp [results,Tryz.results118,go_sem,k0,k1,k2]) rfl ⟨_,rfl,⟨A4,m4,c4,A5,m5,c5,rfl,?_,?_⟩,aE⟩
 ·rw [zaf];exact h4.res hk _ _ _
 ·rw [zaf];exact h5.res hk _ _ _
set_option maxHeartbeats 8000000 in
set_option maxRecDepth 100000 in
theorem zlu (neg:Bool) (top bot k l mm scale low d:Nat) (At Ab:Option Addr) (nt ct nb cb:Nat) (w:World) (hT:Tabs w) (hok:Cs.AcOk top bot 112 k l mm scale low) (hd:d≤12) (hsc:scale=10 ^ d)
  (hk0:k<4294967296) (hl0:l<4294967296) (hmm:mm<1073741824) (ht:NatS w w.heap.size At nt ct top) (hbo:NatS w w.heap.size Ab nb cb bot) (hbot:0<bot) (hnt:nt≤1048576) :
  Calls Tryz.prog 165 #[.agg #[.bool neg,.slice At nt ct,.slice Ab nb cb],.int .i64 (d:Int)] w (zb0 w (lowQ false low scale) (lowQ false (low+1) scale)):=by
 obtain ⟨M,hM,cI⟩:=hok.s
 have bI:=(cI.bound mm (by omega)).1
 obtain ⟨V,hV⟩:∃ V,V=Cs.serVal (Cs.sqOf (Cs.circleOf 112 k l) top bot 112) 112 mm:=⟨_,rfl⟩
 have dW:(digs V).length≤1048576:=by
  rw [hV]
  exact Nat.le_trans (zaa (Nat.sub_le _ _)) (zbZ bI hM)
 have hs:∀ W,NatS W W.heap.size At nt ct top→NatS W W.heap.size Ab nb cb bot→Calls Tryz.prog 196 #[.agg #[.bool neg,.slice At nt ct,.slice Ab nb cb],.int .i64 112] W (zbX W V):=fun W h1 h2=>by
  rw [hV]
  exact zjh neg top bot 112 k l mm M At Ab nt ct nb cb W hok.a hok.b hok.c cI hM (by omega) hk0 hl0 hmm h1 h2 hbot hnt
 have HS:=Lib.hid hs
 obtain ⟨X,hX⟩:∃ X,X=2 ^ 64:=⟨_,rfl⟩
 have fG:(digs X).length≤2:=by rw [hX];exact digs_length_le (by decide)
 obtain ⟨Y,hY⟩:∃ Y,Y=2 ^ 112:=⟨_,rfl⟩
 have bM:=hok.big
 have dT:=hok.lo
 have cT:=hok.hi
 rw [←hV,←hX] at bM
 rw [←hV,←hX,←hY] at dT cT
 have dJ:∀ W A n c,NatS W W.heap.size A n c 1→n≤1→Calls Tryz.prog 103 #[.slice A n c,.int .i64 64] W (zbX W X):=fun W A n c h h1=>by
  have h2:=zau A n c 1 64 W h (by omega) (by omega)
  rw [Nat.one_mul,←hX] at h2
  exact h2
 have dK:∀ W A n c x,NatS W W.heap.size A n c x→n≤1099511627776→Calls Tryz.prog 172 #[.slice A n c,.int .i64 112] W (zbX W (x / Y)):=fun W A n c x h h1=>by
  have h2:=zaO A n c x 112 W h h1 (by omega)
  rw [←hY] at h2
  exact h2.mono fun e w' ⟨h3,h4⟩=>h4.ret h3
 have fA:=Lib.hid dJ
 have dH:=Lib.hid dK
 clear hs cI dJ dK hok hV hX hY bI
 have fR:scale≤1000000000000:=by
  rw [hsc]
  have h1:10 ^ d≤10 ^ 12:=Nat.pow_le_pow_right (by omega) hd
  omega
 have aW:(digs scale).length≤1:=digs_length_le (by rw [zcN,Nat.pow_one];omega)
 have dO:=Lib.hid hsc
 clear hsc
 have bD:Below w.heap.size w ((w.alloc (.cells #[.bool neg,.slice At nt ct,.slice Ab nb cb] 91)).alloc (.cells #[.bool false,.slice none 0 0,.slice none 0 0,.bool false,.slice none 0 0,.slice none 0 0] 139)):=((Below.refl _ _).alloc (Nat.le_refl _) _).alloc (by simp) _
 have q0:CBlk ((w.alloc (.cells #[.bool neg,.slice At nt ct,.slice Ab nb cb] 91)).alloc (.cells #[.bool false,.slice none 0 0,.slice none 0 0,.bool false,.slice none 0 0,.slice none 0 0] 139)) w.heap.size #[.bool neg,.slice At nt ct,.slice Ab nb cb] 91:=(CBlk.new w _ _ _ rfl).below ((Below.refl _ _).alloc (Nat.le_refl _) _) (by simp)
 have q1:CBlk ((w.alloc (.cells #[.bool neg,.slice At nt ct,.slice Ab nb cb] 91)).alloc (.cells #[.bool false,.slice none 0 0,.slice none 0 0,.bool false,.slice none 0 0,.slice none 0 0] 139)) (w.heap.size+1) #[.bool false,.slice none 0 0,.slice none 0 0,.bool false,.slice none 0 0,.slice none 0 0] 139:=CBlk.new _ _ _ _ (by simp)
 have dR:=ht.later bD
 have bE:=hbo.later bD
 have cP:=hT.later bD
 clear ht hbo hT
 go_enter Tryz.func165,Tryz.ntmps165
 go_wp2
 go_step3
 go_wp2
 generalize ((w.alloc (.cells #[.bool neg,.slice At nt ct,.slice Ab nb cb] 91)).alloc (.cells #[.bool false,.slice none 0 0,.slice none 0 0,.bool false,.slice none 0 0,.slice none 0 0] 139))=w1 at *
 go_loop [5,13] (fun s i=>∃ j t:Nat,j≤d∧i = .int .i64 (j:Int)∧s = .int .u64 (t:Int)∧Hid (t=10 ^ j)) (fun _ i=>d - (intOf i).toNat)
 case atStart=>exact ⟨0,1,Nat.zero_le _,rfl,rfl,rfl⟩
 case round=>
  obtain ⟨j,t,hj,rfl,rfl,ht⟩:=hrel
  by_cases hlt:j<d
  ·obtain ⟨t2,cL⟩:∃ t2,t2=t*10:=⟨_,rfl⟩
   have fO:t2≤1000000000000:=by
    rw [cL,ht.out,←Nat.pow_succ]
    have h1:10 ^ (j+1)≤10 ^ 12:=Nat.pow_le_pow_right (by omega) (by omega)
    omega
   have f1:IntKind.u64.wrap ((t:Int)*10)=(t2:Int):=by rw [zdD (by omega) (by omega)];omega
   have dX:Hid (t2=10 ^ (j+1)):=by unfold Hid;rw [cL,ht.out,Nat.pow_succ]
   clear cL
   go_wp2
   go_round
   case rel=>exact ⟨j+1,t2,by omega,by go_num,rfl,dX⟩
   case measure=>simp [intOf];omega
  ·obtain rfl:j=d:=by omega
   obtain rfl:t=scale:=by rw [ht.out,dO.out]
   clear ht dO
   go_wp2
   go_step3
   go_wp2
   go_loopw [7] (fun a wr=>a = .int .i64 0∧wr=w1) (fun _ _=>0)
   case atStart=>exact ⟨rfl,rfl⟩
   case round=>
    obtain ⟨rfl,rfl⟩:=hrel
    go_wp2_with fail
    refine (zfD _ cP).mono ?_
    rintro e w2 ⟨rfl,rfl⟩
    have x0:=q0.cell 0
    have x1:=q0.cell 1
    have x2:=q0.cell 2
    go_wp2_with fail
    refine (HS.out _ dR bE).mono ?_
    rintro e w2 ⟨A2,m2,c2,rfl,dN,aQ⟩
    have cE:=bD.trans (aQ.mono bD.size)
    have cH:=q1.below aQ q1.lt
    have dL:=cP.later aQ
    clear x0 x1 x2 q0 q1 dR bE cP bD aQ
    go_wp2_with fail
    refine (zah 1 w2 (by omega) (by omega)).mono ?_
    rintro e w3 ⟨A3,m3,c3,rfl,cF,aL⟩
    have cG:=cE.trans (aL.mono cE.size)
    have cU:=cH.below aL cH.lt
    have dV:=dL.later aL
    have bH:=dN.later aL
    clear cH dL cE aL dN
    go_wp2_with fail
    refine (fA.out w3 A3 m3 c3 cF (by rw [←cF.len];exact zbm)).mono ?_
    rintro e w4 ⟨A4,m4,c4,rfl,dA,aN⟩
    have cJ:=cG.trans (aN.mono cG.size)
    have cN:=cU.below aN cU.lt
    have dU:=dV.later aN
    have aP:=bH.later aN
    clear cU dV cG aN bH cF
    go_wp2_with fail
    refine (zcC A2 A4 m2 c2 m4 c4 V X w4 aP dA bM (by have:=aP.len;omega)).mono ?_
    rintro e w5 ⟨A5,m5,c5,rfl,dQ,aI⟩
    have cB:=cJ.trans (aI.mono cJ.size)
    have cC:=cN.below aI cN.lt
    have dD:=dU.later aI
    have bK:=aP.later aI
    have bS:=dA.later aI
    clear cN dU cJ aI aP dA
    go_wp2_with fail
    refine (zah (t:Int) w5 (by omega) (by omega)).mono ?_
    rintro e w6 ⟨A6,m6,c6,rfl,bW,aF⟩
    rw [Int.toNat_natCast] at bW
    have cM:=cB.trans (aF.mono cB.size)
    have cV:=cC.below aF cC.lt
    have dS:=dD.later aF
    have bU:=bK.later aF
    have bF:=bS.later aF
    have aX:=dQ.later aF
    clear cC dD cB aF bK bS dQ
    have dZ:(digs (V - X)).length≤1048576:=Nat.le_trans (zdm _ _) dW
    go_wp2_with fail
    refine (zaE A5 A6 m5 c5 m6 c6 (V - X) t w6 aX bW (by have:=aX.len;omega) (by have:=bW.len;omega)).mono ?_
    rintro e w7 ⟨A7,m7,c7,rfl,cZ,aH⟩
    have cO:=cM.trans (aH.mono cM.size)
    have cQ:=cV.below aH cV.lt
    have dI:=dS.later aH
    have bG:=bU.later aH
    have bQ:=bF.later aH
    clear cV dS cM aH bU bF aX bW
    go_wp2_with fail
    refine (dH.out w7 A7 m7 c7 _ cZ (by have:=cZ.len;have:=zaA dZ aW;omega)).mono ?_
    rintro e w8 ⟨A8,m8,c8,rfl,dB,aG⟩
    rw [dT] at dB
    have cY:=cO.trans (aG.mono cO.size)
    have cW:=cQ.below aG cQ.lt
    have dP:=dI.later aG
    have aU:=bG.later aG
    have bC:=bQ.later aG
    clear cQ dI cO aG bG bQ cZ
    go_wp2_with fail
    refine (zb3 A2 A4 m2 c2 m4 c4 V X w8 aU bC (by have:=aU.len;omega) (by have:=bC.len;omega)).mono ?_
    rintro e w9 ⟨A9,m9,c9,rfl,dM,aK⟩
    have dC:=cY.trans (aK.mono cY.size)
    have cR:=cW.below aK cW.lt
    have dG:=dP.later aK
    have bV:=dB.later aK
    clear cW dP cY aK aU bC dB
    go_wp2_with fail
    refine (zah (t:Int) w9 (by omega) (by omega)).mono ?_
    rintro e fC ⟨fD,fB,fE,rfl,aO,aC⟩
    rw [Int.toNat_natCast] at aO
    have aZ:=dC.trans (aC.mono dC.size)
    have aY:=cR.below aC cR.lt
    have bO:=dG.later aC
    have aT:=bV.later aC
    have aM:=dM.later aC
    clear cR dG dC aC bV dM
    have dE:(digs (V+X)).length≤1048576+2+1:=zc2 dW fG
    go_wp2_with fail
    refine (zaE A9 fD m9 c9 fB fE (V+X) t fC aM aO (by have:=aM.len;omega) (by have:=aO.len;omega)).mono ?_
    rintro e fI ⟨dY,fJ,fL,rfl,bB,aD⟩
    have aV:=aZ.trans (aD.mono aZ.size)
    have bA:=aY.below aD aY.lt
    have bP:=bO.later aD
    have aR:=aT.later aD
    clear aY bO aZ aD aT aM aO
    go_wp2_with fail
    refine (dH.out fI dY fJ fL _ bB (by have:=bB.len;have:=zaA dE aW;omega)).mono ?_
    rintro e bY ⟨fK,fF,fN,rfl,bR,aE⟩
    rw [cT] at bR
    have bJ:=aV.trans (aE.mono aV.size)
    have bL:=bA.below aE bA.lt
    have cK:=bP.later aE
    have aJ:=aR.later aE
    clear bA bP aV aE aR bB
    go_wp2_with fail
    refine (zaM A8 fK m8 c8 fF fN low low bY aJ bR).mono ?_
    rintro e fP ⟨rfl,nq,rfl⟩
    rw [ncmp_eq]
    go_wp2_with fail
    have dF:(digs low).length≤1048580:=by
     rw [←cT]
     refine Nat.le_trans (zaa (Nat.div_le_self _ _)) ?_
     exact Nat.le_trans (zaA dE aW) (by omega)
    have bZ:Below bY.heap.size bY (bY.drewN nq):=zab (Below.refl _ _) nq
    have bN:=bJ.trans (bZ.mono bJ.size)
    have bT:=bL.below bZ bL.lt
    refine (zij low t A8 m8 c8 _ (cK.later bZ) (aJ.later bZ) (by have:=aJ.len;omega) (by omega)).mono ?_
    rintro e fQ ⟨fS,rfl,⟨A3,m3,c3,A4,m4,c4,A7,m7,c7,A8,m8,c8,rfl,h3,h4,h7,h8⟩,aS⟩
    have cS:=bN.trans (aS.mono bN.size)
    have aA:=bT.below aS bT.lt
    obtain ⟨qa,cA⟩:∃ qa,qa=lowQ false low t:=⟨_,rfl⟩
    obtain ⟨qb,bX⟩:∃ qb,qb=lowQ false (low+1) t:=⟨_,rfl⟩
    rw [←cA] at h3 h4
    rw [←bX] at h7 h8
    try rw [←cA]
    try rw [←bX]
    have fM:=Lib.hid cA
    have fH:=Lib.hid bX
    clear cA bX
    have y0:=aA.cell 0
    have y1:=aA.cell 1
    have y2:=aA.cell 2
    have y3:=aA.cell 3
    have y4:=aA.cell 4
    have y5:=aA.cell 5
    have z0:=aA.frozen 0
    have z1:=aA.frozen 1
    have z2:=aA.frozen 2
    have z3:=aA.frozen 3
    have z4:=aA.frozen 4
    have z5:=aA.frozen 5
    have hI:=zbK (p:=qa) (q:=qb) aA cS (by omega) rfl h3 h4 h7 h8
    have hD:=aA.set6 (.bool qa.neg) (.slice A3 m3 c3) (.slice A4 m4 c4) (.bool qb.neg) (.slice A7 m7 c7) (.slice A8 m8 c8)
    unfold Go.Proofs.YteajibbphcfmeaaGreatDoor.set6 at hI hD
    have r0:=hD.cell 0
    have r1:=hD.cell 1
    have r2:=hD.cell 2
    have r3:=hD.cell 3
    have r4:=hD.cell 4
    have r5:=hD.cell 5
    have HI:=Lib.hid hI
    clear hI hD
    go_wp2
    refine bodyPost_ret (v := .agg #[.bool qa.neg,.slice A3 m3 c3,.slice A4 m4 c4,.bool qb.neg,.slice A7 m7 c7,.slice A8 m8 c8]) (by simp [results,Tryz.results165,go_sem,y0,y1,y2,y3,y4,y5]) rfl ⟨_,rfl,by obtain rfl:=fM.out;obtain rfl:=fH.out;exact HI.out⟩
end Go.Proofs.YteajibbphcfmeaaGreatDoor
