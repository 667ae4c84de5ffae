/- Contracts of package number's arc tangent and circle, for the numbers at which the series ends. -/
import Derived.Test.YteajibbphcfmeaaGreatDoorXRc4
import Derived.Test.YteajibbphcfmeaaGreatDoorXNum3
import Derived.Test.YteajibbphcfmeaaGreatDoorXNat5
import Derived.Test.YteajibbphcfmeaaGreatDoorXRat5
import Derived.Test.YteajibbphcfmeaaGreatDoorXDiv4
import Derived.Deep.RegionHeld3
namespace Go.Proofs.YteajibbphcfmeaaGreatDoor
open Go.RowKit Bn
theorem zlg {x K:Nat} (h:x<2 ^ (64*K)):(digs x).length≤K:=by
 refine digs_length_le ?_;rw [show B=2 ^ 64 from rfl,←Nat.pow_mul];exact h
theorem zaQ (A1 A2:Option Addr) (n1 c1 n2 c2:Nat):zcF #[.slice A1 n1 c1,.slice A2 n2 c2]:=by
 intro i v hv k d
 rcases (show i=0∨i=1∨2≤i from by omega) with rfl | rfl | h
 ·injection hv with hv;subst hv;intro h;cases h
 ·injection hv with hv;subst hv;intro h;cases h
 ·rw [Array.getElem?_eq_none h] at hv;cases hv
theorem zcH {n bits k:Nat} (hn:2≤n) (hb:bits≤1048576):(digs (Cs.tanAt n bits k).1).length≤1048576∧(digs (Cs.tanAt n bits k).2.1).length≤1048576∧(digs (Cs.tanAt n bits k).2.2).length≤1048576:=by
 have h:=Cs.tan_bound n bits hn k;obtain ⟨N,hN⟩:∃ N,N=64*1048576:=⟨_,rfl⟩;have h2:2*2 ^ bits<2 ^ N:=by
  rw [show 2*2 ^ bits=2 ^ (bits+1) by rw [Nat.pow_succ,Nat.mul_comm]];exact Nat.pow_lt_pow_right (by omega) (by omega)
 generalize 2*2 ^ bits=X at h h2;have h3:∀ x,x≤X→(digs x).length≤1048576:=fun x hx=>zlg (by rw [←hN];exact Nat.lt_of_le_of_lt hx h2)
 exact ⟨h3 _ (by omega),h3 _ (by omega),h3 _ (by omega)⟩
theorem znQ {bits:Nat} (hb:bits≤1048576):(digs (2 ^ bits)).length≤1048576:=by
 obtain ⟨N,hN⟩:∃ N,N=64*1048576:=⟨_,rfl⟩;exact zlg (by rw [←hN];exact Nat.pow_lt_pow_right (by omega) (by omega))
theorem zdM {z:Int} (h0:0≤z) (h1:z<18446744073709551616):IntKind.u64.wrap z=z:=by rw [zgn];omega
set_option maxHeartbeats 4000000 in
set_option maxRecDepth 100000 in
theorem zfE (n bits k0:Nat) (w:World) (hok:Cs.TanOk n bits k0) (hn:2≤n) (hn2:n<4294967296) (hb:bits≤1048576) (hk0:k0<4294967296) :
  Calls Tryz.prog 223 #[.int .u64 (n:Int),.int .i64 (bits:Int)] w (zb4 w (Cs.tanVal n bits k0)):=by
 have hZ:=Lib.hid hok.zero;have bL:=Lib.hid hok.pos;have bZ:=Lib.hid hok.le;have hV:Hid (Cs.tanVal n bits k0=(Cs.tanAt n bits k0).1 - (Cs.tanAt n bits k0).2.1):=rfl;clear hok;obtain ⟨nn,aS⟩:∃ nn,nn=n*n:=⟨_,rfl⟩;have bV:4≤nn:=by rw [aS];exact Nat.mul_le_mul hn hn
 have bY:nn<18446744073709551616:=by
  rw [aS];have:n*n<4294967296*4294967296:=Nat.mul_lt_mul'' hn2 hn2;omega
 have cC:IntKind.u64.wrap ((n:Int)*(n:Int))=(nn:Int):=by
  rw [zdM (Int.mul_nonneg (by omega) (by omega)) (by rw [←Int.natCast_mul,←aS];omega),←Int.natCast_mul,←aS]
 have bQ:=Lib.hid aS;clear aS;go_enter Tryz.func223,Tryz.ntmps223
 go_wp2_with fail
 refine (zai 1 w (by omega) (by omega)).mono ?_;rintro e w1 ⟨A1,m1,c1,rfl,bM,bK⟩
 go_wp2_with fail
 refine (zaw A1 m1 c1 _ bits w1 bM (by rw [←bM.len];exact Nat.le_trans zbs (by omega)) (by omega)).mono ?_;rintro e w2 ⟨A2,m2,c2,rfl,aJ,aC⟩;have aH:=bK.trans (aC.mono bK.size);rw [show Int.toNat 1*2 ^ bits=2 ^ bits by simp] at aJ;have bX:m2≤1048576:=by
  rw [←aJ.len];exact znQ hb
 go_wp2_with fail
 refine (za5 A2 m2 c2 _ n w2 aJ (by omega) (by omega) (by omega)).mono ?_;rintro e w3 ⟨m3,c3,rfl,bU,aD⟩;have bP:=bU.nat;have aI:=aH.trans (aD.mono aH.size);have cA:Below w.heap.size w (w3.alloc (.cells #[.slice none 0 0,.slice none 0 0] 229)):=aI.alloc aI.size _;have bR:CBlk (w3.alloc (.cells #[.slice none 0 0,.slice none 0 0] 229)) w3.heap.size #[.slice none 0 0,.slice none 0 0] 229:=CBlk.new _ _ _ _ rfl;have bW:=bP.later ((Below.refl _ _).alloc (Nat.le_refl _) (.cells #[.slice none 0 0,.slice none 0 0] 229));obtain ⟨g,bI⟩:∃ g,g=w3.heap.size:=⟨_,rfl⟩;have hg:w.heap.size≤g:=by rw [bI];exact aI.size
 rw [←bI] at bR;have HG:=Lib.hid bI;clear bI aH aI bU bM aJ bX bK aC aD bP;go_upto_region 4 with (fail)
 rw [←HG.out];generalize (w3.alloc (.cells #[.slice none 0 0,.slice none 0 0] 229))=wa at *
 go_wp2_with fail
 go_loopw [5,8] (fun pv kv wr=>∃ (k:Nat) (A:Option Addr) (m c:Nat) (A0:Option Addr) (m0 c0:Nat) (A1:Option Addr) (m1 c1:Nat),k≤k0∧pv = .slice A m c∧kv = .int .u64 (k:Int)∧NatS wr wr.heap.size A m c (Cs.tanAt n bits k).2.2∧NatS wr wr.heap.size A0 m0 c0 (Cs.tanAt n bits k).1∧NatS wr wr.heap.size A1 m1 c1 (Cs.tanAt n bits k).2.1∧CBlk wr g #[.slice A0 m0 c0,.slice A1 m1 c1] 229∧Below w.heap.size w wr) (fun _ kv _=>k0 - (intOf kv).toNat)
 case atStart=>exact ⟨0,_,m3,c3,none,0,0,none,0,0,Nat.zero_le _,rfl,rfl,bW,NatS.nil _ _,NatS.nil _ _,bR,cA⟩
 case round=>
  obtain ⟨k,A,m,c,A0,m0,c0,A1,m1,c1,cB,rfl,rfl,hp,h0,h1,hk,hB⟩:=hrel
  by_cases hlt:k<k0
  ·have bT:=Lib.hid (bL.out k hlt)
   obtain ⟨k2,bB⟩:∃ k2,k2=2*k:=⟨_,rfl⟩;obtain ⟨aF,aK⟩:∃ aF,aF=2*k+1:=⟨_,rfl⟩;obtain ⟨kk,aE⟩:∃ kk,kk=k+1:=⟨_,rfl⟩;have f1:IntKind.u64.wrap (2*(k:Int))=(k2:Int):=by rw [zdM (by omega) (by omega)];omega
   have f2:IntKind.u64.wrap ((k2:Int)+1)=(aF:Int):=by rw [zdM (by omega) (by omega)];omega
   have f3:IntKind.u64.wrap ((k:Int)+1)=(kk:Int):=by rw [zdM (by omega) (by omega)];omega
   have aV:0<aF∧aF<18446744073709551616:=by omega
   have bF:Hid (kk=k+1∧k<k0):=⟨aE,hlt⟩;obtain ⟨bO,bS⟩:=aV
   rcases Nat.mod_two_eq_zero_or_one k with aL | aL
   ·have f4:Int.tmod (k:Int) 2=0:=by rw [Int.tmod_eq_emod_of_nonneg (by omega)];omega
    have aO:Cs.tanAt n bits kk=((Cs.tanAt n bits k).1+(Cs.tanAt n bits k).2.2 / aF,(Cs.tanAt n bits k).2.1,(Cs.tanAt n bits k).2.2 / nn):=by
     rw [aE];simp only [Cs.tanAt];rw [if_pos aL,aK,bQ.out]
    clear bB aK aE hlt aL
    go_wp2_with fail
    refine (zaM A m c (Cs.tanAt n bits k).2.2 _ hp).mono ?_;rintro e w1 ⟨rfl,rfl⟩;rw [decide_eq_false (by have:=bT.out;omega)]
    go_wp2_with fail
    refine (za5 A m c _ aF _ hp (by have h:=hp.len;have h2:=(zcH (k:=k) hn hb).2.2;omega) (by omega) (by omega)).mono ?_;rintro e w2 ⟨m2,c2,rfl,bC,aC⟩;have aP:=bC.nat;have aH:=hB.trans (aC.mono hB.size);have aG:=hk.below aC hk.lt;have bD:=hp.later aC;have aQ:=h0.later aC;have aR:=h1.later aC;clear bC hk hp h0 h1;have x0:=aG.cell 0;have x1:=aG.cell 1
    go_wp2_with fail
    refine (zcf A0 _ m0 c0 _ _ _ _ _ aQ aP (by have h:=aQ.len;have h2:=(zcH (k:=k) hn hb).1;omega) (by
     have h:=aP.len;have h2:=(zcH (k:=k) hn hb).2.2;have h3:=zaa (Nat.div_le_self (Cs.tanAt n bits k).2.2 aF);omega)).mono ?_
    rintro e w3 ⟨A3,m3,c3,rfl,aW,aD⟩;have aI:=aH.trans (aD.mono aH.size);have aA:=aG.below aD aG.lt;have aY:=bD.later aD;have bE:=aQ.later aD;have aU:=aR.later aD;clear x0 x1 aG bD aQ aR aP aH;have x0:=aA.cell 0;have x1:=aA.cell 1;have y0:=aA.frozen 0;have y1:=aA.frozen 1;have aT:=aI.setCell (p:=⟨g,0,none⟩) hg (.slice A3 m3 c3);have aX:=aA.set 0 (.slice A3 m3 c3);have aN:=aY.store (i:=0) aA (zaQ _ _ _ _ _ _) (.slice A3 m3 c3);have bG:=bE.store (i:=0) aA (zaQ _ _ _ _ _ _) (.slice A3 m3 c3);have bH:=aU.store (i:=0) aA (zaQ _ _ _ _ _ _) (.slice A3 m3 c3);have bA:=aW.store (i:=0) aA (zaQ _ _ _ _ _ _) (.slice A3 m3 c3);have aZ:(w3.setCell ⟨g,0,none⟩ (.slice A3 m3 c3)).heap.size=w3.heap.size:=by simp [World.setCell]
    clear aY bE aU aW aI aA;go_upto_region 8 with (fail)
    generalize (w3.setCell ⟨g,0,none⟩ (.slice A3 m3 c3))=w4 at *;rw [←aZ] at aN bG bH bA
    go_wp2_with fail
    refine (za5 A m c _ nn _ aN (by have h:=aN.len;have h2:=(zcH (k:=k) hn hb).2.2;omega) (by omega) (by omega)).mono ?_;rintro e w5 ⟨m5,c5,rfl,bN,aM⟩;have bJ:=bN.nat
    go_wp2_with fail
    go_roundw
    case rel=>
     refine ⟨kk,_,m5,c5,A3,m3,c3,A1,m1,c1,by have:=bF.out;omega,rfl,rfl,?_,?_,?_,aX.below aM aX.lt,aT.trans (aM.mono aT.size)⟩
     ·rw [aO,←aZ];exact bJ
     ·rw [aO];exact bA.later aM
     ·rw [aO];exact bH.later aM
    case measure=>have:=bF.out;simp [intOf]<;>omega
   ·have f4:Int.tmod (k:Int) 2=1:=by rw [Int.tmod_eq_emod_of_nonneg (by omega)];omega
    have aO:Cs.tanAt n bits kk=((Cs.tanAt n bits k).1,(Cs.tanAt n bits k).2.1+(Cs.tanAt n bits k).2.2 / aF,(Cs.tanAt n bits k).2.2 / nn):=by
     rw [aE];simp only [Cs.tanAt];rw [if_neg (by omega),aK,bQ.out]
    clear bB aK aE hlt aL
    go_wp2_with fail
    refine (zaM A m c (Cs.tanAt n bits k).2.2 _ hp).mono ?_;rintro e w1 ⟨rfl,rfl⟩;rw [decide_eq_false (by have:=bT.out;omega)]
    go_wp2_with fail
    refine (za5 A m c _ aF _ hp (by have h:=hp.len;have h2:=(zcH (k:=k) hn hb).2.2;omega) (by omega) (by omega)).mono ?_;rintro e w2 ⟨m2,c2,rfl,bC,aC⟩;have aP:=bC.nat;have aH:=hB.trans (aC.mono hB.size);have aG:=hk.below aC hk.lt;have bD:=hp.later aC;have aQ:=h0.later aC;have aR:=h1.later aC;clear bC hk hp h0 h1;have x0:=aG.cell 0;have x1:=aG.cell 1
    go_wp2_with fail
    refine (zcf A1 _ m1 c1 _ _ _ _ _ aR aP (by have h:=aR.len;have h2:=(zcH (k:=k) hn hb).2.1;omega) (by
     have h:=aP.len;have h2:=(zcH (k:=k) hn hb).2.2;have h3:=zaa (Nat.div_le_self (Cs.tanAt n bits k).2.2 aF);omega)).mono ?_
    rintro e w3 ⟨A3,m3,c3,rfl,aW,aD⟩;have aI:=aH.trans (aD.mono aH.size);have aA:=aG.below aD aG.lt;have aY:=bD.later aD;have bE:=aQ.later aD;have aU:=aR.later aD;clear x0 x1 aG bD aQ aR aP aH;have x0:=aA.cell 0;have x1:=aA.cell 1;have y0:=aA.frozen 0;have y1:=aA.frozen 1;have aT:=aI.setCell (p:=⟨g,1,none⟩) hg (.slice A3 m3 c3);have aX:=aA.set 1 (.slice A3 m3 c3);have aN:=aY.store (i:=1) aA (zaQ _ _ _ _ _ _) (.slice A3 m3 c3);have bG:=bE.store (i:=1) aA (zaQ _ _ _ _ _ _) (.slice A3 m3 c3);have bH:=aU.store (i:=1) aA (zaQ _ _ _ _ _ _) (.slice A3 m3 c3);have bA:=aW.store (i:=1) aA (zaQ _ _ _ _ _ _) (.slice A3 m3 c3);have aZ:(w3.setCell ⟨g,1,none⟩ (.slice A3 m3 c3)).heap.size=w3.heap.size:=by simp [World.setCell]
    clear aY bE aU aW aI aA;go_upto_region 8 with (fail)
    generalize (w3.setCell ⟨g,1,none⟩ (.slice A3 m3 c3))=w4 at *;rw [←aZ] at aN bG bH bA
    go_wp2_with fail
    refine (za5 A m c _ nn _ aN (by have h:=aN.len;have h2:=(zcH (k:=k) hn hb).2.2;omega) (by omega) (by omega)).mono ?_;rintro e w5 ⟨m5,c5,rfl,bN,aM⟩;have bJ:=bN.nat
    go_wp2_with fail
    go_roundw
    case rel=>
     refine ⟨kk,_,m5,c5,A0,m0,c0,A3,m3,c3,by have:=bF.out;omega,rfl,rfl,?_,?_,?_,aX.below aM aX.lt,aT.trans (aM.mono aT.size)⟩
     ·rw [aO,←aZ];exact bJ
     ·rw [aO];exact bG.later aM
     ·rw [aO];exact bA.later aM
    case measure=>have:=bF.out;simp [intOf]<;>omega
  ·obtain rfl:k=k0:=by omega
   go_wp2_with fail
   refine (zaM A m c (Cs.tanAt n bits k).2.2 _ hp).mono ?_;rintro e w1 ⟨rfl,rfl⟩;rw [decide_eq_true hZ.out];have x0:=hk.cell 0;have x1:=hk.cell 1
   go_wp2_with fail
   refine (zcR A0 A1 m0 c0 m1 c1 _ _ _ h0 h1 bZ.out (by have h:=h0.len;have h2:=(zcH (k:=k) hn hb).1;omega)).mono ?_;rintro e w2 ⟨A2,m2,c2,rfl,hn2,aC⟩;go_wp2
   go_ret;exact ⟨A2,m2,c2,rfl,by rw [hV.out];exact hn2,hB.trans (aC.mono hB.size)⟩
theorem zeE {n bits k:Nat} (hn:2≤n) (hb:bits≤1048576):(digs (Cs.tanVal n bits k)).length≤1048576:=
 Nat.le_trans (zaa (Nat.sub_le _ _)) (zcH (k:=k) hn hb).1
set_option maxHeartbeats 2000000 in
set_option maxRecDepth 100000 in
theorem zjt (bits k l:Nat) (w:World) (h5:Cs.TanOk 5 bits k) (h239:Cs.TanOk 239 bits l) (hc:Cs.tanVal 239 bits l*8≤Cs.tanVal 5 bits k*32) (hb:bits≤1048576) (hk:k<4294967296) (hl:l<4294967296) :
  Calls Tryz.prog 210 #[.int .i64 (bits:Int)] w (zb4 w (Cs.circleOf bits k l)):=by
 have H5:=Lib.hid (zfE 5 bits k w h5 (by omega) (by omega) hb hk);have H9:=Lib.hid (fun W=>zfE 239 bits l W h239 (by omega) (by omega) hb hl);have l5:=zeE (n:=5) (k:=k) (by omega) hb;have l9:=zeE (n:=239) (k:=l) (by omega) hb;have HV:Hid (Cs.circleOf bits k l=Cs.tanVal 5 bits k*32 - Cs.tanVal 239 bits l*8):=rfl;clear h5 h239;generalize Cs.tanVal 5 bits k=x at *;generalize Cs.tanVal 239 bits l=y at *;generalize Cs.circleOf bits k l=z at *;have aV:(digs 32).length≤1:=digs_length_le (by decide);have e8:(digs 8).length≤1:=digs_length_le (by decide);go_enter Tryz.func210,Tryz.ntmps210
 go_wp2_with fail
 refine H5.out.mono ?_;rintro e w1 ⟨A1,m1,c1,rfl,aX,aL⟩
 go_wp2_with fail
 refine (H9.out w1).mono ?_;rintro e w2 ⟨A2,m2,c2,rfl,aW,aR⟩;have aS:=aL.trans (aR.mono aL.size);have aF:=aX.later aR;clear aX aL aR
 go_wp2_with fail
 refine (zai 32 w2 (by omega) (by omega)).mono ?_;rintro e w3 ⟨A3,m3,c3,rfl,aM,aI⟩;have aT:=aS.trans (aI.mono aS.size);have aC:=aF.later aI;have aG:=aW.later aI;clear aF aW aS aI
 go_wp2_with fail
 refine (zaE A1 A3 m1 c1 m3 c3 x 32 w3 aC aM (by have:=aC.len;omega) (by have h:=aM.len;have h2:(digs (Int.toNat 32)).length≤1:=aV;omega)).mono ?_;rintro e w4 ⟨A4,m4,c4,rfl,aU,aN⟩;have aK:=aT.trans (aN.mono aT.size);have aH:=aG.later aN;clear aC aM aG aT aN
 go_wp2_with fail
 refine (zai 8 w4 (by omega) (by omega)).mono ?_;rintro e w5 ⟨A5,m5,c5,rfl,aO,aJ⟩;have aQ:=aK.trans (aJ.mono aK.size);have aD:=aU.later aJ;have aA:=aH.later aJ;clear aU aH aK aJ
 go_wp2_with fail
 refine (zaE A2 A5 m2 c2 m5 c5 y 8 w5 aA aO (by have:=aA.len;omega) (by have h:=aO.len;have h2:(digs (Int.toNat 8)).length≤1:=e8;omega)).mono ?_;rintro e w6 ⟨A6,m6,c6,rfl,aZ,aP⟩;have aY:=aQ.trans (aP.mono aQ.size);have aE:=aD.later aP;clear aD aA aO aQ aP
 go_wp2_with fail
 refine (zcR A4 A6 m4 c4 m6 c6 _ _ w6 aE aZ hc (by have:=aE.len;have:=zaB l5 aV;omega)).mono ?_;rintro e w7 ⟨A7,m7,c7,rfl,bB,bA⟩;go_wp2
 go_ret;exact ⟨A7,m7,c7,rfl,by rw [HV.out];exact bB,aY.trans (bA.mono aY.size)⟩
theorem zb6 {x M:Nat} (h:x<2 ^ M) (hM:M≤1048576):(digs x).length≤1048576:=by
 obtain ⟨N,hN⟩:∃ N,N=64*1048576:=⟨_,rfl⟩;exact zlg (by rw [←hN];exact Nat.lt_of_lt_of_le h (Nat.pow_le_pow_right (by omega) (by omega)))
set_option maxHeartbeats 8000000 in
set_option maxRecDepth 100000 in
theorem zjH (neg:Bool) (top bot bits k l mm M:Nat) (At Ab:Option Addr) (nt ct nb cb:Nat) (w:World) (h5:Cs.TanOk 5 bits k) (h239:Cs.TanOk 239 bits l) (hc:Cs.tanVal 239 bits l*8≤Cs.tanVal 5 bits k*32)
  (hok:Cs.SerOk (Cs.sqOf (Cs.circleOf bits k l) top bot bits) bits mm M) (hM:M≤1048576) (hb:bits≤1048576) (hk0:k<4294967296) (hl0:l<4294967296) (hmm:mm<1073741824)
  (ht:NatS w w.heap.size At nt ct top) (hbo:NatS w w.heap.size Ab nb cb bot) (hbot:0<bot) (hnt:nt≤1048576) :
  Calls Tryz.prog 196 #[.agg #[.bool neg,.slice At nt ct,.slice Ab nb cb],.int .i64 (bits:Int)] w (zb4 w (Cs.serVal (Cs.sqOf (Cs.circleOf bits k l) top bot bits) bits mm)):=by
 have cS:(digs (Cs.circleOf bits k l)).length≤1048578:=by
  have h:=zaB (zeE (n:=5) (k:=k) (by omega) hb) (show (digs 32).length≤1 from digs_length_le (by decide));exact Nat.le_trans (Nat.le_trans (zaa (Nat.sub_le _ _)) h) (by omega)
 have cR:=ht.len;have cO:=zaB cS (Nat.le_of_eq cR);have HC:=Lib.hid (fun W=>zjt bits k l W h5 h239 hc hb hk0 hl0);have cL:Hid (Cs.sqOf (Cs.circleOf bits k l) top bot bits=Cs.circleOf bits k l*top / bot*(Cs.circleOf bits k l*top / bot) / 2 ^ bits):=rfl;clear h5 h239 hc;generalize Cs.circleOf bits k l=ci at *;obtain ⟨sq,bK⟩:∃ sq,sq=Cs.sqOf ci top bot bits:=⟨_,rfl⟩;rw [←bK] at hok cL ⊢;have aR:(digs (ci*top / bot)).length≤1048578+nt:=Nat.le_trans (zaa (Nat.div_le_self _ _)) cO;have bX:(digs sq).length≤1048578+nt+(1048578+nt):=by
  rw [cL.out];exact Nat.le_trans (zaa (Nat.div_le_self _ _)) (zaB aR aR)
 have hZ:=Lib.hid hok.zero;have cF:=Lib.hid hok.pos;have dL:=Lib.hid hok.le;have bF:=hok.bound;have aL:∀ j,j≤mm→_:=fun j hj=>bF j (by omega)
 have hV:Hid (Cs.serVal sq bits mm=(Cs.serAt sq bits mm).1 - (Cs.serAt sq bits mm).2.1):=rfl;clear hok bK bF cR;have dA:Below w.heap.size w (w.alloc (.cells #[.bool neg,.slice At nt ct,.slice Ab nb cb] 91)):=(Below.refl _ _).alloc (Nat.le_refl _) _;have q0:CBlk (w.alloc (.cells #[.bool neg,.slice At nt ct,.slice Ab nb cb] 91)) w.heap.size #[.bool neg,.slice At nt ct,.slice Ab nb cb] 91:=CBlk.new w _ _ _ rfl;go_enter Tryz.func196,Tryz.ntmps196
 go_wp2_with fail
 generalize (w.alloc (.cells #[.bool neg,.slice At nt ct,.slice Ab nb cb] 91))=w3 at *;have a1:=q0.cell 1;have a2:=q0.cell 2;have al:=q0.lt;have aD:Below w.heap.size w w3.drew:=dA.drew
 go_region_held3 (fun w'=>w'.cell? ⟨w.heap.size,1,none⟩=some (.slice At nt ct)∧w'.cell? ⟨w.heap.size,2,none⟩=some (.slice Ab nb cb))
  (first | exact ⟨a1,a2⟩ | exact ⟨(aH.cell (p:=⟨w.heap.size,1,none⟩) al).trans a1,(aH.cell (p:=⟨w.heap.size,2,none⟩) al).trans a2⟩ | exact ⟨(aC.cell (p:=⟨w.heap.size,1,none⟩) bD).trans ((aH.cell (p:=⟨w.heap.size,1,none⟩) al).trans a1),(aC.cell (p:=⟨w.heap.size,2,none⟩) bD).trans ((aH.cell (p:=⟨w.heap.size,2,none⟩) al).trans a2)⟩ | exact ⟨(aE.cell (p:=⟨w.heap.size,1,none⟩) cJ).trans ((aC.cell (p:=⟨w.heap.size,1,none⟩) bD).trans ((aH.cell (p:=⟨w.heap.size,1,none⟩) al).trans a1)),(aE.cell (p:=⟨w.heap.size,2,none⟩) cJ).trans ((aC.cell (p:=⟨w.heap.size,2,none⟩) bD).trans ((aH.cell (p:=⟨w.heap.size,2,none⟩) al).trans a2))⟩)
  (first
   |(go_at_call 210;refine (HC.out w3.drew).mono ?_;rintro e w4 ⟨A4,m4,c4,rfl,aN,aH⟩;have bD:=Nat.lt_of_lt_of_le al aH.size)
   |(go_at_call 105;refine (zaE A4 At m4 c4 nt ct ci top w4 aN ((ht.later aD).later aH) (by have:=aN.len;omega) (by omega)).mono ?_;rintro e w5 ⟨A5,m5,c5,rfl,aO,aC⟩;have cJ:=Nat.lt_of_lt_of_le bD aC.size)
   |(go_at_call 142;refine (zcx A5 Ab m5 c5 nb cb (ci*top) bot w5 aO (((hbo.later aD).later aH).later aC) hbot (by have:=aO.len;omega)).mono ?_;rintro e w6 ⟨A6,m6,c6,A7,m7,c7,rfl,aI,cZ,aE⟩))
 have cG:Below w.heap.size w w6:=((aD.trans (aH.mono aD.size)).trans (aC.mono (Nat.le_trans aD.size aH.size))).trans (aE.mono (Nat.le_trans aD.size (Nat.le_trans aH.size aC.size)));clear aD aH aC aE aN aO cZ q0 a1 a2 al ht hbo HC cS cO
 try clear bD cJ
 go_wp2_with fail
 refine (zaE A6 A6 m6 c6 m6 c6 _ _ w6 aI aI (by have:=aI.len;omega) (by have:=aI.len;omega)).mono ?_;rintro e w8 ⟨A8,m8,c8,rfl,cE,cQ⟩;have cC:=cG.trans (cQ.mono cG.size)
 go_wp2_with fail
 refine (zaP A8 m8 c8 _ bits w8 cE (by have:=cE.len;have:=zaB aR aR;omega) (by omega)).mono ?_;rintro e w9 ⟨bR,cA⟩;obtain ⟨As,ms,cs,rfl,cB,cA⟩:=cA.ret bR;rw [←cL.out] at cB;have cM:=cC.trans (cA.mono cC.size);clear cQ cA bR cG cC aI cE
 go_wp2_with fail
 refine (zai 1 w9 (by omega) (by omega)).mono ?_;rintro e cV ⟨dD,cY,dG,rfl,bA,aY⟩;have bQ:=cB.later aY;have aW:=cM.trans (aY.mono cM.size)
 go_wp2_with fail
 refine (zaw dD cY dG _ bits cV bA (by rw [←bA.len];exact Nat.le_trans zbs (by omega)) (by omega)).mono ?_;rintro e bT ⟨dJ,dK,dE,rfl,bC,aX⟩;have bU:=bQ.later aX;have aP:=aW.trans (aX.mono aW.size);rw [show Int.toNat 1*2 ^ bits=2 ^ bits by simp] at bC;have dF:Below w.heap.size w (bT.alloc (.cells #[.slice none 0 0,.slice none 0 0] 229)):=aP.alloc aP.size _;have cP:CBlk (bT.alloc (.cells #[.slice none 0 0,.slice none 0 0] 229)) bT.heap.size #[.slice none 0 0,.slice none 0 0] 229:=CBlk.new _ _ _ _ rfl;have dH:=bC.later ((Below.refl _ _).alloc (Nat.le_refl _) (.cells #[.slice none 0 0,.slice none 0 0] 229));have dI:=bU.later ((Below.refl _ _).alloc (Nat.le_refl _) (.cells #[.slice none 0 0,.slice none 0 0] 229));obtain ⟨g,bZ⟩:∃ g,g=bT.heap.size:=⟨_,rfl⟩;have hg:w.heap.size≤g:=by rw [bZ];exact aP.size
 rw [←bZ] at cP;have HG:=Lib.hid bZ;clear bZ cM aW aP cB bQ bU bA bC aY aX;go_upto_region 6 with (fail)
 rw [←HG.out];generalize (bT.alloc (.cells #[.slice none 0 0,.slice none 0 0] 229))=wa at *
 go_wp2_with fail
 go_loopw [8,10] (fun pv kv wr=>∃ (k:Nat) (A:Option Addr) (m c:Nat) (A0:Option Addr) (m0 c0:Nat) (A1:Option Addr) (m1 c1:Nat),k≤mm∧pv = .slice A m c∧kv = .int .u64 (k:Int)∧NatS wr wr.heap.size A m c (Cs.serAt sq bits k).2.2∧NatS wr wr.heap.size A0 m0 c0 (Cs.serAt sq bits k).1∧NatS wr wr.heap.size A1 m1 c1 (Cs.serAt sq bits k).2.1∧CBlk wr g #[.slice A0 m0 c0,.slice A1 m1 c1] 229∧NatS wr wr.heap.size As ms cs sq∧Below w.heap.size w wr) (fun _ kv _=>mm - (intOf kv).toNat)
 case atStart=>exact ⟨0,dJ,dK,dE,none,0,0,none,0,0,Nat.zero_le _,rfl,rfl,dH,NatS.nil _ _,NatS.nil _ _,cP,dI,dF⟩
 case round=>
  obtain ⟨k,A,m,c,A0,m0,c0,A1,m1,c1,dN,rfl,rfl,hp,h0,h1,hk,hs,hB⟩:=hrel
  by_cases hlt:k<mm
  ·have cT:=Lib.hid (cF.out k hlt)
   obtain ⟨k2,bS⟩:∃ k2,k2=2*k:=⟨_,rfl⟩;obtain ⟨bP,aM⟩:∃ bP,bP=2*k+1:=⟨_,rfl⟩;obtain ⟨bV,aT⟩:∃ bV,bV=2*k+2:=⟨_,rfl⟩;obtain ⟨kp,aU⟩:∃ kp,kp=bP*bV:=⟨_,rfl⟩;obtain ⟨kk,aJ⟩:∃ kk,kk=k+1:=⟨_,rfl⟩;have f1:IntKind.u64.wrap (2*(k:Int))=(k2:Int):=by rw [zdM (by omega) (by omega)];omega
   have f2:IntKind.u64.wrap ((k2:Int)+1)=(bP:Int):=by rw [zdM (by omega) (by omega)];omega
   have dM:IntKind.u64.wrap ((k2:Int)+2)=(bV:Int):=by rw [zdM (by omega) (by omega)];omega
   have f3:IntKind.u64.wrap ((k:Int)+1)=(kk:Int):=by rw [zdM (by omega) (by omega)];omega
   have bH:kp<4294967296*4294967296:=by rw [aU];exact Nat.mul_lt_mul'' (by omega) (by omega)
   have cU:0<kp:=by rw [aU];exact Nat.mul_pos (by omega) (by omega)
   have f5:IntKind.u64.wrap ((bP:Int)*(bV:Int))=(kp:Int):=by
    rw [zdM (Int.mul_nonneg (by omega) (by omega)) (by rw [←Int.natCast_mul,←aU];omega),←Int.natCast_mul,←aU]
   have dB:kp<18446744073709551616:=by omega
   have aF:Hid (kk=k+1∧k<mm):=⟨aJ,hlt⟩
   rcases Nat.mod_two_eq_zero_or_one k with aQ | aQ
   ·have f4:Int.tmod (k:Int) 2=0:=by rw [Int.tmod_eq_emod_of_nonneg (by omega)];omega
    have bB:Cs.serAt sq bits kk=((Cs.serAt sq bits k).1+(Cs.serAt sq bits k).2.2,(Cs.serAt sq bits k).2.1,(Cs.serAt sq bits k).2.2*sq / 2 ^ bits / kp):=by
     rw [aJ,aU,aM,aT];simp only [Cs.serAt];rw [if_pos aQ]
    clear bS aM aT aU bH aJ hlt aQ;have x0:=hk.cell 0;have x1:=hk.cell 1
    go_wp2_with fail
    refine (zaM A m c (Cs.serAt sq bits k).2.2 _ hp).mono ?_;rintro e w1 ⟨rfl,rfl⟩;rw [decide_eq_false (by have:=cT.out;omega)]
    go_wp2_with fail
    refine (zcf A0 A m0 c0 m c _ _ _ h0 hp (by have h:=h0.len;have h2:=zb6 (aL k (by have:=aF.out;omega)).1 hM;omega) (by have h:=hp.len;have h2:=zb6 (aL k (by have:=aF.out;omega)).2.2 hM;omega)).mono ?_;rintro e w3 ⟨A3,m3,c3,rfl,bL,aG⟩;have bO:=hB.trans (aG.mono hB.size);have aA:=hk.below aG hk.lt;have bM:=hp.later aG;have bN:=h0.later aG;have bJ:=h1.later aG;have bG:=hs.later aG;clear x0 x1 hk hp h0 h1 hB hs;have x0:=aA.cell 0;have x1:=aA.cell 1;have y0:=aA.frozen 0;have y1:=aA.frozen 1;have bI:=bO.setCell (p:=⟨g,0,none⟩) hg (.slice A3 m3 c3);have bE:=aA.set 0 (.slice A3 m3 c3);have aV:=bM.store (i:=0) aA (zaQ _ _ _ _ _ _) (.slice A3 m3 c3);have bW:=bN.store (i:=0) aA (zaQ _ _ _ _ _ _) (.slice A3 m3 c3);have bY:=bJ.store (i:=0) aA (zaQ _ _ _ _ _ _) (.slice A3 m3 c3);have aN:=bL.store (i:=0) aA (zaQ _ _ _ _ _ _) (.slice A3 m3 c3);have aS:=bG.store (i:=0) aA (zaQ _ _ _ _ _ _) (.slice A3 m3 c3);have cK:(w3.setCell ⟨g,0,none⟩ (.slice A3 m3 c3)).heap.size=w3.heap.size:=by simp [World.setCell]
    clear bM bN bJ bL bO aA bG;go_upto_region 9 with (fail)
    generalize (w3.setCell ⟨g,0,none⟩ (.slice A3 m3 c3))=w4 at *;rw [←cK] at aV bW bY aN aS
    go_wp2_with fail
    refine (zaE A As m c ms cs _ _ w4 aV aS (by have h:=aV.len;have h2:=zb6 (aL k (by have:=aF.out;omega)).2.2 hM;omega) (by have h:=aS.len;omega)).mono ?_;rintro e w5 ⟨A5,m5,c5,rfl,aO,aC⟩
    go_wp2_with fail
    refine (zaP A5 m5 c5 _ bits w5 aO (by
     have h:=aO.len;have h2:=zaB (zb6 (aL k (by have:=aF.out;omega)).2.2 hM) bX;omega) (by omega)).mono ?_
    rintro e w6 ⟨aZ,aE⟩;obtain ⟨A6,m6,c6,rfl,aI,aE⟩:=aE.ret aZ
    go_wp2_with fail
    refine (za5 A6 m6 c6 _ kp w6 aI (by
     have h:=aI.len;have h2:=zaB (zb6 (aL k (by have:=aF.out;omega)).2.2 hM) bX;have h3:=zaa (Nat.div_le_self ((Cs.serAt sq bits k).2.2*sq) (2 ^ bits));omega) (by omega) (by omega)).mono ?_
    rintro e w7 ⟨m7,c7,rfl,cH,cI⟩;have cN:=cH.nat;have aK:=(aC.trans (aE.mono aC.size)).trans (cI.mono (Nat.le_trans aC.size aE.size))
    go_wp2_with fail
    go_roundw
    case rel=>
     refine ⟨kk,_,m7,c7,A3,m3,c3,A1,m1,c1,by have:=aF.out;omega,rfl,rfl,?_,?_,?_,bE.below aK bE.lt,aS.later aK,bI.trans (aK.mono bI.size)⟩
     ·rw [bB];exact cN
     ·rw [bB];exact aN.later aK
     ·rw [bB];exact bY.later aK
    case measure=>have:=aF.out;simp [intOf]<;>omega
   ·have f4:Int.tmod (k:Int) 2=1:=by rw [Int.tmod_eq_emod_of_nonneg (by omega)];omega
    have bB:Cs.serAt sq bits kk=((Cs.serAt sq bits k).1,(Cs.serAt sq bits k).2.1+(Cs.serAt sq bits k).2.2,(Cs.serAt sq bits k).2.2*sq / 2 ^ bits / kp):=by
     rw [aJ,aU,aM,aT];simp only [Cs.serAt];rw [if_neg (by omega)]
    clear bS aM aT aU bH aJ hlt aQ;have x0:=hk.cell 0;have x1:=hk.cell 1
    go_wp2_with fail
    refine (zaM A m c (Cs.serAt sq bits k).2.2 _ hp).mono ?_;rintro e w1 ⟨rfl,rfl⟩;rw [decide_eq_false (by have:=cT.out;omega)]
    go_wp2_with fail
    refine (zcf A1 A m1 c1 m c _ _ _ h1 hp (by have h:=h1.len;have h2:=zb6 (aL k (by have:=aF.out;omega)).2.1 hM;omega) (by have h:=hp.len;have h2:=zb6 (aL k (by have:=aF.out;omega)).2.2 hM;omega)).mono ?_;rintro e w3 ⟨A3,m3,c3,rfl,bL,aG⟩;have bO:=hB.trans (aG.mono hB.size);have aA:=hk.below aG hk.lt;have bM:=hp.later aG;have bN:=h0.later aG;have bJ:=h1.later aG;have bG:=hs.later aG;clear x0 x1 hk hp h0 h1 hB hs;have x0:=aA.cell 0;have x1:=aA.cell 1;have y0:=aA.frozen 0;have y1:=aA.frozen 1;have bI:=bO.setCell (p:=⟨g,1,none⟩) hg (.slice A3 m3 c3);have bE:=aA.set 1 (.slice A3 m3 c3);have aV:=bM.store (i:=1) aA (zaQ _ _ _ _ _ _) (.slice A3 m3 c3);have bW:=bN.store (i:=1) aA (zaQ _ _ _ _ _ _) (.slice A3 m3 c3);have bY:=bJ.store (i:=1) aA (zaQ _ _ _ _ _ _) (.slice A3 m3 c3);have aN:=bL.store (i:=1) aA (zaQ _ _ _ _ _ _) (.slice A3 m3 c3);have aS:=bG.store (i:=1) aA (zaQ _ _ _ _ _ _) (.slice A3 m3 c3);have cK:(w3.setCell ⟨g,1,none⟩ (.slice A3 m3 c3)).heap.size=w3.heap.size:=by simp [World.setCell]
    clear bM bN bJ bL bO aA bG;go_upto_region 9 with (fail)
    generalize (w3.setCell ⟨g,1,none⟩ (.slice A3 m3 c3))=w4 at *;rw [←cK] at aV bW bY aN aS
    go_wp2_with fail
    refine (zaE A As m c ms cs _ _ w4 aV aS (by have h:=aV.len;have h2:=zb6 (aL k (by have:=aF.out;omega)).2.2 hM;omega) (by have h:=aS.len;omega)).mono ?_;rintro e w5 ⟨A5,m5,c5,rfl,aO,aC⟩
    go_wp2_with fail
    refine (zaP A5 m5 c5 _ bits w5 aO (by
     have h:=aO.len;have h2:=zaB (zb6 (aL k (by have:=aF.out;omega)).2.2 hM) bX;omega) (by omega)).mono ?_
    rintro e w6 ⟨aZ,aE⟩;obtain ⟨A6,m6,c6,rfl,aI,aE⟩:=aE.ret aZ
    go_wp2_with fail
    refine (za5 A6 m6 c6 _ kp w6 aI (by
     have h:=aI.len;have h2:=zaB (zb6 (aL k (by have:=aF.out;omega)).2.2 hM) bX;have h3:=zaa (Nat.div_le_self ((Cs.serAt sq bits k).2.2*sq) (2 ^ bits));omega) (by omega) (by omega)).mono ?_
    rintro e w7 ⟨m7,c7,rfl,cH,cI⟩;have cN:=cH.nat;have aK:=(aC.trans (aE.mono aC.size)).trans (cI.mono (Nat.le_trans aC.size aE.size))
    go_wp2_with fail
    go_roundw
    case rel=>
     refine ⟨kk,_,m7,c7,A0,m0,c0,A3,m3,c3,by have:=aF.out;omega,rfl,rfl,?_,?_,?_,bE.below aK bE.lt,aS.later aK,bI.trans (aK.mono bI.size)⟩
     ·rw [bB];exact cN
     ·rw [bB];exact bW.later aK
     ·rw [bB];exact aN.later aK
    case measure=>have:=aF.out;simp [intOf]<;>omega
  ·obtain rfl:k=mm:=by omega
   go_wp2_with fail
   refine (zaM A m c (Cs.serAt sq bits k).2.2 _ hp).mono ?_;rintro e w1 ⟨rfl,rfl⟩;rw [decide_eq_true hZ.out];have x0:=hk.cell 0;have x1:=hk.cell 1
   go_wp2_with fail
   refine (zcR A0 A1 m0 c0 m1 c1 _ _ _ h0 h1 dL.out (by have h:=h0.len;have h2:=zb6 (aL k (by omega)).1 hM;omega)).mono ?_;rintro e w2 ⟨A2,m2,c2,rfl,dC,cW⟩;go_wp2
   go_ret;exact ⟨A2,m2,c2,rfl,by rw [hV.out];exact dC,hB.trans (cW.mono hB.size)⟩
set_option maxHeartbeats 2000000 in
set_option maxRecDepth 100000 in
theorem ziO (x s:Nat) (A:Option Addr) (n c:Nat) (w:World) (hT:Tabs w) (hx:NatS w w.heap.size A n c x) (hn:n≤536870912) (hs:s<18446744073709551616) :
  Calls Tryz.prog 162 #[.slice A n c,.int .u64 (s:Int)] w (zb7 w (lowQ false x s) (lowQ false (x+1) s)):=by
 have aI:Below w.heap.size w (w.alloc (.cells #[.bool false,.slice none 0 0,.slice none 0 0,.bool false,.slice none 0 0,.slice none 0 0] 139)):=(Below.refl _ _).alloc (Nat.le_refl _) _;have q0:CBlk (w.alloc (.cells #[.bool false,.slice none 0 0,.slice none 0 0,.bool false,.slice none 0 0,.slice none 0 0] 139)) w.heap.size #[.bool false,.slice none 0 0,.slice none 0 0,.bool false,.slice none 0 0,.slice none 0 0] 139:=CBlk.new w _ _ _ rfl;have bH:=hx.later ((Below.refl _ _).alloc (Nat.le_refl _) (.cells #[.bool false,.slice none 0 0,.slice none 0 0,.bool false,.slice none 0 0,.slice none 0 0] 139));have bD:=hT.later aI;have bG:=hx.len;have bM:(digs s).length≤1:=digs_length_le (by rw [zdf,Nat.pow_one];exact hs);clear hx;go_enter Tryz.func162,Tryz.ntmps162
 go_upto_region 1 with (fail)
 generalize (w.alloc (.cells #[.bool false,.slice none 0 0,.slice none 0 0,.bool false,.slice none 0 0,.slice none 0 0] 139))=w1 at *
 go_wp2_with fail
 refine (zai (s:Int) w1 (by omega) (by omega)).mono ?_;rintro e w2 ⟨A2,m2,c2,rfl,aG,aF⟩;rw [Int.toNat_natCast] at aG;have aP:=aI.trans (aF.mono aI.size);have q2:=q0.below aF q0.lt;have aL:=bH.later aF;have aR:=bD.later aF;clear q0 bH aI aF bD
 go_wp2_with fail
 refine (zbz false A A2 n c m2 c2 x s w2 aR aL aG (by omega) (by have:=aG.len;omega)).mono ?_;rintro e w3 ⟨v3,rfl,⟨A3,m3,c3,A4,m4,c4,rfl,h3,h4⟩,aD⟩;have aS:=aP.trans (aD.mono aP.size);have q3:=q2.below aD q2.lt;have aV:=aL.later aD;have bA:=aR.later aD;have aU:=aG.later aD;clear q2 aL aP aD aR aG
 go_wp2_with fail
 refine (zai 1 w3 (by omega) (by omega)).mono ?_;rintro e w5 ⟨A5,m5,c5,rfl,aM,aA⟩;have aN:=aS.trans (aA.mono aS.size);have q5:=q3.below aA q3.lt;have aX:=aV.later aA;have bB:=bA.later aA;have bC:=aU.later aA;have aW:=h3.later aA;have aY:=h4.later aA;clear q3 aV aS aA bA aU h3 h4
 go_wp2_with fail
 refine (zcf A A5 n c m5 c5 x _ w5 aX aM (by omega) (by have h:=aM.len;have h2:(digs (Int.toNat 1)).length≤1:=zbs;omega)).mono ?_;rintro e w6 ⟨A6,m6,c6,rfl,aK,aC⟩;have aQ:=aN.trans (aC.mono aN.size);have q6:=q5.below aC q5.lt;have bE:=bB.later aC;have aO:=bC.later aC;have aZ:=aW.later aC;have aT:=aY.later aC;clear q5 aX aN aC bB aM bC aW aY
 go_wp2_with fail
 refine (zbz false A6 A2 m6 c6 m2 c2 (x+Int.toNat 1) s w6 bE aK aO (by have h:=aK.len;have h2:(digs (Int.toNat 1)).length≤1:=zbs;have h3:=zc0 (Nat.le_of_eq bG) h2;omega) (by have:=aO.len;omega)).mono ?_;rintro e w7 ⟨v7,rfl,⟨A7,m7,c7,A8,m8,c8,rfl,h7,h8⟩,aE⟩;have bL:=aQ.trans (aE.mono aQ.size);have q7:=q6.below aE q6.lt;have bF:=aZ.later aE;have bI:=aT.later aE;clear q6 aQ aE bE aK aO aZ aT bG bM;rw [show x+Int.toNat 1=x+1 from rfl] at h7 h8 ⊢;obtain ⟨qa,aJ⟩:∃ qa,qa=lowQ false x s:=⟨_,rfl⟩;obtain ⟨qb,aH⟩:∃ qb,qb=lowQ false (x+1) s:=⟨_,rfl⟩;rw [←aJ] at bF bI;rw [←aH] at h7 h8
 try rw [←aJ]
 try rw [←aH]
 have bJ:=Lib.hid aJ;have bK:=Lib.hid aH;clear aJ aH;have y0:=q7.cell 0;have y1:=q7.cell 1;have y2:=q7.cell 2;have y3:=q7.cell 3;have y4:=q7.cell 4;have y5:=q7.cell 5;have z0:=q7.frozen 0;have z1:=q7.frozen 1;have z2:=q7.frozen 2;have z3:=q7.frozen 3;have z4:=q7.frozen 4;have z5:=q7.frozen 5;have hI:=zbV (p:=qa) (q:=qb) q7 bL (Nat.le_refl _) rfl bF bI h7 h8;have hD:=q7.set6 (.bool qa.neg) (.slice A3 m3 c3) (.slice A4 m4 c4) (.bool qb.neg) (.slice A7 m7 c7) (.slice A8 m8 c8);unfold Go.Proofs.YteajibbphcfmeaaGreatDoor.set6 at hI hD;have r0:=hD.cell 0;have r1:=hD.cell 1;have r2:=hD.cell 2;have r3:=hD.cell 3;have r4:=hD.cell 4;have r5:=hD.cell 5;have HI:=Lib.hid hI;clear hI hD;go_wp2
 refine bodyPost_ret (v := .agg #[.bool qa.neg,.slice A3 m3 c3,.slice A4 m4 c4,.bool qb.neg,.slice A7 m7 c7,.slice A8 m8 c8]) (by simp [results,Tryz.results162,go_sem,y0,y1,y2,y3,y4,y5]) rfl ⟨_,rfl,by obtain rfl:=bJ.out;obtain rfl:=bK.out;exact HI.out⟩
set_option maxHeartbeats 1000000 in
set_option maxRecDepth 100000 in
theorem zfL (w:World) (hT:Tabs w):Calls Tryz.prog 195 #[.int .i64 0] w fun e w'=>e = .returned (.int .i64 48)∧w=w':=by
 have h0:=hT.prec.1;clear hT;go_enter Tryz.func195,Tryz.ntmps195
 go_wp2
 go_ret;exact ⟨rfl,rfl⟩
set_option maxHeartbeats 2000000 in
set_option maxRecDepth 100000 in
theorem zeH (x y:Nat) (w:World) (hT:Tabs w) (hx:x<18446744073709551616) (hy:y<18446744073709551616) :
  Calls Tryz.prog 118 #[.int .u64 (x:Int),.int .u64 (y:Int)] w (zaU w (lowQ false x y)):=by
 have aF:Below w.heap.size w (w.alloc (.cells #[.bool false,.slice none 0 0,.slice none 0 0] 91)):=(Below.refl _ _).alloc (Nat.le_refl _) _;have aK:(digs x).length≤1:=digs_length_le (by rw [zdf,Nat.pow_one];exact hx);have aL:(digs y).length≤1:=digs_length_le (by rw [zdf,Nat.pow_one];exact hy);go_enter Tryz.func118,Tryz.ntmps118
 go_wp2_with fail
 refine (zai (x:Int) _ (by omega) (by omega)).mono ?_;rintro e w2 ⟨A2,m2,c2,rfl,aH,aA⟩;rw [Int.toNat_natCast] at aH
 go_wp2_with fail
 refine (zai (y:Int) _ (by omega) (by omega)).mono ?_;rintro e w3 ⟨A3,m3,c3,rfl,aG,aD⟩;rw [Int.toNat_natCast] at aG;have aC:Below w.heap.size w w3:=(aF.trans (aA.mono aF.size)).trans (aD.mono (Nat.le_trans aF.size aA.size))
 go_wp2_with fail
 refine (zbz false A2 A3 m2 c2 m3 c3 x y w3 (hT.later aC) (aH.later aD) aG (by have:=aH.len;omega) (by have:=aG.len;omega)).mono ?_;rintro e w4 ⟨v4,rfl,⟨A4,m4,c4,A5,m5,c5,rfl,h4,h5⟩,aI⟩;have aJ:=aC.trans (aI.mono aC.size);have hk:=(((zaf.new w false (.slice none 0 0) (.slice none 0 0)).below aA (by simp)).below aD (by have:=aA.size;simp at this;omega)).below aI (by have:=aC.size;have:=aA.size;have:=aD.size;simp at *; omega);obtain ⟨k0,k1,k2,f0,f1,f2,_⟩:=hk.cells;generalize lowQ false x y=q at *;have aE:=zan aJ (g:=w.heap.size) (Nat.le_refl _) (.bool q.neg) (.slice A4 m4 c4) (.slice A5 m5 c5);go_wp2
 refine bodyPost_ret (v := .agg #[.bool q.neg,.slice A4 m4 c4,.slice A5 m5 c5]) (by simp [results,Tryz.results118,go_sem,k0,k1,k2]) rfl ⟨_,rfl,⟨A4,m4,c4,A5,m5,c5,rfl,?_,?_⟩,aE⟩
 ·rw [zah];exact h4.res hk _ _ _
 ·rw [zah];exact h5.res hk _ _ _
end Go.Proofs.YteajibbphcfmeaaGreatDoor
