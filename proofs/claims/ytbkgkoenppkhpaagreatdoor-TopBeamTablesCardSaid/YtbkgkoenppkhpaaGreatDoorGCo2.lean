/- Contract of package number's series of the cosine, where it is known when it ends. -/
import Derived.Test.YtbkgkoenppkhpaaGreatDoorGSp6
import Derived.Test.YtbkgkoenppkhpaaGreatDoorGDiv4
import Derived.Deep.RegionHeld3
import Derived.Test.YtbkgkoenppkhpaaGreatDoorGNa1
set_option maxRecDepth 100000
set_option maxHeartbeats 8000000
namespace Go.Proofs.YtbkgkoenppkhpaaGreatDoor
section
open Go.RowKit Bn
theorem zb8 {x M:Nat} (h:x<2 ^ M) (hM:M≤1048576):(digs x).length≤1048576:=by
 obtain ⟨N,hN⟩:∃ N,N=64*1048576:=⟨_,rfl⟩;exact zmu (by rw [←hN];exact Nat.lt_of_lt_of_le h (Nat.pow_le_pow_right (by omega) (by omega)))
theorem zj4 (neg:Bool) (top bot bits k l mm M:Nat) (At Ab:Option Addr) (nt ct nb cb:Nat) (w:World) (h5:Cs.TanOk 5 bits k) (h239:Cs.TanOk 239 bits l) (hc:Cs.tanVal 239 bits l*8≤Cs.tanVal 5 bits k*32)
  (hok:Cs.SerOk (Cs.sqOf (Cs.circleOf bits k l) top bot bits) bits mm M) (hM:M≤1048576) (hb:bits≤1048576) (hk0:k<4294967296) (hl0:l<4294967296) (hmm:mm<1073741824)
  (ht:NatS w w.heap.size At nt ct top) (hbo:NatS w w.heap.size Ab nb cb bot) (hbot:0<bot) (hnt:nt≤1048576) :
  Calls Tryz.prog 208 #[.agg #[.bool neg,.slice At nt ct,.slice Ab nb cb],.int .i64 (bits:Int)] w (zb9 w (Cs.serVal (Cs.sqOf (Cs.circleOf bits k l) top bot bits) bits mm)):=by
 have cO:(digs (Cs.circleOf bits k l)).length≤1048578:=by
  have h:=zaD (zeV (n:=5) (k:=k) (by omega) hb) (show (digs 32).length≤1 from zad (by decide));exact Nat.le_trans (Nat.le_trans (zaa (Nat.sub_le _ _)) h) (by omega)
 have cS:=ht.len;have cP:=zaD cO (Nat.le_of_eq cS);have HC:=Aa (fun W=>zks bits k l W h5 h239 hc hb hk0 hl0);have cG:Hid (Cs.sqOf (Cs.circleOf bits k l) top bot bits=Cs.circleOf bits k l*top / bot*(Cs.circleOf bits k l*top / bot) / 2 ^ bits):=rfl;clear h5 h239 hc;generalize Cs.circleOf bits k l=ci at *;obtain ⟨sq,bH⟩:∃ sq,sq=Cs.sqOf ci top bot bits:=⟨_,rfl⟩;rw [←bH] at hok cG ⊢;have aO:(digs (ci*top / bot)).length≤1048578+nt:=Nat.le_trans (zaa (Nat.div_le_self _ _)) cP;have bY:(digs sq).length≤1048578+nt+(1048578+nt):=by
  rw [cG.out];exact Nat.le_trans (zaa (Nat.div_le_self _ _)) (zaD aO aO)
 have hZ:=Aa hok.zero;have cK:=Aa hok.pos;have dI:=Aa hok.le;have bV:=hok.bound;have aJ:∀ j,j≤mm→_:=fun j hj=>bV j (by omega)
 have hV:Hid (Cs.serVal sq bits mm=(Cs.serAt sq bits mm).1 - (Cs.serAt sq bits mm).2.1):=rfl;clear hok bH bV cS;have dH:Below w.heap.size w (w.alloc (.cells #[.bool neg,.slice At nt ct,.slice Ab nb cb] 87)):=Ac;have q0:CBlk (w.alloc (.cells #[.bool neg,.slice At nt ct,.slice Ab nb cb] 87)) w.heap.size #[.bool neg,.slice At nt ct,.slice Ab nb cb] 87:=CBlk.new w _ _ _ rfl;go_enter Tryz.func208,Tryz.ntmps208
 go_wp2_with fail
 generalize (w.alloc (.cells #[.bool neg,.slice At nt ct,.slice Ab nb cb] 87))=w3 at *;have a1:=q0.cell 1;have a2:=q0.cell 2;have al:=q0.lt;have aD:Below w.heap.size w w3.drew:=dH.drew
 go_region_held3 (fun w'=>w'.cell? ⟨w.heap.size,1,none⟩=some (.slice At nt ct)∧w'.cell? ⟨w.heap.size,2,none⟩=some (.slice Ab nb cb))
  (first | exact ⟨a1,a2⟩ | exact ⟨(aG.cell (p:=⟨w.heap.size,1,none⟩) al).trans a1,(aG.cell (p:=⟨w.heap.size,2,none⟩) al).trans a2⟩ | exact ⟨(aC.cell (p:=⟨w.heap.size,1,none⟩) bD).trans ((aG.cell (p:=⟨w.heap.size,1,none⟩) al).trans a1),(aC.cell (p:=⟨w.heap.size,2,none⟩) bD).trans ((aG.cell (p:=⟨w.heap.size,2,none⟩) al).trans a2)⟩ | exact ⟨(aE.cell (p:=⟨w.heap.size,1,none⟩) cE).trans ((aC.cell (p:=⟨w.heap.size,1,none⟩) bD).trans ((aG.cell (p:=⟨w.heap.size,1,none⟩) al).trans a1)),(aE.cell (p:=⟨w.heap.size,2,none⟩) cE).trans ((aC.cell (p:=⟨w.heap.size,2,none⟩) bD).trans ((aG.cell (p:=⟨w.heap.size,2,none⟩) al).trans a2))⟩)
  (first
   |(go_at_call 223;refine (HC.out w3.drew).mono ?_;rintro e w4 ⟨A4,m4,c4,rfl,aS,aG⟩;have bD:=Nat.lt_of_lt_of_le al aG.size)
   |(go_at_call 90;refine (zaL A4 At m4 c4 nt ct ci top w4 aS ((ht.later aD).later aG) (by have:=aS.len;omega) (by omega)).mono ?_;rintro e w5 ⟨A5,m5,c5,rfl,aP,aC⟩;have cE:=Nat.lt_of_lt_of_le bD aC.size)
   |(go_at_call 132;refine (zdL A5 Ab m5 c5 nb cb (ci*top) bot w5 aP (((hbo.later aD).later aG).later aC) hbot (by have:=aP.len;omega)).mono ?_;rintro e w6 ⟨A6,m6,c6,A7,m7,c7,rfl,aK,dK,aE⟩))
 have cI:Below w.heap.size w w6:=((aD.trans (aG.mono aD.size)).trans (aC.mono (Nat.le_trans aD.size aG.size))).trans (aE.mono (Nat.le_trans aD.size (Nat.le_trans aG.size aC.size)));clear aD aG aC aE aS aP dK q0 a1 a2 al ht hbo HC cO cP
 try clear bD cE
 go_wp2_with fail
 refine (zaL A6 A6 m6 c6 m6 c6 _ _ w6 aK aK (by have:=aK.len;omega) (by have:=aK.len;omega)).mono ?_;rintro e w8 ⟨A8,m8,c8,rfl,cN,cQ⟩;have cC:=Ad cI cQ
 go_wp2_with fail
 refine (zaZ A8 m8 c8 _ bits w8 cN (by have:=cN.len;have:=zaD aO aO;omega) (by omega)).mono ?_;rintro e w9 ⟨bR,bW⟩;obtain ⟨As,ms,cs,rfl,cH,bW⟩:=bW.ret bR;rw [←cG.out] at cH;have cF:=Ad cC bW;clear cQ bW bR cI cC aK cN
 go_wp2_with fail
 refine (zai 1 w9 (by omega) (by omega)).mono ?_;rintro e cW ⟨dD,cU,dN,rfl,aW,aY⟩;have bF:=cH.later aY;have bC:=Ad cF aY
 go_wp2_with fail
 refine (zaw dD cU dN _ bits cW aW (by rw [←aW.len];exact Nat.le_trans zck (by omega)) (by omega)).mono ?_;rintro e bS ⟨dM,cV,dB,rfl,bA,aV⟩;have bT:=bF.later aV;have aR:=Ad bC aV;rw [show Int.toNat 1*2 ^ bits=2 ^ bits by simp] at bA;have dL:Below w.heap.size w (bS.alloc (.cells #[.slice none 0 0,.slice none 0 0] 237)):=aR.alloc aR.size _;have cT:CBlk (bS.alloc (.cells #[.slice none 0 0,.slice none 0 0] 237)) bS.heap.size #[.slice none 0 0,.slice none 0 0] 237:=CBlk.new _ _ _ _ rfl;have dJ:=bA.later ((Below.refl _ _).alloc (Nat.le_refl _) (.cells #[.slice none 0 0,.slice none 0 0] 237));have dG:=bT.later ((Below.refl _ _).alloc (Nat.le_refl _) (.cells #[.slice none 0 0,.slice none 0 0] 237));obtain ⟨g,bZ⟩:∃ g,g=bS.heap.size:=⟨_,rfl⟩;have hg:w.heap.size≤g:=by rw [bZ];exact aR.size
 rw [←bZ] at cT;have HG:=Aa bZ;clear bZ cF bC aR cH bF bT aW bA aY aV;go_upto_region 6 with (fail)
 rw [←HG.out];generalize (bS.alloc (.cells #[.slice none 0 0,.slice none 0 0] 237))=wa at *
 go_wp2_with fail
 go_loopw [8,10] (fun pv kv wr=>∃ (k:Nat) (A:Option Addr) (m c:Nat) (A0:Option Addr) (m0 c0:Nat) (A1:Option Addr) (m1 c1:Nat),k≤mm∧pv = .slice A m c∧kv = .int .u64 (k:Int)∧NatS wr wr.heap.size A m c (Cs.serAt sq bits k).2.2∧NatS wr wr.heap.size A0 m0 c0 (Cs.serAt sq bits k).1∧NatS wr wr.heap.size A1 m1 c1 (Cs.serAt sq bits k).2.1∧CBlk wr g #[.slice A0 m0 c0,.slice A1 m1 c1] 237∧NatS wr wr.heap.size As ms cs sq∧Below w.heap.size w wr) (fun _ kv _=>mm - (intOf kv).toNat)
 case atStart=>exact ⟨0,dM,cV,dB,none,0,0,none,0,0,Nat.zero_le _,rfl,rfl,dJ,NatS.nil _ _,NatS.nil _ _,cT,dG,dL⟩
 case round=>
  obtain ⟨k,A,m,c,A0,m0,c0,A1,m1,c1,dO,rfl,rfl,hp,h0,h1,hk,hs,hB⟩:=hrel
  by_cases hlt:k<mm
  ·have cR:=Aa (cK.out k hlt)
   obtain ⟨k2,bU⟩:∃ k2,k2=2*k:=⟨_,rfl⟩;obtain ⟨bO,aQ⟩:∃ bO,bO=2*k+1:=⟨_,rfl⟩;obtain ⟨bL,aT⟩:∃ bL,bL=2*k+2:=⟨_,rfl⟩;obtain ⟨kp,aU⟩:∃ kp,kp=bO*bL:=⟨_,rfl⟩;obtain ⟨kk,aI⟩:∃ kk,kk=k+1:=⟨_,rfl⟩;have f1:IntKind.u64.wrap (2*(k:Int))=(k2:Int):=by rw [zd1 (by omega) (by omega)];omega
   have f2:IntKind.u64.wrap ((k2:Int)+1)=(bO:Int):=by rw [zd1 (by omega) (by omega)];omega
   have dP:IntKind.u64.wrap ((k2:Int)+2)=(bL:Int):=by rw [zd1 (by omega) (by omega)];omega
   have f3:IntKind.u64.wrap ((k:Int)+1)=(kk:Int):=by rw [zd1 (by omega) (by omega)];omega
   have bQ:kp<4294967296*4294967296:=by rw [aU];exact Nat.mul_lt_mul'' (by omega) (by omega)
   have cZ:0<kp:=by rw [aU];exact Nat.mul_pos (by omega) (by omega)
   have f5:IntKind.u64.wrap ((bO:Int)*(bL:Int))=(kp:Int):=by
    rw [zd1 (Int.mul_nonneg (by omega) (by omega)) (by rw [←Int.natCast_mul,←aU];omega),←Int.natCast_mul,←aU]
   have dF:kp<18446744073709551616:=by omega
   have aF:Hid (kk=k+1∧k<mm):=⟨aI,hlt⟩
   rcases Nat.mod_two_eq_zero_or_one k with aN | aN
   ·have f4:Int.tmod (k:Int) 2=0:=by rw [Int.tmod_eq_emod_of_nonneg (by omega)];omega
    have aX:Cs.serAt sq bits kk=((Cs.serAt sq bits k).1+(Cs.serAt sq bits k).2.2,(Cs.serAt sq bits k).2.1,(Cs.serAt sq bits k).2.2*sq / 2 ^ bits / kp):=by
     rw [aI,aU,aQ,aT];simp only [Cs.serAt];rw [if_pos aN]
    clear bU aQ aT aU bQ aI hlt aN;have x0:=hk.cell 0;have x1:=hk.cell 1
    go_wp2_with fail
    refine (zaJ A m c (Cs.serAt sq bits k).2.2 _ hp).mono ?_;rintro e w1 ⟨rfl,rfl⟩;rw [decide_eq_false (by have:=cR.out;omega)]
    go_wp2_with fail
    refine (zcF A0 A m0 c0 m c _ _ _ h0 hp (by have h:=h0.len;have h2:=zb8 (aJ k (by have:=aF.out;omega)).1 hM;omega) (by have h:=hp.len;have h2:=zb8 (aJ k (by have:=aF.out;omega)).2.2 hM;omega)).mono ?_;rintro e w3 ⟨A3,m3,c3,rfl,bE,aH⟩;have bK:=Ad hB aH;have aA:=hk.below aH hk.lt;have bJ:=hp.later aH;have bG:=h0.later aH;have bN:=h1.later aH;have bI:=hs.later aH;clear x0 x1 hk hp h0 h1 hB hs;have x0:=aA.cell 0;have x1:=aA.cell 1;have y0:=aA.frozen 0;have y1:=aA.frozen 1;have bP:=bK.setCell (p:=⟨g,0,none⟩) hg (.slice A3 m3 c3);have bM:=aA.set 0 (.slice A3 m3 c3);have bB:=bJ.store (i:=0) aA (zaP _ _ _ _ _ _) (.slice A3 m3 c3);have cA:=bG.store (i:=0) aA (zaP _ _ _ _ _ _) (.slice A3 m3 c3);have bX:=bN.store (i:=0) aA (zaP _ _ _ _ _ _) (.slice A3 m3 c3);have aS:=bE.store (i:=0) aA (zaP _ _ _ _ _ _) (.slice A3 m3 c3);have aM:=bI.store (i:=0) aA (zaP _ _ _ _ _ _) (.slice A3 m3 c3);have cB:(w3.setCell ⟨g,0,none⟩ (.slice A3 m3 c3)).heap.size=w3.heap.size:=by simp [World.setCell]
    clear bJ bG bN bE bK aA bI;go_upto_region 9 with (fail)
    generalize (w3.setCell ⟨g,0,none⟩ (.slice A3 m3 c3))=w4 at *;rw [←cB] at bB cA bX aS aM
    go_wp2_with fail
    refine (zaL A As m c ms cs _ _ w4 bB aM (by have h:=bB.len;have h2:=zb8 (aJ k (by have:=aF.out;omega)).2.2 hM;omega) (by have h:=aM.len;omega)).mono ?_;rintro e w5 ⟨A5,m5,c5,rfl,aP,aC⟩
    go_wp2_with fail
    refine (zaZ A5 m5 c5 _ bits w5 aP (by
     have h:=aP.len;have h2:=zaD (zb8 (aJ k (by have:=aF.out;omega)).2.2 hM) bY;omega) (by omega)).mono ?_
    rintro e w6 ⟨aZ,aE⟩;obtain ⟨A6,m6,c6,rfl,aK,aE⟩:=aE.ret aZ
    go_wp2_with fail
    refine (za9 A6 m6 c6 _ kp w6 aK (by
     have h:=aK.len;have h2:=zaD (zb8 (aJ k (by have:=aF.out;omega)).2.2 hM) bY;have h3:=zaa (Nat.div_le_self ((Cs.serAt sq bits k).2.2*sq) (2 ^ bits));omega) (by omega) (by omega)).mono ?_
    rintro e w7 ⟨m7,c7,rfl,cM,cJ⟩;have cL:=cM.nat;have aL:=(aC.trans (aE.mono aC.size)).trans (cJ.mono (Nat.le_trans aC.size aE.size))
    go_wp2_with fail
    go_roundw
    case rel=>
     refine ⟨kk,_,m7,c7,A3,m3,c3,A1,m1,c1,by have:=aF.out;omega,rfl,rfl,?_,?_,?_,bM.below aL bM.lt,aM.later aL,bP.trans (aL.mono bP.size)⟩
     ·rw [aX];exact cL
     ·rw [aX];exact aS.later aL
     ·rw [aX];exact bX.later aL
    case measure=>have:=aF.out;simp [intOf]<;>omega
   ·have f4:Int.tmod (k:Int) 2=1:=by rw [Int.tmod_eq_emod_of_nonneg (by omega)];omega
    have aX:Cs.serAt sq bits kk=((Cs.serAt sq bits k).1,(Cs.serAt sq bits k).2.1+(Cs.serAt sq bits k).2.2,(Cs.serAt sq bits k).2.2*sq / 2 ^ bits / kp):=by
     rw [aI,aU,aQ,aT];simp only [Cs.serAt];rw [if_neg (by omega)]
    clear bU aQ aT aU bQ aI hlt aN;have x0:=hk.cell 0;have x1:=hk.cell 1
    go_wp2_with fail
    refine (zaJ A m c (Cs.serAt sq bits k).2.2 _ hp).mono ?_;rintro e w1 ⟨rfl,rfl⟩;rw [decide_eq_false (by have:=cR.out;omega)]
    go_wp2_with fail
    refine (zcF A1 A m1 c1 m c _ _ _ h1 hp (by have h:=h1.len;have h2:=zb8 (aJ k (by have:=aF.out;omega)).2.1 hM;omega) (by have h:=hp.len;have h2:=zb8 (aJ k (by have:=aF.out;omega)).2.2 hM;omega)).mono ?_;rintro e w3 ⟨A3,m3,c3,rfl,bE,aH⟩;have bK:=Ad hB aH;have aA:=hk.below aH hk.lt;have bJ:=hp.later aH;have bG:=h0.later aH;have bN:=h1.later aH;have bI:=hs.later aH;clear x0 x1 hk hp h0 h1 hB hs;have x0:=aA.cell 0;have x1:=aA.cell 1;have y0:=aA.frozen 0;have y1:=aA.frozen 1;have bP:=bK.setCell (p:=⟨g,1,none⟩) hg (.slice A3 m3 c3);have bM:=aA.set 1 (.slice A3 m3 c3);have bB:=bJ.store (i:=1) aA (zaP _ _ _ _ _ _) (.slice A3 m3 c3);have cA:=bG.store (i:=1) aA (zaP _ _ _ _ _ _) (.slice A3 m3 c3);have bX:=bN.store (i:=1) aA (zaP _ _ _ _ _ _) (.slice A3 m3 c3);have aS:=bE.store (i:=1) aA (zaP _ _ _ _ _ _) (.slice A3 m3 c3);have aM:=bI.store (i:=1) aA (zaP _ _ _ _ _ _) (.slice A3 m3 c3);have cB:(w3.setCell ⟨g,1,none⟩ (.slice A3 m3 c3)).heap.size=w3.heap.size:=by simp [World.setCell]
    clear bJ bG bN bE bK aA bI;go_upto_region 9 with (fail)
    generalize (w3.setCell ⟨g,1,none⟩ (.slice A3 m3 c3))=w4 at *;rw [←cB] at bB cA bX aS aM
    go_wp2_with fail
    refine (zaL A As m c ms cs _ _ w4 bB aM (by have h:=bB.len;have h2:=zb8 (aJ k (by have:=aF.out;omega)).2.2 hM;omega) (by have h:=aM.len;omega)).mono ?_;rintro e w5 ⟨A5,m5,c5,rfl,aP,aC⟩
    go_wp2_with fail
    refine (zaZ A5 m5 c5 _ bits w5 aP (by
     have h:=aP.len;have h2:=zaD (zb8 (aJ k (by have:=aF.out;omega)).2.2 hM) bY;omega) (by omega)).mono ?_
    rintro e w6 ⟨aZ,aE⟩;obtain ⟨A6,m6,c6,rfl,aK,aE⟩:=aE.ret aZ
    go_wp2_with fail
    refine (za9 A6 m6 c6 _ kp w6 aK (by
     have h:=aK.len;have h2:=zaD (zb8 (aJ k (by have:=aF.out;omega)).2.2 hM) bY;have h3:=zaa (Nat.div_le_self ((Cs.serAt sq bits k).2.2*sq) (2 ^ bits));omega) (by omega) (by omega)).mono ?_
    rintro e w7 ⟨m7,c7,rfl,cM,cJ⟩;have cL:=cM.nat;have aL:=(aC.trans (aE.mono aC.size)).trans (cJ.mono (Nat.le_trans aC.size aE.size))
    go_wp2_with fail
    go_roundw
    case rel=>
     refine ⟨kk,_,m7,c7,A0,m0,c0,A3,m3,c3,by have:=aF.out;omega,rfl,rfl,?_,?_,?_,bM.below aL bM.lt,aM.later aL,bP.trans (aL.mono bP.size)⟩
     ·rw [aX];exact cL
     ·rw [aX];exact cA.later aL
     ·rw [aX];exact aS.later aL
    case measure=>have:=aF.out;simp [intOf]<;>omega
  ·obtain rfl:k=mm:=by omega
   go_wp2_with fail
   refine (zaJ A m c (Cs.serAt sq bits k).2.2 _ hp).mono ?_;rintro e w1 ⟨rfl,rfl⟩;rw [decide_eq_true hZ.out];have x0:=hk.cell 0;have x1:=hk.cell 1
   go_wp2_with fail
   refine (zc0 A0 A1 m0 c0 m1 c1 _ _ _ h0 h1 dI.out (by have h:=h0.len;have h2:=zb8 (aJ k (by omega)).1 hM;omega)).mono ?_;rintro e w2 ⟨A2,m2,c2,rfl,dA,cY⟩;go_wp2
   go_ret;exact ⟨A2,m2,c2,rfl,by rw [hV.out];exact dA,hB.trans (cY.mono hB.size)⟩
theorem znu (x s:Nat) (A:Option Addr) (n c:Nat) (w:World) (hT:Tabs w) (hx:NatS w w.heap.size A n c x) (hn:n≤536870912) (hs:s<18446744073709551616) :
  Calls Tryz.prog 133 #[.slice A n c,.int .u64 (s:Int)] w (zd4 w (lowQ false x s) (lowQ false (x+1) s)):=by
 have aJ:Below w.heap.size w (w.alloc (.cells #[.bool false,.slice none 0 0,.slice none 0 0,.bool false,.slice none 0 0,.slice none 0 0] 91)):=Ac;have q0:CBlk (w.alloc (.cells #[.bool false,.slice none 0 0,.slice none 0 0,.bool false,.slice none 0 0,.slice none 0 0] 91)) w.heap.size #[.bool false,.slice none 0 0,.slice none 0 0,.bool false,.slice none 0 0,.slice none 0 0] 91:=CBlk.new w _ _ _ rfl;have bA:=hx.later ((Below.refl _ _).alloc (Nat.le_refl _) (.cells #[.bool false,.slice none 0 0,.slice none 0 0,.bool false,.slice none 0 0,.slice none 0 0] 91));have bE:=hT.later aJ;have bC:=hx.len;have bJ:(digs s).length≤1:=zad (by rw [zdm,Nat.pow_one];exact hs);clear hx;go_enter Tryz.func133,Tryz.ntmps133
 go_upto_region 1 with (fail)
 generalize (w.alloc (.cells #[.bool false,.slice none 0 0,.slice none 0 0,.bool false,.slice none 0 0,.slice none 0 0] 91))=w1 at *
 go_wp2_with fail
 refine (zai (s:Int) w1 (by omega) (by omega)).mono ?_;rintro e w2 ⟨A2,m2,c2,rfl,aF,aE⟩;rw [Int.toNat_natCast] at aF;have aK:=Ad aJ aE;have q2:=q0.below aE q0.lt;have aN:=bA.later aE;have aQ:=bE.later aE;clear q0 bA aJ aE bE
 go_wp2_with fail
 refine (zbx false A A2 n c m2 c2 x s w2 aQ aN aF (by omega) (by have:=aF.len;omega)).mono ?_;rintro e w3 ⟨v3,rfl,⟨A3,m3,c3,A4,m4,c4,rfl,h3,h4⟩,aD⟩;have aP:=Ad aK aD;have q3:=q2.below aD q2.lt;have aX:=aN.later aD;have bI:=aQ.later aD;have bH:=aF.later aD;clear q2 aN aK aD aQ aF
 go_wp2_with fail
 refine (zai 1 w3 (by omega) (by omega)).mono ?_;rintro e w5 ⟨A5,m5,c5,rfl,aS,aA⟩;have aR:=Ad aP aA;have q5:=q3.below aA q3.lt;have bB:=aX.later aA;have aT:=bI.later aA;have aW:=bH.later aA;have aU:=h3.later aA;have aV:=h4.later aA;clear q3 aX aP aA bI bH h3 h4
 go_wp2_with fail
 refine (zcF A A5 n c m5 c5 x _ w5 bB aS (by omega) (by have h:=aS.len;have h2:(digs (Int.toNat 1)).length≤1:=zck;omega)).mono ?_;rintro e w6 ⟨A6,m6,c6,rfl,aM,aC⟩;have aO:=Ad aR aC;have q6:=q5.below aC q5.lt;have bF:=aT.later aC;have aL:=aW.later aC;have bG:=aU.later aC;have bD:=aV.later aC;clear q5 bB aR aC aT aS aW aU aV
 go_wp2_with fail
 refine (zbx false A6 A2 m6 c6 m2 c2 (x+Int.toNat 1) s w6 bF aM aL (by have h:=aM.len;have h2:(digs (Int.toNat 1)).length≤1:=zck;have h3:=zeD (Nat.le_of_eq bC) h2;omega) (by have:=aL.len;omega)).mono ?_;rintro e w7 ⟨v7,rfl,⟨A7,m7,c7,A8,m8,c8,rfl,h7,h8⟩,aG⟩;have bK:=Ad aO aG;have q7:=q6.below aG q6.lt;have aY:=bG.later aG;have aZ:=bD.later aG;clear q6 aO aG bF aM aL bG bD bC bJ;rw [show x+Int.toNat 1=x+1 from rfl] at h7 h8 ⊢;obtain ⟨qa,aI⟩:∃ qa,qa=lowQ false x s:=⟨_,rfl⟩;obtain ⟨qb,aH⟩:∃ qb,qb=lowQ false (x+1) s:=⟨_,rfl⟩;rw [←aI] at aY aZ;rw [←aH] at h7 h8
 try rw [←aI]
 try rw [←aH]
 have bL:=Aa aI;have bM:=Aa aH;clear aI aH;have y0:=q7.cell 0;have y1:=q7.cell 1;have y2:=q7.cell 2;have y3:=q7.cell 3;have y4:=q7.cell 4;have y5:=q7.cell 5;have z0:=q7.frozen 0;have z1:=q7.frozen 1;have z2:=q7.frozen 2;have z3:=q7.frozen 3;have z4:=q7.frozen 4;have z5:=q7.frozen 5;have hI:=zdj (p:=qa) (q:=qb) q7 bK (Nat.le_refl _) rfl aY aZ h7 h8;have hD:=q7.set6 (.bool qa.neg) (.slice A3 m3 c3) (.slice A4 m4 c4) (.bool qb.neg) (.slice A7 m7 c7) (.slice A8 m8 c8);unfold Go.Proofs.YtbkgkoenppkhpaaGreatDoor.set6 at hI hD;have r0:=hD.cell 0;have r1:=hD.cell 1;have r2:=hD.cell 2;have r3:=hD.cell 3;have r4:=hD.cell 4;have r5:=hD.cell 5;have HI:=Aa hI;clear hI hD;go_wp2
 refine bodyPost_ret (v := .agg #[.bool qa.neg,.slice A3 m3 c3,.slice A4 m4 c4,.bool qb.neg,.slice A7 m7 c7,.slice A8 m8 c8]) (by simp [results,Tryz.results133,go_sem,y0,y1,y2,y3,y4,y5]) rfl ⟨_,rfl,by obtain rfl:=bL.out;obtain rfl:=bM.out;exact HI.out⟩
theorem zgi (w:World) (hT:Tabs w):Calls Tryz.prog 207 #[.int .i64 0] w fun e w'=>e = .returned (.int .i64 48)∧w=w':=by
 have h0:=hT.prec.1;clear hT;go_enter Tryz.func207,Tryz.ntmps207
 go_wp2
 go_ret;exact ⟨rfl,rfl⟩
theorem zhx (x y:Nat) (w:World) (hT:Tabs w) (hx:x<18446744073709551616) (hy:y<18446744073709551616) :
  Calls Tryz.prog 116 #[.int .u64 (x:Int),.int .u64 (y:Int)] w (za2 w (lowQ false x y)):=by
 have aG:Below w.heap.size w (w.alloc (.cells #[.bool false,.slice none 0 0,.slice none 0 0] 87)):=Ac;have aL:(digs x).length≤1:=zad (by rw [zdm,Nat.pow_one];exact hx);have aK:(digs y).length≤1:=zad (by rw [zdm,Nat.pow_one];exact hy);go_enter Tryz.func116,Tryz.ntmps116
 go_wp2_with fail
 refine (zai (x:Int) _ (by omega) (by omega)).mono ?_;rintro e w2 ⟨A2,m2,c2,rfl,aF,aA⟩;rw [Int.toNat_natCast] at aF
 go_wp2_with fail
 refine (zai (y:Int) _ (by omega) (by omega)).mono ?_;rintro e w3 ⟨A3,m3,c3,rfl,aE,aD⟩;rw [Int.toNat_natCast] at aE;have aC:Below w.heap.size w w3:=(aG.trans (aA.mono aG.size)).trans (aD.mono (Nat.le_trans aG.size aA.size))
 go_wp2_with fail
 refine (zbx false A2 A3 m2 c2 m3 c3 x y w3 (hT.later aC) (aF.later aD) aE (by have:=aF.len;omega) (by have:=aE.len;omega)).mono ?_;rintro e w4 ⟨v4,rfl,⟨A4,m4,c4,A5,m5,c5,rfl,h4,h5⟩,aI⟩;have aJ:=Ad aC aI;have hk:=(((zae.new w false (.slice none 0 0) (.slice none 0 0)).below aA (by simp)).below aD (by have:=aA.size;simp at this;omega)).below aI (by have:=aC.size;have:=aA.size;have:=aD.size;simp at *; omega);obtain ⟨k0,k1,k2,f0,f1,f2,_⟩:=hk.cells;generalize lowQ false x y=q at *;have aH:=zan aJ (g:=w.heap.size) (Nat.le_refl _) (.bool q.neg) (.slice A4 m4 c4) (.slice A5 m5 c5);go_wp2
 refine bodyPost_ret (v := .agg #[.bool q.neg,.slice A4 m4 c4,.slice A5 m5 c5]) (by simp [results,Tryz.results116,go_sem,k0,k1,k2]) rfl ⟨_,rfl,⟨A4,m4,c4,A5,m5,c5,rfl,?_,?_⟩,aH⟩
 ·rw [zag];exact h4.res hk _ _ _
 ·rw [zag];exact h5.res hk _ _ _
end
section
open Go.RowKit
theorem zmi:∀ (l:List Bool) (i:Nat),l[i]? = some false→(l.set i true).countP (fun b => !b)+1=l.countP (fun b => !b)
 | [],_,h=>by simp at h
 | b :: l,0,h=>by
  simp at h
  subst h;simp
 | b :: l,i+1,h=>by
  have h2:=zmi l i (by simpa using h);rw [List.set_cons_succ,List.countP_cons,List.countP_cons];omega
theorem zjh:∀ (l:List Bool),l.countP (fun b => !b)=0→∀ (i:Nat) (b:Bool),l[i]? = some b→b=true
 | [],_,i,b,h=>by simp at h
 | c :: l,h0,i,b,h=>by
  rw [List.countP_cons] at h0
  cases i with
  | zero=>
   simp at h
   subst h
   cases c
   ·simp at h0
   ·rfl
  | succ i=>exact zjh l (by omega) i b (by simpa using h)
theorem zlk {P:Program} {ops:Array Oper} {Q:Exit→Act→World→Prop} (Inv:Array Bool→Act→World→Prop)
  (hstep:∀ (i:Nat) (o:Oper) (listed:Array Bool) (a:Act) (w:World),ops[i]? = some o→Inv listed a w→listed[i]? = some false →
   (∀ e ∈ o.after,Region.binds .any e=true→listed.getD e.on false=true)→wpOp P ops Q i (fun a' w'=>Inv (listed.setIfInBounds i true) a' w') a w)
  (hdone:∀ (listed:Array Bool) (a:Act) (w:World),Inv listed a w→Region.ready .any ops listed=[]→Q .normal a w) :
  ∀ (fuel:Nat) (listed:Array Bool) (a:Act) (w:World),listed.toList.countP (fun b => !b)≤fuel→Inv listed a w→wpAny P .any ops Q fuel listed a w:=by
 have aC:∀ (listed:Array Bool) (i:Nat),listed.getD i true=false→listed[i]? = some false:=by
  intro listed i h;rw [Array.getD_eq_getD_getElem?] at h
  cases hl:listed[i]? with
  | none=>rw [hl] at h;cases h
  | some b=>rw [hl] at h;simp at h;rw [h]
 intro fuel
 induction fuel with
 | zero=>
  intro listed a w hc hI;have hr:Region.ready .any ops listed=[]:=by
   cases hq:Region.ready .any ops listed with
   | nil=>rfl
   | cons j l=>
    have hj:j ∈ Region.ready .any ops listed:=by rw [hq];exact List.mem_cons_self
    have h1:=aC listed j (mem_ready.1 hj).1;have h2:=zjh listed.toList (by omega) j false (by simpa using h1)
    cases h2
  exact ⟨hr,hdone listed a w hI hr⟩
 | succ fuel ih=>
  intro listed a w hc hI;refine ⟨fun hr=>hdone listed a w hI hr,fun i hi => ?_⟩;obtain ⟨hu,o,ho,aA⟩:=mem_ready.1 hi;have h1:=aC listed i hu;refine wpOp_mono (fun a' w' h=>ih _ a' w' ?_ h) (hstep i o listed a w ho hI h1 aA);have h3:=zmi listed.toList i (by simpa using h1);rw [Array.toList_setIfInBounds];omega
theorem zkH {ops:Array Oper} {listed:Array Bool} (htop:∀ (i:Nat) (o:Oper),ops[i]? = some o→∀ e ∈ o.after,e.on<i) (hr:Region.ready .any ops listed=[]) :
  ∀ (n i:Nat),i<n→i<ops.size→∀ b,listed[i]? = some b→b=true:=by
 intro n
 induction n with
 | zero=>intro i h;omega
 | succ n ih=>
  intro i hi hs b hb
  cases b with
  | true=>rfl
  | false=>
   exfalso
   have aA:i<listed.size:=(Array.getElem?_eq_some_iff.1 hb).1;have hm:i ∈ Region.ready .any ops listed:=by
    refine mem_ready.2 ⟨by rw [Array.getD_eq_getD_getElem?,hb];rfl,ops[i],Array.getElem?_eq_getElem hs,fun e he _ => ?_⟩;have h1:=htop i ops[i] (Array.getElem?_eq_getElem hs) e he;have h2:listed[e.on]? = some listed[e.on]:=Array.getElem?_eq_getElem (by omega);have h3:=ih e.on (by omega) (by omega) _ h2;rw [Array.getD_eq_getD_getElem?,h2,h3];rfl
   rw [hr] at hm
   cases hm
theorem zpf {ops:Array Oper} (h:(List.range ops.size).all (fun i=>((ops[i]?).map (fun o=>o.after.toList.all (fun e=>decide (e.on<i)))).getD true)=true) :
  ∀ (i:Nat) (o:Oper),ops[i]? = some o→∀ e ∈ o.after,e.on<i:=by
 intro i o ho e he;have hi:i<ops.size:=(Array.getElem?_eq_some_iff.1 ho).1;have h1:=List.all_eq_true.1 h i (List.mem_range.2 hi);rw [ho] at h1;have h2:=List.all_eq_true.1 h1 e (by simpa using he)
 simpa using h2
theorem zdf {P:Program} {id:Nat} {ops:Array Oper} {Q:Exit→Act→World→Prop} {a:Act} {w:World} (hm:P.follows .mixedOrders=true) (Inv:Array Bool→Act→World→Prop)
  (htop:(List.range ops.size).all (fun i=>((ops[i]?).map (fun o=>o.after.toList.all (fun e=>decide (e.on<i)))).getD true)=true)
  (h0:Inv (Array.replicate ops.size false) a w.drew)
  (hstep:∀ (i:Nat) (o:Oper) (listed:Array Bool) (a:Act) (w:World),ops[i]? = some o→Inv listed a w→listed[i]? = some false →
   (∀ e ∈ o.after,Region.binds .any e=true→listed.getD e.on false=true)→wpOp P ops Q i (fun a' w'=>Inv (listed.setIfInBounds i true) a' w') a w)
  (hdone:∀ (listed:Array Bool) (a:Act) (w:World),Inv listed a w→(∀ i b,i<ops.size→listed[i]? = some b→b=true)→Q .normal a w) :
  (Code.region id ops true).wp P Q a w:=by
 refine wp_region_any hm (zlk Inv hstep (fun listed a w hI hr=>hdone listed a w hI fun i b hi hb=>zkH (zpf htop) hr (i+1) i (by omega) hi b hb) _ _ _ _ ?_ h0);rw [Array.toList_replicate];exact Nat.le_trans List.countP_le_length (by rw [List.length_replicate];exact Nat.le_refl _)
theorem za5 {P:Program} {ops:Array Oper} {Q:Exit→Act→World→Prop} {Inv:Array Bool→Act→World→Prop} {i:Nat} {o:Oper} {listed:Array Bool} {a:Act} {w:World} (ho:ops[i]? = some o)
  (h:∀ K':Act→World→Prop,Hid (∀ a' w',Inv (listed.setIfInBounds i true) a' w'→K' a' w')→if Region.wanted o (yielded ops a.tmps)=true then Oper.wp P o a w K' Q else K' (a.put o.dst undef) w) :
  wpOp P ops Q i (fun a' w'=>Inv (listed.setIfInBounds i true) a' w') a w:=wpOp_step ho fun K' hK=>h K' (Aa hK)
end
end Go.Proofs.YtbkgkoenppkhpaaGreatDoor
