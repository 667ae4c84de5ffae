/- Contracts of package number's arc tangent and circle, for the numbers at which the series ends. -/
import Derived.Test.YtmkondcdejlhcaaGreatDoorFRat5
set_option maxRecDepth 100000
set_option maxHeartbeats 8000000
namespace Go.Proofs.YtmkondcdejlhcaaGreatDoor
open Go.RowKit Bn
theorem zmN{x K:Nat}(h:x<2^(64*K)):(digs x).length≤K:=by
 refine zab ?_;rw[show B=2^64 from rfl,←Nat.pow_mul];exact h
theorem zaV(A1 A2:Option Addr)(n1 c1 n2 c2:Nat):zds #[.slice A1 n1 c1,.slice A2 n2 c2]:=by
 intro i v hv k d
 rcases (show i=0∨i=1∨2≤i from by omega) with rfl | rfl | h
 ·injection hv with hv;subst hv;intro h;cases h
 ·injection hv with hv;subst hv;intro h;cases h
 ·rw[Array.getElem?_eq_none h] at hv;cases hv
theorem zcR{n bits k:Nat}(hn:2≤n)(hb:bits≤1048576):(digs (Cs.tanAt n bits k).1).length≤1048576∧(digs (Cs.tanAt n bits k).2.1).length≤1048576∧(digs (Cs.tanAt n bits k).2.2).length≤1048576:=by
 have h:=Cs.tan_bound n bits hn k;obtain⟨N,hN⟩:∃ N,N=64*1048576:=⟨_,rfl⟩;have h2:2*2^bits<2^N:=by
  rw[show 2*2^bits=2^(bits+1) by rw[Nat.pow_succ,Nat.mul_comm]];exact Nat.pow_lt_pow_right (by omega) (by omega)
 generalize 2*2^bits=X at h h2;have h3:∀ x,x≤X→(digs x).length≤1048576:=fun x hx=>zmN (by rw[←hN];exact Nat.lt_of_le_of_lt hx h2)
 exact⟨h3 _ (by omega),h3 _ (by omega),h3 _ (by omega)⟩
theorem zpm{bits:Nat}(hb:bits≤1048576):(digs (2^bits)).length≤1048576:=by
 obtain⟨N,hN⟩:∃ N,N=64*1048576:=⟨_,rfl⟩;exact zmN (by rw[←hN];exact Nat.pow_lt_pow_right (by omega) (by omega))
theorem zd6{z:Int}(h0:0≤z)(h1:z<18446744073709551616):IntKind.u64.wrap z=z:=by rw[zht];omega
theorem zfE(n bits k0:Nat)(w:World)(hok:Cs.TanOk n bits k0)(hn:2≤n)(hn2:n<4294967296)(hb:bits≤1048576)(hk0:k0<4294967296) :
  Calls Tryz.prog 220 #[.int .u64 (n:Int),.int .i64 (bits:Int)] w (zch w (Cs.tanVal n bits k0)):=by
 have hZ:=Aa hok.zero;have bK:=Aa hok.pos;have bY:=Aa hok.le;have hV:Hid (Cs.tanVal n bits k0=(Cs.tanAt n bits k0).1-(Cs.tanAt n bits k0).2.1):=rfl;clear hok;obtain⟨nn,aS⟩:∃ nn,nn=n*n:=⟨_,rfl⟩;have bX:4≤nn:=by rw[aS];exact Nat.mul_le_mul hn hn
 have bV:nn<18446744073709551616:=by
  rw[aS];have:n*n<4294967296*4294967296:=Nat.mul_lt_mul'' hn2 hn2;omega
 have cB:IntKind.u64.wrap ((n:Int)*(n:Int))=(nn:Int):=by
  rw[zd6 (Int.mul_nonneg (by omega) (by omega)) (by rw[←Int.natCast_mul,←aS];omega),←Int.natCast_mul,←aS]
 have bQ:=Aa aS;clear aS;go_enter Tryz.func220,Tryz.ntmps220
 go_wp2_with fail
 refine(zai 1 w (by omega) (by omega)).mono ?_;rintro e w1 ⟨A1,m1,c1,rfl,bN,bJ⟩
 go_wp2_with fail
 refine(zaw A1 m1 c1 _ bits w1 bN (by rw[←bN.len];exact Nat.le_trans zbD (by omega)) (by omega)).mono ?_;rintro e w2 ⟨A2,m2,c2,rfl,aL,aC⟩;have aH:=Ad bJ aC;rw[show Int.toNat 1*2^bits=2^bits by simp] at aL;have cA:m2≤1048576:=by
  rw[←aL.len];exact zpm hb
 go_wp2_with fail
 refine(zbe A2 m2 c2 _ n w2 aL (by omega) (by omega) (by omega)).mono ?_;rintro e w3 ⟨m3,c3,rfl,bO,aD⟩;have bP:=bO.nat;have aI:=Ad aH aD;have bW:Below w.heap.size w (w3.alloc (.cells #[.slice none 0 0,.slice none 0 0] 229)):=aI.alloc aI.size _;have bT:CBlk (w3.alloc (.cells #[.slice none 0 0,.slice none 0 0] 229)) w3.heap.size #[.slice none 0 0,.slice none 0 0] 229:=CBlk.new _ _ _ _ rfl;have bZ:=bP.later ((Below.refl _ _).alloc (Nat.le_refl _) (.cells #[.slice none 0 0,.slice none 0 0] 229));obtain⟨g,bF⟩:∃ g,g=w3.heap.size:=⟨_,rfl⟩;have hg:w.heap.size≤g:=by rw[bF];exact aI.size
 rw[←bF] at bT;have HG:=Aa bF;clear bF aH aI bO bN aL cA bJ aC aD bP;go_upto_region 4 with(fail)
 rw[←HG.out];generalize (w3.alloc (.cells #[.slice none 0 0,.slice none 0 0] 229))=wa at *
 go_wp2_with fail
 go_loopw [5,8] (fun pv kv wr=>∃ (k:Nat) (A:Option Addr) (m c:Nat) (A0:Option Addr) (m0 c0:Nat) (A1:Option Addr) (m1 c1:Nat),k≤k0∧pv = .slice A m c∧kv = .int .u64 (k:Int)∧NatS wr wr.heap.size A m c (Cs.tanAt n bits k).2.2∧NatS wr wr.heap.size A0 m0 c0 (Cs.tanAt n bits k).1∧NatS wr wr.heap.size A1 m1 c1 (Cs.tanAt n bits k).2.1∧CBlk wr g #[.slice A0 m0 c0,.slice A1 m1 c1] 229∧Below w.heap.size w wr) (fun _ kv _=>k0-(intOf kv).toNat)
 case atStart=>exact⟨0,_,m3,c3,none,0,0,none,0,0,Nat.zero_le _,rfl,rfl,bZ,NatS.nil _ _,NatS.nil _ _,bT,bW⟩
 case round=>
  obtain⟨k,A,m,c,A0,m0,c0,A1,m1,c1,cC,rfl,rfl,hp,h0,h1,hk,hB⟩:=hrel
  by_cases hlt:k<k0
  ·have bU:=Aa (bK.out k hlt)
   obtain⟨k2,aY⟩:∃ k2,k2=2*k:=⟨_,rfl⟩;obtain⟨aF,aK⟩:∃ aF,aF=2*k+1:=⟨_,rfl⟩;obtain⟨kk,aE⟩:∃ kk,kk=k+1:=⟨_,rfl⟩;have f1:IntKind.u64.wrap (2*(k:Int))=(k2:Int):=by rw[zd6 (by omega) (by omega)];omega
   have f2:IntKind.u64.wrap ((k2:Int)+1)=(aF:Int):=by rw[zd6 (by omega) (by omega)];omega
   have f3:IntKind.u64.wrap ((k:Int)+1)=(kk:Int):=by rw[zd6 (by omega) (by omega)];omega
   have aT:0<aF∧aF<18446744073709551616:=by omega
   have bI:Hid (kk=k+1∧k<k0):=⟨aE,hlt⟩;obtain⟨bR,bS⟩:=aT
   rcases Nat.mod_two_eq_zero_or_one k with aM | aM
   ·have f4:Int.tmod (k:Int) 2=0:=by rw[Int.tmod_eq_emod_of_nonneg (by omega)];omega
    have aR:Cs.tanAt n bits kk=((Cs.tanAt n bits k).1+(Cs.tanAt n bits k).2.2/aF,(Cs.tanAt n bits k).2.1,(Cs.tanAt n bits k).2.2/nn):=by
     rw[aE];simp only[Cs.tanAt];rw[if_pos aM,aK,bQ.out]
    clear aY aK aE hlt aM
    go_wp2_with fail
    refine(zaO A m c (Cs.tanAt n bits k).2.2 _ hp).mono ?_;rintro e w1 ⟨rfl,rfl⟩;rw[decide_eq_false (by have:=bU.out;omega)]
    go_wp2_with fail
    refine(zbe A m c _ aF _ hp (by have h:=hp.len;have h2:=(zcR (k:=k) hn hb).2.2;omega) (by omega) (by omega)).mono ?_;rintro e w2 ⟨m2,c2,rfl,aX,aC⟩;have aO:=aX.nat;have aH:=Ad hB aC;have aG:=hk.below aC hk.lt;have bC:=hp.later aC;have aN:=h0.later aC;have aP:=h1.later aC;clear aX hk hp h0 h1;have x0:=aG.cell 0;have x1:=aG.cell 1
    go_wp2_with fail
    refine(zcq A0 _ m0 c0 _ _ _ _ _ aN aO (by have h:=aN.len;have h2:=(zcR (k:=k) hn hb).1;omega) (by
     have h:=aO.len;have h2:=(zcR (k:=k) hn hb).2.2;have h3:=zaa (Nat.div_le_self (Cs.tanAt n bits k).2.2 aF);omega)).mono ?_
    rintro e w3 ⟨A3,m3,c3,rfl,aW,aD⟩;have aI:=Ad aH aD;have aA:=aG.below aD aG.lt;have aV:=bC.later aD;have bD:=aN.later aD;have bE:=aP.later aD;clear x0 x1 aG bC aN aP aO aH;have x0:=aA.cell 0;have x1:=aA.cell 1;have y0:=aA.frozen 0;have y1:=aA.frozen 1;have bB:=aI.setCell (p:=⟨g,0,none⟩) hg (.slice A3 m3 c3);have aU:=aA.set 0 (.slice A3 m3 c3);have aQ:=aV.store (i:=0) aA (zaV _ _ _ _ _ _) (.slice A3 m3 c3);have bG:=bD.store (i:=0) aA (zaV _ _ _ _ _ _) (.slice A3 m3 c3);have bH:=bE.store (i:=0) aA (zaV _ _ _ _ _ _) (.slice A3 m3 c3);have bA:=aW.store (i:=0) aA (zaV _ _ _ _ _ _) (.slice A3 m3 c3);have aZ:(w3.setCell ⟨g,0,none⟩ (.slice A3 m3 c3)).heap.size=w3.heap.size:=by simp[World.setCell]
    clear aV bD bE aW aI aA;go_upto_region 8 with(fail)
    generalize (w3.setCell ⟨g,0,none⟩ (.slice A3 m3 c3))=w4 at *;rw[←aZ] at aQ bG bH bA
    go_wp2_with fail
    refine(zbe A m c _ nn _ aQ (by have h:=aQ.len;have h2:=(zcR (k:=k) hn hb).2.2;omega) (by omega) (by omega)).mono ?_;rintro e w5 ⟨m5,c5,rfl,bL,aJ⟩;have bM:=bL.nat
    go_wp2_with fail
    go_roundw
    case rel=>
     refine⟨kk,_,m5,c5,A3,m3,c3,A1,m1,c1,by have:=bI.out;omega,rfl,rfl,?_,?_,?_,aU.below aJ aU.lt,bB.trans (aJ.mono bB.size)⟩
     ·rw[aR,←aZ];exact bM
     ·rw[aR];exact bA.later aJ
     ·rw[aR];exact bH.later aJ
    case measure=>have:=bI.out;simp[intOf]<;>omega
   ·have f4:Int.tmod (k:Int) 2=1:=by rw[Int.tmod_eq_emod_of_nonneg (by omega)];omega
    have aR:Cs.tanAt n bits kk=((Cs.tanAt n bits k).1,(Cs.tanAt n bits k).2.1+(Cs.tanAt n bits k).2.2/aF,(Cs.tanAt n bits k).2.2/nn):=by
     rw[aE];simp only[Cs.tanAt];rw[if_neg (by omega),aK,bQ.out]
    clear aY aK aE hlt aM
    go_wp2_with fail
    refine(zaO A m c (Cs.tanAt n bits k).2.2 _ hp).mono ?_;rintro e w1 ⟨rfl,rfl⟩;rw[decide_eq_false (by have:=bU.out;omega)]
    go_wp2_with fail
    refine(zbe A m c _ aF _ hp (by have h:=hp.len;have h2:=(zcR (k:=k) hn hb).2.2;omega) (by omega) (by omega)).mono ?_;rintro e w2 ⟨m2,c2,rfl,aX,aC⟩;have aO:=aX.nat;have aH:=Ad hB aC;have aG:=hk.below aC hk.lt;have bC:=hp.later aC;have aN:=h0.later aC;have aP:=h1.later aC;clear aX hk hp h0 h1;have x0:=aG.cell 0;have x1:=aG.cell 1
    go_wp2_with fail
    refine(zcq A1 _ m1 c1 _ _ _ _ _ aP aO (by have h:=aP.len;have h2:=(zcR (k:=k) hn hb).2.1;omega) (by
     have h:=aO.len;have h2:=(zcR (k:=k) hn hb).2.2;have h3:=zaa (Nat.div_le_self (Cs.tanAt n bits k).2.2 aF);omega)).mono ?_
    rintro e w3 ⟨A3,m3,c3,rfl,aW,aD⟩;have aI:=Ad aH aD;have aA:=aG.below aD aG.lt;have aV:=bC.later aD;have bD:=aN.later aD;have bE:=aP.later aD;clear x0 x1 aG bC aN aP aO aH;have x0:=aA.cell 0;have x1:=aA.cell 1;have y0:=aA.frozen 0;have y1:=aA.frozen 1;have bB:=aI.setCell (p:=⟨g,1,none⟩) hg (.slice A3 m3 c3);have aU:=aA.set 1 (.slice A3 m3 c3);have aQ:=aV.store (i:=1) aA (zaV _ _ _ _ _ _) (.slice A3 m3 c3);have bG:=bD.store (i:=1) aA (zaV _ _ _ _ _ _) (.slice A3 m3 c3);have bH:=bE.store (i:=1) aA (zaV _ _ _ _ _ _) (.slice A3 m3 c3);have bA:=aW.store (i:=1) aA (zaV _ _ _ _ _ _) (.slice A3 m3 c3);have aZ:(w3.setCell ⟨g,1,none⟩ (.slice A3 m3 c3)).heap.size=w3.heap.size:=by simp[World.setCell]
    clear aV bD bE aW aI aA;go_upto_region 8 with(fail)
    generalize (w3.setCell ⟨g,1,none⟩ (.slice A3 m3 c3))=w4 at *;rw[←aZ] at aQ bG bH bA
    go_wp2_with fail
    refine(zbe A m c _ nn _ aQ (by have h:=aQ.len;have h2:=(zcR (k:=k) hn hb).2.2;omega) (by omega) (by omega)).mono ?_;rintro e w5 ⟨m5,c5,rfl,bL,aJ⟩;have bM:=bL.nat
    go_wp2_with fail
    go_roundw
    case rel=>
     refine⟨kk,_,m5,c5,A0,m0,c0,A3,m3,c3,by have:=bI.out;omega,rfl,rfl,?_,?_,?_,aU.below aJ aU.lt,bB.trans (aJ.mono bB.size)⟩
     ·rw[aR,←aZ];exact bM
     ·rw[aR];exact bG.later aJ
     ·rw[aR];exact bA.later aJ
    case measure=>have:=bI.out;simp[intOf]<;>omega
  ·obtain rfl:k=k0:=by omega
   go_wp2_with fail
   refine(zaO A m c (Cs.tanAt n bits k).2.2 _ hp).mono ?_;rintro e w1 ⟨rfl,rfl⟩;rw[decide_eq_true hZ.out];have x0:=hk.cell 0;have x1:=hk.cell 1
   go_wp2_with fail
   refine(zc9 A0 A1 m0 c0 m1 c1 _ _ _ h0 h1 bY.out (by have h:=h0.len;have h2:=(zcR (k:=k) hn hb).1;omega)).mono ?_;rintro e w2 ⟨A2,m2,c2,rfl,hn2,aC⟩;go_wp2
   go_ret;exact⟨A2,m2,c2,rfl,by rw[hV.out];exact hn2,hB.trans (aC.mono hB.size)⟩
theorem zeY{n bits k:Nat}(hn:2≤n)(hb:bits≤1048576):(digs (Cs.tanVal n bits k)).length≤1048576:=
 Nat.le_trans (zaa (Nat.sub_le _ _)) (zcR (k:=k) hn hb).1
theorem zkO (bits k l:Nat) (w:World) (h5:Cs.TanOk 5 bits k) (h239:Cs.TanOk 239 bits l) (hc:Cs.tanVal 239 bits l*8≤Cs.tanVal 5 bits k*32) (hb:bits≤1048576) (hk:k<4294967296) (hl:l<4294967296) :
  Calls Tryz.prog 207 #[.int .i64 (bits:Int)] w (zch w (Cs.circleOf bits k l)):=by
 have H5:=Aa (zfE 5 bits k w h5 (by omega) (by omega) hb hk);have H9:=Aa (fun W=>zfE 239 bits l W h239 (by omega) (by omega) hb hl);have l5:=zeY (n:=5) (k:=k) (by omega) hb;have l9:=zeY (n:=239) (k:=l) (by omega) hb;have HV:Hid (Cs.circleOf bits k l=Cs.tanVal 5 bits k*32-Cs.tanVal 239 bits l*8):=rfl;clear h5 h239;generalize Cs.tanVal 5 bits k=x at *;generalize Cs.tanVal 239 bits l=y at *;generalize Cs.circleOf bits k l=z at *;have aY:(digs 32).length≤1:=zab (by decide);have e8:(digs 8).length≤1:=zab (by decide);go_enter Tryz.func207,Tryz.ntmps207
 go_wp2_with fail
 refine H5.out.mono ?_;rintro e w1 ⟨A1,m1,c1,rfl,aX,aL⟩
 go_wp2_with fail
 refine(H9.out w1).mono ?_;rintro e w2 ⟨A2,m2,c2,rfl,aV,aS⟩;have aT:=Ad aL aS;have aE:=aX.later aS;clear aX aL aS
 go_wp2_with fail
 refine(zai 32 w2 (by omega) (by omega)).mono ?_;rintro e w3 ⟨A3,m3,c3,rfl,aM,aJ⟩;have aN:=Ad aT aJ;have aC:=aE.later aJ;have aF:=aV.later aJ;clear aE aV aT aJ
 go_wp2_with fail
 refine(zaI A1 A3 m1 c1 m3 c3 x 32 w3 aC aM (by have:=aC.len;omega) (by have h:=aM.len;have h2:(digs (Int.toNat 32)).length≤1:=aY;omega)).mono ?_;rintro e w4 ⟨A4,m4,c4,rfl,aW,aP⟩;have aO:=Ad aN aP;have aG:=aF.later aP;clear aC aM aF aN aP
 go_wp2_with fail
 refine(zai 8 w4 (by omega) (by omega)).mono ?_;rintro e w5 ⟨A5,m5,c5,rfl,aR,aI⟩;have aK:=Ad aO aI;have aH:=aW.later aI;have aA:=aG.later aI;clear aW aG aO aI
 go_wp2_with fail
 refine(zaI A2 A5 m2 c2 m5 c5 y 8 w5 aA aR (by have:=aA.len;omega) (by have h:=aR.len;have h2:(digs (Int.toNat 8)).length≤1:=e8;omega)).mono ?_;rintro e w6 ⟨A6,m6,c6,rfl,aZ,aQ⟩;have aU:=Ad aK aQ;have aD:=aH.later aQ;clear aH aA aR aK aQ
 go_wp2_with fail
 refine(zc9 A4 A6 m4 c4 m6 c6 _ _ w6 aD aZ hc (by have:=aD.len;have:=zaB l5 aY;omega)).mono ?_;rintro e w7 ⟨A7,m7,c7,rfl,bB,bA⟩;go_wp2
 go_ret;exact⟨A7,m7,c7,rfl,by rw[HV.out];exact bB,aU.trans (bA.mono aU.size)⟩
theorem zck{x M:Nat}(h:x<2^M)(hM:M≤1048576):(digs x).length≤1048576:=by
 obtain⟨N,hN⟩:∃ N,N=64*1048576:=⟨_,rfl⟩;exact zmN (by rw[←hN];exact Nat.lt_of_lt_of_le h (Nat.pow_le_pow_right (by omega) (by omega)))
theorem zkw(neg:Bool)(top bot bits k l mm M:Nat)(At Ab:Option Addr)(nt ct nb cb:Nat)(w:World)(h5:Cs.TanOk 5 bits k)(h239:Cs.TanOk 239 bits l)(hc:Cs.tanVal 239 bits l*8≤Cs.tanVal 5 bits k*32)
 (hok:Cs.SerOk (Cs.sqOf (Cs.circleOf bits k l) top bot bits) bits mm M)(hM:M≤1048576)(hb:bits≤1048576)(hk0:k<4294967296)(hl0:l<4294967296)(hmm:mm<1073741824)
 (ht:NatS w w.heap.size At nt ct top)(hbo:NatS w w.heap.size Ab nb cb bot)(hbot:0<bot)(hnt:nt≤1048576) :
  Calls Tryz.prog 186 #[.agg #[.bool neg,.slice At nt ct,.slice Ab nb cb],.int .i64 (bits:Int)] w (zch w (Cs.serVal (Cs.sqOf (Cs.circleOf bits k l) top bot bits) bits mm)):=by
 have cO:(digs (Cs.circleOf bits k l)).length≤1048578:=by
  have h:=zaB (zeY (n:=5) (k:=k) (by omega) hb) (show(digs 32).length≤1 from zab (by decide));exact Nat.le_trans (Nat.le_trans (zaa (Nat.sub_le _ _)) h) (by omega)
 have cP:=ht.len;have cQ:=zaB cO (Nat.le_of_eq cP);have HC:=Aa (fun W=>zkO bits k l W h5 h239 hc hb hk0 hl0);have cF:Hid (Cs.sqOf (Cs.circleOf bits k l) top bot bits=Cs.circleOf bits k l*top/bot*(Cs.circleOf bits k l*top/bot)/2^bits):=rfl;clear h5 h239 hc;generalize Cs.circleOf bits k l=ci at *;obtain⟨sq,bJ⟩:∃ sq,sq=Cs.sqOf ci top bot bits:=⟨_,rfl⟩;rw[←bJ] at hok cF ⊢;have aQ:(digs (ci*top/bot)).length≤1048578+nt:=Nat.le_trans (zaa (Nat.div_le_self _ _)) cQ;have bZ:(digs sq).length≤1048578+nt+(1048578+nt):=by
  rw[cF.out];exact Nat.le_trans (zaa (Nat.div_le_self _ _)) (zaB aQ aQ)
 have hZ:=Aa hok.zero;have cE:=Aa hok.pos;have dL:=Aa hok.le;have bR:=hok.bound;have aJ:∀ j,j≤mm→_:=fun j hj=>bR j (by omega)
 have hV:Hid (Cs.serVal sq bits mm=(Cs.serAt sq bits mm).1-(Cs.serAt sq bits mm).2.1):=rfl;clear hok bJ bR cP;have dJ:Below w.heap.size w (w.alloc (.cells #[.bool neg,.slice At nt ct,.slice Ab nb cb] 91)):=Ac;have q0:CBlk (w.alloc (.cells #[.bool neg,.slice At nt ct,.slice Ab nb cb] 91)) w.heap.size #[.bool neg,.slice At nt ct,.slice Ab nb cb] 91:=CBlk.new w _ _ _ rfl;go_enter Tryz.func186,Tryz.ntmps186
 go_wp2_with fail
 generalize (w.alloc (.cells #[.bool neg,.slice At nt ct,.slice Ab nb cb] 91))=w3 at *;have a1:=q0.cell 1;have a2:=q0.cell 2;have al:=q0.lt;have aD:Below w.heap.size w w3.drew:=dJ.drew
 go_region_held3 (fun w'=>w'.cell? ⟨w.heap.size,1,none⟩=some (.slice At nt ct)∧w'.cell? ⟨w.heap.size,2,none⟩=some (.slice Ab nb cb))
  (first | exact⟨a1,a2⟩ | exact⟨(aG.cell (p:=⟨w.heap.size,1,none⟩) al).trans a1,(aG.cell (p:=⟨w.heap.size,2,none⟩) al).trans a2⟩ | exact⟨(aC.cell (p:=⟨w.heap.size,1,none⟩) bD).trans ((aG.cell (p:=⟨w.heap.size,1,none⟩) al).trans a1),(aC.cell (p:=⟨w.heap.size,2,none⟩) bD).trans ((aG.cell (p:=⟨w.heap.size,2,none⟩) al).trans a2)⟩ | exact⟨(aE.cell (p:=⟨w.heap.size,1,none⟩) cN).trans ((aC.cell (p:=⟨w.heap.size,1,none⟩) bD).trans ((aG.cell (p:=⟨w.heap.size,1,none⟩) al).trans a1)),(aE.cell (p:=⟨w.heap.size,2,none⟩) cN).trans ((aC.cell (p:=⟨w.heap.size,2,none⟩) bD).trans ((aG.cell (p:=⟨w.heap.size,2,none⟩) al).trans a2))⟩)
  (first
   |(go_at_call 207;refine(HC.out w3.drew).mono ?_;rintro e w4 ⟨A4,m4,c4,rfl,aO,aG⟩;have bD:=Nat.lt_of_lt_of_le al aG.size)
   |(go_at_call 113;refine(zaI A4 At m4 c4 nt ct ci top w4 aO ((ht.later aD).later aG) (by have:=aO.len;omega) (by omega)).mono ?_;rintro e w5 ⟨A5,m5,c5,rfl,aT,aC⟩;have cN:=Nat.lt_of_lt_of_le bD aC.size)
   |(go_at_call 142;refine(zcK A5 Ab m5 c5 nb cb (ci*top) bot w5 aT (((hbo.later aD).later aG).later aC) hbot (by have:=aT.len;omega)).mono ?_;rintro e w6 ⟨A6,m6,c6,A7,m7,c7,rfl,aK,dH,aE⟩))
 have cL:Below w.heap.size w w6:=((aD.trans (aG.mono aD.size)).trans (aC.mono (Nat.le_trans aD.size aG.size))).trans (aE.mono (Nat.le_trans aD.size (Nat.le_trans aG.size aC.size)));clear aD aG aC aE aO aT dH q0 a1 a2 al ht hbo HC cO cQ
 try clear bD cN
 go_wp2_with fail
 refine(zaI A6 A6 m6 c6 m6 c6 _ _ w6 aK aK (by have:=aK.len;omega) (by have:=aK.len;omega)).mono ?_;rintro e w8 ⟨A8,m8,c8,rfl,cM,cT⟩;have cJ:=Ad cL cT
 go_wp2_with fail
 refine(zaT A8 m8 c8 _ bits w8 cM (by have:=cM.len;have:=zaB aQ aQ;omega) (by omega)).mono ?_;rintro e w9 ⟨bP,cA⟩;obtain⟨As,ms,cs,rfl,cB,cA⟩:=cA.ret bP;rw[←cF.out] at cB;have cH:=Ad cJ cA;clear cT cA bP cL cJ aK cM
 go_wp2_with fail
 refine(zai 1 w9 (by omega) (by omega)).mono ?_;rintro e cZ ⟨dD,cY,dE,rfl,aY,aV⟩;have bT:=cB.later aV;have bB:=Ad cH aV
 go_wp2_with fail
 refine(zaw dD cY dE _ bits cZ aY (by rw[←aY.len];exact Nat.le_trans zbD (by omega)) (by omega)).mono ?_;rintro e bL ⟨dI,dB,cU,rfl,aZ,aX⟩;have bH:=bT.later aX;have aN:=Ad bB aX;rw[show Int.toNat 1*2^bits=2^bits by simp] at aZ;have cW:Below w.heap.size w (bL.alloc (.cells #[.slice none 0 0,.slice none 0 0] 229)):=aN.alloc aN.size _;have cR:CBlk (bL.alloc (.cells #[.slice none 0 0,.slice none 0 0] 229)) bL.heap.size #[.slice none 0 0,.slice none 0 0] 229:=CBlk.new _ _ _ _ rfl;have cV:=aZ.later ((Below.refl _ _).alloc (Nat.le_refl _) (.cells #[.slice none 0 0,.slice none 0 0] 229));have dG:=bH.later ((Below.refl _ _).alloc (Nat.le_refl _) (.cells #[.slice none 0 0,.slice none 0 0] 229));obtain⟨g,bW⟩:∃ g,g=bL.heap.size:=⟨_,rfl⟩;have hg:w.heap.size≤g:=by rw[bW];exact aN.size
 rw[←bW] at cR;have HG:=Aa bW;clear bW cH bB aN cB bT bH aY aZ aV aX;go_upto_region 6 with(fail)
 rw[←HG.out];generalize (bL.alloc (.cells #[.slice none 0 0,.slice none 0 0] 229))=wa at *
 go_wp2_with fail
 go_loopw [8,10] (fun pv kv wr=>∃ (k:Nat) (A:Option Addr) (m c:Nat) (A0:Option Addr) (m0 c0:Nat) (A1:Option Addr) (m1 c1:Nat),k≤mm∧pv = .slice A m c∧kv = .int .u64 (k:Int)∧NatS wr wr.heap.size A m c (Cs.serAt sq bits k).2.2∧NatS wr wr.heap.size A0 m0 c0 (Cs.serAt sq bits k).1∧NatS wr wr.heap.size A1 m1 c1 (Cs.serAt sq bits k).2.1∧CBlk wr g #[.slice A0 m0 c0,.slice A1 m1 c1] 229∧NatS wr wr.heap.size As ms cs sq∧Below w.heap.size w wr) (fun _ kv _=>mm-(intOf kv).toNat)
 case atStart=>exact⟨0,dI,dB,cU,none,0,0,none,0,0,Nat.zero_le _,rfl,rfl,cV,NatS.nil _ _,NatS.nil _ _,cR,dG,cW⟩
 case round=>
  obtain⟨k,A,m,c,A0,m0,c0,A1,m1,c1,dM,rfl,rfl,hp,h0,h1,hk,hs,hB⟩:=hrel
  by_cases hlt:k<mm
  ·have cS:=Aa (cE.out k hlt)
   obtain⟨k2,bI⟩:∃ k2,k2=2*k:=⟨_,rfl⟩;obtain⟨bQ,aR⟩:∃ bQ,bQ=2*k+1:=⟨_,rfl⟩;obtain⟨bO,aP⟩:∃ bO,bO=2*k+2:=⟨_,rfl⟩;obtain⟨kp,aU⟩:∃ kp,kp=bQ*bO:=⟨_,rfl⟩;obtain⟨kk,aI⟩:∃ kk,kk=k+1:=⟨_,rfl⟩;have f1:IntKind.u64.wrap (2*(k:Int))=(k2:Int):=by rw[zd6 (by omega) (by omega)];omega
   have f2:IntKind.u64.wrap ((k2:Int)+1)=(bQ:Int):=by rw[zd6 (by omega) (by omega)];omega
   have dN:IntKind.u64.wrap ((k2:Int)+2)=(bO:Int):=by rw[zd6 (by omega) (by omega)];omega
   have f3:IntKind.u64.wrap ((k:Int)+1)=(kk:Int):=by rw[zd6 (by omega) (by omega)];omega
   have bM:kp<4294967296*4294967296:=by rw[aU];exact Nat.mul_lt_mul'' (by omega) (by omega)
   have dA:0<kp:=by rw[aU];exact Nat.mul_pos (by omega) (by omega)
   have f5:IntKind.u64.wrap ((bQ:Int)*(bO:Int))=(kp:Int):=by
    rw[zd6 (Int.mul_nonneg (by omega) (by omega)) (by rw[←Int.natCast_mul,←aU];omega),←Int.natCast_mul,←aU]
   have dK:kp<18446744073709551616:=by omega
   have aF:Hid (kk=k+1∧k<mm):=⟨aI,hlt⟩
   rcases Nat.mod_two_eq_zero_or_one k with aS | aS
   ·have f4:Int.tmod (k:Int) 2=0:=by rw[Int.tmod_eq_emod_of_nonneg (by omega)];omega
    have aW:Cs.serAt sq bits kk=((Cs.serAt sq bits k).1+(Cs.serAt sq bits k).2.2,(Cs.serAt sq bits k).2.1,(Cs.serAt sq bits k).2.2*sq/2^bits/kp):=by
     rw[aI,aU,aR,aP];simp only[Cs.serAt];rw[if_pos aS]
    clear bI aR aP aU bM aI hlt aS;have x0:=hk.cell 0;have x1:=hk.cell 1
    go_wp2_with fail
    refine(zaO A m c (Cs.serAt sq bits k).2.2 _ hp).mono ?_;rintro e w1 ⟨rfl,rfl⟩;rw[decide_eq_false (by have:=cS.out;omega)]
    go_wp2_with fail
    refine(zcq A0 A m0 c0 m c _ _ _ h0 hp (by have h:=h0.len;have h2:=zck (aJ k (by have:=aF.out;omega)).1 hM;omega) (by have h:=hp.len;have h2:=zck (aJ k (by have:=aF.out;omega)).2.2 hM;omega)).mono ?_;rintro e w3 ⟨A3,m3,c3,rfl,bG,aH⟩;have bU:=Ad hB aH;have aA:=hk.below aH hk.lt;have bN:=hp.later aH;have bS:=h0.later aH;have bV:=h1.later aH;have bF:=hs.later aH;clear x0 x1 hk hp h0 h1 hB hs;have x0:=aA.cell 0;have x1:=aA.cell 1;have y0:=aA.frozen 0;have y1:=aA.frozen 1;have bK:=bU.setCell (p:=⟨g,0,none⟩) hg (.slice A3 m3 c3);have bE:=aA.set 0 (.slice A3 m3 c3);have bC:=bN.store (i:=0) aA (zaV _ _ _ _ _ _) (.slice A3 m3 c3);have bY:=bS.store (i:=0) aA (zaV _ _ _ _ _ _) (.slice A3 m3 c3);have bX:=bV.store (i:=0) aA (zaV _ _ _ _ _ _) (.slice A3 m3 c3);have aO:=bG.store (i:=0) aA (zaV _ _ _ _ _ _) (.slice A3 m3 c3);have aM:=bF.store (i:=0) aA (zaV _ _ _ _ _ _) (.slice A3 m3 c3);have cG:(w3.setCell ⟨g,0,none⟩ (.slice A3 m3 c3)).heap.size=w3.heap.size:=by simp[World.setCell]
    clear bN bS bV bG bU aA bF;go_upto_region 9 with(fail)
    generalize (w3.setCell ⟨g,0,none⟩ (.slice A3 m3 c3))=w4 at *;rw[←cG] at bC bY bX aO aM
    go_wp2_with fail
    refine(zaI A As m c ms cs _ _ w4 bC aM (by have h:=bC.len;have h2:=zck (aJ k (by have:=aF.out;omega)).2.2 hM;omega) (by have h:=aM.len;omega)).mono ?_;rintro e w5 ⟨A5,m5,c5,rfl,aT,aC⟩
    go_wp2_with fail
    refine(zaT A5 m5 c5 _ bits w5 aT (by
     have h:=aT.len;have h2:=zaB (zck (aJ k (by have:=aF.out;omega)).2.2 hM) bZ;omega) (by omega)).mono ?_
    rintro e w6 ⟨bA,aE⟩;obtain⟨A6,m6,c6,rfl,aK,aE⟩:=aE.ret bA
    go_wp2_with fail
    refine(zbe A6 m6 c6 _ kp w6 aK (by
     have h:=aK.len;have h2:=zaB (zck (aJ k (by have:=aF.out;omega)).2.2 hM) bZ;have h3:=zaa (Nat.div_le_self ((Cs.serAt sq bits k).2.2*sq) (2^bits));omega) (by omega) (by omega)).mono ?_
    rintro e w7 ⟨m7,c7,rfl,cK,cC⟩;have cI:=cK.nat;have aL:=(aC.trans (aE.mono aC.size)).trans (cC.mono (Nat.le_trans aC.size aE.size))
    go_wp2_with fail
    go_roundw
    case rel=>
     refine⟨kk,_,m7,c7,A3,m3,c3,A1,m1,c1,by have:=aF.out;omega,rfl,rfl,?_,?_,?_,bE.below aL bE.lt,aM.later aL,bK.trans (aL.mono bK.size)⟩
     ·rw[aW];exact cI
     ·rw[aW];exact aO.later aL
     ·rw[aW];exact bX.later aL
    case measure=>have:=aF.out;simp[intOf]<;>omega
   ·have f4:Int.tmod (k:Int) 2=1:=by rw[Int.tmod_eq_emod_of_nonneg (by omega)];omega
    have aW:Cs.serAt sq bits kk=((Cs.serAt sq bits k).1,(Cs.serAt sq bits k).2.1+(Cs.serAt sq bits k).2.2,(Cs.serAt sq bits k).2.2*sq/2^bits/kp):=by
     rw[aI,aU,aR,aP];simp only[Cs.serAt];rw[if_neg (by omega)]
    clear bI aR aP aU bM aI hlt aS;have x0:=hk.cell 0;have x1:=hk.cell 1
    go_wp2_with fail
    refine(zaO A m c (Cs.serAt sq bits k).2.2 _ hp).mono ?_;rintro e w1 ⟨rfl,rfl⟩;rw[decide_eq_false (by have:=cS.out;omega)]
    go_wp2_with fail
    refine(zcq A1 A m1 c1 m c _ _ _ h1 hp (by have h:=h1.len;have h2:=zck (aJ k (by have:=aF.out;omega)).2.1 hM;omega) (by have h:=hp.len;have h2:=zck (aJ k (by have:=aF.out;omega)).2.2 hM;omega)).mono ?_;rintro e w3 ⟨A3,m3,c3,rfl,bG,aH⟩;have bU:=Ad hB aH;have aA:=hk.below aH hk.lt;have bN:=hp.later aH;have bS:=h0.later aH;have bV:=h1.later aH;have bF:=hs.later aH;clear x0 x1 hk hp h0 h1 hB hs;have x0:=aA.cell 0;have x1:=aA.cell 1;have y0:=aA.frozen 0;have y1:=aA.frozen 1;have bK:=bU.setCell (p:=⟨g,1,none⟩) hg (.slice A3 m3 c3);have bE:=aA.set 1 (.slice A3 m3 c3);have bC:=bN.store (i:=1) aA (zaV _ _ _ _ _ _) (.slice A3 m3 c3);have bY:=bS.store (i:=1) aA (zaV _ _ _ _ _ _) (.slice A3 m3 c3);have bX:=bV.store (i:=1) aA (zaV _ _ _ _ _ _) (.slice A3 m3 c3);have aO:=bG.store (i:=1) aA (zaV _ _ _ _ _ _) (.slice A3 m3 c3);have aM:=bF.store (i:=1) aA (zaV _ _ _ _ _ _) (.slice A3 m3 c3);have cG:(w3.setCell ⟨g,1,none⟩ (.slice A3 m3 c3)).heap.size=w3.heap.size:=by simp[World.setCell]
    clear bN bS bV bG bU aA bF;go_upto_region 9 with(fail)
    generalize (w3.setCell ⟨g,1,none⟩ (.slice A3 m3 c3))=w4 at *;rw[←cG] at bC bY bX aO aM
    go_wp2_with fail
    refine(zaI A As m c ms cs _ _ w4 bC aM (by have h:=bC.len;have h2:=zck (aJ k (by have:=aF.out;omega)).2.2 hM;omega) (by have h:=aM.len;omega)).mono ?_;rintro e w5 ⟨A5,m5,c5,rfl,aT,aC⟩
    go_wp2_with fail
    refine(zaT A5 m5 c5 _ bits w5 aT (by
     have h:=aT.len;have h2:=zaB (zck (aJ k (by have:=aF.out;omega)).2.2 hM) bZ;omega) (by omega)).mono ?_
    rintro e w6 ⟨bA,aE⟩;obtain⟨A6,m6,c6,rfl,aK,aE⟩:=aE.ret bA
    go_wp2_with fail
    refine(zbe A6 m6 c6 _ kp w6 aK (by
     have h:=aK.len;have h2:=zaB (zck (aJ k (by have:=aF.out;omega)).2.2 hM) bZ;have h3:=zaa (Nat.div_le_self ((Cs.serAt sq bits k).2.2*sq) (2^bits));omega) (by omega) (by omega)).mono ?_
    rintro e w7 ⟨m7,c7,rfl,cK,cC⟩;have cI:=cK.nat;have aL:=(aC.trans (aE.mono aC.size)).trans (cC.mono (Nat.le_trans aC.size aE.size))
    go_wp2_with fail
    go_roundw
    case rel=>
     refine⟨kk,_,m7,c7,A0,m0,c0,A3,m3,c3,by have:=aF.out;omega,rfl,rfl,?_,?_,?_,bE.below aL bE.lt,aM.later aL,bK.trans (aL.mono bK.size)⟩
     ·rw[aW];exact cI
     ·rw[aW];exact bY.later aL
     ·rw[aW];exact aO.later aL
    case measure=>have:=aF.out;simp[intOf]<;>omega
  ·obtain rfl:k=mm:=by omega
   go_wp2_with fail
   refine(zaO A m c (Cs.serAt sq bits k).2.2 _ hp).mono ?_;rintro e w1 ⟨rfl,rfl⟩;rw[decide_eq_true hZ.out];have x0:=hk.cell 0;have x1:=hk.cell 1
   go_wp2_with fail
   refine(zc9 A0 A1 m0 c0 m1 c1 _ _ _ h0 h1 dL.out (by have h:=h0.len;have h2:=zck (aJ k (by omega)).1 hM;omega)).mono ?_;rintro e w2 ⟨A2,m2,c2,rfl,dC,dF⟩;go_wp2
   go_ret;exact⟨A2,m2,c2,rfl,by rw[hV.out];exact dC,hB.trans (dF.mono hB.size)⟩
theorem zjQ(x s:Nat)(A:Option Addr)(n c:Nat)(w:World)(hT:Tabs w)(hx:NatS w w.heap.size A n c x)(hn:n≤536870912)(hs:s<18446744073709551616) :
  Calls Tryz.prog 143 #[.slice A n c,.int .u64 (s:Int)] w (zb3 w (lowQ false x s) (lowQ false (x+1) s)):=by
 have aH:Below w.heap.size w (w.alloc (.cells #[.bool false,.slice none 0 0,.slice none 0 0,.bool false,.slice none 0 0,.slice none 0 0] 107)):=Ac;have q0:CBlk (w.alloc (.cells #[.bool false,.slice none 0 0,.slice none 0 0,.bool false,.slice none 0 0,.slice none 0 0] 107)) w.heap.size #[.bool false,.slice none 0 0,.slice none 0 0,.bool false,.slice none 0 0,.slice none 0 0] 107:=CBlk.new w _ _ _ rfl;have aZ:=hx.later ((Below.refl _ _).alloc (Nat.le_refl _) (.cells #[.bool false,.slice none 0 0,.slice none 0 0,.bool false,.slice none 0 0,.slice none 0 0] 107));have bD:=hT.later aH;have aY:=hx.len;have bJ:(digs s).length≤1:=zab (by rw[zdi,Nat.pow_one];exact hs);clear hx;go_enter Tryz.func143,Tryz.ntmps143
 go_upto_region 1 with(fail)
 generalize (w.alloc (.cells #[.bool false,.slice none 0 0,.slice none 0 0,.bool false,.slice none 0 0,.slice none 0 0] 107))=w1 at *
 go_wp2_with fail
 refine(zai (s:Int) w1 (by omega) (by omega)).mono ?_;rintro e w2 ⟨A2,m2,c2,rfl,aF,aG⟩;rw[Int.toNat_natCast] at aF;have aS:=Ad aH aG;have q2:=q0.below aG q0.lt;have aR:=aZ.later aG;have aO:=bD.later aG;clear q0 aZ aH aG bD
 go_wp2_with fail
 refine(zbF false A A2 n c m2 c2 x s w2 aO aR aF (by omega) (by have:=aF.len;omega)).mono ?_;rintro e w3 ⟨v3,rfl,⟨A3,m3,c3,A4,m4,c4,rfl,h3,h4⟩,aD⟩;have aP:=Ad aS aD;have q3:=q2.below aD q2.lt;have bC:=aR.later aD;have bF:=aO.later aD;have aW:=aF.later aD;clear q2 aR aS aD aO aF
 go_wp2_with fail
 refine(zai 1 w3 (by omega) (by omega)).mono ?_;rintro e w5 ⟨A5,m5,c5,rfl,aQ,aA⟩;have aN:=Ad aP aA;have q5:=q3.below aA q3.lt;have bI:=bC.later aA;have aV:=bF.later aA;have aX:=aW.later aA;have bH:=h3.later aA;have bA:=h4.later aA;clear q3 bC aP aA bF aW h3 h4
 go_wp2_with fail
 refine(zcq A A5 n c m5 c5 x _ w5 bI aQ (by omega) (by have h:=aQ.len;have h2:(digs (Int.toNat 1)).length≤1:=zbD;omega)).mono ?_;rintro e w6 ⟨A6,m6,c6,rfl,aM,aC⟩;have aL:=Ad aN aC;have q6:=q5.below aC q5.lt;have aU:=aV.later aC;have aK:=aX.later aC;have bB:=bH.later aC;have aT:=bA.later aC;clear q5 bI aN aC aV aQ aX bH bA
 go_wp2_with fail
 refine(zbF false A6 A2 m6 c6 m2 c2 (x+Int.toNat 1) s w6 aU aM aK (by have h:=aM.len;have h2:(digs (Int.toNat 1)).length≤1:=zbD;have h3:=zdp (Nat.le_of_eq aY) h2;omega) (by have:=aK.len;omega)).mono ?_;rintro e w7 ⟨v7,rfl,⟨A7,m7,c7,A8,m8,c8,rfl,h7,h8⟩,aE⟩;have bL:=Ad aL aE;have q7:=q6.below aE q6.lt;have bG:=bB.later aE;have bE:=aT.later aE;clear q6 aL aE aU aM aK bB aT aY bJ;rw[show x+Int.toNat 1=x+1 from rfl] at h7 h8 ⊢;obtain⟨qa,aI⟩:∃ qa,qa=lowQ false x s:=⟨_,rfl⟩;obtain⟨qb,aJ⟩:∃ qb,qb=lowQ false (x+1) s:=⟨_,rfl⟩;rw[←aI] at bG bE;rw[←aJ] at h7 h8
 try rw[←aI]
 try rw[←aJ]
 have bM:=Aa aI;have bK:=Aa aJ;clear aI aJ;have y0:=q7.cell 0;have y1:=q7.cell 1;have y2:=q7.cell 2;have y3:=q7.cell 3;have y4:=q7.cell 4;have y5:=q7.cell 5;have z0:=q7.frozen 0;have z1:=q7.frozen 1;have z2:=q7.frozen 2;have z3:=q7.frozen 3;have z4:=q7.frozen 4;have z5:=q7.frozen 5;have hI:=zbS (p:=qa) (q:=qb) q7 bL (Nat.le_refl _) rfl bG bE h7 h8;have hD:=q7.set6 (.bool qa.neg) (.slice A3 m3 c3) (.slice A4 m4 c4) (.bool qb.neg) (.slice A7 m7 c7) (.slice A8 m8 c8);unfold Go.Proofs.YtmkondcdejlhcaaGreatDoor.set6 at hI hD;have r0:=hD.cell 0;have r1:=hD.cell 1;have r2:=hD.cell 2;have r3:=hD.cell 3;have r4:=hD.cell 4;have r5:=hD.cell 5;have HI:=Aa hI;clear hI hD;go_wp2
 refine bodyPost_ret (v := .agg #[.bool qa.neg,.slice A3 m3 c3,.slice A4 m4 c4,.bool qb.neg,.slice A7 m7 c7,.slice A8 m8 c8]) (by simp[results,Tryz.results143,go_sem,y0,y1,y2,y3,y4,y5]) rfl ⟨_,rfl,by obtain rfl:=bM.out;obtain rfl:=bK.out;exact HI.out⟩
theorem zgf(w:World)(hT:Tabs w):Calls Tryz.prog 185 #[.int .i64 0] w fun e w'=>e = .returned (.int .i64 48)∧w=w':=by
 have h0:=hT.prec.1;clear hT;go_enter Tryz.func185,Tryz.ntmps185
 go_wp2
 go_ret;exact⟨rfl,rfl⟩
theorem zfh(x y:Nat)(w:World)(hT:Tabs w)(hx:x<18446744073709551616)(hy:y<18446744073709551616) :
  Calls Tryz.prog 103 #[.int .u64 (x:Int),.int .u64 (y:Int)] w (za3 w (lowQ false x y)):=by
 have aG:Below w.heap.size w (w.alloc (.cells #[.bool false,.slice none 0 0,.slice none 0 0] 91)):=Ac;have aL:(digs x).length≤1:=zab (by rw[zdi,Nat.pow_one];exact hx);have aK:(digs y).length≤1:=zab (by rw[zdi,Nat.pow_one];exact hy);go_enter Tryz.func103,Tryz.ntmps103
 go_wp2_with fail
 refine(zai (x:Int) _ (by omega) (by omega)).mono ?_;rintro e w2 ⟨A2,m2,c2,rfl,aE,aA⟩;rw[Int.toNat_natCast] at aE
 go_wp2_with fail
 refine(zai (y:Int) _ (by omega) (by omega)).mono ?_;rintro e w3 ⟨A3,m3,c3,rfl,aH,aC⟩;rw[Int.toNat_natCast] at aH;have aD:Below w.heap.size w w3:=(aG.trans (aA.mono aG.size)).trans (aC.mono (Nat.le_trans aG.size aA.size))
 go_wp2_with fail
 refine(zbF false A2 A3 m2 c2 m3 c3 x y w3 (hT.later aD) (aE.later aC) aH (by have:=aE.len;omega) (by have:=aH.len;omega)).mono ?_;rintro e w4 ⟨v4,rfl,⟨A4,m4,c4,A5,m5,c5,rfl,h4,h5⟩,aI⟩;have aJ:=Ad aD aI;have hk:=(((zae.new w false (.slice none 0 0) (.slice none 0 0)).below aA (by simp)).below aC (by have:=aA.size;simp at this;omega)).below aI (by have:=aD.size;have:=aA.size;have:=aC.size;simp at *; omega);obtain⟨k0,k1,k2,f0,f1,f2,_⟩:=hk.cells;generalize lowQ false x y=q at *;have aF:=zan aJ (g:=w.heap.size) (Nat.le_refl _) (.bool q.neg) (.slice A4 m4 c4) (.slice A5 m5 c5);go_wp2
 refine bodyPost_ret (v := .agg #[.bool q.neg,.slice A4 m4 c4,.slice A5 m5 c5]) (by simp[results,Tryz.results103,go_sem,k0,k1,k2]) rfl ⟨_,rfl,⟨A4,m4,c4,A5,m5,c5,rfl,?_,?_⟩,aF⟩
 ·rw[zah];exact h4.res hk _ _ _
 ·rw[zah];exact h5.res hk _ _ _
end Go.Proofs.YtmkondcdejlhcaaGreatDoor
