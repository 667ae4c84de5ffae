/- Contract of Blend: any table and any number. -/
import Derived.Test.YteajibbphcfmeaaGreatDoorXKn5
import Derived.Deep.RegionHeld3
import Derived.Test.YteajibbphcfmeaaGreatDoorXWords
import Derived.Test.YteajibbphcfmeaaGreatDoorXRc4
import Derived.Test.YteajibbphcfmeaaGreatDoorXRb24
namespace Go.Proofs.YteajibbphcfmeaaGreatDoor
open Go.RowKit Bn
def zb8 (x:Q):Option (Q × Q)→List (Q × Q)→Option Q
 | _,[]=>none
 | o,k :: t=>if rcmp x k.1=0 then some k.2 else if rcmp x k.1<0 then o.map (fun p=>zcd p.1 p.2 k.1 k.2 x) else zb8 x (some k) t
def zlt (l:List (ByteArray × ByteArray)) (s:List UInt8):Option Q:=zb8 (zab s) none (l.map rdP)
def blE (l:List (ByteArray × ByteArray)) (s:List UInt8):Int:=if tabE l≠0 then tabE l else if zae s≠0 then zae s else match zlt l s with | none=>3 | some q=>zao q
def blT (l:List (ByteArray × ByteArray)) (s:List UInt8):List UInt8:=if tabE l≠0 then [] else if zae s≠0 then [] else match zlt l s with | none=>[] | some q=>zaI q
def zeP (ks:List (Q × Q)) (k:Nat):Option (Q × Q):=if k=0 then none else ks[k - 1]?
def outE:Option Q→Int | none=>3 | some q=>zao q
def outT:Option Q→List UInt8 | none=>[] | some q=>zaI q
theorem zfr {x:Q} {ks:List (Q × Q)} {k:Nat} {kk:Q × Q} (h:ks[k]? = some kk) (he:zb8 x none ks=zb8 x (zeP ks k) (ks.drop k)) :
  (rcmp x kk.1=0→zb8 x none ks=some kk.2)∧(rcmp x kk.1<0→zb8 x none ks=(zeP ks k).map (fun p=>zcd p.1 p.2 kk.1 kk.2 x))∧(0<rcmp x kk.1→zb8 x none ks=zb8 x (zeP ks (k+1)) (ks.drop (k+1))):=by
 obtain ⟨hl,hk⟩:=List.getElem?_eq_some_iff.1 h;rw [List.drop_eq_getElem_cons hl,hk] at he;have hc:zb8 x (zeP ks k) (kk :: ks.drop (k+1))=if rcmp x kk.1=0 then some kk.2 else if rcmp x kk.1<0 then (zeP ks k).map (fun p=>zcd p.1 p.2 kk.1 kk.2 x) else zb8 x (some kk) (ks.drop (k+1)):=by
  cases zeP ks k<;>rfl
 rw [hc] at he;refine ⟨fun h0=>by rw [he,if_pos h0],fun h0=>by rw [he,if_neg (by omega),if_pos h0],fun h0 => ?_⟩;rw [he,if_neg (by omega),if_neg (by omega)];have:zeP ks (k+1)=some kk:=by unfold zeP;rw [if_neg (by omega),Nat.add_sub_cancel,h]
 rw [this]
theorem zhQ {a b c d x:Q} (l1:LenQ a 65536) (l2:LenQ b 65536) (l3:LenQ c 65536) (l4:LenQ d 65536) (l5:LenQ x 65536):LenQ (zcd a b c d x) 268435456:=by
 have n1:LenQ (zaZ d b) 524288:=(zbl l4 (zbE l2)).mono (by omega);have n2:LenQ (zaZ c a) 524288:=(zbl l3 (zbE l1)).mono (by omega);have n3:LenQ (zms (zaZ d b) (zaZ c a)) 1048576:=(zbm _ n1 n2 (by omega)).mono (by omega);have n4:LenQ (zaZ x a) 524288:=(zbl l5 (zbE l1)).mono (by omega);have n5:LenQ (zlR (zms (zaZ d b) (zaZ c a)) (zaZ x a)) 1572864:=(zbf _ n3 n4 (by omega)).mono (by omega);exact (zbl l2 n5).mono (by omega)
theorem zcL.later {W W':World} {B n:Nat} {v:Value} {ks:List (Q × Q)} (h:zcL W B v n ks) (hb:Below W.heap.size W W'):zcL W' B v n ks:=by
 refine h.keep (fun xs hx => ?_) (fun u p q hu=>hu.later hb);refine hx.kept (row:=none) ⟨hb.os,hb.tape,hb.output,hb.size,fun i hi _=>hb.block i hi⟩ ?_
 cases v.ownBlock<;>simp
set_option maxHeartbeats 4000000 in
set_option maxRecDepth 100000 in
theorem zhL (x:Q) (z1 z2 E:Int) (A:Option Addr) (n c:Nat) (s:ByteArray) (w:World) (hT:Tabs w) (HE:Hid (E=if z1≠0 then z1 else z2)) (H0:Hid (E≠0))
  (HL:Hid (Calls Tryz.prog 108 #[.slice A n c] w fun e w'=>(∃ A' m' c',e = .returned (.tuple #[.slice A' m' c',.int .i64 z1]))∧Below w.heap.size w w'))
  (HR:Hid (∀ W,Tabs W→Calls Tryz.prog 63 #[.string s] W (zau W x z2))) :
  Calls Tryz.prog 49 #[.slice A n c,.string s] w (zaR w [] E):=by
 have aG:(E != 0)=true:=by simpa using H0.out
 go_enter Tryz.func49,Tryz.ntmps49
 go_wp2_with fail
 refine HL.out.mono ?_;rintro e w2 ⟨⟨A',m',c',rfl⟩,aC⟩
 go_wp2_with fail
 refine (HR.out w2 (hT.later aC)).mono ?_;rintro e w3 ⟨v3,rfl,⟨A1,n1,c1,A2,n2,c2,rfl,h1,h2⟩,aF⟩;have aD:=aC.trans (aF.mono aC.size);have aA:Below w.heap.size w (w3.alloc (.cells #[.bool x.neg,.slice A1 n1 c1,.slice A2 n2 c2] 91)):=aD.alloc aD.size _;go_upto_region 3 with (fail)
 generalize (w3.alloc (.cells #[.bool x.neg,.slice A1 n1 c1,.slice A2 n2 c2] 91))=w4 at *;have aE:Below w.heap.size w (w4.alloc (.cells #[.int .i64 z1,.int .i64 z2] 26)):=aA.alloc aA.size _
 go_wp2_with fail
 refine (zaV z1 z2 E HE.out w4 _ _ rfl).mono ?_;rintro e w6 ⟨rfl,rfl⟩
 go_wp2_with fail
 go_ret2
 exact ⟨⟨#[]⟩,rfl,rfl,aE⟩
set_option maxHeartbeats 4000000 in
set_option maxRecDepth 100000 in
theorem zm7 (x:Q) (A:Option Addr) (n c B:Nat) (ks:List (Q × Q)) (k0:Q × Q) (s:ByteArray) (w:World) (hT:Tabs w) (hlk:ks.length=n) (hn:n≤64) (hk0:ks[0]? = some k0) (lx:LenQ x 65536) (lk:∀ p ∈ ks,LenQ p.1 65536∧LenQ p.2 65536)
  (HL:Hid (Calls Tryz.prog 108 #[.slice A n c] w fun e w'=>(∃ A' m' c',e = .returned (.tuple #[.slice A' m' c',.int .i64 0])∧zcL w' B (.slice A' m' c') n ks)∧Below w.heap.size w w'))
  (HR:Hid (∀ W,Tabs W→Calls Tryz.prog 63 #[.string s] W (zau W x 0))) :
  Calls Tryz.prog 49 #[.slice A n c,.string s] w (zaR w (outT (zb8 x none ks)) (outE (zb8 x none ks))):=by
 have iE:0<n:=by
  rcases Nat.eq_zero_or_pos n with h | h
  ·rw [List.getElem?_eq_none (by omega)] at hk0;cases hk0
  ·exact h
 have dK:=Lib.hid lk;have dY:=Lib.hid lx;have cU:=Lib.hid hlk;have dE:=Lib.hid hk0;have HC:=Lib.hid (fun (p:Q) v u W h1 h2 (lp:LenQ p 65536)=>zbe x p v u W h1 h2 (lx.mono (by omega)) (lp.mono (by omega)));have bG:=zfr (x:=x) hk0 rfl;obtain ⟨R,hR⟩:∃ R,R=zb8 x none ks:=⟨_,rfl⟩;have bZ:=Lib.hid hR;have dD:=Lib.hid bG;rw [←hR];clear hlk hk0 lx lk bG hR;have iB:(0:Int)<(n:Int):=by omega
 have iA:n≠0:=by omega
 go_enter Tryz.func49,Tryz.ntmps49
 go_wp2_with fail
 refine HL.out.mono ?_;rintro e w2 ⟨⟨A',m',c',rfl,bU⟩,bV⟩;obtain ⟨bk,cP,hv,_,iD,_⟩:∃ bk cP,Value.slice A' m' c' = .slice (some ⟨bk,0,none⟩) n cP∧B≤bk∧bk<w2.heap.size∧(Value.slice A' m' c').ownBlock=some bk:=by
  rcases bU.form with ⟨_,h⟩ | h
  ·omega
  ·exact h
 obtain ⟨rfl,rfl,rfl⟩:A'=some ⟨bk,0,none⟩∧n=m'∧cP=c':=by injection hv with e1 e2 e3;exact ⟨e1,e2.symm,e3.symm⟩
 clear hv
 go_wp2_with fail
 refine (HR.out w2 (hT.later bV)).mono ?_;rintro e w3 ⟨v3,rfl,⟨A1,n1,c1,A2,n2,c2,rfl,h1,h2⟩,cZ⟩;have cV:=bV.trans (cZ.mono bV.size);have bS:Below w3.heap.size w3 (w3.alloc (.cells #[.bool x.neg,.slice A1 n1 c1,.slice A2 n2 c2] 91)):=(Below.refl _ _).alloc (Nat.le_refl _) _;have aX:=cV.trans (bS.mono cV.size);have q3:CBlk (w3.alloc (.cells #[.bool x.neg,.slice A1 n1 c1,.slice A2 n2 c2] 91)) w3.heap.size #[.bool x.neg,.slice A1 n1 c1,.slice A2 n2 c2] 91:=CBlk.new _ _ _ _ rfl;have k3:=(bU.later cZ).later bS;have dO:=h1.later bS;have dZ:=h2.later bS;clear bU bS h1 h2 cV bV cZ;go_upto_region 3 with (fail)
 generalize (w3.alloc (.cells #[.bool x.neg,.slice A1 n1 c1,.slice A2 n2 c2] 91))=w4 at *;generalize w3.heap.size=gx at *;have dH:Below w.heap.size w (w4.alloc (.cells #[.int .i64 0,.int .i64 0] 26)):=aX.alloc aX.size _;have cK:Below w4.heap.size w4 (w4.alloc (.cells #[.int .i64 0,.int .i64 0] 26)):=(Below.refl _ _).alloc (Nat.le_refl _) _;have q5:=q3.alloc (.cells #[.int .i64 0,.int .i64 0] 26);have k5:=k3.later cK;have dJ:=dO.later cK;have dF:=dZ.later cK
 go_wp2_with fail
 refine (zaV 0 0 0 rfl w4 _ _ rfl).mono ?_;rintro e w5 ⟨rfl,rfl⟩;clear q3 k3 dO dZ cK aX;generalize (w4.alloc (.cells #[.int .i64 0,.int .i64 0] 26))=w5 at *;obtain ⟨K1,m1,e1,K2,m2,e2,K3,m3,e3,K4,m4,e4,aM,r1,r2,_,_⟩:=k5.at_ (o:=k0.1) (oo:=k0.2) dE.out;have bA:bk<w5.heap.size:=by
  rcases k5.form with ⟨h,_⟩ | ⟨g9,cQ,h,_,h9,_⟩
  ·cases h
  ·injection h with h;injection h with h;injection h with h;omega
 have aC:Below w5.heap.size w5 w5.drew:=(Below.refl _ _).drew;have dQ:=(dK.out k0 (List.mem_of_getElem? dE.out)).1;have aV:=Lib.hid (HC.out k0.1 _ _ w5.drew (RatS.mk (q:=x) (dJ.later aC) (dF.later aC)) (RatS.mk (q:=k0.1) (r1.later aC) (r2.later aC)) dQ);go_upto_region 6 with (fail)
 have bY:w5.drew.cell? ⟨gx,0,none⟩=some (.bool x.neg):=q5.cell 0;have bW:w5.drew.cell? ⟨gx,1,none⟩=some (.slice A1 n1 c1):=q5.cell 1;have bX:w5.drew.cell? ⟨gx,2,none⟩=some (.slice A2 n2 c2):=q5.cell 2;have bF:w5.drew.cell? ⟨bk,0,none⟩=some (.bool k0.1.neg):=by have:=aM 0 _ rfl;simpa using this
 have bD:w5.drew.cell? ⟨bk,1,none⟩=some (.slice K1 m1 e1):=by have:=aM 1 _ rfl;simpa using this
 have bE:w5.drew.cell? ⟨bk,2,none⟩=some (.slice K2 m2 e2):=by have:=aM 2 _ rfl;simpa using this
 clear aM;generalize bP:rcmp x k0.1=r0 at *;have cN:=Lib.hid bP;clear bP;obtain ⟨b0,cR⟩:∃ b,decide (r0<0)=b:=⟨_,rfl⟩;have fJ:Hid (b0=true→r0<0):=fun h=>of_decide_eq_true (cR.trans h)
 have fO:Hid (b0=false→0≤r0):=fun h=>Int.not_lt.1 (of_decide_eq_false (cR.trans h))
 go_region_held3 (fun w'=>w'.cell? ⟨gx,0,none⟩=some (.bool x.neg)∧w'.cell? ⟨gx,1,none⟩=some (.slice A1 n1 c1)∧w'.cell? ⟨gx,2,none⟩=some (.slice A2 n2 c2)∧w'.cell? ⟨bk,0,none⟩=some (.bool k0.1.neg)∧w'.cell? ⟨bk,1,none⟩=some (.slice K1 m1 e1)∧w'.cell? ⟨bk,2,none⟩=some (.slice K2 m2 e2))
  (first | with_reducible exact ⟨bY,bW,bX,bF,bD,bE⟩ | with_reducible exact ⟨cE,cF,cJ,bH,bM,bK⟩)
  (first | (go_at_call 71;refine aV.out.mono ?_;rintro e w7 ⟨rfl,aY⟩;have q7:=q5.drew.below aY q5.lt;have k7:=(k5.later aC).later aY;have cE:w7.cell? ⟨gx,0,none⟩=some (.bool x.neg):=q7.cell 0;have cF:w7.cell? ⟨gx,1,none⟩=some (.slice A1 n1 c1):=q7.cell 1;have cJ:w7.cell? ⟨gx,2,none⟩=some (.slice A2 n2 c2):=q7.cell 2;have bH:w7.cell? ⟨bk,0,none⟩=some (.bool k0.1.neg):=(aY.cell bA).trans bF;have bM:w7.cell? ⟨bk,1,none⟩=some (.slice K1 m1 e1):=(aY.cell bA).trans bD;have bK:w7.cell? ⟨bk,2,none⟩=some (.slice K2 m2 e2):=(aY.cell bA).trans bE))
 have aO:=aC.trans (aY.mono aC.size);have dA:=dH.trans (aO.mono dH.size);have gX:=dJ.later aO;have gZ:=dF.later aO;have gM:w5.heap.size≤w7.heap.size:=aO.size;clear bY bW bX bF bD bE cE cF cJ bH bM bK dH aC aY aO q5 k5 dJ dF r1 r2 dQ aV;clear cR
 cases b0
 case true=>
  have hz:R=none:=by rw [bZ.out,dD.out.2.1 (fJ.out rfl)];rfl
  have HZ:=Lib.hid hz;clear hz;go_wp2
  go_ret2
  exact ⟨⟨#[]⟩,by rw [HZ.out];rfl,by rw [HZ.out];rfl,dA⟩
 have gG:=Lib.hid (fO.out rfl);go_wp2
 go_loopg [40] n (fun m s W=>∃ k:Nat,k≤n∧s = .int .i64 k∧n - k≤m∧Below w7.heap.size w7 W∧zb8 x none ks=zb8 x (zeP ks k) (ks.drop k))
 case atStart=>exact ⟨0,Nat.zero_le _,rfl,by omega,Below.refl _ _,rfl⟩
 case round=>
  obtain ⟨k,hk,rfl,hm,aF,dT⟩:=hrel;have fD:=Lib.hid dT;clear dT;have qr:=q7.below aF q7.lt;have kr:=k7.later aF;have dX:=gX.later aF;have dM:=gZ.later aF;have cG:=dA.trans (aF.mono dA.size)
  by_cases bU:k<n
  ·have dW:k<ks.length:=by have:=cU.out;omega
   have bN:ks[k]? = some ks[k]:=List.getElem?_eq_getElem dW;generalize ks[k]=kk at *;have aT:=zfr bN fD.out;have fG:=dK.out kk (List.mem_of_getElem? bN);obtain ⟨K1,m1,e1,K2,m2,e2,K3,m3,e3,K4,m4,e4,aM,r1,r2,r3,r4⟩:=kr.at_ (o:=kk.1) (oo:=kk.2) bN;have y0:wr.cell? ⟨bk,k*6,none⟩=some (.bool kk.1.neg):=aM 0 _ rfl;have y1:wr.cell? ⟨bk,k*6+1,none⟩=some (.slice K1 m1 e1):=aM 1 _ rfl;have y2:wr.cell? ⟨bk,k*6+2,none⟩=some (.slice K2 m2 e2):=aM 2 _ rfl;have y3:wr.cell? ⟨bk,k*6+3,none⟩=some (.bool kk.2.neg):=aM 3 _ rfl;have y4:wr.cell? ⟨bk,k*6+4,none⟩=some (.slice K3 m3 e3):=aM 4 _ rfl;have y5:wr.cell? ⟨bk,k*6+5,none⟩=some (.slice K4 m4 e4):=aM 5 _ rfl;have aQ:Below wr.heap.size wr (wr.alloc (.cells #[.bool kk.1.neg,.slice K1 m1 e1,.slice K2 m2 e2,.bool kk.2.neg,.slice K3 m3 e3,.slice K4 m4 e4] 135)):=(Below.refl _ _).alloc (Nat.le_refl _) _;have qk:CBlk (wr.alloc (.cells #[.bool kk.1.neg,.slice K1 m1 e1,.slice K2 m2 e2,.bool kk.2.neg,.slice K3 m3 e3,.slice K4 m4 e4] 135)) wr.heap.size #[.bool kk.1.neg,.slice K1 m1 e1,.slice K2 m2 e2,.bool kk.2.neg,.slice K3 m3 e3,.slice K4 m4 e4] 135:=CBlk.new _ _ _ _ rfl;have aS:=Lib.hid aT;have fX:=Lib.hid bN;have bC:=Lib.hid fG;have q8:=qr.below aQ qr.lt;have k8:=kr.later aQ;have dB:=dX.later aQ;have cW:=dM.later aQ;have dG:=r1.later aQ;have dC:=r2.later aQ;have dR:=r3.later aQ;have dL:=r4.later aQ;have cL:=cG.trans (aQ.mono cG.size);have fW:=aF.size;have bB:=aF.trans (aQ.mono aF.size);clear aM aT bN fG qr kr dX dM r1 r2 r3 r4 aQ dW cG aF;go_upto_region 11 with (fail)
   generalize (wr.alloc (.cells #[.bool kk.1.neg,.slice K1 m1 e1,.slice K2 m2 e2,.bool kk.2.neg,.slice K3 m3 e3,.slice K4 m4 e4] 135))=w8 at *;generalize wr.heap.size=gn at *;have x0:w8.cell? ⟨gx,0,none⟩=some (.bool x.neg):=q8.cell 0;have x1:w8.cell? ⟨gx,1,none⟩=some (.slice A1 n1 c1):=q8.cell 1;have x2:w8.cell? ⟨gx,2,none⟩=some (.slice A2 n2 c2):=q8.cell 2;have z0:w8.cell? ⟨gn,0,none⟩=some (.bool kk.1.neg):=qk.cell 0;have z1:w8.cell? ⟨gn,1,none⟩=some (.slice K1 m1 e1):=qk.cell 1;have z2:w8.cell? ⟨gn,2,none⟩=some (.slice K2 m2 e2):=qk.cell 2;clear y0 y1 y2 y3 y4 y5
   go_wp2_with fail
   refine (HC.out kk.1 _ _ w8 (RatS.mk (q:=x) dB cW) (RatS.mk (q:=kk.1) dG dC) bC.out.1).mono ?_;rintro e w9 ⟨rfl,aN⟩;have q9:=q8.below aN q8.lt;have aK:=qk.below aN qk.lt;have k9:=k8.later aN;have cA:=dB.later aN;have cB:=cW.later aN;have bT:=dG.later aN;have cC:=dC.later aN;have bL:=dR.later aN;have bI:=dL.later aN;have aW:=cL.trans (aN.mono cL.size);have cO:=bB.trans (aN.mono bB.size);clear x0 x1 x2 z0 z1 z2 q8 qk k8 dB cW dG dC dR dL cL bB aN;generalize dN:rcmp x kk.1=r at *;have gY:=Lib.hid dN;clear dN
   rcases Int.lt_trichotomy r 0 with cI | gV | dU
   ·have d1:(r==0)=false:=by rw [beq_eq_false_iff_ne];omega
    have d2:decide (r=0)=false:=decide_eq_false (by omega);have d3:decide (r<0)=true:=decide_eq_true cI;have iC:=Lib.hid cI;obtain ⟨j,HJ⟩:∃ j,Hid (k=j+1):=by
     rcases Nat.eq_zero_or_pos k with h | h
     ·exfalso
      subst h;have h9:=fX.out;rw [dE.out] at h9;injection h9 with h9
      have h8:=cN.out;rw [h9,gY.out] at h8;have:=gG.out;omega
     ·exact ⟨k - 1,by show k=k - 1+1;omega⟩
    have fE:j<ks.length:=by have:=cU.out;have:=HJ.out;omega
    have cH:ks[j]? = some ks[j]:=List.getElem?_eq_getElem fE;generalize ks[j]=pp at *;have bJ:=dK.out pp (List.mem_of_getElem? cH);have aU:zeP ks k=some pp:=by unfold zeP;rw [if_neg (by have:=HJ.out;omega),show k - 1=j by have:=HJ.out;omega];exact cH
    have aR:R=some (zcd pp.1 pp.2 kk.1 kk.2 x):=by rw [bZ.out,aS.out.2.1 cI,aU];rfl
    have aP:=Lib.hid aR;have d4:wrap64 ((k:Int) - 1)=(j:Int):=by rw [IntWalk.wrap64_in _ (by omega)];have:=HJ.out;omega
    have d5:IntKind.i64.wrap ((k:Int) - 1)=(j:Int):=by rw [IntWalk.i64_in _ (by omega)];have:=HJ.out;omega
    have d6:(0:Int)≤(j:Int):=by omega
    have d7:(j:Int)<(n:Int):=by have:=HJ.out;omega
    obtain ⟨P1,a1,b1,P2,a2,b2,P3,a3,b3,P4,a4,b4,aZ,s1,s2,s3,s4⟩:=k9.at_ (o:=pp.1) (oo:=pp.2) cH;have aI:bk<w9.drew.heap.size:=by
     rcases k9.form with ⟨h,_⟩ | ⟨g9,cQ,h,_,h9,_⟩
     ·cases h
     ·injection h with h;injection h with h;injection h with h;subst h;exact h9
    have aC:Below w9.heap.size w9 w9.drew:=(Below.refl _ _).drew;have gL:=aW.size;have fB:=hT.later (aW.trans (aC.mono aW.size));have gE:=Lib.hid (ziv pp.1 pp.2 kk.1 kk.2 x _ _ _ w9.drew fB ⟨P1,a1,b1,P2,a2,b2,P3,a3,b3,P4,a4,b4,rfl,s1.later aC,s2.later aC,s3.later aC,s4.later aC⟩ ⟨K1,m1,e1,K2,m2,e2,K3,m3,e3,K4,m4,e4,rfl,bT.later aC,cC.later aC,bL.later aC,bI.later aC⟩ (RatS.mk (q:=x) (cA.later aC) (cB.later aC)) bJ.1 bJ.2 bC.out.1 bC.out.2 dY.out);have cM:=Lib.hid (fun (v:Value) (W:World) (hT:Tabs W) (hv:RatS W W.heap.size v (zcd pp.1 pp.2 kk.1 kk.2 x))=>zbN _ v W hT hv (zhQ bJ.1 bJ.2 bC.out.1 bC.out.2 dY.out));generalize zcd pp.1 pp.2 kk.1 kk.2 x=bq at *;clear cI fE cH bJ aU aR s1 s2 s3 s4 cA cB bT cC bL bI k9;go_upto_region 15 with (fail)
    have bY:w9.drew.cell? ⟨gx,0,none⟩=some (.bool x.neg):=q9.cell 0;have bW:w9.drew.cell? ⟨gx,1,none⟩=some (.slice A1 n1 c1):=q9.cell 1;have bX:w9.drew.cell? ⟨gx,2,none⟩=some (.slice A2 n2 c2):=q9.cell 2;have gS:w9.drew.cell? ⟨gn,0,none⟩=some (.bool kk.1.neg):=aK.cell 0;have gK:w9.drew.cell? ⟨gn,1,none⟩=some (.slice K1 m1 e1):=aK.cell 1;have fU:w9.drew.cell? ⟨gn,2,none⟩=some (.slice K2 m2 e2):=aK.cell 2;have gJ:w9.drew.cell? ⟨gn,3,none⟩=some (.bool kk.2.neg):=aK.cell 3;have gA:w9.drew.cell? ⟨gn,4,none⟩=some (.slice K3 m3 e3):=aK.cell 4;have gC:w9.drew.cell? ⟨gn,5,none⟩=some (.slice K4 m4 e4):=aK.cell 5;have bF:w9.drew.cell? ⟨bk,j*6,none⟩=some (.bool pp.1.neg):=aZ 0 _ rfl;have bD:w9.drew.cell? ⟨bk,j*6+1,none⟩=some (.slice P1 a1 b1):=aZ 1 _ rfl;have bE:w9.drew.cell? ⟨bk,j*6+2,none⟩=some (.slice P2 a2 b2):=aZ 2 _ rfl;have fH:w9.drew.cell? ⟨bk,j*6+3,none⟩=some (.bool pp.2.neg):=aZ 3 _ rfl;have dP:w9.drew.cell? ⟨bk,j*6+4,none⟩=some (.slice P3 a3 b3):=aZ 4 _ rfl;have dS:w9.drew.cell? ⟨bk,j*6+5,none⟩=some (.slice P4 a4 b4):=aZ 5 _ rfl;clear aZ
    go_region_held3 (fun w'=>w'.cell? ⟨gx,0,none⟩=some (.bool x.neg)∧w'.cell? ⟨gx,1,none⟩=some (.slice A1 n1 c1)∧w'.cell? ⟨gx,2,none⟩=some (.slice A2 n2 c2)∧w'.cell? ⟨gn,0,none⟩=some (.bool kk.1.neg)∧w'.cell? ⟨gn,1,none⟩=some (.slice K1 m1 e1)∧w'.cell? ⟨gn,2,none⟩=some (.slice K2 m2 e2)∧w'.cell? ⟨gn,3,none⟩=some (.bool kk.2.neg)∧w'.cell? ⟨gn,4,none⟩=some (.slice K3 m3 e3)∧w'.cell? ⟨gn,5,none⟩=some (.slice K4 m4 e4)∧w'.cell? ⟨bk,j*6,none⟩=some (.bool pp.1.neg)∧w'.cell? ⟨bk,j*6+1,none⟩=some (.slice P1 a1 b1)∧w'.cell? ⟨bk,j*6+2,none⟩=some (.slice P2 a2 b2)∧w'.cell? ⟨bk,j*6+3,none⟩=some (.bool pp.2.neg)∧w'.cell? ⟨bk,j*6+4,none⟩=some (.slice P3 a3 b3)∧w'.cell? ⟨bk,j*6+5,none⟩=some (.slice P4 a4 b4))
     (first | with_reducible exact ⟨bY,bW,bX,gS,gK,fU,gJ,gA,gC,bF,bD,bE,fH,dP,dS⟩ | with_reducible exact ⟨cE,cF,cJ,gN,fK,gH,gI,fY,gR,bH,bM,bK,fC,fA,fF⟩ | with_reducible exact ⟨fI,fQ,gP,fP,gT,gB,hJ,gF,fM,fT,fS,fN,gU,gW,fV⟩)
     (first
      |(go_at_call 109;refine gE.out.mono ?_;rintro e aG ⟨gO,rfl,dI,aA⟩;have bO:=q9.drew.below aA q9.lt;have aH:=aK.drew.below aA aK.lt;have aD:bk<aG.heap.size:=Nat.lt_of_lt_of_le aI aA.size;have cE:aG.cell? ⟨gx,0,none⟩=some (.bool x.neg):=bO.cell 0;have cF:aG.cell? ⟨gx,1,none⟩=some (.slice A1 n1 c1):=bO.cell 1;have cJ:aG.cell? ⟨gx,2,none⟩=some (.slice A2 n2 c2):=bO.cell 2;have gN:aG.cell? ⟨gn,0,none⟩=some (.bool kk.1.neg):=aH.cell 0;have fK:aG.cell? ⟨gn,1,none⟩=some (.slice K1 m1 e1):=aH.cell 1;have gH:aG.cell? ⟨gn,2,none⟩=some (.slice K2 m2 e2):=aH.cell 2;have gI:aG.cell? ⟨gn,3,none⟩=some (.bool kk.2.neg):=aH.cell 3;have fY:aG.cell? ⟨gn,4,none⟩=some (.slice K3 m3 e3):=aH.cell 4;have gR:aG.cell? ⟨gn,5,none⟩=some (.slice K4 m4 e4):=aH.cell 5;have bH:aG.cell? ⟨bk,j*6,none⟩=some (.bool pp.1.neg):=(aA.cell aI).trans bF;have bM:aG.cell? ⟨bk,j*6+1,none⟩=some (.slice P1 a1 b1):=(aA.cell aI).trans bD;have bK:aG.cell? ⟨bk,j*6+2,none⟩=some (.slice P2 a2 b2):=(aA.cell aI).trans bE;have fC:aG.cell? ⟨bk,j*6+3,none⟩=some (.bool pp.2.neg):=(aA.cell aI).trans fH;have fA:aG.cell? ⟨bk,j*6+4,none⟩=some (.slice P3 a3 b3):=(aA.cell aI).trans dP;have fF:aG.cell? ⟨bk,j*6+5,none⟩=some (.slice P4 a4 b4):=(aA.cell aI).trans dS;have fZ:=Lib.hid (cM.out gO aG (fB.later aA) dI))
      |(go_at_call 66;refine fZ.out.mono ?_;rintro e aJ ⟨fR,rfl,bR,aE⟩;have cY:=bO.below aE bO.lt;have aL:=aH.below aE aH.lt;have fI:aJ.cell? ⟨gx,0,none⟩=some (.bool x.neg):=cY.cell 0;have fQ:aJ.cell? ⟨gx,1,none⟩=some (.slice A1 n1 c1):=cY.cell 1;have gP:aJ.cell? ⟨gx,2,none⟩=some (.slice A2 n2 c2):=cY.cell 2;have fP:aJ.cell? ⟨gn,0,none⟩=some (.bool kk.1.neg):=aL.cell 0;have gT:aJ.cell? ⟨gn,1,none⟩=some (.slice K1 m1 e1):=aL.cell 1;have gB:aJ.cell? ⟨gn,2,none⟩=some (.slice K2 m2 e2):=aL.cell 2;have hJ:aJ.cell? ⟨gn,3,none⟩=some (.bool kk.2.neg):=aL.cell 3;have gF:aJ.cell? ⟨gn,4,none⟩=some (.slice K3 m3 e3):=aL.cell 4;have fM:aJ.cell? ⟨gn,5,none⟩=some (.slice K4 m4 e4):=aL.cell 5;have fT:aJ.cell? ⟨bk,j*6,none⟩=some (.bool pp.1.neg):=(aE.cell aD).trans bH;have fS:aJ.cell? ⟨bk,j*6+1,none⟩=some (.slice P1 a1 b1):=(aE.cell aD).trans bM;have fN:aJ.cell? ⟨bk,j*6+2,none⟩=some (.slice P2 a2 b2):=(aE.cell aD).trans bK;have gU:aJ.cell? ⟨bk,j*6+3,none⟩=some (.bool pp.2.neg):=(aE.cell aD).trans fC;have gW:aJ.cell? ⟨bk,j*6+4,none⟩=some (.slice P3 a3 b3):=(aE.cell aD).trans fA;have fV:aJ.cell? ⟨bk,j*6+5,none⟩=some (.slice P4 a4 b4):=(aE.cell aD).trans fF))
    have gD:=aW.trans ((aC.trans ((aA.trans (aE.mono aA.size)).mono aC.size)).mono aW.size);have cS:=Lib.hid bR;clear bR;go_wp2
    go_ret2
    exact ⟨fR,by rw [aP.out];rfl,by rw [aP.out];exact cS.out,gD⟩
   ·subst gV
    have aR:R=some kk.2:=by rw [bZ.out,aS.out.1 rfl]
    have aP:=Lib.hid aR;have x0:w9.cell? ⟨gn,3,none⟩=some (.bool kk.2.neg):=aK.cell 3;have x1:w9.cell? ⟨gn,4,none⟩=some (.slice K3 m3 e3):=aK.cell 4;have x2:w9.cell? ⟨gn,5,none⟩=some (.slice K4 m4 e4):=aK.cell 5;have cM:=Lib.hid (zbN kk.2 _ w9 (hT.later aW) (RatS.mk (q:=kk.2) bL bI) (bC.out.2.mono (by omega)));clear aR q9 aK k9 cA cB bT cC bL bI
    go_wp2_with fail
    refine cM.out.mono ?_;rintro e aG ⟨fL,rfl,bQ,aA⟩;have cT:=Lib.hid bQ;clear bQ
    go_wp2_with fail
    go_ret2
    exact ⟨fL,by rw [aP.out];rfl,by rw [aP.out];exact cT.out,aW.trans (aA.mono aW.size)⟩
   ·have d1:(r==0)=false:=by rw [beq_eq_false_iff_ne];omega
    have d2:decide (r=0)=false:=decide_eq_false (by omega);have d3:decide (r<0)=false:=decide_eq_false (by omega);have dV:=aS.out.2.2 dU;have gQ:=Lib.hid dV;clear dU dV q9 aK k9 cA cB bT cC bL bI
    go_wp2_with fail
    go_roundg (n - (k+1))
    case measure=>omega
    case rel=>exact ⟨k+1,by omega,by go_num,Nat.le_refl _,cO,gQ.out⟩
  ·obtain rfl:n=k:=by omega
   have hz:R=none:=by
    have h9:=bZ.out.trans fD.out;rw [List.drop_eq_nil_of_le (by have:=cU.out;omega)] at h9;rw [h9]
    cases zeP ks n<;>rfl
   have HZ:=Lib.hid hz;clear hz;go_wp2
   go_ret2
   exact ⟨⟨#[]⟩,by rw [HZ.out];rfl,by rw [HZ.out];rfl,cG⟩
theorem zln (A:Option Addr) (n c:Nat) (l:List (ByteArray × ByteArray)) (s:ByteArray) (w:World) (hT:Tabs w) (h:PtsR w w.heap.size A n l) (hsz:∀ p ∈ l,p.1.size≤4294967296∧p.2.size≤4294967296) (hs:s.size≤4294967296) :
  Calls Tryz.prog 49 #[.slice A n c,.string s] w (zaR w (blT l s.data.toList) (blE l s.data.toList)):=by
 have HR:∀ W,Tabs W→Calls Tryz.prog 63 #[.string s] W (zau W (zab s.data.toList) (zae s.data.toList)):=fun W hT=>zbj s W hT hs
 have hL:=zgp A n c l w hT h hsz;unfold blT blE
 by_cases h1:tabE l=0
 ·rw [if_neg (show ¬ tabE l≠0 by omega),if_neg (show ¬ tabE l≠0 by omega)]
  rw [h1] at hL
  by_cases h2:zae s.data.toList=0
  ·rw [if_neg (show ¬ zae s.data.toList≠0 by omega),if_neg (show ¬ zae s.data.toList≠0 by omega)]
   have aE:l.length=n:=h.1;have hn:1≤n∧n≤64∧zcM none l=0:=by
    unfold tabE at h1
    split at h1
    ·omega
    ·split at h1
     ·omega
     ·exact ⟨by omega,by omega,h1⟩
   have aA:∀ p ∈ l,zae p.1.data.toList=0∧zae p.2.data.toList=0:=by
    have h9:∀ (l:List (ByteArray × ByteArray)) (o:Option Q),zcM o l=0→∀ p ∈ l,zae p.1.data.toList=0∧zae p.2.data.toList=0:=by
     intro l
     induction l with
     | nil=>intro o _ p hp;cases hp
     | cons a t ih=>
      intro o ho p hp;have hc:zcM o (a :: t)=if rowE o a.1.data.toList a.2.data.toList≠0 then rowE o a.1.data.toList a.2.data.toList else zcM (some (zab a.1.data.toList)) t:=by cases o<;>rfl
      rw [hc] at ho
      split at ho
      ·rename_i h0;exact absurd ho h0
      ·rename_i h0
       rcases List.mem_cons.1 hp with rfl | hp
       ·have aD:rowE o p.1.data.toList p.2.data.toList=0:=by omega
        unfold rowE at aD
        by_cases hx:zae p.1.data.toList=0
        ·by_cases hy:zae p.2.data.toList=0
         ·exact ⟨hx,hy⟩
         ·rw [if_neg (by omega),if_pos hy] at aD;exact absurd aD hy
        ·rw [if_pos hx] at aD;exact absurd aD hx
       ·exact ih _ ho p hp
    exact h9 l none hn.2.2
   have aC:∀ t:List UInt8,zae t=0→LenQ (zab t) 65536:=fun t ht=>by
    have h9:=@zam t ht;exact ⟨by omega,by omega⟩
   have aF:∀ p ∈ l.map rdP,LenQ p.1 65536∧LenQ p.2 65536:=fun p hp=>by
    obtain ⟨q,hq,rfl⟩:=List.mem_map.1 hp;exact ⟨aC _ (aA q hq).1,aC _ (aA q hq).2⟩
   rw [h2] at HR;obtain ⟨k0,aG⟩:∃ k0,(l.map rdP)[0]? = some k0:=by
    cases l with
    | nil=>simp at aE;omega
    | cons a t=>exact ⟨rdP a,rfl⟩
   have hb:=zm7 (zab s.data.toList) A n c w.heap.size (l.map rdP) k0 s w hT (by rw [List.length_map];exact aE) hn.2.1 aG (aC _ h2) aF
    (hL.mono fun e w'=>by
     rintro ⟨⟨A',m',c',rfl,hk⟩,hb⟩;exact ⟨⟨A',m',c',rfl,hk rfl⟩,hb⟩) HR
   unfold zlt
   cases hR:zb8 (zab s.data.toList) none (l.map rdP) with
   | none=>rw [hR] at hb;exact hb
   | some q=>rw [hR] at hb;exact hb
  ·rw [if_pos (show zae s.data.toList≠0 from h2),if_pos (show zae s.data.toList≠0 from h2)]
   exact zhL (zab s.data.toList) 0 (zae s.data.toList) (zae s.data.toList) A n c s w hT (show zae s.data.toList=if (0:Int)≠0 then 0 else zae s.data.toList from (if_neg (by omega)).symm) h2
    (hL.mono fun e w'=>by
     rintro ⟨⟨A',m',c',rfl,hk⟩,hb⟩;exact ⟨⟨A',m',c',rfl⟩,hb⟩) HR
 ·rw [if_pos (show tabE l≠0 from h1),if_pos (show tabE l≠0 from h1)]
  exact zhL (zab s.data.toList) (tabE l) (zae s.data.toList) (tabE l) A n c s w hT (show tabE l=if tabE l≠0 then tabE l else zae s.data.toList from (if_pos h1).symm) h1
   (hL.mono fun e w'=>by
    rintro ⟨⟨A',m',c',rfl,hk⟩,hb⟩;exact ⟨⟨A',m',c',rfl⟩,hb⟩) HR
theorem PtsR.lit2 (w:World) (a b c d:ByteArray) (t:TypeId):PtsR (w.alloc (.cells #[.string a,.string b,.string c,.string d] t)) (w.heap.size+1) (some ⟨w.heap.size,0,none⟩) 2 [(a,b),(c,d)]:=by
 have hq:CBlk (w.alloc (.cells #[.string a,.string b,.string c,.string d] t)) w.heap.size #[.string a,.string b,.string c,.string d] t:=CBlk.new _ _ _ _ rfl;have e2:∀ i j,((⟨w.heap.size,0,none⟩:Addr).add i).add j=⟨w.heap.size,i+j,none⟩:=fun i j=>by rw [zjY];unfold Addr.add;split<;>simp_all
 refine ⟨rfl,fun _=>⟨_,rfl,by simp,fun i hi => ?_⟩⟩
 match i,hi with
 | 0,_=>exact ⟨by rw [e2,hq.cell];rfl,by rw [e2,hq.cell];rfl⟩
 | 1,_=>exact ⟨by rw [e2,hq.cell];rfl,by rw [e2,hq.cell];rfl⟩
 | i+2,h=>exact absurd h (by simp)
end Go.Proofs.YteajibbphcfmeaaGreatDoor
namespace Go.Proofs.YteajibbphcfmeaaGreatDoor
open Go.RowKit Bn Dn
set_option maxHeartbeats 4000000 in
set_option maxRecDepth 100000 in
theorem zjp (a:ByteArray) (p:Q) (w:World) (h:NumQ a p) (ha:a.size≤1000000) :
    Calls Tryz.prog 72 #[.string a] w fun e w'=>e = .returned (.int .i64 (zao p))∧Below w.heap.size w w':=by
  have hW:zao p=if 600<(Lib.decDigits p.top).length∨600<(Lib.decDigits p.bot).length then 4 else 0:=by
    unfold zao;rw [if_neg (by have:=h.2.1;omega)]
  have aK:LowQ (numQ p):=⟨Nat.one_pos,Nat.gcd_one_right _,h.2.2.2⟩;have aD:∀ t:ByteArray,NumQ t (absQ (numQ p))→t.size=(Lib.decDigits p.top).length:=fun t ht=>by
    have h9:=congrArg List.length ht.1;rw [Array.length_toList] at h9;rw [show t.size=t.data.size from rfl,h9];unfold zbr absQ numQ;simp
  have HN:=Lib.hid (fun W=>zo2 a p W h (by omega));have HA:=Lib.hid (fun (s:ByteArray) (hs:NumQ s (numQ p)) (hz:s.size≤1000000) (W:World)=>zoH s (numQ p) W hs hz);have HD:=Lib.hid (fun W=>zoT a p W h (by omega));have aA:=Lib.hid aD;obtain ⟨L1,aF⟩:∃ L1,L1=(Lib.decDigits p.top).length:=⟨_,rfl⟩;obtain ⟨L2,aE⟩:∃ L2,L2=(Lib.decDigits p.bot).length:=⟨_,rfl⟩;obtain ⟨E,hE⟩:∃ E,E=zao p:=⟨_,rfl⟩;rw [←aF] at aA;rw [←aE] at HD;rw [←hE];have aC:(600<L1∧E=4)∨(¬ 600<L1∧600<L2∧E=4)∨(¬ 600<L1∧¬ 600<L2∧E=0):=by
    rw [hE,hW,←aF,←aE]
    by_cases h1:600<L1
    · exact .inl ⟨h1,if_pos (.inl h1)⟩
    · by_cases h2:600<L2
      · exact .inr (.inl ⟨h1,h2,if_pos (.inr h2)⟩)
      · exact .inr (.inr ⟨h1,h2,if_neg (fun h=>by omega)⟩)
  clear hW aK aD aF aE hE h
  rcases aC with ⟨h1,rfl⟩ | ⟨h1,h2,rfl⟩ | ⟨h1,h2,rfl⟩
  case' inl=>have d1:decide ((600:Int)<(L1:Int))=true:=decide_eq_true (by omega)
  case' inr.inl=>have d1:decide ((600:Int)<(L1:Int))=false:=decide_eq_false (by omega)
  case' inr.inl=>have d2:decide ((600:Int)<(L2:Int))=true:=decide_eq_true (by omega)
  case' inr.inr=>have d1:decide ((600:Int)<(L1:Int))=false:=decide_eq_false (by omega)
  case' inr.inr=>have d2:decide ((600:Int)<(L2:Int))=false:=decide_eq_false (by omega)
  all_goals
    go_enter Tryz.func72,Tryz.ntmps72
    go_wp2_with fail
    refine (HN.out w).mono ?_;rintro e w1 ⟨⟨s,rfl,aI,aL⟩,rfl⟩;have HS:=Lib.hid aI;clear aI
    go_wp2_with fail
    refine (HA.out s HS.out (by omega) w).mono ?_;rintro e w3 ⟨⟨t,rfl,aH⟩,aJ⟩;have aG:=aA.out t aH;rw [←aG] at d1;clear aH aG
    go_wp2_with fail
    first
      | (go_ret
         exact ⟨rfl,aJ⟩)
      | (refine (HD.out w3).mono ?_
         rintro e w4 ⟨⟨u,rfl,hu⟩,rfl⟩;rw [←hu] at d2;clear hu;go_wp2
         go_ret;exact ⟨rfl,aJ⟩)
theorem zg9 (q:Q):zao q=0∨zao q=4∨zao q=6:=by
 unfold zao
 split
 ·exact .inr (.inr rfl)
 ·split
  ·exact .inr (.inl rfl)
  ·exact .inl rfl
set_option maxHeartbeats 4000000 in
set_option maxRecDepth 100000 in
theorem zfm (s t:ByteArray) (q:Q) (w:World) (hs:s.data.toList=zaI q) (ht:NumQ t q) (hz:t.size≤1000000) :
  Calls Tryz.prog 17 #[.string s,.int .i64 (zao q),.int .i64 0,.string t] w fun e w'=>e = .returned (.bool true)∧Below w.heap.size w w':=by
 have HL:=Lib.hid (zjp t q w ht hz);have hc:zao q=0∨zao q=4:=by
  rcases zg9 q with h | h | h
  ·exact .inl h
  ·exact .inr h
  ·exfalso
   unfold zao at h;rw [if_neg (by have:=ht.2.1;omega)] at h
   split at h<;>omega
 unfold zaI at hs
 rcases hc with h | h
 ·rw [if_pos h] at hs
  rw [h] at HL ⊢;obtain rfl:s=t:=by
   obtain ⟨⟨x⟩⟩:=s;obtain ⟨⟨y⟩⟩:=t;have e:x=y:=hs.trans ht.1.symm;rw [e]
  clear hs h;go_enter Tryz.func17,Tryz.ntmps17
  go_wp2_with fail
  refine HL.out.mono ?_;rintro e w1 ⟨rfl,hb⟩;go_wp2
  go_ret;exact ⟨rfl,hb⟩
 ·rw [if_neg (by omega)] at hs
  rw [h] at HL ⊢;obtain rfl:s=⟨#[]⟩:=by
   obtain ⟨⟨x⟩⟩:=s;have e:x=[]:=hs;rw [e]
  clear hs h;go_enter Tryz.func17,Tryz.ntmps17
  go_wp2_with fail
  refine HL.out.mono ?_;rintro e w1 ⟨rfl,hb⟩;go_wp2
  go_ret;exact ⟨rfl,hb⟩
set_option maxHeartbeats 4000000 in
set_option maxRecDepth 100000 in
theorem zlJ (t:ByteArray) (E:Int) (w:World) (hE:E≠0) :
  Calls Tryz.prog 17 #[.string ⟨#[]⟩,.int .i64 E,.int .i64 E,.string t] w fun e w'=>e = .returned (.bool true)∧w=w':=by
 have d1:(E==0)=false:=by simpa using hE
 have d2:(E != 0)=true:=by simpa using hE
 have HE:=Lib.hid hE;clear hE;go_enter Tryz.func17,Tryz.ntmps17
 go_wp2
 go_ret;exact ⟨by simp [go_sem],rfl⟩
end Go.Proofs.YteajibbphcfmeaaGreatDoor
namespace Go.Proofs.YteajibbphcfmeaaGreatDoor
open Go.RowKit
def zg1:Prop:=∀ W,Tabs W→Calls Tryz.prog 8 #[] W fun e w'=>e = .returned (.bool true)∧Below W.heap.size W w'
end Go.Proofs.YteajibbphcfmeaaGreatDoor
