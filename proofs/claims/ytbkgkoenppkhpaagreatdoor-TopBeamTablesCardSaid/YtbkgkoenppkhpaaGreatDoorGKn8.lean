/- Contract of Blend: any table and any number. -/
import Derived.Test.YtbkgkoenppkhpaaGreatDoorGKn5
import Derived.Deep.RegionHeld3
import Derived.Test.YtbkgkoenppkhpaaGreatDoorGCo7
import Derived.Test.YtbkgkoenppkhpaaGreatDoorGSp8
set_option maxRecDepth 100000
set_option maxHeartbeats 4000000
namespace Go.Proofs.YtbkgkoenppkhpaaGreatDoor
open Go.RowKit Bn
def zaU (x:Q):Option (Q × Q)→List (Q × Q)→Option Q
 | _,[]=>none
 | o,k :: t=>if rcmp x k.1=0 then some k.2 else if rcmp x k.1<0 then o.map (fun p=>zbd p.1 p.2 k.1 k.2 x) else zaU x (some k) t
def zfC (l:List (ByteArray × ByteArray)) (s:List UInt8):Option Q:=zaU (zak s) none (l.map rdP)
def blE (l:List (ByteArray × ByteArray)) (s:List UInt8):Int:=if tabE l≠0 then tabE l else if zam s≠0 then zam s else match zfC l s with | none=>3 | some q=>zaB q
def blT (l:List (ByteArray × ByteArray)) (s:List UInt8):List UInt8:=if tabE l≠0 then [] else if zam s≠0 then [] else match zfC l s with | none=>[] | some q=>zbz q
def zeE (ks:List (Q × Q)) (k:Nat):Option (Q × Q):=if k=0 then none else ks[k - 1]?
def outE:Option Q→Int | none=>3 | some q=>zaB q
def outT:Option Q→List UInt8 | none=>[] | some q=>zbz q
theorem zcm {x:Q} {ks:List (Q × Q)} {k:Nat} {kk:Q × Q} (h:ks[k]? = some kk) (he:zaU x none ks=zaU x (zeE ks k) (ks.drop k)) :
  (rcmp x kk.1=0→zaU x none ks=some kk.2)∧(rcmp x kk.1<0→zaU x none ks=(zeE ks k).map (fun p=>zbd p.1 p.2 kk.1 kk.2 x))∧(0<rcmp x kk.1→zaU x none ks=zaU x (zeE ks (k+1)) (ks.drop (k+1))):=by
 obtain ⟨hl,hk⟩:=List.getElem?_eq_some_iff.1 h;rw [List.drop_eq_getElem_cons hl,hk] at he;have hc:zaU x (zeE ks k) (kk :: ks.drop (k+1))=if rcmp x kk.1=0 then some kk.2 else if rcmp x kk.1<0 then (zeE ks k).map (fun p=>zbd p.1 p.2 kk.1 kk.2 x) else zaU x (some kk) (ks.drop (k+1)):=by
  cases zeE ks k<;>rfl
 rw [hc] at he;refine ⟨fun h0=>by rw [he,if_pos h0],fun h0=>by rw [he,if_neg (by omega),if_pos h0],fun h0 => ?_⟩;rw [he,if_neg (by omega),if_neg (by omega)];have:zeE ks (k+1)=some kk:=by unfold zeE;rw [if_neg (by omega),Nat.add_sub_cancel,h]
 rw [this]
theorem ziV {a b c d x:Q} (l1:LenQ a 65536) (l2:LenQ b 65536) (l3:LenQ c 65536) (l4:LenQ d 65536) (l5:LenQ x 65536):LenQ (zbd a b c d x) 268435456:=by
 have n1:LenQ (za1 d b) 524288:=(zbI l4 (zbS l2)).mono (by omega);have n2:LenQ (za1 c a) 524288:=(zbI l3 (zbS l1)).mono (by omega);have n3:LenQ (zm9 (za1 d b) (za1 c a)) 1048576:=(zhn _ n1 n2 (by omega)).mono (by omega);have n4:LenQ (za1 x a) 524288:=(zbI l5 (zbS l1)).mono (by omega);have n5:LenQ (zly (zm9 (za1 d b) (za1 c a)) (za1 x a)) 1572864:=(zbk _ n3 n4 (by omega)).mono (by omega);exact (zbI l2 n5).mono (by omega)
theorem zcN.later {W W':World} {B n:Nat} {v:Value} {ks:List (Q × Q)} (h:zcN W B v n ks) (hb:Below W.heap.size W W'):zcN W' B v n ks:=by
 refine h.keep (fun xs hx => ?_) (fun u p q hu=>hu.later hb);refine hx.kept (row:=none) ⟨hb.os,hb.tape,hb.output,hb.size,fun i hi _=>hb.block i hi⟩ ?_
 cases v.ownBlock<;>simp
theorem zhO (x:Q) (z1 z2 E:Int) (A:Option Addr) (n c:Nat) (s:ByteArray) (w:World) (hT:Tabs w) (HE:Hid (E=if z1≠0 then z1 else z2)) (H0:Hid (E≠0))
  (HL:Hid (Calls Tryz.prog 110 #[.slice A n c] w fun e w'=>(∃ A' m' c',e = .returned (.tuple #[.slice A' m' c',.int .i64 z1]))∧Below w.heap.size w w'))
  (HR:Hid (∀ W,Tabs W→Calls Tryz.prog 59 #[.string s] W (zay W x z2))) :
  Calls Tryz.prog 50 #[.slice A n c,.string s] w (zco w [] E):=by
 have aG:(E != 0)=true:=by simpa using H0.out
 go_enter Tryz.func50,Tryz.ntmps50
 go_wp2_with fail
 refine HL.out.mono ?_;rintro e w2 ⟨⟨A',m',c',rfl⟩,aC⟩
 go_wp2_with fail
 refine (HR.out w2 (hT.later aC)).mono ?_;rintro e w3 ⟨v3,rfl,⟨A1,n1,c1,A2,n2,c2,rfl,h1,h2⟩,aF⟩;have aD:=Ad aC aF;have aA:Below w.heap.size w (w3.alloc (.cells #[.bool x.neg,.slice A1 n1 c1,.slice A2 n2 c2] 87)):=aD.alloc aD.size _;go_upto_region 3 with (fail)
 generalize (w3.alloc (.cells #[.bool x.neg,.slice A1 n1 c1,.slice A2 n2 c2] 87))=w4 at *;have aE:Below w.heap.size w (w4.alloc (.cells #[.int .i64 z1,.int .i64 z2] 27)):=aA.alloc aA.size _
 go_wp2_with fail
 refine (zbl z1 z2 E HE.out w4 _ _ rfl).mono ?_;rintro e w6 ⟨rfl,rfl⟩
 go_wp2_with fail
 go_ret2
 exact ⟨⟨#[]⟩,rfl,rfl,aE⟩
theorem zmW (x:Q) (A:Option Addr) (n c B:Nat) (ks:List (Q × Q)) (k0:Q × Q) (s:ByteArray) (w:World) (hT:Tabs w) (hlk:ks.length=n) (hn:n≤64) (hk0:ks[0]? = some k0) (lx:LenQ x 65536) (lk:∀ p ∈ ks,LenQ p.1 65536∧LenQ p.2 65536)
  (HL:Hid (Calls Tryz.prog 110 #[.slice A n c] w fun e w'=>(∃ A' m' c',e = .returned (.tuple #[.slice A' m' c',.int .i64 0])∧zcN w' B (.slice A' m' c') n ks)∧Below w.heap.size w w'))
  (HR:Hid (∀ W,Tabs W→Calls Tryz.prog 59 #[.string s] W (zay W x 0))) :
  Calls Tryz.prog 50 #[.slice A n c,.string s] w (zco w (outT (zaU x none ks)) (outE (zaU x none ks))):=by
 have iG:0<n:=by
  rcases Nat.eq_zero_or_pos n with h | h
  ·rw [List.getElem?_eq_none (by omega)] at hk0;cases hk0
  ·exact h
 have cV:=Aa lk;have fC:=Aa lx;have dH:=Aa hlk;have dK:=Aa hk0;have HC:=Aa (fun (p:Q) v u W h1 h2 (lp:LenQ p 65536)=>zbw x p v u W h1 h2 (lx.mono (by omega)) (lp.mono (by omega)));have bP:=zcm (x:=x) hk0 rfl;obtain ⟨R,hR⟩:∃ R,R=zaU x none ks:=⟨_,rfl⟩;have cE:=Aa hR;have cP:=Aa bP;rw [←hR];clear hlk hk0 lx lk bP hR;have iD:(0:Int)<(n:Int):=by omega
 have iE:n≠0:=by omega
 go_enter Tryz.func50,Tryz.ntmps50
 go_wp2_with fail
 refine HL.out.mono ?_;rintro e w2 ⟨⟨A',m',c',rfl,cF⟩,bW⟩;obtain ⟨bk,cW,hv,_,iF,_⟩:∃ bk cW,Value.slice A' m' c' = .slice (some ⟨bk,0,none⟩) n cW∧B≤bk∧bk<w2.heap.size∧(Value.slice A' m' c').ownBlock=some bk:=by
  rcases cF.form with ⟨_,h⟩ | h
  ·omega
  ·exact h
 obtain ⟨rfl,rfl,rfl⟩:A'=some ⟨bk,0,none⟩∧n=m'∧cW=c':=by injection hv with e1 e2 e3;exact ⟨e1,e2.symm,e3.symm⟩
 clear hv
 go_wp2_with fail
 refine (HR.out w2 (hT.later bW)).mono ?_;rintro e w3 ⟨v3,rfl,⟨A1,n1,c1,A2,n2,c2,rfl,h1,h2⟩,dM⟩;have cQ:=Ad bW dM;have bO:Below w3.heap.size w3 (w3.alloc (.cells #[.bool x.neg,.slice A1 n1 c1,.slice A2 n2 c2] 87)):=Ac;have aX:=Ad cQ bO;have q3:CBlk (w3.alloc (.cells #[.bool x.neg,.slice A1 n1 c1,.slice A2 n2 c2] 87)) w3.heap.size #[.bool x.neg,.slice A1 n1 c1,.slice A2 n2 c2] 87:=CBlk.new _ _ _ _ rfl;have k3:=(cF.later dM).later bO;have fA:=h1.later bO;have dQ:=h2.later bO;clear cF bO h1 h2 cQ bW dM;go_upto_region 3 with (fail)
 generalize (w3.alloc (.cells #[.bool x.neg,.slice A1 n1 c1,.slice A2 n2 c2] 87))=w4 at *;generalize w3.heap.size=gx at *;have cT:Below w.heap.size w (w4.alloc (.cells #[.int .i64 0,.int .i64 0] 27)):=aX.alloc aX.size _;have cI:Below w4.heap.size w4 (w4.alloc (.cells #[.int .i64 0,.int .i64 0] 27)):=Ac;have q5:=q3.alloc (.cells #[.int .i64 0,.int .i64 0] 27);have k5:=k3.later cI;have cR:=fA.later cI;have dF:=dQ.later cI
 go_wp2_with fail
 refine (zbl 0 0 0 rfl w4 _ _ rfl).mono ?_;rintro e w5 ⟨rfl,rfl⟩;clear q3 k3 fA dQ cI aX;generalize (w4.alloc (.cells #[.int .i64 0,.int .i64 0] 27))=w5 at *;obtain ⟨K1,m1,e1,K2,m2,e2,K3,m3,e3,K4,m4,e4,aN,r1,r2,_,_⟩:=k5.at_ (o:=k0.1) (oo:=k0.2) dK.out;have aY:bk<w5.heap.size:=by
  rcases k5.form with ⟨h,_⟩ | ⟨g9,cY,h,_,h9,_⟩
  ·cases h
  ·injection h with h;injection h with h;injection h with h;omega
 have aC:Below w5.heap.size w5 w5.drew:=(Below.refl _ _).drew;have dT:=(cV.out k0 (List.mem_of_getElem? dK.out)).1;have aW:=Aa (HC.out k0.1 _ _ w5.drew (RatS.mk (q:=x) (cR.later aC) (dF.later aC)) (RatS.mk (q:=k0.1) (r1.later aC) (r2.later aC)) dT);go_upto_region 6 with (fail)
 have cH:w5.drew.cell? ⟨gx,0,none⟩=some (.bool x.neg):=q5.cell 0;have cA:w5.drew.cell? ⟨gx,1,none⟩=some (.slice A1 n1 c1):=q5.cell 1;have bU:w5.drew.cell? ⟨gx,2,none⟩=some (.slice A2 n2 c2):=q5.cell 2;have bC:w5.drew.cell? ⟨bk,0,none⟩=some (.bool k0.1.neg):=by have:=aN 0 _ rfl;simpa using this
 have bF:w5.drew.cell? ⟨bk,1,none⟩=some (.slice K1 m1 e1):=by have:=aN 1 _ rfl;simpa using this
 have bD:w5.drew.cell? ⟨bk,2,none⟩=some (.slice K2 m2 e2):=by have:=aN 2 _ rfl;simpa using this
 clear aN;generalize bR:rcmp x k0.1=r0 at *;have cZ:=Aa bR;clear bR;obtain ⟨b0,cN⟩:∃ b,decide (r0<0)=b:=⟨_,rfl⟩;have gE:Hid (b0=true→r0<0):=fun h=>of_decide_eq_true (cN.trans h)
 have gI:Hid (b0=false→0≤r0):=fun h=>Int.not_lt.1 (of_decide_eq_false (cN.trans h))
 go_region_held3 (fun w'=>w'.cell? ⟨gx,0,none⟩=some (.bool x.neg)∧w'.cell? ⟨gx,1,none⟩=some (.slice A1 n1 c1)∧w'.cell? ⟨gx,2,none⟩=some (.slice A2 n2 c2)∧w'.cell? ⟨bk,0,none⟩=some (.bool k0.1.neg)∧w'.cell? ⟨bk,1,none⟩=some (.slice K1 m1 e1)∧w'.cell? ⟨bk,2,none⟩=some (.slice K2 m2 e2))
  (first | with_reducible exact ⟨cH,cA,bU,bC,bF,bD⟩ | with_reducible exact ⟨cK,cC,cJ,bL,bG,bH⟩)
  (first | (go_at_call 81;refine aW.out.mono ?_;rintro e w7 ⟨rfl,aZ⟩;have q7:=q5.drew.below aZ q5.lt;have k7:=(k5.later aC).later aZ;have cK:w7.cell? ⟨gx,0,none⟩=some (.bool x.neg):=q7.cell 0;have cC:w7.cell? ⟨gx,1,none⟩=some (.slice A1 n1 c1):=q7.cell 1;have cJ:w7.cell? ⟨gx,2,none⟩=some (.slice A2 n2 c2):=q7.cell 2;have bL:w7.cell? ⟨bk,0,none⟩=some (.bool k0.1.neg):=(aZ.cell aY).trans bC;have bG:w7.cell? ⟨bk,1,none⟩=some (.slice K1 m1 e1):=(aZ.cell aY).trans bF;have bH:w7.cell? ⟨bk,2,none⟩=some (.slice K2 m2 e2):=(aZ.cell aY).trans bD))
 have aO:=Ad aC aZ;have dB:=Ad cT aO;have gW:=cR.later aO;have gP:=dF.later aO;have fK:w5.heap.size≤w7.heap.size:=aO.size;clear cH cA bU bC bF bD cK cC cJ bL bG bH cT aC aZ aO q5 k5 cR dF r1 r2 dT aW;clear cN
 cases b0
 case true=>
  have hz:R=none:=by rw [cE.out,cP.out.2.1 (gE.out rfl)];rfl
  have HZ:=Aa hz;clear hz;go_wp2
  go_ret2
  exact ⟨⟨#[]⟩,by rw [HZ.out];rfl,by rw [HZ.out];rfl,dB⟩
 have gX:=Aa (gI.out rfl);go_wp2
 go_loopg [40] n (fun m s W=>∃ k:Nat,k≤n∧s = .int .i64 k∧n - k≤m∧Below w7.heap.size w7 W∧zaU x none ks=zaU x (zeE ks k) (ks.drop k))
 case atStart=>exact ⟨0,Nat.zero_le _,rfl,by omega,Below.refl _ _,rfl⟩
 case round=>
  obtain ⟨k,hk,rfl,hm,aF,fI⟩:=hrel;have dR:=Aa fI;clear fI;have qr:=q7.below aF q7.lt;have kr:=k7.later aF;have dZ:=gW.later aF;have dW:=gP.later aF;have cB:=Ad dB aF
  by_cases cF:k<n
  ·have dP:k<ks.length:=by have:=dH.out;omega
   have bK:ks[k]? = some ks[k]:=List.getElem?_eq_getElem dP;generalize ks[k]=kk at *;have aT:=zcm bK dR.out;have fG:=cV.out kk (List.mem_of_getElem? bK);obtain ⟨K1,m1,e1,K2,m2,e2,K3,m3,e3,K4,m4,e4,aN,r1,r2,r3,r4⟩:=kr.at_ (o:=kk.1) (oo:=kk.2) bK;have y0:wr.cell? ⟨bk,k*6,none⟩=some (.bool kk.1.neg):=aN 0 _ rfl;have y1:wr.cell? ⟨bk,k*6+1,none⟩=some (.slice K1 m1 e1):=aN 1 _ rfl;have y2:wr.cell? ⟨bk,k*6+2,none⟩=some (.slice K2 m2 e2):=aN 2 _ rfl;have y3:wr.cell? ⟨bk,k*6+3,none⟩=some (.bool kk.2.neg):=aN 3 _ rfl;have y4:wr.cell? ⟨bk,k*6+4,none⟩=some (.slice K3 m3 e3):=aN 4 _ rfl;have y5:wr.cell? ⟨bk,k*6+5,none⟩=some (.slice K4 m4 e4):=aN 5 _ rfl;have aS:Below wr.heap.size wr (wr.alloc (.cells #[.bool kk.1.neg,.slice K1 m1 e1,.slice K2 m2 e2,.bool kk.2.neg,.slice K3 m3 e3,.slice K4 m4 e4] 143)):=Ac;have qk:CBlk (wr.alloc (.cells #[.bool kk.1.neg,.slice K1 m1 e1,.slice K2 m2 e2,.bool kk.2.neg,.slice K3 m3 e3,.slice K4 m4 e4] 143)) wr.heap.size #[.bool kk.1.neg,.slice K1 m1 e1,.slice K2 m2 e2,.bool kk.2.neg,.slice K3 m3 e3,.slice K4 m4 e4] 143:=CBlk.new _ _ _ _ rfl;have aR:=Aa aT;have gO:=Aa bK;have bE:=Aa fG;have q8:=qr.below aS qr.lt;have k8:=kr.later aS;have cL:=dZ.later aS;have dA:=dW.later aS;have dI:=r1.later aS;have dJ:=r2.later aS;have dS:=r3.later aS;have fE:=r4.later aS;have cO:=Ad cB aS;have fV:=aF.size;have bB:=Ad aF aS;clear aN aT bK fG qr kr dZ dW r1 r2 r3 r4 aS dP cB aF;go_upto_region 11 with (fail)
   generalize (wr.alloc (.cells #[.bool kk.1.neg,.slice K1 m1 e1,.slice K2 m2 e2,.bool kk.2.neg,.slice K3 m3 e3,.slice K4 m4 e4] 143))=w8 at *;generalize wr.heap.size=gn at *;have x0:w8.cell? ⟨gx,0,none⟩=some (.bool x.neg):=q8.cell 0;have x1:w8.cell? ⟨gx,1,none⟩=some (.slice A1 n1 c1):=q8.cell 1;have x2:w8.cell? ⟨gx,2,none⟩=some (.slice A2 n2 c2):=q8.cell 2;have z0:w8.cell? ⟨gn,0,none⟩=some (.bool kk.1.neg):=qk.cell 0;have z1:w8.cell? ⟨gn,1,none⟩=some (.slice K1 m1 e1):=qk.cell 1;have z2:w8.cell? ⟨gn,2,none⟩=some (.slice K2 m2 e2):=qk.cell 2;clear y0 y1 y2 y3 y4 y5
   go_wp2_with fail
   refine (HC.out kk.1 _ _ w8 (RatS.mk (q:=x) cL dA) (RatS.mk (q:=kk.1) dI dJ) bE.out.1).mono ?_;rintro e w9 ⟨rfl,aM⟩;have q9:=q8.below aM q8.lt;have aL:=qk.below aM qk.lt;have k9:=k8.later aM;have bX:=cL.later aM;have bY:=dA.later aM;have bZ:=dI.later aM;have bV:=dJ.later aM;have bQ:=dS.later aM;have bJ:=fE.later aM;have aV:=Ad cO aM;have dG:=Ad bB aM;clear x0 x1 x2 z0 z1 z2 q8 qk k8 cL dA dI dJ dS fE cO bB aM;generalize fF:rcmp x kk.1=r at *;have fM:=Aa fF;clear fF
   rcases Int.lt_trichotomy r 0 with bT | fY | dN
   ·have d1:(r==0)=false:=by rw [beq_eq_false_iff_ne];omega
    have d2:decide (r=0)=false:=decide_eq_false (by omega);have d3:decide (r<0)=true:=decide_eq_true bT;have iC:=Aa bT;obtain ⟨j,HJ⟩:∃ j,Hid (k=j+1):=by
     rcases Nat.eq_zero_or_pos k with h | h
     ·exfalso
      subst h;have h9:=gO.out;rw [dK.out] at h9;injection h9 with h9
      have h8:=cZ.out;rw [h9,fM.out] at h8;have:=gX.out;omega
     ·exact ⟨k - 1,by show k=k - 1+1;omega⟩
    have fJ:j<ks.length:=by have:=dH.out;have:=HJ.out;omega
    have cG:ks[j]? = some ks[j]:=List.getElem?_eq_getElem fJ;generalize ks[j]=pp at *;have bN:=cV.out pp (List.mem_of_getElem? cG);have aU:zeE ks k=some pp:=by unfold zeE;rw [if_neg (by have:=HJ.out;omega),show k - 1=j by have:=HJ.out;omega];exact cG
    have aQ:R=some (zbd pp.1 pp.2 kk.1 kk.2 x):=by rw [cE.out,aR.out.2.1 bT,aU];rfl
    have aP:=Aa aQ;have d4:wrap64 ((k:Int) - 1)=(j:Int):=by rw [IntWalk.wrap64_in _ (by omega)];have:=HJ.out;omega
    have d5:IntKind.i64.wrap ((k:Int) - 1)=(j:Int):=by rw [IntWalk.i64_in _ (by omega)];have:=HJ.out;omega
    have d6:(0:Int)≤(j:Int):=by omega
    have d7:(j:Int)<(n:Int):=by have:=HJ.out;omega
    obtain ⟨P1,a1,b1,P2,a2,b2,P3,a3,b3,P4,a4,b4,bA,s1,s2,s3,s4⟩:=k9.at_ (o:=pp.1) (oo:=pp.2) cG;have aI:bk<w9.drew.heap.size:=by
     rcases k9.form with ⟨h,_⟩ | ⟨g9,cY,h,_,h9,_⟩
     ·cases h
     ·injection h with h;injection h with h;injection h with h;subst h;exact h9
    have aC:Below w9.heap.size w9 w9.drew:=(Below.refl _ _).drew;have gG:=aV.size;have fB:=hT.later (aV.trans (aC.mono aV.size));have gM:=Aa (zii pp.1 pp.2 kk.1 kk.2 x _ _ _ w9.drew fB ⟨P1,a1,b1,P2,a2,b2,P3,a3,b3,P4,a4,b4,rfl,s1.later aC,s2.later aC,s3.later aC,s4.later aC⟩ ⟨K1,m1,e1,K2,m2,e2,K3,m3,e3,K4,m4,e4,rfl,bZ.later aC,bV.later aC,bQ.later aC,bJ.later aC⟩ (RatS.mk (q:=x) (bX.later aC) (bY.later aC)) bN.1 bN.2 bE.out.1 bE.out.2 fC.out);have dL:=Aa (fun (v:Value) (W:World) (hT:Tabs W) (hv:RatS W W.heap.size v (zbd pp.1 pp.2 kk.1 kk.2 x))=>zcz _ v W hT hv (ziV bN.1 bN.2 bE.out.1 bE.out.2 fC.out));generalize zbd pp.1 pp.2 kk.1 kk.2 x=bq at *;clear bT fJ cG bN aU aQ s1 s2 s3 s4 bX bY bZ bV bQ bJ k9;go_upto_region 15 with (fail)
    have cH:w9.drew.cell? ⟨gx,0,none⟩=some (.bool x.neg):=q9.cell 0;have cA:w9.drew.cell? ⟨gx,1,none⟩=some (.slice A1 n1 c1):=q9.cell 1;have bU:w9.drew.cell? ⟨gx,2,none⟩=some (.slice A2 n2 c2):=q9.cell 2;have fX:w9.drew.cell? ⟨gn,0,none⟩=some (.bool kk.1.neg):=aL.cell 0;have fP:w9.drew.cell? ⟨gn,1,none⟩=some (.slice K1 m1 e1):=aL.cell 1;have fR:w9.drew.cell? ⟨gn,2,none⟩=some (.slice K2 m2 e2):=aL.cell 2;have gJ:w9.drew.cell? ⟨gn,3,none⟩=some (.bool kk.2.neg):=aL.cell 3;have gZ:w9.drew.cell? ⟨gn,4,none⟩=some (.slice K3 m3 e3):=aL.cell 4;have gB:w9.drew.cell? ⟨gn,5,none⟩=some (.slice K4 m4 e4):=aL.cell 5;have bC:w9.drew.cell? ⟨bk,j*6,none⟩=some (.bool pp.1.neg):=bA 0 _ rfl;have bF:w9.drew.cell? ⟨bk,j*6+1,none⟩=some (.slice P1 a1 b1):=bA 1 _ rfl;have bD:w9.drew.cell? ⟨bk,j*6+2,none⟩=some (.slice P2 a2 b2):=bA 2 _ rfl;have fD:w9.drew.cell? ⟨bk,j*6+3,none⟩=some (.bool pp.2.neg):=bA 3 _ rfl;have dU:w9.drew.cell? ⟨bk,j*6+4,none⟩=some (.slice P3 a3 b3):=bA 4 _ rfl;have dX:w9.drew.cell? ⟨bk,j*6+5,none⟩=some (.slice P4 a4 b4):=bA 5 _ rfl;clear bA
    go_region_held3 (fun w'=>w'.cell? ⟨gx,0,none⟩=some (.bool x.neg)∧w'.cell? ⟨gx,1,none⟩=some (.slice A1 n1 c1)∧w'.cell? ⟨gx,2,none⟩=some (.slice A2 n2 c2)∧w'.cell? ⟨gn,0,none⟩=some (.bool kk.1.neg)∧w'.cell? ⟨gn,1,none⟩=some (.slice K1 m1 e1)∧w'.cell? ⟨gn,2,none⟩=some (.slice K2 m2 e2)∧w'.cell? ⟨gn,3,none⟩=some (.bool kk.2.neg)∧w'.cell? ⟨gn,4,none⟩=some (.slice K3 m3 e3)∧w'.cell? ⟨gn,5,none⟩=some (.slice K4 m4 e4)∧w'.cell? ⟨bk,j*6,none⟩=some (.bool pp.1.neg)∧w'.cell? ⟨bk,j*6+1,none⟩=some (.slice P1 a1 b1)∧w'.cell? ⟨bk,j*6+2,none⟩=some (.slice P2 a2 b2)∧w'.cell? ⟨bk,j*6+3,none⟩=some (.bool pp.2.neg)∧w'.cell? ⟨bk,j*6+4,none⟩=some (.slice P3 a3 b3)∧w'.cell? ⟨bk,j*6+5,none⟩=some (.slice P4 a4 b4))
     (first | with_reducible exact ⟨cH,cA,bU,fX,fP,fR,gJ,gZ,gB,bC,bF,bD,fD,dU,dX⟩ | with_reducible exact ⟨cK,cC,cJ,gN,gC,gR,gY,iA,fL,bL,bG,bH,dO,dV,fH⟩ | with_reducible exact ⟨fS,gD,gK,fU,gH,gA,fQ,fN,fZ,gF,hJ,gQ,fW,fT,iB⟩)
     (first
      |(go_at_call 111;refine gM.out.mono ?_;rintro e aG ⟨gU,rfl,cM,aA⟩;have bM:=q9.drew.below aA q9.lt;have aH:=aL.drew.below aA aL.lt;have aD:bk<aG.heap.size:=Nat.lt_of_lt_of_le aI aA.size;have cK:aG.cell? ⟨gx,0,none⟩=some (.bool x.neg):=bM.cell 0;have cC:aG.cell? ⟨gx,1,none⟩=some (.slice A1 n1 c1):=bM.cell 1;have cJ:aG.cell? ⟨gx,2,none⟩=some (.slice A2 n2 c2):=bM.cell 2;have gN:aG.cell? ⟨gn,0,none⟩=some (.bool kk.1.neg):=aH.cell 0;have gC:aG.cell? ⟨gn,1,none⟩=some (.slice K1 m1 e1):=aH.cell 1;have gR:aG.cell? ⟨gn,2,none⟩=some (.slice K2 m2 e2):=aH.cell 2;have gY:aG.cell? ⟨gn,3,none⟩=some (.bool kk.2.neg):=aH.cell 3;have iA:aG.cell? ⟨gn,4,none⟩=some (.slice K3 m3 e3):=aH.cell 4;have fL:aG.cell? ⟨gn,5,none⟩=some (.slice K4 m4 e4):=aH.cell 5;have bL:aG.cell? ⟨bk,j*6,none⟩=some (.bool pp.1.neg):=(aA.cell aI).trans bC;have bG:aG.cell? ⟨bk,j*6+1,none⟩=some (.slice P1 a1 b1):=(aA.cell aI).trans bF;have bH:aG.cell? ⟨bk,j*6+2,none⟩=some (.slice P2 a2 b2):=(aA.cell aI).trans bD;have dO:aG.cell? ⟨bk,j*6+3,none⟩=some (.bool pp.2.neg):=(aA.cell aI).trans fD;have dV:aG.cell? ⟨bk,j*6+4,none⟩=some (.slice P3 a3 b3):=(aA.cell aI).trans dU;have fH:aG.cell? ⟨bk,j*6+5,none⟩=some (.slice P4 a4 b4):=(aA.cell aI).trans dX;have gS:=Aa (dL.out gU aG (fB.later aA) cM))
      |(go_at_call 89;refine gS.out.mono ?_;rintro e aJ ⟨fO,rfl,bS,aE⟩;have dD:=bM.below aE bM.lt;have aK:=aH.below aE aH.lt;have fS:aJ.cell? ⟨gx,0,none⟩=some (.bool x.neg):=dD.cell 0;have gD:aJ.cell? ⟨gx,1,none⟩=some (.slice A1 n1 c1):=dD.cell 1;have gK:aJ.cell? ⟨gx,2,none⟩=some (.slice A2 n2 c2):=dD.cell 2;have fU:aJ.cell? ⟨gn,0,none⟩=some (.bool kk.1.neg):=aK.cell 0;have gH:aJ.cell? ⟨gn,1,none⟩=some (.slice K1 m1 e1):=aK.cell 1;have gA:aJ.cell? ⟨gn,2,none⟩=some (.slice K2 m2 e2):=aK.cell 2;have fQ:aJ.cell? ⟨gn,3,none⟩=some (.bool kk.2.neg):=aK.cell 3;have fN:aJ.cell? ⟨gn,4,none⟩=some (.slice K3 m3 e3):=aK.cell 4;have fZ:aJ.cell? ⟨gn,5,none⟩=some (.slice K4 m4 e4):=aK.cell 5;have gF:aJ.cell? ⟨bk,j*6,none⟩=some (.bool pp.1.neg):=(aE.cell aD).trans bL;have hJ:aJ.cell? ⟨bk,j*6+1,none⟩=some (.slice P1 a1 b1):=(aE.cell aD).trans bG;have gQ:aJ.cell? ⟨bk,j*6+2,none⟩=some (.slice P2 a2 b2):=(aE.cell aD).trans bH;have fW:aJ.cell? ⟨bk,j*6+3,none⟩=some (.bool pp.2.neg):=(aE.cell aD).trans dO;have fT:aJ.cell? ⟨bk,j*6+4,none⟩=some (.slice P3 a3 b3):=(aE.cell aD).trans dV;have iB:aJ.cell? ⟨bk,j*6+5,none⟩=some (.slice P4 a4 b4):=(aE.cell aD).trans fH))
    have gL:=aV.trans ((aC.trans ((aA.trans (aE.mono aA.size)).mono aC.size)).mono aV.size);have cU:=Aa bS;clear bS;go_wp2
    go_ret2
    exact ⟨fO,by rw [aP.out];rfl,by rw [aP.out];exact cU.out,gL⟩
   ·subst fY
    have aQ:R=some kk.2:=by rw [cE.out,aR.out.1 rfl]
    have aP:=Aa aQ;have x0:w9.cell? ⟨gn,3,none⟩=some (.bool kk.2.neg):=aL.cell 3;have x1:w9.cell? ⟨gn,4,none⟩=some (.slice K3 m3 e3):=aL.cell 4;have x2:w9.cell? ⟨gn,5,none⟩=some (.slice K4 m4 e4):=aL.cell 5;have dL:=Aa (zcz kk.2 _ w9 (hT.later aV) (RatS.mk (q:=kk.2) bQ bJ) (bE.out.2.mono (by omega)));clear aQ q9 aL k9 bX bY bZ bV bQ bJ
    go_wp2_with fail
    refine dL.out.mono ?_;rintro e aG ⟨gV,rfl,bI,aA⟩;have cS:=Aa bI;clear bI
    go_wp2_with fail
    go_ret2
    exact ⟨gV,by rw [aP.out];rfl,by rw [aP.out];exact cS.out,aV.trans (aA.mono aV.size)⟩
   ·have d1:(r==0)=false:=by rw [beq_eq_false_iff_ne];omega
    have d2:decide (r=0)=false:=decide_eq_false (by omega);have d3:decide (r<0)=false:=decide_eq_false (by omega);have dY:=aR.out.2.2 dN;have gT:=Aa dY;clear dN dY q9 aL k9 bX bY bZ bV bQ bJ
    go_wp2_with fail
    go_roundg (n - (k+1))
    case measure=>omega
    case rel=>exact ⟨k+1,by omega,by go_num,Nat.le_refl _,dG,gT.out⟩
  ·obtain rfl:n=k:=by omega
   have hz:R=none:=by
    have h9:=cE.out.trans dR.out;rw [List.drop_eq_nil_of_le (by have:=dH.out;omega)] at h9;rw [h9]
    cases zeE ks n<;>rfl
   have HZ:=Aa hz;clear hz;go_wp2
   go_ret2
   exact ⟨⟨#[]⟩,by rw [HZ.out];rfl,by rw [HZ.out];rfl,cB⟩
theorem zh4 (A:Option Addr) (n c:Nat) (l:List (ByteArray × ByteArray)) (s:ByteArray) (w:World) (hT:Tabs w) (h:PtsR w w.heap.size A n l) (hsz:∀ p ∈ l,p.1.size≤4294967296∧p.2.size≤4294967296) (hs:s.size≤4294967296) :
  Calls Tryz.prog 50 #[.slice A n c,.string s] w (zco w (blT l s.data.toList) (blE l s.data.toList)):=by
 have HR:∀ W,Tabs W→Calls Tryz.prog 59 #[.string s] W (zay W (zak s.data.toList) (zam s.data.toList)):=fun W hT=>zcb s W hT hs
 have hL:=zgZ A n c l w hT h hsz;unfold blT blE
 by_cases h1:tabE l=0
 ·rw [if_neg (show ¬ tabE l≠0 by omega),if_neg (show ¬ tabE l≠0 by omega)]
  rw [h1] at hL
  by_cases h2:zam s.data.toList=0
  ·rw [if_neg (show ¬ zam s.data.toList≠0 by omega),if_neg (show ¬ zam s.data.toList≠0 by omega)]
   have aE:l.length=n:=h.1;have hn:1≤n∧n≤64∧zbr none l=0:=by
    unfold tabE at h1
    split at h1
    ·omega
    ·split at h1
     ·omega
     ·exact ⟨by omega,by omega,h1⟩
   have aA:∀ p ∈ l,zam p.1.data.toList=0∧zam p.2.data.toList=0:=by
    have h9:∀ (l:List (ByteArray × ByteArray)) (o:Option Q),zbr o l=0→∀ p ∈ l,zam p.1.data.toList=0∧zam p.2.data.toList=0:=by
     intro l
     induction l with
     | nil=>intro o _ p hp;cases hp
     | cons a t ih=>
      intro o ho p hp;have hc:zbr o (a :: t)=if rowE o a.1.data.toList a.2.data.toList≠0 then rowE o a.1.data.toList a.2.data.toList else zbr (some (zak a.1.data.toList)) t:=by cases o<;>rfl
      rw [hc] at ho
      split at ho
      ·rename_i h0;exact absurd ho h0
      ·rename_i h0
       rcases List.mem_cons.1 hp with rfl | hp
       ·have aD:rowE o p.1.data.toList p.2.data.toList=0:=by omega
        unfold rowE at aD
        by_cases hx:zam p.1.data.toList=0
        ·by_cases hy:zam p.2.data.toList=0
         ·exact ⟨hx,hy⟩
         ·rw [if_neg (by omega),if_pos hy] at aD;exact absurd aD hy
        ·rw [if_pos hx] at aD;exact absurd aD hx
       ·exact ih _ ho p hp
    exact h9 l none hn.2.2
   have aC:∀ t:List UInt8,zam t=0→LenQ (zak t) 65536:=fun t ht=>by
    have h9:=@zaN t ht;exact ⟨by omega,by omega⟩
   have aF:∀ p ∈ l.map rdP,LenQ p.1 65536∧LenQ p.2 65536:=fun p hp=>by
    obtain ⟨q,hq,rfl⟩:=List.mem_map.1 hp;exact ⟨aC _ (aA q hq).1,aC _ (aA q hq).2⟩
   rw [h2] at HR;obtain ⟨k0,aG⟩:∃ k0,(l.map rdP)[0]? = some k0:=by
    cases l with
    | nil=>simp at aE;omega
    | cons a t=>exact ⟨rdP a,rfl⟩
   have hb:=zmW (zak s.data.toList) A n c w.heap.size (l.map rdP) k0 s w hT (by rw [List.length_map];exact aE) hn.2.1 aG (aC _ h2) aF
    (hL.mono fun e w'=>by
     rintro ⟨⟨A',m',c',rfl,hk⟩,hb⟩;exact ⟨⟨A',m',c',rfl,hk rfl⟩,hb⟩) HR
   unfold zfC
   cases hR:zaU (zak s.data.toList) none (l.map rdP) with
   | none=>rw [hR] at hb;exact hb
   | some q=>rw [hR] at hb;exact hb
  ·rw [if_pos (show zam s.data.toList≠0 from h2),if_pos (show zam s.data.toList≠0 from h2)]
   exact zhO (zak s.data.toList) 0 (zam s.data.toList) (zam s.data.toList) A n c s w hT (show zam s.data.toList=if (0:Int)≠0 then 0 else zam s.data.toList from (if_neg (by omega)).symm) h2
    (hL.mono fun e w'=>by
     rintro ⟨⟨A',m',c',rfl,hk⟩,hb⟩;exact ⟨⟨A',m',c',rfl⟩,hb⟩) HR
 ·rw [if_pos (show tabE l≠0 from h1),if_pos (show tabE l≠0 from h1)]
  exact zhO (zak s.data.toList) (tabE l) (zam s.data.toList) (tabE l) A n c s w hT (show tabE l=if tabE l≠0 then tabE l else zam s.data.toList from (if_pos h1).symm) h1
   (hL.mono fun e w'=>by
    rintro ⟨⟨A',m',c',rfl,hk⟩,hb⟩;exact ⟨⟨A',m',c',rfl⟩,hb⟩) HR
theorem zjO (w:World):Calls Tryz.prog 86 #[.int .u64 999999999] w (zb9 w 999999999):=zai 999999999 w (by omega) (by omega)
theorem zoL (w:World) (t:TypeId) (g:Nat) (hg:w.heap.size=g) :
  Calls Tryz.prog 80 #[.slice (some ⟨g,0,none⟩) 2 2] (w.alloc (.cells #[.int .i64 0,.int .i64 0] t)).drew fun e w'=>e = .returned (.int .i64 0)∧Below (w.alloc (.cells #[.int .i64 0,.int .i64 0] t)).drew.heap.size (w.alloc (.cells #[.int .i64 0,.int .i64 0] t)).drew w':=
 (zbl 0 0 0 rfl w.drew t g hg:Calls _ _ _ _ _).mono fun _ _ ⟨he,hw⟩=>⟨he,by rw [←hw];exact Below.refl _ _⟩
theorem zjQ (x a b:Int) (w:World) (h1:a≤x) (h2:x≤b) :
  Calls Tryz.prog 118 #[.int .i64 x,.int .i64 a,.int .i64 b] w fun e w'=>e = .returned (.int .i64 0)∧w=w':=by
 have d1:decide (x<a)=false:=decide_eq_false (by omega);have d2:decide (b<x)=false:=decide_eq_false (by omega);go_enter Tryz.func118,Tryz.ntmps118
 go_wp2
 go_ret;exact ⟨rfl,rfl⟩
theorem zia (p:Q) (s:ByteArray) (dec:Int) (w:World) (hT:Tabs w) (hbot:p.bot≤999999999) (hd1:1≤dec) (hd2:dec≤12)
  (HR:Hid (∀ W,Tabs W→Calls Tryz.prog 59 #[.string s] W (zay W p 0))) :
  Calls Tryz.prog 114 #[.string s,.int .i64 dec] w (zay w p 0):=by
 have aH:Below w.heap.size w (w.alloc (.cells #[.bool false,.slice none 0 0,.slice none 0 0] 87)):=((Below.refl _ _).alloc (by simp<;>omega) _);have q0:CBlk (w.alloc (.cells #[.bool false,.slice none 0 0,.slice none 0 0] 87)) (w.heap.size) #[.bool false,.slice none 0 0,.slice none 0 0] 87:=(CBlk.new _ _ _ _ (by simp));have d:decide (0<ncmp p.bot 999999999)=false:=decide_eq_false (by
  rcases Nat.lt_or_ge p.bot 999999999 with h | h
  ·rw [ncmp_lt h];omega
  ·rw [show p.bot=999999999 by omega,ncmp_eq];omega)
 clear hbot;go_enter Tryz.func114,Tryz.ntmps114
 go_upto_region 1 with (fail)
 generalize (w.alloc (.cells #[.bool false,.slice none 0 0,.slice none 0 0] 87))=W at *
 go_wp2_with fail
 refine (HR.out W (hT.later aH)).mono ?_;rintro e w2 ⟨v2,rfl,⟨A1,n1,c1,A2,n2,c2,rfl,h1,h2⟩,aI⟩;have aC:Below w2.heap.size w2 (w2.alloc (.cells #[.bool p.neg,.slice A1 n1 c1,.slice A2 n2 c2] 87)):=Ac;have aM:=Ad aH aI;have hB:=Ad aM aC;have q4:=(q0.below aI q0.lt).alloc (.cells #[.bool p.neg,.slice A1 n1 c1,.slice A2 n2 c2] 87);have q6:CBlk (w2.alloc (.cells #[.bool p.neg,.slice A1 n1 c1,.slice A2 n2 c2] 87)) w2.heap.size #[.bool p.neg,.slice A1 n1 c1,.slice A2 n2 c2] 87:=CBlk.new _ _ _ _ rfl;have aS:=h1.later aC;have aK:=h2.later aC;have aV:Hid (w.heap.size≠w2.heap.size):=Aa (Nat.ne_of_lt (Nat.lt_of_lt_of_le q0.lt aI.size));clear q0 aH aI aM h1 h2 aC HR hT;go_upto_region 2 with (fail)
 generalize (w2.alloc (.cells #[.bool p.neg,.slice A1 n1 c1,.slice A2 n2 c2] 87))=w3 at *;have k0:w3.drew.cell? ⟨w2.heap.size,2,none⟩=some (.slice A2 n2 c2):=q6.cell 2;have l0:w2.heap.size<w3.drew.heap.size:=q6.lt
 go_region_held3 (fun w'=>w'.cell? ⟨w2.heap.size,2,none⟩=some (.slice A2 n2 c2))
  (first | with_reducible exact k0 | with_reducible exact k1 | with_reducible exact k2)
  (first
   |(go_at_call 86;refine (zjO _).mono ?_;rintro e w4 ⟨A4,m4,c4,rfl,aW,aA⟩;have l1:w2.heap.size<w4.heap.size:=Nat.lt_of_lt_of_le l0 aA.size;have k1:w4.cell? ⟨w2.heap.size,2,none⟩=some (.slice A2 n2 c2):=(aA.cell (p:=⟨w2.heap.size,2,none⟩) l0).trans k0)
   |(go_at_call 130;refine (zkx A2 A4 n2 c2 m4 c4 p.bot 999999999 w4 ((aK.later (Below.drew (Below.refl _ _))).later aA) aW).mono ?_;rintro e w5 ⟨rfl,aD⟩;have k2:w5.cell? ⟨w2.heap.size,2,none⟩=some (.slice A2 n2 c2):=(aD.cell (p:=⟨w2.heap.size,2,none⟩) l1).trans k1))
 have aN:=hB.drew.trans (aA.mono hB.drew.size);have aR:=Ad aN aD;have aZ:=(q4.drew.below aA q4.lt).below aD (Nat.lt_of_lt_of_le q4.lt aA.size);have aG:=(q6.drew.below aA q6.lt).below aD (Nat.lt_of_lt_of_le q6.lt aA.size);have aY:=((aS.later (Below.drew (Below.refl _ _))).later aA).later aD;have aX:=((aK.later (Below.drew (Below.refl _ _))).later aA).later aD;clear k0 k1 k2 l0 l1 aA aD hB aN q4 q6 aS aK aW;go_upto_region 4 with (fail)
 have aT:=(aZ.alloc (.cells #[.int .i64 0,.int .i64 0] 27)).drew;have aJ:=(aG.alloc (.cells #[.int .i64 0,.int .i64 0] 27)).drew;have aU:Below w.heap.size w (w5.alloc (.cells #[.int .i64 0,.int .i64 0] 27)).drew:=(aR.alloc aR.size _).drew;have aC:Below w5.heap.size w5 (w5.alloc (.cells #[.int .i64 0,.int .i64 0] 27)).drew:=((Below.refl _ _).alloc (Nat.le_refl _) _).drew;have bC:=aY.later aC;have bA:=aX.later aC;have k0:w5.drew.cell? ⟨w2.heap.size,0,none⟩=some (.bool p.neg):=aG.cell 0;have k1:w5.drew.cell? ⟨w2.heap.size,1,none⟩=some (.slice A1 n1 c1):=aG.cell 1;have k2:w5.drew.cell? ⟨w2.heap.size,2,none⟩=some (.slice A2 n2 c2):=aG.cell 2;have m0:((w5.alloc (.cells #[.int .i64 0,.int .i64 0] 27)).drew).cell? ⟨w2.heap.size,0,none⟩=some (.bool p.neg):=aJ.cell 0;have m1:((w5.alloc (.cells #[.int .i64 0,.int .i64 0] 27)).drew).cell? ⟨w2.heap.size,1,none⟩=some (.slice A1 n1 c1):=aJ.cell 1;have m2:((w5.alloc (.cells #[.int .i64 0,.int .i64 0] 27)).drew).cell? ⟨w2.heap.size,2,none⟩=some (.slice A2 n2 c2):=aJ.cell 2;have aL:w.heap.size≠w2.heap.size:=aV.out;have bD:=aT.lt;have aP:=aJ.lt;clear aZ aG aR aC aY aX aV
 go_region_held3 (fun w'=>w'.cell? ⟨w2.heap.size,0,none⟩=some (.bool p.neg)∧w'.cell? ⟨w2.heap.size,1,none⟩=some (.slice A1 n1 c1)∧w'.cell? ⟨w2.heap.size,2,none⟩=some (.slice A2 n2 c2))
  (first | with_reducible exact ⟨k0,k1,k2⟩ | with_reducible exact ⟨m0,m1,m2⟩ | with_reducible exact ⟨s0,s1,s2⟩ | exact ⟨(far3 _ _ _ _ (by exact aL)).trans s0,(far3 _ _ _ _ (by exact aL)).trans s1,(far3 _ _ _ _ (by exact aL)).trans s2⟩)
  (first
   |(go_at_call 118;refine (zjQ dec 1 12 _ hd1 hd2).mono ?_;rintro e w6 ⟨rfl,rfl⟩)
   |(go_at_call 80;refine (zoL w5 _ _ rfl).mono ?_;rintro e w6 ⟨rfl,aE⟩;have s0:w6.cell? ⟨w2.heap.size,0,none⟩=some (.bool p.neg):=(aE.cell (p:=⟨w2.heap.size,0,none⟩) aP).trans m0;have s1:w6.cell? ⟨w2.heap.size,1,none⟩=some (.slice A1 n1 c1):=(aE.cell (p:=⟨w2.heap.size,1,none⟩) aP).trans m1;have s2:w6.cell? ⟨w2.heap.size,2,none⟩=some (.slice A2 n2 c2):=(aE.cell (p:=⟨w2.heap.size,2,none⟩) aP).trans m2;have aF:=aT.below aE bD;have y0:=aF.cell 0;have y1:=aF.cell 1;have y2:=aF.cell 2;have z0:=aF.frozen 0;have z1:=aF.frozen 1;have z2:=aF.frozen 2))
 have bB:=Ad aU aE;have aO:=zan bB (g:=w.heap.size) (Nat.le_refl _) (.bool p.neg) (.slice A1 n1 c1) (.slice A2 n2 c2);have aQ:=(RatS.mk (q:=p) (bC.later aE) (bA.later aE)).res3 aF p.neg A1 A2 n1 c1 n2 c2
 go_wp2_with fail
 refine bodyPost_ret (v := .tuple #[.agg #[.bool p.neg,.slice A1 n1 c1,.slice A2 n2 c2],.int .i64 0]) (by simp [results,Tryz.results114,go_sem,y0,y1,y2]) rfl ⟨_,rfl,aQ,aO⟩
theorem zi7 (p:Q) (s:ByteArray) (dec:Int) (l m:List UInt8) (x:Int) (w:World) (hT:Tabs w) (hbot:p.bot≤999999999) (hd1:1≤dec) (hd2:dec≤12)
  (HR:Hid (∀ W,Tabs W→Calls Tryz.prog 59 #[.string s] W (zay W p 0)))
  (HC:Hid (∀ v W,Tabs W→RatS W W.heap.size v p→Calls Tryz.prog 115 #[v,.int .i64 dec] W (zen W l m x))) :
  Calls Tryz.prog 54 #[.string s,.int .i64 dec] w (zen w l m x):=by
 have aA:Below w.heap.size w (w.alloc (.cells #[.string ⟨#[]⟩,.string ⟨#[]⟩] 24)):=((Below.refl _ _).alloc (by simp<;>omega) _);have q0:CBlk (w.alloc (.cells #[.string ⟨#[]⟩,.string ⟨#[]⟩] 24)) (w.heap.size) #[.string ⟨#[]⟩,.string ⟨#[]⟩] 24:=(CBlk.new _ _ _ _ (by simp));have aH:=Aa (fun W hT=>zia p s dec W hT hbot hd1 hd2 HR);clear HR hbot;go_enter Tryz.func54,Tryz.ntmps54
 go_upto_region 1 with (fail)
 generalize (w.alloc (.cells #[.string ⟨#[]⟩,.string ⟨#[]⟩] 24))=W at *
 go_wp2_with fail
 refine (aH.out W (hT.later aA)).mono ?_;rintro e w2 ⟨v2,rfl,⟨A1,n1,c1,A2,n2,c2,rfl,h1,h2⟩,aC⟩;have aF:Below w2.heap.size w2 (w2.alloc (.cells #[.bool p.neg,.slice A1 n1 c1,.slice A2 n2 c2] 87)):=Ac;have aD:=Ad aA aC;have hB:=Ad aD aF;have aL:Hid (w.heap.size≠w2.heap.size):=Aa (Nat.ne_of_lt (Nat.lt_of_lt_of_le q0.lt aC.size));have q4:=(q0.below aC q0.lt).alloc (.cells #[.bool p.neg,.slice A1 n1 c1,.slice A2 n2 c2] 87);have q6:CBlk (w2.alloc (.cells #[.bool p.neg,.slice A1 n1 c1,.slice A2 n2 c2] 87)) w2.heap.size #[.bool p.neg,.slice A1 n1 c1,.slice A2 n2 c2] 87:=CBlk.new _ _ _ _ rfl;have hv:=(RatS.mk (q:=p) h1 h2).later aF;clear q0 aA aC aD h1 h2 aF aH;go_upto_region 2 with (fail)
 generalize (w2.alloc (.cells #[.bool p.neg,.slice A1 n1 c1,.slice A2 n2 c2] 87))=w3 at *;have a0:=q6.cell 0;have a1:=q6.cell 1;have a2:=q6.cell 2
 go_wp2_with fail
 refine (HC.out _ w3 (hT.later hB) hv).mono ?_;rintro e w8 ⟨z1,z2,rfl,aJ,aK,aG⟩;have aI:=Ad hB aG;have q8:=q4.below aG q4.lt;have y0:=q8.cell 0;have y1:=q8.cell 1;have f0:=q8.frozen 0;have f1:=q8.frozen 1;have aE:=zcK aI (g:=w.heap.size) (Nat.le_refl _) (.string z1) (.string z2);go_wp2
 refine bodyPost_ret (v := .tuple #[.agg #[.string z1,.string z2],.int .i64 x]) (by simp [results,Tryz.results54,go_sem,y0,y1]) rfl ⟨z1,z2,rfl,aJ,aK,aE⟩
end Go.Proofs.YtbkgkoenppkhpaaGreatDoor
