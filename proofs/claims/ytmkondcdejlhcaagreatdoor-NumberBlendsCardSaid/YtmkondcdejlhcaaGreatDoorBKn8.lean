/- Contract of Blend: any table and any number. -/
import Derived.Test.YtmkondcdejlhcaaGreatDoorBKn5
import Derived.Deep.RegionHeld3
import Derived.Test.YtmkondcdejlhcaaGreatDoorBWords
import Derived.Test.YtmkondcdejlhcaaGreatDoorBRb24
set_option maxRecDepth 100000
set_option maxHeartbeats 4000000
namespace Go.Proofs.YtmkondcdejlhcaaGreatDoor
section
open Go.RowKit Bn
def zbw (x:Q):Option (Q × Q)→List (Q × Q)→Option Q
 | _,[]=>none
 | o,k :: t=>if rcmp x k.1=0 then some k.2 else if rcmp x k.1<0 then o.map (fun p=>zbk p.1 p.2 k.1 k.2 x) else zbw x (some k) t
def zgR (l:List (ByteArray × ByteArray)) (s:List UInt8):Option Q:=zbw (zab s) none (l.map rdP)
def blE (l:List (ByteArray × ByteArray)) (s:List UInt8):Int:=if tabE l≠0 then tabE l else if zad s≠0 then zad s else match zgR l s with | none=>3 | some q=>zao q
def blT (l:List (ByteArray × ByteArray)) (s:List UInt8):List UInt8:=if tabE l≠0 then [] else if zad s≠0 then [] else match zgR l s with | none=>[] | some q=>zaJ q
def zeP (ks:List (Q × Q)) (k:Nat):Option (Q × Q):=if k=0 then none else ks[k - 1]?
def outE:Option Q→Int | none=>3 | some q=>zao q
def outT:Option Q→List UInt8 | none=>[] | some q=>zaJ q
theorem zcn {x:Q} {ks:List (Q × Q)} {k:Nat} {kk:Q × Q} (h:ks[k]? = some kk) (he:zbw x none ks=zbw x (zeP ks k) (ks.drop k)) :
  (rcmp x kk.1=0→zbw x none ks=some kk.2)∧(rcmp x kk.1<0→zbw x none ks=(zeP ks k).map (fun p=>zbk p.1 p.2 kk.1 kk.2 x))∧(0<rcmp x kk.1→zbw x none ks=zbw x (zeP ks (k+1)) (ks.drop (k+1))):=by
 obtain ⟨hl,hk⟩:=List.getElem?_eq_some_iff.1 h;rw [List.drop_eq_getElem_cons hl,hk] at he;have hc:zbw x (zeP ks k) (kk :: ks.drop (k+1))=if rcmp x kk.1=0 then some kk.2 else if rcmp x kk.1<0 then (zeP ks k).map (fun p=>zbk p.1 p.2 kk.1 kk.2 x) else zbw x (some kk) (ks.drop (k+1)):=by
  cases zeP ks k<;>rfl
 rw [hc] at he;refine ⟨fun h0=>by rw [he,if_pos h0],fun h0=>by rw [he,if_neg (by omega),if_pos h0],fun h0 => ?_⟩;rw [he,if_neg (by omega),if_neg (by omega)];have:zeP ks (k+1)=some kk:=by unfold zeP;rw [if_neg (by omega),Nat.add_sub_cancel,h]
 rw [this]
theorem zky {a b c d x:Q} (l1:LenQ a 65536) (l2:LenQ b 65536) (l3:LenQ c 65536) (l4:LenQ d 65536) (l5:LenQ x 65536):LenQ (zbk a b c d x) 268435456:=by
 have n1:LenQ (za5 d b) 524288:=(zbj l4 (zb2 l2)).mono (by omega);have n2:LenQ (za5 c a) 524288:=(zbj l3 (zb2 l1)).mono (by omega);have n3:LenQ (zpR (za5 d b) (za5 c a)) 1048576:=(zbD _ n1 n2 (by omega)).mono (by omega);have n4:LenQ (za5 x a) 524288:=(zbj l5 (zb2 l1)).mono (by omega);have n5:LenQ (znm (zpR (za5 d b) (za5 c a)) (za5 x a)) 1572864:=(zbz _ n3 n4 (by omega)).mono (by omega);exact (zbj l2 n5).mono (by omega)
theorem zdi.later {W W':World} {B n:Nat} {v:Value} {ks:List (Q × Q)} (h:zdi W B v n ks) (hb:Below W.heap.size W W'):zdi W' B v n ks:=by
 refine h.keep (fun xs hx => ?_) (fun u p q hu=>hu.later hb);refine hx.kept (row:=none) ⟨hb.os,hb.tape,hb.output,hb.size,fun i hi _=>hb.block i hi⟩ ?_
 cases v.ownBlock<;>simp
theorem zjt (x:Q) (z1 z2 E:Int) (A:Option Addr) (n c:Nat) (s:ByteArray) (w:World) (hT:Tabs w) (HE:Hid (E=if z1≠0 then z1 else z2)) (H0:Hid (E≠0))
  (HL:Hid (Calls Tryz.prog 88 #[.slice A n c] w fun e w'=>(∃ A' m' c',e = .returned (.tuple #[.slice A' m' c',.int .i64 z1]))∧Below w.heap.size w w'))
  (HR:Hid (∀ W,Tabs W→Calls Tryz.prog 62 #[.string s] W (zax W x z2))) :
  Calls Tryz.prog 41 #[.slice A n c,.string s] w (za0 w [] E):=by
 have aG:(E != 0)=true:=by simpa using H0.out
 go_enter Tryz.func41,Tryz.ntmps41
 go_wp2_with fail
 refine HL.out.mono ?_;rintro e w2 ⟨⟨A',m',c',rfl⟩,aC⟩
 go_wp2_with fail
 refine (HR.out w2 (hT.later aC)).mono ?_;rintro e w3 ⟨v3,rfl,⟨A1,n1,c1,A2,n2,c2,rfl,h1,h2⟩,aE⟩;have aD:=Ad aC aE;have aA:Below w.heap.size w (w3.alloc (.cells #[.bool x.neg,.slice A1 n1 c1,.slice A2 n2 c2] 91)):=aD.alloc aD.size _;go_upto_region 3 with (fail)
 generalize (w3.alloc (.cells #[.bool x.neg,.slice A1 n1 c1,.slice A2 n2 c2] 91))=w4 at *;have aF:Below w.heap.size w (w4.alloc (.cells #[.int .i64 z1,.int .i64 z2] 26)):=aA.alloc aA.size _
 go_wp2_with fail
 refine (za7 z1 z2 E HE.out w4 _ _ rfl).mono ?_;rintro e w6 ⟨rfl,rfl⟩
 go_wp2_with fail
 go_ret2
 exact ⟨⟨#[]⟩,rfl,rfl,aF⟩
theorem zo1 (x:Q) (A:Option Addr) (n c B:Nat) (ks:List (Q × Q)) (k0:Q × Q) (s:ByteArray) (w:World) (hT:Tabs w) (hlk:ks.length=n) (hn:n≤64) (hk0:ks[0]? = some k0) (lx:LenQ x 65536) (lk:∀ p ∈ ks,LenQ p.1 65536∧LenQ p.2 65536)
  (HL:Hid (Calls Tryz.prog 88 #[.slice A n c] w fun e w'=>(∃ A' m' c',e = .returned (.tuple #[.slice A' m' c',.int .i64 0])∧zdi w' B (.slice A' m' c') n ks)∧Below w.heap.size w w'))
  (HR:Hid (∀ W,Tabs W→Calls Tryz.prog 62 #[.string s] W (zax W x 0))) :
  Calls Tryz.prog 41 #[.slice A n c,.string s] w (za0 w (outT (zbw x none ks)) (outE (zbw x none ks))):=by
 have iI:0<n:=by
  rcases Nat.eq_zero_or_pos n with h | h
  ·rw [List.getElem?_eq_none (by omega)] at hk0;cases hk0
  ·exact h
 have dH:=Aa lk;have fJ:=Aa lx;have dO:=Aa hlk;have dI:=Aa hk0;have HC:=Aa (fun (p:Q) v u W h1 h2 (lp:LenQ p 65536)=>zbx x p v u W h1 h2 (lx.mono (by omega)) (lp.mono (by omega)));have bT:=zcn (x:=x) hk0 rfl;obtain ⟨R,hR⟩:∃ R,R=zbw x none ks:=⟨_,rfl⟩;have bW:=Aa hR;have dL:=Aa bT;rw [←hR];clear hlk hk0 lx lk bT hR;have iG:(0:Int)<(n:Int):=by omega
 have iJ:n≠0:=by omega
 go_enter Tryz.func41,Tryz.ntmps41
 go_wp2_with fail
 refine HL.out.mono ?_;rintro e w2 ⟨⟨A',m',c',rfl,cH⟩,cN⟩;obtain ⟨bk,cV,hv,_,iH,_⟩:∃ bk cV,Value.slice A' m' c' = .slice (some ⟨bk,0,none⟩) n cV∧B≤bk∧bk<w2.heap.size∧(Value.slice A' m' c').ownBlock=some bk:=by
  rcases cH.form with ⟨_,h⟩ | h
  ·omega
  ·exact h
 obtain ⟨rfl,rfl,rfl⟩:A'=some ⟨bk,0,none⟩∧n=m'∧cV=c':=by injection hv with e1 e2 e3;exact ⟨e1,e2.symm,e3.symm⟩
 clear hv
 go_wp2_with fail
 refine (HR.out w2 (hT.later cN)).mono ?_;rintro e w3 ⟨v3,rfl,⟨A1,n1,c1,A2,n2,c2,rfl,h1,h2⟩,dM⟩;have cQ:=Ad cN dM;have bR:Below w3.heap.size w3 (w3.alloc (.cells #[.bool x.neg,.slice A1 n1 c1,.slice A2 n2 c2] 91)):=Ac;have bD:=Ad cQ bR;have q3:CBlk (w3.alloc (.cells #[.bool x.neg,.slice A1 n1 c1,.slice A2 n2 c2] 91)) w3.heap.size #[.bool x.neg,.slice A1 n1 c1,.slice A2 n2 c2] 91:=CBlk.new _ _ _ _ rfl;have k3:=(cH.later dM).later bR;have fI:=h1.later bR;have dS:=h2.later bR;clear cH bR h1 h2 cQ cN dM;go_upto_region 3 with (fail)
 generalize (w3.alloc (.cells #[.bool x.neg,.slice A1 n1 c1,.slice A2 n2 c2] 91))=w4 at *;generalize w3.heap.size=gx at *;have cP:Below w.heap.size w (w4.alloc (.cells #[.int .i64 0,.int .i64 0] 26)):=bD.alloc bD.size _;have cA:Below w4.heap.size w4 (w4.alloc (.cells #[.int .i64 0,.int .i64 0] 26)):=Ac;have q5:=q3.alloc (.cells #[.int .i64 0,.int .i64 0] 26);have k5:=k3.later cA;have cU:=fI.later cA;have dJ:=dS.later cA
 go_wp2_with fail
 refine (za7 0 0 0 rfl w4 _ _ rfl).mono ?_;rintro e w5 ⟨rfl,rfl⟩;clear q3 k3 fI dS cA bD;generalize (w4.alloc (.cells #[.int .i64 0,.int .i64 0] 26))=w5 at *;obtain ⟨K1,m1,e1,K2,m2,e2,K3,m3,e3,K4,m4,e4,aM,r1,r2,_,_⟩:=k5.at_ (o:=k0.1) (oo:=k0.2) dI.out;have aZ:bk<w5.heap.size:=by
  rcases k5.form with ⟨h,_⟩ | ⟨g9,cS,h,_,h9,_⟩
  ·cases h
  ·injection h with h;injection h with h;injection h with h;omega
 have aC:Below w5.heap.size w5 w5.drew:=(Below.refl _ _).drew;have fK:=(dH.out k0 (List.mem_of_getElem? dI.out)).1;have aV:=Aa (HC.out k0.1 _ _ w5.drew (RatS.mk (q:=x) (cU.later aC) (dJ.later aC)) (RatS.mk (q:=k0.1) (r1.later aC) (r2.later aC)) fK);go_upto_region 6 with (fail)
 have cL:w5.drew.cell? ⟨gx,0,none⟩=some (.bool x.neg):=q5.cell 0;have cO:w5.drew.cell? ⟨gx,1,none⟩=some (.slice A1 n1 c1):=q5.cell 1;have cE:w5.drew.cell? ⟨gx,2,none⟩=some (.slice A2 n2 c2):=q5.cell 2;have bE:w5.drew.cell? ⟨bk,0,none⟩=some (.bool k0.1.neg):=by have:=aM 0 _ rfl;simpa using this
 have bF:w5.drew.cell? ⟨bk,1,none⟩=some (.slice K1 m1 e1):=by have:=aM 1 _ rfl;simpa using this
 have bG:w5.drew.cell? ⟨bk,2,none⟩=some (.slice K2 m2 e2):=by have:=aM 2 _ rfl;simpa using this
 clear aM;generalize bM:rcmp x k0.1=r0 at *;have dQ:=Aa bM;clear bM;obtain ⟨b0,dP⟩:∃ b,decide (r0<0)=b:=⟨_,rfl⟩;have gB:Hid (b0=true→r0<0):=fun h=>of_decide_eq_true (dP.trans h)
 have iD:Hid (b0=false→0≤r0):=fun h=>Int.not_lt.1 (of_decide_eq_false (dP.trans h))
 go_region_held3 (fun w'=>w'.cell? ⟨gx,0,none⟩=some (.bool x.neg)∧w'.cell? ⟨gx,1,none⟩=some (.slice A1 n1 c1)∧w'.cell? ⟨gx,2,none⟩=some (.slice A2 n2 c2)∧w'.cell? ⟨bk,0,none⟩=some (.bool k0.1.neg)∧w'.cell? ⟨bk,1,none⟩=some (.slice K1 m1 e1)∧w'.cell? ⟨bk,2,none⟩=some (.slice K2 m2 e2))
  (first | with_reducible exact ⟨cL,cO,cE,bE,bF,bG⟩ | with_reducible exact ⟨cG,cF,bZ,bI,bP,bK⟩)
  (first | (go_at_call 70;refine aV.out.mono ?_;rintro e w7 ⟨rfl,bC⟩;have q7:=q5.drew.below bC q5.lt;have k7:=(k5.later aC).later bC;have cG:w7.cell? ⟨gx,0,none⟩=some (.bool x.neg):=q7.cell 0;have cF:w7.cell? ⟨gx,1,none⟩=some (.slice A1 n1 c1):=q7.cell 1;have bZ:w7.cell? ⟨gx,2,none⟩=some (.slice A2 n2 c2):=q7.cell 2;have bI:w7.cell? ⟨bk,0,none⟩=some (.bool k0.1.neg):=(bC.cell aZ).trans bE;have bP:w7.cell? ⟨bk,1,none⟩=some (.slice K1 m1 e1):=(bC.cell aZ).trans bF;have bK:w7.cell? ⟨bk,2,none⟩=some (.slice K2 m2 e2):=(bC.cell aZ).trans bG))
 have aR:=Ad aC bC;have dB:=Ad cP aR;have iF:=cU.later aR;have gN:=dJ.later aR;have fW:w5.heap.size≤w7.heap.size:=aR.size;clear cL cO cE bE bF bG cG cF bZ bI bP bK cP aC bC aR q5 k5 cU dJ r1 r2 fK aV;clear dP
 cases b0
 case true=>
  have hz:R=none:=by rw [bW.out,dL.out.2.1 (gB.out rfl)];rfl
  have HZ:=Aa hz;clear hz;go_wp2
  go_ret2
  exact ⟨⟨#[]⟩,by rw [HZ.out];rfl,by rw [HZ.out];rfl,dB⟩
 have iB:=Aa (iD.out rfl);go_wp2
 go_loopg [40] n (fun m s W=>∃ k:Nat,k≤n∧s = .int .i64 k∧n - k≤m∧Below w7.heap.size w7 W∧zbw x none ks=zbw x (zeP ks k) (ks.drop k))
 case atStart=>exact ⟨0,Nat.zero_le _,rfl,by omega,Below.refl _ _,rfl⟩
 case round=>
  obtain ⟨k,hk,rfl,hm,aE,fH⟩:=hrel;have fC:=Aa fH;clear fH;have qr:=q7.below aE q7.lt;have kr:=k7.later aE;have fM:=iF.later aE;have dX:=gN.later aE;have cC:=Ad dB aE
  by_cases cH:k<n
  ·have dT:k<ks.length:=by have:=dO.out;omega
   have bJ:ks[k]? = some ks[k]:=List.getElem?_eq_getElem dT;generalize ks[k]=kk at *;have aT:=zcn bJ fC.out;have dY:=dH.out kk (List.mem_of_getElem? bJ);obtain ⟨K1,m1,e1,K2,m2,e2,K3,m3,e3,K4,m4,e4,aM,r1,r2,r3,r4⟩:=kr.at_ (o:=kk.1) (oo:=kk.2) bJ;have y0:wr.cell? ⟨bk,k*6,none⟩=some (.bool kk.1.neg):=aM 0 _ rfl;have y1:wr.cell? ⟨bk,k*6+1,none⟩=some (.slice K1 m1 e1):=aM 1 _ rfl;have y2:wr.cell? ⟨bk,k*6+2,none⟩=some (.slice K2 m2 e2):=aM 2 _ rfl;have y3:wr.cell? ⟨bk,k*6+3,none⟩=some (.bool kk.2.neg):=aM 3 _ rfl;have y4:wr.cell? ⟨bk,k*6+4,none⟩=some (.slice K3 m3 e3):=aM 4 _ rfl;have y5:wr.cell? ⟨bk,k*6+5,none⟩=some (.slice K4 m4 e4):=aM 5 _ rfl;have aQ:Below wr.heap.size wr (wr.alloc (.cells #[.bool kk.1.neg,.slice K1 m1 e1,.slice K2 m2 e2,.bool kk.2.neg,.slice K3 m3 e3,.slice K4 m4 e4] 121)):=Ac;have qk:CBlk (wr.alloc (.cells #[.bool kk.1.neg,.slice K1 m1 e1,.slice K2 m2 e2,.bool kk.2.neg,.slice K3 m3 e3,.slice K4 m4 e4] 121)) wr.heap.size #[.bool kk.1.neg,.slice K1 m1 e1,.slice K2 m2 e2,.bool kk.2.neg,.slice K3 m3 e3,.slice K4 m4 e4] 121:=CBlk.new _ _ _ _ rfl;have aS:=Aa aT;have fR:=Aa bJ;have bH:=Aa dY;have q8:=qr.below aQ qr.lt;have k8:=kr.later aQ;have dA:=fM.later aQ;have cT:=dX.later aQ;have cY:=r1.later aQ;have dK:=r2.later aQ;have fF:=r3.later aQ;have fB:=r4.later aQ;have cR:=Ad cC aQ;have fZ:=aE.size;have bB:=Ad aE aQ;clear aM aT bJ dY qr kr fM dX r1 r2 r3 r4 aQ dT cC aE;go_upto_region 11 with (fail)
   generalize (wr.alloc (.cells #[.bool kk.1.neg,.slice K1 m1 e1,.slice K2 m2 e2,.bool kk.2.neg,.slice K3 m3 e3,.slice K4 m4 e4] 121))=w8 at *;generalize wr.heap.size=gn at *;have x0:w8.cell? ⟨gx,0,none⟩=some (.bool x.neg):=q8.cell 0;have x1:w8.cell? ⟨gx,1,none⟩=some (.slice A1 n1 c1):=q8.cell 1;have x2:w8.cell? ⟨gx,2,none⟩=some (.slice A2 n2 c2):=q8.cell 2;have z0:w8.cell? ⟨gn,0,none⟩=some (.bool kk.1.neg):=qk.cell 0;have z1:w8.cell? ⟨gn,1,none⟩=some (.slice K1 m1 e1):=qk.cell 1;have z2:w8.cell? ⟨gn,2,none⟩=some (.slice K2 m2 e2):=qk.cell 2;clear y0 y1 y2 y3 y4 y5
   go_wp2_with fail
   refine (HC.out kk.1 _ _ w8 (RatS.mk (q:=x) dA cT) (RatS.mk (q:=kk.1) cY dK) bH.out.1).mono ?_;rintro e w9 ⟨rfl,aN⟩;have q9:=q8.below aN q8.lt;have aK:=qk.below aN qk.lt;have k9:=k8.later aN;have cI:=dA.later aN;have cK:=cT.later aN;have cB:=cY.later aN;have cJ:=dK.later aN;have bO:=fF.later aN;have bQ:=fB.later aN;have aW:=Ad cR aN;have cZ:=Ad bB aN;clear x0 x1 x2 z0 z1 z2 q8 qk k8 dA cT cY dK fF fB cR bB aN;generalize fD:rcmp x kk.1=r at *;have fO:=Aa fD;clear fD
   rcases Int.lt_trichotomy r 0 with cM | gU | dR
   ·have d1:(r==0)=false:=by rw [beq_eq_false_iff_ne];omega
    have d2:decide (r=0)=false:=decide_eq_false (by omega);have d3:decide (r<0)=true:=decide_eq_true cM;have iK:=Aa cM;obtain ⟨j,HJ⟩:∃ j,Hid (k=j+1):=by
     rcases Nat.eq_zero_or_pos k with h | h
     ·exfalso
      subst h;have h9:=fR.out;rw [dI.out] at h9;injection h9 with h9
      have h8:=dQ.out;rw [h9,fO.out] at h8;have:=iB.out;omega
     ·exact ⟨k - 1,by show k=k - 1+1;omega⟩
    have fE:j<ks.length:=by have:=dO.out;have:=HJ.out;omega
    have bV:ks[j]? = some ks[j]:=List.getElem?_eq_getElem fE;generalize ks[j]=pp at *;have bU:=dH.out pp (List.mem_of_getElem? bV);have aU:zeP ks k=some pp:=by unfold zeP;rw [if_neg (by have:=HJ.out;omega),show k - 1=j by have:=HJ.out;omega];exact bV
    have aO:R=some (zbk pp.1 pp.2 kk.1 kk.2 x):=by rw [bW.out,aS.out.2.1 cM,aU];rfl
    have aP:=Aa aO;have d4:wrap64 ((k:Int) - 1)=(j:Int):=by rw [IntWalk.wrap64_in _ (by omega)];have:=HJ.out;omega
    have d5:IntKind.i64.wrap ((k:Int) - 1)=(j:Int):=by rw [IntWalk.i64_in _ (by omega)];have:=HJ.out;omega
    have d6:(0:Int)≤(j:Int):=by omega
    have d7:(j:Int)<(n:Int):=by have:=HJ.out;omega
    obtain ⟨P1,a1,b1,P2,a2,b2,P3,a3,b3,P4,a4,b4,bA,s1,s2,s3,s4⟩:=k9.at_ (o:=pp.1) (oo:=pp.2) bV;have aJ:bk<w9.drew.heap.size:=by
     rcases k9.form with ⟨h,_⟩ | ⟨g9,cS,h,_,h9,_⟩
     ·cases h
     ·injection h with h;injection h with h;injection h with h;subst h;exact h9
    have aC:Below w9.heap.size w9 w9.drew:=(Below.refl _ _).drew;have gG:=aW.size;have dZ:=hT.later (aW.trans (aC.mono aW.size));have fP:=Aa (zkh pp.1 pp.2 kk.1 kk.2 x _ _ _ w9.drew dZ ⟨P1,a1,b1,P2,a2,b2,P3,a3,b3,P4,a4,b4,rfl,s1.later aC,s2.later aC,s3.later aC,s4.later aC⟩ ⟨K1,m1,e1,K2,m2,e2,K3,m3,e3,K4,m4,e4,rfl,cB.later aC,cJ.later aC,bO.later aC,bQ.later aC⟩ (RatS.mk (q:=x) (cI.later aC) (cK.later aC)) bU.1 bU.2 bH.out.1 bH.out.2 fJ.out);have cW:=Aa (fun (v:Value) (W:World) (hT:Tabs W) (hv:RatS W W.heap.size v (zbk pp.1 pp.2 kk.1 kk.2 x))=>zcc _ v W hT hv (zky bU.1 bU.2 bH.out.1 bH.out.2 fJ.out));generalize zbk pp.1 pp.2 kk.1 kk.2 x=bq at *;clear cM fE bV bU aU aO s1 s2 s3 s4 cI cK cB cJ bO bQ k9;go_upto_region 15 with (fail)
    have cL:w9.drew.cell? ⟨gx,0,none⟩=some (.bool x.neg):=q9.cell 0;have cO:w9.drew.cell? ⟨gx,1,none⟩=some (.slice A1 n1 c1):=q9.cell 1;have cE:w9.drew.cell? ⟨gx,2,none⟩=some (.slice A2 n2 c2):=q9.cell 2;have gK:w9.drew.cell? ⟨gn,0,none⟩=some (.bool kk.1.neg):=aK.cell 0;have gX:w9.drew.cell? ⟨gn,1,none⟩=some (.slice K1 m1 e1):=aK.cell 1;have iA:w9.drew.cell? ⟨gn,2,none⟩=some (.slice K2 m2 e2):=aK.cell 2;have gO:w9.drew.cell? ⟨gn,3,none⟩=some (.bool kk.2.neg):=aK.cell 3;have gY:w9.drew.cell? ⟨gn,4,none⟩=some (.slice K3 m3 e3):=aK.cell 4;have gR:w9.drew.cell? ⟨gn,5,none⟩=some (.slice K4 m4 e4):=aK.cell 5;have bE:w9.drew.cell? ⟨bk,j*6,none⟩=some (.bool pp.1.neg):=bA 0 _ rfl;have bF:w9.drew.cell? ⟨bk,j*6+1,none⟩=some (.slice P1 a1 b1):=bA 1 _ rfl;have bG:w9.drew.cell? ⟨bk,j*6+2,none⟩=some (.slice P2 a2 b2):=bA 2 _ rfl;have fG:w9.drew.cell? ⟨bk,j*6+3,none⟩=some (.bool pp.2.neg):=bA 3 _ rfl;have dW:w9.drew.cell? ⟨bk,j*6+4,none⟩=some (.slice P3 a3 b3):=bA 4 _ rfl;have fL:w9.drew.cell? ⟨bk,j*6+5,none⟩=some (.slice P4 a4 b4):=bA 5 _ rfl;clear bA
    go_region_held3 (fun w'=>w'.cell? ⟨gx,0,none⟩=some (.bool x.neg)∧w'.cell? ⟨gx,1,none⟩=some (.slice A1 n1 c1)∧w'.cell? ⟨gx,2,none⟩=some (.slice A2 n2 c2)∧w'.cell? ⟨gn,0,none⟩=some (.bool kk.1.neg)∧w'.cell? ⟨gn,1,none⟩=some (.slice K1 m1 e1)∧w'.cell? ⟨gn,2,none⟩=some (.slice K2 m2 e2)∧w'.cell? ⟨gn,3,none⟩=some (.bool kk.2.neg)∧w'.cell? ⟨gn,4,none⟩=some (.slice K3 m3 e3)∧w'.cell? ⟨gn,5,none⟩=some (.slice K4 m4 e4)∧w'.cell? ⟨bk,j*6,none⟩=some (.bool pp.1.neg)∧w'.cell? ⟨bk,j*6+1,none⟩=some (.slice P1 a1 b1)∧w'.cell? ⟨bk,j*6+2,none⟩=some (.slice P2 a2 b2)∧w'.cell? ⟨bk,j*6+3,none⟩=some (.bool pp.2.neg)∧w'.cell? ⟨bk,j*6+4,none⟩=some (.slice P3 a3 b3)∧w'.cell? ⟨bk,j*6+5,none⟩=some (.slice P4 a4 b4))
     (first | with_reducible exact ⟨cL,cO,cE,gK,gX,iA,gO,gY,gR,bE,bF,bG,fG,dW,fL⟩ | with_reducible exact ⟨cG,cF,bZ,hJ,gL,gM,fT,gA,gJ,bI,bP,bK,fN,fA,dU⟩ | with_reducible exact ⟨fV,gC,gS,gT,gE,gQ,gI,gZ,fQ,iC,fY,fU,gD,gV,gF⟩)
     (first
      |(go_at_call 89;refine fP.out.mono ?_;rintro e aG ⟨fX,rfl,dF,aA⟩;have bN:=q9.drew.below aA q9.lt;have aH:=aK.drew.below aA aK.lt;have aD:bk<aG.heap.size:=Nat.lt_of_lt_of_le aJ aA.size;have cG:aG.cell? ⟨gx,0,none⟩=some (.bool x.neg):=bN.cell 0;have cF:aG.cell? ⟨gx,1,none⟩=some (.slice A1 n1 c1):=bN.cell 1;have bZ:aG.cell? ⟨gx,2,none⟩=some (.slice A2 n2 c2):=bN.cell 2;have hJ:aG.cell? ⟨gn,0,none⟩=some (.bool kk.1.neg):=aH.cell 0;have gL:aG.cell? ⟨gn,1,none⟩=some (.slice K1 m1 e1):=aH.cell 1;have gM:aG.cell? ⟨gn,2,none⟩=some (.slice K2 m2 e2):=aH.cell 2;have fT:aG.cell? ⟨gn,3,none⟩=some (.bool kk.2.neg):=aH.cell 3;have gA:aG.cell? ⟨gn,4,none⟩=some (.slice K3 m3 e3):=aH.cell 4;have gJ:aG.cell? ⟨gn,5,none⟩=some (.slice K4 m4 e4):=aH.cell 5;have bI:aG.cell? ⟨bk,j*6,none⟩=some (.bool pp.1.neg):=(aA.cell aJ).trans bE;have bP:aG.cell? ⟨bk,j*6+1,none⟩=some (.slice P1 a1 b1):=(aA.cell aJ).trans bF;have bK:aG.cell? ⟨bk,j*6+2,none⟩=some (.slice P2 a2 b2):=(aA.cell aJ).trans bG;have fN:aG.cell? ⟨bk,j*6+3,none⟩=some (.bool pp.2.neg):=(aA.cell aJ).trans fG;have fA:aG.cell? ⟨bk,j*6+4,none⟩=some (.slice P3 a3 b3):=(aA.cell aJ).trans dW;have dU:aG.cell? ⟨bk,j*6+5,none⟩=some (.slice P4 a4 b4):=(aA.cell aJ).trans fL;have gW:=Aa (cW.out fX aG (dZ.later aA) dF))
      |(go_at_call 65;refine gW.out.mono ?_;rintro e aI ⟨iE,rfl,bS,aF⟩;have dN:=bN.below aF bN.lt;have aL:=aH.below aF aH.lt;have fV:aI.cell? ⟨gx,0,none⟩=some (.bool x.neg):=dN.cell 0;have gC:aI.cell? ⟨gx,1,none⟩=some (.slice A1 n1 c1):=dN.cell 1;have gS:aI.cell? ⟨gx,2,none⟩=some (.slice A2 n2 c2):=dN.cell 2;have gT:aI.cell? ⟨gn,0,none⟩=some (.bool kk.1.neg):=aL.cell 0;have gE:aI.cell? ⟨gn,1,none⟩=some (.slice K1 m1 e1):=aL.cell 1;have gQ:aI.cell? ⟨gn,2,none⟩=some (.slice K2 m2 e2):=aL.cell 2;have gI:aI.cell? ⟨gn,3,none⟩=some (.bool kk.2.neg):=aL.cell 3;have gZ:aI.cell? ⟨gn,4,none⟩=some (.slice K3 m3 e3):=aL.cell 4;have fQ:aI.cell? ⟨gn,5,none⟩=some (.slice K4 m4 e4):=aL.cell 5;have iC:aI.cell? ⟨bk,j*6,none⟩=some (.bool pp.1.neg):=(aF.cell aD).trans bI;have fY:aI.cell? ⟨bk,j*6+1,none⟩=some (.slice P1 a1 b1):=(aF.cell aD).trans bP;have fU:aI.cell? ⟨bk,j*6+2,none⟩=some (.slice P2 a2 b2):=(aF.cell aD).trans bK;have gD:aI.cell? ⟨bk,j*6+3,none⟩=some (.bool pp.2.neg):=(aF.cell aD).trans fN;have gV:aI.cell? ⟨bk,j*6+4,none⟩=some (.slice P3 a3 b3):=(aF.cell aD).trans fA;have gF:aI.cell? ⟨bk,j*6+5,none⟩=some (.slice P4 a4 b4):=(aF.cell aD).trans dU))
    have gP:=aW.trans ((aC.trans ((aA.trans (aF.mono aA.size)).mono aC.size)).mono aW.size);have dG:=Aa bS;clear bS;go_wp2
    go_ret2
    exact ⟨iE,by rw [aP.out];rfl,by rw [aP.out];exact dG.out,gP⟩
   ·subst gU
    have aO:R=some kk.2:=by rw [bW.out,aS.out.1 rfl]
    have aP:=Aa aO;have x0:w9.cell? ⟨gn,3,none⟩=some (.bool kk.2.neg):=aK.cell 3;have x1:w9.cell? ⟨gn,4,none⟩=some (.slice K3 m3 e3):=aK.cell 4;have x2:w9.cell? ⟨gn,5,none⟩=some (.slice K4 m4 e4):=aK.cell 5;have cW:=Aa (zcc kk.2 _ w9 (hT.later aW) (RatS.mk (q:=kk.2) bO bQ) (bH.out.2.mono (by omega)));clear aO q9 aK k9 cI cK cB cJ bO bQ
    go_wp2_with fail
    refine cW.out.mono ?_;rintro e aG ⟨gH,rfl,bL,aA⟩;have dD:=Aa bL;clear bL
    go_wp2_with fail
    go_ret2
    exact ⟨gH,by rw [aP.out];rfl,by rw [aP.out];exact dD.out,aW.trans (aA.mono aW.size)⟩
   ·have d1:(r==0)=false:=by rw [beq_eq_false_iff_ne];omega
    have d2:decide (r=0)=false:=decide_eq_false (by omega);have d3:decide (r<0)=false:=decide_eq_false (by omega);have dV:=aS.out.2.2 dR;have fS:=Aa dV;clear dR dV q9 aK k9 cI cK cB cJ bO bQ
    go_wp2_with fail
    go_roundg (n - (k+1))
    case measure=>omega
    case rel=>exact ⟨k+1,by omega,by go_num,Nat.le_refl _,cZ,fS.out⟩
  ·obtain rfl:n=k:=by omega
   have hz:R=none:=by
    have h9:=bW.out.trans fC.out;rw [List.drop_eq_nil_of_le (by have:=dO.out;omega)] at h9;rw [h9]
    cases zeP ks n<;>rfl
   have HZ:=Aa hz;clear hz;go_wp2
   go_ret2
   exact ⟨⟨#[]⟩,by rw [HZ.out];rfl,by rw [HZ.out];rfl,cC⟩
theorem zgC (A:Option Addr) (n c:Nat) (l:List (ByteArray × ByteArray)) (s:ByteArray) (w:World) (hT:Tabs w) (h:PtsR w w.heap.size A n l) (hsz:∀ p ∈ l,p.1.size≤4294967296∧p.2.size≤4294967296) (hs:s.size≤4294967296) :
  Calls Tryz.prog 41 #[.slice A n c,.string s] w (za0 w (blT l s.data.toList) (blE l s.data.toList)):=by
 have HR:∀ W,Tabs W→Calls Tryz.prog 62 #[.string s] W (zax W (zab s.data.toList) (zad s.data.toList)):=fun W hT=>zbn s W hT hs
 have hL:=zit A n c l w hT h hsz;unfold blT blE
 by_cases h1:tabE l=0
 ·rw [if_neg (show ¬ tabE l≠0 by omega),if_neg (show ¬ tabE l≠0 by omega)]
  rw [h1] at hL
  by_cases h2:zad s.data.toList=0
  ·rw [if_neg (show ¬ zad s.data.toList≠0 by omega),if_neg (show ¬ zad s.data.toList≠0 by omega)]
   have aD:l.length=n:=h.1;have hn:1≤n∧n≤64∧zbV none l=0:=by
    unfold tabE at h1
    split at h1
    ·omega
    ·split at h1
     ·omega
     ·exact ⟨by omega,by omega,h1⟩
   have aA:∀ p ∈ l,zad p.1.data.toList=0∧zad p.2.data.toList=0:=by
    have h9:∀ (l:List (ByteArray × ByteArray)) (o:Option Q),zbV o l=0→∀ p ∈ l,zad p.1.data.toList=0∧zad p.2.data.toList=0:=by
     intro l
     induction l with
     | nil=>intro o _ p hp;cases hp
     | cons a t ih=>
      intro o ho p hp;have hc:zbV o (a :: t)=if rowE o a.1.data.toList a.2.data.toList≠0 then rowE o a.1.data.toList a.2.data.toList else zbV (some (zab a.1.data.toList)) t:=by cases o<;>rfl
      rw [hc] at ho
      split at ho
      ·rename_i h0;exact absurd ho h0
      ·rename_i h0
       rcases List.mem_cons.1 hp with rfl | hp
       ·have aE:rowE o p.1.data.toList p.2.data.toList=0:=by omega
        unfold rowE at aE
        by_cases hx:zad p.1.data.toList=0
        ·by_cases hy:zad p.2.data.toList=0
         ·exact ⟨hx,hy⟩
         ·rw [if_neg (by omega),if_pos hy] at aE;exact absurd aE hy
        ·rw [if_pos hx] at aE;exact absurd aE hx
       ·exact ih _ ho p hp
    exact h9 l none hn.2.2
   have aC:∀ t:List UInt8,zad t=0→LenQ (zab t) 65536:=fun t ht=>by
    have h9:=@zan t ht;exact ⟨by omega,by omega⟩
   have aG:∀ p ∈ l.map rdP,LenQ p.1 65536∧LenQ p.2 65536:=fun p hp=>by
    obtain ⟨q,hq,rfl⟩:=List.mem_map.1 hp;exact ⟨aC _ (aA q hq).1,aC _ (aA q hq).2⟩
   rw [h2] at HR;obtain ⟨k0,aF⟩:∃ k0,(l.map rdP)[0]? = some k0:=by
    cases l with
    | nil=>simp at aD;omega
    | cons a t=>exact ⟨rdP a,rfl⟩
   have hb:=zo1 (zab s.data.toList) A n c w.heap.size (l.map rdP) k0 s w hT (by rw [List.length_map];exact aD) hn.2.1 aF (aC _ h2) aG
    (hL.mono fun e w'=>by
     rintro ⟨⟨A',m',c',rfl,hk⟩,hb⟩;exact ⟨⟨A',m',c',rfl,hk rfl⟩,hb⟩) HR
   unfold zgR
   cases hR:zbw (zab s.data.toList) none (l.map rdP) with
   | none=>rw [hR] at hb;exact hb
   | some q=>rw [hR] at hb;exact hb
  ·rw [if_pos (show zad s.data.toList≠0 from h2),if_pos (show zad s.data.toList≠0 from h2)]
   exact zjt (zab s.data.toList) 0 (zad s.data.toList) (zad s.data.toList) A n c s w hT (show zad s.data.toList=if (0:Int)≠0 then 0 else zad s.data.toList from (if_neg (by omega)).symm) h2
    (hL.mono fun e w'=>by
     rintro ⟨⟨A',m',c',rfl,hk⟩,hb⟩;exact ⟨⟨A',m',c',rfl⟩,hb⟩) HR
 ·rw [if_pos (show tabE l≠0 from h1),if_pos (show tabE l≠0 from h1)]
  exact zjt (zab s.data.toList) (tabE l) (zad s.data.toList) (tabE l) A n c s w hT (show tabE l=if tabE l≠0 then tabE l else zad s.data.toList from (if_pos h1).symm) h1
   (hL.mono fun e w'=>by
    rintro ⟨⟨A',m',c',rfl,hk⟩,hb⟩;exact ⟨⟨A',m',c',rfl⟩,hb⟩) HR
theorem PtsR.lit2 (w:World) (a b c d:ByteArray) (t:TypeId):PtsR (w.alloc (.cells #[.string a,.string b,.string c,.string d] t)) (w.heap.size+1) (some ⟨w.heap.size,0,none⟩) 2 [(a,b),(c,d)]:=by
 have hq:CBlk (w.alloc (.cells #[.string a,.string b,.string c,.string d] t)) w.heap.size #[.string a,.string b,.string c,.string d] t:=CBlk.new _ _ _ _ rfl;have e2:∀ i j,((⟨w.heap.size,0,none⟩:Addr).add i).add j=⟨w.heap.size,i+j,none⟩:=fun i j=>by rw [zlt];unfold Addr.add;split<;>simp_all
 refine ⟨rfl,fun _=>⟨_,rfl,by simp,fun i hi => ?_⟩⟩
 match i,hi with
 | 0,_=>exact ⟨by rw [e2,hq.cell];rfl,by rw [e2,hq.cell];rfl⟩
 | 1,_=>exact ⟨by rw [e2,hq.cell];rfl,by rw [e2,hq.cell];rfl⟩
 | i+2,h=>exact absurd h (by simp)
end
section
open Go.RowKit
def zcx:Prop:=∀ W,Tabs W→Calls Tryz.prog 9 #[] W fun e w'=>e = .returned (.bool true)∧Below W.heap.size W w'
end
end Go.Proofs.YtmkondcdejlhcaaGreatDoor
