/- Contract of Blend: any table and any number. -/
import Derived.Test.YtmkondcdejlhcaaGreatDoorFKn5
set_option maxRecDepth 100000
set_option maxHeartbeats 4000000
namespace Go.Proofs.YtmkondcdejlhcaaGreatDoor
section
open Go.RowKit Bn
def zcl (x:Q):Option (Q × Q)→List (Q × Q)→Option Q
 | _,[]=>none
 | o,k :: t=>if rcmp x k.1=0 then some k.2 else if rcmp x k.1<0 then o.map (fun p=>zcr p.1 p.2 k.1 k.2 x) else zcl x (some k) t
def zmI (l:List (ByteArray × ByteArray)) (s:List UInt8):Option Q:=zcl (zaf s) none (l.map rdP)
def blE (l:List (ByteArray × ByteArray)) (s:List UInt8):Int:=if tabE l≠0 then tabE l else if zap s≠0 then zap s else match zmI l s with | none=>3 | some q=>zaC q
def blT (l:List (ByteArray × ByteArray)) (s:List UInt8):List UInt8:=if tabE l≠0 then[] else if zap s≠0 then[] else match zmI l s with | none=>[] | some q=>zbx q
def zfi (ks:List (Q × Q)) (k:Nat):Option (Q × Q):=if k=0 then none else ks[k-1]?
def outE:Option Q→Int | none=>3 | some q=>zaC q
def outT:Option Q→List UInt8 | none=>[] | some q=>zbx q
theorem zfO{x:Q}{ks:List (Q × Q)}{k:Nat}{kk:Q × Q}(h:ks[k]? = some kk)(he:zcl x none ks=zcl x (zfi ks k) (ks.drop k)) :
  (rcmp x kk.1=0→zcl x none ks=some kk.2)∧(rcmp x kk.1<0→zcl x none ks=(zfi ks k).map (fun p=>zcr p.1 p.2 kk.1 kk.2 x))∧(0<rcmp x kk.1→zcl x none ks=zcl x (zfi ks (k+1)) (ks.drop (k+1))):=by
 obtain⟨hl,hk⟩:=List.getElem?_eq_some_iff.1 h;rw[List.drop_eq_getElem_cons hl,hk] at he;have hc:zcl x (zfi ks k) (kk :: ks.drop (k+1))=if rcmp x kk.1=0 then some kk.2 else if rcmp x kk.1<0 then(zfi ks k).map (fun p=>zcr p.1 p.2 kk.1 kk.2 x) else zcl x (some kk) (ks.drop (k+1)):=by
  cases zfi ks k<;>rfl
 rw[hc] at he;refine⟨fun h0=>by rw[he,if_pos h0],fun h0=>by rw[he,if_neg (by omega),if_pos h0],fun h0 => ?_⟩;rw[he,if_neg (by omega),if_neg (by omega)];have:zfi ks (k+1)=some kk:=by unfold zfi;rw[if_neg (by omega),Nat.add_sub_cancel,h]
 rw[this]
theorem ziJ{a b c d x:Q}(l1:LenQ a 65536)(l2:LenQ b 65536)(l3:LenQ c 65536)(l4:LenQ d 65536)(l5:LenQ x 65536):LenQ (zcr a b c d x) 268435456:=by
 have n1:LenQ (zaU d b) 524288:=(za9 l4 (zbJ l2)).mono (by omega);have n2:LenQ (zaU c a) 524288:=(za9 l3 (zbJ l1)).mono (by omega);have n3:LenQ (zn4 (zaU d b) (zaU c a)) 1048576:=(zbz _ n1 n2 (by omega)).mono (by omega);have n4:LenQ (zaU x a) 524288:=(za9 l5 (zbJ l1)).mono (by omega);have n5:LenQ (zms (zn4 (zaU d b) (zaU c a)) (zaU x a)) 1572864:=(zbv _ n3 n4 (by omega)).mono (by omega);exact(za9 l2 n5).mono (by omega)
theorem zcV.later{W W':World}{B n:Nat}{v:Value}{ks:List (Q × Q)}(h:zcV W B v n ks)(hb:Below W.heap.size W W'):zcV W' B v n ks:=by
 refine h.keep (fun xs hx => ?_) (fun u p q hu=>hu.later hb);refine hx.kept (row:=none) ⟨hb.os,hb.tape,hb.output,hb.size,fun i hi _=>hb.block i hi⟩ ?_
 cases v.ownBlock<;>simp
theorem zhX(x:Q)(z1 z2 E:Int)(A:Option Addr)(n c:Nat)(s:ByteArray)(w:World)(hT:Tabs w)(HE:Hid (E=if z1≠0 then z1 else z2))(H0:Hid (E≠0))
 (HL:Hid (Calls Tryz.prog 88 #[.slice A n c] w fun e w'=>(∃ A' m' c',e = .returned (.tuple #[.slice A' m' c',.int .i64 z1]))∧Below w.heap.size w w'))
 (HR:Hid (∀ W,Tabs W→Calls Tryz.prog 62 #[.string s] W (zaz W x z2))) :
  Calls Tryz.prog 41 #[.slice A n c,.string s] w (zb5 w [] E):=by
 have aG:(E != 0)=true:=by simpa using H0.out
 go_enter Tryz.func41,Tryz.ntmps41
 go_wp2_with fail
 refine HL.out.mono ?_;rintro e w2 ⟨⟨A',m',c',rfl⟩,aC⟩
 go_wp2_with fail
 refine(HR.out w2 (hT.later aC)).mono ?_;rintro e w3 ⟨v3,rfl,⟨A1,n1,c1,A2,n2,c2,rfl,h1,h2⟩,aF⟩;have aD:=Ad aC aF;have aA:Below w.heap.size w (w3.alloc (.cells #[.bool x.neg,.slice A1 n1 c1,.slice A2 n2 c2] 91)):=aD.alloc aD.size _;go_upto_region 3 with(fail)
 generalize (w3.alloc (.cells #[.bool x.neg,.slice A1 n1 c1,.slice A2 n2 c2] 91))=w4 at *;have aE:Below w.heap.size w (w4.alloc (.cells #[.int .i64 z1,.int .i64 z2] 26)):=aA.alloc aA.size _
 go_wp2_with fail
 refine(za7 z1 z2 E HE.out w4 _ _ rfl).mono ?_;rintro e w6 ⟨rfl,rfl⟩
 go_wp2_with fail
 go_ret2
 exact⟨⟨#[]⟩,rfl,rfl,aE⟩
theorem zn2(x:Q)(A:Option Addr)(n c B:Nat)(ks:List (Q × Q))(k0:Q × Q)(s:ByteArray)(w:World)(hT:Tabs w)(hlk:ks.length=n)(hn:n≤64)(hk0:ks[0]? = some k0)(lx:LenQ x 65536)(lk:∀ p ∈ ks,LenQ p.1 65536∧LenQ p.2 65536)
 (HL:Hid (Calls Tryz.prog 88 #[.slice A n c] w fun e w'=>(∃ A' m' c',e = .returned (.tuple #[.slice A' m' c',.int .i64 0])∧zcV w' B (.slice A' m' c') n ks)∧Below w.heap.size w w'))
 (HR:Hid (∀ W,Tabs W→Calls Tryz.prog 62 #[.string s] W (zaz W x 0))) :
  Calls Tryz.prog 41 #[.slice A n c,.string s] w (zb5 w (outT (zcl x none ks)) (outE (zcl x none ks))):=by
 have iA:0<n:=by
  rcases Nat.eq_zero_or_pos n with h | h
  ·rw[List.getElem?_eq_none (by omega)] at hk0;cases hk0
  ·exact h
 have dK:=Aa lk;have dS:=Aa lx;have dF:=Aa hlk;have cR:=Aa hk0;have HC:=Aa (fun (p:Q) v u W h1 h2 (lp:LenQ p 65536)=>zbq x p v u W h1 h2 (lx.mono (by omega)) (lp.mono (by omega)));have bQ:=zfO (x:=x) hk0 rfl;obtain⟨R,hR⟩:∃ R,R=zcl x none ks:=⟨_,rfl⟩;have bZ:=Aa hR;have cM:=Aa bQ;rw[←hR];clear hlk hk0 lx lk bQ hR;have iB:(0:Int)<(n:Int):=by omega
 have iE:n≠0:=by omega
 go_enter Tryz.func41,Tryz.ntmps41
 go_wp2_with fail
 refine HL.out.mono ?_;rintro e w2 ⟨⟨A',m',c',rfl,bT⟩,cH⟩;obtain⟨bk,dD,hv,_,iC,_⟩:∃ bk dD,Value.slice A' m' c' = .slice (some ⟨bk,0,none⟩) n dD∧B≤bk∧bk<w2.heap.size∧(Value.slice A' m' c').ownBlock=some bk:=by
  rcases bT.form with⟨_,h⟩ | h
  ·omega
  ·exact h
 obtain⟨rfl,rfl,rfl⟩:A'=some ⟨bk,0,none⟩∧n=m'∧dD=c':=by injection hv with e1 e2 e3;exact⟨e1,e2.symm,e3.symm⟩
 clear hv
 go_wp2_with fail
 refine(HR.out w2 (hT.later cH)).mono ?_;rintro e w3 ⟨v3,rfl,⟨A1,n1,c1,A2,n2,c2,rfl,h1,h2⟩,cT⟩;have dC:=Ad cH cT;have bG:Below w3.heap.size w3 (w3.alloc (.cells #[.bool x.neg,.slice A1 n1 c1,.slice A2 n2 c2] 91)):=Ac;have aZ:=Ad dC bG;have q3:CBlk (w3.alloc (.cells #[.bool x.neg,.slice A1 n1 c1,.slice A2 n2 c2] 91)) w3.heap.size #[.bool x.neg,.slice A1 n1 c1,.slice A2 n2 c2] 91:=CBlk.new _ _ _ _ rfl;have k3:=(bT.later cT).later bG;have fB:=h1.later bG;have dM:=h2.later bG;clear bT bG h1 h2 dC cH cT;go_upto_region 3 with(fail)
 generalize (w3.alloc (.cells #[.bool x.neg,.slice A1 n1 c1,.slice A2 n2 c2] 91))=w4 at *;generalize w3.heap.size=gx at *;have cQ:Below w.heap.size w (w4.alloc (.cells #[.int .i64 0,.int .i64 0] 26)):=aZ.alloc aZ.size _;have bV:Below w4.heap.size w4 (w4.alloc (.cells #[.int .i64 0,.int .i64 0] 26)):=Ac;have q5:=q3.alloc (.cells #[.int .i64 0,.int .i64 0] 26);have k5:=k3.later bV;have dE:=fB.later bV;have dA:=dM.later bV
 go_wp2_with fail
 refine(za7 0 0 0 rfl w4 _ _ rfl).mono ?_;rintro e w5 ⟨rfl,rfl⟩;clear q3 k3 fB dM bV aZ;generalize (w4.alloc (.cells #[.int .i64 0,.int .i64 0] 26))=w5 at *;obtain⟨K1,m1,e1,K2,m2,e2,K3,m3,e3,K4,m4,e4,aN,r1,r2,_,_⟩:=k5.at_ (o:=k0.1) (oo:=k0.2) cR.out;have aY:bk<w5.heap.size:=by
  rcases k5.form with⟨h,_⟩ | ⟨g9,cS,h,_,h9,_⟩
  ·cases h
  ·injection h with h;injection h with h;injection h with h;omega
 have aC:Below w5.heap.size w5 w5.drew:=(Below.refl _ _).drew;have fC:=(dK.out k0 (List.mem_of_getElem? cR.out)).1;have aU:=Aa (HC.out k0.1 _ _ w5.drew (RatS.mk (q:=x) (dE.later aC) (dA.later aC)) (RatS.mk (q:=k0.1) (r1.later aC) (r2.later aC)) fC);go_upto_region 6 with(fail)
 have cC:w5.drew.cell? ⟨gx,0,none⟩=some (.bool x.neg):=q5.cell 0;have bW:w5.drew.cell? ⟨gx,1,none⟩=some (.slice A1 n1 c1):=q5.cell 1;have bY:w5.drew.cell? ⟨gx,2,none⟩=some (.slice A2 n2 c2):=q5.cell 2;have bC:w5.drew.cell? ⟨bk,0,none⟩=some (.bool k0.1.neg):=by have:=aN 0 _ rfl;simpa using this
 have bD:w5.drew.cell? ⟨bk,1,none⟩=some (.slice K1 m1 e1):=by have:=aN 1 _ rfl;simpa using this
 have bF:w5.drew.cell? ⟨bk,2,none⟩=some (.slice K2 m2 e2):=by have:=aN 2 _ rfl;simpa using this
 clear aN;generalize bS:rcmp x k0.1=r0 at *;have cW:=Aa bS;clear bS;obtain⟨b0,dB⟩:∃ b,decide (r0<0)=b:=⟨_,rfl⟩;have gN:Hid (b0=true→r0<0):=fun h=>of_decide_eq_true (dB.trans h)
 have gR:Hid (b0=false→0≤r0):=fun h=>Int.not_lt.1 (of_decide_eq_false (dB.trans h))
 go_region_held3 (fun w'=>w'.cell? ⟨gx,0,none⟩=some (.bool x.neg)∧w'.cell? ⟨gx,1,none⟩=some (.slice A1 n1 c1)∧w'.cell? ⟨gx,2,none⟩=some (.slice A2 n2 c2)∧w'.cell? ⟨bk,0,none⟩=some (.bool k0.1.neg)∧w'.cell? ⟨bk,1,none⟩=some (.slice K1 m1 e1)∧w'.cell? ⟨bk,2,none⟩=some (.slice K2 m2 e2))
  (first | with_reducible exact⟨cC,bW,bY,bC,bD,bF⟩ | with_reducible exact⟨bU,cB,cA,bK,bM,bR⟩)
  (first | (go_at_call 70;refine aU.out.mono ?_;rintro e w7 ⟨rfl,aX⟩;have q7:=q5.drew.below aX q5.lt;have k7:=(k5.later aC).later aX;have bU:w7.cell? ⟨gx,0,none⟩=some (.bool x.neg):=q7.cell 0;have cB:w7.cell? ⟨gx,1,none⟩=some (.slice A1 n1 c1):=q7.cell 1;have cA:w7.cell? ⟨gx,2,none⟩=some (.slice A2 n2 c2):=q7.cell 2;have bK:w7.cell? ⟨bk,0,none⟩=some (.bool k0.1.neg):=(aX.cell aY).trans bC;have bM:w7.cell? ⟨bk,1,none⟩=some (.slice K1 m1 e1):=(aX.cell aY).trans bD;have bR:w7.cell? ⟨bk,2,none⟩=some (.slice K2 m2 e2):=(aX.cell aY).trans bF))
 have aR:=Ad aC aX;have dJ:=Ad cQ aR;have gE:=dE.later aR;have fJ:=dA.later aR;have gM:w5.heap.size≤w7.heap.size:=aR.size;clear cC bW bY bC bD bF bU cB cA bK bM bR cQ aC aX aR q5 k5 dE dA r1 r2 fC aU;clear dB
 cases b0
 case true=>
  have hz:R=none:=by rw[bZ.out,cM.out.2.1 (gN.out rfl)];rfl
  have HZ:=Aa hz;clear hz;go_wp2
  go_ret2
  exact⟨⟨#[]⟩,by rw[HZ.out];rfl,by rw[HZ.out];rfl,dJ⟩
 have fW:=Aa (gR.out rfl);go_wp2
 go_loopg [40] n (fun m s W=>∃ k:Nat,k≤n∧s = .int .i64 k∧n-k≤m∧Below w7.heap.size w7 W∧zcl x none ks=zcl x (zfi ks k) (ks.drop k))
 case atStart=>exact⟨0,Nat.zero_le _,rfl,by omega,Below.refl _ _,rfl⟩
 case round=>
  obtain⟨k,hk,rfl,hm,aE,fE⟩:=hrel;have dV:=Aa fE;clear fE;have qr:=q7.below aE q7.lt;have kr:=k7.later aE;have dP:=gE.later aE;have fH:=fJ.later aE;have cG:=Ad dJ aE
  by_cases bT:k<n
  ·have dY:k<ks.length:=by have:=dF.out;omega
   have bH:ks[k]? = some ks[k]:=List.getElem?_eq_getElem dY;generalize ks[k]=kk at *;have aW:=zfO bH dV.out;have dT:=dK.out kk (List.mem_of_getElem? bH);obtain⟨K1,m1,e1,K2,m2,e2,K3,m3,e3,K4,m4,e4,aN,r1,r2,r3,r4⟩:=kr.at_ (o:=kk.1) (oo:=kk.2) bH;have y0:wr.cell? ⟨bk,k*6,none⟩=some (.bool kk.1.neg):=aN 0 _ rfl;have y1:wr.cell? ⟨bk,k*6+1,none⟩=some (.slice K1 m1 e1):=aN 1 _ rfl;have y2:wr.cell? ⟨bk,k*6+2,none⟩=some (.slice K2 m2 e2):=aN 2 _ rfl;have y3:wr.cell? ⟨bk,k*6+3,none⟩=some (.bool kk.2.neg):=aN 3 _ rfl;have y4:wr.cell? ⟨bk,k*6+4,none⟩=some (.slice K3 m3 e3):=aN 4 _ rfl;have y5:wr.cell? ⟨bk,k*6+5,none⟩=some (.slice K4 m4 e4):=aN 5 _ rfl;have aO:Below wr.heap.size wr (wr.alloc (.cells #[.bool kk.1.neg,.slice K1 m1 e1,.slice K2 m2 e2,.bool kk.2.neg,.slice K3 m3 e3,.slice K4 m4 e4] 121)):=Ac;have qk:CBlk (wr.alloc (.cells #[.bool kk.1.neg,.slice K1 m1 e1,.slice K2 m2 e2,.bool kk.2.neg,.slice K3 m3 e3,.slice K4 m4 e4] 121)) wr.heap.size #[.bool kk.1.neg,.slice K1 m1 e1,.slice K2 m2 e2,.bool kk.2.neg,.slice K3 m3 e3,.slice K4 m4 e4] 121:=CBlk.new _ _ _ _ rfl;have aS:=Aa aW;have gY:=Aa bH;have bE:=Aa dT;have q8:=qr.below aO qr.lt;have k8:=kr.later aO;have dI:=dP.later aO;have cP:=fH.later aO;have cN:=r1.later aO;have dG:=r2.later aO;have dN:=r3.later aO;have dO:=r4.later aO;have cY:=Ad cG aO;have gV:=aE.size;have bA:=Ad aE aO;clear aN aW bH dT qr kr dP fH r1 r2 r3 r4 aO dY cG aE;go_upto_region 11 with(fail)
   generalize (wr.alloc (.cells #[.bool kk.1.neg,.slice K1 m1 e1,.slice K2 m2 e2,.bool kk.2.neg,.slice K3 m3 e3,.slice K4 m4 e4] 121))=w8 at *;generalize wr.heap.size=gn at *;have x0:w8.cell? ⟨gx,0,none⟩=some (.bool x.neg):=q8.cell 0;have x1:w8.cell? ⟨gx,1,none⟩=some (.slice A1 n1 c1):=q8.cell 1;have x2:w8.cell? ⟨gx,2,none⟩=some (.slice A2 n2 c2):=q8.cell 2;have z0:w8.cell? ⟨gn,0,none⟩=some (.bool kk.1.neg):=qk.cell 0;have z1:w8.cell? ⟨gn,1,none⟩=some (.slice K1 m1 e1):=qk.cell 1;have z2:w8.cell? ⟨gn,2,none⟩=some (.slice K2 m2 e2):=qk.cell 2;clear y0 y1 y2 y3 y4 y5
   go_wp2_with fail
   refine(HC.out kk.1 _ _ w8 (RatS.mk (q:=x) dI cP) (RatS.mk (q:=kk.1) cN dG) bE.out.1).mono ?_;rintro e w9 ⟨rfl,aM⟩;have q9:=q8.below aM q8.lt;have aK:=qk.below aM qk.lt;have k9:=k8.later aM;have cJ:=dI.later aM;have cK:=cP.later aM;have cI:=cN.later aM;have cE:=dG.later aM;have bO:=dN.later aM;have bI:=dO.later aM;have aT:=Ad cY aM;have cO:=Ad bA aM;clear x0 x1 x2 z0 z1 z2 q8 qk k8 dI cP cN dG dN dO cY bA aM;generalize dU:rcmp x kk.1=r at *;have fU:=Aa dU;clear dU
   rcases Int.lt_trichotomy r 0 with cF | gB | fG
   ·have d1:(r==0)=false:=by rw[beq_eq_false_iff_ne];omega
    have d2:decide (r=0)=false:=decide_eq_false (by omega);have d3:decide (r<0)=true:=decide_eq_true cF;have iD:=Aa cF;obtain⟨j,HJ⟩:∃ j,Hid (k=j+1):=by
     rcases Nat.eq_zero_or_pos k with h | h
     ·exfalso
      subst h;have h9:=gY.out;rw[cR.out] at h9;injection h9 with h9
      have h8:=cW.out;rw[h9,fU.out] at h8;have:=fW.out;omega
     ·exact⟨k-1,by show k=k-1+1;omega⟩
    have fA:j<ks.length:=by have:=dF.out;have:=HJ.out;omega
    have bX:ks[j]? = some ks[j]:=List.getElem?_eq_getElem fA;generalize ks[j]=pp at *;have bN:=dK.out pp (List.mem_of_getElem? bX);have aV:zfi ks k=some pp:=by unfold zfi;rw[if_neg (by have:=HJ.out;omega),show k-1=j by have:=HJ.out;omega];exact bX
    have aP:R=some (zcr pp.1 pp.2 kk.1 kk.2 x):=by rw[bZ.out,aS.out.2.1 cF,aV];rfl
    have aQ:=Aa aP;have d4:wrap64 ((k:Int)-1)=(j:Int):=by rw[IntWalk.wrap64_in _ (by omega)];have:=HJ.out;omega
    have d5:IntKind.i64.wrap ((k:Int)-1)=(j:Int):=by rw[IntWalk.i64_in _ (by omega)];have:=HJ.out;omega
    have d6:(0:Int)≤(j:Int):=by omega
    have d7:(j:Int)<(n:Int):=by have:=HJ.out;omega
    obtain⟨P1,a1,b1,P2,a2,b2,P3,a3,b3,P4,a4,b4,bB,s1,s2,s3,s4⟩:=k9.at_ (o:=pp.1) (oo:=pp.2) bX;have aJ:bk<w9.drew.heap.size:=by
     rcases k9.form with⟨h,_⟩ | ⟨g9,cS,h,_,h9,_⟩
     ·cases h
     ·injection h with h;injection h with h;injection h with h;subst h;exact h9
    have aC:Below w9.heap.size w9 w9.drew:=(Below.refl _ _).drew;have fV:=aT.size;have dX:=hT.later (aT.trans (aC.mono aT.size));have gW:=Aa (ziG pp.1 pp.2 kk.1 kk.2 x _ _ _ w9.drew dX ⟨P1,a1,b1,P2,a2,b2,P3,a3,b3,P4,a4,b4,rfl,s1.later aC,s2.later aC,s3.later aC,s4.later aC⟩ ⟨K1,m1,e1,K2,m2,e2,K3,m3,e3,K4,m4,e4,rfl,cI.later aC,cE.later aC,bO.later aC,bI.later aC⟩ (RatS.mk (q:=x) (cJ.later aC) (cK.later aC)) bN.1 bN.2 bE.out.1 bE.out.2 dS.out);have cU:=Aa (fun (v:Value) (W:World) (hT:Tabs W) (hv:RatS W W.heap.size v (zcr pp.1 pp.2 kk.1 kk.2 x))=>zcc _ v W hT hv (ziJ bN.1 bN.2 bE.out.1 bE.out.2 dS.out));generalize zcr pp.1 pp.2 kk.1 kk.2 x=bq at *;clear cF fA bX bN aV aP s1 s2 s3 s4 cJ cK cI cE bO bI k9;go_upto_region 15 with(fail)
    have cC:w9.drew.cell? ⟨gx,0,none⟩=some (.bool x.neg):=q9.cell 0;have bW:w9.drew.cell? ⟨gx,1,none⟩=some (.slice A1 n1 c1):=q9.cell 1;have bY:w9.drew.cell? ⟨gx,2,none⟩=some (.slice A2 n2 c2):=q9.cell 2;have fX:w9.drew.cell? ⟨gn,0,none⟩=some (.bool kk.1.neg):=aK.cell 0;have fT:w9.drew.cell? ⟨gn,1,none⟩=some (.slice K1 m1 e1):=aK.cell 1;have gJ:w9.drew.cell? ⟨gn,2,none⟩=some (.slice K2 m2 e2):=aK.cell 2;have hJ:w9.drew.cell? ⟨gn,3,none⟩=some (.bool kk.2.neg):=aK.cell 3;have gT:w9.drew.cell? ⟨gn,4,none⟩=some (.slice K3 m3 e3):=aK.cell 4;have fQ:w9.drew.cell? ⟨gn,5,none⟩=some (.slice K4 m4 e4):=aK.cell 5;have bC:w9.drew.cell? ⟨bk,j*6,none⟩=some (.bool pp.1.neg):=bB 0 _ rfl;have bD:w9.drew.cell? ⟨bk,j*6+1,none⟩=some (.slice P1 a1 b1):=bB 1 _ rfl;have bF:w9.drew.cell? ⟨bk,j*6+2,none⟩=some (.slice P2 a2 b2):=bB 2 _ rfl;have dZ:w9.drew.cell? ⟨bk,j*6+3,none⟩=some (.bool pp.2.neg):=bB 3 _ rfl;have fD:w9.drew.cell? ⟨bk,j*6+4,none⟩=some (.slice P3 a3 b3):=bB 4 _ rfl;have fF:w9.drew.cell? ⟨bk,j*6+5,none⟩=some (.slice P4 a4 b4):=bB 5 _ rfl;clear bB
    go_region_held3 (fun w'=>w'.cell? ⟨gx,0,none⟩=some (.bool x.neg)∧w'.cell? ⟨gx,1,none⟩=some (.slice A1 n1 c1)∧w'.cell? ⟨gx,2,none⟩=some (.slice A2 n2 c2)∧w'.cell? ⟨gn,0,none⟩=some (.bool kk.1.neg)∧w'.cell? ⟨gn,1,none⟩=some (.slice K1 m1 e1)∧w'.cell? ⟨gn,2,none⟩=some (.slice K2 m2 e2)∧w'.cell? ⟨gn,3,none⟩=some (.bool kk.2.neg)∧w'.cell? ⟨gn,4,none⟩=some (.slice K3 m3 e3)∧w'.cell? ⟨gn,5,none⟩=some (.slice K4 m4 e4)∧w'.cell? ⟨bk,j*6,none⟩=some (.bool pp.1.neg)∧w'.cell? ⟨bk,j*6+1,none⟩=some (.slice P1 a1 b1)∧w'.cell? ⟨bk,j*6+2,none⟩=some (.slice P2 a2 b2)∧w'.cell? ⟨bk,j*6+3,none⟩=some (.bool pp.2.neg)∧w'.cell? ⟨bk,j*6+4,none⟩=some (.slice P3 a3 b3)∧w'.cell? ⟨bk,j*6+5,none⟩=some (.slice P4 a4 b4))
     (first | with_reducible exact⟨cC,bW,bY,fX,fT,gJ,hJ,gT,fQ,bC,bD,bF,dZ,fD,fF⟩ | with_reducible exact⟨bU,cB,cA,gX,gO,gC,fO,fL,gP,bK,bM,bR,dQ,dR,dW⟩ | with_reducible exact⟨fM,gZ,gF,gQ,fS,fY,gU,gS,gH,gK,gA,fI,fZ,fR,fN⟩)
     (first
      |(go_at_call 89;refine gW.out.mono ?_;rintro e aG ⟨fK,rfl,cV,aA⟩;have bL:=q9.drew.below aA q9.lt;have aH:=aK.drew.below aA aK.lt;have aD:bk<aG.heap.size:=Nat.lt_of_lt_of_le aJ aA.size;have bU:aG.cell? ⟨gx,0,none⟩=some (.bool x.neg):=bL.cell 0;have cB:aG.cell? ⟨gx,1,none⟩=some (.slice A1 n1 c1):=bL.cell 1;have cA:aG.cell? ⟨gx,2,none⟩=some (.slice A2 n2 c2):=bL.cell 2;have gX:aG.cell? ⟨gn,0,none⟩=some (.bool kk.1.neg):=aH.cell 0;have gO:aG.cell? ⟨gn,1,none⟩=some (.slice K1 m1 e1):=aH.cell 1;have gC:aG.cell? ⟨gn,2,none⟩=some (.slice K2 m2 e2):=aH.cell 2;have fO:aG.cell? ⟨gn,3,none⟩=some (.bool kk.2.neg):=aH.cell 3;have fL:aG.cell? ⟨gn,4,none⟩=some (.slice K3 m3 e3):=aH.cell 4;have gP:aG.cell? ⟨gn,5,none⟩=some (.slice K4 m4 e4):=aH.cell 5;have bK:aG.cell? ⟨bk,j*6,none⟩=some (.bool pp.1.neg):=(aA.cell aJ).trans bC;have bM:aG.cell? ⟨bk,j*6+1,none⟩=some (.slice P1 a1 b1):=(aA.cell aJ).trans bD;have bR:aG.cell? ⟨bk,j*6+2,none⟩=some (.slice P2 a2 b2):=(aA.cell aJ).trans bF;have dQ:aG.cell? ⟨bk,j*6+3,none⟩=some (.bool pp.2.neg):=(aA.cell aJ).trans dZ;have dR:aG.cell? ⟨bk,j*6+4,none⟩=some (.slice P3 a3 b3):=(aA.cell aJ).trans fD;have dW:aG.cell? ⟨bk,j*6+5,none⟩=some (.slice P4 a4 b4):=(aA.cell aJ).trans fF;have gI:=Aa (cU.out fK aG (dX.later aA) cV))
      |(go_at_call 65;refine gI.out.mono ?_;rintro e aI ⟨gD,rfl,bJ,aF⟩;have cZ:=bL.below aF bL.lt;have aL:=aH.below aF aH.lt;have fM:aI.cell? ⟨gx,0,none⟩=some (.bool x.neg):=cZ.cell 0;have gZ:aI.cell? ⟨gx,1,none⟩=some (.slice A1 n1 c1):=cZ.cell 1;have gF:aI.cell? ⟨gx,2,none⟩=some (.slice A2 n2 c2):=cZ.cell 2;have gQ:aI.cell? ⟨gn,0,none⟩=some (.bool kk.1.neg):=aL.cell 0;have fS:aI.cell? ⟨gn,1,none⟩=some (.slice K1 m1 e1):=aL.cell 1;have fY:aI.cell? ⟨gn,2,none⟩=some (.slice K2 m2 e2):=aL.cell 2;have gU:aI.cell? ⟨gn,3,none⟩=some (.bool kk.2.neg):=aL.cell 3;have gS:aI.cell? ⟨gn,4,none⟩=some (.slice K3 m3 e3):=aL.cell 4;have gH:aI.cell? ⟨gn,5,none⟩=some (.slice K4 m4 e4):=aL.cell 5;have gK:aI.cell? ⟨bk,j*6,none⟩=some (.bool pp.1.neg):=(aF.cell aD).trans bK;have gA:aI.cell? ⟨bk,j*6+1,none⟩=some (.slice P1 a1 b1):=(aF.cell aD).trans bM;have fI:aI.cell? ⟨bk,j*6+2,none⟩=some (.slice P2 a2 b2):=(aF.cell aD).trans bR;have fZ:aI.cell? ⟨bk,j*6+3,none⟩=some (.bool pp.2.neg):=(aF.cell aD).trans dQ;have fR:aI.cell? ⟨bk,j*6+4,none⟩=some (.slice P3 a3 b3):=(aF.cell aD).trans dR;have fN:aI.cell? ⟨bk,j*6+5,none⟩=some (.slice P4 a4 b4):=(aF.cell aD).trans dW))
    have fP:=aT.trans ((aC.trans ((aA.trans (aF.mono aA.size)).mono aC.size)).mono aT.size);have cL:=Aa bJ;clear bJ;go_wp2
    go_ret2
    exact⟨gD,by rw[aQ.out];rfl,by rw[aQ.out];exact cL.out,fP⟩
   ·subst gB
    have aP:R=some kk.2:=by rw[bZ.out,aS.out.1 rfl]
    have aQ:=Aa aP;have x0:w9.cell? ⟨gn,3,none⟩=some (.bool kk.2.neg):=aK.cell 3;have x1:w9.cell? ⟨gn,4,none⟩=some (.slice K3 m3 e3):=aK.cell 4;have x2:w9.cell? ⟨gn,5,none⟩=some (.slice K4 m4 e4):=aK.cell 5;have cU:=Aa (zcc kk.2 _ w9 (hT.later aT) (RatS.mk (q:=kk.2) bO bI) (bE.out.2.mono (by omega)));clear aP q9 aK k9 cJ cK cI cE bO bI
    go_wp2_with fail
    refine cU.out.mono ?_;rintro e aG ⟨gG,rfl,bP,aA⟩;have dH:=Aa bP;clear bP
    go_wp2_with fail
    go_ret2
    exact⟨gG,by rw[aQ.out];rfl,by rw[aQ.out];exact dH.out,aT.trans (aA.mono aT.size)⟩
   ·have d1:(r==0)=false:=by rw[beq_eq_false_iff_ne];omega
    have d2:decide (r=0)=false:=decide_eq_false (by omega);have d3:decide (r<0)=false:=decide_eq_false (by omega);have dL:=aS.out.2.2 fG;have gL:=Aa dL;clear fG dL q9 aK k9 cJ cK cI cE bO bI
    go_wp2_with fail
    go_roundg (n-(k+1))
    case measure=>omega
    case rel=>exact⟨k+1,by omega,by go_num,Nat.le_refl _,cO,gL.out⟩
  ·obtain rfl:n=k:=by omega
   have hz:R=none:=by
    have h9:=bZ.out.trans dV.out;rw[List.drop_eq_nil_of_le (by have:=dF.out;omega)] at h9;rw[h9]
    cases zfi ks n<;>rfl
   have HZ:=Aa hz;clear hz;go_wp2
   go_ret2
   exact⟨⟨#[]⟩,by rw[HZ.out];rfl,by rw[HZ.out];rfl,cG⟩
theorem zmW(A:Option Addr)(n c:Nat)(l:List (ByteArray × ByteArray))(s:ByteArray)(w:World)(hT:Tabs w)(h:PtsR w w.heap.size A n l)(hsz:∀ p ∈ l,p.1.size≤4294967296∧p.2.size≤4294967296)(hs:s.size≤4294967296) :
  Calls Tryz.prog 41 #[.slice A n c,.string s] w (zb5 w (blT l s.data.toList) (blE l s.data.toList)):=by
 have HR:∀ W,Tabs W→Calls Tryz.prog 62 #[.string s] W (zaz W (zaf s.data.toList) (zap s.data.toList)):=fun W hT=>zcf s W hT hs
 have hL:=zg0 A n c l w hT h hsz;unfold blT blE
 by_cases h1:tabE l=0
 ·rw[if_neg (show ¬ tabE l≠0 by omega),if_neg (show ¬ tabE l≠0 by omega)]
  rw[h1] at hL
  by_cases h2:zap s.data.toList=0
  ·rw[if_neg (show ¬ zap s.data.toList≠0 by omega),if_neg (show ¬ zap s.data.toList≠0 by omega)]
   have aE:l.length=n:=h.1;have hn:1≤n∧n≤64∧zc7 none l=0:=by
    unfold tabE at h1
    split at h1
    ·omega
    ·split at h1
     ·omega
     ·exact⟨by omega,by omega,h1⟩
   have aA:∀ p ∈ l,zap p.1.data.toList=0∧zap p.2.data.toList=0:=by
    have h9:∀ (l:List (ByteArray × ByteArray)) (o:Option Q),zc7 o l=0→∀ p ∈ l,zap p.1.data.toList=0∧zap p.2.data.toList=0:=by
     intro l
     induction l with
     | nil=>intro o _ p hp;cases hp
     | cons a t ih=>
      intro o ho p hp;have hc:zc7 o (a :: t)=if rowE o a.1.data.toList a.2.data.toList≠0 then rowE o a.1.data.toList a.2.data.toList else zc7 (some (zaf a.1.data.toList)) t:=by cases o<;>rfl
      rw[hc] at ho
      split at ho
      ·rename_i h0;exact absurd ho h0
      ·rename_i h0
       rcases List.mem_cons.1 hp with rfl | hp
       ·have aD:rowE o p.1.data.toList p.2.data.toList=0:=by omega
        unfold rowE at aD
        by_cases hx:zap p.1.data.toList=0
        ·by_cases hy:zap p.2.data.toList=0
         ·exact⟨hx,hy⟩
         ·rw[if_neg (by omega),if_pos hy] at aD;exact absurd aD hy
        ·rw[if_pos hx] at aD;exact absurd aD hx
       ·exact ih _ ho p hp
    exact h9 l none hn.2.2
   have aC:∀ t:List UInt8,zap t=0→LenQ (zaf t) 65536:=fun t ht=>by
    have h9:=@zaD t ht;exact⟨by omega,by omega⟩
   have aF:∀ p ∈ l.map rdP,LenQ p.1 65536∧LenQ p.2 65536:=fun p hp=>by
    obtain⟨q,hq,rfl⟩:=List.mem_map.1 hp;exact⟨aC _ (aA q hq).1,aC _ (aA q hq).2⟩
   rw[h2] at HR;obtain⟨k0,aG⟩:∃ k0,(l.map rdP)[0]? = some k0:=by
    cases l with
    | nil=>simp at aE;omega
    | cons a t=>exact⟨rdP a,rfl⟩
   have hb:=zn2 (zaf s.data.toList) A n c w.heap.size (l.map rdP) k0 s w hT (by rw[List.length_map];exact aE) hn.2.1 aG (aC _ h2) aF
    (hL.mono fun e w'=>by
     rintro⟨⟨A',m',c',rfl,hk⟩,hb⟩;exact⟨⟨A',m',c',rfl,hk rfl⟩,hb⟩) HR
   unfold zmI
   cases hR:zcl (zaf s.data.toList) none (l.map rdP) with
   | none=>rw[hR] at hb;exact hb
   | some q=>rw[hR] at hb;exact hb
  ·rw[if_pos (show zap s.data.toList≠0 from h2),if_pos (show zap s.data.toList≠0 from h2)]
   exact zhX (zaf s.data.toList) 0 (zap s.data.toList) (zap s.data.toList) A n c s w hT (show zap s.data.toList=if (0:Int)≠0 then 0 else zap s.data.toList from (if_neg (by omega)).symm) h2
    (hL.mono fun e w'=>by
     rintro⟨⟨A',m',c',rfl,hk⟩,hb⟩;exact⟨⟨A',m',c',rfl⟩,hb⟩) HR
 ·rw[if_pos (show tabE l≠0 from h1),if_pos (show tabE l≠0 from h1)]
  exact zhX (zaf s.data.toList) (tabE l) (zap s.data.toList) (tabE l) A n c s w hT (show tabE l=if tabE l≠0 then tabE l else zap s.data.toList from (if_pos h1).symm) h1
   (hL.mono fun e w'=>by
    rintro⟨⟨A',m',c',rfl,hk⟩,hb⟩;exact⟨⟨A',m',c',rfl⟩,hb⟩) HR
theorem PtsR.lit2(w:World)(a b c d:ByteArray)(t:TypeId):PtsR (w.alloc (.cells #[.string a,.string b,.string c,.string d] t)) (w.heap.size+1) (some ⟨w.heap.size,0,none⟩) 2 [(a,b),(c,d)]:=by
 have hq:CBlk (w.alloc (.cells #[.string a,.string b,.string c,.string d] t)) w.heap.size #[.string a,.string b,.string c,.string d] t:=CBlk.new _ _ _ _ rfl;have e2:∀ i j,((⟨w.heap.size,0,none⟩:Addr).add i).add j=⟨w.heap.size,i+j,none⟩:=fun i j=>by rw[zkr];unfold Addr.add;split<;>simp_all
 refine⟨rfl,fun _=>⟨_,rfl,by simp,fun i hi => ?_⟩⟩
 match i,hi with
 | 0,_=>exact⟨by rw[e2,hq.cell];rfl,by rw[e2,hq.cell];rfl⟩
 | 1,_=>exact⟨by rw[e2,hq.cell];rfl,by rw[e2,hq.cell];rfl⟩
 | i+2,h=>exact absurd h (by simp)
end
section
open Go.RowKit
def zjJ:Prop:=∀ W,Tabs W→Calls Tryz.prog 9 #[] W fun e w'=>e = .returned (.bool true)∧Below W.heap.size W w'
end
end Go.Proofs.YtmkondcdejlhcaaGreatDoor
