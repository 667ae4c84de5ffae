/- Contract of Blend: any table and any number. -/
import Derived.Test.YtbkgkoenppkhpaaGreatDoorBKn5
set_option maxRecDepth 100000
set_option maxHeartbeats 4000000
namespace Go.Proofs.YtbkgkoenppkhpaaGreatDoor
section
open Go.RowKit Bn
def zcq (x:Q):Option (Q × Q)→List (Q × Q)→Option Q
 | _,[]=>none
 | o,k :: t=>if rcmp x k.1=0 then some k.2 else if rcmp x k.1<0 then o.map (fun p=>zcs p.1 p.2 k.1 k.2 x) else zcq x (some k) t
def zmM (l:List (ByteArray × ByteArray)) (s:List UInt8):Option Q:=zcq (zaf s) none (l.map rdP)
def blE (l:List (ByteArray × ByteArray)) (s:List UInt8):Int:=if tabE l≠0 then tabE l else if zan s≠0 then zan s else match zmM l s with | none=>3 | some q=>zau q
def blT (l:List (ByteArray × ByteArray)) (s:List UInt8):List UInt8:=if tabE l≠0 then[] else if zan s≠0 then[] else match zmM l s with | none=>[] | some q=>zbr q
def zfI (ks:List (Q × Q)) (k:Nat):Option (Q × Q):=if k=0 then none else ks[k-1]?
def outE:Option Q→Int | none=>3 | some q=>zau q
def outT:Option Q→List UInt8 | none=>[] | some q=>zbr q
theorem zgw{x:Q}{ks:List (Q × Q)}{k:Nat}{kk:Q × Q}(h:ks[k]? = some kk)(he:zcq x none ks=zcq x (zfI ks k) (ks.drop k)) :
  (rcmp x kk.1=0→zcq x none ks=some kk.2)∧(rcmp x kk.1<0→zcq x none ks=(zfI ks k).map (fun p=>zcs p.1 p.2 kk.1 kk.2 x))∧(0<rcmp x kk.1→zcq x none ks=zcq x (zfI ks (k+1)) (ks.drop (k+1))):=by
 obtain⟨hl,hk⟩:=List.getElem?_eq_some_iff.1 h;rw[List.drop_eq_getElem_cons hl,hk] at he;have hc:zcq x (zfI ks k) (kk :: ks.drop (k+1))=if rcmp x kk.1=0 then some kk.2 else if rcmp x kk.1<0 then(zfI ks k).map (fun p=>zcs p.1 p.2 kk.1 kk.2 x) else zcq x (some kk) (ks.drop (k+1)):=by
  cases zfI ks k<;>rfl
 rw[hc] at he;refine⟨fun h0=>by rw[he,if_pos h0],fun h0=>by rw[he,if_neg (by omega),if_pos h0],fun h0 => ?_⟩;rw[he,if_neg (by omega),if_neg (by omega)];have:zfI ks (k+1)=some kk:=by unfold zfI;rw[if_neg (by omega),Nat.add_sub_cancel,h]
 rw[this]
theorem zjv{a b c d x:Q}(l1:LenQ a 65536)(l2:LenQ b 65536)(l3:LenQ c 65536)(l4:LenQ d 65536)(l5:LenQ x 65536):LenQ (zcs a b c d x) 268435456:=by
 have n1:LenQ (za6 d b) 524288:=(zbw l4 (zbZ l2)).mono (by omega);have n2:LenQ (za6 c a) 524288:=(zbw l3 (zbZ l1)).mono (by omega);have n3:LenQ (zpY (za6 d b) (za6 c a)) 1048576:=(zbC _ n1 n2 (by omega)).mono (by omega);have n4:LenQ (za6 x a) 524288:=(zbw l5 (zbZ l1)).mono (by omega);have n5:LenQ (znw (zpY (za6 d b) (za6 c a)) (za6 x a)) 1572864:=(zby _ n3 n4 (by omega)).mono (by omega);exact(zbw l2 n5).mono (by omega)
theorem zc6.later{W W':World}{B n:Nat}{v:Value}{ks:List (Q × Q)}(h:zc6 W B v n ks)(hb:Below W.heap.size W W'):zc6 W' B v n ks:=by
 refine h.keep (fun xs hx => ?_) (fun u p q hu=>hu.later hb);refine hx.kept (row:=none) ⟨hb.os,hb.tape,hb.output,hb.size,fun i hi _=>hb.block i hi⟩ ?_
 cases v.ownBlock<;>simp
theorem ziW(x:Q)(z1 z2 E:Int)(A:Option Addr)(n c:Nat)(s:ByteArray)(w:World)(hT:Tabs w)(HE:Hid (E=if z1≠0 then z1 else z2))(H0:Hid (E≠0))
 (HL:Hid (Calls Tryz.prog 110 #[.slice A n c] w fun e w'=>(∃ A' m' c',e = .returned (.tuple #[.slice A' m' c',.int .i64 z1]))∧Below w.heap.size w w'))
 (HR:Hid (∀ W,Tabs W→Calls Tryz.prog 59 #[.string s] W (zaC W x z2))) :
  Calls Tryz.prog 50 #[.slice A n c,.string s] w (zb7 w [] E):=by
 have aG:(E != 0)=true:=by simpa using H0.out
 go_enter Tryz.func50,Tryz.ntmps50
 go_wp2_with fail
 refine HL.out.mono ?_;rintro e w2 ⟨⟨A',m',c',rfl⟩,aC⟩
 go_wp2_with fail
 refine(HR.out w2 (hT.later aC)).mono ?_;rintro e w3 ⟨v3,rfl,⟨A1,n1,c1,A2,n2,c2,rfl,h1,h2⟩,aF⟩;have aD:=Ad aC aF;have aA:Below w.heap.size w (w3.alloc (.cells #[.bool x.neg,.slice A1 n1 c1,.slice A2 n2 c2] 87)):=aD.alloc aD.size _;go_upto_region 3 with(fail)
 generalize (w3.alloc (.cells #[.bool x.neg,.slice A1 n1 c1,.slice A2 n2 c2] 87))=w4 at *;have aE:Below w.heap.size w (w4.alloc (.cells #[.int .i64 z1,.int .i64 z2] 27)):=aA.alloc aA.size _
 go_wp2_with fail
 refine(za8 z1 z2 E HE.out w4 _ _ rfl).mono ?_;rintro e w6 ⟨rfl,rfl⟩
 go_wp2_with fail
 go_ret2
 exact⟨⟨#[]⟩,rfl,rfl,aE⟩
theorem zoB(x:Q)(A:Option Addr)(n c B:Nat)(ks:List (Q × Q))(k0:Q × Q)(s:ByteArray)(w:World)(hT:Tabs w)(hlk:ks.length=n)(hn:n≤64)(hk0:ks[0]? = some k0)(lx:LenQ x 65536)(lk:∀ p ∈ ks,LenQ p.1 65536∧LenQ p.2 65536)
 (HL:Hid (Calls Tryz.prog 110 #[.slice A n c] w fun e w'=>(∃ A' m' c',e = .returned (.tuple #[.slice A' m' c',.int .i64 0])∧zc6 w' B (.slice A' m' c') n ks)∧Below w.heap.size w w'))
 (HR:Hid (∀ W,Tabs W→Calls Tryz.prog 59 #[.string s] W (zaC W x 0))) :
  Calls Tryz.prog 50 #[.slice A n c,.string s] w (zb7 w (outT (zcq x none ks)) (outE (zcq x none ks))):=by
 have iG:0<n:=by
  rcases Nat.eq_zero_or_pos n with h | h
  ·rw[List.getElem?_eq_none (by omega)] at hk0;cases hk0
  ·exact h
 have dG:=Aa lk;have fH:=Aa lx;have dI:=Aa hlk;have cR:=Aa hk0;have HC:=Aa (fun (p:Q) v u W h1 h2 (lp:LenQ p 65536)=>zbp x p v u W h1 h2 (lx.mono (by omega)) (lp.mono (by omega)));have bR:=zgw (x:=x) hk0 rfl;obtain⟨R,hR⟩:∃ R,R=zcq x none ks:=⟨_,rfl⟩;have cA:=Aa hR;have dC:=Aa bR;rw[←hR];clear hlk hk0 lx lk bR hR;have iF:(0:Int)<(n:Int):=by omega
 have iC:n≠0:=by omega
 go_enter Tryz.func50,Tryz.ntmps50
 go_wp2_with fail
 refine HL.out.mono ?_;rintro e w2 ⟨⟨A',m',c',rfl,cE⟩,cK⟩;obtain⟨bk,dH,hv,_,iE,_⟩:∃ bk dH,Value.slice A' m' c' = .slice (some ⟨bk,0,none⟩) n dH∧B≤bk∧bk<w2.heap.size∧(Value.slice A' m' c').ownBlock=some bk:=by
  rcases cE.form with⟨_,h⟩ | h
  ·omega
  ·exact h
 obtain⟨rfl,rfl,rfl⟩:A'=some ⟨bk,0,none⟩∧n=m'∧dH=c':=by injection hv with e1 e2 e3;exact⟨e1,e2.symm,e3.symm⟩
 clear hv
 go_wp2_with fail
 refine(HR.out w2 (hT.later cK)).mono ?_;rintro e w3 ⟨v3,rfl,⟨A1,n1,c1,A2,n2,c2,rfl,h1,h2⟩,cV⟩;have cU:=Ad cK cV;have bK:Below w3.heap.size w3 (w3.alloc (.cells #[.bool x.neg,.slice A1 n1 c1,.slice A2 n2 c2] 87)):=Ac;have aX:=Ad cU bK;have q3:CBlk (w3.alloc (.cells #[.bool x.neg,.slice A1 n1 c1,.slice A2 n2 c2] 87)) w3.heap.size #[.bool x.neg,.slice A1 n1 c1,.slice A2 n2 c2] 87:=CBlk.new _ _ _ _ rfl;have k3:=(cE.later cV).later bK;have fC:=h1.later bK;have dQ:=h2.later bK;clear cE bK h1 h2 cU cK cV;go_upto_region 3 with(fail)
 generalize (w3.alloc (.cells #[.bool x.neg,.slice A1 n1 c1,.slice A2 n2 c2] 87))=w4 at *;generalize w3.heap.size=gx at *;have cS:Below w.heap.size w (w4.alloc (.cells #[.int .i64 0,.int .i64 0] 27)):=aX.alloc aX.size _;have bW:Below w4.heap.size w4 (w4.alloc (.cells #[.int .i64 0,.int .i64 0] 27)):=Ac;have q5:=q3.alloc (.cells #[.int .i64 0,.int .i64 0] 27);have k5:=k3.later bW;have cZ:=fC.later bW;have cY:=dQ.later bW
 go_wp2_with fail
 refine(za8 0 0 0 rfl w4 _ _ rfl).mono ?_;rintro e w5 ⟨rfl,rfl⟩;clear q3 k3 fC dQ bW aX;generalize (w4.alloc (.cells #[.int .i64 0,.int .i64 0] 27))=w5 at *;obtain⟨K1,m1,e1,K2,m2,e2,K3,m3,e3,K4,m4,e4,aN,r1,r2,_,_⟩:=k5.at_ (o:=k0.1) (oo:=k0.2) cR.out;have bA:bk<w5.heap.size:=by
  rcases k5.form with⟨h,_⟩ | ⟨g9,dA,h,_,h9,_⟩
  ·cases h
  ·injection h with h;injection h with h;injection h with h;omega
 have aC:Below w5.heap.size w5 w5.drew:=(Below.refl _ _).drew;have dY:=(dG.out k0 (List.mem_of_getElem? cR.out)).1;have aT:=Aa (HC.out k0.1 _ _ w5.drew (RatS.mk (q:=x) (cZ.later aC) (cY.later aC)) (RatS.mk (q:=k0.1) (r1.later aC) (r2.later aC)) dY);go_upto_region 6 with(fail)
 have cG:w5.drew.cell? ⟨gx,0,none⟩=some (.bool x.neg):=q5.cell 0;have bU:w5.drew.cell? ⟨gx,1,none⟩=some (.slice A1 n1 c1):=q5.cell 1;have bZ:w5.drew.cell? ⟨gx,2,none⟩=some (.slice A2 n2 c2):=q5.cell 2;have bD:w5.drew.cell? ⟨bk,0,none⟩=some (.bool k0.1.neg):=by have:=aN 0 _ rfl;simpa using this
 have bC:w5.drew.cell? ⟨bk,1,none⟩=some (.slice K1 m1 e1):=by have:=aN 1 _ rfl;simpa using this
 have bE:w5.drew.cell? ⟨bk,2,none⟩=some (.slice K2 m2 e2):=by have:=aN 2 _ rfl;simpa using this
 clear aN;generalize bM:rcmp x k0.1=r0 at *;have cP:=Aa bM;clear bM;obtain⟨b0,cL⟩:∃ b,decide (r0<0)=b:=⟨_,rfl⟩;have gS:Hid (b0=true→r0<0):=fun h=>of_decide_eq_true (cL.trans h)
 have fY:Hid (b0=false→0≤r0):=fun h=>Int.not_lt.1 (of_decide_eq_false (cL.trans h))
 go_region_held3 (fun w'=>w'.cell? ⟨gx,0,none⟩=some (.bool x.neg)∧w'.cell? ⟨gx,1,none⟩=some (.slice A1 n1 c1)∧w'.cell? ⟨gx,2,none⟩=some (.slice A2 n2 c2)∧w'.cell? ⟨bk,0,none⟩=some (.bool k0.1.neg)∧w'.cell? ⟨bk,1,none⟩=some (.slice K1 m1 e1)∧w'.cell? ⟨bk,2,none⟩=some (.slice K2 m2 e2))
  (first | with_reducible exact⟨cG,bU,bZ,bD,bC,bE⟩ | with_reducible exact⟨bT,cI,cF,bO,bP,bN⟩)
  (first | (go_at_call 81;refine aT.out.mono ?_;rintro e w7 ⟨rfl,aZ⟩;have q7:=q5.drew.below aZ q5.lt;have k7:=(k5.later aC).later aZ;have bT:w7.cell? ⟨gx,0,none⟩=some (.bool x.neg):=q7.cell 0;have cI:w7.cell? ⟨gx,1,none⟩=some (.slice A1 n1 c1):=q7.cell 1;have cF:w7.cell? ⟨gx,2,none⟩=some (.slice A2 n2 c2):=q7.cell 2;have bO:w7.cell? ⟨bk,0,none⟩=some (.bool k0.1.neg):=(aZ.cell bA).trans bD;have bP:w7.cell? ⟨bk,1,none⟩=some (.slice K1 m1 e1):=(aZ.cell bA).trans bC;have bN:w7.cell? ⟨bk,2,none⟩=some (.slice K2 m2 e2):=(aZ.cell bA).trans bE))
 have aS:=Ad aC aZ;have cM:=Ad cS aS;have hJ:=cZ.later aS;have fR:=cY.later aS;have gX:w5.heap.size≤w7.heap.size:=aS.size;clear cG bU bZ bD bC bE bT cI cF bO bP bN cS aC aZ aS q5 k5 cZ cY r1 r2 dY aT;clear cL
 cases b0
 case true=>
  have hz:R=none:=by rw[cA.out,dC.out.2.1 (gS.out rfl)];rfl
  have HZ:=Aa hz;clear hz;go_wp2
  go_ret2
  exact⟨⟨#[]⟩,by rw[HZ.out];rfl,by rw[HZ.out];rfl,cM⟩
 have fS:=Aa (fY.out rfl);go_wp2
 go_loopg [40] n (fun m s W=>∃ k:Nat,k≤n∧s = .int .i64 k∧n-k≤m∧Below w7.heap.size w7 W∧zcq x none ks=zcq x (zfI ks k) (ks.drop k))
 case atStart=>exact⟨0,Nat.zero_le _,rfl,by omega,Below.refl _ _,rfl⟩
 case round=>
  obtain⟨k,hk,rfl,hm,aE,fJ⟩:=hrel;have fG:=Aa fJ;clear fJ;have qr:=q7.below aE q7.lt;have kr:=k7.later aE;have fB:=hJ.later aE;have dZ:=fR.later aE;have bX:=Ad cM aE
  by_cases cE:k<n
  ·have fD:k<ks.length:=by have:=dI.out;omega
   have bL:ks[k]? = some ks[k]:=List.getElem?_eq_getElem fD;generalize ks[k]=kk at *;have aU:=zgw bL fG.out;have dN:=dG.out kk (List.mem_of_getElem? bL);obtain⟨K1,m1,e1,K2,m2,e2,K3,m3,e3,K4,m4,e4,aN,r1,r2,r3,r4⟩:=kr.at_ (o:=kk.1) (oo:=kk.2) bL;have y0:wr.cell? ⟨bk,k*6,none⟩=some (.bool kk.1.neg):=aN 0 _ rfl;have y1:wr.cell? ⟨bk,k*6+1,none⟩=some (.slice K1 m1 e1):=aN 1 _ rfl;have y2:wr.cell? ⟨bk,k*6+2,none⟩=some (.slice K2 m2 e2):=aN 2 _ rfl;have y3:wr.cell? ⟨bk,k*6+3,none⟩=some (.bool kk.2.neg):=aN 3 _ rfl;have y4:wr.cell? ⟨bk,k*6+4,none⟩=some (.slice K3 m3 e3):=aN 4 _ rfl;have y5:wr.cell? ⟨bk,k*6+5,none⟩=some (.slice K4 m4 e4):=aN 5 _ rfl;have aO:Below wr.heap.size wr (wr.alloc (.cells #[.bool kk.1.neg,.slice K1 m1 e1,.slice K2 m2 e2,.bool kk.2.neg,.slice K3 m3 e3,.slice K4 m4 e4] 143)):=Ac;have qk:CBlk (wr.alloc (.cells #[.bool kk.1.neg,.slice K1 m1 e1,.slice K2 m2 e2,.bool kk.2.neg,.slice K3 m3 e3,.slice K4 m4 e4] 143)) wr.heap.size #[.bool kk.1.neg,.slice K1 m1 e1,.slice K2 m2 e2,.bool kk.2.neg,.slice K3 m3 e3,.slice K4 m4 e4] 143:=CBlk.new _ _ _ _ rfl;have aQ:=Aa aU;have fP:=Aa bL;have bF:=Aa dN;have q8:=qr.below aO qr.lt;have k8:=kr.later aO;have dJ:=fB.later aO;have cT:=dZ.later aO;have cO:=r1.later aO;have dK:=r2.later aO;have dT:=r3.later aO;have fA:=r4.later aO;have cQ:=Ad bX aO;have fV:=aE.size;have bB:=Ad aE aO;clear aN aU bL dN qr kr fB dZ r1 r2 r3 r4 aO fD bX aE;go_upto_region 11 with(fail)
   generalize (wr.alloc (.cells #[.bool kk.1.neg,.slice K1 m1 e1,.slice K2 m2 e2,.bool kk.2.neg,.slice K3 m3 e3,.slice K4 m4 e4] 143))=w8 at *;generalize wr.heap.size=gn at *;have x0:w8.cell? ⟨gx,0,none⟩=some (.bool x.neg):=q8.cell 0;have x1:w8.cell? ⟨gx,1,none⟩=some (.slice A1 n1 c1):=q8.cell 1;have x2:w8.cell? ⟨gx,2,none⟩=some (.slice A2 n2 c2):=q8.cell 2;have z0:w8.cell? ⟨gn,0,none⟩=some (.bool kk.1.neg):=qk.cell 0;have z1:w8.cell? ⟨gn,1,none⟩=some (.slice K1 m1 e1):=qk.cell 1;have z2:w8.cell? ⟨gn,2,none⟩=some (.slice K2 m2 e2):=qk.cell 2;clear y0 y1 y2 y3 y4 y5
   go_wp2_with fail
   refine(HC.out kk.1 _ _ w8 (RatS.mk (q:=x) dJ cT) (RatS.mk (q:=kk.1) cO dK) bF.out.1).mono ?_;rintro e w9 ⟨rfl,aM⟩;have q9:=q8.below aM q8.lt;have aL:=qk.below aM qk.lt;have k9:=k8.later aM;have bY:=dJ.later aM;have cC:=cT.later aM;have cB:=cO.later aM;have cJ:=dK.later aM;have bJ:=dT.later aM;have bQ:=fA.later aM;have aV:=Ad cQ aM;have dF:=Ad bB aM;clear x0 x1 x2 z0 z1 z2 q8 qk k8 dJ cT cO dK dT fA cQ bB aM;generalize dX:rcmp x kk.1=r at *;have gO:=Aa dX;clear dX
   rcases Int.lt_trichotomy r 0 with cH | gM | dW
   ·have d1:(r==0)=false:=by rw[beq_eq_false_iff_ne];omega
    have d2:decide (r=0)=false:=decide_eq_false (by omega);have d3:decide (r<0)=true:=decide_eq_true cH;have iD:=Aa cH;obtain⟨j,HJ⟩:∃ j,Hid (k=j+1):=by
     rcases Nat.eq_zero_or_pos k with h | h
     ·exfalso
      subst h;have h9:=fP.out;rw[cR.out] at h9;injection h9 with h9
      have h8:=cP.out;rw[h9,gO.out] at h8;have:=fS.out;omega
     ·exact⟨k-1,by show k=k-1+1;omega⟩
    have dO:j<ks.length:=by have:=dI.out;have:=HJ.out;omega
    have bV:ks[j]? = some ks[j]:=List.getElem?_eq_getElem dO;generalize ks[j]=pp at *;have bS:=dG.out pp (List.mem_of_getElem? bV);have aW:zfI ks k=some pp:=by unfold zfI;rw[if_neg (by have:=HJ.out;omega),show k-1=j by have:=HJ.out;omega];exact bV
    have aR:R=some (zcs pp.1 pp.2 kk.1 kk.2 x):=by rw[cA.out,aQ.out.2.1 cH,aW];rfl
    have aP:=Aa aR;have d4:wrap64 ((k:Int)-1)=(j:Int):=by rw[IntWalk.wrap64_in _ (by omega)];have:=HJ.out;omega
    have d5:IntKind.i64.wrap ((k:Int)-1)=(j:Int):=by rw[IntWalk.i64_in _ (by omega)];have:=HJ.out;omega
    have d6:(0:Int)≤(j:Int):=by omega
    have d7:(j:Int)<(n:Int):=by have:=HJ.out;omega
    obtain⟨P1,a1,b1,P2,a2,b2,P3,a3,b3,P4,a4,b4,aY,s1,s2,s3,s4⟩:=k9.at_ (o:=pp.1) (oo:=pp.2) bV;have aI:bk<w9.drew.heap.size:=by
     rcases k9.form with⟨h,_⟩ | ⟨g9,dA,h,_,h9,_⟩
     ·cases h
     ·injection h with h;injection h with h;injection h with h;subst h;exact h9
    have aC:Below w9.heap.size w9 w9.drew:=(Below.refl _ _).drew;have gG:=aV.size;have fI:=hT.later (aV.trans (aC.mono aV.size));have gR:=Aa (zjh pp.1 pp.2 kk.1 kk.2 x _ _ _ w9.drew fI ⟨P1,a1,b1,P2,a2,b2,P3,a3,b3,P4,a4,b4,rfl,s1.later aC,s2.later aC,s3.later aC,s4.later aC⟩ ⟨K1,m1,e1,K2,m2,e2,K3,m3,e3,K4,m4,e4,rfl,cB.later aC,cJ.later aC,bJ.later aC,bQ.later aC⟩ (RatS.mk (q:=x) (bY.later aC) (cC.later aC)) bS.1 bS.2 bF.out.1 bF.out.2 fH.out);have cW:=Aa (fun (v:Value) (W:World) (hT:Tabs W) (hv:RatS W W.heap.size v (zcs pp.1 pp.2 kk.1 kk.2 x))=>zcd _ v W hT hv (zjv bS.1 bS.2 bF.out.1 bF.out.2 fH.out));generalize zcs pp.1 pp.2 kk.1 kk.2 x=bq at *;clear cH dO bV bS aW aR s1 s2 s3 s4 bY cC cB cJ bJ bQ k9;go_upto_region 15 with(fail)
    have cG:w9.drew.cell? ⟨gx,0,none⟩=some (.bool x.neg):=q9.cell 0;have bU:w9.drew.cell? ⟨gx,1,none⟩=some (.slice A1 n1 c1):=q9.cell 1;have bZ:w9.drew.cell? ⟨gx,2,none⟩=some (.slice A2 n2 c2):=q9.cell 2;have gH:w9.drew.cell? ⟨gn,0,none⟩=some (.bool kk.1.neg):=aL.cell 0;have fM:w9.drew.cell? ⟨gn,1,none⟩=some (.slice K1 m1 e1):=aL.cell 1;have fQ:w9.drew.cell? ⟨gn,2,none⟩=some (.slice K2 m2 e2):=aL.cell 2;have gE:w9.drew.cell? ⟨gn,3,none⟩=some (.bool kk.2.neg):=aL.cell 3;have gT:w9.drew.cell? ⟨gn,4,none⟩=some (.slice K3 m3 e3):=aL.cell 4;have gK:w9.drew.cell? ⟨gn,5,none⟩=some (.slice K4 m4 e4):=aL.cell 5;have bD:w9.drew.cell? ⟨bk,j*6,none⟩=some (.bool pp.1.neg):=aY 0 _ rfl;have bC:w9.drew.cell? ⟨bk,j*6+1,none⟩=some (.slice P1 a1 b1):=aY 1 _ rfl;have bE:w9.drew.cell? ⟨bk,j*6+2,none⟩=some (.slice P2 a2 b2):=aY 2 _ rfl;have fF:w9.drew.cell? ⟨bk,j*6+3,none⟩=some (.bool pp.2.neg):=aY 3 _ rfl;have dM:w9.drew.cell? ⟨bk,j*6+4,none⟩=some (.slice P3 a3 b3):=aY 4 _ rfl;have dR:w9.drew.cell? ⟨bk,j*6+5,none⟩=some (.slice P4 a4 b4):=aY 5 _ rfl;clear aY
    go_region_held3 (fun w'=>w'.cell? ⟨gx,0,none⟩=some (.bool x.neg)∧w'.cell? ⟨gx,1,none⟩=some (.slice A1 n1 c1)∧w'.cell? ⟨gx,2,none⟩=some (.slice A2 n2 c2)∧w'.cell? ⟨gn,0,none⟩=some (.bool kk.1.neg)∧w'.cell? ⟨gn,1,none⟩=some (.slice K1 m1 e1)∧w'.cell? ⟨gn,2,none⟩=some (.slice K2 m2 e2)∧w'.cell? ⟨gn,3,none⟩=some (.bool kk.2.neg)∧w'.cell? ⟨gn,4,none⟩=some (.slice K3 m3 e3)∧w'.cell? ⟨gn,5,none⟩=some (.slice K4 m4 e4)∧w'.cell? ⟨bk,j*6,none⟩=some (.bool pp.1.neg)∧w'.cell? ⟨bk,j*6+1,none⟩=some (.slice P1 a1 b1)∧w'.cell? ⟨bk,j*6+2,none⟩=some (.slice P2 a2 b2)∧w'.cell? ⟨bk,j*6+3,none⟩=some (.bool pp.2.neg)∧w'.cell? ⟨bk,j*6+4,none⟩=some (.slice P3 a3 b3)∧w'.cell? ⟨bk,j*6+5,none⟩=some (.slice P4 a4 b4))
     (first | with_reducible exact⟨cG,bU,bZ,gH,fM,fQ,gE,gT,gK,bD,bC,bE,fF,dM,dR⟩ | with_reducible exact⟨bT,cI,cF,gZ,gQ,fT,gL,iB,fW,bO,bP,bN,dV,dU,fE⟩ | with_reducible exact⟨gA,fL,gY,fN,gI,gV,gW,gU,fZ,fO,iA,gF,gB,gN,gP⟩)
     (first
      |(go_at_call 111;refine gR.out.mono ?_;rintro e aG ⟨fU,rfl,dL,aA⟩;have bH:=q9.drew.below aA q9.lt;have aH:=aL.drew.below aA aL.lt;have aD:bk<aG.heap.size:=Nat.lt_of_lt_of_le aI aA.size;have bT:aG.cell? ⟨gx,0,none⟩=some (.bool x.neg):=bH.cell 0;have cI:aG.cell? ⟨gx,1,none⟩=some (.slice A1 n1 c1):=bH.cell 1;have cF:aG.cell? ⟨gx,2,none⟩=some (.slice A2 n2 c2):=bH.cell 2;have gZ:aG.cell? ⟨gn,0,none⟩=some (.bool kk.1.neg):=aH.cell 0;have gQ:aG.cell? ⟨gn,1,none⟩=some (.slice K1 m1 e1):=aH.cell 1;have fT:aG.cell? ⟨gn,2,none⟩=some (.slice K2 m2 e2):=aH.cell 2;have gL:aG.cell? ⟨gn,3,none⟩=some (.bool kk.2.neg):=aH.cell 3;have iB:aG.cell? ⟨gn,4,none⟩=some (.slice K3 m3 e3):=aH.cell 4;have fW:aG.cell? ⟨gn,5,none⟩=some (.slice K4 m4 e4):=aH.cell 5;have bO:aG.cell? ⟨bk,j*6,none⟩=some (.bool pp.1.neg):=(aA.cell aI).trans bD;have bP:aG.cell? ⟨bk,j*6+1,none⟩=some (.slice P1 a1 b1):=(aA.cell aI).trans bC;have bN:aG.cell? ⟨bk,j*6+2,none⟩=some (.slice P2 a2 b2):=(aA.cell aI).trans bE;have dV:aG.cell? ⟨bk,j*6+3,none⟩=some (.bool pp.2.neg):=(aA.cell aI).trans fF;have dU:aG.cell? ⟨bk,j*6+4,none⟩=some (.slice P3 a3 b3):=(aA.cell aI).trans dM;have fE:aG.cell? ⟨bk,j*6+5,none⟩=some (.slice P4 a4 b4):=(aA.cell aI).trans dR;have gD:=Aa (cW.out fU aG (fI.later aA) dL))
      |(go_at_call 89;refine gD.out.mono ?_;rintro e aJ ⟨fX,rfl,bI,aF⟩;have cN:=bH.below aF bH.lt;have aK:=aH.below aF aH.lt;have gA:aJ.cell? ⟨gx,0,none⟩=some (.bool x.neg):=cN.cell 0;have fL:aJ.cell? ⟨gx,1,none⟩=some (.slice A1 n1 c1):=cN.cell 1;have gY:aJ.cell? ⟨gx,2,none⟩=some (.slice A2 n2 c2):=cN.cell 2;have fN:aJ.cell? ⟨gn,0,none⟩=some (.bool kk.1.neg):=aK.cell 0;have gI:aJ.cell? ⟨gn,1,none⟩=some (.slice K1 m1 e1):=aK.cell 1;have gV:aJ.cell? ⟨gn,2,none⟩=some (.slice K2 m2 e2):=aK.cell 2;have gW:aJ.cell? ⟨gn,3,none⟩=some (.bool kk.2.neg):=aK.cell 3;have gU:aJ.cell? ⟨gn,4,none⟩=some (.slice K3 m3 e3):=aK.cell 4;have fZ:aJ.cell? ⟨gn,5,none⟩=some (.slice K4 m4 e4):=aK.cell 5;have fO:aJ.cell? ⟨bk,j*6,none⟩=some (.bool pp.1.neg):=(aF.cell aD).trans bO;have iA:aJ.cell? ⟨bk,j*6+1,none⟩=some (.slice P1 a1 b1):=(aF.cell aD).trans bP;have gF:aJ.cell? ⟨bk,j*6+2,none⟩=some (.slice P2 a2 b2):=(aF.cell aD).trans bN;have gB:aJ.cell? ⟨bk,j*6+3,none⟩=some (.bool pp.2.neg):=(aF.cell aD).trans dV;have gN:aJ.cell? ⟨bk,j*6+4,none⟩=some (.slice P3 a3 b3):=(aF.cell aD).trans dU;have gP:aJ.cell? ⟨bk,j*6+5,none⟩=some (.slice P4 a4 b4):=(aF.cell aD).trans fE))
    have gJ:=aV.trans ((aC.trans ((aA.trans (aF.mono aA.size)).mono aC.size)).mono aV.size);have dD:=Aa bI;clear bI;go_wp2
    go_ret2
    exact⟨fX,by rw[aP.out];rfl,by rw[aP.out];exact dD.out,gJ⟩
   ·subst gM
    have aR:R=some kk.2:=by rw[cA.out,aQ.out.1 rfl]
    have aP:=Aa aR;have x0:w9.cell? ⟨gn,3,none⟩=some (.bool kk.2.neg):=aL.cell 3;have x1:w9.cell? ⟨gn,4,none⟩=some (.slice K3 m3 e3):=aL.cell 4;have x2:w9.cell? ⟨gn,5,none⟩=some (.slice K4 m4 e4):=aL.cell 5;have cW:=Aa (zcd kk.2 _ w9 (hT.later aV) (RatS.mk (q:=kk.2) bJ bQ) (bF.out.2.mono (by omega)));clear aR q9 aL k9 bY cC cB cJ bJ bQ
    go_wp2_with fail
    refine cW.out.mono ?_;rintro e aG ⟨gC,rfl,bG,aA⟩;have dB:=Aa bG;clear bG
    go_wp2_with fail
    go_ret2
    exact⟨gC,by rw[aP.out];rfl,by rw[aP.out];exact dB.out,aV.trans (aA.mono aV.size)⟩
   ·have d1:(r==0)=false:=by rw[beq_eq_false_iff_ne];omega
    have d2:decide (r=0)=false:=decide_eq_false (by omega);have d3:decide (r<0)=false:=decide_eq_false (by omega);have dP:=aQ.out.2.2 dW;have fK:=Aa dP;clear dW dP q9 aL k9 bY cC cB cJ bJ bQ
    go_wp2_with fail
    go_roundg (n-(k+1))
    case measure=>omega
    case rel=>exact⟨k+1,by omega,by go_num,Nat.le_refl _,dF,fK.out⟩
  ·obtain rfl:n=k:=by omega
   have hz:R=none:=by
    have h9:=cA.out.trans fG.out;rw[List.drop_eq_nil_of_le (by have:=dI.out;omega)] at h9;rw[h9]
    cases zfI ks n<;>rfl
   have HZ:=Aa hz;clear hz;go_wp2
   go_ret2
   exact⟨⟨#[]⟩,by rw[HZ.out];rfl,by rw[HZ.out];rfl,bX⟩
theorem zmV(A:Option Addr)(n c:Nat)(l:List (ByteArray × ByteArray))(s:ByteArray)(w:World)(hT:Tabs w)(h:PtsR w w.heap.size A n l)(hsz:∀ p ∈ l,p.1.size≤4294967296∧p.2.size≤4294967296)(hs:s.size≤4294967296) :
  Calls Tryz.prog 50 #[.slice A n c,.string s] w (zb7 w (blT l s.data.toList) (blE l s.data.toList)):=by
 have HR:∀ W,Tabs W→Calls Tryz.prog 59 #[.string s] W (zaC W (zaf s.data.toList) (zan s.data.toList)):=fun W hT=>zca s W hT hs
 have hL:=zhD A n c l w hT h hsz;unfold blT blE
 by_cases h1:tabE l=0
 ·rw[if_neg (show ¬ tabE l≠0 by omega),if_neg (show ¬ tabE l≠0 by omega)]
  rw[h1] at hL
  by_cases h2:zan s.data.toList=0
  ·rw[if_neg (show ¬ zan s.data.toList≠0 by omega),if_neg (show ¬ zan s.data.toList≠0 by omega)]
   have aD:l.length=n:=h.1;have hn:1≤n∧n≤64∧zc9 none l=0:=by
    unfold tabE at h1
    split at h1
    ·omega
    ·split at h1
     ·omega
     ·exact⟨by omega,by omega,h1⟩
   have aA:∀ p ∈ l,zan p.1.data.toList=0∧zan p.2.data.toList=0:=by
    have h9:∀ (l:List (ByteArray × ByteArray)) (o:Option Q),zc9 o l=0→∀ p ∈ l,zan p.1.data.toList=0∧zan p.2.data.toList=0:=by
     intro l
     induction l with
     | nil=>intro o _ p hp;cases hp
     | cons a t ih=>
      intro o ho p hp;have hc:zc9 o (a :: t)=if rowE o a.1.data.toList a.2.data.toList≠0 then rowE o a.1.data.toList a.2.data.toList else zc9 (some (zaf a.1.data.toList)) t:=by cases o<;>rfl
      rw[hc] at ho
      split at ho
      ·rename_i h0;exact absurd ho h0
      ·rename_i h0
       rcases List.mem_cons.1 hp with rfl | hp
       ·have aE:rowE o p.1.data.toList p.2.data.toList=0:=by omega
        unfold rowE at aE
        by_cases hx:zan p.1.data.toList=0
        ·by_cases hy:zan p.2.data.toList=0
         ·exact⟨hx,hy⟩
         ·rw[if_neg (by omega),if_pos hy] at aE;exact absurd aE hy
        ·rw[if_pos hx] at aE;exact absurd aE hx
       ·exact ih _ ho p hp
    exact h9 l none hn.2.2
   have aC:∀ t:List UInt8,zan t=0→LenQ (zaf t) 65536:=fun t ht=>by
    have h9:=@zaE t ht;exact⟨by omega,by omega⟩
   have aF:∀ p ∈ l.map rdP,LenQ p.1 65536∧LenQ p.2 65536:=fun p hp=>by
    obtain⟨q,hq,rfl⟩:=List.mem_map.1 hp;exact⟨aC _ (aA q hq).1,aC _ (aA q hq).2⟩
   rw[h2] at HR;obtain⟨k0,aG⟩:∃ k0,(l.map rdP)[0]? = some k0:=by
    cases l with
    | nil=>simp at aD;omega
    | cons a t=>exact⟨rdP a,rfl⟩
   have hb:=zoB (zaf s.data.toList) A n c w.heap.size (l.map rdP) k0 s w hT (by rw[List.length_map];exact aD) hn.2.1 aG (aC _ h2) aF
    (hL.mono fun e w'=>by
     rintro⟨⟨A',m',c',rfl,hk⟩,hb⟩;exact⟨⟨A',m',c',rfl,hk rfl⟩,hb⟩) HR
   unfold zmM
   cases hR:zcq (zaf s.data.toList) none (l.map rdP) with
   | none=>rw[hR] at hb;exact hb
   | some q=>rw[hR] at hb;exact hb
  ·rw[if_pos (show zan s.data.toList≠0 from h2),if_pos (show zan s.data.toList≠0 from h2)]
   exact ziW (zaf s.data.toList) 0 (zan s.data.toList) (zan s.data.toList) A n c s w hT (show zan s.data.toList=if (0:Int)≠0 then 0 else zan s.data.toList from (if_neg (by omega)).symm) h2
    (hL.mono fun e w'=>by
     rintro⟨⟨A',m',c',rfl,hk⟩,hb⟩;exact⟨⟨A',m',c',rfl⟩,hb⟩) HR
 ·rw[if_pos (show tabE l≠0 from h1),if_pos (show tabE l≠0 from h1)]
  exact ziW (zaf s.data.toList) (tabE l) (zan s.data.toList) (tabE l) A n c s w hT (show tabE l=if tabE l≠0 then tabE l else zan s.data.toList from (if_pos h1).symm) h1
   (hL.mono fun e w'=>by
    rintro⟨⟨A',m',c',rfl,hk⟩,hb⟩;exact⟨⟨A',m',c',rfl⟩,hb⟩) HR
theorem PtsR.lit2(w:World)(a b c d:ByteArray)(t:TypeId):PtsR (w.alloc (.cells #[.string a,.string b,.string c,.string d] t)) (w.heap.size+1) (some ⟨w.heap.size,0,none⟩) 2 [(a,b),(c,d)]:=by
 have hq:CBlk (w.alloc (.cells #[.string a,.string b,.string c,.string d] t)) w.heap.size #[.string a,.string b,.string c,.string d] t:=CBlk.new _ _ _ _ rfl;have e2:∀ i j,((⟨w.heap.size,0,none⟩:Addr).add i).add j=⟨w.heap.size,i+j,none⟩:=fun i j=>by rw[zlz];unfold Addr.add;split<;>simp_all
 refine⟨rfl,fun _=>⟨_,rfl,by simp,fun i hi => ?_⟩⟩
 match i,hi with
 | 0,_=>exact⟨by rw[e2,hq.cell];rfl,by rw[e2,hq.cell];rfl⟩
 | 1,_=>exact⟨by rw[e2,hq.cell];rfl,by rw[e2,hq.cell];rfl⟩
 | i+2,h=>exact absurd h (by simp)
end
section
open Go.RowKit
def zd8:Prop:=∀ W,Tabs W→Calls Tryz.prog 7 #[] W fun e w'=>e = .returned (.bool true)∧Below W.heap.size W w'
end
section
open Go.RowKit
open Flt
theorem zpw{n:Nat}(h1:8388608≤n)(h2:n<16777216):n.log2=23:=by
 have aC:(2:Nat)^23=8388608:=by decide
 have aA:(2:Nat)^24=16777216:=by decide
 have a1:23≤n.log2:=(Nat.le_log2 (by omega)).2 (by omega);have a2:n.log2<24:=(Nat.log2_lt (by omega)).2 (by omega);omega
theorem ze5:Ieee.single.read 1073741824 = .number false 8388608 (-22):=by decide
theorem zhI:Ieee.single.read 0 = .number false 0 (-149):=by decide
theorem ziq{n:Nat}{e:Int}(h1:8388608≤n)(h2:n<16777216)(he : -149≤e):Rnd n e:=⟨he,by omega,.inr h1⟩
theorem zb1 {n:Nat} {e:Int} (h2:n<16777216) (he : -149≤e) (he2:e≤104):rung n e<2139095040:=by
 unfold rung;have:(e+149).toNat≤253:=by omega
 omega
theorem zhr(s:Bool){n k:Nat}{p q:Int}(h1:8388608≤n)(h2:n<16777216)(hq:p+k=q)(he : -149≤q)(he2:q≤104):Ieee.single.write (.number s (n*2^k) p)=Ieee.single.word s (rung n q):=
 zeb s (by omega) (zpw h1 h2) hq (by omega) (by have:=zb1 h2 he he2;unfold rung at this;omega)
theorem zi5 (s:Bool) {n:Nat} {e:Int} (h1:8388608≤n) (h2:n<16777216) (he : -148≤e) (he2:e≤104):floatBits .quo .f32 (Ieee.single.word s (rung n e)) 1073741824=some (Ieee.single.word s (rung n (e-1))):=by
 show((Ieee.single.read (Ieee.single.word s (rung n e))).quotient 25 (Ieee.single.read 1073741824)).map Ieee.single.write=_
 rw[zcl s (ziq h1 h2 (by omega)) h2 (zb1 h2 (by omega) he2),ze5];have hl:(8388608:Nat).log2=23:=by decide
 have hq:(n <<< 25)/8388608=n*4∧(n <<< 25)%8388608=0:=by
  rw[Nat.shiftLeft_eq];have:(2:Nat)^25=33554432:=by decide
  rw[this];omega
 show some (Ieee.single.write (.number (s ^^ false) (2*((n <<< (25+(8388608:Nat).log2-n.log2))/8388608)+((n <<< (25+(8388608:Nat).log2-n.log2))%8388608 != 0).toNat) (e - -22-((25+(8388608:Nat).log2-n.log2:Nat):Int)-1)))=_
 rw[hl,zpw h1 h2,show 25+23-23=25 from rfl,hq.1,hq.2];have e1:2*(n*4)+((0:Nat) != 0).toNat=n*2^3:=by
  have:((0:Nat) != 0).toNat=0:=rfl;rw[this];have:(2:Nat)^3=8:=by decide
  omega
 rw[e1,Bool.xor_false,zhr s h1 h2 (k:=3) (q:=e-1) (by omega) (by omega) (by omega)]
theorem zg1(s:Bool){n:Nat}{e:Int}(h1:8388608≤n)(h2:n<16777216)(he : -149≤e)(he2:e≤103):floatBits .mul .f32 (Ieee.single.word s (rung n e)) 1073741824=some (Ieee.single.word s (rung n (e+1))):=by
 show((Ieee.single.read (Ieee.single.word s (rung n e))).product (Ieee.single.read 1073741824)).map Ieee.single.write=_
 rw[zcl s (ziq h1 h2 (by omega)) h2 (zb1 h2 (by omega) (by omega)),ze5];show some (Ieee.single.write (.number (s ^^ false) (n*8388608) (e + -22)))=_
 have e1:n*8388608=n*2^23:=by
  have:(2:Nat)^23=8388608:=by decide
  rw[this]
 rw[e1,Bool.xor_false,zhr s h1 h2 (k:=23) (q:=e+1) (by omega) (by omega) (by omega)]
structure Ps (f n:Nat) (e:Int):Prop where
 rd:Ieee.single.read f = .number false n e
 hi:n<16777216
 lo : -149≤e
 top:e≤104
 can:e = -149∨8388608≤n
theorem zga{b m:Nat}{s:Bool}{p:Int}(h:Ieee.single.read b = .number s m p):p = -149∨8388608≤m:=by
 unfold Ieee.Format.read at h;rw[zeh,za9,zdx,zaI] at h
 dsimp only at h
 generalize hr:b%2147483648=r at h
 by_cases h1:r<8388608
 ·rw[if_pos h1] at h
  injection h with _ h2 h3
  exact .inl (by omega)
 ·rw[if_neg h1] at h
  by_cases h2:r<2139095040
  ·rw[if_pos h2] at h
   injection h with _ h3 h4
   exact .inr (by omega)
  ·rw[if_neg h2] at h
   split at h<;>cases h
theorem Ps.of{f n:Nat}{e:Int}(h:Ieee.single.read f = .number false n e):Ps f n e:=by
 obtain⟨h1,h2,h3⟩:=zd2 h;exact⟨h,h1,h2,h3,zga h⟩
theorem Ps.rnd{f n:Nat}{e:Int}(h:Ps f n e):Rnd n e:=⟨h.lo,Nat.le_of_lt h.hi,h.can⟩
theorem Ps.wd {n:Nat} {e:Int} (h:Rnd n e) (h2:n<16777216) (he2:e≤104):Ps (Ieee.single.word false (rung n e)) n e:=
 ⟨zcl false h h2 (zb1 h2 h.place he2),h2,h.place,he2,h.lo⟩
theorem Ps.key {f n:Nat} {e:Int} (h:Ps f n e):fin Ieee.single f=true∧key Ieee.single f=((n*2^(e+149).toNat:Nat):Int):=by
 refine⟨zaT h.rd,?_⟩;unfold Flt.key;rw[h.rd,zaI];simp only[Ieee.signed,Nat.shiftLeft_eq]
 rw[show(e - -149).toNat=(e+149).toNat from by omega];rfl
theorem Ps.ge24{f n:Nat}{e:Int}(h:Ps f n e):(FloatKind.f32.format.order f 1266679808==some .gt || FloatKind.f32.format.order f 1266679808==some .eq)=decide (1≤e):=by
 have aC:Ieee.single.read 1266679808 = .number false 8388608 1:=by decide +kernel
 have aD:=Ps.of aC;have aE:=aD.key;obtain⟨f1,k1⟩:=h.key;obtain⟨f2,k2⟩:=aE;show(Ieee.single.order f 1266679808==some .gt || Ieee.single.order f 1266679808==some .eq)=_
 rw[zba f1 f2,k1,k2];have aA:((1:Int)+149).toNat=150:=by decide
 rw[aA];have hn:=h.hi;have hc:=h.can
 by_cases he:1≤e
 ·rw[decide_eq_true he]
  have h1:8388608≤n:=by omega
  have h2:8388608*2^150≤n*2^(e+149).toNat:=Nat.mul_le_mul h1 (Nat.pow_le_pow_right (by omega) (by omega));generalize n*2^(e+149).toNat=X at *;generalize 8388608*2^150=Y at *
  rcases Nat.lt_or_ge Y X with h3 | h3
  ·rw[zdR (by omega)];rfl
  ·rw[show(X:Int)=(Y:Int) by omega,zd3];rfl
 ·rw[decide_eq_false he]
  have h2:n*2^(e+149).toNat<8388608*2^150:=by
   have h3:n*2^(e+149).toNat≤n*2^149:=Nat.mul_le_mul_left _ (Nat.pow_le_pow_right (by omega) (by omega));have h4:(2:Nat)^150=2^149*2:=Nat.pow_succ ..;have h5:0<(2:Nat)^149:=Nat.two_pow_pos _;rw[h4];generalize (2:Nat)^149=T at *;have h6:n*T<16777216*T:=Nat.mul_lt_mul_of_pos_right hn h5;omega
  generalize n*2^(e+149).toNat=X at *;generalize 8388608*2^150=Y at *;rw[zda (by omega)];rfl
theorem Ps.half{f n:Nat}{e:Int}(h:Ps f n e)(he:1≤e):∃ r,floatBits .quo .f32 f 1073741824=some r∧Ps r n (e-1):=by
 have h1:8388608≤n:=by have:=h.can;omega
 have hw:=zi5 false h1 h.hi (show -148≤e by omega) h.top;refine⟨_,?_,Ps.wd (ziq h1 h.hi (by omega)) h.hi (by have:=h.top;omega)⟩;rw[←hw];show((Ieee.single.read f).quotient 25 (Ieee.single.read 1073741824)).map Ieee.single.write=((Ieee.single.read (Ieee.single.word false (rung n e))).quotient 25 (Ieee.single.read 1073741824)).map Ieee.single.write
 rw[h.rd,zcl false h.rnd h.hi (zb1 h.hi h.lo h.top)]
theorem Ps.twice{f n:Nat}{e:Int}(h:Ps f n e)(h0:0<n)(he:e≤0):∃ r n' e',floatBits .mul .f32 f 1073741824=some r∧Ps r n' e'∧n'*2^(e'+149).toNat=2*(n*2^(e+149).toNat)∧(e'=e+1∨e'=e):=by
 have aD:=h.lo
 by_cases h1:8388608≤n
 ·have hw:=zg1 false h1 h.hi h.lo (show e≤103 by omega)
  refine⟨_,n,e+1,?_,Ps.wd (ziq h1 h.hi (by omega)) h.hi (by omega),?_,.inl rfl⟩
  ·rw[←hw]
   show((Ieee.single.read f).product (Ieee.single.read 1073741824)).map Ieee.single.write=((Ieee.single.read (Ieee.single.word false (rung n e))).product (Ieee.single.read 1073741824)).map Ieee.single.write
   rw[h.rd,zcl false h.rnd h.hi (zb1 h.hi h.lo h.top)]
  ·rw[show(e+1+149).toNat=(e+149).toNat+1 by omega,Nat.pow_succ]
   generalize 2^(e+149).toNat=T;rw[←Nat.mul_assoc,Nat.mul_comm]
 ·have aA:e = -149:=by have:=h.can;omega
  subst aA;have hr:Rnd (2*n) (-149):=⟨by omega,by omega,.inl rfl⟩;refine⟨_,2*n, -149,?_,Ps.wd hr (by omega) (by omega),?_,.inr rfl⟩
  ·show((Ieee.single.read f).product (Ieee.single.read 1073741824)).map Ieee.single.write=some (Ieee.single.word false (rung (2*n) (-149)))
   rw[h.rd,ze5];show some (Ieee.single.write (.number (false ^^ false) (n*8388608) (-149 + -22)))=_
   have e1:n*8388608=(2*n)*2^22:=by
    have:(2:Nat)^22=4194304:=by decide
    omega
   have hl:(2*n).log2≤23:=by
    have aC:(2:Nat)^24=16777216:=by decide
    have:=(Nat.log2_lt (n:=2*n) (k:=24) (by omega)).2 (by omega);omega
   rw[e1,Bool.xor_false,zeb false (q := -149) (by omega) rfl (by omega) (by omega) (by omega)];rfl
  ·rw[Nat.mul_assoc]
theorem zoy(n drop:Nat):Ieee.Toward.cut .zero false n drop=n/2^drop:=by
 show n/(1 <<< min drop (n.log2+2))+0=_
 rw[Nat.shiftLeft_eq,Nat.one_mul,Nat.add_zero]
 by_cases h:drop≤n.log2+2
 ·rw[Nat.min_eq_left h]
 ·rw[Nat.min_eq_right (by omega)]
  have h1:n<2^(n.log2+1):=Nat.lt_log2_self;have h2:(2:Nat)^(n.log2+1)≤2^(n.log2+2):=Nat.pow_le_pow_right (by omega) (by omega);have h3:(2:Nat)^(n.log2+1)≤2^drop:=Nat.pow_le_pow_right (by omega) (by omega);rw[Nat.div_eq_of_lt (by omega),Nat.div_eq_of_lt (by omega)]
theorem Ps.int{f n:Nat}{e:Int}(h:Ps f n e)(he:e≤0):floatToIntVal .f32 f .i64=some ((n/2^(-e).toNat:Nat):Int):=by
 have hd:FloatKind.f32.decode f = .number false n e:=h.rd;have aA:n/2^(-e).toNat≤n:=Nat.div_le_self _ _;have aC:=h.hi;unfold floatToIntVal;rw[hd];have e1:(Ieee.Datum.number false n e).toInt .zero=some ((n/2^(-e).toNat:Nat):Int):=by
  show some (Ieee.signed false (Ieee.Toward.cut .zero false (n <<< e.toNat) (-e).toNat) 0)=_
  rw[show e.toNat=0 by omega,Nat.shiftLeft_zero,zoy];unfold Ieee.signed;rw[Nat.shiftLeft_zero];rfl
 rw[e1];generalize n/2^(-e).toNat=m at *;show(if IntKind.i64.min≤(m:Int)∧(m:Int)≤IntKind.i64.max then some (m:Int) else none)=_
 have a1:IntKind.i64.min = -9223372036854775808:=by decide
 have a2:IntKind.i64.max=9223372036854775807:=by decide
 rw[a1,a2,if_pos (by omega)]
theorem zi4(m:Nat)(h:m<16777216):fin Ieee.single (floatOfInt .f32 (m:Int))=true∧key Ieee.single (floatOfInt .f32 (m:Int))=((m*2^149:Nat):Int):=by
 rcases Nat.eq_zero_or_pos m with rfl | h0
 ·exact⟨by decide +kernel,by decide +kernel⟩
 ·have aD:(2:Nat)^24=16777216:=by decide
  have hl:m.log2<24:=(Nat.log2_lt (by omega)).2 (by omega);have hw:floatOfInt .f32 (m:Int)=Ieee.single.word false (rung (m*2^(23-m.log2)) (-((23-m.log2:Nat):Int))):=by
   show Ieee.single.write (.number (decide ((m:Int)<0)) (m:Int).natAbs 0)=_
   rw[show decide ((m:Int)<0)=false by simp,Int.natAbs_natCast];show Ieee.single.nearest false m 0=_
   have aA:m<2^(m.log2+1):=Nat.lt_log2_self;have aE:m*2^(23-m.log2)<16777216:=by
    have h9:2^(m.log2+1)*2^(23-m.log2)=2^24:=by rw[←Nat.pow_add];congr 1;omega
    have h8:m*2^(23-m.log2)<2^(m.log2+1)*2^(23-m.log2):=Nat.mul_lt_mul_of_pos_right aA (Nat.two_pow_pos _);omega
   rw[zeo Ieee.single false m (23-m.log2) 0 h0 (by rw[zaI];show max ((0:Int)+(m.log2:Int)-((23:Nat):Int)) (-149)=_;omega) (by
    rw[zaI,za9,zdx];have:(0-((23-m.log2:Nat):Int) - -149).toNat≤149:=by omega
    omega)]
   rw[zaI,za9];unfold rung;rw[show(0-((23-m.log2:Nat):Int) - -149).toNat=(-((23-m.log2:Nat):Int)+149).toNat by omega]
  have aA:2^m.log2≤m:=Nat.log2_self_le (by omega);have aC:m<2^(m.log2+1):=Nat.lt_log2_self;have g1:2^m.log2*2^(23-m.log2)=8388608:=by
   rw[←Nat.pow_add,show m.log2+(23-m.log2)=23 by omega]
  have g2:2^(m.log2+1)*2^(23-m.log2)=16777216:=by
   rw[←Nat.pow_add,show m.log2+1+(23-m.log2)=24 by omega]
  have g3:8388608≤m*2^(23-m.log2):=by rw[←g1];exact Nat.mul_le_mul_right _ aA
  have g4:m*2^(23-m.log2)<16777216:=by rw[←g2];exact Nat.mul_lt_mul_of_pos_right aC (Nat.two_pow_pos _)
  obtain⟨k1,k2⟩:=(Ps.wd (ziq g3 g4 (e := -((23-m.log2:Nat):Int)) (by omega)) g4 (by omega)).key;rw[hw];refine⟨k1,k2.trans ?_⟩;rw[Nat.mul_assoc,←Nat.pow_add,show(23-m.log2)+(-((23-m.log2:Nat):Int)+149).toNat=149 by omega]
theorem Ps.whole{f n:Nat}{e:Int}(h:Ps f n e)(he:e≤0)(m:Nat)(hm:m=n/2^(-e).toNat) :
  (FloatKind.f32.format.order f (floatOfInt .f32 (m:Int)) != some .eq) = !decide (m*2^149=n*2^(e+149).toNat):=by
 have aC:=h.hi;have aA:m<16777216:=by
  have:n/2^(-e).toNat≤n:=Nat.div_le_self _ _;omega
 obtain⟨f2,k2⟩:=zi4 m aA;obtain⟨f1,k1⟩:=h.key;show(Ieee.single.order f (floatOfInt .f32 (m:Int)) != some .eq)=_
 rw[zba f1 f2,k1,k2];generalize n*2^(e+149).toNat=X at *;generalize m*2^149=Y at *
 rcases Nat.lt_trichotomy X Y with h1 | h1 | h1
 ·rw[zda (by omega),decide_eq_false (by omega)];rfl
 ·rw[h1,zd3,decide_eq_true rfl];rfl
 ·rw[zdR (by omega),decide_eq_false (by omega)];rfl
theorem Ps.not_whole{f n:Nat}{e:Int}(h:Ps f n e)(he:e≤0)(hw:n/2^(-e).toNat*2^149≠n*2^(e+149).toNat):0<n∧e<0∧¬ 2^149 ∣ n*2^(e+149).toNat:=by
 have aC:=h.lo;refine⟨?_,?_,?_⟩
 ·rcases Nat.eq_zero_or_pos n with rfl | h0
  ·exact absurd (by simp) hw
  ·exact h0
 ·rcases Int.lt_or_eq_of_le he with h1 | rfl
  ·exact h1
  ·exact absurd (by simp) hw
 ·rintro⟨c,hc⟩
  obtain⟨j,hj⟩:∃ j,j=(-e).toNat:=⟨_,rfl⟩;have e2:(2:Nat)^149=2^(e+149).toNat*2^j:=by rw[←Nat.pow_add];congr 1;omega
  rw[←hj] at hw;rw[e2] at hc hw;have hp:0<2^(e+149).toNat:=Nat.two_pow_pos _;have aA:0<2^j:=Nat.two_pow_pos _;generalize 2^(e+149).toNat=P at *;generalize 2^j=R at *;have h3:n=R*c:=by
   have:n*P=(R*c)*P:=by rw[hc];grind
   exact Nat.eq_of_mul_eq_mul_right hp this
  rw[h3,Nat.mul_div_cancel_left _ aA] at hw;exact hw (by grind)
end
end Go.Proofs.YtbkgkoenppkhpaaGreatDoor
