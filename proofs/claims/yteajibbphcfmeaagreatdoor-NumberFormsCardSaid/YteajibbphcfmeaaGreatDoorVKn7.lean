/- Contracts of readTable and CheckTable: any table. -/
import Derived.Test.YteajibbphcfmeaaGreatDoorVKn5
import Derived.Deep.RegionHeld3
namespace Go.Proofs.YteajibbphcfmeaaGreatDoor
open Go.RowKit Bn
set_option maxHeartbeats 2000000 in
set_option maxRecDepth 100000 in
theorem zhT (A:Option Addr) (n c g:Nat) (l:List (ByteArray × ByteArray)) (w0 w:World) (hT:Tabs w0) (hb0:Below w0.heap.size w0 w) (hB:w0.heap.size≤g) (h:PtsR w0 w0.heap.size A n l) (hsz:∀ p ∈ l,p.1.size≤4294967296∧p.2.size≤4294967296)
  (hst:KState w w0.heap.size g 0 [] (.slice none 0 0)) :
  Calls Tryz.prog 157 #[.slice A n c,.int .i64 1,.int .i64 64,.func (.func 158) #[] #[.pointer (some ⟨g,0,none⟩)]] w fun e w'=>e = .returned (.int .i64 (tabE l))∧Below w0.heap.size w0 w' ∧
   ∃ A' m' c',CBlk w' g #[.slice A' m' c'] 131∧(tabE l=0→KState w' w0.heap.size g n (l.map rdP) (.slice A' m' c')):=by
 have aA:l.length=n:=h.1
 by_cases h1:n<1
 ·have e:tabE l=12:=by unfold tabE;rw [if_pos (by omega)]
  rw [e]
  have aD:decide ((n:Int)<1)=true:=decide_eq_true (by omega)
  have aC:=Lib.hid hst.box
  clear e aA h1 h hst hsz hT
  go_enter Tryz.func157,Tryz.ntmps157
  go_wp2
  go_ret
  exact ⟨rfl,hb0,none,0,0,aC.out,(fun h=>by omega)⟩
 ·by_cases h2:64<n
  ·have e:tabE l=5:=by unfold tabE;rw [if_neg (by omega),if_pos (by omega)]
   rw [e]
   have aD:decide ((n:Int)<1)=false:=decide_eq_false (by omega)
   have aE:decide ((64:Int)<(n:Int))=true:=decide_eq_true (by omega)
   have aC:=Lib.hid hst.box
   clear e aA h1 h2 h hst hsz hT
   go_enter Tryz.func157,Tryz.ntmps157
   go_wp2
   go_ret
   exact ⟨rfl,hb0,none,0,0,aC.out,(fun h=>by omega)⟩
  ·have e:tabE l=zcG none l:=by unfold tabE;rw [if_neg (by omega),if_neg (by omega)]
   rw [e]
   exact zje A n c g l w0 w hT hb0 hB h hsz (by omega) (by omega) hst
set_option maxHeartbeats 2000000 in
set_option maxRecDepth 100000 in
theorem zgk (A:Option Addr) (n c:Nat) (l:List (ByteArray × ByteArray)) (w:World) (hT:Tabs w) (h:PtsR w w.heap.size A n l) (hsz:∀ p ∈ l,p.1.size≤4294967296∧p.2.size≤4294967296) :
  Calls Tryz.prog 108 #[.slice A n c] w fun e w'=>(∃ A' m' c',e = .returned (.tuple #[.slice A' m' c',.int .i64 (tabE l)])∧(tabE l=0→zcv w' w.heap.size (.slice A' m' c') n (l.map rdP)))∧Below w.heap.size w w':=by
 have aA:Below w.heap.size w (w.alloc (.cells #[.slice none 0 0] 131)):=(Below.refl _ _).alloc (Nat.le_refl _) _
 have q:CBlk (w.alloc (.cells #[.slice none 0 0] 131)) w.heap.size #[.slice none 0 0] 131:=CBlk.new _ _ _ _ rfl
 have HL:=Lib.hid (zhT A n c w.heap.size l w _ hT aA (Nat.le_refl _) h hsz ⟨q,zcv.nil _ _,Free.nil _⟩)
 generalize tabE l=E at *
 clear q h hsz aA
 go_enter Tryz.func108,Tryz.ntmps108
 go_wp2_with fail
 refine HL.out.mono ?_
 rintro e w2 ⟨rfl,aD,A',m',c',aC,hk⟩
 have b0:w2.cell? ⟨w.heap.size,0,none⟩=some (.slice A' m' c'):=aC.cell 0
 have HK:=Lib.hid hk
 clear hk aC
 go_wp2_with fail
 go_ret2
 exact ⟨⟨A',m',c',rfl,fun h=>(HK.out h).kn⟩,aD⟩
def zb1 (x:Q):Option (Q × Q)→List (Q × Q)→Option Q
 | _,[]=>none
 | o,k :: t=>if rcmp x k.1=0 then some k.2 else if rcmp x k.1<0 then o.map (fun p=>zb8 p.1 p.2 k.1 k.2 x) else zb1 x (some k) t
def zjW (l:List (ByteArray × ByteArray)) (s:List UInt8):Option Q:=zb1 (zag s) none (l.map rdP)
def blE (l:List (ByteArray × ByteArray)) (s:List UInt8):Int:=if tabE l≠0 then tabE l else if zam s≠0 then zam s else match zjW l s with | none=>3 | some q=>zao q
def blT (l:List (ByteArray × ByteArray)) (s:List UInt8):List UInt8:=if tabE l≠0 then [] else if zam s≠0 then [] else match zjW l s with | none=>[] | some q=>za0 q
def zeH (ks:List (Q × Q)) (k:Nat):Option (Q × Q):=if k=0 then none else ks[k - 1]?
def outE:Option Q→Int | none=>3 | some q=>zao q
def outT:Option Q→List UInt8 | none=>[] | some q=>za0 q
theorem zfn {x:Q} {ks:List (Q × Q)} {k:Nat} {kk:Q × Q} (h:ks[k]? = some kk) (he:zb1 x none ks=zb1 x (zeH ks k) (ks.drop k)) :
  (rcmp x kk.1=0→zb1 x none ks=some kk.2)∧(rcmp x kk.1<0→zb1 x none ks=(zeH ks k).map (fun p=>zb8 p.1 p.2 kk.1 kk.2 x))∧(0<rcmp x kk.1→zb1 x none ks=zb1 x (zeH ks (k+1)) (ks.drop (k+1))):=by
 obtain ⟨hl,hk⟩:=List.getElem?_eq_some_iff.1 h
 rw [List.drop_eq_getElem_cons hl,hk] at he
 have hc:zb1 x (zeH ks k) (kk :: ks.drop (k+1))=if rcmp x kk.1=0 then some kk.2 else if rcmp x kk.1<0 then (zeH ks k).map (fun p=>zb8 p.1 p.2 kk.1 kk.2 x) else zb1 x (some kk) (ks.drop (k+1)):=by
  cases zeH ks k<;>rfl
 rw [hc] at he
 refine ⟨fun h0=>by rw [he,if_pos h0],fun h0=>by rw [he,if_neg (by omega),if_pos h0],fun h0 => ?_⟩
 rw [he,if_neg (by omega),if_neg (by omega)]
 have:zeH ks (k+1)=some kk:=by unfold zeH;rw [if_neg (by omega),Nat.add_sub_cancel,h]
 rw [this]
theorem zhU {a b c d x:Q} (l1:LenQ a 65536) (l2:LenQ b 65536) (l3:LenQ c 65536) (l4:LenQ d 65536) (l5:LenQ x 65536):LenQ (zb8 a b c d x) 268435456:=by
 have n1:LenQ (zaX d b) 524288:=(zbv l4 (zbE l2)).mono (by omega)
 have n2:LenQ (zaX c a) 524288:=(zbv l3 (zbE l1)).mono (by omega)
 have n3:LenQ (zlR (zaX d b) (zaX c a)) 1048576:=(zbn _ n1 n2 (by omega)).mono (by omega)
 have n4:LenQ (zaX x a) 524288:=(zbv l5 (zbE l1)).mono (by omega)
 have n5:LenQ (zkj (zlR (zaX d b) (zaX c a)) (zaX x a)) 1572864:=(zbg _ n3 n4 (by omega)).mono (by omega)
 exact (zbv l2 n5).mono (by omega)
theorem zcv.later {W W':World} {B n:Nat} {v:Value} {ks:List (Q × Q)} (h:zcv W B v n ks) (hb:Below W.heap.size W W'):zcv W' B v n ks:=by
 refine h.keep (fun xs hx => ?_) (fun u p q hu=>hu.later hb)
 refine hx.kept (row:=none) ⟨hb.os,hb.tape,hb.output,hb.size,fun i hi _=>hb.block i hi⟩ ?_
 cases v.ownBlock<;>simp
set_option maxHeartbeats 4000000 in
set_option maxRecDepth 100000 in
theorem zhi (x:Q) (z1 z2 E:Int) (A:Option Addr) (n c:Nat) (s:ByteArray) (w:World) (hT:Tabs w) (HE:Hid (E=if z1≠0 then z1 else z2)) (H0:Hid (E≠0))
  (HL:Hid (Calls Tryz.prog 108 #[.slice A n c] w fun e w'=>(∃ A' m' c',e = .returned (.tuple #[.slice A' m' c',.int .i64 z1]))∧Below w.heap.size w w'))
  (HR:Hid (∀ W,Tabs W→Calls Tryz.prog 63 #[.string s] W (zay W x z2))) :
  Calls Tryz.prog 49 #[.slice A n c,.string s] w (zbj w [] E):=by
 have aG:(E != 0)=true:=by simpa using H0.out
 go_enter Tryz.func49,Tryz.ntmps49
 go_wp2_with fail
 refine HL.out.mono ?_
 rintro e w2 ⟨⟨A',m',c',rfl⟩,aC⟩
 go_wp2_with fail
 refine (HR.out w2 (hT.later aC)).mono ?_
 rintro e w3 ⟨v3,rfl,⟨A1,n1,c1,A2,n2,c2,rfl,h1,h2⟩,aF⟩
 have aD:=aC.trans (aF.mono aC.size)
 have aA:Below w.heap.size w (w3.alloc (.cells #[.bool x.neg,.slice A1 n1 c1,.slice A2 n2 c2] 91)):=aD.alloc aD.size _
 go_upto_region 3 with (fail)
 generalize (w3.alloc (.cells #[.bool x.neg,.slice A1 n1 c1,.slice A2 n2 c2] 91))=w4 at *
 have aE:Below w.heap.size w (w4.alloc (.cells #[.int .i64 z1,.int .i64 z2] 26)):=aA.alloc aA.size _
 go_wp2_with fail
 refine (zaZ z1 z2 E HE.out w4 _ _ rfl).mono ?_
 rintro e w6 ⟨rfl,rfl⟩
 go_wp2_with fail
 go_ret2
 exact ⟨⟨#[]⟩,rfl,rfl,aE⟩
set_option maxHeartbeats 4000000 in
set_option maxRecDepth 100000 in
theorem zmB (x:Q) (A:Option Addr) (n c B:Nat) (ks:List (Q × Q)) (k0:Q × Q) (s:ByteArray) (w:World) (hT:Tabs w) (hlk:ks.length=n) (hn:n≤64) (hk0:ks[0]? = some k0) (lx:LenQ x 65536) (lk:∀ p ∈ ks,LenQ p.1 65536∧LenQ p.2 65536)
  (HL:Hid (Calls Tryz.prog 108 #[.slice A n c] w fun e w'=>(∃ A' m' c',e = .returned (.tuple #[.slice A' m' c',.int .i64 0])∧zcv w' B (.slice A' m' c') n ks)∧Below w.heap.size w w'))
  (HR:Hid (∀ W,Tabs W→Calls Tryz.prog 63 #[.string s] W (zay W x 0))) :
  Calls Tryz.prog 49 #[.slice A n c,.string s] w (zbj w (outT (zb1 x none ks)) (outE (zb1 x none ks))):=by
 have iB:0<n:=by
  rcases Nat.eq_zero_or_pos n with h | h
  ·rw [List.getElem?_eq_none (by omega)] at hk0;cases hk0
  ·exact h
 have dI:=Lib.hid lk
 have dO:=Lib.hid lx
 have cS:=Lib.hid hlk
 have cT:=Lib.hid hk0
 have HC:=Lib.hid (fun (p:Q) v u W h1 h2 (lp:LenQ p 65536)=>zbc x p v u W h1 h2 (lx.mono (by omega)) (lp.mono (by omega)))
 have bQ:=zfn (x:=x) hk0 rfl
 obtain ⟨R,hR⟩:∃ R,R=zb1 x none ks:=⟨_,rfl⟩
 have cC:=Lib.hid hR
 have cQ:=Lib.hid bQ
 rw [←hR]
 clear hlk hk0 lx lk bQ hR
 have iC:(0:Int)<(n:Int):=by omega
 have iD:n≠0:=by omega
 go_enter Tryz.func49,Tryz.ntmps49
 go_wp2_with fail
 refine HL.out.mono ?_
 rintro e w2 ⟨⟨A',m',c',rfl,cG⟩,cF⟩
 obtain ⟨bk,cR,hv,_,iA,_⟩:∃ bk cR,Value.slice A' m' c' = .slice (some ⟨bk,0,none⟩) n cR∧B≤bk∧bk<w2.heap.size∧(Value.slice A' m' c').ownBlock=some bk:=by
  rcases cG.form with ⟨_,h⟩ | h
  ·omega
  ·exact h
 obtain ⟨rfl,rfl,rfl⟩:A'=some ⟨bk,0,none⟩∧n=m'∧cR=c':=by injection hv with e1 e2 e3;exact ⟨e1,e2.symm,e3.symm⟩
 clear hv
 go_wp2_with fail
 refine (HR.out w2 (hT.later cF)).mono ?_
 rintro e w3 ⟨v3,rfl,⟨A1,n1,c1,A2,n2,c2,rfl,h1,h2⟩,dJ⟩
 have cN:=cF.trans (dJ.mono cF.size)
 have bJ:Below w3.heap.size w3 (w3.alloc (.cells #[.bool x.neg,.slice A1 n1 c1,.slice A2 n2 c2] 91)):=(Below.refl _ _).alloc (Nat.le_refl _) _
 have bA:=cN.trans (bJ.mono cN.size)
 have q3:CBlk (w3.alloc (.cells #[.bool x.neg,.slice A1 n1 c1,.slice A2 n2 c2] 91)) w3.heap.size #[.bool x.neg,.slice A1 n1 c1,.slice A2 n2 c2] 91:=CBlk.new _ _ _ _ rfl
 have k3:=(cG.later dJ).later bJ
 have fE:=h1.later bJ
 have fD:=h2.later bJ
 clear cG bJ h1 h2 cN cF dJ
 go_upto_region 3 with (fail)
 generalize (w3.alloc (.cells #[.bool x.neg,.slice A1 n1 c1,.slice A2 n2 c2] 91))=w4 at *
 generalize w3.heap.size=gx at *
 have cL:Below w.heap.size w (w4.alloc (.cells #[.int .i64 0,.int .i64 0] 26)):=bA.alloc bA.size _
 have bU:Below w4.heap.size w4 (w4.alloc (.cells #[.int .i64 0,.int .i64 0] 26)):=(Below.refl _ _).alloc (Nat.le_refl _) _
 have q5:=q3.alloc (.cells #[.int .i64 0,.int .i64 0] 26)
 have k5:=k3.later bU
 have cW:=fE.later bU
 have dA:=fD.later bU
 go_wp2_with fail
 refine (zaZ 0 0 0 rfl w4 _ _ rfl).mono ?_
 rintro e w5 ⟨rfl,rfl⟩
 clear q3 k3 fE fD bU bA
 generalize (w4.alloc (.cells #[.int .i64 0,.int .i64 0] 26))=w5 at *
 obtain ⟨K1,m1,e1,K2,m2,e2,K3,m3,e3,K4,m4,e4,aN,r1,r2,_,_⟩:=k5.at_ (o:=k0.1) (oo:=k0.2) cT.out
 have aZ:bk<w5.heap.size:=by
  rcases k5.form with ⟨h,_⟩ | ⟨g9,cP,h,_,h9,_⟩
  ·cases h
  ·injection h with h;injection h with h;injection h with h;omega
 have aC:Below w5.heap.size w5 w5.drew:=(Below.refl _ _).drew
 have dN:=(dI.out k0 (List.mem_of_getElem? cT.out)).1
 have aV:=Lib.hid (HC.out k0.1 _ _ w5.drew (RatS.mk (q:=x) (cW.later aC) (dA.later aC)) (RatS.mk (q:=k0.1) (r1.later aC) (r2.later aC)) dN)
 go_upto_region 6 with (fail)
 have bZ:w5.drew.cell? ⟨gx,0,none⟩=some (.bool x.neg):=q5.cell 0
 have cJ:w5.drew.cell? ⟨gx,1,none⟩=some (.slice A1 n1 c1):=q5.cell 1
 have cA:w5.drew.cell? ⟨gx,2,none⟩=some (.slice A2 n2 c2):=q5.cell 2
 have bC:w5.drew.cell? ⟨bk,0,none⟩=some (.bool k0.1.neg):=by have:=aN 0 _ rfl;simpa using this
 have bF:w5.drew.cell? ⟨bk,1,none⟩=some (.slice K1 m1 e1):=by have:=aN 1 _ rfl;simpa using this
 have bD:w5.drew.cell? ⟨bk,2,none⟩=some (.slice K2 m2 e2):=by have:=aN 2 _ rfl;simpa using this
 clear aN
 generalize bL:rcmp x k0.1=r0 at *
 have cZ:=Lib.hid bL
 clear bL
 obtain ⟨b0,dB⟩:∃ b,decide (r0<0)=b:=⟨_,rfl⟩
 have fX:Hid (b0=true→r0<0):=fun h=>of_decide_eq_true (dB.trans h)
 have fS:Hid (b0=false→0≤r0):=fun h=>Int.not_lt.1 (of_decide_eq_false (dB.trans h))
 go_region_held3 (fun w'=>w'.cell? ⟨gx,0,none⟩=some (.bool x.neg)∧w'.cell? ⟨gx,1,none⟩=some (.slice A1 n1 c1)∧w'.cell? ⟨gx,2,none⟩=some (.slice A2 n2 c2)∧w'.cell? ⟨bk,0,none⟩=some (.bool k0.1.neg)∧w'.cell? ⟨bk,1,none⟩=some (.slice K1 m1 e1)∧w'.cell? ⟨bk,2,none⟩=some (.slice K2 m2 e2))
  (first | with_reducible exact ⟨bZ,cJ,cA,bC,bF,bD⟩ | with_reducible exact ⟨bV,bX,cI,bM,bS,bI⟩)
  (first | (go_at_call 71;refine aV.out.mono ?_;rintro e w7 ⟨rfl,aX⟩;have q7:=q5.drew.below aX q5.lt;have k7:=(k5.later aC).later aX;have bV:w7.cell? ⟨gx,0,none⟩=some (.bool x.neg):=q7.cell 0;have bX:w7.cell? ⟨gx,1,none⟩=some (.slice A1 n1 c1):=q7.cell 1;have cI:w7.cell? ⟨gx,2,none⟩=some (.slice A2 n2 c2):=q7.cell 2;have bM:w7.cell? ⟨bk,0,none⟩=some (.bool k0.1.neg):=(aX.cell aZ).trans bC;have bS:w7.cell? ⟨bk,1,none⟩=some (.slice K1 m1 e1):=(aX.cell aZ).trans bF;have bI:w7.cell? ⟨bk,2,none⟩=some (.slice K2 m2 e2):=(aX.cell aZ).trans bD))
 have aR:=aC.trans (aX.mono aC.size)
 have cY:=cL.trans (aR.mono cL.size)
 have gS:=cW.later aR
 have fM:=dA.later aR
 have gW:w5.heap.size≤w7.heap.size:=aR.size
 clear bZ cJ cA bC bF bD bV bX cI bM bS bI cL aC aX aR q5 k5 cW dA r1 r2 dN aV
 clear dB
 cases b0
 case true=>
  have hz:R=none:=by rw [cC.out,cQ.out.2.1 (fX.out rfl)];rfl
  have HZ:=Lib.hid hz
  clear hz
  go_wp2
  go_ret2
  exact ⟨⟨#[]⟩,by rw [HZ.out];rfl,by rw [HZ.out];rfl,cY⟩
 have fV:=Lib.hid (fS.out rfl)
 go_wp2
 go_loopg [40] n (fun m s W=>∃ k:Nat,k≤n∧s = .int .i64 k∧n - k≤m∧Below w7.heap.size w7 W∧zb1 x none ks=zb1 x (zeH ks k) (ks.drop k))
 case atStart=>exact ⟨0,Nat.zero_le _,rfl,by omega,Below.refl _ _,rfl⟩
 case round=>
  obtain ⟨k,hk,rfl,hm,aF,dT⟩:=hrel
  have dP:=Lib.hid dT
  clear dT
  have qr:=q7.below aF q7.lt
  have kr:=k7.later aF
  have dS:=gS.later aF
  have fC:=fM.later aF
  have bT:=cY.trans (aF.mono cY.size)
  by_cases cG:k<n
  ·have dV:k<ks.length:=by have:=cS.out;omega
   have bK:ks[k]? = some ks[k]:=List.getElem?_eq_getElem dV
   generalize ks[k]=kk at *
   have aT:=zfn bK dP.out
   have dR:=dI.out kk (List.mem_of_getElem? bK)
   obtain ⟨K1,m1,e1,K2,m2,e2,K3,m3,e3,K4,m4,e4,aN,r1,r2,r3,r4⟩:=kr.at_ (o:=kk.1) (oo:=kk.2) bK
   have y0:wr.cell? ⟨bk,k*6,none⟩=some (.bool kk.1.neg):=aN 0 _ rfl
   have y1:wr.cell? ⟨bk,k*6+1,none⟩=some (.slice K1 m1 e1):=aN 1 _ rfl
   have y2:wr.cell? ⟨bk,k*6+2,none⟩=some (.slice K2 m2 e2):=aN 2 _ rfl
   have y3:wr.cell? ⟨bk,k*6+3,none⟩=some (.bool kk.2.neg):=aN 3 _ rfl
   have y4:wr.cell? ⟨bk,k*6+4,none⟩=some (.slice K3 m3 e3):=aN 4 _ rfl
   have y5:wr.cell? ⟨bk,k*6+5,none⟩=some (.slice K4 m4 e4):=aN 5 _ rfl
   have aS:Below wr.heap.size wr (wr.alloc (.cells #[.bool kk.1.neg,.slice K1 m1 e1,.slice K2 m2 e2,.bool kk.2.neg,.slice K3 m3 e3,.slice K4 m4 e4] 135)):=(Below.refl _ _).alloc (Nat.le_refl _) _
   have qk:CBlk (wr.alloc (.cells #[.bool kk.1.neg,.slice K1 m1 e1,.slice K2 m2 e2,.bool kk.2.neg,.slice K3 m3 e3,.slice K4 m4 e4] 135)) wr.heap.size #[.bool kk.1.neg,.slice K1 m1 e1,.slice K2 m2 e2,.bool kk.2.neg,.slice K3 m3 e3,.slice K4 m4 e4] 135:=CBlk.new _ _ _ _ rfl
   have aP:=Lib.hid aT
   have gP:=Lib.hid bK
   have bE:=Lib.hid dR
   have q8:=qr.below aS qr.lt
   have k8:=kr.later aS
   have cM:=dS.later aS
   have dE:=fC.later aS
   have cO:=r1.later aS
   have dD:=r2.later aS
   have dW:=r3.later aS
   have dZ:=r4.later aS
   have dF:=bT.trans (aS.mono bT.size)
   have fN:=aF.size
   have bB:=aF.trans (aS.mono aF.size)
   clear aN aT bK dR qr kr dS fC r1 r2 r3 r4 aS dV bT aF
   go_upto_region 11 with (fail)
   generalize (wr.alloc (.cells #[.bool kk.1.neg,.slice K1 m1 e1,.slice K2 m2 e2,.bool kk.2.neg,.slice K3 m3 e3,.slice K4 m4 e4] 135))=w8 at *
   generalize wr.heap.size=gn at *
   have x0:w8.cell? ⟨gx,0,none⟩=some (.bool x.neg):=q8.cell 0
   have x1:w8.cell? ⟨gx,1,none⟩=some (.slice A1 n1 c1):=q8.cell 1
   have x2:w8.cell? ⟨gx,2,none⟩=some (.slice A2 n2 c2):=q8.cell 2
   have z0:w8.cell? ⟨gn,0,none⟩=some (.bool kk.1.neg):=qk.cell 0
   have z1:w8.cell? ⟨gn,1,none⟩=some (.slice K1 m1 e1):=qk.cell 1
   have z2:w8.cell? ⟨gn,2,none⟩=some (.slice K2 m2 e2):=qk.cell 2
   clear y0 y1 y2 y3 y4 y5
   go_wp2_with fail
   refine (HC.out kk.1 _ _ w8 (RatS.mk (q:=x) cM dE) (RatS.mk (q:=kk.1) cO dD) bE.out.1).mono ?_
   rintro e w9 ⟨rfl,aM⟩
   have q9:=q8.below aM q8.lt
   have aL:=qk.below aM qk.lt
   have k9:=k8.later aM
   have cK:=cM.later aM
   have bW:=dE.later aM
   have cB:=cO.later aM
   have cH:=dD.later aM
   have bH:=dW.later aM
   have bR:=dZ.later aM
   have aW:=dF.trans (aM.mono dF.size)
   have dH:=bB.trans (aM.mono bB.size)
   clear x0 x1 x2 z0 z1 z2 q8 qk k8 cM dE cO dD dW dZ dF bB aM
   generalize fB:rcmp x kk.1=r at *
   have gC:=Lib.hid fB
   clear fB
   rcases Int.lt_trichotomy r 0 with bY | fO | dY
   ·have d1:(r==0)=false:=by rw [beq_eq_false_iff_ne];omega
    have d2:decide (r=0)=false:=decide_eq_false (by omega)
    have d3:decide (r<0)=true:=decide_eq_true bY
    have iE:=Lib.hid bY
    obtain ⟨j,HJ⟩:∃ j,Hid (k=j+1):=by
     rcases Nat.eq_zero_or_pos k with h | h
     ·exfalso
      subst h
      have h9:=gP.out
      rw [cT.out] at h9
      injection h9 with h9
      have h8:=cZ.out
      rw [h9,gC.out] at h8
      have:=fV.out
      omega
     ·exact ⟨k - 1,by show k=k - 1+1;omega⟩
    have dX:j<ks.length:=by have:=cS.out;have:=HJ.out;omega
    have cE:ks[j]? = some ks[j]:=List.getElem?_eq_getElem dX
    generalize ks[j]=pp at *
    have bN:=dI.out pp (List.mem_of_getElem? cE)
    have aU:zeH ks k=some pp:=by unfold zeH;rw [if_neg (by have:=HJ.out;omega),show k - 1=j by have:=HJ.out;omega];exact cE
    have aO:R=some (zb8 pp.1 pp.2 kk.1 kk.2 x):=by rw [cC.out,aP.out.2.1 bY,aU];rfl
    have aQ:=Lib.hid aO
    have d4:wrap64 ((k:Int) - 1)=(j:Int):=by rw [IntWalk.wrap64_in _ (by omega)];have:=HJ.out;omega
    have d5:IntKind.i64.wrap ((k:Int) - 1)=(j:Int):=by rw [IntWalk.i64_in _ (by omega)];have:=HJ.out;omega
    have d6:(0:Int)≤(j:Int):=by omega
    have d7:(j:Int)<(n:Int):=by have:=HJ.out;omega
    obtain ⟨P1,a1,b1,P2,a2,b2,P3,a3,b3,P4,a4,b4,aY,s1,s2,s3,s4⟩:=k9.at_ (o:=pp.1) (oo:=pp.2) cE
    have aI:bk<w9.drew.heap.size:=by
     rcases k9.form with ⟨h,_⟩ | ⟨g9,cP,h,_,h9,_⟩
     ·cases h
     ·injection h with h;injection h with h;injection h with h;subst h;exact h9
    have aC:Below w9.heap.size w9 w9.drew:=(Below.refl _ _).drew
    have gI:=aW.size
    have fF:=hT.later (aW.trans (aC.mono aW.size))
    have gV:=Lib.hid (zhS pp.1 pp.2 kk.1 kk.2 x _ _ _ w9.drew fF ⟨P1,a1,b1,P2,a2,b2,P3,a3,b3,P4,a4,b4,rfl,s1.later aC,s2.later aC,s3.later aC,s4.later aC⟩ ⟨K1,m1,e1,K2,m2,e2,K3,m3,e3,K4,m4,e4,rfl,cB.later aC,cH.later aC,bH.later aC,bR.later aC⟩ (RatS.mk (q:=x) (cK.later aC) (bW.later aC)) bN.1 bN.2 bE.out.1 bE.out.2 dO.out)
    have dC:=Lib.hid (fun (v:Value) (W:World) (hT:Tabs W) (hv:RatS W W.heap.size v (zb8 pp.1 pp.2 kk.1 kk.2 x))=>zbR _ v W hT hv (zhU bN.1 bN.2 bE.out.1 bE.out.2 dO.out))
    generalize zb8 pp.1 pp.2 kk.1 kk.2 x=bq at *
    clear bY dX cE bN aU aO s1 s2 s3 s4 cK bW cB cH bH bR k9
    go_upto_region 15 with (fail)
    have bZ:w9.drew.cell? ⟨gx,0,none⟩=some (.bool x.neg):=q9.cell 0
    have cJ:w9.drew.cell? ⟨gx,1,none⟩=some (.slice A1 n1 c1):=q9.cell 1
    have cA:w9.drew.cell? ⟨gx,2,none⟩=some (.slice A2 n2 c2):=q9.cell 2
    have fU:w9.drew.cell? ⟨gn,0,none⟩=some (.bool kk.1.neg):=aL.cell 0
    have gA:w9.drew.cell? ⟨gn,1,none⟩=some (.slice K1 m1 e1):=aL.cell 1
    have gZ:w9.drew.cell? ⟨gn,2,none⟩=some (.slice K2 m2 e2):=aL.cell 2
    have gY:w9.drew.cell? ⟨gn,3,none⟩=some (.bool kk.2.neg):=aL.cell 3
    have fL:w9.drew.cell? ⟨gn,4,none⟩=some (.slice K3 m3 e3):=aL.cell 4
    have gB:w9.drew.cell? ⟨gn,5,none⟩=some (.slice K4 m4 e4):=aL.cell 5
    have bC:w9.drew.cell? ⟨bk,j*6,none⟩=some (.bool pp.1.neg):=aY 0 _ rfl
    have bF:w9.drew.cell? ⟨bk,j*6+1,none⟩=some (.slice P1 a1 b1):=aY 1 _ rfl
    have bD:w9.drew.cell? ⟨bk,j*6+2,none⟩=some (.slice P2 a2 b2):=aY 2 _ rfl
    have dM:w9.drew.cell? ⟨bk,j*6+3,none⟩=some (.bool pp.2.neg):=aY 3 _ rfl
    have fA:w9.drew.cell? ⟨bk,j*6+4,none⟩=some (.slice P3 a3 b3):=aY 4 _ rfl
    have dL:w9.drew.cell? ⟨bk,j*6+5,none⟩=some (.slice P4 a4 b4):=aY 5 _ rfl
    clear aY
    go_region_held3 (fun w'=>w'.cell? ⟨gx,0,none⟩=some (.bool x.neg)∧w'.cell? ⟨gx,1,none⟩=some (.slice A1 n1 c1)∧w'.cell? ⟨gx,2,none⟩=some (.slice A2 n2 c2)∧w'.cell? ⟨gn,0,none⟩=some (.bool kk.1.neg)∧w'.cell? ⟨gn,1,none⟩=some (.slice K1 m1 e1)∧w'.cell? ⟨gn,2,none⟩=some (.slice K2 m2 e2)∧w'.cell? ⟨gn,3,none⟩=some (.bool kk.2.neg)∧w'.cell? ⟨gn,4,none⟩=some (.slice K3 m3 e3)∧w'.cell? ⟨gn,5,none⟩=some (.slice K4 m4 e4)∧w'.cell? ⟨bk,j*6,none⟩=some (.bool pp.1.neg)∧w'.cell? ⟨bk,j*6+1,none⟩=some (.slice P1 a1 b1)∧w'.cell? ⟨bk,j*6+2,none⟩=some (.slice P2 a2 b2)∧w'.cell? ⟨bk,j*6+3,none⟩=some (.bool pp.2.neg)∧w'.cell? ⟨bk,j*6+4,none⟩=some (.slice P3 a3 b3)∧w'.cell? ⟨bk,j*6+5,none⟩=some (.slice P4 a4 b4))
     (first | with_reducible exact ⟨bZ,cJ,cA,fU,gA,gZ,gY,fL,gB,bC,bF,bD,dM,fA,dL⟩ | with_reducible exact ⟨bV,bX,cI,fK,fP,gT,hJ,fR,gD,bM,bS,bI,dQ,fH,dU⟩ | with_reducible exact ⟨gJ,gU,fI,gX,gE,gR,gG,gF,fT,fJ,gH,gN,fZ,gL,fQ⟩)
     (first
      |(go_at_call 109;refine gV.out.mono ?_;rintro e aG ⟨fW,rfl,dK,aA⟩;have bO:=q9.drew.below aA q9.lt;have aH:=aL.drew.below aA aL.lt;have aD:bk<aG.heap.size:=Nat.lt_of_lt_of_le aI aA.size;have bV:aG.cell? ⟨gx,0,none⟩=some (.bool x.neg):=bO.cell 0;have bX:aG.cell? ⟨gx,1,none⟩=some (.slice A1 n1 c1):=bO.cell 1;have cI:aG.cell? ⟨gx,2,none⟩=some (.slice A2 n2 c2):=bO.cell 2;have fK:aG.cell? ⟨gn,0,none⟩=some (.bool kk.1.neg):=aH.cell 0;have fP:aG.cell? ⟨gn,1,none⟩=some (.slice K1 m1 e1):=aH.cell 1;have gT:aG.cell? ⟨gn,2,none⟩=some (.slice K2 m2 e2):=aH.cell 2;have hJ:aG.cell? ⟨gn,3,none⟩=some (.bool kk.2.neg):=aH.cell 3;have fR:aG.cell? ⟨gn,4,none⟩=some (.slice K3 m3 e3):=aH.cell 4;have gD:aG.cell? ⟨gn,5,none⟩=some (.slice K4 m4 e4):=aH.cell 5;have bM:aG.cell? ⟨bk,j*6,none⟩=some (.bool pp.1.neg):=(aA.cell aI).trans bC;have bS:aG.cell? ⟨bk,j*6+1,none⟩=some (.slice P1 a1 b1):=(aA.cell aI).trans bF;have bI:aG.cell? ⟨bk,j*6+2,none⟩=some (.slice P2 a2 b2):=(aA.cell aI).trans bD;have dQ:aG.cell? ⟨bk,j*6+3,none⟩=some (.bool pp.2.neg):=(aA.cell aI).trans dM;have fH:aG.cell? ⟨bk,j*6+4,none⟩=some (.slice P3 a3 b3):=(aA.cell aI).trans fA;have dU:aG.cell? ⟨bk,j*6+5,none⟩=some (.slice P4 a4 b4):=(aA.cell aI).trans dL;have gM:=Lib.hid (dC.out fW aG (fF.later aA) dK))
      |(go_at_call 66;refine gM.out.mono ?_;rintro e aJ ⟨gK,rfl,bP,aE⟩;have cV:=bO.below aE bO.lt;have aK:=aH.below aE aH.lt;have gJ:aJ.cell? ⟨gx,0,none⟩=some (.bool x.neg):=cV.cell 0;have gU:aJ.cell? ⟨gx,1,none⟩=some (.slice A1 n1 c1):=cV.cell 1;have fI:aJ.cell? ⟨gx,2,none⟩=some (.slice A2 n2 c2):=cV.cell 2;have gX:aJ.cell? ⟨gn,0,none⟩=some (.bool kk.1.neg):=aK.cell 0;have gE:aJ.cell? ⟨gn,1,none⟩=some (.slice K1 m1 e1):=aK.cell 1;have gR:aJ.cell? ⟨gn,2,none⟩=some (.slice K2 m2 e2):=aK.cell 2;have gG:aJ.cell? ⟨gn,3,none⟩=some (.bool kk.2.neg):=aK.cell 3;have gF:aJ.cell? ⟨gn,4,none⟩=some (.slice K3 m3 e3):=aK.cell 4;have fT:aJ.cell? ⟨gn,5,none⟩=some (.slice K4 m4 e4):=aK.cell 5;have fJ:aJ.cell? ⟨bk,j*6,none⟩=some (.bool pp.1.neg):=(aE.cell aD).trans bM;have gH:aJ.cell? ⟨bk,j*6+1,none⟩=some (.slice P1 a1 b1):=(aE.cell aD).trans bS;have gN:aJ.cell? ⟨bk,j*6+2,none⟩=some (.slice P2 a2 b2):=(aE.cell aD).trans bI;have fZ:aJ.cell? ⟨bk,j*6+3,none⟩=some (.bool pp.2.neg):=(aE.cell aD).trans dQ;have gL:aJ.cell? ⟨bk,j*6+4,none⟩=some (.slice P3 a3 b3):=(aE.cell aD).trans fH;have fQ:aJ.cell? ⟨bk,j*6+5,none⟩=some (.slice P4 a4 b4):=(aE.cell aD).trans dU))
    have gQ:=aW.trans ((aC.trans ((aA.trans (aE.mono aA.size)).mono aC.size)).mono aW.size)
    have dG:=Lib.hid bP
    clear bP
    go_wp2
    go_ret2
    exact ⟨gK,by rw [aQ.out];rfl,by rw [aQ.out];exact dG.out,gQ⟩
   ·subst fO
    have aO:R=some kk.2:=by rw [cC.out,aP.out.1 rfl]
    have aQ:=Lib.hid aO
    have x0:w9.cell? ⟨gn,3,none⟩=some (.bool kk.2.neg):=aL.cell 3
    have x1:w9.cell? ⟨gn,4,none⟩=some (.slice K3 m3 e3):=aL.cell 4
    have x2:w9.cell? ⟨gn,5,none⟩=some (.slice K4 m4 e4):=aL.cell 5
    have dC:=Lib.hid (zbR kk.2 _ w9 (hT.later aW) (RatS.mk (q:=kk.2) bH bR) (bE.out.2.mono (by omega)))
    clear aO q9 aL k9 cK bW cB cH bH bR
    go_wp2_with fail
    refine dC.out.mono ?_
    rintro e aG ⟨gO,rfl,bG,aA⟩
    have cU:=Lib.hid bG
    clear bG
    go_wp2_with fail
    go_ret2
    exact ⟨gO,by rw [aQ.out];rfl,by rw [aQ.out];exact cU.out,aW.trans (aA.mono aW.size)⟩
   ·have d1:(r==0)=false:=by rw [beq_eq_false_iff_ne];omega
    have d2:decide (r=0)=false:=decide_eq_false (by omega)
    have d3:decide (r<0)=false:=decide_eq_false (by omega)
    have fG:=aP.out.2.2 dY
    have fY:=Lib.hid fG
    clear dY fG q9 aL k9 cK bW cB cH bH bR
    go_wp2_with fail
    go_roundg (n - (k+1))
    case measure=>omega
    case rel=>exact ⟨k+1,by omega,by go_num,Nat.le_refl _,dH,fY.out⟩
  ·obtain rfl:n=k:=by omega
   have hz:R=none:=by
    have h9:=cC.out.trans dP.out
    rw [List.drop_eq_nil_of_le (by have:=cS.out;omega)] at h9
    rw [h9]
    cases zeH ks n<;>rfl
   have HZ:=Lib.hid hz
   clear hz
   go_wp2
   go_ret2
   exact ⟨⟨#[]⟩,by rw [HZ.out];rfl,by rw [HZ.out];rfl,bT⟩
theorem zks (A:Option Addr) (n c:Nat) (l:List (ByteArray × ByteArray)) (s:ByteArray) (w:World) (hT:Tabs w) (h:PtsR w w.heap.size A n l) (hsz:∀ p ∈ l,p.1.size≤4294967296∧p.2.size≤4294967296) (hs:s.size≤4294967296) :
  Calls Tryz.prog 49 #[.slice A n c,.string s] w (zbj w (blT l s.data.toList) (blE l s.data.toList)):=by
 have HR:∀ W,Tabs W→Calls Tryz.prog 63 #[.string s] W (zay W (zag s.data.toList) (zam s.data.toList)):=fun W hT=>zbC s W hT hs
 have hL:=zgk A n c l w hT h hsz
 unfold blT blE
 by_cases h1:tabE l=0
 ·rw [if_neg (show ¬ tabE l≠0 by omega),if_neg (show ¬ tabE l≠0 by omega)]
  rw [h1] at hL
  by_cases h2:zam s.data.toList=0
  ·rw [if_neg (show ¬ zam s.data.toList≠0 by omega),if_neg (show ¬ zam s.data.toList≠0 by omega)]
   have aD:l.length=n:=h.1
   have hn:1≤n∧n≤64∧zcG none l=0:=by
    unfold tabE at h1
    split at h1
    ·omega
    ·split at h1
     ·omega
     ·exact ⟨by omega,by omega,h1⟩
   have aA:∀ p ∈ l,zam p.1.data.toList=0∧zam p.2.data.toList=0:=by
    have h9:∀ (l:List (ByteArray × ByteArray)) (o:Option Q),zcG o l=0→∀ p ∈ l,zam p.1.data.toList=0∧zam p.2.data.toList=0:=by
     intro l
     induction l with
     | nil=>intro o _ p hp;cases hp
     | cons a t ih=>
      intro o ho p hp
      have hc:zcG o (a :: t)=if rowE o a.1.data.toList a.2.data.toList≠0 then rowE o a.1.data.toList a.2.data.toList else zcG (some (zag a.1.data.toList)) t:=by cases o<;>rfl
      rw [hc] at ho
      split at ho
      ·rename_i h0;exact absurd ho h0
      ·rename_i h0
       rcases List.mem_cons.1 hp with rfl | hp
       ·have aE:rowE o p.1.data.toList p.2.data.toList=0:=by omega
        unfold rowE at aE
        by_cases hx:zam p.1.data.toList=0
        ·by_cases hy:zam p.2.data.toList=0
         ·exact ⟨hx,hy⟩
         ·rw [if_neg (by omega),if_pos hy] at aE;exact absurd aE hy
        ·rw [if_pos hx] at aE;exact absurd aE hx
       ·exact ih _ ho p hp
    exact h9 l none hn.2.2
   have aC:∀ t:List UInt8,zam t=0→LenQ (zag t) 65536:=fun t ht=>by
    have h9:=@zaB t ht
    exact ⟨by omega,by omega⟩
   have aG:∀ p ∈ l.map rdP,LenQ p.1 65536∧LenQ p.2 65536:=fun p hp=>by
    obtain ⟨q,hq,rfl⟩:=List.mem_map.1 hp
    exact ⟨aC _ (aA q hq).1,aC _ (aA q hq).2⟩
   rw [h2] at HR
   obtain ⟨k0,aF⟩:∃ k0,(l.map rdP)[0]? = some k0:=by
    cases l with
    | nil=>simp at aD;omega
    | cons a t=>exact ⟨rdP a,rfl⟩
   have hb:=zmB (zag s.data.toList) A n c w.heap.size (l.map rdP) k0 s w hT (by rw [List.length_map];exact aD) hn.2.1 aF (aC _ h2) aG
    (hL.mono fun e w'=>by
     rintro ⟨⟨A',m',c',rfl,hk⟩,hb⟩
     exact ⟨⟨A',m',c',rfl,hk rfl⟩,hb⟩) HR
   unfold zjW
   cases hR:zb1 (zag s.data.toList) none (l.map rdP) with
   | none=>rw [hR] at hb;exact hb
   | some q=>rw [hR] at hb;exact hb
  ·rw [if_pos (show zam s.data.toList≠0 from h2),if_pos (show zam s.data.toList≠0 from h2)]
   exact zhi (zag s.data.toList) 0 (zam s.data.toList) (zam s.data.toList) A n c s w hT (show zam s.data.toList=if (0:Int)≠0 then 0 else zam s.data.toList from (if_neg (by omega)).symm) h2
    (hL.mono fun e w'=>by
     rintro ⟨⟨A',m',c',rfl,hk⟩,hb⟩
     exact ⟨⟨A',m',c',rfl⟩,hb⟩) HR
 ·rw [if_pos (show tabE l≠0 from h1),if_pos (show tabE l≠0 from h1)]
  exact zhi (zag s.data.toList) (tabE l) (zam s.data.toList) (tabE l) A n c s w hT (show tabE l=if tabE l≠0 then tabE l else zam s.data.toList from (if_pos h1).symm) h1
   (hL.mono fun e w'=>by
    rintro ⟨⟨A',m',c',rfl,hk⟩,hb⟩
    exact ⟨⟨A',m',c',rfl⟩,hb⟩) HR
theorem PtsR.lit2 (w:World) (a b c d:ByteArray) (t:TypeId):PtsR (w.alloc (.cells #[.string a,.string b,.string c,.string d] t)) (w.heap.size+1) (some ⟨w.heap.size,0,none⟩) 2 [(a,b),(c,d)]:=by
 have hq:CBlk (w.alloc (.cells #[.string a,.string b,.string c,.string d] t)) w.heap.size #[.string a,.string b,.string c,.string d] t:=CBlk.new _ _ _ _ rfl
 have e2:∀ i j,((⟨w.heap.size,0,none⟩:Addr).add i).add j=⟨w.heap.size,i+j,none⟩:=fun i j=>by rw [ziU];unfold Addr.add;split<;>simp_all
 refine ⟨rfl,fun _=>⟨_,rfl,by simp,fun i hi => ?_⟩⟩
 match i,hi with
 | 0,_=>exact ⟨by rw [e2,hq.cell];rfl,by rw [e2,hq.cell];rfl⟩
 | 1,_=>exact ⟨by rw [e2,hq.cell];rfl,by rw [e2,hq.cell];rfl⟩
 | i+2,h=>exact absurd h (by simp)
end Go.Proofs.YteajibbphcfmeaaGreatDoor
