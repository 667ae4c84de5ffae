/- Contract of package number's between. -/
import Derived.Test.YteajibbphcfmeaaGreatDoorVCo6
namespace Go.Proofs.YteajibbphcfmeaaGreatDoor
open Go.RowKit Bn
def zlR (p q:Q):Q:=lowQ (p.neg != q.neg) (p.top*q.bot) (p.bot*q.top)
def zkj (p q:Q):Q:=lowQ (p.neg != q.neg) (p.top*q.top) (p.bot*q.bot)
def zb8 (lx ly rx ry x:Q):Q:=zdM ly (zkj (zlR (zaX ry ly) (zaX rx lx)) (zaX x lx))
set_option maxHeartbeats 8000000 in
set_option maxRecDepth 100000 in
theorem zhS (lx ly rx ry x:Q) (v u t:Value) (w:World) (hT:Tabs w) (hv:ItvS w w.heap.size v lx ly) (hu:ItvS w w.heap.size u rx ry) (ht:RatS w w.heap.size t x)
  (l1:LenQ lx 65536) (l2:LenQ ly 65536) (l3:LenQ rx 65536) (l4:LenQ ry 65536) (l5:LenQ x 65536) :
  Calls Tryz.prog 109 #[v,u,t] w (zaT w (zb8 lx ly rx ry x)):=by
 obtain ⟨L1,bG,bL,L2,bI,bP,L3,bN,bM,L4,bJ,bR,rfl,h1,h2,h3,h4⟩:=hv
 obtain ⟨R1,cN,cO,R2,cM,cQ,R3,cK,cR,R4,cL,cP,rfl,k1,k2,k3,k4⟩:=hu
 obtain ⟨X1,bV,bW,X2,bU,bX,rfl,m1,m2⟩:=ht
 have aQ:Below w.heap.size w ((((w.alloc (.cells #[.bool lx.neg,.slice L1 bG bL,.slice L2 bI bP,.bool ly.neg,.slice L3 bN bM,.slice L4 bJ bR] 135)).alloc (.cells #[.bool rx.neg,.slice R1 cN cO,.slice R2 cM cQ,.bool ry.neg,.slice R3 cK cR,.slice R4 cL cP] 135)).alloc (.cells #[.bool x.neg,.slice X1 bV bW,.slice X2 bU bX] 91)).alloc (.cells #[.bool false,.slice none 0 0,.slice none 0 0] 91)):=(((((Below.refl _ _).alloc (by simp<;>omega) _).alloc (by simp<;>omega) _).alloc (by simp<;>omega) _).alloc (by simp<;>omega) _)
 have q0:CBlk ((((w.alloc (.cells #[.bool lx.neg,.slice L1 bG bL,.slice L2 bI bP,.bool ly.neg,.slice L3 bN bM,.slice L4 bJ bR] 135)).alloc (.cells #[.bool rx.neg,.slice R1 cN cO,.slice R2 cM cQ,.bool ry.neg,.slice R3 cK cR,.slice R4 cL cP] 135)).alloc (.cells #[.bool x.neg,.slice X1 bV bW,.slice X2 bU bX] 91)).alloc (.cells #[.bool false,.slice none 0 0,.slice none 0 0] 91)) (w.heap.size) #[.bool lx.neg,.slice L1 bG bL,.slice L2 bI bP,.bool ly.neg,.slice L3 bN bM,.slice L4 bJ bR] 135:=((((CBlk.new _ _ _ _ (by simp)).alloc _).alloc _).alloc _)
 have q1:CBlk ((((w.alloc (.cells #[.bool lx.neg,.slice L1 bG bL,.slice L2 bI bP,.bool ly.neg,.slice L3 bN bM,.slice L4 bJ bR] 135)).alloc (.cells #[.bool rx.neg,.slice R1 cN cO,.slice R2 cM cQ,.bool ry.neg,.slice R3 cK cR,.slice R4 cL cP] 135)).alloc (.cells #[.bool x.neg,.slice X1 bV bW,.slice X2 bU bX] 91)).alloc (.cells #[.bool false,.slice none 0 0,.slice none 0 0] 91)) (w.heap.size+1) #[.bool rx.neg,.slice R1 cN cO,.slice R2 cM cQ,.bool ry.neg,.slice R3 cK cR,.slice R4 cL cP] 135:=(((CBlk.new _ _ _ _ (by simp)).alloc _).alloc _)
 have q2:CBlk ((((w.alloc (.cells #[.bool lx.neg,.slice L1 bG bL,.slice L2 bI bP,.bool ly.neg,.slice L3 bN bM,.slice L4 bJ bR] 135)).alloc (.cells #[.bool rx.neg,.slice R1 cN cO,.slice R2 cM cQ,.bool ry.neg,.slice R3 cK cR,.slice R4 cL cP] 135)).alloc (.cells #[.bool x.neg,.slice X1 bV bW,.slice X2 bU bX] 91)).alloc (.cells #[.bool false,.slice none 0 0,.slice none 0 0] 91)) (w.heap.size+1+1) #[.bool x.neg,.slice X1 bV bW,.slice X2 bU bX] 91:=((CBlk.new _ _ _ _ (by simp)).alloc _)
 have q3:CBlk ((((w.alloc (.cells #[.bool lx.neg,.slice L1 bG bL,.slice L2 bI bP,.bool ly.neg,.slice L3 bN bM,.slice L4 bJ bR] 135)).alloc (.cells #[.bool rx.neg,.slice R1 cN cO,.slice R2 cM cQ,.bool ry.neg,.slice R3 cK cR,.slice R4 cL cP] 135)).alloc (.cells #[.bool x.neg,.slice X1 bV bW,.slice X2 bU bX] 91)).alloc (.cells #[.bool false,.slice none 0 0,.slice none 0 0] 91)) (w.heap.size+1+1+1) #[.bool false,.slice none 0 0,.slice none 0 0] 91:=(CBlk.new _ _ _ _ (by simp))
 have bH:=RatS.mk (q:=lx) (h1.later aQ) (h2.later aQ)
 have bK:=RatS.mk (q:=ly) (h3.later aQ) (h4.later aQ)
 have bQ:=RatS.mk (q:=rx) (k1.later aQ) (k2.later aQ)
 have bO:=RatS.mk (q:=ry) (k3.later aQ) (k4.later aQ)
 have hx:=RatS.mk (q:=x) (m1.later aQ) (m2.later aQ)
 obtain ⟨d1,e1⟩:∃ q,q=zaX ry ly:=⟨_,rfl⟩
 obtain ⟨d2,e2⟩:∃ q,q=zaX rx lx:=⟨_,rfl⟩
 obtain ⟨d3,e3⟩:∃ q,q=zlR d1 d2:=⟨_,rfl⟩
 obtain ⟨d4,e4⟩:∃ q,q=zaX x lx:=⟨_,rfl⟩
 obtain ⟨d5,e5⟩:∃ q,q=zkj d3 d4:=⟨_,rfl⟩
 obtain ⟨d6,e6⟩:∃ q,q=zdM ly d5:=⟨_,rfl⟩
 have n1:LenQ d1 524288:=by rw [e1];exact (zbv l4 (zbE l2)).mono (by omega)
 have n2:LenQ d2 524288:=by rw [e2];exact (zbv l3 (zbE l1)).mono (by omega)
 have n3:LenQ d3 1048576:=by rw [e3];exact (zbn _ n1 n2 (by omega)).mono (by omega)
 have n4:LenQ d4 524288:=by rw [e4];exact (zbv l5 (zbE l1)).mono (by omega)
 have n5:LenQ d5 1572864:=by rw [e5];exact (zbg _ n3 n4 (by omega)).mono (by omega)
 have H1:=Lib.hid (fun v u W hT a b=>(show Calls _ _ _ _ (zaT W d1) from by rw [e1];exact zcZ ry ly v u W hT a b (l4.mono (by omega)) (l2.mono (by omega))))
 have H2:=Lib.hid (fun v u W hT a b=>(show Calls _ _ _ _ (zaT W d2) from by rw [e2];exact zcZ rx lx v u W hT a b (l3.mono (by omega)) (l1.mono (by omega))))
 have H3:=Lib.hid (fun v u W hT a b=>(show Calls _ _ _ _ (zaT W d3) from by rw [e3];exact zej d1 d2 v u W hT a b (n1.mono (by omega)) (n2.mono (by omega))))
 have H4:=Lib.hid (fun v u W hT a b=>(show Calls _ _ _ _ (zaT W d4) from by rw [e4];exact zcZ x lx v u W hT a b (l5.mono (by omega)) (l1.mono (by omega))))
 have H5:=Lib.hid (fun v u W hT a b=>(show Calls _ _ _ _ (zaT W d5) from by rw [e5];exact zdU d3 d4 v u W hT a b (n3.mono (by omega)) (n4.mono (by omega))))
 have H6:=Lib.hid (fun v u W hT a b=>(show Calls _ _ _ _ (zaT W d6) from by rw [e6];exact zkv ly d5 v u W hT a b (l2.mono (by omega)) (n5.mono (by omega))))
 have HQ:=Lib.hid (show zb8 lx ly rx ry x=d6 from by rw [e6,e5,e4,e3,e2,e1];rfl)
 clear h1 h2 h3 h4 k1 k2 k3 k4 m1 m2 e1 e2 e3 e4 e5 e6 n1 n2 n3 n4 n5 l1 l2 l3 l4 l5
 have gV:Hid (w.heap.size+1+1+1<((((w.alloc (.cells #[.bool lx.neg,.slice L1 bG bL,.slice L2 bI bP,.bool ly.neg,.slice L3 bN bM,.slice L4 bJ bR] 135)).alloc (.cells #[.bool rx.neg,.slice R1 cN cO,.slice R2 cM cQ,.bool ry.neg,.slice R3 cK cR,.slice R4 cL cP] 135)).alloc (.cells #[.bool x.neg,.slice X1 bV bW,.slice X2 bU bX] 91)).alloc (.cells #[.bool false,.slice none 0 0,.slice none 0 0] 91)).heap.size):=Lib.hid q3.lt
 go_enter Tryz.func109,Tryz.ntmps109
 go_upto_region 1 with (fail)
 generalize ((((w.alloc (.cells #[.bool lx.neg,.slice L1 bG bL,.slice L2 bI bP,.bool ly.neg,.slice L3 bN bM,.slice L4 bJ bR] 135)).alloc (.cells #[.bool rx.neg,.slice R1 cN cO,.slice R2 cM cQ,.bool ry.neg,.slice R3 cK cR,.slice R4 cL cP] 135)).alloc (.cells #[.bool x.neg,.slice X1 bV bW,.slice X2 bU bX] 91)).alloc (.cells #[.bool false,.slice none 0 0,.slice none 0 0] 91))=W at *
 obtain ⟨G1,dJ⟩:∃ g,g=W.heap.size:=⟨_,rfl⟩
 have gQ:w.heap.size≤G1:=by rw [dJ];exact aQ.size
 have cV:w.heap.size<G1:=by rw [dJ];exact q0.lt
 have cT:w.heap.size+1<G1:=by rw [dJ];exact q1.lt
 have cS:w.heap.size+1+1<G1:=by rw [dJ];exact q2.lt
 have cU:w.heap.size+1+1+1<G1:=by rw [dJ];exact q3.lt
 obtain ⟨gN,dC⟩:∃ I:Array Bool→Act→World→Prop,I=(fun cH ac W=>∃ (b0 b1 b2 b3 b4 b5 b6 b7 b8 b9 bA bB bD:Bool) (u8 u9 cI cJ cB cC bZ cA cE cF bY u7:Value) (aU:Option Addr) (aR aV:Nat) (aK:Option Addr) (aL aN:Nat) (aW:Option Addr) (aS aT:Nat) (aM:Option Addr) (aP aJ:Nat) (aH:Option Addr) (aG aF:Nat) (aD:Option Addr) (aC aE:Nat) (aA:Nat),cH=#[b0,b1,b2,b3,b4,b5,b6,b7,b8,b9,bA,bB,bD]∧ac={ tmps:=#[.agg #[.bool lx.neg,.slice L1 bG bL,.slice L2 bI bP,.bool ly.neg,.slice L3 bN bM,.slice L4 bJ bR],.agg #[.bool rx.neg,.slice R1 cN cO,.slice R2 cM cQ,.bool ry.neg,.slice R3 cK cR,.slice R4 cL cP],.agg #[.bool x.neg,.slice X1 bV bW,.slice X2 bU bX],.pointer (some ⟨w.heap.size,0,none⟩),.pointer (some ⟨w.heap.size+1,0,none⟩),.pointer (some ⟨w.heap.size+1+1,0,none⟩),.pointer (some ⟨w.heap.size+1+1+1,0,none⟩),u7,u8,u9,cI,cJ,cB,cC,bZ,cA,cE,cF,bY,undef,undef,undef,undef,undef,undef,undef,undef,undef],defers:=[] }∧G1≤W.heap.size∧Below w.heap.size w W∧CBlk W (w.heap.size) #[.bool lx.neg,.slice L1 bG bL,.slice L2 bI bP,.bool ly.neg,.slice L3 bN bM,.slice L4 bJ bR] 135∧CBlk W (w.heap.size+1) #[.bool rx.neg,.slice R1 cN cO,.slice R2 cM cQ,.bool ry.neg,.slice R3 cK cR,.slice R4 cL cP] 135∧CBlk W (w.heap.size+1+1) #[.bool x.neg,.slice X1 bV bW,.slice X2 bU bX] 91∧CBlk W (w.heap.size+1+1+1) #[.bool false,.slice none 0 0,.slice none 0 0] 91∧RatS W W.heap.size (.agg #[.bool lx.neg,.slice L1 bG bL,.slice L2 bI bP]) lx∧RatS W W.heap.size (.agg #[.bool ly.neg,.slice L3 bN bM,.slice L4 bJ bR]) ly∧RatS W W.heap.size (.agg #[.bool rx.neg,.slice R1 cN cO,.slice R2 cM cQ]) rx∧RatS W W.heap.size (.agg #[.bool ry.neg,.slice R3 cK cR,.slice R4 cL cP]) ry∧RatS W W.heap.size (.agg #[.bool x.neg,.slice X1 bV bW,.slice X2 bU bX]) x∧(b0=true→u8 = .pointer (some ⟨w.heap.size+1,3,none⟩))∧(b1=true→u9 = .agg #[.bool ry.neg,.slice R3 cK cR,.slice R4 cL cP])∧(b2=true→cI = .pointer (some ⟨w.heap.size,3,none⟩))∧(b3=true→cJ = .agg #[.bool ly.neg,.slice L3 bN bM,.slice L4 bJ bR])∧(b4=true→cB = .agg #[.bool d1.neg,.slice aU aR aV,.slice aK aL aN]∧RatS W W.heap.size (.agg #[.bool d1.neg,.slice aU aR aV,.slice aK aL aN]) ⟨d1.neg,d1.top,d1.bot⟩)∧(b5=true→cC = .pointer (some ⟨w.heap.size+1,0,none⟩))∧(b6=true→bZ = .agg #[.bool rx.neg,.slice R1 cN cO,.slice R2 cM cQ])∧(b7=true→cA = .pointer (some ⟨w.heap.size,0,none⟩))∧(b8=true→cE = .agg #[.bool lx.neg,.slice L1 bG bL,.slice L2 bI bP])∧(b9=true→cF = .agg #[.bool d2.neg,.slice aW aS aT,.slice aM aP aJ]∧RatS W W.heap.size (.agg #[.bool d2.neg,.slice aW aS aT,.slice aM aP aJ]) ⟨d2.neg,d2.top,d2.bot⟩)∧(bA=true→bY = .agg #[.bool d3.neg,.slice aH aG aF,.slice aD aC aE]∧RatS W W.heap.size (.agg #[.bool d3.neg,.slice aH aG aF,.slice aD aC aE]) ⟨d3.neg,d3.top,d3.bot⟩)∧(bB=true→u7 = .pointer (some ⟨aA,0,none⟩)∧G1≤aA∧aA<W.heap.size∧(bD=false→CBlk W aA #[.bool false,.slice none 0 0,.slice none 0 0] 91))∧(bD=true→bB=true∧bA=true∧CBlk W aA #[.bool d3.neg,.slice aH aG aF,.slice aD aC aE] 91)):=⟨_,rfl⟩
 have aO:=Lib.hid dC
 clear dC
 refine zbF (by kernel_rfl) gN (by kernel_rfl) ?_ ?_ ?_
 ·rw [aO.out]
  exact ⟨false,false,false,false,false,false,false,false,false,false,false,false,false,undef,undef,undef,undef,undef,undef,undef,undef,undef,undef,undef,undef,none,0,0,none,0,0,none,0,0,none,0,0,none,0,0,none,0,0,0,rfl,rfl,(by rw [dJ];exact Nat.le_refl _),aQ.drew,q0.drew,q1.drew,q2.drew,q3.drew,(bH.later (Below.drew (Below.refl _ _))),(bK.later (Below.drew (Below.refl _ _))),(bQ.later (Below.drew (Below.refl _ _))),(bO.later (Below.drew (Below.refl _ _))),(hx.later (Below.drew (Below.refl _ _))),(fun h=>by cases h),(fun h=>by cases h),(fun h=>by cases h),(fun h=>by cases h),(fun h=>by cases h),(fun h=>by cases h),(fun h=>by cases h),(fun h=>by cases h),(fun h=>by cases h),(fun h=>by cases h),(fun h=>by cases h),(fun h=>by cases h),(fun h=>by cases h)⟩
 ·intro i op cH ac W ho hI hl aI
  rw [aO.out] at hI
  obtain ⟨b0,b1,b2,b3,b4,b5,b6,b7,b8,b9,bA,bB,bD,u8,u9,cI,cJ,cB,cC,bZ,cA,cE,cF,bY,u7,aU,aR,aV,aK,aL,aN,aW,aS,aT,aM,aP,aJ,aH,aG,aF,aD,aC,aE,aA,rfl,rfl,cG,aQ,q0,q1,q2,q3,bH,bK,bQ,bO,hx,f0,f1,f2,f3,f4,f5,f6,f7,f8,f9,bF,aX,bC⟩:=hI
  clear dJ
  match i,ho,hl,aI with
  | 0,ho,hl,aI=>
   have bT:b0=false:=Option.some.inj hl
   obtain rfl:=Option.some.inj ho
   refine zaq ho fun K' hK => ?_
   go_simp
   refine hK.out _ _ ?_
   rw [aO.out]
   exact ⟨true,b1,b2,b3,b4,b5,b6,b7,b8,b9,bA,bB,bD,(.pointer (some ⟨w.heap.size+1,3,none⟩)),u9,cI,cJ,cB,cC,bZ,cA,cE,cF,bY,u7,aU,aR,aV,aK,aL,aN,aW,aS,aT,aM,aP,aJ,aH,aG,aF,aD,aC,aE,aA,rfl,rfl,cG,aQ,q0,q1,q2,q3,bH,bK,bQ,bO,hx,(fun _=>rfl),f1,f2,f3,f4,f5,f6,f7,f8,f9,bF,aX,bC⟩
  | 1,ho,hl,aI=>
   have bT:b1=false:=Option.some.inj hl
   obtain rfl:=Option.some.inj ho
   have e0:b0=true:=aI ⟨0,.data⟩ (by simp) rfl
   obtain rfl:=f0 e0
   refine zaq ho fun K' hK => ?_
   have x3:=q1.cell 3
   have x4:=q1.cell 4
   have x5:=q1.cell 5
   go_simp
   refine hK.out _ _ ?_
   rw [aO.out]
   exact ⟨b0,true,b2,b3,b4,b5,b6,b7,b8,b9,bA,bB,bD,(.pointer (some ⟨w.heap.size+1,3,none⟩)),(.agg #[.bool ry.neg,.slice R3 cK cR,.slice R4 cL cP]),cI,cJ,cB,cC,bZ,cA,cE,cF,bY,u7,aU,aR,aV,aK,aL,aN,aW,aS,aT,aM,aP,aJ,aH,aG,aF,aD,aC,aE,aA,rfl,rfl,cG,aQ,q0,q1,q2,q3,bH,bK,bQ,bO,hx,f0,(fun _=>rfl),f2,f3,f4,f5,f6,f7,f8,f9,bF,aX,bC⟩
  | 2,ho,hl,aI=>
   have bT:b2=false:=Option.some.inj hl
   obtain rfl:=Option.some.inj ho
   refine zaq ho fun K' hK => ?_
   go_simp
   refine hK.out _ _ ?_
   rw [aO.out]
   exact ⟨b0,b1,true,b3,b4,b5,b6,b7,b8,b9,bA,bB,bD,u8,u9,(.pointer (some ⟨w.heap.size,3,none⟩)),cJ,cB,cC,bZ,cA,cE,cF,bY,u7,aU,aR,aV,aK,aL,aN,aW,aS,aT,aM,aP,aJ,aH,aG,aF,aD,aC,aE,aA,rfl,rfl,cG,aQ,q0,q1,q2,q3,bH,bK,bQ,bO,hx,f0,f1,(fun _=>rfl),f3,f4,f5,f6,f7,f8,f9,bF,aX,bC⟩
  | 3,ho,hl,aI=>
   have bT:b3=false:=Option.some.inj hl
   obtain rfl:=Option.some.inj ho
   have e2:b2=true:=aI ⟨2,.data⟩ (by simp) rfl
   obtain rfl:=f2 e2
   refine zaq ho fun K' hK => ?_
   have x3:=q0.cell 3
   have x4:=q0.cell 4
   have x5:=q0.cell 5
   go_simp
   refine hK.out _ _ ?_
   rw [aO.out]
   exact ⟨b0,b1,b2,true,b4,b5,b6,b7,b8,b9,bA,bB,bD,u8,u9,(.pointer (some ⟨w.heap.size,3,none⟩)),(.agg #[.bool ly.neg,.slice L3 bN bM,.slice L4 bJ bR]),cB,cC,bZ,cA,cE,cF,bY,u7,aU,aR,aV,aK,aL,aN,aW,aS,aT,aM,aP,aJ,aH,aG,aF,aD,aC,aE,aA,rfl,rfl,cG,aQ,q0,q1,q2,q3,bH,bK,bQ,bO,hx,f0,f1,f2,(fun _=>rfl),f4,f5,f6,f7,f8,f9,bF,aX,bC⟩
  | 4,ho,hl,aI=>
   have bT:b4=false:=Option.some.inj hl
   obtain rfl:=Option.some.inj ho
   have e1:b1=true:=aI ⟨1,.data⟩ (by simp) rfl
   obtain rfl:=f1 e1
   have e3:b3=true:=aI ⟨3,.data⟩ (by simp) rfl
   obtain rfl:=f3 e3
   refine zaq ho fun K' hK => ?_
   go_simp
   go_at_call 67
   refine (H1.out _ _ W (hT.later aQ) bO bK).mono ?_
   rintro e W1 ⟨v0,rfl,⟨A,n,c,A',n',c',rfl,kt,kb⟩,hb⟩
   refine hK.out _ _ ?_
   rw [aO.out]
   exact ⟨b0,b1,b2,b3,true,b5,b6,b7,b8,b9,bA,bB,bD,u8,(.agg #[.bool ry.neg,.slice R3 cK cR,.slice R4 cL cP]),cI,(.agg #[.bool ly.neg,.slice L3 bN bM,.slice L4 bJ bR]),(.agg #[.bool d1.neg,.slice A n c,.slice A' n' c']),cC,bZ,cA,cE,cF,bY,u7,A,n,c,A',n',c',aW,aS,aT,aM,aP,aJ,aH,aG,aF,aD,aC,aE,aA,rfl,rfl,(Nat.le_trans cG hb.size),(aQ.trans (hb.mono aQ.size)),(q0.below hb q0.lt),(q1.below hb q1.lt),(q2.below hb q2.lt),(q3.below hb q3.lt),(bH.later hb),(bK.later hb),(bQ.later hb),(bO.later hb),(hx.later hb),f0,f1,f2,f3,(fun _=>⟨rfl,⟨A,n,c,A',n',c',rfl,kt,kb⟩⟩),f5,f6,f7,f8,(fun h=>⟨(f9 h).1,(f9 h).2.later hb⟩),(fun h=>⟨(bF h).1,(bF h).2.later hb⟩),(fun h=>⟨(aX h).1,(aX h).2.1,Nat.lt_of_lt_of_le (aX h).2.2.1 hb.size,fun h2=>((aX h).2.2.2 h2).below hb (aX h).2.2.1⟩),(fun h=>⟨(bC h).1,(bC h).2.1,(bC h).2.2.below hb (bC h).2.2.lt⟩)⟩
  | 5,ho,hl,aI=>
   have bT:b5=false:=Option.some.inj hl
   obtain rfl:=Option.some.inj ho
   refine zaq ho fun K' hK => ?_
   go_simp
   refine hK.out _ _ ?_
   rw [aO.out]
   exact ⟨b0,b1,b2,b3,b4,true,b6,b7,b8,b9,bA,bB,bD,u8,u9,cI,cJ,cB,(.pointer (some ⟨w.heap.size+1,0,none⟩)),bZ,cA,cE,cF,bY,u7,aU,aR,aV,aK,aL,aN,aW,aS,aT,aM,aP,aJ,aH,aG,aF,aD,aC,aE,aA,rfl,rfl,cG,aQ,q0,q1,q2,q3,bH,bK,bQ,bO,hx,f0,f1,f2,f3,f4,(fun _=>rfl),f6,f7,f8,f9,bF,aX,bC⟩
  | 6,ho,hl,aI=>
   have bT:b6=false:=Option.some.inj hl
   obtain rfl:=Option.some.inj ho
   have e5:b5=true:=aI ⟨5,.data⟩ (by simp) rfl
   obtain rfl:=f5 e5
   refine zaq ho fun K' hK => ?_
   have x0:=q1.cell 0
   have x1:=q1.cell 1
   have x2:=q1.cell 2
   go_simp
   refine hK.out _ _ ?_
   rw [aO.out]
   exact ⟨b0,b1,b2,b3,b4,b5,true,b7,b8,b9,bA,bB,bD,u8,u9,cI,cJ,cB,(.pointer (some ⟨w.heap.size+1,0,none⟩)),(.agg #[.bool rx.neg,.slice R1 cN cO,.slice R2 cM cQ]),cA,cE,cF,bY,u7,aU,aR,aV,aK,aL,aN,aW,aS,aT,aM,aP,aJ,aH,aG,aF,aD,aC,aE,aA,rfl,rfl,cG,aQ,q0,q1,q2,q3,bH,bK,bQ,bO,hx,f0,f1,f2,f3,f4,f5,(fun _=>rfl),f7,f8,f9,bF,aX,bC⟩
  | 7,ho,hl,aI=>
   have bT:b7=false:=Option.some.inj hl
   obtain rfl:=Option.some.inj ho
   refine zaq ho fun K' hK => ?_
   go_simp
   refine hK.out _ _ ?_
   rw [aO.out]
   exact ⟨b0,b1,b2,b3,b4,b5,b6,true,b8,b9,bA,bB,bD,u8,u9,cI,cJ,cB,cC,bZ,(.pointer (some ⟨w.heap.size,0,none⟩)),cE,cF,bY,u7,aU,aR,aV,aK,aL,aN,aW,aS,aT,aM,aP,aJ,aH,aG,aF,aD,aC,aE,aA,rfl,rfl,cG,aQ,q0,q1,q2,q3,bH,bK,bQ,bO,hx,f0,f1,f2,f3,f4,f5,f6,(fun _=>rfl),f8,f9,bF,aX,bC⟩
  | 8,ho,hl,aI=>
   have bT:b8=false:=Option.some.inj hl
   obtain rfl:=Option.some.inj ho
   have e7:b7=true:=aI ⟨7,.data⟩ (by simp) rfl
   obtain rfl:=f7 e7
   refine zaq ho fun K' hK => ?_
   have x0:=q0.cell 0
   have x1:=q0.cell 1
   have x2:=q0.cell 2
   go_simp
   refine hK.out _ _ ?_
   rw [aO.out]
   exact ⟨b0,b1,b2,b3,b4,b5,b6,b7,true,b9,bA,bB,bD,u8,u9,cI,cJ,cB,cC,bZ,(.pointer (some ⟨w.heap.size,0,none⟩)),(.agg #[.bool lx.neg,.slice L1 bG bL,.slice L2 bI bP]),cF,bY,u7,aU,aR,aV,aK,aL,aN,aW,aS,aT,aM,aP,aJ,aH,aG,aF,aD,aC,aE,aA,rfl,rfl,cG,aQ,q0,q1,q2,q3,bH,bK,bQ,bO,hx,f0,f1,f2,f3,f4,f5,f6,f7,(fun _=>rfl),f9,bF,aX,bC⟩
  | 9,ho,hl,aI=>
   have bT:b9=false:=Option.some.inj hl
   obtain rfl:=Option.some.inj ho
   have e6:b6=true:=aI ⟨6,.data⟩ (by simp) rfl
   obtain rfl:=f6 e6
   have e8:b8=true:=aI ⟨8,.data⟩ (by simp) rfl
   obtain rfl:=f8 e8
   refine zaq ho fun K' hK => ?_
   go_simp
   go_at_call 67
   refine (H2.out _ _ W (hT.later aQ) bQ bH).mono ?_
   rintro e W1 ⟨v0,rfl,⟨A,n,c,A',n',c',rfl,kt,kb⟩,hb⟩
   refine hK.out _ _ ?_
   rw [aO.out]
   exact ⟨b0,b1,b2,b3,b4,b5,b6,b7,b8,true,bA,bB,bD,u8,u9,cI,cJ,cB,cC,(.agg #[.bool rx.neg,.slice R1 cN cO,.slice R2 cM cQ]),cA,(.agg #[.bool lx.neg,.slice L1 bG bL,.slice L2 bI bP]),(.agg #[.bool d2.neg,.slice A n c,.slice A' n' c']),bY,u7,aU,aR,aV,aK,aL,aN,A,n,c,A',n',c',aH,aG,aF,aD,aC,aE,aA,rfl,rfl,(Nat.le_trans cG hb.size),(aQ.trans (hb.mono aQ.size)),(q0.below hb q0.lt),(q1.below hb q1.lt),(q2.below hb q2.lt),(q3.below hb q3.lt),(bH.later hb),(bK.later hb),(bQ.later hb),(bO.later hb),(hx.later hb),f0,f1,f2,f3,(fun h=>⟨(f4 h).1,(f4 h).2.later hb⟩),f5,f6,f7,f8,(fun _=>⟨rfl,⟨A,n,c,A',n',c',rfl,kt,kb⟩⟩),(fun h=>⟨(bF h).1,(bF h).2.later hb⟩),(fun h=>⟨(aX h).1,(aX h).2.1,Nat.lt_of_lt_of_le (aX h).2.2.1 hb.size,fun h2=>((aX h).2.2.2 h2).below hb (aX h).2.2.1⟩),(fun h=>⟨(bC h).1,(bC h).2.1,(bC h).2.2.below hb (bC h).2.2.lt⟩)⟩
  | 10,ho,hl,aI=>
   have bT:bA=false:=Option.some.inj hl
   obtain rfl:=Option.some.inj ho
   have e4:b4=true:=aI ⟨4,.data⟩ (by simp) rfl
   obtain ⟨rfl,gU⟩:=f4 e4
   have e9:b9=true:=aI ⟨9,.data⟩ (by simp) rfl
   obtain ⟨rfl,gX⟩:=f9 e9
   refine zaq ho fun K' hK => ?_
   go_simp
   go_at_call 69
   refine (H3.out _ _ W (hT.later aQ) gU gX).mono ?_
   rintro e W1 ⟨v0,rfl,⟨A,n,c,A',n',c',rfl,kt,kb⟩,hb⟩
   refine hK.out _ _ ?_
   rw [aO.out]
   exact ⟨b0,b1,b2,b3,b4,b5,b6,b7,b8,b9,true,bB,bD,u8,u9,cI,cJ,(.agg #[.bool d1.neg,.slice aU aR aV,.slice aK aL aN]),cC,bZ,cA,cE,(.agg #[.bool d2.neg,.slice aW aS aT,.slice aM aP aJ]),(.agg #[.bool d3.neg,.slice A n c,.slice A' n' c']),u7,aU,aR,aV,aK,aL,aN,aW,aS,aT,aM,aP,aJ,A,n,c,A',n',c',aA,rfl,rfl,(Nat.le_trans cG hb.size),(aQ.trans (hb.mono aQ.size)),(q0.below hb q0.lt),(q1.below hb q1.lt),(q2.below hb q2.lt),(q3.below hb q3.lt),(bH.later hb),(bK.later hb),(bQ.later hb),(bO.later hb),(hx.later hb),f0,f1,f2,f3,(fun h=>⟨(f4 h).1,(f4 h).2.later hb⟩),f5,f6,f7,f8,(fun h=>⟨(f9 h).1,(f9 h).2.later hb⟩),(fun _=>⟨rfl,⟨A,n,c,A',n',c',rfl,kt,kb⟩⟩),(fun h=>⟨(aX h).1,(aX h).2.1,Nat.lt_of_lt_of_le (aX h).2.2.1 hb.size,fun h2=>((aX h).2.2.2 h2).below hb (aX h).2.2.1⟩),(fun h=>by rw [(bC h).2.1] at bT;cases bT)⟩
  | 11,ho,hl,aI=>
   have bT:bB=false:=Option.some.inj hl
   obtain rfl:=Option.some.inj ho
   refine zaq ho fun K' hK => ?_
   have hb:Below W.heap.size W (W.alloc (.cells #[.bool false,.slice none 0 0,.slice none 0 0] 91)):=(Below.refl _ _).alloc (Nat.le_refl _) _
   go_simp
   refine hK.out _ _ ?_
   rw [aO.out]
   exact ⟨b0,b1,b2,b3,b4,b5,b6,b7,b8,b9,bA,true,bD,u8,u9,cI,cJ,cB,cC,bZ,cA,cE,cF,bY,(.pointer (some ⟨W.heap.size,0,none⟩)),aU,aR,aV,aK,aL,aN,aW,aS,aT,aM,aP,aJ,aH,aG,aF,aD,aC,aE,W.heap.size,rfl,rfl,(Nat.le_trans cG hb.size),(aQ.trans (hb.mono aQ.size)),(q0.below hb q0.lt),(q1.below hb q1.lt),(q2.below hb q2.lt),(q3.below hb q3.lt),(bH.later hb),(bK.later hb),(bQ.later hb),(bO.later hb),(hx.later hb),f0,f1,f2,f3,(fun h=>⟨(f4 h).1,(f4 h).2.later hb⟩),f5,f6,f7,f8,(fun h=>⟨(f9 h).1,(f9 h).2.later hb⟩),(fun h=>⟨(bF h).1,(bF h).2.later hb⟩),(fun _=>⟨rfl,cG,by simp,fun _=>CBlk.new W _ _ _ rfl⟩),(fun h=>by rw [(bC h).1] at bT;cases bT)⟩
  | 12,ho,hl,aI=>
   have bT:bD=false:=Option.some.inj hl
   obtain rfl:=Option.some.inj ho
   have gI:bB=true:=aI ⟨11,.data⟩ (by simp) rfl
   obtain ⟨rfl,fS,hJ,gW⟩:=aX gI
   have gE:bA=true:=aI ⟨10,.data⟩ (by simp) rfl
   obtain ⟨rfl,gT⟩:=bF gE
   refine zaq ho fun K' hK => ?_
   have hz:=gW bT
   have z0:=hz.cell 0
   have z1:=hz.cell 1
   have z2:=hz.cell 2
   have iD:=hz.frozen 0
   have gY:=hz.frozen 1
   have iB:=hz.frozen 2
   go_simp
   refine hK.out _ _ ?_
   rw [aO.out]
   exact ⟨b0,b1,b2,b3,b4,b5,b6,b7,b8,b9,bA,bB,true,u8,u9,cI,cJ,cB,cC,bZ,cA,cE,cF,(.agg #[.bool d3.neg,.slice aH aG aF,.slice aD aC aE]),(.pointer (some ⟨aA,0,none⟩)),aU,aR,aV,aK,aL,aN,aW,aS,aT,aM,aP,aJ,aH,aG,aF,aD,aC,aE,aA,rfl,rfl,(by rw [zaf];exact cG),(zak aQ (Nat.le_trans gQ fS) _ _ _),(q0.far3 (Nat.ne_of_gt (Nat.lt_of_lt_of_le cV fS)) _ _ _),(q1.far3 (Nat.ne_of_gt (Nat.lt_of_lt_of_le cT fS)) _ _ _),(q2.far3 (Nat.ne_of_gt (Nat.lt_of_lt_of_le cS fS)) _ _ _),(q3.far3 (Nat.ne_of_gt (Nat.lt_of_lt_of_le cU fS)) _ _ _),(bH.res3 hz _ _ _ _ _ _ _),(bK.res3 hz _ _ _ _ _ _ _),(bQ.res3 hz _ _ _ _ _ _ _),(bO.res3 hz _ _ _ _ _ _ _),(hx.res3 hz _ _ _ _ _ _ _),f0,f1,f2,f3,(fun h=>⟨(f4 h).1,(f4 h).2.res3 hz _ _ _ _ _ _ _⟩),f5,f6,f7,f8,(fun h=>⟨(f9 h).1,(f9 h).2.res3 hz _ _ _ _ _ _ _⟩),(fun h=>⟨(bF h).1,(bF h).2.res3 hz _ _ _ _ _ _ _⟩),(fun h=>⟨(aX h).1,(aX h).2.1,by rw [zaf];exact (aX h).2.2.1,fun h2=>by cases h2⟩),(fun _=>⟨gI,gE,hz.set3 _ _ _⟩)⟩
  | n+13,ho,hl,aI=>exact absurd ho (by simp)
 ·intro cH ac Y hI aY
  rw [aO.out] at hI
  clear aQ q0 q1 q2 q3 bH bK bQ bO hx
  obtain ⟨b0,b1,b2,b3,b4,b5,b6,b7,b8,b9,bA,bB,bD,u8,u9,cI,cJ,cB,cC,bZ,cA,cE,cF,bY,u7,aU,aR,aV,aK,aL,aN,aW,aS,aT,aM,aP,aJ,aH,aG,aF,aD,aC,aE,aA,rfl,rfl,cG,aQ,q0,q1,q2,q3,bH,bK,bQ,bO,hx,f0,f1,f2,f3,f4,f5,f6,f7,f8,f9,bF,aX,bC⟩:=hI
  have e0:b0=true:=aY 0 b0 (by decide) rfl
  have e1:b1=true:=aY 1 b1 (by decide) rfl
  have e2:b2=true:=aY 2 b2 (by decide) rfl
  have e3:b3=true:=aY 3 b3 (by decide) rfl
  have e4:b4=true:=aY 4 b4 (by decide) rfl
  have e5:b5=true:=aY 5 b5 (by decide) rfl
  have e6:b6=true:=aY 6 b6 (by decide) rfl
  have e7:b7=true:=aY 7 b7 (by decide) rfl
  have e8:b8=true:=aY 8 b8 (by decide) rfl
  have e9:b9=true:=aY 9 b9 (by decide) rfl
  have gE:bA=true:=aY 10 bA (by decide) rfl
  have gI:bB=true:=aY 11 bB (by decide) rfl
  have gR:bD=true:=aY 12 bD (by decide) rfl
  subst e0
  subst e1
  subst e2
  subst e3
  subst e4
  subst e5
  subst e6
  subst e7
  subst e8
  subst e9
  subst gE
  subst gI
  subst gR
  obtain rfl:=f0 rfl
  obtain rfl:=f1 rfl
  obtain rfl:=f2 rfl
  obtain rfl:=f3 rfl
  obtain ⟨rfl,r1⟩:=f4 rfl
  obtain rfl:=f5 rfl
  obtain rfl:=f6 rfl
  obtain rfl:=f7 rfl
  obtain rfl:=f8 rfl
  obtain ⟨rfl,r2⟩:=f9 rfl
  obtain ⟨rfl,r3⟩:=bF rfl
  obtain ⟨rfl,cW,_,_⟩:=aX rfl
  have q7:=(bC rfl).2.2
  clear f0 f1 f2 f3 f4 f5 f6 f7 f8 f9 bF aX bC aY aO cV cT cS cU
  clear r1 r2 H1 H2 H3 bQ bO q1
  have gL:=hT.later aQ
  have gM:w.heap.size+1+1+1≠aA:=by have:=cW;have:=gQ;have:=gV.out;omega
  go_upto_region 2 with (fail)
  have dI:Below Y.heap.size Y Y.drew:=Below.drew (Below.refl _ _)
  have dK:w.heap.size<Y.drew.heap.size:=q0.lt
  have gD:w.heap.size+1+1<Y.drew.heap.size:=q2.lt
  have gC:aA<Y.drew.heap.size:=q7.lt
  have dT:Y.drew.cell? ⟨w.heap.size,0,none⟩=some (.bool lx.neg):=q0.cell 0
  have gA:Y.drew.cell? ⟨w.heap.size,1,none⟩=some (.slice L1 bG bL):=q0.cell 1
  have fW:Y.drew.cell? ⟨w.heap.size,2,none⟩=some (.slice L2 bI bP):=q0.cell 2
  have fX:Y.drew.cell? ⟨w.heap.size,3,none⟩=some (.bool ly.neg):=q0.cell 3
  have dO:Y.drew.cell? ⟨w.heap.size,4,none⟩=some (.slice L3 bN bM):=q0.cell 4
  have fB:Y.drew.cell? ⟨w.heap.size,5,none⟩=some (.slice L4 bJ bR):=q0.cell 5
  have dW:Y.drew.cell? ⟨w.heap.size+1+1,0,none⟩=some (.bool x.neg):=q2.cell 0
  have fI:Y.drew.cell? ⟨w.heap.size+1+1,1,none⟩=some (.slice X1 bV bW):=q2.cell 1
  have fV:Y.drew.cell? ⟨w.heap.size+1+1,2,none⟩=some (.slice X2 bU bX):=q2.cell 2
  have fG:Y.drew.cell? ⟨aA,0,none⟩=some (.bool d3.neg):=q7.cell 0
  have dB:Y.drew.cell? ⟨aA,1,none⟩=some (.slice aH aG aF):=q7.cell 1
  have cZ:Y.drew.cell? ⟨aA,2,none⟩=some (.slice aD aC aE):=q7.cell 2
  go_region_held3 (fun w'=>w'.cell? ⟨w.heap.size,0,none⟩=some (.bool lx.neg)∧w'.cell? ⟨w.heap.size,1,none⟩=some (.slice L1 bG bL)∧w'.cell? ⟨w.heap.size,2,none⟩=some (.slice L2 bI bP)∧w'.cell? ⟨w.heap.size,3,none⟩=some (.bool ly.neg)∧w'.cell? ⟨w.heap.size,4,none⟩=some (.slice L3 bN bM)∧w'.cell? ⟨w.heap.size,5,none⟩=some (.slice L4 bJ bR)∧w'.cell? ⟨w.heap.size+1+1,0,none⟩=some (.bool x.neg)∧w'.cell? ⟨w.heap.size+1+1,1,none⟩=some (.slice X1 bV bW)∧w'.cell? ⟨w.heap.size+1+1,2,none⟩=some (.slice X2 bU bX)∧w'.cell? ⟨aA,0,none⟩=some (.bool d3.neg)∧w'.cell? ⟨aA,1,none⟩=some (.slice aH aG aF)∧w'.cell? ⟨aA,2,none⟩=some (.slice aD aC aE))
   (first | with_reducible exact ⟨dT,gA,fW,fX,dO,fB,dW,fI,fV,fG,dB,cZ⟩ | with_reducible exact ⟨dN,dZ,fC,fM,dS,fH,dM,dU,fQ,fZ,dA,dF⟩ | with_reducible exact ⟨fD,dY,fR,fF,fP,fT,fU,dP,fO,dX,dE,dG⟩ | with_reducible exact ⟨dV,fL,fY,fN,fK,dR,fE,fA,fJ,dQ,cY,dD⟩ | exact ⟨(far3 _ _ _ _ (by dsimp only;omega)).trans dV,(far3 _ _ _ _ (by dsimp only;omega)).trans fL,(far3 _ _ _ _ (by dsimp only;omega)).trans fY,(far3 _ _ _ _ (by dsimp only;omega)).trans fN,(far3 _ _ _ _ (by dsimp only;omega)).trans fK,(far3 _ _ _ _ (by dsimp only;omega)).trans dR,(far3 _ _ _ _ (by dsimp only;omega)).trans fE,(far3 _ _ _ _ (by dsimp only;omega)).trans fA,(far3 _ _ _ _ (by dsimp only;omega)).trans fJ,(far3 _ _ _ _ (by exact gM)).trans dQ,(far3 _ _ _ _ (by exact gM)).trans cY,(far3 _ _ _ _ (by exact gM)).trans dD⟩)
   (first
    |(go_at_call 67;refine (H4.out _ _ _ (gL.later dI) (hx.later dI) (bH.later dI)).mono ?_;rintro e w4 ⟨v4,rfl,g4,aZ⟩;have dL:w.heap.size<w4.heap.size:=Nat.lt_of_lt_of_le dK aZ.size;have gB:w.heap.size+1+1<w4.heap.size:=Nat.lt_of_lt_of_le gD aZ.size;have gF:aA<w4.heap.size:=Nat.lt_of_lt_of_le gC aZ.size;have dN:w4.cell? ⟨w.heap.size,0,none⟩=some (.bool lx.neg):=(aZ.cell (p:=⟨w.heap.size,0,none⟩) dK).trans dT;have dZ:w4.cell? ⟨w.heap.size,1,none⟩=some (.slice L1 bG bL):=(aZ.cell (p:=⟨w.heap.size,1,none⟩) dK).trans gA;have fC:w4.cell? ⟨w.heap.size,2,none⟩=some (.slice L2 bI bP):=(aZ.cell (p:=⟨w.heap.size,2,none⟩) dK).trans fW;have fM:w4.cell? ⟨w.heap.size,3,none⟩=some (.bool ly.neg):=(aZ.cell (p:=⟨w.heap.size,3,none⟩) dK).trans fX;have dS:w4.cell? ⟨w.heap.size,4,none⟩=some (.slice L3 bN bM):=(aZ.cell (p:=⟨w.heap.size,4,none⟩) dK).trans dO;have fH:w4.cell? ⟨w.heap.size,5,none⟩=some (.slice L4 bJ bR):=(aZ.cell (p:=⟨w.heap.size,5,none⟩) dK).trans fB;have dM:w4.cell? ⟨w.heap.size+1+1,0,none⟩=some (.bool x.neg):=(aZ.cell (p:=⟨w.heap.size+1+1,0,none⟩) gD).trans dW;have dU:w4.cell? ⟨w.heap.size+1+1,1,none⟩=some (.slice X1 bV bW):=(aZ.cell (p:=⟨w.heap.size+1+1,1,none⟩) gD).trans fI;have fQ:w4.cell? ⟨w.heap.size+1+1,2,none⟩=some (.slice X2 bU bX):=(aZ.cell (p:=⟨w.heap.size+1+1,2,none⟩) gD).trans fV;have fZ:w4.cell? ⟨aA,0,none⟩=some (.bool d3.neg):=(aZ.cell (p:=⟨aA,0,none⟩) gC).trans fG;have dA:w4.cell? ⟨aA,1,none⟩=some (.slice aH aG aF):=(aZ.cell (p:=⟨aA,1,none⟩) gC).trans dB;have dF:w4.cell? ⟨aA,2,none⟩=some (.slice aD aC aE):=(aZ.cell (p:=⟨aA,2,none⟩) gC).trans cZ)
    |(go_at_call 68;refine (H5.out _ _ w4 ((gL.later dI).later aZ) ((r3.later dI).later aZ) g4).mono ?_;rintro e w5 ⟨v5,rfl,g5,bE⟩;have dH:w.heap.size<w5.heap.size:=Nat.lt_of_lt_of_le dL bE.size;have gG:w.heap.size+1+1<w5.heap.size:=Nat.lt_of_lt_of_le gB bE.size;have gH:aA<w5.heap.size:=Nat.lt_of_lt_of_le gF bE.size;have fD:w5.cell? ⟨w.heap.size,0,none⟩=some (.bool lx.neg):=(bE.cell (p:=⟨w.heap.size,0,none⟩) dL).trans dN;have dY:w5.cell? ⟨w.heap.size,1,none⟩=some (.slice L1 bG bL):=(bE.cell (p:=⟨w.heap.size,1,none⟩) dL).trans dZ;have fR:w5.cell? ⟨w.heap.size,2,none⟩=some (.slice L2 bI bP):=(bE.cell (p:=⟨w.heap.size,2,none⟩) dL).trans fC;have fF:w5.cell? ⟨w.heap.size,3,none⟩=some (.bool ly.neg):=(bE.cell (p:=⟨w.heap.size,3,none⟩) dL).trans fM;have fP:w5.cell? ⟨w.heap.size,4,none⟩=some (.slice L3 bN bM):=(bE.cell (p:=⟨w.heap.size,4,none⟩) dL).trans dS;have fT:w5.cell? ⟨w.heap.size,5,none⟩=some (.slice L4 bJ bR):=(bE.cell (p:=⟨w.heap.size,5,none⟩) dL).trans fH;have fU:w5.cell? ⟨w.heap.size+1+1,0,none⟩=some (.bool x.neg):=(bE.cell (p:=⟨w.heap.size+1+1,0,none⟩) gB).trans dM;have dP:w5.cell? ⟨w.heap.size+1+1,1,none⟩=some (.slice X1 bV bW):=(bE.cell (p:=⟨w.heap.size+1+1,1,none⟩) gB).trans dU;have fO:w5.cell? ⟨w.heap.size+1+1,2,none⟩=some (.slice X2 bU bX):=(bE.cell (p:=⟨w.heap.size+1+1,2,none⟩) gB).trans fQ;have dX:w5.cell? ⟨aA,0,none⟩=some (.bool d3.neg):=(bE.cell (p:=⟨aA,0,none⟩) gF).trans fZ;have dE:w5.cell? ⟨aA,1,none⟩=some (.slice aH aG aF):=(bE.cell (p:=⟨aA,1,none⟩) gF).trans dA;have dG:w5.cell? ⟨aA,2,none⟩=some (.slice aD aC aE):=(bE.cell (p:=⟨aA,2,none⟩) gF).trans dF)
    |(go_at_call 65;refine (H6.out _ _ w5 (((gL.later dI).later aZ).later bE) (((bK.later dI).later aZ).later bE) g5).mono ?_;rintro e w6 ⟨v6,rfl,⟨A7,n7,c7,A8,n8,c8,rfl,h7,h8⟩,bS⟩;have gZ:w.heap.size<w6.heap.size:=Nat.lt_of_lt_of_le dH bS.size;have iC:w.heap.size+1+1<w6.heap.size:=Nat.lt_of_lt_of_le gG bS.size;have iA:aA<w6.heap.size:=Nat.lt_of_lt_of_le gH bS.size;have dV:w6.cell? ⟨w.heap.size,0,none⟩=some (.bool lx.neg):=(bS.cell (p:=⟨w.heap.size,0,none⟩) dH).trans fD;have fL:w6.cell? ⟨w.heap.size,1,none⟩=some (.slice L1 bG bL):=(bS.cell (p:=⟨w.heap.size,1,none⟩) dH).trans dY;have fY:w6.cell? ⟨w.heap.size,2,none⟩=some (.slice L2 bI bP):=(bS.cell (p:=⟨w.heap.size,2,none⟩) dH).trans fR;have fN:w6.cell? ⟨w.heap.size,3,none⟩=some (.bool ly.neg):=(bS.cell (p:=⟨w.heap.size,3,none⟩) dH).trans fF;have fK:w6.cell? ⟨w.heap.size,4,none⟩=some (.slice L3 bN bM):=(bS.cell (p:=⟨w.heap.size,4,none⟩) dH).trans fP;have dR:w6.cell? ⟨w.heap.size,5,none⟩=some (.slice L4 bJ bR):=(bS.cell (p:=⟨w.heap.size,5,none⟩) dH).trans fT;have fE:w6.cell? ⟨w.heap.size+1+1,0,none⟩=some (.bool x.neg):=(bS.cell (p:=⟨w.heap.size+1+1,0,none⟩) gG).trans fU;have fA:w6.cell? ⟨w.heap.size+1+1,1,none⟩=some (.slice X1 bV bW):=(bS.cell (p:=⟨w.heap.size+1+1,1,none⟩) gG).trans dP;have fJ:w6.cell? ⟨w.heap.size+1+1,2,none⟩=some (.slice X2 bU bX):=(bS.cell (p:=⟨w.heap.size+1+1,2,none⟩) gG).trans fO;have dQ:w6.cell? ⟨aA,0,none⟩=some (.bool d3.neg):=(bS.cell (p:=⟨aA,0,none⟩) gH).trans dX;have cY:w6.cell? ⟨aA,1,none⟩=some (.slice aH aG aF):=(bS.cell (p:=⟨aA,1,none⟩) gH).trans dE;have dD:w6.cell? ⟨aA,2,none⟩=some (.slice aD aC aE):=(bS.cell (p:=⟨aA,2,none⟩) gH).trans dG;have q9:=((q3.drew.below aZ q3.lt).below bE (Nat.lt_of_lt_of_le q3.lt aZ.size)).below bS (Nat.lt_of_lt_of_le q3.lt (Nat.le_trans aZ.size bE.size));have y0:=q9.cell 0;have y1:=q9.cell 1;have y2:=q9.cell 2;have f0:=q9.frozen 0;have f1:=q9.frozen 1;have f2:=q9.frozen 2))
  have gP:=aQ.drew.trans (aZ.mono aQ.drew.size)
  have gO:=gP.trans (bE.mono gP.size)
  have gS:=gO.trans (bS.mono gO.size)
  have gJ:=zak gS (g:=w.heap.size+1+1+1) (by omega) (.bool d6.neg) (.slice A7 n7 c7) (.slice A8 n8 c8)
  have gK:=(RatS.mk (q:=d6) h7 h8).res3 q9 d6.neg A7 A8 n7 c7 n8 c8
  go_wp2_with fail
  refine bodyPost_ret (v := .agg #[.bool d6.neg,.slice A7 n7 c7,.slice A8 n8 c8]) (by simp [results,Tryz.results109,go_sem,y0,y1,y2]) rfl ⟨_,rfl,?_,gJ⟩
  rw [HQ.out]
  exact gK
end Go.Proofs.YteajibbphcfmeaaGreatDoor
