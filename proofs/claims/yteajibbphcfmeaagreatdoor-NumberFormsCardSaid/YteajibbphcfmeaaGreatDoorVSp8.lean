/- Contracts of package number's root of a number, and of Root. -/
import Derived.Test.YteajibbphcfmeaaGreatDoorVSp7
import Derived.Test.YteajibbphcfmeaaGreatDoorVRb24
namespace Go.Proofs.YteajibbphcfmeaaGreatDoor
open Go.RowKit Bn
theorem zfI (A A':Option Addr) (n c n' c' x y:Nat) (w:World) (ha:NatS w w.heap.size A n c x) (hb:NatS w w.heap.size A' n' c' y) :
  Calls Tryz.prog 129 #[.slice A n c,.slice A' n' c'] w fun e w'=>e = .returned (.int .i64 (ncmp x y))∧Below w.heap.size w w':=
 (zaM A A' n c n' c' x y w ha hb).mono fun _ _ ⟨he,nq,hw⟩=>⟨he,by rw [hw];exact zab (Below.refl _ _) nq⟩
theorem zhF {x s:Nat} (h:zeG x s):s≤x:=by
 rcases Nat.eq_zero_or_pos s with h0 | h0
 ·omega
 ·exact Nat.le_trans (Nat.le_mul_of_pos_left s h0) h.1
theorem znZ {x y:Nat}:ncmp x y=0↔x=y:=by
 constructor
 ·intro h
  rcases Nat.lt_trichotomy x y with h1 | h1 | h1
  ·rw [ncmp_lt h1] at h;omega
  ·exact h1
  ·rw [ncmp_gt h1] at h;omega
 ·rintro rfl;exact ncmp_eq x
set_option maxHeartbeats 8000000 in
set_option maxRecDepth 100000 in
theorem zg5 (q:Q) (s t:Nat) (v:Value) (w:World) (hT:Tabs w) (hv:RatS w w.heap.size v q) (hl:LenQ q 1048576) (hs:zeG q.top s) (ht:zeG q.bot t) (hbp:0<q.bot) (k:Nat) (hk:zeG (q.top*1000000 / q.bot) k) (HC1:Hid (ncmp (s*s) q.top = -1)) :
  Calls Tryz.prog 115 #[v] w (zb0 w (lowQ false k 1000) (lowQ false (k+1) 1000)):=by
 obtain ⟨A1,n1,c1,A2,n2,c2,rfl,h1,h2⟩:=hv
 have dO:n1≤1048576:=by rw [←h1.len];exact hl.1
 have fM:n2≤1048576:=by rw [←h2.len];exact hl.2
 have fK:(digs s).length≤1048576:=Nat.le_trans (zaa (zhF hs)) hl.1
 have fI:(digs t).length≤1048576:=Nat.le_trans (zaa (zhF ht)) hl.2
 have bS:Below w.heap.size w ((w.alloc (.cells #[.bool q.neg,.slice A1 n1 c1,.slice A2 n2 c2] 91)).alloc (.cells #[.bool false,.slice none 0 0,.slice none 0 0,.bool false,.slice none 0 0,.slice none 0 0] 139)):=(((Below.refl _ _).alloc (by simp<;>omega) _).alloc (by simp<;>omega) _)
 have q0:CBlk ((w.alloc (.cells #[.bool q.neg,.slice A1 n1 c1,.slice A2 n2 c2] 91)).alloc (.cells #[.bool false,.slice none 0 0,.slice none 0 0,.bool false,.slice none 0 0,.slice none 0 0] 139)) (w.heap.size) #[.bool q.neg,.slice A1 n1 c1,.slice A2 n2 c2] 91:=((CBlk.new _ _ _ _ (by simp)).alloc _)
 have q1:CBlk ((w.alloc (.cells #[.bool q.neg,.slice A1 n1 c1,.slice A2 n2 c2] 91)).alloc (.cells #[.bool false,.slice none 0 0,.slice none 0 0,.bool false,.slice none 0 0,.slice none 0 0] 139)) (w.heap.size+1) #[.bool false,.slice none 0 0,.slice none 0 0,.bool false,.slice none 0 0,.slice none 0 0] 139:=(CBlk.new _ _ _ _ (by simp))
 go_enter Tryz.func115,Tryz.ntmps115
 go_wp2_with fail
 generalize ((w.alloc (.cells #[.bool q.neg,.slice A1 n1 c1,.slice A2 n2 c2] 91)).alloc (.cells #[.bool false,.slice none 0 0,.slice none 0 0,.bool false,.slice none 0 0,.slice none 0 0] 139))=W at *
 have bP:w.heap.size<W.drew.heap.size:=q0.lt
 have bE:W.drew.cell? ⟨w.heap.size,1,none⟩=some (.slice A1 n1 c1):=q0.cell 1
 have bB:W.drew.cell? ⟨w.heap.size,2,none⟩=some (.slice A2 n2 c2):=q0.cell 2
 go_region_held3 (fun w'=>w'.cell? ⟨w.heap.size,1,none⟩=some (.slice A1 n1 c1)∧w'.cell? ⟨w.heap.size,2,none⟩=some (.slice A2 n2 c2))
  (first | with_reducible exact ⟨bE,bB⟩ | with_reducible exact ⟨bD,bC⟩ | with_reducible exact ⟨bG,bF⟩)
  (first
   |(have _:=bO;go_at_call 160;refine (zgA A2 n2 c2 q.bot t w1 ((h2.later bS.drew).later bO) ht (by omega)).mono ?_;rintro e w2 ⟨B2,m2,d2,rfl,r2,cP⟩;have cK:w.heap.size<w2.heap.size:=Nat.lt_of_lt_of_le bN cP.size;have bG:w2.cell? ⟨w.heap.size,1,none⟩=some (.slice A1 n1 c1):=(cP.cell (p:=⟨w.heap.size,1,none⟩) bN).trans bD;have bF:w2.cell? ⟨w.heap.size,2,none⟩=some (.slice A2 n2 c2):=(cP.cell (p:=⟨w.heap.size,2,none⟩) bN).trans bC)
   |(go_at_call 160;refine (zgA A1 n1 c1 q.top s W.drew (h1.later bS.drew) hs (by omega)).mono ?_;rintro e w1 ⟨B1,m1,d1,rfl,r1,bO⟩;have bN:w.heap.size<w1.heap.size:=Nat.lt_of_lt_of_le bP bO.size;have bD:w1.cell? ⟨w.heap.size,1,none⟩=some (.slice A1 n1 c1):=(bO.cell (p:=⟨w.heap.size,1,none⟩) bP).trans bE;have bC:w1.cell? ⟨w.heap.size,2,none⟩=some (.slice A2 n2 c2):=(bO.cell (p:=⟨w.heap.size,2,none⟩) bP).trans bB))
 have cT:=((bS.drew.trans (bO.mono bS.drew.size)).trans (cP.mono (Nat.le_trans bS.drew.size bO.size)))
 have dX:=((q0.drew.below bO q0.lt).below cP (Nat.lt_of_lt_of_le q0.lt bO.size))
 have dN:=((q1.drew.below bO q1.lt).below cP (Nat.lt_of_lt_of_le q1.lt bO.size))
 have cY:=r1.later cP
 have dY:=((h1.later bS.drew).later bO).later cP
 have dL:=((h2.later bS.drew).later bO).later cP
 have dS:=hT.later cT
 clear q0 q1 bS bO cP r1 h1 h2 hT bE bB bD bC bG bF bP bN cK
 have fL:m1≤1048576:=by rw [←cY.len];exact fK
 have fQ:m2≤1048576:=by rw [←r2.len];exact fI
 go_wp2_with fail
 obtain ⟨V,hV⟩:∃ V,V=w2:=⟨_,rfl⟩
 subst hV
 have q0:=dX
 have q1:=dN
 have bS:=cT
 have h1:=dY
 have h2:=dL
 have hT:=dS
 clear dX dN cT dY dL dS
 have dP:=q0.cell 1
 obtain ⟨dF,cQ⟩:∃ I:Array Bool→Act→World→Prop,I=(fun cI ac W=>∃ (b0 b1 b2 b3 b4 b5 b6 b7 b8 b9 bI bM bK bJ bH bL:Bool) (bX bU bW bY bZ bR cE cL cA bV cF bT cB cC cG bQ:Value) (B3:Option Addr) (m3:Nat) (d3:Nat),cI=#[b0,b1,b2,b3,b4,b5,b6,b7,b8,b9,bI,bM,bK,bJ,bH,bL]∧ac={ tmps:=#[.agg #[.bool q.neg,.slice A1 n1 c1,.slice A2 n2 c2],.pointer (some ⟨w.heap.size,0,none⟩),.pointer (some ⟨w.heap.size+1,0,none⟩),.slice B1 m1 d1,.slice B2 m2 d2,undef,undef,.pointer (some ⟨w.heap.size,1,none⟩),.slice A1 n1 c1,.slice B1 m1 d1,.pointer (some ⟨w.heap.size,2,none⟩),.slice A2 n2 c2,.slice B2 m2 d2,bX,bU,bW,bY,bZ,bR,cE,cL,cA,bV,cF,bT,cB,cC,cG,bQ,undef,undef,undef,undef,undef,undef,undef,undef,undef,undef,undef,undef,undef,undef,undef,undef,undef],defers:=[] }∧Below V.heap.size V W∧(b0=true→bX = .slice B1 m1 d1)∧(b1=true→bU = .slice B1 m1 d1)∧(b2=true→bW = .slice B3 m3 d3∧NatS W W.heap.size B3 m3 d3 (s*s))∧(b3=true→bY = .pointer (some ⟨w.heap.size,1,none⟩))∧(b4=true→bZ = .slice A1 n1 c1)∧(b5=true→bR = .int .i64 (-1))∧(b6=true→cE = .bool false)∧(b7=true→cL = .bool false)∧(b8=true→True)∧(b9=true→True)∧(bI=true→True)∧(bM=true→True)∧(bK=true→True)∧(bJ=true→True)∧(bH=true→True)∧(bL=true→bQ = .bool false)):=⟨_,rfl⟩
 have aY:=Lib.hid cQ
 clear cQ
 refine zbF (by kernel_rfl) dF (by kernel_rfl) ?_ ?_ ?_
 ·rw [aY.out]
  exact ⟨false,false,false,false,false,false,false,false,false,false,false,false,false,false,false,false,undef,undef,undef,undef,undef,undef,undef,undef,undef,undef,undef,undef,undef,undef,undef,undef,none,0,0,rfl,rfl,Below.drew (Below.refl _ _),(fun h=>by cases h),(fun h=>by cases h),(fun h=>by cases h),(fun h=>by cases h),(fun h=>by cases h),(fun h=>by cases h),(fun h=>by cases h),(fun h=>by cases h),(fun h=>by cases h),(fun h=>by cases h),(fun h=>by cases h),(fun h=>by cases h),(fun h=>by cases h),(fun h=>by cases h),(fun h=>by cases h),(fun h=>by cases h)⟩
 ·intro i op cI ac W ho hI hl aH
  rw [aY.out] at hI
  obtain ⟨b0,b1,b2,b3,b4,b5,b6,b7,b8,b9,bI,bM,bK,bJ,bH,bL,bX,bU,bW,bY,bZ,bR,cE,cL,cA,bV,cF,bT,cB,cC,cG,bQ,B3,m3,d3,rfl,rfl,hb,f0,f1,f2,f3,f4,f5,f6,f7,f8,f9,aN,aK,aM,aL,aJ,aI⟩:=hI
  match i,ho,hl,aH with
  | 0,ho,hl,aH=>
   have cH:b0=false:=Option.some.inj hl
   obtain rfl:=Option.some.inj ho
   have aX:=Lib.hid f0
   have aW:=Lib.hid f1
   have aO:=Lib.hid f2
   have aT:=Lib.hid f3
   have aQ:=Lib.hid f4
   have aV:=Lib.hid f5
   have aP:=Lib.hid f6
   have aS:=Lib.hid f7
   have aU:=Lib.hid f8
   have aR:=Lib.hid f9
   have aD:=Lib.hid aN
   have aF:=Lib.hid aK
   have aG:=Lib.hid aM
   have aE:=Lib.hid aL
   have aA:=Lib.hid aJ
   have aC:=Lib.hid aI
   clear f0 f1 f2 f3 f4 f5 f6 f7 f8 f9 aN aK aM aL aJ aI
   refine zaq ho fun K' hK => ?_
   go_simp
   have f0:=aX.out
   have f1:=aW.out
   have f2:=aO.out
   have f3:=aT.out
   have f4:=aQ.out
   have f5:=aV.out
   have f6:=aP.out
   have f7:=aS.out
   have f8:=aU.out
   have f9:=aR.out
   have aN:=aD.out
   have aK:=aF.out
   have aM:=aG.out
   have aL:=aE.out
   have aJ:=aA.out
   have aI:=aC.out
   refine hK.out _ _ ?_
   rw [aY.out]
   exact ⟨true,b1,b2,b3,b4,b5,b6,b7,b8,b9,bI,bM,bK,bJ,bH,bL,_,bU,bW,bY,bZ,bR,cE,cL,cA,bV,cF,bT,cB,cC,cG,bQ,B3,m3,d3,rfl,rfl,hb,(fun _=>rfl),f1,f2,f3,f4,f5,f6,f7,f8,f9,aN,aK,aM,aL,aJ,aI⟩
  | 1,ho,hl,aH=>
   have cH:b1=false:=Option.some.inj hl
   obtain rfl:=Option.some.inj ho
   have aX:=Lib.hid f0
   have aW:=Lib.hid f1
   have aO:=Lib.hid f2
   have aT:=Lib.hid f3
   have aQ:=Lib.hid f4
   have aV:=Lib.hid f5
   have aP:=Lib.hid f6
   have aS:=Lib.hid f7
   have aU:=Lib.hid f8
   have aR:=Lib.hid f9
   have aD:=Lib.hid aN
   have aF:=Lib.hid aK
   have aG:=Lib.hid aM
   have aE:=Lib.hid aL
   have aA:=Lib.hid aJ
   have aC:=Lib.hid aI
   clear f0 f1 f2 f3 f4 f5 f6 f7 f8 f9 aN aK aM aL aJ aI
   refine zaq ho fun K' hK => ?_
   go_simp
   have f0:=aX.out
   have f1:=aW.out
   have f2:=aO.out
   have f3:=aT.out
   have f4:=aQ.out
   have f5:=aV.out
   have f6:=aP.out
   have f7:=aS.out
   have f8:=aU.out
   have f9:=aR.out
   have aN:=aD.out
   have aK:=aF.out
   have aM:=aG.out
   have aL:=aE.out
   have aJ:=aA.out
   have aI:=aC.out
   refine hK.out _ _ ?_
   rw [aY.out]
   exact ⟨b0,true,b2,b3,b4,b5,b6,b7,b8,b9,bI,bM,bK,bJ,bH,bL,bX,_,bW,bY,bZ,bR,cE,cL,cA,bV,cF,bT,cB,cC,cG,bQ,B3,m3,d3,rfl,rfl,hb,f0,(fun _=>rfl),f2,f3,f4,f5,f6,f7,f8,f9,aN,aK,aM,aL,aJ,aI⟩
  | 2,ho,hl,aH=>
   have cH:b2=false:=Option.some.inj hl
   obtain rfl:=Option.some.inj ho
   have e0:b0=true:=aH ⟨0,.data⟩ (by simp) rfl
   have e1:b1=true:=aH ⟨1,.data⟩ (by simp) rfl
   obtain rfl:=f0 e0
   obtain rfl:=f1 e1
   have aX:=Lib.hid f0
   have aW:=Lib.hid f1
   have aO:=Lib.hid f2
   have aT:=Lib.hid f3
   have aQ:=Lib.hid f4
   have aV:=Lib.hid f5
   have aP:=Lib.hid f6
   have aS:=Lib.hid f7
   have aU:=Lib.hid f8
   have aR:=Lib.hid f9
   have aD:=Lib.hid aN
   have aF:=Lib.hid aK
   have aG:=Lib.hid aM
   have aE:=Lib.hid aL
   have aA:=Lib.hid aJ
   have aC:=Lib.hid aI
   have dA:=Lib.hid e0
   have dG:=Lib.hid e1
   clear f0 f1 f2 f3 f4 f5 f6 f7 f8 f9 aN aK aM aL aJ aI e0 e1
   refine zaq ho fun K' hK => ?_
   go_simp
   go_at_call 105
   refine (zaE B1 B1 m1 d1 m1 d1 s s _ (cY.later hb) (cY.later hb) (by omega) (by omega)).mono ?_
   rintro e W1 ⟨B,m,d,rfl,dO,bO⟩
   have f0:=aX.out
   have f1:=aW.out
   have f2:=aO.out
   have f3:=aT.out
   have f4:=aQ.out
   have f5:=aV.out
   have f6:=aP.out
   have f7:=aS.out
   have f8:=aU.out
   have f9:=aR.out
   have aN:=aD.out
   have aK:=aF.out
   have aM:=aG.out
   have aL:=aE.out
   have aJ:=aA.out
   have aI:=aC.out
   have e0:=dA.out
   have e1:=dG.out
   refine hK.out _ _ ?_
   rw [aY.out]
   exact ⟨b0,b1,true,b3,b4,b5,b6,b7,b8,b9,bI,bM,bK,bJ,bH,bL,_,_,_,bY,bZ,bR,cE,cL,cA,bV,cF,bT,cB,cC,cG,bQ,B,m,d,rfl,rfl,(hb.trans (bO.mono hb.size)),f0,f1,(fun _=>⟨rfl,dO⟩),f3,f4,f5,f6,f7,f8,f9,aN,aK,aM,aL,aJ,aI⟩
  | 3,ho,hl,aH=>
   have cH:b3=false:=Option.some.inj hl
   obtain rfl:=Option.some.inj ho
   have aX:=Lib.hid f0
   have aW:=Lib.hid f1
   have aO:=Lib.hid f2
   have aT:=Lib.hid f3
   have aQ:=Lib.hid f4
   have aV:=Lib.hid f5
   have aP:=Lib.hid f6
   have aS:=Lib.hid f7
   have aU:=Lib.hid f8
   have aR:=Lib.hid f9
   have aD:=Lib.hid aN
   have aF:=Lib.hid aK
   have aG:=Lib.hid aM
   have aE:=Lib.hid aL
   have aA:=Lib.hid aJ
   have aC:=Lib.hid aI
   clear f0 f1 f2 f3 f4 f5 f6 f7 f8 f9 aN aK aM aL aJ aI
   refine zaq ho fun K' hK => ?_
   go_simp
   have f0:=aX.out
   have f1:=aW.out
   have f2:=aO.out
   have f3:=aT.out
   have f4:=aQ.out
   have f5:=aV.out
   have f6:=aP.out
   have f7:=aS.out
   have f8:=aU.out
   have f9:=aR.out
   have aN:=aD.out
   have aK:=aF.out
   have aM:=aG.out
   have aL:=aE.out
   have aJ:=aA.out
   have aI:=aC.out
   refine hK.out _ _ ?_
   rw [aY.out]
   exact ⟨b0,b1,b2,true,b4,b5,b6,b7,b8,b9,bI,bM,bK,bJ,bH,bL,bX,bU,bW,_,bZ,bR,cE,cL,cA,bV,cF,bT,cB,cC,cG,bQ,B3,m3,d3,rfl,rfl,hb,f0,f1,f2,(fun _=>rfl),f4,f5,f6,f7,f8,f9,aN,aK,aM,aL,aJ,aI⟩
  | 4,ho,hl,aH=>
   have cH:b4=false:=Option.some.inj hl
   obtain rfl:=Option.some.inj ho
   have e3:b3=true:=aH ⟨3,.data⟩ (by simp) rfl
   obtain rfl:=f3 e3
   have x1:=(hb.cell (p:=⟨w.heap.size,1,none⟩) q0.lt).trans dP
   have aX:=Lib.hid f0
   have aW:=Lib.hid f1
   have aO:=Lib.hid f2
   have aT:=Lib.hid f3
   have aQ:=Lib.hid f4
   have aV:=Lib.hid f5
   have aP:=Lib.hid f6
   have aS:=Lib.hid f7
   have aU:=Lib.hid f8
   have aR:=Lib.hid f9
   have aD:=Lib.hid aN
   have aF:=Lib.hid aK
   have aG:=Lib.hid aM
   have aE:=Lib.hid aL
   have aA:=Lib.hid aJ
   have aC:=Lib.hid aI
   have dK:=Lib.hid e3
   clear f0 f1 f2 f3 f4 f5 f6 f7 f8 f9 aN aK aM aL aJ aI e3
   refine zaq ho fun K' hK => ?_
   go_simp
   have f0:=aX.out
   have f1:=aW.out
   have f2:=aO.out
   have f3:=aT.out
   have f4:=aQ.out
   have f5:=aV.out
   have f6:=aP.out
   have f7:=aS.out
   have f8:=aU.out
   have f9:=aR.out
   have aN:=aD.out
   have aK:=aF.out
   have aM:=aG.out
   have aL:=aE.out
   have aJ:=aA.out
   have aI:=aC.out
   have e3:=dK.out
   refine hK.out _ _ ?_
   rw [aY.out]
   exact ⟨b0,b1,b2,b3,true,b5,b6,b7,b8,b9,bI,bM,bK,bJ,bH,bL,bX,bU,bW,_,_,bR,cE,cL,cA,bV,cF,bT,cB,cC,cG,bQ,B3,m3,d3,rfl,rfl,hb,f0,f1,f2,f3,(fun _=>rfl),f5,f6,f7,f8,f9,aN,aK,aM,aL,aJ,aI⟩
  | 5,ho,hl,aH=>
   have cH:b5=false:=Option.some.inj hl
   obtain rfl:=Option.some.inj ho
   have e2:b2=true:=aH ⟨2,.data⟩ (by simp) rfl
   have e4:b4=true:=aH ⟨4,.data⟩ (by simp) rfl
   obtain ⟨rfl,dM⟩:=f2 e2
   obtain rfl:=f4 e4
   have aX:=Lib.hid f0
   have aW:=Lib.hid f1
   have aO:=Lib.hid f2
   have aT:=Lib.hid f3
   have aQ:=Lib.hid f4
   have aV:=Lib.hid f5
   have aP:=Lib.hid f6
   have aS:=Lib.hid f7
   have aU:=Lib.hid f8
   have aR:=Lib.hid f9
   have aD:=Lib.hid aN
   have aF:=Lib.hid aK
   have aG:=Lib.hid aM
   have aE:=Lib.hid aL
   have aA:=Lib.hid aJ
   have aC:=Lib.hid aI
   have dE:=Lib.hid e2
   have dB:=Lib.hid e4
   clear f0 f1 f2 f3 f4 f5 f6 f7 f8 f9 aN aK aM aL aJ aI e2 e4
   refine zaq ho fun K' hK => ?_
   go_simp
   go_at_call 129
   refine (zfI B3 A1 m3 d3 n1 c1 (s*s) q.top _ dM (h1.later hb)).mono ?_
   rintro e W1 ⟨rfl,bO⟩
   have f0:=aX.out
   have f1:=aW.out
   have f2:=aO.out
   have f3:=aT.out
   have f4:=aQ.out
   have f5:=aV.out
   have f6:=aP.out
   have f7:=aS.out
   have f8:=aU.out
   have f9:=aR.out
   have aN:=aD.out
   have aK:=aF.out
   have aM:=aG.out
   have aL:=aE.out
   have aJ:=aA.out
   have aI:=aC.out
   have e2:=dE.out
   have e4:=dB.out
   refine hK.out _ _ ?_
   rw [aY.out]
   exact ⟨b0,b1,b2,b3,b4,true,b6,b7,b8,b9,bI,bM,bK,bJ,bH,bL,bX,bU,_,bY,_,_,cE,cL,cA,bV,cF,bT,cB,cC,cG,bQ,B3,m3,d3,rfl,rfl,(hb.trans (bO.mono hb.size)),f0,f1,(fun _=>⟨rfl,dM.later bO⟩),f3,f4,(fun _=>by rw [HC1.out]),f6,f7,f8,f9,aN,aK,aM,aL,aJ,aI⟩
  | 6,ho,hl,aH=>
   have cH:b6=false:=Option.some.inj hl
   obtain rfl:=Option.some.inj ho
   have e5:b5=true:=aH ⟨5,.data⟩ (by simp) rfl
   obtain rfl:=f5 e5
   have aX:=Lib.hid f0
   have aW:=Lib.hid f1
   have aO:=Lib.hid f2
   have aT:=Lib.hid f3
   have aQ:=Lib.hid f4
   have aV:=Lib.hid f5
   have aP:=Lib.hid f6
   have aS:=Lib.hid f7
   have aU:=Lib.hid f8
   have aR:=Lib.hid f9
   have aD:=Lib.hid aN
   have aF:=Lib.hid aK
   have aG:=Lib.hid aM
   have aE:=Lib.hid aL
   have aA:=Lib.hid aJ
   have aC:=Lib.hid aI
   have dI:=Lib.hid e5
   clear f0 f1 f2 f3 f4 f5 f6 f7 f8 f9 aN aK aM aL aJ aI e5
   refine zaq ho fun K' hK => ?_
   go_simp
   have f0:=aX.out
   have f1:=aW.out
   have f2:=aO.out
   have f3:=aT.out
   have f4:=aQ.out
   have f5:=aV.out
   have f6:=aP.out
   have f7:=aS.out
   have f8:=aU.out
   have f9:=aR.out
   have aN:=aD.out
   have aK:=aF.out
   have aM:=aG.out
   have aL:=aE.out
   have aJ:=aA.out
   have aI:=aC.out
   have e5:=dI.out
   refine hK.out _ _ ?_
   rw [aY.out]
   exact ⟨b0,b1,b2,b3,b4,b5,true,b7,b8,b9,bI,bM,bK,bJ,bH,bL,bX,bU,bW,bY,bZ,_,_,cL,cA,bV,cF,bT,cB,cC,cG,bQ,B3,m3,d3,rfl,rfl,hb,f0,f1,f2,f3,f4,f5,(fun _=>rfl),f7,f8,f9,aN,aK,aM,aL,aJ,aI⟩
  | 7,ho,hl,aH=>
   have cH:b7=false:=Option.some.inj hl
   obtain rfl:=Option.some.inj ho
   have e6:b6=true:=aH ⟨6,.data⟩ (by simp) rfl
   obtain rfl:=f6 e6
   have aX:=Lib.hid f0
   have aW:=Lib.hid f1
   have aO:=Lib.hid f2
   have aT:=Lib.hid f3
   have aQ:=Lib.hid f4
   have aV:=Lib.hid f5
   have aP:=Lib.hid f6
   have aS:=Lib.hid f7
   have aU:=Lib.hid f8
   have aR:=Lib.hid f9
   have aD:=Lib.hid aN
   have aF:=Lib.hid aK
   have aG:=Lib.hid aM
   have aE:=Lib.hid aL
   have aA:=Lib.hid aJ
   have aC:=Lib.hid aI
   have dH:=Lib.hid e6
   clear f0 f1 f2 f3 f4 f5 f6 f7 f8 f9 aN aK aM aL aJ aI e6
   refine zaq ho fun K' hK => ?_
   go_simp
   have f0:=aX.out
   have f1:=aW.out
   have f2:=aO.out
   have f3:=aT.out
   have f4:=aQ.out
   have f5:=aV.out
   have f6:=aP.out
   have f7:=aS.out
   have f8:=aU.out
   have f9:=aR.out
   have aN:=aD.out
   have aK:=aF.out
   have aM:=aG.out
   have aL:=aE.out
   have aJ:=aA.out
   have aI:=aC.out
   have e6:=dH.out
   refine hK.out _ _ ?_
   rw [aY.out]
   exact ⟨b0,b1,b2,b3,b4,b5,b6,true,b8,b9,bI,bM,bK,bJ,bH,bL,bX,bU,bW,bY,bZ,bR,_,_,cA,bV,cF,bT,cB,cC,cG,bQ,B3,m3,d3,rfl,rfl,hb,f0,f1,f2,f3,f4,f5,f6,(fun _=>rfl),f8,f9,aN,aK,aM,aL,aJ,aI⟩
  | 8,ho,hl,aH=>
   have cH:b8=false:=Option.some.inj hl
   obtain rfl:=Option.some.inj ho
   have e7:b7=true:=aH ⟨7,.guard⟩ (by simp) rfl
   obtain rfl:=f7 e7
   have aX:=Lib.hid f0
   have aW:=Lib.hid f1
   have aO:=Lib.hid f2
   have aT:=Lib.hid f3
   have aQ:=Lib.hid f4
   have aV:=Lib.hid f5
   have aP:=Lib.hid f6
   have aS:=Lib.hid f7
   have aU:=Lib.hid f8
   have aR:=Lib.hid f9
   have aD:=Lib.hid aN
   have aF:=Lib.hid aK
   have aG:=Lib.hid aM
   have aE:=Lib.hid aL
   have aA:=Lib.hid aJ
   have aC:=Lib.hid aI
   have bA:=Lib.hid e7
   clear f0 f1 f2 f3 f4 f5 f6 f7 f8 f9 aN aK aM aL aJ aI e7
   refine zaq ho fun K' hK => ?_
   go_simp
   have f0:=aX.out
   have f1:=aW.out
   have f2:=aO.out
   have f3:=aT.out
   have f4:=aQ.out
   have f5:=aV.out
   have f6:=aP.out
   have f7:=aS.out
   have f8:=aU.out
   have f9:=aR.out
   have aN:=aD.out
   have aK:=aF.out
   have aM:=aG.out
   have aL:=aE.out
   have aJ:=aA.out
   have aI:=aC.out
   have e7:=bA.out
   refine hK.out _ _ ?_
   rw [aY.out]
   exact ⟨b0,b1,b2,b3,b4,b5,b6,b7,true,b9,bI,bM,bK,bJ,bH,bL,bX,bU,bW,bY,bZ,bR,cE,_,_,bV,cF,bT,cB,cC,cG,bQ,B3,m3,d3,rfl,rfl,hb,f0,f1,f2,f3,f4,f5,f6,f7,(fun _=>trivial),f9,aN,aK,aM,aL,aJ,aI⟩
  | 9,ho,hl,aH=>
   have cH:b9=false:=Option.some.inj hl
   obtain rfl:=Option.some.inj ho
   have e7:b7=true:=aH ⟨7,.guard⟩ (by simp) rfl
   obtain rfl:=f7 e7
   have aX:=Lib.hid f0
   have aW:=Lib.hid f1
   have aO:=Lib.hid f2
   have aT:=Lib.hid f3
   have aQ:=Lib.hid f4
   have aV:=Lib.hid f5
   have aP:=Lib.hid f6
   have aS:=Lib.hid f7
   have aU:=Lib.hid f8
   have aR:=Lib.hid f9
   have aD:=Lib.hid aN
   have aF:=Lib.hid aK
   have aG:=Lib.hid aM
   have aE:=Lib.hid aL
   have aA:=Lib.hid aJ
   have aC:=Lib.hid aI
   have bA:=Lib.hid e7
   clear f0 f1 f2 f3 f4 f5 f6 f7 f8 f9 aN aK aM aL aJ aI e7
   refine zaq ho fun K' hK => ?_
   go_simp
   have f0:=aX.out
   have f1:=aW.out
   have f2:=aO.out
   have f3:=aT.out
   have f4:=aQ.out
   have f5:=aV.out
   have f6:=aP.out
   have f7:=aS.out
   have f8:=aU.out
   have f9:=aR.out
   have aN:=aD.out
   have aK:=aF.out
   have aM:=aG.out
   have aL:=aE.out
   have aJ:=aA.out
   have aI:=aC.out
   have e7:=bA.out
   refine hK.out _ _ ?_
   rw [aY.out]
   exact ⟨b0,b1,b2,b3,b4,b5,b6,b7,b8,true,bI,bM,bK,bJ,bH,bL,bX,bU,bW,bY,bZ,bR,cE,_,cA,_,cF,bT,cB,cC,cG,bQ,B3,m3,d3,rfl,rfl,hb,f0,f1,f2,f3,f4,f5,f6,f7,f8,(fun _=>trivial),aN,aK,aM,aL,aJ,aI⟩
  | 10,ho,hl,aH=>
   have cH:bI=false:=Option.some.inj hl
   obtain rfl:=Option.some.inj ho
   have e7:b7=true:=aH ⟨7,.guard⟩ (by simp) rfl
   obtain rfl:=f7 e7
   have aX:=Lib.hid f0
   have aW:=Lib.hid f1
   have aO:=Lib.hid f2
   have aT:=Lib.hid f3
   have aQ:=Lib.hid f4
   have aV:=Lib.hid f5
   have aP:=Lib.hid f6
   have aS:=Lib.hid f7
   have aU:=Lib.hid f8
   have aR:=Lib.hid f9
   have aD:=Lib.hid aN
   have aF:=Lib.hid aK
   have aG:=Lib.hid aM
   have aE:=Lib.hid aL
   have aA:=Lib.hid aJ
   have aC:=Lib.hid aI
   have bA:=Lib.hid e7
   clear f0 f1 f2 f3 f4 f5 f6 f7 f8 f9 aN aK aM aL aJ aI e7
   refine zaq ho fun K' hK => ?_
   go_simp
   have f0:=aX.out
   have f1:=aW.out
   have f2:=aO.out
   have f3:=aT.out
   have f4:=aQ.out
   have f5:=aV.out
   have f6:=aP.out
   have f7:=aS.out
   have f8:=aU.out
   have f9:=aR.out
   have aN:=aD.out
   have aK:=aF.out
   have aM:=aG.out
   have aL:=aE.out
   have aJ:=aA.out
   have aI:=aC.out
   have e7:=bA.out
   refine hK.out _ _ ?_
   rw [aY.out]
   exact ⟨b0,b1,b2,b3,b4,b5,b6,b7,b8,b9,true,bM,bK,bJ,bH,bL,bX,bU,bW,bY,bZ,bR,cE,_,cA,bV,_,bT,cB,cC,cG,bQ,B3,m3,d3,rfl,rfl,hb,f0,f1,f2,f3,f4,f5,f6,f7,f8,f9,(fun _=>trivial),aK,aM,aL,aJ,aI⟩
  | 11,ho,hl,aH=>
   have cH:bM=false:=Option.some.inj hl
   obtain rfl:=Option.some.inj ho
   have e7:b7=true:=aH ⟨7,.guard⟩ (by simp) rfl
   obtain rfl:=f7 e7
   have aX:=Lib.hid f0
   have aW:=Lib.hid f1
   have aO:=Lib.hid f2
   have aT:=Lib.hid f3
   have aQ:=Lib.hid f4
   have aV:=Lib.hid f5
   have aP:=Lib.hid f6
   have aS:=Lib.hid f7
   have aU:=Lib.hid f8
   have aR:=Lib.hid f9
   have aD:=Lib.hid aN
   have aF:=Lib.hid aK
   have aG:=Lib.hid aM
   have aE:=Lib.hid aL
   have aA:=Lib.hid aJ
   have aC:=Lib.hid aI
   have bA:=Lib.hid e7
   clear f0 f1 f2 f3 f4 f5 f6 f7 f8 f9 aN aK aM aL aJ aI e7
   refine zaq ho fun K' hK => ?_
   go_simp
   have f0:=aX.out
   have f1:=aW.out
   have f2:=aO.out
   have f3:=aT.out
   have f4:=aQ.out
   have f5:=aV.out
   have f6:=aP.out
   have f7:=aS.out
   have f8:=aU.out
   have f9:=aR.out
   have aN:=aD.out
   have aK:=aF.out
   have aM:=aG.out
   have aL:=aE.out
   have aJ:=aA.out
   have aI:=aC.out
   have e7:=bA.out
   refine hK.out _ _ ?_
   rw [aY.out]
   exact ⟨b0,b1,b2,b3,b4,b5,b6,b7,b8,b9,bI,true,bK,bJ,bH,bL,bX,bU,bW,bY,bZ,bR,cE,_,cA,bV,cF,_,cB,cC,cG,bQ,B3,m3,d3,rfl,rfl,hb,f0,f1,f2,f3,f4,f5,f6,f7,f8,f9,aN,(fun _=>trivial),aM,aL,aJ,aI⟩
  | 12,ho,hl,aH=>
   have cH:bK=false:=Option.some.inj hl
   obtain rfl:=Option.some.inj ho
   have e7:b7=true:=aH ⟨7,.guard⟩ (by simp) rfl
   obtain rfl:=f7 e7
   have aX:=Lib.hid f0
   have aW:=Lib.hid f1
   have aO:=Lib.hid f2
   have aT:=Lib.hid f3
   have aQ:=Lib.hid f4
   have aV:=Lib.hid f5
   have aP:=Lib.hid f6
   have aS:=Lib.hid f7
   have aU:=Lib.hid f8
   have aR:=Lib.hid f9
   have aD:=Lib.hid aN
   have aF:=Lib.hid aK
   have aG:=Lib.hid aM
   have aE:=Lib.hid aL
   have aA:=Lib.hid aJ
   have aC:=Lib.hid aI
   have bA:=Lib.hid e7
   clear f0 f1 f2 f3 f4 f5 f6 f7 f8 f9 aN aK aM aL aJ aI e7
   refine zaq ho fun K' hK => ?_
   go_simp
   have f0:=aX.out
   have f1:=aW.out
   have f2:=aO.out
   have f3:=aT.out
   have f4:=aQ.out
   have f5:=aV.out
   have f6:=aP.out
   have f7:=aS.out
   have f8:=aU.out
   have f9:=aR.out
   have aN:=aD.out
   have aK:=aF.out
   have aM:=aG.out
   have aL:=aE.out
   have aJ:=aA.out
   have aI:=aC.out
   have e7:=bA.out
   refine hK.out _ _ ?_
   rw [aY.out]
   exact ⟨b0,b1,b2,b3,b4,b5,b6,b7,b8,b9,bI,bM,true,bJ,bH,bL,bX,bU,bW,bY,bZ,bR,cE,_,cA,bV,cF,bT,_,cC,cG,bQ,B3,m3,d3,rfl,rfl,hb,f0,f1,f2,f3,f4,f5,f6,f7,f8,f9,aN,aK,(fun _=>trivial),aL,aJ,aI⟩
  | 13,ho,hl,aH=>
   have cH:bJ=false:=Option.some.inj hl
   obtain rfl:=Option.some.inj ho
   have e7:b7=true:=aH ⟨7,.guard⟩ (by simp) rfl
   obtain rfl:=f7 e7
   have aX:=Lib.hid f0
   have aW:=Lib.hid f1
   have aO:=Lib.hid f2
   have aT:=Lib.hid f3
   have aQ:=Lib.hid f4
   have aV:=Lib.hid f5
   have aP:=Lib.hid f6
   have aS:=Lib.hid f7
   have aU:=Lib.hid f8
   have aR:=Lib.hid f9
   have aD:=Lib.hid aN
   have aF:=Lib.hid aK
   have aG:=Lib.hid aM
   have aE:=Lib.hid aL
   have aA:=Lib.hid aJ
   have aC:=Lib.hid aI
   have bA:=Lib.hid e7
   clear f0 f1 f2 f3 f4 f5 f6 f7 f8 f9 aN aK aM aL aJ aI e7
   refine zaq ho fun K' hK => ?_
   go_simp
   have f0:=aX.out
   have f1:=aW.out
   have f2:=aO.out
   have f3:=aT.out
   have f4:=aQ.out
   have f5:=aV.out
   have f6:=aP.out
   have f7:=aS.out
   have f8:=aU.out
   have f9:=aR.out
   have aN:=aD.out
   have aK:=aF.out
   have aM:=aG.out
   have aL:=aE.out
   have aJ:=aA.out
   have aI:=aC.out
   have e7:=bA.out
   refine hK.out _ _ ?_
   rw [aY.out]
   exact ⟨b0,b1,b2,b3,b4,b5,b6,b7,b8,b9,bI,bM,bK,true,bH,bL,bX,bU,bW,bY,bZ,bR,cE,_,cA,bV,cF,bT,cB,_,cG,bQ,B3,m3,d3,rfl,rfl,hb,f0,f1,f2,f3,f4,f5,f6,f7,f8,f9,aN,aK,aM,(fun _=>trivial),aJ,aI⟩
  | 14,ho,hl,aH=>
   have cH:bH=false:=Option.some.inj hl
   obtain rfl:=Option.some.inj ho
   have e7:b7=true:=aH ⟨7,.guard⟩ (by simp) rfl
   obtain rfl:=f7 e7
   have aX:=Lib.hid f0
   have aW:=Lib.hid f1
   have aO:=Lib.hid f2
   have aT:=Lib.hid f3
   have aQ:=Lib.hid f4
   have aV:=Lib.hid f5
   have aP:=Lib.hid f6
   have aS:=Lib.hid f7
   have aU:=Lib.hid f8
   have aR:=Lib.hid f9
   have aD:=Lib.hid aN
   have aF:=Lib.hid aK
   have aG:=Lib.hid aM
   have aE:=Lib.hid aL
   have aA:=Lib.hid aJ
   have aC:=Lib.hid aI
   have bA:=Lib.hid e7
   clear f0 f1 f2 f3 f4 f5 f6 f7 f8 f9 aN aK aM aL aJ aI e7
   refine zaq ho fun K' hK => ?_
   go_simp
   have f0:=aX.out
   have f1:=aW.out
   have f2:=aO.out
   have f3:=aT.out
   have f4:=aQ.out
   have f5:=aV.out
   have f6:=aP.out
   have f7:=aS.out
   have f8:=aU.out
   have f9:=aR.out
   have aN:=aD.out
   have aK:=aF.out
   have aM:=aG.out
   have aL:=aE.out
   have aJ:=aA.out
   have aI:=aC.out
   have e7:=bA.out
   refine hK.out _ _ ?_
   rw [aY.out]
   exact ⟨b0,b1,b2,b3,b4,b5,b6,b7,b8,b9,bI,bM,bK,bJ,true,bL,bX,bU,bW,bY,bZ,bR,cE,_,cA,bV,cF,bT,cB,cC,_,bQ,B3,m3,d3,rfl,rfl,hb,f0,f1,f2,f3,f4,f5,f6,f7,f8,f9,aN,aK,aM,aL,(fun _=>trivial),aI⟩
  | 15,ho,hl,aH=>
   have cH:bL=false:=Option.some.inj hl
   obtain rfl:=Option.some.inj ho
   have e7:b7=true:=aH ⟨7,.data⟩ (by simp) rfl
   obtain rfl:=f7 e7
   have aX:=Lib.hid f0
   have aW:=Lib.hid f1
   have aO:=Lib.hid f2
   have aT:=Lib.hid f3
   have aQ:=Lib.hid f4
   have aV:=Lib.hid f5
   have aP:=Lib.hid f6
   have aS:=Lib.hid f7
   have aU:=Lib.hid f8
   have aR:=Lib.hid f9
   have aD:=Lib.hid aN
   have aF:=Lib.hid aK
   have aG:=Lib.hid aM
   have aE:=Lib.hid aL
   have aA:=Lib.hid aJ
   have aC:=Lib.hid aI
   have bA:=Lib.hid e7
   clear f0 f1 f2 f3 f4 f5 f6 f7 f8 f9 aN aK aM aL aJ aI e7
   refine zaq ho fun K' hK => ?_
   go_simp
   have f0:=aX.out
   have f1:=aW.out
   have f2:=aO.out
   have f3:=aT.out
   have f4:=aQ.out
   have f5:=aV.out
   have f6:=aP.out
   have f7:=aS.out
   have f8:=aU.out
   have f9:=aR.out
   have aN:=aD.out
   have aK:=aF.out
   have aM:=aG.out
   have aL:=aE.out
   have aJ:=aA.out
   have aI:=aC.out
   have e7:=bA.out
   refine hK.out _ _ ?_
   rw [aY.out]
   exact ⟨b0,b1,b2,b3,b4,b5,b6,b7,b8,b9,bI,bM,bK,bJ,bH,true,bX,bU,bW,bY,bZ,bR,cE,_,cA,bV,cF,bT,cB,cC,cG,_,B3,m3,d3,rfl,rfl,hb,f0,f1,f2,f3,f4,f5,f6,f7,f8,f9,aN,aK,aM,aL,aJ,(fun _=>rfl)⟩
  | n+16,ho,hl,aH=>exact absurd ho (by simp)
 ·intro cI ac w4 hI aZ
  rw [aY.out] at hI
  obtain ⟨b0,b1,b2,b3,b4,b5,b6,b7,b8,b9,bI,bM,bK,bJ,bH,bL,bX,bU,bW,bY,bZ,bR,cE,cL,cA,bV,cF,bT,cB,cC,cG,bQ,B3,m3,d3,rfl,rfl,hb,f0,f1,f2,f3,f4,f5,f6,f7,f8,f9,aN,aK,aM,aL,aJ,aI⟩:=hI
  have e0:b0=true:=aZ 0 b0 (by decide) rfl
  have e1:b1=true:=aZ 1 b1 (by decide) rfl
  have e2:b2=true:=aZ 2 b2 (by decide) rfl
  have e3:b3=true:=aZ 3 b3 (by decide) rfl
  have e4:b4=true:=aZ 4 b4 (by decide) rfl
  have e5:b5=true:=aZ 5 b5 (by decide) rfl
  have e6:b6=true:=aZ 6 b6 (by decide) rfl
  have e7:b7=true:=aZ 7 b7 (by decide) rfl
  have e8:b8=true:=aZ 8 b8 (by decide) rfl
  have e9:b9=true:=aZ 9 b9 (by decide) rfl
  have fH:bI=true:=aZ 10 bI (by decide) rfl
  have fJ:bM=true:=aZ 11 bM (by decide) rfl
  have fC:bK=true:=aZ 12 bK (by decide) rfl
  have fB:bJ=true:=aZ 13 bJ (by decide) rfl
  have fG:bH=true:=aZ 14 bH (by decide) rfl
  have fE:bL=true:=aZ 15 bL (by decide) rfl
  subst e0
  subst e1
  subst e2
  subst e3
  subst e4
  subst e5
  subst e6
  subst e7
  subst e8
  subst e9
  subst fH
  subst fJ
  subst fC
  subst fB
  subst fG
  subst fE
  obtain rfl:=aI rfl
  have dQ:=bS.trans (hb.mono bS.size)
  have dR:=q0.below hb q0.lt
  have dV:=q1.below hb q1.lt
  have dW:=h1.later hb
  have dU:=h2.later hb
  have dZ:=hT.later (show Below V.heap.size V w4 from hb)
  clear hb cY r2 h1 h2 hT q0 q1 bS dP
  go_wp2_with fail
  obtain ⟨W,hW⟩:∃ W,W=w4:=⟨_,rfl⟩
  subst hW
  have q0:=dR
  have q1:=dV
  have bS:=dQ
  have h1:=dW
  have h2:=dU
  have hT:=dZ
  clear dR dV dQ dW dU dZ
  have cZ:Below W.heap.size W W.drew:=Below.drew (Below.refl _ _)
  have bP:w.heap.size<W.drew.heap.size:=q0.lt
  have bE:W.drew.cell? ⟨w.heap.size,1,none⟩=some (.slice A1 n1 c1):=q0.cell 1
  have bB:W.drew.cell? ⟨w.heap.size,2,none⟩=some (.slice A2 n2 c2):=q0.cell 2
  go_region_held3 (fun w'=>w'.cell? ⟨w.heap.size,1,none⟩=some (.slice A1 n1 c1)∧w'.cell? ⟨w.heap.size,2,none⟩=some (.slice A2 n2 c2))
   (first | with_reducible exact ⟨bE,bB⟩ | with_reducible exact ⟨bD,bC⟩ | with_reducible exact ⟨bG,bF⟩ | with_reducible exact ⟨cO,cM⟩)
   (first
    |(have _:=cN;go_at_call 142;refine (zcs B8 A2 m8 d8 n2 c2 (q.top*1000000) q.bot w8 r8 (((h2.later cZ).later cJ).later cN) hbp (by have h:=r8.len;have h2:(digs 1000000).length≤1:=digs_length_le (by decide);have h3:=zaA hl.1 h2;omega)).mono ?_;rintro e w9 ⟨B9,m9,d9,Ba,ma,da,rfl,r9,ra,cS⟩;have dD:w.heap.size<w9.heap.size:=Nat.lt_of_lt_of_le cK cS.size;have cO:w9.cell? ⟨w.heap.size,1,none⟩=some (.slice A1 n1 c1):=(cS.cell (p:=⟨w.heap.size,1,none⟩) cK).trans bG;have cM:w9.cell? ⟨w.heap.size,2,none⟩=some (.slice A2 n2 c2):=(cS.cell (p:=⟨w.heap.size,2,none⟩) cK).trans bF)
    |(have _:=cJ;go_at_call 105;refine (zaE A1 B7 n1 c1 m7 d7 q.top 1000000 w7 ((h1.later cZ).later cJ) r7 (by omega) (by have h:=r7.len;have h2:(digs (Int.toNat 1000000)).length≤1:=digs_length_le (by decide);omega)).mono ?_;rintro e w8 ⟨B8,m8,d8,rfl,r8,cN⟩;have cK:w.heap.size<w8.heap.size:=Nat.lt_of_lt_of_le bN cN.size;have bG:w8.cell? ⟨w.heap.size,1,none⟩=some (.slice A1 n1 c1):=(cN.cell (p:=⟨w.heap.size,1,none⟩) bN).trans bD;have bF:w8.cell? ⟨w.heap.size,2,none⟩=some (.slice A2 n2 c2):=(cN.cell (p:=⟨w.heap.size,2,none⟩) bN).trans bC)
    |(go_at_call 102;refine (zah 1000000 W.drew (by omega) (by omega)).mono ?_;rintro e w7 ⟨B7,m7,d7,rfl,r7,cJ⟩;have bN:w.heap.size<w7.heap.size:=Nat.lt_of_lt_of_le bP cJ.size;have bD:w7.cell? ⟨w.heap.size,1,none⟩=some (.slice A1 n1 c1):=(cJ.cell (p:=⟨w.heap.size,1,none⟩) bP).trans bE;have bC:w7.cell? ⟨w.heap.size,2,none⟩=some (.slice A2 n2 c2):=(cJ.cell (p:=⟨w.heap.size,2,none⟩) bP).trans bB))
  have fA:=(((bS.drew.trans (cJ.mono bS.drew.size)).trans (cN.mono (Nat.le_trans bS.drew.size cJ.size))).trans (cS.mono (Nat.le_trans (Nat.le_trans bS.drew.size cJ.size) cN.size)))
  have dT:=(((q1.drew.below cJ q1.lt).below cN (Nat.lt_of_lt_of_le q1.lt cJ.size)).below cS (Nat.lt_of_lt_of_le (Nat.lt_of_lt_of_le q1.lt cJ.size) cN.size))
  have fD:=(((hT.later cZ).later cJ).later cN).later cS
  clear cJ cN cS r7 r8 ra h1 h2 q0 q1 bS cZ hT bE bB bD bC bG bF cO cM bP bN cK dD
  have h9:m9≤1048577:=by
   rw [←r9.len]
   have h2:(digs 1000000).length≤1:=digs_length_le (by decide)
   exact Nat.le_trans (zaa (Nat.div_le_self _ _)) (zaA hl.1 h2)
  have fN:(digs k).length≤1048577:=by
   have h2:(digs 1000000).length≤1:=digs_length_le (by decide)
   exact Nat.le_trans (zaa (Nat.le_trans (zhF hk) (Nat.div_le_self _ _))) (zaA hl.1 h2)
  go_wp2_with fail
  refine (zgA B9 m9 d9 _ k w9 r9 hk (by omega)).mono ?_
  rintro e fF ⟨Bk,mk,dk,rfl,rk,cR⟩
  have cW:=fA.trans (cR.mono fA.size)
  have cV:=dT.below cR dT.lt
  have dJ:=fD.later cR
  go_wp2_with fail
  refine (zij k 1000 Bk mk dk fF dJ rk (by have:=rk.len;omega) (by omega)).mono ?_
  rintro e fO ⟨fP,rfl,⟨E1,x1,f1,E2,x2,f2,E3,x3,f3,E4,x4,f4,rfl,k1,k2,k3,k4⟩,cU⟩
  have dC:=cW.trans (cU.mono cW.size)
  have qR:=cV.below cU cV.lt
  have y0:=qR.cell 0
  have y1:=qR.cell 1
  have y2:=qR.cell 2
  have y3:=qR.cell 3
  have y4:=qR.cell 4
  have y5:=qR.cell 5
  have z0:=qR.frozen 0
  have z1:=qR.frozen 1
  have z2:=qR.frozen 2
  have z3:=qR.frozen 3
  have z4:=qR.frozen 4
  have z5:=qR.frozen 5
  have hI:=zbK (p:=lowQ false k 1000) (q:=lowQ false (k+1) 1000) qR dC (by omega) rfl k1 k2 k3 k4
  unfold Go.Proofs.YteajibbphcfmeaaGreatDoor.set6 at hI
  have HI:=Lib.hid hI
  clear hI k1 k2 k3 k4
  go_wp2
  refine bodyPost_ret (v := .agg #[.bool (lowQ false k 1000).neg,.slice E1 x1 f1,.slice E2 x2 f2,.bool (lowQ false (k+1) 1000).neg,.slice E3 x3 f3,.slice E4 x4 f4]) (by simp [results,Tryz.results115,go_sem,y0,y1,y2,y3,y4,y5]) rfl ⟨_,rfl,HI.out⟩
set_option maxHeartbeats 4000000 in
set_option maxRecDepth 100000 in
theorem zow (x:Int) (p:Q) (s:ByteArray) (w:World) (hT:Tabs w) (H0:Hid (x≠0)) (HR:Hid (∀ W,Tabs W→Calls Tryz.prog 63 #[.string s] W (zay W p x))) :
  Calls Tryz.prog 55 #[.string s] w (zc8 w [] [] x):=by
 have aL:(x != 0)=true:=by simpa using H0.out
 have aA:Below w.heap.size w (w.alloc (.cells #[.string { data:=#[] },.string { data:=#[] }] 74)):=((Below.refl _ _).alloc (by simp<;>omega) _)
 have q0:CBlk (w.alloc (.cells #[.string { data:=#[] },.string { data:=#[] }] 74)) (w.heap.size) #[.string { data:=#[] },.string { data:=#[] }] 74:=(CBlk.new _ _ _ _ (by simp))
 go_enter Tryz.func55,Tryz.ntmps55
 go_upto_region 1 with (fail)
 generalize (w.alloc (.cells #[.string { data:=#[] },.string { data:=#[] }] 74))=W at *
 go_wp2_with fail
 refine (HR.out W (hT.later aA)).mono ?_
 rintro e w2 ⟨v2,rfl,⟨A1,n1,c1,A2,n2,c2,rfl,h1,h2⟩,aF⟩
 have aD:Below w2.heap.size w2 (w2.alloc (.cells #[.bool p.neg,.slice A1 n1 c1,.slice A2 n2 c2] 91)):=(Below.refl _ _).alloc (Nat.le_refl _) _
 have aG:=aA.trans (aF.mono aA.size)
 have aH:=aG.trans (aD.mono aG.size)
 have aC:=(q0.below aF q0.lt).alloc (.cells #[.bool p.neg,.slice A1 n1 c1,.slice A2 n2 c2] 91)
 have aI:CBlk (w2.alloc (.cells #[.bool p.neg,.slice A1 n1 c1,.slice A2 n2 c2] 91)) w2.heap.size #[.bool p.neg,.slice A1 n1 c1,.slice A2 n2 c2] 91:=CBlk.new _ _ _ _ rfl
 have aK:=h1.later aD
 have aJ:=h2.later aD
 clear q0 aA aF aG h1 h2 aD
 go_upto_region 2 with (fail)
 generalize (w2.alloc (.cells #[.bool p.neg,.slice A1 n1 c1,.slice A2 n2 c2] 91))=w3 at *
 have y0:=aC.cell 0
 have y1:=aC.cell 1
 have f0:=aC.frozen 0
 have f1:=aC.frozen 1
 have aE:=zbH aH (g:=w.heap.size) (by omega) (.string ⟨#[]⟩) (.string ⟨#[]⟩)
 go_wp2
 refine bodyPost_ret (v := .tuple #[.agg #[.string ⟨#[]⟩,.string ⟨#[]⟩],.int .i64 x]) (by simp [results,Tryz.results55,go_sem,y0,y1]) rfl ⟨⟨#[]⟩,⟨#[]⟩,rfl,rfl,rfl,aE⟩
set_option maxHeartbeats 4000000 in
set_option maxRecDepth 100000 in
theorem znE (x:Int) (p r1 r2:Q) (s:ByteArray) (w:World) (hT:Tabs w) (H0:Hid (x=0)) (hn:p.neg=false) (l1:LenQ r1 268435456) (l2:LenQ r2 268435456) (HR:Hid (∀ W,Tabs W→Calls Tryz.prog 63 #[.string s] W (zay W p x)))
  (HO:Hid (∀ v W,Tabs W→RatS W W.heap.size v p→Calls Tryz.prog 115 #[v] W (zb0 W r1 r2))) :
  Calls Tryz.prog 55 #[.string s] w (zc8 w (zdS r1 r2) (zdT r1 r2) (zci r1 r2)):=by
 have aZ:(x != 0)=false:=by rw [H0.out];rfl
 have HN:=Lib.hid hn
 clear hn
 have aD:Below w.heap.size w (w.alloc (.cells #[.string { data:=#[] },.string { data:=#[] }] 74)):=((Below.refl _ _).alloc (by simp<;>omega) _)
 have q0:CBlk (w.alloc (.cells #[.string { data:=#[] },.string { data:=#[] }] 74)) (w.heap.size) #[.string { data:=#[] },.string { data:=#[] }] 74:=(CBlk.new _ _ _ _ (by simp))
 go_enter Tryz.func55,Tryz.ntmps55
 go_upto_region 1 with (fail)
 generalize (w.alloc (.cells #[.string { data:=#[] },.string { data:=#[] }] 74))=W at *
 go_wp2_with fail
 refine (HR.out W (hT.later aD)).mono ?_
 rintro e w2 ⟨v2,rfl,⟨A1,n1,c1,A2,n2,c2,rfl,h1,h2⟩,aK⟩
 have aG:Below w2.heap.size w2 (w2.alloc (.cells #[.bool p.neg,.slice A1 n1 c1,.slice A2 n2 c2] 91)):=(Below.refl _ _).alloc (Nat.le_refl _) _
 have aI:=aD.trans (aK.mono aD.size)
 have aF:=aI.trans (aG.mono aI.size)
 have aJ:=(q0.below aK q0.lt).alloc (.cells #[.bool p.neg,.slice A1 n1 c1,.slice A2 n2 c2] 91)
 have aE:CBlk (w2.alloc (.cells #[.bool p.neg,.slice A1 n1 c1,.slice A2 n2 c2] 91)) w2.heap.size #[.bool p.neg,.slice A1 n1 c1,.slice A2 n2 c2] 91:=CBlk.new _ _ _ _ rfl
 have aR:=h1.later aG
 have aQ:=h2.later aG
 clear q0 aD aK aI h1 h2 aG
 go_upto_region 2 with (fail)
 generalize (w2.alloc (.cells #[.bool p.neg,.slice A1 n1 c1,.slice A2 n2 c2] 91))=w3 at *
 have aS:=aE.cell 0
 have aW:=aE.cell 1
 have aX:=aE.cell 2
 rw [HN.out] at aS
 have aL:=hT.later aF
 have aO:RatS w3 w3.heap.size (.agg #[.bool false,.slice A1 n1 c1,.slice A2 n2 c2]) p:=by have h:=RatS.mk (q:=p) aR aQ;rw [HN.out] at h;exact h
 go_wp2_with fail
 refine (HO.out _ w3 aL aO).mono ?_
 rintro e w7 ⟨v7,rfl,h7,aA⟩
 have aN:=aF.trans (aA.mono aF.size)
 have aP:=aJ.below aA aJ.lt
 have aV:=aL.later aA
 clear aS aW aX aE aO aR aQ aJ aF aA aL
 go_wp2_with fail
 refine (zdz r1 r2 v7 w7 aV h7 l1 l2).mono ?_
 rintro e w8 ⟨z1,z2,rfl,aT,aU,aM⟩
 have aY:=aN.trans (aM.mono aN.size)
 have aC:=aP.below aM aP.lt
 have y0:=aC.cell 0
 have y1:=aC.cell 1
 have f0:=aC.frozen 0
 have f1:=aC.frozen 1
 have aH:=zbH aY (g:=w.heap.size) (by omega) (.string z1) (.string z2)
 go_wp2
 refine bodyPost_ret (v := .tuple #[.agg #[.string z1,.string z2],.int .i64 (zci r1 r2)]) (by simp [results,Tryz.results55,go_sem,y0,y1]) rfl ⟨z1,z2,rfl,aT,aU,aH⟩
end Go.Proofs.YteajibbphcfmeaaGreatDoor
