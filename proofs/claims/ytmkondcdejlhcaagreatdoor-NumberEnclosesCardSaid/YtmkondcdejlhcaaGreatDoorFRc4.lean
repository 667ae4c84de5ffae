/- The reference's fraction with a negative denominator; Reciprocal, Div of numbers other than 0. -/
import Derived.Test.YtmkondcdejlhcaaGreatDoorFRb24
set_option maxRecDepth 100000
set_option maxHeartbeats 8000000
namespace Go.Proofs.YtmkondcdejlhcaaGreatDoor
section
open Go.RowKit Dn
theorem CBlk.set2{w:World}{g:Nat}{a b:Value}{t:TypeId}(h:CBlk w g #[a,b] t)(u v:Value):CBlk ((w.setCell ⟨g,0,none⟩ u).setCell ⟨g,1,none⟩ v) g #[u,v] t:=
 heap_setCell_same _ g 1 #[u,b] t v (heap_setCell_same w g 0 #[a,b] t u h)
theorem zhn (b:Bool) (x y:Nat) (A1 A2:Option Addr) (n1 c1 n2 c2:Nat) (w:World) (h1:DigI w A1 n1 c1 (digs x)) (h2:DigI w A2 n2 c2 (digs y)) (hy:0<y) (k1:n1≤500000) (k2:n2≤500000) :
  Calls Tryz.prog 73 #[.agg #[.bool b,.slice A1 n1 c1],.agg #[.bool true,.slice A2 n2 c2]] w fun e w'=>(∃ s:ByteArray,e = .returned (.string s)∧s.data.toList=zaE (zbw (- sgn b x) y))∧Below w.heap.size w w':=by
 obtain⟨b9,aX⟩:∃ b9,b9=decide (- sgn b x<0):=⟨_,rfl⟩;have cF:(- sgn b x).natAbs=x:=by rw[Int.natAbs_neg,zbR]
 have cP : - sgn b x=sgn b9 x:=by have h:=zfc (- sgn b x);rw[cF,←aX] at h;exact h.symm
 rw[cP,zg3 b9 x y hy];have hB:Below w.heap.size w ((w.alloc (.cells #[.bool b,.slice A1 n1 c1] 84)).alloc (.cells #[.bool true,.slice A2 n2 c2] 84)):=((Below.refl _ _).alloc (Nat.le_refl _) _).alloc (by simp) _;have cV:CBlk ((w.alloc (.cells #[.bool b,.slice A1 n1 c1] 84)).alloc (.cells #[.bool true,.slice A2 n2 c2] 84)) w.heap.size #[.bool b,.slice A1 n1 c1] 84:=(CBlk.new w _ _ _ rfl).below ((Below.refl _ _).alloc (Nat.le_refl _) _) (by simp);have bN:CBlk ((w.alloc (.cells #[.bool b,.slice A1 n1 c1] 84)).alloc (.cells #[.bool true,.slice A2 n2 c2] 84)) (w.heap.size+1) #[.bool true,.slice A2 n2 c2] 84:=CBlk.new (w.alloc (.cells #[.bool b,.slice A1 n1 c1] 84)) _ _ (w.heap.size+1) (by simp);obtain⟨g,hg⟩:∃ g,g=Nat.gcd x y:=⟨_,rfl⟩;have cH:0<g:=by rw[hg];exact Nat.gcd_pos_of_pos_right _ hy
 have cI:g≤y:=by rw[hg];exact Nat.gcd_le_right _ hy
 have bM:=fun W (h:Below w.heap.size w W)=>zgB b x A1 n1 c1 W (h1.later h) (by omega)
 have bL:=fun W (h:Below w.heap.size w W)=>zgB true y A2 n2 c2 W (h2.later h) (by omega)
 have e9:(- sgn true y).natAbs=y:=by rw[Int.natAbs_neg,zbR]
 have e8:decide (- sgn true y<0)=false:=by unfold sgn;simp
 unfold RetZ at bM bL;simp only[cF,←aX] at bM
 simp only[e9,e8] at bL
 have M1:=Aa bM;have M2:=Aa bL;clear bM bL;have dE:=h1.len;have dJ:=h2.len;have cC:Hid ((digs x).length≤500000∧(digs y).length≤500000):=⟨by omega,by omega⟩;have aI:Hid ((digs (x/g)).length≤(digs x).length∧(digs (y/g)).length≤(digs y).length∧(digs g).length≤(digs y).length):=⟨zaa (Nat.div_le_self _ _),zaa (Nat.div_le_self _ _),zaa cI⟩;rw[←hg];obtain⟨X,hX⟩:∃ X,X=x/g:=⟨_,rfl⟩;obtain⟨Y,hY⟩:∃ Y,Y=y/g:=⟨_,rfl⟩;obtain⟨z,hz⟩:∃ z,z=sgn b9 X:=⟨_,rfl⟩;rw[←hX,←hY] at aI;rw[←hX,←hY,←hz];have HX:=Aa hX;have HY:=Aa hY;have HZ:=Aa hz;have HG:=Aa hg;have cQ:=Aa cH;clear h1 h2 hg cI cH aX cF cP e9 e8 dE dJ hX hY hz;go_enter Tryz.func73,Tryz.ntmps73
 go_upto_region 1 with(fail)
 generalize ((w.alloc (.cells #[.bool b,.slice A1 n1 c1] 84)).alloc (.cells #[.bool true,.slice A2 n2 c2] 84))=w3 at *;have q0:w3.cell? ⟨w.heap.size+1,0,none⟩=some (.bool true):=bN.cell 0
 go_wp2_with fail
 have bE:CBlk w3.drew w.heap.size #[.bool b,.slice A1 n1 c1] 84:=cV;have bC:CBlk w3.drew (w.heap.size+1) #[.bool true,.slice A2 n2 c2] 84:=bN;have cK:Below w.heap.size w w3.drew:=hB.drew;have dO:w.heap.size≠w.heap.size+1:=by omega
 clear q0;obtain⟨cB,aQ⟩:∃ I:Array Bool→Act→World→Prop,I=(fun aE a W=>∃ (b0 b1 b2 b3 b4 b5:Bool) (bD aW aV aT:Value) (E1:Option Addr) (e1 f1:Nat) (E2:Option Addr) (e2 f2:Nat),aE=#[b0,b1,b2,b3,b4,b5]∧a={ tmps:=#[.agg #[.bool b,.slice A1 n1 c1],.agg #[.bool true,.slice A2 n2 c2],.pointer (some ⟨w.heap.size,0,none⟩),.pointer (some ⟨w.heap.size+1,0,none⟩),.string ⟨#[]⟩,undef,undef,undef,undef,undef,undef,.pointer (some ⟨w.heap.size+1,0,none⟩),.bool true,bD,aW,aV,aT,undef,undef,undef,undef,undef,undef,undef,undef,undef,undef,undef,undef,undef,undef,undef,undef,undef,undef,undef,undef,undef,undef,undef,undef,undef,undef,undef,undef,undef,undef,undef,undef,undef,undef,undef,undef,undef,undef,undef,undef],defers:=[] }∧Below w.heap.size w W ∧
  (b4=false→CBlk W w.heap.size #[.bool b,.slice A1 n1 c1] 84)∧(b4=true→CBlk W w.heap.size #[.bool b9,.slice E1 e1 f1] 84)∧(b5=false→CBlk W (w.heap.size+1) #[.bool true,.slice A2 n2 c2] 84)∧(b5=true→CBlk W (w.heap.size+1) #[.bool false,.slice E2 e2 f2] 84) ∧
  (b0=true→bD = .agg #[.bool b,.slice A1 n1 c1])∧(b1=true→aW = .agg #[.bool b9,.slice E1 e1 f1]∧DigI W E1 e1 f1 (digs x))∧(b2=true→aV = .agg #[.bool true,.slice A2 n2 c2])∧(b3=true→b2=true∧b1=true∧aT = .agg #[.bool false,.slice E2 e2 f2]∧DigI W E2 e2 f2 (digs y))∧(b1=true→b0=true)∧(b4=true→b3=true)∧(b5=true→b4=true)):=⟨_,rfl⟩
 have aA:=Aa aQ;clear aQ;refine zbI (by kernel_rfl) cB (by kernel_rfl) ?_ ?_ ?_
 ·rw[aA.out]
  exact⟨false,false,false,false,false,false,undef,undef,undef,undef,none,0,0,none,0,0,rfl,rfl,cK,(fun _=>bE),(fun h=>by cases h),(fun _=>bC),(fun h=>by cases h),(fun h=>by cases h),(fun h=>by cases h),(fun h=>by cases h),(fun h=>by cases h),(fun h=>by cases h),(fun h=>by cases h),(fun h=>by cases h)⟩
 ·intro i o aE a W ho hI hl aC
  rw[aA.out] at hI;obtain⟨b0,b1,b2,b3,b4,b5,bD,aW,aV,aT,E1,e1,f1,E2,e2,f2,rfl,rfl,hb,g0,g1,h0,h1,v0,v1,v2,v3,o1,o4,o5⟩:=hI
  match i,ho,hl,aC with
  | 0,ho,hl,aC=>
   have aG:b0=false:=Option.some.inj hl;obtain rfl:=Option.some.inj ho;have n4:b4=false:=by
    cases h4:b4
    ·rfl
    ·have:=o1 (v3 (o4 h4)).2.1;rw[aG] at this;cases this
   have k0:=g0 n4;have x0:=k0.cell 0;have x1:=k0.cell 1;refine zao ho fun K' hK => ?_
   go_simp
   refine hK.out _ _ ?_;rw[aA.out];exact⟨true,b1,b2,b3,b4,b5,.agg #[.bool b,.slice A1 n1 c1],aW,aV,aT,E1,e1,f1,E2,e2,f2,rfl,rfl,hb,g0,g1,h0,h1,(fun _=>rfl),v1,v2,v3,(fun _=>rfl),o4,o5⟩
  | 1,ho,hl,aC=>
   have aG:b1=false:=Option.some.inj hl;obtain rfl:=Option.some.inj ho;have d0:b0=true:=aC ⟨0,.data⟩ (by simp) rfl;obtain rfl:=v0 d0;have n3:b3=false:=by
    cases h3:b3
    ·rfl
    ·have:=(v3 h3).2.1;rw[aG] at this;cases this
   have n4:b4=false:=by
    cases h4:b4
    ·rfl
    ·have:=o4 h4;rw[n3] at this;cases this
   have n5:b5=false:=by
    cases h5:b5
    ·rfl
    ·have:=o5 h5;rw[n4] at this;cases this
   refine zao ho fun K' hK => ?_
   go_simp
   go_at_call 131
   refine(M1.out W hb).mono ?_;rintro e W1 ⟨E3,e3,f3,rfl,hd,aO⟩;have bV:=Ad hb aO;refine hK.out _ _ ?_;rw[aA.out];exact⟨b0,true,b2,b3,b4,b5,_,_,aV,aT,E3,e3,f3,E2,e2,f2,rfl,rfl,bV,(fun h=>(g0 h).below aO (g0 h).lt),(fun h=>by rw[n4] at h;cases h),(fun h=>(h0 h).below aO (h0 h).lt),(fun h=>by rw[n5] at h;cases h),v0,(fun _=>⟨rfl,hd⟩),v2,(fun h=>by rw[n3] at h;cases h),(fun _=>d0),o4,o5⟩
  | 2,ho,hl,aC=>
   have aG:b2=false:=Option.some.inj hl;obtain rfl:=Option.some.inj ho;have n5:b5=false:=by
    cases h5:b5
    ·rfl
    ·have:=(v3 (o4 (o5 h5))).1;rw[aG] at this;cases this
   have k0:=h0 n5;have x0:=k0.cell 0;have x1:=k0.cell 1;refine zao ho fun K' hK => ?_
   go_simp
   refine hK.out _ _ ?_;rw[aA.out];exact⟨b0,b1,true,b3,b4,b5,bD,aW,.agg #[.bool true,.slice A2 n2 c2],aT,E1,e1,f1,E2,e2,f2,rfl,rfl,hb,g0,g1,h0,h1,v0,v1,(fun _=>rfl),(fun h=>⟨rfl,(v3 h).2⟩),o1,o4,o5⟩
  | 3,ho,hl,aC=>
   have aG:b3=false:=Option.some.inj hl;obtain rfl:=Option.some.inj ho;have d2:b2=true:=aC ⟨2,.data⟩ (by simp) rfl;have d1:b1=true:=aC ⟨1,.chain⟩ (by simp) rfl;have d0:b0=true:=o1 d1;obtain rfl:=v2 d2;obtain rfl:=v0 d0;obtain⟨rfl,bG⟩:=v1 d1;have n4:b4=false:=by
    cases h4:b4
    ·rfl
    ·have:=o4 h4;rw[aG] at this;cases this
   have n5:b5=false:=by
    cases h5:b5
    ·rfl
    ·have:=o5 h5;rw[n4] at this;cases this
   refine zao ho fun K' hK => ?_
   go_simp
   go_at_call 131
   refine(M2.out W hb).mono ?_;rintro e W1 ⟨E3,e3,f3,rfl,hd,aO⟩;have bV:=Ad hb aO;refine hK.out _ _ ?_;rw[aA.out];exact⟨b0,b1,b2,true,b4,b5,_,_,_,_,E1,e1,f1,E3,e3,f3,rfl,rfl,bV,(fun h=>(g0 h).below aO (g0 h).lt),(fun h=>by rw[n4] at h;cases h),(fun h=>(h0 h).below aO (h0 h).lt),(fun h=>by rw[n5] at h;cases h),(fun _=>rfl),(fun _=>⟨rfl,bG.later aO⟩),(fun _=>rfl),(fun _=>⟨d2,d1,rfl,hd⟩),o1,(fun _=>rfl),o5⟩
  | 4,ho,hl,aC=>
   have aG:b4=false:=Option.some.inj hl;obtain rfl:=Option.some.inj ho;have d1:b1=true:=aC ⟨1,.data⟩ (by simp) rfl;have d3:b3=true:=aC ⟨3,.chain⟩ (by simp) rfl;have n5:b5=false:=by
    cases h5:b5
    ·rfl
    ·have:=o5 h5;rw[aG] at this;cases this
   have d0:b0=true:=o1 d1;obtain rfl:=v0 d0;obtain⟨rfl,bG⟩:=v1 d1;obtain⟨d2,_,rfl,bT⟩:=v3 d3;obtain rfl:=v2 d2;have k0:=g0 aG;have k1:=h0 n5;have x0:=k0.cell 0;have x1:=k0.cell 1;have z0:=k0.frozen 0;have z1:=k0.frozen 1;refine zao ho fun K' hK => ?_
   go_simp
   refine hK.out _ _ ?_;rw[aA.out];exact⟨b0,b1,b2,b3,true,b5,_,_,_,_,E1,e1,f1,E2,e2,f2,rfl,rfl,zbZ hb (Nat.le_refl _) _ _,(fun h=>by cases h),(fun _=>k0.set2 _ _),(fun _=>k1.far2 (by omega) _ _),(fun h=>by rw[n5] at h;cases h),(fun _=>rfl),(fun _=>⟨rfl,bG.box k0 _ _⟩),(fun _=>rfl),(fun _=>⟨d2,d1,rfl,bT.box k0 _ _⟩),o1,(fun _=>d3),(fun _=>rfl)⟩
  | 5,ho,hl,aC=>
   have aG:b5=false:=Option.some.inj hl;obtain rfl:=Option.some.inj ho;have d3:b3=true:=aC ⟨3,.data⟩ (by simp) rfl;have d4:b4=true:=aC ⟨4,.chain⟩ (by simp) rfl;obtain⟨d2,d1,rfl,bT⟩:=v3 d3;obtain⟨rfl,bG⟩:=v1 d1;obtain rfl:=v2 d2;have d0:b0=true:=o1 d1;obtain rfl:=v0 d0;have k0:=g1 d4;have k1:=h0 aG;have x0:=k1.cell 0;have x1:=k1.cell 1;have z0:=k1.frozen 0;have z1:=k1.frozen 1;refine zao ho fun K' hK => ?_
   go_simp
   refine hK.out _ _ ?_;rw[aA.out];exact⟨b0,b1,b2,b3,b4,true,_,_,_,_,E1,e1,f1,E2,e2,f2,rfl,rfl,zbZ hb (by omega) _ _,(fun h=>by rw[d4] at h;cases h),(fun _=>k0.far2 (by omega) _ _),(fun h=>by cases h),(fun _=>k1.set2 _ _),(fun _=>rfl),(fun _=>⟨rfl,bG.box k1 _ _⟩),(fun _=>rfl),(fun _=>⟨d2,d1,rfl,bT.box k1 _ _⟩),o1,(fun _=>d3),(fun _=>d4)⟩
  | n+6,ho,hl,aC=>exact absurd ho (by simp)
 intro aE a w6 hI aF;rw[aA.out] at hI;obtain⟨b0,b1,b2,b3,b4,b5,bD,aW,aV,aT,E1,e1,f1,E2,e2,f2,rfl,rfl,cR,g0,g1,h0,h1,v0,v1,v2,v3,o1,o4,o5⟩:=hI;have d0:b0=true:=aF 0 b0 (by decide) rfl;have d1:b1=true:=aF 1 b1 (by decide) rfl;have d2:b2=true:=aF 2 b2 (by decide) rfl;have d3:b3=true:=aF 3 b3 (by decide) rfl;have d4:b4=true:=aF 4 b4 (by decide) rfl;have d5:b5=true:=aF 5 b5 (by decide) rfl;obtain rfl:=v0 d0;obtain⟨rfl,aK⟩:=v1 d1;obtain rfl:=v2 d2;obtain⟨_,_,rfl,aH⟩:=v3 d3;have bK:=g1 d4;have bX:=h1 d5;clear aF g0 g1 h0 h1 v0 v1 v2 v3 o1 o4 o5 aA d0 d1 d2 d3 d4 d5 cV bN bE bC hB cK M1 M2;have a0:w6.cell? ⟨w.heap.size,0,none⟩=some (.bool b9):=bK.cell 0;have a1:w6.cell? ⟨w.heap.size,1,none⟩=some (.slice E1 e1 f1):=bK.cell 1;have q1:w6.cell? ⟨w.heap.size+1,1,none⟩=some (.slice E2 e2 f2):=bX.cell 1;have al:=bK.lt;have bl:=bX.lt;have dX:e1≤500000:=by rw[←aK.len];exact cC.out.1
 have dL:e2≤500000:=by rw[←aH.len];exact cC.out.2
 have cY:(digs g).length≤e2:=by rw[←aH.len];exact aI.out.2.2
 have cJ:(digs X).length≤e1:=by rw[←aK.len];exact aI.out.1
 have cG:(digs Y).length≤e2:=by rw[←aH.len];exact aI.out.2.1
 have cM:=Aa aK;have dA:=Aa aH;have dB:=Aa cY;have cT:=Aa cJ;have cW:=Aa cG;have bH:=Aa cR;have hB:Below w6.heap.size w6 w6:=Below.refl _ _;clear aK aH cY cJ cG cR bK bX cC aI
 go_wp2_with fail
 refine(zdg E1 E2 e1 f1 e2 f2 x y w6 cM.out dA.out (by omega) (by omega)).mono ?_;rintro e w4 ⟨A5,m5,c5,rfl,aU,aS⟩;rw[←HG.out] at aU
 replace a0:=(aS.cell (p:=⟨w.heap.size,0,none⟩) al).trans a0
 replace a1:=(aS.cell (p:=⟨w.heap.size,1,none⟩) al).trans a1
 replace q1:=(aS.cell (p:=⟨w.heap.size+1,1,none⟩) bl).trans q1
 replace hB:=Ad hB aS
 replace al:=Nat.lt_of_lt_of_le al aS.size
 replace bl:=Nat.lt_of_lt_of_le bl aS.size
 have dT:m5≤e2:=by rw[←aU.len];exact dB.out
 clear aS
 go_wp2_with fail
 refine(zbN E1 A5 e1 f1 m5 c5 x g w4 (cM.out.later hB) aU cQ.out (by omega) (by omega)).mono ?_;rintro e w5 ⟨Ap,mp,cp,Ar,mr,cr,rfl,aR,_,aM⟩;rw[←HX.out] at aR
 replace a0:=(aM.cell (p:=⟨w.heap.size,0,none⟩) al).trans a0
 replace a1:=(aM.cell (p:=⟨w.heap.size,1,none⟩) al).trans a1
 replace q1:=(aM.cell (p:=⟨w.heap.size+1,1,none⟩) bl).trans q1
 replace hB:=Ad hB aM
 replace al:=Nat.lt_of_lt_of_le al aM.size
 replace bl:=Nat.lt_of_lt_of_le bl aM.size
 replace aU:=aU.later aM
 clear aM
 go_wp2_with fail
 refine(zbN E2 A5 e2 f2 m5 c5 y g w5 (dA.out.later hB) aU cQ.out (by omega) (by omega)).mono ?_;rintro e w6 ⟨Aq,mq,cq,dR,dQ,dV,rfl,aJ,_,aN⟩;rw[←HY.out] at aJ
 replace a0:=(aN.cell (p:=⟨w.heap.size,0,none⟩) al).trans a0
 replace a1:=(aN.cell (p:=⟨w.heap.size,1,none⟩) al).trans a1
 replace q1:=(aN.cell (p:=⟨w.heap.size+1,1,none⟩) bl).trans q1
 replace hB:=Ad hB aN
 replace al:=Nat.lt_of_lt_of_le al aN.size
 replace bl:=Nat.lt_of_lt_of_le bl aN.size
 replace aR:=aR.later aN
 clear aN aU;have dK:mp≤e1:=by rw[←aR.len];exact cT.out
 have dS:mq≤e2:=by rw[←aJ.len];exact cW.out
 have aY:=aJ.len;have aZ:=zfo aR.len;have bF:=zfo aJ.len;have bZ:=za6 b9 Ap mp cp (digs X) w6 aR (by omega);rw[zak,←HZ.out] at bZ;have bU:=zbR b9 X;have bS:=zcU b9 X;rw[←HZ.out] at bU bS;have HS:=Aa bZ;have bW:=Aa bU;have bY:=Aa bS;have bP:=Aa aY;have bA:=Aa aZ;have cE:=Aa bF;clear bZ bU bS aR aY aZ bF
 go_wp2_with fail
 refine HS.out.mono ?_;rintro e w7 ⟨A7,m7,c7,rfl,bJ,aL⟩
 replace a0:=(aL.cell (p:=⟨w.heap.size,0,none⟩) al).trans a0
 replace a1:=(aL.cell (p:=⟨w.heap.size,1,none⟩) al).trans a1
 replace q1:=(aL.cell (p:=⟨w.heap.size+1,1,none⟩) bl).trans q1
 replace hB:=Ad hB aL
 replace al:=Nat.lt_of_lt_of_le al aL.size
 replace bl:=Nat.lt_of_lt_of_le bl aL.size
 replace aJ:=aJ.later aL
 clear aL HS;rw[bW.out] at bJ;have dH:m7≤e1∨True := .inr trivial;have cZ:=zeo (decide (z<0)) X A7 m7 c7 w7 bJ (by rw[bY.out];simp) (by rw[←bJ.len];have:=cT.out;have:=bA.out;have:=dK;omega);have HT:=Aa cZ;clear cZ dH
 go_wp2_with fail
 refine HT.out.mono ?_;rintro e w8 ⟨⟨s,rfl,hs⟩,aP⟩
 replace a0:=(aP.cell (p:=⟨w.heap.size,0,none⟩) al).trans a0
 replace a1:=(aP.cell (p:=⟨w.heap.size,1,none⟩) al).trans a1
 replace q1:=(aP.cell (p:=⟨w.heap.size+1,1,none⟩) bl).trans q1
 replace hB:=Ad hB aP
 replace al:=Nat.lt_of_lt_of_le al aP.size
 replace bl:=Nat.lt_of_lt_of_le bl aP.size
 replace aJ:=aJ.later aP
 have dM:s.size≤4500003:=by
  have h9:s.data.toList.length=s.size:=Array.length_toList;have h8:=zdR (decide (z<0)) (Lib.decDigits X);rw[←hs] at h8;have:=bA.out;omega
 have cO:=Aa hs;clear aP HT hs bJ a0 a1 q1
 by_cases hY:Y=1
 ·subst hY
  have cU:(digs 1).length=1:=by rw[zbj (by omega) (by decide)];rfl
  obtain rfl:mq=1:=by rw[←bP.out];exact cU
  obtain⟨ad,cL,rfl,dC,aD⟩:=aJ.rd.cellM (k:=0) (by omega);have he:(digs 1)[0]=1:=by
   have:digs 1=[1]:=zbj (by omega) (by decide);simp[this]
  unfold natv at aD;rw[he] at aD
  replace aD:w8.cell? ad=some (.int .i64 1):=aD
  have HR:Hid (s.data.toList=zaE ⟨decide (z<0),X,1⟩):=by
   show s.data.toList=_
   rw[zaR,cO.out];simp
  clear cU cL he;go_wp2
  go_ret;exact⟨⟨s,rfl,HR.out⟩,bH.out.trans (hB.mono bH.out.size)⟩
 ·have bB:(((mq:Int)==1)=false)∨(mq=1∧∃ ad v:_,Aq=some ad∧w8.cell? ad=some (.int .i64 (v:Int))∧((v==1)=false)):=by
   by_cases hm:mq=1
   ·subst hm
    obtain⟨ad,cL,rfl,dC,aD⟩:=aJ.rd.cellM (k:=0) (by omega);refine .inr ⟨rfl,ad,(((digs Y)[0]:Nat):Int),rfl,aD,?_⟩;rw[beq_eq_false_iff_ne];intro h9
    apply hY
    have h8:(digs Y)[0]=1:=by omega
    have h7:digs Y=[1]:=by
     apply List.ext_getElem
     ·rw[bP.out];rfl
     ·intro i dW dF
      have:i=0:=by simp at dF;omega
      subst this
      simpa using h8
    rw[←zak Y,h7];simp
   ·exact .inl (by rw[beq_eq_false_iff_ne];omega)
  have bQ:=za6 false Aq mq cq (digs Y) w8 aJ (by omega);rw[zak] at bQ;have cA:=Aa bQ;have cS:=Aa hB;have cN:Hid ((sgn false Y).natAbs=Y∧decide (sgn false Y<0)=false):=⟨zbR _ _,by rw[zcU];rfl⟩;generalize sgn false Y=z2 at *;have dD:=Aa hY;clear bQ hY hB
  rcases bB with d1 | ⟨rfl,ad,v,rfl,dN,dU⟩
  all_goals
   go_wp2_with fail
   refine cA.out.mono ?_;rintro e w9 ⟨A9,m9,c9,rfl,bI,aX⟩;rw[cN.out.1] at bI;rw[cN.out.2];have dG:=Aa (zeo false Y A9 m9 c9 w9 bI (by intro h;cases h) (by rw[←bI.len];have:=cW.out;have:=bP.out;omega))
   go_wp2_with fail
   refine dG.out.mono ?_;rintro e dP ⟨⟨s2,rfl,bR⟩,bO⟩;have dI:s2.size≤4500003:=by
    have h9:s2.data.toList.length=s2.size:=Array.length_toList;rw[bR] at h9;have h8:=zdR false (Lib.decDigits Y);have:=cE.out;omega
   have HR:Hid (((s++⟨#[47]⟩)++s2).data.toList=zaE ⟨decide (z<0),X,Y⟩):=by
    show((s++⟨#[47]⟩)++s2).data.toList=_
    rw[zaR,if_neg dD.out,ByteArray.data_append,ByteArray.data_append,Array.toList_append,Array.toList_append,cO.out,bR,List.append_assoc];rfl
   clear bR bI;go_wp2
   go_ret;exact⟨⟨_,rfl,HR.out⟩,bH.out.trans ((cS.out.trans ((aX.trans (bO.mono aX.size)).mono cS.out.size)).mono bH.out.size)⟩
theorem zhK{p:Q}(h:LowQ p)(hn:p.neg=true)(ht:0<p.top):zbw (- sgn false p.bot) p.top=recS p:=by
 refine zgN (za4 _ ht) (zhr h ht) ?_;have h1:=zl0 (num := - sgn false p.bot) ht;have e:sI (recS p) = - sgn false p.bot:=by
  unfold sI recS sgn;rw[hn];simp
 rw[e];exact h1
theorem zo9(a:ByteArray)(p:Q)(w:World)(h:NumQ a p)(ht:0<p.top)(ha:a.size≤100000) :
  Calls Tryz.prog 76 #[.string a] w (RetS w (recS p)):=by
 cases hn:p.neg
 ·have e:recS p=recQ p:=by rw[zps h.2 hn ht];unfold recS;rw[hn]
  rw[e];exact zpY a p w h hn ht ha
 ·have hp:=zbV a p.neg p.top p.bot w h.num h.2.2.2 h.2.1 (by omega)
  rw[hn] at hp;have HP:=Aa hp;have hl:=h.num.lens2 ha;have HL:=Aa hl;have aF:Hid (∀ s:ByteArray,s.data.toList=zaE (zbw (- sgn false p.bot) p.top)→NumQ s (recS p)):=fun s hs=>⟨by rw[hs,zhK h.2 hn ht],zhr h.2 ht⟩
  clear hp hl;generalize recS p=R at *;go_enter Tryz.func76,Tryz.ntmps76
  go_wp2_with fail
  refine HP.out.mono ?_;rintro e w1 ⟨A1,n1,c1,A2,n2,c2,rfl,aA,aD,aC⟩;have hB:Below w1.heap.size w1 ((w1.alloc (.cells #[.bool true,.slice A1 n1 c1] 84)).alloc (.cells #[.bool false,.slice A2 n2 c2] 84)):=((Below.refl _ _).alloc (Nat.le_refl _) _).alloc (by simp) _;have e1:n1≤100000:=by rw[←aA.len];exact HL.out.1
  have e2:n2≤100001:=by rw[←aD.len];exact HL.out.2
  have HF:=Aa (zhn false p.bot p.top A2 A1 n2 c2 n1 c1 _ (aD.later hB) (aA.later hB) ht (by omega) (by omega));have HB:=Aa (aC.trans (hB.mono aC.size));clear aA aD hB aC
  go_wp2_with fail
  refine HF.out.mono ?_;rintro e w2 ⟨⟨s,rfl,hs⟩,aE⟩;go_wp2
  go_ret;exact⟨⟨s,rfl,aF.out s hs⟩,HB.out.trans (aE.mono HB.out.size)⟩
theorem zoJ(a a':ByteArray)(p q:Q)(w:World)(h:NumQ a p)(h':NumQ a' q)(ht:0<q.top)(ha:a.size≤40000)(ha':a'.size≤40000) :
  Calls Tryz.prog 25 #[.string a,.string a'] w (RetS w (mulQ p (recS q))):=by
 have HR:=Aa (zo9 a' q w h' ht (by omega));have aC:∀ s:ByteArray,NumQ s (recS q)→s.size≤100000:=fun s hs=>by
  obtain⟨N,hN⟩:∃ N,N=40000:=⟨_,rfl⟩;have:=hs.size (zdQ (h'.small (N:=N) (by omega) (by omega))) (by omega);omega
 have HM:=Aa (fun (s:ByteArray) (hs:NumQ s (recS q)) (W:World)=>zom a s p (recS q) W h hs (by omega) (aC s hs));clear aC;go_enter Tryz.func25,Tryz.ntmps25
 go_wp2_with fail
 refine HR.out.mono ?_;rintro e w1 ⟨⟨s,rfl,hs⟩,aA⟩
 go_wp2_with fail
 refine(HM.out s hs w1).mono ?_;rintro e w2 ⟨⟨t,rfl,ht⟩,aD⟩;go_wp2
 go_ret;exact⟨⟨t,rfl,ht⟩,aA.trans (aD.mono aA.size)⟩
def numQ (p:Q):Q:=⟨p.neg,p.top,1⟩
theorem NumQ.top_eq{a:ByteArray}{p:Q}(h:NumQ a p):a.data.toList=sgnT p.neg (Lib.decDigits p.top)++zcW p.bot:=h.num
theorem zpQ (a:ByteArray) (p:Q) (w:World) (h:NumQ a p) (ha:a.size≤1000000) :
  Calls Tryz.prog 85 #[.string a] w fun e w'=>(∃ s:ByteArray,e = .returned (.string s)∧NumQ s (numQ p)∧s.size≤a.size)∧w=w':=by
 obtain⟨k,hk⟩:∃ k,k=(sgnT p.neg (Lib.decDigits p.top)).length:=⟨_,rfl⟩;obtain⟨p1,p2,p3⟩:=zew (t:=a) (l:=sgnT p.neg (Lib.decDigits p.top)) h.num hk;have aC:zbE a.data.toList=k:=by rw[h.top_eq,zdc _ _ (zcx (zaH p.top)),hk]
 have aE:k≤a.size:=by
  have:=zls a.data.toList;rw[aC,Array.length_toList] at this;exact this
 have aA:=fun W=>zb9 a W (by omega)
 simp only[aC] at aA
 have aD:=Aa aA;have HN:Hid (NumQ (a.extract 0 k) (numQ p)):=by
  refine⟨?_,Nat.one_pos,Nat.gcd_one_right _,h.2.2.2⟩;rw[p1,zaR];show _=_++(if (1:Nat)=1 then[] else _)
  rw[if_pos rfl,List.append_nil];rfl
 have HS:Hid ((a.extract 0 k).size≤a.size):=by show(a.extract 0 k).size≤a.size;rw[ByteArray.size_extract];omega
 clear aA aC p1 p2 p3 hk h;go_enter Tryz.func85,Tryz.ntmps85
 go_wp2_with fail
 refine(aD.out w).mono ?_;rintro e w4 ⟨rfl,rfl⟩;go_wp2
 go_ret;exact⟨⟨_,rfl,HN.out,HS.out⟩,rfl⟩
theorem zqf(a:ByteArray)(p:Q)(w:World)(h:NumQ a p)(ha:a.size≤1000000) :
  Calls Tryz.prog 86 #[.string a] w fun e w'=>(∃ s:ByteArray,e = .returned (.string s)∧s.size=(Lib.decDigits p.bot).length)∧w=w':=by
 obtain⟨k,hk⟩:∃ k,k=(sgnT p.neg (Lib.decDigits p.top)).length:=⟨_,rfl⟩;obtain⟨p1,p2,p3⟩:=zew (t:=a) (l:=sgnT p.neg (Lib.decDigits p.top)) h.num hk;have aD:zbE a.data.toList=k:=by rw[h.top_eq,zdc _ _ (zcx (zaH p.top)),hk]
 have aC:=fun W=>zb9 a W (by omega)
 simp only[aD] at aC
 have aF:=Aa aC
 by_cases hy:p.bot=1
 ·have aG:=p2 hy
  have dk:((k:Int)==(a.size:Int))=true:=by rw[beq_iff_eq];omega
  have HR:Hid ((⟨#[49]⟩:ByteArray).size=(Lib.decDigits p.bot).length):=by show _=_;rw[hy,Dec.dec_lt (by omega)];rfl
  clear aC aD p1 p2 p3 hk h aG hy;go_enter Tryz.func86,Tryz.ntmps86
  go_wp2_with fail
  refine(aF.out w).mono ?_;rintro e w4 ⟨rfl,rfl⟩;go_wp2
  go_ret;exact⟨⟨_,rfl,HR.out⟩,rfl⟩
 ·obtain⟨aI,aA,aH⟩:=p3 hy
  have dk:((k:Int)==(a.size:Int))=false:=by rw[beq_eq_false_iff_ne];omega
  obtain⟨kk,aE⟩:∃ kk,kk=k+1:=⟨_,rfl⟩;have ew:IntKind.i64.wrap ((k:Int)+1)=(kk:Int):=by rw[IntWalk.i64_in _ (by omega)];omega
  have aJ:(0:Int)≤(kk:Int)∧(kk:Int)≤(a.size:Int):=by omega
  have HR:Hid ((a.extract kk a.size).size=(Lib.decDigits p.bot).length):=by
   show _=_
   rw[aE,←aA,Array.length_toList];rfl
  clear aC aD p1 p2 p3 hk h aA aH hy aE;go_enter Tryz.func86,Tryz.ntmps86
  go_wp2_with fail
  refine(aF.out w).mono ?_;rintro e w4 ⟨rfl,rfl⟩;go_wp2
  go_ret;exact⟨⟨_,rfl,HR.out⟩,rfl⟩
end
end Go.Proofs.YtmkondcdejlhcaaGreatDoor
namespace Go.Proofs.YtmkondcdejlhcaaGreatDoor.Cs
def tanAt (n bits:Nat):Nat→Nat × Nat × Nat
 | 0=>(0,0,2^bits/n)
 | k+1=>match tanAt n bits k with
  | (a,b,p)=>if k%2=0 then(a+p/(2*k+1),b,p/(n*n)) else(a,b+p/(2*k+1),p/(n*n))
def tanVal (n bits k:Nat):Nat:=(tanAt n bits k).1-(tanAt n bits k).2.1
structure TanOk (n bits k:Nat):Prop where
 zero:(tanAt n bits k).2.2=0
 pos:∀ j,j<k→0<(tanAt n bits j).2.2
 le:(tanAt n bits k).2.1≤(tanAt n bits k).1
theorem tan_bound(n bits:Nat)(hn:2≤n):∀ k,(tanAt n bits k).1+(tanAt n bits k).2.1+2*(tanAt n bits k).2.2≤2*2^bits
 | 0=>by
  have h:2^bits/n≤2^bits:=Nat.div_le_self _ _;simp only[tanAt];omega
 | k+1=>by
  have ih:=tan_bound n bits hn k;simp only[tanAt]
  generalize tanAt n bits k=s at ih ⊢;obtain⟨a,b,p⟩:=s
  dsimp only at ih ⊢
  have h1:p/(2*k+1)≤p:=Nat.div_le_self _ _;have h2:p/(n*n)≤p/2:=Nat.div_le_div_left (Nat.le_trans (by omega:2≤2*1) (Nat.mul_le_mul hn (by omega))) (by omega)
  split<;>(dsimp only;omega)
def circleOf (bits k l:Nat):Nat:=tanVal 5 bits k*32-tanVal 239 bits l*8
def serAt (sq bits:Nat):Nat→Nat × Nat × Nat
 | 0=>(0,0,2^bits)
 | n+1=>match serAt sq bits n with
  | (a,b,t)=>if n%2=0 then(a+t,b,t*sq/2^bits/((2*n+1)*(2*n+2))) else(a,b+t,t*sq/2^bits/((2*n+1)*(2*n+2)))
def zqe (c top bot:Nat):Nat:=c*top/bot
def sqOf (c top bot bits:Nat):Nat:=zqe c top bot*zqe c top bot/2^bits
def serVal (sq bits k:Nat):Nat:=(serAt sq bits k).1-(serAt sq bits k).2.1
structure SerOk (sq bits k M:Nat):Prop where
 zero:(serAt sq bits k).2.2=0
 pos:∀ j,j<k→0<(serAt sq bits j).2.2
 le:(serAt sq bits k).2.1≤(serAt sq bits k).1
 bound:∀ j,j<k+1→(serAt sq bits j).1<2^M∧(serAt sq bits j).2.1<2^M∧(serAt sq bits j).2.2<2^M
theorem tan5:TanOk 5 112 24:=⟨by decide +kernel,by decide +kernel,by decide +kernel⟩
theorem zpX:TanOk 239 112 7:=⟨by decide +kernel,by decide +kernel,by decide +kernel⟩
theorem ser8:SerOk (sqOf (circleOf 112 24 7) 1 8 112) 112 15 192:=⟨by decide +kernel,by decide +kernel,by decide +kernel,by decide +kernel⟩
theorem zoC:tanVal 239 112 7*8≤tanVal 5 112 24*32:=by decide +kernel
structure AcOk (top bot bits k l m scale low:Nat):Prop where
 a:TanOk 5 bits k
 b:TanOk 239 bits l
 c:tanVal 239 bits l*8≤tanVal 5 bits k*32
 s:∃ M,M≤1048576∧SerOk (sqOf (circleOf bits k l) top bot bits) bits m M
 big:2^64≤serVal (sqOf (circleOf bits k l) top bot bits) bits m
 lo:(serVal (sqOf (circleOf bits k l) top bot bits) bits m-2^64)*scale/2^bits=low
 hi:(serVal (sqOf (circleOf bits k l) top bot bits) bits m+2^64)*scale/2^bits=low
theorem ac8:AcOk 1 8 112 24 7 15 1000 707:=⟨tan5,zpX,zoC,⟨192,by decide,ser8⟩,by decide +kernel,by decide +kernel,by decide +kernel⟩
end Go.Proofs.YtmkondcdejlhcaaGreatDoor.Cs
namespace Go.Proofs.YtmkondcdejlhcaaGreatDoor
section
open Go.RowKit Bn
theorem ziY(p q:Q)(A1 A2 A3 A4:Option Addr)(n1 c1 n2 c2 n3 c3 n4 c4:Nat)(w:World)(hT:Tabs w)
 (h1:NatS w w.heap.size A1 n1 c1 p.top)(h2:NatS w w.heap.size A2 n2 c2 p.bot)(h3:NatS w w.heap.size A3 n3 c3 q.top)(h4:NatS w w.heap.size A4 n4 c4 q.bot)
 (k1:n1≤268435456)(k2:n2≤268435456)(k3:n3≤268435456)(k4:n4≤268435456) :
  Calls Tryz.prog 68 #[.agg #[.bool p.neg,.slice A1 n1 c1,.slice A2 n2 c2],.agg #[.bool q.neg,.slice A3 n3 c3,.slice A4 n4 c4]] w (za3 w (lowQ (p.neg != q.neg) (p.top*q.bot) (p.bot*q.top))):=by
 go_enter Tryz.func68,Tryz.ntmps68
 go_wp2_with fail
 have aT:Below w.heap.size w (((w.alloc (.cells #[.bool p.neg,.slice A1 n1 c1,.slice A2 n2 c2] 91)).alloc (.cells #[.bool q.neg,.slice A3 n3 c3,.slice A4 n4 c4] 91)).alloc (.cells #[.bool false,.slice none 0 0,.slice none 0 0] 91)):=
  (((Below.refl _ _).alloc (Nat.le_refl _) _).alloc (by simp) _).alloc (by simp;omega) _
 have aS:zae (((w.alloc (.cells #[.bool p.neg,.slice A1 n1 c1,.slice A2 n2 c2] 91)).alloc (.cells #[.bool q.neg,.slice A3 n3 c3,.slice A4 n4 c4] 91)).alloc (.cells #[.bool false,.slice none 0 0,.slice none 0 0] 91)) w.heap.size p.neg (.slice A1 n1 c1) (.slice A2 n2 c2):=
  (((zae.new w _ _ _).below ((Below.refl _ _).alloc (Nat.le_refl _) _) (by simp))).below ((Below.refl _ _).alloc (Nat.le_refl _) _) (by simp;omega)
 have aR:zae (((w.alloc (.cells #[.bool p.neg,.slice A1 n1 c1,.slice A2 n2 c2] 91)).alloc (.cells #[.bool q.neg,.slice A3 n3 c3,.slice A4 n4 c4] 91)).alloc (.cells #[.bool false,.slice none 0 0,.slice none 0 0] 91)) (w.heap.size+1) q.neg (.slice A3 n3 c3) (.slice A4 n4 c4):=by
  have h:=(zae.new (w.alloc (.cells #[.bool p.neg,.slice A1 n1 c1,.slice A2 n2 c2] 91)) q.neg (.slice A3 n3 c3) (.slice A4 n4 c4)).below ((Below.refl _ _).alloc (Nat.le_refl _) (.cells #[.bool false,.slice none 0 0,.slice none 0 0] 91)) (by simp)
  simpa using h
 have aV:zae (((w.alloc (.cells #[.bool p.neg,.slice A1 n1 c1,.slice A2 n2 c2] 91)).alloc (.cells #[.bool q.neg,.slice A3 n3 c3,.slice A4 n4 c4] 91)).alloc (.cells #[.bool false,.slice none 0 0,.slice none 0 0] 91)) (w.heap.size+1+1) false (.slice none 0 0) (.slice none 0 0):=by
  have h:=zae.new ((w.alloc (.cells #[.bool p.neg,.slice A1 n1 c1,.slice A2 n2 c2] 91)).alloc (.cells #[.bool q.neg,.slice A3 n3 c3,.slice A4 n4 c4] 91)) false (.slice none 0 0) (.slice none 0 0)
  simpa using h
 generalize (((w.alloc (.cells #[.bool p.neg,.slice A1 n1 c1,.slice A2 n2 c2] 91)).alloc (.cells #[.bool q.neg,.slice A3 n3 c3,.slice A4 n4 c4] 91)).alloc (.cells #[.bool false,.slice none 0 0,.slice none 0 0] 91))=w3 at *;obtain⟨a0,a1,a2,_,_,_,al⟩:=aS.cells;obtain⟨b0,b1,b2,_,_,_,bl⟩:=aR.cells;have aD:Below w.heap.size w w3.drew:=aT.drew;have aQ:=zaI A1 A4 n1 c1 n4 c4 p.top q.bot w3.drew (h1.later aD) (h4.later aD) (by omega) (by omega);have aK:zae w3.drew (w.heap.size+1+1) false (.slice none 0 0) (.slice none 0 0):=aV;have cl:w.heap.size+1+1<w3.drew.heap.size:=aK.cells.2.2.2.2.2.2;have aU:=Aa aQ;clear aQ
 go_region_held3 (fun w'=>w'.cell? ⟨w.heap.size,0,none⟩=some (.bool p.neg)∧w'.cell? ⟨w.heap.size,1,none⟩=some (.slice A1 n1 c1)∧w'.cell? ⟨w.heap.size,2,none⟩=some (.slice A2 n2 c2)∧w'.cell? ⟨w.heap.size+1,0,none⟩=some (.bool q.neg)∧w'.cell? ⟨w.heap.size+1,1,none⟩=some (.slice A3 n3 c3)∧w'.cell? ⟨w.heap.size+1,2,none⟩=some (.slice A4 n4 c4))
  (first | exact⟨a0,a1,a2,b0,b1,b2⟩ | exact⟨((aA.cell (p:=⟨w.heap.size,0,none⟩) al).trans a0),((aA.cell (p:=⟨w.heap.size,1,none⟩) al).trans a1),((aA.cell (p:=⟨w.heap.size,2,none⟩) al).trans a2),((aA.cell (p:=⟨w.heap.size+1,0,none⟩) bl).trans b0),((aA.cell (p:=⟨w.heap.size+1,1,none⟩) bl).trans b1),((aA.cell (p:=⟨w.heap.size+1,2,none⟩) bl).trans b2)⟩ | exact⟨((aC.cell (p:=⟨w.heap.size,0,none⟩) (aG)).trans ((aA.cell (p:=⟨w.heap.size,0,none⟩) al).trans a0)),((aC.cell (p:=⟨w.heap.size,1,none⟩) (aG)).trans ((aA.cell (p:=⟨w.heap.size,1,none⟩) al).trans a1)),((aC.cell (p:=⟨w.heap.size,2,none⟩) (aG)).trans ((aA.cell (p:=⟨w.heap.size,2,none⟩) al).trans a2)),((aC.cell (p:=⟨w.heap.size+1,0,none⟩) (aF)).trans ((aA.cell (p:=⟨w.heap.size+1,0,none⟩) bl).trans b0)),((aC.cell (p:=⟨w.heap.size+1,1,none⟩) (aF)).trans ((aA.cell (p:=⟨w.heap.size+1,1,none⟩) bl).trans b1)),((aC.cell (p:=⟨w.heap.size+1,2,none⟩) (aF)).trans ((aA.cell (p:=⟨w.heap.size+1,2,none⟩) bl).trans b2))⟩ | exact⟨((aE.cell (p:=⟨w.heap.size,0,none⟩) (aI)).trans ((aC.cell (p:=⟨w.heap.size,0,none⟩) (aG)).trans ((aA.cell (p:=⟨w.heap.size,0,none⟩) al).trans a0))),((aE.cell (p:=⟨w.heap.size,1,none⟩) (aI)).trans ((aC.cell (p:=⟨w.heap.size,1,none⟩) (aG)).trans ((aA.cell (p:=⟨w.heap.size,1,none⟩) al).trans a1))),((aE.cell (p:=⟨w.heap.size,2,none⟩) (aI)).trans ((aC.cell (p:=⟨w.heap.size,2,none⟩) (aG)).trans ((aA.cell (p:=⟨w.heap.size,2,none⟩) al).trans a2))),((aE.cell (p:=⟨w.heap.size+1,0,none⟩) (aJ)).trans ((aC.cell (p:=⟨w.heap.size+1,0,none⟩) (aF)).trans ((aA.cell (p:=⟨w.heap.size+1,0,none⟩) bl).trans b0))),((aE.cell (p:=⟨w.heap.size+1,1,none⟩) (aJ)).trans ((aC.cell (p:=⟨w.heap.size+1,1,none⟩) (aF)).trans ((aA.cell (p:=⟨w.heap.size+1,1,none⟩) bl).trans b1))),((aE.cell (p:=⟨w.heap.size+1,2,none⟩) (aJ)).trans ((aC.cell (p:=⟨w.heap.size+1,2,none⟩) (aF)).trans ((aA.cell (p:=⟨w.heap.size+1,2,none⟩) bl).trans b2)))⟩ | exact⟨((far3 _ _ _ _ (by dsimp only;omega)).trans ((aE.cell (p:=⟨w.heap.size,0,none⟩) (aI)).trans ((aC.cell (p:=⟨w.heap.size,0,none⟩) (aG)).trans ((aA.cell (p:=⟨w.heap.size,0,none⟩) al).trans a0)))),((far3 _ _ _ _ (by dsimp only;omega)).trans ((aE.cell (p:=⟨w.heap.size,1,none⟩) (aI)).trans ((aC.cell (p:=⟨w.heap.size,1,none⟩) (aG)).trans ((aA.cell (p:=⟨w.heap.size,1,none⟩) al).trans a1)))),((far3 _ _ _ _ (by dsimp only;omega)).trans ((aE.cell (p:=⟨w.heap.size,2,none⟩) (aI)).trans ((aC.cell (p:=⟨w.heap.size,2,none⟩) (aG)).trans ((aA.cell (p:=⟨w.heap.size,2,none⟩) al).trans a2)))),((far3 _ _ _ _ (by dsimp only;omega)).trans ((aE.cell (p:=⟨w.heap.size+1,0,none⟩) (aJ)).trans ((aC.cell (p:=⟨w.heap.size+1,0,none⟩) (aF)).trans ((aA.cell (p:=⟨w.heap.size+1,0,none⟩) bl).trans b0)))),((far3 _ _ _ _ (by dsimp only;omega)).trans ((aE.cell (p:=⟨w.heap.size+1,1,none⟩) (aJ)).trans ((aC.cell (p:=⟨w.heap.size+1,1,none⟩) (aF)).trans ((aA.cell (p:=⟨w.heap.size+1,1,none⟩) bl).trans b1)))),((far3 _ _ _ _ (by dsimp only;omega)).trans ((aE.cell (p:=⟨w.heap.size+1,2,none⟩) (aJ)).trans ((aC.cell (p:=⟨w.heap.size+1,2,none⟩) (aF)).trans ((aA.cell (p:=⟨w.heap.size+1,2,none⟩) bl).trans b2))))⟩)
  (first
   |(go_at_call_of 113 (Value.slice A1 n1 c1);refine(aU.out).mono ?_;rintro e w4 ⟨A5,m5,c5,rfl,aP,aA⟩;have aG:=Nat.lt_of_lt_of_le al aA.size;have aF:=Nat.lt_of_lt_of_le bl aA.size)
   |(go_at_call_of 113 (Value.slice A2 n2 c2);refine(zaI A2 A3 n2 c2 n3 c3 p.bot q.top w4 ((h2.later aD).later aA) ((h3.later aD).later aA) (by omega) (by omega)).mono ?_;rintro e w6 ⟨A6,m6,c6,rfl,aO,aC⟩;have aI:=Nat.lt_of_lt_of_le aG aC.size;have aJ:=Nat.lt_of_lt_of_le aF aC.size)
   |(go_at_call 112;refine(zbF _ A5 A6 m5 c5 m6 c6 _ _ w6 (((hT.later aD).later aA).later aC) (aP.later aC) aO (by have:=zdD aP (Nat.le_of_eq h1.len) (Nat.le_of_eq h4.len);omega) (by have:=zdD aO (Nat.le_of_eq h2.len) (Nat.le_of_eq h3.len);omega)).mono ?_;rintro e w7 ⟨v,rfl,⟨A7,m7,c7,A8,m8,c8,rfl,h7,h8⟩,aE⟩;have aN:=((aK.below aA cl).below aC (Nat.lt_of_lt_of_le cl aA.size)).below aE (Nat.lt_of_lt_of_le (Nat.lt_of_lt_of_le cl aA.size) aC.size);obtain⟨e0,e1,e2,g0,g1,g2,gl⟩:=aN.cells))
 go_wp2_with fail
 have aH:Below w.heap.size w w7:=by
  have s5:=aD.size;have s6:=aA.size;have s7:=aC.size;exact((aD.trans (aA.mono s5)).trans (aC.mono (by omega))).trans (aE.mono (by omega))
 have aL:=zan aH (g:=w.heap.size+1+1) (by omega) (.bool (lowQ (!p.neg==q.neg) (p.top*q.bot) (p.bot*q.top)).neg) (.slice A7 m7 c7) (.slice A8 m8 c8);have aM:(!p.neg==q.neg)=(p.neg != q.neg):=by cases p.neg<;>cases q.neg<;>rfl
 refine bodyPost_ret (v := .agg #[.bool (lowQ (!p.neg==q.neg) (p.top*q.bot) (p.bot*q.top)).neg,.slice A7 m7 c7,.slice A8 m8 c8]) (by simp[results,Tryz.results68,go_sem,e0,e1,e2]) rfl ⟨_,rfl,⟨A7,m7,c7,A8,m8,c8,by rw[aM],?_,?_⟩,aL⟩
 ·rw[zah,←aM];exact h7.res aN _ _ _
 ·rw[zah,←aM];exact h8.res aN _ _ _
end
end Go.Proofs.YtmkondcdejlhcaaGreatDoor
