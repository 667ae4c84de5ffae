/- The reference's fraction with a negative denominator; Reciprocal, Div of numbers other than 0. -/
import Derived.Test.YtjhgadajpliclaaGreatDoorKRb24
import Derived.Test.YtjhgadajpliclaaGreatDoorKRng2
import Derived.Test.YtjhgadajpliclaaGreatDoorKFloat
namespace Go.Proofs.YtjhgadajpliclaaGreatDoor
open Go.RowKit Dn
theorem CBlk.set2 {w:World} {g:Nat} {a b:Value} {t:TypeId} (h:CBlk w g #[a,b] t) (u v:Value):CBlk ((w.setCell ⟨g,0,none⟩ u).setCell ⟨g,1,none⟩ v) g #[u,v] t:=
 heap_setCell_same _ g 1 #[u,b] t v (heap_setCell_same w g 0 #[a,b] t u h)
set_option maxHeartbeats 8000000 in
set_option maxRecDepth 100000 in
theorem rfraction_neg (b:Bool) (x y:Nat) (A1 A2:Option Addr) (n1 c1 n2 c2:Nat) (w:World) (h1:DigI w A1 n1 c1 (digs x)) (h2:DigI w A2 n2 c2 (digs y)) (hy:0<y) (k1:n1≤500000) (k2:n2≤500000) :
  Calls Tryz.prog 117 #[.agg #[.bool b,.slice A1 n1 c1],.agg #[.bool true,.slice A2 n2 c2]] w fun e w'=>(∃ s:ByteArray,e = .returned (.string s)∧s.data.toList=writeS (fracQ (- sgn b x) y))∧Below w.heap.size w w':=by
 obtain ⟨b9,hb9⟩:∃ b9,b9=decide (- sgn b x<0):=⟨_,rfl⟩
 have hna:(- sgn b x).natAbs=x:=by rw [Int.natAbs_neg,sgn_abs]
 have hsg : - sgn b x=sgn b9 x:=by have h:=sgn_of (- sgn b x);rw [hna,←hb9] at h;exact h.symm
 rw [hsg,frac_eq b9 x y hy]
 have hB:Below w.heap.size w ((w.alloc (.cells #[.bool b,.slice A1 n1 c1] 107)).alloc (.cells #[.bool true,.slice A2 n2 c2] 107)):=((Below.refl _ _).alloc (Nat.le_refl _) _).alloc (by simp) _
 have hx0:CBlk ((w.alloc (.cells #[.bool b,.slice A1 n1 c1] 107)).alloc (.cells #[.bool true,.slice A2 n2 c2] 107)) w.heap.size #[.bool b,.slice A1 n1 c1] 107:=(CBlk.new w _ _ _ rfl).below ((Below.refl _ _).alloc (Nat.le_refl _) _) (by simp)
 have hx1:CBlk ((w.alloc (.cells #[.bool b,.slice A1 n1 c1] 107)).alloc (.cells #[.bool true,.slice A2 n2 c2] 107)) (w.heap.size+1) #[.bool true,.slice A2 n2 c2] 107:=CBlk.new (w.alloc (.cells #[.bool b,.slice A1 n1 c1] 107)) _ _ (w.heap.size+1) (by simp)
 obtain ⟨g,hg⟩:∃ g,g=Nat.gcd x y:=⟨_,rfl⟩
 have hg0:0<g:=by rw [hg];exact Nat.gcd_pos_of_pos_right _ hy
 have hgy:g≤y:=by rw [hg];exact Nat.gcd_le_right _ hy
 have M1':=fun W (h:Below w.heap.size w W)=>rminus_any b x A1 n1 c1 W (h1.later h) (by omega)
 have M2':=fun W (h:Below w.heap.size w W)=>rminus_any true y A2 n2 c2 W (h2.later h) (by omega)
 have e9:(- sgn true y).natAbs=y:=by rw [Int.natAbs_neg,sgn_abs]
 have e8:decide (- sgn true y<0)=false:=by unfold sgn;simp
 unfold RetZ at M1' M2'
 simp only [hna,←hb9] at M1'
 simp only [e9,e8] at M2'
 have M1:=Lib.hid M1'
 have M2:=Lib.hid M2'
 clear M1' M2'
 have hl1:=h1.len
 have hl2:=h2.len
 have HL1:Hid ((digs x).length≤500000∧(digs y).length≤500000):=⟨by omega,by omega⟩
 have HDIV:Hid ((digs (x / g)).length≤(digs x).length∧(digs (y / g)).length≤(digs y).length∧(digs g).length≤(digs y).length):=⟨digs_length_mono (Nat.div_le_self _ _),digs_length_mono (Nat.div_le_self _ _),digs_length_mono hgy⟩
 rw [←hg]
 obtain ⟨X,hX⟩:∃ X,X=x / g:=⟨_,rfl⟩
 obtain ⟨Y,hY⟩:∃ Y,Y=y / g:=⟨_,rfl⟩
 obtain ⟨z,hz⟩:∃ z,z=sgn b9 X:=⟨_,rfl⟩
 rw [←hX,←hY] at HDIV
 rw [←hX,←hY,←hz]
 have HX:=Lib.hid hX
 have HY:=Lib.hid hY
 have HZ:=Lib.hid hz
 have HG:=Lib.hid hg
 have HG0:=Lib.hid hg0
 clear h1 h2 hg hgy hg0 hb9 hna hsg e9 e8 hl1 hl2 hX hY hz
 go_enter Tryz.func117,Tryz.ntmps117
 go_upto_region 1 with (fail)
 generalize ((w.alloc (.cells #[.bool b,.slice A1 n1 c1] 107)).alloc (.cells #[.bool true,.slice A2 n2 c2] 107))=w3 at *
 have q0:w3.cell? ⟨w.heap.size+1,0,none⟩=some (.bool true):=hx1.cell 0
 go_wp2_with fail
 have hx0d:CBlk w3.drew w.heap.size #[.bool b,.slice A1 n1 c1] 107:=hx0
 have hx1d:CBlk w3.drew (w.heap.size+1) #[.bool true,.slice A2 n2 c2] 107:=hx1
 have hBd:Below w.heap.size w w3.drew:=hB.drew
 have hne:w.heap.size≠w.heap.size+1:=by omega
 clear q0
 obtain ⟨Inv2,hInv2⟩:∃ I:Array Bool→Act→World→Prop,I=(fun listed a W=>∃ (b0 b1 b2 b3 b4 b5:Bool) (u13 u14 u15 u16:Value) (E1:Option Addr) (e1 f1:Nat) (E2:Option Addr) (e2 f2:Nat),listed=#[b0,b1,b2,b3,b4,b5]∧a={ tmps:=#[.agg #[.bool b,.slice A1 n1 c1],.agg #[.bool true,.slice A2 n2 c2],.pointer (some ⟨w.heap.size,0,none⟩),.pointer (some ⟨w.heap.size+1,0,none⟩),.string { data:=#[] },undef,undef,undef,undef,undef,undef,.pointer (some ⟨w.heap.size+1,0,none⟩),.bool true,u13,u14,u15,u16,undef,undef,undef,undef,undef,undef,undef,undef,undef,undef,undef,undef,undef,undef,undef,undef,undef,undef,undef,undef,undef,undef,undef,undef,undef,undef,undef,undef,undef,undef,undef,undef,undef,undef,undef,undef,undef,undef,undef,undef],defers:=[] }∧Below w.heap.size w W ∧
  (b4=false→CBlk W w.heap.size #[.bool b,.slice A1 n1 c1] 107)∧(b4=true→CBlk W w.heap.size #[.bool b9,.slice E1 e1 f1] 107)∧(b5=false→CBlk W (w.heap.size+1) #[.bool true,.slice A2 n2 c2] 107)∧(b5=true→CBlk W (w.heap.size+1) #[.bool false,.slice E2 e2 f2] 107) ∧
  (b0=true→u13 = .agg #[.bool b,.slice A1 n1 c1])∧(b1=true→u14 = .agg #[.bool b9,.slice E1 e1 f1]∧DigI W E1 e1 f1 (digs x))∧(b2=true→u15 = .agg #[.bool true,.slice A2 n2 c2])∧(b3=true→b2=true∧b1=true∧u16 = .agg #[.bool false,.slice E2 e2 f2]∧DigI W E2 e2 f2 (digs y))∧(b1=true→b0=true)∧(b4=true→b3=true)∧(b5=true→b4=true)):=⟨_,rfl⟩
 have HInv2:=Lib.hid hInv2
 clear hInv2
 refine wp_region_inv (by kernel_rfl) Inv2 (by kernel_rfl) ?_ ?_ ?_
 ·rw [HInv2.out]
  exact ⟨false,false,false,false,false,false,undef,undef,undef,undef,none,0,0,none,0,0,rfl,rfl,hBd,(fun _=>hx0d),(fun h=>by cases h),(fun _=>hx1d),(fun h=>by cases h),(fun h=>by cases h),(fun h=>by cases h),(fun h=>by cases h),(fun h=>by cases h),(fun h=>by cases h),(fun h=>by cases h),(fun h=>by cases h)⟩
 ·intro i o listed a W ho hI hl hdep
  rw [HInv2.out] at hI
  obtain ⟨b0,b1,b2,b3,b4,b5,u13,u14,u15,u16,E1,e1,f1,E2,e2,f2,rfl,rfl,hb,g0,g1,h0,h1,v0,v1,v2,v3,o1,o4,o5⟩:=hI
  match i,ho,hl,hdep with
  | 0,ho,hl,hdep=>
   have hun:b0=false:=Option.some.inj hl
   obtain rfl:=Option.some.inj ho
   have n4:b4=false:=by
    cases h4:b4
    ·rfl
    ·have:=o1 (v3 (o4 h4)).2.1;rw [hun] at this;cases this
   have k0:=g0 n4
   have x0:=k0.cell 0
   have x1:=k0.cell 1
   refine step_of ho fun K' hK => ?_
   go_simp
   refine hK.out _ _ ?_
   rw [HInv2.out]
   exact ⟨true,b1,b2,b3,b4,b5,.agg #[.bool b,.slice A1 n1 c1],u14,u15,u16,E1,e1,f1,E2,e2,f2,rfl,rfl,hb,g0,g1,h0,h1,(fun _=>rfl),v1,v2,v3,(fun _=>rfl),o4,o5⟩
  | 1,ho,hl,hdep=>
   have hun:b1=false:=Option.some.inj hl
   obtain rfl:=Option.some.inj ho
   have d0:b0=true:=hdep ⟨0,.data⟩ (by simp) rfl
   obtain rfl:=v0 d0
   have n3:b3=false:=by
    cases h3:b3
    ·rfl
    ·have:=(v3 h3).2.1;rw [hun] at this;cases this
   have n4:b4=false:=by
    cases h4:b4
    ·rfl
    ·have:=o4 h4;rw [n3] at this;cases this
   have n5:b5=false:=by
    cases h5:b5
    ·rfl
    ·have:=o5 h5;rw [n4] at this;cases this
   refine step_of ho fun K' hK => ?_
   go_simp
   go_at_call 166
   refine (M1.out W hb).mono ?_
   rintro e W1 ⟨E3,e3,f3,rfl,hd,hb2⟩
   have hb3:=hb.trans (hb2.mono hb.size)
   refine hK.out _ _ ?_
   rw [HInv2.out]
   exact ⟨b0,true,b2,b3,b4,b5,_,_,u15,u16,E3,e3,f3,E2,e2,f2,rfl,rfl,hb3,(fun h=>(g0 h).below hb2 (g0 h).lt),(fun h=>by rw [n4] at h;cases h),(fun h=>(h0 h).below hb2 (h0 h).lt),(fun h=>by rw [n5] at h;cases h),v0,(fun _=>⟨rfl,hd⟩),v2,(fun h=>by rw [n3] at h;cases h),(fun _=>d0),o4,o5⟩
  | 2,ho,hl,hdep=>
   have hun:b2=false:=Option.some.inj hl
   obtain rfl:=Option.some.inj ho
   have n5:b5=false:=by
    cases h5:b5
    ·rfl
    ·have:=(v3 (o4 (o5 h5))).1;rw [hun] at this;cases this
   have k0:=h0 n5
   have x0:=k0.cell 0
   have x1:=k0.cell 1
   refine step_of ho fun K' hK => ?_
   go_simp
   refine hK.out _ _ ?_
   rw [HInv2.out]
   exact ⟨b0,b1,true,b3,b4,b5,u13,u14,.agg #[.bool true,.slice A2 n2 c2],u16,E1,e1,f1,E2,e2,f2,rfl,rfl,hb,g0,g1,h0,h1,v0,v1,(fun _=>rfl),(fun h=>⟨rfl,(v3 h).2⟩),o1,o4,o5⟩
  | 3,ho,hl,hdep=>
   have hun:b3=false:=Option.some.inj hl
   obtain rfl:=Option.some.inj ho
   have d2:b2=true:=hdep ⟨2,.data⟩ (by simp) rfl
   have d1:b1=true:=hdep ⟨1,.chain⟩ (by simp) rfl
   have d0:b0=true:=o1 d1
   obtain rfl:=v2 d2
   obtain rfl:=v0 d0
   obtain ⟨rfl,dg1⟩:=v1 d1
   have n4:b4=false:=by
    cases h4:b4
    ·rfl
    ·have:=o4 h4;rw [hun] at this;cases this
   have n5:b5=false:=by
    cases h5:b5
    ·rfl
    ·have:=o5 h5;rw [n4] at this;cases this
   refine step_of ho fun K' hK => ?_
   go_simp
   go_at_call 166
   refine (M2.out W hb).mono ?_
   rintro e W1 ⟨E3,e3,f3,rfl,hd,hb2⟩
   have hb3:=hb.trans (hb2.mono hb.size)
   refine hK.out _ _ ?_
   rw [HInv2.out]
   exact ⟨b0,b1,b2,true,b4,b5,_,_,_,_,E1,e1,f1,E3,e3,f3,rfl,rfl,hb3,(fun h=>(g0 h).below hb2 (g0 h).lt),(fun h=>by rw [n4] at h;cases h),(fun h=>(h0 h).below hb2 (h0 h).lt),(fun h=>by rw [n5] at h;cases h),(fun _=>rfl),(fun _=>⟨rfl,dg1.later hb2⟩),(fun _=>rfl),(fun _=>⟨d2,d1,rfl,hd⟩),o1,(fun _=>rfl),o5⟩
  | 4,ho,hl,hdep=>
   have hun:b4=false:=Option.some.inj hl
   obtain rfl:=Option.some.inj ho
   have d1:b1=true:=hdep ⟨1,.data⟩ (by simp) rfl
   have d3:b3=true:=hdep ⟨3,.chain⟩ (by simp) rfl
   have n5:b5=false:=by
    cases h5:b5
    ·rfl
    ·have:=o5 h5;rw [hun] at this;cases this
   have d0:b0=true:=o1 d1
   obtain rfl:=v0 d0
   obtain ⟨rfl,dg1⟩:=v1 d1
   obtain ⟨d2,_,rfl,dg2⟩:=v3 d3
   obtain rfl:=v2 d2
   have k0:=g0 hun
   have k1:=h0 n5
   have x0:=k0.cell 0
   have x1:=k0.cell 1
   have z0:=k0.frozen 0
   have z1:=k0.frozen 1
   refine step_of ho fun K' hK => ?_
   go_simp
   refine hK.out _ _ ?_
   rw [HInv2.out]
   exact ⟨b0,b1,b2,b3,true,b5,_,_,_,_,E1,e1,f1,E2,e2,f2,rfl,rfl,two_set hb (Nat.le_refl _) _ _,(fun h=>by cases h),(fun _=>k0.set2 _ _),(fun _=>k1.far2 (by omega) _ _),(fun h=>by rw [n5] at h;cases h),(fun _=>rfl),(fun _=>⟨rfl,dg1.box k0 _ _⟩),(fun _=>rfl),(fun _=>⟨d2,d1,rfl,dg2.box k0 _ _⟩),o1,(fun _=>d3),(fun _=>rfl)⟩
  | 5,ho,hl,hdep=>
   have hun:b5=false:=Option.some.inj hl
   obtain rfl:=Option.some.inj ho
   have d3:b3=true:=hdep ⟨3,.data⟩ (by simp) rfl
   have d4:b4=true:=hdep ⟨4,.chain⟩ (by simp) rfl
   obtain ⟨d2,d1,rfl,dg2⟩:=v3 d3
   obtain ⟨rfl,dg1⟩:=v1 d1
   obtain rfl:=v2 d2
   have d0:b0=true:=o1 d1
   obtain rfl:=v0 d0
   have k0:=g1 d4
   have k1:=h0 hun
   have x0:=k1.cell 0
   have x1:=k1.cell 1
   have z0:=k1.frozen 0
   have z1:=k1.frozen 1
   refine step_of ho fun K' hK => ?_
   go_simp
   refine hK.out _ _ ?_
   rw [HInv2.out]
   exact ⟨b0,b1,b2,b3,b4,true,_,_,_,_,E1,e1,f1,E2,e2,f2,rfl,rfl,two_set hb (by omega) _ _,(fun h=>by rw [d4] at h;cases h),(fun _=>k0.far2 (by omega) _ _),(fun h=>by cases h),(fun _=>k1.set2 _ _),(fun _=>rfl),(fun _=>⟨rfl,dg1.box k1 _ _⟩),(fun _=>rfl),(fun _=>⟨d2,d1,rfl,dg2.box k1 _ _⟩),o1,(fun _=>d3),(fun _=>d4)⟩
  | n+6,ho,hl,hdep=>exact absurd ho (by simp)
 intro listed a w6 hI hall
 rw [HInv2.out] at hI
 obtain ⟨b0,b1,b2,b3,b4,b5,u13,u14,u15,u16,E1,e1,f1,E2,e2,f2,rfl,rfl,hB6,g0,g1,h0,h1,v0,v1,v2,v3,o1,o4,o5⟩:=hI
 have d0:b0=true:=hall 0 b0 (by decide) rfl
 have d1:b1=true:=hall 1 b1 (by decide) rfl
 have d2:b2=true:=hall 2 b2 (by decide) rfl
 have d3:b3=true:=hall 3 b3 (by decide) rfl
 have d4:b4=true:=hall 4 b4 (by decide) rfl
 have d5:b5=true:=hall 5 b5 (by decide) rfl
 obtain rfl:=v0 d0
 obtain ⟨rfl,hd16⟩:=v1 d1
 obtain rfl:=v2 d2
 obtain ⟨_,_,rfl,hd26⟩:=v3 d3
 have hk0:=g1 d4
 have hk1:=h1 d5
 clear hall g0 g1 h0 h1 v0 v1 v2 v3 o1 o4 o5 HInv2 d0 d1 d2 d3 d4 d5 hx0 hx1 hx0d hx1d hB hBd M1 M2
 have a0:w6.cell? ⟨w.heap.size,0,none⟩=some (.bool b9):=hk0.cell 0
 have a1:w6.cell? ⟨w.heap.size,1,none⟩=some (.slice E1 e1 f1):=hk0.cell 1
 have q1:w6.cell? ⟨w.heap.size+1,1,none⟩=some (.slice E2 e2 f2):=hk1.cell 1
 have al:=hk0.lt
 have bl:=hk1.lt
 have n1':e1≤500000:=by rw [←hd16.len];exact HL1.out.1
 have n2':e2≤500000:=by rw [←hd26.len];exact HL1.out.2
 have hg5:(digs g).length≤e2:=by rw [←hd26.len];exact HDIV.out.2.2
 have hxl:(digs X).length≤e1:=by rw [←hd16.len];exact HDIV.out.1
 have hyl:(digs Y).length≤e2:=by rw [←hd26.len];exact HDIV.out.2.1
 have h1d:=Lib.hid hd16
 have h2d:=Lib.hid hd26
 have HG5:=Lib.hid hg5
 have HXL:=Lib.hid hxl
 have HYL:=Lib.hid hyl
 have HB6:=Lib.hid hB6
 have hB:Below w6.heap.size w6 w6:=Below.refl _ _
 clear hd16 hd26 hg5 hxl hyl hB6 hk0 hk1 HL1 HDIV
 go_wp2_with fail
 refine (rcommon_any E1 E2 e1 f1 e2 f2 x y w6 h1d.out h2d.out (by omega) (by omega)).mono ?_
 rintro e w4 ⟨A5,m5,c5,rfl,hd5,hb4⟩
 rw [←HG.out] at hd5
 replace a0:=(hb4.cell (p:=⟨w.heap.size,0,none⟩) al).trans a0
 replace a1:=(hb4.cell (p:=⟨w.heap.size,1,none⟩) al).trans a1
 replace q1:=(hb4.cell (p:=⟨w.heap.size+1,1,none⟩) bl).trans q1
 replace hB:=hB.trans (hb4.mono hB.size)
 replace al:=Nat.lt_of_lt_of_le al hb4.size
 replace bl:=Nat.lt_of_lt_of_le bl hb4.size
 have hm5:m5≤e2:=by rw [←hd5.len];exact HG5.out
 clear hb4
 go_wp2_with fail
 refine (rdivDigits_any E1 A5 e1 f1 m5 c5 x g w4 (h1d.out.later hB) hd5 HG0.out (by omega) (by omega)).mono ?_
 rintro e w5 ⟨Ap,mp,cp,Ar,mr,cr,rfl,hdp,_,hb5⟩
 rw [←HX.out] at hdp
 replace a0:=(hb5.cell (p:=⟨w.heap.size,0,none⟩) al).trans a0
 replace a1:=(hb5.cell (p:=⟨w.heap.size,1,none⟩) al).trans a1
 replace q1:=(hb5.cell (p:=⟨w.heap.size+1,1,none⟩) bl).trans q1
 replace hB:=hB.trans (hb5.mono hB.size)
 replace al:=Nat.lt_of_lt_of_le al hb5.size
 replace bl:=Nat.lt_of_lt_of_le bl hb5.size
 replace hd5:=hd5.later hb5
 clear hb5
 go_wp2_with fail
 refine (rdivDigits_any E2 A5 e2 f2 m5 c5 y g w5 (h2d.out.later hB) hd5 HG0.out (by omega) (by omega)).mono ?_
 rintro e w6 ⟨Aq,mq,cq,Ar2,mr2,cr2,rfl,hdq,_,hb6⟩
 rw [←HY.out] at hdq
 replace a0:=(hb6.cell (p:=⟨w.heap.size,0,none⟩) al).trans a0
 replace a1:=(hb6.cell (p:=⟨w.heap.size,1,none⟩) al).trans a1
 replace q1:=(hb6.cell (p:=⟨w.heap.size+1,1,none⟩) bl).trans q1
 replace hB:=hB.trans (hb6.mono hB.size)
 replace al:=Nat.lt_of_lt_of_le al hb6.size
 replace bl:=Nat.lt_of_lt_of_le bl hb6.size
 replace hdp:=hdp.later hb6
 clear hb6 hd5
 have hmp:mp≤e1:=by rw [←hdp.len];exact HXL.out
 have hmq:mq≤e2:=by rw [←hdq.len];exact HYL.out
 have hmq1:=hdq.len
 have hxl9:=dec_len9 hdp.len
 have hyl9:=dec_len9 hdq.len
 have HS1:=rsigned_any b9 Ap mp cp (digs X) w6 hdp (by omega)
 rw [val_digs,←HZ.out] at HS1
 have HZA:=sgn_abs b9 X
 have HZN:=sgn_neg b9 X
 rw [←HZ.out] at HZA HZN
 have HS:=Lib.hid HS1
 have HZA':=Lib.hid HZA
 have HZN':=Lib.hid HZN
 have HMQ:=Lib.hid hmq1
 have HXL9:=Lib.hid hxl9
 have HYL9:=Lib.hid hyl9
 clear HS1 HZA HZN hdp hmq1 hxl9 hyl9
 go_wp2_with fail
 refine HS.out.mono ?_
 rintro e w7 ⟨A7,m7,c7,rfl,hd7,hb7⟩
 replace a0:=(hb7.cell (p:=⟨w.heap.size,0,none⟩) al).trans a0
 replace a1:=(hb7.cell (p:=⟨w.heap.size,1,none⟩) al).trans a1
 replace q1:=(hb7.cell (p:=⟨w.heap.size+1,1,none⟩) bl).trans q1
 replace hB:=hB.trans (hb7.mono hB.size)
 replace al:=Nat.lt_of_lt_of_le al hb7.size
 replace bl:=Nat.lt_of_lt_of_le bl hb7.size
 replace hdq:=hdq.later hb7
 clear hb7 HS
 rw [HZA'.out] at hd7
 have hm7:m7≤e1∨True := .inr trivial
 have HT7:=rtext_any (decide (z<0)) X A7 m7 c7 w7 hd7 (by rw [HZN'.out];simp) (by rw [←hd7.len];have:=HXL.out;have:=HXL9.out;have:=hmp;omega)
 have HT:=Lib.hid HT7
 clear HT7 hm7
 go_wp2_with fail
 refine HT.out.mono ?_
 rintro e w8 ⟨⟨s,rfl,hs⟩,hb8⟩
 replace a0:=(hb8.cell (p:=⟨w.heap.size,0,none⟩) al).trans a0
 replace a1:=(hb8.cell (p:=⟨w.heap.size,1,none⟩) al).trans a1
 replace q1:=(hb8.cell (p:=⟨w.heap.size+1,1,none⟩) bl).trans q1
 replace hB:=hB.trans (hb8.mono hB.size)
 replace al:=Nat.lt_of_lt_of_le al hb8.size
 replace bl:=Nat.lt_of_lt_of_le bl hb8.size
 replace hdq:=hdq.later hb8
 have hsz:s.size≤4500003:=by
  have h9:s.data.toList.length=s.size:=Array.length_toList
  have h8:=sgnT_len (decide (z<0)) (Lib.decDigits X)
  rw [←hs] at h8
  have:=HXL9.out
  omega
 have HSS:=Lib.hid hs
 clear hb8 HT hs hd7 a0 a1 q1
 by_cases hY:Y=1
 ·subst hY
  have h1l:(digs 1).length=1:=by rw [digs_single (by omega) (by decide)];rfl
  obtain rfl:mq=1:=by rw [←HMQ.out];exact h1l
  obtain ⟨ad,hkl,rfl,hbb,hcell⟩:=hdq.rd.cellM (k:=0) (by omega)
  have he:(digs 1)[0]=1:=by
   have:digs 1=[1]:=digs_single (by omega) (by decide)
   simp [this]
  unfold natv at hcell
  rw [he] at hcell
  replace hcell:w8.cell? ad=some (.int .i64 1):=hcell
  have HR:Hid (s.data.toList=writeS ⟨decide (z<0),X,1⟩):=by
   show s.data.toList=_
   rw [writeS_eq,HSS.out]
   simp
  clear h1l hkl he
  go_wp2
  go_ret
  exact ⟨⟨s,rfl,HR.out⟩,HB6.out.trans (hB.mono HB6.out.size)⟩
 ·have hcase:(((mq:Int)==1)=false)∨(mq=1∧∃ ad v:_,Aq=some ad∧w8.cell? ad=some (.int .i64 (v:Int))∧((v==1)=false)):=by
   by_cases hm:mq=1
   ·subst hm
    obtain ⟨ad,hkl,rfl,hbb,hcell⟩:=hdq.rd.cellM (k:=0) (by omega)
    refine .inr ⟨rfl,ad,(((digs Y)[0]:Nat):Int),rfl,hcell,?_⟩
    rw [beq_eq_false_iff_ne]
    intro h9
    apply hY
    have h8:(digs Y)[0]=1:=by omega
    have h7:digs Y=[1]:=by
     apply List.ext_getElem
     ·rw [HMQ.out];rfl
     ·intro i hi1 hi2
      have:i=0:=by simp at hi2;omega
      subst this
      simpa using h8
    rw [←val_digs Y,h7]
    simp
   ·exact .inl (by rw [beq_eq_false_iff_ne];omega)
  have HS2:=rsigned_any false Aq mq cq (digs Y) w8 hdq (by omega)
  rw [val_digs] at HS2
  have HS2':=Lib.hid HS2
  have HBH:=Lib.hid hB
  have HZ9:Hid ((sgn false Y).natAbs=Y∧decide (sgn false Y<0)=false):=⟨sgn_abs _ _,by rw [sgn_neg];rfl⟩
  generalize sgn false Y=z2 at *
  have HNY:=Lib.hid hY
  clear HS2 hY hB
  rcases hcase with d1 | ⟨rfl,ad,v,rfl,hcv,hv1⟩
  all_goals
   go_wp2_with fail
   refine HS2'.out.mono ?_
   rintro e w9 ⟨A9,m9,c9,rfl,hd9,hb9⟩
   rw [HZ9.out.1] at hd9
   rw [HZ9.out.2]
   have HT9:=Lib.hid (rtext_any false Y A9 m9 c9 w9 hd9 (by intro h;cases h) (by rw [←hd9.len];have:=HYL.out;have:=HMQ.out;omega))
   go_wp2_with fail
   refine HT9.out.mono ?_
   rintro e w10 ⟨⟨s2,rfl,hs2⟩,hb10⟩
   have hsz2:s2.size≤4500003:=by
    have h9:s2.data.toList.length=s2.size:=Array.length_toList
    rw [hs2] at h9
    have h8:=sgnT_len false (Lib.decDigits Y)
    have:=HYL9.out
    omega
   have HR:Hid (((s++⟨#[47]⟩)++s2).data.toList=writeS ⟨decide (z<0),X,Y⟩):=by
    show ((s++⟨#[47]⟩)++s2).data.toList=_
    rw [writeS_eq,if_neg HNY.out,ByteArray.data_append,ByteArray.data_append,Array.toList_append,Array.toList_append,HSS.out,hs2,List.append_assoc]
    rfl
   clear hs2 hd9
   go_wp2
   go_ret
   exact ⟨⟨_,rfl,HR.out⟩,HB6.out.trans ((HBH.out.trans ((hb9.trans (hb10.mono hb9.size)).mono HBH.out.size)).mono HB6.out.size)⟩
theorem frac_neg_rec {p:Q} (h:LowQ p) (hn:p.neg=true) (ht:0<p.top):fracQ (- sgn false p.bot) p.top=recS p:=by
 refine low_unique (fracQ_low _ ht) (low_recS h ht) ?_
 have h1:=sI_low (num := - sgn false p.bot) ht
 have e:sI (recS p) = - sgn false p.bot:=by
  unfold sI recS sgn
  rw [hn]
  simp
 rw [e]
 exact h1
set_option maxHeartbeats 2000000 in
set_option maxRecDepth 100000 in
theorem rRecS_q (a:ByteArray) (p:Q) (w:World) (h:NumQ a p) (ht:0<p.top) (ha:a.size≤100000) :
  Calls Tryz.prog 120 #[.string a] w (RetS w (recS p)):=by
 cases hn:p.neg
 ·have e:recS p=recQ p:=by rw [rec_pos h.2 hn ht];unfold recS;rw [hn]
  rw [e]
  exact rRec_q a p w h hn ht ha
 ·have hp:=rparts_any a p.neg p.top p.bot w h.num h.2.2.2 h.2.1 (by omega)
  rw [hn] at hp
  have HP:=Lib.hid hp
  have hl:=h.num.lens2 ha
  have HL:=Lib.hid hl
  have HRQ:Hid (∀ s:ByteArray,s.data.toList=writeS (fracQ (- sgn false p.bot) p.top)→NumQ s (recS p)):=fun s hs=>⟨by rw [hs,frac_neg_rec h.2 hn ht],low_recS h.2 ht⟩
  clear hp hl
  generalize recS p=R at *
  go_enter Tryz.func120,Tryz.ntmps120
  go_wp2_with fail
  refine HP.out.mono ?_
  rintro e w1 ⟨A1,n1,c1,A2,n2,c2,rfl,hd1,hd2,hb1⟩
  have hB:Below w1.heap.size w1 ((w1.alloc (.cells #[.bool true,.slice A1 n1 c1] 107)).alloc (.cells #[.bool false,.slice A2 n2 c2] 107)):=((Below.refl _ _).alloc (Nat.le_refl _) _).alloc (by simp) _
  have e1:n1≤100000:=by rw [←hd1.len];exact HL.out.1
  have e2:n2≤100001:=by rw [←hd2.len];exact HL.out.2
  have HF:=Lib.hid (rfraction_neg false p.bot p.top A2 A1 n2 c2 n1 c1 _ (hd2.later hB) (hd1.later hB) ht (by omega) (by omega))
  have HB:=Lib.hid (hb1.trans (hB.mono hb1.size))
  clear hd1 hd2 hB hb1
  go_wp2_with fail
  refine HF.out.mono ?_
  rintro e w2 ⟨⟨s,rfl,hs⟩,hb2⟩
  go_wp2
  go_ret
  exact ⟨⟨s,rfl,HRQ.out s hs⟩,HB.out.trans (hb2.mono HB.out.size)⟩
set_option maxHeartbeats 1000000 in
theorem rDivS_q (a a':ByteArray) (p q:Q) (w:World) (h:NumQ a p) (h':NumQ a' q) (ht:0<q.top) (ha:a.size≤40000) (ha':a'.size≤40000) :
  Calls Tryz.prog 57 #[.string a,.string a'] w (RetS w (mulQ p (recS q))):=by
 have HR:=Lib.hid (rRecS_q a' q w h' ht (by omega))
 have hsz:∀ s:ByteArray,NumQ s (recS q)→s.size≤100000:=fun s hs=>by
  obtain ⟨N,hN⟩:∃ N,N=40000:=⟨_,rfl⟩
  have:=hs.size (small_recS (h'.small (N:=N) (by omega) (by omega))) (by omega)
  omega
 have HM:=Lib.hid (fun (s:ByteArray) (hs:NumQ s (recS q)) (W:World)=>rMul_q a s p (recS q) W h hs (by omega) (hsz s hs))
 clear hsz
 go_enter Tryz.func57,Tryz.ntmps57
 go_wp2_with fail
 refine HR.out.mono ?_
 rintro e w1 ⟨⟨s,rfl,hs⟩,hb1⟩
 go_wp2_with fail
 refine (HM.out s hs w1).mono ?_
 rintro e w2 ⟨⟨t,rfl,ht⟩,hb2⟩
 go_wp2
 go_ret
 exact ⟨⟨t,rfl,ht⟩,hb1.trans (hb2.mono hb1.size)⟩
def numQ (p:Q):Q:=⟨p.neg,p.top,1⟩
theorem NumQ.top_eq {a:ByteArray} {p:Q} (h:NumQ a p):a.data.toList=sgnT p.neg (Lib.decDigits p.top)++tailT p.bot:=h.num
set_option maxHeartbeats 1000000 in
theorem rNum_q (a:ByteArray) (p:Q) (w:World) (h:NumQ a p) (ha:a.size≤1000000) :
  Calls Tryz.prog 185 #[.string a] w fun e w'=>(∃ s:ByteArray,e = .returned (.string s)∧NumQ s (numQ p)∧s.size≤a.size)∧w=w':=by
 obtain ⟨k,hk⟩:∃ k,k=(sgnT p.neg (Lib.decDigits p.top)).length:=⟨_,rfl⟩
 obtain ⟨p1,p2,p3⟩:=cut_parts (t:=a) (l:=sgnT p.neg (Lib.decDigits p.top)) h.num hk
 have hsv:slashL a.data.toList=k:=by rw [h.top_eq,slashL_tail _ _ (sgnT_slash (digits_dec p.top)),hk]
 have hka:k≤a.size:=by
  have:=slashL_le a.data.toList
  rw [hsv,Array.length_toList] at this
  exact this
 have hsl:=fun W=>rslash_any a W (by omega)
 simp only [hsv] at hsl
 have HSL:=Lib.hid hsl
 have HN:Hid (NumQ (a.extract 0 k) (numQ p)):=by
  refine ⟨?_,Nat.one_pos,Nat.gcd_one_right _,h.2.2.2⟩
  rw [p1,writeS_eq]
  show _=_++(if (1:Nat)=1 then [] else _)
  rw [if_pos rfl,List.append_nil]
  rfl
 have HS:Hid ((a.extract 0 k).size≤a.size):=by show (a.extract 0 k).size≤a.size;rw [ByteArray.size_extract];omega
 clear hsl hsv p1 p2 p3 hk h
 go_enter Tryz.func185,Tryz.ntmps185
 go_wp2_with fail
 refine (HSL.out w).mono ?_
 rintro e w4 ⟨rfl,rfl⟩
 go_wp2
 go_ret
 exact ⟨⟨_,rfl,HN.out,HS.out⟩,rfl⟩
set_option maxHeartbeats 1000000 in
theorem rDen_q (a:ByteArray) (p:Q) (w:World) (h:NumQ a p) (ha:a.size≤1000000) :
  Calls Tryz.prog 186 #[.string a] w fun e w'=>(∃ s:ByteArray,e = .returned (.string s)∧s.size=(Lib.decDigits p.bot).length)∧w=w':=by
 obtain ⟨k,hk⟩:∃ k,k=(sgnT p.neg (Lib.decDigits p.top)).length:=⟨_,rfl⟩
 obtain ⟨p1,p2,p3⟩:=cut_parts (t:=a) (l:=sgnT p.neg (Lib.decDigits p.top)) h.num hk
 have hsv:slashL a.data.toList=k:=by rw [h.top_eq,slashL_tail _ _ (sgnT_slash (digits_dec p.top)),hk]
 have hsl:=fun W=>rslash_any a W (by omega)
 simp only [hsv] at hsl
 have HSL:=Lib.hid hsl
 by_cases hy:p.bot=1
 ·have hak:=p2 hy
  have dk:((k:Int)==(a.size:Int))=true:=by rw [beq_iff_eq];omega
  have HR:Hid ((⟨#[49]⟩:ByteArray).size=(Lib.decDigits p.bot).length):=by show _=_;rw [hy,Dec.dec_lt (by omega)];rfl
  clear hsl hsv p1 p2 p3 hk h hak hy
  go_enter Tryz.func186,Tryz.ntmps186
  go_wp2_with fail
  refine (HSL.out w).mono ?_
  rintro e w4 ⟨rfl,rfl⟩
  go_wp2
  go_ret
  exact ⟨⟨_,rfl,HR.out⟩,rfl⟩
 ·obtain ⟨hka,hext,hsz⟩:=p3 hy
  have dk:((k:Int)==(a.size:Int))=false:=by rw [beq_eq_false_iff_ne];omega
  obtain ⟨kk,hkk⟩:∃ kk,kk=k+1:=⟨_,rfl⟩
  have ew:IntKind.i64.wrap ((k:Int)+1)=(kk:Int):=by rw [IntWalk.i64_in _ (by omega)];omega
  have hk0:(0:Int)≤(kk:Int)∧(kk:Int)≤(a.size:Int):=by omega
  have HR:Hid ((a.extract kk a.size).size=(Lib.decDigits p.bot).length):=by
   show _=_
   rw [hkk,←hext,Array.length_toList]
   rfl
  clear hsl hsv p1 p2 p3 hk h hext hsz hy hkk
  go_enter Tryz.func186,Tryz.ntmps186
  go_wp2_with fail
  refine (HSL.out w).mono ?_
  rintro e w4 ⟨rfl,rfl⟩
  go_wp2
  go_ret
  exact ⟨⟨_,rfl,HR.out⟩,rfl⟩
theorem num_len {s:ByteArray} {p:Q} {N:Nat} (h:NumQ s (absQ (numQ p))) (hs:Small p N) (hN:0<N):s.size≤N:=by
 have h1:=congrArg List.length h.1
 rw [Array.length_toList,writeS_eq] at h1
 have e:(absQ (numQ p)).bot=1:=rfl
 rw [e,if_pos rfl,List.append_nil] at h1
 have e2:sgnT (absQ (numQ p)).neg (Lib.decDigits (absQ (numQ p)).top)=Lib.decDigits p.top:=rfl
 rw [e2] at h1
 have h2:=Dec.dec_length_le hN hs.1
 have h3:s.data.size=s.size:=rfl
 omega
set_option maxHeartbeats 1000000 in
set_option maxRecDepth 100000 in
theorem rLarge_small (a:ByteArray) (p:Q) (w:World) (h:NumQ a p) (hs:Small p 600) :
  Calls Tryz.prog 131 #[.string a] w fun e w'=>e = .returned (.int .i64 0)∧Below w.heap.size w w':=by
 have ha:a.size≤1202:=h.size hs (by omega)
 have HN:=Lib.hid (rNum_q a p w h (by omega))
 have HA:=Lib.hid (fun (s:ByteArray) (hs:NumQ s (numQ p)) (hz:s.size≤1000000) (W:World)=>rAbs_q s (numQ p) W hs hz)
 have HD:=Lib.hid (fun W=>rDen_q a p W h (by omega))
 have HL:Hid (∀ s:ByteArray,NumQ s (absQ (numQ p))→s.size≤600):=fun s h9=>num_len h9 hs (by omega)
 have HB:Hid ((Lib.decDigits p.bot).length≤600):=Dec.dec_length_le (by omega) hs.2
 clear h hs
 go_enter Tryz.func131,Tryz.ntmps131
 go_wp2_with fail
 refine HN.out.mono ?_
 rintro e w1 ⟨⟨s,rfl,h1,h2⟩,rfl⟩
 go_wp2_with fail
 refine (HA.out s h1 (by omega) w).mono ?_
 rintro e w2 ⟨⟨t,rfl,h3⟩,hb2⟩
 have h4:=HL.out t h3
 have d1:decide (600<(t.size:Int))=false:=by simp only [decide_eq_false_iff_not];omega
 clear h1 h3
 go_wp2_with fail
 refine (HD.out w2).mono ?_
 rintro e w3 ⟨⟨u,rfl,h5⟩,rfl⟩
 have h6:u.size≤600:=by rw [h5];exact HB.out
 have d2:decide (600<(u.size:Int))=false:=by simp only [decide_eq_false_iff_not];omega
 clear h5
 go_wp2
 go_ret
 exact ⟨rfl,hb2⟩
set_option maxHeartbeats 2000000 in
set_option maxRecDepth 100000 in
theorem rLargeRow_two (s t:ByteArray) (p q:Q) (ty:TypeId) (g:Nat) (w:World) (hk:CBlk w g #[.string s,.string t] ty) (hs:NumQ s p) (ht:NumQ t q) (h1:Small p 600) (h2:Small q 600) :
  Calls Tryz.prog 79 #[.slice (some ⟨g,0,none⟩) 2 2] w fun e w'=>e = .returned (.int .i64 0)∧Below w.heap.size w w':=by
 have HS:=Lib.hid (fun W=>rLarge_small s p W hs h1)
 have HT:=Lib.hid (fun W=>rLarge_small t q W ht h2)
 clear hs ht h1 h2
 go_enter Tryz.func79,Tryz.ntmps79
 go_wp2
 go_loopg [3] 2 (fun g1 v3 W=>∃ i:Nat,v3 = .int .i64 (i:Int)∧i≤2∧g1+i=2∧Below w.heap.size w W)
 case atStart=>exact ⟨0,rfl,by omega,rfl,Below.refl _ _⟩
 case round=>
  obtain ⟨i,rfl,hi,hgi,hbel⟩:=hrel
  have hkr:=hk.below hbel hk.lt
  have z0:wr.cell? ⟨g,0,none⟩=some (.string s):=hkr.cell 0
  have z1:wr.cell? ⟨g,1,none⟩=some (.string t):=hkr.cell 1
  clear hkr
  match i,hi,hgi with
  | 0,_,_=>
   go_wp2_with fail
   refine (HS.out wr).mono ?_
   rintro e w1 ⟨rfl,hb1⟩
   go_wp2
   go_roundg 1
   case rel=>exact ⟨1,rfl,by omega,rfl,hbel.trans (hb1.mono hbel.size)⟩
   case measure=>omega
  | 1,_,_=>
   go_wp2_with fail
   refine (HT.out wr).mono ?_
   rintro e w1 ⟨rfl,hb1⟩
   go_wp2
   go_roundg 0
   case rel=>exact ⟨2,rfl,by omega,rfl,hbel.trans (hb1.mono hbel.size)⟩
   case measure=>omega
  | 2,_,_=>
   go_wp2
   go_ret
   exact ⟨rfl,hbel⟩
  | n+3,h,_=>exact absurd h (by omega)
set_option maxHeartbeats 1000000 in
theorem rcheckMark_any (a st z c e1 e2:Int) (g o v:ByteArray) (w:World)
  (h1:∀ W,Calls Tryz.prog 16 #[.agg #[.int .i64 a,.int .i64 st,.int .i64 z,.string g,.string o],.int .i64 c] W fun e w'=>e = .returned (.int .i64 e1)∧Below W.heap.size W w')
  (h2:∀ W,Calls Tryz.prog 14 #[.string v] W fun e w'=>e = .returned (.int .i64 e2)∧Below W.heap.size W w') :
  Calls Tryz.prog 77 #[.agg #[.int .i64 a,.int .i64 st,.int .i64 z,.string g,.string o],.agg #[.int .i64 c,.string v]] w fun e w'=>e = .returned (.int .i64 (firstE [e1,e2]))∧Below w.heap.size w w':=by
 have hB:Below w.heap.size w ((w.alloc (.cells #[.int .i64 a,.int .i64 st,.int .i64 z,.string g,.string o] 24)).alloc (.cells #[.int .i64 c,.string v] 52)):=((Below.refl _ _).alloc (Nat.le_refl _) _).alloc (by simp) _
 have q0:CBlk ((w.alloc (.cells #[.int .i64 a,.int .i64 st,.int .i64 z,.string g,.string o] 24)).alloc (.cells #[.int .i64 c,.string v] 52)) w.heap.size #[.int .i64 a,.int .i64 st,.int .i64 z,.string g,.string o] 24:=(CBlk.new w _ _ _ rfl).below ((Below.refl _ _).alloc (Nat.le_refl _) _) (by simp)
 have m0:CBlk ((w.alloc (.cells #[.int .i64 a,.int .i64 st,.int .i64 z,.string g,.string o] 24)).alloc (.cells #[.int .i64 c,.string v] 52)) (w.heap.size+1) #[.int .i64 c,.string v] 52:=CBlk.new _ _ _ _ (by simp)
 have x0:=q0.cell 0
 have x1:=q0.cell 1
 have x2:=q0.cell 2
 have x3:=q0.cell 3
 have x4:=q0.cell 4
 have y0:=m0.cell 0
 have H1:=Lib.hid h1
 have H2:=Lib.hid h2
 have hcase:((e1==0)=false∧firstE [e1,e2]=e1)∨(e1=0∧firstE [e1,e2]=e2):=by
  by_cases h0:e1=0
  ·refine .inr ⟨h0,?_⟩
   subst h0
   by_cases h9:e2=0
   ·subst h9;rfl
   ·simp [firstE,h9]
  ·exact .inl ⟨beq_eq_false_iff_ne.2 h0,by simp [firstE,h0]⟩
 clear h1 h2
 rcases hcase with ⟨d1,he⟩ | ⟨rfl,he⟩
 ·have HE:=Lib.hid he
  clear he
  go_enter Tryz.func77,Tryz.ntmps77
  go_wp2_with fail
  generalize ((w.alloc (.cells #[.int .i64 a,.int .i64 st,.int .i64 z,.string g,.string o] 24)).alloc (.cells #[.int .i64 c,.string v] 52))=w1 at *
  refine (H1.out w1).mono ?_
  rintro e w2 ⟨rfl,hb2⟩
  clear x0 x1 x2 x3 x4 y0
  go_wp2
  go_ret
  exact ⟨by rw [HE.out];rfl,hB.trans (hb2.mono hB.size)⟩
 ·have HE:=Lib.hid he
  clear he
  go_enter Tryz.func77,Tryz.ntmps77
  go_wp2_with fail
  generalize ((w.alloc (.cells #[.int .i64 a,.int .i64 st,.int .i64 z,.string g,.string o] 24)).alloc (.cells #[.int .i64 c,.string v] 52))=w1 at *
  refine (H1.out w1).mono ?_
  rintro e w2 ⟨rfl,hb2⟩
  have m2:=m0.below hb2 m0.lt
  have y1:=m2.cell 1
  have hB2:=hB.trans (hb2.mono hB.size)
  clear x0 x1 x2 x3 x4 y0
  go_wp2_with fail
  refine (H2.out w2).mono ?_
  rintro e w3 ⟨rfl,hb3⟩
  go_wp2
  go_ret
  exact ⟨by rw [HE.out];rfl,hB2.trans (hb3.mono hB2.size)⟩
end Go.Proofs.YtjhgadajpliclaaGreatDoor
namespace Go.Proofs.YtjhgadajpliclaaGreatDoor
open Go.RowKit Bn
open Flt
theorem readQ_low {l:List UInt8} (h:readE l=0):LowQ (readQ l):=⟨readQ_bot h,readQ_gcd h,readQ_neg h⟩
end Go.Proofs.YtjhgadajpliclaaGreatDoor
