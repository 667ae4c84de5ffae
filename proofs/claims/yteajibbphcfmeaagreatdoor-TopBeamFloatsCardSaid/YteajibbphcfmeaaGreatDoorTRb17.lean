/- Contract of the reference's parts: the integers of a text's numerator and denominator. -/
import Derived.Test.YteajibbphcfmeaaGreatDoorTRb14
import Derived.Deep.RegionHeld3
namespace Go.Proofs.YteajibbphcfmeaaGreatDoor
open Go.RowKit Dn
theorem sgn_low {b:Bool} {x:Nat} (h:b=true→0<x):decide (sgn b x<0)=b:=by
 rw [sgn_neg]
 cases b
 ·rfl
 ·simpa using h rfl
def RetP (w:World) (b:Bool) (x y:Nat) (e:Ending) (w':World):Prop:=
 ∃ A1 n1 c1 A2 n2 c2,e = .returned (.tuple #[.agg #[.bool b,.slice A1 n1 c1],.agg #[.bool false,.slice A2 n2 c2]])∧DigI w' A1 n1 c1 (digs x)∧DigI w' A2 n2 c2 (digs y)∧Below w.heap.size w w'
theorem DigI.box2 {w:World} {A A1 A2:Option Addr} {n c n1 c1 n2 c2 g:Nat} {b1 b2:Bool} {l:List Nat} {t:TypeId} (h:DigI w A n c l) (hk:CBlk w g #[.bool b1,.slice A1 n1 c1] t) (hk2:CBlk w (g+1) #[.bool b2,.slice A2 n2 c2] t) (u v u' v':Value) :
  DigI ((((w.setCell ⟨g,0,none⟩ u).setCell ⟨g,1,none⟩ v).setCell ⟨g+1,0,none⟩ u').setCell ⟨g+1,1,none⟩ v') A n c l:=
 (h.box hk u v).box (hk2.far2 (by omega) u v) u' v'
set_option maxHeartbeats 4000000 in
set_option maxRecDepth 100000 in
theorem rparts_any (a:ByteArray) (b:Bool) (x y:Nat) (w:World) (h:NumT a b x y) (hb:b=true→0<x) (hy0:0<y) (ha:a.size≤1000000) :
  Calls Tryz.prog 61 #[.string a] w (RetP w b x y):=by
 have hB:Below w.heap.size w ((w.alloc (.cells #[.bool false,.slice none 0 0] 84)).alloc (.cells #[.bool false,.slice none 0 0] 84)):=((Below.refl _ _).alloc (Nat.le_refl _) _).alloc (by simp) _
 have hx0:CBlk ((w.alloc (.cells #[.bool false,.slice none 0 0] 84)).alloc (.cells #[.bool false,.slice none 0 0] 84)) w.heap.size #[.bool false,.slice none 0 0] 84:=(CBlk.new w _ _ _ rfl).below ((Below.refl _ _).alloc (Nat.le_refl _) _) (by simp)
 have hx1:CBlk ((w.alloc (.cells #[.bool false,.slice none 0 0] 84)).alloc (.cells #[.bool false,.slice none 0 0] 84)) (w.heap.size+1) #[.bool false,.slice none 0 0] 84:=CBlk.new (w.alloc (.cells #[.bool false,.slice none 0 0] 84)) _ _ (w.heap.size+1) (by simp)
 have hsd:digits (sgnT false (Lib.decDigits x))=true:=digits_dec x
 obtain ⟨k,hk⟩:∃ k,k=(sgnT b (Lib.decDigits x)).length:=⟨_,rfl⟩
 obtain ⟨p1,p2,p3⟩:=cut_parts (t:=a) (l:=sgnT b (Lib.decDigits x)) h hk
 have hsl:=rslash_any a
 have hsv:slashL a.data.toList=k:=by rw [h,slashL_tail _ _ (sgnT_slash (digits_dec x)),hk]
 have hsl:=fun W=>rslash_any a W (by omega)
 simp only [hsv] at hsl
 have HSL:=Lib.hid hsl
 have HSG:=Lib.hid (sgn_low hb)
 have HSA:=Lib.hid (sgn_abs b x)
 clear hsl hsv hsd
 by_cases hy:y=1
 ·subst hy
  have hak:=p2 rfl
  have hpa:=fun W=>rparse_any a b x W (by rw [h];simp [tailT]) ha
  have HPA:=Lib.hid hpa
  have dk:((k:Int)==(a.size:Int))=true:=by rw [beq_iff_eq];omega
  clear h hk p1 p2 p3 hpa hak hb
  go_enter Tryz.func61,Tryz.ntmps61
  go_upto_region 1 with (fail)
  generalize ((w.alloc (.cells #[.bool false,.slice none 0 0] 84)).alloc (.cells #[.bool false,.slice none 0 0] 84))=w3 at *
  go_wp2_with fail
  refine (HSL.out w3).mono ?_
  rintro e w4 ⟨rfl,hw⟩
  obtain rfl:w3=w4:=hw
  go_wp2_with fail
  refine (HPA.out w3).mono ?_
  rintro e w5 ⟨A5,m5,c5,rfl,hd5,hb5⟩
  rw [HSA.out] at hd5
  rw [HSG.out]
  have HW:=Lib.hid (rwhole_nat 1 w5 (by omega))
  go_wp2_with fail
  refine HW.out.mono ?_
  rintro e w6 ⟨A6,m6,c6,rfl,hd6,hb6⟩
  have hd6':DigI w6 A6 m6 c6 (digs 1):=hd6
  have hk0:=(hx0.below hb5 hx0.lt).below hb6 (Nat.lt_of_lt_of_le hx0.lt hb5.size)
  have hk1:=(hx1.below hb5 hx1.lt).below hb6 (Nat.lt_of_lt_of_le hx1.lt hb5.size)
  have hd5':=hd5.later hb6
  have hBB:=hB.trans ((hb5.trans (hb6.mono hb5.size)).mono hB.size)
  have e0:w6.cell? ⟨w.heap.size,0,none⟩=some (.bool false):=hk0.cell 0
  have e1:w6.cell? ⟨w.heap.size,1,none⟩=some (.slice none 0 0):=hk0.cell 1
  have e2:w6.cell? ⟨w.heap.size+1,0,none⟩=some (.bool false):=hk1.cell 0
  have e3:w6.cell? ⟨w.heap.size+1,1,none⟩=some (.slice none 0 0):=hk1.cell 1
  have f0:w6.frozen? ⟨w.heap.size,0,none⟩=false:=hk0.frozen 0
  have f1:w6.frozen? ⟨w.heap.size,1,none⟩=false:=hk0.frozen 1
  have f2:w6.frozen? ⟨w.heap.size+1,0,none⟩=false:=hk1.frozen 0
  have f3:w6.frozen? ⟨w.heap.size+1,1,none⟩=false:=hk1.frozen 1
  have HD5:=Lib.hid hd5'
  have HD6:=Lib.hid hd6'
  have HBB:=Lib.hid hBB
  clear hb5 hb6 hd5 hd6 hd5' hd6' hBB hB dk
  go_wp2
  refine bodyPost_ret (v := .tuple #[.agg #[.bool b,.slice A5 m5 c5],.agg #[.bool false,.slice A6 m6 c6]]) (by simp [results,Tryz.results61,go_sem,e0,e1,e2,e3]) rfl ?_
  exact ⟨A5,m5,c5,A6,m6,c6,rfl,HD5.out.box2 hk0 hk1 _ _ _ _,HD6.out.box2 hk0 hk1 _ _ _ _,two_set (two_set HBB.out (Nat.le_refl _) _ _) (by omega) _ _⟩
 ·obtain ⟨q1,q2,q3⟩:=p3 hy
  obtain ⟨t1,ht1⟩:∃ t1,a.extract 0 k=t1:=⟨_,rfl⟩
  obtain ⟨kk,hkk⟩:∃ kk,kk=k+1:=⟨_,rfl⟩
  rw [←hkk] at q2
  obtain ⟨t2,ht2⟩:∃ t2,a.extract kk a.size=t2:=⟨_,rfl⟩
  have hz1:t1.size≤1000000:=by rw [←ht1];simp;omega
  have hz2:t2.size≤1000000:=by rw [←ht2];simp;omega
  rw [ht1] at p1
  rw [ht2] at q2
  have HP1:=Lib.hid (fun W=>rparse_any t1 b x W p1 hz1)
  have HP2:=Lib.hid (fun W=>rparse_any t2 false y W q2 hz2)
  have HSG2:Hid (decide (sgn false y<0)=false):=by show decide (sgn false y<0)=false;rw [sgn_neg];rfl
  have HSA2:=Lib.hid (sgn_abs false y)
  have dk:((k:Int)==(a.size:Int))=false:=by rw [beq_eq_false_iff_ne];omega
  have f1:IntKind.i64.wrap ((k:Int)+1)=(kk:Int):=by rw [IntWalk.i64_in _ (by omega)];omega
  have g1:(0:Int)≤(k:Int):=by omega
  have g2:(k:Int)≤(a.size:Int):=by omega
  have g3:(0:Int)≤(kk:Int):=by omega
  have g4:(kk:Int)≤(a.size:Int):=by omega
  clear h hk p1 p2 p3 q1 q2 q3 hb hz1 hz2 hkk
  go_enter Tryz.func61,Tryz.ntmps61
  go_upto_region 1 with (fail)
  generalize ((w.alloc (.cells #[.bool false,.slice none 0 0] 84)).alloc (.cells #[.bool false,.slice none 0 0] 84))=w3 at *
  go_wp2_with fail
  refine (HSL.out w3).mono ?_
  rintro e w4 ⟨rfl,hw⟩
  obtain rfl:w3=w4:=hw
  have hx0d:CBlk w3.drew w.heap.size #[.bool false,.slice none 0 0] 84:=hx0
  have hx1d:CBlk w3.drew (w.heap.size+1) #[.bool false,.slice none 0 0] 84:=hx1
  have hBd:Below w.heap.size w w3.drew:=hB.drew
  go_upto_region 5 with (fail)
  go_region_held3 (fun _=>True) (exact trivial)
   (first
    |(go_at_call_of 120 (Value.string t1);refine (HP1.out w3.drew).mono ?_;rintro e w5 ⟨A5,m5,c5,rfl,hd5,hb5⟩;rw [HSA.out] at hd5;rw [HSG.out])
    |(go_at_call_of 120 (Value.string t2);refine (HP2.out w5).mono ?_;rintro e w6 ⟨A6,m6,c6,rfl,hd6,hb6⟩;rw [HSA2.out] at hd6;rw [HSG2.out];have hk0:=(hx0d.below hb5 hx0d.lt).below hb6 (Nat.lt_of_lt_of_le hx0d.lt hb5.size);have hk1:=(hx1d.below hb5 hx1d.lt).below hb6 (Nat.lt_of_lt_of_le hx1d.lt hb5.size);have e0:=hk0.cell 0;have e1:=hk0.cell 1;have e2:=hk1.cell 0;have e3:=hk1.cell 1;have r0:=hk0.frozen 0;have r1:=hk0.frozen 1;have r2:=hk1.frozen 0;have r3:=hk1.frozen 1))
  have hd5':=hd5.later hb6
  have hBB:=hBd.trans ((hb5.trans (hb6.mono hb5.size)).mono hBd.size)
  have k0:w6.cell? ⟨w.heap.size,0,none⟩=some (.bool false):=e0
  have k1:w6.cell? ⟨w.heap.size,1,none⟩=some (.slice none 0 0):=e1
  have k2:w6.cell? ⟨w.heap.size+1,0,none⟩=some (.bool false):=e2
  have k3:w6.cell? ⟨w.heap.size+1,1,none⟩=some (.slice none 0 0):=e3
  go_wp2_with fail
  refine bodyPost_ret (v := .tuple #[.agg #[.bool b,.slice A5 m5 c5],.agg #[.bool false,.slice A6 m6 c6]]) (by simp [results,Tryz.results61,go_sem,k0,k1,k2,k3]) rfl ?_
  exact ⟨A5,m5,c5,A6,m6,c6,rfl,hd5'.box2 hk0 hk1 _ _ _ _,hd6.box2 hk0 hk1 _ _ _ _,two_set (two_set hBB (Nat.le_refl _) _ _) (by omega) _ _⟩
theorem digs_dec_len (x:Nat):(digs x).length≤(Lib.decDigits x).length:=by
 refine digs_length_le ?_
 have h1:=decVal_lt _ (digits_dec x)
 rw [decVal_dec] at h1
 have h2:10 ^ (Lib.decDigits x).length≤B ^ (Lib.decDigits x).length:=Nat.pow_le_pow_left (by decide) _
 omega
theorem NumT.lens2 {a:ByteArray} {b:Bool} {x y:Nat} (h:NumT a b x y) (ha:a.size≤100000):(digs x).length≤100000∧(digs y).length≤100001:=by
 have hl:=congrArg List.length h
 rw [Array.length_toList,List.length_append] at hl
 have h1:=digs_dec_len x
 have h2:=digs_dec_len y
 have h3:(Lib.decDigits x).length≤(sgnT b (Lib.decDigits x)).length:=by unfold sgnT;cases b<;>simp
 have h4:a.data.size=a.size:=rfl
 refine ⟨by omega,?_⟩
 by_cases hy:y=1
 ·subst hy
  rw [digs_single (by omega) (by decide)]
  simp
 ·unfold tailT at hl
  rw [if_neg hy,List.length_cons] at hl
  omega
theorem sgn_mul_abs (b1 b2:Bool) (x y:Nat):(sgn b1 x*sgn b2 y).natAbs=x*y:=by rw [Int.natAbs_mul,sgn_abs,sgn_abs]
theorem rfraction_int (z:Int) (X y:Nat) (A1 A2:Option Addr) (n1 c1 n2 c2:Nat) (w:World) (hX:z.natAbs=X) (h1:DigI w A1 n1 c1 (digs X)) (h2:DigI w A2 n2 c2 (digs y)) (hy:0<y) (k1:n1≤500000) (k2:n2≤500000) :
  Calls Tryz.prog 74 #[.agg #[.bool (decide (z<0)),.slice A1 n1 c1],.agg #[.bool false,.slice A2 n2 c2]] w fun e w'=>(∃ s:ByteArray,e = .returned (.string s)∧s.data.toList=writeS (fracQ z y))∧Below w.heap.size w w':=by
 have h:=rfraction_pos (decide (z<0)) X y A1 A2 n1 c1 n2 c2 w h1 h2 hy k1 k2
 rw [←hX,sgn_of] at h
 exact h
theorem rplus_int (z1 z2:Int) (X1 X2:Nat) (A1 A2:Option Addr) (n1 c1 n2 c2:Nat) (w:World) (hX1:z1.natAbs=X1) (hX2:z2.natAbs=X2) (h1:DigI w A1 n1 c1 (digs X1)) (h2:DigI w A2 n2 c2 (digs X2)) (k1:n1≤524288) (k2:n2≤524288) :
  Calls Tryz.prog 75 #[.agg #[.bool (decide (z1<0)),.slice A1 n1 c1],.agg #[.bool (decide (z2<0)),.slice A2 n2 c2]] w (RetZ w (z1+z2)):=by
 have h:=rplus_any (decide (z1<0)) (decide (z2<0)) X1 X2 A1 A2 n1 c1 n2 c2 w h1 h2 k1 k2
 rw [←hX1,←hX2,sgn_of,sgn_of] at h
 exact h
theorem sum_len {w:World} {A:Option Addr} {n c k:Nat} {z1 z2:Int} {X1 X2:Nat} (h:DigI w A n c (digs (z1+z2).natAbs)) (h1:z1.natAbs=X1) (h2:z2.natAbs=X2) (hx1:(digs X1).length≤k) (hx2:(digs X2).length≤k):n≤k+1:=by
 rw [←h.len]
 refine digs_length_le ?_
 have e1:=lt_of_digs_length X1
 have e2:=lt_of_digs_length X2
 have p1:B ^ (digs X1).length≤B ^ k:=Nat.pow_le_pow_right B_pos hx1
 have p2:B ^ (digs X2).length≤B ^ k:=Nat.pow_le_pow_right B_pos hx2
 have p3:B ^ k*2≤B ^ k*B:=Nat.mul_le_mul_left _ B_gt1
 rw [Nat.pow_succ]
 have:=Int.natAbs_add_le z1 z2
 omega
set_option maxHeartbeats 8000000 in
set_option maxRecDepth 100000 in
theorem rMul_any (a a':ByteArray) (b b':Bool) (x y x' y':Nat) (w:World) (h:NumT a b x y) (h':NumT a' b' x' y') (hb:b=true→0<x) (hb':b'=true→0<x') (hy:0<y) (hy':0<y') (ha:a.size≤100000) (ha':a'.size≤100000) :
  Calls Tryz.prog 21 #[.string a,.string a'] w fun e w'=>(∃ s:ByteArray,e = .returned (.string s)∧s.data.toList=writeS (fracQ (sgn b x*sgn b' x') (y*y')))∧Below w.heap.size w w':=by
 have HQ1:=Lib.hid (rquick_any a b x y w h (by omega))
 have HQ2:=Lib.hid (rquick_any a' b' x' y' w h' (by omega))
 have HP1:=Lib.hid (fun W=>rparts_any a b x y W h hb hy (by omega))
 have HP2:=Lib.hid (fun W=>rparts_any a' b' x' y' W h' hb' hy' (by omega))
 have hyy:0<y*y':=Nat.mul_pos hy hy'
 have HYY:=Lib.hid hyy
 have HF:Hid (decide (sgn false y*sgn false y'<0)=false):=by
  show decide (sgn false y*sgn false y'<0)=false
  unfold sgn
  simp only [Bool.false_eq_true,if_false,decide_eq_false_iff_not,←Int.natCast_mul]
  omega
 have hl1:(digs x).length≤100000∧(digs y).length≤100001:=h.lens2 ha
 have hl2:(digs x').length≤100000∧(digs y').length≤100001:=h'.lens2 ha'
 have HL1:=Lib.hid hl1
 have HL2:=Lib.hid hl2
 have HY:=Lib.hid hy
 have HY':=Lib.hid hy'
 clear hyy hl1 hl2 h h' hb hb' hy hy'
 go_enter Tryz.func21,Tryz.ntmps21
 go_wp2_with fail
 refine HQ1.out.mono ?_
 rintro e w1 ⟨hw,hq1⟩
 obtain rfl:w=w1:=hw
 rcases hq1 with rfl | ⟨rfl,hx9,hy9⟩
 all_goals
  go_wp2_with fail
  refine HQ2.out.mono ?_
  rintro e w1 ⟨hw,hq2⟩
  obtain rfl:w=w1:=hw
  rcases hq2 with rfl | ⟨rfl,hx9',hy9'⟩
 rotate_left 3
 ·obtain ⟨z,hz⟩:∃ z,z=sgn b x*sgn b' x':=⟨_,rfl⟩
  obtain ⟨X,hX⟩:∃ X,X=x*x':=⟨_,rfl⟩
  obtain ⟨Y,hY⟩:∃ Y,Y=y*y':=⟨_,rfl⟩
  have hXb:X≤999999999*999999999:=by rw [hX];exact Nat.mul_le_mul (by omega) (by omega)
  have hYb:Y≤999999999*999999999:=by rw [hY];exact Nat.mul_le_mul (by omega) (by omega)
  have hzs:z=sgn (!b==b') X:=by rw [hz,hX,sgn_mul]
  have hzX:z=(X:Int)∨z = -(X:Int):=by rw [hzs];unfold sgn;cases (!b==b')<;>simp
  have hO:=rOf_any (!b==b') X Y w (by omega) (by omega) (by rw [hY];exact HYY.out)
  rw [←hzs] at hO
  have HO:=Lib.hid hO
  have ez:sgn b x*sgn b' x'=z:=hz.symm
  have eY:(y:Int)*(y':Int)=(Y:Int):=by rw [hY];exact (Int.natCast_mul y y').symm
  have hzB1 : -1000000000000000000≤z:=by omega
  have hzB2:z≤1000000000000000000:=by omega
  have HZ:=Lib.hid hz
  have HYd:=Lib.hid hY
  have hYb2:Y≤1000000000000000000:=by omega
  clear hO hzs hzX hX hz hY hXb hYb HQ1 HQ2 HP1 HP2 HF HL1 HL2
  go_wp2_with fail
  refine HO.out.mono ?_
  rintro e w1 ⟨⟨s,rfl,hs⟩,hb1⟩
  rw [HZ.out,HYd.out] at hs
  have HS:=Lib.hid hs
  clear hs HO
  go_wp2
  go_ret
  exact ⟨⟨s,rfl,HS.out⟩,hb1⟩
 all_goals
  first | clear hx9 hy9 | clear hx9' hy9' | skip
  first | clear hx9' hy9' | skip
  go_wp2_with fail
  refine (HP1.out w).mono ?_
  rintro e w1 ⟨A1,n1,c1,A2,n2,c2,rfl,hd1,hd2,hb1⟩
  have hB1:Below w1.heap.size w1 ((w1.alloc (.cells #[.bool b,.slice A1 n1 c1] 84)).alloc (.cells #[.bool false,.slice A2 n2 c2] 84)):=((Below.refl _ _).alloc (Nat.le_refl _) _).alloc (by simp) _
  have hx1:CBlk ((w1.alloc (.cells #[.bool b,.slice A1 n1 c1] 84)).alloc (.cells #[.bool false,.slice A2 n2 c2] 84)) w1.heap.size #[.bool b,.slice A1 n1 c1] 84:=(CBlk.new w1 _ _ _ rfl).below ((Below.refl _ _).alloc (Nat.le_refl _) _) (by simp)
  have hx2:CBlk ((w1.alloc (.cells #[.bool b,.slice A1 n1 c1] 84)).alloc (.cells #[.bool false,.slice A2 n2 c2] 84)) (w1.heap.size+1) #[.bool false,.slice A2 n2 c2] 84:=CBlk.new (w1.alloc (.cells #[.bool b,.slice A1 n1 c1] 84)) _ _ (w1.heap.size+1) (by simp)
  go_wp2_with fail
  generalize ((w1.alloc (.cells #[.bool b,.slice A1 n1 c1] 84)).alloc (.cells #[.bool false,.slice A2 n2 c2] 84))=wA at *
  refine (HP2.out wA).mono ?_
  rintro e w2 ⟨A3,n3,c3,A4,n4,c4,rfl,hd3,hd4,hb2⟩
  have hB2:Below w2.heap.size w2 ((w2.alloc (.cells #[.bool b',.slice A3 n3 c3] 84)).alloc (.cells #[.bool false,.slice A4 n4 c4] 84)):=((Below.refl _ _).alloc (Nat.le_refl _) _).alloc (by simp) _
  have hx3:CBlk ((w2.alloc (.cells #[.bool b',.slice A3 n3 c3] 84)).alloc (.cells #[.bool false,.slice A4 n4 c4] 84)) w2.heap.size #[.bool b',.slice A3 n3 c3] 84:=(CBlk.new w2 _ _ _ rfl).below ((Below.refl _ _).alloc (Nat.le_refl _) _) (by simp)
  have hx4:CBlk ((w2.alloc (.cells #[.bool b',.slice A3 n3 c3] 84)).alloc (.cells #[.bool false,.slice A4 n4 c4] 84)) (w2.heap.size+1) #[.bool false,.slice A4 n4 c4] 84:=CBlk.new (w2.alloc (.cells #[.bool b',.slice A3 n3 c3] 84)) _ _ (w2.heap.size+1) (by simp)
  have hAB:=hb2.trans (hB2.mono hb2.size)
  replace hx1:=hx1.below hAB hx1.lt
  replace hx2:=hx2.below hAB hx2.lt
  have hbw:=hb1.trans ((hB1.trans (hAB.mono hB1.size)).mono hb1.size)
  replace hd1:=(hd1.later hB1).later hAB
  replace hd2:=(hd2.later hB1).later hAB
  replace hd3:=hd3.later hB2
  replace hd4:=hd4.later hB2
  clear hB1 hB2 hb1 hb2 hAB
  go_upto_region 7 with (fail)
  generalize ((w2.alloc (.cells #[.bool b',.slice A3 n3 c3] 84)).alloc (.cells #[.bool false,.slice A4 n4 c4] 84))=w3 at *
  have a1:w3.cell? ⟨w1.heap.size,0,none⟩=some (.bool b):=hx1.cell 0
  have s1:w3.cell? ⟨w1.heap.size,1,none⟩=some (.slice A1 n1 c1):=hx1.cell 1
  have a2:w3.cell? ⟨w1.heap.size+1,0,none⟩=some (.bool false):=hx2.cell 0
  have s2:w3.cell? ⟨w1.heap.size+1,1,none⟩=some (.slice A2 n2 c2):=hx2.cell 1
  have a3:w3.cell? ⟨w2.heap.size,0,none⟩=some (.bool b'):=hx3.cell 0
  have s3:w3.cell? ⟨w2.heap.size,1,none⟩=some (.slice A3 n3 c3):=hx3.cell 1
  have a4:w3.cell? ⟨w2.heap.size+1,0,none⟩=some (.bool false):=hx4.cell 0
  have s4:w3.cell? ⟨w2.heap.size+1,1,none⟩=some (.slice A4 n4 c4):=hx4.cell 1
  have l1:=hx1.lt
  have l2:=hx2.lt
  have l3:=hx3.lt
  have l4:=hx4.lt
  have e1:n1≤100000:=by rw [←hd1.len];have:=HL1.out.1;omega
  have e2:n2≤100001:=by rw [←hd2.len];have:=HL1.out.2;omega
  have e3:n3≤100000:=by rw [←hd3.len];have:=HL2.out.1;omega
  have e4:n4≤100001:=by rw [←hd4.len];have:=HL2.out.2;omega
  have H1:=Lib.hid hd1
  have H2:=Lib.hid hd2
  have H3:=Lib.hid hd3
  have H4:=Lib.hid hd4
  have HBW:=Lib.hid hbw
  have hdr:Below w3.heap.size w3 w3.drew:=(Below.refl _ _).drew
  clear hx1 hx2 hx3 hx4 hd1 hd2 hd3 hd4 hbw
  go_region_held3 (fun w'=>w'.cell? ⟨w1.heap.size,0,none⟩=some (.bool b)∧w'.cell? ⟨w1.heap.size,1,none⟩=some (.slice A1 n1 c1)∧w'.cell? ⟨w1.heap.size+1,0,none⟩=some (.bool false)∧w'.cell? ⟨w1.heap.size+1,1,none⟩=some (.slice A2 n2 c2)∧w'.cell? ⟨w2.heap.size,0,none⟩=some (.bool b')∧w'.cell? ⟨w2.heap.size,1,none⟩=some (.slice A3 n3 c3)∧w'.cell? ⟨w2.heap.size+1,0,none⟩=some (.bool false)∧w'.cell? ⟨w2.heap.size+1,1,none⟩=some (.slice A4 n4 c4))
   (first | exact ⟨a1,s1,a2,s2,a3,s3,a4,s4⟩ | exact ⟨(hc1.cell (p:=⟨w1.heap.size,0,none⟩) l1).trans a1,(hc1.cell (p:=⟨w1.heap.size,1,none⟩) l1).trans s1,(hc1.cell (p:=⟨w1.heap.size+1,0,none⟩) l2).trans a2,(hc1.cell (p:=⟨w1.heap.size+1,1,none⟩) l2).trans s2,(hc1.cell (p:=⟨w2.heap.size,0,none⟩) l3).trans a3,(hc1.cell (p:=⟨w2.heap.size,1,none⟩) l3).trans s3,(hc1.cell (p:=⟨w2.heap.size+1,0,none⟩) l4).trans a4,(hc1.cell (p:=⟨w2.heap.size+1,1,none⟩) l4).trans s4⟩ | exact ⟨(hc2.cell (p:=⟨w1.heap.size,0,none⟩) l1).trans a1,(hc2.cell (p:=⟨w1.heap.size,1,none⟩) l1).trans s1,(hc2.cell (p:=⟨w1.heap.size+1,0,none⟩) l2).trans a2,(hc2.cell (p:=⟨w1.heap.size+1,1,none⟩) l2).trans s2,(hc2.cell (p:=⟨w2.heap.size,0,none⟩) l3).trans a3,(hc2.cell (p:=⟨w2.heap.size,1,none⟩) l3).trans s3,(hc2.cell (p:=⟨w2.heap.size+1,0,none⟩) l4).trans a4,(hc2.cell (p:=⟨w2.heap.size+1,1,none⟩) l4).trans s4⟩ | exact ⟨(hc3.cell (p:=⟨w1.heap.size,0,none⟩) l1).trans a1,(hc3.cell (p:=⟨w1.heap.size,1,none⟩) l1).trans s1,(hc3.cell (p:=⟨w1.heap.size+1,0,none⟩) l2).trans a2,(hc3.cell (p:=⟨w1.heap.size+1,1,none⟩) l2).trans s2,(hc3.cell (p:=⟨w2.heap.size,0,none⟩) l3).trans a3,(hc3.cell (p:=⟨w2.heap.size,1,none⟩) l3).trans s3,(hc3.cell (p:=⟨w2.heap.size+1,0,none⟩) l4).trans a4,(hc3.cell (p:=⟨w2.heap.size+1,1,none⟩) l4).trans s4⟩)
   (first
    |(go_at_call_of 76 (Value.agg #[.bool b,.slice A1 n1 c1]);refine (rtimes_any b b' x x' A1 A3 n1 c1 n3 c3 w3.drew ((H1.out.later hdr)) ((H3.out.later hdr)) (by omega) (by omega)).mono ?_;rintro e v1 ⟨B1,m1,d1,rfl,g1,f1⟩;have hc1:=hdr.trans f1;rw [sgn_mul_abs] at g1;have u1:=mul_len g1 H1.out.len H3.out.len)
    |(go_at_call_of 76 (Value.agg #[.bool false,.slice A2 n2 c2]);refine (rtimes_any false false y y' A2 A4 n2 c2 n4 c4 v1 ((H2.out.later hc1)) ((H4.out.later hc1)) (by omega) (by omega)).mono ?_;rintro e v2 ⟨B2,m2,d2,rfl,g2,f2⟩;have hc2:=hc1.trans (f2.mono hc1.size);rw [sgn_mul_abs] at g2;have u2:=mul_len g2 H2.out.len H4.out.len;rw [HF.out])
    |(go_at_call 74;refine (rfraction_int (sgn b x*sgn b' x') (x*x') (y*y') B1 B2 m1 d1 m2 d2 v2 (sgn_mul_abs b b' x x') (g1.later f2) g2 HYY.out (by omega) (by omega)).mono ?_;rintro e v3 ⟨⟨s,rfl,hs⟩,f3⟩;have hc3:=hc2.trans (f3.mono hc2.size)))
  go_wp2
  go_ret
  exact ⟨⟨s,rfl,hs⟩,HBW.out.trans (hc3.mono HBW.out.size)⟩
set_option maxHeartbeats 8000000 in
set_option maxRecDepth 100000 in
theorem rAdd_any (a a':ByteArray) (b b':Bool) (x y x' y':Nat) (w:World) (h:NumT a b x y) (h':NumT a' b' x' y') (hb:b=true→0<x) (hb':b'=true→0<x') (hy:0<y) (hy':0<y') (ha:a.size≤100000) (ha':a'.size≤100000) :
  Calls Tryz.prog 19 #[.string a,.string a'] w fun e w'=>(∃ s:ByteArray,e = .returned (.string s)∧s.data.toList=writeS (fracQ (sgn b x*(y':Int)+sgn b' x'*(y:Int)) (y*y')))∧Below w.heap.size w w':=by
 have HQ1:=Lib.hid (rquick_any a b x y w h (by omega))
 have HQ2:=Lib.hid (rquick_any a' b' x' y' w h' (by omega))
 have HP1:=Lib.hid (fun W=>rparts_any a b x y W h hb hy (by omega))
 have HP2:=Lib.hid (fun W=>rparts_any a' b' x' y' W h' hb' hy' (by omega))
 have hyy:0<y*y':=Nat.mul_pos hy hy'
 have HYY:=Lib.hid hyy
 have HF:Hid (decide (sgn false y*sgn false y'<0)=false):=by
  show decide (sgn false y*sgn false y'<0)=false
  unfold sgn
  simp only [Bool.false_eq_true,if_false,decide_eq_false_iff_not,←Int.natCast_mul]
  omega
 have hl1:(digs x).length≤100000∧(digs y).length≤100001:=h.lens2 ha
 have hl2:(digs x').length≤100000∧(digs y').length≤100001:=h'.lens2 ha'
 have HL1:=Lib.hid hl1
 have HL2:=Lib.hid hl2
 have HY:=Lib.hid hy
 have HY':=Lib.hid hy'
 clear hyy hl1 hl2 h h' hb hb' hy hy'
 go_enter Tryz.func19,Tryz.ntmps19
 go_wp2_with fail
 refine HQ1.out.mono ?_
 rintro e w1 ⟨hw,hq1⟩
 obtain rfl:w=w1:=hw
 rcases hq1 with rfl | ⟨rfl,hx9,hy9⟩
 all_goals
  go_wp2_with fail
  refine HQ2.out.mono ?_
  rintro e w1 ⟨hw,hq2⟩
  obtain rfl:w=w1:=hw
  rcases hq2 with rfl | ⟨rfl,hx9',hy9'⟩
 rotate_left 3
 ·obtain ⟨z1,hz1⟩:∃ z1,z1=sgn b x*(y':Int):=⟨_,rfl⟩
  obtain ⟨z2,hz2⟩:∃ z2,z2=sgn b' x'*(y:Int):=⟨_,rfl⟩
  obtain ⟨z,hz⟩:∃ z,z=z1+z2:=⟨_,rfl⟩
  obtain ⟨Y,hY⟩:∃ Y,Y=y*y':=⟨_,rfl⟩
  have hYb:Y≤999999999*999999999:=by rw [hY];exact Nat.mul_le_mul (by omega) (by omega)
  have hb1:z1.natAbs≤999999999*999999999:=by rw [hz1,Int.natAbs_mul,sgn_abs,Int.natAbs_natCast];exact Nat.mul_le_mul (by omega) (by omega)
  have hb2:z2.natAbs≤999999999*999999999:=by rw [hz2,Int.natAbs_mul,sgn_abs,Int.natAbs_natCast];exact Nat.mul_le_mul (by omega) (by omega)
  have hO:=rOf_any (decide (z<0)) z.natAbs Y w (by omega) (by omega) (by rw [hY];exact HYY.out)
  rw [sgn_of] at hO
  have HO:=Lib.hid hO
  have ez1:sgn b x*(y':Int)=z1:=hz1.symm
  have ez2:sgn b' x'*(y:Int)=z2:=hz2.symm
  have ez:z1+z2=z:=hz.symm
  have eY:(y:Int)*(y':Int)=(Y:Int):=by rw [hY];exact (Int.natCast_mul y y').symm
  have hB1 : -1000000000000000000≤z1:=by omega
  have hB2:z1≤1000000000000000000:=by omega
  have hB3 : -1000000000000000000≤z2:=by omega
  have hB4:z2≤1000000000000000000:=by omega
  have hB5 : -2000000000000000000≤z:=by omega
  have hB6:z≤2000000000000000000:=by omega
  have HZ:Hid (z=sgn b x*(y':Int)+sgn b' x'*(y:Int)):=by
   show z=_
   rw [hz,hz1,hz2]
  have HYd:=Lib.hid hY
  have hYb2:Y≤1000000000000000000:=by omega
  clear hO hz hz1 hz2 hY hYb hb1 hb2 HQ1 HQ2 HP1 HP2 HF HL1 HL2
  go_wp2_with fail
  refine HO.out.mono ?_
  rintro e w1 ⟨⟨s,rfl,hs⟩,hb1⟩
  rw [HZ.out,HYd.out] at hs
  have HS:=Lib.hid hs
  clear hs HO
  go_wp2
  go_ret
  exact ⟨⟨s,rfl,HS.out⟩,hb1⟩
 all_goals
  first | clear hx9 hy9 | clear hx9' hy9' | skip
  first | clear hx9' hy9' | skip
  go_wp2_with fail
  refine (HP1.out w).mono ?_
  rintro e w1 ⟨A1,n1,c1,A2,n2,c2,rfl,hd1,hd2,hb1⟩
  have hB1:Below w1.heap.size w1 ((w1.alloc (.cells #[.bool b,.slice A1 n1 c1] 84)).alloc (.cells #[.bool false,.slice A2 n2 c2] 84)):=((Below.refl _ _).alloc (Nat.le_refl _) _).alloc (by simp) _
  have hx1:CBlk ((w1.alloc (.cells #[.bool b,.slice A1 n1 c1] 84)).alloc (.cells #[.bool false,.slice A2 n2 c2] 84)) w1.heap.size #[.bool b,.slice A1 n1 c1] 84:=(CBlk.new w1 _ _ _ rfl).below ((Below.refl _ _).alloc (Nat.le_refl _) _) (by simp)
  have hx2:CBlk ((w1.alloc (.cells #[.bool b,.slice A1 n1 c1] 84)).alloc (.cells #[.bool false,.slice A2 n2 c2] 84)) (w1.heap.size+1) #[.bool false,.slice A2 n2 c2] 84:=CBlk.new (w1.alloc (.cells #[.bool b,.slice A1 n1 c1] 84)) _ _ (w1.heap.size+1) (by simp)
  go_wp2_with fail
  generalize ((w1.alloc (.cells #[.bool b,.slice A1 n1 c1] 84)).alloc (.cells #[.bool false,.slice A2 n2 c2] 84))=wA at *
  refine (HP2.out wA).mono ?_
  rintro e w2 ⟨A3,n3,c3,A4,n4,c4,rfl,hd3,hd4,hb2⟩
  have hB2:Below w2.heap.size w2 ((w2.alloc (.cells #[.bool b',.slice A3 n3 c3] 84)).alloc (.cells #[.bool false,.slice A4 n4 c4] 84)):=((Below.refl _ _).alloc (Nat.le_refl _) _).alloc (by simp) _
  have hx3:CBlk ((w2.alloc (.cells #[.bool b',.slice A3 n3 c3] 84)).alloc (.cells #[.bool false,.slice A4 n4 c4] 84)) w2.heap.size #[.bool b',.slice A3 n3 c3] 84:=(CBlk.new w2 _ _ _ rfl).below ((Below.refl _ _).alloc (Nat.le_refl _) _) (by simp)
  have hx4:CBlk ((w2.alloc (.cells #[.bool b',.slice A3 n3 c3] 84)).alloc (.cells #[.bool false,.slice A4 n4 c4] 84)) (w2.heap.size+1) #[.bool false,.slice A4 n4 c4] 84:=CBlk.new (w2.alloc (.cells #[.bool b',.slice A3 n3 c3] 84)) _ _ (w2.heap.size+1) (by simp)
  have hAB:=hb2.trans (hB2.mono hb2.size)
  replace hx1:=hx1.below hAB hx1.lt
  replace hx2:=hx2.below hAB hx2.lt
  have hbw:=hb1.trans ((hB1.trans (hAB.mono hB1.size)).mono hb1.size)
  replace hd1:=(hd1.later hB1).later hAB
  replace hd2:=(hd2.later hB1).later hAB
  replace hd3:=hd3.later hB2
  replace hd4:=hd4.later hB2
  clear hB1 hB2 hb1 hb2 hAB
  go_upto_region 7 with (fail)
  generalize ((w2.alloc (.cells #[.bool b',.slice A3 n3 c3] 84)).alloc (.cells #[.bool false,.slice A4 n4 c4] 84))=w3 at *
  have a1:w3.cell? ⟨w1.heap.size,0,none⟩=some (.bool b):=hx1.cell 0
  have s1:w3.cell? ⟨w1.heap.size,1,none⟩=some (.slice A1 n1 c1):=hx1.cell 1
  have a2:w3.cell? ⟨w1.heap.size+1,0,none⟩=some (.bool false):=hx2.cell 0
  have s2:w3.cell? ⟨w1.heap.size+1,1,none⟩=some (.slice A2 n2 c2):=hx2.cell 1
  have a3:w3.cell? ⟨w2.heap.size,0,none⟩=some (.bool b'):=hx3.cell 0
  have s3:w3.cell? ⟨w2.heap.size,1,none⟩=some (.slice A3 n3 c3):=hx3.cell 1
  have a4:w3.cell? ⟨w2.heap.size+1,0,none⟩=some (.bool false):=hx4.cell 0
  have s4:w3.cell? ⟨w2.heap.size+1,1,none⟩=some (.slice A4 n4 c4):=hx4.cell 1
  have l1:=hx1.lt
  have l2:=hx2.lt
  have l3:=hx3.lt
  have l4:=hx4.lt
  have e1:n1≤100000:=by rw [←hd1.len];have:=HL1.out.1;omega
  have e2:n2≤100001:=by rw [←hd2.len];have:=HL1.out.2;omega
  have e3:n3≤100000:=by rw [←hd3.len];have:=HL2.out.1;omega
  have e4:n4≤100001:=by rw [←hd4.len];have:=HL2.out.2;omega
  have H1:=Lib.hid hd1
  have H2:=Lib.hid hd2
  have H3:=Lib.hid hd3
  have H4:=Lib.hid hd4
  have HBW:=Lib.hid hbw
  have hdr:Below w3.heap.size w3 w3.drew:=(Below.refl _ _).drew
  clear hx1 hx2 hx3 hx4 hd1 hd2 hd3 hd4 hbw
  go_region_held3 (fun w'=>w'.cell? ⟨w1.heap.size,0,none⟩=some (.bool b)∧w'.cell? ⟨w1.heap.size,1,none⟩=some (.slice A1 n1 c1)∧w'.cell? ⟨w1.heap.size+1,0,none⟩=some (.bool false)∧w'.cell? ⟨w1.heap.size+1,1,none⟩=some (.slice A2 n2 c2)∧w'.cell? ⟨w2.heap.size,0,none⟩=some (.bool b')∧w'.cell? ⟨w2.heap.size,1,none⟩=some (.slice A3 n3 c3)∧w'.cell? ⟨w2.heap.size+1,0,none⟩=some (.bool false)∧w'.cell? ⟨w2.heap.size+1,1,none⟩=some (.slice A4 n4 c4))
   (first | exact ⟨a1,s1,a2,s2,a3,s3,a4,s4⟩ | exact ⟨(hc1.cell (p:=⟨w1.heap.size,0,none⟩) l1).trans a1,(hc1.cell (p:=⟨w1.heap.size,1,none⟩) l1).trans s1,(hc1.cell (p:=⟨w1.heap.size+1,0,none⟩) l2).trans a2,(hc1.cell (p:=⟨w1.heap.size+1,1,none⟩) l2).trans s2,(hc1.cell (p:=⟨w2.heap.size,0,none⟩) l3).trans a3,(hc1.cell (p:=⟨w2.heap.size,1,none⟩) l3).trans s3,(hc1.cell (p:=⟨w2.heap.size+1,0,none⟩) l4).trans a4,(hc1.cell (p:=⟨w2.heap.size+1,1,none⟩) l4).trans s4⟩ | exact ⟨(hc2.cell (p:=⟨w1.heap.size,0,none⟩) l1).trans a1,(hc2.cell (p:=⟨w1.heap.size,1,none⟩) l1).trans s1,(hc2.cell (p:=⟨w1.heap.size+1,0,none⟩) l2).trans a2,(hc2.cell (p:=⟨w1.heap.size+1,1,none⟩) l2).trans s2,(hc2.cell (p:=⟨w2.heap.size,0,none⟩) l3).trans a3,(hc2.cell (p:=⟨w2.heap.size,1,none⟩) l3).trans s3,(hc2.cell (p:=⟨w2.heap.size+1,0,none⟩) l4).trans a4,(hc2.cell (p:=⟨w2.heap.size+1,1,none⟩) l4).trans s4⟩ | exact ⟨(hc3.cell (p:=⟨w1.heap.size,0,none⟩) l1).trans a1,(hc3.cell (p:=⟨w1.heap.size,1,none⟩) l1).trans s1,(hc3.cell (p:=⟨w1.heap.size+1,0,none⟩) l2).trans a2,(hc3.cell (p:=⟨w1.heap.size+1,1,none⟩) l2).trans s2,(hc3.cell (p:=⟨w2.heap.size,0,none⟩) l3).trans a3,(hc3.cell (p:=⟨w2.heap.size,1,none⟩) l3).trans s3,(hc3.cell (p:=⟨w2.heap.size+1,0,none⟩) l4).trans a4,(hc3.cell (p:=⟨w2.heap.size+1,1,none⟩) l4).trans s4⟩ | exact ⟨(hc4.cell (p:=⟨w1.heap.size,0,none⟩) l1).trans a1,(hc4.cell (p:=⟨w1.heap.size,1,none⟩) l1).trans s1,(hc4.cell (p:=⟨w1.heap.size+1,0,none⟩) l2).trans a2,(hc4.cell (p:=⟨w1.heap.size+1,1,none⟩) l2).trans s2,(hc4.cell (p:=⟨w2.heap.size,0,none⟩) l3).trans a3,(hc4.cell (p:=⟨w2.heap.size,1,none⟩) l3).trans s3,(hc4.cell (p:=⟨w2.heap.size+1,0,none⟩) l4).trans a4,(hc4.cell (p:=⟨w2.heap.size+1,1,none⟩) l4).trans s4⟩ | exact ⟨(hc5.cell (p:=⟨w1.heap.size,0,none⟩) l1).trans a1,(hc5.cell (p:=⟨w1.heap.size,1,none⟩) l1).trans s1,(hc5.cell (p:=⟨w1.heap.size+1,0,none⟩) l2).trans a2,(hc5.cell (p:=⟨w1.heap.size+1,1,none⟩) l2).trans s2,(hc5.cell (p:=⟨w2.heap.size,0,none⟩) l3).trans a3,(hc5.cell (p:=⟨w2.heap.size,1,none⟩) l3).trans s3,(hc5.cell (p:=⟨w2.heap.size+1,0,none⟩) l4).trans a4,(hc5.cell (p:=⟨w2.heap.size+1,1,none⟩) l4).trans s4⟩)
   (first
    |(go_at_call_of 76 (Value.agg #[.bool b,.slice A1 n1 c1]);refine (rtimes_any b false x y' A1 A4 n1 c1 n4 c4 w3.drew ((H1.out.later hdr)) ((H4.out.later hdr)) (by omega) (by omega)).mono ?_;rintro e v1 ⟨B1,m1,d1,rfl,g1,f1⟩;have hc1:=hdr.trans f1;rw [sgn_mul_abs] at g1;have u1:=mul_len g1 H1.out.len H4.out.len)
    |(go_at_call_of 76 (Value.agg #[.bool b',.slice A3 n3 c3]);refine (rtimes_any b' false x' y A3 A2 n3 c3 n2 c2 v1 ((H3.out.later hc1)) ((H2.out.later hc1)) (by omega) (by omega)).mono ?_;rintro e v2 ⟨B2,m2,d2,rfl,g2,f2⟩;have hc2:=hc1.trans (f2.mono hc1.size);rw [sgn_mul_abs] at g2;have u2:=mul_len g2 H3.out.len H2.out.len)
    |(go_at_call 75;refine (rplus_int (sgn b x*sgn false y') (sgn b' x'*sgn false y) (x*y') (x'*y) B1 B2 m1 d1 m2 d2 v2 (sgn_mul_abs _ _ _ _) (sgn_mul_abs _ _ _ _) (g1.later f2) g2 (by omega) (by omega)).mono ?_;rintro e v3 ⟨B3,m3,d3,rfl,g3,f3⟩;have hc3:=hc2.trans (f3.mono hc2.size);have u3:=sum_len (k:=300000) g3 (sgn_mul_abs _ _ _ _) (sgn_mul_abs _ _ _ _) (by have:=g1.len;omega) (by have:=g2.len;omega))
    |(go_at_call_of 76 (Value.agg #[.bool false,.slice A2 n2 c2]);refine (rtimes_any false false y y' A2 A4 n2 c2 n4 c4 v3 ((H2.out.later hc3)) ((H4.out.later hc3)) (by omega) (by omega)).mono ?_;rintro e v4 ⟨B4,m4,d4,rfl,g4,f4⟩;have hc4:=hc3.trans (f4.mono hc3.size);rw [sgn_mul_abs] at g4;have u4:=mul_len g4 H2.out.len H4.out.len;rw [HF.out])
    |(go_at_call 74;refine (rfraction_int (sgn b x*sgn false y'+sgn b' x'*sgn false y) _ (y*y') B3 B4 m3 d3 m4 d4 v4 rfl (g3.later f4) g4 HYY.out (by omega) (by omega)).mono ?_;rintro e v5 ⟨⟨s,rfl,hs⟩,f5⟩;have hc5:=hc4.trans (f5.mono hc4.size)))
  go_wp2
  go_ret
  exact ⟨⟨s,rfl,hs⟩,HBW.out.trans (hc5.mono HBW.out.size)⟩
end Go.Proofs.YteajibbphcfmeaaGreatDoor
