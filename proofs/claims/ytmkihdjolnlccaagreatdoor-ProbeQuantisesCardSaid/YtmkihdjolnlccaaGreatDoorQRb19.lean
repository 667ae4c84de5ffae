/- Contract of the reference's Add. -/
import Derived.Test.YtmkihdjolnlccaaGreatDoorQRb16
import Derived.Deep.RegionHeld3
namespace Go.Proofs.YtmkihdjolnlccaaGreatDoor
open Go.RowKit Dn
set_option maxHeartbeats 8000000 in
set_option maxRecDepth 100000 in
theorem zo6 (a a':ByteArray) (b b':Bool) (x y x' y':Nat) (w:World) (h:NumT a b x y) (h':NumT a' b' x' y') (hb:b=true→0<x) (hb':b'=true→0<x') (hy:0<y) (hy':0<y') (ha:a.size≤100000) (ha':a'.size≤100000) :
  Calls Tryz.prog 42 #[.string a,.string a'] w fun e w'=>(∃ s:ByteArray,e = .returned (.string s)∧s.data.toList=zay (zb4 (sgn b x*(y':Int)+sgn b' x'*(y:Int)) (y*y')))∧Below w.heap.size w w':=by
 have HQ1:=Lib.hid (zdv a b x y w h (by omega))
 have HQ2:=Lib.hid (zdv a' b' x' y' w h' (by omega))
 have HP1:=Lib.hid (fun W=>zbQ a b x y W h hb hy (by omega))
 have HP2:=Lib.hid (fun W=>zbQ a' b' x' y' W h' hb' hy' (by omega))
 have hyy:0<y*y':=Nat.mul_pos hy hy'
 have HYY:=Lib.hid hyy
 have HF:Hid (decide (sgn false y*sgn false y'<0)=false):=by
  show decide (sgn false y*sgn false y'<0)=false
  unfold sgn
  simp only [Bool.false_eq_true,if_false,decide_eq_false_iff_not,←Int.natCast_mul]
  omega
 have hl1:(digs x).length≤100000∧(digs y).length≤100001:=h.lens2 ha
 have hl2:(digs x').length≤100000∧(digs y').length≤100001:=h'.lens2 ha'
 have HL1:=Lib.hid hl1
 have HL2:=Lib.hid hl2
 have HY:=Lib.hid hy
 have HY':=Lib.hid hy'
 clear hyy hl1 hl2 h h' hb hb' hy hy'
 go_enter Tryz.func42,Tryz.ntmps42
 go_wp2_with fail
 refine HQ1.out.mono ?_
 rintro e w1 ⟨hw,hq1⟩
 obtain rfl:w=w1:=hw
 rcases hq1 with rfl | ⟨rfl,hx9,hy9⟩
 all_goals
  go_wp2_with fail
  refine HQ2.out.mono ?_
  rintro e w1 ⟨hw,hq2⟩
  obtain rfl:w=w1:=hw
  rcases hq2 with rfl | ⟨rfl,hx9',hy9'⟩
 rotate_left 3
 ·obtain ⟨z1,hz1⟩:∃ z1,z1=sgn b x*(y':Int):=⟨_,rfl⟩
  obtain ⟨z2,hz2⟩:∃ z2,z2=sgn b' x'*(y:Int):=⟨_,rfl⟩
  obtain ⟨z,hz⟩:∃ z,z=z1+z2:=⟨_,rfl⟩
  obtain ⟨Y,hY⟩:∃ Y,Y=y*y':=⟨_,rfl⟩
  have hYb:Y≤999999999*999999999:=by rw [hY];exact Nat.mul_le_mul (by omega) (by omega)
  have hb1:z1.natAbs≤999999999*999999999:=by rw [hz1,Int.natAbs_mul,zcg,Int.natAbs_natCast];exact Nat.mul_le_mul (by omega) (by omega)
  have hb2:z2.natAbs≤999999999*999999999:=by rw [hz2,Int.natAbs_mul,zcg,Int.natAbs_natCast];exact Nat.mul_le_mul (by omega) (by omega)
  have hO:=znH (decide (z<0)) z.natAbs Y w (by omega) (by omega) (by rw [hY];exact HYY.out)
  rw [zkc] at hO
  have HO:=Lib.hid hO
  have ez1:sgn b x*(y':Int)=z1:=hz1.symm
  have ez2:sgn b' x'*(y:Int)=z2:=hz2.symm
  have ez:z1+z2=z:=hz.symm
  have eY:(y:Int)*(y':Int)=(Y:Int):=by rw [hY];exact (Int.natCast_mul y y').symm
  have hB1 : -1000000000000000000≤z1:=by omega
  have hB2:z1≤1000000000000000000:=by omega
  have hB3 : -1000000000000000000≤z2:=by omega
  have hB4:z2≤1000000000000000000:=by omega
  have hB5 : -2000000000000000000≤z:=by omega
  have hB6:z≤2000000000000000000:=by omega
  have HZ:Hid (z=sgn b x*(y':Int)+sgn b' x'*(y:Int)):=by
   show z=_
   rw [hz,hz1,hz2]
  have HYd:=Lib.hid hY
  have hYb2:Y≤1000000000000000000:=by omega
  clear hO hz hz1 hz2 hY hYb hb1 hb2 HQ1 HQ2 HP1 HP2 HF HL1 HL2
  go_wp2_with fail
  refine HO.out.mono ?_
  rintro e w1 ⟨⟨s,rfl,hs⟩,hb1⟩
  rw [HZ.out,HYd.out] at hs
  have HS:=Lib.hid hs
  clear hs HO
  go_wp2
  go_ret
  exact ⟨⟨s,rfl,HS.out⟩,hb1⟩
 all_goals
  first | clear hx9 hy9 | clear hx9' hy9' | skip
  first | clear hx9' hy9' | skip
  go_wp2_with fail
  refine (HP1.out w).mono ?_
  rintro e w1 ⟨A1,n1,c1,A2,n2,c2,rfl,hd1,hd2,hb1⟩
  have hB1:Below w1.heap.size w1 ((w1.alloc (.cells #[.bool b,.slice A1 n1 c1] 152)).alloc (.cells #[.bool false,.slice A2 n2 c2] 152)):=((Below.refl _ _).alloc (Nat.le_refl _) _).alloc (by simp) _
  have hx1:CBlk ((w1.alloc (.cells #[.bool b,.slice A1 n1 c1] 152)).alloc (.cells #[.bool false,.slice A2 n2 c2] 152)) w1.heap.size #[.bool b,.slice A1 n1 c1] 152:=(CBlk.new w1 _ _ _ rfl).below ((Below.refl _ _).alloc (Nat.le_refl _) _) (by simp)
  have hx2:CBlk ((w1.alloc (.cells #[.bool b,.slice A1 n1 c1] 152)).alloc (.cells #[.bool false,.slice A2 n2 c2] 152)) (w1.heap.size+1) #[.bool false,.slice A2 n2 c2] 152:=CBlk.new (w1.alloc (.cells #[.bool b,.slice A1 n1 c1] 152)) _ _ (w1.heap.size+1) (by simp)
  go_wp2_with fail
  generalize ((w1.alloc (.cells #[.bool b,.slice A1 n1 c1] 152)).alloc (.cells #[.bool false,.slice A2 n2 c2] 152))=wA at *
  refine (HP2.out wA).mono ?_
  rintro e w2 ⟨A3,n3,c3,A4,n4,c4,rfl,hd3,hd4,hb2⟩
  have hB2:Below w2.heap.size w2 ((w2.alloc (.cells #[.bool b',.slice A3 n3 c3] 152)).alloc (.cells #[.bool false,.slice A4 n4 c4] 152)):=((Below.refl _ _).alloc (Nat.le_refl _) _).alloc (by simp) _
  have hx3:CBlk ((w2.alloc (.cells #[.bool b',.slice A3 n3 c3] 152)).alloc (.cells #[.bool false,.slice A4 n4 c4] 152)) w2.heap.size #[.bool b',.slice A3 n3 c3] 152:=(CBlk.new w2 _ _ _ rfl).below ((Below.refl _ _).alloc (Nat.le_refl _) _) (by simp)
  have hx4:CBlk ((w2.alloc (.cells #[.bool b',.slice A3 n3 c3] 152)).alloc (.cells #[.bool false,.slice A4 n4 c4] 152)) (w2.heap.size+1) #[.bool false,.slice A4 n4 c4] 152:=CBlk.new (w2.alloc (.cells #[.bool b',.slice A3 n3 c3] 152)) _ _ (w2.heap.size+1) (by simp)
  have hAB:=hb2.trans (hB2.mono hb2.size)
  replace hx1:=hx1.below hAB hx1.lt
  replace hx2:=hx2.below hAB hx2.lt
  have hbw:=hb1.trans ((hB1.trans (hAB.mono hB1.size)).mono hb1.size)
  replace hd1:=(hd1.later hB1).later hAB
  replace hd2:=(hd2.later hB1).later hAB
  replace hd3:=hd3.later hB2
  replace hd4:=hd4.later hB2
  clear hB1 hB2 hb1 hb2 hAB
  go_upto_region 7 with (fail)
  generalize ((w2.alloc (.cells #[.bool b',.slice A3 n3 c3] 152)).alloc (.cells #[.bool false,.slice A4 n4 c4] 152))=w3 at *
  have a1:w3.cell? ⟨w1.heap.size,0,none⟩=some (.bool b):=hx1.cell 0
  have s1:w3.cell? ⟨w1.heap.size,1,none⟩=some (.slice A1 n1 c1):=hx1.cell 1
  have a2:w3.cell? ⟨w1.heap.size+1,0,none⟩=some (.bool false):=hx2.cell 0
  have s2:w3.cell? ⟨w1.heap.size+1,1,none⟩=some (.slice A2 n2 c2):=hx2.cell 1
  have a3:w3.cell? ⟨w2.heap.size,0,none⟩=some (.bool b'):=hx3.cell 0
  have s3:w3.cell? ⟨w2.heap.size,1,none⟩=some (.slice A3 n3 c3):=hx3.cell 1
  have a4:w3.cell? ⟨w2.heap.size+1,0,none⟩=some (.bool false):=hx4.cell 0
  have s4:w3.cell? ⟨w2.heap.size+1,1,none⟩=some (.slice A4 n4 c4):=hx4.cell 1
  have l1:=hx1.lt
  have l2:=hx2.lt
  have l3:=hx3.lt
  have l4:=hx4.lt
  have e1:n1≤100000:=by rw [←hd1.len];have:=HL1.out.1;omega
  have e2:n2≤100001:=by rw [←hd2.len];have:=HL1.out.2;omega
  have e3:n3≤100000:=by rw [←hd3.len];have:=HL2.out.1;omega
  have e4:n4≤100001:=by rw [←hd4.len];have:=HL2.out.2;omega
  have H1:=Lib.hid hd1
  have H2:=Lib.hid hd2
  have H3:=Lib.hid hd3
  have H4:=Lib.hid hd4
  have HBW:=Lib.hid hbw
  have hdr:Below w3.heap.size w3 w3.drew:=(Below.refl _ _).drew
  clear hx1 hx2 hx3 hx4 hd1 hd2 hd3 hd4 hbw
  go_region_held3 (fun w'=>w'.cell? ⟨w1.heap.size,0,none⟩=some (.bool b)∧w'.cell? ⟨w1.heap.size,1,none⟩=some (.slice A1 n1 c1)∧w'.cell? ⟨w1.heap.size+1,0,none⟩=some (.bool false)∧w'.cell? ⟨w1.heap.size+1,1,none⟩=some (.slice A2 n2 c2)∧w'.cell? ⟨w2.heap.size,0,none⟩=some (.bool b')∧w'.cell? ⟨w2.heap.size,1,none⟩=some (.slice A3 n3 c3)∧w'.cell? ⟨w2.heap.size+1,0,none⟩=some (.bool false)∧w'.cell? ⟨w2.heap.size+1,1,none⟩=some (.slice A4 n4 c4))
   (first | exact ⟨a1,s1,a2,s2,a3,s3,a4,s4⟩ | exact ⟨(hc1.cell (p:=⟨w1.heap.size,0,none⟩) l1).trans a1,(hc1.cell (p:=⟨w1.heap.size,1,none⟩) l1).trans s1,(hc1.cell (p:=⟨w1.heap.size+1,0,none⟩) l2).trans a2,(hc1.cell (p:=⟨w1.heap.size+1,1,none⟩) l2).trans s2,(hc1.cell (p:=⟨w2.heap.size,0,none⟩) l3).trans a3,(hc1.cell (p:=⟨w2.heap.size,1,none⟩) l3).trans s3,(hc1.cell (p:=⟨w2.heap.size+1,0,none⟩) l4).trans a4,(hc1.cell (p:=⟨w2.heap.size+1,1,none⟩) l4).trans s4⟩ | exact ⟨(hc2.cell (p:=⟨w1.heap.size,0,none⟩) l1).trans a1,(hc2.cell (p:=⟨w1.heap.size,1,none⟩) l1).trans s1,(hc2.cell (p:=⟨w1.heap.size+1,0,none⟩) l2).trans a2,(hc2.cell (p:=⟨w1.heap.size+1,1,none⟩) l2).trans s2,(hc2.cell (p:=⟨w2.heap.size,0,none⟩) l3).trans a3,(hc2.cell (p:=⟨w2.heap.size,1,none⟩) l3).trans s3,(hc2.cell (p:=⟨w2.heap.size+1,0,none⟩) l4).trans a4,(hc2.cell (p:=⟨w2.heap.size+1,1,none⟩) l4).trans s4⟩ | exact ⟨(hc3.cell (p:=⟨w1.heap.size,0,none⟩) l1).trans a1,(hc3.cell (p:=⟨w1.heap.size,1,none⟩) l1).trans s1,(hc3.cell (p:=⟨w1.heap.size+1,0,none⟩) l2).trans a2,(hc3.cell (p:=⟨w1.heap.size+1,1,none⟩) l2).trans s2,(hc3.cell (p:=⟨w2.heap.size,0,none⟩) l3).trans a3,(hc3.cell (p:=⟨w2.heap.size,1,none⟩) l3).trans s3,(hc3.cell (p:=⟨w2.heap.size+1,0,none⟩) l4).trans a4,(hc3.cell (p:=⟨w2.heap.size+1,1,none⟩) l4).trans s4⟩ | exact ⟨(hc4.cell (p:=⟨w1.heap.size,0,none⟩) l1).trans a1,(hc4.cell (p:=⟨w1.heap.size,1,none⟩) l1).trans s1,(hc4.cell (p:=⟨w1.heap.size+1,0,none⟩) l2).trans a2,(hc4.cell (p:=⟨w1.heap.size+1,1,none⟩) l2).trans s2,(hc4.cell (p:=⟨w2.heap.size,0,none⟩) l3).trans a3,(hc4.cell (p:=⟨w2.heap.size,1,none⟩) l3).trans s3,(hc4.cell (p:=⟨w2.heap.size+1,0,none⟩) l4).trans a4,(hc4.cell (p:=⟨w2.heap.size+1,1,none⟩) l4).trans s4⟩ | exact ⟨(hc5.cell (p:=⟨w1.heap.size,0,none⟩) l1).trans a1,(hc5.cell (p:=⟨w1.heap.size,1,none⟩) l1).trans s1,(hc5.cell (p:=⟨w1.heap.size+1,0,none⟩) l2).trans a2,(hc5.cell (p:=⟨w1.heap.size+1,1,none⟩) l2).trans s2,(hc5.cell (p:=⟨w2.heap.size,0,none⟩) l3).trans a3,(hc5.cell (p:=⟨w2.heap.size,1,none⟩) l3).trans s3,(hc5.cell (p:=⟨w2.heap.size+1,0,none⟩) l4).trans a4,(hc5.cell (p:=⟨w2.heap.size+1,1,none⟩) l4).trans s4⟩)
   (first
    |(go_at_call_of 105 (Value.agg #[.bool b,.slice A1 n1 c1]);refine (zcO b false x y' A1 A4 n1 c1 n4 c4 w3.drew ((H1.out.later hdr)) ((H4.out.later hdr)) (by omega) (by omega)).mono ?_;rintro e v1 ⟨B1,m1,d1,rfl,g1,f1⟩;have hc1:=hdr.trans f1;rw [za3] at g1;have u1:=ze2 g1 H1.out.len H4.out.len)
    |(go_at_call_of 105 (Value.agg #[.bool b',.slice A3 n3 c3]);refine (zcO b' false x' y A3 A2 n3 c3 n2 c2 v1 ((H3.out.later hc1)) ((H2.out.later hc1)) (by omega) (by omega)).mono ?_;rintro e v2 ⟨B2,m2,d2,rfl,g2,f2⟩;have hc2:=hc1.trans (f2.mono hc1.size);rw [za3] at g2;have u2:=ze2 g2 H3.out.len H2.out.len)
    |(go_at_call 104;refine (zm3 (sgn b x*sgn false y') (sgn b' x'*sgn false y) (x*y') (x'*y) B1 B2 m1 d1 m2 d2 v2 (za3 _ _ _ _) (za3 _ _ _ _) (g1.later f2) g2 (by omega) (by omega)).mono ?_;rintro e v3 ⟨B3,m3,d3,rfl,g3,f3⟩;have hc3:=hc2.trans (f3.mono hc2.size);have u3:=zsl (k:=300000) g3 (za3 _ _ _ _) (za3 _ _ _ _) (by have:=g1.len;omega) (by have:=g2.len;omega))
    |(go_at_call_of 105 (Value.agg #[.bool false,.slice A2 n2 c2]);refine (zcO false false y y' A2 A4 n2 c2 n4 c4 v3 ((H2.out.later hc3)) ((H4.out.later hc3)) (by omega) (by omega)).mono ?_;rintro e v4 ⟨B4,m4,d4,rfl,g4,f4⟩;have hc4:=hc3.trans (f4.mono hc3.size);rw [za3] at g4;have u4:=ze2 g4 H2.out.len H4.out.len;rw [HF.out])
    |(go_at_call 103;refine (zer (sgn b x*sgn false y'+sgn b' x'*sgn false y) _ (y*y') B3 B4 m3 d3 m4 d4 v4 rfl (g3.later f4) g4 HYY.out (by omega) (by omega)).mono ?_;rintro e v5 ⟨⟨s,rfl,hs⟩,f5⟩;have hc5:=hc4.trans (f5.mono hc4.size)))
  go_wp2
  go_ret
  exact ⟨⟨s,rfl,hs⟩,HBW.out.trans (hc5.mono HBW.out.size)⟩
def NumQ (a:ByteArray) (p:Q):Prop:=a.data.toList=zay p∧LowQ p
theorem NumQ.num {a:ByteArray} {p:Q} (h:NumQ a p):NumT a p.neg p.top p.bot:=h.1
def Small (p:Q) (N:Nat):Prop:=p.top<10 ^ N∧p.bot<10 ^ N
theorem Small.more {p:Q} {N M:Nat} (h:Small p N) (hM:N≤M):Small p M:=
 ⟨Nat.lt_of_lt_of_le h.1 (Nat.pow_le_pow_right (by omega) hM),Nat.lt_of_lt_of_le h.2 (Nat.pow_le_pow_right (by omega) hM)⟩
theorem NumQ.size {a:ByteArray} {p:Q} {N:Nat} (h:NumQ a p) (hs:Small p N) (hN:0<N):a.size≤2*N+2:=by
 have hl:=congrArg List.length h.1
 rw [Array.length_toList,zaV,List.length_append] at hl
 have h1:=Dec.dec_length_le hN hs.1
 have h2:=Dec.dec_length_le hN hs.2
 have h3:=zfk p.neg (Lib.decDigits p.top)
 have h4:a.data.size=a.size:=rfl
 split at hl<;>simp at hl<;>omega
theorem zdx {z:Int} {d N:Nat} (hz:z.natAbs<10 ^ N) (hd:d<10 ^ N) (hd0:0<d):Small (zb4 z d) N:=by
 by_cases h0:z=0
 ·subst h0
  rw [zeX hd0]
  exact ⟨hz,by show 1<10 ^ N;omega⟩
 ·rw [zhR hd0 h0]
  exact ⟨Nat.lt_of_le_of_lt (Nat.div_le_self _ _) hz,Nat.lt_of_le_of_lt (Nat.div_le_self _ _) hd⟩
theorem NumQ.small {a:ByteArray} {p:Q} {N:Nat} (h:NumQ a p) (ha:a.size≤N) (hN:0<N):Small p N:=by
 have h1:=congrArg List.length h.1
 rw [Array.length_toList,zaV,List.length_append] at h1
 have h3:a.data.size=a.size:=rfl
 have h6:(Lib.decDigits p.top).length≤(sgnT p.neg (Lib.decDigits p.top)).length:=by unfold sgnT;split<;>simp
 have e1:=za6 _ (zaC p.top)
 have e2:=za6 _ (zaC p.bot)
 rw [zaR] at e1 e2
 refine ⟨Nat.lt_of_lt_of_le e1 (Nat.pow_le_pow_right (by omega) (by omega)),?_⟩
 by_cases hb:p.bot=1
 ·rw [hb];exact Nat.one_lt_pow (by omega) (by omega)
 ·rw [if_neg hb,List.length_cons] at h1
  exact Nat.lt_of_lt_of_le e2 (Nat.pow_le_pow_right (by omega) (by omega))
theorem zgT (p:Q):(sI p).natAbs=p.top:=by unfold sI;split<;>simp
theorem zcI {x y M N:Nat} (hx:x<10 ^ M) (hy:y<10 ^ N):x*y<10 ^ (M+N):=by
 rw [Nat.pow_add]
 exact Nat.mul_lt_mul'' hx hy
theorem ziS {p q:Q} {M N:Nat} (hp:Small p M) (hq:Small q N) (p0:0<p.bot) (q0:0<q.bot):Small (mulQ p q) (M+N):=by
 refine zdx ?_ (zcI hp.2 hq.2) (Nat.mul_pos p0 q0)
 rw [Int.natAbs_mul,zgT,zgT]
 exact zcI hp.1 hq.1
theorem zic {p q:Q} {M N:Nat} (hp:Small p M) (hq:Small q N) (p0:0<p.bot) (q0:0<q.bot):Small (addQ p q) (M+N+1):=by
 have h1:=zcI hp.1 hq.2
 have h2:=zcI hq.1 hp.2
 have h3:=zcI hp.2 hq.2
 rw [Nat.add_comm N M] at h2
 have e:10 ^ (M+N+1)=10 ^ (M+N)*10:=Nat.pow_succ _ _
 refine zdx ?_ (by omega) (Nat.mul_pos p0 q0)
 have h4:=Int.natAbs_add_le (sI p*(q.bot:Int)) (sI q*(p.bot:Int))
 rw [Int.natAbs_mul,Int.natAbs_mul,zgT,zgT,Int.natAbs_natCast,Int.natAbs_natCast] at h4
 omega
def RetS (w:World) (p:Q) (e:Ending) (w':World):Prop:=(∃ s:ByteArray,e = .returned (.string s)∧NumQ s p)∧Below w.heap.size w w'
theorem zkY (a a':ByteArray) (p q:Q) (w:World) (h:NumQ a p) (h':NumQ a' q) (ha:a.size≤100000) (ha':a'.size≤100000) :
  Calls Tryz.prog 43 #[.string a,.string a'] w (RetS w (mulQ p q)):=
 (zqm a a' p.neg q.neg p.top p.bot q.top q.bot w h.num h'.num h.2.2.2 h'.2.2.2 h.2.1 h'.2.1 ha ha').mono fun _ _ ⟨⟨s,he,hs⟩,hb⟩=>⟨⟨s,he,hs,zbf _ (Nat.mul_pos h.2.1 h'.2.1)⟩,hb⟩
theorem ztp (a a':ByteArray) (p q:Q) (w:World) (h:NumQ a p) (h':NumQ a' q) (ha:a.size≤100000) (ha':a'.size≤100000) :
  Calls Tryz.prog 42 #[.string a,.string a'] w (RetS w (addQ p q)):=
 (zo6 a a' p.neg q.neg p.top p.bot q.top q.bot w h.num h'.num h.2.2.2 h'.2.2.2 h.2.1 h'.2.1 ha ha').mono fun _ _ ⟨⟨s,he,hs⟩,hb⟩=>⟨⟨s,he,hs,zbf _ (Nat.mul_pos h.2.1 h'.2.1)⟩,hb⟩
theorem LowQ.zero {p:Q} (h:LowQ p) (h0:p.top=0):p=⟨false,0,1⟩:=by
 obtain ⟨n,t,b⟩:=p
 obtain ⟨h1,h2,h3⟩:=h
 dsimp only at *
 subst h0
 rw [Nat.gcd_zero_left] at h2
 subst h2
 cases n
 ·rfl
 ·exact absurd (h3 rfl) (by omega)
theorem NumQ.is_zero {a:ByteArray} {p:Q} (h:NumQ a p):(a.toList==[48])=decide (p.top=0):=by
 rw [ByteArray.toList_eq,h.1,Bool.eq_iff_iff,beq_iff_eq,decide_eq_true_eq]
 constructor
 ·intro he
  rw [zaV] at he
  rcases Nat.eq_zero_or_pos p.top with h0 | h0
  ·exact h0
  ·exfalso
   have h1:=zfo h0
   have h2:=Dec.dec_length_pos p.top
   have hl:=congrArg List.length he
   rw [List.length_append] at hl
   simp only [List.length_cons,List.length_nil] at hl
   cases hn:p.neg
   ·rw [hn] at he hl
    have e1:sgnT false (Lib.decDigits p.top)=Lib.decDigits p.top:=rfl
    rw [e1] at he hl
    have h9:(if p.bot=1 then [] else 47 :: Lib.decDigits p.bot)=[]:=List.eq_nil_of_length_eq_zero (by omega)
    rw [h9,List.append_nil] at he
    exact h1 he
   ·rw [hn] at hl
    have e1:(sgnT true (Lib.decDigits p.top)).length=(Lib.decDigits p.top).length+1:=rfl
    omega
 ·intro h0
  rw [h.2.zero h0]
  rw [zaV]
  show Lib.decDigits 0++[]=[48]
  rw [Dec.dec_lt (by omega)]
  rfl
set_option maxHeartbeats 1000000 in
theorem zhz (a:ByteArray) (p:Q) (w:World) (h:NumQ a p) (_ha:a.size≤1000000) :
  Calls Tryz.prog 74 #[.string a] w fun e w'=>e = .returned (.int .i64 (zbs p))∧w=w':=by
 have hz:=h.is_zero
 obtain ⟨h0,hhd⟩:=h.num.head
 obtain ⟨c0,hc0⟩:∃ c0:Nat,(a[0]'h0).toNat=c0:=⟨_,rfl⟩
 rw [hc0] at hhd
 have d0:decide (0<a.size)=true:=by simpa using h0
 by_cases ht:p.top=0
 ·have hs:zbs p=0:=by unfold zbs;rw [if_pos ht]
  rw [decide_eq_true ht] at hz
  have HS:=Lib.hid hs
  clear hs h ht hhd hc0
  go_enter Tryz.func74,Tryz.ntmps74
  go_wp2
  go_ret
  exact ⟨by rw [HS.out];rfl,rfl⟩
 ·rw [decide_eq_false ht] at hz
  have hs:zbs p=if p.neg then -1 else 1:=by unfold zbs;rw [if_neg ht]
  cases hn:p.neg
  all_goals
   rw [hn] at hs hhd
   have HS:=Lib.hid hs
   clear hs h ht hn
   go_enter Tryz.func74,Tryz.ntmps74
   go_wp2
   go_ret
   exact ⟨by rw [HS.out];rfl,rfl⟩
theorem zcS (p:Q) (h:LowQ p):(p.neg=true∧zbs p = -1)∨(p.neg=false∧p.top=0∧zbs p=0)∨(p.neg=false∧0<p.top∧zbs p=1):=by
 unfold zbs
 by_cases ht:p.top=0
 ·have:=h.zero ht
  rw [this]
  exact .inr (.inl ⟨rfl,rfl,rfl⟩)
 ·rw [if_neg ht]
  cases hn:p.neg
  ·exact .inr (.inr ⟨rfl,by omega,rfl⟩)
  ·exact .inl ⟨rfl,rfl⟩
theorem zmE {p:Q} (h:LowQ p):LowQ (negQ p):=by
 refine ⟨h.1,h.2.1,fun h9 => ?_⟩
 unfold negQ at h9
 simp only [Bool.and_eq_true,decide_eq_true_eq] at h9
 exact h9.2
theorem zmM {p:Q} (h:LowQ p):LowQ (absQ p):=⟨h.1,h.2.1,fun h9=>by cases h9⟩
theorem zfb {a:ByteArray} {p:Q} (h:NumQ a p) (hn:p.neg=true):(a.extract 1 a.size).data.toList=zay ⟨false,p.top,p.bot⟩:=by
 have h1:=h.num.abs
 unfold absT at h1
 rw [hn] at h1
 exact h1
set_option maxHeartbeats 1000000 in
theorem zqN (a:ByteArray) (p:Q) (w:World) (h:NumQ a p) (ha:a.size≤1000000) :
  Calls Tryz.prog 84 #[.string a] w (RetS w (negQ p)):=by
 have HK:=Lib.hid (fun W=>zhz a p W h ha)
 have hl:=zmE h.2
 obtain ⟨h0,_⟩:=h.num.head
 have hs1:(1:Int)≤(a.size:Int):=by omega
 rcases zcS p h.2 with ⟨hn,hs⟩ | ⟨hn,ht,hs⟩ | ⟨hn,ht,hs⟩
 ·have hq:negQ p=⟨false,p.top,p.bot⟩:=by unfold negQ;rw [hn];rfl
  have hw:=zfb h hn
  have HR:Hid (NumQ (a.extract 1 a.size) (negQ p)):=⟨by rw [hq];exact hw,hl⟩
  simp only [hs] at HK
  clear hq hw hn hs h hl
  go_enter Tryz.func84,Tryz.ntmps84
  go_wp2_with fail
  refine (HK.out w).mono ?_
  rintro e w1 ⟨rfl,rfl⟩
  go_wp2
  go_ret
  exact ⟨⟨_,rfl,HR.out⟩,Below.refl _ _⟩
 ·have hq:negQ p=p:=by rw [h.2.zero ht];rfl
  have HR:Hid (NumQ a (negQ p)):=by show NumQ a (negQ p);rw [hq];exact h
  simp only [hs] at HK
  clear hq hn hs h hl ht
  go_enter Tryz.func84,Tryz.ntmps84
  go_wp2_with fail
  refine (HK.out w).mono ?_
  rintro e w1 ⟨rfl,rfl⟩
  go_wp2_with fail
  refine (HK.out w).mono ?_
  rintro e w1 ⟨rfl,rfl⟩
  go_wp2
  go_ret
  exact ⟨⟨_,rfl,HR.out⟩,Below.refl _ _⟩
 ·have hq:negQ p=⟨true,p.top,p.bot⟩:=by unfold negQ;rw [hn,decide_eq_true ht];rfl
  have HR:Hid (NumQ (⟨#[45]⟩++a) (negQ p)):=by
   refine ⟨?_,hl⟩
   rw [ByteArray.data_append,Array.toList_append,h.1,hq,zaV,zaV,hn]
   rfl
  simp only [hs] at HK
  clear hq hn hs h hl ht
  go_enter Tryz.func84,Tryz.ntmps84
  go_wp2_with fail
  refine (HK.out w).mono ?_
  rintro e w1 ⟨rfl,rfl⟩
  go_wp2_with fail
  refine (HK.out w).mono ?_
  rintro e w1 ⟨rfl,rfl⟩
  go_wp2
  go_ret
  exact ⟨⟨_,rfl,HR.out⟩,Below.refl _ _⟩
set_option maxHeartbeats 1000000 in
theorem zq2 (a:ByteArray) (p:Q) (w:World) (h:NumQ a p) (ha:a.size≤1000000) :
  Calls Tryz.prog 36 #[.string a] w (RetS w (absQ p)):=by
 have HK:=Lib.hid (fun W=>zhz a p W h ha)
 have hl:=zmM h.2
 obtain ⟨h0,_⟩:=h.num.head
 have hs1:(1:Int)≤(a.size:Int):=by omega
 by_cases hn:p.neg=true
 ·have hs:zbs p = -1:=by rcases zcS p h.2 with ⟨_,h9⟩ | ⟨h8,_⟩ | ⟨h8,_⟩;(· exact h9);(· rw [h8] at hn;cases hn);(· rw [h8] at hn;cases hn)
  have HR:Hid (NumQ (a.extract 1 a.size) (absQ p)):=⟨zfb h hn,hl⟩
  simp only [hs] at HK
  clear hn hs h hl
  go_enter Tryz.func36,Tryz.ntmps36
  go_wp2_with fail
  refine (HK.out w).mono ?_
  rintro e w1 ⟨rfl,rfl⟩
  go_wp2
  go_ret
  exact ⟨⟨_,rfl,HR.out⟩,Below.refl _ _⟩
 ·have hn':p.neg=false:=by simpa using hn
  obtain ⟨r,hr,hs⟩:∃ r:Int,0≤r∧zbs p=r:=⟨zbs p,by rcases zcS p h.2 with ⟨h9,_⟩ | ⟨_,_,h9⟩ | ⟨_,_,h9⟩;(· exact absurd h9 hn);(· rw [h9];decide);(· rw [h9];decide),rfl⟩
  have d0:decide (r<0)=false:=by simp only [decide_eq_false_iff_not];omega
  have hq:absQ p=p:=by
   obtain ⟨n,t,b⟩:=p
   dsimp only at hn'
   subst hn'
   rfl
  have HR:Hid (NumQ a (absQ p)):=by show NumQ a (absQ p);rw [hq];exact h
  simp only [hs] at HK
  clear hn hs h hl hq hn'
  go_enter Tryz.func36,Tryz.ntmps36
  go_wp2_with fail
  refine (HK.out w).mono ?_
  rintro e w1 ⟨rfl,rfl⟩
  go_wp2
  go_ret
  exact ⟨⟨_,rfl,HR.out⟩,Below.refl _ _⟩
theorem zqS (q:Q):sI (negQ q) = - sI q:=by
 unfold sI negQ
 dsimp only
 cases q.neg
 ·by_cases h:0<q.top
  ·simp [h]
  ·have:q.top=0:=by omega
   simp [this]
 ·simp
theorem zkU (p q:Q):addQ p (negQ q)=subQ p q:=by
 unfold addQ subQ
 rw [zqS,Int.neg_mul,←Int.sub_eq_add_neg]
 rfl
set_option maxHeartbeats 1000000 in
theorem zqX (a a':ByteArray) (p q:Q) (w:World) (h:NumQ a p) (h':NumQ a' q) (ha:a.size≤100000) (ha':a'.size≤99999) :
  Calls Tryz.prog 37 #[.string a,.string a'] w (RetS w (subQ p q)):=by
 have HN:=Lib.hid (zqN a' q w h' (by omega))
 have hsz:∀ s:ByteArray,NumQ s (negQ q)→s.size≤100000:=fun s hs=>by
  have h1:=congrArg List.length hs.1
  have h2:=congrArg List.length h'.1
  rw [Array.length_toList,zaV,List.length_append] at h1 h2
  have h3:s.data.size=s.size:=rfl
  have h4:a'.data.size=a'.size:=rfl
  have h5:=zfk (negQ q).neg (Lib.decDigits (negQ q).top)
  have h6:(Lib.decDigits q.top).length≤(sgnT q.neg (Lib.decDigits q.top)).length:=by unfold sgnT;split<;>simp
  have e1:(negQ q).top=q.top:=rfl
  have e2:(negQ q).bot=q.bot:=rfl
  rw [e1,e2] at h1
  rw [e1] at h5
  omega
 have HA:=Lib.hid (fun (s:ByteArray) (hs:NumQ s (negQ q)) (W:World)=>ztp a s p (negQ q) W h hs ha (hsz s hs))
 rw [zkU] at HA
 clear hsz
 go_enter Tryz.func37,Tryz.ntmps37
 go_wp2_with fail
 refine HN.out.mono ?_
 rintro e w1 ⟨⟨s,rfl,hs⟩,hb1⟩
 go_wp2_with fail
 refine (HA.out s hs w1).mono ?_
 rintro e w2 ⟨⟨t,rfl,ht⟩,hb2⟩
 go_wp2
 go_ret
 exact ⟨⟨t,rfl,ht⟩,hb1.trans (hb2.mono hb1.size)⟩
theorem zix {p:Q} {N:Nat} (h:Small p N):Small (negQ p) N:=h
theorem zfv {p q:Q} {M N:Nat} (hp:Small p M) (hq:Small q N) (p0:0<p.bot) (q0:0<q.bot):Small (subQ p q) (M+N+1):=by
 rw [←zkU]
 exact zic hp (zix hq) p0 q0
set_option maxHeartbeats 1000000 in
theorem zgb (a a':ByteArray) (p q:Q) (w:World) (h:NumQ a p) (h':NumQ a' q) (ha:a.size≤99999) (ha':a'.size≤99999) :
  Calls Tryz.prog 35 #[.string a,.string a'] w fun e w'=>e = .returned (.int .i64 (cmpI p q))∧Below w.heap.size w w':=by
 have HS:=Lib.hid (zqX a a' p q w h h' (by omega) ha')
 have hsz:∀ s:ByteArray,NumQ s (subQ p q)→s.size≤1000000:=fun s hs=>by
  obtain ⟨N,hN⟩:∃ N,N=99999:=⟨_,rfl⟩
  have s1:Small p N:=h.small (by omega) (by omega)
  have s2:Small q N:=h'.small (by omega) (by omega)
  have:=hs.size (zfv s1 s2 h.2.1 h'.2.1) (by omega)
  omega
 have HG:=Lib.hid (fun (s:ByteArray) (hs:NumQ s (subQ p q)) (W:World)=>zhz s (subQ p q) W hs (hsz s hs))
 clear hsz
 go_enter Tryz.func35,Tryz.ntmps35
 go_wp2_with fail
 refine HS.out.mono ?_
 rintro e w1 ⟨⟨s,rfl,hs⟩,hb1⟩
 go_wp2_with fail
 refine (HG.out s hs w1).mono ?_
 rintro e w2 ⟨rfl,rfl⟩
 go_wp2
 go_ret
 exact ⟨rfl,hb1⟩
def zgx:Q:=⟨false,1,2⟩
theorem zhL:NumQ ⟨#[49,47,50]⟩ zgx:=⟨by decide +kernel,by decide,by decide,fun h=>by cases h⟩
set_option maxHeartbeats 1000000 in
theorem zrd (a:ByteArray) (p:Q) (w:World) (h:NumQ a p) (ha:a.size≤100000) :
  Calls Tryz.prog 29 #[.string a] w (RetS w (mulQ p zgx)):=by
 have HM:=Lib.hid (zkY a ⟨#[49,47,50]⟩ p zgx w h zhL ha (by decide))
 go_enter Tryz.func29,Tryz.ntmps29
 go_wp2_with fail
 refine HM.out.mono ?_
 rintro e w1 ⟨⟨s,rfl,hs⟩,hb1⟩
 go_wp2
 go_ret
 exact ⟨⟨s,rfl,hs⟩,hb1⟩
def recQ (p:Q):Q:=zb4 (p.bot:Int) p.top
theorem zj3 {p:Q} (ht:0<p.top):LowQ (recQ p):=zbf _ ht
theorem zjX {p:Q} (h:LowQ p) (_hn:p.neg=false) (ht:0<p.top):recQ p=⟨false,p.bot,p.top⟩:=by
 refine zeN (zj3 ht) ⟨ht,by rw [Nat.gcd_comm];exact h.2.1,fun h9=>by cases h9⟩ ?_
 exact znz ht
set_option maxHeartbeats 2000000 in
set_option maxRecDepth 100000 in
theorem zq4 (a:ByteArray) (p:Q) (w:World) (h:NumQ a p) (hn:p.neg=false) (ht:0<p.top) (ha:a.size≤100000) :
  Calls Tryz.prog 121 #[.string a] w (RetS w (recQ p)):=by
 have hp:=zbQ a p.neg p.top p.bot w h.num h.2.2.2 h.2.1 (by omega)
 rw [hn] at hp
 have HP:=Lib.hid hp
 have hl:=h.num.lens2 ha
 have HL:=Lib.hid hl
 have HLOW:=Lib.hid (zj3 ht)
 have HRQ:Hid (∀ s:ByteArray,s.data.toList=zay (zb4 (sgn false p.bot) p.top)→NumQ s (recQ p)):=fun s hs=>⟨hs,zj3 ht⟩
 clear hp hl
 generalize recQ p=R at *
 go_enter Tryz.func121,Tryz.ntmps121
 go_wp2_with fail
 refine HP.out.mono ?_
 rintro e w1 ⟨A1,n1,c1,A2,n2,c2,rfl,hd1,hd2,hb1⟩
 have hB:Below w1.heap.size w1 ((w1.alloc (.cells #[.bool false,.slice A1 n1 c1] 152)).alloc (.cells #[.bool false,.slice A2 n2 c2] 152)):=((Below.refl _ _).alloc (Nat.le_refl _) _).alloc (by simp) _
 have e1:n1≤100000:=by rw [←hd1.len];exact HL.out.1
 have e2:n2≤100001:=by rw [←hd2.len];exact HL.out.2
 have HF:=Lib.hid (zeo false p.bot p.top A2 A1 n2 c2 n1 c1 _ (hd2.later hB) (hd1.later hB) ht (by omega) (by omega))
 have HB:=Lib.hid (hb1.trans (hB.mono hb1.size))
 clear hd1 hd2 hB hb1
 go_wp2_with fail
 refine HF.out.mono ?_
 rintro e w2 ⟨⟨s,rfl,hs⟩,hb2⟩
 go_wp2
 go_ret
 exact ⟨⟨s,rfl,HRQ.out s hs⟩,HB.out.trans (hb2.mono HB.out.size)⟩
theorem zkk {p:Q} {N:Nat} (h:Small p N) (ht:0<p.top):Small (recQ p) N:=by
 refine zdx ?_ h.1 ht
 rw [Int.natAbs_natCast]
 exact h.2
def powQ (p:Q) (k:Nat):Q:=⟨false,p.top ^ k,p.bot ^ k⟩
theorem zrW {x y:Nat} (h:Nat.gcd x y=1) (k:Nat):Nat.gcd (x ^ k) (y ^ k)=1:=by
 have h1:Nat.Coprime x y:=h
 exact Nat.Coprime.pow k k h1
theorem zd1 {p:Q} (h:LowQ p) (k:Nat):LowQ (powQ p k):=⟨Nat.pow_pos h.1,zrW h.2.1 k,fun h9=>by cases h9⟩
theorem zkQ {p:Q} (h:LowQ p) (i j:Nat):mulQ (powQ p i) (powQ p j)=powQ p (i+j):=by
 have hi:=zd1 h i
 have hj:=zd1 h j
 refine zeN (zbf _ (Nat.mul_pos hi.1 hj.1)) (zd1 h (i+j)) ?_
 unfold mulQ
 have h9:=znz (num:=sI (powQ p i)*sI (powQ p j)) (Nat.mul_pos hi.1 hj.1)
 have e1:sI (powQ p (i+j))=sI (powQ p i)*sI (powQ p j):=by
  unfold sI powQ
  simp only [Bool.false_eq_true,if_false]
  rw [Nat.pow_add,Int.natCast_mul]
 have e2:(powQ p (i+j)).bot=(powQ p i).bot*(powQ p j).bot:=by
  unfold powQ
  dsimp only
  rw [Nat.pow_add]
 rw [e1,e2]
 exact h9
theorem zi7 {p:Q} {N:Nat} (h:Small p N) (k:Nat):Small (powQ p k) (N*k+1):=by
 have h1:p.top ^ k≤(10 ^ N) ^ k:=Nat.pow_le_pow_left (Nat.le_of_lt h.1) k
 have h2:p.bot ^ k≤(10 ^ N) ^ k:=Nat.pow_le_pow_left (Nat.le_of_lt h.2) k
 rw [←Nat.pow_mul] at h1 h2
 have h3:10 ^ (N*k)<10 ^ (N*k+1):=Nat.pow_lt_pow_right (by omega) (by omega)
 exact ⟨Nat.lt_of_le_of_lt h1 h3,Nat.lt_of_le_of_lt h2 h3⟩
theorem znh:NumQ ⟨#[49]⟩ ⟨false,1,1⟩:=⟨by decide +kernel,by decide,by decide,fun h=>by cases h⟩
def ze7 (p:Q) (k i:Nat) (t s:ByteArray):Prop:=∃ e r,NumQ t (powQ p e)∧NumQ s (powQ p r)∧r+e*i=k∧e≤2*k+1∧r≤k
set_option maxHeartbeats 2000000 in
set_option maxRecDepth 100000 in
theorem zkg (a:ByteArray) (p:Q) (k N:Nat) (w:World) (h:NumQ a p) (hn:p.neg=false) (hs:Small p N) (hk:k≤100) (hN:N≤40) :
  Calls Tryz.prog 49 #[.string a,.int .i64 (k:Int)] w (RetS w (powQ p k)):=by
 have hp1:NumQ a (powQ p 1):=by
  have e:powQ p 1=p:=by
   obtain ⟨n,t,b⟩:=p
   dsimp only at hn
   subst hn
   unfold powQ
   simp
  rw [e];exact h
 have hsz:∀ (s:ByteArray) (e:Nat),NumQ s (powQ p e)→e≤201→s.size≤20000:=fun s e h9 he=>by
  have h1:=h9.size (zi7 hs e) (by omega)
  have h2:N*e≤40*201:=Nat.mul_le_mul hN he
  omega
 have hmul:∀ (s t:ByteArray) (i j:Nat),NumQ s (powQ p i)→NumQ t (powQ p j)→i≤201→j≤201→∀ W:World,Calls Tryz.prog 43 #[.string s,.string t] W (RetS W (powQ p (i+j))):=fun s t i j h1 h2 hi hj W=>by
  have h9:=zkY s t _ _ W h1 h2 (by have:=hsz s i h1 hi;omega) (by have:=hsz t j h2 hj;omega)
  rwa [zkQ h.2] at h9
 have HM:=Lib.hid hmul
 have d0:decide ((k:Int)<0)=false:=by simp
 have H1:Hid (ze7 p k k a ⟨#[49]⟩):=⟨1,0,hp1,znh,by omega,by omega,by omega⟩
 clear hsz hmul hp1 h hn hs
 go_enter Tryz.func49,Tryz.ntmps49
 go_wp2
 go_loopg [0,1,5] k (fun g v0 v1 v5 W=>∃ (i:Nat) (t s:ByteArray),v0 = .string t∧v1 = .int .i64 (i:Int)∧v5 = .string s∧i≤g∧i≤k∧Hid (ze7 p k i t s)∧Below w.heap.size w W)
 case atStart=>exact ⟨k,a,_,rfl,rfl,rfl,Nat.le_refl _,Nat.le_refl _,H1.out,Below.refl _ _⟩
 case round=>
  obtain ⟨i,t,s,rfl,rfl,rfl,hg,hik,hinv,hbel⟩:=hrel
  obtain ⟨e,r,ht,hs,hre,he,hr⟩:=hinv.out
  by_cases h0:i=0
  ·subst h0
   have hR:NumQ s (powQ p k):=by
    rw [Nat.mul_zero,Nat.add_zero] at hre
    rw [←hre];exact hs
   have HR:=Lib.hid hR
   clear hR hre ht hs hinv
   go_wp2
   go_ret
   exact ⟨⟨s,rfl,HR.out⟩,hbel⟩
  ·have hek:e≤k:=by
    have:e*1≤e*i:=Nat.mul_le_mul_left e (by omega)
    omega
   have d1:decide (0<i)=true:=by simp;omega
   obtain ⟨i2,hi2⟩:∃ i2,i2=i / 2:=⟨_,rfl⟩
   have ed:(i:Int) / 2=(i2:Int):=by omega
   have HSQ:=Lib.hid (HM.out t t e e ht ht (by omega) (by omega))
   by_cases hodd:i % 2=1
   ·have eo:(i:Int) % 2=1:=by omega
    have hee:e*i=e+(e+e)*i2:=by
     have:i=1+2*i2:=by omega
     rw [this,Nat.mul_add,Nat.mul_one,Nat.add_mul,←Nat.mul_assoc,Nat.mul_comm e 2,Nat.two_mul,Nat.add_mul]
    have HO:=Lib.hid (HM.out s t r e hs ht (by omega) (by omega))
    have HI:Hid (∀ t2 s2:ByteArray,NumQ t2 (powQ p (e+e))→NumQ s2 (powQ p (r+e))→ze7 p k i2 t2 s2):=fun t2 s2 h1 h2=>⟨e+e,r+e,h1,h2,by omega,by omega,by omega⟩
    have hi2k:i2≤k∧i2<i:=by omega
    have HIK:=Lib.hid hi2k
    clear hi2 hodd hee hre ht hs hinv hi2k
    go_wp2_with fail
    refine (HO.out wr).mono ?_
    rintro e1 w1 ⟨⟨s2,rfl,hs2⟩,hb1⟩
    go_wp2_with fail
    refine (HSQ.out w1).mono ?_
    rintro e2 w2 ⟨⟨t2,rfl,ht2⟩,hb2⟩
    have HN:=Lib.hid (HI.out t2 s2 ht2 hs2)
    clear hs2 ht2
    go_wp2
    go_roundg i2
    case measure=>have:=HIK.out;omega
    case rel=>exact ⟨i2,t2,s2,rfl,rfl,rfl,Nat.le_refl _,HIK.out.1,HN.out,hbel.trans ((hb1.trans (hb2.mono hb1.size)).mono hbel.size)⟩
   ·have eo:(i:Int) % 2=0:=by omega
    have hee:e*i=(e+e)*i2:=by
     have:i=2*i2:=by omega
     rw [this,←Nat.mul_assoc,Nat.mul_comm e 2,Nat.two_mul]
    have HI:Hid (∀ t2:ByteArray,NumQ t2 (powQ p (e+e))→ze7 p k i2 t2 s):=fun t2 h1=>⟨e+e,r,h1,hs,by omega,by omega,by omega⟩
    have hi2k:i2≤k∧i2<i:=by omega
    have HIK:=Lib.hid hi2k
    clear hi2 hodd hee hre ht hs hinv hi2k
    go_wp2_with fail
    refine (HSQ.out wr).mono ?_
    rintro e2 w2 ⟨⟨t2,rfl,ht2⟩,hb2⟩
    have HN:=Lib.hid (HI.out t2 ht2)
    clear ht2
    go_wp2
    go_roundg i2
    case measure=>have:=HIK.out;omega
    case rel=>exact ⟨i2,t2,s,rfl,rfl,rfl,Nat.le_refl _,HIK.out.1,HN.out,hbel.trans (hb2.mono hbel.size)⟩
set_option maxHeartbeats 2000000 in
set_option maxRecDepth 100000 in
theorem zqE (a:ByteArray) (p:Q) (m N:Nat) (w:World) (h:NumQ a p) (hn:p.neg=false) (ht:0<p.top) (hs:Small p N) (hm:0<m) (hk:m≤100) (hN:N≤40) (ha:a.size≤100000) :
  Calls Tryz.prog 49 #[.string a,.int .i64 (-(m:Int))] w (RetS w (powQ (recQ p) m)):=by
 have hrn:(recQ p).neg=false:=by rw [zjX h.2 hn ht]
 have HR:=Lib.hid (zq4 a p w h hn ht ha)
 have HP:=Lib.hid (fun (s:ByteArray) (h9:NumQ s (recQ p)) (W:World)=>zkg s (recQ p) m N W h9 hrn (zkk hs ht) hk hN)
 have d0:decide (-(m:Int)<0)=true:=by simp only [decide_eq_true_eq];omega
 have hm1 : -(m:Int)<0:=by omega
 obtain ⟨z,hz⟩:∃ z:Int, -(m:Int)=z:=⟨_,rfl⟩
 have ez:0 - z=(m:Int):=by omega
 have ez2 : -z=(m:Int):=by omega
 have hzb : -100≤z:=by omega
 rw [hz] at d0 hm1 ⊢
 clear hz h hn hs hrn
 go_enter Tryz.func49,Tryz.ntmps49
 go_wp2_with fail
 refine HR.out.mono ?_
 rintro e w1 ⟨⟨s,rfl,h9⟩,hb1⟩
 go_wp2_with fail
 refine (HP.out s h9 w1).mono ?_
 rintro e w2 ⟨⟨t,rfl,h8⟩,hb2⟩
 go_wp2
 go_ret
 exact ⟨⟨t,rfl,h8⟩,hb1.trans (hb2.mono hb1.size)⟩
end Go.Proofs.YtmkihdjolnlccaaGreatDoor
