/- Contracts of the reference's fractions: fraction (denominator above 0), gcd, Of. -/
import Derived.Test.YteajibbphcfmeaaGreatDoorTRb11
namespace Go.Proofs.YteajibbphcfmeaaGreatDoor
open Go.RowKit Dn
theorem frac_eq (b:Bool) (x y:Nat) (hy:0<y):fracQ (sgn b x) y=⟨decide (sgn b (x / Nat.gcd x y)<0),x / Nat.gcd x y,y / Nat.gcd x y⟩:=by
 unfold fracQ
 rw [sgn_abs,sgn_neg,sgn_neg,lowQ_pos _ _ _ hy]
 congr 1
 rcases Nat.eq_zero_or_pos x with h | h
 ·subst h
  simp
 ·have h1:0<x / Nat.gcd x y:=Nat.div_pos (Nat.gcd_le_left _ h) (Nat.gcd_pos_of_pos_right _ hy)
  have h2:decide (0<x)=true:=by simpa using h
  have h3:decide (x / Nat.gcd x y=0)=false:=by simp only [decide_eq_false_iff_not];omega
  have h4:decide (0<x / Nat.gcd x y)=true:=by simpa using h1
  rw [h2,h3,h4]
  cases b<;>rfl
theorem dec_len9 {x n:Nat} (h:(digs x).length=n):(Lib.decDigits x).length≤9*n+1:=by
 rcases Nat.eq_zero_or_pos n with h0 | h0
 ·have:x=0:=digs_length_zero.1 (by omega)
  subst this
  rw [Dec.dec_lt (by omega)]
  simp
 ·have h1:=lt_of_digs_length x
  rw [h] at h1
  have h2:=ddec_len h0 h1 0
  rw [Nat.pow_zero,Nat.div_one] at h2
  omega
theorem sgnT_len (b:Bool) (t:List UInt8):(sgnT b t).length≤t.length+1:=by
 unfold sgnT
 cases b<;>simp
set_option maxHeartbeats 4000000 in
set_option maxRecDepth 100000 in
theorem rfraction_pos (b:Bool) (x y:Nat) (A1 A2:Option Addr) (n1 c1 n2 c2:Nat) (w:World) (h1:DigI w A1 n1 c1 (digs x)) (h2:DigI w A2 n2 c2 (digs y)) (hy:0<y) (k1:n1≤500000) (k2:n2≤500000) :
  Calls Tryz.prog 74 #[.agg #[.bool b,.slice A1 n1 c1],.agg #[.bool false,.slice A2 n2 c2]] w fun e w'=>(∃ s:ByteArray,e = .returned (.string s)∧s.data.toList=writeS (fracQ (sgn b x) y))∧Below w.heap.size w w':=by
 rw [frac_eq b x y hy]
 have hB:Below w.heap.size w ((w.alloc (.cells #[.bool b,.slice A1 n1 c1] 84)).alloc (.cells #[.bool false,.slice A2 n2 c2] 84)):=((Below.refl _ _).alloc (Nat.le_refl _) _).alloc (by simp) _
 have hx0:CBlk ((w.alloc (.cells #[.bool b,.slice A1 n1 c1] 84)).alloc (.cells #[.bool false,.slice A2 n2 c2] 84)) w.heap.size #[.bool b,.slice A1 n1 c1] 84:=(CBlk.new w _ _ _ rfl).below ((Below.refl _ _).alloc (Nat.le_refl _) _) (by simp)
 have hx1:CBlk ((w.alloc (.cells #[.bool b,.slice A1 n1 c1] 84)).alloc (.cells #[.bool false,.slice A2 n2 c2] 84)) (w.heap.size+1) #[.bool false,.slice A2 n2 c2] 84:=CBlk.new (w.alloc (.cells #[.bool b,.slice A1 n1 c1] 84)) _ _ (w.heap.size+1) (by simp)
 have h1d:=Lib.hid h1
 have h2d:=Lib.hid h2
 obtain ⟨g,hg⟩:∃ g,g=Nat.gcd x y:=⟨_,rfl⟩
 have hg0:0<g:=by rw [hg];exact Nat.gcd_pos_of_pos_right _ hy
 have hgy:g≤y:=by rw [hg];exact Nat.gcd_le_right _ hy
 have hg5:(digs g).length≤n2:=by rw [←h2.len];exact digs_length_mono hgy
 have hxl:(digs (x / g)).length≤n1:=by rw [←h1.len];exact digs_length_mono (Nat.div_le_self _ _)
 have hyl:(digs (y / g)).length≤n2:=by rw [←h2.len];exact digs_length_mono (Nat.div_le_self _ _)
 have HG5:=Lib.hid hg5
 have HXL:=Lib.hid hxl
 have HYL:=Lib.hid hyl
 rw [←hg]
 obtain ⟨X,hX⟩:∃ X,X=x / g:=⟨_,rfl⟩
 obtain ⟨Y,hY⟩:∃ Y,Y=y / g:=⟨_,rfl⟩
 obtain ⟨z,hz⟩:∃ z,z=sgn b X:=⟨_,rfl⟩
 rw [←hX,←hY,←hz]
 have HX:=Lib.hid hX
 have HY:=Lib.hid hY
 have HZ:=Lib.hid hz
 have HG:=Lib.hid hg
 have HG0:=Lib.hid hg0
 rw [←hX] at HXL
 rw [←hY] at HYL
 clear h1 h2 hg hg5 hxl hyl hgy hg0 hX hY hz
 go_enter Tryz.func74,Tryz.ntmps74
 go_upto_region 1 with (fail)
 generalize ((w.alloc (.cells #[.bool b,.slice A1 n1 c1] 84)).alloc (.cells #[.bool false,.slice A2 n2 c2] 84))=w3 at *
 have a0:w3.cell? ⟨w.heap.size,0,none⟩=some (.bool b):=hx0.cell 0
 have a1:w3.cell? ⟨w.heap.size,1,none⟩=some (.slice A1 n1 c1):=hx0.cell 1
 have q0:w3.cell? ⟨w.heap.size+1,0,none⟩=some (.bool false):=hx1.cell 0
 have q1:w3.cell? ⟨w.heap.size+1,1,none⟩=some (.slice A2 n2 c2):=hx1.cell 1
 have al:=hx0.lt
 have bl:=hx1.lt
 clear hx0 hx1
 go_wp2_with fail
 refine (rcommon_any A1 A2 n1 c1 n2 c2 x y w3 (h1d.out.later hB) (h2d.out.later hB) (by omega) (by omega)).mono ?_
 rintro e w4 ⟨A5,m5,c5,rfl,hd5,hb4⟩
 rw [←HG.out] at hd5
 clear q0
 replace a0:=(hb4.cell (p:=⟨w.heap.size,0,none⟩) al).trans a0
 replace a1:=(hb4.cell (p:=⟨w.heap.size,1,none⟩) al).trans a1
 replace q1:=(hb4.cell (p:=⟨w.heap.size+1,1,none⟩) bl).trans q1
 replace hB:=hB.trans (hb4.mono hB.size)
 replace al:=Nat.lt_of_lt_of_le al hb4.size
 replace bl:=Nat.lt_of_lt_of_le bl hb4.size
 have hm5:m5≤n2:=by rw [←hd5.len];exact HG5.out
 clear hb4
 go_wp2_with fail
 refine (rdivDigits_any A1 A5 n1 c1 m5 c5 x g w4 (h1d.out.later hB) hd5 HG0.out (by omega) (by omega)).mono ?_
 rintro e w5 ⟨Ap,mp,cp,Ar,mr,cr,rfl,hdp,_,hb5⟩
 rw [←HX.out] at hdp
 replace a0:=(hb5.cell (p:=⟨w.heap.size,0,none⟩) al).trans a0
 replace a1:=(hb5.cell (p:=⟨w.heap.size,1,none⟩) al).trans a1
 replace q1:=(hb5.cell (p:=⟨w.heap.size+1,1,none⟩) bl).trans q1
 replace hB:=hB.trans (hb5.mono hB.size)
 replace al:=Nat.lt_of_lt_of_le al hb5.size
 replace bl:=Nat.lt_of_lt_of_le bl hb5.size
 replace hd5:=hd5.later hb5
 clear hb5
 go_wp2_with fail
 refine (rdivDigits_any A2 A5 n2 c2 m5 c5 y g w5 (h2d.out.later hB) hd5 HG0.out (by omega) (by omega)).mono ?_
 rintro e w6 ⟨Aq,mq,cq,Ar2,mr2,cr2,rfl,hdq,_,hb6⟩
 rw [←HY.out] at hdq
 replace a0:=(hb6.cell (p:=⟨w.heap.size,0,none⟩) al).trans a0
 replace a1:=(hb6.cell (p:=⟨w.heap.size,1,none⟩) al).trans a1
 replace q1:=(hb6.cell (p:=⟨w.heap.size+1,1,none⟩) bl).trans q1
 replace hB:=hB.trans (hb6.mono hB.size)
 replace al:=Nat.lt_of_lt_of_le al hb6.size
 replace bl:=Nat.lt_of_lt_of_le bl hb6.size
 replace hdp:=hdp.later hb6
 clear hb6 hd5
 have hmp:mp≤n1:=by rw [←hdp.len];exact HXL.out
 have hmq:mq≤n2:=by rw [←hdq.len];exact HYL.out
 have hmq1:=hdq.len
 have hxl9:=dec_len9 hdp.len
 have hyl9:=dec_len9 hdq.len
 have HS1:=rsigned_any b Ap mp cp (digs X) w6 hdp (by omega)
 rw [val_digs,←HZ.out] at HS1
 have HZA:=sgn_abs b X
 have HZN:=sgn_neg b X
 rw [←HZ.out] at HZA HZN
 have HS:=Lib.hid HS1
 have HZA':=Lib.hid HZA
 have HZN':=Lib.hid HZN
 have HMQ:=Lib.hid hmq1
 have HXL9:=Lib.hid hxl9
 have HYL9:=Lib.hid hyl9
 clear HS1 HZA HZN hdp hmq1 hxl9 hyl9
 go_wp2_with fail
 refine HS.out.mono ?_
 rintro e w7 ⟨A7,m7,c7,rfl,hd7,hb7⟩
 replace a0:=(hb7.cell (p:=⟨w.heap.size,0,none⟩) al).trans a0
 replace a1:=(hb7.cell (p:=⟨w.heap.size,1,none⟩) al).trans a1
 replace q1:=(hb7.cell (p:=⟨w.heap.size+1,1,none⟩) bl).trans q1
 replace hB:=hB.trans (hb7.mono hB.size)
 replace al:=Nat.lt_of_lt_of_le al hb7.size
 replace bl:=Nat.lt_of_lt_of_le bl hb7.size
 replace hdq:=hdq.later hb7
 clear hb7 HS
 rw [HZA'.out] at hd7
 have hm7:m7≤n1∨True := .inr trivial
 have HT7:=rtext_any (decide (z<0)) X A7 m7 c7 w7 hd7 (by rw [HZN'.out];simp) (by rw [←hd7.len];have:=HXL.out;have:=HXL9.out;have:=hmp;omega)
 have HT:=Lib.hid HT7
 clear HT7 hm7
 go_wp2_with fail
 refine HT.out.mono ?_
 rintro e w8 ⟨⟨s,rfl,hs⟩,hb8⟩
 replace a0:=(hb8.cell (p:=⟨w.heap.size,0,none⟩) al).trans a0
 replace a1:=(hb8.cell (p:=⟨w.heap.size,1,none⟩) al).trans a1
 replace q1:=(hb8.cell (p:=⟨w.heap.size+1,1,none⟩) bl).trans q1
 replace hB:=hB.trans (hb8.mono hB.size)
 replace al:=Nat.lt_of_lt_of_le al hb8.size
 replace bl:=Nat.lt_of_lt_of_le bl hb8.size
 replace hdq:=hdq.later hb8
 have hsz:s.size≤4500003:=by
  have h9:s.data.toList.length=s.size:=Array.length_toList
  have h8:=sgnT_len (decide (z<0)) (Lib.decDigits X)
  rw [←hs] at h8
  have:=HXL9.out
  omega
 have HSS:=Lib.hid hs
 clear hb8 HT hs hd7 a0 a1 q1
 by_cases hY:Y=1
 ·subst hY
  have h1l:(digs 1).length=1:=by rw [digs_single (by omega) (by decide)];rfl
  obtain rfl:mq=1:=by rw [←HMQ.out];exact h1l
  obtain ⟨ad,hkl,rfl,hbb,hcell⟩:=hdq.rd.cellM (k:=0) (by omega)
  have he:(digs 1)[0]=1:=by
   have:digs 1=[1]:=digs_single (by omega) (by decide)
   simp [this]
  unfold natv at hcell
  rw [he] at hcell
  replace hcell:w8.cell? ad=some (.int .i64 1):=hcell
  have HR:Hid (s.data.toList=writeS ⟨decide (z<0),X,1⟩):=by
   show s.data.toList=_
   rw [writeS_eq,HSS.out]
   simp
  clear h1l hkl he
  go_wp2
  go_ret
  exact ⟨⟨s,rfl,HR.out⟩,hB⟩
 ·have hcase:(((mq:Int)==1)=false)∨(mq=1∧∃ ad v:_,Aq=some ad∧w8.cell? ad=some (.int .i64 (v:Int))∧((v==1)=false)):=by
   by_cases hm:mq=1
   ·subst hm
    obtain ⟨ad,hkl,rfl,hbb,hcell⟩:=hdq.rd.cellM (k:=0) (by omega)
    refine .inr ⟨rfl,ad,(((digs Y)[0]:Nat):Int),rfl,hcell,?_⟩
    rw [beq_eq_false_iff_ne]
    intro h9
    apply hY
    have h8:(digs Y)[0]=1:=by omega
    have h7:digs Y=[1]:=by
     apply List.ext_getElem
     ·rw [HMQ.out];rfl
     ·intro i hi1 hi2
      have:i=0:=by simp at hi2;omega
      subst this
      simpa using h8
    rw [←val_digs Y,h7]
    simp
   ·exact .inl (by rw [beq_eq_false_iff_ne];omega)
  have HS2:=rsigned_any false Aq mq cq (digs Y) w8 hdq (by omega)
  rw [val_digs] at HS2
  have HS2':=Lib.hid HS2
  have HBH:=Lib.hid hB
  have HZ9:Hid ((sgn false Y).natAbs=Y∧decide (sgn false Y<0)=false):=⟨sgn_abs _ _,by rw [sgn_neg];rfl⟩
  generalize sgn false Y=z2 at *
  have HNY:=Lib.hid hY
  clear HS2 hY hB
  rcases hcase with d1 | ⟨rfl,ad,v,rfl,hcv,hv1⟩
  all_goals
   go_wp2_with fail
   refine HS2'.out.mono ?_
   rintro e w9 ⟨A9,m9,c9,rfl,hd9,hb9⟩
   rw [HZ9.out.1] at hd9
   rw [HZ9.out.2]
   have HT9:=Lib.hid (rtext_any false Y A9 m9 c9 w9 hd9 (by intro h;cases h) (by rw [←hd9.len];have:=HYL.out;have:=HMQ.out;omega))
   go_wp2_with fail
   refine HT9.out.mono ?_
   rintro e w10 ⟨⟨s2,rfl,hs2⟩,hb10⟩
   have hsz2:s2.size≤4500003:=by
    have h9:s2.data.toList.length=s2.size:=Array.length_toList
    rw [hs2] at h9
    have h8:=sgnT_len false (Lib.decDigits Y)
    have:=HYL9.out
    omega
   have HR:Hid (((s++⟨#[47]⟩)++s2).data.toList=writeS ⟨decide (z<0),X,Y⟩):=by
    show ((s++⟨#[47]⟩)++s2).data.toList=_
    rw [writeS_eq,if_neg HNY.out,ByteArray.data_append,ByteArray.data_append,Array.toList_append,Array.toList_append,HSS.out,hs2,List.append_assoc]
    rfl
   clear hs2 hd9
   go_wp2
   go_ret
   exact ⟨⟨_,rfl,HR.out⟩,HBH.out.trans ((hb9.trans (hb10.mono hb9.size)).mono HBH.out.size)⟩
set_option maxHeartbeats 1000000 in
theorem rgcd_any (x y:Nat) (w:World) (hx:x≤4000000000000000000) (hy:y≤4000000000000000000) :
  Calls Tryz.prog 83 #[.int .i64 (x:Int),.int .i64 (y:Int)] w fun e w'=>e = .returned (.int .i64 ((Nat.gcd x y:Nat):Int))∧Below w.heap.size w w':=by
 go_enter Tryz.func83,Tryz.ntmps83
 go_wp2
 go_loopg [0,1] y (fun q v0 v1 W=>∃ u v:Nat,v0 = .int .i64 (u:Int)∧v1 = .int .i64 (v:Int)∧v≤q∧u≤4000000000000000000∧v≤4000000000000000000∧Hid (Nat.gcd u v=Nat.gcd x y)∧Below w.heap.size w W)
 case atStart=>exact ⟨x,y,rfl,rfl,Nat.le_refl _,hx,hy,rfl,Below.refl _ _⟩
 case round=>
  obtain ⟨u,v,rfl,rfl,hq,hu,hv,hg,hbel⟩:=hrel
  by_cases h0:v=0
  ·subst h0
   have hR:Nat.gcd x y=u:=by rw [←hg.out,Nat.gcd_zero_right]
   have HR:=Lib.hid hR
   clear hR hg
   go_wp2
   go_ret
   exact ⟨by rw [HR.out];rfl,hbel⟩
  ·have d1:decide (0<v)=true:=by simp;omega
   obtain ⟨r,hr⟩:∃ r,r=u % v:=⟨_,rfl⟩
   have hrv:r<v:=by rw [hr];exact Nat.mod_lt _ (by omega)
   have HG:Hid (Nat.gcd v r=Nat.gcd x y):=by
    show Nat.gcd v r=Nat.gcd x y
    rw [hr,←hg.out,Nat.gcd_comm v (u % v),←Nat.gcd_rec,Nat.gcd_comm]
   have z1:((v:Int)==0)=false:=by rw [beq_eq_false_iff_ne];omega
   have f1:Int.tmod (u:Int) (v:Int)=(r:Int):=by rw [Int.tmod_eq_emod_of_nonneg (by omega),←Int.natCast_emod,←hr]
   clear hr hg h0
   go_upto_region 2 with (fail)
   go_quiet (fail)
   clear f1
   go_wp2
   go_roundg r
   case measure=>omega
   case rel=>exact ⟨v,r,rfl,rfl,Nat.le_refl _,hv,by omega,HG.out,below_drewN hbel _⟩
set_option maxHeartbeats 4000000 in
set_option maxRecDepth 100000 in
theorem rOf_any (b:Bool) (x y:Nat) (w:World) (hx:x≤4000000000000000000) (hy:y≤4000000000000000000) (hy0:0<y) :
  Calls Tryz.prog 29 #[.int .i64 (sgn b x),.int .i64 (y:Int)] w fun e w'=>(∃ s:ByteArray,e = .returned (.string s)∧s.data.toList=writeS (fracQ (sgn b x) y))∧Below w.heap.size w w':=by
 rw [frac_eq b x y hy0]
 obtain ⟨g,hg⟩:∃ g,g=Nat.gcd x y:=⟨_,rfl⟩
 have hg0:0<g:=by rw [hg];exact Nat.gcd_pos_of_pos_right _ hy0
 have hgy:g≤y:=by rw [hg];exact Nat.gcd_le_right _ hy0
 have HC:=rgcd_any x y w hx hy
 rw [←hg] at HC ⊢
 obtain ⟨X,hX⟩:∃ X,X=x / g:=⟨_,rfl⟩
 obtain ⟨Y,hY⟩:∃ Y,Y=y / g:=⟨_,rfl⟩
 obtain ⟨z,hz⟩:∃ z,z=sgn b x:=⟨_,rfl⟩
 obtain ⟨z1,hz1⟩:∃ z1,z1=sgn b X:=⟨_,rfl⟩
 have hXx:X≤x:=by rw [hX];exact Nat.div_le_self _ _
 have hYy:Y≤y:=by rw [hY];exact Nat.div_le_self _ _
 have hY0:0<Y:=by rw [hY];exact Nat.div_pos hgy hg0
 have hzb:z=(x:Int)∨z = -(x:Int):=by rw [hz];unfold sgn;cases b<;>simp
 have hz1b:z1=(X:Int)∨z1 = -(X:Int):=by rw [hz1];unfold sgn;cases b<;>simp
 have f1:Int.tdiv z (g:Int)=z1:=by
  have h9:Int.tdiv (x:Int) (g:Int)=(X:Int):=by rw [Int.tdiv_eq_ediv_of_nonneg (by omega),←Int.natCast_ediv,←hX]
  rw [hz,hz1]
  unfold sgn
  cases b
  ·simp [h9]
  ·simp [Int.neg_tdiv,h9]
 have f2:Int.tdiv (y:Int) (g:Int)=(Y:Int):=by rw [Int.tdiv_eq_ediv_of_nonneg (by omega),←Int.natCast_ediv,←hY]
 have f3:IntKind.i64.wrap z1=z1:=IntWalk.i64_in _ (by omega)
 have f4:IntKind.i64.wrap (Y:Int)=(Y:Int):=IntWalk.i64_in _ (by omega)
 have f5:((g:Int)==0)=false:=by rw [beq_eq_false_iff_ne];omega
 rw [←hX,←hY,←hz,←hz1]
 have em:max z (-z)=(x:Int):=by omega
 have em1:max z1 (-z1)=(X:Int):=by omega
 have d1:decide (z < -4000000000000000000)=false:=by simp<;>omega
 have d2:decide (4000000000000000000<z)=false:=by simp<;>omega
 have d3:decide ((y:Int) < -4000000000000000000)=false:=by simp only [decide_eq_false_iff_not];omega
 have d4:decide ((4000000000000000000:Int)<(y:Int))=false:=by simp only [decide_eq_false_iff_not];omega
 have d5:decide ((y:Int)<0)=false:=by simp
 have hzB1 : -4000000000000000000≤z:=by omega
 have hzB2:z≤4000000000000000000:=by omega
 have hz1B1 : -4000000000000000000≤z1:=by omega
 have hz1B2:z1≤4000000000000000000:=by omega
 have hXb:X≤4000000000000000000:=by omega
 have hYb:Y≤4000000000000000000:=by omega
 have HCH:=Lib.hid HC
 clear HC hg hX hY hz hz1 hzb hz1b hgy
 have HD1:=Lib.hid (fun W=>rdecimal_any X 1 W (by omega) (by omega))
 have HD2:=Lib.hid (fun W=>rdecimal_any Y 1 W (by omega) (by omega))
 have hl1:(Lib.decDigits X).length≤19:=Dec.dec_length_le (by omega) (by have e:(10:Nat) ^ 19=10000000000000000000:=(by decide);omega)
 have hl2:(Lib.decDigits Y).length≤19:=Dec.dec_length_le (by omega) (by have e:(10:Nat) ^ 19=10000000000000000000:=(by decide);omega)
 have HL1:=Lib.hid hl1
 have HL2:=Lib.hid hl2
 clear hl1 hl2
 go_enter Tryz.func29,Tryz.ntmps29
 go_wp2_with fail
 refine HCH.out.mono ?_
 rintro e w1 ⟨rfl,hb1⟩
 clear em d1 d2 d3 d4 d5
 go_upto_region 6 with (fail)
 go_quiet (fail)
 clear f1 f2 f3 f4
 have hbq:=below_drewN hb1
 generalize hw2:w1.drewN _=w2 at *
 have hb2:Below w.heap.size w w2:=by rw [←hw2];exact hbq _
 clear hbq hw2 hb1
 have ed1:∀ s:ByteArray,s.data.toList=Lib.decDigits X→s.size≤19:=fun s hs=>by
  have h9:s.data.toList.length=s.size:=Array.length_toList
  rw [hs] at h9
  have:=HL1.out
  omega
 have ed2:∀ s:ByteArray,s.data.toList=Lib.decDigits Y→s.size≤19:=fun s hs=>by
  have h9:s.data.toList.length=s.size:=Array.length_toList
  rw [hs] at h9
  have:=HL2.out
  omega
 have ED1:=Lib.hid ed1
 have ED2:=Lib.hid ed2
 have EM1:=Lib.hid em1
 clear ed1 ed2
 by_cases hneg:z1<0
 case' pos=>have dn:decide (z1<0)=true:=by simpa using hneg
 case' neg=>have dn:decide (z1<0)=false:=by simpa using hneg
 case' pos=>obtain ⟨pr,hpr⟩:∃ pr:List UInt8,pr=[45]:=⟨_,rfl⟩
 case' neg=>obtain ⟨pr,hpr⟩:∃ pr:List UInt8,pr=[]:=⟨_,rfl⟩
 case' pos=>have hsg:Hid (∀ l,sgnT (decide (z1<0)) l=[45]++l):=fun l=>by rw [dn];rfl
 case' neg=>have hsg:Hid (∀ l,sgnT (decide (z1<0)) l=[]++l):=fun l=>by rw [dn];rfl
 all_goals
  go_wp2_with fail
  refine (HD1.out w2).mono ?_
  rintro e w3 ⟨⟨s,rfl,hs⟩,hw⟩
  obtain rfl:w2=w3:=hw
  rw [decK_one] at hs
  have hss:=ED1.out s hs
  have HS:=Lib.hid hs
  clear hs
  by_cases hY1:Y=1
  ·have dy:decide ((1:Int)<(Y:Int))=false:=by simp only [decide_eq_false_iff_not];omega
   have HY1:=Lib.hid hY1
   clear hY1
   have HR:Hid (∀ t:ByteArray,t.data.toList=pr++s.data.toList→t.data.toList=writeS ⟨decide (z1<0),X,Y⟩):=fun t ht=>by
    rw [writeS_eq,if_pos HY1.out,hsg.out,List.append_nil,ht,hpr,HS.out]
   have HPR:=Lib.hid hpr
   clear hpr
   go_wp2
   go_ret
   exact ⟨⟨_,rfl,HR.out _ (by rw [HPR.out];first | rfl | (rw [ByteArray.data_append,Array.toList_append];rfl))⟩,hb2⟩
  ·have dy:decide ((1:Int)<(Y:Int))=true:=by simp only [decide_eq_true_eq];omega
   have HY1:=Lib.hid hY1
   clear hY1
   have HPR:=Lib.hid hpr
   clear hpr
   go_wp2_with fail
   refine (HD2.out w2).mono ?_
   rintro e w3 ⟨⟨s2,rfl,hs2⟩,hw⟩
   obtain rfl:w2=w3:=hw
   rw [decK_one] at hs2
   have hss2:=ED2.out s2 hs2
   have HR:Hid (∀ t:ByteArray,t.data.toList=(pr++s.data.toList)++[47]++s2.data.toList→t.data.toList=writeS ⟨decide (z1<0),X,Y⟩):=fun t ht=>by
    rw [writeS_eq,if_neg HY1.out,hsg.out,ht,HPR.out,HS.out,hs2,List.append_assoc]
    rfl
   clear hs2
   go_wp2
   go_ret
   exact ⟨⟨_,rfl,HR.out _ (by rw [HPR.out];simp only [ByteArray.data_append,Array.toList_append])⟩,hb2⟩
def tailT (y:Nat):List UInt8:=if y=1 then [] else 47 :: Lib.decDigits y
def NumT (a:ByteArray) (b:Bool) (x y:Nat):Prop:=a.data.toList=sgnT b (Lib.decDigits x)++tailT y
def absT (a:ByteArray) (b:Bool):ByteArray:=if b then a.extract 1 a.size else a
theorem NumT.abs {a:ByteArray} {b:Bool} {x y:Nat} (h:NumT a b x y):(absT a b).data.toList=Lib.decDigits x++tailT y:=by
 unfold absT
 cases b
 ·exact h
 ·simp only [if_true]
  rw [ext_list,h]
  have hl:(sgnT true (Lib.decDigits x)++tailT y).length=a.size:=by rw [←h,Array.length_toList];rfl
  show List.take (a.size - 1) (Lib.decDigits x++tailT y)=_
  refine List.take_of_length_le ?_
  have:(sgnT true (Lib.decDigits x)++tailT y).length=(Lib.decDigits x++tailT y).length+1:=rfl
  omega
theorem absT_size (a:ByteArray) (b:Bool):(absT a b).size≤a.size:=by
 unfold absT
 cases b<;>simp
theorem NumT.head {a:ByteArray} {b:Bool} {x y:Nat} (h:NumT a b x y):∃ h:0<a.size,(((a[0]'h).toNat:Int)==45)=b:=by
 have hl:=congrArg List.length h
 rw [Array.length_toList,List.length_append] at hl
 have hd:=digits_dec x
 have hp:=Dec.dec_length_pos x
 cases b
 ·have hl2:a.data.size=(Lib.decDigits x).length+(tailT y).length:=hl
  have h0:0<a.size:=by show 0<a.data.size;omega
  refine ⟨h0,?_⟩
  have he:a[0]'h0=(Lib.decDigits x)[0]'hp:=by
   have:a[0]'h0=a.data.toList[0]'(by rw [Array.length_toList];exact h0):=rfl
   rw [this]
   have h':a.data.toList=Lib.decDigits x++tailT y:=h
   simp only [h']
   exact List.getElem_append_left hp
  have hm:=digit_mem hd (List.getElem_mem hp)
  rw [he,beq_eq_false_iff_ne]
  omega
 ·have hl2:a.data.size=(Lib.decDigits x).length+1+(tailT y).length:=hl
  have h0:0<a.size:=by show 0<a.data.size;omega
  refine ⟨h0,?_⟩
  have he:a[0]'h0=45:=by
   have:a[0]'h0=a.data.toList[0]'(by rw [Array.length_toList];exact h0):=rfl
   rw [this]
   have h':a.data.toList=45 :: (Lib.decDigits x++tailT y):=h
   simp only [h']
   rfl
  rw [he]
  decide
theorem dec_noslash (x:Nat):∀ c ∈ Lib.decDigits x,c≠47:=sgnT_slash (neg:=false) (digits_dec x)
theorem slashL_tail (l:List UInt8) (y:Nat) (h:∀ c ∈ l,c≠47):slashL (l++tailT y)=l.length:=by
 unfold tailT
 split
 ·rw [List.append_nil];exact slashL_none h
 ·exact slashL_some h
theorem cut_parts {t:ByteArray} {l:List UInt8} {y k:Nat} (h:t.data.toList=l++tailT y) (hk:k=l.length) :
  (t.extract 0 k).data.toList=l∧(y=1→t.size=k)∧(y≠1→k<t.size∧(t.extract (k+1) t.size).data.toList=Lib.decDigits y∧t.size=k+1+(Lib.decDigits y).length):=by
 subst hk
 have hl:t.size=l.length+(tailT y).length:=by
  have:=congrArg List.length h
  rw [Array.length_toList,List.length_append] at this
  exact this
 refine ⟨?_,fun hy => ?_,fun hy => ?_⟩
 ·rw [ext_list,h,List.drop_zero,Nat.sub_zero,List.take_left]
 ·rw [hl,hy];simp [tailT]
 ·have ht:tailT y=47 :: Lib.decDigits y:=by unfold tailT;rw [if_neg hy]
  rw [ht,List.length_cons] at hl
  refine ⟨by omega,?_,by omega⟩
  rw [ext_list,h,ht,←List.drop_drop,List.drop_left]
  simp only [List.drop_succ_cons,List.drop_zero]
  exact List.take_of_length_le (by omega)
def RetQ (w:World) (b:Bool) (x y:Nat) (e:Ending) (w':World):Prop:=
 w=w'∧(e = .returned (.tuple #[.int .i64 0,.int .i64 0,.bool false])∨(e = .returned (.tuple #[.int .i64 (sgn b x),.int .i64 (y:Int),.bool true])∧x<1000000000∧y<1000000000))
theorem RetQ.no (w:World) (b:Bool) (x y:Nat):RetQ w b x y (.returned (.tuple #[.int .i64 0,.int .i64 0,.bool false])) w:=⟨rfl,.inl rfl⟩
theorem dec_short {x:Nat} (h:(Lib.decDigits x).length≤9):x<1000000000:=by
 have h1:=decVal_lt _ (digits_dec x)
 rw [decVal_dec] at h1
 have h2:10 ^ (Lib.decDigits x).length≤10 ^ 9:=Nat.pow_le_pow_right (by omega) h
 have e:(10:Nat) ^ 9=1000000000:=by decide
 omega
set_option maxHeartbeats 4000000 in
set_option maxRecDepth 100000 in
theorem rquick_any (a:ByteArray) (b:Bool) (x y:Nat) (w:World) (h:NumT a b x y) (ha:a.size≤1000000) :
  Calls Tryz.prog 73 #[.string a] w (RetQ w b x y):=by
 by_cases h20:20<a.size
 ·have d1:decide ((20:Int)<(a.size:Int))=true:=by simp only [decide_eq_true_eq];omega
  have HR:=Lib.hid (RetQ.no w b x y)
  go_enter Tryz.func73,Tryz.ntmps73
  go_wp2
  go_ret3
  exact HR.out
 ·have d1:decide ((20:Int)<(a.size:Int))=false:=by simp only [decide_eq_false_iff_not];omega
  obtain ⟨h0,hhd⟩:=h.head
  have hab:=h.abs
  have hsz:=absT_size a b
  obtain ⟨c0,hc0⟩:∃ c0:Nat,(a[0]'h0).toNat=c0:=⟨_,rfl⟩
  rw [hc0] at hhd
  have d0:decide (0<a.size)=true:=by simpa using h0
  obtain ⟨k,hk⟩:∃ k,k=(Lib.decDigits x).length:=⟨_,rfl⟩
  obtain ⟨p1,p2,p3⟩:=cut_parts hab hk
  have hsl:slashL (absT a b).data.toList=k:=by rw [hab,slashL_tail _ _ (dec_noslash x),hk]
  have hkt:k≤(absT a b).size:=by
   by_cases hy:y=1
   ·rw [p2 hy];exact Nat.le_refl _
   ·exact Nat.le_of_lt (p3 hy).1
  obtain ⟨t,ht⟩:∃ t,t=absT a b:=⟨_,rfl⟩
  rw [←ht] at hab hsz p1 p2 p3 hsl hkt
  have hsla:=rslash_any t w (by omega)
  rw [hsl] at hsla
  have HSL:=Lib.hid hsla
  have HT:=Lib.hid ht
  have HK:=Lib.hid hk
  have P1:=Lib.hid p1
  have P2:=Lib.hid p2
  have P3:=Lib.hid p3
  have ht20:t.size≤20:=by omega
  have hs1:(1:Int)≤(a.size:Int):=by omega
  obtain ⟨m,hm⟩:∃ m,m=t.size - k:=⟨_,rfl⟩
  have em:(t.size:Int) - (k:Int)=(m:Int):=by omega
  have HM:=Lib.hid hm
  clear h hab hsla hsl ht hk p1 p2 p3 hm h20
  have hk1:1≤k:=by rw [HK.out];exact Dec.dec_length_pos x
  have hte:=HT.out
  unfold absT at hte
  clear HT
  cases b
  case' false=>simp only [Bool.false_eq_true,if_false] at hte
  case' true=>simp only [if_true] at hte
  case' false=>subst hte
  case' true=>have hte2:=hte.symm
  case' true=>clear hte
  all_goals
   go_enter Tryz.func73,Tryz.ntmps73
   go_wp2_with fail
   refine HSL.out.mono ?_
   rintro e w1 ⟨rfl,rfl⟩
   by_cases hbig:9<k∨10<m
   ·have hcase:(decide ((9:Int)<(k:Int))=true)∨(decide ((9:Int)<(k:Int))=false∧decide ((10:Int)<(m:Int))=true):=by
     simp only [decide_eq_true_eq,decide_eq_false_iff_not]
     omega
    have HR:=Lib.hid (fun b=>RetQ.no w b x y)
    clear hbig
    rcases hcase with d2 | ⟨d2,d3⟩
    all_goals
     go_wp2
     go_ret3
     exact HR.out _
   ·have d2:decide ((9:Int)<(k:Int))=false:=by simp only [decide_eq_false_iff_not];omega
    have d3:decide ((10:Int)<(m:Int))=false:=by simp only [decide_eq_false_iff_not];omega
    have hx9:x<1000000000:=dec_short (by rw [←HK.out];omega)
    have hd1:digits (t.extract 0 k).data.toList=true:=by rw [P1.out];exact digits_dec x
    have hv1:=rvalue_any (t.extract 0 k) w hd1 (by simp;omega)
    rw [P1.out,decVal_dec] at hv1
    have HV1:=Lib.hid hv1
    have HR:=Lib.hid (fun (b:Bool) (v:Int) (hv:v=sgn b x) (u:Nat) (hu:u=y) (hy9:y<1000000000)=>(show RetQ w b x y (.returned (.tuple #[.int .i64 v,.int .i64 (u:Int),.bool true])) w from ⟨rfl,.inr ⟨by rw [hv,hu],hx9,hy9⟩⟩))
    have hm10:m≤10:=by omega
    clear hd1 hv1 hbig
    go_wp2_with fail
    refine HV1.out.mono ?_
    rintro e w1 ⟨rfl,rfl⟩
    by_cases hy:y=1
    ·have h9:=P2.out hy
     have d4:decide (k<t.size)=false:=by simp only [decide_eq_false_iff_not];omega
     have HY:=Lib.hid hy
     clear hy h9
     go_wp2
     go_ret3
     exact HR.out _ _ (by simp [sgn]) 1 HY.out.symm (by rw [HY.out];decide)
    ·obtain ⟨q1,q2,q3⟩:=P3.out hy
     have d4:decide (k<t.size)=true:=by simpa using q1
     have hd2:digits (t.extract (k+1) t.size).data.toList=true:=by rw [q2];exact digits_dec y
     have hv2:=rvalue_any (t.extract (k+1) t.size) w hd2 (by simp;omega)
     rw [q2,decVal_dec] at hv2
     have HV2:=Lib.hid hv2
     have hy9:y<1000000000:=dec_short (by have:=HM.out;omega)
     have hkt1:k+1≤t.size:=q1
     clear q1 q2 q3 hd2 hv2 hy
     go_wp2_with fail
     refine HV2.out.mono ?_
     rintro e w1 ⟨rfl,rfl⟩
     go_wp2
     go_ret3
     exact HR.out _ _ (by simp [sgn]) y rfl hy9
end Go.Proofs.YteajibbphcfmeaaGreatDoor
