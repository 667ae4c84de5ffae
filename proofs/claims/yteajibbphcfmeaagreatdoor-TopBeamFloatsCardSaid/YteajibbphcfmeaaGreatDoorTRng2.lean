/- Plain facts: the words of rungs, what they read as, and their order. No program. -/
import Derived.Test.YteajibbphcfmeaaGreatDoorTBexp
import Derived.Test.YteajibbphcfmeaaGreatDoorTText
import Derived.Laws.FloatArith
import Derived.Laws.Cover2
import Derived.Test.YteajibbphcfmeaaGreatDoorTRow
import Derived.Test.YteajibbphcfmeaaGreatDoorTShelf
import Derived.Lib.IndexLaws
import Derived.Laws.RangeAny
namespace Go.Proofs.YteajibbphcfmeaaGreatDoor
open Go.RowKit Bn
open Flt
theorem word_read (s:Bool) {n:Nat} {e:Int} (h:Rnd n e) (hn:n<16777216) (hR:rung n e<2139095040):Ieee.single.read (Ieee.single.word s (rung n e)) = .number s n e:=by
 have hpl:=h.place
 have hlo:=h.lo
 unfold rung at *
 unfold Ieee.Format.read Ieee.Format.word
 rw [sgl_sign,sgl_binade,sgl_inf,sgl_least]
 generalize hRR:(e+149).toNat*8388608+n=R at *
 have e1:(if s=true then 2147483648+R else R) % 2147483648=R:=by split<;>omega
 have e2:((if s=true then 2147483648+R else R) / 2147483648 % 2==1)=s:=by
  cases s
  ·simp;omega
  ·simp;omega
 simp only [e1,e2]
 by_cases hs:R<8388608
 ·rw [if_pos hs]
  congr 1<;>omega
 ·rw [if_neg hs,if_pos hR]
  congr 1<;>omega
theorem key_word0 (s:Bool) {n:Nat} {e:Int} (h:Rnd n e) (hn:n<16777216) (hR:rung n e<2139095040) :
  fin Ieee.single (Ieee.single.word s (rung n e))=true∧key Ieee.single (Ieee.single.word s (rung n e))=(if s then -((n*2 ^ (e+149).toNat:Nat):Int) else ((n*2 ^ (e+149).toNat:Nat):Int)):=by
 have hr:=word_read s h hn hR
 refine ⟨fin_of_read hr,?_⟩
 unfold key
 rw [hr,sgl_least]
 simp only [Ieee.signed,Nat.shiftLeft_eq]
 rw [show (e - -149).toNat=(e+149).toNat from by omega]
theorem key_word (s:Bool) {n:Nat} {e:Int} (h:Rnd n e) (hR:rung n e<2139095040) :
  fin Ieee.single (Ieee.single.word s (rung n e))=true∧key Ieee.single (Ieee.single.word s (rung n e))=(if s then -((n*2 ^ (e+149).toNat:Nat):Int) else ((n*2 ^ (e+149).toNat:Nat):Int)):=by
 have hhi:=h.hi
 have hpl:=h.place
 by_cases hn:n<16777216
 ·exact key_word0 s h hn hR
 ·have h2:Rnd 8388608 (e+1):=⟨by omega,by omega,.inr (Nat.le_refl _)⟩
  have e1:rung n e=rung 8388608 (e+1):=by unfold rung;omega
  rw [e1] at hR ⊢
  have h3:=key_word0 s h2 (by omega) hR
  have e2:8388608*2 ^ (e+1+149).toNat=n*2 ^ (e+149).toNat:=by
   rw [show (e+1+149).toNat=(e+149).toNat+1 by omega,show (2:Nat) ^ ((e+149).toNat+1)=2 ^ (e+149).toNat*2 from Nat.pow_succ ..,show n=16777216 by omega]
   generalize 2 ^ (e+149).toNat=P
   omega
  rw [e2] at h3
  exact h3
end Go.Proofs.YteajibbphcfmeaaGreatDoor
namespace Go.Proofs.YteajibbphcfmeaaGreatDoor
open Go.RowKit
open Flt
theorem log24 {n:Nat} (h1:8388608≤n) (h2:n<16777216):n.log2=23:=by
 have e23:(2:Nat) ^ 23=8388608:=by decide
 have e24:(2:Nat) ^ 24=16777216:=by decide
 have a1:23≤n.log2:=(Nat.le_log2 (by omega)).2 (by omega)
 have a2:n.log2<24:=(Nat.log2_lt (by omega)).2 (by omega)
 omega
theorem read_two:Ieee.single.read 1073741824 = .number false 8388608 (-22):=by decide
theorem read_nul:Ieee.single.read 0 = .number false 0 (-149):=by decide
theorem rnd24 {n:Nat} {e:Int} (h1:8388608≤n) (h2:n<16777216) (he : -149≤e):Rnd n e:=⟨he,by omega,.inr h1⟩
theorem rung_fin {n:Nat} {e:Int} (h2:n<16777216) (he : -149≤e) (he2:e≤104):rung n e<2139095040:=by
 unfold rung
 have:(e+149).toNat≤253:=by omega
 omega
theorem write_rung (s:Bool) {n k:Nat} {p q:Int} (h1:8388608≤n) (h2:n<16777216) (hq:p+k=q) (he : -149≤q) (he2:q≤104):Ieee.single.write (.number s (n*2 ^ k) p)=Ieee.single.word s (rung n q):=
 sgl_down s (by omega) (log24 h1 h2) hq (by omega) (by have:=rung_fin h2 he he2;unfold rung at this;omega)
theorem half_word (s:Bool) {n:Nat} {e:Int} (h1:8388608≤n) (h2:n<16777216) (he : -148≤e) (he2:e≤104):floatBits .quo .f32 (Ieee.single.word s (rung n e)) 1073741824=some (Ieee.single.word s (rung n (e - 1))):=by
 show ((Ieee.single.read (Ieee.single.word s (rung n e))).quotient 25 (Ieee.single.read 1073741824)).map Ieee.single.write=_
 rw [word_read s (rnd24 h1 h2 (by omega)) h2 (rung_fin h2 (by omega) he2),read_two]
 have hl:(8388608:Nat).log2=23:=by decide
 have hq:(n <<< 25) / 8388608=n*4∧(n <<< 25) % 8388608=0:=by
  rw [Nat.shiftLeft_eq]
  have:(2:Nat) ^ 25=33554432:=by decide
  rw [this]
  omega
 show some (Ieee.single.write (.number (s ^^ false) (2*((n <<< (25+(8388608:Nat).log2 - n.log2)) / 8388608)+((n <<< (25+(8388608:Nat).log2 - n.log2)) % 8388608 != 0).toNat) (e - -22 - ((25+(8388608:Nat).log2 - n.log2:Nat):Int) - 1)))=_
 rw [hl,log24 h1 h2,show 25+23 - 23=25 from rfl,hq.1,hq.2]
 have e1:2*(n*4)+((0:Nat) != 0).toNat=n*2 ^ 3:=by
  have:((0:Nat) != 0).toNat=0:=rfl
  rw [this]
  have:(2:Nat) ^ 3=8:=by decide
  omega
 rw [e1,Bool.xor_false,write_rung s h1 h2 (k:=3) (q:=e - 1) (by omega) (by omega) (by omega)]
theorem twice_word (s:Bool) {n:Nat} {e:Int} (h1:8388608≤n) (h2:n<16777216) (he : -149≤e) (he2:e≤103):floatBits .mul .f32 (Ieee.single.word s (rung n e)) 1073741824=some (Ieee.single.word s (rung n (e+1))):=by
 show ((Ieee.single.read (Ieee.single.word s (rung n e))).product (Ieee.single.read 1073741824)).map Ieee.single.write=_
 rw [word_read s (rnd24 h1 h2 (by omega)) h2 (rung_fin h2 (by omega) (by omega)),read_two]
 show some (Ieee.single.write (.number (s ^^ false) (n*8388608) (e + -22)))=_
 have e1:n*8388608=n*2 ^ 23:=by
  have:(2:Nat) ^ 23=8388608:=by decide
  rw [this]
 rw [e1,Bool.xor_false,write_rung s h1 h2 (k:=23) (q:=e+1) (by omega) (by omega) (by omega)]
structure Ps (f n:Nat) (e:Int):Prop where
 rd:Ieee.single.read f = .number false n e
 hi:n<16777216
 lo : -149≤e
 top:e≤104
 can:e = -149∨8388608≤n
theorem sgl_canon {b m:Nat} {s:Bool} {p:Int} (h:Ieee.single.read b = .number s m p):p = -149∨8388608≤m:=by
 unfold Ieee.Format.read at h
 rw [sgl_sign,sgl_binade,sgl_inf,sgl_least] at h
 dsimp only at h
 generalize hr:b % 2147483648=r at h
 by_cases h1:r<8388608
 ·rw [if_pos h1] at h
  injection h with _ h2 h3
  exact .inl (by omega)
 ·rw [if_neg h1] at h
  by_cases h2:r<2139095040
  ·rw [if_pos h2] at h
   injection h with _ h3 h4
   exact .inr (by omega)
  ·rw [if_neg h2] at h
   split at h<;>cases h
theorem Ps.of {f n:Nat} {e:Int} (h:Ieee.single.read f = .number false n e):Ps f n e:=by
 obtain ⟨h1,h2,h3⟩:=sgl_fin h
 exact ⟨h,h1,h2,h3,sgl_canon h⟩
theorem Ps.rnd {f n:Nat} {e:Int} (h:Ps f n e):Rnd n e:=⟨h.lo,Nat.le_of_lt h.hi,h.can⟩
theorem Ps.wd {n:Nat} {e:Int} (h:Rnd n e) (h2:n<16777216) (he2:e≤104):Ps (Ieee.single.word false (rung n e)) n e:=
 ⟨word_read false h h2 (rung_fin h2 h.place he2),h2,h.place,he2,h.lo⟩
theorem Ps.key {f n:Nat} {e:Int} (h:Ps f n e):fin Ieee.single f=true∧key Ieee.single f=((n*2 ^ (e+149).toNat:Nat):Int):=by
 refine ⟨fin_of_read h.rd,?_⟩
 unfold Flt.key
 rw [h.rd,sgl_least]
 simp only [Ieee.signed,Nat.shiftLeft_eq]
 rw [show (e - -149).toNat=(e+149).toNat from by omega]
 rfl
theorem Ps.ge24 {f n:Nat} {e:Int} (h:Ps f n e):(FloatKind.f32.format.order f 1266679808==some .gt || FloatKind.f32.format.order f 1266679808==some .eq)=decide (1≤e):=by
 have r24:Ieee.single.read 1266679808 = .number false 8388608 1:=by decide +kernel
 have p24:=Ps.of r24
 have k24:=p24.key
 obtain ⟨f1,k1⟩:=h.key
 obtain ⟨f2,k2⟩:=k24
 show (Ieee.single.order f 1266679808==some .gt || Ieee.single.order f 1266679808==some .eq)=_
 rw [order_fin f1 f2,k1,k2]
 have e150:((1:Int)+149).toNat=150:=by decide
 rw [e150]
 have hn:=h.hi
 have hc:=h.can
 by_cases he:1≤e
 ·rw [decide_eq_true he]
  have h1:8388608≤n:=by omega
  have h2:8388608*2 ^ 150≤n*2 ^ (e+149).toNat:=Nat.mul_le_mul h1 (Nat.pow_le_pow_right (by omega) (by omega))
  generalize n*2 ^ (e+149).toNat=X at *
  generalize 8388608*2 ^ 150=Y at *
  rcases Nat.lt_or_ge Y X with h3 | h3
  ·rw [cmp_gt (by omega)];rfl
  ·rw [show (X:Int)=(Y:Int) by omega,cmp_eq];rfl
 ·rw [decide_eq_false he]
  have h2:n*2 ^ (e+149).toNat<8388608*2 ^ 150:=by
   have h3:n*2 ^ (e+149).toNat≤n*2 ^ 149:=Nat.mul_le_mul_left _ (Nat.pow_le_pow_right (by omega) (by omega))
   have h4:(2:Nat) ^ 150=2 ^ 149*2:=Nat.pow_succ ..
   have h5:0<(2:Nat) ^ 149:=Nat.two_pow_pos _
   rw [h4]
   generalize (2:Nat) ^ 149=T at *
   have h6:n*T<16777216*T:=Nat.mul_lt_mul_of_pos_right hn h5
   omega
  generalize n*2 ^ (e+149).toNat=X at *
  generalize 8388608*2 ^ 150=Y at *
  rw [cmp_lt (by omega)]
  rfl
theorem Ps.half {f n:Nat} {e:Int} (h:Ps f n e) (he:1≤e):∃ r,floatBits .quo .f32 f 1073741824=some r∧Ps r n (e - 1):=by
 have h1:8388608≤n:=by have:=h.can;omega
 have hw:=half_word false h1 h.hi (show -148≤e by omega) h.top
 refine ⟨_,?_,Ps.wd (rnd24 h1 h.hi (by omega)) h.hi (by have:=h.top;omega)⟩
 rw [←hw]
 show ((Ieee.single.read f).quotient 25 (Ieee.single.read 1073741824)).map Ieee.single.write=((Ieee.single.read (Ieee.single.word false (rung n e))).quotient 25 (Ieee.single.read 1073741824)).map Ieee.single.write
 rw [h.rd,word_read false h.rnd h.hi (rung_fin h.hi h.lo h.top)]
theorem Ps.twice {f n:Nat} {e:Int} (h:Ps f n e) (h0:0<n) (he:e≤0):∃ r n' e',floatBits .mul .f32 f 1073741824=some r∧Ps r n' e'∧n'*2 ^ (e'+149).toNat=2*(n*2 ^ (e+149).toNat)∧(e'=e+1∨e'=e):=by
 have hlo:=h.lo
 by_cases h1:8388608≤n
 ·have hw:=twice_word false h1 h.hi h.lo (show e≤103 by omega)
  refine ⟨_,n,e+1,?_,Ps.wd (rnd24 h1 h.hi (by omega)) h.hi (by omega),?_,.inl rfl⟩
  ·rw [←hw]
   show ((Ieee.single.read f).product (Ieee.single.read 1073741824)).map Ieee.single.write=((Ieee.single.read (Ieee.single.word false (rung n e))).product (Ieee.single.read 1073741824)).map Ieee.single.write
   rw [h.rd,word_read false h.rnd h.hi (rung_fin h.hi h.lo h.top)]
  ·rw [show (e+1+149).toNat=(e+149).toNat+1 by omega,Nat.pow_succ]
   generalize 2 ^ (e+149).toNat=T
   rw [←Nat.mul_assoc,Nat.mul_comm]
 ·have he2:e = -149:=by have:=h.can;omega
  subst he2
  have hr:Rnd (2*n) (-149):=⟨by omega,by omega,.inl rfl⟩
  refine ⟨_,2*n, -149,?_,Ps.wd hr (by omega) (by omega),?_,.inr rfl⟩
  ·show ((Ieee.single.read f).product (Ieee.single.read 1073741824)).map Ieee.single.write=some (Ieee.single.word false (rung (2*n) (-149)))
   rw [h.rd,read_two]
   show some (Ieee.single.write (.number (false ^^ false) (n*8388608) (-149 + -22)))=_
   have e1:n*8388608=(2*n)*2 ^ 22:=by
    have:(2:Nat) ^ 22=4194304:=by decide
    omega
   have hl:(2*n).log2≤23:=by
    have e24:(2:Nat) ^ 24=16777216:=by decide
    have:=(Nat.log2_lt (n:=2*n) (k:=24) (by omega)).2 (by omega)
    omega
   rw [e1,Bool.xor_false,sgl_down false (q := -149) (by omega) rfl (by omega) (by omega) (by omega)]
   rfl
  ·rw [Nat.mul_assoc]
theorem cut_zero (n drop:Nat):Ieee.Toward.cut .zero false n drop=n / 2 ^ drop:=by
 show n / (1 <<< min drop (n.log2+2))+0=_
 rw [Nat.shiftLeft_eq,Nat.one_mul,Nat.add_zero]
 by_cases h:drop≤n.log2+2
 ·rw [Nat.min_eq_left h]
 ·rw [Nat.min_eq_right (by omega)]
  have h1:n<2 ^ (n.log2+1):=Nat.lt_log2_self
  have h2:(2:Nat) ^ (n.log2+1)≤2 ^ (n.log2+2):=Nat.pow_le_pow_right (by omega) (by omega)
  have h3:(2:Nat) ^ (n.log2+1)≤2 ^ drop:=Nat.pow_le_pow_right (by omega) (by omega)
  rw [Nat.div_eq_of_lt (by omega),Nat.div_eq_of_lt (by omega)]
theorem Ps.int {f n:Nat} {e:Int} (h:Ps f n e) (he:e≤0):floatToIntVal .f32 f .i64=some ((n / 2 ^ (-e).toNat:Nat):Int):=by
 have hd:FloatKind.f32.decode f = .number false n e:=h.rd
 have hle:n / 2 ^ (-e).toNat≤n:=Nat.div_le_self _ _
 have hhi:=h.hi
 unfold floatToIntVal
 rw [hd]
 have e1:(Ieee.Datum.number false n e).toInt .zero=some ((n / 2 ^ (-e).toNat:Nat):Int):=by
  show some (Ieee.signed false (Ieee.Toward.cut .zero false (n <<< e.toNat) (-e).toNat) 0)=_
  rw [show e.toNat=0 by omega,Nat.shiftLeft_zero,cut_zero]
  unfold Ieee.signed
  rw [Nat.shiftLeft_zero]
  rfl
 rw [e1]
 generalize n / 2 ^ (-e).toNat=m at *
 show (if IntKind.i64.min≤(m:Int)∧(m:Int)≤IntKind.i64.max then some (m:Int) else none)=_
 have a1:IntKind.i64.min = -9223372036854775808:=by decide
 have a2:IntKind.i64.max=9223372036854775807:=by decide
 rw [a1,a2,if_pos (by omega)]
theorem whole_key (m:Nat) (h:m<16777216):fin Ieee.single (floatOfInt .f32 (m:Int))=true∧key Ieee.single (floatOfInt .f32 (m:Int))=((m*2 ^ 149:Nat):Int):=by
 rcases Nat.eq_zero_or_pos m with rfl | h0
 ·exact ⟨by decide +kernel,by decide +kernel⟩
 ·have e24:(2:Nat) ^ 24=16777216:=by decide
  have hl:m.log2<24:=(Nat.log2_lt (by omega)).2 (by omega)
  have hw:floatOfInt .f32 (m:Int)=Ieee.single.word false (rung (m*2 ^ (23 - m.log2)) (-((23 - m.log2:Nat):Int))):=by
   show Ieee.single.write (.number (decide ((m:Int)<0)) (m:Int).natAbs 0)=_
   rw [show decide ((m:Int)<0)=false by simp,Int.natAbs_natCast]
   show Ieee.single.nearest false m 0=_
   have hm1:m<2 ^ (m.log2+1):=Nat.lt_log2_self
   have hm2:m*2 ^ (23 - m.log2)<16777216:=by
    have h9:2 ^ (m.log2+1)*2 ^ (23 - m.log2)=2 ^ 24:=by rw [←Nat.pow_add];congr 1;omega
    have h8:m*2 ^ (23 - m.log2)<2 ^ (m.log2+1)*2 ^ (23 - m.log2):=Nat.mul_lt_mul_of_pos_right hm1 (Nat.two_pow_pos _)
    omega
   rw [nearest_up Ieee.single false m (23 - m.log2) 0 h0 (by rw [sgl_least];show max ((0:Int)+(m.log2:Int) - ((23:Nat):Int)) (-149)=_;omega) (by
    rw [sgl_least,sgl_binade,sgl_inf]
    have:(0 - ((23 - m.log2:Nat):Int) - -149).toNat≤149:=by omega
    omega)]
   rw [sgl_least,sgl_binade]
   unfold rung
   rw [show (0 - ((23 - m.log2:Nat):Int) - -149).toNat=(-((23 - m.log2:Nat):Int)+149).toNat by omega]
  have hm1:2 ^ m.log2≤m:=Nat.log2_self_le (by omega)
  have hm3:m<2 ^ (m.log2+1):=Nat.lt_log2_self
  have g1:2 ^ m.log2*2 ^ (23 - m.log2)=8388608:=by
   rw [←Nat.pow_add,show m.log2+(23 - m.log2)=23 by omega]
  have g2:2 ^ (m.log2+1)*2 ^ (23 - m.log2)=16777216:=by
   rw [←Nat.pow_add,show m.log2+1+(23 - m.log2)=24 by omega]
  have g3:8388608≤m*2 ^ (23 - m.log2):=by rw [←g1];exact Nat.mul_le_mul_right _ hm1
  have g4:m*2 ^ (23 - m.log2)<16777216:=by rw [←g2];exact Nat.mul_lt_mul_of_pos_right hm3 (Nat.two_pow_pos _)
  obtain ⟨k1,k2⟩:=(Ps.wd (rnd24 g3 g4 (e := -((23 - m.log2:Nat):Int)) (by omega)) g4 (by omega)).key
  rw [hw]
  refine ⟨k1,k2.trans ?_⟩
  rw [Nat.mul_assoc,←Nat.pow_add,show (23 - m.log2)+(-((23 - m.log2:Nat):Int)+149).toNat=149 by omega]
theorem Ps.whole {f n:Nat} {e:Int} (h:Ps f n e) (he:e≤0) (m:Nat) (hm:m=n / 2 ^ (-e).toNat) :
  (FloatKind.f32.format.order f (floatOfInt .f32 (m:Int)) != some .eq) = !decide (m*2 ^ 149=n*2 ^ (e+149).toNat):=by
 have hhi:=h.hi
 have hml:m<16777216:=by
  have:n / 2 ^ (-e).toNat≤n:=Nat.div_le_self _ _
  omega
 obtain ⟨f2,k2⟩:=whole_key m hml
 obtain ⟨f1,k1⟩:=h.key
 show (Ieee.single.order f (floatOfInt .f32 (m:Int)) != some .eq)=_
 rw [order_fin f1 f2,k1,k2]
 generalize n*2 ^ (e+149).toNat=X at *
 generalize m*2 ^ 149=Y at *
 rcases Nat.lt_trichotomy X Y with h1 | h1 | h1
 ·rw [cmp_lt (by omega),decide_eq_false (by omega)];rfl
 ·rw [h1,cmp_eq,decide_eq_true rfl];rfl
 ·rw [cmp_gt (by omega),decide_eq_false (by omega)];rfl
theorem Ps.not_whole {f n:Nat} {e:Int} (h:Ps f n e) (he:e≤0) (hw:n / 2 ^ (-e).toNat*2 ^ 149≠n*2 ^ (e+149).toNat):0<n∧e<0∧¬ 2 ^ 149 ∣ n*2 ^ (e+149).toNat:=by
 have hlo:=h.lo
 refine ⟨?_,?_,?_⟩
 ·rcases Nat.eq_zero_or_pos n with rfl | h0
  ·exact absurd (by simp) hw
  ·exact h0
 ·rcases Int.lt_or_eq_of_le he with h1 | rfl
  ·exact h1
  ·exact absurd (by simp) hw
 ·rintro ⟨c,hc⟩
  obtain ⟨j,hj⟩:∃ j,j=(-e).toNat:=⟨_,rfl⟩
  have e2:(2:Nat) ^ 149=2 ^ (e+149).toNat*2 ^ j:=by rw [←Nat.pow_add];congr 1;omega
  rw [←hj] at hw
  rw [e2] at hc hw
  have hp:0<2 ^ (e+149).toNat:=Nat.two_pow_pos _
  have hp2:0<2 ^ j:=Nat.two_pow_pos _
  generalize 2 ^ (e+149).toNat=P at *
  generalize 2 ^ j=R at *
  have h3:n=R*c:=by
   have:n*P=(R*c)*P:=by rw [hc];grind
   exact Nat.eq_of_mul_eq_mul_right hp this
  rw [h3,Nat.mul_div_cancel_left _ hp2] at hw
  exact hw (by grind)
end Go.Proofs.YteajibbphcfmeaaGreatDoor
namespace Go.Proofs.YteajibbphcfmeaaGreatDoor
open Go.RowKit
def cutL (l:List UInt8):List UInt8 × List UInt8 × Bool:=
 if 0≤Lib.indexByte l 47 then (l.take (Lib.indexByte l 47).toNat,l.drop ((Lib.indexByte l 47).toNat+1),true) else (l,[],false)
theorem indexByte_lt (l:List UInt8) (c:UInt8):Lib.indexByte l c<l.length∨Lib.indexByte l c = -1:=by
 by_cases h:Lib.indexByte l c<0
 ·have:=Lib.indexByte_ge l c;omega
 ·obtain ⟨o,ho⟩:=Int.eq_ofNat_of_zero_le (Int.not_lt.1 h)
  have:=(Lib.indexByte_some ho).1
  have h2:o<l.length:=by
   rcases Nat.lt_or_ge o l.length with h3 | h3
   ·exact h3
   ·rw [List.getElem?_eq_none h3] at this;cases this
  omega
set_option maxHeartbeats 1000000 in
set_option maxRecDepth 100000 in
theorem index_slash (s:ByteArray) (w:World) :
  Calls Tryz.prog 197 #[.string s,.string { data:=#[47] }] w fun e w'=>e = .returned (.int .i64 (Lib.indexByte s.data.toList 47))∧w=w':=by
 have h:=fun W:World=>Tryz.stringslite_IndexByte s 47 W
 have e47:(47:Int).toNat.toUInt8=47:=by decide
 rw [e47] at h
 clear e47
 by_cases hs:s.data.toList=[47]
 ·have hb:([47]==s.toList)=true:=by
   have:s.toList=s.data.toList:=ByteArray.toList_eq s
   rw [this,hs];rfl
  have hv:Hid (Lib.indexByte s.data.toList 47=0):=by unfold Hid;rw [hs];rfl
  clear hs h
  go_enter Tryz.func197,Tryz.ntmps197
  go_wp2
  go_ret
  exact ⟨by rw [hv.out];rfl,rfl⟩
 ·have hb:([47]==s.toList)=false:=by
   have:s.toList=s.data.toList:=ByteArray.toList_eq s
   rw [this]
   exact beq_eq_false_iff_ne.2 fun e=>hs e.symm
  clear hs
  generalize Lib.indexByte s.data.toList 47=i at h ⊢
  go_enter Tryz.func197,Tryz.ntmps197
  go_wp2_with fail
  refine (h _).mono ?_
  rintro e w1 ⟨rfl,hw⟩
  subst hw
  go_wp2
  go_ret
  exact ⟨rfl,rfl⟩
set_option maxHeartbeats 1000000 in
set_option maxRecDepth 100000 in
theorem slcut_slash (s:ByteArray) (w:World) (hs:s.size≤4294967296) :
  Calls Tryz.prog 170 #[.string s,.string { data:=#[47] }] w fun e w'=>(∃ a b:ByteArray,e = .returned (.tuple #[.string a,.string b,.bool (cutL s.data.toList).2.2])∧a.data.toList=(cutL s.data.toList).1∧b.data.toList=(cutL s.data.toList).2.1)∧∃ n,w'=w.drewN n:=by
 obtain ⟨i,hi⟩:∃ i,i=Lib.indexByte s.data.toList 47:=⟨_,rfl⟩
 have hc:=fun W:World=>index_slash s W
 rw [←hi] at hc
 have hsz:s.data.toList.length=s.size:=by simp
 have hlt:=indexByte_lt s.data.toList 47
 rw [←hi,hsz] at hlt
 go_enter Tryz.func170,Tryz.ntmps170
 by_cases h0:i<0
 ·have hcut:Hid (cutL s.data.toList=(s.data.toList,[],false)):=by unfold Hid cutL;rw [←hi,if_neg (by omega)]
  clear hi hlt hsz
  go_wp2_with fail
  refine (hc _).mono ?_
  rintro e w1 ⟨rfl,rfl⟩
  go_wp2
  go_ret3
  exact ⟨⟨s,⟨#[]⟩,by rw [hcut.out];rfl,by rw [hcut.out],by rw [hcut.out]⟩,0,rfl⟩
 ·obtain ⟨k,rfl⟩:=Int.eq_ofNat_of_zero_le (Int.not_lt.1 h0)
  have hk:k<s.size:=by omega
  have hcut:Hid (cutL s.data.toList=(s.data.toList.take k,s.data.toList.drop (k+1),true)):=by unfold Hid cutL;rw [←hi,if_pos (by omega)];simp
  clear hi hlt hsz
  have a1:IntKind.i64.wrap ((k:Int)+1)=(k:Int)+1:=IntWalk.i64_in _ (by omega)
  have a2:((k:Int)+1).toNat=k+1:=by omega
  go_wp2_with fail
  refine (hc _).mono ?_
  rintro e w1 ⟨rfl,rfl⟩
  go_wp2_with fail
  go_quiet (fail)
  go_wp2
  go_ret3
  refine ⟨⟨s.extract 0 k,s.extract (k+1) s.size,by rw [hcut.out];rfl,?_,?_⟩,nq,rfl⟩
  ·rw [hcut.out,Lib.extract_data];simp
  ·rw [hcut.out,Lib.extract_data];exact List.take_of_length_le (by simp)
set_option maxHeartbeats 1000000 in
theorem cut_slash (s:ByteArray) (w:World) (hs:s.size≤4294967296) :
  Calls Tryz.prog 122 #[.string s,.string { data:=#[47] }] w fun e w'=>(∃ a b:ByteArray,e = .returned (.tuple #[.string a,.string b,.bool (cutL s.data.toList).2.2])∧a.data.toList=(cutL s.data.toList).1∧b.data.toList=(cutL s.data.toList).2.1)∧∃ n,w'=w.drewN n:=by
 have hc:=slcut_slash s w hs
 generalize cutL s.data.toList=C at hc ⊢
 obtain ⟨c1,c2,c3⟩:=C
 go_enter Tryz.func122,Tryz.ntmps122
 go_wp2_with fail
 refine hc.mono ?_
 rintro e w1 ⟨⟨a,b,rfl,h1,h2⟩,n,rfl⟩
 go_wp2
 go_ret3
 exact ⟨⟨a,b,rfl,h1,h2⟩,n,rfl⟩
def digB (c:Int):Bool:=decide (48≤c) && decide (c≤57)
theorem isDigit_any (c:Int) (w:World) :
  Calls Tryz.prog 81 #[.int .i32 c] w fun e w'=>e = .returned (.bool (digB c))∧w=w':=by
 by_cases h1:48≤c
 ·have d1:decide (48≤c)=true:=by simpa using h1
  obtain ⟨b,hb⟩:∃ b,decide (c≤57)=b:=⟨_,rfl⟩
  have HV:Hid (digB c=b):=by unfold Hid digB;rw [d1,hb,Bool.true_and]
  go_enter Tryz.func81,Tryz.ntmps81
  go_wp2
  go_ret
  exact ⟨by rw [HV.out];rfl,rfl⟩
 ·have d1:decide (48≤c)=false:=by simpa using h1
  have HV:Hid (digB c=false):=by unfold Hid digB;rw [d1,Bool.false_and]
  go_enter Tryz.func81,Tryz.ntmps81
  go_wp2
  go_ret
  exact ⟨by rw [HV.out];rfl,rfl⟩
def digits (l:List UInt8):Bool:=l.all fun c=>digB (c.toNat:Int)
def isDec (l:List UInt8):Bool:=digits l && (decide (l=[48]) || (decide (l≠[]) && decide (l.head? ≠ some 48)))
theorem width_pos (s:ByteArray) (pos:Nat) (h:pos<s.size):1≤(Utf8.decode s pos).2:=by
 by_cases ha:(s[pos]'h).toNat<128
 ·rw [decode_ascii s pos h ha]
  exact Nat.le_refl _
 ·exact (decode_high s pos h (by omega)).2
theorem digits_split (s:ByteArray) (pos:Nat) (h:pos<s.size):digits (s.data.toList.drop pos)=(digB ((s[pos]'h).toNat:Int) && digits (s.data.toList.drop (pos+1))):=by
 have hl:pos<s.data.toList.length:=by simpa using h
 rw [List.drop_eq_getElem_cons hl]
 rfl
theorem digB_high (c:Int) (h:128≤c):digB c=false:=by
 unfold digB
 have:decide (c≤57)=false:=by simp;omega
 rw [this,Bool.and_false]
set_option maxHeartbeats 1000000 in
set_option maxRecDepth 100000 in
theorem isDecimal_any (s:ByteArray) (w:World) :
  Calls Tryz.prog 124 #[.string s] w fun e w'=>e = .returned (.bool (isDec s.data.toList))∧Below w.heap.size w w':=by
 go_enter Tryz.func124,Tryz.ntmps124
 go_wp2
 go_loopw [] (fun wr=>∃ pos,wr=w.iter s pos∧pos≤s.size∧Hid (digits s.data.toList=digits (s.data.toList.drop pos))) (fun wr=>s.size - wr.iterPos w.heap.size)
 case atStart=>exact ⟨0,rfl,Nat.zero_le _,rfl⟩
 case round=>
  obtain ⟨pos,rfl,hps,hd⟩:=hrel
  by_cases hp:pos<s.size
  ·have hsp:=digits_split s pos hp
   by_cases ha:(s[pos]'hp).toNat<128
   ·have hnx:∀ ty,(Instr.next (.pointer (some ⟨w.heap.size,0,none⟩)) true ty).run Tryz.prog (w.iter s pos)=_:=fun ty=>run_next_ascii w s pos ty hp ha
    obtain ⟨c,hc⟩:∃ c:Nat,(s[pos]'hp).toNat=c:=⟨_,rfl⟩
    rw [hc] at hsp ha
    simp only [hc] at hnx
    have hcall:=isDigit_any (c:Int) (w.iter s (pos+1))
    cases hdg:digB (c:Int)
    ·rw [hdg] at hcall hsp
     have HV:Hid (isDec s.data.toList=false):=by rw [Hid,isDec,hd.out,hsp];rfl
     clear hsp hc hdg
     go_wp2_with fail
     refine hcall.mono ?_
     rintro e w1 ⟨rfl,rfl⟩
     go_wp2_with fail
     go_ret
     exact ⟨by rw [HV.out];rfl,(Below.refl _ _).alloc (Nat.le_refl _) _⟩
    ·rw [hdg] at hcall hsp
     have HV:Hid (digits s.data.toList=digits (s.data.toList.drop (pos+1))):=by rw [Hid,hd.out,hsp];rfl
     clear hsp hc hdg
     go_wp2_with fail
     refine hcall.mono ?_
     rintro e w1 ⟨rfl,rfl⟩
     go_wp2_with fail
     go_roundw
     case rel=>exact ⟨pos+1,rfl,hp,HV⟩
     case measure=>simp;omega
   ·have hnx:∀ ty,(Instr.next (.pointer (some ⟨w.heap.size,0,none⟩)) true ty).run Tryz.prog (w.iter s pos)=_:=fun ty=>run_next_any w s pos ty hp
    have hdh:=(decode_high s pos hp (by omega)).1
    obtain ⟨c,hc⟩:∃ c,(Utf8.decode s pos).1=c:=⟨_,rfl⟩
    obtain ⟨p2,hp2⟩:∃ p2,pos+(Utf8.decode s pos).2=p2:=⟨_,rfl⟩
    simp only [hc,hp2] at hnx
    rw [hc] at hdh
    have hcall:=isDigit_any (c:Int) (w.iter s p2)
    rw [digB_high (c:Int) (by omega)] at hcall
    rw [digB_high _ (show (128:Int)≤((s[pos]'hp).toNat:Int) by omega)] at hsp
    have HV:Hid (isDec s.data.toList=false):=by rw [Hid,isDec,hd.out,hsp];rfl
    clear hsp hc hp2 ha
    go_wp2_with fail
    refine hcall.mono ?_
    rintro e w1 ⟨rfl,rfl⟩
    go_wp2_with fail
    go_ret
    exact ⟨by rw [HV.out];rfl,(Below.refl _ _).alloc (Nat.le_refl _) _⟩
  ·have hnx:∀ ty,(Instr.next (.pointer (some ⟨w.heap.size,0,none⟩)) true ty).run Tryz.prog (w.iter s pos)=_:=fun ty=>run_next_end w s pos ty hp
   have HD:Hid (digits s.data.toList=true):=by rw [Hid,hd.out,List.drop_of_length_le (by simpa using hp)];rfl
   by_cases hA:s.toList=[48]
   ·have HV:Hid (isDec s.data.toList=true):=by rw [Hid,isDec,HD.out,←ByteArray.toList_eq,hA];rfl
    go_wp2
    go_ret
    exact ⟨by rw [HV.out];rfl,(Below.refl _ _).alloc (Nat.le_refl _) _⟩
   ·by_cases hB:s.toList=[]
    ·have HV:Hid (isDec s.data.toList=false):=by rw [Hid,isDec,HD.out,←ByteArray.toList_eq,hB];rfl
     go_wp2
     go_ret
     exact ⟨by rw [HV.out];rfl,(Below.refl _ _).alloc (Nat.le_refl _) _⟩
    ·have hz:0<s.size:=by
      rcases Nat.eq_zero_or_pos s.size with h | h
      ·exfalso
       apply hB
       rw [ByteArray.toList_eq]
       exact List.eq_nil_of_length_eq_zero (by simpa using h)
      ·exact h
     have hne:s.toList.isEmpty=false:=by
      cases h:s.toList with
      | nil=>exact absurd h hB
      | cons _ _=>rfl
     have hA2:(s.toList==[48])=false:=by simpa using hA
     obtain ⟨b,hb⟩:∃ b,((((s[0]'hz).toNat:Nat):Int) != 48)=b:=⟨_,rfl⟩
     have HV:Hid (isDec s.data.toList=b):=by
      rw [Hid,isDec,HD.out,←hb]
      have e:s.data.toList.head? = some (s[0]'hz):=by
       have hl:0<s.data.toList.length:=by simpa using hz
       rw [List.head?_eq_getElem?,List.getElem?_eq_getElem hl]
       rfl
      rw [←ByteArray.toList_eq] at e ⊢
      rw [e]
      rw [Bool.eq_iff_iff]
      simp [hA,hB]
      rw [←UInt8.toNat_inj]
      simp
      omega
     go_wp2
     go_ret
     exact ⟨by rw [HV.out];rfl,(Below.refl _ _).alloc (Nat.le_refl _) _⟩
end Go.Proofs.YteajibbphcfmeaaGreatDoor
