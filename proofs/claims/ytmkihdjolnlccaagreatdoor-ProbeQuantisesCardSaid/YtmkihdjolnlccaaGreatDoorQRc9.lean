/- The law of calibrations for every input. -/
import Derived.Test.YtmkihdjolnlccaaGreatDoorQCdm3
import Derived.Test.YtmkihdjolnlccaaGreatDoorQRc8
import Derived.Test.YtmkihdjolnlccaaGreatDoorQAwj
import Derived.Test.YtmkihdjolnlccaaGreatDoorQPr2
import Derived.Laws.FloatArith
import Derived.Test.YtmkihdjolnlccaaGreatDoorQLdx
import Derived.Laws.Cover2
import Derived.Test.YtmkihdjolnlccaaGreatDoorQRv1
namespace Go.Proofs.YtmkihdjolnlccaaGreatDoor
open Go.RowKit Bn
open Flt
theorem zkM:zmI:=fun W hT=>zp4 W hT
end Go.Proofs.YtmkihdjolnlccaaGreatDoor
namespace Go.Proofs.YtmkihdjolnlccaaGreatDoor
open Go.RowKit
open Flt
theorem zrq {n:Nat} (h1:8388608≤n) (h2:n<16777216):n.log2=23:=by
 have e23:(2:Nat) ^ 23=8388608:=by decide
 have e24:(2:Nat) ^ 24=16777216:=by decide
 have a1:23≤n.log2:=(Nat.le_log2 (by omega)).2 (by omega)
 have a2:n.log2<24:=(Nat.log2_lt (by omega)).2 (by omega)
 omega
theorem zh6:Ieee.single.read 1073741824 = .number false 8388608 (-22):=by decide
theorem zpv:Ieee.single.read 0 = .number false 0 (-149):=by decide
theorem znk {n:Nat} {e:Int} (h1:8388608≤n) (h2:n<16777216) (he : -149≤e):Rnd n e:=⟨he,by omega,.inr h1⟩
theorem zcU {n:Nat} {e:Int} (h2:n<16777216) (he : -149≤e) (he2:e≤104):rung n e<2139095040:=by
 unfold rung
 have:(e+149).toNat≤253:=by omega
 omega
theorem zgN (s:Bool) {n k:Nat} {p q:Int} (h1:8388608≤n) (h2:n<16777216) (hq:p+k=q) (he : -149≤q) (he2:q≤104):Ieee.single.write (.number s (n*2 ^ k) p)=Ieee.single.word s (rung n q):=
 zdy s (by omega) (zrq h1 h2) hq (by omega) (by have:=zcU h2 he he2;unfold rung at this;omega)
theorem zn0 (s:Bool) {n:Nat} {e:Int} (h1:8388608≤n) (h2:n<16777216) (he : -148≤e) (he2:e≤104):floatBits .quo .f32 (Ieee.single.word s (rung n e)) 1073741824=some (Ieee.single.word s (rung n (e - 1))):=by
 show ((Ieee.single.read (Ieee.single.word s (rung n e))).quotient 25 (Ieee.single.read 1073741824)).map Ieee.single.write=_
 rw [zb2 s (znk h1 h2 (by omega)) h2 (zcU h2 (by omega) he2),zh6]
 have hl:(8388608:Nat).log2=23:=by decide
 have hq:(n <<< 25) / 8388608=n*4∧(n <<< 25) % 8388608=0:=by
  rw [Nat.shiftLeft_eq]
  have:(2:Nat) ^ 25=33554432:=by decide
  rw [this]
  omega
 show some (Ieee.single.write (.number (s ^^ false) (2*((n <<< (25+(8388608:Nat).log2 - n.log2)) / 8388608)+((n <<< (25+(8388608:Nat).log2 - n.log2)) % 8388608 != 0).toNat) (e - -22 - ((25+(8388608:Nat).log2 - n.log2:Nat):Int) - 1)))=_
 rw [hl,zrq h1 h2,show 25+23 - 23=25 from rfl,hq.1,hq.2]
 have e1:2*(n*4)+((0:Nat) != 0).toNat=n*2 ^ 3:=by
  have:((0:Nat) != 0).toNat=0:=rfl
  rw [this]
  have:(2:Nat) ^ 3=8:=by decide
  omega
 rw [e1,Bool.xor_false,zgN s h1 h2 (k:=3) (q:=e - 1) (by omega) (by omega) (by omega)]
theorem zmp (s:Bool) {n:Nat} {e:Int} (h1:8388608≤n) (h2:n<16777216) (he : -149≤e) (he2:e≤103):floatBits .mul .f32 (Ieee.single.word s (rung n e)) 1073741824=some (Ieee.single.word s (rung n (e+1))):=by
 show ((Ieee.single.read (Ieee.single.word s (rung n e))).product (Ieee.single.read 1073741824)).map Ieee.single.write=_
 rw [zb2 s (znk h1 h2 (by omega)) h2 (zcU h2 (by omega) (by omega)),zh6]
 show some (Ieee.single.write (.number (s ^^ false) (n*8388608) (e + -22)))=_
 have e1:n*8388608=n*2 ^ 23:=by
  have:(2:Nat) ^ 23=8388608:=by decide
  rw [this]
 rw [e1,Bool.xor_false,zgN s h1 h2 (k:=23) (q:=e+1) (by omega) (by omega) (by omega)]
structure Ps (f n:Nat) (e:Int):Prop where
 rd:Ieee.single.read f = .number false n e
 hi:n<16777216
 lo : -149≤e
 top:e≤104
 can:e = -149∨8388608≤n
theorem zir {b m:Nat} {s:Bool} {p:Int} (h:Ieee.single.read b = .number s m p):p = -149∨8388608≤m:=by
 unfold Ieee.Format.read at h
 rw [zek,zbt,zdW,za8] at h
 dsimp only at h
 generalize hr:b % 2147483648=r at h
 by_cases h1:r<8388608
 ·rw [if_pos h1] at h
  injection h with _ h2 h3
  exact .inl (by omega)
 ·rw [if_neg h1] at h
  by_cases h2:r<2139095040
  ·rw [if_pos h2] at h
   injection h with _ h3 h4
   exact .inr (by omega)
  ·rw [if_neg h2] at h
   split at h<;>cases h
theorem Ps.of {f n:Nat} {e:Int} (h:Ieee.single.read f = .number false n e):Ps f n e:=by
 obtain ⟨h1,h2,h3⟩:=zfJ h
 exact ⟨h,h1,h2,h3,zir h⟩
theorem Ps.rnd {f n:Nat} {e:Int} (h:Ps f n e):Rnd n e:=⟨h.lo,Nat.le_of_lt h.hi,h.can⟩
theorem Ps.wd {n:Nat} {e:Int} (h:Rnd n e) (h2:n<16777216) (he2:e≤104):Ps (Ieee.single.word false (rung n e)) n e:=
 ⟨zb2 false h h2 (zcU h2 h.place he2),h2,h.place,he2,h.lo⟩
theorem Ps.key {f n:Nat} {e:Int} (h:Ps f n e):fin Ieee.single f=true∧key Ieee.single f=((n*2 ^ (e+149).toNat:Nat):Int):=by
 refine ⟨zaH h.rd,?_⟩
 unfold Flt.key
 rw [h.rd,za8]
 simp only [Ieee.signed,Nat.shiftLeft_eq]
 rw [show (e - -149).toNat=(e+149).toNat from by omega]
 rfl
theorem Ps.ge24 {f n:Nat} {e:Int} (h:Ps f n e):(FloatKind.f32.format.order f 1266679808==some .gt || FloatKind.f32.format.order f 1266679808==some .eq)=decide (1≤e):=by
 have r24:Ieee.single.read 1266679808 = .number false 8388608 1:=by decide +kernel
 have p24:=Ps.of r24
 have k24:=p24.key
 obtain ⟨f1,k1⟩:=h.key
 obtain ⟨f2,k2⟩:=k24
 show (Ieee.single.order f 1266679808==some .gt || Ieee.single.order f 1266679808==some .eq)=_
 rw [za4 f1 f2,k1,k2]
 have e150:((1:Int)+149).toNat=150:=by decide
 rw [e150]
 have hn:=h.hi
 have hc:=h.can
 by_cases he:1≤e
 ·rw [decide_eq_true he]
  have h1:8388608≤n:=by omega
  have h2:8388608*2 ^ 150≤n*2 ^ (e+149).toNat:=Nat.mul_le_mul h1 (Nat.pow_le_pow_right (by omega) (by omega))
  generalize n*2 ^ (e+149).toNat=X at *
  generalize 8388608*2 ^ 150=Y at *
  rcases Nat.lt_or_ge Y X with h3 | h3
  ·rw [zdG (by omega)];rfl
  ·rw [show (X:Int)=(Y:Int) by omega,zdH];rfl
 ·rw [decide_eq_false he]
  have h2:n*2 ^ (e+149).toNat<8388608*2 ^ 150:=by
   have h3:n*2 ^ (e+149).toNat≤n*2 ^ 149:=Nat.mul_le_mul_left _ (Nat.pow_le_pow_right (by omega) (by omega))
   have h4:(2:Nat) ^ 150=2 ^ 149*2:=Nat.pow_succ ..
   have h5:0<(2:Nat) ^ 149:=Nat.two_pow_pos _
   rw [h4]
   generalize (2:Nat) ^ 149=T at *
   have h6:n*T<16777216*T:=Nat.mul_lt_mul_of_pos_right hn h5
   omega
  generalize n*2 ^ (e+149).toNat=X at *
  generalize 8388608*2 ^ 150=Y at *
  rw [zc8 (by omega)]
  rfl
theorem Ps.half {f n:Nat} {e:Int} (h:Ps f n e) (he:1≤e):∃ r,floatBits .quo .f32 f 1073741824=some r∧Ps r n (e - 1):=by
 have h1:8388608≤n:=by have:=h.can;omega
 have hw:=zn0 false h1 h.hi (show -148≤e by omega) h.top
 refine ⟨_,?_,Ps.wd (znk h1 h.hi (by omega)) h.hi (by have:=h.top;omega)⟩
 rw [←hw]
 show ((Ieee.single.read f).quotient 25 (Ieee.single.read 1073741824)).map Ieee.single.write=((Ieee.single.read (Ieee.single.word false (rung n e))).quotient 25 (Ieee.single.read 1073741824)).map Ieee.single.write
 rw [h.rd,zb2 false h.rnd h.hi (zcU h.hi h.lo h.top)]
theorem Ps.twice {f n:Nat} {e:Int} (h:Ps f n e) (h0:0<n) (he:e≤0):∃ r n' e',floatBits .mul .f32 f 1073741824=some r∧Ps r n' e'∧n'*2 ^ (e'+149).toNat=2*(n*2 ^ (e+149).toNat)∧(e'=e+1∨e'=e):=by
 have hlo:=h.lo
 by_cases h1:8388608≤n
 ·have hw:=zmp false h1 h.hi h.lo (show e≤103 by omega)
  refine ⟨_,n,e+1,?_,Ps.wd (znk h1 h.hi (by omega)) h.hi (by omega),?_,.inl rfl⟩
  ·rw [←hw]
   show ((Ieee.single.read f).product (Ieee.single.read 1073741824)).map Ieee.single.write=((Ieee.single.read (Ieee.single.word false (rung n e))).product (Ieee.single.read 1073741824)).map Ieee.single.write
   rw [h.rd,zb2 false h.rnd h.hi (zcU h.hi h.lo h.top)]
  ·rw [show (e+1+149).toNat=(e+149).toNat+1 by omega,Nat.pow_succ]
   generalize 2 ^ (e+149).toNat=T
   rw [←Nat.mul_assoc,Nat.mul_comm]
 ·have he2:e = -149:=by have:=h.can;omega
  subst he2
  have hr:Rnd (2*n) (-149):=⟨by omega,by omega,.inl rfl⟩
  refine ⟨_,2*n, -149,?_,Ps.wd hr (by omega) (by omega),?_,.inr rfl⟩
  ·show ((Ieee.single.read f).product (Ieee.single.read 1073741824)).map Ieee.single.write=some (Ieee.single.word false (rung (2*n) (-149)))
   rw [h.rd,zh6]
   show some (Ieee.single.write (.number (false ^^ false) (n*8388608) (-149 + -22)))=_
   have e1:n*8388608=(2*n)*2 ^ 22:=by
    have:(2:Nat) ^ 22=4194304:=by decide
    omega
   have hl:(2*n).log2≤23:=by
    have e24:(2:Nat) ^ 24=16777216:=by decide
    have:=(Nat.log2_lt (n:=2*n) (k:=24) (by omega)).2 (by omega)
    omega
   rw [e1,Bool.xor_false,zdy false (q := -149) (by omega) rfl (by omega) (by omega) (by omega)]
   rfl
  ·rw [Nat.mul_assoc]
theorem zqG (n drop:Nat):Ieee.Toward.cut .zero false n drop=n / 2 ^ drop:=by
 show n / (1 <<< min drop (n.log2+2))+0=_
 rw [Nat.shiftLeft_eq,Nat.one_mul,Nat.add_zero]
 by_cases h:drop≤n.log2+2
 ·rw [Nat.min_eq_left h]
 ·rw [Nat.min_eq_right (by omega)]
  have h1:n<2 ^ (n.log2+1):=Nat.lt_log2_self
  have h2:(2:Nat) ^ (n.log2+1)≤2 ^ (n.log2+2):=Nat.pow_le_pow_right (by omega) (by omega)
  have h3:(2:Nat) ^ (n.log2+1)≤2 ^ drop:=Nat.pow_le_pow_right (by omega) (by omega)
  rw [Nat.div_eq_of_lt (by omega),Nat.div_eq_of_lt (by omega)]
theorem Ps.int {f n:Nat} {e:Int} (h:Ps f n e) (he:e≤0):floatToIntVal .f32 f .i64=some ((n / 2 ^ (-e).toNat:Nat):Int):=by
 have hd:FloatKind.f32.decode f = .number false n e:=h.rd
 have hle:n / 2 ^ (-e).toNat≤n:=Nat.div_le_self _ _
 have hhi:=h.hi
 unfold floatToIntVal
 rw [hd]
 have e1:(Ieee.Datum.number false n e).toInt .zero=some ((n / 2 ^ (-e).toNat:Nat):Int):=by
  show some (Ieee.signed false (Ieee.Toward.cut .zero false (n <<< e.toNat) (-e).toNat) 0)=_
  rw [show e.toNat=0 by omega,Nat.shiftLeft_zero,zqG]
  unfold Ieee.signed
  rw [Nat.shiftLeft_zero]
  rfl
 rw [e1]
 generalize n / 2 ^ (-e).toNat=m at *
 show (if IntKind.i64.min≤(m:Int)∧(m:Int)≤IntKind.i64.max then some (m:Int) else none)=_
 have a1:IntKind.i64.min = -9223372036854775808:=by decide
 have a2:IntKind.i64.max=9223372036854775807:=by decide
 rw [a1,a2,if_pos (by omega)]
theorem ziL (m:Nat) (h:m<16777216):fin Ieee.single (floatOfInt .f32 (m:Int))=true∧key Ieee.single (floatOfInt .f32 (m:Int))=((m*2 ^ 149:Nat):Int):=by
 rcases Nat.eq_zero_or_pos m with rfl | h0
 ·exact ⟨by decide +kernel,by decide +kernel⟩
 ·have e24:(2:Nat) ^ 24=16777216:=by decide
  have hl:m.log2<24:=(Nat.log2_lt (by omega)).2 (by omega)
  have hw:floatOfInt .f32 (m:Int)=Ieee.single.word false (rung (m*2 ^ (23 - m.log2)) (-((23 - m.log2:Nat):Int))):=by
   show Ieee.single.write (.number (decide ((m:Int)<0)) (m:Int).natAbs 0)=_
   rw [show decide ((m:Int)<0)=false by simp,Int.natAbs_natCast]
   show Ieee.single.nearest false m 0=_
   have hm1:m<2 ^ (m.log2+1):=Nat.lt_log2_self
   have hm2:m*2 ^ (23 - m.log2)<16777216:=by
    have h9:2 ^ (m.log2+1)*2 ^ (23 - m.log2)=2 ^ 24:=by rw [←Nat.pow_add];congr 1;omega
    have h8:m*2 ^ (23 - m.log2)<2 ^ (m.log2+1)*2 ^ (23 - m.log2):=Nat.mul_lt_mul_of_pos_right hm1 (Nat.two_pow_pos _)
    omega
   rw [zeV Ieee.single false m (23 - m.log2) 0 h0 (by rw [za8];show max ((0:Int)+(m.log2:Int) - ((23:Nat):Int)) (-149)=_;omega) (by
    rw [za8,zbt,zdW]
    have:(0 - ((23 - m.log2:Nat):Int) - -149).toNat≤149:=by omega
    omega)]
   rw [za8,zbt]
   unfold rung
   rw [show (0 - ((23 - m.log2:Nat):Int) - -149).toNat=(-((23 - m.log2:Nat):Int)+149).toNat by omega]
  have hm1:2 ^ m.log2≤m:=Nat.log2_self_le (by omega)
  have hm3:m<2 ^ (m.log2+1):=Nat.lt_log2_self
  have g1:2 ^ m.log2*2 ^ (23 - m.log2)=8388608:=by
   rw [←Nat.pow_add,show m.log2+(23 - m.log2)=23 by omega]
  have g2:2 ^ (m.log2+1)*2 ^ (23 - m.log2)=16777216:=by
   rw [←Nat.pow_add,show m.log2+1+(23 - m.log2)=24 by omega]
  have g3:8388608≤m*2 ^ (23 - m.log2):=by rw [←g1];exact Nat.mul_le_mul_right _ hm1
  have g4:m*2 ^ (23 - m.log2)<16777216:=by rw [←g2];exact Nat.mul_lt_mul_of_pos_right hm3 (Nat.two_pow_pos _)
  obtain ⟨k1,k2⟩:=(Ps.wd (znk g3 g4 (e := -((23 - m.log2:Nat):Int)) (by omega)) g4 (by omega)).key
  rw [hw]
  refine ⟨k1,k2.trans ?_⟩
  rw [Nat.mul_assoc,←Nat.pow_add,show (23 - m.log2)+(-((23 - m.log2:Nat):Int)+149).toNat=149 by omega]
theorem Ps.whole {f n:Nat} {e:Int} (h:Ps f n e) (he:e≤0) (m:Nat) (hm:m=n / 2 ^ (-e).toNat) :
  (FloatKind.f32.format.order f (floatOfInt .f32 (m:Int)) != some .eq) = !decide (m*2 ^ 149=n*2 ^ (e+149).toNat):=by
 have hhi:=h.hi
 have hml:m<16777216:=by
  have:n / 2 ^ (-e).toNat≤n:=Nat.div_le_self _ _
  omega
 obtain ⟨f2,k2⟩:=ziL m hml
 obtain ⟨f1,k1⟩:=h.key
 show (Ieee.single.order f (floatOfInt .f32 (m:Int)) != some .eq)=_
 rw [za4 f1 f2,k1,k2]
 generalize n*2 ^ (e+149).toNat=X at *
 generalize m*2 ^ 149=Y at *
 rcases Nat.lt_trichotomy X Y with h1 | h1 | h1
 ·rw [zc8 (by omega),decide_eq_false (by omega)];rfl
 ·rw [h1,zdH,decide_eq_true rfl];rfl
 ·rw [zdG (by omega),decide_eq_false (by omega)];rfl
theorem Ps.not_whole {f n:Nat} {e:Int} (h:Ps f n e) (he:e≤0) (hw:n / 2 ^ (-e).toNat*2 ^ 149≠n*2 ^ (e+149).toNat):0<n∧e<0∧¬ 2 ^ 149 ∣ n*2 ^ (e+149).toNat:=by
 have hlo:=h.lo
 refine ⟨?_,?_,?_⟩
 ·rcases Nat.eq_zero_or_pos n with rfl | h0
  ·exact absurd (by simp) hw
  ·exact h0
 ·rcases Int.lt_or_eq_of_le he with h1 | rfl
  ·exact h1
  ·exact absurd (by simp) hw
 ·rintro ⟨c,hc⟩
  obtain ⟨j,hj⟩:∃ j,j=(-e).toNat:=⟨_,rfl⟩
  have e2:(2:Nat) ^ 149=2 ^ (e+149).toNat*2 ^ j:=by rw [←Nat.pow_add];congr 1;omega
  rw [←hj] at hw
  rw [e2] at hc hw
  have hp:0<2 ^ (e+149).toNat:=Nat.two_pow_pos _
  have hp2:0<2 ^ j:=Nat.two_pow_pos _
  generalize 2 ^ (e+149).toNat=P at *
  generalize 2 ^ j=R at *
  have h3:n=R*c:=by
   have:n*P=(R*c)*P:=by rw [hc];grind
   exact Nat.eq_of_mul_eq_mul_right hp this
  rw [h3,Nat.mul_div_cancel_left _ hp2] at hw
  exact hw (by grind)
def zjh (n:Nat) (e:Int) (m:Nat) (k:Int):Prop:=m<16777216 ∧ -149≤k∧k≤104∧m*2 ^ 149*2 ^ k.toNat=n*2 ^ (e+149).toNat*2 ^ (-k).toNat
theorem zj5 {n n2 m j i:Nat} {e e' e2:Int} (h:m<16777216) (hj:e'+j=e) (hj2:j=0∨0≤e') (ht:e≤104) (hi:i≤149) (hij:0<i→j=0) (hw:m*2 ^ 149=n2*2 ^ (e2+149).toNat) (hv:n2*2 ^ (e2+149).toNat=n*2 ^ (e'+149).toNat*2 ^ i) :
  zjh n e m ((j:Int) - (i:Int)):=by
 refine ⟨h,by omega,?_,?_⟩
 ·rcases hj2 with rfl | h9<;>omega
 ·rw [hw,hv]
  rcases Nat.eq_zero_or_pos j with rfl | h1
  ·have he:e'=e:=by omega
   rw [he,show ((0:Nat):Int) - (i:Int) = -(i:Int) by omega,show (-(i:Int)).toNat=0 by omega,show (-(-(i:Int))).toNat=i by omega,Nat.pow_zero,Nat.mul_one]
  ·have h2:i=0:=by
    rcases Nat.eq_zero_or_pos i with h9 | h9
    ·exact h9
    ·have:=hij h9;omega
   subst h2
   have h3:0≤e':=by omega
   rw [show ((j:Nat):Int) - ((0:Nat):Int)=(j:Int) by omega,show ((j:Int)).toNat=j by omega,show (-(j:Int)).toNat=0 by omega,Nat.pow_zero,Nat.mul_one,Nat.mul_one,Nat.mul_assoc,←Nat.pow_add,show (e'+149).toNat+j=(e+149).toNat by omega]
set_option maxHeartbeats 2000000 in
set_option maxRecDepth 100000 in
theorem zjZ (f n:Nat) (e:Int) (w:World) (h:Ps f n e) :
  Calls Tryz.prog 85 #[.float .f32 f] w fun en w'=>(∃ (m:Nat) (k:Int),en = .returned (.tuple #[.int .i64 (m:Int),.int .i64 k])∧zjh n e m k)∧w=w':=by
 have hlo:=h.lo
 have htop:=h.top
 have H0:=Lib.hid h
 clear h
 go_enter Tryz.func85,Tryz.ntmps85
 go_wp2
 go_loopg [0,4] e.toNat (fun g v0 v4 W=>∃ (f':Nat) (e':Int) (j:Nat),v0 = .float .f32 f'∧v4 = .int .i64 (j:Int)∧g=e'.toNat∧Hid (Ps f' n e')∧e'+j=e∧(j=0∨0≤e')∧W=w)
 case atStart=>exact ⟨f,e,0,rfl,rfl,rfl,H0,by omega,.inl rfl,rfl⟩
 case round=>
  obtain ⟨f',e',j,rfl,rfl,rfl,hp,hj,hj2,rfl⟩:=hrel
  have hge:=hp.out.ge24
  by_cases he:1≤e'
  ·rw [decide_eq_true he] at hge
   obtain ⟨r,hr,pr⟩:=hp.out.half he
   have ha:=fun W=>run_float_arith (P:=Tryz.prog) W .quo 64 .f32 f' 1073741824 r hr
   have hjb:j≤104:=by omega
   obtain ⟨jj,hjj⟩:∃ jj,jj=j+1:=⟨_,rfl⟩
   have hw:IntKind.i64.wrap ((j:Int)+1)=(jj:Int):=by rw [IntWalk.i64_in _ (by omega)];omega
   have HP:=Lib.hid pr
   clear pr hr
   go_wp2
   go_roundg (e' - 1).toNat
   case rel=>exact ⟨r,e' - 1,jj,rfl,(by congr 1;omega),rfl,HP,by omega,.inr (by omega),rfl⟩
   case measure=>omega
  ·rw [decide_eq_false he] at hge
   go_wp2
   go_loopg [0,4] 149 (fun g v0 v4 W=>∃ (f2 n2:Nat) (e2:Int) (i:Nat) (kk:Int),v0 = .float .f32 f2∧v4 = .int .i64 kk∧kk=(j:Int) - (i:Int)∧g+i=149∧Hid (Ps f2 n2 e2)∧e2≤0∧Hid (n2*2 ^ (e2+149).toNat=n*2 ^ (e'+149).toNat*2 ^ i)∧(0<i→j=0)∧W=wr)
   case atStart=>exact ⟨f',n,e',0,(j:Int),rfl,rfl,by omega,rfl,hp,by omega,by show _=_;rw [Nat.pow_zero,Nat.mul_one],fun h=>absurd h (by omega),rfl⟩
   case round=>
    obtain ⟨f2,n2,e2,i,kk,rfl,rfl,hkk,hgi,hp2,he2,hv,hij,rfl⟩:=hrel
    obtain ⟨m,hm⟩:∃ m,m=n2 / 2 ^ (-e2).toNat:=⟨_,rfl⟩
    have hwh:=hp2.out.whole he2 m hm
    have hint:=hp2.out.int he2
    rw [←hm] at hint
    have hcv:=fun W=>run_convert_float_int (P:=Tryz.prog) W 64 3 .f32 .i64 f2 (m:Int) (by kernel_rfl) Tryz.underlying3 hint
    have hml:m<16777216:=by
     have h1:n2 / 2 ^ (-e2).toNat≤n2:=Nat.div_le_self _ _
     have h2:=hp2.out.hi
     omega
    by_cases hz:m*2 ^ 149=n2*2 ^ (e2+149).toNat
    ·rw [decide_eq_true hz,Bool.not_true] at hwh
     have HR:Hid (zjh n e m kk):=by
      show zjh n e m kk
      rw [hkk]
      exact zj5 hml hj hj2 htop (by omega) hij hz hv.out
     clear hz hv hm hint hij hge
     go_wp2
     go_ret2
     exact ⟨⟨m,kk,rfl,HR.out⟩,rfl⟩
    ·rw [decide_eq_false hz,Bool.not_false] at hwh
     rw [hm] at hz
     obtain ⟨n0,e0,hnd⟩:=hp2.out.not_whole he2 hz
     have hi149:i<149:=by
      rcases Nat.lt_or_ge i 149 with h9 | h9
      ·exact h9
      ·exfalso
       refine hnd ?_
       rw [hv.out]
       exact Nat.dvd_trans (Nat.pow_dvd_pow 2 h9) (Nat.dvd_mul_left _ _)
     have hj0:j=0:=by
      rcases hj2 with h9 | h9
      ·exact h9
      ·exfalso
       refine hnd ?_
       rw [hv.out,show e'=0 by omega,Nat.mul_right_comm]
       exact Nat.dvd_mul_left _ _
     obtain ⟨r,n',e'',hr,pr,hv2,hee⟩:=hp2.out.twice n0 he2
     have ha:=fun W=>run_float_arith (P:=Tryz.prog) W .mul 64 .f32 f2 1073741824 r hr
     obtain ⟨k2,hk2⟩:∃ k2,k2=kk - 1:=⟨_,rfl⟩
     have hw:IntKind.i64.wrap (kk - 1)=k2:=by rw [IntWalk.i64_in _ (by omega)];omega
     have HP:=Lib.hid pr
     have HV:Hid (n'*2 ^ (e''+149).toNat=n*2 ^ (e'+149).toNat*2 ^ (i+1)):=by
      show _=_
      rw [hv2,hv.out,Nat.pow_succ,Nat.mul_comm 2,Nat.mul_assoc]
     clear pr hr hv hv2 hz hnd hm hint hge
     go_wp2
     go_roundg (149 - (i+1))
     case rel=>exact ⟨r,n',e'',i+1,k2,rfl,(by congr 1;omega),by omega,by omega,HP,by omega,HV,fun _=>hj0,rfl⟩
     case measure=>omega
theorem Val.pow (k:Nat):Val (powQ twoQ k) ((2 ^ k:Nat):Int) 1:=by
 refine ⟨?_,Nat.one_pos,Nat.pow_pos (by decide)⟩
 show ((2 ^ k:Nat):Int)*1=((2 ^ k:Nat):Int)*((1 ^ k:Nat):Int)
 rw [Nat.one_pow]
 rfl
theorem Val.powN (k:Nat):Val (powQ (recQ twoQ) k) 1 (2 ^ k):=by
 rw [zeB]
 refine ⟨?_,Nat.two_pow_pos k,Nat.pow_pos (by decide)⟩
 show ((1 ^ k:Nat):Int)*((2 ^ k:Nat):Int)=1*((2 ^ k:Nat):Int)
 rw [Nat.one_pow]
 rfl
set_option maxHeartbeats 2000000 in
set_option maxRecDepth 100000 in
theorem ziX (a:ByteArray) (p:Q) (k N:Nat) (w:World) (h:NumQ a p) (hn:p.neg=false) (hs:Small p N) (hk:k≤200) (hN:N≤20) :
  Calls Tryz.prog 49 #[.string a,.int .i64 (k:Int)] w (RetS w (powQ p k)):=by
 have hp1:NumQ a (powQ p 1):=by
  have e:powQ p 1=p:=by
   obtain ⟨n,t,b⟩:=p
   dsimp only at hn
   subst hn
   unfold powQ
   simp
  rw [e];exact h
 have hsz:∀ (s:ByteArray) (e:Nat),NumQ s (powQ p e)→e≤401→s.size≤20000:=fun s e h9 he=>by
  have h1:=h9.size (zi7 hs e) (by omega)
  have h2:N*e≤20*401:=Nat.mul_le_mul hN he
  omega
 have hmul:∀ (s t:ByteArray) (i j:Nat),NumQ s (powQ p i)→NumQ t (powQ p j)→i≤401→j≤401→∀ W:World,Calls Tryz.prog 43 #[.string s,.string t] W (RetS W (powQ p (i+j))):=fun s t i j h1 h2 hi hj W=>by
  have h9:=zkY s t _ _ W h1 h2 (by have:=hsz s i h1 hi;omega) (by have:=hsz t j h2 hj;omega)
  rwa [zkQ h.2] at h9
 have HM:=Lib.hid hmul
 have d0:decide ((k:Int)<0)=false:=by simp
 have H1:Hid (ze7 p k k a ⟨#[49]⟩):=⟨1,0,hp1,znh,by omega,by omega,by omega⟩
 clear hsz hmul hp1 h hn hs
 go_enter Tryz.func49,Tryz.ntmps49
 go_wp2
 go_loopg [0,1,5] k (fun g v0 v1 v5 W=>∃ (i:Nat) (t s:ByteArray),v0 = .string t∧v1 = .int .i64 (i:Int)∧v5 = .string s∧i≤g∧i≤k∧Hid (ze7 p k i t s)∧Below w.heap.size w W)
 case atStart=>exact ⟨k,a,_,rfl,rfl,rfl,Nat.le_refl _,Nat.le_refl _,H1.out,Below.refl _ _⟩
 case round=>
  obtain ⟨i,t,s,rfl,rfl,rfl,hg,hik,hinv,hbel⟩:=hrel
  obtain ⟨e,r,ht,hs,hre,he,hr⟩:=hinv.out
  by_cases h0:i=0
  ·subst h0
   have hR:NumQ s (powQ p k):=by
    rw [Nat.mul_zero,Nat.add_zero] at hre
    rw [←hre];exact hs
   have HR:=Lib.hid hR
   clear hR hre ht hs hinv
   go_wp2
   go_ret
   exact ⟨⟨s,rfl,HR.out⟩,hbel⟩
  ·have hek:e≤k:=by
    have:e*1≤e*i:=Nat.mul_le_mul_left e (by omega)
    omega
   have d1:decide (0<i)=true:=by simp;omega
   obtain ⟨i2,hi2⟩:∃ i2,i2=i / 2:=⟨_,rfl⟩
   have ed:(i:Int) / 2=(i2:Int):=by omega
   have HSQ:=Lib.hid (HM.out t t e e ht ht (by omega) (by omega))
   by_cases hodd:i % 2=1
   ·have eo:(i:Int) % 2=1:=by omega
    have hee:e*i=e+(e+e)*i2:=by
     have:i=1+2*i2:=by omega
     rw [this,Nat.mul_add,Nat.mul_one,Nat.add_mul,←Nat.mul_assoc,Nat.mul_comm e 2,Nat.two_mul,Nat.add_mul]
    have HO:=Lib.hid (HM.out s t r e hs ht (by omega) (by omega))
    have HI:Hid (∀ t2 s2:ByteArray,NumQ t2 (powQ p (e+e))→NumQ s2 (powQ p (r+e))→ze7 p k i2 t2 s2):=fun t2 s2 h1 h2=>⟨e+e,r+e,h1,h2,by omega,by omega,by omega⟩
    have hi2k:i2≤k∧i2<i:=by omega
    have HIK:=Lib.hid hi2k
    clear hi2 hodd hee hre ht hs hinv hi2k
    go_wp2_with fail
    refine (HO.out wr).mono ?_
    rintro e1 w1 ⟨⟨s2,rfl,hs2⟩,hb1⟩
    go_wp2_with fail
    refine (HSQ.out w1).mono ?_
    rintro e2 w2 ⟨⟨t2,rfl,ht2⟩,hb2⟩
    have HN:=Lib.hid (HI.out t2 s2 ht2 hs2)
    clear hs2 ht2
    go_wp2
    go_roundg i2
    case measure=>have:=HIK.out;omega
    case rel=>exact ⟨i2,t2,s2,rfl,rfl,rfl,Nat.le_refl _,HIK.out.1,HN.out,hbel.trans ((hb1.trans (hb2.mono hb1.size)).mono hbel.size)⟩
   ·have eo:(i:Int) % 2=0:=by omega
    have hee:e*i=(e+e)*i2:=by
     have:i=2*i2:=by omega
     rw [this,←Nat.mul_assoc,Nat.mul_comm e 2,Nat.two_mul]
    have HI:Hid (∀ t2:ByteArray,NumQ t2 (powQ p (e+e))→ze7 p k i2 t2 s):=fun t2 h1=>⟨e+e,r,h1,hs,by omega,by omega,by omega⟩
    have hi2k:i2≤k∧i2<i:=by omega
    have HIK:=Lib.hid hi2k
    clear hi2 hodd hee hre ht hs hinv hi2k
    go_wp2_with fail
    refine (HSQ.out wr).mono ?_
    rintro e2 w2 ⟨⟨t2,rfl,ht2⟩,hb2⟩
    have HN:=Lib.hid (HI.out t2 ht2)
    clear ht2
    go_wp2
    go_roundg i2
    case measure=>have:=HIK.out;omega
    case rel=>exact ⟨i2,t2,s,rfl,rfl,rfl,Nat.le_refl _,HIK.out.1,HN.out,hbel.trans (hb2.mono hbel.size)⟩
set_option maxHeartbeats 2000000 in
set_option maxRecDepth 100000 in
theorem zoH (a:ByteArray) (p:Q) (m N:Nat) (w:World) (h:NumQ a p) (hn:p.neg=false) (ht:0<p.top) (hs:Small p N) (hm:0<m) (hk:m≤200) (hN:N≤20) (ha:a.size≤100000) :
  Calls Tryz.prog 49 #[.string a,.int .i64 (-(m:Int))] w (RetS w (powQ (recQ p) m)):=by
 have hrn:(recQ p).neg=false:=by rw [zjX h.2 hn ht]
 have HR:=Lib.hid (zq4 a p w h hn ht ha)
 have HP:=Lib.hid (fun (s:ByteArray) (h9:NumQ s (recQ p)) (W:World)=>ziX s (recQ p) m N W h9 hrn (zkk hs ht) hk hN)
 have d0:decide (-(m:Int)<0)=true:=by simp only [decide_eq_true_eq];omega
 have hm1 : -(m:Int)<0:=by omega
 obtain ⟨z,hz⟩:∃ z:Int, -(m:Int)=z:=⟨_,rfl⟩
 have ez:0 - z=(m:Int):=by omega
 have ez2 : -z=(m:Int):=by omega
 have hzb : -200≤z:=by omega
 rw [hz] at d0 hm1 ⊢
 clear hz h hn hs hrn
 go_enter Tryz.func49,Tryz.ntmps49
 go_wp2_with fail
 refine HR.out.mono ?_
 rintro e w1 ⟨⟨s,rfl,h9⟩,hb1⟩
 go_wp2_with fail
 refine (HP.out s h9 w1).mono ?_
 rintro e w2 ⟨⟨t,rfl,h8⟩,hb2⟩
 go_wp2
 go_ret
 exact ⟨⟨t,rfl,h8⟩,hb1.trans (hb2.mono hb1.size)⟩
theorem zjA (n:Nat) (h:n<16777216):Small (intQ (n:Int)) 20:=⟨by show (n:Int).natAbs<10 ^ 20;rw [Int.natAbs_natCast];exact Nat.lt_trans h (by decide),by show 1<10 ^ 20;decide⟩
end Go.Proofs.YtmkihdjolnlccaaGreatDoor
