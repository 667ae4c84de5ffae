/- A finite single as a double, and the contract of isFinite. -/
import Derived.Test.YtjhgadajpliclaaGreatDoorILdx
import Derived.Test.YtjhgadajpliclaaGreatDoorIWrite
import Derived.Test.YtjhgadajpliclaaGreatDoorIFl3
namespace Go.Proofs.YtjhgadajpliclaaGreatDoor
open Go.RowKit
open Flt
theorem write_sg (s:Bool) {n:Nat} {e:Int} (h0:0<n) (h1:n<9007199254740992) (he : -1022≤e+n.log2) (he2:e+n.log2≤1023):Ieee.double.write (.number s n e)=dw s (sg n) (e+n.log2 - 52):=by
 have hn:=sg_nrm h0 h1 he he2
 have hr:=hn.rung
 have e53:(2:Nat) ^ 53=9007199254740992:=by decide
 have a3:n.log2<53:=(Nat.log2_lt (by omega)).2 (by omega)
 show Ieee.double.nearest s n e=_
 rw [nearest_up Ieee.double s n (52 - n.log2) e h0 (by rw [dbl_least];show max (e+(n.log2:Int) - ((52:Nat):Int)) (-1074)=_;omega) (by rw [dbl_least,dbl_binade,dbl_inf,show e - ((52 - n.log2:Nat):Int) - -1074=e+n.log2 - 52+1074 from by omega];exact Nat.le_of_lt hr)]
 unfold dw sg
 rw [dbl_least,dbl_binade,show e - ((52 - n.log2:Nat):Int) - -1074=e+n.log2 - 52+1074 from by omega]
theorem sgl_fin {b m:Nat} {s:Bool} {p:Int} (h:Ieee.single.read b = .number s m p):m<16777216 ∧ -149≤p∧p≤104:=by
 unfold Ieee.Format.read at h
 rw [sgl_sign,sgl_binade,sgl_inf,sgl_least] at h
 dsimp only at h
 generalize hr:b % 2147483648=r at h
 by_cases h1:r<8388608
 ·rw [if_pos h1] at h
  injection h with _ h2 h3
  omega
 ·rw [if_neg h1] at h
  by_cases h2:r<2139095040
  ·rw [if_pos h2] at h
   injection h with _ h3 h4
   omega
  ·rw [if_neg h2] at h
   split at h<;>cases h
theorem f2d_number {b m r:Nat} {s t:Bool} {e p:Int} {n:Nat} (h:Ieee.single.read b = .number s m e) (hw:Ieee.double.write (.number s m e)=r) (hi:Ieee.double.read r = .number t n p):floatToFloatBits .f32 b .f64=some r:=by
 have h':FloatKind.f32.decode b = .number s m e:=h
 have hw':FloatKind.f64.encode (.number s m e)=r:=hw
 have hi':FloatKind.f64.decode r = .number t n p:=hi
 unfold floatToFloatBits
 rw [if_neg (by decide),h']
 simp only [hw',hi']
 rfl
theorem widen {b m:Nat} {s:Bool} {p:Int} (h:Ieee.single.read b = .number s m p) (hm:0<m):floatToFloatBits .f32 b .f64=some (dw s (sg m) (p+m.log2 - 52))∧Nrm (sg m) (p+m.log2 - 52)∧m.log2≤23:=by
 have e24:(2:Nat) ^ 24=16777216:=by decide
 obtain ⟨h1,h2,h3⟩:=sgl_fin h
 have hl:m.log2<24:=(Nat.log2_lt (by omega)).2 (by omega)
 have hn:=sg_nrm (n:=m) (e:=p) hm (by omega) (by omega) (by omega)
 exact ⟨f2d_number h (write_sg s hm (by omega) (by omega) (by omega)) (read_dw s hn),hn,by omega⟩
theorem write_zero (s:Bool) (p:Int):Ieee.double.write (.number s 0 p)=Ieee.double.word s 0:=by
 show Ieee.double.nearest s 0 p=_
 unfold Ieee.Format.nearest
 rw [if_pos rfl]
theorem read_zero_word (s:Bool):Ieee.double.read (Ieee.double.word s 0) = .number s 0 (-1074):=by
 cases s<;>decide +kernel
theorem widen_zero {b:Nat} {s:Bool} {p:Int} (h:Ieee.single.read b = .number s 0 p):floatToFloatBits .f32 b .f64=some (Ieee.double.word s 0):=
 f2d_number h (write_zero s p) (read_zero_word s)
structure Fine (b x:Nat):Prop where
 conv:floatToFloatBits .f32 b .f64=some x
 lt:x<18446744073709551616
 inf:(FloatKind.f64.format.order (absB x) 9218868437227405311==some .gt)=false
 nan:(FloatKind.f64.format.order x x != some .eq)=false
theorem fine_pos {b m:Nat} {s:Bool} {p:Int} (h:Ieee.single.read b = .number s m p) (hm:0<m):Fine b (dw s (sg m) (p+m.log2 - 52)):=by
 obtain ⟨h1,h2,_⟩:=widen h hm
 have hN:=norm_dw s h2
 exact ⟨h1,hN.lt,hN.inf,hN.nan⟩
theorem fine_zero {b:Nat} {s:Bool} {p:Int} (h:Ieee.single.read b = .number s 0 p):Fine b (Ieee.double.word s 0):=by
 refine ⟨widen_zero h,?_,?_,?_⟩<;>cases s<;>decide +kernel
theorem isFinite_fine {b x:Nat} (w:World) (h:Fine b x):Calls Tryz.prog 135 #[.float .f32 b] w fun e w'=>e = .returned (.bool true)∧w=w':=by
 have hcv:=fun W:World=>run_convert_float_float (P:=Tryz.prog) W 35 154 .f32 .f64 b x (by kernel_rfl) (by kernel_rfl) h.conv
 have hnn:=isNaN_any x w
 rw [h.nan] at hnn
 have hin:=isInf_any x w h.lt
 rw [h.inf] at hin
 have HN:=Lib.hid hnn
 have HI:=Lib.hid hin
 clear hnn hin h
 go_enter Tryz.func135,Tryz.ntmps135
 go_wp2_with fail
 refine HN.out.mono ?_
 rintro e w1 ⟨rfl,rfl⟩
 go_wp2_with fail
 refine HI.out.mono ?_
 rintro e w1 ⟨rfl,rfl⟩
 go_wp2_with fail
 go_ret
 exact ⟨rfl,rfl⟩
theorem mul_24 (s:Bool) {m:Nat} (h:Nrm m (-53)):floatBits .mul .f64 (dw s m (-53)) 4715268809856909312=some (dw s m (-29)):=by
 show (((Ieee.double.read (dw s m (-53))).product (Ieee.double.read 4715268809856909312)).map Ieee.double.write)=_
 have e1:Ieee.double.read 4715268809856909312 = .number false 4503599627370496 (-28):=by decide +kernel
 rw [e1,read_dw s h]
 show some (Ieee.double.write (.number (s ^^ false) (m*4503599627370496) (-53 + -28)))=_
 have e2:m*4503599627370496=m*2 ^ 52:=by rfl
 rw [e2,write_dw (s ^^ false) 52 (q := -29) ⟨h.lo,h.hi,by omega,by omega⟩ (by omega)]
 simp
theorem cut_zero_exact (s:Bool) (n d:Nat) (hn:0<n):Ieee.Toward.zero.cut s (n*2 ^ d) d=n:=by
 unfold Ieee.Toward.cut
 have e:min d ((n*2 ^ d).log2+2)=d:=by rw [log2_mul_pow n d hn];omega
 have hp:=Nat.two_pow_pos d
 simp only [e,Nat.shiftLeft_eq,Nat.one_mul,Nat.mul_mod_left,Nat.mul_div_cancel _ hp]
 rfl
theorem int_29 (s:Bool) {m:Nat} (h0:0<m) (hl:m.log2≤23) (hm:m<16777216):floatToIntVal .f64 (dw s (sg m) (-29)) .i64=some (Ieee.signed s (m*2 ^ (23 - m.log2)) 0)∧m*2 ^ (23 - m.log2)<16777216∧0<m*2 ^ (23 - m.log2):=by
 have e24:(2:Nat) ^ 24=16777216:=by decide
 have hp:0<m*2 ^ (23 - m.log2):=Nat.mul_pos h0 (Nat.two_pow_pos _)
 have hlt:m*2 ^ (23 - m.log2)<16777216:=by
  have a2:=(Nat.log2_lt (n:=m) (k:=m.log2+1) (by omega)).1 (by omega)
  have:=Nat.mul_lt_mul_of_pos_right a2 (Nat.two_pow_pos (23 - m.log2))
  rw [←Nat.pow_add,show m.log2+1+(23 - m.log2)=24 from by omega,e24] at this
  exact this
 have hn:=sg_nrm (n:=m) (e:=0) h0 (by omega) (by omega) (by omega)
 have hr:=read_dw s (m:=sg m) (p := -29) ⟨hn.lo,hn.hi,by omega,by omega⟩
 have hsg:sg m=m*2 ^ (23 - m.log2)*2 ^ 29:=by
  unfold sg
  rw [Nat.mul_assoc,←Nat.pow_add,show 23 - m.log2+29=52 - m.log2 from by omega]
 refine ⟨?_,hlt,hp⟩
 generalize m*2 ^ (23 - m.log2)=J at *
 have hv:FloatKind.f64.decode (dw s (sg m) (-29)) = .number s (sg m) (-29):=hr
 have hti:(FloatKind.f64.decode (dw s (sg m) (-29))).toInt .zero=some (Ieee.signed s J 0):=by
  rw [hv,hsg]
  unfold Ieee.Datum.toInt Ieee.Datum.integral
  have e1:(-29:Int).toNat=0:=by decide
  have e2:(- (-29:Int)).toNat=29:=by decide
  simp only [e1,e2,Nat.shiftLeft_zero,cut_zero_exact s J 29 hp]
 unfold floatToIntVal
 rw [hti]
 have hb:IntKind.i64.min≤Ieee.signed s J 0∧Ieee.signed s J 0≤IntKind.i64.max:=by
  have h1:IntKind.i64.min = -9223372036854775808:=by decide
  have h2:IntKind.i64.max=9223372036854775807:=by decide
  rw [h1,h2]
  unfold Ieee.signed
  rw [Nat.shiftLeft_zero]
  split<;>omega
 simp only [hb,and_self,if_true]
theorem mul_zero_24 (s:Bool):floatBits .mul .f64 (Ieee.double.word s 0) 4715268809856909312=some (Ieee.double.word s 0):=by cases s<;>decide +kernel
theorem int_zero (s:Bool):floatToIntVal .f64 (Ieee.double.word s 0) .i64=some 0:=by cases s<;>decide +kernel
theorem eq_zero (s:Bool):(FloatKind.f64.format.order (Ieee.double.word s 0) 0==some .eq)=true:=by cases s<;>decide +kernel
theorem ldexp_sg (s:Bool) {n:Nat} {e:Int} (w:World) (h0:0<n) (h1:n<9007199254740992) (he : -1022≤e+n.log2) (he2:e+n.log2≤1023) :
  Calls Tryz.prog 143 #[.float .f64 (dw s (sg n) (0+n.log2 - 52)),.int .i64 e] w fun e' w'=>e' = .returned (.float .f64 (dw s (sg n) (e+n.log2 - 52)))∧w=w':=by
 have e53:(2:Nat) ^ 53=9007199254740992:=by decide
 have a3:n.log2<53:=(Nat.log2_lt (by omega)).2 (by omega)
 have hn0:=sg_nrm (n:=n) (e:=0) h0 h1 (by omega) (by omega)
 have hn:=sg_nrm (n:=n) (e:=e) h0 h1 he he2
 have hN:=norm_dw s hn0
 obtain ⟨F,R,hF,hm,hR,hR2,hw⟩:=i_dw s hn0
 obtain ⟨G,S,hG,hm',hS,hS2,hv⟩:=i_dw s hn
 have hs:s.toNat≤1:=by cases s<;>decide
 have hY:ldY (dw s (sg n) (0+n.log2 - 52)) (e+n.log2)=dw s (sg n) (e+n.log2 - 52):=by
  unfold ldY
  rw [hv]
  omega
 refine ldexp_in (dw s (sg n) (0+n.log2 - 52)) e (e+n.log2) (dw s (sg n) (e+n.log2 - 52)) w hN (by omega) (by omega) he he2 ?_
 rw [hY]
 exact one_mul s hn
theorem ofInt_sg (s:Bool) {n:Nat} (h0:0<n) (h1:n<9007199254740992):floatOfInt .f64 (if s then -(n:Int) else (n:Int))=dw s (sg n) (0+n.log2 - 52):=by
 have e53:(2:Nat) ^ 53=9007199254740992:=by decide
 have a3:n.log2<53:=(Nat.log2_lt (by omega)).2 (by omega)
 rw [←write_sg s h0 h1 (e:=0) (by omega) (by omega)]
 unfold floatOfInt FloatKind.nearest FloatKind.encode
 cases s
 ·rw [if_neg (by decide)]
  have e1:decide ((n:Int)<0)=false:=decide_eq_false (by omega)
  rw [e1,Int.natAbs_natCast]
  rfl
 ·rw [if_pos rfl]
  have e1:decide (-(n:Int)<0)=true:=decide_eq_true (by omega)
  rw [e1,Int.natAbs_neg,Int.natAbs_natCast]
  rfl
theorem top_any (a:Nat) (st z:Int) (g o:Value) (w:World) (ha:a≤32) :
  Calls Tryz.prog 41 #[.agg #[.int .i64 a,.int .i64 st,.int .i64 z,g,o]] w fun e w'=>e = .returned (.int .i64 ((2 ^ a - 1:Nat):Int))∧Below w.heap.size w w':=by
 have hb:Below w.heap.size w (w.alloc (.cells #[.int .i64 a,.int .i64 st,.int .i64 z,g,o] 32)):=(Below.refl _ _).alloc (Nat.le_refl _) _
 have hp:2 ^ a≤2 ^ 32:=Nat.pow_le_pow_right (by omega) ha
 have e32:(2:Nat) ^ 32=4294967296:=by decide
 have hp0:=Nat.two_pow_pos a
 have hc:(2:Int) ^ a=((2 ^ a:Nat):Int):=by rw [Int.natCast_pow];rfl
 rw [e32] at hp
 have w1:wrap64 ((2:Int) ^ a)=((2 ^ a:Nat):Int):=by rw [hc,IntWalk.wrap64_in _ (by omega)]
 have w2:wrap64 (((2 ^ a:Nat):Int) - 1)=((2 ^ a - 1:Nat):Int):=by rw [IntWalk.wrap64_in _ (by omega)];omega
 have W1:=Lib.hid w1
 have W2:=Lib.hid w2
 clear w1 w2 hc hp hp0 e32
 go_enter Tryz.func41,Tryz.ntmps41
 go_wp2_with fail
 rw [W1.out,W2.out]
 go_ret
 exact ⟨rfl,hb⟩
theorem isEnd_any (a:Nat) (st z c:Int) (g o:Value) (w:World) (ha:a≤32) :
  Calls Tryz.prog 86 #[.agg #[.int .i64 a,.int .i64 st,.int .i64 z,g,o],.int .i64 c] w fun e w'=>e = .returned (.bool (decide (c=0∨c=((2 ^ a - 1:Nat):Int))))∧Below w.heap.size w w':=by
 have hb:Below w.heap.size w (w.alloc (.cells #[.int .i64 a,.int .i64 st,.int .i64 z,g,o] 32)):=(Below.refl _ _).alloc (Nat.le_refl _) _
 have ht:=top_any a st z g o (w.alloc (.cells #[.int .i64 a,.int .i64 st,.int .i64 z,g,o] 32)) ha
 generalize ((2 ^ a - 1:Nat):Int)=T at *
 have HT:=Lib.hid ht
 clear ht ha
 by_cases h0:c=0
 ·subst h0
  rw [decide_eq_true (Or.inl rfl)]
  go_enter Tryz.func86,Tryz.ntmps86
  go_wp2_with fail
  go_ret
  exact ⟨rfl,hb⟩
 ·have hd:decide (c=0∨c=T)=(c==T):=by
   rw [Bool.eq_iff_iff];simp [h0]
  rw [hd]
  have hc0:(c==0)=false:=by simpa using h0
  go_enter Tryz.func86,Tryz.ntmps86
  go_wp2_with fail
  refine HT.out.mono ?_
  rintro e w2 ⟨rfl,hb2⟩
  go_wp2_with fail
  go_ret
  exact ⟨rfl,hb.trans (hb2.mono (by simp))⟩
def sgP (n:Nat) (e:Int):Int:=max (e+n.log2 - 23) (-149)
def sgW (s:Bool) (n:Nat) (e:Int):Nat:=Ieee.single.word s ((sgP n e+149).toNat*8388608+n*2 ^ (e - sgP n e).toNat)
theorem sgW_parts {n:Nat} {e:Int} (h0:0<n) (h1:n<16777216) (he : -149≤e) (he2:e+n.log2≤127) :
  ∃ k:Nat,(k:Int)=e - sgP n e∧0<n*2 ^ k∧n*2 ^ k<16777216∧(n*2 ^ k).log2=n.log2+k∧n.log2+k≤23 ∧ -149≤sgP n e∧sgP n e≤104∧(sgP n e = -149∨8388608≤n*2 ^ k):=by
 have e24:(2:Nat) ^ 24=16777216:=by decide
 have e23:(2:Nat) ^ 23=8388608:=by decide
 have hl:n.log2<24:=(Nat.log2_lt (by omega)).2 (by omega)
 have a1:=(Nat.le_log2 (n:=n) (k:=n.log2) (by omega)).1 (Nat.le_refl _)
 have a2:=(Nat.log2_lt (n:=n) (k:=n.log2+1) (by omega)).1 (by omega)
 obtain ⟨k,hk⟩:∃ k:Nat,(k:Int)=e - sgP n e:=⟨(e - sgP n e).toNat,by unfold sgP;omega⟩
 have hlk:=log2_mul_pow n k h0
 unfold sgP at *
 refine ⟨k,hk,Nat.mul_pos h0 (Nat.two_pow_pos _),?_,hlk,by omega,by omega,by omega,?_⟩
 ·have:=Nat.mul_lt_mul_of_pos_right a2 (Nat.two_pow_pos k)
  rw [←Nat.pow_add] at this
  exact Nat.lt_of_lt_of_le this (by rw [←e24];exact Nat.pow_le_pow_right (by omega) (by omega))
 ·by_cases hc:e+(n.log2:Int) - 23 ≤ -149
  ·left;omega
  ·right
   have:=Nat.mul_le_mul_right (2 ^ k) a1
   rw [←Nat.pow_add,show n.log2+k=23 from by omega,e23] at this
   exact this
theorem cast_sg (s:Bool) {n:Nat} {e:Int} (h0:0<n) (h1:n<16777216) (he : -149≤e) (he2:e+n.log2≤127) :
  floatToFloatBits .f64 (dw s (sg n) (e+n.log2 - 52)) .f32=some (sgW s n e):=by
 have hn:=sg_nrm (n:=n) (e:=e) h0 (by omega) (by omega) (by omega)
 obtain ⟨k,hk,hK0,hK,hlk,hlk2,hq1,hq2,hn2⟩:=sgW_parts h0 h1 he he2
 have hkn:(e - sgP n e).toNat=k:=by omega
 have hsg:sg n=n*2 ^ k*2 ^ (52 - n.log2 - k):=by
  unfold sg
  rw [Nat.mul_assoc,←Nat.pow_add,show k+(52 - n.log2 - k)=52 - n.log2 from by omega]
 refine f2f_number (read_dw s hn) ?_ ?_
 ·unfold sgW
  rw [hkn,hsg]
  refine sgl_down s (l:=n.log2+k) (q:=sgP n e) hK0 hlk (by omega) ?_ (by omega)
  unfold sgP at *
  omega
 ·unfold sgW
  rw [hkn]
  exact sgl_read s (by omega)
def nomW (d e:Int):Nat:=if d=0 then 0 else sgW (decide (d<0)) d.natAbs e
theorem nom_ways {d e:Int} (hd : -4194304<d) (hd2:d<4194304) (he : -149≤e) (he2:e≤100) :
  ∃ X r:Nat,floatOfInt .f64 d=X∧(∀ W:World,Calls Tryz.prog 99 #[.float .f64 X,.int .i64 e] W fun e' w'=>e' = .returned (.float .f64 r)∧W=w')∧floatToFloatBits .f64 r .f32=some (nomW d e):=by
 by_cases h0:d=0
 ·subst h0
  refine ⟨0,0,by decide +kernel,fun W=>Ldexp_any W (ldexp_zero W),?_⟩
  unfold nomW
  rw [if_pos rfl]
  decide +kernel
 ·have e22:(2:Nat) ^ 22=4194304:=by decide
  have hn0:0<d.natAbs:=by omega
  have hl:d.natAbs.log2<22:=(Nat.log2_lt (by omega)).2 (by omega)
  have hs:(if decide (d<0)=true then -(d.natAbs:Int) else (d.natAbs:Int))=d:=by
   by_cases hn:d<0
   ·rw [decide_eq_true hn,if_pos rfl];omega
   ·rw [decide_eq_false hn,if_neg (by decide)];omega
  have hX:=ofInt_sg (decide (d<0)) (n:=d.natAbs) hn0 (by omega)
  rw [hs] at hX
  refine ⟨_,_,hX,fun W=>Ldexp_any W (ldexp_sg (decide (d<0)) (e:=e) W hn0 (by omega) (by omega) (by omega)),?_⟩
  unfold nomW
  rw [if_neg h0]
  exact cast_sg (decide (d<0)) hn0 (by omega) (by omega) (by omega)
theorem nominal_any (a st z c:Int) (g o:Value) (w:World) (hd : -4194304<c - z) (hd2:c - z<4194304) (he : -149≤st) (he2:st≤100) :
  Calls Tryz.prog 40 #[.agg #[.int .i64 a,.int .i64 st,.int .i64 z,g,o],.int .i64 c] w fun e w'=>e = .returned (.float .f32 (nomW (c - z) st))∧Below w.heap.size w w':=by
 have hb:Below w.heap.size w (w.alloc (.cells #[.int .i64 a,.int .i64 st,.int .i64 z,g,o] 32)):=(Below.refl _ _).alloc (Nat.le_refl _) _
 obtain ⟨X,r,hX,hL,hR⟩:=nom_ways hd hd2 he he2
 have w1:wrap64 (c - z)=c - z:=IntWalk.wrap64_in _ (by omega)
 have hcv:=fun W:World=>run_convert_float_float (P:=Tryz.prog) W 154 35 .f64 .f32 r (nomW (c - z) st) (by kernel_rfl) (by kernel_rfl) hR
 have HL:=Lib.hid hL
 clear hL hR
 go_enter Tryz.func40,Tryz.ntmps40
 go_wp2_with fail
 refine (HL.out _).mono ?_
 rintro e w1 ⟨rfl,rfl⟩
 go_wp2_with fail
 go_ret
 exact ⟨rfl,hb⟩
theorem edge_any (a st z c:Int) (g o:Value) (w:World) (hd : -4194304<2*(c - z) - 1) (hd2:2*(c - z) - 1<4194304) (he : -149≤st - 1) (he2:st - 1≤100) :
  Calls Tryz.prog 105 #[.agg #[.int .i64 a,.int .i64 st,.int .i64 z,g,o],.int .i64 c] w fun e w'=>e = .returned (.float .f32 (nomW (2*(c - z) - 1) (st - 1)))∧Below w.heap.size w w':=by
 have hb:Below w.heap.size w (w.alloc (.cells #[.int .i64 a,.int .i64 st,.int .i64 z,g,o] 32)):=(Below.refl _ _).alloc (Nat.le_refl _) _
 obtain ⟨X,r,hX,hL,hR⟩:=nom_ways hd hd2 he he2
 have w1:wrap64 (c - z)=c - z:=IntWalk.wrap64_in _ (by omega)
 have w2:wrap64 (2*(c - z))=2*(c - z):=IntWalk.wrap64_in _ (by omega)
 have w3:wrap64 (2*(c - z) - 1)=2*(c - z) - 1:=IntWalk.wrap64_in _ (by omega)
 have w4:wrap64 (st - 1)=st - 1:=IntWalk.wrap64_in _ (by omega)
 have hcv:=fun W:World=>run_convert_float_float (P:=Tryz.prog) W 154 35 .f64 .f32 r (nomW (2*(c - z) - 1) (st - 1)) (by kernel_rfl) (by kernel_rfl) hR
 have HL:=Lib.hid hL
 clear hL hR
 go_enter Tryz.func105,Tryz.ntmps105
 go_wp2_with fail
 refine (HL.out _).mono ?_
 rintro e w1 ⟨rfl,rfl⟩
 go_wp2_with fail
 go_ret
 exact ⟨rfl,hb⟩
end Go.Proofs.YtjhgadajpliclaaGreatDoor
namespace Go.Proofs.YtjhgadajpliclaaGreatDoor
open Go.RowKit Bn
open Flt
theorem word_read (s:Bool) {n:Nat} {e:Int} (h:Rnd n e) (hn:n<16777216) (hR:rung n e<2139095040):Ieee.single.read (Ieee.single.word s (rung n e)) = .number s n e:=by
 have hpl:=h.place
 have hlo:=h.lo
 unfold rung at *
 unfold Ieee.Format.read Ieee.Format.word
 rw [sgl_sign,sgl_binade,sgl_inf,sgl_least]
 generalize hRR:(e+149).toNat*8388608+n=R at *
 have e1:(if s=true then 2147483648+R else R) % 2147483648=R:=by split<;>omega
 have e2:((if s=true then 2147483648+R else R) / 2147483648 % 2==1)=s:=by
  cases s
  ·simp;omega
  ·simp;omega
 simp only [e1,e2]
 by_cases hs:R<8388608
 ·rw [if_pos hs]
  congr 1<;>omega
 ·rw [if_neg hs,if_pos hR]
  congr 1<;>omega
theorem nom_word {d e:Int} (hd:d≠0) (hd2:d.natAbs<16777216) (he : -149≤e) (he2:e+d.natAbs.log2≤127) :
  ∃ (n':Nat) (e':Int),nomW d e=Ieee.single.word (decide (d<0)) (rung n' e')∧Rnd n' e'∧0<n'∧rung n' e'<2139095040∧n'*2 ^ (e'+149).toNat=d.natAbs*2 ^ (e+149).toNat∧n'<16777216∧e'≤104:=by
 obtain ⟨k,hk,hK0,hK,hlk,hlk2,hq1,hq2,hn2⟩:=sgW_parts (n:=d.natAbs) (e:=e) (by omega) hd2 he he2
 have hkn:(e - sgP d.natAbs e).toNat=k:=by omega
 refine ⟨d.natAbs*2 ^ k,sgP d.natAbs e,?_,⟨hq1,by omega,hn2⟩,hK0,?_,?_,hK,hq2⟩
 ·unfold nomW sgW rung
  rw [if_neg hd,hkn]
 ·unfold rung;omega
 ·rw [Nat.mul_assoc,←Nat.pow_add,show k+(sgP d.natAbs e+149).toNat=(e+149).toNat from by omega]
end Go.Proofs.YtjhgadajpliclaaGreatDoor
