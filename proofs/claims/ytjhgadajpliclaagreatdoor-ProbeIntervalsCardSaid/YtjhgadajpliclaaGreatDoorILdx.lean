/- Contracts of math.Ldexp and what it calls. -/
import Derived.Test.YtjhgadajpliclaaGreatDoorIDpu
import Derived.Test.YtjhgadajpliclaaGreatDoorIRow
import Derived.Laws.Cover2
import Derived.Laws.BitsAllLaws
import Derived.Laws.FloatArith
import Derived.Test.YtjhgadajpliclaaGreatDoorIFl3
import Derived.Test.YtjhgadajpliclaaGreatDoorIRat2
namespace Go.Proofs.YtjhgadajpliclaaGreatDoor
open Go.RowKit
theorem call_bits (x:Nat) (w:World):(callFunc 190 #[.float .f64 x]).run Tryz.prog w = .ok (.value (.int .u64 x)) w:=by
 rw [run_callFunc_extern Tryz.func190 (by kernel_rfl) (by kernel_rfl) (by kernel_rfl) (e:=Extern.MathFloatBits.float64bits) (by kernel_rfl)]
 rfl
theorem call_frombits (x:Nat) (w:World):(callFunc 192 #[.int .u64 x]).run Tryz.prog w = .ok (.value (.float .f64 x)) w:=by
 rw [run_callFunc_extern Tryz.func192 (by kernel_rfl) (by kernel_rfl) (by kernel_rfl) (e:=Extern.MathFloatBits.float64frombits) (by kernel_rfl)]
 rfl
def absB (x:Nat):Nat:=x % 9223372036854775808
theorem andNot_abs (x:Nat) (hx:x<18446744073709551616):bits BinOp.andNot IntKind.u64 (x:Int) 9223372036854775808=((absB x:Nat):Int):=by
 have h:=u64_andNot_nat x 9223372036854775808 hx (by omega)
 have e:x &&& (18446744073709551615 - 9223372036854775808)=absB x:=by
  rw [show 18446744073709551615 - 9223372036854775808=2 ^ 63 - 1 from by decide,Nat.and_two_pow_sub_one_eq_mod];rfl
 rw [e] at h
 exact h
theorem isNaN_any (x:Nat) (w:World):Calls Tryz.prog 187 #[.float .f64 x] w fun e w'=>e = .returned (.bool (FloatKind.f64.format.order x x != some .eq))∧w=w':=by
 go_enter Tryz.func187,Tryz.ntmps187
 go_wp2
 go_ret
 exact ⟨rfl,rfl⟩
theorem abs_any (x:Nat) (w:World) (hx:x<18446744073709551616):Calls Tryz.prog 219 #[.float .f64 x] w fun e w'=>e = .returned (.float .f64 (absB x))∧w=w':=by
 have h1:=andNot_abs x hx
 have hb:=call_bits x
 have hf:=call_frombits (absB x)
 go_enter Tryz.func219,Tryz.ntmps219
 go_wp2
 go_ret
 exact ⟨rfl,rfl⟩
theorem isInf_any (x:Nat) (w:World) (hx:x<18446744073709551616):Calls Tryz.prog 188 #[.float .f64 x,.int .i64 0] w fun e w'=>e = .returned (.bool (FloatKind.f64.format.order (absB x) 9218868437227405311==some .gt))∧w=w':=by
 go_enter Tryz.func188,Tryz.ntmps188
 go_wp2_with fail
 refine (abs_any x _ hx).mono ?_
 rintro e w1 ⟨rfl,rfl⟩
 go_wp2
 go_ret
 exact ⟨rfl,rfl⟩
structure Norm64 (x:Nat):Prop where
 lt:x<18446744073709551616
 nz:(FloatKind.f64.format.order x 0==some .eq)=false
 inf:(FloatKind.f64.format.order (absB x) 9218868437227405311==some .gt)=false
 nan:(FloatKind.f64.format.order x x != some .eq)=false
 big:(FloatKind.f64.format.order (absB x) 4503599627370496==some .lt)=false
theorem normalize_any (x:Nat) (w:World) (h:Norm64 x):Calls Tryz.prog 189 #[.float .f64 x] w fun e w'=>e = .returned (.tuple #[.float .f64 x,.int .i64 0])∧w=w':=by
 have hb:=h.big
 go_enter Tryz.func189,Tryz.ntmps189
 go_wp2_with fail
 refine (abs_any x _ h.lt).mono ?_
 rintro e w1 ⟨rfl,rfl⟩
 go_wp2
 go_ret2
 exact ⟨rfl,rfl⟩
def ldY (x:Nat) (m:Int):Nat:=x % 4503599627370496+x / 9223372036854775808*9223372036854775808+(m+1023).toNat*4503599627370496
theorem andNot_exp (x:Nat) (hx:x<18446744073709551616):bits BinOp.andNot IntKind.u64 (x:Int) 9218868437227405312=((x % 4503599627370496+x / 9223372036854775808*9223372036854775808:Nat):Int):=by
 have h:=u64_andNot_nat x 9218868437227405312 hx (by omega)
 have e:x &&& (18446744073709551615 - 9218868437227405312)=x % 4503599627370496+x / 9223372036854775808*9223372036854775808:=by
  have e1:18446744073709551615 - 9218868437227405312=2 ^ 63 ||| (2 ^ 52 - 1):=by decide
  rw [e1,Nat.and_or_distrib_left,Nat.and_two_pow_sub_one_eq_mod,nat_bit]
  have h7:(2:Nat) ^ 52=4503599627370496:=by decide
  have h8:(2:Nat) ^ 63=9223372036854775808:=by decide
  rw [nat_join 63 _ _ (Nat.mul_mod_left _ _) (by rw [h7,h8];omega),h7,h8]
  omega
 rw [e] at h
 exact h
theorem i64_and2047 (n:Nat):bits BinOp.and IntKind.i64 (n:Int) 2047=((n % 2048:Nat):Int):=by
 have h127:(BitVec.ofInt 64 2047).toNat=2 ^ 11 - 1:=by decide
 have key:(BitVec.ofInt 64 (n:Int) &&& BitVec.ofInt 64 2047).toNat=((n:Int) % ((2 ^ 64:Nat):Int)).toNat % 2 ^ 11:=by
  rw [BitVec.toNat_and,BitVec.toNat_ofInt,h127,Nat.and_two_pow_sub_one_eq_mod]
 show IntKind.i64.wrap ((BitVec.ofInt 64 (n:Int) &&& BitVec.ofInt 64 2047).toNat:Nat)=_
 rw [key,IntKind.wrap_i64]
 omega
theorem or_exp (x:Nat) (k:Nat) (hx:x<18446744073709551616) (hk:k<2048) :
  bits BinOp.or IntKind.u64 ((x % 4503599627370496+x / 9223372036854775808*9223372036854775808:Nat):Int) ((k*4503599627370496:Nat):Int)=((x % 4503599627370496+x / 9223372036854775808*9223372036854775808+k*4503599627370496:Nat):Int):=by
 have hs:x / 9223372036854775808<2:=by omega
 generalize x / 9223372036854775808=s at hs ⊢
 have hf:x % 4503599627370496<4503599627370496:=Nat.mod_lt _ (by omega)
 generalize x % 4503599627370496=f at hf ⊢
 rw [u64_or_nat _ _ (by omega) (by omega)]
 have h7:(2:Nat) ^ 52=4503599627370496:=by decide
 have h8:(2:Nat) ^ 63=9223372036854775808:=by decide
 have a1:=Nat.two_pow_add_eq_or_of_lt (i:=63) (b:=f) (by rw [h8];omega) s
 have a2:=Nat.two_pow_add_eq_or_of_lt (i:=52) (b:=f) (by rw [h7];omega) k
 have a3:=Nat.two_pow_add_eq_or_of_lt (i:=63) (b:=2 ^ 52*k+f) (by rw [h7,h8];omega) s
 have e1:f+s*9223372036854775808=2 ^ 63*s+f:=by rw [h8];omega
 have e2:k*4503599627370496=2 ^ 52*k:=by rw [h7];omega
 congr 1
 rw [e1,e2,a1,Nat.or_assoc,Nat.or_comm f,←a2,←a3,a1.symm]
 omega
set_option maxHeartbeats 1000000 in
set_option maxRecDepth 100000 in
theorem ldexp_in (x:Nat) (e m:Int) (r:Nat) (w:World) (h:Norm64 x) (he : -9223372036854775808≤e∧e<9223372036854775808) (hm:m=e+((x / 4503599627370496 % 2048:Nat):Int) - 1023) (hm1 : -1022≤m) (hm2:m≤1023)
  (hr:floatBits .mul .f64 4607182418800017408 (ldY x m)=some r):Calls Tryz.prog 143 #[.float .f64 x,.int .i64 e] w fun e w'=>e = .returned (.float .f64 r)∧w=w':=by
 have hz:=h.nz
 have hin:=isInf_any x w h.lt
 rw [h.inf] at hin
 have hnn:=isNaN_any x w
 rw [h.nan] at hnn
 have hno:=normalize_any x w h
 have hcb:=call_bits x
 have f1:wrap64 ((x:Int) / 4503599627370496)=((x / 4503599627370496:Nat):Int):=by
  have:=h.lt
  rw [IntWalk.wrap64_in _ (by omega)];rfl
 have f2:bits BinOp.and IntKind.i64 ((x / 4503599627370496:Nat):Int) 2047=((x / 4503599627370496 % 2048:Nat):Int):=i64_and2047 _
 have f4:wrap64 e=e:=IntWalk.wrap64_in _ (by omega)
 have hE:x / 4503599627370496 % 2048<2048:=Nat.mod_lt _ (by omega)
 have f3:wrap64 (((x / 4503599627370496 % 2048:Nat):Int) - 1023)=((x / 4503599627370496 % 2048:Nat):Int) - 1023:=IntWalk.wrap64_in _ (by omega)
 have f5:wrap64 (e+(((x / 4503599627370496 % 2048:Nat):Int) - 1023))=m:=by rw [IntWalk.wrap64_in _ (by omega)];omega
 obtain ⟨k,hk⟩:∃ k:Nat,m=(k:Int) - 1023:=⟨(m+1023).toNat,by omega⟩
 subst hk
 have hk1:1≤k:=by omega
 have hk2:k≤2046:=by omega
 have f6:=andNot_exp x h.lt
 have f7:=or_exp x k h.lt (by omega)
 have f8:((k*4503599627370496:Nat):Int)=(k:Int)*4503599627370496:=by omega
 rw [f8] at f7
 have hY:ldY x ((k:Int) - 1023)=x % 4503599627370496+x / 9223372036854775808*9223372036854775808+k*4503599627370496:=by
  unfold ldY;rw [show (k:Int) - 1023+1023=(k:Int) from by omega];rfl
 rw [hY] at hr
 generalize x % 4503599627370496+x / 9223372036854775808*9223372036854775808+k*4503599627370496=Y at f7 hr
 generalize x % 4503599627370496+x / 9223372036854775808*9223372036854775808=F at f6 f7
 have hmul:=fun W:World=>run_float_arith (P:=Tryz.prog) W .mul 154 .f64 4607182418800017408 Y r hr
 have hfb:=call_frombits Y
 generalize x / 4503599627370496 % 2048=E at *
 generalize x / 4503599627370496=X at *
 have hin2:=Lib.hid hin
 clear hin hm hr hY hm1 hm2 he
 go_enter Tryz.func143,Tryz.ntmps143
 go_wp2_with fail
 refine hin2.out.mono ?_
 rintro e w1 ⟨rfl,rfl⟩
 go_wp2_with fail
 refine hnn.mono ?_
 rintro e w1 ⟨rfl,rfl⟩
 go_wp2_with fail
 refine hno.mono ?_
 rintro e w1 ⟨rfl,rfl⟩
 go_wp2_with fail
 go_ret
 exact ⟨rfl,rfl⟩
end Go.Proofs.YtjhgadajpliclaaGreatDoor
namespace Go.Proofs.YtjhgadajpliclaaGreatDoor
open Go.RowKit
open Flt
theorem ord_not_gt {x y:Nat} (hx:fin Ieee.double x=true) (hy:fin Ieee.double y=true) (h:key Ieee.double x≤key Ieee.double y):(FloatKind.f64.format.order x y==some .gt)=false:=by
 show (Ieee.double.order x y==some .gt)=false
 rw [order_fin hx hy]
 generalize key Ieee.double x=a at h
 generalize key Ieee.double y=b at h
 rcases Int.lt_trichotomy a b with h1 | h1 | h1
 ·rw [cmp_lt h1];rfl
 ·subst h1;rw [cmp_eq];rfl
 ·omega
theorem ord_not_lt {x y:Nat} (hx:fin Ieee.double x=true) (hy:fin Ieee.double y=true) (h:key Ieee.double y≤key Ieee.double x):(FloatKind.f64.format.order x y==some .lt)=false:=by
 show (Ieee.double.order x y==some .lt)=false
 rw [order_fin hx hy]
 generalize key Ieee.double x=a at h
 generalize key Ieee.double y=b at h
 rcases Int.lt_trichotomy a b with h1 | h1 | h1
 ·omega
 ·subst h1;rw [cmp_eq];rfl
 ·rw [cmp_gt h1];rfl
theorem ord_not_eq {x y:Nat} (hx:fin Ieee.double x=true) (hy:fin Ieee.double y=true) (h:key Ieee.double x≠key Ieee.double y):(FloatKind.f64.format.order x y==some .eq)=false:=by
 show (Ieee.double.order x y==some .eq)=false
 rw [order_fin hx hy]
 generalize key Ieee.double x=a at h
 generalize key Ieee.double y=b at h
 rcases Int.lt_trichotomy a b with h1 | h1 | h1
 ·rw [cmp_lt h1];rfl
 ·exact absurd h1 h
 ·rw [cmp_gt h1];rfl
theorem ord_self {x:Nat} (hx:fin Ieee.double x=true):(FloatKind.f64.format.order x x != some .eq)=false:=by
 show (Ieee.double.order x x != some .eq)=false
 rw [order_fin hx hx,cmp_eq];rfl
theorem max_read:Ieee.double.read 9218868437227405311 = .number false 9007199254740991 971:=by decide +kernel
theorem min_read:Ieee.double.read 4503599627370496 = .number false 4503599627370496 (-1074):=by decide +kernel
theorem zero_read:Ieee.double.read 0 = .number false 0 (-1074):=by decide +kernel
theorem dn_word {n:Nat} {e:Int} (h0:0<n) (h1:n<9007199254740992) (he : -1022≤e+n.log2) (he2:e+n.log2≤1023) :
  ∃ F:Nat,F<4503599627370496∧dn n e=(e+n.log2+1023).toNat*4503599627370496+F∧F=sg n - 4503599627370496:=by
 have hn:=sg_nrm h0 h1 he he2
 have:=hn.lo
 have:=hn.hi
 refine ⟨sg n - 4503599627370496,by omega,?_,rfl⟩
 unfold dn dw Ieee.Format.word
 rw [if_neg (by decide)]
 omega
theorem norm_dn {n:Nat} (h0:0<n) (h1:n<9007199254740992):Norm64 (dn n 0)∧dn n 0 / 9223372036854775808=0∧dn n 0 / 4503599627370496 % 2048=n.log2+1023:=by
 have e53:(2:Nat) ^ 53=9007199254740992:=by decide
 have a3:n.log2<53:=(Nat.log2_lt (by omega)).2 (by omega)
 obtain ⟨F,hF,hw,_⟩:=dn_word (e:=0) h0 h1 (by omega) (by omega)
 have hlt:dn n 0<9223372036854775808:=by omega
 have hab:absB (dn n 0)=dn n 0:=Nat.mod_eq_of_lt hlt
 have f1:=fin_dn (e:=0) h0 h1 (by omega) (by omega)
 have k1:=key_dn (e:=0) h0 h1 (by omega) (by omega) (by omega)
 have f2:=fin_of_read max_read
 have k2:=key_of_read max_read
 have f3:=fin_of_read min_read
 have k3:=key_of_read min_read
 have f4:=fin_of_read zero_read
 have k4:=key_of_read zero_read
 rw [dbl_least] at k2 k3 k4
 have hp:∀ k:Nat,0<2 ^ k:=fun k=>Nat.two_pow_pos k
 refine ⟨⟨by omega,ord_not_eq f1 f4 ?_,?_,ord_self f1,?_⟩,by omega,by omega⟩
 ·rw [k1,k4,Nat.zero_mul]
  have:=Nat.mul_pos h0 (hp (0+1074:Int).toNat)
  generalize n*2 ^ (0+1074:Int).toNat=A at this
  omega
 ·rw [hab]
  refine ord_not_gt f1 f2 ?_
  rw [k1,k2]
  obtain ⟨a,ha⟩:∃ a:Nat,(0+1074:Int).toNat=a∧(a:Int)=1074:=⟨_,rfl,by decide⟩
  obtain ⟨b,hb⟩:∃ b:Nat,(971 - -1074:Int).toNat=b∧(b:Int)=2045:=⟨_,rfl,by decide⟩
  rw [ha.1,hb.1]
  have:=Nat.mul_le_mul (show n≤9007199254740991 by omega) (Nat.pow_le_pow_right (show 0<2 by decide) (show a≤b by omega))
  exact Int.ofNat_le.2 this
 ·rw [hab]
  refine ord_not_lt f1 f3 ?_
  rw [k1,k3]
  obtain ⟨a,ha⟩:∃ a:Nat,(0+1074:Int).toNat=a∧(a:Int)=1074:=⟨_,rfl,by decide⟩
  obtain ⟨b,hb⟩:∃ b:Nat,(-1074 - -1074:Int).toNat=b∧(b:Int)=0:=⟨_,rfl,by decide⟩
  rw [ha.1,hb.1]
  have hb0:b=0:=by omega
  have e52:(2:Nat) ^ 52=4503599627370496:=by decide
  subst hb0
  rw [←e52,Nat.pow_zero,Nat.mul_one]
  have:=Nat.mul_le_mul (show 1≤n from h0) (Nat.pow_le_pow_right (show 0<2 by decide) (show 52≤a by omega))
  rw [Nat.one_mul] at this
  exact Int.ofNat_le.2 this
theorem ldexp_dn {n:Nat} {e:Int} (w:World) (h0:0<n) (h1:n<9007199254740992) (he : -1022≤e+n.log2) (he2:e+n.log2≤1023) :
  Calls Tryz.prog 143 #[.float .f64 (dn n 0),.int .i64 e] w fun e' w'=>e' = .returned (.float .f64 (dn n e))∧w=w':=by
 have e53:(2:Nat) ^ 53=9007199254740992:=by decide
 have a3:n.log2<53:=(Nat.log2_lt (by omega)).2 (by omega)
 obtain ⟨hN,hs,hE⟩:=norm_dn h0 h1
 obtain ⟨F,hF,hw,hF2⟩:=dn_word (e:=0) h0 h1 (by omega) (by omega)
 obtain ⟨G,hG,hv,hG2⟩:=dn_word (e:=e) h0 h1 he he2
 have hY:ldY (dn n 0) (e+n.log2)=dn n e:=by
  unfold ldY
  rw [hs,hv]
  omega
 refine ldexp_in (dn n 0) e (e+n.log2) (dn n e) w hN (by omega) (by rw [hE];omega) he he2 ?_
 rw [hY]
 exact one_mul false (sg_nrm h0 h1 he he2)
set_option maxRecDepth 100000 in
theorem inf_one (w:World):Calls Tryz.prog 153 #[.int .i64 1] w fun e w'=>e = .returned (.float .f64 9218868437227405312)∧w=w':=by
 have hf:∀ W:World,(callFunc 192 #[.int .u64 (9218868437227405312:Int)]).run Tryz.prog W = .ok (.value (.float .f64 9218868437227405312)) W:=fun W=>call_frombits 9218868437227405312 W
 go_enter Tryz.func153,Tryz.ntmps153
 go_wp2
 go_ret
 exact ⟨rfl,rfl⟩
set_option maxHeartbeats 1000000 in
set_option maxRecDepth 100000 in
theorem ldexp_over (x:Nat) (e m:Int) (w:World) (h:Norm64 x) (he : -9223372036854775808≤e∧e<9223372036854770000) (hm:m=e+((x / 4503599627370496 % 2048:Nat):Int) - 1023) (hm1:1023<m) (hp:(FloatKind.f64.format.order x 0==some .lt)=false) :
  Calls Tryz.prog 143 #[.float .f64 x,.int .i64 e] w fun e w'=>e = .returned (.float .f64 9218868437227405312)∧w=w':=by
 have hz:=h.nz
 have hin:=isInf_any x w h.lt
 rw [h.inf] at hin
 have hnn:=isNaN_any x w
 rw [h.nan] at hnn
 have hno:=normalize_any x w h
 have hcb:=call_bits x
 have f1:wrap64 ((x:Int) / 4503599627370496)=((x / 4503599627370496:Nat):Int):=by
  have:=h.lt
  rw [IntWalk.wrap64_in _ (by omega)];rfl
 have f2:bits BinOp.and IntKind.i64 ((x / 4503599627370496:Nat):Int) 2047=((x / 4503599627370496 % 2048:Nat):Int):=i64_and2047 _
 have hE:x / 4503599627370496 % 2048<2048:=Nat.mod_lt _ (by omega)
 have f4:wrap64 e=e:=IntWalk.wrap64_in _ (by omega)
 have f3:wrap64 (((x / 4503599627370496 % 2048:Nat):Int) - 1023)=((x / 4503599627370496 % 2048:Nat):Int) - 1023:=IntWalk.wrap64_in _ (by omega)
 have f5:wrap64 (e+(((x / 4503599627370496 % 2048:Nat):Int) - 1023))=m:=by rw [IntWalk.wrap64_in _ (by omega)];omega
 generalize x / 4503599627370496 % 2048=E at *
 generalize x / 4503599627370496=X at *
 have hin2:=Lib.hid hin
 clear hin hm he
 go_enter Tryz.func143,Tryz.ntmps143
 go_wp2_with fail
 refine hin2.out.mono ?_
 rintro e w1 ⟨rfl,rfl⟩
 go_wp2_with fail
 refine hnn.mono ?_
 rintro e w1 ⟨rfl,rfl⟩
 go_wp2_with fail
 refine hno.mono ?_
 rintro e w1 ⟨rfl,rfl⟩
 go_wp2_with fail
 refine (inf_one _).mono ?_
 rintro e w1 ⟨rfl,rfl⟩
 go_wp2_with fail
 go_ret
 exact ⟨rfl,rfl⟩
theorem ldexp_big {n:Nat} {e:Int} (w:World) (h0:0<n) (h1:n<9007199254740992) (he2:1023<e+n.log2) (he3:e<9223372036854770000) :
  Calls Tryz.prog 143 #[.float .f64 (dn n 0),.int .i64 e] w fun e' w'=>e' = .returned (.float .f64 9218868437227405312)∧w=w':=by
 have e53:(2:Nat) ^ 53=9007199254740992:=by decide
 have a3:n.log2<53:=(Nat.log2_lt (by omega)).2 (by omega)
 obtain ⟨hN,hs,hE⟩:=norm_dn h0 h1
 refine ldexp_over (dn n 0) e (e+n.log2) w hN (by omega) (by rw [hE];omega) he2 ?_
 have f1:=fin_dn (e:=0) h0 h1 (by omega) (by omega)
 have k1:=key_dn (e:=0) h0 h1 (by omega) (by omega) (by omega)
 have f4:=fin_of_read zero_read
 have k4:=key_of_read zero_read
 refine ord_not_lt f1 f4 ?_
 rw [k1,k4,Nat.zero_mul]
 generalize n*2 ^ (0+1074:Int).toNat=A
 omega
theorem zero_eq:(FloatKind.f64.format.order 0 0==some .eq)=true:=by decide +kernel
theorem ldexp_zero {e:Int} (w:World):Calls Tryz.prog 143 #[.float .f64 0,.int .i64 e] w fun e' w'=>e' = .returned (.float .f64 0)∧w=w':=by
 have hz:=zero_eq
 go_enter Tryz.func143,Tryz.ntmps143
 go_wp2
 go_ret
 exact ⟨rfl,rfl⟩
theorem Ldexp_any {x r:Nat} {e:Int} (w:World) (h:Calls Tryz.prog 143 #[.float .f64 x,.int .i64 e] w fun e' w'=>e' = .returned (.float .f64 r)∧w=w') :
  Calls Tryz.prog 99 #[.float .f64 x,.int .i64 e] w fun e' w'=>e' = .returned (.float .f64 r)∧w=w':=by
 have h2:=Lib.hid h
 clear h
 go_enter Tryz.func99,Tryz.ntmps99
 go_wp2_with fail
 refine h2.out.mono ?_
 rintro e w1 ⟨rfl,rfl⟩
 go_wp2_with fail
 go_ret
 exact ⟨rfl,rfl⟩
set_option maxHeartbeats 60000
theorem i_dw (s:Bool) {m:Nat} {p:Int} (h:Nrm m p):∃ F R:Nat,F<4503599627370496∧m=4503599627370496+F∧(R:Int)=p+1075∧R<2047∧dw s m p=s.toNat*9223372036854775808+R*4503599627370496+F:=by
 have:=h.lo;have:=h.hi;have:=h.p0;have:=h.p1
 refine ⟨m - 4503599627370496,(p+1075).toNat,by omega,by omega,by omega,by omega,?_⟩
 unfold dw Ieee.Format.word
 rw [dbl_sign]
 cases s
 ·rw [if_neg (by decide)];show _=0*_+_+_;omega
 ·rw [if_pos rfl];show _=1*_+_+_;omega
theorem key_pos {f:Ieee.Format} {b m:Nat} {s:Bool} {p:Int} (h:f.read b = .number s m p) (hm:0<m):key f b≠0:=by
 unfold key;rw [h]
 simp only [Ieee.signed,Nat.shiftLeft_eq]
 have:=Nat.mul_pos hm (Nat.two_pow_pos (p - f.leastPlace).toNat)
 generalize m*2 ^ (p - f.leastPlace).toNat=A at this
 split<;>omega
theorem norm_dw (s:Bool) {m:Nat} {p:Int} (h:Nrm m p):Norm64 (dw s m p):=by
 have hlo:=h.lo;have hhi:=h.hi;have hp0:=h.p0;have hp1:=h.p1
 obtain ⟨F,R,hF,hm,hR,hR2,hw⟩:=i_dw s h
 obtain ⟨F',R',hF',hm',hR',hR2',hw'⟩:=i_dw false h
 have hs:s.toNat≤1:=by cases s<;>decide
 have hab:absB (dw s m p)=dw false m p:=by
  have:false.toNat=0:=rfl
  rw [this] at hw'
  unfold absB
  omega
 have f1:=fin_of_read (read_dw s h)
 have f1':=fin_of_read (read_dw false h)
 have k1:=key_of_read (read_dw false h)
 have f2:=fin_of_read max_read
 have k2:=key_of_read max_read
 have f3:=fin_of_read min_read
 have k3:=key_of_read min_read
 have f4:=fin_of_read zero_read
 have k4:=key_of_read zero_read
 rw [dbl_least] at k1 k2 k3 k4
 refine ⟨by omega,ord_not_eq f1 f4 ?_,?_,ord_self f1,?_⟩
 ·rw [k4,Nat.zero_mul];exact key_pos (read_dw s h) (by omega)
 ·rw [hab]
  refine ord_not_gt f1' f2 ?_
  rw [k1,k2]
  obtain ⟨a,ha⟩:∃ a:Nat,(p - -1074:Int).toNat=a∧(a:Int)=p+1074:=⟨_,rfl,by omega⟩
  obtain ⟨b,hb⟩:∃ b:Nat,(971 - -1074:Int).toNat=b∧(b:Int)=2045:=⟨_,rfl,by decide⟩
  rw [ha.1,hb.1]
  have:=Nat.mul_le_mul (show m≤9007199254740991 by omega) (Nat.pow_le_pow_right (show 0<2 by decide) (show a≤b by omega))
  exact Int.ofNat_le.2 this
 ·rw [hab]
  refine ord_not_lt f1' f3 ?_
  rw [k1,k3]
  obtain ⟨a,ha⟩:∃ a:Nat,(p - -1074:Int).toNat=a∧(a:Int)=p+1074:=⟨_,rfl,by omega⟩
  obtain ⟨b,hb⟩:∃ b:Nat,(-1074 - -1074:Int).toNat=b∧(b:Int)=0:=⟨_,rfl,by decide⟩
  rw [ha.1,hb.1]
  have hb0:b=0:=by omega
  subst hb0
  have:=Nat.mul_le_mul hlo (Nat.pow_le_pow_right (show 0<2 by decide) (show 0≤a by omega))
  exact Int.ofNat_le.2 this
theorem u64_and2047 (n:Nat) (h:n<18446744073709551616):bits BinOp.and IntKind.u64 (n:Int) 2047=((n % 2048:Nat):Int):=by
 have:=u64_and_nat n 2047 h (by omega)
 rw [show n &&& 2047=n % 2048 from Nat.and_two_pow_sub_one_eq_mod n 11] at this
 exact this
set_option maxHeartbeats 200000 in
set_option maxRecDepth 100000 in
theorem frexp_in (x Y:Nat) (m:Int) (w:World) (h:Norm64 x) (hm:m=((x / 4503599627370496 % 2048:Nat):Int) - 1022)
  (hY:Y=x % 4503599627370496+x / 9223372036854775808*9223372036854775808+4602678819172646912) :
  Calls Tryz.prog 214 #[.float .f64 x] w fun e w'=>e = .returned (.tuple #[.float .f64 Y,.int .i64 m])∧w=w':=by
 have hz:=h.nz
 have hin:=isInf_any x w h.lt
 rw [h.inf] at hin
 have hnn:=isNaN_any x w
 rw [h.nan] at hnn
 have hno:=normalize_any x w h
 have hcb:=call_bits x
 have hlt:=h.lt
 have f2:=u64_and2047 (x / 4503599627370496) (by omega)
 have f0:((x / 4503599627370496:Nat):Int)=(x:Int) / 4503599627370496:=by omega
 rw [f0] at f2
 have hE:x / 4503599627370496 % 2048<2048:=Nat.mod_lt _ (by omega)
 have f3:wrap64 (((x / 4503599627370496 % 2048:Nat):Int) - 1023)=((x / 4503599627370496 % 2048:Nat):Int) - 1023:=IntWalk.wrap64_in _ (by omega)
 have f4:wrap64 (((x / 4503599627370496 % 2048:Nat):Int) - 1023+1)=m:=by rw [IntWalk.wrap64_in _ (by omega)];omega
 have f5:wrap64 m=m:=IntWalk.wrap64_in _ (by omega)
 have f8:wrap64 ((x / 4503599627370496 % 2048:Nat):Int)=((x / 4503599627370496 % 2048:Nat):Int):=IntWalk.wrap64_in _ (by omega)
 have f6:=andNot_exp x h.lt
 obtain ⟨k,hk⟩:∃ k:Nat,k=1022:=⟨_,rfl⟩
 have f7:=or_exp x k h.lt (by omega)
 have f9:((k*4503599627370496:Nat):Int)=4602678819172646912:=by omega
 have f10:x % 4503599627370496+x / 9223372036854775808*9223372036854775808+k*4503599627370496=Y:=by omega
 rw [f10,f9] at f7
 clear hk f9 f10
 generalize x % 4503599627370496+x / 9223372036854775808*9223372036854775808=F at f6 f7
 have hfb:=call_frombits Y
 generalize x / 4503599627370496 % 2048=E at *
 have hin2:=Lib.hid hin
 have HM:Hid ((E:Int) - 1023+1=m):=by rw [hm];show (E:Int) - 1023+1=(E:Int) - 1022;omega
 clear hin hm hY f0
 go_enter Tryz.func214,Tryz.ntmps214
 go_wp2_with fail
 refine hin2.out.mono ?_
 rintro e w1 ⟨rfl,rfl⟩
 go_wp2_with fail
 refine hnn.mono ?_
 rintro e w1 ⟨rfl,rfl⟩
 go_wp2_with fail
 refine hno.mono ?_
 rintro e w1 ⟨rfl,rfl⟩
 go_upto_region 7 with fail
 have F6:=Lib.hid f6
 have F7:=Lib.hid f7
 clear f6 f7 hz hnn hno hin2 hcb h hlt
 have HFB:=Lib.hid hfb
 clear hfb
 go_upto_region 8 with fail
 clear f2 f3 f8
 have f6:=F6.out
 have f7:=F7.out
 have hfb:=HFB.out
 go_wp2_with fail
 go_ret2
 exact ⟨by rw [←HM.out];rfl,rfl⟩
theorem frexp_dw (s:Bool) {m:Nat} {p:Int} (w:World) (h:Nrm m p) :
  Calls Tryz.prog 214 #[.float .f64 (dw s m p)] w fun e w'=>e = .returned (.tuple #[.float .f64 (dw s m (-53)),.int .i64 (p+53)])∧w=w':=by
 have hN:=norm_dw s h
 obtain ⟨F,R,hF,hm,hR,hR2,hw⟩:=i_dw s h
 obtain ⟨F',R',hF',hm',hR',hR2',hw'⟩:=i_dw (m:=m) (p := -53) s ⟨h.lo,h.hi,by omega,by omega⟩
 have hs:s.toNat≤1:=by cases s<;>decide
 exact frexp_in (dw s m p) (dw s m (-53)) (p+53) w hN (by omega) (by omega)
theorem Frexp_of {x r:Nat} {i:Int} (w:World) (h:Calls Tryz.prog 214 #[.float .f64 x] w fun e w'=>e = .returned (.tuple #[.float .f64 r,.int .i64 i])∧w=w') :
  Calls Tryz.prog 172 #[.float .f64 x] w fun e w'=>e = .returned (.tuple #[.float .f64 r,.int .i64 i])∧w=w':=by
 have h2:=Lib.hid h
 clear h
 go_enter Tryz.func172,Tryz.ntmps172
 go_wp2_with fail
 refine h2.out.mono ?_
 rintro e w1 ⟨rfl,rfl⟩
 go_wp2_with fail
 go_ret2
 exact ⟨rfl,rfl⟩
theorem frexp_zero (x:Nat) (w:World) (hz:(FloatKind.f64.format.order x 0==some .eq)=true) :
  Calls Tryz.prog 214 #[.float .f64 x] w fun e w'=>e = .returned (.tuple #[.float .f64 x,.int .i64 0])∧w=w':=by
 go_enter Tryz.func214,Tryz.ntmps214
 go_wp2_with fail
 go_ret2
 exact ⟨rfl,rfl⟩
end Go.Proofs.YtjhgadajpliclaaGreatDoor
namespace Go.Proofs.YtjhgadajpliclaaGreatDoor
open Go.RowKit Bn
theorem u64_mod (z:Int):IntKind.u64.wrap z=z % 18446744073709551616:=by
 first | rfl | (unfold IntKind.wrap;rfl) | (unfold IntKind.wrap IntKind.signed IntKind.bits;simp)
set_option maxHeartbeats 2000000 in
set_option maxRecDepth 100000 in
theorem integer_any (z:Int) (w:World) (h0 : -9223372036854775808≤z) (h1:z<9223372036854775808) :
  Calls Tryz.prog 173 #[.int .i64 z] w (RetRat w ⟨decide (z<0),z.natAbs,1⟩):=by
 have hb3:Below w.heap.size w (w.alloc (.cells #[.bool false,.slice none 0 0,.slice none 0 0] 159)):=(Below.refl _ _).alloc (Nat.le_refl _) _
 go_enter Tryz.func173,Tryz.ntmps173
 by_cases hz:z<0
 ·have hd:decide (z<0)=true:=by simpa using hz
  have hw1:IntKind.u64.wrap z=z+18446744073709551616:=by rw [u64_mod];omega
  have hw2:IntKind.u64.wrap (-(z+18446744073709551616)) = -z:=by rw [u64_mod];omega
  go_wp2_with fail
  refine (naturalOf_any (-z) _ (by omega) (by omega)).mono ?_
  rintro e w4 ⟨A5,m5,c5,rfl,hn5,hb5⟩
  go_wp2_with fail
  refine (naturalOf_any 1 _ (by omega) (by omega)).mono ?_
  rintro e w6 ⟨A6,m6,c6,rfl,hn6,hb6⟩
  have hk:=((ResBlk.new w false (.slice none 0 0) (.slice none 0 0)).below hb5 (by simp)).below hb6 (by have:=hb5.size;simp at this;omega)
  obtain ⟨k0,k1,k2,f0,f1,f2,_⟩:=hk.cells
  have hball:=(hb3.trans (hb5.mono hb3.size)).trans (hb6.mono (by have:=hb5.size;simp at this;omega))
  have hset:=three_set hball (g:=w.heap.size) (Nat.le_refl _) (.bool true) (.slice A5 m5 c5) (.slice A6 m6 c6)
  have hna:(-z).toNat=z.natAbs:=by omega
  go_wp2
  refine bodyPost_ret (v := .agg #[.bool true,.slice A5 m5 c5,.slice A6 m6 c6]) (by simp [results,Tryz.results173,go_sem,k0,k1,k2]) rfl ⟨_,rfl,⟨A5,m5,c5,A6,m6,c6,by rw [hd],?_,?_⟩,hset⟩
  ·rw [size_set3];show NatS _ _ A5 m5 c5 z.natAbs;rw [←hna];exact (hn5.later hb6).res hk _ _ _
  ·rw [size_set3];exact hn6.res hk _ _ _
 ·have hd:decide (z<0)=false:=by simpa using hz
  have hw1:IntKind.u64.wrap z=z:=by rw [u64_mod];omega
  go_wp2_with fail
  refine (naturalOf_any (z) _ (by omega) (by omega)).mono ?_
  rintro e w4 ⟨A5,m5,c5,rfl,hn5,hb5⟩
  go_wp2_with fail
  refine (naturalOf_any 1 _ (by omega) (by omega)).mono ?_
  rintro e w6 ⟨A6,m6,c6,rfl,hn6,hb6⟩
  have hk:=((ResBlk.new w false (.slice none 0 0) (.slice none 0 0)).below hb5 (by simp)).below hb6 (by have:=hb5.size;simp at this;omega)
  obtain ⟨k0,k1,k2,f0,f1,f2,_⟩:=hk.cells
  have hball:=(hb3.trans (hb5.mono hb3.size)).trans (hb6.mono (by have:=hb5.size;simp at this;omega))
  have hset:=three_set hball (g:=w.heap.size) (Nat.le_refl _) (.bool false) (.slice A5 m5 c5) (.slice A6 m6 c6)
  have hna:(z).toNat=z.natAbs:=by omega
  go_wp2
  refine bodyPost_ret (v := .agg #[.bool false,.slice A5 m5 c5,.slice A6 m6 c6]) (by simp [results,Tryz.results173,go_sem,k0,k1,k2]) rfl ⟨_,rfl,⟨A5,m5,c5,A6,m6,c6,by rw [hd],?_,?_⟩,hset⟩
  ·rw [size_set3];show NatS _ _ A5 m5 c5 z.natAbs;rw [←hna];exact (hn5.later hb6).res hk _ _ _
  ·rw [size_set3];exact hn6.res hk _ _ _
end Go.Proofs.YtjhgadajpliclaaGreatDoor
