/- Contracts of math.Ldexp and what it calls. -/
import Derived.Test.YtbkgkoenppkhpaaGreatDoorGRtx
import Derived.Test.YtbkgkoenppkhpaaGreatDoorGWords
import Derived.Laws.Cover2
import Derived.Laws.BitsAllLaws
import Derived.Laws.FloatArith
import Derived.Test.YtbkgkoenppkhpaaGreatDoorGFl2
import Derived.Test.YtbkgkoenppkhpaaGreatDoorGRat5
import Derived.Test.YtbkgkoenppkhpaaGreatDoorGBld
set_option maxRecDepth 100000
set_option maxHeartbeats 1000000
namespace Go.Proofs.YtbkgkoenppkhpaaGreatDoor
section
open Go.RowKit
theorem zex (x:Nat) (w:World):(callFunc 195 #[.float .f64 x]).run Tryz.prog w = .ok (.value (.int .u64 x)) w:=by
 rw [run_callFunc_extern Tryz.func195 (by kernel_rfl) (by kernel_rfl) (by kernel_rfl) (e:=Extern.MathFloatBits.float64bits) (by kernel_rfl)];rfl
theorem zcd (x:Nat) (w:World):(callFunc 196 #[.int .u64 x]).run Tryz.prog w = .ok (.value (.float .f64 x)) w:=by
 rw [run_callFunc_extern Tryz.func196 (by kernel_rfl) (by kernel_rfl) (by kernel_rfl) (e:=Extern.MathFloatBits.float64frombits) (by kernel_rfl)];rfl
def absB (x:Nat):Nat:=x % 9223372036854775808
theorem zj8 (x:Nat) (hx:x<18446744073709551616):bits BinOp.andNot IntKind.u64 (x:Int) 9223372036854775808=((absB x:Nat):Int):=by
 have h:=u64_andNot_nat x 9223372036854775808 hx (by omega);have e:x &&& (18446744073709551615 - 9223372036854775808)=absB x:=by
  rw [show 18446744073709551615 - 9223372036854775808=2 ^ 63 - 1 from by decide,Nat.and_two_pow_sub_one_eq_mod];rfl
 rw [e] at h;exact h
theorem zc2 (x:Nat) (w:World):Calls Tryz.prog 149 #[.float .f64 x] w fun e w'=>e = .returned (.bool (FloatKind.f64.format.order x x != some .eq))∧w=w':=by
 go_enter Tryz.func149,Tryz.ntmps149
 go_wp2
 go_ret;exact ⟨rfl,rfl⟩
theorem zkZ (x:Nat) (w:World) (hx:x<18446744073709551616):Calls Tryz.prog 193 #[.float .f64 x] w fun e w'=>e = .returned (.float .f64 (absB x))∧w=w':=by
 have h1:=zj8 x hx;have hb:=zex x;have hf:=zcd (absB x);go_enter Tryz.func193,Tryz.ntmps193
 go_wp2
 go_ret;exact ⟨rfl,rfl⟩
theorem zdt (x:Nat) (w:World) (hx:x<18446744073709551616):Calls Tryz.prog 150 #[.float .f64 x,.int .i64 0] w fun e w'=>e = .returned (.bool (FloatKind.f64.format.order (absB x) 9218868437227405311==some .gt))∧w=w':=by
 go_enter Tryz.func150,Tryz.ntmps150
 go_wp2_with fail
 refine (zkZ x _ hx).mono ?_;rintro e w1 ⟨rfl,rfl⟩;go_wp2
 go_ret;exact ⟨rfl,rfl⟩
structure Norm64 (x:Nat):Prop where
 lt:x<18446744073709551616
 nz:(FloatKind.f64.format.order x 0==some .eq)=false
 inf:(FloatKind.f64.format.order (absB x) 9218868437227405311==some .gt)=false
 nan:(FloatKind.f64.format.order x x != some .eq)=false
 big:(FloatKind.f64.format.order (absB x) 4503599627370496==some .lt)=false
theorem zc6 (x:Nat) (w:World) (h:Norm64 x):Calls Tryz.prog 194 #[.float .f64 x] w fun e w'=>e = .returned (.tuple #[.float .f64 x,.int .i64 0])∧w=w':=by
 have hb:=h.big;go_enter Tryz.func194,Tryz.ntmps194
 go_wp2_with fail
 refine (zkZ x _ h.lt).mono ?_;rintro e w1 ⟨rfl,rfl⟩;go_wp2
 go_ret2
 exact ⟨rfl,rfl⟩
def ldY (x:Nat) (m:Int):Nat:=x % 4503599627370496+x / 9223372036854775808*9223372036854775808+(m+1023).toNat*4503599627370496
theorem zgG (x:Nat) (hx:x<18446744073709551616):bits BinOp.andNot IntKind.u64 (x:Int) 9218868437227405312=((x % 4503599627370496+x / 9223372036854775808*9223372036854775808:Nat):Int):=by
 have h:=u64_andNot_nat x 9218868437227405312 hx (by omega);have e:x &&& (18446744073709551615 - 9218868437227405312)=x % 4503599627370496+x / 9223372036854775808*9223372036854775808:=by
  have e1:18446744073709551615 - 9218868437227405312=2 ^ 63 ||| (2 ^ 52 - 1):=by decide
  rw [e1,Nat.and_or_distrib_left,Nat.and_two_pow_sub_one_eq_mod,nat_bit];have h7:(2:Nat) ^ 52=4503599627370496:=by decide
  have h8:(2:Nat) ^ 63=9223372036854775808:=by decide
  rw [nat_join 63 _ _ (Nat.mul_mod_left _ _) (by rw [h7,h8];omega),h7,h8];omega
 rw [e] at h;exact h
theorem zfS (n:Nat):bits BinOp.and IntKind.i64 (n:Int) 2047=((n % 2048:Nat):Int):=by
 have aA:(BitVec.ofInt 64 2047).toNat=2 ^ 11 - 1:=by decide
 have key:(BitVec.ofInt 64 (n:Int) &&& BitVec.ofInt 64 2047).toNat=((n:Int) % ((2 ^ 64:Nat):Int)).toNat % 2 ^ 11:=by
  rw [BitVec.toNat_and,BitVec.toNat_ofInt,aA,Nat.and_two_pow_sub_one_eq_mod]
 show IntKind.i64.wrap ((BitVec.ofInt 64 (n:Int) &&& BitVec.ofInt 64 2047).toNat:Nat)=_
 rw [key,IntKind.wrap_i64];omega
theorem znW (x:Nat) (k:Nat) (hx:x<18446744073709551616) (hk:k<2048) :
  bits BinOp.or IntKind.u64 ((x % 4503599627370496+x / 9223372036854775808*9223372036854775808:Nat):Int) ((k*4503599627370496:Nat):Int)=((x % 4503599627370496+x / 9223372036854775808*9223372036854775808+k*4503599627370496:Nat):Int):=by
 have hs:x / 9223372036854775808<2:=by omega
 generalize x / 9223372036854775808=s at hs ⊢;have hf:x % 4503599627370496<4503599627370496:=Nat.mod_lt _ (by omega);generalize x % 4503599627370496=f at hf ⊢;rw [u64_or_nat _ _ (by omega) (by omega)];have h7:(2:Nat) ^ 52=4503599627370496:=by decide
 have h8:(2:Nat) ^ 63=9223372036854775808:=by decide
 have a1:=Nat.two_pow_add_eq_or_of_lt (i:=63) (b:=f) (by rw [h8];omega) s;have a2:=Nat.two_pow_add_eq_or_of_lt (i:=52) (b:=f) (by rw [h7];omega) k;have a3:=Nat.two_pow_add_eq_or_of_lt (i:=63) (b:=2 ^ 52*k+f) (by rw [h7,h8];omega) s;have e1:f+s*9223372036854775808=2 ^ 63*s+f:=by rw [h8];omega
 have e2:k*4503599627370496=2 ^ 52*k:=by rw [h7];omega
 congr 1
 rw [e1,e2,a1,Nat.or_assoc,Nat.or_comm f,←a2,←a3,a1.symm];omega
theorem zny (x:Nat) (e m:Int) (r:Nat) (w:World) (h:Norm64 x) (he : -9223372036854775808≤e∧e<9223372036854775808) (hm:m=e+((x / 4503599627370496 % 2048:Nat):Int) - 1023) (hm1 : -1022≤m) (hm2:m≤1023)
  (hr:floatBits .mul .f64 4607182418800017408 (ldY x m)=some r):Calls Tryz.prog 160 #[.float .f64 x,.int .i64 e] w fun e w'=>e = .returned (.float .f64 r)∧w=w':=by
 have hz:=h.nz;have aA:=zdt x w h.lt;rw [h.inf] at aA;have aD:=zc2 x w;rw [h.nan] at aD;have aF:=zc6 x w h;have aG:=zex x;have f1:wrap64 ((x:Int) / 4503599627370496)=((x / 4503599627370496:Nat):Int):=by
  have:=h.lt;rw [IntWalk.wrap64_in _ (by omega)];rfl
 have f2:bits BinOp.and IntKind.i64 ((x / 4503599627370496:Nat):Int) 2047=((x / 4503599627370496 % 2048:Nat):Int):=zfS _;have f4:wrap64 e=e:=IntWalk.wrap64_in _ (by omega);have hE:x / 4503599627370496 % 2048<2048:=Nat.mod_lt _ (by omega);have f3:wrap64 (((x / 4503599627370496 % 2048:Nat):Int) - 1023)=((x / 4503599627370496 % 2048:Nat):Int) - 1023:=IntWalk.wrap64_in _ (by omega);have f5:wrap64 (e+(((x / 4503599627370496 % 2048:Nat):Int) - 1023))=m:=by rw [IntWalk.wrap64_in _ (by omega)];omega
 obtain ⟨k,hk⟩:∃ k:Nat,m=(k:Int) - 1023:=⟨(m+1023).toNat,by omega⟩;subst hk;have aI:1≤k:=by omega
 have aH:k≤2046:=by omega
 have f6:=zgG x h.lt;have f7:=znW x k h.lt (by omega);have f8:((k*4503599627370496:Nat):Int)=(k:Int)*4503599627370496:=by omega
 rw [f8] at f7;have hY:ldY x ((k:Int) - 1023)=x % 4503599627370496+x / 9223372036854775808*9223372036854775808+k*4503599627370496:=by
  unfold ldY;rw [show (k:Int) - 1023+1023=(k:Int) from by omega];rfl
 rw [hY] at hr;generalize x % 4503599627370496+x / 9223372036854775808*9223372036854775808+k*4503599627370496=Y at f7 hr;generalize x % 4503599627370496+x / 9223372036854775808*9223372036854775808=F at f6 f7;have aE:=fun W:World=>run_float_arith (P:=Tryz.prog) W .mul 111 .f64 4607182418800017408 Y r hr
 have aJ:=zcd Y;generalize x / 4503599627370496 % 2048=E at *;generalize x / 4503599627370496=X at *;have aC:=Aa aA;clear aA hm hr hY hm1 hm2 he;go_enter Tryz.func160,Tryz.ntmps160
 go_wp2_with fail
 refine aC.out.mono ?_;rintro e w1 ⟨rfl,rfl⟩
 go_wp2_with fail
 refine aD.mono ?_;rintro e w1 ⟨rfl,rfl⟩
 go_wp2_with fail
 refine aF.mono ?_;rintro e w1 ⟨rfl,rfl⟩
 go_wp2_with fail
 go_ret;exact ⟨rfl,rfl⟩
end
section
open Go.RowKit
open Flt
theorem zgv {x y:Nat} (hx:fin Ieee.double x=true) (hy:fin Ieee.double y=true) (h:key Ieee.double x≤key Ieee.double y):(FloatKind.f64.format.order x y==some .gt)=false:=by
 show (Ieee.double.order x y==some .gt)=false
 rw [zcT hx hy];generalize key Ieee.double x=a at h;generalize key Ieee.double y=b at h
 rcases Int.lt_trichotomy a b with h1 | h1 | h1
 ·rw [zgp h1];rfl
 ·subst h1;rw [zjA];rfl
 ·omega
theorem ze8 {x y:Nat} (hx:fin Ieee.double x=true) (hy:fin Ieee.double y=true) (h:key Ieee.double y≤key Ieee.double x):(FloatKind.f64.format.order x y==some .lt)=false:=by
 show (Ieee.double.order x y==some .lt)=false
 rw [zcT hx hy];generalize key Ieee.double x=a at h;generalize key Ieee.double y=b at h
 rcases Int.lt_trichotomy a b with h1 | h1 | h1
 ·omega
 ·subst h1;rw [zjA];rfl
 ·rw [zhN h1];rfl
theorem zgL {x y:Nat} (hx:fin Ieee.double x=true) (hy:fin Ieee.double y=true) (h:key Ieee.double x≠key Ieee.double y):(FloatKind.f64.format.order x y==some .eq)=false:=by
 show (Ieee.double.order x y==some .eq)=false
 rw [zcT hx hy];generalize key Ieee.double x=a at h;generalize key Ieee.double y=b at h
 rcases Int.lt_trichotomy a b with h1 | h1 | h1
 ·rw [zgp h1];rfl
 ·exact absurd h1 h
 ·rw [zhN h1];rfl
theorem zji {x:Nat} (hx:fin Ieee.double x=true):(FloatKind.f64.format.order x x != some .eq)=false:=by
 show (Ieee.double.order x x != some .eq)=false
 rw [zcT hx hx,zjA];rfl
theorem zfk:Ieee.double.read 9218868437227405311 = .number false 9007199254740991 971:=by decide +kernel
theorem zfm:Ieee.double.read 4503599627370496 = .number false 4503599627370496 (-1074):=by decide +kernel
theorem zb6:Ieee.double.read 0 = .number false 0 (-1074):=by decide +kernel
theorem zik {n:Nat} {e:Int} (h0:0<n) (h1:n<9007199254740992) (he : -1022≤e+n.log2) (he2:e+n.log2≤1023) :
  ∃ F:Nat,F<4503599627370496∧dn n e=(e+n.log2+1023).toNat*4503599627370496+F∧F=sg n - 4503599627370496:=by
 have hn:=zem h0 h1 he he2;have:=hn.lo;have:=hn.hi;refine ⟨sg n - 4503599627370496,by omega,?_,rfl⟩;unfold dn dw Ieee.Format.word;rw [if_neg (by decide)];omega
theorem zl2 {n:Nat} (h0:0<n) (h1:n<9007199254740992):Norm64 (dn n 0)∧dn n 0 / 9223372036854775808=0∧dn n 0 / 4503599627370496 % 2048=n.log2+1023:=by
 have aF:(2:Nat) ^ 53=9007199254740992:=by decide
 have a3:n.log2<53:=(Nat.log2_lt (by omega)).2 (by omega);obtain ⟨F,hF,hw,_⟩:=zik (e:=0) h0 h1 (by omega) (by omega);have aC:dn n 0<9223372036854775808:=by omega
 have aA:absB (dn n 0)=dn n 0:=Nat.mod_eq_of_lt aC;have f1:=zjr (e:=0) h0 h1 (by omega) (by omega);have k1:=zi3 (e:=0) h0 h1 (by omega) (by omega) (by omega);have f2:=za3 zfk;have k2:=zbb zfk;have f3:=za3 zfm;have k3:=zbb zfm;have f4:=za3 zb6;have k4:=zbb zb6;rw [zbf] at k2 k3 k4;have hp:∀ k:Nat,0<2 ^ k:=fun k=>Nat.two_pow_pos k
 refine ⟨⟨by omega,zgL f1 f4 ?_,?_,zji f1,?_⟩,by omega,by omega⟩
 ·rw [k1,k4,Nat.zero_mul]
  have:=Nat.mul_pos h0 (hp (0+1074:Int).toNat);generalize n*2 ^ (0+1074:Int).toNat=A at this;omega
 ·rw [aA]
  refine zgv f1 f2 ?_;rw [k1,k2];obtain ⟨a,ha⟩:∃ a:Nat,(0+1074:Int).toNat=a∧(a:Int)=1074:=⟨_,rfl,by decide⟩;obtain ⟨b,hb⟩:∃ b:Nat,(971 - -1074:Int).toNat=b∧(b:Int)=2045:=⟨_,rfl,by decide⟩;rw [ha.1,hb.1];have:=Nat.mul_le_mul (show n≤9007199254740991 by omega) (Nat.pow_le_pow_right (show 0<2 by decide) (show a≤b by omega));exact Int.ofNat_le.2 this
 ·rw [aA]
  refine ze8 f1 f3 ?_;rw [k1,k3];obtain ⟨a,ha⟩:∃ a:Nat,(0+1074:Int).toNat=a∧(a:Int)=1074:=⟨_,rfl,by decide⟩;obtain ⟨b,hb⟩:∃ b:Nat,(-1074 - -1074:Int).toNat=b∧(b:Int)=0:=⟨_,rfl,by decide⟩;rw [ha.1,hb.1];have aD:b=0:=by omega
  have aE:(2:Nat) ^ 52=4503599627370496:=by decide
  subst aD;rw [←aE,Nat.pow_zero,Nat.mul_one];have:=Nat.mul_le_mul (show 1≤n from h0) (Nat.pow_le_pow_right (show 0<2 by decide) (show 52≤a by omega));rw [Nat.one_mul] at this;exact Int.ofNat_le.2 this
theorem zjm {n:Nat} {e:Int} (w:World) (h0:0<n) (h1:n<9007199254740992) (he : -1022≤e+n.log2) (he2:e+n.log2≤1023) :
  Calls Tryz.prog 160 #[.float .f64 (dn n 0),.int .i64 e] w fun e' w'=>e' = .returned (.float .f64 (dn n e))∧w=w':=by
 have aD:(2:Nat) ^ 53=9007199254740992:=by decide
 have a3:n.log2<53:=(Nat.log2_lt (by omega)).2 (by omega);obtain ⟨hN,hs,hE⟩:=zl2 h0 h1;obtain ⟨F,hF,hw,aC⟩:=zik (e:=0) h0 h1 (by omega) (by omega);obtain ⟨G,hG,hv,aA⟩:=zik (e:=e) h0 h1 he he2;have hY:ldY (dn n 0) (e+n.log2)=dn n e:=by
  unfold ldY;rw [hs,hv];omega
 refine zny (dn n 0) e (e+n.log2) (dn n e) w hN (by omega) (by rw [hE];omega) he he2 ?_;rw [hY];exact one_mul false (zem h0 h1 he he2)
theorem zoF (w:World):Calls Tryz.prog 205 #[.int .i64 1] w fun e w'=>e = .returned (.float .f64 9218868437227405312)∧w=w':=by
 have hf:∀ W:World,(callFunc 196 #[.int .u64 (9218868437227405312:Int)]).run Tryz.prog W = .ok (.value (.float .f64 9218868437227405312)) W:=fun W=>zcd 9218868437227405312 W
 go_enter Tryz.func205,Tryz.ntmps205
 go_wp2
 go_ret;exact ⟨rfl,rfl⟩
theorem zjY (x:Nat) (e m:Int) (w:World) (h:Norm64 x) (he : -9223372036854775808≤e∧e<9223372036854770000) (hm:m=e+((x / 4503599627370496 % 2048:Nat):Int) - 1023) (hm1:1023<m) (hp:(FloatKind.f64.format.order x 0==some .lt)=false) :
  Calls Tryz.prog 160 #[.float .f64 x,.int .i64 e] w fun e w'=>e = .returned (.float .f64 9218868437227405312)∧w=w':=by
 have hz:=h.nz;have aA:=zdt x w h.lt;rw [h.inf] at aA;have aD:=zc2 x w;rw [h.nan] at aD;have aE:=zc6 x w h;have aF:=zex x;have f1:wrap64 ((x:Int) / 4503599627370496)=((x / 4503599627370496:Nat):Int):=by
  have:=h.lt;rw [IntWalk.wrap64_in _ (by omega)];rfl
 have f2:bits BinOp.and IntKind.i64 ((x / 4503599627370496:Nat):Int) 2047=((x / 4503599627370496 % 2048:Nat):Int):=zfS _;have hE:x / 4503599627370496 % 2048<2048:=Nat.mod_lt _ (by omega);have f4:wrap64 e=e:=IntWalk.wrap64_in _ (by omega);have f3:wrap64 (((x / 4503599627370496 % 2048:Nat):Int) - 1023)=((x / 4503599627370496 % 2048:Nat):Int) - 1023:=IntWalk.wrap64_in _ (by omega);have f5:wrap64 (e+(((x / 4503599627370496 % 2048:Nat):Int) - 1023))=m:=by rw [IntWalk.wrap64_in _ (by omega)];omega
 generalize x / 4503599627370496 % 2048=E at *;generalize x / 4503599627370496=X at *;have aC:=Aa aA;clear aA hm he;go_enter Tryz.func160,Tryz.ntmps160
 go_wp2_with fail
 refine aC.out.mono ?_;rintro e w1 ⟨rfl,rfl⟩
 go_wp2_with fail
 refine aD.mono ?_;rintro e w1 ⟨rfl,rfl⟩
 go_wp2_with fail
 refine aE.mono ?_;rintro e w1 ⟨rfl,rfl⟩
 go_wp2_with fail
 refine (zoF _).mono ?_;rintro e w1 ⟨rfl,rfl⟩
 go_wp2_with fail
 go_ret;exact ⟨rfl,rfl⟩
theorem zmg {n:Nat} {e:Int} (w:World) (h0:0<n) (h1:n<9007199254740992) (he2:1023<e+n.log2) (he3:e<9223372036854770000) :
  Calls Tryz.prog 160 #[.float .f64 (dn n 0),.int .i64 e] w fun e' w'=>e' = .returned (.float .f64 9218868437227405312)∧w=w':=by
 have aA:(2:Nat) ^ 53=9007199254740992:=by decide
 have a3:n.log2<53:=(Nat.log2_lt (by omega)).2 (by omega);obtain ⟨hN,hs,hE⟩:=zl2 h0 h1;refine zjY (dn n 0) e (e+n.log2) w hN (by omega) (by rw [hE];omega) he2 ?_;have f1:=zjr (e:=0) h0 h1 (by omega) (by omega);have k1:=zi3 (e:=0) h0 h1 (by omega) (by omega) (by omega);have f4:=za3 zb6;have k4:=zbb zb6;refine ze8 f1 f4 ?_;rw [k1,k4,Nat.zero_mul];generalize n*2 ^ (0+1074:Int).toNat=A;omega
theorem zoa:(FloatKind.f64.format.order 0 0==some .eq)=true:=by decide +kernel
theorem zkg {e:Int} (w:World):Calls Tryz.prog 160 #[.float .f64 0,.int .i64 e] w fun e' w'=>e' = .returned (.float .f64 0)∧w=w':=by
 have hz:=zoa;go_enter Tryz.func160,Tryz.ntmps160
 go_wp2
 go_ret;exact ⟨rfl,rfl⟩
theorem zet {x r:Nat} {e:Int} (w:World) (h:Calls Tryz.prog 160 #[.float .f64 x,.int .i64 e] w fun e' w'=>e' = .returned (.float .f64 r)∧w=w') :
  Calls Tryz.prog 99 #[.float .f64 x,.int .i64 e] w fun e' w'=>e' = .returned (.float .f64 r)∧w=w':=by
 have h2:=Aa h;clear h;go_enter Tryz.func99,Tryz.ntmps99
 go_wp2_with fail
 refine h2.out.mono ?_;rintro e w1 ⟨rfl,rfl⟩
 go_wp2_with fail
 go_ret;exact ⟨rfl,rfl⟩
set_option maxHeartbeats 60000
theorem i_dw (s:Bool) {m:Nat} {p:Int} (h:Nrm m p):∃ F R:Nat,F<4503599627370496∧m=4503599627370496+F∧(R:Int)=p+1075∧R<2047∧dw s m p=s.toNat*9223372036854775808+R*4503599627370496+F:=by
 have:=h.lo;have:=h.hi;have:=h.p0;have:=h.p1
 refine ⟨m - 4503599627370496,(p+1075).toNat,by omega,by omega,by omega,by omega,?_⟩;unfold dw Ieee.Format.word;rw [zhj]
 cases s
 ·rw [if_neg (by decide)];show _=0*_+_+_;omega
 ·rw [if_pos rfl];show _=1*_+_+_;omega
theorem zn0 {f:Ieee.Format} {b m:Nat} {s:Bool} {p:Int} (h:f.read b = .number s m p) (hm:0<m):key f b≠0:=by
 unfold key;rw [h]
 simp only [Ieee.signed,Nat.shiftLeft_eq]
 have:=Nat.mul_pos hm (Nat.two_pow_pos (p - f.leastPlace).toNat);generalize m*2 ^ (p - f.leastPlace).toNat=A at this
 split<;>omega
theorem zk0 (s:Bool) {m:Nat} {p:Int} (h:Nrm m p):Norm64 (dw s m p):=by
 have aE:=h.lo;have aK:=h.hi;have aN:=h.p0;have aI:=h.p1
 obtain ⟨F,R,hF,hm,hR,aM,hw⟩:=i_dw s h;obtain ⟨F',R',aJ,aL,aH,aF,aD⟩:=i_dw false h;have hs:s.toNat≤1:=by cases s<;>decide
 have aC:absB (dw s m p)=dw false m p:=by
  have:false.toNat=0:=rfl;rw [this] at aD;unfold absB;omega
 have f1:=za3 (zcj s h);have aA:=za3 (zcj false h);have k1:=zbb (zcj false h);have f2:=za3 zfk;have k2:=zbb zfk;have f3:=za3 zfm;have k3:=zbb zfm;have f4:=za3 zb6;have k4:=zbb zb6;rw [zbf] at k1 k2 k3 k4;refine ⟨by omega,zgL f1 f4 ?_,?_,zji f1,?_⟩
 ·rw [k4,Nat.zero_mul];exact zn0 (zcj s h) (by omega)
 ·rw [aC]
  refine zgv aA f2 ?_;rw [k1,k2];obtain ⟨a,ha⟩:∃ a:Nat,(p - -1074:Int).toNat=a∧(a:Int)=p+1074:=⟨_,rfl,by omega⟩;obtain ⟨b,hb⟩:∃ b:Nat,(971 - -1074:Int).toNat=b∧(b:Int)=2045:=⟨_,rfl,by decide⟩;rw [ha.1,hb.1];have:=Nat.mul_le_mul (show m≤9007199254740991 by omega) (Nat.pow_le_pow_right (show 0<2 by decide) (show a≤b by omega));exact Int.ofNat_le.2 this
 ·rw [aC]
  refine ze8 aA f3 ?_;rw [k1,k3];obtain ⟨a,ha⟩:∃ a:Nat,(p - -1074:Int).toNat=a∧(a:Int)=p+1074:=⟨_,rfl,by omega⟩;obtain ⟨b,hb⟩:∃ b:Nat,(-1074 - -1074:Int).toNat=b∧(b:Int)=0:=⟨_,rfl,by decide⟩;rw [ha.1,hb.1];have aG:b=0:=by omega
  subst aG;have:=Nat.mul_le_mul aE (Nat.pow_le_pow_right (show 0<2 by decide) (show 0≤a by omega));exact Int.ofNat_le.2 this
theorem ziw (n:Nat) (h:n<18446744073709551616):bits BinOp.and IntKind.u64 (n:Int) 2047=((n % 2048:Nat):Int):=by
 have:=u64_and_nat n 2047 h (by omega);rw [show n &&& 2047=n % 2048 from Nat.and_two_pow_sub_one_eq_mod n 11] at this;exact this
theorem zno (x Y:Nat) (m:Int) (w:World) (h:Norm64 x) (hm:m=((x / 4503599627370496 % 2048:Nat):Int) - 1022)
  (hY:Y=x % 4503599627370496+x / 9223372036854775808*9223372036854775808+4602678819172646912) :
  Calls Tryz.prog 152 #[.float .f64 x] w fun e w'=>e = .returned (.tuple #[.float .f64 Y,.int .i64 m])∧w=w':=by
 have hz:=h.nz;have aC:=zdt x w h.lt;rw [h.inf] at aC;have aE:=zc2 x w;rw [h.nan] at aE;have aG:=zc6 x w h;have aH:=zex x;have aJ:=h.lt;have f2:=ziw (x / 4503599627370496) (by omega);have f0:((x / 4503599627370496:Nat):Int)=(x:Int) / 4503599627370496:=by omega
 rw [f0] at f2;have hE:x / 4503599627370496 % 2048<2048:=Nat.mod_lt _ (by omega);have f3:wrap64 (((x / 4503599627370496 % 2048:Nat):Int) - 1023)=((x / 4503599627370496 % 2048:Nat):Int) - 1023:=IntWalk.wrap64_in _ (by omega);have f4:wrap64 (((x / 4503599627370496 % 2048:Nat):Int) - 1023+1)=m:=by rw [IntWalk.wrap64_in _ (by omega)];omega
 have f5:wrap64 m=m:=IntWalk.wrap64_in _ (by omega);have f8:wrap64 ((x / 4503599627370496 % 2048:Nat):Int)=((x / 4503599627370496 % 2048:Nat):Int):=IntWalk.wrap64_in _ (by omega);have f6:=zgG x h.lt;obtain ⟨k,hk⟩:∃ k:Nat,k=1022:=⟨_,rfl⟩;have f7:=znW x k h.lt (by omega);have f9:((k*4503599627370496:Nat):Int)=4602678819172646912:=by omega
 have aF:x % 4503599627370496+x / 9223372036854775808*9223372036854775808+k*4503599627370496=Y:=by omega
 rw [aF,f9] at f7;clear hk f9 aF;generalize x % 4503599627370496+x / 9223372036854775808*9223372036854775808=F at f6 f7;have aD:=zcd Y;generalize x / 4503599627370496 % 2048=E at *;have aA:=Aa aC;have HM:Hid ((E:Int) - 1023+1=m):=by rw [hm];show (E:Int) - 1023+1=(E:Int) - 1022;omega
 clear aC hm hY f0;go_enter Tryz.func152,Tryz.ntmps152
 go_wp2_with fail
 refine aA.out.mono ?_;rintro e w1 ⟨rfl,rfl⟩
 go_wp2_with fail
 refine aE.mono ?_;rintro e w1 ⟨rfl,rfl⟩
 go_wp2_with fail
 refine aG.mono ?_;rintro e w1 ⟨rfl,rfl⟩;go_upto_region 7 with fail
 have F6:=Aa f6;have F7:=Aa f7;clear f6 f7 hz aE aG aA aH h aJ;have aI:=Aa aD;clear aD;go_upto_region 8 with fail
 clear f2 f3 f8;have f6:=F6.out;have f7:=F7.out;have aD:=aI.out
 go_wp2_with fail
 go_ret2
 exact ⟨by rw [←HM.out];rfl,rfl⟩
theorem zmP (s:Bool) {m:Nat} {p:Int} (w:World) (h:Nrm m p) :
  Calls Tryz.prog 152 #[.float .f64 (dw s m p)] w fun e w'=>e = .returned (.tuple #[.float .f64 (dw s m (-53)),.int .i64 (p+53)])∧w=w':=by
 have hN:=zk0 s h;obtain ⟨F,R,hF,hm,hR,aG,hw⟩:=i_dw s h;obtain ⟨F',R',aE,aF,aC,aA,aD⟩:=i_dw (m:=m) (p := -53) s ⟨h.lo,h.hi,by omega,by omega⟩;have hs:s.toNat≤1:=by cases s<;>decide
 exact zno (dw s m p) (dw s m (-53)) (p+53) w hN (by omega) (by omega)
theorem zjf {x r:Nat} {i:Int} (w:World) (h:Calls Tryz.prog 152 #[.float .f64 x] w fun e w'=>e = .returned (.tuple #[.float .f64 r,.int .i64 i])∧w=w') :
  Calls Tryz.prog 84 #[.float .f64 x] w fun e w'=>e = .returned (.tuple #[.float .f64 r,.int .i64 i])∧w=w':=by
 have h2:=Aa h;clear h;go_enter Tryz.func84,Tryz.ntmps84
 go_wp2_with fail
 refine h2.out.mono ?_;rintro e w1 ⟨rfl,rfl⟩
 go_wp2_with fail
 go_ret2
 exact ⟨rfl,rfl⟩
theorem zkC (x:Nat) (w:World) (hz:(FloatKind.f64.format.order x 0==some .eq)=true) :
  Calls Tryz.prog 152 #[.float .f64 x] w fun e w'=>e = .returned (.tuple #[.float .f64 x,.int .i64 0])∧w=w':=by
 go_enter Tryz.func152,Tryz.ntmps152
 go_wp2_with fail
 go_ret2
 exact ⟨rfl,rfl⟩
theorem znr (s:Bool) {n:Nat} {e:Int} (h0:0<n) (h1:n<9007199254740992) (he : -1022≤e+n.log2) (he2:e+n.log2≤1023):Ieee.double.write (.number s n e)=dw s (sg n) (e+n.log2 - 52):=by
 have hn:=zem h0 h1 he he2;have hr:=hn.rung;have aA:(2:Nat) ^ 53=9007199254740992:=by decide
 have a3:n.log2<53:=(Nat.log2_lt (by omega)).2 (by omega);show Ieee.double.nearest s n e=_
 rw [zgI Ieee.double s n (52 - n.log2) e h0 (by rw [zbf];show max (e+(n.log2:Int) - ((52:Nat):Int)) (-1074)=_;omega) (by rw [zbf,zbN,ze7,show e - ((52 - n.log2:Nat):Int) - -1074=e+n.log2 - 52+1074 from by omega];exact Nat.le_of_lt hr)];unfold dw sg;rw [zbf,zbN,show e - ((52 - n.log2:Nat):Int) - -1074=e+n.log2 - 52+1074 from by omega]
theorem zlI {b m:Nat} {s:Bool} {p:Int} (h:Ieee.single.read b = .number s m p):m<16777216 ∧ -149≤p∧p≤104:=by
 unfold Ieee.Format.read at h;rw [zjb,zdX,zip,zeF] at h
 dsimp only at h
 generalize hr:b % 2147483648=r at h
 by_cases h1:r<8388608
 ·rw [if_pos h1] at h
  injection h with _ h2 h3
  omega
 ·rw [if_neg h1] at h
  by_cases h2:r<2139095040
  ·rw [if_pos h2] at h
   injection h with _ h3 h4
   omega
  ·rw [if_neg h2] at h
   split at h<;>cases h
theorem zgs {b m r:Nat} {s t:Bool} {e p:Int} {n:Nat} (h:Ieee.single.read b = .number s m e) (hw:Ieee.double.write (.number s m e)=r) (hi:Ieee.double.read r = .number t n p):floatToFloatBits .f32 b .f64=some r:=by
 have h':FloatKind.f32.decode b = .number s m e:=h;have aA:FloatKind.f64.encode (.number s m e)=r:=hw;have aC:FloatKind.f64.decode r = .number t n p:=hi;unfold floatToFloatBits;rw [if_neg (by decide),h'];simp only [aA,aC]
 rfl
theorem zpb {b m:Nat} {s:Bool} {p:Int} (h:Ieee.single.read b = .number s m p) (hm:0<m):floatToFloatBits .f32 b .f64=some (dw s (sg m) (p+m.log2 - 52))∧Nrm (sg m) (p+m.log2 - 52)∧m.log2≤23:=by
 have aA:(2:Nat) ^ 24=16777216:=by decide
 obtain ⟨h1,h2,h3⟩:=zlI h;have hl:m.log2<24:=(Nat.log2_lt (by omega)).2 (by omega);have hn:=zem (n:=m) (e:=p) hm (by omega) (by omega) (by omega);exact ⟨zgs h (znr s hm (by omega) (by omega) (by omega)) (zcj s hn),hn,by omega⟩
theorem zjM (s:Bool) (p:Int):Ieee.double.write (.number s 0 p)=Ieee.double.word s 0:=by
 show Ieee.double.nearest s 0 p=_
 unfold Ieee.Format.nearest;rw [if_pos rfl]
theorem zge (s:Bool):Ieee.double.read (Ieee.double.word s 0) = .number s 0 (-1074):=by
 cases s<;>decide +kernel
theorem zjZ {b:Nat} {s:Bool} {p:Int} (h:Ieee.single.read b = .number s 0 p):floatToFloatBits .f32 b .f64=some (Ieee.double.word s 0):=
 zgs h (zjM s p) (zge s)
structure Fine (b x:Nat):Prop where
 conv:floatToFloatBits .f32 b .f64=some x
 lt:x<18446744073709551616
 inf:(FloatKind.f64.format.order (absB x) 9218868437227405311==some .gt)=false
 nan:(FloatKind.f64.format.order x x != some .eq)=false
theorem zi0 {b m:Nat} {s:Bool} {p:Int} (h:Ieee.single.read b = .number s m p) (hm:0<m):Fine b (dw s (sg m) (p+m.log2 - 52)):=by
 obtain ⟨h1,h2,_⟩:=zpb h hm;have hN:=zk0 s h2;exact ⟨h1,hN.lt,hN.inf,hN.nan⟩
theorem zhI {b:Nat} {s:Bool} {p:Int} (h:Ieee.single.read b = .number s 0 p):Fine b (Ieee.double.word s 0):=by
 refine ⟨zjZ h,?_,?_,?_⟩<;>cases s<;>decide +kernel
theorem zdg {b x:Nat} (w:World) (h:Fine b x):Calls Tryz.prog 83 #[.float .f32 b] w fun e w'=>e = .returned (.bool true)∧w=w':=by
 have aD:=fun W:World=>run_convert_float_float (P:=Tryz.prog) W 46 111 .f32 .f64 b x (by kernel_rfl) (by kernel_rfl) h.conv
 have aC:=zc2 x w;rw [h.nan] at aC;have aA:=zdt x w h.lt;rw [h.inf] at aA;have HN:=Aa aC;have HI:=Aa aA;clear aC aA h;go_enter Tryz.func83,Tryz.ntmps83
 go_wp2_with fail
 refine HN.out.mono ?_;rintro e w1 ⟨rfl,rfl⟩
 go_wp2_with fail
 refine HI.out.mono ?_;rintro e w1 ⟨rfl,rfl⟩
 go_wp2_with fail
 go_ret;exact ⟨rfl,rfl⟩
theorem zoQ (s:Bool) {m:Nat} (h:Nrm m (-53)):floatBits .mul .f64 (dw s m (-53)) 4715268809856909312=some (dw s m (-29)):=by
 show (((Ieee.double.read (dw s m (-53))).product (Ieee.double.read 4715268809856909312)).map Ieee.double.write)=_
 have e1:Ieee.double.read 4715268809856909312 = .number false 4503599627370496 (-28):=by decide +kernel
 rw [e1,zcj s h];show some (Ieee.double.write (.number (s ^^ false) (m*4503599627370496) (-53 + -28)))=_
 have e2:m*4503599627370496=m*2 ^ 52:=by rfl
 rw [e2,zgY (s ^^ false) 52 (q := -29) ⟨h.lo,h.hi,by omega,by omega⟩ (by omega)];simp
theorem zgn (s:Bool) (n d:Nat) (hn:0<n):Ieee.Toward.zero.cut s (n*2 ^ d) d=n:=by
 unfold Ieee.Toward.cut;have e:min d ((n*2 ^ d).log2+2)=d:=by rw [zdA n d hn];omega
 have hp:=Nat.two_pow_pos d;simp only [e,Nat.shiftLeft_eq,Nat.one_mul,Nat.mul_div_cancel _ hp]
 rfl
theorem zpa (s:Bool) {m:Nat} (h0:0<m) (hl:m.log2≤23) (hm:m<16777216):floatToIntVal .f64 (dw s (sg m) (-29)) .i64=some (Ieee.signed s (m*2 ^ (23 - m.log2)) 0)∧m*2 ^ (23 - m.log2)<16777216∧0<m*2 ^ (23 - m.log2):=by
 have aD:(2:Nat) ^ 24=16777216:=by decide
 have hp:0<m*2 ^ (23 - m.log2):=Nat.mul_pos h0 (Nat.two_pow_pos _);have aA:m*2 ^ (23 - m.log2)<16777216:=by
  have a2:=(Nat.log2_lt (n:=m) (k:=m.log2+1) (by omega)).1 (by omega);have:=Nat.mul_lt_mul_of_pos_right a2 (Nat.two_pow_pos (23 - m.log2));rw [←Nat.pow_add,show m.log2+1+(23 - m.log2)=24 from by omega,aD] at this;exact this
 have hn:=zem (n:=m) (e:=0) h0 (by omega) (by omega) (by omega);have hr:=zcj s (m:=sg m) (p := -29) ⟨hn.lo,hn.hi,by omega,by omega⟩;have aC:sg m=m*2 ^ (23 - m.log2)*2 ^ 29:=by
  unfold sg;rw [Nat.mul_assoc,←Nat.pow_add,show 23 - m.log2+29=52 - m.log2 from by omega]
 refine ⟨?_,aA,hp⟩;generalize m*2 ^ (23 - m.log2)=J at *;have hv:FloatKind.f64.decode (dw s (sg m) (-29)) = .number s (sg m) (-29):=hr;have aE:(FloatKind.f64.decode (dw s (sg m) (-29))).toInt .zero=some (Ieee.signed s J 0):=by
  rw [hv,aC];unfold Ieee.Datum.toInt Ieee.Datum.integral;have e1:(-29:Int).toNat=0:=by decide
  have e2:(- (-29:Int)).toNat=29:=by decide
  simp only [e1,e2,Nat.shiftLeft_zero,zgn s J 29 hp]
 unfold floatToIntVal;rw [aE];have hb:IntKind.i64.min≤Ieee.signed s J 0∧Ieee.signed s J 0≤IntKind.i64.max:=by
  have h1:IntKind.i64.min = -9223372036854775808:=by decide
  have h2:IntKind.i64.max=9223372036854775807:=by decide
  rw [h1,h2];unfold Ieee.signed;rw [Nat.shiftLeft_zero]
  split<;>omega
 simp only [hb,and_self,if_true]
theorem ziM (s:Bool):floatBits .mul .f64 (Ieee.double.word s 0) 4715268809856909312=some (Ieee.double.word s 0):=by cases s<;>decide +kernel
theorem zm4 (s:Bool):floatToIntVal .f64 (Ieee.double.word s 0) .i64=some 0:=by cases s<;>decide +kernel
theorem zn3 (s:Bool):(FloatKind.f64.format.order (Ieee.double.word s 0) 0==some .eq)=true:=by cases s<;>decide +kernel
end
end Go.Proofs.YtbkgkoenppkhpaaGreatDoor
