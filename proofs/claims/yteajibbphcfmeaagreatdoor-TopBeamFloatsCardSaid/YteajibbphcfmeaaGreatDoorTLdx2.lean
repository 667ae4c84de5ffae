/- Contracts of math.Ldexp of a whole number of few bits. -/
import Derived.Test.YteajibbphcfmeaaGreatDoorTFlt
import Derived.Test.YteajibbphcfmeaaGreatDoorTBexp
import Derived.Test.YteajibbphcfmeaaGreatDoorTRat2
import Derived.Lib.ItoaNum
import Derived.Test.YteajibbphcfmeaaGreatDoorTRow
import Derived.Test.YteajibbphcfmeaaGreatDoorTShelf
import Derived.Shelf.Strings.Builder1
import Derived.Test.YteajibbphcfmeaaGreatDoorTNat5
import Derived.Lib.ItoaMem
import Derived.Lib.AppendIntMem
import Derived.Shelf.Strconv.Itoa2
namespace Go.Proofs.YteajibbphcfmeaaGreatDoor
open Go.RowKit
open Flt
theorem ord_not_gt {x y:Nat} (hx:fin Ieee.double x=true) (hy:fin Ieee.double y=true) (h:key Ieee.double x≤key Ieee.double y):(FloatKind.f64.format.order x y==some .gt)=false:=by
 show (Ieee.double.order x y==some .gt)=false
 rw [order_fin hx hy]
 generalize key Ieee.double x=a at h
 generalize key Ieee.double y=b at h
 rcases Int.lt_trichotomy a b with h1 | h1 | h1
 ·rw [cmp_lt h1];rfl
 ·subst h1;rw [cmp_eq];rfl
 ·omega
theorem ord_not_lt {x y:Nat} (hx:fin Ieee.double x=true) (hy:fin Ieee.double y=true) (h:key Ieee.double y≤key Ieee.double x):(FloatKind.f64.format.order x y==some .lt)=false:=by
 show (Ieee.double.order x y==some .lt)=false
 rw [order_fin hx hy]
 generalize key Ieee.double x=a at h
 generalize key Ieee.double y=b at h
 rcases Int.lt_trichotomy a b with h1 | h1 | h1
 ·omega
 ·subst h1;rw [cmp_eq];rfl
 ·rw [cmp_gt h1];rfl
theorem ord_not_eq {x y:Nat} (hx:fin Ieee.double x=true) (hy:fin Ieee.double y=true) (h:key Ieee.double x≠key Ieee.double y):(FloatKind.f64.format.order x y==some .eq)=false:=by
 show (Ieee.double.order x y==some .eq)=false
 rw [order_fin hx hy]
 generalize key Ieee.double x=a at h
 generalize key Ieee.double y=b at h
 rcases Int.lt_trichotomy a b with h1 | h1 | h1
 ·rw [cmp_lt h1];rfl
 ·exact absurd h1 h
 ·rw [cmp_gt h1];rfl
theorem ord_self {x:Nat} (hx:fin Ieee.double x=true):(FloatKind.f64.format.order x x != some .eq)=false:=by
 show (Ieee.double.order x x != some .eq)=false
 rw [order_fin hx hx,cmp_eq];rfl
theorem max_read:Ieee.double.read 9218868437227405311 = .number false 9007199254740991 971:=by decide +kernel
theorem min_read:Ieee.double.read 4503599627370496 = .number false 4503599627370496 (-1074):=by decide +kernel
theorem zero_read:Ieee.double.read 0 = .number false 0 (-1074):=by decide +kernel
theorem dn_word {n:Nat} {e:Int} (h0:0<n) (h1:n<9007199254740992) (he : -1022≤e+n.log2) (he2:e+n.log2≤1023) :
  ∃ F:Nat,F<4503599627370496∧dn n e=(e+n.log2+1023).toNat*4503599627370496+F∧F=sg n - 4503599627370496:=by
 have hn:=sg_nrm h0 h1 he he2
 have:=hn.lo
 have:=hn.hi
 refine ⟨sg n - 4503599627370496,by omega,?_,rfl⟩
 unfold dn dw Ieee.Format.word
 rw [if_neg (by decide)]
 omega
theorem norm_dn {n:Nat} (h0:0<n) (h1:n<9007199254740992):Norm64 (dn n 0)∧dn n 0 / 9223372036854775808=0∧dn n 0 / 4503599627370496 % 2048=n.log2+1023:=by
 have e53:(2:Nat) ^ 53=9007199254740992:=by decide
 have a3:n.log2<53:=(Nat.log2_lt (by omega)).2 (by omega)
 obtain ⟨F,hF,hw,_⟩:=dn_word (e:=0) h0 h1 (by omega) (by omega)
 have hlt:dn n 0<9223372036854775808:=by omega
 have hab:absB (dn n 0)=dn n 0:=Nat.mod_eq_of_lt hlt
 have f1:=fin_dn (e:=0) h0 h1 (by omega) (by omega)
 have k1:=key_dn (e:=0) h0 h1 (by omega) (by omega) (by omega)
 have f2:=fin_of_read max_read
 have k2:=key_of_read max_read
 have f3:=fin_of_read min_read
 have k3:=key_of_read min_read
 have f4:=fin_of_read zero_read
 have k4:=key_of_read zero_read
 rw [dbl_least] at k2 k3 k4
 have hp:∀ k:Nat,0<2 ^ k:=fun k=>Nat.two_pow_pos k
 refine ⟨⟨by omega,ord_not_eq f1 f4 ?_,?_,ord_self f1,?_⟩,by omega,by omega⟩
 ·rw [k1,k4,Nat.zero_mul]
  have:=Nat.mul_pos h0 (hp (0+1074:Int).toNat)
  generalize n*2 ^ (0+1074:Int).toNat=A at this
  omega
 ·rw [hab]
  refine ord_not_gt f1 f2 ?_
  rw [k1,k2]
  obtain ⟨a,ha⟩:∃ a:Nat,(0+1074:Int).toNat=a∧(a:Int)=1074:=⟨_,rfl,by decide⟩
  obtain ⟨b,hb⟩:∃ b:Nat,(971 - -1074:Int).toNat=b∧(b:Int)=2045:=⟨_,rfl,by decide⟩
  rw [ha.1,hb.1]
  have:=Nat.mul_le_mul (show n≤9007199254740991 by omega) (Nat.pow_le_pow_right (show 0<2 by decide) (show a≤b by omega))
  exact Int.ofNat_le.2 this
 ·rw [hab]
  refine ord_not_lt f1 f3 ?_
  rw [k1,k3]
  obtain ⟨a,ha⟩:∃ a:Nat,(0+1074:Int).toNat=a∧(a:Int)=1074:=⟨_,rfl,by decide⟩
  obtain ⟨b,hb⟩:∃ b:Nat,(-1074 - -1074:Int).toNat=b∧(b:Int)=0:=⟨_,rfl,by decide⟩
  rw [ha.1,hb.1]
  have hb0:b=0:=by omega
  have e52:(2:Nat) ^ 52=4503599627370496:=by decide
  subst hb0
  rw [←e52,Nat.pow_zero,Nat.mul_one]
  have:=Nat.mul_le_mul (show 1≤n from h0) (Nat.pow_le_pow_right (show 0<2 by decide) (show 52≤a by omega))
  rw [Nat.one_mul] at this
  exact Int.ofNat_le.2 this
theorem ldexp_dn {n:Nat} {e:Int} (w:World) (h0:0<n) (h1:n<9007199254740992) (he : -1022≤e+n.log2) (he2:e+n.log2≤1023) :
  Calls Tryz.prog 150 #[.float .f64 (dn n 0),.int .i64 e] w fun e' w'=>e' = .returned (.float .f64 (dn n e))∧w=w':=by
 have e53:(2:Nat) ^ 53=9007199254740992:=by decide
 have a3:n.log2<53:=(Nat.log2_lt (by omega)).2 (by omega)
 obtain ⟨hN,hs,hE⟩:=norm_dn h0 h1
 obtain ⟨F,hF,hw,hF2⟩:=dn_word (e:=0) h0 h1 (by omega) (by omega)
 obtain ⟨G,hG,hv,hG2⟩:=dn_word (e:=e) h0 h1 he he2
 have hY:ldY (dn n 0) (e+n.log2)=dn n e:=by
  unfold ldY
  rw [hs,hv]
  omega
 refine ldexp_in (dn n 0) e (e+n.log2) (dn n e) w hN (by omega) (by rw [hE];omega) he he2 ?_
 rw [hY]
 exact one_mul false (sg_nrm h0 h1 he he2)
set_option maxRecDepth 100000 in
theorem inf_one (w:World):Calls Tryz.prog 191 #[.int .i64 1] w fun e w'=>e = .returned (.float .f64 9218868437227405312)∧w=w':=by
 have hf:∀ W:World,(callFunc 192 #[.int .u64 (9218868437227405312:Int)]).run Tryz.prog W = .ok (.value (.float .f64 9218868437227405312)) W:=fun W=>call_frombits 9218868437227405312 W
 go_enter Tryz.func191,Tryz.ntmps191
 go_wp2
 go_ret
 exact ⟨rfl,rfl⟩
set_option maxHeartbeats 1000000 in
set_option maxRecDepth 100000 in
theorem ldexp_over (x:Nat) (e m:Int) (w:World) (h:Norm64 x) (he : -9223372036854775808≤e∧e<9223372036854770000) (hm:m=e+((x / 4503599627370496 % 2048:Nat):Int) - 1023) (hm1:1023<m) (hp:(FloatKind.f64.format.order x 0==some .lt)=false) :
  Calls Tryz.prog 150 #[.float .f64 x,.int .i64 e] w fun e w'=>e = .returned (.float .f64 9218868437227405312)∧w=w':=by
 have hz:=h.nz
 have hin:=isInf_any x w h.lt
 rw [h.inf] at hin
 have hnn:=isNaN_any x w
 rw [h.nan] at hnn
 have hno:=normalize_any x w h
 have hcb:=call_bits x
 have f1:wrap64 ((x:Int) / 4503599627370496)=((x / 4503599627370496:Nat):Int):=by
  have:=h.lt
  rw [IntWalk.wrap64_in _ (by omega)];rfl
 have f2:bits BinOp.and IntKind.i64 ((x / 4503599627370496:Nat):Int) 2047=((x / 4503599627370496 % 2048:Nat):Int):=i64_and2047 _
 have hE:x / 4503599627370496 % 2048<2048:=Nat.mod_lt _ (by omega)
 have f4:wrap64 e=e:=IntWalk.wrap64_in _ (by omega)
 have f3:wrap64 (((x / 4503599627370496 % 2048:Nat):Int) - 1023)=((x / 4503599627370496 % 2048:Nat):Int) - 1023:=IntWalk.wrap64_in _ (by omega)
 have f5:wrap64 (e+(((x / 4503599627370496 % 2048:Nat):Int) - 1023))=m:=by rw [IntWalk.wrap64_in _ (by omega)];omega
 generalize x / 4503599627370496 % 2048=E at *
 generalize x / 4503599627370496=X at *
 have hin2:=Lib.hid hin
 clear hin hm he
 go_enter Tryz.func150,Tryz.ntmps150
 go_wp2_with fail
 refine hin2.out.mono ?_
 rintro e w1 ⟨rfl,rfl⟩
 go_wp2_with fail
 refine hnn.mono ?_
 rintro e w1 ⟨rfl,rfl⟩
 go_wp2_with fail
 refine hno.mono ?_
 rintro e w1 ⟨rfl,rfl⟩
 go_wp2_with fail
 refine (inf_one _).mono ?_
 rintro e w1 ⟨rfl,rfl⟩
 go_wp2_with fail
 go_ret
 exact ⟨rfl,rfl⟩
theorem ldexp_big {n:Nat} {e:Int} (w:World) (h0:0<n) (h1:n<9007199254740992) (he2:1023<e+n.log2) (he3:e<9223372036854770000) :
  Calls Tryz.prog 150 #[.float .f64 (dn n 0),.int .i64 e] w fun e' w'=>e' = .returned (.float .f64 9218868437227405312)∧w=w':=by
 have e53:(2:Nat) ^ 53=9007199254740992:=by decide
 have a3:n.log2<53:=(Nat.log2_lt (by omega)).2 (by omega)
 obtain ⟨hN,hs,hE⟩:=norm_dn h0 h1
 refine ldexp_over (dn n 0) e (e+n.log2) w hN (by omega) (by rw [hE];omega) he2 ?_
 have f1:=fin_dn (e:=0) h0 h1 (by omega) (by omega)
 have k1:=key_dn (e:=0) h0 h1 (by omega) (by omega) (by omega)
 have f4:=fin_of_read zero_read
 have k4:=key_of_read zero_read
 refine ord_not_lt f1 f4 ?_
 rw [k1,k4,Nat.zero_mul]
 generalize n*2 ^ (0+1074:Int).toNat=A
 omega
theorem zero_eq:(FloatKind.f64.format.order 0 0==some .eq)=true:=by decide +kernel
theorem ldexp_zero {e:Int} (w:World):Calls Tryz.prog 150 #[.float .f64 0,.int .i64 e] w fun e' w'=>e' = .returned (.float .f64 0)∧w=w':=by
 have hz:=zero_eq
 go_enter Tryz.func150,Tryz.ntmps150
 go_wp2
 go_ret
 exact ⟨rfl,rfl⟩
theorem Ldexp_any {x r:Nat} {e:Int} (w:World) (h:Calls Tryz.prog 150 #[.float .f64 x,.int .i64 e] w fun e' w'=>e' = .returned (.float .f64 r)∧w=w') :
  Calls Tryz.prog 98 #[.float .f64 x,.int .i64 e] w fun e' w'=>e' = .returned (.float .f64 r)∧w=w':=by
 have h2:=Lib.hid h
 clear h
 go_enter Tryz.func98,Tryz.ntmps98
 go_wp2_with fail
 refine h2.out.mono ?_
 rintro e w1 ⟨rfl,rfl⟩
 go_wp2_with fail
 go_ret
 exact ⟨rfl,rfl⟩
set_option maxHeartbeats 60000
theorem i_dw (s:Bool) {m:Nat} {p:Int} (h:Nrm m p):∃ F R:Nat,F<4503599627370496∧m=4503599627370496+F∧(R:Int)=p+1075∧R<2047∧dw s m p=s.toNat*9223372036854775808+R*4503599627370496+F:=by
 have:=h.lo;have:=h.hi;have:=h.p0;have:=h.p1
 refine ⟨m - 4503599627370496,(p+1075).toNat,by omega,by omega,by omega,by omega,?_⟩
 unfold dw Ieee.Format.word
 rw [dbl_sign]
 cases s
 ·rw [if_neg (by decide)];show _=0*_+_+_;omega
 ·rw [if_pos rfl];show _=1*_+_+_;omega
theorem key_pos {f:Ieee.Format} {b m:Nat} {s:Bool} {p:Int} (h:f.read b = .number s m p) (hm:0<m):key f b≠0:=by
 unfold key;rw [h]
 simp only [Ieee.signed,Nat.shiftLeft_eq]
 have:=Nat.mul_pos hm (Nat.two_pow_pos (p - f.leastPlace).toNat)
 generalize m*2 ^ (p - f.leastPlace).toNat=A at this
 split<;>omega
theorem norm_dw (s:Bool) {m:Nat} {p:Int} (h:Nrm m p):Norm64 (dw s m p):=by
 have hlo:=h.lo;have hhi:=h.hi;have hp0:=h.p0;have hp1:=h.p1
 obtain ⟨F,R,hF,hm,hR,hR2,hw⟩:=i_dw s h
 obtain ⟨F',R',hF',hm',hR',hR2',hw'⟩:=i_dw false h
 have hs:s.toNat≤1:=by cases s<;>decide
 have hab:absB (dw s m p)=dw false m p:=by
  have:false.toNat=0:=rfl
  rw [this] at hw'
  unfold absB
  omega
 have f1:=fin_of_read (read_dw s h)
 have f1':=fin_of_read (read_dw false h)
 have k1:=key_of_read (read_dw false h)
 have f2:=fin_of_read max_read
 have k2:=key_of_read max_read
 have f3:=fin_of_read min_read
 have k3:=key_of_read min_read
 have f4:=fin_of_read zero_read
 have k4:=key_of_read zero_read
 rw [dbl_least] at k1 k2 k3 k4
 refine ⟨by omega,ord_not_eq f1 f4 ?_,?_,ord_self f1,?_⟩
 ·rw [k4,Nat.zero_mul];exact key_pos (read_dw s h) (by omega)
 ·rw [hab]
  refine ord_not_gt f1' f2 ?_
  rw [k1,k2]
  obtain ⟨a,ha⟩:∃ a:Nat,(p - -1074:Int).toNat=a∧(a:Int)=p+1074:=⟨_,rfl,by omega⟩
  obtain ⟨b,hb⟩:∃ b:Nat,(971 - -1074:Int).toNat=b∧(b:Int)=2045:=⟨_,rfl,by decide⟩
  rw [ha.1,hb.1]
  have:=Nat.mul_le_mul (show m≤9007199254740991 by omega) (Nat.pow_le_pow_right (show 0<2 by decide) (show a≤b by omega))
  exact Int.ofNat_le.2 this
 ·rw [hab]
  refine ord_not_lt f1' f3 ?_
  rw [k1,k3]
  obtain ⟨a,ha⟩:∃ a:Nat,(p - -1074:Int).toNat=a∧(a:Int)=p+1074:=⟨_,rfl,by omega⟩
  obtain ⟨b,hb⟩:∃ b:Nat,(-1074 - -1074:Int).toNat=b∧(b:Int)=0:=⟨_,rfl,by decide⟩
  rw [ha.1,hb.1]
  have hb0:b=0:=by omega
  subst hb0
  have:=Nat.mul_le_mul hlo (Nat.pow_le_pow_right (show 0<2 by decide) (show 0≤a by omega))
  exact Int.ofNat_le.2 this
theorem u64_and2047 (n:Nat) (h:n<18446744073709551616):bits BinOp.and IntKind.u64 (n:Int) 2047=((n % 2048:Nat):Int):=by
 have:=u64_and_nat n 2047 h (by omega)
 rw [show n &&& 2047=n % 2048 from Nat.and_two_pow_sub_one_eq_mod n 11] at this
 exact this
set_option maxHeartbeats 200000 in
set_option maxRecDepth 100000 in
theorem frexp_in (x Y:Nat) (m:Int) (w:World) (h:Norm64 x) (hm:m=((x / 4503599627370496 % 2048:Nat):Int) - 1022)
  (hY:Y=x % 4503599627370496+x / 9223372036854775808*9223372036854775808+4602678819172646912) :
  Calls Tryz.prog 154 #[.float .f64 x] w fun e w'=>e = .returned (.tuple #[.float .f64 Y,.int .i64 m])∧w=w':=by
 have hz:=h.nz
 have hin:=isInf_any x w h.lt
 rw [h.inf] at hin
 have hnn:=isNaN_any x w
 rw [h.nan] at hnn
 have hno:=normalize_any x w h
 have hcb:=call_bits x
 have hlt:=h.lt
 have f2:=u64_and2047 (x / 4503599627370496) (by omega)
 have f0:((x / 4503599627370496:Nat):Int)=(x:Int) / 4503599627370496:=by omega
 rw [f0] at f2
 have hE:x / 4503599627370496 % 2048<2048:=Nat.mod_lt _ (by omega)
 have f3:wrap64 (((x / 4503599627370496 % 2048:Nat):Int) - 1023)=((x / 4503599627370496 % 2048:Nat):Int) - 1023:=IntWalk.wrap64_in _ (by omega)
 have f4:wrap64 (((x / 4503599627370496 % 2048:Nat):Int) - 1023+1)=m:=by rw [IntWalk.wrap64_in _ (by omega)];omega
 have f5:wrap64 m=m:=IntWalk.wrap64_in _ (by omega)
 have f8:wrap64 ((x / 4503599627370496 % 2048:Nat):Int)=((x / 4503599627370496 % 2048:Nat):Int):=IntWalk.wrap64_in _ (by omega)
 have f6:=andNot_exp x h.lt
 obtain ⟨k,hk⟩:∃ k:Nat,k=1022:=⟨_,rfl⟩
 have f7:=or_exp x k h.lt (by omega)
 have f9:((k*4503599627370496:Nat):Int)=4602678819172646912:=by omega
 have f10:x % 4503599627370496+x / 9223372036854775808*9223372036854775808+k*4503599627370496=Y:=by omega
 rw [f10,f9] at f7
 clear hk f9 f10
 generalize x % 4503599627370496+x / 9223372036854775808*9223372036854775808=F at f6 f7
 have hfb:=call_frombits Y
 generalize x / 4503599627370496 % 2048=E at *
 have hin2:=Lib.hid hin
 have HM:Hid ((E:Int) - 1023+1=m):=by rw [hm];show (E:Int) - 1023+1=(E:Int) - 1022;omega
 clear hin hm hY f0
 go_enter Tryz.func154,Tryz.ntmps154
 go_wp2_with fail
 refine hin2.out.mono ?_
 rintro e w1 ⟨rfl,rfl⟩
 go_wp2_with fail
 refine hnn.mono ?_
 rintro e w1 ⟨rfl,rfl⟩
 go_wp2_with fail
 refine hno.mono ?_
 rintro e w1 ⟨rfl,rfl⟩
 go_upto_region 7 with fail
 have F6:=Lib.hid f6
 have F7:=Lib.hid f7
 clear f6 f7 hz hnn hno hin2 hcb h hlt
 have HFB:=Lib.hid hfb
 clear hfb
 go_upto_region 8 with fail
 clear f2 f3 f8
 have f6:=F6.out
 have f7:=F7.out
 have hfb:=HFB.out
 go_wp2_with fail
 go_ret2
 exact ⟨by rw [←HM.out];rfl,rfl⟩
theorem frexp_dw (s:Bool) {m:Nat} {p:Int} (w:World) (h:Nrm m p) :
  Calls Tryz.prog 154 #[.float .f64 (dw s m p)] w fun e w'=>e = .returned (.tuple #[.float .f64 (dw s m (-53)),.int .i64 (p+53)])∧w=w':=by
 have hN:=norm_dw s h
 obtain ⟨F,R,hF,hm,hR,hR2,hw⟩:=i_dw s h
 obtain ⟨F',R',hF',hm',hR',hR2',hw'⟩:=i_dw (m:=m) (p := -53) s ⟨h.lo,h.hi,by omega,by omega⟩
 have hs:s.toNat≤1:=by cases s<;>decide
 exact frexp_in (dw s m p) (dw s m (-53)) (p+53) w hN (by omega) (by omega)
theorem Frexp_of {x r:Nat} {i:Int} (w:World) (h:Calls Tryz.prog 154 #[.float .f64 x] w fun e w'=>e = .returned (.tuple #[.float .f64 r,.int .i64 i])∧w=w') :
  Calls Tryz.prog 101 #[.float .f64 x] w fun e w'=>e = .returned (.tuple #[.float .f64 r,.int .i64 i])∧w=w':=by
 have h2:=Lib.hid h
 clear h
 go_enter Tryz.func101,Tryz.ntmps101
 go_wp2_with fail
 refine h2.out.mono ?_
 rintro e w1 ⟨rfl,rfl⟩
 go_wp2_with fail
 go_ret2
 exact ⟨rfl,rfl⟩
theorem frexp_zero (x:Nat) (w:World) (hz:(FloatKind.f64.format.order x 0==some .eq)=true) :
  Calls Tryz.prog 154 #[.float .f64 x] w fun e w'=>e = .returned (.tuple #[.float .f64 x,.int .i64 0])∧w=w':=by
 go_enter Tryz.func154,Tryz.ntmps154
 go_wp2_with fail
 go_ret2
 exact ⟨rfl,rfl⟩
end Go.Proofs.YteajibbphcfmeaaGreatDoor
namespace Go.Proofs.YteajibbphcfmeaaGreatDoor
open Go.RowKit Bn
theorem u64_mod (z:Int):IntKind.u64.wrap z=z % 18446744073709551616:=by
 first | rfl | (unfold IntKind.wrap;rfl) | (unfold IntKind.wrap IntKind.signed IntKind.bits;simp)
set_option maxHeartbeats 2000000 in
set_option maxRecDepth 100000 in
theorem integer_any (z:Int) (w:World) (h0 : -9223372036854775808≤z) (h1:z<9223372036854775808) :
  Calls Tryz.prog 78 #[.int .i64 z] w (RetRat w ⟨decide (z<0),z.natAbs,1⟩):=by
 have hb3:Below w.heap.size w (w.alloc (.cells #[.bool false,.slice none 0 0,.slice none 0 0] 91)):=(Below.refl _ _).alloc (Nat.le_refl _) _
 go_enter Tryz.func78,Tryz.ntmps78
 by_cases hz:z<0
 ·have hd:decide (z<0)=true:=by simpa using hz
  have hw1:IntKind.u64.wrap z=z+18446744073709551616:=by rw [u64_mod];omega
  have hw2:IntKind.u64.wrap (-(z+18446744073709551616)) = -z:=by rw [u64_mod];omega
  go_wp2_with fail
  refine (naturalOf_any (-z) _ (by omega) (by omega)).mono ?_
  rintro e w4 ⟨A5,m5,c5,rfl,hn5,hb5⟩
  go_wp2_with fail
  refine (naturalOf_any 1 _ (by omega) (by omega)).mono ?_
  rintro e w6 ⟨A6,m6,c6,rfl,hn6,hb6⟩
  have hk:=((ResBlk.new w false (.slice none 0 0) (.slice none 0 0)).below hb5 (by simp)).below hb6 (by have:=hb5.size;simp at this;omega)
  obtain ⟨k0,k1,k2,f0,f1,f2,_⟩:=hk.cells
  have hball:=(hb3.trans (hb5.mono hb3.size)).trans (hb6.mono (by have:=hb5.size;simp at this;omega))
  have hset:=three_set hball (g:=w.heap.size) (Nat.le_refl _) (.bool true) (.slice A5 m5 c5) (.slice A6 m6 c6)
  have hna:(-z).toNat=z.natAbs:=by omega
  go_wp2
  refine bodyPost_ret (v := .agg #[.bool true,.slice A5 m5 c5,.slice A6 m6 c6]) (by simp [results,Tryz.results78,go_sem,k0,k1,k2]) rfl ⟨_,rfl,⟨A5,m5,c5,A6,m6,c6,by rw [hd],?_,?_⟩,hset⟩
  ·rw [size_set3];show NatS _ _ A5 m5 c5 z.natAbs;rw [←hna];exact (hn5.later hb6).res hk _ _ _
  ·rw [size_set3];exact hn6.res hk _ _ _
 ·have hd:decide (z<0)=false:=by simpa using hz
  have hw1:IntKind.u64.wrap z=z:=by rw [u64_mod];omega
  go_wp2_with fail
  refine (naturalOf_any (z) _ (by omega) (by omega)).mono ?_
  rintro e w4 ⟨A5,m5,c5,rfl,hn5,hb5⟩
  go_wp2_with fail
  refine (naturalOf_any 1 _ (by omega) (by omega)).mono ?_
  rintro e w6 ⟨A6,m6,c6,rfl,hn6,hb6⟩
  have hk:=((ResBlk.new w false (.slice none 0 0) (.slice none 0 0)).below hb5 (by simp)).below hb6 (by have:=hb5.size;simp at this;omega)
  obtain ⟨k0,k1,k2,f0,f1,f2,_⟩:=hk.cells
  have hball:=(hb3.trans (hb5.mono hb3.size)).trans (hb6.mono (by have:=hb5.size;simp at this;omega))
  have hset:=three_set hball (g:=w.heap.size) (Nat.le_refl _) (.bool false) (.slice A5 m5 c5) (.slice A6 m6 c6)
  have hna:(z).toNat=z.natAbs:=by omega
  go_wp2
  refine bodyPost_ret (v := .agg #[.bool false,.slice A5 m5 c5,.slice A6 m6 c6]) (by simp [results,Tryz.results78,go_sem,k0,k1,k2]) rfl ⟨_,rfl,⟨A5,m5,c5,A6,m6,c6,by rw [hd],?_,?_⟩,hset⟩
  ·rw [size_set3];show NatS _ _ A5 m5 c5 z.natAbs;rw [←hna];exact (hn5.later hb6).res hk _ _ _
  ·rw [size_set3];exact hn6.res hk _ _ _
end Go.Proofs.YteajibbphcfmeaaGreatDoor
namespace Go.Proofs.YteajibbphcfmeaaGreatDoor.Dec
open Go.Lib
def dgt (n:Nat):UInt8:=UInt8.ofNat (48+n)
def pad:Nat→Nat→List UInt8
 | 0,_=>[]
 | k+1,r=>pad k (r / 10)++[dgt (r % 10)]
theorem dec_lt {u:Nat} (h:u<10):decDigits u=[dgt u]:=by rw [decDigits,dif_pos h];rfl
theorem dec_ge {u:Nat} (h:¬ u<10):decDigits u=decDigits (u / 10)++[dgt (u % 10)]:=by rw [decDigits,dif_neg h];rfl
theorem pad_length (k r:Nat):(pad k r).length=k:=by
 induction k generalizing r with
 | zero=>rfl
 | succ k ih=>simp [pad,ih]
theorem dec_append (k q r:Nat) (hq:0<q) (hr:r<10 ^ k):decDigits (q*10 ^ k+r)=decDigits q++pad k r:=by
 induction k generalizing r with
 | zero=>
  have:r=0:=by simpa using hr
  subst this
  simp [pad]
 | succ k ih=>
  rw [Nat.pow_succ] at hr
  have hp:0<10 ^ k:=Nat.pow_pos (by omega)
  have h1:¬ q*10 ^ (k+1)+r<10:=by
   rw [Nat.pow_succ]
   have:1*(10 ^ k*10)≤q*(10 ^ k*10):=Nat.mul_le_mul_right _ hq
   omega
  have h2:(q*10 ^ (k+1)+r) / 10=q*10 ^ k+r / 10:=by
   rw [Nat.pow_succ,←Nat.mul_assoc];omega
  have h3:(q*10 ^ (k+1)+r) % 10=r % 10:=by
   rw [Nat.pow_succ,←Nat.mul_assoc];omega
  rw [dec_ge h1,h2,h3,ih (r / 10) (by omega),pad,List.append_assoc]
theorem pad_dec (k r:Nat) (hk:0<k) (hr:r<10 ^ k):pad k r=List.replicate (k - (decDigits r).length) 48++decDigits r:=by
 induction k generalizing r with
 | zero=>omega
 | succ k ih=>
  rw [pad]
  rcases Nat.eq_zero_or_pos k with rfl | hk0
  ·have h1:r<10:=by simpa using hr
   rw [dec_lt h1,Nat.mod_eq_of_lt h1];simp [pad]
  ·rw [Nat.pow_succ] at hr
   rw [ih (r / 10) hk0 (by omega)]
   by_cases h1:r<10
   ·have h0:r / 10=0:=by omega
    rw [h0,dec_lt h1,dec_lt (by omega:0<10),Nat.mod_eq_of_lt h1]
    simp only [List.length_singleton,Nat.add_sub_cancel]
    have e:k=(k - 1)+1:=by omega
    rw [show List.replicate k (48:UInt8)=List.replicate (k - 1) 48++[48] from by rw [←List.replicate_succ',←e]]
    rfl
   ·rw [dec_ge h1,List.length_append,List.length_singleton]
    have hl:(decDigits (r / 10)).length+1≤k+1∨True := .inr trivial
    rw [show k+1 - ((decDigits (r / 10)).length+1)=k - (decDigits (r / 10)).length from by omega,List.append_assoc]
theorem dec_length_le {k r:Nat} (hk:0<k) (hr:r<10 ^ k):(decDigits r).length≤k:=by
 have h:=congrArg List.length (pad_dec k r hk hr)
 rw [pad_length,List.length_append,List.length_replicate] at h
 omega
theorem dec_length_pos (r:Nat):0<(decDigits r).length:=by
 by_cases h:r<10
 ·rw [dec_lt h];simp
 ·rw [dec_ge h];simp
def T:Nat:=10000000000000000000
theorem T_def:T=10000000000000000000:=rfl
theorem T_pow:T=10 ^ 19:=by decide
theorem T_pos:0<T:=by decide
theorem dec_chunk (x k:Nat) (hq:0<x / T ^ (k+1)) :
  decDigits (x / T ^ k)=decDigits (x / T ^ (k+1))++(List.replicate (19 - (decDigits (x / T ^ k % T)).length) 48++decDigits (x / T ^ k % T)):=by
 have h1:x / T ^ (k+1)=x / T ^ k / T:=by rw [Nat.pow_succ,Nat.div_div_eq_div_mul]
 rw [h1] at hq ⊢
 generalize x / T ^ k=y at *
 have hr:y % T<10 ^ 19:=by rw [←T_pow];exact Nat.mod_lt _ T_pos
 rw [←pad_dec 19 (y % T) (by omega) hr,←dec_append 19 (y / T) (y % T) hq hr,←T_pow,Nat.mul_comm (y / T) T,Nat.div_add_mod]
def chunks (x k:Nat):List Nat:=(List.range k).map fun j=>x / T ^ j % T
theorem chunks_succ (x k:Nat):chunks x (k+1)=chunks x k++[x / T ^ k % T]:=by simp [chunks,List.range_succ]
theorem chunks_get (x k j:Nat) (h:j<k):(chunks x k).getD j 0=x / T ^ j % T:=by simp [chunks,List.getD,h]
end Go.Proofs.YteajibbphcfmeaaGreatDoor.Dec
namespace Go.Proofs.YteajibbphcfmeaaGreatDoor
open Go.RowKit
theorem bldSize:(Tryz.prog.info? 198).map (·.size)=some 2:=by kernel_rfl
theorem bldLies:liesAt Tryz.prog Tryz.prog.depth 198 (2 / Tryz.prog.cellsOf 198) 0 198 1=true:=by kernel_rfl
set_option maxHeartbeats 1000000 in
theorem copyCheck_used (b:Nat) (w:World) (h0:w.cell? ⟨b,0,none⟩=some (.pointer (some ⟨b,0,none⟩))) :
  Calls Tryz.prog 203 #[.pointer (some ⟨b,0,none⟩)] w fun e w'=>e = .returned (.tuple #[])∧w'=w:=by
 obtain ⟨j,hj,_⟩:=Option.map_eq_some_iff.1 bldSize
 have hne:=Lib.run_neq_ptr_same w ⟨b,0,none⟩ Tryz.underlying195 hj
 go_enter Tryz.func203,Tryz.ntmps203
 go_wp2
 go_end0
 exact ⟨rfl,rfl⟩
set_option maxHeartbeats 1000000 in
theorem copyCheck_fresh (b:Nat) (w:World) (h0:w.cell? ⟨b,0,none⟩=some (.pointer none)) (hsh:w.shape? b=some (198,2)) (hfz:w.frozen? ⟨b,0,none⟩=false) :
  Calls Tryz.prog 203 #[.pointer (some ⟨b,0,none⟩)] w fun e w'=>e = .returned (.tuple #[])∧w'=w.setCell ⟨b,0,none⟩ (.pointer (some ⟨b,0,none⟩)):=by
 obtain ⟨j,hj,hjs⟩:=Option.map_eq_some_iff.1 bldSize
 have a1:=Lib.run_to_unsafe w ⟨b,0,none⟩ Tryz.underlying195 Tryz.underlying237 hj (by rw [hjs];decide) hsh (Nat.zero_lt_succ 1)
 have a2:=Lib.run_from_unsafe w ⟨b,0,none⟩ Tryz.underlying237 Tryz.underlying195 hj hsh bldLies
 have a3:∀ x:Value,(callFunc 219 #[x]).run Tryz.prog w = .ok (.value x) w:=fun x=>by
  rw [run_callFunc_extern Tryz.func219 (by kernel_rfl) (by kernel_rfl) (by kernel_rfl) (e:=Extern.AbiNoEscape.same) (by kernel_rfl),Lib.run_noEscape]
  rfl
 have hne:∀ W:World,(binOp .neq 195 (.pointer (some ⟨b,0,none⟩)) (.pointer (some ⟨b,0,none⟩))).run Tryz.prog W = .ok (.bool false) W:=fun W=>Lib.run_neq_ptr_same W ⟨b,0,none⟩ Tryz.underlying195 hj
 clear hjs hj
 go_enter Tryz.func203,Tryz.ntmps203
 go_wp2
 go_end0
 exact ⟨rfl,rfl⟩
theorem copyCheck_any (B b:Nat) (bs:List Value) (w:World) (h:Lib.IsBuilder 198 5 B b bs w) :
  Calls Tryz.prog 203 #[.pointer (some ⟨b,0,none⟩)] w fun e w'=>e = .returned (.tuple #[])∧(Lib.BuilderAt 198 5 B b (.pointer (some ⟨b,0,none⟩)) bs w'∧Below B w w'):=by
 rcases h with h | h
 ·refine (copyCheck_fresh b w h.cell0 h.shape h.frozen0).mono ?_
  rintro e w' ⟨rfl,rfl⟩
  exact ⟨rfl,h.used _,(Below.refl B w).setCell (p:=⟨b,0,none⟩) h.1 _⟩
 ·refine (copyCheck_used b w h.cell0).mono ?_
  rintro e w' ⟨rfl,rfl⟩
  exact ⟨rfl,h,Below.refl B _⟩
theorem info_u8:(Tryz.prog.info? 5).map (fun i=>(i.zero,i.size,i.bytes))=some (some (.int .u8 0),1,1):=by kernel_rfl
set_option maxHeartbeats 1000000 in
theorem writeString_any (B b:Nat) (bs:List Value) (s:ByteArray) (w:World) (h:Lib.IsBuilder 198 5 B b bs w) (hlen:bs.length+s.size≤140737488355328) (hBw:B≤w.heap.size) :
  Calls Tryz.prog 180 #[.pointer (some ⟨b,0,none⟩),.string s] w fun e w'=>e = .returned (.tuple #[.int .i64 s.size,.nilIface])∧(Lib.BuilderAt 198 5 B b (.pointer (some ⟨b,0,none⟩)) (bs++Lib.strCells s) w'∧Below B w w'):=by
 obtain ⟨i0,hi,hz0,hz1,hz2⟩:=info_parts info_u8
 go_enter Tryz.func180,Tryz.ntmps180
 go_wp2_with fail
 refine (copyCheck_any B b bs _ h).mono ?_
 rintro e w1 ⟨rfl,h1,hb1⟩
 obtain ⟨hB,v,hbk,hown,hne⟩:=h1
 have c0:w1.cell? ⟨b,0,none⟩=some (.pointer (some ⟨b,0,none⟩)):=by rw [Lib.cell_of_heap hbk];rfl
 have c1:w1.cell? ⟨b,1,none⟩=some v:=by rw [Lib.cell_of_heap hbk];rfl
 go_wp2_with (at_builtin;refine Lib.wpList_append_own_string _ rfl _ _ 196 9 rfl B 5 i0 Tryz.underlying196 Tryz.underlying9 hi hz0 hz1 hz2 _ _ _ rfl hown s rfl ?c3 ?c4 ?c5 ?_)
 case c3=>unfold maxLen;omega
 case c4=>omega
 case c5=>have:=hb1.size;omega
 intro v' w2 hown' hgrow _
 have hlt:b<w1.heap.size:=by
  rcases Nat.lt_or_ge b w1.heap.size with h' | h'
  ·exact h'
  ·simp [Array.getElem?_eq_none h'] at hbk
 have hb2:w2.heap[b]? = some (.cells #[.pointer (some ⟨b,0,none⟩),v] 198 (0,0)):=by
  rw [hgrow.block b hlt (fun e=>hne e.symm)]
  exact hbk
 have d0:w2.cell? ⟨b,0,none⟩=some (.pointer (some ⟨b,0,none⟩)):=by rw [Lib.cell_of_heap hb2];rfl
 have d1:w2.cell? ⟨b,1,none⟩=some v:=by rw [Lib.cell_of_heap hb2];rfl
 have f1:w2.frozen? ⟨b,1,none⟩=false:=Lib.frozen_of_heap hb2 1
 obtain ⟨ao,n',cap,rfl⟩:∃ ao n' cap,v' = .slice ao n' cap:=by
  rcases hown'.2 with ⟨hv,_⟩ | ⟨g,cap,cur,hv,_⟩
  ·exact ⟨_,_,_,hv⟩
  ·exact ⟨_,_,_,hv⟩
 go_wp2
 go_ret2
 refine ⟨rfl,?_,?_⟩
 ·exact Lib.BuilderAt.put (T:=198) (e:=5) hB hb2 (bs':=bs++Lib.strCells s) (by simpa [Lib.strCells_length] using hown') (by decide)
 ·exact (hb1.grown hgrow (by have:=hb1.size;omega) (fun k hk=>(hown.lt k hk).1)).setCell (p:=⟨b,1,none⟩) hB _
end Go.Proofs.YteajibbphcfmeaaGreatDoor
namespace Go.Proofs.YteajibbphcfmeaaGreatDoor
open Go.RowKit Go.Lib Go.Sort
set_option maxHeartbeats 2000000 in
set_option maxRecDepth 100000 in
theorem formatUint_in (u:Nat) (hu64:u<18446744073709551616) (w:World) (hT:Tabs w) :
  Calls Tryz.prog 202 #[.int .u64 u,.int .i64 10] w fun e w'=>e = .returned (.string ⟨(Lib.decDigits u).toArray⟩)∧Below w.heap.size w w':=by
 by_cases hs:u<100
 ·have hw:IntKind.i64.wrap (u:Int)=(u:Int):=IntWalk.i64_in _ (by omega)
  have hd:decide ((u:Int)<100)=true:=by simp;omega
  go_enter Tryz.func202,Tryz.ntmps202
  go_wp2_with fail
  refine (Tryz.internal_strconv_small u hs _).mono ?_
  rintro e w1 ⟨rfl,rfl⟩
  go_wp2
  go_ret
  exact ⟨rfl,Below.refl _ _⟩
 ·have hd:decide ((u:Int)<100)=false:=by simp;omega
  have hu1:1≤u:=by omega
  have hnd20:Lib.nDigits u≤20:=by have:=Lib.numDigits_eq u hu1 hu64;split at this<;>omega
  have hal:Tryz.prog.arrayLen 233=24:=by kernel_rfl
  have hsl:∀ W,(Instr.sliceAt 233 (.pointer (some ⟨w.heap.size,0,none⟩)) none (some (.int .i64 (Lib.nDigits u:Int))) none).run Tryz.prog W = .ok (.slice (some ⟨w.heap.size,0,none⟩) (Lib.nDigits u) 24) W:=fun W=>by
   rw [run_sliceAt_array_h W 233 ⟨w.heap.size,0,none⟩ (by kernel_rfl) .i64 (Lib.nDigits u:Int) (by omega) (by rw [hal];omega)]
   go_simp
  have hH0:=Lib.holds_zero0 w 233 (Lib.nDigits u) (by omega)
  have hfmt:=Tryz.internal_strconv_formatBase10 w.heap.size 0 24 u (Array.replicate (Lib.nDigits u) 0) (w.alloc (.cells Lib.zeros24 233)) hH0 (by rw [Array.size_replicate];exact Lib.lt_pow_nDigits u) hu64 (by rw [Array.size_replicate];omega)
  rw [Array.size_replicate] at hfmt
  have HH0:=Lib.hid hH0
  have HN:=Lib.hid (Tryz.internal_strconv_numDigits u hu1 hu64 (w.alloc (.cells Lib.zeros24 233)) (Lib.tabIs_alloc hT.pow _))
  clear hH0 hal hu1
  go_enter Tryz.func202,Tryz.ntmps202
  go_wp2_with fail
  refine HN.out.mono ?_
  rintro e w1 ⟨rfl,rfl⟩
  go_wp2_with fail
  refine hfmt.mono ?_
  rintro e w' ⟨rfl,k,v',dk,rfl,hF⟩
  have hcv:(convert 196 9 (.slice (some ⟨w.heap.size,0,none⟩) (Lib.nDigits u) 24)).run Tryz.prog ((putRow (fun (b:UInt8)=>Value.int .u8 (b.toNat:Int)) (w.alloc (.cells Lib.zeros24 233)) w.heap.size 0 dk).drewN k) = .ok (.string ⟨(Lib.decDigits u).toArray⟩) ((putRow (fun (b:UInt8)=>Value.int .u8 (b.toNat:Int)) (w.alloc (.cells Lib.zeros24 233)) w.heap.size 0 dk).drewN k):=by
   have h:=run_convert_bytes_back (P:=Tryz.prog) ((putRow (fun (b:UInt8)=>Value.int .u8 (b.toNat:Int)) (w.alloc (.cells Lib.zeros24 233)) w.heap.size 0 dk).drewN k) 196 9 5 ⟨w.heap.size,0,none⟩ 24 (Lib.decDigits u) Tryz.underlying196 Tryz.underlying5 Tryz.underlying9 (fun j hj=>by
    rw [Lib.row_is_numeral hF j hj,Lib.add_plain,World.cell?_drewN]
    exact cell?_putRow (fun (b:UInt8)=>Value.int .u8 (b.toNat:Int)) _ w.heap.size 0 _ dk HH0.out (by rw [hF.size,Array.size_replicate]) j (by rw [hF.size];rw [Lib.decDigits_length] at hj;exact hj))
   rw [Lib.decDigits_length] at h
   exact h
  have hB:Below w.heap.size w ((putRow (fun (b:UInt8)=>Value.int .u8 (b.toNat:Int)) (w.alloc (.cells Lib.zeros24 233)) w.heap.size 0 dk).drewN k):=by
   refine below_drewN ?_ k
   rw [alloc_eq_grow]
   obtain ⟨os',_,e⟩:=putRow_grow_new (fun (b:UInt8)=>Value.int .u8 (b.toNat:Int)) w #[.cells Lib.zeros24 233] w.heap.size 0 dk (Nat.le_refl _)
   rw [e]
   have h:=below_grow w.heap.size w (Nat.le_refl _) 0 os'
   rwa [World.drewN_zero] at h
  go_wp2
  go_ret
  exact ⟨rfl,hB⟩
theorem formatUint_any (u:Nat) (hu64:u<18446744073709551616) (w:World) (hT:Tabs w) :
  Calls Tryz.prog 178 #[.int .u64 u,.int .i64 10] w fun e w'=>e = .returned (.string ⟨(Lib.decDigits u).toArray⟩)∧Below w.heap.size w w':=by
 have h:=formatUint_in u hu64 w hT
 generalize (⟨(Lib.decDigits u).toArray⟩:ByteArray)=s at h ⊢
 go_enter Tryz.func178,Tryz.ntmps178
 go_wp2_with fail
 refine h.mono ?_
 rintro e w1 ⟨rfl,hb⟩
 go_wp2
 go_ret
 exact ⟨rfl,hb⟩
end Go.Proofs.YteajibbphcfmeaaGreatDoor
