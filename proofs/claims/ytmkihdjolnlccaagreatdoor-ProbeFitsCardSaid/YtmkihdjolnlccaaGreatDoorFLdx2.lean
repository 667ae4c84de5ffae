/- Contracts of math.Ldexp of a whole number of few bits. -/
import Derived.Test.YtmkihdjolnlccaaGreatDoorFDpu
import Derived.Test.YtmkihdjolnlccaaGreatDoorFScal
import Derived.Test.YtmkihdjolnlccaaGreatDoorFRead2
import Derived.Test.YtmkihdjolnlccaaGreatDoorFText
namespace Go.Proofs.YtmkihdjolnlccaaGreatDoor
open Go.RowKit
open Flt
theorem ord_not_gt {x y:Nat} (hx:fin Ieee.double x=true) (hy:fin Ieee.double y=true) (h:key Ieee.double x≤key Ieee.double y):(FloatKind.f64.format.order x y==some .gt)=false:=by
 show (Ieee.double.order x y==some .gt)=false
 rw [order_fin hx hy]
 generalize key Ieee.double x=a at h
 generalize key Ieee.double y=b at h
 rcases Int.lt_trichotomy a b with h1 | h1 | h1
 ·rw [cmp_lt h1];rfl
 ·subst h1;rw [cmp_eq];rfl
 ·omega
theorem ord_not_lt {x y:Nat} (hx:fin Ieee.double x=true) (hy:fin Ieee.double y=true) (h:key Ieee.double y≤key Ieee.double x):(FloatKind.f64.format.order x y==some .lt)=false:=by
 show (Ieee.double.order x y==some .lt)=false
 rw [order_fin hx hy]
 generalize key Ieee.double x=a at h
 generalize key Ieee.double y=b at h
 rcases Int.lt_trichotomy a b with h1 | h1 | h1
 ·omega
 ·subst h1;rw [cmp_eq];rfl
 ·rw [cmp_gt h1];rfl
theorem ord_not_eq {x y:Nat} (hx:fin Ieee.double x=true) (hy:fin Ieee.double y=true) (h:key Ieee.double x≠key Ieee.double y):(FloatKind.f64.format.order x y==some .eq)=false:=by
 show (Ieee.double.order x y==some .eq)=false
 rw [order_fin hx hy]
 generalize key Ieee.double x=a at h
 generalize key Ieee.double y=b at h
 rcases Int.lt_trichotomy a b with h1 | h1 | h1
 ·rw [cmp_lt h1];rfl
 ·exact absurd h1 h
 ·rw [cmp_gt h1];rfl
theorem ord_self {x:Nat} (hx:fin Ieee.double x=true):(FloatKind.f64.format.order x x != some .eq)=false:=by
 show (Ieee.double.order x x != some .eq)=false
 rw [order_fin hx hx,cmp_eq];rfl
theorem max_read:Ieee.double.read 9218868437227405311 = .number false 9007199254740991 971:=by decide +kernel
theorem min_read:Ieee.double.read 4503599627370496 = .number false 4503599627370496 (-1074):=by decide +kernel
theorem zero_read:Ieee.double.read 0 = .number false 0 (-1074):=by decide +kernel
theorem dn_word {n:Nat} {e:Int} (h0:0<n) (h1:n<9007199254740992) (he : -1022≤e+n.log2) (he2:e+n.log2≤1023) :
  ∃ F:Nat,F<4503599627370496∧dn n e=(e+n.log2+1023).toNat*4503599627370496+F∧F=sg n - 4503599627370496:=by
 have hn:=sg_nrm h0 h1 he he2
 have:=hn.lo
 have:=hn.hi
 refine ⟨sg n - 4503599627370496,by omega,?_,rfl⟩
 unfold dn dw Ieee.Format.word
 rw [if_neg (by decide)]
 omega
theorem norm_dn {n:Nat} (h0:0<n) (h1:n<9007199254740992):Norm64 (dn n 0)∧dn n 0 / 9223372036854775808=0∧dn n 0 / 4503599627370496 % 2048=n.log2+1023:=by
 have e53:(2:Nat) ^ 53=9007199254740992:=by decide
 have a3:n.log2<53:=(Nat.log2_lt (by omega)).2 (by omega)
 obtain ⟨F,hF,hw,_⟩:=dn_word (e:=0) h0 h1 (by omega) (by omega)
 have hlt:dn n 0<9223372036854775808:=by omega
 have hab:absB (dn n 0)=dn n 0:=Nat.mod_eq_of_lt hlt
 have f1:=fin_dn (e:=0) h0 h1 (by omega) (by omega)
 have k1:=key_dn (e:=0) h0 h1 (by omega) (by omega) (by omega)
 have f2:=fin_of_read max_read
 have k2:=key_of_read max_read
 have f3:=fin_of_read min_read
 have k3:=key_of_read min_read
 have f4:=fin_of_read zero_read
 have k4:=key_of_read zero_read
 rw [dbl_least] at k2 k3 k4
 have hp:∀ k:Nat,0<2 ^ k:=fun k=>Nat.two_pow_pos k
 refine ⟨⟨by omega,ord_not_eq f1 f4 ?_,?_,ord_self f1,?_⟩,by omega,by omega⟩
 ·rw [k1,k4,Nat.zero_mul]
  have:=Nat.mul_pos h0 (hp (0+1074:Int).toNat)
  generalize n*2 ^ (0+1074:Int).toNat=A at this
  omega
 ·rw [hab]
  refine ord_not_gt f1 f2 ?_
  rw [k1,k2]
  obtain ⟨a,ha⟩:∃ a:Nat,(0+1074:Int).toNat=a∧(a:Int)=1074:=⟨_,rfl,by decide⟩
  obtain ⟨b,hb⟩:∃ b:Nat,(971 - -1074:Int).toNat=b∧(b:Int)=2045:=⟨_,rfl,by decide⟩
  rw [ha.1,hb.1]
  have:=Nat.mul_le_mul (show n≤9007199254740991 by omega) (Nat.pow_le_pow_right (show 0<2 by decide) (show a≤b by omega))
  exact Int.ofNat_le.2 this
 ·rw [hab]
  refine ord_not_lt f1 f3 ?_
  rw [k1,k3]
  obtain ⟨a,ha⟩:∃ a:Nat,(0+1074:Int).toNat=a∧(a:Int)=1074:=⟨_,rfl,by decide⟩
  obtain ⟨b,hb⟩:∃ b:Nat,(-1074 - -1074:Int).toNat=b∧(b:Int)=0:=⟨_,rfl,by decide⟩
  rw [ha.1,hb.1]
  have hb0:b=0:=by omega
  have e52:(2:Nat) ^ 52=4503599627370496:=by decide
  subst hb0
  rw [←e52,Nat.pow_zero,Nat.mul_one]
  have:=Nat.mul_le_mul (show 1≤n from h0) (Nat.pow_le_pow_right (show 0<2 by decide) (show 52≤a by omega))
  rw [Nat.one_mul] at this
  exact Int.ofNat_le.2 this
theorem ldexp_dn {n:Nat} {e:Int} (w:World) (h0:0<n) (h1:n<9007199254740992) (he : -1022≤e+n.log2) (he2:e+n.log2≤1023) :
  Calls Tryz.prog 197 #[.float .f64 (dn n 0),.int .i64 e] w fun e' w'=>e' = .returned (.float .f64 (dn n e))∧w=w':=by
 have e53:(2:Nat) ^ 53=9007199254740992:=by decide
 have a3:n.log2<53:=(Nat.log2_lt (by omega)).2 (by omega)
 obtain ⟨hN,hs,hE⟩:=norm_dn h0 h1
 obtain ⟨F,hF,hw,hF2⟩:=dn_word (e:=0) h0 h1 (by omega) (by omega)
 obtain ⟨G,hG,hv,hG2⟩:=dn_word (e:=e) h0 h1 he he2
 have hY:ldY (dn n 0) (e+n.log2)=dn n e:=by
  unfold ldY
  rw [hs,hv]
  omega
 refine ldexp_in (dn n 0) e (e+n.log2) (dn n e) w hN (by omega) (by rw [hE];omega) he he2 ?_
 rw [hY]
 exact one_mul false (sg_nrm h0 h1 he he2)
set_option maxRecDepth 100000 in
theorem inf_one (w:World):Calls Tryz.prog 212 #[.int .i64 1] w fun e w'=>e = .returned (.float .f64 9218868437227405312)∧w=w':=by
 have hf:∀ W:World,(callFunc 237 #[.int .u64 (9218868437227405312:Int)]).run Tryz.prog W = .ok (.value (.float .f64 9218868437227405312)) W:=fun W=>call_frombits 9218868437227405312 W
 go_enter Tryz.func212,Tryz.ntmps212
 go_wp2
 go_ret
 exact ⟨rfl,rfl⟩
set_option maxHeartbeats 1000000 in
set_option maxRecDepth 100000 in
theorem ldexp_over (x:Nat) (e m:Int) (w:World) (h:Norm64 x) (he : -9223372036854775808≤e∧e<9223372036854770000) (hm:m=e+((x / 4503599627370496 % 2048:Nat):Int) - 1023) (hm1:1023<m) (hp:(FloatKind.f64.format.order x 0==some .lt)=false) :
  Calls Tryz.prog 197 #[.float .f64 x,.int .i64 e] w fun e w'=>e = .returned (.float .f64 9218868437227405312)∧w=w':=by
 have hz:=h.nz
 have hin:=isInf_any x w h.lt
 rw [h.inf] at hin
 have hnn:=isNaN_any x w
 rw [h.nan] at hnn
 have hno:=normalize_any x w h
 have hcb:=call_bits x
 have f1:wrap64 ((x:Int) / 4503599627370496)=((x / 4503599627370496:Nat):Int):=by
  have:=h.lt
  rw [IntWalk.wrap64_in _ (by omega)];rfl
 have f2:bits BinOp.and IntKind.i64 ((x / 4503599627370496:Nat):Int) 2047=((x / 4503599627370496 % 2048:Nat):Int):=i64_and2047 _
 have hE:x / 4503599627370496 % 2048<2048:=Nat.mod_lt _ (by omega)
 have f4:wrap64 e=e:=IntWalk.wrap64_in _ (by omega)
 have f3:wrap64 (((x / 4503599627370496 % 2048:Nat):Int) - 1023)=((x / 4503599627370496 % 2048:Nat):Int) - 1023:=IntWalk.wrap64_in _ (by omega)
 have f5:wrap64 (e+(((x / 4503599627370496 % 2048:Nat):Int) - 1023))=m:=by rw [IntWalk.wrap64_in _ (by omega)];omega
 generalize x / 4503599627370496 % 2048=E at *
 generalize x / 4503599627370496=X at *
 have hin2:=Lib.hid hin
 clear hin hm he
 go_enter Tryz.func197,Tryz.ntmps197
 go_wp2_with fail
 refine hin2.out.mono ?_
 rintro e w1 ⟨rfl,rfl⟩
 go_wp2_with fail
 refine hnn.mono ?_
 rintro e w1 ⟨rfl,rfl⟩
 go_wp2_with fail
 refine hno.mono ?_
 rintro e w1 ⟨rfl,rfl⟩
 go_wp2_with fail
 refine (inf_one _).mono ?_
 rintro e w1 ⟨rfl,rfl⟩
 go_wp2_with fail
 go_ret
 exact ⟨rfl,rfl⟩
theorem ldexp_big {n:Nat} {e:Int} (w:World) (h0:0<n) (h1:n<9007199254740992) (he2:1023<e+n.log2) (he3:e<9223372036854770000) :
  Calls Tryz.prog 197 #[.float .f64 (dn n 0),.int .i64 e] w fun e' w'=>e' = .returned (.float .f64 9218868437227405312)∧w=w':=by
 have e53:(2:Nat) ^ 53=9007199254740992:=by decide
 have a3:n.log2<53:=(Nat.log2_lt (by omega)).2 (by omega)
 obtain ⟨hN,hs,hE⟩:=norm_dn h0 h1
 refine ldexp_over (dn n 0) e (e+n.log2) w hN (by omega) (by rw [hE];omega) he2 ?_
 have f1:=fin_dn (e:=0) h0 h1 (by omega) (by omega)
 have k1:=key_dn (e:=0) h0 h1 (by omega) (by omega) (by omega)
 have f4:=fin_of_read zero_read
 have k4:=key_of_read zero_read
 refine ord_not_lt f1 f4 ?_
 rw [k1,k4,Nat.zero_mul]
 generalize n*2 ^ (0+1074:Int).toNat=A
 omega
theorem zero_eq:(FloatKind.f64.format.order 0 0==some .eq)=true:=by decide +kernel
theorem ldexp_zero {e:Int} (w:World):Calls Tryz.prog 197 #[.float .f64 0,.int .i64 e] w fun e' w'=>e' = .returned (.float .f64 0)∧w=w':=by
 have hz:=zero_eq
 go_enter Tryz.func197,Tryz.ntmps197
 go_wp2
 go_ret
 exact ⟨rfl,rfl⟩
theorem Ldexp_any {x r:Nat} {e:Int} (w:World) (h:Calls Tryz.prog 197 #[.float .f64 x,.int .i64 e] w fun e' w'=>e' = .returned (.float .f64 r)∧w=w') :
  Calls Tryz.prog 119 #[.float .f64 x,.int .i64 e] w fun e' w'=>e' = .returned (.float .f64 r)∧w=w':=by
 have h2:=Lib.hid h
 clear h
 go_enter Tryz.func119,Tryz.ntmps119
 go_wp2_with fail
 refine h2.out.mono ?_
 rintro e w1 ⟨rfl,rfl⟩
 go_wp2_with fail
 go_ret
 exact ⟨rfl,rfl⟩
set_option maxHeartbeats 60000
theorem i_dw (s:Bool) {m:Nat} {p:Int} (h:Nrm m p):∃ F R:Nat,F<4503599627370496∧m=4503599627370496+F∧(R:Int)=p+1075∧R<2047∧dw s m p=s.toNat*9223372036854775808+R*4503599627370496+F:=by
 have:=h.lo;have:=h.hi;have:=h.p0;have:=h.p1
 refine ⟨m - 4503599627370496,(p+1075).toNat,by omega,by omega,by omega,by omega,?_⟩
 unfold dw Ieee.Format.word
 rw [dbl_sign]
 cases s
 ·rw [if_neg (by decide)];show _=0*_+_+_;omega
 ·rw [if_pos rfl];show _=1*_+_+_;omega
theorem key_pos {f:Ieee.Format} {b m:Nat} {s:Bool} {p:Int} (h:f.read b = .number s m p) (hm:0<m):key f b≠0:=by
 unfold key;rw [h]
 simp only [Ieee.signed,Nat.shiftLeft_eq]
 have:=Nat.mul_pos hm (Nat.two_pow_pos (p - f.leastPlace).toNat)
 generalize m*2 ^ (p - f.leastPlace).toNat=A at this
 split<;>omega
theorem norm_dw (s:Bool) {m:Nat} {p:Int} (h:Nrm m p):Norm64 (dw s m p):=by
 have hlo:=h.lo;have hhi:=h.hi;have hp0:=h.p0;have hp1:=h.p1
 obtain ⟨F,R,hF,hm,hR,hR2,hw⟩:=i_dw s h
 obtain ⟨F',R',hF',hm',hR',hR2',hw'⟩:=i_dw false h
 have hs:s.toNat≤1:=by cases s<;>decide
 have hab:absB (dw s m p)=dw false m p:=by
  have:false.toNat=0:=rfl
  rw [this] at hw'
  unfold absB
  omega
 have f1:=fin_of_read (read_dw s h)
 have f1':=fin_of_read (read_dw false h)
 have k1:=key_of_read (read_dw false h)
 have f2:=fin_of_read max_read
 have k2:=key_of_read max_read
 have f3:=fin_of_read min_read
 have k3:=key_of_read min_read
 have f4:=fin_of_read zero_read
 have k4:=key_of_read zero_read
 rw [dbl_least] at k1 k2 k3 k4
 refine ⟨by omega,ord_not_eq f1 f4 ?_,?_,ord_self f1,?_⟩
 ·rw [k4,Nat.zero_mul];exact key_pos (read_dw s h) (by omega)
 ·rw [hab]
  refine ord_not_gt f1' f2 ?_
  rw [k1,k2]
  obtain ⟨a,ha⟩:∃ a:Nat,(p - -1074:Int).toNat=a∧(a:Int)=p+1074:=⟨_,rfl,by omega⟩
  obtain ⟨b,hb⟩:∃ b:Nat,(971 - -1074:Int).toNat=b∧(b:Int)=2045:=⟨_,rfl,by decide⟩
  rw [ha.1,hb.1]
  have:=Nat.mul_le_mul (show m≤9007199254740991 by omega) (Nat.pow_le_pow_right (show 0<2 by decide) (show a≤b by omega))
  exact Int.ofNat_le.2 this
 ·rw [hab]
  refine ord_not_lt f1' f3 ?_
  rw [k1,k3]
  obtain ⟨a,ha⟩:∃ a:Nat,(p - -1074:Int).toNat=a∧(a:Int)=p+1074:=⟨_,rfl,by omega⟩
  obtain ⟨b,hb⟩:∃ b:Nat,(-1074 - -1074:Int).toNat=b∧(b:Int)=0:=⟨_,rfl,by decide⟩
  rw [ha.1,hb.1]
  have hb0:b=0:=by omega
  subst hb0
  have:=Nat.mul_le_mul hlo (Nat.pow_le_pow_right (show 0<2 by decide) (show 0≤a by omega))
  exact Int.ofNat_le.2 this
theorem u64_and2047 (n:Nat) (h:n<18446744073709551616):bits BinOp.and IntKind.u64 (n:Int) 2047=((n % 2048:Nat):Int):=by
 have:=u64_and_nat n 2047 h (by omega)
 rw [show n &&& 2047=n % 2048 from Nat.and_two_pow_sub_one_eq_mod n 11] at this
 exact this
set_option maxHeartbeats 200000 in
set_option maxRecDepth 100000 in
theorem frexp_in (x Y:Nat) (m:Int) (w:World) (h:Norm64 x) (hm:m=((x / 4503599627370496 % 2048:Nat):Int) - 1022)
  (hY:Y=x % 4503599627370496+x / 9223372036854775808*9223372036854775808+4602678819172646912) :
  Calls Tryz.prog 188 #[.float .f64 x] w fun e w'=>e = .returned (.tuple #[.float .f64 Y,.int .i64 m])∧w=w':=by
 have hz:=h.nz
 have hin:=isInf_any x w h.lt
 rw [h.inf] at hin
 have hnn:=isNaN_any x w
 rw [h.nan] at hnn
 have hno:=normalize_any x w h
 have hcb:=call_bits x
 have hlt:=h.lt
 have f2:=u64_and2047 (x / 4503599627370496) (by omega)
 have f0:((x / 4503599627370496:Nat):Int)=(x:Int) / 4503599627370496:=by omega
 rw [f0] at f2
 have hE:x / 4503599627370496 % 2048<2048:=Nat.mod_lt _ (by omega)
 have f3:wrap64 (((x / 4503599627370496 % 2048:Nat):Int) - 1023)=((x / 4503599627370496 % 2048:Nat):Int) - 1023:=IntWalk.wrap64_in _ (by omega)
 have f4:wrap64 (((x / 4503599627370496 % 2048:Nat):Int) - 1023+1)=m:=by rw [IntWalk.wrap64_in _ (by omega)];omega
 have f5:wrap64 m=m:=IntWalk.wrap64_in _ (by omega)
 have f8:wrap64 ((x / 4503599627370496 % 2048:Nat):Int)=((x / 4503599627370496 % 2048:Nat):Int):=IntWalk.wrap64_in _ (by omega)
 have f6:=andNot_exp x h.lt
 obtain ⟨k,hk⟩:∃ k:Nat,k=1022:=⟨_,rfl⟩
 have f7:=or_exp x k h.lt (by omega)
 have f9:((k*4503599627370496:Nat):Int)=4602678819172646912:=by omega
 have f10:x % 4503599627370496+x / 9223372036854775808*9223372036854775808+k*4503599627370496=Y:=by omega
 rw [f10,f9] at f7
 clear hk f9 f10
 generalize x % 4503599627370496+x / 9223372036854775808*9223372036854775808=F at f6 f7
 have hfb:=call_frombits Y
 generalize x / 4503599627370496 % 2048=E at *
 have hin2:=Lib.hid hin
 have HM:Hid ((E:Int) - 1023+1=m):=by rw [hm];show (E:Int) - 1023+1=(E:Int) - 1022;omega
 clear hin hm hY f0
 go_enter Tryz.func188,Tryz.ntmps188
 go_wp2_with fail
 refine hin2.out.mono ?_
 rintro e w1 ⟨rfl,rfl⟩
 go_wp2_with fail
 refine hnn.mono ?_
 rintro e w1 ⟨rfl,rfl⟩
 go_wp2_with fail
 refine hno.mono ?_
 rintro e w1 ⟨rfl,rfl⟩
 go_upto_region 7 with fail
 have F6:=Lib.hid f6
 have F7:=Lib.hid f7
 clear f6 f7 hz hnn hno hin2 hcb h hlt
 have HFB:=Lib.hid hfb
 clear hfb
 go_upto_region 8 with fail
 clear f2 f3 f8
 have f6:=F6.out
 have f7:=F7.out
 have hfb:=HFB.out
 go_wp2_with fail
 go_ret2
 exact ⟨by rw [←HM.out];rfl,rfl⟩
theorem frexp_dw (s:Bool) {m:Nat} {p:Int} (w:World) (h:Nrm m p) :
  Calls Tryz.prog 188 #[.float .f64 (dw s m p)] w fun e w'=>e = .returned (.tuple #[.float .f64 (dw s m (-53)),.int .i64 (p+53)])∧w=w':=by
 have hN:=norm_dw s h
 obtain ⟨F,R,hF,hm,hR,hR2,hw⟩:=i_dw s h
 obtain ⟨F',R',hF',hm',hR',hR2',hw'⟩:=i_dw (m:=m) (p := -53) s ⟨h.lo,h.hi,by omega,by omega⟩
 have hs:s.toNat≤1:=by cases s<;>decide
 exact frexp_in (dw s m p) (dw s m (-53)) (p+53) w hN (by omega) (by omega)
theorem Frexp_of {x r:Nat} {i:Int} (w:World) (h:Calls Tryz.prog 188 #[.float .f64 x] w fun e w'=>e = .returned (.tuple #[.float .f64 r,.int .i64 i])∧w=w') :
  Calls Tryz.prog 110 #[.float .f64 x] w fun e w'=>e = .returned (.tuple #[.float .f64 r,.int .i64 i])∧w=w':=by
 have h2:=Lib.hid h
 clear h
 go_enter Tryz.func110,Tryz.ntmps110
 go_wp2_with fail
 refine h2.out.mono ?_
 rintro e w1 ⟨rfl,rfl⟩
 go_wp2_with fail
 go_ret2
 exact ⟨rfl,rfl⟩
theorem frexp_zero (x:Nat) (w:World) (hz:(FloatKind.f64.format.order x 0==some .eq)=true) :
  Calls Tryz.prog 188 #[.float .f64 x] w fun e w'=>e = .returned (.tuple #[.float .f64 x,.int .i64 0])∧w=w':=by
 go_enter Tryz.func188,Tryz.ntmps188
 go_wp2_with fail
 go_ret2
 exact ⟨rfl,rfl⟩
end Go.Proofs.YtmkihdjolnlccaaGreatDoor
namespace Go.Proofs.YtmkihdjolnlccaaGreatDoor
open Go.RowKit Bn
theorem u64_mod (z:Int):IntKind.u64.wrap z=z % 18446744073709551616:=by
 first | rfl | (unfold IntKind.wrap;rfl) | (unfold IntKind.wrap IntKind.signed IntKind.bits;simp)
set_option maxHeartbeats 2000000 in
set_option maxRecDepth 100000 in
theorem integer_any (z:Int) (w:World) (h0 : -9223372036854775808≤z) (h1:z<9223372036854775808) :
  Calls Tryz.prog 111 #[.int .i64 z] w (RetRat w ⟨decide (z<0),z.natAbs,1⟩):=by
 have hb3:Below w.heap.size w (w.alloc (.cells #[.bool false,.slice none 0 0,.slice none 0 0] 159)):=(Below.refl _ _).alloc (Nat.le_refl _) _
 go_enter Tryz.func111,Tryz.ntmps111
 by_cases hz:z<0
 ·have hd:decide (z<0)=true:=by simpa using hz
  have hw1:IntKind.u64.wrap z=z+18446744073709551616:=by rw [u64_mod];omega
  have hw2:IntKind.u64.wrap (-(z+18446744073709551616)) = -z:=by rw [u64_mod];omega
  go_wp2_with fail
  refine (naturalOf_any (-z) _ (by omega) (by omega)).mono ?_
  rintro e w4 ⟨A5,m5,c5,rfl,hn5,hb5⟩
  go_wp2_with fail
  refine (naturalOf_any 1 _ (by omega) (by omega)).mono ?_
  rintro e w6 ⟨A6,m6,c6,rfl,hn6,hb6⟩
  have hk:=((ResBlk.new w false (.slice none 0 0) (.slice none 0 0)).below hb5 (by simp)).below hb6 (by have:=hb5.size;simp at this;omega)
  obtain ⟨k0,k1,k2,f0,f1,f2,_⟩:=hk.cells
  have hball:=(hb3.trans (hb5.mono hb3.size)).trans (hb6.mono (by have:=hb5.size;simp at this;omega))
  have hset:=three_set hball (g:=w.heap.size) (Nat.le_refl _) (.bool true) (.slice A5 m5 c5) (.slice A6 m6 c6)
  have hna:(-z).toNat=z.natAbs:=by omega
  go_wp2
  refine bodyPost_ret (v := .agg #[.bool true,.slice A5 m5 c5,.slice A6 m6 c6]) (by simp [results,Tryz.results111,go_sem,k0,k1,k2]) rfl ⟨_,rfl,⟨A5,m5,c5,A6,m6,c6,by rw [hd],?_,?_⟩,hset⟩
  ·rw [size_set3];show NatS _ _ A5 m5 c5 z.natAbs;rw [←hna];exact (hn5.later hb6).res hk _ _ _
  ·rw [size_set3];exact hn6.res hk _ _ _
 ·have hd:decide (z<0)=false:=by simpa using hz
  have hw1:IntKind.u64.wrap z=z:=by rw [u64_mod];omega
  go_wp2_with fail
  refine (naturalOf_any (z) _ (by omega) (by omega)).mono ?_
  rintro e w4 ⟨A5,m5,c5,rfl,hn5,hb5⟩
  go_wp2_with fail
  refine (naturalOf_any 1 _ (by omega) (by omega)).mono ?_
  rintro e w6 ⟨A6,m6,c6,rfl,hn6,hb6⟩
  have hk:=((ResBlk.new w false (.slice none 0 0) (.slice none 0 0)).below hb5 (by simp)).below hb6 (by have:=hb5.size;simp at this;omega)
  obtain ⟨k0,k1,k2,f0,f1,f2,_⟩:=hk.cells
  have hball:=(hb3.trans (hb5.mono hb3.size)).trans (hb6.mono (by have:=hb5.size;simp at this;omega))
  have hset:=three_set hball (g:=w.heap.size) (Nat.le_refl _) (.bool false) (.slice A5 m5 c5) (.slice A6 m6 c6)
  have hna:(z).toNat=z.natAbs:=by omega
  go_wp2
  refine bodyPost_ret (v := .agg #[.bool false,.slice A5 m5 c5,.slice A6 m6 c6]) (by simp [results,Tryz.results111,go_sem,k0,k1,k2]) rfl ⟨_,rfl,⟨A5,m5,c5,A6,m6,c6,by rw [hd],?_,?_⟩,hset⟩
  ·rw [size_set3];show NatS _ _ A5 m5 c5 z.natAbs;rw [←hna];exact (hn5.later hb6).res hk _ _ _
  ·rw [size_set3];exact hn6.res hk _ _ _
end Go.Proofs.YtmkihdjolnlccaaGreatDoor
namespace Go.Proofs.YtmkihdjolnlccaaGreatDoor
open Go.RowKit
open Flt
theorem write_sg (s:Bool) {n:Nat} {e:Int} (h0:0<n) (h1:n<9007199254740992) (he : -1022≤e+n.log2) (he2:e+n.log2≤1023):Ieee.double.write (.number s n e)=dw s (sg n) (e+n.log2 - 52):=by
 have hn:=sg_nrm h0 h1 he he2
 have hr:=hn.rung
 have e53:(2:Nat) ^ 53=9007199254740992:=by decide
 have a3:n.log2<53:=(Nat.log2_lt (by omega)).2 (by omega)
 show Ieee.double.nearest s n e=_
 rw [nearest_up Ieee.double s n (52 - n.log2) e h0 (by rw [dbl_least];show max (e+(n.log2:Int) - ((52:Nat):Int)) (-1074)=_;omega) (by rw [dbl_least,dbl_binade,dbl_inf,show e - ((52 - n.log2:Nat):Int) - -1074=e+n.log2 - 52+1074 from by omega];exact Nat.le_of_lt hr)]
 unfold dw sg
 rw [dbl_least,dbl_binade,show e - ((52 - n.log2:Nat):Int) - -1074=e+n.log2 - 52+1074 from by omega]
theorem sgl_fin {b m:Nat} {s:Bool} {p:Int} (h:Ieee.single.read b = .number s m p):m<16777216 ∧ -149≤p∧p≤104:=by
 unfold Ieee.Format.read at h
 rw [sgl_sign,sgl_binade,sgl_inf,sgl_least] at h
 dsimp only at h
 generalize hr:b % 2147483648=r at h
 by_cases h1:r<8388608
 ·rw [if_pos h1] at h
  injection h with _ h2 h3
  omega
 ·rw [if_neg h1] at h
  by_cases h2:r<2139095040
  ·rw [if_pos h2] at h
   injection h with _ h3 h4
   omega
  ·rw [if_neg h2] at h
   split at h<;>cases h
theorem f2d_number {b m r:Nat} {s t:Bool} {e p:Int} {n:Nat} (h:Ieee.single.read b = .number s m e) (hw:Ieee.double.write (.number s m e)=r) (hi:Ieee.double.read r = .number t n p):floatToFloatBits .f32 b .f64=some r:=by
 have h':FloatKind.f32.decode b = .number s m e:=h
 have hw':FloatKind.f64.encode (.number s m e)=r:=hw
 have hi':FloatKind.f64.decode r = .number t n p:=hi
 unfold floatToFloatBits
 rw [if_neg (by decide),h']
 simp only [hw',hi']
 rfl
theorem widen {b m:Nat} {s:Bool} {p:Int} (h:Ieee.single.read b = .number s m p) (hm:0<m):floatToFloatBits .f32 b .f64=some (dw s (sg m) (p+m.log2 - 52))∧Nrm (sg m) (p+m.log2 - 52)∧m.log2≤23:=by
 have e24:(2:Nat) ^ 24=16777216:=by decide
 obtain ⟨h1,h2,h3⟩:=sgl_fin h
 have hl:m.log2<24:=(Nat.log2_lt (by omega)).2 (by omega)
 have hn:=sg_nrm (n:=m) (e:=p) hm (by omega) (by omega) (by omega)
 exact ⟨f2d_number h (write_sg s hm (by omega) (by omega) (by omega)) (read_dw s hn),hn,by omega⟩
theorem write_zero (s:Bool) (p:Int):Ieee.double.write (.number s 0 p)=Ieee.double.word s 0:=by
 show Ieee.double.nearest s 0 p=_
 unfold Ieee.Format.nearest
 rw [if_pos rfl]
theorem read_zero_word (s:Bool):Ieee.double.read (Ieee.double.word s 0) = .number s 0 (-1074):=by
 cases s<;>decide +kernel
theorem widen_zero {b:Nat} {s:Bool} {p:Int} (h:Ieee.single.read b = .number s 0 p):floatToFloatBits .f32 b .f64=some (Ieee.double.word s 0):=
 f2d_number h (write_zero s p) (read_zero_word s)
structure Fine (b x:Nat):Prop where
 conv:floatToFloatBits .f32 b .f64=some x
 lt:x<18446744073709551616
 inf:(FloatKind.f64.format.order (absB x) 9218868437227405311==some .gt)=false
 nan:(FloatKind.f64.format.order x x != some .eq)=false
theorem fine_pos {b m:Nat} {s:Bool} {p:Int} (h:Ieee.single.read b = .number s m p) (hm:0<m):Fine b (dw s (sg m) (p+m.log2 - 52)):=by
 obtain ⟨h1,h2,_⟩:=widen h hm
 have hN:=norm_dw s h2
 exact ⟨h1,hN.lt,hN.inf,hN.nan⟩
theorem fine_zero {b:Nat} {s:Bool} {p:Int} (h:Ieee.single.read b = .number s 0 p):Fine b (Ieee.double.word s 0):=by
 refine ⟨widen_zero h,?_,?_,?_⟩<;>cases s<;>decide +kernel
theorem isFinite_fine {b x:Nat} (w:World) (h:Fine b x):Calls Tryz.prog 109 #[.float .f32 b] w fun e w'=>e = .returned (.bool true)∧w=w':=by
 have hcv:=fun W:World=>run_convert_float_float (P:=Tryz.prog) W 64 163 .f32 .f64 b x (by kernel_rfl) (by kernel_rfl) h.conv
 have hnn:=isNaN_any x w
 rw [h.nan] at hnn
 have hin:=isInf_any x w h.lt
 rw [h.inf] at hin
 have HN:=Lib.hid hnn
 have HI:=Lib.hid hin
 clear hnn hin h
 go_enter Tryz.func109,Tryz.ntmps109
 go_wp2_with fail
 refine HN.out.mono ?_
 rintro e w1 ⟨rfl,rfl⟩
 go_wp2_with fail
 refine HI.out.mono ?_
 rintro e w1 ⟨rfl,rfl⟩
 go_wp2_with fail
 go_ret
 exact ⟨rfl,rfl⟩
theorem mul_24 (s:Bool) {m:Nat} (h:Nrm m (-53)):floatBits .mul .f64 (dw s m (-53)) 4715268809856909312=some (dw s m (-29)):=by
 show (((Ieee.double.read (dw s m (-53))).product (Ieee.double.read 4715268809856909312)).map Ieee.double.write)=_
 have e1:Ieee.double.read 4715268809856909312 = .number false 4503599627370496 (-28):=by decide +kernel
 rw [e1,read_dw s h]
 show some (Ieee.double.write (.number (s ^^ false) (m*4503599627370496) (-53 + -28)))=_
 have e2:m*4503599627370496=m*2 ^ 52:=by rfl
 rw [e2,write_dw (s ^^ false) 52 (q := -29) ⟨h.lo,h.hi,by omega,by omega⟩ (by omega)]
 simp
theorem cut_zero_exact (s:Bool) (n d:Nat) (hn:0<n):Ieee.Toward.zero.cut s (n*2 ^ d) d=n:=by
 unfold Ieee.Toward.cut
 have e:min d ((n*2 ^ d).log2+2)=d:=by rw [log2_mul_pow n d hn];omega
 have hp:=Nat.two_pow_pos d
 simp only [e,Nat.shiftLeft_eq,Nat.one_mul,Nat.mul_div_cancel _ hp]
 rfl
theorem int_29 (s:Bool) {m:Nat} (h0:0<m) (hl:m.log2≤23) (hm:m<16777216):floatToIntVal .f64 (dw s (sg m) (-29)) .i64=some (Ieee.signed s (m*2 ^ (23 - m.log2)) 0)∧m*2 ^ (23 - m.log2)<16777216∧0<m*2 ^ (23 - m.log2):=by
 have e24:(2:Nat) ^ 24=16777216:=by decide
 have hp:0<m*2 ^ (23 - m.log2):=Nat.mul_pos h0 (Nat.two_pow_pos _)
 have hlt:m*2 ^ (23 - m.log2)<16777216:=by
  have a2:=(Nat.log2_lt (n:=m) (k:=m.log2+1) (by omega)).1 (by omega)
  have:=Nat.mul_lt_mul_of_pos_right a2 (Nat.two_pow_pos (23 - m.log2))
  rw [←Nat.pow_add,show m.log2+1+(23 - m.log2)=24 from by omega,e24] at this
  exact this
 have hn:=sg_nrm (n:=m) (e:=0) h0 (by omega) (by omega) (by omega)
 have hr:=read_dw s (m:=sg m) (p := -29) ⟨hn.lo,hn.hi,by omega,by omega⟩
 have hsg:sg m=m*2 ^ (23 - m.log2)*2 ^ 29:=by
  unfold sg
  rw [Nat.mul_assoc,←Nat.pow_add,show 23 - m.log2+29=52 - m.log2 from by omega]
 refine ⟨?_,hlt,hp⟩
 generalize m*2 ^ (23 - m.log2)=J at *
 have hv:FloatKind.f64.decode (dw s (sg m) (-29)) = .number s (sg m) (-29):=hr
 have hti:(FloatKind.f64.decode (dw s (sg m) (-29))).toInt .zero=some (Ieee.signed s J 0):=by
  rw [hv,hsg]
  unfold Ieee.Datum.toInt Ieee.Datum.integral
  have e1:(-29:Int).toNat=0:=by decide
  have e2:(- (-29:Int)).toNat=29:=by decide
  simp only [e1,e2,Nat.shiftLeft_zero,cut_zero_exact s J 29 hp]
 unfold floatToIntVal
 rw [hti]
 have hb:IntKind.i64.min≤Ieee.signed s J 0∧Ieee.signed s J 0≤IntKind.i64.max:=by
  have h1:IntKind.i64.min = -9223372036854775808:=by decide
  have h2:IntKind.i64.max=9223372036854775807:=by decide
  rw [h1,h2]
  unfold Ieee.signed
  rw [Nat.shiftLeft_zero]
  split<;>omega
 simp only [hb,and_self,if_true]
theorem mul_zero_24 (s:Bool):floatBits .mul .f64 (Ieee.double.word s 0) 4715268809856909312=some (Ieee.double.word s 0):=by cases s<;>decide +kernel
theorem int_zero (s:Bool):floatToIntVal .f64 (Ieee.double.word s 0) .i64=some 0:=by cases s<;>decide +kernel
theorem eq_zero (s:Bool):(FloatKind.f64.format.order (Ieee.double.word s 0) 0==some .eq)=true:=by cases s<;>decide +kernel
theorem ldexp_sg (s:Bool) {n:Nat} {e:Int} (w:World) (h0:0<n) (h1:n<9007199254740992) (he : -1022≤e+n.log2) (he2:e+n.log2≤1023) :
  Calls Tryz.prog 197 #[.float .f64 (dw s (sg n) (0+n.log2 - 52)),.int .i64 e] w fun e' w'=>e' = .returned (.float .f64 (dw s (sg n) (e+n.log2 - 52)))∧w=w':=by
 have e53:(2:Nat) ^ 53=9007199254740992:=by decide
 have a3:n.log2<53:=(Nat.log2_lt (by omega)).2 (by omega)
 have hn0:=sg_nrm (n:=n) (e:=0) h0 h1 (by omega) (by omega)
 have hn:=sg_nrm (n:=n) (e:=e) h0 h1 he he2
 have hN:=norm_dw s hn0
 obtain ⟨F,R,hF,hm,hR,hR2,hw⟩:=i_dw s hn0
 obtain ⟨G,S,hG,hm',hS,hS2,hv⟩:=i_dw s hn
 have hs:s.toNat≤1:=by cases s<;>decide
 have hY:ldY (dw s (sg n) (0+n.log2 - 52)) (e+n.log2)=dw s (sg n) (e+n.log2 - 52):=by
  unfold ldY
  rw [hv]
  omega
 refine ldexp_in (dw s (sg n) (0+n.log2 - 52)) e (e+n.log2) (dw s (sg n) (e+n.log2 - 52)) w hN (by omega) (by omega) he he2 ?_
 rw [hY]
 exact one_mul s hn
theorem ofInt_sg (s:Bool) {n:Nat} (h0:0<n) (h1:n<9007199254740992):floatOfInt .f64 (if s then -(n:Int) else (n:Int))=dw s (sg n) (0+n.log2 - 52):=by
 have e53:(2:Nat) ^ 53=9007199254740992:=by decide
 have a3:n.log2<53:=(Nat.log2_lt (by omega)).2 (by omega)
 rw [←write_sg s h0 h1 (e:=0) (by omega) (by omega)]
 unfold floatOfInt FloatKind.nearest FloatKind.encode
 cases s
 ·rw [if_neg (by decide)]
  have e1:decide ((n:Int)<0)=false:=decide_eq_false (by omega)
  rw [e1,Int.natAbs_natCast]
  rfl
 ·rw [if_pos rfl]
  have e1:decide (-(n:Int)<0)=true:=decide_eq_true (by omega)
  rw [e1,Int.natAbs_neg,Int.natAbs_natCast]
  rfl
theorem top_any (a:Nat) (st z:Int) (g o:Value) (w:World) (ha:a≤32) :
  Calls Tryz.prog 81 #[.agg #[.int .i64 a,.int .i64 st,.int .i64 z,g,o]] w fun e w'=>e = .returned (.int .i64 ((2 ^ a - 1:Nat):Int))∧Below w.heap.size w w':=by
 have hb:Below w.heap.size w (w.alloc (.cells #[.int .i64 a,.int .i64 st,.int .i64 z,g,o] 33)):=(Below.refl _ _).alloc (Nat.le_refl _) _
 have hp:2 ^ a≤2 ^ 32:=Nat.pow_le_pow_right (by omega) ha
 have e32:(2:Nat) ^ 32=4294967296:=by decide
 have hp0:=Nat.two_pow_pos a
 have hc:(2:Int) ^ a=((2 ^ a:Nat):Int):=by rw [Int.natCast_pow];rfl
 rw [e32] at hp
 have w1:wrap64 ((2:Int) ^ a)=((2 ^ a:Nat):Int):=by rw [hc,IntWalk.wrap64_in _ (by omega)]
 have w2:wrap64 (((2 ^ a:Nat):Int) - 1)=((2 ^ a - 1:Nat):Int):=by rw [IntWalk.wrap64_in _ (by omega)];omega
 have W1:=Lib.hid w1
 have W2:=Lib.hid w2
 clear w1 w2 hc hp hp0 e32
 go_enter Tryz.func81,Tryz.ntmps81
 go_wp2_with fail
 rw [W1.out,W2.out]
 go_ret
 exact ⟨rfl,hb⟩
theorem isEnd_any (a:Nat) (st z c:Int) (g o:Value) (w:World) (ha:a≤32) :
  Calls Tryz.prog 72 #[.agg #[.int .i64 a,.int .i64 st,.int .i64 z,g,o],.int .i64 c] w fun e w'=>e = .returned (.bool (decide (c=0∨c=((2 ^ a - 1:Nat):Int))))∧Below w.heap.size w w':=by
 have hb:Below w.heap.size w (w.alloc (.cells #[.int .i64 a,.int .i64 st,.int .i64 z,g,o] 33)):=(Below.refl _ _).alloc (Nat.le_refl _) _
 have ht:=top_any a st z g o (w.alloc (.cells #[.int .i64 a,.int .i64 st,.int .i64 z,g,o] 33)) ha
 generalize ((2 ^ a - 1:Nat):Int)=T at *
 have HT:=Lib.hid ht
 clear ht ha
 by_cases h0:c=0
 ·subst h0
  rw [decide_eq_true (Or.inl rfl)]
  go_enter Tryz.func72,Tryz.ntmps72
  go_wp2_with fail
  go_ret
  exact ⟨rfl,hb⟩
 ·have hd:decide (c=0∨c=T)=(c==T):=by
   rw [Bool.eq_iff_iff];simp [h0]
  rw [hd]
  have hc0:(c==0)=false:=by simpa using h0
  go_enter Tryz.func72,Tryz.ntmps72
  go_wp2_with fail
  refine HT.out.mono ?_
  rintro e w2 ⟨rfl,hb2⟩
  go_wp2_with fail
  go_ret
  exact ⟨rfl,hb.trans (hb2.mono (by simp))⟩
def sgP (n:Nat) (e:Int):Int:=max (e+n.log2 - 23) (-149)
def sgW (s:Bool) (n:Nat) (e:Int):Nat:=Ieee.single.word s ((sgP n e+149).toNat*8388608+n*2 ^ (e - sgP n e).toNat)
theorem sgW_parts {n:Nat} {e:Int} (h0:0<n) (h1:n<16777216) (he : -149≤e) (he2:e+n.log2≤127) :
  ∃ k:Nat,(k:Int)=e - sgP n e∧0<n*2 ^ k∧n*2 ^ k<16777216∧(n*2 ^ k).log2=n.log2+k∧n.log2+k≤23 ∧ -149≤sgP n e∧sgP n e≤104∧(sgP n e = -149∨8388608≤n*2 ^ k):=by
 have e24:(2:Nat) ^ 24=16777216:=by decide
 have e23:(2:Nat) ^ 23=8388608:=by decide
 have hl:n.log2<24:=(Nat.log2_lt (by omega)).2 (by omega)
 have a1:=(Nat.le_log2 (n:=n) (k:=n.log2) (by omega)).1 (Nat.le_refl _)
 have a2:=(Nat.log2_lt (n:=n) (k:=n.log2+1) (by omega)).1 (by omega)
 obtain ⟨k,hk⟩:∃ k:Nat,(k:Int)=e - sgP n e:=⟨(e - sgP n e).toNat,by unfold sgP;omega⟩
 have hlk:=log2_mul_pow n k h0
 unfold sgP at *
 refine ⟨k,hk,Nat.mul_pos h0 (Nat.two_pow_pos _),?_,hlk,by omega,by omega,by omega,?_⟩
 ·have:=Nat.mul_lt_mul_of_pos_right a2 (Nat.two_pow_pos k)
  rw [←Nat.pow_add] at this
  exact Nat.lt_of_lt_of_le this (by rw [←e24];exact Nat.pow_le_pow_right (by omega) (by omega))
 ·by_cases hc:e+(n.log2:Int) - 23 ≤ -149
  ·left;omega
  ·right
   have:=Nat.mul_le_mul_right (2 ^ k) a1
   rw [←Nat.pow_add,show n.log2+k=23 from by omega,e23] at this
   exact this
theorem cast_sg (s:Bool) {n:Nat} {e:Int} (h0:0<n) (h1:n<16777216) (he : -149≤e) (he2:e+n.log2≤127) :
  floatToFloatBits .f64 (dw s (sg n) (e+n.log2 - 52)) .f32=some (sgW s n e):=by
 have hn:=sg_nrm (n:=n) (e:=e) h0 (by omega) (by omega) (by omega)
 obtain ⟨k,hk,hK0,hK,hlk,hlk2,hq1,hq2,hn2⟩:=sgW_parts h0 h1 he he2
 have hkn:(e - sgP n e).toNat=k:=by omega
 have hsg:sg n=n*2 ^ k*2 ^ (52 - n.log2 - k):=by
  unfold sg
  rw [Nat.mul_assoc,←Nat.pow_add,show k+(52 - n.log2 - k)=52 - n.log2 from by omega]
 refine f2f_number (read_dw s hn) ?_ ?_
 ·unfold sgW
  rw [hkn,hsg]
  refine sgl_down s (l:=n.log2+k) (q:=sgP n e) hK0 hlk (by omega) ?_ (by omega)
  unfold sgP at *
  omega
 ·unfold sgW
  rw [hkn]
  exact sgl_read s (by omega)
def nomW (d e:Int):Nat:=if d=0 then 0 else sgW (decide (d<0)) d.natAbs e
theorem nom_ways {d e:Int} (hd : -4194304<d) (hd2:d<4194304) (he : -149≤e) (he2:e≤100) :
  ∃ X r:Nat,floatOfInt .f64 d=X∧(∀ W:World,Calls Tryz.prog 119 #[.float .f64 X,.int .i64 e] W fun e' w'=>e' = .returned (.float .f64 r)∧W=w')∧floatToFloatBits .f64 r .f32=some (nomW d e):=by
 by_cases h0:d=0
 ·subst h0
  refine ⟨0,0,by decide +kernel,fun W=>Ldexp_any W (ldexp_zero W),?_⟩
  unfold nomW
  rw [if_pos rfl]
  decide +kernel
 ·have e22:(2:Nat) ^ 22=4194304:=by decide
  have hn0:0<d.natAbs:=by omega
  have hl:d.natAbs.log2<22:=(Nat.log2_lt (by omega)).2 (by omega)
  have hs:(if decide (d<0)=true then -(d.natAbs:Int) else (d.natAbs:Int))=d:=by
   by_cases hn:d<0
   ·rw [decide_eq_true hn,if_pos rfl];omega
   ·rw [decide_eq_false hn,if_neg (by decide)];omega
  have hX:=ofInt_sg (decide (d<0)) (n:=d.natAbs) hn0 (by omega)
  rw [hs] at hX
  refine ⟨_,_,hX,fun W=>Ldexp_any W (ldexp_sg (decide (d<0)) (e:=e) W hn0 (by omega) (by omega) (by omega)),?_⟩
  unfold nomW
  rw [if_neg h0]
  exact cast_sg (decide (d<0)) hn0 (by omega) (by omega) (by omega)
theorem nominal_any (a st z c:Int) (g o:Value) (w:World) (hd : -4194304<c - z) (hd2:c - z<4194304) (he : -149≤st) (he2:st≤100) :
  Calls Tryz.prog 80 #[.agg #[.int .i64 a,.int .i64 st,.int .i64 z,g,o],.int .i64 c] w fun e w'=>e = .returned (.float .f32 (nomW (c - z) st))∧Below w.heap.size w w':=by
 have hb:Below w.heap.size w (w.alloc (.cells #[.int .i64 a,.int .i64 st,.int .i64 z,g,o] 33)):=(Below.refl _ _).alloc (Nat.le_refl _) _
 obtain ⟨X,r,hX,hL,hR⟩:=nom_ways hd hd2 he he2
 have w1:wrap64 (c - z)=c - z:=IntWalk.wrap64_in _ (by omega)
 have hcv:=fun W:World=>run_convert_float_float (P:=Tryz.prog) W 163 64 .f64 .f32 r (nomW (c - z) st) (by kernel_rfl) (by kernel_rfl) hR
 have HL:=Lib.hid hL
 clear hL hR
 go_enter Tryz.func80,Tryz.ntmps80
 go_wp2_with fail
 refine (HL.out _).mono ?_
 rintro e w1 ⟨rfl,rfl⟩
 go_wp2_with fail
 go_ret
 exact ⟨rfl,hb⟩
theorem edge_any (a st z c:Int) (g o:Value) (w:World) (hd : -4194304<2*(c - z) - 1) (hd2:2*(c - z) - 1<4194304) (he : -149≤st - 1) (he2:st - 1≤100) :
  Calls Tryz.prog 159 #[.agg #[.int .i64 a,.int .i64 st,.int .i64 z,g,o],.int .i64 c] w fun e w'=>e = .returned (.float .f32 (nomW (2*(c - z) - 1) (st - 1)))∧Below w.heap.size w w':=by
 have hb:Below w.heap.size w (w.alloc (.cells #[.int .i64 a,.int .i64 st,.int .i64 z,g,o] 33)):=(Below.refl _ _).alloc (Nat.le_refl _) _
 obtain ⟨X,r,hX,hL,hR⟩:=nom_ways hd hd2 he he2
 have w1:wrap64 (c - z)=c - z:=IntWalk.wrap64_in _ (by omega)
 have w2:wrap64 (2*(c - z))=2*(c - z):=IntWalk.wrap64_in _ (by omega)
 have w3:wrap64 (2*(c - z) - 1)=2*(c - z) - 1:=IntWalk.wrap64_in _ (by omega)
 have w4:wrap64 (st - 1)=st - 1:=IntWalk.wrap64_in _ (by omega)
 have hcv:=fun W:World=>run_convert_float_float (P:=Tryz.prog) W 163 64 .f64 .f32 r (nomW (2*(c - z) - 1) (st - 1)) (by kernel_rfl) (by kernel_rfl) hR
 have HL:=Lib.hid hL
 clear hL hR
 go_enter Tryz.func159,Tryz.ntmps159
 go_wp2_with fail
 refine (HL.out _).mono ?_
 rintro e w1 ⟨rfl,rfl⟩
 go_wp2_with fail
 go_ret
 exact ⟨rfl,hb⟩
end Go.Proofs.YtmkihdjolnlccaaGreatDoor
