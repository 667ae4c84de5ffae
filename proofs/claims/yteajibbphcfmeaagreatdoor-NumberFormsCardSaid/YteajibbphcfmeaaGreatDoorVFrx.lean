/- Contracts of math.Frexp, and the doubles that hold a single. -/
import Derived.Test.YteajibbphcfmeaaGreatDoorVBexp
import Derived.Test.YteajibbphcfmeaaGreatDoorVRat2
import Derived.Test.YteajibbphcfmeaaGreatDoorVBld
namespace Go.Proofs.YteajibbphcfmeaaGreatDoor
open Go.RowKit
open Flt
set_option maxHeartbeats 60000
theorem i_dw (s:Bool) {m:Nat} {p:Int} (h:Nrm m p):∃ F R:Nat,F<4503599627370496∧m=4503599627370496+F∧(R:Int)=p+1075∧R<2047∧dw s m p=s.toNat*9223372036854775808+R*4503599627370496+F:=by
 have:=h.lo;have:=h.hi;have:=h.p0;have:=h.p1
 refine ⟨m - 4503599627370496,(p+1075).toNat,by omega,by omega,by omega,by omega,?_⟩
 unfold dw Ieee.Format.word
 rw [zgG]
 cases s
 ·rw [if_neg (by decide)];show _=0*_+_+_;omega
 ·rw [if_pos rfl];show _=1*_+_+_;omega
theorem znU {f:Ieee.Format} {b m:Nat} {s:Bool} {p:Int} (h:f.read b = .number s m p) (hm:0<m):key f b≠0:=by
 unfold key;rw [h]
 simp only [Ieee.signed,Nat.shiftLeft_eq]
 have:=Nat.mul_pos hm (Nat.two_pow_pos (p - f.leastPlace).toNat)
 generalize m*2 ^ (p - f.leastPlace).toNat=A at this
 split<;>omega
theorem zjV (s:Bool) {m:Nat} {p:Int} (h:Nrm m p):Norm64 (dw s m p):=by
 have aE:=h.lo;have aL:=h.hi;have aM:=h.p0;have aN:=h.p1
 obtain ⟨F,R,hF,hm,hR,aK,hw⟩:=i_dw s h
 obtain ⟨F',R',aJ,aI,aH,aG,aF⟩:=i_dw false h
 have hs:s.toNat≤1:=by cases s<;>decide
 have aA:absB (dw s m p)=dw false m p:=by
  have:false.toNat=0:=rfl
  rw [this] at aF
  unfold absB
  omega
 have f1:=zaV (zcd s h)
 have aC:=zaV (zcd false h)
 have k1:=za4 (zcd false h)
 have f2:=zaV zeK
 have k2:=za4 zeK
 have f3:=zaV zeL
 have k3:=za4 zeL
 have f4:=zaV zbW
 have k4:=za4 zbW
 rw [zba] at k1 k2 k3 k4
 refine ⟨by omega,zfQ f1 f4 ?_,?_,zis f1,?_⟩
 ·rw [k4,Nat.zero_mul];exact znU (zcd s h) (by omega)
 ·rw [aA]
  refine zfP aC f2 ?_
  rw [k1,k2]
  obtain ⟨a,ha⟩:∃ a:Nat,(p - -1074:Int).toNat=a∧(a:Int)=p+1074:=⟨_,rfl,by omega⟩
  obtain ⟨b,hb⟩:∃ b:Nat,(971 - -1074:Int).toNat=b∧(b:Int)=2045:=⟨_,rfl,by decide⟩
  rw [ha.1,hb.1]
  have:=Nat.mul_le_mul (show m≤9007199254740991 by omega) (Nat.pow_le_pow_right (show 0<2 by decide) (show a≤b by omega))
  exact Int.ofNat_le.2 this
 ·rw [aA]
  refine zeb aC f3 ?_
  rw [k1,k3]
  obtain ⟨a,ha⟩:∃ a:Nat,(p - -1074:Int).toNat=a∧(a:Int)=p+1074:=⟨_,rfl,by omega⟩
  obtain ⟨b,hb⟩:∃ b:Nat,(-1074 - -1074:Int).toNat=b∧(b:Int)=0:=⟨_,rfl,by decide⟩
  rw [ha.1,hb.1]
  have aD:b=0:=by omega
  subst aD
  have:=Nat.mul_le_mul aE (Nat.pow_le_pow_right (show 0<2 by decide) (show 0≤a by omega))
  exact Int.ofNat_le.2 this
theorem zhv (n:Nat) (h:n<18446744073709551616):bits BinOp.and IntKind.u64 (n:Int) 2047=((n % 2048:Nat):Int):=by
 have:=u64_and_nat n 2047 h (by omega)
 rw [show n &&& 2047=n % 2048 from Nat.and_two_pow_sub_one_eq_mod n 11] at this
 exact this
set_option maxHeartbeats 200000 in
set_option maxRecDepth 100000 in
theorem zmQ (x Y:Nat) (m:Int) (w:World) (h:Norm64 x) (hm:m=((x / 4503599627370496 % 2048:Nat):Int) - 1022)
  (hY:Y=x % 4503599627370496+x / 9223372036854775808*9223372036854775808+4602678819172646912) :
  Calls Tryz.prog 154 #[.float .f64 x] w fun e w'=>e = .returned (.tuple #[.float .f64 Y,.int .i64 m])∧w=w':=by
 have hz:=h.nz
 have aC:=zdi x w h.lt
 rw [h.inf] at aC
 have aE:=zcA x w
 rw [h.nan] at aE
 have aF:=zcR x w h
 have aJ:=zdZ x
 have aI:=h.lt
 have f2:=zhv (x / 4503599627370496) (by omega)
 have f0:((x / 4503599627370496:Nat):Int)=(x:Int) / 4503599627370496:=by omega
 rw [f0] at f2
 have hE:x / 4503599627370496 % 2048<2048:=Nat.mod_lt _ (by omega)
 have f3:wrap64 (((x / 4503599627370496 % 2048:Nat):Int) - 1023)=((x / 4503599627370496 % 2048:Nat):Int) - 1023:=IntWalk.wrap64_in _ (by omega)
 have f4:wrap64 (((x / 4503599627370496 % 2048:Nat):Int) - 1023+1)=m:=by rw [IntWalk.wrap64_in _ (by omega)];omega
 have f5:wrap64 m=m:=IntWalk.wrap64_in _ (by omega)
 have f8:wrap64 ((x / 4503599627370496 % 2048:Nat):Int)=((x / 4503599627370496 % 2048:Nat):Int):=IntWalk.wrap64_in _ (by omega)
 have f6:=zf3 x h.lt
 obtain ⟨k,hk⟩:∃ k:Nat,k=1022:=⟨_,rfl⟩
 have f7:=zmW x k h.lt (by omega)
 have f9:((k*4503599627370496:Nat):Int)=4602678819172646912:=by omega
 have aG:x % 4503599627370496+x / 9223372036854775808*9223372036854775808+k*4503599627370496=Y:=by omega
 rw [aG,f9] at f7
 clear hk f9 aG
 generalize x % 4503599627370496+x / 9223372036854775808*9223372036854775808=F at f6 f7
 have aD:=zb7 Y
 generalize x / 4503599627370496 % 2048=E at *
 have aA:=Lib.hid aC
 have HM:Hid ((E:Int) - 1023+1=m):=by rw [hm];show (E:Int) - 1023+1=(E:Int) - 1022;omega
 clear aC hm hY f0
 go_enter Tryz.func154,Tryz.ntmps154
 go_wp2_with fail
 refine aA.out.mono ?_
 rintro e w1 ⟨rfl,rfl⟩
 go_wp2_with fail
 refine aE.mono ?_
 rintro e w1 ⟨rfl,rfl⟩
 go_wp2_with fail
 refine aF.mono ?_
 rintro e w1 ⟨rfl,rfl⟩
 go_upto_region 7 with fail
 have F6:=Lib.hid f6
 have F7:=Lib.hid f7
 clear f6 f7 hz aE aF aA aJ h aI
 have aH:=Lib.hid aD
 clear aD
 go_upto_region 8 with fail
 clear f2 f3 f8
 have f6:=F6.out
 have f7:=F7.out
 have aD:=aH.out
 go_wp2_with fail
 go_ret2
 exact ⟨by rw [←HM.out];rfl,rfl⟩
theorem zmP (s:Bool) {m:Nat} {p:Int} (w:World) (h:Nrm m p) :
  Calls Tryz.prog 154 #[.float .f64 (dw s m p)] w fun e w'=>e = .returned (.tuple #[.float .f64 (dw s m (-53)),.int .i64 (p+53)])∧w=w':=by
 have hN:=zjV s h
 obtain ⟨F,R,hF,hm,hR,aF,hw⟩:=i_dw s h
 obtain ⟨F',R',aG,aD,aC,aA,aE⟩:=i_dw (m:=m) (p := -53) s ⟨h.lo,h.hi,by omega,by omega⟩
 have hs:s.toNat≤1:=by cases s<;>decide
 exact zmQ (dw s m p) (dw s m (-53)) (p+53) w hN (by omega) (by omega)
theorem ziF {x r:Nat} {i:Int} (w:World) (h:Calls Tryz.prog 154 #[.float .f64 x] w fun e w'=>e = .returned (.tuple #[.float .f64 r,.int .i64 i])∧w=w') :
  Calls Tryz.prog 101 #[.float .f64 x] w fun e w'=>e = .returned (.tuple #[.float .f64 r,.int .i64 i])∧w=w':=by
 have h2:=Lib.hid h
 clear h
 go_enter Tryz.func101,Tryz.ntmps101
 go_wp2_with fail
 refine h2.out.mono ?_
 rintro e w1 ⟨rfl,rfl⟩
 go_wp2_with fail
 go_ret2
 exact ⟨rfl,rfl⟩
theorem zi5 (x:Nat) (w:World) (hz:(FloatKind.f64.format.order x 0==some .eq)=true) :
  Calls Tryz.prog 154 #[.float .f64 x] w fun e w'=>e = .returned (.tuple #[.float .f64 x,.int .i64 0])∧w=w':=by
 go_enter Tryz.func154,Tryz.ntmps154
 go_wp2_with fail
 go_ret2
 exact ⟨rfl,rfl⟩
end Go.Proofs.YteajibbphcfmeaaGreatDoor
namespace Go.Proofs.YteajibbphcfmeaaGreatDoor
open Go.RowKit Bn
theorem zgm (z:Int):IntKind.u64.wrap z=z % 18446744073709551616:=by
 first | rfl | (unfold IntKind.wrap;rfl) | (unfold IntKind.wrap IntKind.signed IntKind.bits;simp)
set_option maxHeartbeats 2000000 in
set_option maxRecDepth 100000 in
theorem zcf (z:Int) (w:World) (h0 : -9223372036854775808≤z) (h1:z<9223372036854775808) :
  Calls Tryz.prog 78 #[.int .i64 z] w (zaT w ⟨decide (z<0),z.natAbs,1⟩):=by
 have aF:Below w.heap.size w (w.alloc (.cells #[.bool false,.slice none 0 0,.slice none 0 0] 91)):=(Below.refl _ _).alloc (Nat.le_refl _) _
 go_enter Tryz.func78,Tryz.ntmps78
 by_cases hz:z<0
 ·have hd:decide (z<0)=true:=by simpa using hz
  have aJ:IntKind.u64.wrap z=z+18446744073709551616:=by rw [zgm];omega
  have aK:IntKind.u64.wrap (-(z+18446744073709551616)) = -z:=by rw [zgm];omega
  go_wp2_with fail
  refine (zah (-z) _ (by omega) (by omega)).mono ?_
  rintro e w4 ⟨A5,m5,c5,rfl,aI,aC⟩
  go_wp2_with fail
  refine (zah 1 _ (by omega) (by omega)).mono ?_
  rintro e w6 ⟨A6,m6,c6,rfl,aG,aE⟩
  have hk:=((zad.new w false (.slice none 0 0) (.slice none 0 0)).below aC (by simp)).below aE (by have:=aC.size;simp at this;omega)
  obtain ⟨k0,k1,k2,f0,f1,f2,_⟩:=hk.cells
  have aA:=(aF.trans (aC.mono aF.size)).trans (aE.mono (by have:=aC.size;simp at this;omega))
  have aD:=zak aA (g:=w.heap.size) (Nat.le_refl _) (.bool true) (.slice A5 m5 c5) (.slice A6 m6 c6)
  have aH:(-z).toNat=z.natAbs:=by omega
  go_wp2
  refine bodyPost_ret (v := .agg #[.bool true,.slice A5 m5 c5,.slice A6 m6 c6]) (by simp [results,Tryz.results78,go_sem,k0,k1,k2]) rfl ⟨_,rfl,⟨A5,m5,c5,A6,m6,c6,by rw [hd],?_,?_⟩,aD⟩
  ·rw [zaf];show NatS _ _ A5 m5 c5 z.natAbs;rw [←aH];exact (aI.later aE).res hk _ _ _
  ·rw [zaf];exact aG.res hk _ _ _
 ·have hd:decide (z<0)=false:=by simpa using hz
  have aJ:IntKind.u64.wrap z=z:=by rw [zgm];omega
  go_wp2_with fail
  refine (zah (z) _ (by omega) (by omega)).mono ?_
  rintro e w4 ⟨A5,m5,c5,rfl,aI,aC⟩
  go_wp2_with fail
  refine (zah 1 _ (by omega) (by omega)).mono ?_
  rintro e w6 ⟨A6,m6,c6,rfl,aG,aE⟩
  have hk:=((zad.new w false (.slice none 0 0) (.slice none 0 0)).below aC (by simp)).below aE (by have:=aC.size;simp at this;omega)
  obtain ⟨k0,k1,k2,f0,f1,f2,_⟩:=hk.cells
  have aA:=(aF.trans (aC.mono aF.size)).trans (aE.mono (by have:=aC.size;simp at this;omega))
  have aD:=zak aA (g:=w.heap.size) (Nat.le_refl _) (.bool false) (.slice A5 m5 c5) (.slice A6 m6 c6)
  have aH:(z).toNat=z.natAbs:=by omega
  go_wp2
  refine bodyPost_ret (v := .agg #[.bool false,.slice A5 m5 c5,.slice A6 m6 c6]) (by simp [results,Tryz.results78,go_sem,k0,k1,k2]) rfl ⟨_,rfl,⟨A5,m5,c5,A6,m6,c6,by rw [hd],?_,?_⟩,aD⟩
  ·rw [zaf];show NatS _ _ A5 m5 c5 z.natAbs;rw [←aH];exact (aI.later aE).res hk _ _ _
  ·rw [zaf];exact aG.res hk _ _ _
end Go.Proofs.YteajibbphcfmeaaGreatDoor
namespace Go.Proofs.YteajibbphcfmeaaGreatDoor
open Go.RowKit
open Flt
theorem zlL (s:Bool) {n:Nat} {e:Int} (h0:0<n) (h1:n<9007199254740992) (he : -1022≤e+n.log2) (he2:e+n.log2≤1023):Ieee.double.write (.number s n e)=dw s (sg n) (e+n.log2 - 52):=by
 have hn:=zdX h0 h1 he he2
 have hr:=hn.rung
 have aA:(2:Nat) ^ 53=9007199254740992:=by decide
 have a3:n.log2<53:=(Nat.log2_lt (by omega)).2 (by omega)
 show Ieee.double.nearest s n e=_
 rw [zfW Ieee.double s n (52 - n.log2) e h0 (by rw [zba];show max (e+(n.log2:Int) - ((52:Nat):Int)) (-1074)=_;omega) (by rw [zba,zbz,zee,show e - ((52 - n.log2:Nat):Int) - -1074=e+n.log2 - 52+1074 from by omega];exact Nat.le_of_lt hr)]
 unfold dw sg
 rw [zba,zbz,show e - ((52 - n.log2:Nat):Int) - -1074=e+n.log2 - 52+1074 from by omega]
theorem zkE {b m:Nat} {s:Bool} {p:Int} (h:Ieee.single.read b = .number s m p):m<16777216 ∧ -149≤p∧p≤104:=by
 unfold Ieee.Format.read at h
 rw [zin,zdw,zhI,zdP] at h
 dsimp only at h
 generalize hr:b % 2147483648=r at h
 by_cases h1:r<8388608
 ·rw [if_pos h1] at h
  injection h with _ h2 h3
  omega
 ·rw [if_neg h1] at h
  by_cases h2:r<2139095040
  ·rw [if_pos h2] at h
   injection h with _ h3 h4
   omega
  ·rw [if_neg h2] at h
   split at h<;>cases h
theorem zfN {b m r:Nat} {s t:Bool} {e p:Int} {n:Nat} (h:Ieee.single.read b = .number s m e) (hw:Ieee.double.write (.number s m e)=r) (hi:Ieee.double.read r = .number t n p):floatToFloatBits .f32 b .f64=some r:=by
 have h':FloatKind.f32.decode b = .number s m e:=h
 have aA:FloatKind.f64.encode (.number s m e)=r:=hw
 have aC:FloatKind.f64.decode r = .number t n p:=hi
 unfold floatToFloatBits
 rw [if_neg (by decide),h']
 simp only [aA,aC]
 rfl
theorem znY {b m:Nat} {s:Bool} {p:Int} (h:Ieee.single.read b = .number s m p) (hm:0<m):floatToFloatBits .f32 b .f64=some (dw s (sg m) (p+m.log2 - 52))∧Nrm (sg m) (p+m.log2 - 52)∧m.log2≤23:=by
 have aA:(2:Nat) ^ 24=16777216:=by decide
 obtain ⟨h1,h2,h3⟩:=zkE h
 have hl:m.log2<24:=(Nat.log2_lt (by omega)).2 (by omega)
 have hn:=zdX (n:=m) (e:=p) hm (by omega) (by omega) (by omega)
 exact ⟨zfN h (zlL s hm (by omega) (by omega) (by omega)) (zcd s hn),hn,by omega⟩
theorem zjC (s:Bool) (p:Int):Ieee.double.write (.number s 0 p)=Ieee.double.word s 0:=by
 show Ieee.double.nearest s 0 p=_
 unfold Ieee.Format.nearest
 rw [if_pos rfl]
theorem zfG (s:Bool):Ieee.double.read (Ieee.double.word s 0) = .number s 0 (-1074):=by
 cases s<;>decide +kernel
theorem zjI {b:Nat} {s:Bool} {p:Int} (h:Ieee.single.read b = .number s 0 p):floatToFloatBits .f32 b .f64=some (Ieee.double.word s 0):=
 zfN h (zjC s p) (zfG s)
structure Fine (b x:Nat):Prop where
 conv:floatToFloatBits .f32 b .f64=some x
 lt:x<18446744073709551616
 inf:(FloatKind.f64.format.order (absB x) 9218868437227405311==some .gt)=false
 nan:(FloatKind.f64.format.order x x != some .eq)=false
theorem zit {b m:Nat} {s:Bool} {p:Int} (h:Ieee.single.read b = .number s m p) (hm:0<m):Fine b (dw s (sg m) (p+m.log2 - 52)):=by
 obtain ⟨h1,h2,_⟩:=znY h hm
 have hN:=zjV s h2
 exact ⟨h1,hN.lt,hN.inf,hN.nan⟩
theorem zgH {b:Nat} {s:Bool} {p:Int} (h:Ieee.single.read b = .number s 0 p):Fine b (Ieee.double.word s 0):=by
 refine ⟨zjI h,?_,?_,?_⟩<;>cases s<;>decide +kernel
theorem zcX {b x:Nat} (w:World) (h:Fine b x):Calls Tryz.prog 100 #[.float .f32 b] w fun e w'=>e = .returned (.bool true)∧w=w':=by
 have aD:=fun W:World=>run_convert_float_float (P:=Tryz.prog) W 55 118 .f32 .f64 b x (by kernel_rfl) (by kernel_rfl) h.conv
 have aA:=zcA x w
 rw [h.nan] at aA
 have aC:=zdi x w h.lt
 rw [h.inf] at aC
 have HN:=Lib.hid aA
 have HI:=Lib.hid aC
 clear aA aC h
 go_enter Tryz.func100,Tryz.ntmps100
 go_wp2_with fail
 refine HN.out.mono ?_
 rintro e w1 ⟨rfl,rfl⟩
 go_wp2_with fail
 refine HI.out.mono ?_
 rintro e w1 ⟨rfl,rfl⟩
 go_wp2_with fail
 go_ret
 exact ⟨rfl,rfl⟩
theorem zoh (s:Bool) {m:Nat} (h:Nrm m (-53)):floatBits .mul .f64 (dw s m (-53)) 4715268809856909312=some (dw s m (-29)):=by
 show (((Ieee.double.read (dw s m (-53))).product (Ieee.double.read 4715268809856909312)).map Ieee.double.write)=_
 have e1:Ieee.double.read 4715268809856909312 = .number false 4503599627370496 (-28):=by decide +kernel
 rw [e1,zcd s h]
 show some (Ieee.double.write (.number (s ^^ false) (m*4503599627370496) (-53 + -28)))=_
 have e2:m*4503599627370496=m*2 ^ 52:=by rfl
 rw [e2,zgt (s ^^ false) 52 (q := -29) ⟨h.lo,h.hi,by omega,by omega⟩ (by omega)]
 simp
theorem zfz (s:Bool) (n d:Nat) (hn:0<n):Ieee.Toward.zero.cut s (n*2 ^ d) d=n:=by
 unfold Ieee.Toward.cut
 have e:min d ((n*2 ^ d).log2+2)=d:=by rw [zdj n d hn];omega
 have hp:=Nat.two_pow_pos d
 simp only [e,Nat.shiftLeft_eq,Nat.one_mul,Nat.mul_div_cancel _ hp]
 rfl
theorem zoe (s:Bool) {m:Nat} (h0:0<m) (hl:m.log2≤23) (hm:m<16777216):floatToIntVal .f64 (dw s (sg m) (-29)) .i64=some (Ieee.signed s (m*2 ^ (23 - m.log2)) 0)∧m*2 ^ (23 - m.log2)<16777216∧0<m*2 ^ (23 - m.log2):=by
 have aA:(2:Nat) ^ 24=16777216:=by decide
 have hp:0<m*2 ^ (23 - m.log2):=Nat.mul_pos h0 (Nat.two_pow_pos _)
 have aC:m*2 ^ (23 - m.log2)<16777216:=by
  have a2:=(Nat.log2_lt (n:=m) (k:=m.log2+1) (by omega)).1 (by omega)
  have:=Nat.mul_lt_mul_of_pos_right a2 (Nat.two_pow_pos (23 - m.log2))
  rw [←Nat.pow_add,show m.log2+1+(23 - m.log2)=24 from by omega,aA] at this
  exact this
 have hn:=zdX (n:=m) (e:=0) h0 (by omega) (by omega) (by omega)
 have hr:=zcd s (m:=sg m) (p := -29) ⟨hn.lo,hn.hi,by omega,by omega⟩
 have aE:sg m=m*2 ^ (23 - m.log2)*2 ^ 29:=by
  unfold sg
  rw [Nat.mul_assoc,←Nat.pow_add,show 23 - m.log2+29=52 - m.log2 from by omega]
 refine ⟨?_,aC,hp⟩
 generalize m*2 ^ (23 - m.log2)=J at *
 have hv:FloatKind.f64.decode (dw s (sg m) (-29)) = .number s (sg m) (-29):=hr
 have aD:(FloatKind.f64.decode (dw s (sg m) (-29))).toInt .zero=some (Ieee.signed s J 0):=by
  rw [hv,aE]
  unfold Ieee.Datum.toInt Ieee.Datum.integral
  have e1:(-29:Int).toNat=0:=by decide
  have e2:(- (-29:Int)).toNat=29:=by decide
  simp only [e1,e2,Nat.shiftLeft_zero,zfz s J 29 hp]
 unfold floatToIntVal
 rw [aD]
 have hb:IntKind.i64.min≤Ieee.signed s J 0∧Ieee.signed s J 0≤IntKind.i64.max:=by
  have h1:IntKind.i64.min = -9223372036854775808:=by decide
  have h2:IntKind.i64.max=9223372036854775807:=by decide
  rw [h1,h2]
  unfold Ieee.signed
  rw [Nat.shiftLeft_zero]
  split<;>omega
 simp only [hb,and_self,if_true]
theorem zhL (s:Bool):floatBits .mul .f64 (Ieee.double.word s 0) 4715268809856909312=some (Ieee.double.word s 0):=by cases s<;>decide +kernel
theorem zmp (s:Bool):floatToIntVal .f64 (Ieee.double.word s 0) .i64=some 0:=by cases s<;>decide +kernel
theorem znd (s:Bool):(FloatKind.f64.format.order (Ieee.double.word s 0) 0==some .eq)=true:=by cases s<;>decide +kernel
end Go.Proofs.YteajibbphcfmeaaGreatDoor
namespace Go.Proofs.YteajibbphcfmeaaGreatDoor
open Go.RowKit Bn
open Flt
structure Parts (b x y y2:Nat) (i z:Int):Prop where
 fine:Fine b x
 frx:∀ W:World,Calls Tryz.prog 101 #[.float .f64 x] W fun e w'=>e = .returned (.tuple #[.float .f64 y,.int .i64 i])∧W=w'
 mul:floatBits .mul .f64 y 4715268809856909312=some y2
 int:floatToIntVal .f64 y2 .i64=some z
 z0 : -16777216<z
 z1:z<16777216
 i0 : -1000≤i
 i1:i≤1000
theorem zh9 (g:Bool) (t b:Nat):(lowQ g t b).top≤t:=by
 unfold lowQ;split
 ·exact Nat.zero_le _
 ·split
  ·exact Nat.zero_le _
  ·exact Nat.div_le_self _ _
theorem zhw (g:Bool) (t b:Nat):(lowQ g t b).bot≤b+1:=by
 unfold lowQ;split
 ·exact Nat.zero_le _
 ·split
  ·show 1≤_;omega
  ·exact Nat.le_trans (Nat.div_le_self _ _) (Nat.le_succ _)
theorem zdI {x s k:Nat} (h:x≤2 ^ s) (hk:s<64*k):(digs x).length≤k:=by
 refine digs_length_le ?_
 have e:B ^ k=2 ^ (64*k):=by rw [Nat.pow_mul];rfl
 rw [e]
 exact Nat.lt_of_le_of_lt h (Nat.pow_lt_pow_right (by omega) hk)
theorem zbx {x:Nat} (h:x≤16777216):(digs x).length≤1:=digs_length_le (k:=1) (by rw [zcN];omega)
set_option maxHeartbeats 4000000 in
set_option maxRecDepth 100000 in
theorem zfJ {b x y y2:Nat} {i z:Int} (w:World) (hT:Tabs w) (h:Parts b x y y2 i z) (hi:i<24) :
  Calls Tryz.prog 40 #[.float .f32 b] w (zbj w (za0 (lowQ (decide (z<0)) z.natAbs (2 ^ (24 - i).toNat))) (zao (lowQ (decide (z<0)) z.natAbs (2 ^ (24 - i).toNat)))):=by
 have aT:=fun W:World=>run_convert_float_float (P:=Tryz.prog) W 55 118 .f32 .f64 b x (by kernel_rfl) (by kernel_rfl) h.fine.conv
 have aK:=zcX w h.fine
 have aS:=fun W:World=>run_float_arith (P:=Tryz.prog) W .mul 118 .f64 y 4715268809856909312 y2 h.mul
 have aU:=fun W:World=>run_convert_float_int (P:=Tryz.prog) W 118 3 .f64 .i64 y2 z (by kernel_rfl) (by kernel_rfl) h.int
 obtain ⟨_,aI,_,_,z0,z1,i0,i1⟩:=h
 have w1:wrap64 (i - 24)=i - 24:=IntWalk.wrap64_in _ (by omega)
 have w2:wrap64 (-(i - 24)) = -(i - 24):=IntWalk.wrap64_in _ (by omega)
 obtain ⟨s,hs⟩:∃ s:Nat,(24 - i).toNat=s∧i=24 - (s:Int):=⟨(24 - i).toNat,rfl,by omega⟩
 have aW:s≤2000:=by omega
 have aV:max (i - 24) (-(i - 24))=(s:Int):=by omega
 rw [hs.1]
 have HI:=Lib.hid aK
 have aO:=Lib.hid aI
 have HS:=Lib.hid hs
 clear aK aI hs
 go_enter Tryz.func40,Tryz.ntmps40
 go_wp2_with fail
 refine HI.out.mono ?_
 rintro e w0 ⟨rfl,rfl⟩
 go_wp2_with fail
 refine (aO.out _).mono ?_
 rintro e w0 ⟨rfl,rfl⟩
 go_wp2_with fail
 refine (zcf z _ (by omega) (by omega)).mono ?_
 rintro e wa ⟨v,rfl,⟨A,n,c,A',n',c',rfl,h1,h2⟩,hb⟩
 have aD:Below wa.heap.size wa (wa.alloc (.cells #[.bool (decide (z<0)),.slice A n c,.slice A' n' c'] 91)):=(Below.refl _ _).alloc (Nat.le_refl _) _
 go_wp2_with fail
 refine (zah 1 _ (by omega) (by omega)).mono ?_
 rintro e wc ⟨A3,n3,c3,rfl,h3,aA⟩
 go_wp2_with fail
 have aM:NatS wc wc.heap.size A3 n3 c3 1:=h3
 have l3:n3≤1:=by rw [←aM.len];exact zbx (by omega)
 have lz:z.natAbs≤16777216:=by omega
 have l1:n≤1:=by rw [←h1.len];exact zbx lz
 refine (zau A3 n3 c3 1 s wc aM (by omega) (by omega)).mono ?_
 rintro e wd ⟨A4,n4,c4,rfl,h4,aC⟩
 rw [Nat.one_mul] at h4
 have l4:n4≤64:=by rw [←h4.len];exact zdI (Nat.le_refl _) (by omega)
 have aN:wa.heap.size<wc.heap.size:=by have:=aA.size;simp at this;omega
 have aR:zad wd wa.heap.size (decide (z<0)) (.slice A n c) (.slice A' n' c'):=((zad.new wa _ _ _).below aA (by simp)).below aC aN
 have aL:Tabs wd:=(((hT.later hb).later aD).later aA).later aC
 have aF:Below w.heap.size w wd:=(((hb.trans (aD.mono hb.size)).trans (aA.mono (by have:=hb.size;simp;omega)))).trans (aC.mono (by have:=hb.size;omega))
 have aJ:=zbq (decide (z<0)) A A4 n c n4 c4 z.natAbs (2 ^ s) wd aL (((h1.later aD).later aA).later aC) h4 (by omega) (by omega)
 have lt:=zh9 (decide (z<0)) z.natAbs (2 ^ s)
 have lb:=zhw (decide (z<0)) z.natAbs (2 ^ s)
 have k1:(digs (lowQ (decide (z<0)) z.natAbs (2 ^ s)).top).length≤1:=zbx (by omega)
 have k2:(digs (lowQ (decide (z<0)) z.natAbs (2 ^ s)).bot).length≤64:=zdI (s:=s+1) (by have:=Nat.two_pow_pos s;rw [Nat.pow_succ];omega) (by omega)
 generalize lowQ (decide (z<0)) z.natAbs (2 ^ s)=q at *
 obtain ⟨x0,x1,x2,_,_,_,xl⟩:=aR.cells
 have aG:=Lib.hid aJ
 clear aJ
 go_wp2_with fail
 refine aG.out.mono ?_
 rintro e we ⟨v,rfl,⟨A5,n5,c5,A6,n6,c6,rfl,h5,h6⟩,aE⟩
 have aH:=zfo q A5 A6 n5 c5 n6 c6 we (aL.later aE) h5 h6 (by rw [←h5.len];omega) (by rw [←h6.len];omega)
 have aQ:=Lib.hid aH
 clear aH aG
 go_wp2_with fail
 refine aQ.out.mono ?_
 rintro e wf ⟨S,rfl,hS,aP⟩
 go_wp2_with fail
 go_ret2
 exact ⟨S,rfl,hS,(aF.trans (aE.mono aF.size)).trans (aP.mono (by have:=aF.size;have:=aE.size;omega))⟩
set_option maxHeartbeats 4000000 in
set_option maxRecDepth 100000 in
theorem zmo {b x y y2:Nat} {i z:Int} (w:World) (hT:Tabs w) (h:Parts b x y y2 i z) (hi:24≤i) :
  Calls Tryz.prog 40 #[.float .f32 b] w (zbj w (za0 ⟨decide (z<0),z.natAbs*2 ^ (i - 24).toNat,1⟩) (zao ⟨decide (z<0),z.natAbs*2 ^ (i - 24).toNat,1⟩)):=by
 have aY:=fun W:World=>run_convert_float_float (P:=Tryz.prog) W 55 118 .f32 .f64 b x (by kernel_rfl) (by kernel_rfl) h.fine.conv
 have aP:=zcX w h.fine
 have aX:=fun W:World=>run_float_arith (P:=Tryz.prog) W .mul 118 .f64 y 4715268809856909312 y2 h.mul
 have aZ:=fun W:World=>run_convert_float_int (P:=Tryz.prog) W 118 3 .f64 .i64 y2 z (by kernel_rfl) (by kernel_rfl) h.int
 obtain ⟨_,aN,_,_,z0,z1,i0,i1⟩:=h
 have w1:wrap64 (i - 24)=i - 24:=IntWalk.wrap64_in _ (by omega)
 have w2:wrap64 (-(i - 24)) = -(i - 24):=IntWalk.wrap64_in _ (by omega)
 obtain ⟨s,hs⟩:∃ s:Nat,(i - 24).toNat=s∧i=24+(s:Int):=⟨(i - 24).toNat,rfl,by omega⟩
 have bB:s≤2000:=by omega
 have bA:max (i - 24) (-(i - 24))=(s:Int):=by omega
 rw [hs.1]
 have HI:=Lib.hid aP
 have aS:=Lib.hid aN
 have HS:=Lib.hid hs
 clear aP aN hs
 go_enter Tryz.func40,Tryz.ntmps40
 go_wp2_with fail
 refine HI.out.mono ?_
 rintro e w0 ⟨rfl,rfl⟩
 go_wp2_with fail
 refine (aS.out _).mono ?_
 rintro e w0 ⟨rfl,rfl⟩
 go_wp2_with fail
 refine (zcf z _ (by omega) (by omega)).mono ?_
 rintro e wa ⟨v,rfl,⟨A,n,c,A',n',c',rfl,h1,h2⟩,hb⟩
 have aK:Below wa.heap.size wa (wa.alloc (.cells #[.bool (decide (z<0)),.slice A n c,.slice A' n' c'] 91)):=(Below.refl _ _).alloc (Nat.le_refl _) _
 go_wp2_with fail
 refine (zah 1 _ (by omega) (by omega)).mono ?_
 rintro e wc ⟨A3,n3,c3,rfl,h3,aE⟩
 go_wp2_with fail
 have aQ:NatS wc wc.heap.size A3 n3 c3 1:=h3
 have l3:n3≤1:=by rw [←aQ.len];exact zbx (by omega)
 have lz:z.natAbs≤16777216:=by omega
 have l1:n≤1:=by rw [←h1.len];exact zbx lz
 refine (zau A3 n3 c3 1 s wc aQ (by omega) (by omega)).mono ?_
 rintro e wd ⟨A4,n4,c4,rfl,h4,aG⟩
 rw [Nat.one_mul] at h4
 have l4:n4≤64:=by rw [←h4.len];exact zdI (Nat.le_refl _) (by omega)
 have aR:wa.heap.size<wc.heap.size:=by have:=aE.size;simp at this;omega
 have aT:zad wd wa.heap.size (decide (z<0)) (.slice A n c) (.slice A' n' c'):=((zad.new wa _ _ _).below aE (by simp)).below aG aR
 have aV:Tabs wd:=(((hT.later hb).later aK).later aE).later aG
 have aW:Below w.heap.size w wd:=(((hb.trans (aK.mono hb.size)).trans (aE.mono (by have:=hb.size;simp;omega)))).trans (aG.mono (by have:=hb.size;omega))
 have aL:=zaE A A4 n c n4 c4 z.natAbs (2 ^ s) wd.drew ((((h1.later aK).later aE).later aG).later (Below.refl _ _).drew) (h4.later (Below.refl _ _).drew) (by omega) (by omega)
 have aD:Below w.heap.size w wd.drew:=aW.drew
 have aI:Tabs wd.drew:=aV.later (Below.refl _ _).drew
 obtain ⟨x0,x1,x2,_,_,_,xl⟩:=aT.cells
 have aU:=Lib.hid aL
 clear aL
 go_wp2_with fail
 go_region_held3 (fun w'=>w'.cell? ⟨wa.heap.size,0,none⟩=some (.bool (decide (z<0)))∧w'.cell? ⟨wa.heap.size,1,none⟩=some (.slice A n c))
  ((first | exact ⟨x0,x1⟩ | exact ⟨((aA.cell (p:=⟨wa.heap.size,0,none⟩) xl).trans x0),((aA.cell (p:=⟨wa.heap.size,1,none⟩) xl).trans x1)⟩ | exact ⟨((aC.cell (p:=⟨wa.heap.size,0,none⟩) aF).trans ((aA.cell (p:=⟨wa.heap.size,0,none⟩) xl).trans x0)),((aC.cell (p:=⟨wa.heap.size,1,none⟩) aF).trans ((aA.cell (p:=⟨wa.heap.size,1,none⟩) xl).trans x1))⟩ | exact ⟨((aH.cell (p:=⟨wa.heap.size,0,none⟩) aO).trans ((aC.cell (p:=⟨wa.heap.size,0,none⟩) aF).trans ((aA.cell (p:=⟨wa.heap.size,0,none⟩) xl).trans x0))),((aH.cell (p:=⟨wa.heap.size,1,none⟩) aO).trans ((aC.cell (p:=⟨wa.heap.size,1,none⟩) aF).trans ((aA.cell (p:=⟨wa.heap.size,1,none⟩) xl).trans x1)))⟩))
  (first
   |(go_at_call 105;refine (aU.out).mono ?_;rintro e w5 ⟨A5,m5,c5,rfl,aM,aA⟩;have aF:=Nat.lt_of_lt_of_le xl aA.size)
   |(go_at_call 102;refine (zah 1 w5 (by omega) (by omega)).mono ?_;rintro e w6 ⟨A6,m6,c6,rfl,aJ,aC⟩;have aO:=Nat.lt_of_lt_of_le aF aC.size)
   |(go_at_call 66;refine (zfo ⟨decide (z<0),z.natAbs*2 ^ s,1⟩ A5 A6 m5 c5 m6 c6 w6 ((aI.later aA).later aC) (aM.later aC) aJ (by have:=zc9 aM (Nat.le_of_eq h1.len) (Nat.le_of_eq h4.len);omega) (by have:=aJ.len;have:=zbx (x:=1) (by omega);have e1:Int.toNat 1=1:=rfl;rw [←aJ.len,e1];omega)).mono ?_;rintro e w7 ⟨S,rfl,hS,aH⟩))
 go_wp2_with fail
 go_ret2
 exact ⟨S,rfl,hS,((aD.trans (aA.mono aD.size)).trans (aC.mono (by have:=aD.size;have:=aA.size;omega))).trans (aH.mono (by have:=aD.size;have:=aA.size;have:=aC.size;omega))⟩
def exQ (b:Nat):Q:=
 match Ieee.single.read b with
 | .number s m p=>if m=0 then ⟨false,0,1⟩ else if p+m.log2<23 then lowQ s (m*2 ^ (23 - m.log2)) (2 ^ (23 - (p+m.log2)).toNat) else ⟨s,m*2 ^ (23 - m.log2)*2 ^ (p+m.log2 - 23).toNat,1⟩
 | _=>⟨false,0,1⟩
theorem zlk {b m:Nat} {s:Bool} {p:Int} (h:Ieee.single.read b = .number s m p) (hm:0<m) :
  Parts b (dw s (sg m) (p+m.log2 - 52)) (dw s (sg m) (-53)) (dw s (sg m) (-29)) (p+m.log2+1) (Ieee.signed s (m*2 ^ (23 - m.log2)) 0) ∧
   decide (Ieee.signed s (m*2 ^ (23 - m.log2)) 0<0)=s∧(Ieee.signed s (m*2 ^ (23 - m.log2)) 0).natAbs=m*2 ^ (23 - m.log2):=by
 obtain ⟨_,hn,hl⟩:=znY h hm
 obtain ⟨h1,h2,h3⟩:=zkE h
 obtain ⟨hi,hj,hp⟩:=zoe s hm hl h1
 have hf:∀ W:World,Calls Tryz.prog 101 #[.float .f64 (dw s (sg m) (p+m.log2 - 52))] W fun e w'=>e = .returned (.tuple #[.float .f64 (dw s (sg m) (-53)),.int .i64 (p+m.log2+1)])∧W=w':=by
  intro W
  have:=ziF W (zmP s W hn)
  rw [show p+(m.log2:Int) - 52+53=p+m.log2+1 from by omega] at this
  exact this
 have aC:=zoh s (m:=sg m) ⟨hn.lo,hn.hi,by omega,by omega⟩
 have aA:=zit h hm
 generalize m*2 ^ (23 - m.log2)=J at *
 have hv:Ieee.signed s J 0=if s then -(J:Int) else (J:Int):=by unfold Ieee.signed;rw [Nat.shiftLeft_zero]
 have hb : -16777216<Ieee.signed s J 0∧Ieee.signed s J 0<16777216:=by rw [hv];split<;>omega
 refine ⟨⟨aA,hf,aC,hi,hb.1,hb.2,by omega,by omega⟩,?_,?_⟩
 ·rw [hv];cases s
  ·exact decide_eq_false (by rw [if_neg (by decide)];omega)
  ·exact decide_eq_true (by rw [if_pos rfl];omega)
 ·rw [hv];split<;>omega
theorem zjl {b:Nat} {s:Bool} {p:Int} (h:Ieee.single.read b = .number s 0 p) :
  Parts b (Ieee.double.word s 0) (Ieee.double.word s 0) (Ieee.double.word s 0) 0 0:=
 ⟨zgH h,fun W=>ziF W (zi5 _ W (znd s)),zhL s,zmp s,by omega,by omega,by omega,by omega⟩
theorem zlw {b m:Nat} {s:Bool} {p:Int} (w:World) (hT:Tabs w) (h:Ieee.single.read b = .number s m p) :
  Calls Tryz.prog 40 #[.float .f32 b] w (zbj w (za0 (exQ b)) (zao (exQ b))):=by
 unfold exQ
 rw [h]
 dsimp only
 by_cases hm:m=0
 ·subst hm
  have:=zfJ w hT (zjl h) (by omega)
  rw [if_pos rfl]
  have e:lowQ (decide ((0:Int)<0)) (0:Int).natAbs (2 ^ (24 - 0:Int).toNat)=⟨false,0,1⟩:=by
   unfold lowQ
   rw [if_neg (by have:=Nat.two_pow_pos (24 - 0:Int).toNat;omega),if_pos (by rfl)]
  rw [e] at this
  exact this
 ·rw [if_neg hm]
  obtain ⟨hP,hs,hz⟩:=zlk h (by omega)
  by_cases hc:p+m.log2<23
  ·have:=zfJ w hT hP (by omega)
   rw [hs,hz,show (24 - (p+(m.log2:Int)+1))=23 - (p+m.log2) from by omega] at this
   rw [if_pos hc]
   exact this
  ·have:=zmo w hT hP (by omega)
   rw [hs,hz,show (p+(m.log2:Int)+1 - 24)=p+m.log2 - 23 from by omega] at this
   rw [if_neg hc]
   exact this
theorem zhm {b x:Nat} (w:World) (hc:floatToFloatBits .f32 b .f64=some x) (hx:x<18446744073709551616)
  (hn:(FloatKind.f64.format.order x x != some .eq)=false) (hi:(FloatKind.f64.format.order (absB x) 9218868437227405311==some .gt)=true) :
  Calls Tryz.prog 100 #[.float .f32 b] w fun e w'=>e = .returned (.bool false)∧w=w':=by
 have aD:=fun W:World=>run_convert_float_float (P:=Tryz.prog) W 55 118 .f32 .f64 b x (by kernel_rfl) (by kernel_rfl) hc
 have aA:=zcA x w
 rw [hn] at aA
 have aC:=zdi x w hx
 rw [hi] at aC
 have HN:=Lib.hid aA
 have HI:=Lib.hid aC
 clear aA aC hn hi hc
 go_enter Tryz.func100,Tryz.ntmps100
 go_wp2_with fail
 refine HN.out.mono ?_
 rintro e w1 ⟨rfl,rfl⟩
 go_wp2_with fail
 refine HI.out.mono ?_
 rintro e w1 ⟨rfl,rfl⟩
 go_wp2_with fail
 go_ret
 exact ⟨rfl,rfl⟩
theorem zmx (s:Bool) {b:Nat} (h:Ieee.single.read b = .infinity s) (w:World):Calls Tryz.prog 100 #[.float .f32 b] w fun e w'=>e = .returned (.bool false)∧w=w':=by
 refine zhm (x:=Ieee.double.word s 9218868437227405312) w ?_ ?_ ?_ ?_
 ·have h':FloatKind.f32.decode b = .infinity s:=h
  unfold floatToFloatBits
  rw [if_neg (by decide),h']
  show some (Ieee.double.word s Ieee.double.infRung)=_
  rw [zee]
 ·cases s<;>decide +kernel
 ·cases s<;>decide +kernel
 ·cases s<;>decide +kernel
def nanW (b:Nat) (W:World):Nat:=(Question.nanConv .f64 b).cut (W.tape W.drawn (Question.nanConv .f64 b))
theorem zkX (b:Nat) (W:World):∃ s f,Ieee.double.read (nanW b W) = .nan s f:=by
 unfold nanW Question.cut
 generalize W.tape W.drawn (Question.nanConv .f64 b)=t
 dsimp only
 have aA:(2:Nat) ^ 63=9223372036854775808:=by decide
 have aC:(2:Nat) ^ 52=4503599627370496:=by decide
 rw [aA,aC]
 have h1:t % 2<2:=Nat.mod_lt _ (by omega)
 have h2:t / 2 % (4503599627370496 - 1)<4503599627370495:=Nat.mod_lt _ (by omega)
 generalize t % 2=s at h1
 generalize t / 2 % (4503599627370496 - 1)=f at h2
 unfold Ieee.Format.read
 rw [zgG,zbz,zee]
 have e1:(s*9223372036854775808+9218868437227405312+1+f) % 9223372036854775808=9218868437227405312+1+f:=by omega
 dsimp only
 rw [e1,if_neg (by omega),if_neg (by omega),if_neg (by omega)]
 exact ⟨_,_,rfl⟩
theorem zmc (b:Nat) (W:World):(FloatKind.f64.format.order (nanW b W) (nanW b W) != some .eq)=true:=by
 obtain ⟨s,f,h⟩:=zkX b W
 have:FloatKind.f64.format.order (nanW b W) (nanW b W)=none:=by
  show (Ieee.double.read _).order (Ieee.double.read _)=_
  rw [h];rfl
 rw [this];rfl
theorem zh8 {P:Program} (src dst:TypeId) (b:Nat) {s:Bool} {f:Nat} (hs:(P.underlying src).isSome=true) (hd:P.underlying dst=some (.float .f64)) (h:Ieee.single.read b = .nan s f) (W:World) :
  (convert src dst (.float .f32 b)).run P W = .ok (.float .f64 (nanW b W)) W.drew:=by
 obtain ⟨u,aA⟩:=Option.isSome_iff_exists.1 hs
 have h':FloatKind.f32.decode b = .nan s f:=h
 have hf:(Question.nanConv .f64 b).forced=false:=rfl
 cases u<;>simp [convert,run_underlying aA,run_underlying hd,Conv.floatToFloat,h',hf,nanW]
theorem zgJ {b:Nat} {s:Bool} {f:Nat} (h:Ieee.single.read b = .nan s f) (w:World):Calls Tryz.prog 100 #[.float .f32 b] w fun e w'=>e = .returned (.bool false)∧Below w.heap.size w w':=by
 have aC:=zh8 (P:=Tryz.prog) 55 118 b (by kernel_rfl) (by kernel_rfl) h
 have aA:=zcA (nanW b w) w.drew
 rw [zmc] at aA
 have HN:=Lib.hid aA
 clear aA
 have hb:Below w.heap.size w w.drew:=(Below.refl _ _).drew
 go_enter Tryz.func100,Tryz.ntmps100
 go_wp2_with fail
 refine HN.out.mono ?_
 rintro e w1 ⟨rfl,rfl⟩
 go_wp2_with fail
 go_ret
 exact ⟨rfl,hb⟩
theorem zgX (b:Nat) (w:World):Calls Tryz.prog 100 #[.float .f32 b] w fun e w'=>e = .returned (.bool (fin Ieee.single b))∧Below w.heap.size w w':=by
 unfold fin
 rcases h:Ieee.single.read b with ⟨s,m,p⟩ | s | ⟨s,f⟩
 ·have hx:∃ x,Fine b x:=by
   rcases Nat.eq_zero_or_pos m with rfl | hm
   ·exact ⟨_,zgH h⟩
   ·exact ⟨_,zit h hm⟩
  obtain ⟨x,hx⟩:=hx
  refine (zcX w hx).mono ?_
  rintro e w' ⟨rfl,rfl⟩
  exact ⟨rfl,Below.refl _ _⟩
 ·refine (zmx s h w).mono ?_
  rintro e w' ⟨rfl,rfl⟩
  exact ⟨rfl,Below.refl _ _⟩
 ·exact zgJ h w
theorem zj7 {b:Nat} (w:World) (h:fin Ieee.single b=false):Calls Tryz.prog 40 #[.float .f32 b] w (zbj w [] 1):=by
 have h1:=zgX b w
 rw [h] at h1
 have h2:=Lib.hid h1
 clear h1 h
 go_enter Tryz.func40,Tryz.ntmps40
 go_wp2_with fail
 refine h2.out.mono ?_
 rintro e w1 ⟨rfl,hb⟩
 go_wp2_with fail
 go_ret2
 exact ⟨_,rfl,rfl,hb⟩
theorem zlb (b:Nat) (w:World) (hT:Tabs w) :
  Calls Tryz.prog 40 #[.float .f32 b] w (zbj w (if fin Ieee.single b then za0 (exQ b) else []) (if fin Ieee.single b then zao (exQ b) else 1)):=by
 by_cases hf:fin Ieee.single b=true
 ·rw [if_pos hf,if_pos hf]
  unfold fin at hf
  rcases h:Ieee.single.read b with ⟨s,m,p⟩ | s | ⟨s,f⟩
  ·exact zlw w hT h
  ·rw [h] at hf;cases hf
  ·rw [h] at hf;cases hf
 ·rw [if_neg hf,if_neg hf]
  exact zj7 w (by simpa using hf)
end Go.Proofs.YteajibbphcfmeaaGreatDoor
