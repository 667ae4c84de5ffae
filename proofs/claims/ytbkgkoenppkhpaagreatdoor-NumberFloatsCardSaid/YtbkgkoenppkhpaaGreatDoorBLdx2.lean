/- Contracts of math.Ldexp of a whole number of few bits. -/
import Derived.Test.YtbkgkoenppkhpaaGreatDoorBFl3
set_option maxRecDepth 100000
set_option maxHeartbeats 2000000
namespace Go.Proofs.YtbkgkoenppkhpaaGreatDoor
section
open Go.RowKit
open Flt
theorem zhb{x y:Nat}(hx:fin Ieee.double x=true)(hy:fin Ieee.double y=true)(h:key Ieee.double x≤key Ieee.double y):(FloatKind.f64.format.order x y==some .gt)=false:=by
 show(Ieee.double.order x y==some .gt)=false
 rw[zba hx hy];generalize key Ieee.double x=a at h;generalize key Ieee.double y=b at h
 rcases Int.lt_trichotomy a b with h1 | h1 | h1
 ·rw[zda h1];rfl
 ·subst h1;rw[zd3];rfl
 ·omega
theorem zfe{x y:Nat}(hx:fin Ieee.double x=true)(hy:fin Ieee.double y=true)(h:key Ieee.double y≤key Ieee.double x):(FloatKind.f64.format.order x y==some .lt)=false:=by
 show(Ieee.double.order x y==some .lt)=false
 rw[zba hx hy];generalize key Ieee.double x=a at h;generalize key Ieee.double y=b at h
 rcases Int.lt_trichotomy a b with h1 | h1 | h1
 ·omega
 ·subst h1;rw[zd3];rfl
 ·rw[zdR h1];rfl
theorem zhp{x y:Nat}(hx:fin Ieee.double x=true)(hy:fin Ieee.double y=true)(h:key Ieee.double x≠key Ieee.double y):(FloatKind.f64.format.order x y==some .eq)=false:=by
 show(Ieee.double.order x y==some .eq)=false
 rw[zba hx hy];generalize key Ieee.double x=a at h;generalize key Ieee.double y=b at h
 rcases Int.lt_trichotomy a b with h1 | h1 | h1
 ·rw[zda h1];rfl
 ·exact absurd h1 h
 ·rw[zdR h1];rfl
theorem zkF{x:Nat}(hx:fin Ieee.double x=true):(FloatKind.f64.format.order x x != some .eq)=false:=by
 show(Ieee.double.order x x != some .eq)=false
 rw[zba hx hx,zd3];rfl
theorem zfK:Ieee.double.read 9218868437227405311 = .number false 9007199254740991 971:=by decide +kernel
theorem zfQ:Ieee.double.read 4503599627370496 = .number false 4503599627370496 (-1074):=by decide +kernel
theorem zck:Ieee.double.read 0 = .number false 0 (-1074):=by decide +kernel
theorem zjo{n:Nat}{e:Int}(h0:0<n)(h1:n<9007199254740992)(he : -1022≤e+n.log2)(he2:e+n.log2≤1023) :
  ∃ F:Nat,F<4503599627370496∧dn n e=(e+n.log2+1023).toNat*4503599627370496+F∧F=sg n-4503599627370496:=by
 have hn:=zeY h0 h1 he he2;have:=hn.lo;have:=hn.hi;refine⟨sg n-4503599627370496,by omega,?_,rfl⟩;unfold dn dw Ieee.Format.word;rw[if_neg (by decide)];omega
theorem znO{n:Nat}(h0:0<n)(h1:n<9007199254740992):Norm64 (dn n 0)∧dn n 0/9223372036854775808=0∧dn n 0/4503599627370496%2048=n.log2+1023:=by
 have aF:(2:Nat)^53=9007199254740992:=by decide
 have a3:n.log2<53:=(Nat.log2_lt (by omega)).2 (by omega);obtain⟨F,hF,hw,_⟩:=zjo (e:=0) h0 h1 (by omega) (by omega);have aD:dn n 0<9223372036854775808:=by omega
 have aA:absB (dn n 0)=dn n 0:=Nat.mod_eq_of_lt aD;have f1:=zkn (e:=0) h0 h1 (by omega) (by omega);have k1:=zkK (e:=0) h0 h1 (by omega) (by omega) (by omega);have f2:=zaT zfK;have k2:=zbh zfK;have f3:=zaT zfQ;have k3:=zbh zfQ;have f4:=zaT zck;have k4:=zbh zck;rw[zbq] at k2 k3 k4;have hp:∀ k:Nat,0<2^k:=fun k=>Nat.two_pow_pos k
 refine⟨⟨by omega,zhp f1 f4 ?_,?_,zkF f1,?_⟩,by omega,by omega⟩
 ·rw[k1,k4,Nat.zero_mul]
  have:=Nat.mul_pos h0 (hp (0+1074:Int).toNat);generalize n*2^(0+1074:Int).toNat=A at this;omega
 ·rw[aA]
  refine zhb f1 f2 ?_;rw[k1,k2];obtain⟨a,ha⟩:∃ a:Nat,(0+1074:Int).toNat=a∧(a:Int)=1074:=⟨_,rfl,by decide⟩;obtain⟨b,hb⟩:∃ b:Nat,(971 - -1074:Int).toNat=b∧(b:Int)=2045:=⟨_,rfl,by decide⟩;rw[ha.1,hb.1];have:=Nat.mul_le_mul (show n≤9007199254740991 by omega) (Nat.pow_le_pow_right (show 0<2 by decide) (show a≤b by omega));exact Int.ofNat_le.2 this
 ·rw[aA]
  refine zfe f1 f3 ?_;rw[k1,k3];obtain⟨a,ha⟩:∃ a:Nat,(0+1074:Int).toNat=a∧(a:Int)=1074:=⟨_,rfl,by decide⟩;obtain⟨b,hb⟩:∃ b:Nat,(-1074 - -1074:Int).toNat=b∧(b:Int)=0:=⟨_,rfl,by decide⟩;rw[ha.1,hb.1];have aE:b=0:=by omega
  have aC:(2:Nat)^52=4503599627370496:=by decide
  subst aE;rw[←aC,Nat.pow_zero,Nat.mul_one];have:=Nat.mul_le_mul (show 1≤n from h0) (Nat.pow_le_pow_right (show 0<2 by decide) (show 52≤a by omega));rw[Nat.one_mul] at this;exact Int.ofNat_le.2 this
theorem zkU{n:Nat}{e:Int}(w:World)(h0:0<n)(h1:n<9007199254740992)(he : -1022≤e+n.log2)(he2:e+n.log2≤1023) :
  Calls Tryz.prog 160 #[.float .f64 (dn n 0),.int .i64 e] w fun e' w'=>e' = .returned (.float .f64 (dn n e))∧w=w':=by
 have aC:(2:Nat)^53=9007199254740992:=by decide
 have a3:n.log2<53:=(Nat.log2_lt (by omega)).2 (by omega);obtain⟨hN,hs,hE⟩:=znO h0 h1;obtain⟨F,hF,hw,aA⟩:=zjo (e:=0) h0 h1 (by omega) (by omega);obtain⟨G,hG,hv,aD⟩:=zjo (e:=e) h0 h1 he he2;have hY:ldY (dn n 0) (e+n.log2)=dn n e:=by
  unfold ldY;rw[hs,hv];omega
 refine zpF (dn n 0) e (e+n.log2) (dn n e) w hN (by omega) (by rw[hE];omega) he he2 ?_;rw[hY];exact one_mul false (zeY h0 h1 he he2)
theorem zrw(w:World):Calls Tryz.prog 205 #[.int .i64 1] w fun e w'=>e = .returned (.float .f64 9218868437227405312)∧w=w':=by
 have hf:∀ W:World,(callFunc 196 #[.int .u64 (9218868437227405312:Int)]).run Tryz.prog W = .ok (.value (.float .f64 9218868437227405312)) W:=fun W=>zcz 9218868437227405312 W
 go_enter Tryz.func205,Tryz.ntmps205
 go_wp2
 go_ret;exact⟨rfl,rfl⟩
theorem zlb(x:Nat)(e m:Int)(w:World)(h:Norm64 x)(he : -9223372036854775808≤e∧e<9223372036854770000)(hm:m=e+((x/4503599627370496%2048:Nat):Int)-1023)(hm1:1023<m)(hp:(FloatKind.f64.format.order x 0==some .lt)=false) :
  Calls Tryz.prog 160 #[.float .f64 x,.int .i64 e] w fun e w'=>e = .returned (.float .f64 9218868437227405312)∧w=w':=by
 have hz:=h.nz;have aC:=zdY x w h.lt;rw[h.inf] at aC;have aD:=zdf x w;rw[h.nan] at aD;have aE:=zdq x w h;have aF:=zeR x;have f1:wrap64 ((x:Int)/4503599627370496)=((x/4503599627370496:Nat):Int):=by
  have:=h.lt;rw[IntWalk.wrap64_in _ (by omega)];rfl
 have f2:bits BinOp.and IntKind.i64 ((x/4503599627370496:Nat):Int) 2047=((x/4503599627370496%2048:Nat):Int):=zgu _;have hE:x/4503599627370496%2048<2048:=Nat.mod_lt _ (by omega);have f4:wrap64 e=e:=IntWalk.wrap64_in _ (by omega);have f3:wrap64 (((x/4503599627370496%2048:Nat):Int)-1023)=((x/4503599627370496%2048:Nat):Int)-1023:=IntWalk.wrap64_in _ (by omega);have f5:wrap64 (e+(((x/4503599627370496%2048:Nat):Int)-1023))=m:=by rw[IntWalk.wrap64_in _ (by omega)];omega
 generalize x/4503599627370496%2048=E at *;generalize x/4503599627370496=X at *;have aA:=Aa aC;clear aC hm he;go_enter Tryz.func160,Tryz.ntmps160
 go_wp2_with fail
 refine aA.out.mono ?_;rintro e w1 ⟨rfl,rfl⟩
 go_wp2_with fail
 refine aD.mono ?_;rintro e w1 ⟨rfl,rfl⟩
 go_wp2_with fail
 refine aE.mono ?_;rintro e w1 ⟨rfl,rfl⟩
 go_wp2_with fail
 refine(zrw _).mono ?_;rintro e w1 ⟨rfl,rfl⟩
 go_wp2_with fail
 go_ret;exact⟨rfl,rfl⟩
theorem zmB{n:Nat}{e:Int}(w:World)(h0:0<n)(h1:n<9007199254740992)(he2:1023<e+n.log2)(he3:e<9223372036854770000) :
  Calls Tryz.prog 160 #[.float .f64 (dn n 0),.int .i64 e] w fun e' w'=>e' = .returned (.float .f64 9218868437227405312)∧w=w':=by
 have aA:(2:Nat)^53=9007199254740992:=by decide
 have a3:n.log2<53:=(Nat.log2_lt (by omega)).2 (by omega);obtain⟨hN,hs,hE⟩:=znO h0 h1;refine zlb (dn n 0) e (e+n.log2) w hN (by omega) (by rw[hE];omega) he2 ?_;have f1:=zkn (e:=0) h0 h1 (by omega) (by omega);have k1:=zkK (e:=0) h0 h1 (by omega) (by omega) (by omega);have f4:=zaT zck;have k4:=zbh zck;refine zfe f1 f4 ?_;rw[k1,k4,Nat.zero_mul];generalize n*2^(0+1074:Int).toNat=A;omega
theorem zrg:(FloatKind.f64.format.order 0 0==some .eq)=true:=by decide +kernel
theorem zl6{e:Int}(w:World):Calls Tryz.prog 160 #[.float .f64 0,.int .i64 e] w fun e' w'=>e' = .returned (.float .f64 0)∧w=w':=by
 have hz:=zrg;go_enter Tryz.func160,Tryz.ntmps160
 go_wp2
 go_ret;exact⟨rfl,rfl⟩
theorem ze0{x r:Nat}{e:Int}(w:World)(h:Calls Tryz.prog 160 #[.float .f64 x,.int .i64 e] w fun e' w'=>e' = .returned (.float .f64 r)∧w=w') :
  Calls Tryz.prog 99 #[.float .f64 x,.int .i64 e] w fun e' w'=>e' = .returned (.float .f64 r)∧w=w':=by
 have h2:=Aa h;clear h;go_enter Tryz.func99,Tryz.ntmps99
 go_wp2_with fail
 refine h2.out.mono ?_;rintro e w1 ⟨rfl,rfl⟩
 go_wp2_with fail
 go_ret;exact⟨rfl,rfl⟩
set_option maxHeartbeats 60000
theorem i_dw(s:Bool){m:Nat}{p:Int}(h:Nrm m p):∃ F R:Nat,F<4503599627370496∧m=4503599627370496+F∧(R:Int)=p+1075∧R<2047∧dw s m p=s.toNat*9223372036854775808+R*4503599627370496+F:=by
 have:=h.lo;have:=h.hi;have:=h.p0;have:=h.p1
 refine⟨m-4503599627370496,(p+1075).toNat,by omega,by omega,by omega,by omega,?_⟩;unfold dw Ieee.Format.word;rw[zhH]
 cases s
 ·rw[if_neg (by decide)];show _=0*_+_+_;omega
 ·rw[if_pos rfl];show _=1*_+_+_;omega
theorem zrs{f:Ieee.Format}{b m:Nat}{s:Bool}{p:Int}(h:f.read b = .number s m p)(hm:0<m):key f b≠0:=by
 unfold key;rw[h]
 simp only[Ieee.signed,Nat.shiftLeft_eq]
 have:=Nat.mul_pos hm (Nat.two_pow_pos (p-f.leastPlace).toNat);generalize m*2^(p-f.leastPlace).toNat=A at this
 split<;>omega
theorem znp(s:Bool){m:Nat}{p:Int}(h:Nrm m p):Norm64 (dw s m p):=by
 have aD:=h.lo;have aJ:=h.hi;have aK:=h.p0;have aH:=h.p1
 obtain⟨F,R,hF,hm,hR,aI,hw⟩:=i_dw s h;obtain⟨F',R',aL,aM,aN,aE,aF⟩:=i_dw false h;have hs:s.toNat≤1:=by cases s<;>decide
 have aA:absB (dw s m p)=dw false m p:=by
  have:false.toNat=0:=rfl;rw[this] at aF;unfold absB;omega
 have f1:=zaT (zcK s h);have aC:=zaT (zcK false h);have k1:=zbh (zcK false h);have f2:=zaT zfK;have k2:=zbh zfK;have f3:=zaT zfQ;have k3:=zbh zfQ;have f4:=zaT zck;have k4:=zbh zck;rw[zbq] at k1 k2 k3 k4;refine⟨by omega,zhp f1 f4 ?_,?_,zkF f1,?_⟩
 ·rw[k4,Nat.zero_mul];exact zrs (zcK s h) (by omega)
 ·rw[aA]
  refine zhb aC f2 ?_;rw[k1,k2];obtain⟨a,ha⟩:∃ a:Nat,(p - -1074:Int).toNat=a∧(a:Int)=p+1074:=⟨_,rfl,by omega⟩;obtain⟨b,hb⟩:∃ b:Nat,(971 - -1074:Int).toNat=b∧(b:Int)=2045:=⟨_,rfl,by decide⟩;rw[ha.1,hb.1];have:=Nat.mul_le_mul (show m≤9007199254740991 by omega) (Nat.pow_le_pow_right (show 0<2 by decide) (show a≤b by omega));exact Int.ofNat_le.2 this
 ·rw[aA]
  refine zfe aC f3 ?_;rw[k1,k3];obtain⟨a,ha⟩:∃ a:Nat,(p - -1074:Int).toNat=a∧(a:Int)=p+1074:=⟨_,rfl,by omega⟩;obtain⟨b,hb⟩:∃ b:Nat,(-1074 - -1074:Int).toNat=b∧(b:Int)=0:=⟨_,rfl,by decide⟩;rw[ha.1,hb.1];have aG:b=0:=by omega
  subst aG;have:=Nat.mul_le_mul aD (Nat.pow_le_pow_right (show 0<2 by decide) (show 0≤a by omega));exact Int.ofNat_le.2 this
theorem zjt(n:Nat)(h:n<18446744073709551616):bits BinOp.and IntKind.u64 (n:Int) 2047=((n%2048:Nat):Int):=by
 have:=u64_and_nat n 2047 h (by omega);rw[show n &&& 2047=n%2048 from Nat.and_two_pow_sub_one_eq_mod n 11] at this;exact this
theorem zou(x Y:Nat)(m:Int)(w:World)(h:Norm64 x)(hm:m=((x/4503599627370496%2048:Nat):Int)-1022)
 (hY:Y=x%4503599627370496+x/9223372036854775808*9223372036854775808+4602678819172646912) :
  Calls Tryz.prog 152 #[.float .f64 x] w fun e w'=>e = .returned (.tuple #[.float .f64 Y,.int .i64 m])∧w=w':=by
 have hz:=h.nz;have aE:=zdY x w h.lt;rw[h.inf] at aE;have aC:=zdf x w;rw[h.nan] at aC;have aG:=zdq x w h;have aJ:=zeR x;have aH:=h.lt;have f2:=zjt (x/4503599627370496) (by omega);have f0:((x/4503599627370496:Nat):Int)=(x:Int)/4503599627370496:=by omega
 rw[f0] at f2;have hE:x/4503599627370496%2048<2048:=Nat.mod_lt _ (by omega);have f3:wrap64 (((x/4503599627370496%2048:Nat):Int)-1023)=((x/4503599627370496%2048:Nat):Int)-1023:=IntWalk.wrap64_in _ (by omega);have f4:wrap64 (((x/4503599627370496%2048:Nat):Int)-1023+1)=m:=by rw[IntWalk.wrap64_in _ (by omega)];omega
 have f5:wrap64 m=m:=IntWalk.wrap64_in _ (by omega);have f8:wrap64 ((x/4503599627370496%2048:Nat):Int)=((x/4503599627370496%2048:Nat):Int):=IntWalk.wrap64_in _ (by omega);have f6:=zhj x h.lt;obtain⟨k,hk⟩:∃ k:Nat,k=1022:=⟨_,rfl⟩;have f7:=zp5 x k h.lt (by omega);have f9:((k*4503599627370496:Nat):Int)=4602678819172646912:=by omega
 have aF:x%4503599627370496+x/9223372036854775808*9223372036854775808+k*4503599627370496=Y:=by omega
 rw[aF,f9] at f7;clear hk f9 aF;generalize x%4503599627370496+x/9223372036854775808*9223372036854775808=F at f6 f7;have aD:=zcz Y;generalize x/4503599627370496%2048=E at *;have aA:=Aa aE;have HM:Hid ((E:Int)-1023+1=m):=by rw[hm];show(E:Int)-1023+1=(E:Int)-1022;omega
 clear aE hm hY f0;go_enter Tryz.func152,Tryz.ntmps152
 go_wp2_with fail
 refine aA.out.mono ?_;rintro e w1 ⟨rfl,rfl⟩
 go_wp2_with fail
 refine aC.mono ?_;rintro e w1 ⟨rfl,rfl⟩
 go_wp2_with fail
 refine aG.mono ?_;rintro e w1 ⟨rfl,rfl⟩;go_upto_region 7 with fail
 have F6:=Aa f6;have F7:=Aa f7;clear f6 f7 hz aC aG aA aJ h aH;have aI:=Aa aD;clear aD;go_upto_region 8 with fail
 clear f2 f3 f8;have f6:=F6.out;have f7:=F7.out;have aD:=aI.out
 go_wp2_with fail
 go_ret2
 exact⟨by rw[←HM.out];rfl,rfl⟩
theorem zo6(s:Bool){m:Nat}{p:Int}(w:World)(h:Nrm m p) :
  Calls Tryz.prog 152 #[.float .f64 (dw s m p)] w fun e w'=>e = .returned (.tuple #[.float .f64 (dw s m (-53)),.int .i64 (p+53)])∧w=w':=by
 have hN:=znp s h;obtain⟨F,R,hF,hm,hR,aC,hw⟩:=i_dw s h;obtain⟨F',R',aD,aE,aG,aA,aF⟩:=i_dw (m:=m) (p := -53) s ⟨h.lo,h.hi,by omega,by omega⟩;have hs:s.toNat≤1:=by cases s<;>decide
 exact zou (dw s m p) (dw s m (-53)) (p+53) w hN (by omega) (by omega)
theorem zkk{x r:Nat}{i:Int}(w:World)(h:Calls Tryz.prog 152 #[.float .f64 x] w fun e w'=>e = .returned (.tuple #[.float .f64 r,.int .i64 i])∧w=w') :
  Calls Tryz.prog 84 #[.float .f64 x] w fun e w'=>e = .returned (.tuple #[.float .f64 r,.int .i64 i])∧w=w':=by
 have h2:=Aa h;clear h;go_enter Tryz.func84,Tryz.ntmps84
 go_wp2_with fail
 refine h2.out.mono ?_;rintro e w1 ⟨rfl,rfl⟩
 go_wp2_with fail
 go_ret2
 exact⟨rfl,rfl⟩
theorem zk1(x:Nat)(w:World)(hz:(FloatKind.f64.format.order x 0==some .eq)=true) :
  Calls Tryz.prog 152 #[.float .f64 x] w fun e w'=>e = .returned (.tuple #[.float .f64 x,.int .i64 0])∧w=w':=by
 go_enter Tryz.func152,Tryz.ntmps152
 go_wp2_with fail
 go_ret2
 exact⟨rfl,rfl⟩
end
section
open Go.RowKit Bn
theorem zhP(z:Int):IntKind.u64.wrap z=z%18446744073709551616:=by
 first | rfl | (unfold IntKind.wrap;rfl) | (unfold IntKind.wrap IntKind.signed IntKind.bits;simp)
theorem zcG(z:Int)(w:World)(h0 : -9223372036854775808≤z)(h1:z<9223372036854775808) :
  Calls Tryz.prog 85 #[.int .i64 z] w (za5 w ⟨decide (z<0),z.natAbs,1⟩):=by
 have aF:Below w.heap.size w (w.alloc (.cells #[.bool false,.slice none 0 0,.slice none 0 0] 87)):=Ac;go_enter Tryz.func85,Tryz.ntmps85
 by_cases hz:z<0
 ·have hd:decide (z<0)=true:=by simpa using hz
  have aJ:IntKind.u64.wrap z=z+18446744073709551616:=by rw[zhP];omega
  have aK:IntKind.u64.wrap (-(z+18446744073709551616)) = -z:=by rw[zhP];omega
  go_wp2_with fail
  refine(zai (-z) _ (by omega) (by omega)).mono ?_;rintro e w4 ⟨A5,m5,c5,rfl,aG,aC⟩
  go_wp2_with fail
  refine(zai 1 _ (by omega) (by omega)).mono ?_;rintro e w6 ⟨A6,m6,c6,rfl,aI,aD⟩;have hk:=((zae.new w false (.slice none 0 0) (.slice none 0 0)).below aC (by simp)).below aD (by have:=aC.size;simp at this;omega);obtain⟨k0,k1,k2,f0,f1,f2,_⟩:=hk.cells;have aA:=(aF.trans (aC.mono aF.size)).trans (aD.mono (by have:=aC.size;simp at this;omega));have aE:=zao aA (g:=w.heap.size) (Nat.le_refl _) (.bool true) (.slice A5 m5 c5) (.slice A6 m6 c6);have aH:(-z).toNat=z.natAbs:=by omega
  go_wp2
  refine bodyPost_ret (v := .agg #[.bool true,.slice A5 m5 c5,.slice A6 m6 c6]) (by simp[results,Tryz.results85,go_sem,k0,k1,k2]) rfl ⟨_,rfl,⟨A5,m5,c5,A6,m6,c6,by rw[hd],?_,?_⟩,aE⟩
  ·rw[zah];show NatS _ _ A5 m5 c5 z.natAbs;rw[←aH];exact(aG.later aD).res hk _ _ _
  ·rw[zah];exact aI.res hk _ _ _
 ·have hd:decide (z<0)=false:=by simpa using hz
  have aJ:IntKind.u64.wrap z=z:=by rw[zhP];omega
  go_wp2_with fail
  refine(zai (z) _ (by omega) (by omega)).mono ?_;rintro e w4 ⟨A5,m5,c5,rfl,aG,aC⟩
  go_wp2_with fail
  refine(zai 1 _ (by omega) (by omega)).mono ?_;rintro e w6 ⟨A6,m6,c6,rfl,aI,aD⟩;have hk:=((zae.new w false (.slice none 0 0) (.slice none 0 0)).below aC (by simp)).below aD (by have:=aC.size;simp at this;omega);obtain⟨k0,k1,k2,f0,f1,f2,_⟩:=hk.cells;have aA:=(aF.trans (aC.mono aF.size)).trans (aD.mono (by have:=aC.size;simp at this;omega));have aE:=zao aA (g:=w.heap.size) (Nat.le_refl _) (.bool false) (.slice A5 m5 c5) (.slice A6 m6 c6);have aH:(z).toNat=z.natAbs:=by omega
  go_wp2
  refine bodyPost_ret (v := .agg #[.bool false,.slice A5 m5 c5,.slice A6 m6 c6]) (by simp[results,Tryz.results85,go_sem,k0,k1,k2]) rfl ⟨_,rfl,⟨A5,m5,c5,A6,m6,c6,by rw[hd],?_,?_⟩,aE⟩
  ·rw[zah];show NatS _ _ A5 m5 c5 z.natAbs;rw[←aH];exact(aG.later aD).res hk _ _ _
  ·rw[zah];exact aI.res hk _ _ _
end
section
open Go.RowKit
open Flt
theorem zo1(s:Bool){n:Nat}{e:Int}(h0:0<n)(h1:n<9007199254740992)(he : -1022≤e+n.log2)(he2:e+n.log2≤1023):Ieee.double.write (.number s n e)=dw s (sg n) (e+n.log2-52):=by
 have hn:=zeY h0 h1 he he2;have hr:=hn.rung;have aA:(2:Nat)^53=9007199254740992:=by decide
 have a3:n.log2<53:=(Nat.log2_lt (by omega)).2 (by omega);show Ieee.double.nearest s n e=_
 rw[zeo Ieee.double s n (52-n.log2) e h0 (by rw[zbq];show max (e+(n.log2:Int)-((52:Nat):Int)) (-1074)=_;omega) (by rw[zbq,zbT,ze9,show e-((52-n.log2:Nat):Int) - -1074=e+n.log2-52+1074 from by omega];exact Nat.le_of_lt hr)];unfold dw sg;rw[zbq,zbT,show e-((52-n.log2:Nat):Int) - -1074=e+n.log2-52+1074 from by omega]
theorem zd2{b m:Nat}{s:Bool}{p:Int}(h:Ieee.single.read b = .number s m p):m<16777216 ∧ -149≤p∧p≤104:=by
 unfold Ieee.Format.read at h;rw[zeh,za9,zdx,zaI] at h
 dsimp only at h
 generalize hr:b%2147483648=r at h
 by_cases h1:r<8388608
 ·rw[if_pos h1] at h
  injection h with _ h2 h3
  omega
 ·rw[if_neg h1] at h
  by_cases h2:r<2139095040
  ·rw[if_pos h2] at h
   injection h with _ h3 h4
   omega
  ·rw[if_neg h2] at h
   split at h<;>cases h
theorem zhg{b m r:Nat}{s t:Bool}{e p:Int}{n:Nat}(h:Ieee.single.read b = .number s m e)(hw:Ieee.double.write (.number s m e)=r)(hi:Ieee.double.read r = .number t n p):floatToFloatBits .f32 b .f64=some r:=by
 have h':FloatKind.f32.decode b = .number s m e:=h;have aA:FloatKind.f64.encode (.number s m e)=r:=hw;have aC:FloatKind.f64.decode r = .number t n p:=hi;unfold floatToFloatBits;rw[if_neg (by decide),h'];simp only[aA,aC]
 rfl
theorem zrQ{b m:Nat}{s:Bool}{p:Int}(h:Ieee.single.read b = .number s m p)(hm:0<m):floatToFloatBits .f32 b .f64=some (dw s (sg m) (p+m.log2-52))∧Nrm (sg m) (p+m.log2-52)∧m.log2≤23:=by
 have aA:(2:Nat)^24=16777216:=by decide
 obtain⟨h1,h2,h3⟩:=zd2 h;have hl:m.log2<24:=(Nat.log2_lt (by omega)).2 (by omega);have hn:=zeY (n:=m) (e:=p) hm (by omega) (by omega) (by omega);exact⟨zhg h (zo1 s hm (by omega) (by omega) (by omega)) (zcK s hn),hn,by omega⟩
theorem zk9(s:Bool)(p:Int):Ieee.double.write (.number s 0 p)=Ieee.double.word s 0:=by
 show Ieee.double.nearest s 0 p=_
 unfold Ieee.Format.nearest;rw[if_pos rfl]
theorem zgR(s:Bool):Ieee.double.read (Ieee.double.word s 0) = .number s 0 (-1074):=by
 cases s<;>decide +kernel
theorem zlP{b:Nat}{s:Bool}{p:Int}(h:Ieee.single.read b = .number s 0 p):floatToFloatBits .f32 b .f64=some (Ieee.double.word s 0):=
 zhg h (zk9 s p) (zgR s)
structure Fine (b x:Nat):Prop where
 conv:floatToFloatBits .f32 b .f64=some x
 lt:x<18446744073709551616
 inf:(FloatKind.f64.format.order (absB x) 9218868437227405311==some .gt)=false
 nan:(FloatKind.f64.format.order x x != some .eq)=false
theorem zkr {b m:Nat} {s:Bool} {p:Int} (h:Ieee.single.read b = .number s m p) (hm:0<m):Fine b (dw s (sg m) (p+m.log2-52)):=by
 obtain⟨h1,h2,_⟩:=zrQ h hm;have hN:=znp s h2;exact⟨h1,hN.lt,hN.inf,hN.nan⟩
theorem ziU{b:Nat}{s:Bool}{p:Int}(h:Ieee.single.read b = .number s 0 p):Fine b (Ieee.double.word s 0):=by
 refine⟨zlP h,?_,?_,?_⟩<;>cases s<;>decide +kernel
theorem zds{b x:Nat}(w:World)(h:Fine b x):Calls Tryz.prog 83 #[.float .f32 b] w fun e w'=>e = .returned (.bool true)∧w=w':=by
 have aD:=fun W:World=>run_convert_float_float (P:=Tryz.prog) W 46 111 .f32 .f64 b x (by kernel_rfl) (by kernel_rfl) h.conv
 have aA:=zdf x w;rw[h.nan] at aA;have aC:=zdY x w h.lt;rw[h.inf] at aC;have HN:=Aa aA;have HI:=Aa aC;clear aA aC h;go_enter Tryz.func83,Tryz.ntmps83
 go_wp2_with fail
 refine HN.out.mono ?_;rintro e w1 ⟨rfl,rfl⟩
 go_wp2_with fail
 refine HI.out.mono ?_;rintro e w1 ⟨rfl,rfl⟩
 go_wp2_with fail
 go_ret;exact⟨rfl,rfl⟩
theorem zrV(s:Bool){m:Nat}(h:Nrm m (-53)):floatBits .mul .f64 (dw s m (-53)) 4715268809856909312=some (dw s m (-29)):=by
 show(((Ieee.double.read (dw s m (-53))).product (Ieee.double.read 4715268809856909312)).map Ieee.double.write)=_
 have e1:Ieee.double.read 4715268809856909312 = .number false 4503599627370496 (-28):=by decide +kernel
 rw[e1,zcK s h];show some (Ieee.double.write (.number (s ^^ false) (m*4503599627370496) (-53 + -28)))=_
 have e2:m*4503599627370496=m*2^52:=by rfl
 rw[e2,zic (s ^^ false) 52 (q := -29) ⟨h.lo,h.hi,by omega,by omega⟩ (by omega)];simp
theorem zgN(s:Bool)(n d:Nat)(hn:0<n):Ieee.Toward.zero.cut s (n*2^d) d=n:=by
 unfold Ieee.Toward.cut;have e:min d ((n*2^d).log2+2)=d:=by rw[zdQ n d hn];omega
 have hp:=Nat.two_pow_pos d;simp only[e,Nat.shiftLeft_eq,Nat.one_mul,Nat.mul_div_cancel _ hp]
 rfl
theorem zrU(s:Bool){m:Nat}(h0:0<m)(hl:m.log2≤23)(hm:m<16777216):floatToIntVal .f64 (dw s (sg m) (-29)) .i64=some (Ieee.signed s (m*2^(23-m.log2)) 0)∧m*2^(23-m.log2)<16777216∧0<m*2^(23-m.log2):=by
 have aD:(2:Nat)^24=16777216:=by decide
 have hp:0<m*2^(23-m.log2):=Nat.mul_pos h0 (Nat.two_pow_pos _);have aC:m*2^(23-m.log2)<16777216:=by
  have a2:=(Nat.log2_lt (n:=m) (k:=m.log2+1) (by omega)).1 (by omega);have:=Nat.mul_lt_mul_of_pos_right a2 (Nat.two_pow_pos (23-m.log2));rw[←Nat.pow_add,show m.log2+1+(23-m.log2)=24 from by omega,aD] at this;exact this
 have hn:=zeY (n:=m) (e:=0) h0 (by omega) (by omega) (by omega);have hr:=zcK s (m:=sg m) (p := -29) ⟨hn.lo,hn.hi,by omega,by omega⟩;have aA:sg m=m*2^(23-m.log2)*2^29:=by
  unfold sg;rw[Nat.mul_assoc,←Nat.pow_add,show 23-m.log2+29=52-m.log2 from by omega]
 refine⟨?_,aC,hp⟩;generalize m*2^(23-m.log2)=J at *;have hv:FloatKind.f64.decode (dw s (sg m) (-29)) = .number s (sg m) (-29):=hr;have aE:(FloatKind.f64.decode (dw s (sg m) (-29))).toInt .zero=some (Ieee.signed s J 0):=by
  rw[hv,aA];unfold Ieee.Datum.toInt Ieee.Datum.integral;have e1:(-29:Int).toNat=0:=by decide
  have e2:(- (-29:Int)).toNat=29:=by decide
  simp only[e1,e2,Nat.shiftLeft_zero,zgN s J 29 hp]
 unfold floatToIntVal;rw[aE];have hb:IntKind.i64.min≤Ieee.signed s J 0∧Ieee.signed s J 0≤IntKind.i64.max:=by
  have h1:IntKind.i64.min = -9223372036854775808:=by decide
  have h2:IntKind.i64.max=9223372036854775807:=by decide
  rw[h1,h2];unfold Ieee.signed;rw[Nat.shiftLeft_zero]
  split<;>omega
 simp only[hb,and_self,if_true]
theorem zjf(s:Bool):floatBits .mul .f64 (Ieee.double.word s 0) 4715268809856909312=some (Ieee.double.word s 0):=by cases s<;>decide +kernel
theorem zpB(s:Bool):floatToIntVal .f64 (Ieee.double.word s 0) .i64=some 0:=by cases s<;>decide +kernel
theorem zrd(s:Bool):(FloatKind.f64.format.order (Ieee.double.word s 0) 0==some .eq)=true:=by cases s<;>decide +kernel
end
section
open Go.RowKit Bn
open Flt
theorem zcl(s:Bool){n:Nat}{e:Int}(h:Rnd n e)(hn:n<16777216)(hR:rung n e<2139095040):Ieee.single.read (Ieee.single.word s (rung n e)) = .number s n e:=by
 have aC:=h.place;have aD:=h.lo;unfold rung at *;unfold Ieee.Format.read Ieee.Format.word;rw[zeh,za9,zdx,zaI];generalize aA:(e+149).toNat*8388608+n=R at *;have e1:(if s=true then 2147483648+R else R)%2147483648=R:=by split<;>omega
 have e2:((if s=true then 2147483648+R else R)/2147483648%2==1)=s:=by
  cases s
  ·simp;omega
  ·simp;omega
 simp only[e1,e2]
 by_cases hs:R<8388608
 ·rw[if_pos hs]
  congr 1<;>omega
 ·rw[if_neg hs,if_pos hR]
  congr 1<;>omega
theorem zi8(s:Bool){n:Nat}{e:Int}(h:Rnd n e)(hn:n<16777216)(hR:rung n e<2139095040) :
  fin Ieee.single (Ieee.single.word s (rung n e))=true∧key Ieee.single (Ieee.single.word s (rung n e))=(if s then -((n*2^(e+149).toNat:Nat):Int) else((n*2^(e+149).toNat:Nat):Int)):=by
 have hr:=zcl s h hn hR;refine⟨zaT hr,?_⟩;unfold key;rw[hr,zaI];simp only[Ieee.signed,Nat.shiftLeft_eq]
 rw[show(e - -149).toNat=(e+149).toNat from by omega]
theorem zfO(s:Bool){n:Nat}{e:Int}(h:Rnd n e)(hR:rung n e<2139095040) :
  fin Ieee.single (Ieee.single.word s (rung n e))=true∧key Ieee.single (Ieee.single.word s (rung n e))=(if s then -((n*2^(e+149).toNat:Nat):Int) else((n*2^(e+149).toNat:Nat):Int)):=by
 have aC:=h.hi;have aA:=h.place
 by_cases hn:n<16777216
 ·exact zi8 s h hn hR
 ·have h2:Rnd 8388608 (e+1):=⟨by omega,by omega,.inr (Nat.le_refl _)⟩
  have e1:rung n e=rung 8388608 (e+1):=by unfold rung;omega
  rw[e1] at hR ⊢;have h3:=zi8 s h2 (by omega) hR;have e2:8388608*2^(e+1+149).toNat=n*2^(e+149).toNat:=by
   rw[show(e+1+149).toNat=(e+149).toNat+1 by omega,show(2:Nat)^((e+149).toNat+1)=2^(e+149).toNat*2 from Nat.pow_succ ..,show n=16777216 by omega];generalize 2^(e+149).toNat=P;omega
  rw[e2] at h3;exact h3
end
end Go.Proofs.YtbkgkoenppkhpaaGreatDoor
