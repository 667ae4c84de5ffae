/- Contracts of math.Ldexp of a whole number of few bits. -/
import Derived.Test.YtmkondcdejlhcaaGreatDoorFFl3
set_option maxRecDepth 100000
set_option maxHeartbeats 4000000
namespace Go.Proofs.YtmkondcdejlhcaaGreatDoor
section
open Go.RowKit
open Flt
theorem zgy{x y:Nat}(hx:fin Ieee.double x=true)(hy:fin Ieee.double y=true)(h:key Ieee.double x≤key Ieee.double y):(FloatKind.f64.format.order x y==some .gt)=false:=by
 show(Ieee.double.order x y==some .gt)=false
 rw[zdb hx hy];generalize key Ieee.double x=a at h;generalize key Ieee.double y=b at h
 rcases Int.lt_trichotomy a b with h1 | h1 | h1
 ·rw[zgH h1];rfl
 ·subst h1;rw[zjR];rfl
 ·omega
theorem zeV{x y:Nat}(hx:fin Ieee.double x=true)(hy:fin Ieee.double y=true)(h:key Ieee.double y≤key Ieee.double x):(FloatKind.f64.format.order x y==some .lt)=false:=by
 show(Ieee.double.order x y==some .lt)=false
 rw[zdb hx hy];generalize key Ieee.double x=a at h;generalize key Ieee.double y=b at h
 rcases Int.lt_trichotomy a b with h1 | h1 | h1
 ·omega
 ·subst h1;rw[zjR];rfl
 ·rw[zhZ h1];rfl
theorem zgQ{x y:Nat}(hx:fin Ieee.double x=true)(hy:fin Ieee.double y=true)(h:key Ieee.double x≠key Ieee.double y):(FloatKind.f64.format.order x y==some .eq)=false:=by
 show(Ieee.double.order x y==some .eq)=false
 rw[zdb hx hy];generalize key Ieee.double x=a at h;generalize key Ieee.double y=b at h
 rcases Int.lt_trichotomy a b with h1 | h1 | h1
 ·rw[zgH h1];rfl
 ·exact absurd h1 h
 ·rw[zhZ h1];rfl
theorem zjD{x:Nat}(hx:fin Ieee.double x=true):(FloatKind.f64.format.order x x != some .eq)=false:=by
 show(Ieee.double.order x x != some .eq)=false
 rw[zdb hx hx,zjR];rfl
theorem zfr:Ieee.double.read 9218868437227405311 = .number false 9007199254740991 971:=by decide +kernel
theorem zfu:Ieee.double.read 4503599627370496 = .number false 4503599627370496 (-1074):=by decide +kernel
theorem zcg:Ieee.double.read 0 = .number false 0 (-1074):=by decide +kernel
theorem ziv{n:Nat}{e:Int}(h0:0<n)(h1:n<9007199254740992)(he : -1022≤e+n.log2)(he2:e+n.log2≤1023) :
  ∃ F:Nat,F<4503599627370496∧dn n e=(e+n.log2+1023).toNat*4503599627370496+F∧F=sg n-4503599627370496:=by
 have hn:=zeB h0 h1 he he2;have:=hn.lo;have:=hn.hi;refine⟨sg n-4503599627370496,by omega,?_,rfl⟩;unfold dn dw Ieee.Format.word;rw[if_neg (by decide)];omega
theorem zlq{n:Nat}(h0:0<n)(h1:n<9007199254740992):Norm64 (dn n 0)∧dn n 0/9223372036854775808=0∧dn n 0/4503599627370496%2048=n.log2+1023:=by
 have aF:(2:Nat)^53=9007199254740992:=by decide
 have a3:n.log2<53:=(Nat.log2_lt (by omega)).2 (by omega);obtain⟨F,hF,hw,_⟩:=ziv (e:=0) h0 h1 (by omega) (by omega);have aE:dn n 0<9223372036854775808:=by omega
 have aA:absB (dn n 0)=dn n 0:=Nat.mod_eq_of_lt aE;have f1:=zji (e:=0) h0 h1 (by omega) (by omega);have k1:=zjj (e:=0) h0 h1 (by omega) (by omega) (by omega);have f2:=za5 zfr;have k2:=zbk zfr;have f3:=za5 zfu;have k3:=zbk zfu;have f4:=za5 zcg;have k4:=zbk zcg;rw[zbp] at k2 k3 k4;have hp:∀ k:Nat,0<2^k:=fun k=>Nat.two_pow_pos k
 refine⟨⟨by omega,zgQ f1 f4 ?_,?_,zjD f1,?_⟩,by omega,by omega⟩
 ·rw[k1,k4,Nat.zero_mul]
  have:=Nat.mul_pos h0 (hp (0+1074:Int).toNat);generalize n*2^(0+1074:Int).toNat=A at this;omega
 ·rw[aA]
  refine zgy f1 f2 ?_;rw[k1,k2];obtain⟨a,ha⟩:∃ a:Nat,(0+1074:Int).toNat=a∧(a:Int)=1074:=⟨_,rfl,by decide⟩;obtain⟨b,hb⟩:∃ b:Nat,(971 - -1074:Int).toNat=b∧(b:Int)=2045:=⟨_,rfl,by decide⟩;rw[ha.1,hb.1];have:=Nat.mul_le_mul (show n≤9007199254740991 by omega) (Nat.pow_le_pow_right (show 0<2 by decide) (show a≤b by omega));exact Int.ofNat_le.2 this
 ·rw[aA]
  refine zeV f1 f3 ?_;rw[k1,k3];obtain⟨a,ha⟩:∃ a:Nat,(0+1074:Int).toNat=a∧(a:Int)=1074:=⟨_,rfl,by decide⟩;obtain⟨b,hb⟩:∃ b:Nat,(-1074 - -1074:Int).toNat=b∧(b:Int)=0:=⟨_,rfl,by decide⟩;rw[ha.1,hb.1];have aD:b=0:=by omega
  have aC:(2:Nat)^52=4503599627370496:=by decide
  subst aD;rw[←aC,Nat.pow_zero,Nat.mul_one];have:=Nat.mul_le_mul (show 1≤n from h0) (Nat.pow_le_pow_right (show 0<2 by decide) (show 52≤a by omega));rw[Nat.one_mul] at this;exact Int.ofNat_le.2 this
theorem zjP{n:Nat}{e:Int}(w:World)(h0:0<n)(h1:n<9007199254740992)(he : -1022≤e+n.log2)(he2:e+n.log2≤1023) :
  Calls Tryz.prog 156 #[.float .f64 (dn n 0),.int .i64 e] w fun e' w'=>e' = .returned (.float .f64 (dn n e))∧w=w':=by
 have aA:(2:Nat)^53=9007199254740992:=by decide
 have a3:n.log2<53:=(Nat.log2_lt (by omega)).2 (by omega);obtain⟨hN,hs,hE⟩:=zlq h0 h1;obtain⟨F,hF,hw,aC⟩:=ziv (e:=0) h0 h1 (by omega) (by omega);obtain⟨G,hG,hv,aD⟩:=ziv (e:=e) h0 h1 he he2;have hY:ldY (dn n 0) (e+n.log2)=dn n e:=by
  unfold ldY;rw[hs,hv];omega
 refine zm1 (dn n 0) e (e+n.log2) (dn n e) w hN (by omega) (by rw[hE];omega) he he2 ?_;rw[hY];exact one_mul false (zeB h0 h1 he he2)
theorem zo1(w:World):Calls Tryz.prog 190 #[.int .i64 1] w fun e w'=>e = .returned (.float .f64 9218868437227405312)∧w=w':=by
 have hf:∀ W:World,(callFunc 191 #[.int .u64 (9218868437227405312:Int)]).run Tryz.prog W = .ok (.value (.float .f64 9218868437227405312)) W:=fun W=>zct 9218868437227405312 W
 go_enter Tryz.func190,Tryz.ntmps190
 go_wp2
 go_ret;exact⟨rfl,rfl⟩
theorem zky(x:Nat)(e m:Int)(w:World)(h:Norm64 x)(he : -9223372036854775808≤e∧e<9223372036854770000)(hm:m=e+((x/4503599627370496%2048:Nat):Int)-1023)(hm1:1023<m)(hp:(FloatKind.f64.format.order x 0==some .lt)=false) :
  Calls Tryz.prog 156 #[.float .f64 x,.int .i64 e] w fun e w'=>e = .returned (.float .f64 9218868437227405312)∧w=w':=by
 have hz:=h.nz;have aC:=zdG x w h.lt;rw[h.inf] at aC;have aD:=zc8 x w;rw[h.nan] at aD;have aE:=zdk x w h;have aF:=zem x;have f1:wrap64 ((x:Int)/4503599627370496)=((x/4503599627370496:Nat):Int):=by
  have:=h.lt;rw[IntWalk.wrap64_in _ (by omega)];rfl
 have f2:bits BinOp.and IntKind.i64 ((x/4503599627370496:Nat):Int) 2047=((x/4503599627370496%2048:Nat):Int):=zfQ _;have hE:x/4503599627370496%2048<2048:=Nat.mod_lt _ (by omega);have f4:wrap64 e=e:=IntWalk.wrap64_in _ (by omega);have f3:wrap64 (((x/4503599627370496%2048:Nat):Int)-1023)=((x/4503599627370496%2048:Nat):Int)-1023:=IntWalk.wrap64_in _ (by omega);have f5:wrap64 (e+(((x/4503599627370496%2048:Nat):Int)-1023))=m:=by rw[IntWalk.wrap64_in _ (by omega)];omega
 generalize x/4503599627370496%2048=E at *;generalize x/4503599627370496=X at *;have aA:=Aa aC;clear aC hm he;go_enter Tryz.func156,Tryz.ntmps156
 go_wp2_with fail
 refine aA.out.mono ?_;rintro e w1 ⟨rfl,rfl⟩
 go_wp2_with fail
 refine aD.mono ?_;rintro e w1 ⟨rfl,rfl⟩
 go_wp2_with fail
 refine aE.mono ?_;rintro e w1 ⟨rfl,rfl⟩
 go_wp2_with fail
 refine(zo1 _).mono ?_;rintro e w1 ⟨rfl,rfl⟩
 go_wp2_with fail
 go_ret;exact⟨rfl,rfl⟩
theorem zmo{n:Nat}{e:Int}(w:World)(h0:0<n)(h1:n<9007199254740992)(he2:1023<e+n.log2)(he3:e<9223372036854770000) :
  Calls Tryz.prog 156 #[.float .f64 (dn n 0),.int .i64 e] w fun e' w'=>e' = .returned (.float .f64 9218868437227405312)∧w=w':=by
 have aA:(2:Nat)^53=9007199254740992:=by decide
 have a3:n.log2<53:=(Nat.log2_lt (by omega)).2 (by omega);obtain⟨hN,hs,hE⟩:=zlq h0 h1;refine zky (dn n 0) e (e+n.log2) w hN (by omega) (by rw[hE];omega) he2 ?_;have f1:=zji (e:=0) h0 h1 (by omega) (by omega);have k1:=zjj (e:=0) h0 h1 (by omega) (by omega) (by omega);have f4:=za5 zcg;have k4:=zbk zcg;refine zeV f1 f4 ?_;rw[k1,k4,Nat.zero_mul];generalize n*2^(0+1074:Int).toNat=A;omega
theorem zoO:(FloatKind.f64.format.order 0 0==some .eq)=true:=by decide +kernel
theorem zjT{e:Int}(w:World):Calls Tryz.prog 156 #[.float .f64 0,.int .i64 e] w fun e' w'=>e' = .returned (.float .f64 0)∧w=w':=by
 have hz:=zoO;go_enter Tryz.func156,Tryz.ntmps156
 go_wp2
 go_ret;exact⟨rfl,rfl⟩
theorem zer{x r:Nat}{e:Int}(w:World)(h:Calls Tryz.prog 156 #[.float .f64 x,.int .i64 e] w fun e' w'=>e' = .returned (.float .f64 r)∧w=w') :
  Calls Tryz.prog 106 #[.float .f64 x,.int .i64 e] w fun e' w'=>e' = .returned (.float .f64 r)∧w=w':=by
 have h2:=Aa h;clear h;go_enter Tryz.func106,Tryz.ntmps106
 go_wp2_with fail
 refine h2.out.mono ?_;rintro e w1 ⟨rfl,rfl⟩
 go_wp2_with fail
 go_ret;exact⟨rfl,rfl⟩
set_option maxHeartbeats 60000
theorem i_dw(s:Bool){m:Nat}{p:Int}(h:Nrm m p):∃ F R:Nat,F<4503599627370496∧m=4503599627370496+F∧(R:Int)=p+1075∧R<2047∧dw s m p=s.toNat*9223372036854775808+R*4503599627370496+F:=by
 have:=h.lo;have:=h.hi;have:=h.p0;have:=h.p1
 refine⟨m-4503599627370496,(p+1075).toNat,by omega,by omega,by omega,by omega,?_⟩;unfold dw Ieee.Format.word;rw[zhe]
 cases s
 ·rw[if_neg (by decide)];show _=0*_+_+_;omega
 ·rw[if_pos rfl];show _=1*_+_+_;omega
theorem zoW{f:Ieee.Format}{b m:Nat}{s:Bool}{p:Int}(h:f.read b = .number s m p)(hm:0<m):key f b≠0:=by
 unfold key;rw[h]
 simp only[Ieee.signed,Nat.shiftLeft_eq]
 have:=Nat.mul_pos hm (Nat.two_pow_pos (p-f.leastPlace).toNat);generalize m*2^(p-f.leastPlace).toNat=A at this
 split<;>omega
theorem zlV(s:Bool){m:Nat}{p:Int}(h:Nrm m p):Norm64 (dw s m p):=by
 have aG:=h.lo;have aI:=h.hi;have aH:=h.p0;have aL:=h.p1
 obtain⟨F,R,hF,hm,hR,aM,hw⟩:=i_dw s h;obtain⟨F',R',aN,aK,aJ,aD,aF⟩:=i_dw false h;have hs:s.toNat≤1:=by cases s<;>decide
 have aA:absB (dw s m p)=dw false m p:=by
  have:false.toNat=0:=rfl;rw[this] at aF;unfold absB;omega
 have f1:=za5 (zcF s h);have aC:=za5 (zcF false h);have k1:=zbk (zcF false h);have f2:=za5 zfr;have k2:=zbk zfr;have f3:=za5 zfu;have k3:=zbk zfu;have f4:=za5 zcg;have k4:=zbk zcg;rw[zbp] at k1 k2 k3 k4;refine⟨by omega,zgQ f1 f4 ?_,?_,zjD f1,?_⟩
 ·rw[k4,Nat.zero_mul];exact zoW (zcF s h) (by omega)
 ·rw[aA]
  refine zgy aC f2 ?_;rw[k1,k2];obtain⟨a,ha⟩:∃ a:Nat,(p - -1074:Int).toNat=a∧(a:Int)=p+1074:=⟨_,rfl,by omega⟩;obtain⟨b,hb⟩:∃ b:Nat,(971 - -1074:Int).toNat=b∧(b:Int)=2045:=⟨_,rfl,by decide⟩;rw[ha.1,hb.1];have:=Nat.mul_le_mul (show m≤9007199254740991 by omega) (Nat.pow_le_pow_right (show 0<2 by decide) (show a≤b by omega));exact Int.ofNat_le.2 this
 ·rw[aA]
  refine zeV aC f3 ?_;rw[k1,k3];obtain⟨a,ha⟩:∃ a:Nat,(p - -1074:Int).toNat=a∧(a:Int)=p+1074:=⟨_,rfl,by omega⟩;obtain⟨b,hb⟩:∃ b:Nat,(-1074 - -1074:Int).toNat=b∧(b:Int)=0:=⟨_,rfl,by decide⟩;rw[ha.1,hb.1];have aE:b=0:=by omega
  subst aE;have:=Nat.mul_le_mul aG (Nat.pow_le_pow_right (show 0<2 by decide) (show 0≤a by omega));exact Int.ofNat_le.2 this
theorem ziS(n:Nat)(h:n<18446744073709551616):bits BinOp.and IntKind.u64 (n:Int) 2047=((n%2048:Nat):Int):=by
 have:=u64_and_nat n 2047 h (by omega);rw[show n &&& 2047=n%2048 from Nat.and_two_pow_sub_one_eq_mod n 11] at this;exact this
theorem znF(x Y:Nat)(m:Int)(w:World)(h:Norm64 x)(hm:m=((x/4503599627370496%2048:Nat):Int)-1022)
 (hY:Y=x%4503599627370496+x/9223372036854775808*9223372036854775808+4602678819172646912) :
  Calls Tryz.prog 160 #[.float .f64 x] w fun e w'=>e = .returned (.tuple #[.float .f64 Y,.int .i64 m])∧w=w':=by
 have hz:=h.nz;have aE:=zdG x w h.lt;rw[h.inf] at aE;have aC:=zc8 x w;rw[h.nan] at aC;have aF:=zdk x w h;have aH:=zem x;have aJ:=h.lt;have f2:=ziS (x/4503599627370496) (by omega);have f0:((x/4503599627370496:Nat):Int)=(x:Int)/4503599627370496:=by omega
 rw[f0] at f2;have hE:x/4503599627370496%2048<2048:=Nat.mod_lt _ (by omega);have f3:wrap64 (((x/4503599627370496%2048:Nat):Int)-1023)=((x/4503599627370496%2048:Nat):Int)-1023:=IntWalk.wrap64_in _ (by omega);have f4:wrap64 (((x/4503599627370496%2048:Nat):Int)-1023+1)=m:=by rw[IntWalk.wrap64_in _ (by omega)];omega
 have f5:wrap64 m=m:=IntWalk.wrap64_in _ (by omega);have f8:wrap64 ((x/4503599627370496%2048:Nat):Int)=((x/4503599627370496%2048:Nat):Int):=IntWalk.wrap64_in _ (by omega);have f6:=zgz x h.lt;obtain⟨k,hk⟩:∃ k:Nat,k=1022:=⟨_,rfl⟩;have f7:=zop x k h.lt (by omega);have f9:((k*4503599627370496:Nat):Int)=4602678819172646912:=by omega
 have aG:x%4503599627370496+x/9223372036854775808*9223372036854775808+k*4503599627370496=Y:=by omega
 rw[aG,f9] at f7;clear hk f9 aG;generalize x%4503599627370496+x/9223372036854775808*9223372036854775808=F at f6 f7;have aD:=zct Y;generalize x/4503599627370496%2048=E at *;have aA:=Aa aE;have HM:Hid ((E:Int)-1023+1=m):=by rw[hm];show(E:Int)-1023+1=(E:Int)-1022;omega
 clear aE hm hY f0;go_enter Tryz.func160,Tryz.ntmps160
 go_wp2_with fail
 refine aA.out.mono ?_;rintro e w1 ⟨rfl,rfl⟩
 go_wp2_with fail
 refine aC.mono ?_;rintro e w1 ⟨rfl,rfl⟩
 go_wp2_with fail
 refine aF.mono ?_;rintro e w1 ⟨rfl,rfl⟩;go_upto_region 7 with fail
 have F6:=Aa f6;have F7:=Aa f7;clear f6 f7 hz aC aF aA aH h aJ;have aI:=Aa aD;clear aD;go_upto_region 8 with fail
 clear f2 f3 f8;have f6:=F6.out;have f7:=F7.out;have aD:=aI.out
 go_wp2_with fail
 go_ret2
 exact⟨by rw[←HM.out];rfl,rfl⟩
theorem zm3(s:Bool){m:Nat}{p:Int}(w:World)(h:Nrm m p) :
  Calls Tryz.prog 160 #[.float .f64 (dw s m p)] w fun e w'=>e = .returned (.tuple #[.float .f64 (dw s m (-53)),.int .i64 (p+53)])∧w=w':=by
 have hN:=zlV s h;obtain⟨F,R,hF,hm,hR,aF,hw⟩:=i_dw s h;obtain⟨F',R',aG,aD,aC,aA,aE⟩:=i_dw (m:=m) (p := -53) s ⟨h.lo,h.hi,by omega,by omega⟩;have hs:s.toNat≤1:=by cases s<;>decide
 exact znF (dw s m p) (dw s m (-53)) (p+53) w hN (by omega) (by omega)
theorem zjh{x r:Nat}{i:Int}(w:World)(h:Calls Tryz.prog 160 #[.float .f64 x] w fun e w'=>e = .returned (.tuple #[.float .f64 r,.int .i64 i])∧w=w') :
  Calls Tryz.prog 109 #[.float .f64 x] w fun e w'=>e = .returned (.tuple #[.float .f64 r,.int .i64 i])∧w=w':=by
 have h2:=Aa h;clear h;go_enter Tryz.func109,Tryz.ntmps109
 go_wp2_with fail
 refine h2.out.mono ?_;rintro e w1 ⟨rfl,rfl⟩
 go_wp2_with fail
 go_ret2
 exact⟨rfl,rfl⟩
theorem zku(x:Nat)(w:World)(hz:(FloatKind.f64.format.order x 0==some .eq)=true) :
  Calls Tryz.prog 160 #[.float .f64 x] w fun e w'=>e = .returned (.tuple #[.float .f64 x,.int .i64 0])∧w=w':=by
 go_enter Tryz.func160,Tryz.ntmps160
 go_wp2_with fail
 go_ret2
 exact⟨rfl,rfl⟩
end
section
open Go.RowKit Bn
theorem zht(z:Int):IntKind.u64.wrap z=z%18446744073709551616:=by
 first | rfl | (unfold IntKind.wrap;rfl) | (unfold IntKind.wrap IntKind.signed IntKind.bits;simp)
theorem zcG(z:Int)(w:World)(h0 : -9223372036854775808≤z)(h1:z<9223372036854775808) :
  Calls Tryz.prog 99 #[.int .i64 z] w (za3 w ⟨decide (z<0),z.natAbs,1⟩):=by
 have aF:Below w.heap.size w (w.alloc (.cells #[.bool false,.slice none 0 0,.slice none 0 0] 91)):=Ac;go_enter Tryz.func99,Tryz.ntmps99
 by_cases hz:z<0
 ·have hd:decide (z<0)=true:=by simpa using hz
  have aJ:IntKind.u64.wrap z=z+18446744073709551616:=by rw[zht];omega
  have aK:IntKind.u64.wrap (-(z+18446744073709551616)) = -z:=by rw[zht];omega
  go_wp2_with fail
  refine(zai (-z) _ (by omega) (by omega)).mono ?_;rintro e w4 ⟨A5,m5,c5,rfl,aG,aC⟩
  go_wp2_with fail
  refine(zai 1 _ (by omega) (by omega)).mono ?_;rintro e w6 ⟨A6,m6,c6,rfl,aI,aE⟩;have hk:=((zae.new w false (.slice none 0 0) (.slice none 0 0)).below aC (by simp)).below aE (by have:=aC.size;simp at this;omega);obtain⟨k0,k1,k2,f0,f1,f2,_⟩:=hk.cells;have aA:=(aF.trans (aC.mono aF.size)).trans (aE.mono (by have:=aC.size;simp at this;omega));have aD:=zan aA (g:=w.heap.size) (Nat.le_refl _) (.bool true) (.slice A5 m5 c5) (.slice A6 m6 c6);have aH:(-z).toNat=z.natAbs:=by omega
  go_wp2
  refine bodyPost_ret (v := .agg #[.bool true,.slice A5 m5 c5,.slice A6 m6 c6]) (by simp[results,Tryz.results99,go_sem,k0,k1,k2]) rfl ⟨_,rfl,⟨A5,m5,c5,A6,m6,c6,by rw[hd],?_,?_⟩,aD⟩
  ·rw[zah];show NatS _ _ A5 m5 c5 z.natAbs;rw[←aH];exact(aG.later aE).res hk _ _ _
  ·rw[zah];exact aI.res hk _ _ _
 ·have hd:decide (z<0)=false:=by simpa using hz
  have aJ:IntKind.u64.wrap z=z:=by rw[zht];omega
  go_wp2_with fail
  refine(zai (z) _ (by omega) (by omega)).mono ?_;rintro e w4 ⟨A5,m5,c5,rfl,aG,aC⟩
  go_wp2_with fail
  refine(zai 1 _ (by omega) (by omega)).mono ?_;rintro e w6 ⟨A6,m6,c6,rfl,aI,aE⟩;have hk:=((zae.new w false (.slice none 0 0) (.slice none 0 0)).below aC (by simp)).below aE (by have:=aC.size;simp at this;omega);obtain⟨k0,k1,k2,f0,f1,f2,_⟩:=hk.cells;have aA:=(aF.trans (aC.mono aF.size)).trans (aE.mono (by have:=aC.size;simp at this;omega));have aD:=zan aA (g:=w.heap.size) (Nat.le_refl _) (.bool false) (.slice A5 m5 c5) (.slice A6 m6 c6);have aH:(z).toNat=z.natAbs:=by omega
  go_wp2
  refine bodyPost_ret (v := .agg #[.bool false,.slice A5 m5 c5,.slice A6 m6 c6]) (by simp[results,Tryz.results99,go_sem,k0,k1,k2]) rfl ⟨_,rfl,⟨A5,m5,c5,A6,m6,c6,by rw[hd],?_,?_⟩,aD⟩
  ·rw[zah];show NatS _ _ A5 m5 c5 z.natAbs;rw[←aH];exact(aG.later aE).res hk _ _ _
  ·rw[zah];exact aI.res hk _ _ _
end
section
open Go.RowKit
open Flt
theorem zoa(s:Bool){n:Nat}{e:Int}(h0:0<n)(h1:n<9007199254740992)(he : -1022≤e+n.log2)(he2:e+n.log2≤1023):Ieee.double.write (.number s n e)=dw s (sg n) (e+n.log2-52):=by
 have hn:=zeB h0 h1 he he2;have hr:=hn.rung;have aA:(2:Nat)^53=9007199254740992:=by decide
 have a3:n.log2<53:=(Nat.log2_lt (by omega)).2 (by omega);show Ieee.double.nearest s n e=_
 rw[zgs Ieee.double s n (52-n.log2) e h0 (by rw[zbp];show max (e+(n.log2:Int)-((52:Nat):Int)) (-1074)=_;omega) (by rw[zbp,zbW,zeO,show e-((52-n.log2:Nat):Int) - -1074=e+n.log2-52+1074 from by omega];exact Nat.le_of_lt hr)];unfold dw sg;rw[zbp,zbW,show e-((52-n.log2:Nat):Int) - -1074=e+n.log2-52+1074 from by omega]
theorem zmT{b m:Nat}{s:Bool}{p:Int}(h:Ieee.single.read b = .number s m p):m<16777216 ∧ -149≤p∧p≤104:=by
 unfold Ieee.Format.read at h;rw[zjm,zdT,zja,zey] at h
 dsimp only at h
 generalize hr:b%2147483648=r at h
 by_cases h1:r<8388608
 ·rw[if_pos h1] at h
  injection h with _ h2 h3
  omega
 ·rw[if_neg h1] at h
  by_cases h2:r<2139095040
  ·rw[if_pos h2] at h
   injection h with _ h3 h4
   omega
  ·rw[if_neg h2] at h
   split at h<;>cases h
theorem zgI{b m r:Nat}{s t:Bool}{e p:Int}{n:Nat}(h:Ieee.single.read b = .number s m e)(hw:Ieee.double.write (.number s m e)=r)(hi:Ieee.double.read r = .number t n p):floatToFloatBits .f32 b .f64=some r:=by
 have h':FloatKind.f32.decode b = .number s m e:=h;have aA:FloatKind.f64.encode (.number s m e)=r:=hw;have aC:FloatKind.f64.decode r = .number t n p:=hi;unfold floatToFloatBits;rw[if_neg (by decide),h'];simp only[aA,aC]
 rfl
theorem zpO{b m:Nat}{s:Bool}{p:Int}(h:Ieee.single.read b = .number s m p)(hm:0<m):floatToFloatBits .f32 b .f64=some (dw s (sg m) (p+m.log2-52))∧Nrm (sg m) (p+m.log2-52)∧m.log2≤23:=by
 have aA:(2:Nat)^24=16777216:=by decide
 obtain⟨h1,h2,h3⟩:=zmT h;have hl:m.log2<24:=(Nat.log2_lt (by omega)).2 (by omega);have hn:=zeB (n:=m) (e:=p) hm (by omega) (by omega) (by omega);exact⟨zgI h (zoa s hm (by omega) (by omega) (by omega)) (zcF s hn),hn,by omega⟩
theorem zj7(s:Bool)(p:Int):Ieee.double.write (.number s 0 p)=Ieee.double.word s 0:=by
 show Ieee.double.nearest s 0 p=_
 unfold Ieee.Format.nearest;rw[if_pos rfl]
theorem zgh(s:Bool):Ieee.double.read (Ieee.double.word s 0) = .number s 0 (-1074):=by
 cases s<;>decide +kernel
theorem zkY{b:Nat}{s:Bool}{p:Int}(h:Ieee.single.read b = .number s 0 p):floatToFloatBits .f32 b .f64=some (Ieee.double.word s 0):=
 zgI h (zj7 s p) (zgh s)
structure Fine (b x:Nat):Prop where
 conv:floatToFloatBits .f32 b .f64=some x
 lt:x<18446744073709551616
 inf:(FloatKind.f64.format.order (absB x) 9218868437227405311==some .gt)=false
 nan:(FloatKind.f64.format.order x x != some .eq)=false
theorem zjz {b m:Nat} {s:Bool} {p:Int} (h:Ieee.single.read b = .number s m p) (hm:0<m):Fine b (dw s (sg m) (p+m.log2-52)):=by
 obtain⟨h1,h2,_⟩:=zpO h hm;have hN:=zlV s h2;exact⟨h1,hN.lt,hN.inf,hN.nan⟩
theorem zhE{b:Nat}{s:Bool}{p:Int}(h:Ieee.single.read b = .number s 0 p):Fine b (Ieee.double.word s 0):=by
 refine⟨zkY h,?_,?_,?_⟩<;>cases s<;>decide +kernel
theorem zdo{b x:Nat}(w:World)(h:Fine b x):Calls Tryz.prog 108 #[.float .f32 b] w fun e w'=>e = .returned (.bool true)∧w=w':=by
 have aD:=fun W:World=>run_convert_float_float (P:=Tryz.prog) W 76 138 .f32 .f64 b x (by kernel_rfl) (by kernel_rfl) h.conv
 have aC:=zc8 x w;rw[h.nan] at aC;have aA:=zdG x w h.lt;rw[h.inf] at aA;have HN:=Aa aC;have HI:=Aa aA;clear aC aA h;go_enter Tryz.func108,Tryz.ntmps108
 go_wp2_with fail
 refine HN.out.mono ?_;rintro e w1 ⟨rfl,rfl⟩
 go_wp2_with fail
 refine HI.out.mono ?_;rintro e w1 ⟨rfl,rfl⟩
 go_wp2_with fail
 go_ret;exact⟨rfl,rfl⟩
theorem zpP(s:Bool){m:Nat}(h:Nrm m (-53)):floatBits .mul .f64 (dw s m (-53)) 4715268809856909312=some (dw s m (-29)):=by
 show(((Ieee.double.read (dw s m (-53))).product (Ieee.double.read 4715268809856909312)).map Ieee.double.write)=_
 have e1:Ieee.double.read 4715268809856909312 = .number false 4503599627370496 (-28):=by decide +kernel
 rw[e1,zcF s h];show some (Ieee.double.write (.number (s ^^ false) (m*4503599627370496) (-53 + -28)))=_
 have e2:m*4503599627370496=m*2^52:=by rfl
 rw[e2,zg8 (s ^^ false) 52 (q := -29) ⟨h.lo,h.hi,by omega,by omega⟩ (by omega)];simp
theorem zgm(s:Bool)(n d:Nat)(hn:0<n):Ieee.Toward.zero.cut s (n*2^d) d=n:=by
 unfold Ieee.Toward.cut;have e:min d ((n*2^d).log2+2)=d:=by rw[zdE n d hn];omega
 have hp:=Nat.two_pow_pos d;simp only[e,Nat.shiftLeft_eq,Nat.one_mul,Nat.mul_div_cancel _ hp]
 rfl
theorem zpD(s:Bool){m:Nat}(h0:0<m)(hl:m.log2≤23)(hm:m<16777216):floatToIntVal .f64 (dw s (sg m) (-29)) .i64=some (Ieee.signed s (m*2^(23-m.log2)) 0)∧m*2^(23-m.log2)<16777216∧0<m*2^(23-m.log2):=by
 have aA:(2:Nat)^24=16777216:=by decide
 have hp:0<m*2^(23-m.log2):=Nat.mul_pos h0 (Nat.two_pow_pos _);have aE:m*2^(23-m.log2)<16777216:=by
  have a2:=(Nat.log2_lt (n:=m) (k:=m.log2+1) (by omega)).1 (by omega);have:=Nat.mul_lt_mul_of_pos_right a2 (Nat.two_pow_pos (23-m.log2));rw[←Nat.pow_add,show m.log2+1+(23-m.log2)=24 from by omega,aA] at this;exact this
 have hn:=zeB (n:=m) (e:=0) h0 (by omega) (by omega) (by omega);have hr:=zcF s (m:=sg m) (p := -29) ⟨hn.lo,hn.hi,by omega,by omega⟩;have aC:sg m=m*2^(23-m.log2)*2^29:=by
  unfold sg;rw[Nat.mul_assoc,←Nat.pow_add,show 23-m.log2+29=52-m.log2 from by omega]
 refine⟨?_,aE,hp⟩;generalize m*2^(23-m.log2)=J at *;have hv:FloatKind.f64.decode (dw s (sg m) (-29)) = .number s (sg m) (-29):=hr;have aD:(FloatKind.f64.decode (dw s (sg m) (-29))).toInt .zero=some (Ieee.signed s J 0):=by
  rw[hv,aC];unfold Ieee.Datum.toInt Ieee.Datum.integral;have e1:(-29:Int).toNat=0:=by decide
  have e2:(- (-29:Int)).toNat=29:=by decide
  simp only[e1,e2,Nat.shiftLeft_zero,zgm s J 29 hp]
 unfold floatToIntVal;rw[aD];have hb:IntKind.i64.min≤Ieee.signed s J 0∧Ieee.signed s J 0≤IntKind.i64.max:=by
  have h1:IntKind.i64.min = -9223372036854775808:=by decide
  have h2:IntKind.i64.max=9223372036854775807:=by decide
  rw[h1,h2];unfold Ieee.signed;rw[Nat.shiftLeft_zero]
  split<;>omega
 simp only[hb,and_self,if_true]
theorem ziw(s:Bool):floatBits .mul .f64 (Ieee.double.word s 0) 4715268809856909312=some (Ieee.double.word s 0):=by cases s<;>decide +kernel
theorem zog(s:Bool):floatToIntVal .f64 (Ieee.double.word s 0) .i64=some 0:=by cases s<;>decide +kernel
theorem zoI(s:Bool):(FloatKind.f64.format.order (Ieee.double.word s 0) 0==some .eq)=true:=by cases s<;>decide +kernel
end
section
open Go.RowKit Bn
open Flt
structure Parts (b x y y2:Nat) (i z:Int):Prop where
 fine:Fine b x
 frx:∀ W:World,Calls Tryz.prog 109 #[.float .f64 x] W fun e w'=>e = .returned (.tuple #[.float .f64 y,.int .i64 i])∧W=w'
 mul:floatBits .mul .f64 y 4715268809856909312=some y2
 int:floatToIntVal .f64 y2 .i64=some z
 z0 : -16777216<z
 z1:z<16777216
 i0 : -1000≤i
 i1:i≤1000
theorem ziB(g:Bool)(t b:Nat):(lowQ g t b).top≤t:=by
 unfold lowQ;split
 ·exact Nat.zero_le _
 ·split
  ·exact Nat.zero_le _
  ·exact Nat.div_le_self _ _
theorem zi8(g:Bool)(t b:Nat):(lowQ g t b).bot≤b+1:=by
 unfold lowQ;split
 ·exact Nat.zero_le _
 ·split
  ·show 1≤_;omega
  ·exact Nat.le_trans (Nat.div_le_self _ _) (Nat.le_succ _)
theorem zej{x s k:Nat}(h:x≤2^s)(hk:s<64*k):(digs x).length≤k:=by
 refine zab ?_;have e:B^k=2^(64*k):=by rw[Nat.pow_mul];rfl
 rw[e];exact Nat.lt_of_le_of_lt h (Nat.pow_lt_pow_right (by omega) hk)
theorem zbT{x:Nat}(h:x≤16777216):(digs x).length≤1:=zab (k:=1) (by rw[zdi];omega)
theorem zgK {b x y y2:Nat} {i z:Int} (w:World) (hT:Tabs w) (h:Parts b x y y2 i z) (hi:i<24) :
  Calls Tryz.prog 56 #[.float .f32 b] w (zb5 w (zbx (lowQ (decide (z<0)) z.natAbs (2^(24-i).toNat))) (zaC (lowQ (decide (z<0)) z.natAbs (2^(24-i).toNat)))):=by
 have aW:=fun W:World=>run_convert_float_float (P:=Tryz.prog) W 76 138 .f32 .f64 b x (by kernel_rfl) (by kernel_rfl) h.fine.conv
 have aG:=zdo w h.fine;have aU:=fun W:World=>run_float_arith (P:=Tryz.prog) W .mul 138 .f64 y 4715268809856909312 y2 h.mul
 have aS:=fun W:World=>run_convert_float_int (P:=Tryz.prog) W 138 3 .f64 .i64 y2 z (by kernel_rfl) (by kernel_rfl) h.int
 obtain⟨_,aM,_,_,z0,z1,i0,i1⟩:=h;have w1:wrap64 (i-24)=i-24:=IntWalk.wrap64_in _ (by omega);have w2:wrap64 (-(i-24)) = -(i-24):=IntWalk.wrap64_in _ (by omega);obtain⟨s,hs⟩:∃ s:Nat,(24-i).toNat=s∧i=24-(s:Int):=⟨(24-i).toNat,rfl,by omega⟩;have aT:s≤2000:=by omega
 have aV:max (i-24) (-(i-24))=(s:Int):=by omega
 rw[hs.1];have HI:=Aa aG;have aO:=Aa aM;have HS:=Aa hs;clear aG aM hs;go_enter Tryz.func56,Tryz.ntmps56
 go_wp2_with fail
 refine HI.out.mono ?_;rintro e w0 ⟨rfl,rfl⟩
 go_wp2_with fail
 refine(aO.out _).mono ?_;rintro e w0 ⟨rfl,rfl⟩
 go_wp2_with fail
 refine(zcG z _ (by omega) (by omega)).mono ?_;rintro e wa ⟨v,rfl,⟨A,n,c,A',n',c',rfl,h1,h2⟩,hb⟩;have aF:Below wa.heap.size wa (wa.alloc (.cells #[.bool (decide (z<0)),.slice A n c,.slice A' n' c'] 91)):=Ac
 go_wp2_with fail
 refine(zai 1 _ (by omega) (by omega)).mono ?_;rintro e wc ⟨A3,n3,c3,rfl,h3,aA⟩
 go_wp2_with fail
 have aH:NatS wc wc.heap.size A3 n3 c3 1:=h3;have l3:n3≤1:=by rw[←aH.len];exact zbT (by omega)
 have lz:z.natAbs≤16777216:=by omega
 have l1:n≤1:=by rw[←h1.len];exact zbT lz
 refine(zaw A3 n3 c3 1 s wc aH (by omega) (by omega)).mono ?_;rintro e wd ⟨A4,n4,c4,rfl,h4,aC⟩;rw[Nat.one_mul] at h4;have l4:n4≤64:=by rw[←h4.len];exact zej (Nat.le_refl _) (by omega)
 have aR:wa.heap.size<wc.heap.size:=by have:=aA.size;simp at this;omega
 have aN:zae wd wa.heap.size (decide (z<0)) (.slice A n c) (.slice A' n' c'):=((zae.new wa _ _ _).below aA (by simp)).below aC aR;have aK:Tabs wd:=(((hT.later hb).later aF).later aA).later aC;have aE:Below w.heap.size w wd:=(((hb.trans (aF.mono hb.size)).trans (aA.mono (by have:=hb.size;simp;omega)))).trans (aC.mono (by have:=hb.size;omega));have aJ:=zbF (decide (z<0)) A A4 n c n4 c4 z.natAbs (2^s) wd aK (((h1.later aF).later aA).later aC) h4 (by omega) (by omega);have lt:=ziB (decide (z<0)) z.natAbs (2^s);have lb:=zi8 (decide (z<0)) z.natAbs (2^s);have k1:(digs (lowQ (decide (z<0)) z.natAbs (2^s)).top).length≤1:=zbT (by omega);have k2:(digs (lowQ (decide (z<0)) z.natAbs (2^s)).bot).length≤64:=zej (s:=s+1) (by have:=Nat.two_pow_pos s;rw[Nat.pow_succ];omega) (by omega);generalize lowQ (decide (z<0)) z.natAbs (2^s)=q at *;obtain⟨x0,x1,x2,_,_,_,xl⟩:=aN.cells;have aL:=Aa aJ;clear aJ
 go_wp2_with fail
 refine aL.out.mono ?_;rintro e we ⟨v,rfl,⟨A5,n5,c5,A6,n6,c6,rfl,h5,h6⟩,aD⟩;have aI:=zfF q A5 A6 n5 c5 n6 c6 we (aK.later aD) h5 h6 (by rw[←h5.len];omega) (by rw[←h6.len];omega);have aQ:=Aa aI;clear aI aL
 go_wp2_with fail
 refine aQ.out.mono ?_;rintro e wf ⟨S,rfl,hS,aP⟩
 go_wp2_with fail
 go_ret2
 exact⟨S,rfl,hS,(aE.trans (aD.mono aE.size)).trans (aP.mono (by have:=aE.size;have:=aD.size;omega))⟩
theorem znX{b x y y2:Nat}{i z:Int}(w:World)(hT:Tabs w)(h:Parts b x y y2 i z)(hi:24≤i) :
  Calls Tryz.prog 56 #[.float .f32 b] w (zb5 w (zbx ⟨decide (z<0),z.natAbs*2^(i-24).toNat,1⟩) (zaC ⟨decide (z<0),z.natAbs*2^(i-24).toNat,1⟩)):=by
 have bB:=fun W:World=>run_convert_float_float (P:=Tryz.prog) W 76 138 .f32 .f64 b x (by kernel_rfl) (by kernel_rfl) h.fine.conv
 have aM:=zdo w h.fine;have aZ:=fun W:World=>run_float_arith (P:=Tryz.prog) W .mul 138 .f64 y 4715268809856909312 y2 h.mul
 have aX:=fun W:World=>run_convert_float_int (P:=Tryz.prog) W 138 3 .f64 .i64 y2 z (by kernel_rfl) (by kernel_rfl) h.int
 obtain⟨_,aQ,_,_,z0,z1,i0,i1⟩:=h;have w1:wrap64 (i-24)=i-24:=IntWalk.wrap64_in _ (by omega);have w2:wrap64 (-(i-24)) = -(i-24):=IntWalk.wrap64_in _ (by omega);obtain⟨s,hs⟩:∃ s:Nat,(i-24).toNat=s∧i=24+(s:Int):=⟨(i-24).toNat,rfl,by omega⟩;have aY:s≤2000:=by omega
 have bA:max (i-24) (-(i-24))=(s:Int):=by omega
 rw[hs.1];have HI:=Aa aM;have aT:=Aa aQ;have HS:=Aa hs;clear aM aQ hs;go_enter Tryz.func56,Tryz.ntmps56
 go_wp2_with fail
 refine HI.out.mono ?_;rintro e w0 ⟨rfl,rfl⟩
 go_wp2_with fail
 refine(aT.out _).mono ?_;rintro e w0 ⟨rfl,rfl⟩
 go_wp2_with fail
 refine(zcG z _ (by omega) (by omega)).mono ?_;rintro e wa ⟨v,rfl,⟨A,n,c,A',n',c',rfl,h1,h2⟩,hb⟩;have aK:Below wa.heap.size wa (wa.alloc (.cells #[.bool (decide (z<0)),.slice A n c,.slice A' n' c'] 91)):=Ac
 go_wp2_with fail
 refine(zai 1 _ (by omega) (by omega)).mono ?_;rintro e wc ⟨A3,n3,c3,rfl,h3,aF⟩
 go_wp2_with fail
 have aN:NatS wc wc.heap.size A3 n3 c3 1:=h3;have l3:n3≤1:=by rw[←aN.len];exact zbT (by omega)
 have lz:z.natAbs≤16777216:=by omega
 have l1:n≤1:=by rw[←h1.len];exact zbT lz
 refine(zaw A3 n3 c3 1 s wc aN (by omega) (by omega)).mono ?_;rintro e wd ⟨A4,n4,c4,rfl,h4,aG⟩;rw[Nat.one_mul] at h4;have l4:n4≤64:=by rw[←h4.len];exact zej (Nat.le_refl _) (by omega)
 have aW:wa.heap.size<wc.heap.size:=by have:=aF.size;simp at this;omega
 have aS:zae wd wa.heap.size (decide (z<0)) (.slice A n c) (.slice A' n' c'):=((zae.new wa _ _ _).below aF (by simp)).below aG aW;have aU:Tabs wd:=(((hT.later hb).later aK).later aF).later aG;have aR:Below w.heap.size w wd:=(((hb.trans (aK.mono hb.size)).trans (aF.mono (by have:=hb.size;simp;omega)))).trans (aG.mono (by have:=hb.size;omega));have aP:=zaI A A4 n c n4 c4 z.natAbs (2^s) wd.drew ((((h1.later aK).later aF).later aG).later (Below.refl _ _).drew) (h4.later (Below.refl _ _).drew) (by omega) (by omega);have aD:Below w.heap.size w wd.drew:=aR.drew;have aJ:Tabs wd.drew:=aU.later (Below.refl _ _).drew;obtain⟨x0,x1,x2,_,_,_,xl⟩:=aS.cells;have aV:=Aa aP;clear aP
 go_wp2_with fail
 go_region_held3 (fun w'=>w'.cell? ⟨wa.heap.size,0,none⟩=some (.bool (decide (z<0)))∧w'.cell? ⟨wa.heap.size,1,none⟩=some (.slice A n c))
  ((first | exact⟨x0,x1⟩ | exact⟨((aA.cell (p:=⟨wa.heap.size,0,none⟩) xl).trans x0),((aA.cell (p:=⟨wa.heap.size,1,none⟩) xl).trans x1)⟩ | exact⟨((aC.cell (p:=⟨wa.heap.size,0,none⟩) aE).trans ((aA.cell (p:=⟨wa.heap.size,0,none⟩) xl).trans x0)),((aC.cell (p:=⟨wa.heap.size,1,none⟩) aE).trans ((aA.cell (p:=⟨wa.heap.size,1,none⟩) xl).trans x1))⟩ | exact⟨((aI.cell (p:=⟨wa.heap.size,0,none⟩) aL).trans ((aC.cell (p:=⟨wa.heap.size,0,none⟩) aE).trans ((aA.cell (p:=⟨wa.heap.size,0,none⟩) xl).trans x0))),((aI.cell (p:=⟨wa.heap.size,1,none⟩) aL).trans ((aC.cell (p:=⟨wa.heap.size,1,none⟩) aE).trans ((aA.cell (p:=⟨wa.heap.size,1,none⟩) xl).trans x1)))⟩))
  (first
   |(go_at_call 113;refine(aV.out).mono ?_;rintro e w5 ⟨A5,m5,c5,rfl,aO,aA⟩;have aE:=Nat.lt_of_lt_of_le xl aA.size)
   |(go_at_call 110;refine(zai 1 w5 (by omega) (by omega)).mono ?_;rintro e w6 ⟨A6,m6,c6,rfl,aH,aC⟩;have aL:=Nat.lt_of_lt_of_le aE aC.size)
   |(go_at_call 65;refine(zfF ⟨decide (z<0),z.natAbs*2^s,1⟩ A5 A6 m5 c5 m6 c6 w6 ((aJ.later aA).later aC) (aO.later aC) aH (by have:=zdD aO (Nat.le_of_eq h1.len) (Nat.le_of_eq h4.len);omega) (by have:=aH.len;have:=zbT (x:=1) (by omega);have e1:Int.toNat 1=1:=rfl;rw[←aH.len,e1];omega)).mono ?_;rintro e w7 ⟨S,rfl,hS,aI⟩))
 go_wp2_with fail
 go_ret2
 exact⟨S,rfl,hS,((aD.trans (aA.mono aD.size)).trans (aC.mono (by have:=aD.size;have:=aA.size;omega))).trans (aI.mono (by have:=aD.size;have:=aA.size;have:=aC.size;omega))⟩
def exQ (b:Nat):Q:=
 match Ieee.single.read b with
 | .number s m p=>if m=0 then⟨false,0,1⟩ else if p+m.log2<23 then lowQ s (m*2^(23-m.log2)) (2^(23-(p+m.log2)).toNat) else⟨s,m*2^(23-m.log2)*2^(p+m.log2-23).toNat,1⟩
 | _=>⟨false,0,1⟩
theorem zmi{b m:Nat}{s:Bool}{p:Int}(h:Ieee.single.read b = .number s m p)(hm:0<m) :
  Parts b (dw s (sg m) (p+m.log2-52)) (dw s (sg m) (-53)) (dw s (sg m) (-29)) (p+m.log2+1) (Ieee.signed s (m*2^(23-m.log2)) 0) ∧
   decide (Ieee.signed s (m*2^(23-m.log2)) 0<0)=s∧(Ieee.signed s (m*2^(23-m.log2)) 0).natAbs=m*2^(23-m.log2):=by
 obtain⟨_,hn,hl⟩:=zpO h hm;obtain⟨h1,h2,h3⟩:=zmT h;obtain⟨hi,hj,hp⟩:=zpD s hm hl h1;have hf:∀ W:World,Calls Tryz.prog 109 #[.float .f64 (dw s (sg m) (p+m.log2-52))] W fun e w'=>e = .returned (.tuple #[.float .f64 (dw s (sg m) (-53)),.int .i64 (p+m.log2+1)])∧W=w':=by
  intro W;have:=zjh W (zm3 s W hn);rw[show p+(m.log2:Int)-52+53=p+m.log2+1 from by omega] at this;exact this
 have aC:=zpP s (m:=sg m) ⟨hn.lo,hn.hi,by omega,by omega⟩;have aA:=zjz h hm;generalize m*2^(23-m.log2)=J at *;have hv:Ieee.signed s J 0=if s then -(J:Int) else(J:Int):=by unfold Ieee.signed;rw[Nat.shiftLeft_zero]
 have hb : -16777216<Ieee.signed s J 0∧Ieee.signed s J 0<16777216:=by rw[hv];split<;>omega
 refine⟨⟨aA,hf,aC,hi,hb.1,hb.2,by omega,by omega⟩,?_,?_⟩
 ·rw[hv];cases s
  ·exact decide_eq_false (by rw[if_neg (by decide)];omega)
  ·exact decide_eq_true (by rw[if_pos rfl];omega)
 ·rw[hv];split<;>omega
theorem zjU{b:Nat}{s:Bool}{p:Int}(h:Ieee.single.read b = .number s 0 p) :
  Parts b (Ieee.double.word s 0) (Ieee.double.word s 0) (Ieee.double.word s 0) 0 0:=
 ⟨zhE h,fun W=>zjh W (zku _ W (zoI s)),ziw s,zog s,by omega,by omega,by omega,by omega⟩
theorem zk0 {b m:Nat} {s:Bool} {p:Int} (w:World) (hT:Tabs w) (h:Ieee.single.read b = .number s m p) :
  Calls Tryz.prog 56 #[.float .f32 b] w (zb5 w (zbx (exQ b)) (zaC (exQ b))):=by
 unfold exQ;rw[h]
 dsimp only
 by_cases hm:m=0
 ·subst hm
  have:=zgK w hT (zjU h) (by omega);rw[if_pos rfl];have e:lowQ (decide ((0:Int)<0)) (0:Int).natAbs (2^(24-0:Int).toNat)=⟨false,0,1⟩:=by
   unfold lowQ;rw[if_neg (by have:=Nat.two_pow_pos (24-0:Int).toNat;omega),if_pos (by rfl)]
  rw[e] at this;exact this
 ·rw[if_neg hm]
  obtain⟨hP,hs,hz⟩:=zmi h (by omega)
  by_cases hc:p+m.log2<23
  ·have:=zgK w hT hP (by omega)
   rw[hs,hz,show(24-(p+(m.log2:Int)+1))=23-(p+m.log2) from by omega] at this;rw[if_pos hc];exact this
  ·have:=znX w hT hP (by omega)
   rw[hs,hz,show(p+(m.log2:Int)+1-24)=p+m.log2-23 from by omega] at this;rw[if_neg hc];exact this
theorem zh9{b x:Nat}(w:World)(hc:floatToFloatBits .f32 b .f64=some x)(hx:x<18446744073709551616)
 (hn:(FloatKind.f64.format.order x x != some .eq)=false)(hi:(FloatKind.f64.format.order (absB x) 9218868437227405311==some .gt)=true) :
  Calls Tryz.prog 108 #[.float .f32 b] w fun e w'=>e = .returned (.bool false)∧w=w':=by
 have aD:=fun W:World=>run_convert_float_float (P:=Tryz.prog) W 76 138 .f32 .f64 b x (by kernel_rfl) (by kernel_rfl) hc
 have aC:=zc8 x w;rw[hn] at aC;have aA:=zdG x w hx;rw[hi] at aA;have HN:=Aa aC;have HI:=Aa aA;clear aC aA hn hi hc;go_enter Tryz.func108,Tryz.ntmps108
 go_wp2_with fail
 refine HN.out.mono ?_;rintro e w1 ⟨rfl,rfl⟩
 go_wp2_with fail
 refine HI.out.mono ?_;rintro e w1 ⟨rfl,rfl⟩
 go_wp2_with fail
 go_ret;exact⟨rfl,rfl⟩
theorem zn8(s:Bool){b:Nat}(h:Ieee.single.read b = .infinity s)(w:World):Calls Tryz.prog 108 #[.float .f32 b] w fun e w'=>e = .returned (.bool false)∧w=w':=by
 refine zh9 (x:=Ieee.double.word s 9218868437227405312) w ?_ ?_ ?_ ?_
 ·have h':FloatKind.f32.decode b = .infinity s:=h
  unfold floatToFloatBits;rw[if_neg (by decide),h'];show some (Ieee.double.word s Ieee.double.infRung)=_
  rw[zeO]
 ·cases s<;>decide +kernel
 ·cases s<;>decide +kernel
 ·cases s<;>decide +kernel
end
end Go.Proofs.YtmkondcdejlhcaaGreatDoor
