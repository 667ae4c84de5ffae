/- Plain mathematics: doubles that hold a number of few bits exactly, and their nearest singles. No program. -/
import Derived.Test.YtbkgkoenppkhpaaGreatDoorGRtx
import Derived.Test.YtbkgkoenppkhpaaGreatDoorGRat1
import Derived.Test.YtbkgkoenppkhpaaGreatDoorGDiv4
set_option maxRecDepth 100000
set_option maxHeartbeats 4000000
namespace Go.Proofs.YtbkgkoenppkhpaaGreatDoor.Flt
open Ieee
theorem zdA (n k:Nat) (hn:0<n):(n*2 ^ k).log2=n.log2+k:=by
 have h1:=(Nat.le_log2 (n:=n) (k:=n.log2) (by omega)).1 (Nat.le_refl _);have h2:=(Nat.log2_lt (n:=n) (k:=n.log2+1) (by omega)).1 (by omega);have hp:0<n*2 ^ k:=Nat.mul_pos hn (Nat.two_pow_pos _);have a1:n.log2+k≤(n*2 ^ k).log2:=(Nat.le_log2 (by omega)).2 (by rw [Nat.pow_add];exact Nat.mul_le_mul_right _ h1);have a2:(n*2 ^ k).log2<n.log2+1+k:=(Nat.log2_lt (by omega)).2 (by rw [Nat.pow_add];exact Nat.mul_lt_mul_of_pos_right h2 (Nat.two_pow_pos _));omega
theorem zlh {n k:Nat} (h1:2 ^ k≤n) (h2:n<2 ^ (k+1)):n.log2=k:=by
 have hn:0<n:=Nat.lt_of_lt_of_le (Nat.two_pow_pos _) h1;have a1:=(Nat.le_log2 (n:=n) (k:=k) (by omega)).2 h1;have a2:=(Nat.log2_lt (n:=n) (k:=k+1) (by omega)).2 h2;omega
theorem zhD (s:Bool) (n d:Nat):Toward.even.cut s (n*2 ^ d) d=n:=by
 unfold Toward.cut
 rcases Nat.eq_zero_or_pos n with rfl | hn
 ·simp [Nat.shiftLeft_eq]
 ·have e:min d ((n*2 ^ d).log2+2)=d:=by rw [zdA n d hn];omega
  have hp:=Nat.two_pow_pos d;simp only [e,Nat.shiftLeft_eq,Nat.one_mul,Nat.mul_mod_left,Nat.mul_div_cancel _ hp]
  have h1:¬ 2 ^ d<2*0:=by omega
  have h2:(2 ^ d==2*0)=false:=by simp;
  simp [h1,h2]
theorem zfb (f:Format) (s:Bool) (m k:Nat) (p:Int) (hm:0<m) (hl:max (p+k+m.log2 - f.fractionBits) f.leastPlace=p+k) (hr:(p+k - f.leastPlace).toNat*f.binade+m≤f.infRung) :
  f.nearest s (m*2 ^ k) p=f.word s ((p+k - f.leastPlace).toNat*f.binade+m):=by
 unfold Format.nearest;have hp:0<m*2 ^ k:=Nat.mul_pos hm (Nat.two_pow_pos _);rw [if_neg (by omega)];have e1:max (p+((m*2 ^ k).log2:Nat) - f.fractionBits) f.leastPlace=p+k:=by
  rw [zdA m k hm,←hl];congr 1;push_cast;omega
 simp only [e1]
 have e2:(p - (p+(k:Int))).toNat=0:=by omega
 have e3:(p+(k:Int) - p).toNat=k:=by omega
 rw [e2,e3,Nat.shiftLeft_zero,zhD,Nat.min_eq_left hr]
theorem zgI (f:Format) (s:Bool) (m k:Nat) (p:Int) (hm:0<m) (hl:max (p+m.log2 - f.fractionBits) f.leastPlace=p - k) (hr:(p - k - f.leastPlace).toNat*f.binade+m*2 ^ k≤f.infRung) :
  f.nearest s m p=f.word s ((p - k - f.leastPlace).toNat*f.binade+m*2 ^ k):=by
 unfold Format.nearest;rw [if_neg (by omega)];simp only [hl]
 have e2:(p - (p - (k:Int))).toNat=k:=by omega
 have e3:(p - (k:Int) - p).toNat=0:=by omega
 have e4:=zhD s (m*2 ^ k) 0;rw [Nat.pow_zero,Nat.mul_one] at e4;rw [e2,e3,Nat.shiftLeft_eq,e4,Nat.min_eq_left hr]
theorem zbf:double.leastPlace = -1074:=by decide
theorem zbN:double.binade=4503599627370496:=by decide
theorem ze7:double.infRung=9218868437227405312:=by decide
theorem zhj:double.signWeight=9223372036854775808:=by decide
theorem zeF:single.leastPlace = -149:=by decide
theorem zdX:single.binade=8388608:=by decide
theorem zip:single.infRung=2139095040:=by decide
theorem zjb:single.signWeight=2147483648:=by decide
def dw (s:Bool) (m:Nat) (p:Int):Nat:=double.word s ((p+1074).toNat*4503599627370496+m)
structure Nrm (m:Nat) (p:Int):Prop where
 lo:4503599627370496≤m
 hi:m<9007199254740992
 p0 : -1074≤p
 p1:p≤971
theorem Nrm.log2 {m:Nat} {p:Int} (h:Nrm m p):m.log2=52:=by
 have e:(2:Nat) ^ 52=4503599627370496:=by decide
 have e':(2:Nat) ^ (52+1)=9007199254740992:=by decide
 have h1:=h.lo;have h2:=h.hi;rw [←e] at h1;rw [←e'] at h2;exact zlh h1 h2
theorem Nrm.rung {m:Nat} {p:Int} (h:Nrm m p):(p+1074).toNat*4503599627370496+m<9218868437227405312:=by
 have:=h.hi;have:=h.p0;have:=h.p1;omega
theorem zcj (s:Bool) {m:Nat} {p:Int} (h:Nrm m p):double.read (dw s m p) = .number s m p:=by
 have hr:=h.rung;have aC:=h.lo;have aA:=h.hi;have hp:=h.p0;unfold dw Format.word Format.read;rw [zhj,zbN,ze7,zbf];generalize hR:(p+1074).toNat*4503599627370496+m=R at hr;have e1:(if s=true then 9223372036854775808+R else R) % 9223372036854775808=R:=by split<;>omega
 have e2:((if s=true then 9223372036854775808+R else R) / 9223372036854775808 % 2==1)=s:=by
  cases s
  ·simp;omega
  ·simp;omega
 simp only [e1,e2]
 rw [if_neg (by omega),if_pos hr]
 congr 1
 ·omega
 ·have:R / 4503599627370496 - 1=(p+1074).toNat:=by omega
  rw [this];omega
theorem zgY (s:Bool) {m:Nat} (k:Nat) {p q:Int} (h:Nrm m q) (hq:p+k=q):double.write (.number s (m*2 ^ k) p)=dw s m q:=by
 have hr:=h.rung;have aA:=h.lo;have hp:=h.p0;subst hq;show double.nearest s (m*2 ^ k) p=_
 rw [zfb double s m k p (by omega) (by rw [h.log2,zbf];show max (p+k+((52:Nat):Int) - ((52:Nat):Int)) (-1074)=p+k;omega) (by rw [zbf,zbN,ze7];rw [show p+(k:Int) - -1074=p+k+1074 from by omega];omega)];unfold dw;rw [zbf,zbN,show p+(k:Int) - -1074=p+k+1074 from by omega]
theorem one_mul (s:Bool) {m:Nat} {p:Int} (h:Nrm m p):floatBits .mul .f64 4607182418800017408 (dw s m p)=some (dw s m p):=by
 show (((double.read 4607182418800017408).product (double.read (dw s m p))).map double.write)=_
 have e1:double.read 4607182418800017408 = .number false 4503599627370496 (-52):=by decide +kernel
 rw [e1,zcj s h];show some (double.write (.number (false ^^ s) (4503599627370496*m) (-52+p)))=_
 have e2:4503599627370496*m=m*2 ^ 52:=by rw [Nat.mul_comm]
 rw [e2,zgY (false ^^ s) 52 h (by omega)];simp
theorem zm1 {m:Nat} {p:Int} (h:Nrm m p):floatBits .sub .f64 0 (dw false m p)=some (dw true m p):=by
 show (((double.read 0).sum (double.read (dw false m p)).opposite).map double.write)=_
 have e1:double.read 0 = .number false 0 (-1074):=by decide +kernel
 have hp:=h.p0;have aC:=h.lo;rw [e1,zcj false h];have e2:min (-1074) p = -1074:=by omega
 have e3:(Ieee.signed false 0 (-1074 - -1074:Int).toNat+Ieee.signed true m (p - -1074).toNat) = -((m*2 ^ (p+1074).toNat:Nat):Int):=by
  unfold Ieee.signed;rw [Nat.shiftLeft_eq,Nat.shiftLeft_eq,show p - -1074=p+1074 from by omega];simp
 have aA:0<m*2 ^ (p+1074).toNat:=Nat.mul_pos (by omega) (Nat.two_pow_pos _);show (some (double.write _))=_
 simp only [e2,Bool.not_false,e3]
 generalize hM:m*2 ^ (p+1074).toNat=M at aA;have e4:(-(M:Int))≠0:=by omega
 have e5 : -(M:Int)<0:=by omega
 have e6:(-(M:Int)).natAbs=M:=by omega
 rw [if_neg e4,e6,decide_eq_true e5];rw [←hM,zgY true _ h (by omega)]
theorem zg0:floatBits .sub .f64 0 0=some 0:=by decide +kernel
def sg (n:Nat):Nat:=n*2 ^ (52 - n.log2)
theorem zem {n:Nat} {e:Int} (h0:0<n) (h1:n<9007199254740992) (he : -1022≤e+n.log2) (he2:e+n.log2≤1023):Nrm (sg n) (e+n.log2 - 52):=by
 have a1:=(Nat.le_log2 (n:=n) (k:=n.log2) (by omega)).1 (Nat.le_refl _);have a2:=(Nat.log2_lt (n:=n) (k:=n.log2+1) (by omega)).1 (by omega);have aA:(2:Nat) ^ 53=9007199254740992:=by decide
 have a3:n.log2<53:=(Nat.log2_lt (by omega)).2 (by omega);have aC:(2:Nat) ^ 52=4503599627370496:=by decide
 refine ⟨?_,?_,by omega,by omega⟩
 ·rw [←aC,show 52=n.log2+(52 - n.log2) from by omega,Nat.pow_add]
  exact Nat.mul_le_mul_right _ (by simpa using a1)
 ·rw [←aA,show 53=n.log2+1+(52 - n.log2) from by omega,Nat.pow_add]
  exact Nat.mul_lt_mul_of_pos_right a2 (Nat.two_pow_pos _)
def dn (n:Nat) (e:Int):Nat:=dw false (sg n) (e+n.log2 - 52)
theorem znt {n:Nat} {e:Int} (h0:0<n) (h1:n<9007199254740992) (he : -1022≤e+n.log2) (he2:e+n.log2≤1023):double.write (.number false n e)=dn n e:=by
 have hn:=zem h0 h1 he he2;have hr:=hn.rung;have aA:(2:Nat) ^ 53=9007199254740992:=by decide
 have a3:n.log2<53:=(Nat.log2_lt (by omega)).2 (by omega);show double.nearest false n e=_
 rw [zgI double false n (52 - n.log2) e h0 (by rw [zbf];show max (e+(n.log2:Int) - ((52:Nat):Int)) (-1074)=_;omega) (by rw [zbf,zbN,ze7,show e - ((52 - n.log2:Nat):Int) - -1074=e+n.log2 - 52+1074 from by omega];exact Nat.le_of_lt hr)];unfold dn dw sg;rw [zbf,zbN,show e - ((52 - n.log2:Nat):Int) - -1074=e+n.log2 - 52+1074 from by omega]
theorem zmE {n:Nat} (h0:0<n) (h1:n<9007199254740992):floatOfInt .f64 (n:Int)=dn n 0:=by
 have aA:(2:Nat) ^ 53=9007199254740992:=by decide
 have a3:n.log2<53:=(Nat.log2_lt (by omega)).2 (by omega);rw [←znt h0 h1 (e:=0) (by omega) (by omega)];unfold floatOfInt FloatKind.nearest FloatKind.encode;simp [show ¬ (n:Int)<0 from by omega]
 rfl
theorem zim {n:Nat} {e:Int} (h0:0<n) (h1:n<9007199254740992) (he : -1022≤e+n.log2) (he2:e+n.log2≤1023):double.read (dn n e) = .number false (sg n) (e+n.log2 - 52):=
 zcj false (zem h0 h1 he he2)
set_option maxHeartbeats 20000
theorem za3 {f:Format} {b m:Nat} {s:Bool} {p:Int} (h:f.read b = .number s m p):fin f b=true:=by
 unfold fin;rw [h]
theorem zbb {f:Format} {b m:Nat} {p:Int} (h:f.read b = .number false m p):key f b=((m*2 ^ (p - f.leastPlace).toNat:Nat):Int):=by
 unfold key;rw [h]
 simp only [Ieee.signed,Nat.shiftLeft_eq]
 simp
theorem zjr {n:Nat} {e:Int} (h0:0<n) (h1:n<9007199254740992) (he : -1022≤e+n.log2) (he2:e+n.log2≤1023):fin double (dn n e)=true:=
 za3 (zim h0 h1 he he2)
theorem zi3 {n:Nat} {e:Int} (h0:0<n) (h1:n<9007199254740992) (he : -1022≤e+n.log2) (he2:e+n.log2≤1023) (hz : -1074≤e):key double (dn n e)=((n*2 ^ (e+1074).toNat:Nat):Int):=by
 have aA:(2:Nat) ^ 53=9007199254740992:=by decide
 have a3:n.log2<53:=(Nat.log2_lt (by omega)).2 (by omega);rw [zbb (zim h0 h1 he he2),zbf];unfold sg;generalize hl:n.log2=l at *;rw [Nat.mul_assoc,←Nat.pow_add,show 52 - l+(e+(l:Int) - 52 - -1074).toNat=(e+1074).toNat from by omega]
def rung (n:Nat) (e:Int):Nat:=(e+149).toNat*8388608+n
structure Rnd (n:Nat) (e:Int):Prop where
 place : -149≤e
 hi:n≤16777216
 lo:e = -149∨8388608≤n
theorem Rnd.log2 {n:Nat} {e:Int} (h:Rnd n e) (h0:0<n):n.log2≤24∧(n.log2=24→n=16777216)∧(e ≠ -149→23≤n.log2):=by
 have hh:=h.hi;have aE:(2:Nat) ^ 25=33554432:=by decide
 have aC:(2:Nat) ^ 23=8388608:=by decide
 have aD:(2:Nat) ^ 24=16777216:=by decide
 refine ⟨?_,?_,?_⟩
 ·have:n.log2<25:=(Nat.log2_lt (by omega)).2 (by omega)
  omega
 ·intro hl
  have a1:=(Nat.le_log2 (n:=n) (k:=n.log2) (by omega)).1 (Nat.le_refl _);rw [hl] at a1;omega
 ·intro aA
  rcases h.lo with hl | hl
  ·exact absurd hl aA
  ·exact (Nat.le_log2 (by omega)).2 (by omega)
theorem zoA (n d t:Nat) (h:n≤16777216) (hl:t<d→8388608≤n):2 ^ (24+t)≤n*2 ^ d↔(t<d∨(t=d∧n=16777216)):=by
 have aC:(2:Nat) ^ 24=16777216:=by decide
 have aA:(2:Nat) ^ 23=8388608:=by decide
 rcases Nat.lt_trichotomy d t with h1 | h1 | h1
 ·have hx:n*2 ^ d<2 ^ (24+t):=by
   rw [show 24+t=25+(t - 1) from by omega,Nat.pow_add];refine Nat.lt_of_le_of_lt (Nat.mul_le_mul_left n (Nat.pow_le_pow_right (by omega) (show d≤t - 1 by omega))) (Nat.mul_lt_mul_of_pos_right ?_ (Nat.two_pow_pos _));have aD:(2:Nat) ^ 25=33554432:=by decide
   omega
  constructor
  ·intro h;exact absurd h (Nat.not_le.2 hx)
  ·intro h;omega
 ·subst h1
  have hp:=Nat.two_pow_pos d;rw [Nat.pow_add,aC]
  constructor
  ·intro h
   have:=Nat.le_of_mul_le_mul_right h hp;omega
  ·rintro (h | ⟨_,h⟩)
   ·omega
   ·rw [h];exact Nat.le_refl _
 ·constructor
  ·intro _;exact Or.inl h1
  ·intro _
   rw [show 24+t=23+(1+t) from by omega,Nat.pow_add];exact Nat.mul_le_mul (by rw [aA];exact hl h1) (Nat.pow_le_pow_right (by omega) (by omega))
theorem zkO {e:Int} {u:Nat} (he : -1022≤e) (he2:e≤1023) (hu:e+1074=24+(u:Int)):key double (dn 1 e)=((2 ^ (24+u):Nat):Int):=by
 have b1:(1:Nat).log2=0:=by decide
 rw [zi3 (n:=1) (by omega) (by omega) (by rw [b1];omega) (by rw [b1];omega) (by omega),Nat.one_mul,show (e+1074).toNat=24+u from by omega]
theorem zlG {e:Int} (he : -1022≤e) (he2:e≤1023):fin double (dn 1 e)=true:=by
 have b1:(1:Nat).log2=0:=by decide
 exact zjr (n:=1) (by omega) (by omega) (by rw [b1];omega) (by rw [b1];omega)
theorem zpc {n:Nat} {e t:Int} (h:Rnd n e) (h0:0<n) (he2:e+n.log2≤1023) (ht:t=128):(double.order (dn n e) (dn 1 t)==some .gt || double.order (dn n e) (dn 1 t)==some .eq)=decide (2139095040≤rung n e):=by
 have hp:=h.place;have hh:=h.hi;have hl:=h.log2 h0;obtain ⟨u,hu⟩:∃ u:Nat,(u:Int)=t+1050:=⟨(t+1050).toNat,by omega⟩;obtain ⟨d,hd⟩:∃ d:Nat,(e+1074).toNat=d:=⟨_,rfl⟩;have aC:=zkO (e:=t) (u:=u) (by omega) (by omega) (by omega);have aA:=zi3 h0 (by omega) (by omega) he2 (show -1074≤e by omega);have f1:=zjr (n:=n) (e:=e) h0 (by omega) (by omega) he2;have f2:=zlG (e:=t) (by omega) (by omega);rw [zcT f1 f2,aA,aC,hd];clear aA aC f1 f2;have key:(2 ^ (24+u)≤n*2 ^ d)↔2139095040≤rung n e:=by
  rw [zoA n d u hh (by intro _;rcases h.lo with h2 | h2<;>omega)]
  unfold rung
  constructor
  ·rintro (h1 | ⟨h1,h2⟩)
   ·have:8388608≤n:=by rcases h.lo with h2 | h2<;>omega
    omega
   ·omega
  ·intro h1
   omega
 clear hu hd;generalize 2 ^ (24+u)=A at key;generalize n*2 ^ d=B at key;generalize rung n e=R at key
 by_cases hR:2139095040≤R
 ·rw [decide_eq_true hR]
  have:=key.2 hR
  rcases Nat.lt_or_ge A B with hx | hx
  ·rw [zhN (by omega)];rfl
  ·have:A=B:=by omega
   subst this;rw [zjA];rfl
 ·rw [decide_eq_false hR]
  have:B<A:=by
   rcases Nat.lt_or_ge B A with hx | hx
   ·exact hx
   ·exact absurd (key.1 hx) hR
  rw [zgp (by omega)];rfl
theorem zm7 (s:Bool) {R:Nat} (h:R<2139095040):(single.read (single.word s R)).isInfinity=false:=by
 unfold Format.read Format.word;rw [zjb,zdX,zip];have e1:(if s=true then 2147483648+R else R) % 2147483648=R:=by split<;>omega
 simp only [e1]
 by_cases h1:R<8388608
 ·rw [if_pos h1];rfl
 ·rw [if_neg h1,if_pos h];rfl
theorem zi5 (s:Bool) {m k l:Nat} {p q:Int} (hm:0<m) (hlog:m.log2=l) (hq:p+k=q) (hl:max (q+l - 23) (-149)=q) (hr:(q+149).toNat*8388608+m≤2139095040) :
  single.write (.number s (m*2 ^ k) p)=single.word s ((q+149).toNat*8388608+m):=by
 show single.nearest s (m*2 ^ k) p=_
 subst hq;rw [zfb single s m k p hm (by rw [hlog,zeF];exact hl) (by rw [zeF,zdX,zip,show p+(k:Int) - -149=p+k+149 from by omega];exact hr)];rw [zeF,zdX,show p+(k:Int) - -149=p+k+149 from by omega]
theorem zkD {b m r:Nat} {s:Bool} {e:Int} (h:double.read b = .number s m e) (hw:single.write (.number s m e)=r) (hi:(single.read r).isInfinity=false):floatToFloatBits .f64 b .f32=some r:=by
 have h':FloatKind.f64.decode b = .number s m e:=h;have aA:FloatKind.f32.encode (.number s m e)=r:=hw;have aC:(FloatKind.f32.decode r).isInfinity=false:=hi;unfold floatToFloatBits;rw [if_neg (by decide),h'];simp only [aA,aC]
 rfl
theorem zn9 (s:Bool) {n:Nat} {e:Int} (h:Rnd n e) (h0:0<n) (hR:rung n e<2139095040):floatToFloatBits .f64 (dw s (sg n) (e+n.log2 - 52)) .f32=some (single.word s (rung n e)):=by
 have hp:=h.place;have hh:=h.hi;have hl:=h.log2 h0;have aH:=hl.1;have he:e≤105:=by unfold rung at hR;omega
 have hn:=zem (n:=n) (e:=e) h0 (by omega) (by omega) (by omega);refine zkD (zcj s hn) ?_ (zm7 s hR);clear hn;unfold sg rung at *
 by_cases h24:n.log2=24
 ·have aA:=hl.2.1 h24
  obtain ⟨m,hm⟩:∃ m:Nat,n=m*2:=⟨8388608,aA⟩;have aG:m=8388608:=by omega
  have aE:(2:Nat) ^ 23=8388608:=by decide
  have aC:(2:Nat) ^ (23+1)=16777216:=by decide
  have aD:m.log2=23:=zlh (by rw [aE];omega) (by rw [aC];omega);have e1:n*2 ^ (52 - n.log2)=m*2 ^ 29:=by rw [h24,hm,Nat.mul_assoc]
  rw [e1,h24,zi5 s (k:=29) (q:=e+1) (by omega) aD (by omega) (by omega) (by omega),show (e+1+149).toNat*8388608+m=(e+149).toNat*8388608+n from by omega]
 ·have aF:n.log2≤23:=by omega
  have hc:max (e+(n.log2:Int) - 23) (-149)=e:=by
   by_cases h9:e = -149
   ·omega
   ·have:=hl.2.2 h9;omega
  rw [zi5 s (q:=e) h0 rfl (by omega) hc (by omega)]
end Go.Proofs.YtbkgkoenppkhpaaGreatDoor.Flt
namespace Go.Proofs.YtbkgkoenppkhpaaGreatDoor
open Go.RowKit Bn
theorem zkd (b:Bool) (x1 x2 s:Nat) (A1 A2:Option Addr) (n1 c1 n2 c2:Nat) (w:World) (h1:NatS w w.heap.size A1 n1 c1 x1) (h2:NatS w w.heap.size A2 n2 c2 x2) (k1:n1≤134217728) (_k2:n2≤134217728) (hs:s≤1099511627776) (hs0:0<s) :
  Calls Tryz.prog 158 #[.agg #[.bool b,.slice A1 n1 c1,.slice A2 n2 c2],.int .i64 (-(s:Int))] w (zfJ w (x1*2 ^ s) x2):=by
 have aC:Below w.heap.size w (w.alloc (.cells #[.bool b,.slice A1 n1 c1,.slice A2 n2 c2] 87)):=Ac;have aG:zae (w.alloc (.cells #[.bool b,.slice A1 n1 c1,.slice A2 n2 c2] 87)) w.heap.size b (.slice A1 n1 c1) (.slice A2 n2 c2):=zae.new w _ _ _;have aH:decide (-(s:Int)<0)=true:=by simp;omega
 have hw:wrap64 (s:Int)=(s:Int):=IntWalk.wrap64_in _ (by omega);have aJ:IntKind.i64.wrap (s:Int)=(s:Int):=IntWalk.i64_in _ (by omega);have aK:IntKind.i64.wrap (- -(s:Int))=(s:Int):=by rw [Int.neg_neg];exact IntWalk.i64_in _ (by omega)
 go_enter Tryz.func158,Tryz.ntmps158
 go_wp2_with fail
 generalize (w.alloc (.cells #[.bool b,.slice A1 n1 c1,.slice A2 n2 c2] 87))=w3 at *;obtain ⟨a0,a1,a2,_,_,_,al⟩:=aG.cells;have aD:Below w3.heap.size w3 w3.drew:=Below.drew (Below.refl _ _);have g:=(h1.later aC).later aD
 go_region_held3 (fun w'=>w'.cell? ⟨w.heap.size,0,none⟩=some (.bool b)∧w'.cell? ⟨w.heap.size,1,none⟩=some (.slice A1 n1 c1)∧w'.cell? ⟨w.heap.size,2,none⟩=some (.slice A2 n2 c2))
  (first | exact ⟨a0,a1,a2⟩ | exact ⟨((aA.cell (p:=⟨w.heap.size,0,none⟩) al).trans a0),((aA.cell (p:=⟨w.heap.size,1,none⟩) al).trans a1),((aA.cell (p:=⟨w.heap.size,2,none⟩) al).trans a2)⟩)
  (first | (go_at_call 87;refine (zaw A1 n1 c1 x1 s w3.drew g (by omega) hs).mono ?_;rintro e w4 ⟨A5,m5,c5,rfl,aF,aA⟩;have aI:=Nat.lt_of_lt_of_le al aA.size))
 have aE:Below w.heap.size w w4:=(aC.trans (aD.mono aC.size)).trans (aA.mono aC.size);have hO:=(((h2.later aC).later aD).later aA);go_wp2
 go_ret2
 exact ⟨A5,m5,c5,A2,n2,c2,rfl,aF,hO,aE⟩
theorem zkf (b:Bool) (x1 x2 s:Nat) (A1 A2:Option Addr) (n1 c1 n2 c2:Nat) (w:World) (h1:NatS w w.heap.size A1 n1 c1 x1) (h2:NatS w w.heap.size A2 n2 c2 x2) (_k1:n1≤134217728) (k2:n2≤134217728) (hs:s≤1099511627776) :
  Calls Tryz.prog 158 #[.agg #[.bool b,.slice A1 n1 c1,.slice A2 n2 c2],.int .i64 ((s:Int))] w (zfJ w x1 (x2*2 ^ s)):=by
 have aC:Below w.heap.size w (w.alloc (.cells #[.bool b,.slice A1 n1 c1,.slice A2 n2 c2] 87)):=Ac;have aG:zae (w.alloc (.cells #[.bool b,.slice A1 n1 c1,.slice A2 n2 c2] 87)) w.heap.size b (.slice A1 n1 c1) (.slice A2 n2 c2):=zae.new w _ _ _;have aH:decide ((s:Int)<0)=false:=by simp
 go_enter Tryz.func158,Tryz.ntmps158
 go_wp2_with fail
 generalize (w.alloc (.cells #[.bool b,.slice A1 n1 c1,.slice A2 n2 c2] 87))=w3 at *;obtain ⟨a0,a1,a2,_,_,_,al⟩:=aG.cells;have aD:Below w3.heap.size w3 w3.drew:=Below.drew (Below.refl _ _);have g:=(h2.later aC).later aD
 go_region_held3 (fun w'=>w'.cell? ⟨w.heap.size,0,none⟩=some (.bool b)∧w'.cell? ⟨w.heap.size,1,none⟩=some (.slice A1 n1 c1)∧w'.cell? ⟨w.heap.size,2,none⟩=some (.slice A2 n2 c2))
  (first | exact ⟨a0,a1,a2⟩ | exact ⟨((aA.cell (p:=⟨w.heap.size,0,none⟩) al).trans a0),((aA.cell (p:=⟨w.heap.size,1,none⟩) al).trans a1),((aA.cell (p:=⟨w.heap.size,2,none⟩) al).trans a2)⟩)
  (first | (go_at_call 87;refine (zaw A2 n2 c2 x2 s w3.drew g (by omega) hs).mono ?_;rintro e w4 ⟨A5,m5,c5,rfl,aF,aA⟩;have aI:=Nat.lt_of_lt_of_le al aA.size))
 have aE:Below w.heap.size w w4:=(aC.trans (aD.mono aC.size)).trans (aA.mono aC.size);have hO:=(((h1.later aC).later aD).later aA);go_wp2
 go_ret2
 exact ⟨A1,n1,c1,A5,m5,c5,rfl,hO,aF,aE⟩
def scT (t:Nat) (e:Int):Nat:=if e<0 then t*2 ^ (-e).toNat else t
def scB (b:Nat) (e:Int):Nat:=if e<0 then b else b*2 ^ e.toNat
theorem zgD (b:Bool) (x1 x2:Nat) (i:Int) (A1 A2:Option Addr) (n1 c1 n2 c2:Nat) (w:World) (h1:NatS w w.heap.size A1 n1 c1 x1) (h2:NatS w w.heap.size A2 n2 c2 x2) (k1:n1≤134217728) (k2:n2≤134217728) (hs : -1099511627776≤i∧i≤1099511627776) :
  Calls Tryz.prog 158 #[.agg #[.bool b,.slice A1 n1 c1,.slice A2 n2 c2],.int .i64 i] w (zfJ w (scT x1 i) (scB x2 i)):=by
 by_cases h:i<0
 ·obtain ⟨s,rfl⟩:∃ s:Nat,i = -(s:Int):=⟨(-i).toNat,by omega⟩
  have e1:scT x1 (-(s:Int))=x1*2 ^ s:=by unfold scT;rw [if_pos h];congr 2;omega
  have e2:scB x2 (-(s:Int))=x2:=by unfold scB;rw [if_pos h]
  rw [e1,e2];exact zkd b x1 x2 s A1 A2 n1 c1 n2 c2 w h1 h2 k1 k2 (by omega) (by omega)
 ·obtain ⟨s,rfl⟩:=Int.eq_ofNat_of_zero_le (Int.not_lt.1 h)
  have e1:scT x1 (s:Int)=x1:=by unfold scT;rw [if_neg h]
  have e2:scB x2 (s:Int)=x2*2 ^ s:=by unfold scB;rw [if_neg h];simp
  rw [e1,e2];exact zkf b x1 x2 s A1 A2 n1 c1 n2 c2 w h1 h2 k1 k2 (by omega)
def bexp (t b:Nat):Int:=
 if scT t ((za0 t:Int) - (za0 b:Int))<scB b ((za0 t:Int) - (za0 b:Int)) then (za0 t:Int) - (za0 b:Int) - 1 else (za0 t:Int) - (za0 b:Int)
theorem zbW {x n:Nat} (h:(digs x).length≤n):za0 x≤64*n:=by
 rcases Nat.eq_zero_or_pos x with rfl | hx
 ·simp [za0]
 ·have h1:=zhb hx
  have h2:=zab x;have h3:B ^ (digs x).length≤B ^ n:=Nat.pow_le_pow_right zaO h;have h4:B ^ n=2 ^ (64*n):=by rw [Nat.pow_mul];rfl
  have h5:2 ^ (za0 x - 1)<2 ^ (64*n):=by omega
  have h6:=(Nat.pow_lt_pow_iff_right (by omega:1<2)).1 h5;omega
theorem ncmp_lt {x y:Nat} (h:x<y):ncmp x y = -1:=by unfold ncmp;rw [if_pos h]
theorem zoB {x y:Nat} (h:¬ x<y):0≤ncmp x y:=by unfold ncmp;rw [if_neg h];split<;>omega
theorem zeo (b:Bool) (x1 x2:Nat) (A1 A2:Option Addr) (n1 c1 n2 c2:Nat) (w:World) (h1:NatS w w.heap.size A1 n1 c1 x1) (h2:NatS w w.heap.size A2 n2 c2 x2) (k1:n1≤134217728) (k2:n2≤134217728) :
  Calls Tryz.prog 98 #[.agg #[.bool b,.slice A1 n1 c1,.slice A2 n2 c2]] w fun e w'=>e = .returned (.int .i64 (bexp x1 x2))∧Below w.heap.size w w':=by
 have aA:Below w.heap.size w (w.alloc (.cells #[.bool b,.slice A1 n1 c1,.slice A2 n2 c2] 87)):=Ac;have aO:zae (w.alloc (.cells #[.bool b,.slice A1 n1 c1,.slice A2 n2 c2] 87)) w.heap.size b (.slice A1 n1 c1) (.slice A2 n2 c2):=zae.new w _ _ _;have aQ:=zbW (Nat.le_of_eq h1.len);have aP:=zbW (Nat.le_of_eq h2.len);have aF:Hid (bexp x1 x2=if scT x1 ((za0 x1:Int) - (za0 x2:Int))<scB x2 ((za0 x1:Int) - (za0 x2:Int)) then (za0 x1:Int) - (za0 x2:Int) - 1 else (za0 x1:Int) - (za0 x2:Int)):=rfl
 go_enter Tryz.func98,Tryz.ntmps98
 go_wp2_with fail
 generalize (w.alloc (.cells #[.bool b,.slice A1 n1 c1,.slice A2 n2 c2] 87))=w3 at *;obtain ⟨a0,a1,a2,_,_,_,al⟩:=aO.cells;have q1:=h1.later aA;have q2:=h2.later aA;have aI:∀ q,Calls Tryz.prog 157 #[.slice A1 n1 c1] (w3.drewN q) fun e w'=>e = .returned (.int .i64 (za0 x1))∧w3.drewN q=w':=fun q=>zeI A1 n1 c1 x1 (w3.drewN q) (q1.later (zac (Below.refl _ _) q)) (by omega)
 have aE:∀ q,Calls Tryz.prog 157 #[.slice A2 n2 c2] (w3.drewN q) fun e w'=>e = .returned (.int .i64 (za0 x2))∧w3.drewN q=w':=fun q=>zeI A2 n2 c2 x2 (w3.drewN q) (q2.later (zac (Below.refl _ _) q)) (by omega)
 have aK:IntKind.i64.wrap ((za0 x1:Int) - (za0 x2:Int))=(za0 x1:Int) - (za0 x2:Int):=IntWalk.i64_in _ (by omega);have H1:=Aa aI;have H2:=Aa aE;clear aI aE
 go_quiet ((first | (go_at_call_of 157 (Value.slice A1 n1 c1);first | exact zb4 (H1.out _) | exact zcP (H1.out _)) | (go_at_call_of 157 (Value.slice A2 n2 c2);first | exact zb4 (H2.out _) | exact zcP (H2.out _))))
 have aD:Below w3.heap.size w3 (w3.drewN nq):=zac (Below.refl _ _) nq;have aH:=zgD b x1 x2 ((za0 x1:Int) - (za0 x2:Int)) A1 A2 n1 c1 n2 c2 (w3.drewN nq) (q1.later aD) (q2.later aD) k1 k2 (by omega);have aN:=Aa aH;have aJ : -8589934592≤(za0 x1:Int) - (za0 x2:Int):=by omega
 have aM:(za0 x1:Int) - (za0 x2:Int)≤8589934592:=by omega
 generalize (za0 x1:Int) - (za0 x2:Int)=i at *;clear aH aK H1 H2
 go_wp2_with fail
 refine aN.out.mono ?_;rintro e w5 ⟨A5,m5,c5,A6,m6,c6,rfl,h5,h6,aL⟩;have aG:Below w.heap.size w w5:=(aA.trans (aD.mono aA.size)).trans (aL.mono aA.size);have aC:=zaR A5 A6 m5 c5 m6 c6 _ _ w5 h5 h6
 by_cases hlt:scT x1 i<scB x2 i
 ·rw [ncmp_lt hlt] at aC
  have HV:Hid (bexp x1 x2=i - 1):=by unfold Hid;rw [aF.out,if_pos hlt]
  clear hlt
  go_wp2_with fail
  refine aC.mono ?_;rintro e w6 ⟨rfl,k,rfl⟩;go_wp2
  go_ret;exact ⟨by rw [HV.out];rfl,zac aG k⟩
 ·have hg:=zoB hlt
  have HV:Hid (bexp x1 x2=i):=by unfold Hid;rw [aF.out,if_neg hlt]
  generalize ncmp (scT x1 i) (scB x2 i)=cv at aC hg;have hd:decide (cv<0)=false:=by simp;omega
  clear hlt
  go_wp2_with fail
  refine aC.mono ?_;rintro e w6 ⟨rfl,k,rfl⟩;go_wp2
  go_ret;exact ⟨by rw [HV.out];rfl,zac aG k⟩
theorem zhT {x n s:Nat} (h:(digs x).length≤n):(digs (x*2 ^ s)).length≤n+s / 64+1:=by
 refine zad ?_;have h1:=zab x;have h2:B ^ (digs x).length≤B ^ n:=Nat.pow_le_pow_right zaO h;have h3:2 ^ s<2 ^ (64*(s / 64+1)):=Nat.pow_lt_pow_right (by omega) (by omega);have h4:2 ^ (64*(s / 64+1))=B ^ (s / 64+1):=by rw [Nat.pow_mul];rfl
 rw [h4] at h3;rw [Nat.add_assoc,Nat.pow_add];exact Nat.mul_lt_mul'' (Nat.lt_of_lt_of_le h1 h2) h3
def near (t b:Nat):Nat:=if b<t % b*2∨(t % b*2=b∧t / b % 2=1) then t / b+1 else t / b
theorem ziP (b:Bool) (x1 x2:Nat) (i:Int) (A1 A2:Option Addr) (n1 c1 n2 c2:Nat) (w:World) (h1:NatS w w.heap.size A1 n1 c1 x1) (h2:NatS w w.heap.size A2 n2 c2 x2) (k1:n1≤134217728) (k2:n2≤134217728) (hs : -1073741824≤i∧i≤1073741824)
  (hp:0<scB x2 i) (hq:scT x1 i / scB x2 i<9223372036854775808) :
  Calls Tryz.prog 100 #[.agg #[.bool b,.slice A1 n1 c1,.slice A2 n2 c2],.int .i64 i] w fun e w'=>e = .returned (.int .u64 (near (scT x1 i) (scB x2 i):Int))∧Below w.heap.size w w':=by
 have aK:Below w.heap.size w (w.alloc (.cells #[.bool b,.slice A1 n1 c1,.slice A2 n2 c2] 87)):=Ac;have aV:=zgD b x1 x2 i A1 A2 n1 c1 n2 c2 _ (h1.later aK) (h2.later aK) k1 k2 (by omega);have aU:(digs (scT x1 i)).length≤151000000:=by
  unfold scT;split
  ·have:=zhT (s:=(-i).toNat) (Nat.le_of_eq h1.len);omega
  ·rw [h1.len];omega
 have aZ:(digs (scB x2 i)).length≤151000000:=by
  unfold scB;split
  ·rw [h2.len];omega
  ·have:=zhT (s:=i.toNat) (Nat.le_of_eq h2.len);omega
 generalize scT x1 i=t at *;generalize scB x2 i=u at *;go_enter Tryz.func100,Tryz.ntmps100
 go_wp2_with fail
 refine aV.mono ?_;rintro e w3 ⟨A3,n3,c3,A4,n4,c4,rfl,h3,h4,aW⟩;have aS:Below w.heap.size w w3:=Ad aK aW;rw [h3.len] at aU;rw [h4.len] at aZ
 go_wp2_with fail
 refine (zdL A3 A4 n3 c3 n4 c4 t u w3 h3 h4 hp (by omega)).mono ?_;rintro e w5 ⟨A5,n5,c5,A6,n6,c6,rfl,h5,h6,aQ⟩;have aL:Below w.heap.size w w5:=Ad aS aQ;have aN:=h4.later aQ;have l6:n6≤n4:=by
  rw [←h6.len,←h4.len];exact zaa (Nat.le_of_lt (Nat.mod_lt _ hp))
 have hz:=zaJ A5 n5 c5 (t / u) w5 h5;obtain ⟨z,aI,aA⟩:∃ z:Bool,decide (t / u=0)=z∧(z=false→∃ ad,A5=some ad∧0<n5∧w5.cell? (ad.add 0)=some (.int .u64 ((t / u:Nat):Int))):=by
  refine ⟨_,rfl,fun aJ => ?_⟩;have aP:t / u≠0:=by simpa using aJ
  have aE:0<n5:=by rw [←h5.len];exact zar (Nat.pos_of_ne_zero aP)
  obtain ⟨ad,e,_,hc⟩:=h5.words.word (k:=0) aE;refine ⟨ad,e,aE,?_⟩;rw [hc,zbe (Nat.pos_of_ne_zero aP)];simp only [List.getD_cons_zero]
  rw [Nat.mod_eq_of_lt (by rw [zdm];omega)]
 rw [aI] at hz;have aM:∀ W:World,Below w5.heap.size w5 W→Calls Tryz.prog 87 #[.slice A6 n6 c6,.int .i64 1] W (zb9 W (t % u*2)):=fun W hb=>by
  have h:=zaw A6 n6 c6 (t % u) 1 W (h6.later hb) (by omega) (by omega);rw [Nat.pow_one] at h;exact h
 have HN:Hid (near t u=if u<t % u*2∨(t % u*2=u∧t / u % 2=1) then t / u+1 else t / u):=rfl
 have aJ:z=true→t / u=0:=by intro h;rw [h] at aI;simpa using aI
 have aH:=Aa aJ;generalize t / u=q at hq aA HN aH hz;generalize t % u=r at HN aM;have aO:=Aa aM;clear aM aI aJ h5 h3 h4 aU hp;have aT:ncmp (r*2) u = -1∧r*2<u∨ncmp (r*2) u=0∧r*2=u∨ncmp (r*2) u=1∧u<r*2:=by
  rcases Nat.lt_trichotomy (r*2) u with h | h | h
  ·exact .inl ⟨ncmp_lt h,h⟩
  ·exact .inr (.inl ⟨by unfold ncmp;rw [if_neg (by omega)];rw [if_pos h],h⟩)
  ·exact .inr (.inr ⟨by unfold ncmp;rw [if_neg (by omega),if_neg (by omega)],h⟩)
 have aR:=Aa aT;clear aT
 cases z
 ·obtain ⟨ad,rfl,bA,aG⟩:=aA rfl
  have e0:ad.add 0=ad:=by simp [Addr.add]
  rw [e0] at aG;clear e0;clear aA aH
  go_wp2_with fail
  refine hz.mono ?_;rintro e w6 ⟨rfl,rfl⟩;clear hz
  go_wp2_with fail
  refine (aO.out w5 (Below.refl _ _)).mono ?_;rintro e w7 ⟨A7,n7,c7,rfl,h7,aF⟩;have aC:=zaR A7 A4 n7 c7 n4 c4 _ _ w7 h7 (aN.later aF);have aD:=Ad aL aF
  rcases aR.out with ⟨e1,h1⟩ | ⟨e1,h1⟩ | ⟨e1,h1⟩
  ·have HV:Hid (near t u=q):=by unfold Hid;rw [HN.out,if_neg (by omega)]
   rw [e1] at aC;clear e1 h1
   go_wp2_with fail
   refine aC.mono ?_;rintro e w8 ⟨rfl,k,rfl⟩;go_wp2
   go_ret;exact ⟨by rw [HV.out];rfl,zac aD k⟩
  ·by_cases hm:q % 2=1
   ·have HV:Hid (near t u=q+1):=by unfold Hid;rw [HN.out,if_pos (.inr ⟨h1,hm⟩)]
    rw [e1] at aC;have aY:((q:Int) % 2==1)=true:=by simp;omega
    clear e1 h1 hm
    go_wp2_with fail
    refine aC.mono ?_;rintro e w8 ⟨rfl,k,rfl⟩;go_wp2
    go_ret;exact ⟨by rw [HV.out];rfl,zac aD k⟩
   ·have HV:Hid (near t u=q):=by unfold Hid;rw [HN.out,if_neg (by omega)]
    rw [e1] at aC;have aY:((q:Int) % 2==1)=false:=by simp;omega
    clear e1 h1 hm
    go_wp2_with fail
    refine aC.mono ?_;rintro e w8 ⟨rfl,k,rfl⟩;go_wp2
    go_ret;exact ⟨by rw [HV.out];rfl,zac aD k⟩
  ·have HV:Hid (near t u=q+1):=by unfold Hid;rw [HN.out,if_pos (.inl h1)]
   rw [e1] at aC;clear e1 h1
   go_wp2_with fail
   refine aC.mono ?_;rintro e w8 ⟨rfl,k,rfl⟩;go_wp2
   go_ret;exact ⟨by rw [HV.out];rfl,zac aD k⟩
 ·have aX:=aH.out rfl
  subst aX;clear aA aH
  go_wp2_with fail
  refine hz.mono ?_;rintro e w6 ⟨rfl,rfl⟩;clear hz
  go_wp2_with fail
  refine (aO.out w5 (Below.refl _ _)).mono ?_;rintro e w7 ⟨A7,n7,c7,rfl,h7,aF⟩;have aC:=zaR A7 A4 n7 c7 n4 c4 _ _ w7 h7 (aN.later aF);have aD:=Ad aL aF
  rcases aR.out with ⟨e1,h1⟩ | ⟨e1,h1⟩ | ⟨e1,h1⟩
  ·have HV:Hid (near t u=0):=by unfold Hid;rw [HN.out,if_neg (by omega)]
   rw [e1] at aC;clear e1 h1
   go_wp2_with fail
   refine aC.mono ?_;rintro e w8 ⟨rfl,k,rfl⟩;go_wp2
   go_ret;exact ⟨by rw [HV.out];rfl,zac aD k⟩
  ·have HV:Hid (near t u=0):=by unfold Hid;rw [HN.out,if_neg (by omega)]
   rw [e1] at aC;clear e1 h1
   go_wp2_with fail
   refine aC.mono ?_;rintro e w8 ⟨rfl,k,rfl⟩;go_wp2
   go_ret;exact ⟨by rw [HV.out];rfl,zac aD k⟩
  ·have HV:Hid (near t u=1):=by unfold Hid;rw [HN.out,if_pos (.inl h1)]
   rw [e1] at aC;clear e1 h1
   go_wp2_with fail
   refine aC.mono ?_;rintro e w8 ⟨rfl,k,rfl⟩;go_wp2
   go_ret;exact ⟨by rw [HV.out];rfl,zac aD k⟩
theorem zlU (t b m:Nat) (e:Int) (a c:Nat) (h:(a:Int) - c = -e):scB b e*m≤scT t e↔b*2 ^ c*m≤t*2 ^ a:=by
 unfold scB scT
 by_cases he:e<0
 ·rw [if_pos he,if_pos he]
  have:a=(-e).toNat+c:=by omega
  subst this;generalize (-e).toNat=s;rw [Nat.pow_add,←Nat.mul_assoc,Nat.mul_right_comm,Nat.mul_le_mul_right_iff (Nat.two_pow_pos _)]
 ·rw [if_neg he,if_neg he]
  have:c=e.toNat+a:=by omega
  subst this;generalize e.toNat=s;rw [Nat.pow_add,←Nat.mul_assoc,Nat.mul_right_comm _ (2 ^ a),Nat.mul_le_mul_right_iff (Nat.two_pow_pos _)]
theorem zo6 (t b m:Nat) (e:Int) (a c:Nat) (h:(a:Int) - c = -e):scT t e<scB b e*m↔t*2 ^ a<b*2 ^ c*m:=by
 have:=zlU t b m e a c h;omega
theorem zlp {b:Nat} (hb:0<b) (e:Int):0<scB b e:=by
 unfold scB;split
 ·exact hb
 ·exact Nat.mul_pos hb (Nat.two_pow_pos _)
theorem zlu {t b:Nat} (ht:0<t) (hb:0<b) (a c:Nat) (h:(a:Int) - c = -(bexp t b)):b*2 ^ c≤t*2 ^ a∧t*2 ^ a<b*2 ^ c*2:=by
 have t1:=zhb ht;have t2:=zgP t;have b1:=zhb hb;have b2:=zgP b;have tp:=zh5 ht;have bp:=zh5 hb;generalize aE:za0 t=nt at *;generalize aD:za0 b=nb at *;unfold bexp at h;rw [aE,aD] at h;have low:∀ a c:Nat,(a:Int) - c = -((nt:Int) - nb - 1)→b*2 ^ c≤t*2 ^ a:=by
  intro a c aC;have h1:b*2 ^ c≤2 ^ (nb+c):=by rw [Nat.pow_add];exact Nat.mul_le_mul_right _ (Nat.le_of_lt b2)
  have h2:2 ^ (nt - 1+a)≤t*2 ^ a:=by rw [Nat.pow_add];exact Nat.mul_le_mul_right _ t1
  have h3:nb+c=nt - 1+a:=by omega
  rw [h3] at h1;exact Nat.le_trans h1 h2
 have high:∀ a c:Nat,(a:Int) - c = -((nt:Int) - nb)→t*2 ^ a<b*2 ^ c*2:=by
  intro a c aC;have h1:t*2 ^ a<2 ^ (nt+a):=by rw [Nat.pow_add];exact Nat.mul_lt_mul_of_pos_right t2 (Nat.two_pow_pos _)
  have h2:2 ^ (nb - 1+(c+1))≤b*2 ^ (c+1):=by rw [Nat.pow_add];exact Nat.mul_le_mul_right _ b1
  have h3:nt+a=nb - 1+(c+1):=by omega
  rw [h3] at h1;rw [Nat.pow_succ,←Nat.mul_assoc] at h2;exact Nat.lt_of_lt_of_le h1 h2
 split at h
 ·rename_i hlt
  have aA:scT t ((nt:Int) - nb)<scB b ((nt:Int) - nb)*1:=by rw [Nat.mul_one];exact hlt
  have h4:=(zo6 t b 1 ((nt:Int) - nb) a (c+1) (by omega)).1 aA;rw [Nat.mul_one,Nat.pow_succ,←Nat.mul_assoc] at h4;exact ⟨low a c (by omega),h4⟩
 ·rename_i hlt
  have aF:scB b ((nt:Int) - nb)*1≤scT t ((nt:Int) - nb):=by omega
  have h4:=(zlU t b 1 ((nt:Int) - nb) a c (by omega)).1 aF;rw [Nat.mul_one] at h4;exact ⟨h4,high a c (by omega)⟩
def flE (t b:Nat):Int:=max (bexp t b+1 - 24) (-149)
def flN (t b:Nat):Nat:=near (scT t (flE t b)) (scB b (flE t b))
theorem zfx {t b lo hi:Nat} (hb:0<b) (h1:b*lo≤t) (h2:t<b*hi):lo≤near t b∧near t b≤hi:=by
 have q1:lo≤t / b:=(Nat.le_div_iff_mul_le hb).2 (by rw [Nat.mul_comm];exact h1);have q2:t / b<hi:=(Nat.div_lt_iff_lt_mul hb).2 (by rw [Nat.mul_comm];exact h2);unfold near
 split<;>omega
theorem zk3 {t b:Nat} (ht:0<t) (hb:0<b):Flt.Rnd (flN t b) (flE t b)∧scT t (flE t b) / scB b (flE t b)<16777216:=by
 have aC:(2:Nat) ^ 24=16777216:=by decide
 have aF:(2:Nat) ^ 23=8388608:=by decide
 have hs:=@zlu t b ht hb;have hB:=zlp hb (flE t b);have aG:flE t b = -149∨flE t b=bexp t b - 23:=by unfold flE;omega
 have aH:bexp t b - 23≤flE t b:=by unfold flE;omega
 have aE : -149≤flE t b:=by unfold flE;omega
 unfold flN;generalize flE t b=e at *;generalize bexp t b=k at *;obtain ⟨c,hc⟩:∃ c:Nat,0≤(c:Int) - e:=⟨e.toNat,by omega⟩;obtain ⟨a,ha⟩:∃ a:Nat,(a:Int)=c - e:=⟨((c:Int) - e).toNat,by omega⟩;have aA:scT t e<scB b e*16777216:=by
  rw [zo6 t b _ e a c (by omega)];obtain ⟨d,hd⟩:∃ d:Nat,(d:Int)=e - (k - 23):=⟨(e - (k - 23)).toNat,by omega⟩;have h1:=(hs (a+d) (c+23) (by omega)).2;have h2:t*2 ^ a≤t*2 ^ (a+d):=Nat.mul_le_mul_left _ (Nat.pow_le_pow_right (by omega) (by omega));have h3:b*2 ^ (c+23)*2=b*2 ^ c*16777216:=by
   rw [Nat.mul_assoc,←Nat.pow_succ,show (c+23).succ=c+24 from rfl,Nat.pow_add,aC,Nat.mul_assoc]
  omega
 have hq:scT t e / scB b e<16777216:=(Nat.div_lt_iff_lt_mul hB).2 (by rw [Nat.mul_comm];exact aA);have hn:=zfx (lo:=0) hB (by omega) aA;refine ⟨⟨aE,hn.2,?_⟩,hq⟩
 rcases aG with h | h
 ·exact Or.inl h
 ·refine Or.inr ?_
  have aD:scB b e*8388608≤scT t e:=by
   rw [zlU t b _ e a c (by omega),←aF,Nat.mul_assoc,←Nat.pow_add];exact (hs a (c+23) (by omega)).1
  exact (zfx hB aD aA).1
theorem zgE {t b N:Nat} (h1:za0 t≤N) (h2:za0 b≤N) : -(N:Int) - 1≤bexp t b∧bexp t b≤N:=by
 unfold bexp;split<;>omega
def flW (q:Q):Nat:=if q.top=0 then 0 else if flN q.top q.bot=0 then 0 else if 2139095040≤Flt.rung (flN q.top q.bot) (flE q.top q.bot) then 0 else Ieee.single.word q.neg (Flt.rung (flN q.top q.bot) (flE q.top q.bot))
def flX (q:Q):Int:=if q.top=0 then 0 else if flN q.top q.bot=0 then 0 else if 2139095040≤Flt.rung (flN q.top q.bot) (flE q.top q.bot) then 4 else 0
end Go.Proofs.YtbkgkoenppkhpaaGreatDoor
