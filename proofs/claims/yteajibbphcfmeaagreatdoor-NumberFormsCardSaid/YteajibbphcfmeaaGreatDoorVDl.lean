/- Contracts of package rational: commonDivisor, lowest. -/
import Derived.Test.YteajibbphcfmeaaGreatDoorVRtx
import Derived.Test.YteajibbphcfmeaaGreatDoorVRat2
import Derived.Shelf.Strconv.ParseUint10At
import Derived.Test.YteajibbphcfmeaaGreatDoorProg
import Derived.Test.YteajibbphcfmeaaGreatDoorVCut
import Derived.Lib.AtoiErrMem
import Derived.Test.YteajibbphcfmeaaGreatDoorVBld
import Derived.Laws.FloatBits
import Derived.Laws.FloatArith
import Derived.Test.YteajibbphcfmeaaGreatDoorVDiv4
namespace Go.Proofs.YteajibbphcfmeaaGreatDoor
open Go.RowKit Dn
def RatD (w:World) (B:Nat) (v:Value) (q:Q):Prop:=
 ∃ A n c A' n' c',v = .agg #[.bool q.neg,.slice A n c,.slice A' n' c']∧NatD w B A n c q.top∧NatD w B A' n' c' q.bot
theorem zmz (neg:Bool) (x y:Nat) (hy:0<y):lowQ neg x y=⟨neg && !decide (x / Nat.gcd x y=0),x / Nat.gcd x y,y / Nat.gcd x y⟩:=by
 unfold lowQ
 rw [if_neg (by omega)]
 by_cases hx:x=0
 ·subst hx
  rw [if_pos rfl,Nat.gcd_zero_left,Nat.zero_div,Nat.div_self hy]
  simp
 ·rw [if_neg hx]
  have h1:0<x / Nat.gcd x y:=Nat.div_pos (Nat.gcd_le_left _ (by omega)) (Nat.gcd_pos_of_pos_right _ hy)
  have h2:decide (x / Nat.gcd x y=0)=false:=decide_eq_false (Nat.ne_of_gt h1)
  rw [h2]
  simp
end Go.Proofs.YteajibbphcfmeaaGreatDoor
namespace Go.Proofs
open Go.Shelf
end Go.Proofs
namespace Go.Proofs.YteajibbphcfmeaaGreatDoor
open Go.RowKit Dn
theorem zmS:B=10 ^ 9:=by decide
theorem zdt (l:List UInt8) (h:zas l=true) (a b:Nat):zas ((l.drop a).take b)=true:=by
 unfold zas at *
 rw [List.all_eq_true] at *
 intro x hx
 exact h x (List.mem_of_mem_drop (List.mem_of_mem_take hx))
theorem zf5 (l:List UInt8) (ws:List Nat) (e d:Nat) (hd:d≤e) (_he:e≤l.length) (hk:l.length - e=9*ws.length) (hv:val ws=zai (l.drop e)) :
  val (ws++[zai ((l.drop d).take (e - d))])=zai (l.drop d):=by
 have h1:l.drop d=(l.drop d).take (e - d)++l.drop e:=by
  have h:=(List.take_append_drop (e - d) (l.drop d)).symm
  rw [List.drop_drop] at h
  rw [show d+(e - d)=e from by omega] at h
  exact h
 have h2:=zb4 ((l.drop d).take (e - d)) (l.drop e)
 rw [←h1,List.length_drop,hk] at h2
 rw [zaN,zaS,hv,h2,zmS,←Nat.pow_mul,Nat.mul_comm (10 ^ (9*ws.length))]
 omega
theorem zbT (s:ByteArray) (d e:Nat):(s.extract d e).data.toList=(s.data.toList.drop d).take (e - d):=by
 rw [ByteArray.data_extract,Array.toList_extract]
theorem zkl {w w':World} {base size n:Nat} {e:TypeId} {v:Value} {xs:List Value} (h:w.ownsRow base e size v n xs) (hb:Below w.heap.size w w'):w'.ownsRow base e size v n xs:=
 h.kept (zc5 hb none) (by cases v.ownBlock<;>simp)
theorem zma:B=10 ^ 9:=by decide
theorem zk7 (x q:Nat) (h:0<x / B ^ (q+1)):Lib.decDigits (x / B ^ q)=Lib.decDigits (x / B ^ (q+1))++Dec.pad 9 (x / B ^ q % B):=by
 have h1:=znf x q
 rw [zca] at h1
 have h2:x / B ^ q % B<10 ^ 9:=by rw [←zma];exact Nat.mod_lt _ zaL
 have h3:=Dec.dec_append 9 (x / B ^ (q+1)) (x / B ^ q % B) h h2
 rw [←zma,show x / B ^ (q+1)*B+x / B ^ q % B=x / B ^ q by rw [Nat.mul_comm];omega] at h3
 exact h3
theorem zmC {x n:Nat} (hn:0<n) (h:x<B ^ n) (j:Nat):(Lib.decDigits (x / B ^ j)).length≤9*n:=by
 refine Dec.dec_length_le (by omega) (Nat.lt_of_le_of_lt (Nat.div_le_self _ _) ?_)
 rwa [zma,←Nat.pow_mul] at h
end Go.Proofs.YteajibbphcfmeaaGreatDoor
namespace Go.Proofs.YteajibbphcfmeaaGreatDoor.Flt
open Ieee
def fin (f:Format) (b:Nat):Bool:=match f.read b with | .number .. => true | _=>false
def key (f:Format) (b:Nat):Int:=match f.read b with | .number s m e=>signed s m (e - f.leastPlace).toNat | _=>0
theorem zf2 {f:Format} {b:Nat} {s:Bool} {m:Nat} {e:Int} (h:f.read b = .number s m e):f.leastPlace≤e:=by
 unfold Format.read at h
 dsimp only at h
 split at h
 ·injection h with _ _ h;omega
 ·split at h
  ·injection h with _ _ h;omega
  ·split at h<;>cases h
theorem zfZ (s:Bool) (m a k:Nat):signed s m (a+k)=signed s m a*((2 ^ k:Nat):Int):=by
 unfold signed
 simp only [Nat.shiftLeft_eq,Nat.pow_add]
 split
 ·rw [Int.neg_mul,←Int.natCast_mul,Nat.mul_assoc]
 ·rw [←Int.natCast_mul,Nat.mul_assoc]
theorem zfH {a b:Int} (h:a<b):compare a b = .lt:=by unfold compare;simp [instOrdInt,compareOfLessAndEq,h]
theorem ziy (a:Int):compare a a = .eq:=by unfold compare;simp [instOrdInt,compareOfLessAndEq]
theorem zg7 {a b:Int} (h:b<a):compare a b = .gt:=by unfold compare;simp [instOrdInt,compareOfLessAndEq,show ¬ a<b from by omega,show ¬ a=b from by omega]
theorem zh4 (a b:Int) {k:Nat} (hk:0<k):compare (a*(k:Int)) (b*(k:Int))=compare a b:=by
 have aA:(0:Int)<(k:Int):=by omega
 rcases Int.lt_trichotomy a b with h | h | h
 ·have h1:a*(k:Int)<b*(k:Int):=Int.mul_lt_mul_of_pos_right h aA
  rw [zfH h,zfH h1]
 ·subst h;simp
 ·have h1:b*(k:Int)<a*(k:Int):=Int.mul_lt_mul_of_pos_right h aA
  rw [zg7 h,zg7 h1]
theorem zcI {f:Format} {x y:Nat} (hx:fin f x=true) (hy:fin f y=true):f.order x y=some (compare (key f x) (key f y)):=by
 unfold fin at hx hy
 unfold key Format.order
 split at hx
 ·rename_i s m i h1
  split at hy
  ·rename_i t n j h2
   have p1:=zf2 h1
   have p2:=zf2 h2
   rw [h1,h2]
   simp only [Datum.order]
   have e1:(i - f.leastPlace).toNat=(i - min i j).toNat+(min i j - f.leastPlace).toNat:=by omega
   have e2:(j - f.leastPlace).toNat=(j - min i j).toNat+(min i j - f.leastPlace).toNat:=by omega
   rw [e1,e2,zfZ,zfZ,zh4 _ _ (Nat.two_pow_pos _)]
  ·cases hy
 ·cases hx
section
variable {x y:Nat} (hx:fin single x=true) (hy:fin single y=true)
include hx hy
end
theorem zdj (n k:Nat) (hn:0<n):(n*2 ^ k).log2=n.log2+k:=by
 have h1:=(Nat.le_log2 (n:=n) (k:=n.log2) (by omega)).1 (Nat.le_refl _)
 have h2:=(Nat.log2_lt (n:=n) (k:=n.log2+1) (by omega)).1 (by omega)
 have hp:0<n*2 ^ k:=Nat.mul_pos hn (Nat.two_pow_pos _)
 have a1:n.log2+k≤(n*2 ^ k).log2:=(Nat.le_log2 (by omega)).2 (by rw [Nat.pow_add];exact Nat.mul_le_mul_right _ h1)
 have a2:(n*2 ^ k).log2<n.log2+1+k:=(Nat.log2_lt (by omega)).2 (by rw [Nat.pow_add];exact Nat.mul_lt_mul_of_pos_right h2 (Nat.two_pow_pos _))
 omega
theorem zkB {n k:Nat} (h1:2 ^ k≤n) (h2:n<2 ^ (k+1)):n.log2=k:=by
 have hn:0<n:=Nat.lt_of_lt_of_le (Nat.two_pow_pos _) h1
 have a1:=(Nat.le_log2 (n:=n) (k:=k) (by omega)).2 h1
 have a2:=(Nat.log2_lt (n:=n) (k:=k+1) (by omega)).2 h2
 omega
theorem zg2 (s:Bool) (n d:Nat):Toward.even.cut s (n*2 ^ d) d=n:=by
 unfold Toward.cut
 rcases Nat.eq_zero_or_pos n with rfl | hn
 ·simp [Nat.shiftLeft_eq]
 ·have e:min d ((n*2 ^ d).log2+2)=d:=by rw [zdj n d hn];omega
  have hp:=Nat.two_pow_pos d
  simp only [e,Nat.shiftLeft_eq,Nat.one_mul,Nat.mul_mod_left,Nat.mul_div_cancel _ hp]
  have h1:¬ 2 ^ d<2*0:=by omega
  have h2:(2 ^ d==2*0)=false:=by simp;
  simp [h1,h2]
theorem zeD (f:Format) (s:Bool) (m k:Nat) (p:Int) (hm:0<m) (hl:max (p+k+m.log2 - f.fractionBits) f.leastPlace=p+k) (hr:(p+k - f.leastPlace).toNat*f.binade+m≤f.infRung) :
  f.nearest s (m*2 ^ k) p=f.word s ((p+k - f.leastPlace).toNat*f.binade+m):=by
 unfold Format.nearest
 have hp:0<m*2 ^ k:=Nat.mul_pos hm (Nat.two_pow_pos _)
 rw [if_neg (by omega)]
 have e1:max (p+((m*2 ^ k).log2:Nat) - f.fractionBits) f.leastPlace=p+k:=by
  rw [zdj m k hm,←hl];congr 1;push_cast;omega
 simp only [e1]
 have e2:(p - (p+(k:Int))).toNat=0:=by omega
 have e3:(p+(k:Int) - p).toNat=k:=by omega
 rw [e2,e3,Nat.shiftLeft_zero,zg2,Nat.min_eq_left hr]
theorem zfW (f:Format) (s:Bool) (m k:Nat) (p:Int) (hm:0<m) (hl:max (p+m.log2 - f.fractionBits) f.leastPlace=p - k) (hr:(p - k - f.leastPlace).toNat*f.binade+m*2 ^ k≤f.infRung) :
  f.nearest s m p=f.word s ((p - k - f.leastPlace).toNat*f.binade+m*2 ^ k):=by
 unfold Format.nearest
 rw [if_neg (by omega)]
 simp only [hl]
 have e2:(p - (p - (k:Int))).toNat=k:=by omega
 have e3:(p - (k:Int) - p).toNat=0:=by omega
 have e4:=zg2 s (m*2 ^ k) 0
 rw [Nat.pow_zero,Nat.mul_one] at e4
 rw [e2,e3,Nat.shiftLeft_eq,e4,Nat.min_eq_left hr]
theorem zba:double.leastPlace = -1074:=by decide
theorem zbz:double.binade=4503599627370496:=by decide
theorem zee:double.infRung=9218868437227405312:=by decide
theorem zgG:double.signWeight=9223372036854775808:=by decide
theorem zdP:single.leastPlace = -149:=by decide
theorem zdw:single.binade=8388608:=by decide
theorem zhI:single.infRung=2139095040:=by decide
theorem zin:single.signWeight=2147483648:=by decide
def dw (s:Bool) (m:Nat) (p:Int):Nat:=double.word s ((p+1074).toNat*4503599627370496+m)
structure Nrm (m:Nat) (p:Int):Prop where
 lo:4503599627370496≤m
 hi:m<9007199254740992
 p0 : -1074≤p
 p1:p≤971
theorem Nrm.log2 {m:Nat} {p:Int} (h:Nrm m p):m.log2=52:=by
 have e:(2:Nat) ^ 52=4503599627370496:=by decide
 have e':(2:Nat) ^ (52+1)=9007199254740992:=by decide
 have h1:=h.lo
 have h2:=h.hi
 rw [←e] at h1
 rw [←e'] at h2
 exact zkB h1 h2
theorem Nrm.rung {m:Nat} {p:Int} (h:Nrm m p):(p+1074).toNat*4503599627370496+m<9218868437227405312:=by
 have:=h.hi;have:=h.p0;have:=h.p1;omega
theorem zcd (s:Bool) {m:Nat} {p:Int} (h:Nrm m p):double.read (dw s m p) = .number s m p:=by
 have hr:=h.rung
 have aC:=h.lo
 have aA:=h.hi
 have hp:=h.p0
 unfold dw Format.word Format.read
 rw [zgG,zbz,zee,zba]
 generalize hR:(p+1074).toNat*4503599627370496+m=R at hr
 have e1:(if s=true then 9223372036854775808+R else R) % 9223372036854775808=R:=by split<;>omega
 have e2:((if s=true then 9223372036854775808+R else R) / 9223372036854775808 % 2==1)=s:=by
  cases s
  ·simp;omega
  ·simp;omega
 simp only [e1,e2]
 rw [if_neg (by omega),if_pos hr]
 congr 1
 ·omega
 ·have:R / 4503599627370496 - 1=(p+1074).toNat:=by omega
  rw [this];omega
theorem zgt (s:Bool) {m:Nat} (k:Nat) {p q:Int} (h:Nrm m q) (hq:p+k=q):double.write (.number s (m*2 ^ k) p)=dw s m q:=by
 have hr:=h.rung
 have aA:=h.lo
 have hp:=h.p0
 subst hq
 show double.nearest s (m*2 ^ k) p=_
 rw [zeD double s m k p (by omega) (by rw [h.log2,zba];show max (p+k+((52:Nat):Int) - ((52:Nat):Int)) (-1074)=p+k;omega) (by rw [zba,zbz,zee];rw [show p+(k:Int) - -1074=p+k+1074 from by omega];omega)]
 unfold dw
 rw [zba,zbz,show p+(k:Int) - -1074=p+k+1074 from by omega]
theorem one_mul (s:Bool) {m:Nat} {p:Int} (h:Nrm m p):floatBits .mul .f64 4607182418800017408 (dw s m p)=some (dw s m p):=by
 show (((double.read 4607182418800017408).product (double.read (dw s m p))).map double.write)=_
 have e1:double.read 4607182418800017408 = .number false 4503599627370496 (-52):=by decide +kernel
 rw [e1,zcd s h]
 show some (double.write (.number (false ^^ s) (4503599627370496*m) (-52+p)))=_
 have e2:4503599627370496*m=m*2 ^ 52:=by rw [Nat.mul_comm]
 rw [e2,zgt (false ^^ s) 52 h (by omega)]
 simp
theorem zme {m:Nat} {p:Int} (h:Nrm m p):floatBits .sub .f64 0 (dw false m p)=some (dw true m p):=by
 show (((double.read 0).sum (double.read (dw false m p)).opposite).map double.write)=_
 have e1:double.read 0 = .number false 0 (-1074):=by decide +kernel
 have hp:=h.p0
 have aC:=h.lo
 rw [e1,zcd false h]
 have e2:min (-1074) p = -1074:=by omega
 have e3:(Ieee.signed false 0 (-1074 - -1074:Int).toNat+Ieee.signed true m (p - -1074).toNat) = -((m*2 ^ (p+1074).toNat:Nat):Int):=by
  unfold Ieee.signed
  rw [Nat.shiftLeft_eq,Nat.shiftLeft_eq,show p - -1074=p+1074 from by omega]
  simp
 have aA:0<m*2 ^ (p+1074).toNat:=Nat.mul_pos (by omega) (Nat.two_pow_pos _)
 show (some (double.write _))=_
 simp only [e2,Bool.not_false,e3]
 generalize hM:m*2 ^ (p+1074).toNat=M at aA
 have e4:(-(M:Int))≠0:=by omega
 have e5 : -(M:Int)<0:=by omega
 have e6:(-(M:Int)).natAbs=M:=by omega
 rw [if_neg e4,e6,decide_eq_true e5]
 rw [←hM,zgt true _ h (by omega)]
theorem zgw:floatBits .sub .f64 0 0=some 0:=by decide +kernel
def sg (n:Nat):Nat:=n*2 ^ (52 - n.log2)
theorem zdX {n:Nat} {e:Int} (h0:0<n) (h1:n<9007199254740992) (he : -1022≤e+n.log2) (he2:e+n.log2≤1023):Nrm (sg n) (e+n.log2 - 52):=by
 have a1:=(Nat.le_log2 (n:=n) (k:=n.log2) (by omega)).1 (Nat.le_refl _)
 have a2:=(Nat.log2_lt (n:=n) (k:=n.log2+1) (by omega)).1 (by omega)
 have aC:(2:Nat) ^ 53=9007199254740992:=by decide
 have a3:n.log2<53:=(Nat.log2_lt (by omega)).2 (by omega)
 have aA:(2:Nat) ^ 52=4503599627370496:=by decide
 refine ⟨?_,?_,by omega,by omega⟩
 ·rw [←aA,show 52=n.log2+(52 - n.log2) from by omega,Nat.pow_add]
  exact Nat.mul_le_mul_right _ (by simpa using a1)
 ·rw [←aC,show 53=n.log2+1+(52 - n.log2) from by omega,Nat.pow_add]
  exact Nat.mul_lt_mul_of_pos_right a2 (Nat.two_pow_pos _)
def dn (n:Nat) (e:Int):Nat:=dw false (sg n) (e+n.log2 - 52)
theorem zmK {n:Nat} {e:Int} (h0:0<n) (h1:n<9007199254740992) (he : -1022≤e+n.log2) (he2:e+n.log2≤1023):double.write (.number false n e)=dn n e:=by
 have hn:=zdX h0 h1 he he2
 have hr:=hn.rung
 have aA:(2:Nat) ^ 53=9007199254740992:=by decide
 have a3:n.log2<53:=(Nat.log2_lt (by omega)).2 (by omega)
 show double.nearest false n e=_
 rw [zfW double false n (52 - n.log2) e h0 (by rw [zba];show max (e+(n.log2:Int) - ((52:Nat):Int)) (-1074)=_;omega) (by rw [zba,zbz,zee,show e - ((52 - n.log2:Nat):Int) - -1074=e+n.log2 - 52+1074 from by omega];exact Nat.le_of_lt hr)]
 unfold dn dw sg
 rw [zba,zbz,show e - ((52 - n.log2:Nat):Int) - -1074=e+n.log2 - 52+1074 from by omega]
theorem zlV {n:Nat} (h0:0<n) (h1:n<9007199254740992):floatOfInt .f64 (n:Int)=dn n 0:=by
 have aA:(2:Nat) ^ 53=9007199254740992:=by decide
 have a3:n.log2<53:=(Nat.log2_lt (by omega)).2 (by omega)
 rw [←zmK h0 h1 (e:=0) (by omega) (by omega)]
 unfold floatOfInt FloatKind.nearest FloatKind.encode
 simp [show ¬ (n:Int)<0 from by omega]
 rfl
theorem zhY {n:Nat} {e:Int} (h0:0<n) (h1:n<9007199254740992) (he : -1022≤e+n.log2) (he2:e+n.log2≤1023):double.read (dn n e) = .number false (sg n) (e+n.log2 - 52):=
 zcd false (zdX h0 h1 he he2)
set_option maxHeartbeats 20000
theorem zaV {f:Format} {b m:Nat} {s:Bool} {p:Int} (h:f.read b = .number s m p):fin f b=true:=by
 unfold fin;rw [h]
theorem za4 {f:Format} {b m:Nat} {p:Int} (h:f.read b = .number false m p):key f b=((m*2 ^ (p - f.leastPlace).toNat:Nat):Int):=by
 unfold key;rw [h]
 simp only [Ieee.signed,Nat.shiftLeft_eq]
 simp
theorem zip {n:Nat} {e:Int} (h0:0<n) (h1:n<9007199254740992) (he : -1022≤e+n.log2) (he2:e+n.log2≤1023):fin double (dn n e)=true:=
 zaV (zhY h0 h1 he he2)
theorem zih {n:Nat} {e:Int} (h0:0<n) (h1:n<9007199254740992) (he : -1022≤e+n.log2) (he2:e+n.log2≤1023) (hz : -1074≤e):key double (dn n e)=((n*2 ^ (e+1074).toNat:Nat):Int):=by
 have aA:(2:Nat) ^ 53=9007199254740992:=by decide
 have a3:n.log2<53:=(Nat.log2_lt (by omega)).2 (by omega)
 rw [za4 (zhY h0 h1 he he2),zba]
 unfold sg
 generalize hl:n.log2=l at *
 rw [Nat.mul_assoc,←Nat.pow_add,show 52 - l+(e+(l:Int) - 52 - -1074).toNat=(e+1074).toNat from by omega]
def rung (n:Nat) (e:Int):Nat:=(e+149).toNat*8388608+n
structure Rnd (n:Nat) (e:Int):Prop where
 place : -149≤e
 hi:n≤16777216
 lo:e = -149∨8388608≤n
theorem Rnd.log2 {n:Nat} {e:Int} (h:Rnd n e) (h0:0<n):n.log2≤24∧(n.log2=24→n=16777216)∧(e ≠ -149→23≤n.log2):=by
 have hh:=h.hi
 have aE:(2:Nat) ^ 25=33554432:=by decide
 have aD:(2:Nat) ^ 23=8388608:=by decide
 have aC:(2:Nat) ^ 24=16777216:=by decide
 refine ⟨?_,?_,?_⟩
 ·have:n.log2<25:=(Nat.log2_lt (by omega)).2 (by omega)
  omega
 ·intro hl
  have a1:=(Nat.le_log2 (n:=n) (k:=n.log2) (by omega)).1 (Nat.le_refl _)
  rw [hl] at a1;omega
 ·intro aA
  rcases h.lo with hl | hl
  ·exact absurd hl aA
  ·exact (Nat.le_log2 (by omega)).2 (by omega)
theorem znN (n d t:Nat) (h:n≤16777216) (hl:t<d→8388608≤n):2 ^ (24+t)≤n*2 ^ d↔(t<d∨(t=d∧n=16777216)):=by
 have aA:(2:Nat) ^ 24=16777216:=by decide
 have aC:(2:Nat) ^ 23=8388608:=by decide
 rcases Nat.lt_trichotomy d t with h1 | h1 | h1
 ·have hx:n*2 ^ d<2 ^ (24+t):=by
   rw [show 24+t=25+(t - 1) from by omega,Nat.pow_add]
   refine Nat.lt_of_le_of_lt (Nat.mul_le_mul_left n (Nat.pow_le_pow_right (by omega) (show d≤t - 1 by omega))) (Nat.mul_lt_mul_of_pos_right ?_ (Nat.two_pow_pos _))
   have aD:(2:Nat) ^ 25=33554432:=by decide
   omega
  constructor
  ·intro h;exact absurd h (Nat.not_le.2 hx)
  ·intro h;omega
 ·subst h1
  have hp:=Nat.two_pow_pos d
  rw [Nat.pow_add,aA]
  constructor
  ·intro h
   have:=Nat.le_of_mul_le_mul_right h hp
   omega
  ·rintro (h | ⟨_,h⟩)
   ·omega
   ·rw [h];exact Nat.le_refl _
 ·constructor
  ·intro _;exact Or.inl h1
  ·intro _
   rw [show 24+t=23+(1+t) from by omega,Nat.pow_add]
   exact Nat.mul_le_mul (by rw [aC];exact hl h1) (Nat.pow_le_pow_right (by omega) (by omega))
theorem zkw {e:Int} {u:Nat} (he : -1022≤e) (he2:e≤1023) (hu:e+1074=24+(u:Int)):key double (dn 1 e)=((2 ^ (24+u):Nat):Int):=by
 have b1:(1:Nat).log2=0:=by decide
 rw [zih (n:=1) (by omega) (by omega) (by rw [b1];omega) (by rw [b1];omega) (by omega),Nat.one_mul,show (e+1074).toNat=24+u from by omega]
theorem zkr {e:Int} (he : -1022≤e) (he2:e≤1023):fin double (dn 1 e)=true:=by
 have b1:(1:Nat).log2=0:=by decide
 exact zip (n:=1) (by omega) (by omega) (by rw [b1];omega) (by rw [b1];omega)
theorem zos {n:Nat} {e t:Int} (h:Rnd n e) (h0:0<n) (he2:e+n.log2≤1023) (ht:t=128):(double.order (dn n e) (dn 1 t)==some .gt || double.order (dn n e) (dn 1 t)==some .eq)=decide (2139095040≤rung n e):=by
 have hp:=h.place
 have hh:=h.hi
 have hl:=h.log2 h0
 obtain ⟨u,hu⟩:∃ u:Nat,(u:Int)=t+1050:=⟨(t+1050).toNat,by omega⟩
 obtain ⟨d,hd⟩:∃ d:Nat,(e+1074).toNat=d:=⟨_,rfl⟩
 have aA:=zkw (e:=t) (u:=u) (by omega) (by omega) (by omega)
 have aC:=zih h0 (by omega) (by omega) he2 (show -1074≤e by omega)
 have f1:=zip (n:=n) (e:=e) h0 (by omega) (by omega) he2
 have f2:=zkr (e:=t) (by omega) (by omega)
 rw [zcI f1 f2,aC,aA,hd]
 clear aC aA f1 f2
 have key:(2 ^ (24+u)≤n*2 ^ d)↔2139095040≤rung n e:=by
  rw [znN n d u hh (by intro _;rcases h.lo with h2 | h2<;>omega)]
  unfold rung
  constructor
  ·rintro (h1 | ⟨h1,h2⟩)
   ·have:8388608≤n:=by rcases h.lo with h2 | h2<;>omega
    omega
   ·omega
  ·intro h1
   omega
 clear hu hd
 generalize 2 ^ (24+u)=A at key
 generalize n*2 ^ d=B at key
 generalize rung n e=R at key
 by_cases hR:2139095040≤R
 ·rw [decide_eq_true hR]
  have:=key.2 hR
  rcases Nat.lt_or_ge A B with hx | hx
  ·rw [zg7 (by omega)];rfl
  ·have:A=B:=by omega
   subst this;rw [ziy];rfl
 ·rw [decide_eq_false hR]
  have:B<A:=by
   rcases Nat.lt_or_ge B A with hx | hx
   ·exact hx
   ·exact absurd (key.1 hx) hR
  rw [zfH (by omega)];rfl
theorem zlW (s:Bool) {R:Nat} (h:R<2139095040):(single.read (single.word s R)).isInfinity=false:=by
 unfold Format.read Format.word
 rw [zin,zdw,zhI]
 have e1:(if s=true then 2147483648+R else R) % 2147483648=R:=by split<;>omega
 simp only [e1]
 by_cases h1:R<8388608
 ·rw [if_pos h1];rfl
 ·rw [if_neg h1,if_pos h];rfl
theorem zid (s:Bool) {m k l:Nat} {p q:Int} (hm:0<m) (hlog:m.log2=l) (hq:p+k=q) (hl:max (q+l - 23) (-149)=q) (hr:(q+149).toNat*8388608+m≤2139095040) :
  single.write (.number s (m*2 ^ k) p)=single.word s ((q+149).toNat*8388608+m):=by
 show single.nearest s (m*2 ^ k) p=_
 subst hq
 rw [zeD single s m k p hm (by rw [hlog,zdP];exact hl) (by rw [zdP,zdw,zhI,show p+(k:Int) - -149=p+k+149 from by omega];exact hr)]
 rw [zdP,zdw,show p+(k:Int) - -149=p+k+149 from by omega]
theorem zjo {b m r:Nat} {s:Bool} {e:Int} (h:double.read b = .number s m e) (hw:single.write (.number s m e)=r) (hi:(single.read r).isInfinity=false):floatToFloatBits .f64 b .f32=some r:=by
 have h':FloatKind.f64.decode b = .number s m e:=h
 have aA:FloatKind.f32.encode (.number s m e)=r:=hw
 have aC:(FloatKind.f32.decode r).isInfinity=false:=hi
 unfold floatToFloatBits
 rw [if_neg (by decide),h']
 simp only [aA,aC]
 rfl
theorem znz (s:Bool) {n:Nat} {e:Int} (h:Rnd n e) (h0:0<n) (hR:rung n e<2139095040):floatToFloatBits .f64 (dw s (sg n) (e+n.log2 - 52)) .f32=some (single.word s (rung n e)):=by
 have hp:=h.place
 have hh:=h.hi
 have hl:=h.log2 h0
 have aF:=hl.1
 have he:e≤105:=by unfold rung at hR;omega
 have hn:=zdX (n:=n) (e:=e) h0 (by omega) (by omega) (by omega)
 refine zjo (zcd s hn) ?_ (zlW s hR)
 clear hn
 unfold sg rung at *
 by_cases h24:n.log2=24
 ·have aA:=hl.2.1 h24
  obtain ⟨m,hm⟩:∃ m:Nat,n=m*2:=⟨8388608,aA⟩
  have aH:m=8388608:=by omega
  have aD:(2:Nat) ^ 23=8388608:=by decide
  have aC:(2:Nat) ^ (23+1)=16777216:=by decide
  have aE:m.log2=23:=zkB (by rw [aD];omega) (by rw [aC];omega)
  have e1:n*2 ^ (52 - n.log2)=m*2 ^ 29:=by rw [h24,hm,Nat.mul_assoc]
  rw [e1,h24,zid s (k:=29) (q:=e+1) (by omega) aE (by omega) (by omega) (by omega),show (e+1+149).toNat*8388608+m=(e+149).toNat*8388608+n from by omega]
 ·have aG:n.log2≤23:=by omega
  have hc:max (e+(n.log2:Int) - 23) (-149)=e:=by
   by_cases h9:e = -149
   ·omega
   ·have:=hl.2.2 h9;omega
  rw [zid s (q:=e) h0 rfl (by omega) hc (by omega)]
end Go.Proofs.YteajibbphcfmeaaGreatDoor.Flt
namespace Go.Proofs.YteajibbphcfmeaaGreatDoor
open Go.RowKit Bn
set_option maxHeartbeats 4000000 in
set_option maxRecDepth 100000 in
theorem ziT (b:Bool) (x1 x2 s:Nat) (A1 A2:Option Addr) (n1 c1 n2 c2:Nat) (w:World) (h1:NatS w w.heap.size A1 n1 c1 x1) (h2:NatS w w.heap.size A2 n2 c2 x2) (k1:n1≤134217728) (_k2:n2≤134217728) (hs:s≤1099511627776) (hs0:0<s) :
  Calls Tryz.prog 148 #[.agg #[.bool b,.slice A1 n1 c1,.slice A2 n2 c2],.int .i64 (-(s:Int))] w (zfb w (x1*2 ^ s) x2):=by
 have aC:Below w.heap.size w (w.alloc (.cells #[.bool b,.slice A1 n1 c1,.slice A2 n2 c2] 91)):=(Below.refl _ _).alloc (Nat.le_refl _) _
 have aE:zad (w.alloc (.cells #[.bool b,.slice A1 n1 c1,.slice A2 n2 c2] 91)) w.heap.size b (.slice A1 n1 c1) (.slice A2 n2 c2):=zad.new w _ _ _
 have aJ:decide (-(s:Int)<0)=true:=by simp;omega
 have hw:wrap64 (s:Int)=(s:Int):=IntWalk.wrap64_in _ (by omega)
 have aI:IntKind.i64.wrap (s:Int)=(s:Int):=IntWalk.i64_in _ (by omega)
 have aH:IntKind.i64.wrap (- -(s:Int))=(s:Int):=by rw [Int.neg_neg];exact IntWalk.i64_in _ (by omega)
 go_enter Tryz.func148,Tryz.ntmps148
 go_wp2_with fail
 generalize (w.alloc (.cells #[.bool b,.slice A1 n1 c1,.slice A2 n2 c2] 91))=w3 at *
 obtain ⟨a0,a1,a2,_,_,_,al⟩:=aE.cells
 have aD:Below w3.heap.size w3 w3.drew:=Below.drew (Below.refl _ _)
 have g:=(h1.later aC).later aD
 go_region_held3 (fun w'=>w'.cell? ⟨w.heap.size,0,none⟩=some (.bool b)∧w'.cell? ⟨w.heap.size,1,none⟩=some (.slice A1 n1 c1)∧w'.cell? ⟨w.heap.size,2,none⟩=some (.slice A2 n2 c2))
  (first | exact ⟨a0,a1,a2⟩ | exact ⟨((aA.cell (p:=⟨w.heap.size,0,none⟩) al).trans a0),((aA.cell (p:=⟨w.heap.size,1,none⟩) al).trans a1),((aA.cell (p:=⟨w.heap.size,2,none⟩) al).trans a2)⟩)
  (first | (go_at_call 103;refine (zau A1 n1 c1 x1 s w3.drew g (by omega) hs).mono ?_;rintro e w4 ⟨A5,m5,c5,rfl,aF,aA⟩;have aK:=Nat.lt_of_lt_of_le al aA.size))
 have aG:Below w.heap.size w w4:=(aC.trans (aD.mono aC.size)).trans (aA.mono aC.size)
 have hO:=(((h2.later aC).later aD).later aA)
 go_wp2
 go_ret2
 exact ⟨A5,m5,c5,A2,n2,c2,rfl,aF,hO,aG⟩
set_option maxHeartbeats 4000000 in
set_option maxRecDepth 100000 in
theorem zjM (b:Bool) (x1 x2 s:Nat) (A1 A2:Option Addr) (n1 c1 n2 c2:Nat) (w:World) (h1:NatS w w.heap.size A1 n1 c1 x1) (h2:NatS w w.heap.size A2 n2 c2 x2) (_k1:n1≤134217728) (k2:n2≤134217728) (hs:s≤1099511627776) :
  Calls Tryz.prog 148 #[.agg #[.bool b,.slice A1 n1 c1,.slice A2 n2 c2],.int .i64 ((s:Int))] w (zfb w x1 (x2*2 ^ s)):=by
 have aC:Below w.heap.size w (w.alloc (.cells #[.bool b,.slice A1 n1 c1,.slice A2 n2 c2] 91)):=(Below.refl _ _).alloc (Nat.le_refl _) _
 have aE:zad (w.alloc (.cells #[.bool b,.slice A1 n1 c1,.slice A2 n2 c2] 91)) w.heap.size b (.slice A1 n1 c1) (.slice A2 n2 c2):=zad.new w _ _ _
 have aH:decide ((s:Int)<0)=false:=by simp
 go_enter Tryz.func148,Tryz.ntmps148
 go_wp2_with fail
 generalize (w.alloc (.cells #[.bool b,.slice A1 n1 c1,.slice A2 n2 c2] 91))=w3 at *
 obtain ⟨a0,a1,a2,_,_,_,al⟩:=aE.cells
 have aD:Below w3.heap.size w3 w3.drew:=Below.drew (Below.refl _ _)
 have g:=(h2.later aC).later aD
 go_region_held3 (fun w'=>w'.cell? ⟨w.heap.size,0,none⟩=some (.bool b)∧w'.cell? ⟨w.heap.size,1,none⟩=some (.slice A1 n1 c1)∧w'.cell? ⟨w.heap.size,2,none⟩=some (.slice A2 n2 c2))
  (first | exact ⟨a0,a1,a2⟩ | exact ⟨((aA.cell (p:=⟨w.heap.size,0,none⟩) al).trans a0),((aA.cell (p:=⟨w.heap.size,1,none⟩) al).trans a1),((aA.cell (p:=⟨w.heap.size,2,none⟩) al).trans a2)⟩)
  (first | (go_at_call 103;refine (zau A2 n2 c2 x2 s w3.drew g (by omega) hs).mono ?_;rintro e w4 ⟨A5,m5,c5,rfl,aF,aA⟩;have aI:=Nat.lt_of_lt_of_le al aA.size))
 have aG:Below w.heap.size w w4:=(aC.trans (aD.mono aC.size)).trans (aA.mono aC.size)
 have hO:=(((h1.later aC).later aD).later aA)
 go_wp2
 go_ret2
 exact ⟨A1,n1,c1,A5,m5,c5,rfl,hO,aF,aG⟩
def scT (t:Nat) (e:Int):Nat:=if e<0 then t*2 ^ (-e).toNat else t
def scB (b:Nat) (e:Int):Nat:=if e<0 then b else b*2 ^ e.toNat
theorem zf6 (b:Bool) (x1 x2:Nat) (i:Int) (A1 A2:Option Addr) (n1 c1 n2 c2:Nat) (w:World) (h1:NatS w w.heap.size A1 n1 c1 x1) (h2:NatS w w.heap.size A2 n2 c2 x2) (k1:n1≤134217728) (k2:n2≤134217728) (hs : -1099511627776≤i∧i≤1099511627776) :
  Calls Tryz.prog 148 #[.agg #[.bool b,.slice A1 n1 c1,.slice A2 n2 c2],.int .i64 i] w (zfb w (scT x1 i) (scB x2 i)):=by
 by_cases h:i<0
 ·obtain ⟨s,rfl⟩:∃ s:Nat,i = -(s:Int):=⟨(-i).toNat,by omega⟩
  have e1:scT x1 (-(s:Int))=x1*2 ^ s:=by unfold scT;rw [if_pos h];congr 2;omega
  have e2:scB x2 (-(s:Int))=x2:=by unfold scB;rw [if_pos h]
  rw [e1,e2]
  exact ziT b x1 x2 s A1 A2 n1 c1 n2 c2 w h1 h2 k1 k2 (by omega) (by omega)
 ·obtain ⟨s,rfl⟩:=Int.eq_ofNat_of_zero_le (Int.not_lt.1 h)
  have e1:scT x1 (s:Int)=x1:=by unfold scT;rw [if_neg h]
  have e2:scB x2 (s:Int)=x2*2 ^ s:=by unfold scB;rw [if_neg h];simp
  rw [e1,e2]
  exact zjM b x1 x2 s A1 A2 n1 c1 n2 c2 w h1 h2 k1 k2 (by omega)
end Go.Proofs.YteajibbphcfmeaaGreatDoor
