/- Plain: codes of voltages by integers: what a code says of its voltage; nominal voltages as floats. No program. -/
import Derived.Test.YtmkihdjolnlccaaGreatDoorQRp3
import Derived.Test.YtmkihdjolnlccaaGreatDoorQCdm3
import Derived.Test.YtmkihdjolnlccaaGreatDoorQAwe
import Derived.Test.YtmkihdjolnlccaaGreatDoorQRc9
import Derived.Test.YtmkihdjolnlccaaGreatDoorQRv1
import Derived.Test.YtmkihdjolnlccaaGreatDoorQRc8
namespace Go.Proofs.YtmkihdjolnlccaaGreatDoor
open Go.RowKit Bn
open Flt
theorem zc5 {p q:Q} {a b:Int} {x y:Nat} (hp:Val p a x) (hq:Val q b y):cmpI p q=(a*(y:Int) - b*(x:Int)).sign:=by
 obtain ⟨h1,h2,h3⟩:=hp
 obtain ⟨h4,h5,h6⟩:=hq
 rw [zd5 h3 h6]
 have e:(sI p*(q.bot:Int) - sI q*(p.bot:Int))*((x:Int)*(y:Int))=(a*(y:Int) - b*(x:Int))*((p.bot:Int)*(q.bot:Int)):=by
  generalize sI p=s at *
  generalize sI q=t at *
  generalize (p.bot:Int)=pb at *
  generalize (q.bot:Int)=qb at *
  generalize (x:Int)=X at *
  generalize (y:Int)=Y at *
  grind
 have s1:((x:Int)*(y:Int)).sign=1:=Int.sign_eq_one_of_pos (Int.mul_pos (by omega) (by omega))
 have s2:((p.bot:Int)*(q.bot:Int)).sign=1:=Int.sign_eq_one_of_pos (Int.mul_pos (by omega) (by omega))
 have h:=congrArg Int.sign e
 rw [Int.sign_mul _ ((x:Int)*(y:Int)),Int.sign_mul _ ((p.bot:Int)*(q.bot:Int)),s1,s2,Int.mul_one,Int.mul_one] at h
 exact h
theorem zfO {x:Int} (h:x≤0):x.sign≤0:=by
 rcases Int.lt_or_eq_of_le h with h | h
 ·rw [Int.sign_eq_neg_one_of_neg h];decide
 ·rw [h];decide
theorem zsb {x:Int} (h:x<0):x.sign = -1:=Int.sign_eq_neg_one_of_neg h
theorem zoZ {x:Int} (h:0<x):x.sign=1:=Int.sign_eq_one_of_pos h
theorem Val.abs {p:Q} {a:Int} {x:Nat} (h:Val p a x):Val (absQ p) (a.natAbs:Int) x:=by
 obtain ⟨h1,h2,h3⟩:=h
 refine ⟨?_,h2,h3⟩
 have e:=congrArg Int.natAbs h1
 rw [Int.natAbs_mul,Int.natAbs_mul,zgT,Int.natAbs_natCast,Int.natAbs_natCast] at e
 show ((p.top:Nat):Int)*(x:Int)=(a.natAbs:Int)*(p.bot:Int)
 rw [←Int.natCast_mul,e,Int.natCast_mul]
def hU (st:Int):Nat:=2 ^ (st - 1+149).toNat
theorem zkz (st:Int):0<hU st:=Nat.two_pow_pos _
theorem znU {st:Int} (h : -20≤st):2 ^ (st+149).toNat=hU st*2:=by
 unfold hU
 rw [←Nat.pow_succ,show (st+149).toNat=(st - 1+149).toNat+1 by omega]
theorem zm9 {st:Int} (h : -20≤st∧st≤4):Val (lsbQ st) ((hU st:Int)*2) (2 ^ 149):=by
 have h1:=Val.lsb h
 rw [znU h.1] at h1
 exact_mod_cast h1
theorem zf9 {st z c:Int} (h : -20≤st∧st≤4):Val (nomQ st z c) ((c - z)*((hU st:Int)*2)) (2 ^ 149):=by
 have h1:=zhI (z:=z) (c:=c) h
 rw [znU h.1] at h1
 exact_mod_cast h1
theorem zqO {st z c:Int} (h : -20≤st∧st≤4):Val (lowE st z c) ((2*(c - z) - 1)*(hU st:Int)) (2 ^ 149):=Val.below (zm9 h) (c - z)
theorem zoS {st z c:Int} (h : -20≤st∧st≤4):Val (zfK st z c) ((2*(c - z+1) - 1)*(hU st:Int)) (2 ^ 149):=Val.above (zm9 h) (c - z)
theorem zrf {st:Int} (h : -20≤st∧st≤4):Val (zhS st) (hU st:Int) (2 ^ 149):=by
 have h1:=(zm9 h).mul Val.half
 refine Val.trans h1 (Nat.two_pow_pos _) ?_
 generalize (2:Nat) ^ 149=T
 push_cast
 grind
theorem zd9 {st d:Int} (h : -20≤st∧st≤4) (hd2:d.natAbs≤4096):fin Ieee.single (nomW d st)=true∧key Ieee.single (nomW d st)=d*((hU st:Int)*2):=by
 by_cases hd:d=0
 ·subst hd
  have e:nomW 0 st=0:=by unfold nomW;rw [if_pos rfl]
  rw [e,zbv.2,Int.zero_mul]
  exact ⟨zbv.1,rfl⟩
 ·have hlog:d.natAbs.log2≤16:=zes (by omega)
  obtain ⟨n',e',hw,hr,hn0,hR,hval,hn2,he3⟩:=zh9 hd (by omega) (e:=st) (by omega) (by omega)
  obtain ⟨k1,k2⟩:=zhk (decide (d<0)) hr hR
  rw [hw]
  refine ⟨k1,k2.trans ?_⟩
  rw [hval,znU h.1]
  by_cases hneg:d<0
  ·rw [decide_eq_true hneg,if_pos rfl,Int.natCast_mul,show ((d.natAbs:Nat):Int) = -d by omega]
   push_cast
   grind
  ·rw [decide_eq_false hneg,if_neg (by simp),Int.natCast_mul,show ((d.natAbs:Nat):Int)=d by omega]
   push_cast
   rfl
theorem zpB {st z c:Int} (h : -20≤st∧st≤4) (hd2:(c - z).natAbs≤4096):zdC (key Ieee.single (nomW (c - z) st))=nomQ st z c:=by
 refine (zjL ?_ (zbx st z c)).symm
 rw [(zd9 h hd2).2]
 exact zf9 h
theorem zjr {st:Int} (h : -20≤st∧st≤4) {d e:Int} (hd:d.natAbs≤4096) (he:e.natAbs≤4096):Op.floatEq .f32 (nomW d st) (nomW e st)=decide (d=e):=by
 obtain ⟨f1,k1⟩:=zd9 h hd
 obtain ⟨f2,k2⟩:=zd9 h he
 refine (zhl f1 f2).trans ?_
 rw [k1,k2]
 have hU0:=zkz st
 by_cases hde:d=e
 ·rw [hde,decide_eq_true rfl,decide_eq_true rfl]
 ·rw [decide_eq_false hde,decide_eq_false]
  intro h9
  exact hde (Int.eq_of_mul_eq_mul_right (by omega) h9)
structure Coded (n:Nat) (st z:Int) (q:Q) (c d:Int):Prop where
 lo:0≤c
 hi:c≤((2 ^ n - 1:Nat):Int)
 say:(d=0∧(2*(c - z) - 1)*(hU st:Int)*(q.bot:Int)≤sI q*((2 ^ 149:Nat):Int)∧sI q*((2 ^ 149:Nat):Int)<(2*(c - z+1) - 1)*(hU st:Int)*(q.bot:Int)) ∨
  (d = -1∧c=0∧sI q*((2 ^ 149:Nat):Int)<(2*(c - z) - 1)*(hU st:Int)*(q.bot:Int)) ∨
  (d=1∧c=((2 ^ n - 1:Nat):Int)∧(2*(c - z+1) - 1)*(hU st:Int)*(q.bot:Int)≤sI q*((2 ^ 149:Nat):Int))
def Bnd (q:Q) (n:Nat) (st z:Int) (k:Nat):Prop:=k≤2 ^ n+1∧∀ t:Nat,t<2 ^ n+1→(t<k↔zdb q z (st - 1) t≤sI q*((2 ^ 149:Nat):Int))
theorem zkv {q:Q} {n:Nat} {st z:Int} {k:Nat} (h:Bnd q n st z k):Coded n st z q (za1 n k) (zfh n k):=by
 obtain ⟨hk,hb⟩:=h
 have hp:0<2 ^ n:=Nat.two_pow_pos n
 have he:∀ t:Nat,zdb q z (st - 1) t=(2*((t:Int) - z) - 1)*(hU st:Int)*(q.bot:Int):=fun t=>rfl
 simp only [he] at hb
 obtain ⟨X,hX⟩:∃ X,sI q*((2 ^ 149:Nat):Int)=X:=⟨_,rfl⟩
 obtain ⟨P,hP⟩:∃ P,2 ^ n=P:=⟨_,rfl⟩
 suffices hs:0≤za1 n k∧za1 n k≤((P - 1:Nat):Int)∧((zfh n k=0∧(2*(za1 n k - z) - 1)*(hU st:Int)*(q.bot:Int)≤X∧X<(2*(za1 n k - z+1) - 1)*(hU st:Int)*(q.bot:Int)) ∨
   (zfh n k = -1∧za1 n k=0∧X<(2*(za1 n k - z) - 1)*(hU st:Int)*(q.bot:Int)) ∨
   (zfh n k=1∧za1 n k=((P - 1:Nat):Int)∧(2*(za1 n k - z+1) - 1)*(hU st:Int)*(q.bot:Int)≤X)) by
  subst hX hP
  exact ⟨hs.1,hs.2.1,hs.2.2⟩
 rw [hX] at hb
 unfold za1 zfh
 simp only [hP] at hk hp hb ⊢
 clear hX hP
 by_cases h0:k=0
 ·subst h0
  rw [if_pos rfl,if_pos rfl]
  have h1:=(hb 0 (by omega)).2
  refine ⟨Int.le_refl _,by omega,.inr (.inl ⟨rfl,rfl,?_⟩)⟩
  rcases Int.lt_or_le X ((2*((0:Int) - z) - 1)*(hU st:Int)*(q.bot:Int)) with h2 | h2
  ·exact h2
  ·have:=h1 (by exact_mod_cast h2);omega
 ·rw [if_neg h0,if_neg h0]
  by_cases h1:k=P+1
  ·rw [if_pos h1,if_pos h1]
   refine ⟨by omega,Int.le_refl _,.inr (.inr ⟨rfl,rfl,?_⟩)⟩
   have h2:=(hb P (by omega)).1 (by omega)
   rw [show ((P - 1:Nat):Int) - z+1=(P:Int) - z by omega]
   exact h2
  ·rw [if_neg h1,if_neg h1]
   refine ⟨by omega,by omega,.inl ⟨rfl,?_,?_⟩⟩
   ·have h2:=(hb (k - 1) (by omega)).1 (by omega)
    rw [show ((k - 1:Nat):Int)=(k:Int) - 1 by omega] at h2
    exact h2
   ·rw [show (k:Int) - 1 - z+1=(k:Int) - z by omega]
    rcases Int.lt_or_le X ((2*((k:Int) - z) - 1)*(hU st:Int)*(q.bot:Int)) with h2 | h2
    ·exact h2
    ·have:=(hb k (by omega)).2 h2;omega
theorem zsh {n:Nat} {st z c:Int} {k:Nat} (hst : -20≤st∧st≤4) (h:Bnd (nomQ st z c) n st z k) (h0:0≤c) (h1:c≤((2 ^ n - 1:Nat):Int)):za1 n k=c∧zfh n k=0:=by
 obtain ⟨hk,hb⟩:=h
 have hp:0<2 ^ n:=Nat.two_pow_pos n
 have hv:=(zf9 (z:=z) (c:=c) hst).1
 have hU0:=zkz st
 have hb0:0<(nomQ st z c).bot:=(zbx st z c).1
 have he:∀ t:Nat,zdb (nomQ st z c) z (st - 1) t=(2*((t:Int) - z) - 1)*(hU st:Int)*((nomQ st z c).bot:Int):=fun t=>rfl
 simp only [he,hv] at hb
 have hiff:∀ t:Nat,t<2 ^ n+1→(t<k↔(t:Int)≤c):=fun t ht=>by
  rw [hb t ht]
  have hM:(0:Int)<(hU st:Int)*((nomQ st z c).bot:Int):=Int.mul_pos (by omega) (by omega)
  have e1:(2*((t:Int) - z) - 1)*(hU st:Int)*((nomQ st z c).bot:Int)=(2*((t:Int) - z) - 1)*((hU st:Int)*((nomQ st z c).bot:Int)):=Int.mul_assoc _ _ _
  have e2:(c - z)*((hU st:Int)*2)*((nomQ st z c).bot:Int)=(2*(c - z))*((hU st:Int)*((nomQ st z c).bot:Int)):=by grind
  rw [e1,e2]
  generalize (hU st:Int)*((nomQ st z c).bot:Int)=M at *
  constructor
  ·intro h9
   rcases Int.lt_or_le c t with h8 | h8
   ·exfalso
    have h7:(2*(c - z)+1)*M≤(2*((t:Int) - z) - 1)*M:=Int.mul_le_mul_of_nonneg_right (by omega) (by omega)
    rw [Int.add_mul,Int.one_mul] at h7
    omega
   ·exact h8
  ·intro h9
   exact Int.mul_le_mul_of_nonneg_right (by omega) (by omega)
 have hkc:(k:Int)=c+1:=by
  obtain ⟨m,rfl⟩:=Int.eq_ofNat_of_zero_le h0
  have h2:=(hiff m (by omega)).2 (Int.le_refl _)
  have h3:=hiff (m+1) (by omega)
  omega
 unfold za1 zfh
 generalize 2 ^ n=P at *
 rw [if_neg (by omega),if_neg (by omega),if_neg (by omega),if_neg (by omega)]
 exact ⟨by omega,rfl⟩
theorem zmW {st z c c':Int} (h : -20≤st∧st≤4) (hc:c≤c'):cmpI (nomQ st z c) (nomQ st z c')≤0:=by
 rw [zc5 (zf9 h) (zf9 h)]
 refine zfO ?_
 have hT:(0:Int)≤((2 ^ 149:Nat):Int):=Int.natCast_nonneg _
 generalize ((2 ^ 149:Nat):Int)=T at *
 have h1:(c - z)*((hU st:Int)*2)*T≤(c' - z)*((hU st:Int)*2)*T:=Int.mul_le_mul_of_nonneg_right (Int.mul_le_mul_of_nonneg_right (by omega) (by omega)) hT
 omega
theorem zss {st z c:Int} (h : -20≤st∧st≤4):cmpI (lowE st z c) (zfK st z c)≤0:=by
 rw [zc5 (zqO h) (zoS h)]
 refine zfO ?_
 have hT:(0:Int)≤((2 ^ 149:Nat):Int):=Int.natCast_nonneg _
 generalize ((2 ^ 149:Nat):Int)=T at *
 have h1:(2*(c - z) - 1)*(hU st:Int)*T≤(2*(c - z+1) - 1)*(hU st:Int)*T:=Int.mul_le_mul_of_nonneg_right (Int.mul_le_mul_of_nonneg_right (by omega) (by omega)) hT
 omega
section
variable {n:Nat} {st z c:Int} {q:Q} (hst : -20≤st∧st≤4) (hq:0<q.bot)
include hst hq
theorem Coded.near (h:Coded n st z q c 0):cmpI (absQ (subQ q (nomQ st z c))) (zhS st)≤0∧cmpI (lowE st z c) q≤0∧cmpI q (zfK st z c)≤0:=by
 obtain ⟨_,_,h1⟩:=h
 have h2:(2*(c - z) - 1)*(hU st:Int)*(q.bot:Int)≤sI q*((2 ^ 149:Nat):Int)∧sI q*((2 ^ 149:Nat):Int)<(2*(c - z+1) - 1)*(hU st:Int)*(q.bot:Int):=by
  rcases h1 with ⟨_,h2,h3⟩ | ⟨h9,_⟩ | ⟨h9,_⟩
  ·exact ⟨h2,h3⟩
  ·exact absurd h9 (by decide)
  ·exact absurd h9 (by decide)
 obtain ⟨h2,h3⟩:=h2
 have hv:=zhM q hq
 rw [zc5 ((hv.sub (zf9 hst)).abs) (zrf hst),zc5 (zqO hst) hv,zc5 hv (zoS hst)]
 have hT:(0:Int)≤((2 ^ 149:Nat):Int):=Int.natCast_nonneg _
 refine ⟨zfO ?_,zfO (by omega),zfO (by omega)⟩
 rw [Int.natCast_mul]
 generalize ((2 ^ 149:Nat):Int)=T at *
 generalize sI q*T=X at *
 have e1:(2*(c - z) - 1)*(hU st:Int)*(q.bot:Int)=(c - z)*((hU st:Int)*2)*(q.bot:Int) - (hU st:Int)*(q.bot:Int):=by grind
 have e2:(2*(c - z+1) - 1)*(hU st:Int)*(q.bot:Int)=(c - z)*((hU st:Int)*2)*(q.bot:Int)+(hU st:Int)*(q.bot:Int):=by grind
 rw [e1] at h2
 rw [e2] at h3
 generalize (c - z)*((hU st:Int)*2)*(q.bot:Int)=Y at *
 have h4:((X - Y).natAbs:Int)≤(hU st:Int)*(q.bot:Int):=by omega
 have h5:((X - Y).natAbs:Int)*T≤(hU st:Int)*(q.bot:Int)*T:=Int.mul_le_mul_of_nonneg_right h4 hT
 have e3:(hU st:Int)*((q.bot:Int)*T)=(hU st:Int)*(q.bot:Int)*T:=(Int.mul_assoc _ _ _).symm
 rw [e3]
 omega
theorem Coded.below (h:Coded n st z q c (-1)):c=0∧cmpI q (nomQ st z c) = -1:=by
 obtain ⟨_,_,h1⟩:=h
 rcases h1 with ⟨h9,_⟩ | ⟨_,h2,h3⟩ | ⟨h9,_⟩
 ·exact absurd h9 (by decide)
 ·refine ⟨h2,?_⟩
  rw [zc5 (zhM q hq) (zf9 hst)]
  refine zsb ?_
  have hU0:=zkz st
  have e1:(2*(c - z) - 1)*(hU st:Int)*(q.bot:Int)=(c - z)*((hU st:Int)*2)*(q.bot:Int) - (hU st:Int)*(q.bot:Int):=by grind
  have h4:(0:Int)<(hU st:Int)*(q.bot:Int):=Int.mul_pos (by omega) (by omega)
  omega
 ·exact absurd h9 (by decide)
theorem Coded.above (h:Coded n st z q c 1):c=((2 ^ n - 1:Nat):Int)∧cmpI q (nomQ st z c)=1:=by
 obtain ⟨_,_,h1⟩:=h
 rcases h1 with ⟨h9,_⟩ | ⟨h9,_⟩ | ⟨_,h2,h3⟩
 ·exact absurd h9 (by decide)
 ·exact absurd h9 (by decide)
 ·refine ⟨h2,?_⟩
  rw [zc5 (zhM q hq) (zf9 hst)]
  refine zoZ ?_
  have hU0:=zkz st
  have e1:(2*(c - z+1) - 1)*(hU st:Int)*(q.bot:Int)=(c - z)*((hU st:Int)*2)*(q.bot:Int)+(hU st:Int)*(q.bot:Int):=by grind
  have h4:(0:Int)<(hU st:Int)*(q.bot:Int):=Int.mul_pos (by omega) (by omega)
  omega
end
theorem zlP {n k k':Nat} (h:k≤k') (hk:k'≤2 ^ n+1):za1 n k≤za1 n k':=by
 have hp:0<2 ^ n:=Nat.two_pow_pos n
 unfold za1
 generalize 2 ^ n=P at *
 split
 ·split
  ·omega
  ·split<;>omega
 ·split
  ·rw [if_neg (by omega),if_pos (by omega)]
   exact Int.le_refl _
  ·rw [if_neg (by omega)]
   split<;>omega
theorem zkx {p q:Q} {n:Nat} {st z:Int} {k k':Nat} (hp:0<p.bot) (hq:0<q.bot) (h:Bnd p n st z k) (h':Bnd q n st z k') (hle:cmpI p q≤0):za1 n k≤za1 n k':=by
 refine zlP ?_ h'.1
 rcases Nat.lt_or_ge k' k with h9 | h9
 ·exfalso
  have ht:k'<2 ^ n+1:=by have:=h.1;omega
  have h1:=(h.2 k' ht).1 h9
  have h2:¬ zdb q z (st - 1) k'≤sI q*((2 ^ 149:Nat):Int):=fun h8=>by have:=(h'.2 k' ht).2 h8;omega
  rw [zd5 hp hq] at hle
  have h3:sI p*(q.bot:Int)≤sI q*(p.bot:Int):=by
   rcases Int.lt_or_le (sI q*(p.bot:Int)) (sI p*(q.bot:Int)) with h8 | h8
   ·rw [zoZ (by omega)] at hle
    exact absurd hle (by decide)
   ·exact h8
  unfold zdb at h1 h2
  have hT:(0:Int)≤((2 ^ 149:Nat):Int):=Int.natCast_nonneg _
  generalize ((2 ^ 149:Nat):Int)=T at *
  generalize (2*((k':Int) - z) - 1)*((2 ^ (st - 1+149).toNat:Nat):Int)=E at *
  refine h2 ?_
  have hpb:(0:Int)<(p.bot:Int):=by omega
  refine Int.le_of_mul_le_mul_right ?_ hpb
  have h4:E*(p.bot:Int)*(q.bot:Int)≤sI p*T*(q.bot:Int):=Int.mul_le_mul_of_nonneg_right h1 (by omega)
  have h5:sI p*(q.bot:Int)*T≤sI q*(p.bot:Int)*T:=Int.mul_le_mul_of_nonneg_right h3 hT
  have e1:E*(q.bot:Int)*(p.bot:Int)=E*(p.bot:Int)*(q.bot:Int):=by grind
  have e2:sI q*T*(p.bot:Int)=sI q*(p.bot:Int)*T:=by grind
  have e3:sI p*T*(q.bot:Int)=sI p*(q.bot:Int)*T:=by grind
  rw [e1,e2]
  rw [e3] at h4
  omega
 ·exact h9
theorem zq9 {p q:Q} (hp:0<p.bot) (hq:0<q.bot):cmpI q p = -cmpI p q:=by
 rw [zd5 hp hq,zd5 hq hp,←Int.sign_neg]
 congr 1
 omega
end Go.Proofs.YtmkihdjolnlccaaGreatDoor
namespace Go.Proofs.YtmkihdjolnlccaaGreatDoor
open Go.RowKit
open Flt
end Go.Proofs.YtmkihdjolnlccaaGreatDoor
namespace Go.Proofs.YtmkihdjolnlccaaGreatDoor
open Go.RowKit Bn
open Flt
def zov (a st z:Int) (g o v:ByteArray) (k d E:Int):Prop:=∀ W,Tabs W→Calls Tryz.prog 31 #[.agg #[.int .i64 a,.int .i64 st,.int .i64 z,.string g,.string o],.string v] W fun e w'=>e = .returned (.tuple #[.int .i64 k,.int .i64 d,.int .i64 E])∧Below W.heap.size W w'
theorem zrv {n:Nat} {st z:Int} {g o:ByteArray} (n1:8≤n) (n2:n≤12) (hst : -20≤st∧st≤4) (hz:0≤z∧z≤((2 ^ n - 1:Nat):Int)) (hg:g.size≤4294967296) (ho:o.size≤4294967296)
  (eg:zam g.data.toList=0) (sg:0<zbs (zad g.data.toList)) (eo:zam o.data.toList=0):Conv n st z g o:=by
 refine ⟨⟨n1,n2⟩,hst,hz,hg,ho,eg,?_,eo⟩
 have hl:=(zdr eg).2
 rw [ziK hl]
 rcases zcS _ hl with ⟨_,h⟩ | ⟨_,_,h⟩ | ⟨_,_,h⟩
 ·rw [h] at sg;exact absurd sg (by decide)
 ·rw [h] at sg;exact absurd sg (by decide)
 ·exact h
def smpL (n:Nat) (st z:Int) (ks:List Nat):List Nat:=ks.map fun k=>nomW (za1 n k - z) st
def codL (n:Nat) (ks:List Nat):List Nat:=ks.map fun k=>(za1 n k).toNat
def ziO (n:Nat) (st z:Int) (g o:ByteArray) (l:List ByteArray) (ks:List Nat):Prop:=
 ∀ (A:Option Addr) (m c:Nat) (W:World),Tabs W→zae W W.heap.size 1 A m (l.map strv)→Calls Tryz.prog 11 #[.agg #[.int .i64 n,.int .i64 st,.int .i64 z,.string g,.string o],.slice A m c] W fun e w'=>
  ∃ b,e = .returned (.tuple #[.slice (some ⟨b,0,none⟩) m m,.int .i64 0])∧W.heap.size≤b∧b<w'.heap.size∧zae w' w'.heap.size 1 (some ⟨b,0,none⟩) m ((smpL n st z ks).map f32v)∧Below W.heap.size W w'
def znV (n:Nat) (st z:Int) (g o:ByteArray) (ks:List Nat):Prop:=
 ∀ (A:Option Addr) (m c:Nat) (W:World),Tabs W→zae W W.heap.size 1 A m ((smpL n st z ks).map f32v)→Calls Tryz.prog 13 #[.agg #[.int .i64 n,.int .i64 st,.int .i64 z,.string g,.string o],.slice A m c] W fun e w'=>
  ∃ b,e = .returned (.tuple #[.slice (some ⟨b,0,none⟩) m m,.int .i64 0])∧W.heap.size≤b∧b<w'.heap.size∧zae w' w'.heap.size 1 (some ⟨b,0,none⟩) m ((codL n ks).map natv)∧Below W.heap.size W w'
theorem ziZ {w:World} {b n:Nat} {t:TypeId} {xs:List Value} (h:w.ownsRow b t 1 (.slice (some ⟨b,0,none⟩) n n) n xs):zae w w.heap.size 1 (some ⟨b,0,none⟩) n xs∧b<w.heap.size:=by
 obtain ⟨A3,c3,e3,_,_,hr3⟩:=zbo h
 injection e3 with e3
 subst e3
 refine ⟨hr3,?_⟩
 rcases h.2 with ⟨h1,_⟩ | ⟨g',cap,cur,h1,_,hg,_⟩
 ·cases h1
 ·injection h1 with h1
  injection h1 with h1
  injection h1 with h1
  subst h1
  rcases Nat.lt_or_ge b w.heap.size with h2 | h2
  ·exact h2
  ·rw [Array.getElem?_eq_none h2] at hg;cases hg
theorem zlp (n:Nat) (st z:Int) (g o:ByteArray) (l:List ByteArray) (h:Conv n st z g o) (hl:l.length≤4096) (hv:∀ s ∈ l,s.size≤4294967296∧zam s.data.toList=0) :
  ∃ ks:List Nat,ks.length=l.length∧(∀ (i:Nat) (s:ByteArray) (k:Nat),l[i]? = some s→ks[i]? = some k→Bnd (zad s.data.toList) n st z k)∧ziO n st z g o l ks:=by
 have hex:∀ s:ByteArray,∃ k:Nat,s.size≤4294967296∧zam s.data.toList=0→zsX s n st z k∧∀ w:World,Tabs w→Calls Tryz.prog 68 #[.agg #[.int .i64 n,.int .i64 st,.int .i64 z,.string g,.string o],.string s] w fun e w'=>
   e = .returned (.float .f32 (nomW (za1 n k - z) st))∧Below w.heap.size w w':=fun s=>by
  by_cases hq:s.size≤4294967296∧zam s.data.toList=0
  ·obtain ⟨k,h1,h2⟩:=zih s n st z g o h hq.1 hq.2
   exact ⟨k,fun _=>⟨h1,h2⟩⟩
  ·exact ⟨0,fun h1=>absurd h1 hq⟩
 obtain ⟨K,hK⟩:=Classical.skolem.1 hex
 refine ⟨l.map K,by rw [List.length_map],fun i s k hi hk => ?_,fun A m c W hT hA => ?_⟩
 ·rw [List.getElem?_map,hi] at hk
  injection hk with hk
  subst hk
  exact (hK s (hv s (List.mem_of_getElem? hi))).1
 ·have hm:l.length=m:=hA.lenM
  have e:smpL n st z (l.map K)=l.map fun s=>nomW (za1 n (K s) - z) st:=by unfold smpL;rw [List.map_map];rfl
  refine (zg5 n st z g o A m c l (smpL n st z (l.map K)) W hT h hA (by omega) hv (by unfold smpL;rw [List.length_map,List.length_map];exact hm) fun i s y W' hTW hi hy => ?_).mono ?_
  ·rw [e,List.getElem?_map,hi] at hy
   injection hy with hy
   subst hy
   exact (hK s (hv s (List.mem_of_getElem? hi))).2 W' hTW
  ·rintro en w' ⟨b,rfl,hb,ho,hbel⟩
   obtain ⟨hr,hlt⟩:=ziZ ho
   exact ⟨b,rfl,hb,hlt,hr,hbel⟩
theorem zpf (n:Nat) (st z:Int) (g o:ByteArray) (ks:List Nat) (h:Conv n st z g o) (hl:ks.length≤4096) (hk:∀ k ∈ ks,k≤2 ^ n+1):znV n st z g o ks:=by
 intro A m c W hT hA
 have hst:=h.step
 have hz:=h.zero
 have hp:2 ^ n≤4096:=by
  have:=Nat.pow_le_pow_right (show 0<2 by omega) h.bits.2
  have e:(2:Nat) ^ 12=4096:=by decide
  omega
 have hp0:0<2 ^ n:=Nat.two_pow_pos n
 have hm:ks.length=m:=by have h9:=hA.lenM;unfold smpL at h9;rwa [List.length_map] at h9
 have hcc:∀ k ∈ ks,0≤za1 n k∧za1 n k≤((2 ^ n - 1:Nat):Int):=fun k hk'=>by
  have h1:=hk k hk'
  unfold za1
  generalize 2 ^ n=P at *
  split
  ·omega
  ·split<;>omega
 refine (zkS n st z g o A m c (smpL n st z ks) (codL n ks) W hT h (2 ^ n - 1) (by omega) ?_ hA (by omega) ?_ (by unfold codL;rw [List.length_map];exact hm) ?_).mono ?_
 ·intro a b ha hb
  show Op.floatEq .f32 (nomW ((a:Int) - z) st) (nomW ((b:Int) - z) st)=false
  rw [zjr hst (by omega) (by omega)]
  exact decide_eq_false (by omega)
 ·intro x hx
  unfold smpL at hx
  obtain ⟨k,hk',rfl⟩:=List.mem_map.1 hx
  have:=hcc k hk'
  exact (zd9 hst (by omega)).1
 ·intro i y k hy hc
  unfold smpL at hy
  unfold codL at hc
  rw [List.getElem?_map] at hy hc
  cases hi:ks[i]? with
  | none=>rw [hi] at hy;cases hy
  | some k'=>
   rw [hi] at hy hc
   injection hy with hy
   injection hc with hc
   obtain rfl:y=nomW (za1 n k' - z) st:=hy.symm
   obtain rfl:k=(za1 n k').toNat:=hc.symm
   have h1:=hcc k' (List.mem_of_getElem? hi)
   have e:(((za1 n k').toNat:Nat):Int)=za1 n k':=Int.toNat_of_nonneg h1.1
   refine ⟨by omega,?_,fun d hd => ?_⟩
   ·show Op.floatEq .f32 (nomW (za1 n k' - z) st) (nomW (((za1 n k').toNat:Int) - z) st)=true
    rw [e,zjr hst (by omega) (by omega)]
    exact decide_eq_true rfl
   ·show Op.floatEq .f32 (nomW (za1 n k' - z) st) (nomW ((d:Int) - z) st)=false
    rw [zjr hst (by omega) (by omega)]
    exact decide_eq_false (by omega)
 ·rintro en w' ⟨b,rfl,hb,ho,hbel⟩
  obtain ⟨hr,hlt⟩:=ziZ ho
  exact ⟨b,rfl,hb,hlt,hr,hbel⟩
theorem zpj (n:Nat) (st z c:Int) (g o v:ByteArray) (h:Conv n st z g o) (hv:NumQ v (nomQ st z c)) (h0:0≤c) (h1:c≤((2 ^ n - 1:Nat):Int)):zov n st z g o v c 0 0:=by
 have hst:=h.step
 have hz:=h.zero
 have hp:2 ^ n≤4096:=by
  have:=Nat.pow_le_pow_right (show 0<2 by omega) h.bits.2
  have e:(2:Nat) ^ 12=4096:=by decide
  omega
 have hs:Small (nomQ st z c) 20:=zdz hst (by omega)
 obtain ⟨e1,e2⟩:=zhW hv hs (by omega) (by omega)
 have hb:=hv.size hs (by omega)
 obtain ⟨k,hk,h3,h4⟩:=zgJ v n st z g o h (by omega) e1
 rw [e2] at h3
 obtain ⟨hc,hd⟩:=zsh hst ⟨hk,h3⟩ h0 h1
 rw [hc,hd] at h4
 exact h4
set_option maxHeartbeats 4000000 in
set_option maxRecDepth 100000 in
theorem zdl (a st z:Int) (g o:ByteArray) (A:Option Addr) (m c:Nat) (l:List ByteArray) (bA bL:Bool) (w:World) (KV:zmI) (hT:Tabs w) (hA:zkd a st z g o bA) (hL:zkL l 20 bL) (hrd:zae w w.heap.size 1 A m (l.map strv)) (hs:bA=false∨(bA=true∧20<m)∨(bA=true∧m≤20∧bL=false)) :
  Calls Tryz.prog 4 #[.agg #[.int .i64 a,.int .i64 st,.int .i64 z,.string g,.string o],.slice A m c] w fun e w'=>e = .returned (.bool true)∧Below w.heap.size w w':=by
 have hb1:Below w.heap.size w (w.alloc (.cells #[.int .i64 a,.int .i64 st,.int .i64 z,.string g,.string o] 24)):=(Below.refl _ _).alloc (Nat.le_refl _) _
 have a1:CBlk (w.alloc (.cells #[.int .i64 a,.int .i64 st,.int .i64 z,.string g,.string o] 24)) w.heap.size #[.int .i64 a,.int .i64 st,.int .i64 z,.string g,.string o] 24:=CBlk.new w _ _ _ rfl
 have hT1:=hT.later hb1
 have HK:=Lib.hid KV
 have HA:=Lib.hid hA
 have HL:=Lib.hid hL
 have HR:=Lib.hid hrd
 clear KV hA hL hrd
 have hcase:bA=false∨(bA=true∧decide ((20:Int)<(m:Int))=true∧decide (20<m)=true)∨(bA=true∧decide ((20:Int)<(m:Int))=false∧decide (20<m)=false∧bL=false):=by
  rcases hs with h | ⟨h,h1⟩ | ⟨h,h1,h2⟩
  ·exact .inl h
  ·exact .inr (.inl ⟨h,decide_eq_true (by omega),decide_eq_true h1⟩)
  ·exact .inr (.inr ⟨h,decide_eq_false (by omega),decide_eq_false (by omega),h2⟩)
 clear hs
 have x0:=a1.cell 0
 have x1:=a1.cell 1
 have x2:=a1.cell 2
 have x3:=a1.cell 3
 have x4:=a1.cell 4
 rcases hcase with rfl | ⟨rfl,d1,d2⟩ | ⟨rfl,d1,d2,rfl⟩
 ·go_enter Tryz.func4,Tryz.ntmps4
  go_wp2_with fail
  generalize w.alloc (.cells #[.int .i64 a,.int .i64 st,.int .i64 z,.string g,.string o] 24)=w1 at *
  refine (HA.out w1).mono ?_
  rintro e w2 ⟨rfl,hb2⟩
  have hB2:=hb1.trans (hb2.mono hb1.size)
  have hT2:=hT.later hB2
  go_wp2_with fail
  refine (HK.out w2 hT2).mono ?_
  rintro e w9 ⟨rfl,hb9⟩
  go_wp2_with fail
  go_ret
  exact ⟨rfl,hB2.trans (hb9.mono hB2.size)⟩
 ·go_enter Tryz.func4,Tryz.ntmps4
  go_wp2_with fail
  generalize w.alloc (.cells #[.int .i64 a,.int .i64 st,.int .i64 z,.string g,.string o] 24)=w1 at *
  refine (HA.out w1).mono ?_
  rintro e w2 ⟨rfl,hb2⟩
  have hB2:=hb1.trans (hb2.mono hb1.size)
  have hT2:=hT.later hB2
  go_wp2_with fail
  refine (HK.out w2 hT2).mono ?_
  rintro e w9 ⟨rfl,hb9⟩
  go_wp2_with fail
  go_ret
  exact ⟨rfl,hB2.trans (hb9.mono hB2.size)⟩
 ·go_enter Tryz.func4,Tryz.ntmps4
  go_wp2_with fail
  generalize w.alloc (.cells #[.int .i64 a,.int .i64 st,.int .i64 z,.string g,.string o] 24)=w1 at *
  refine (HA.out w1).mono ?_
  rintro e w2 ⟨rfl,hb2⟩
  have hB2:=hb1.trans (hb2.mono hb1.size)
  have hT2:=hT.later hB2
  go_wp2_with fail
  refine (HL.out A m c w2 (HR.out.later hB2)).mono ?_
  rintro e w3 ⟨rfl,hb3⟩
  have hB3:=hB2.trans (hb3.mono hB2.size)
  have hT3:=hT.later hB3
  go_wp2_with fail
  refine (HK.out w3 hT3).mono ?_
  rintro e w9 ⟨rfl,hb9⟩
  go_wp2_with fail
  go_ret
  exact ⟨rfl,hB3.trans (hb9.mono hB3.size)⟩
end Go.Proofs.YtmkihdjolnlccaaGreatDoor
