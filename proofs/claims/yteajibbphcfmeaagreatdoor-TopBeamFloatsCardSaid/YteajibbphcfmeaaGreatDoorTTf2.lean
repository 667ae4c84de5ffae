/- Plain facts for the law of floats: its comparisons, by units of 2^-149. No program. -/
import Derived.Test.YteajibbphcfmeaaGreatDoorTFlb
import Derived.Test.YteajibbphcfmeaaGreatDoorTRat2
import Derived.Test.YteajibbphcfmeaaGreatDoorTLdx2
import Derived.Test.YteajibbphcfmeaaGreatDoorTRat8
import Derived.Test.YteajibbphcfmeaaGreatDoorTText
import Derived.Test.YteajibbphcfmeaaGreatDoorTErr0
namespace Go.Proofs.YteajibbphcfmeaaGreatDoor
open Go.RowKit Bn Dn
open Flt
theorem read_numK {s:ByteArray} {p:Q} {K:Nat} (h:NumQ s p) (hs:Small p K) (hK:K≤600) (hK0:0<K):readE s.data.toList=0∧readQ s.data.toList=p:=by
 rw [h.1]
 exact read_writeS p h.2 (Nat.le_trans (Dec.dec_length_le hK0 hs.1) hK) (Nat.le_trans (Dec.dec_length_le hK0 hs.2) hK)
theorem val_own {p:Q} (hb:0<p.bot):Val p (sI p) p.bot:=⟨rfl,hb,hb⟩
theorem val_abs {p:Q} {a:Int} {x:Nat} (h:Val p a x):Val (absQ p) (a.natAbs:Int) x:=by
 obtain ⟨h1,h2,h3⟩:=h
 have h4:=congrArg Int.natAbs h1
 rw [Int.natAbs_mul,Int.natAbs_mul,sI_abs,Int.natAbs_natCast,Int.natAbs_natCast] at h4
 refine ⟨?_,h2,h3⟩
 show (p.top:Int)*(x:Int)=(a.natAbs:Int)*(p.bot:Int)
 rw [←Int.natCast_mul,h4,Int.natCast_mul]
theorem cmp_le {p q:Q} {a b:Int} {x y:Nat} (h:Val p a x) (h':Val q b y):cmpI p q≤0↔a*(y:Int)≤b*(x:Int):=by
 obtain ⟨c1,c2,c3⟩:=cmp_val h h'
 generalize a*(y:Int)=u at *
 generalize b*(x:Int)=v at *
 rcases Int.lt_trichotomy u v with g | g | g
 ·have:=c1 g;omega
 ·have:=c2 g;omega
 ·have:=c3 g;omega
theorem cmp_lt' {p q:Q} {a b:Int} {x y:Nat} (h:Val p a x) (h':Val q b y):cmpI p q<0↔a*(y:Int)<b*(x:Int):=by
 obtain ⟨c1,c2,c3⟩:=cmp_val h h'
 generalize a*(y:Int)=u at *
 generalize b*(x:Int)=v at *
 rcases Int.lt_trichotomy u v with g | g | g
 ·have:=c1 g;omega
 ·have:=c2 g;omega
 ·have:=c3 g;omega
def halfP (k:Nat):Q:=powQ (recQ twoQ) k
theorem halfP_val (k:Nat):Val (halfP k) 1 (2 ^ k):=Val.powN k
theorem halfP_low (k:Nat):LowQ (halfP k):=by
 unfold halfP
 rw [rec_two]
 exact low_pow half_num.2 _
theorem halfP_small {k:Nat} (h:k≤150):Small (halfP k) 50:=by
 have hp:2 ^ k<10 ^ 50:=Nat.lt_of_le_of_lt (Nat.pow_le_pow_right (by omega) h) (by decide)
 unfold halfP
 rw [rec_two]
 exact ⟨by show 1 ^ _<_;rw [Nat.one_pow];decide,hp⟩
theorem rPow_half (k:Nat) (w:World) (h0:0<k) (h:k≤150):Calls Tryz.prog 43 #[.string ⟨#[50]⟩,.int .i64 (-(k:Int))] w (RetS w (halfP k)):=
 rPow_negB ⟨#[50]⟩ twoQ k 1 w two_num rfl (by decide) ⟨by decide,by decide⟩ h0 (by omega) (by omega) (by decide)
theorem rPow_two127 (w:World):Calls Tryz.prog 43 #[.string ⟨#[50]⟩,.int .i64 127] w (RetS w (powQ twoQ 127)):=
 rPow_posB ⟨#[50]⟩ twoQ 127 1 w two_num rfl ⟨by decide,by decide⟩ (by omega) (by omega)
theorem two127_small:Small (powQ twoQ 127) 50:=⟨by decide,by decide⟩
theorem lt126 {p:Q} (hb:0<p.bot):cmpI (absQ p) (halfP 126)<0↔p.top*2 ^ 126<p.bot:=by
 rw [cmp_lt' (val_abs (val_own hb)) (halfP_val 126),sI_abs]
 generalize (2:Nat) ^ 126=T
 rw [←Int.natCast_mul,Int.one_mul]
 omega
theorem dist_sgn {p:Q} {V:Nat}:(sgn p.neg V*(p.bot:Int) - sI p*((2 ^ 149:Nat):Int)).natAbs=distU p.top p.bot V:=by
 unfold distU sI sgn
 rw [Int.natCast_mul,Int.natCast_mul,Int.mul_comm (p.bot:Int)]
 generalize ((2 ^ 149:Nat):Int)=T
 cases p.neg
 ·simp only [Bool.false_eq_true,if_false]
 ·simp only [if_true,Int.neg_mul]
  generalize (V:Int)*(p.bot:Int)=a
  generalize (p.top:Int)*T=b
  omega
theorem diff_val {p:Q} {V:Int} (hb:0<p.bot):Val (subQ (unitQ V) p) (V*(p.bot:Int) - sI p*((2 ^ 149:Nat):Int)) (2 ^ 149*p.bot):=(unit_val V).sub (val_own hb)
theorem err_small {p:Q} {V:Nat} (hb:0<p.bot) (h:NearU p.top p.bot V) (hs:p.top*2 ^ 126<p.bot):cmpI (absQ (subQ (unitQ (sgn p.neg V)) p)) (halfP 150)≤0:=by
 have h1:=h.1 hs
 rw [cmp_le (val_abs (diff_val hb)) (halfP_val 150),dist_sgn]
 generalize distU p.top p.bot V=D at *
 have e:(2:Nat) ^ 150=2 ^ 149*2:=by rw [Nat.pow_succ]
 rw [e,Int.one_mul,←Int.natCast_mul]
 have h2:D*(2 ^ 149*2)≤2 ^ 149*p.bot:=by
  have:=Nat.mul_le_mul_left (2 ^ 149) h1
  rw [show D*(2 ^ 149*2)=2 ^ 149*(2*D) by generalize (2:Nat) ^ 149=T;grind]
  exact this
 exact_mod_cast h2
theorem err_rel {p:Q} {V:Nat} (hb:0<p.bot) (h:NearU p.top p.bot V) (hs:¬ p.top*2 ^ 126<p.bot):cmpI (absQ (subQ (unitQ (sgn p.neg V)) p)) (mulQ (absQ p) (halfP 24))≤0:=by
 have h1:=h.2 (by omega)
 rw [cmp_le (val_abs (diff_val hb)) ((val_abs (val_own hb)).mul (halfP_val 24)),dist_sgn,sI_abs]
 generalize distU p.top p.bot V=D at *
 rw [Int.mul_one]
 have h2:D*(p.bot*2 ^ 24)≤p.top*(2 ^ 149*p.bot):=by
  have:=Nat.mul_le_mul_right p.bot h1
  rw [show D*(p.bot*2 ^ 24)=D*2 ^ 24*p.bot by generalize (2:Nat) ^ 24=T;grind]
  rw [←Nat.mul_assoc]
  exact this
 exact_mod_cast h2
theorem unit_abs (V:Int):absQ (unitQ V)=unitQ (V.natAbs:Int):=unit_of (val_abs (unit_val V)) (low_abs (unit_low V))
theorem subQ_low (p q:Q) (hp:0<p.bot) (hq:0<q.bot):LowQ (subQ p q):=fracQ_low _ (Nat.mul_pos hp hq)
theorem mulQ_low (p q:Q) (hp:0<p.bot) (hq:0<q.bot):LowQ (mulQ p q):=fracQ_low _ (Nat.mul_pos hp hq)
theorem unit_sub (V W:Int):subQ (unitQ V) (unitQ W)=unitQ (V - W):=by
 refine unit_of (((unit_val V).sub (unit_val W)).trans (Nat.two_pow_pos _) ?_) (subQ_low _ _ (unit_low V).1 (unit_low W).1)
 rw [Int.natCast_mul]
 generalize ((2 ^ 149:Nat):Int)=T
 grind
theorem two_val:Val twoQ 2 1:=⟨by decide,by decide,by decide⟩
theorem unit_two (V:Int):mulQ twoQ (unitQ V)=unitQ (2*V):=by
 refine unit_of ((two_val.mul (unit_val V)).trans (Nat.two_pow_pos _) ?_) (mulQ_low _ _ (by decide) (unit_low V).1)
 rw [Int.natCast_mul]
 generalize ((2 ^ 149:Nat):Int)=T
 grind
theorem unit_two' (V:Int):mulQ (unitQ V) twoQ=unitQ (2*V):=by
 refine unit_of (((unit_val V).mul two_val).trans (Nat.two_pow_pos _) ?_) (mulQ_low _ _ (unit_low V).1 (by decide))
 rw [Int.natCast_mul]
 generalize ((2 ^ 149:Nat):Int)=T
 grind
theorem unit_sign (V:Int):signI (unitQ V)=V.sign:=signI_frac (Nat.two_pow_pos _)
theorem unit_cmp (V W:Int):(cmpI (unitQ V) (unitQ W)≤0↔V≤W)∧(0≤cmpI (unitQ V) (unitQ W)↔W≤V):=by
 have hT:(0:Int)<((2 ^ 149:Nat):Int):=by have:=Nat.two_pow_pos 149;omega
 obtain ⟨c1,c2,c3⟩:=cmp_val (unit_val V) (unit_val W)
 have m1:=fun h:V<W=>c1 (Int.mul_lt_mul_of_pos_right h hT)
 have m2:=fun h:V=W=>c2 (by rw [h])
 have m3:=fun h:W<V=>c3 (Int.mul_lt_mul_of_pos_right h hT)
 rcases Int.lt_trichotomy V W with g | g | g
 ·have:=m1 g;omega
 ·have:=m2 g;omega
 ·have:=m3 g;omega
theorem unit_smallV {V:Int} (h:V.natAbs<topU*8):Small (unitQ V) 90:=by
 refine (unit_val V).smallN (unit_low V) (Nat.lt_trans h (by decide +kernel)) (by decide)
theorem unit_min (A B:Nat):(if cmpI (unitQ (A:Int)) (unitQ (B:Int))≤0 then unitQ (A:Int) else unitQ (B:Int))=unitQ ((min A B:Nat):Int):=by
 have h:=(unit_cmp (A:Int) (B:Int)).1
 by_cases hc:cmpI (unitQ (A:Int)) (unitQ (B:Int))≤0
 ·rw [if_pos hc,Nat.min_eq_left (by have:=h.1 hc;omega)]
 ·rw [if_neg hc,Nat.min_eq_right (by
   rcases Nat.lt_or_ge B A with g | g
   ·omega
   ·exact absurd (h.2 (by omega)) hc)]
theorem unit_max (A B:Nat):(if 0≤cmpI (unitQ (A:Int)) (unitQ (B:Int)) then unitQ (A:Int) else unitQ (B:Int))=unitQ ((max A B:Nat):Int):=by
 have h:=(unit_cmp (A:Int) (B:Int)).2
 by_cases hc:0≤cmpI (unitQ (A:Int)) (unitQ (B:Int))
 ·rw [if_pos hc,Nat.max_eq_left (by have:=h.1 hc;omega)]
 ·rw [if_neg hc,Nat.max_eq_right (by
   rcases Nat.lt_or_ge B A with g | g
   ·exact absurd (h.2 (by omega)) hc
   ·omega)]
structure OwnV (D:Int):Prop where
 x:flX (unitQ D)=0
 fin:fin Ieee.single (flW (unitQ D))=true
 key:key Ieee.single (flW (unitQ D))=D
 small:D.natAbs<topU*8
theorem own_diff {f g:Nat} (hf:fin Ieee.single f=true) (hg:fin Ieee.single g=true) (hs:(key Ieee.single f).sign=(key Ieee.single g).sign)
  (hm:max (key Ieee.single f).natAbs (key Ieee.single g).natAbs≤2*min (key Ieee.single f).natAbs (key Ieee.single g).natAbs):OwnV (key Ieee.single f - key Ieee.single g):=by
 obtain ⟨n,j,hn,_,hx⟩:=key_form hf
 obtain ⟨m,k,hk,_,hy⟩:=key_form hg
 have l1:=key_lt hf
 have l2:=key_lt hg
 generalize key Ieee.single f=Y at *
 generalize key Ieee.single g=Z at *
 have hd:(Y - Z).natAbs=Y.natAbs - Z.natAbs∧Z.natAbs≤Y.natAbs∨(Y - Z).natAbs=Z.natAbs - Y.natAbs∧Y.natAbs≤Z.natAbs:=by
  have hsg:(0<Y∧0<Z)∨(Y=0∧Z=0)∨(Y<0∧Z<0):=by
   rcases Int.lt_trichotomy Y 0 with h | h | h
   ·rw [Int.sign_eq_neg_one_of_neg h] at hs
    exact .inr (.inr ⟨h,Int.sign_eq_neg_one_iff_neg.1 hs.symm⟩)
   ·rw [h,Int.sign_zero] at hs
    exact .inr (.inl ⟨h,Int.sign_eq_zero_iff_zero.1 hs.symm⟩)
   ·rw [Int.sign_eq_one_of_pos h] at hs
    exact .inl ⟨h,Int.sign_eq_one_iff_pos.1 hs.symm⟩
  omega
 obtain ⟨d,i,hdi,hval⟩:∃ d i,d<16777216∧(Y - Z).natAbs=d*2 ^ i:=by
  rcases hd with ⟨e,hle⟩ | ⟨e,hle⟩
  ·obtain ⟨d,i,h1,h2⟩:=sterbenz hx hy hn hk hle (by omega)
   exact ⟨d,i,h1,by rw [e,h2]⟩
  ·obtain ⟨d,i,h1,h2⟩:=sterbenz hy hx hk hn hle (by omega)
   exact ⟨d,i,h1,by rw [e,h2]⟩
 obtain ⟨h1,h2,h3⟩:=flW_exact hdi hval (by omega)
 exact ⟨h1,h2,h3,by omega⟩
def halfU:Nat:=2 ^ 276
theorem halfU_is:halfU<topU∧halfU=2 ^ 127*2 ^ 149:=by decide +kernel
theorem own_double {f:Nat} (hf:fin Ieee.single f=true) (hm:(2*key Ieee.single f).natAbs<halfU):OwnV (2*key Ieee.single f):=by
 obtain ⟨n,j,hn,_,hx⟩:=key_form hf
 have e1:=halfU_is.1
 obtain ⟨h1,h2,h3⟩:=flW_exact (V:=2*key Ieee.single f) (n:=n) (k:=j+1) hn (by rw [Int.natAbs_mul,hx,Nat.pow_succ];show (2:Nat)*(n*2 ^ j)=n*(2 ^ j*2);generalize 2 ^ j=P;grind) (by omega)
 exact ⟨h1,h2,h3,by omega⟩
theorem lt127 (V:Int):cmpI (unitQ V) (powQ twoQ 127)<0↔V<(halfU:Int):=by
 rw [cmp_lt' (unit_val V) (Val.pow 127)]
 rw [halfU_is.2,Int.natCast_mul]
 simp
end Go.Proofs.YteajibbphcfmeaaGreatDoor
namespace Go.Proofs.YteajibbphcfmeaaGreatDoor.Cs
def tanAt (n bits:Nat):Nat→Nat × Nat × Nat
 | 0=>(0,0,2 ^ bits / n)
 | k+1=>match tanAt n bits k with
  | (a,b,p)=>if k % 2=0 then (a+p / (2*k+1),b,p / (n*n)) else (a,b+p / (2*k+1),p / (n*n))
def tanVal (n bits k:Nat):Nat:=(tanAt n bits k).1 - (tanAt n bits k).2.1
structure TanOk (n bits k:Nat):Prop where
 zero:(tanAt n bits k).2.2=0
 pos:∀ j,j<k→0<(tanAt n bits j).2.2
 le:(tanAt n bits k).2.1≤(tanAt n bits k).1
theorem tan_bound (n bits:Nat) (hn:2≤n):∀ k,(tanAt n bits k).1+(tanAt n bits k).2.1+2*(tanAt n bits k).2.2≤2*2 ^ bits
 | 0=>by
  have h:2 ^ bits / n≤2 ^ bits:=Nat.div_le_self _ _
  simp only [tanAt];omega
 | k+1=>by
  have ih:=tan_bound n bits hn k
  simp only [tanAt]
  generalize tanAt n bits k=s at ih ⊢
  obtain ⟨a,b,p⟩:=s
  dsimp only at ih ⊢
  have h1:p / (2*k+1)≤p:=Nat.div_le_self _ _
  have h2:p / (n*n)≤p / 2:=Nat.div_le_div_left (Nat.le_trans (by omega:2≤2*1) (Nat.mul_le_mul hn (by omega))) (by omega)
  split<;>(dsimp only;omega)
def circleOf (bits k l:Nat):Nat:=tanVal 5 bits k*32 - tanVal 239 bits l*8
def serAt (sq bits:Nat):Nat→Nat × Nat × Nat
 | 0=>(0,0,2 ^ bits)
 | n+1=>match serAt sq bits n with
  | (a,b,t)=>if n % 2=0 then (a+t,b,t*sq / 2 ^ bits / ((2*n+1)*(2*n+2))) else (a,b+t,t*sq / 2 ^ bits / ((2*n+1)*(2*n+2)))
def angOf (c top bot:Nat):Nat:=c*top / bot
def sqOf (c top bot bits:Nat):Nat:=angOf c top bot*angOf c top bot / 2 ^ bits
def serVal (sq bits k:Nat):Nat:=(serAt sq bits k).1 - (serAt sq bits k).2.1
structure SerOk (sq bits k M:Nat):Prop where
 zero:(serAt sq bits k).2.2=0
 pos:∀ j,j<k→0<(serAt sq bits j).2.2
 le:(serAt sq bits k).2.1≤(serAt sq bits k).1
 bound:∀ j,j<k+1→(serAt sq bits j).1<2 ^ M∧(serAt sq bits j).2.1<2 ^ M∧(serAt sq bits j).2.2<2 ^ M
theorem tan5:TanOk 5 112 24:=⟨by decide +kernel,by decide +kernel,by decide +kernel⟩
theorem tan239:TanOk 239 112 7:=⟨by decide +kernel,by decide +kernel,by decide +kernel⟩
theorem ser8:SerOk (sqOf (circleOf 112 24 7) 1 8 112) 112 15 192:=⟨by decide +kernel,by decide +kernel,by decide +kernel,by decide +kernel⟩
theorem ser10:SerOk (sqOf (circleOf 112 24 7) 1 10 112) 112 14 192:=⟨by decide +kernel,by decide +kernel,by decide +kernel,by decide +kernel⟩
theorem circ_le:tanVal 239 112 7*8≤tanVal 5 112 24*32:=by decide +kernel
structure AcOk (top bot bits k l m scale low:Nat):Prop where
 a:TanOk 5 bits k
 b:TanOk 239 bits l
 c:tanVal 239 bits l*8≤tanVal 5 bits k*32
 s:∃ M,M≤1048576∧SerOk (sqOf (circleOf bits k l) top bot bits) bits m M
 big:2 ^ 64≤serVal (sqOf (circleOf bits k l) top bot bits) bits m
 lo:(serVal (sqOf (circleOf bits k l) top bot bits) bits m - 2 ^ 64)*scale / 2 ^ bits=low
 hi:(serVal (sqOf (circleOf bits k l) top bot bits) bits m+2 ^ 64)*scale / 2 ^ bits=low
theorem ac8:AcOk 1 8 112 24 7 15 1000 707:=⟨tan5,tan239,circ_le,⟨192,by decide,ser8⟩,by decide +kernel,by decide +kernel,by decide +kernel⟩
theorem ac10:AcOk 1 10 112 24 7 14 1000 809:=⟨tan5,tan239,circ_le,⟨192,by decide,ser10⟩,by decide +kernel,by decide +kernel,by decide +kernel⟩
end Go.Proofs.YteajibbphcfmeaaGreatDoor.Cs
namespace Go.Proofs.YteajibbphcfmeaaGreatDoor
open Go.RowKit Bn
set_option maxHeartbeats 4000000 in
set_option maxRecDepth 100000 in
theorem ratNegated_any (b:Bool) (x y:Nat) (A1 A2:Option Addr) (n1 c1 n2 c2:Nat) (w:World) (h1:NatS w w.heap.size A1 n1 c1 x) (h2:NatS w w.heap.size A2 n2 c2 y) :
  Calls Tryz.prog 133 #[.agg #[.bool b,.slice A1 n1 c1,.slice A2 n2 c2]] w (RetRat w ⟨!b && !decide (x=0),x,y⟩):=by
 go_enter Tryz.func133,Tryz.ntmps133
 cases b
 ·go_wp2_with fail
  have hb3:Below w.heap.size w ((w.alloc (.cells #[.bool false,.slice A1 n1 c1,.slice A2 n2 c2] 91)).alloc (.cells #[.bool false,.slice none 0 0,.slice none 0 0] 91)):=((Below.refl _ _).alloc (Nat.le_refl _) _).alloc (by simp) _
  have hx0:ResBlk ((w.alloc (.cells #[.bool false,.slice A1 n1 c1,.slice A2 n2 c2] 91)).alloc (.cells #[.bool false,.slice none 0 0,.slice none 0 0] 91)) w.heap.size false (.slice A1 n1 c1) (.slice A2 n2 c2):=(ResBlk.new w _ _ _).below ((Below.refl _ _).alloc (Nat.le_refl _) _) (by simp)
  have hx2:ResBlk ((w.alloc (.cells #[.bool false,.slice A1 n1 c1,.slice A2 n2 c2] 91)).alloc (.cells #[.bool false,.slice none 0 0,.slice none 0 0] 91)) (w.heap.size+1) false (.slice none 0 0) (.slice none 0 0):=by
   have h:=ResBlk.new (w.alloc (.cells #[.bool false,.slice A1 n1 c1,.slice A2 n2 c2] 91)) false (.slice none 0 0) (.slice none 0 0)
   simpa using h
  generalize ((w.alloc (.cells #[.bool false,.slice A1 n1 c1,.slice A2 n2 c2] 91)).alloc (.cells #[.bool false,.slice none 0 0,.slice none 0 0] 91))=w3 at *
  obtain ⟨a0,a1,a2,_,_,_,al⟩:=hx0.cells
  have hb3d:Below w.heap.size w w3.drew:=hb3.drew
  have hx2d:ResBlk w3.drew (w.heap.size+1) false (.slice none 0 0) (.slice none 0 0):=hx2
  have cl:w.heap.size+1<w3.drew.heap.size:=hx2d.cells.2.2.2.2.2.2
  obtain ⟨d0,d1,d2,f0,f1,f2,_⟩:=hx2d.cells
  go_region_held3 (fun w'=>w'.cell? ⟨w.heap.size,0,none⟩=some (.bool false)∧w'.cell? ⟨w.heap.size,1,none⟩=some (.slice A1 n1 c1)∧w'.cell? ⟨w.heap.size,2,none⟩=some (.slice A2 n2 c2))
   (first | exact ⟨a0,a1,a2⟩ | exact ⟨((hb5.cell (p:=⟨w.heap.size,0,none⟩) al).trans a0),((hb5.cell (p:=⟨w.heap.size,1,none⟩) al).trans a1),((hb5.cell (p:=⟨w.heap.size,2,none⟩) al).trans a2)⟩ | exact ⟨((far3 _ _ _ _ (by dsimp only;omega)).trans a0),((far3 _ _ _ _ (by dsimp only;omega)).trans a1),((far3 _ _ _ _ (by dsimp only;omega)).trans a2)⟩ | exact ⟨((far3 _ _ _ _ (by dsimp only;omega)).trans ((hb5.cell (p:=⟨w.heap.size,0,none⟩) al).trans a0)),((far3 _ _ _ _ (by dsimp only;omega)).trans ((hb5.cell (p:=⟨w.heap.size,1,none⟩) al).trans a1)),((far3 _ _ _ _ (by dsimp only;omega)).trans ((hb5.cell (p:=⟨w.heap.size,2,none⟩) al).trans a2))⟩)
   (first
    |(go_at_call 96;refine (ratIsZero_any _ x A1 A2 n1 c1 n2 c2 w3.drew (h1.later hb3d)).mono ?_;rintro e w4 ⟨rfl,hb5⟩;have hk7:=hx2d.below hb5 cl;obtain ⟨e0,e1,e2,g0,g1,g2,gl⟩:=hk7.cells))
  go_wp2_with fail
  have hb7all:Below w.heap.size w w4:=hb3d.trans (hb5.mono hb3d.size)
  have hset:=three_set hb7all (g:=w.heap.size+1) (by omega) (.bool (!decide (x=0))) (.slice A1 n1 c1) (.slice A2 n2 c2)
  refine bodyPost_ret (v := .agg #[.bool (!decide (x=0)),.slice A1 n1 c1,.slice A2 n2 c2]) (by simp [results,Tryz.results133,go_sem,e0,e1,e2]) rfl ⟨_,rfl,⟨A1,n1,c1,A2,n2,c2,by simp,?_,?_⟩,hset⟩
  ·rw [size_set3];exact (h1.later hb7all).res hk7 _ _ _
  ·rw [size_set3];exact (h2.later hb7all).res hk7 _ _ _
 ·go_wp2_with fail
  have hb3:Below w.heap.size w ((w.alloc (.cells #[.bool true,.slice A1 n1 c1,.slice A2 n2 c2] 91)).alloc (.cells #[.bool false,.slice none 0 0,.slice none 0 0] 91)):=((Below.refl _ _).alloc (Nat.le_refl _) _).alloc (by simp) _
  have hx0:ResBlk ((w.alloc (.cells #[.bool true,.slice A1 n1 c1,.slice A2 n2 c2] 91)).alloc (.cells #[.bool false,.slice none 0 0,.slice none 0 0] 91)) w.heap.size true (.slice A1 n1 c1) (.slice A2 n2 c2):=(ResBlk.new w _ _ _).below ((Below.refl _ _).alloc (Nat.le_refl _) _) (by simp)
  have hx2:ResBlk ((w.alloc (.cells #[.bool true,.slice A1 n1 c1,.slice A2 n2 c2] 91)).alloc (.cells #[.bool false,.slice none 0 0,.slice none 0 0] 91)) (w.heap.size+1) false (.slice none 0 0) (.slice none 0 0):=by
   have h:=ResBlk.new (w.alloc (.cells #[.bool true,.slice A1 n1 c1,.slice A2 n2 c2] 91)) false (.slice none 0 0) (.slice none 0 0)
   simpa using h
  generalize ((w.alloc (.cells #[.bool true,.slice A1 n1 c1,.slice A2 n2 c2] 91)).alloc (.cells #[.bool false,.slice none 0 0,.slice none 0 0] 91))=w3 at *
  obtain ⟨a0,a1,a2,_,_,_,al⟩:=hx0.cells
  have hb3d:Below w.heap.size w w3.drew:=hb3.drew
  have hx2d:ResBlk w3.drew (w.heap.size+1) false (.slice none 0 0) (.slice none 0 0):=hx2
  have cl:w.heap.size+1<w3.drew.heap.size:=hx2d.cells.2.2.2.2.2.2
  obtain ⟨d0,d1,d2,f0,f1,f2,_⟩:=hx2d.cells
  obtain ⟨x0,x1,x2,y0,y1,y2,_⟩:=hx2.cells
  go_region
  go_wp2_with fail
  have hset:=(three_set hb3 (g:=w.heap.size+1) (by omega) (.bool false) (.slice A1 n1 c1) (.slice A2 n2 c2)).drew
  refine bodyPost_ret (v := .agg #[.bool false,.slice A1 n1 c1,.slice A2 n2 c2]) (by simp [results,Tryz.results133,go_sem,x0,x1,x2]) rfl ⟨_,rfl,⟨A1,n1,c1,A2,n2,c2,by simp,?_,?_⟩,hset⟩
  ·show NatS _ (((w3.setCell _ _).setCell _ _).setCell _ _).heap.size _ _ _ _
   rw [size_set3];exact (h1.later hb3d).res hx2d _ _ _
  ·show NatS _ (((w3.setCell _ _).setCell _ _).setCell _ _).heap.size _ _ _ _
   rw [size_set3];exact (h2.later hb3d).res hx2d _ _ _
def floorQ (q:Q):Q:=⟨q.neg,if q.neg=true∧q.top % q.bot≠0 then q.top / q.bot+1 else q.top / q.bot,1⟩
set_option maxHeartbeats 2000000 in
set_option maxRecDepth 100000 in
theorem ratFloor_any (b:Bool) (x y:Nat) (A1 A2:Option Addr) (n1 c1 n2 c2:Nat) (w:World) (h1:NatS w w.heap.size A1 n1 c1 x) (h2:NatS w w.heap.size A2 n2 c2 y) (hy:0<y) (k1:n1≤268435456) :
  Calls Tryz.prog 79 #[.agg #[.bool b,.slice A1 n1 c1,.slice A2 n2 c2]] w (RetRat w (floorQ ⟨b,x,y⟩)):=by
 have hb3:Below w.heap.size w ((w.alloc (.cells #[.bool b,.slice A1 n1 c1,.slice A2 n2 c2] 91)).alloc (.cells #[.bool false,.slice none 0 0,.slice none 0 0] 91)):=((Below.refl _ _).alloc (Nat.le_refl _) _).alloc (by simp) _
 go_enter Tryz.func79,Tryz.ntmps79
 go_wp2_with fail
 refine (over_any A1 A2 n1 c1 n2 c2 x y _ (h1.later hb3) (h2.later hb3) hy (by omega)).mono ?_
 rintro e w4 ⟨A5,m5,c5,A6,m6,c6,rfl,hq,hr,hb4⟩
 have hW4:Below w.heap.size w w4:=hb3.trans (hb4.mono hb3.size)
 have hx0:=((ResBlk.new w b (.slice A1 n1 c1) (.slice A2 n2 c2)).below ((Below.refl _ _).alloc (Nat.le_refl _) (.cells #[.bool false,.slice none 0 0,.slice none 0 0] 91)) (by simp)).below hb4 (by simp;omega)
 have hx1:ResBlk w4 (w.heap.size+1) false (.slice none 0 0) (.slice none 0 0):=by
  have h:=(ResBlk.new (w.alloc (.cells #[.bool b,.slice A1 n1 c1,.slice A2 n2 c2] 91)) false (.slice none 0 0) (.slice none 0 0)).below hb4 (by simp)
  simpa using h
 obtain ⟨z0,z1,z2,_,_,_,zl⟩:=hx0.cells
 have hlq:(digs (x / y)).length≤n1:=digs_length_le (Nat.lt_of_le_of_lt (Nat.div_le_self x y) (by have:=lt_of_digs_length x;rw [h1.len] at this;exact this))
 cases b
 ·have hval:(floorQ ⟨false,x,y⟩).top=x / y:=by simp [floorQ]
  go_wp2_with fail
  have hW:=hW4
  have hx0W:=hx0
  have hx1W:=hx1
  have hTop:=hq
  obtain ⟨a0,a1,a2,_,_,_,al⟩:=hx0W.cells
  have hx1d:ResBlk w4.drew (w.heap.size+1) false (.slice none 0 0) (.slice none 0 0):=hx1W
  have cl:w.heap.size+1<w4.drew.heap.size:=hx1d.cells.2.2.2.2.2.2
  go_region_held3 (fun w'=>w'.cell? ⟨w.heap.size,0,none⟩=some (.bool false)∧w'.cell? ⟨w.heap.size,1,none⟩=some (.slice A1 n1 c1)∧w'.cell? ⟨w.heap.size,2,none⟩=some (.slice A2 n2 c2))
   (first | exact ⟨a0,a1,a2⟩ | exact ⟨((hb8.cell (p:=⟨w.heap.size,0,none⟩) al).trans a0),((hb8.cell (p:=⟨w.heap.size,1,none⟩) al).trans a1),((hb8.cell (p:=⟨w.heap.size,2,none⟩) al).trans a2)⟩ | exact ⟨((far3 _ _ _ _ (by dsimp only;omega)).trans ((hb8.cell (p:=⟨w.heap.size,0,none⟩) al).trans a0)),((far3 _ _ _ _ (by dsimp only;omega)).trans ((hb8.cell (p:=⟨w.heap.size,1,none⟩) al).trans a1)),((far3 _ _ _ _ (by dsimp only;omega)).trans ((hb8.cell (p:=⟨w.heap.size,2,none⟩) al).trans a2))⟩)
   (first | (go_at_call 102;refine (naturalOf_any 1 w4.drew (by omega) (by omega)).mono ?_;rintro e w8 ⟨A8,m8,c8,rfl,hn8,hb8⟩;have hk:=hx1d.below hb8 cl;obtain ⟨e0,e1,e2,g0,g1,g2,gl⟩:=hk.cells))
  go_wp2_with fail
  have hball:Below w.heap.size w w8:=hW.drew.trans (hb8.mono hW.size)
  have hset:=three_set hball (g:=w.heap.size+1) (by omega) (.bool false) (.slice A5 m5 c5) (.slice A8 m8 c8)
  refine bodyPost_ret (v := .agg #[.bool false,.slice A5 m5 c5,.slice A8 m8 c8]) (by simp [results,Tryz.results79,go_sem,e0,e1,e2]) rfl ⟨_,rfl,⟨A5,m5,c5,A8,m8,c8,by rfl,?_,?_⟩,hset⟩
  ·rw [size_set3,hval];exact (hTop.later (Below.drew (Below.refl _ _) |>.trans hb8)).res hk _ _ _
  ·rw [size_set3];exact hn8.res hk _ _ _
 ·go_wp2_with fail
  refine (isZero_val A6 m6 c6 (x % y) _ hr).mono ?_
  rintro e w5 ⟨rfl,rfl⟩
  by_cases h0:x % y=0
  ·have hval:(floorQ ⟨true,x,y⟩).top=x / y:=by simp [floorQ,h0]
   have hd:decide (x % y=0)=true:=by simpa using h0
   rw [hd]
   go_wp2_with fail
   have hW:=hW4
   have hx0W:=hx0
   have hx1W:=hx1
   have hTop:=hq
   obtain ⟨a0,a1,a2,_,_,_,al⟩:=hx0W.cells
   have hx1d:ResBlk w4.drew (w.heap.size+1) false (.slice none 0 0) (.slice none 0 0):=hx1W
   have cl:w.heap.size+1<w4.drew.heap.size:=hx1d.cells.2.2.2.2.2.2
   go_region_held3 (fun w'=>w'.cell? ⟨w.heap.size,0,none⟩=some (.bool true)∧w'.cell? ⟨w.heap.size,1,none⟩=some (.slice A1 n1 c1)∧w'.cell? ⟨w.heap.size,2,none⟩=some (.slice A2 n2 c2))
    (first | exact ⟨a0,a1,a2⟩ | exact ⟨((hb8.cell (p:=⟨w.heap.size,0,none⟩) al).trans a0),((hb8.cell (p:=⟨w.heap.size,1,none⟩) al).trans a1),((hb8.cell (p:=⟨w.heap.size,2,none⟩) al).trans a2)⟩ | exact ⟨((far3 _ _ _ _ (by dsimp only;omega)).trans ((hb8.cell (p:=⟨w.heap.size,0,none⟩) al).trans a0)),((far3 _ _ _ _ (by dsimp only;omega)).trans ((hb8.cell (p:=⟨w.heap.size,1,none⟩) al).trans a1)),((far3 _ _ _ _ (by dsimp only;omega)).trans ((hb8.cell (p:=⟨w.heap.size,2,none⟩) al).trans a2))⟩)
    (first | (go_at_call 102;refine (naturalOf_any 1 w4.drew (by omega) (by omega)).mono ?_;rintro e w8 ⟨A8,m8,c8,rfl,hn8,hb8⟩;have hk:=hx1d.below hb8 cl;obtain ⟨e0,e1,e2,g0,g1,g2,gl⟩:=hk.cells))
   go_wp2_with fail
   have hball:Below w.heap.size w w8:=hW.drew.trans (hb8.mono hW.size)
   have hset:=three_set hball (g:=w.heap.size+1) (by omega) (.bool true) (.slice A5 m5 c5) (.slice A8 m8 c8)
   refine bodyPost_ret (v := .agg #[.bool true,.slice A5 m5 c5,.slice A8 m8 c8]) (by simp [results,Tryz.results79,go_sem,e0,e1,e2]) rfl ⟨_,rfl,⟨A5,m5,c5,A8,m8,c8,by rfl,?_,?_⟩,hset⟩
   ·rw [size_set3,hval];exact (hTop.later (Below.drew (Below.refl _ _) |>.trans hb8)).res hk _ _ _
   ·rw [size_set3];exact hn8.res hk _ _ _
  ·have hval:(floorQ ⟨true,x,y⟩).top=x / y+1:=by simp [floorQ,h0]
   have hd:decide (x % y=0)=false:=by simpa using h0
   rw [hd]
   go_wp2_with fail
   refine (naturalOf_any 1 _ (by omega) (by omega)).mono ?_
   rintro e w6 ⟨A9,m9,c9,rfl,hn9,hb9⟩
   go_wp2_with fail
   refine (plus_any A5 A9 m5 c5 m9 c9 _ _ _ (hq.later hb9) hn9 (by have:=hq.len;omega) (by have:=hn9.len;have h3:(digs (Int.toNat 1)).length≤1:=digs_length_le (by decide);omega)).mono ?_
   rintro e w7 ⟨A7,m7,c7,rfl,hn7,hb7⟩
   go_wp2_with fail
   have s4:=hW4.size
   have s9:=hb9.size
   have hW:Below w.heap.size w w7:=(hW4.trans (hb9.mono s4)).trans (hb7.mono (by omega))
   have hx0W:=(hx0.below hb9 zl).below hb7 (by omega)
   have hx1W:=(hx1.below hb9 hx1.cells.2.2.2.2.2.2).below hb7 (by have:=hx1.cells.2.2.2.2.2.2;omega)
   have hTop:=hn7
   obtain ⟨a0,a1,a2,_,_,_,al⟩:=hx0W.cells
   have hx1d:ResBlk w7.drew (w.heap.size+1) false (.slice none 0 0) (.slice none 0 0):=hx1W
   have cl:w.heap.size+1<w7.drew.heap.size:=hx1d.cells.2.2.2.2.2.2
   go_region_held3 (fun w'=>w'.cell? ⟨w.heap.size,0,none⟩=some (.bool true)∧w'.cell? ⟨w.heap.size,1,none⟩=some (.slice A1 n1 c1)∧w'.cell? ⟨w.heap.size,2,none⟩=some (.slice A2 n2 c2))
    (first | exact ⟨a0,a1,a2⟩ | exact ⟨((hb8.cell (p:=⟨w.heap.size,0,none⟩) al).trans a0),((hb8.cell (p:=⟨w.heap.size,1,none⟩) al).trans a1),((hb8.cell (p:=⟨w.heap.size,2,none⟩) al).trans a2)⟩ | exact ⟨((far3 _ _ _ _ (by dsimp only;omega)).trans ((hb8.cell (p:=⟨w.heap.size,0,none⟩) al).trans a0)),((far3 _ _ _ _ (by dsimp only;omega)).trans ((hb8.cell (p:=⟨w.heap.size,1,none⟩) al).trans a1)),((far3 _ _ _ _ (by dsimp only;omega)).trans ((hb8.cell (p:=⟨w.heap.size,2,none⟩) al).trans a2))⟩)
    (first | (go_at_call 102;refine (naturalOf_any 1 w7.drew (by omega) (by omega)).mono ?_;rintro e w8 ⟨A8,m8,c8,rfl,hn8,hb8⟩;have hk:=hx1d.below hb8 cl;obtain ⟨e0,e1,e2,g0,g1,g2,gl⟩:=hk.cells))
   go_wp2_with fail
   have hball:Below w.heap.size w w8:=hW.drew.trans (hb8.mono hW.size)
   have hset:=three_set hball (g:=w.heap.size+1) (by omega) (.bool true) (.slice A7 m7 c7) (.slice A8 m8 c8)
   refine bodyPost_ret (v := .agg #[.bool true,.slice A7 m7 c7,.slice A8 m8 c8]) (by simp [results,Tryz.results79,go_sem,e0,e1,e2]) rfl ⟨_,rfl,⟨A7,m7,c7,A8,m8,c8,by rfl,?_,?_⟩,hset⟩
   ·rw [size_set3,hval];exact (hTop.later (Below.drew (Below.refl _ _) |>.trans hb8)).res hk _ _ _
   ·rw [size_set3];exact hn8.res hk _ _ _
def LenQ (q:Q) (K:Nat):Prop:=(digs q.top).length≤K∧(digs q.bot).length≤K
theorem LenQ.mono {q:Q} {K L:Nat} (h:LenQ q K) (hl:K≤L):LenQ q L:=⟨Nat.le_trans h.1 hl,Nat.le_trans h.2 hl⟩
theorem RatS.later {w w':World} {v:Value} {q:Q} (h:RatS w w.heap.size v q) (hb:Below w.heap.size w w'):RatS w' w'.heap.size v q:=by
 obtain ⟨A,n,c,A',n',c',rfl,h1,h2⟩:=h
 exact ⟨A,n,c,A',n',c',rfl,h1.later hb,h2.later hb⟩
theorem len_one:(digs 1).length≤1:=digs_length_le (by decide)
theorem lenQ_low {b:Bool} {x y K:Nat} (hx:(digs x).length≤K) (hy:(digs y).length≤K) (hK:1≤K):LenQ (lowQ b x y) K:=by
 unfold lowQ
 split
 ·exact ⟨by show (digs 0).length≤K;rw [digs_zero];exact Nat.zero_le _,by show (digs 0).length≤K;rw [digs_zero];exact Nat.zero_le _⟩
 ·split
  ·exact ⟨by show (digs 0).length≤K;rw [digs_zero];exact Nat.zero_le _,Nat.le_trans len_one hK⟩
  ·exact ⟨Nat.le_trans (digs_length_mono (Nat.div_le_self _ _)) hx,Nat.le_trans (digs_length_mono (Nat.div_le_self _ _)) hy⟩
def nnegQ (q:Q):Q:=⟨!q.neg && !decide (q.top=0),q.top,q.bot⟩
def minusQ (p q:Q):Q:=plusQ p (nnegQ q)
theorem lenQ_neg {q:Q} {K:Nat} (h:LenQ q K):LenQ (nnegQ q) K:=h
theorem lenQ_times {p q:Q} {K L:Nat} (b:Bool) (hp:LenQ p K) (hq:LenQ q L) (h1:1≤K+L):LenQ (lowQ b (p.top*q.top) (p.bot*q.bot)) (K+L):=
 lenQ_low (len_times hp.1 hq.1) (len_times hp.2 hq.2) h1
theorem lenQ_plus {p q:Q} {K L:Nat} (hp:LenQ p K) (hq:LenQ q L):LenQ (plusQ p q) (K+L+K+L+1):=by
 have hb:(digs (p.bot*q.bot)).length≤K+L:=len_times hp.2 hq.2
 have h1:(digs (p.top*q.bot)).length≤K+L:=len_times hp.1 hq.2
 have h2:(digs (q.top*p.bot)).length≤L+K:=len_times hq.1 hp.2
 have h3:=len_plus h1 h2
 have h4:=len_minus (p.top*q.bot) (q.top*p.bot)
 have h5:=len_minus (q.top*p.bot) (p.top*q.bot)
 unfold plusQ
 split
 ·exact lenQ_low (by omega) (by omega) (by omega)
 ·split
  ·exact lenQ_low (by omega) (by omega) (by omega)
  ·exact lenQ_low (by omega) (by omega) (by omega)
theorem nplus_s (p q:Q) (v u:Value) (w:World) (hT:Tabs w) (hv:RatS w w.heap.size v p) (hu:RatS w w.heap.size u q) (hp:LenQ p 134217728) (hq:LenQ q 134217728) :
  Calls Tryz.prog 65 #[v,u] w (RetRat w (plusQ p q)):=by
 obtain ⟨A1,n1,c1,A2,n2,c2,rfl,h1,h2⟩:=hv
 obtain ⟨A3,n3,c3,A4,n4,c4,rfl,h3,h4⟩:=hu
 exact ratPlus_any p q A1 A2 A3 A4 n1 c1 n2 c2 n3 c3 n4 c4 w hT h1 h2 h3 h4 (by rw [←h1.len];exact hp.1) (by rw [←h2.len];exact hp.2) (by rw [←h3.len];exact hq.1) (by rw [←h4.len];exact hq.2)
theorem ntimes_s (p q:Q) (v u:Value) (w:World) (hT:Tabs w) (hv:RatS w w.heap.size v p) (hu:RatS w w.heap.size u q) (hp:LenQ p 268435456) (hq:LenQ q 268435456) :
  Calls Tryz.prog 68 #[v,u] w (RetRat w (lowQ (p.neg != q.neg) (p.top*q.top) (p.bot*q.bot))):=by
 obtain ⟨A1,n1,c1,A2,n2,c2,rfl,h1,h2⟩:=hv
 obtain ⟨A3,n3,c3,A4,n4,c4,rfl,h3,h4⟩:=hu
 exact ratTimes_any p q A1 A2 A3 A4 n1 c1 n2 c2 n3 c3 n4 c4 w hT h1 h2 h3 h4 (by rw [←h1.len];exact hp.1) (by rw [←h2.len];exact hp.2) (by rw [←h3.len];exact hq.1) (by rw [←h4.len];exact hq.2)
theorem ncompare_s (p q:Q) (v u:Value) (w:World) (hv:RatS w w.heap.size v p) (hu:RatS w w.heap.size u q) (hp:LenQ p 268435456) (hq:LenQ q 268435456) :
  Calls Tryz.prog 71 #[v,u] w fun e w'=>e = .returned (.int .i64 (rcmp p q))∧Below w.heap.size w w':=by
 obtain ⟨A1,n1,c1,A2,n2,c2,rfl,h1,h2⟩:=hv
 obtain ⟨A3,n3,c3,A4,n4,c4,rfl,h3,h4⟩:=hu
 exact ratCompare_any p q A1 A2 A3 A4 n1 c1 n2 c2 n3 c3 n4 c4 w h1 h2 h3 h4 (by rw [←h1.len];exact hp.1) (by rw [←h2.len];exact hp.2) (by rw [←h3.len];exact hq.1) (by rw [←h4.len];exact hq.2)
theorem nneg_s (p:Q) (v:Value) (w:World) (hv:RatS w w.heap.size v p) :
  Calls Tryz.prog 133 #[v] w (RetRat w (nnegQ p)):=by
 obtain ⟨A1,n1,c1,A2,n2,c2,rfl,h1,h2⟩:=hv
 exact ratNegated_any p.neg p.top p.bot A1 A2 n1 c1 n2 c2 w h1 h2
theorem nfloor_s (p:Q) (v:Value) (w:World) (hv:RatS w w.heap.size v p) (hy:0<p.bot) (hp:LenQ p 268435456) :
  Calls Tryz.prog 79 #[v] w (RetRat w (floorQ p)):=by
 obtain ⟨A1,n1,c1,A2,n2,c2,rfl,h1,h2⟩:=hv
 exact ratFloor_any p.neg p.top p.bot A1 A2 n1 c1 n2 c2 w h1 h2 hy (by rw [←h1.len];exact hp.1)
theorem nwrite_s (p:Q) (v:Value) (w:World) (hT:Tabs w) (hv:RatS w w.heap.size v p) (hp:LenQ p 268435456) :
  Calls Tryz.prog 66 #[v] w (RetText w (writeT p) (writeE p)):=by
 obtain ⟨A1,n1,c1,A2,n2,c2,rfl,h1,h2⟩:=hv
 exact write_any p A1 A2 n1 c1 n2 c2 w hT h1 h2 (by rw [←h1.len];exact hp.1) (by rw [←h2.len];exact hp.2)
end Go.Proofs.YteajibbphcfmeaaGreatDoor
