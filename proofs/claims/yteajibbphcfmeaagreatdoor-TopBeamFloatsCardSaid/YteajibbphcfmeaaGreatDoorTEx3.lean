/- isFinite and Exact of a single that is no number; all cases together. -/
import Derived.Test.YteajibbphcfmeaaGreatDoorTDw2
import Derived.Test.YteajibbphcfmeaaGreatDoorTText
import Derived.Test.YteajibbphcfmeaaGreatDoorTErr0
import Derived.Test.YteajibbphcfmeaaGreatDoorTRng2
import Derived.Deep.LoopGhost
import Derived.IntWalk
import Derived.Test.YteajibbphcfmeaaGreatDoorTFlt
import Derived.Test.YteajibbphcfmeaaGreatDoorTWords
import Derived.Laws.Cover2
import Derived.Maps.AppendAt
namespace Go.Proofs.YteajibbphcfmeaaGreatDoor
open Go.RowKit Bn
open Flt
def nanW (b:Nat) (W:World):Nat:=(Question.nanConv .f64 b).cut (W.tape W.drawn (Question.nanConv .f64 b))
theorem nanW_read (b:Nat) (W:World):∃ s f,Ieee.double.read (nanW b W) = .nan s f:=by
 unfold nanW Question.cut
 generalize W.tape W.drawn (Question.nanConv .f64 b)=t
 dsimp only
 have e63:(2:Nat) ^ 63=9223372036854775808:=by decide
 have e52:(2:Nat) ^ 52=4503599627370496:=by decide
 rw [e63,e52]
 have h1:t % 2<2:=Nat.mod_lt _ (by omega)
 have h2:t / 2 % (4503599627370496 - 1)<4503599627370495:=Nat.mod_lt _ (by omega)
 generalize t % 2=s at h1
 generalize t / 2 % (4503599627370496 - 1)=f at h2
 unfold Ieee.Format.read
 rw [dbl_sign,dbl_binade,dbl_inf]
 have e1:(s*9223372036854775808+9218868437227405312+1+f) % 9223372036854775808=9218868437227405312+1+f:=by omega
 dsimp only
 rw [e1,if_neg (by omega),if_neg (by omega),if_neg (by omega)]
 exact ⟨_,_,rfl⟩
theorem nanW_nan (b:Nat) (W:World):(FloatKind.f64.format.order (nanW b W) (nanW b W) != some .eq)=true:=by
 obtain ⟨s,f,h⟩:=nanW_read b W
 have:FloatKind.f64.format.order (nanW b W) (nanW b W)=none:=by
  show (Ieee.double.read _).order (Ieee.double.read _)=_
  rw [h];rfl
 rw [this];rfl
theorem convert_nan {P:Program} (src dst:TypeId) (b:Nat) {s:Bool} {f:Nat} (hs:(P.underlying src).isSome=true) (hd:P.underlying dst=some (.float .f64)) (h:Ieee.single.read b = .nan s f) (W:World) :
  (convert src dst (.float .f32 b)).run P W = .ok (.float .f64 (nanW b W)) W.drew:=by
 obtain ⟨u,hs'⟩:=Option.isSome_iff_exists.1 hs
 have h':FloatKind.f32.decode b = .nan s f:=h
 have hf:(Question.nanConv .f64 b).forced=false:=rfl
 cases u<;>simp [convert,run_underlying hs',run_underlying hd,Conv.floatToFloat,h',hf,nanW]
theorem isFinite_nan {b:Nat} {s:Bool} {f:Nat} (h:Ieee.single.read b = .nan s f) (w:World):Calls Tryz.prog 100 #[.float .f32 b] w fun e w'=>e = .returned (.bool false)∧Below w.heap.size w w':=by
 have hcv:=convert_nan (P:=Tryz.prog) 55 118 b (by kernel_rfl) (by kernel_rfl) h
 have hnn:=isNaN_any (nanW b w) w.drew
 rw [nanW_nan] at hnn
 have HN:=Lib.hid hnn
 clear hnn
 have hb:Below w.heap.size w w.drew:=(Below.refl _ _).drew
 go_enter Tryz.func100,Tryz.ntmps100
 go_wp2_with fail
 refine HN.out.mono ?_
 rintro e w1 ⟨rfl,rfl⟩
 go_wp2_with fail
 go_ret
 exact ⟨rfl,hb⟩
theorem isFinite_any (b:Nat) (w:World):Calls Tryz.prog 100 #[.float .f32 b] w fun e w'=>e = .returned (.bool (fin Ieee.single b))∧Below w.heap.size w w':=by
 unfold fin
 rcases h:Ieee.single.read b with ⟨s,m,p⟩ | s | ⟨s,f⟩
 ·have hx:∃ x,Fine b x:=by
   rcases Nat.eq_zero_or_pos m with rfl | hm
   ·exact ⟨_,fine_zero h⟩
   ·exact ⟨_,fine_pos h hm⟩
  obtain ⟨x,hx⟩:=hx
  refine (isFinite_fine w hx).mono ?_
  rintro e w' ⟨rfl,rfl⟩
  exact ⟨rfl,Below.refl _ _⟩
 ·refine (inf_fine s h w).mono ?_
  rintro e w' ⟨rfl,rfl⟩
  exact ⟨rfl,Below.refl _ _⟩
 ·exact isFinite_nan h w
theorem Exact_bad {b:Nat} (w:World) (h:fin Ieee.single b=false):Calls Tryz.prog 40 #[.float .f32 b] w (RetText w [] 1):=by
 have h1:=isFinite_any b w
 rw [h] at h1
 have h2:=Lib.hid h1
 clear h1 h
 go_enter Tryz.func40,Tryz.ntmps40
 go_wp2_with fail
 refine h2.out.mono ?_
 rintro e w1 ⟨rfl,hb⟩
 go_wp2_with fail
 go_ret2
 exact ⟨_,rfl,rfl,hb⟩
theorem Exact_any (b:Nat) (w:World) (hT:Tabs w) :
  Calls Tryz.prog 40 #[.float .f32 b] w (RetText w (if fin Ieee.single b then writeT (exQ b) else []) (if fin Ieee.single b then writeE (exQ b) else 1)):=by
 by_cases hf:fin Ieee.single b=true
 ·rw [if_pos hf,if_pos hf]
  unfold fin at hf
  rcases h:Ieee.single.read b with ⟨s,m,p⟩ | s | ⟨s,f⟩
  ·exact Exact_fin w hT h
  ·rw [h] at hf;cases hf
  ·rw [h] at hf;cases hf
 ·rw [if_neg hf,if_neg hf]
  exact Exact_bad w (by simpa using hf)
def sI (p:Q):Int:=if p.neg then -(p.top:Int) else (p.top:Int)
theorem lowQ_low (neg:Bool) (t b:Nat) (hb:0<b):LowQ (lowQ neg t b):=by
 unfold lowQ
 rw [if_neg (by omega)]
 split
 ·exact ⟨by decide,by decide,fun h=>by cases h⟩
 ·rename_i ht
  have hg:0<Nat.gcd t b:=Nat.gcd_pos_of_pos_right _ hb
  refine ⟨Nat.div_pos (Nat.gcd_le_right _ hb) hg,(Nat.gcd_div (Nat.gcd_dvd_left t b) (Nat.gcd_dvd_right t b)).trans (Nat.div_self hg),fun _=>Nat.div_pos (Nat.gcd_le_left _ (by omega)) hg⟩
theorem exQ_val {b m:Nat} {s:Bool} {p:Int} (h:Ieee.single.read b = .number s m p) (hm:0<m) (hm2:m<16777216) (hp : -149≤p) (hp2:p≤104) :
  LowQ (exQ b)∧(exQ b).neg=s∧(exQ b).top*2 ^ 149=m*2 ^ (p+149).toNat*(exQ b).bot∧(exQ b).top<2 ^ 200∧(exQ b).bot<2 ^ 200:=by
 have hl:m.log2<24:=(Nat.log2_lt (by omega)).2 (by omega)
 unfold exQ
 rw [h]
 dsimp only
 rw [if_neg (by omega)]
 have hm24:m<2 ^ 24:=by
  have e24:(2:Nat) ^ 24=16777216:=by decide
  omega
 by_cases hc:p+(m.log2:Int)<23
 ·rw [if_pos hc]
  obtain ⟨j,hj⟩:∃ j:Nat,(23 - (p+(m.log2:Int))).toNat=j:=⟨_,rfl⟩
  rw [hj]
  have hT:0<m*2 ^ (23 - m.log2):=Nat.mul_pos hm (Nat.two_pow_pos _)
  have hD:0<2 ^ j:=Nat.two_pow_pos _
  have hg:0<Nat.gcd (m*2 ^ (23 - m.log2)) (2 ^ j):=Nat.gcd_pos_of_pos_right _ hD
  refine ⟨lowQ_low _ _ _ hD,?_⟩
  have e:m*2 ^ (23 - m.log2)*2 ^ 149=m*2 ^ (p+149).toNat*2 ^ j:=by
   rw [Nat.mul_assoc,Nat.mul_assoc,←Nat.pow_add,←Nat.pow_add,show 23 - m.log2+149=(p+149).toNat+j by omega]
  have hTb:m*2 ^ (23 - m.log2)<2 ^ 200:=by
   have h1:m*2 ^ (23 - m.log2)<2 ^ 24*2 ^ (23 - m.log2):=Nat.mul_lt_mul_of_pos_right hm24 (Nat.two_pow_pos _)
   rw [←Nat.pow_add] at h1
   exact Nat.lt_of_lt_of_le h1 (Nat.pow_le_pow_right (by omega) (by omega))
  have hDb:2 ^ j<2 ^ 200:=Nat.pow_lt_pow_right (by omega) (by omega)
  unfold lowQ
  rw [if_neg (by omega),if_neg (by omega)]
  generalize m*2 ^ (23 - m.log2)=T at *
  generalize 2 ^ j=D at *
  have d1:=Nat.div_mul_cancel (Nat.gcd_dvd_left T D)
  have d2:=Nat.div_mul_cancel (Nat.gcd_dvd_right T D)
  have d3:=Nat.div_le_self T (Nat.gcd T D)
  have d4:=Nat.div_le_self D (Nat.gcd T D)
  dsimp only
  refine ⟨rfl,?_,Nat.lt_of_le_of_lt d3 hTb,Nat.lt_of_le_of_lt d4 hDb⟩
  apply Nat.eq_of_mul_eq_mul_right hg
  rw [Nat.mul_right_comm,d1,Nat.mul_assoc (m*2 ^ (p+149).toNat),d2]
  exact e
 ·rw [if_neg hc]
  have hT:0<m*2 ^ (23 - m.log2)*2 ^ (p+(m.log2:Int) - 23).toNat:=Nat.mul_pos (Nat.mul_pos hm (Nat.two_pow_pos _)) (Nat.two_pow_pos _)
  have e:m*2 ^ (23 - m.log2)*2 ^ (p+(m.log2:Int) - 23).toNat=m*2 ^ p.toNat:=by
   rw [Nat.mul_assoc,←Nat.pow_add,show 23 - m.log2+(p+(m.log2:Int) - 23).toNat=p.toNat by omega]
  refine ⟨⟨Nat.one_pos,Nat.gcd_one_right _,fun _=>hT⟩,rfl,?_,?_,?_⟩
  ·dsimp only
   rw [e,Nat.mul_one,Nat.mul_assoc,←Nat.pow_add,show p.toNat+149=(p+149).toNat by omega]
  ·dsimp only
   rw [e]
   have h1:m*2 ^ p.toNat<2 ^ 24*2 ^ p.toNat:=Nat.mul_lt_mul_of_pos_right hm24 (Nat.two_pow_pos _)
   rw [←Nat.pow_add] at h1
   exact Nat.lt_of_lt_of_le h1 (Nat.pow_le_pow_right (by omega) (by omega))
  ·exact Nat.one_lt_two_pow (by decide)
theorem dec_600 {x:Nat} (h:x<2 ^ 200):(Lib.decDigits x).length≤600:=by
 refine Nat.le_trans (Dec.dec_length_le (k:=200) (by decide) (Nat.lt_of_lt_of_le h ?_)) (by decide)
 exact Nat.pow_le_pow_left (by decide) _
end Go.Proofs.YteajibbphcfmeaaGreatDoor
namespace Go.Proofs.YteajibbphcfmeaaGreatDoor
open Go.RowKit Bn
def fracQ (num:Int) (den:Nat):Q:=lowQ (decide (num<0)) num.natAbs den
def addQ (p q:Q):Q:=fracQ (sI p*(q.bot:Int)+sI q*(p.bot:Int)) (p.bot*q.bot)
def subQ (p q:Q):Q:=fracQ (sI p*(q.bot:Int) - sI q*(p.bot:Int)) (p.bot*q.bot)
def mulQ (p q:Q):Q:=fracQ (sI p*sI q) (p.bot*q.bot)
def negQ (p:Q):Q:=⟨!p.neg && decide (0<p.top),p.top,p.bot⟩
def absQ (p:Q):Q:=⟨false,p.top,p.bot⟩
def signI (p:Q):Int:=if p.top=0 then 0 else if p.neg then -1 else 1
def cmpI (p q:Q):Int:=signI (subQ p q)
theorem fracQ_zero {den:Nat} (hd:0<den):fracQ 0 den=⟨false,0,1⟩:=by
 unfold fracQ lowQ
 rw [if_neg (by omega)]
 rfl
theorem fracQ_ne {num:Int} {den:Nat} (hd:0<den) (h0:num≠0):fracQ num den=⟨decide (num<0),num.natAbs / Nat.gcd num.natAbs den,den / Nat.gcd num.natAbs den⟩:=by
 unfold fracQ lowQ
 rw [if_neg (by omega),if_neg (by omega)]
theorem sI_low {num:Int} {den:Nat} (hd:0<den):sI (fracQ num den)*(den:Int)=num*((fracQ num den).bot:Int):=by
 by_cases h0:num=0
 ·subst h0
  rw [fracQ_zero hd]
  simp [sI]
 ·rw [fracQ_ne hd h0]
  unfold sI
  have d1:=Nat.div_mul_cancel (Nat.gcd_dvd_left num.natAbs den)
  have d2:=Nat.div_mul_cancel (Nat.gcd_dvd_right num.natAbs den)
  dsimp only
  generalize Nat.gcd num.natAbs den=g at *
  have hx:(num.natAbs / g)*den=num.natAbs*(den / g):=by
   conv=>lhs;rw [←d2]
   conv=>rhs;rw [←d1]
   rw [Nat.mul_comm (den / g),Nat.mul_assoc]
  have hx2:(((num.natAbs / g:Nat):Int))*(den:Int)=(num.natAbs:Int)*((den / g:Nat):Int):=by
   rw [←Int.natCast_mul,←Int.natCast_mul,hx]
  by_cases hn:num<0
  ·rw [decide_eq_true hn,if_pos rfl,Int.neg_mul,hx2,←Int.neg_mul,show -(num.natAbs:Int)=num by omega]
  ·rw [decide_eq_false hn,if_neg (by decide),hx2,show (num.natAbs:Int)=num by omega]
theorem fracQ_low (num:Int) {den:Nat} (hd:0<den):LowQ (fracQ num den):=lowQ_low _ _ _ hd
theorem signI_frac {num:Int} {den:Nat} (hd:0<den):signI (fracQ num den)=num.sign:=by
 by_cases h0:num=0
 ·subst h0
  rw [fracQ_zero hd]
  rfl
 ·rw [fracQ_ne hd h0]
  unfold signI
  have hg:0<Nat.gcd num.natAbs den:=Nat.gcd_pos_of_pos_right _ hd
  have hp:0<num.natAbs / Nat.gcd num.natAbs den:=Nat.div_pos (Nat.gcd_le_left _ (by omega)) hg
  dsimp only
  rw [if_neg (by omega)]
  by_cases hn:num<0
  ·rw [decide_eq_true hn,if_pos rfl,Int.sign_eq_neg_one_of_neg hn]
  ·rw [decide_eq_false hn,if_neg (by decide),Int.sign_eq_one_of_pos (by omega)]
theorem low_unique {p q:Q} (hp:LowQ p) (hq:LowQ q) (h:sI p*(q.bot:Int)=sI q*(p.bot:Int)):p=q:=by
 obtain ⟨pn,pt,pb⟩:=p
 obtain ⟨qn,qt,qb⟩:=q
 obtain ⟨p1,p2,p3⟩:=hp
 obtain ⟨q1,q2,q3⟩:=hq
 unfold sI at h
 dsimp only at *
 have hs:pn=qn∧pt*qb=qt*pb:=by
  have e1:(pt:Int)*(qb:Int)=((pt*qb:Nat):Int):=by rw [Int.natCast_mul]
  have e2:(qt:Int)*(pb:Int)=((qt*pb:Nat):Int):=by rw [Int.natCast_mul]
  cases pn<;>cases qn
  ·simp only [Bool.false_eq_true,if_false,e1,e2] at h
   exact ⟨rfl,by omega⟩
  ·simp only [Bool.false_eq_true,if_false,if_true,Int.neg_mul,e1,e2] at h
   have:=Nat.mul_pos (q3 rfl) p1
   omega
  ·simp only [Bool.false_eq_true,if_false,if_true,Int.neg_mul,e1,e2] at h
   have:=Nat.mul_pos (p3 rfl) q1
   omega
  ·simp only [if_true,Int.neg_mul,e1,e2] at h
   exact ⟨rfl,by omega⟩
 obtain ⟨rfl,hc⟩:=hs
 have hb1:pb ∣ qb:=(Nat.Coprime.dvd_of_dvd_mul_left (show Nat.Coprime pb pt from by rw [Nat.coprime_comm];exact p2) (by rw [hc];exact Nat.dvd_mul_left _ _))
 have hb2:qb ∣ pb:=(Nat.Coprime.dvd_of_dvd_mul_left (show Nat.Coprime qb qt from by rw [Nat.coprime_comm];exact q2) (by rw [←hc];exact Nat.dvd_mul_left _ _))
 obtain rfl:pb=qb:=Nat.dvd_antisymm hb1 hb2
 obtain rfl:pt=qt:=Nat.eq_of_mul_eq_mul_right p1 hc
 rfl
end Go.Proofs.YteajibbphcfmeaaGreatDoor
namespace Go.Proofs.YteajibbphcfmeaaGreatDoor
open Go.RowKit
theorem pad_cons (k r:Nat):Dec.pad (k+1) r=Dec.dgt (r / 10 ^ k % 10) :: Dec.pad k r:=by
 induction k generalizing r with
 | zero=>simp [Dec.pad]
 | succ k ih=>
  rw [Dec.pad,ih (r / 10),Nat.div_div_eq_div_mul,Nat.pow_succ,Nat.mul_comm (10 ^ k) 10,List.cons_append]
  rfl
def decK (n least:Nat):Nat:=max least (if n=0 then 0 else (Lib.decDigits n).length)
theorem dec_bounds {n:Nat} (h:0<n):10 ^ ((Lib.decDigits n).length - 1)≤n∧n<10 ^ (Lib.decDigits n).length:=by
 induction n using Nat.strongRecOn with
 | ind n ih=>
  by_cases h1:n<10
  ·rw [Dec.dec_lt h1]
   simp
   omega
  ·rw [Dec.dec_ge h1]
   obtain ⟨h2,h3⟩:=ih (n / 10) (by omega) (by omega)
   have hp:=Dec.dec_length_pos (n / 10)
   rw [List.length_append,List.length_singleton,Nat.add_sub_cancel,Nat.pow_succ]
   obtain ⟨k,hk⟩:∃ k,(Lib.decDigits (n / 10)).length=k+1:=⟨_,(Nat.succ_pred_eq_of_pos hp).symm⟩
   rw [hk,Nat.add_sub_cancel] at h2
   rw [hk] at h3 ⊢
   rw [Nat.pow_succ] at h3 ⊢
   omega
theorem decK_more {n least k:Nat} (h:0<n / 10 ^ k∨k<least):k+1≤decK n least:=by
 unfold decK
 rcases h with h | h
 ·have hn:0<n:=by
   rcases Nat.eq_zero_or_pos n with h0 | h0
   ·rw [h0,Nat.zero_div] at h;omega
   ·exact h0
  rw [if_neg (by omega)]
  have h1:=(dec_bounds hn).2
  have h2:10 ^ k≤n:=by
   rcases Nat.lt_or_ge n (10 ^ k) with h3 | h3
   ·rw [Nat.div_eq_of_lt h3] at h;omega
   ·exact h3
  have h3:k<(Lib.decDigits n).length:=by
   rcases Nat.lt_or_ge k (Lib.decDigits n).length with h4 | h4
   ·exact h4
   ·have:=Nat.pow_le_pow_right (n:=10) (by omega) h4
    omega
  omega
 ·omega
theorem decK_end {n least k:Nat} (h1:n / 10 ^ k=0) (h2:least≤k) (h3:k≤decK n least):k=decK n least:=by
 have h4:n<10 ^ k:=by
  rcases Nat.lt_or_ge n (10 ^ k) with h4 | h4
  ·exact h4
  ·have:=Nat.div_pos h4 (Nat.pow_pos (by omega))
   omega
 unfold decK at *
 by_cases h0:n=0
 ·rw [if_pos h0] at *
  omega
 ·rw [if_neg h0] at *
  have h5:=(dec_bounds (n:=n) (by omega)).1
  have h6:(Lib.decDigits n).length - 1<k:=by
   rcases Nat.lt_or_ge ((Lib.decDigits n).length - 1) k with h6 | h6
   ·exact h6
   ·have:=Nat.pow_le_pow_right (n:=10) (by omega) h6
    omega
  omega
theorem decK_one (n:Nat):Dec.pad (decK n 1) n=Lib.decDigits n:=by
 unfold decK
 have hp:=Dec.dec_length_pos n
 by_cases h0:n=0
 ·subst h0
  rw [if_pos rfl,Dec.dec_lt (by omega)]
  rfl
 ·rw [if_neg h0,Nat.max_eq_right (by omega),Dec.pad_dec _ _ hp (dec_bounds (by omega)).2,Nat.sub_self]
  rfl
theorem decK_nine {n:Nat} (h:n<Dn.B):decK n 9=9:=by
 have h1:n<10 ^ 9:=by rw [←B_dec];exact h
 unfold decK
 have h2:=Dec.dec_length_le (k:=9) (by omega) h1
 split<;>omega
theorem decK_le {n least:Nat} (h:n<10000000000000000000) (hl:least≤19):decK n least≤19:=by
 have h1:=Dec.dec_length_le (k:=19) (r:=n) (by omega) (by have e:(10:Nat) ^ 19=10000000000000000000:=(by decide);omega)
 unfold decK
 split<;>omega
def slashL (l:List UInt8):Nat:=l.findIdx (· == 47)
theorem slashL_none {l:List UInt8} (h:∀ c ∈ l,c≠47):slashL l=l.length:=by
 unfold slashL
 rw [List.findIdx_eq_length]
 intro c hc
 simpa using h c hc
theorem slashL_some {l r:List UInt8} (h:∀ c ∈ l,c≠47):slashL (l++47 :: r)=l.length:=by
 unfold slashL
 rw [List.findIdx_append,if_neg,List.findIdx_cons]
 ·simp
 ·rw [Nat.not_lt,Nat.le_iff_lt_or_eq]
  refine .inr ?_
  exact (slashL_none h).symm
theorem slashL_le (l:List UInt8):slashL l≤l.length:=List.findIdx_le_length
end Go.Proofs.YteajibbphcfmeaaGreatDoor
namespace Go.Proofs.YteajibbphcfmeaaGreatDoor
open Go.RowKit Dn
structure DigI (w:World) (A:Option Addr) (n c:Nat) (l:List Nat):Prop where
 rd:Reads w w.heap.size 1 A n (l.map natv)
 nc:n≤c
 cm:c≤maxLen
 wf:Wf l
theorem DigI.later {w w':World} {A:Option Addr} {n c:Nat} {l:List Nat} (h:DigI w A n c l) (hb:Below w.heap.size w w'):DigI w' A n c l:=⟨h.rd.later hb,h.nc,h.cm,h.wf⟩
theorem DigI.len {w:World} {A:Option Addr} {n c:Nat} {l:List Nat} (h:DigI w A n c l):l.length=n:=h.rd.lenM
set_option maxHeartbeats 1000000 in
theorem rtrim_any (A:Option Addr) (n c:Nat) (l:List Nat) (w:World) (h:DigI w A n c l) (hn:n≤1099511627776) :
  Calls Tryz.prog 168 #[.slice A n c] w fun e w'=>∃ m,e = .returned (.slice A m c)∧DigI w' A m c (digs (val l))∧Below w.heap.size w w':=by
 obtain ⟨hr,hnc,hcm,hw⟩:=h
 have hl:=hr.lenM
 have HCM:=Lib.hid hcm
 have HNC:=Lib.hid hnc
 clear hcm
 go_enter Tryz.func168,Tryz.ntmps168
 go_wp2
 go_loopg [0] n (fun q s W=>∃ k:Nat,k≤n∧s = .slice A k c∧k≤q∧Hid (∀ j (h:j<l.length),k≤j→l[j]=0)∧Below w.heap.size w W)
 case atStart=>exact ⟨n,Nat.le_refl _,rfl,Nat.le_refl _,fun j h h'=>by omega,Below.refl _ _⟩
 case round=>
  obtain ⟨k,hk,rfl,hq,hz,hbel⟩:=hrel
  have hfin:∀ (hx:∀ h:k - 1<l.length,0<k→l[k - 1]≠0) (W:World),Below w.heap.size w W→DigI W A k c (digs (val l)):=fun hx W hb=>by
   have ht:=take_trim hw k (by omega) (fun j h hj=>hz.out j h hj) hx
   have h2:=((hr.below hb).more hb.size).take (m:=k) hk
   rw [←List.map_take,ht] at h2
   exact ⟨h2,by have:=HNC.out;omega,HCM.out,wf_digs _⟩
  have HFIN:=Lib.hid hfin
  clear hfin
  by_cases h0:0<k
  ·obtain ⟨ad,hkl,rfl,hbb,hcell⟩:=(hr.below hbel).cellM (k:=k - 1) (by omega)
   have hc0:c≠0:=by omega
   by_cases hx:l[k - 1]=0
   ·rw [hx] at hcell
    replace hcell:wr.cell? (ad.add (k - 1))=some (.int .i64 0):=hcell
    have HX:=Lib.hid hx
    clear hx
    go_wp2
    go_roundg (k - 1)
    case measure=>omega
    case rel=>
     refine ⟨k - 1,by omega,rfl,Nat.le_refl _,?_,hbel⟩
     intro j h hj
     rcases Nat.lt_or_ge j k with h1 | h1
     ·obtain rfl:j=k - 1:=by omega
      exact HX.out
     ·exact hz.out j h h1
   ·have HX:=Lib.hid hx
    unfold natv at hcell
    generalize hg:l[k - 1]=x at *
    have hx0:(((x:Nat):Int)==0)=false:=by
     rw [beq_eq_false_iff_ne];omega
    have HG:=Lib.hid hg
    clear hg hx
    go_wp2
    go_ret
    exact ⟨k,rfl,HFIN.out (fun h _=>by rw [HG.out];exact HX.out) _ hbel,hbel⟩
  ·go_wp2
   go_ret
   exact ⟨k,rfl,HFIN.out (fun h h1=>absurd h1 h0) _ hbel,hbel⟩
set_option maxHeartbeats 400000 in
theorem rdigit_any (A:Option Addr) (n c:Nat) (l:List Nat) (k:Nat) (w:World) (h:Reads w w.heap.size 1 A n (l.map natv)) (_hn:n≤1099511627776) :
  Calls Tryz.prog 183 #[.slice A n c,.int .i64 (k:Int)] w fun e w'=>e = .returned (.int .i64 ((l.getD k 0:Nat):Int))∧w=w':=by
 have hl:=h.lenM
 by_cases h0:k<n
 ·obtain ⟨ad,hkl,rfl,hbb,hcell⟩:=h.cellM h0
  have hv:l.getD k 0=l[k]:=by simp [List.getD,hkl]
  have HV:=Lib.hid hv
  unfold natv at hcell
  clear hv
  generalize l[k]=x at *
  go_enter Tryz.func183,Tryz.ntmps183
  go_wp2
  go_ret
  exact ⟨by rw [HV.out];rfl,rfl⟩
 ·have hv:Hid (l.getD k 0=0):=by
   show l.getD k 0=0
   simp [List.getD,List.getElem?_eq_none (show l.length≤k by omega)]
  clear hl
  go_enter Tryz.func183,Tryz.ntmps183
  go_wp2
  go_ret
  exact ⟨by rw [hv.out];rfl,rfl⟩
set_option maxHeartbeats 1000000 in
theorem rcompare_any (A A':Option Addr) (n c n' c' x y:Nat) (w:World) (h:Reads w w.heap.size 1 A n ((digs x).map natv)) (h':Reads w w.heap.size 1 A' n' ((digs y).map natv)) (hn:n≤1099511627776) (hn':n'≤1099511627776) :
  Calls Tryz.prog 139 #[.slice A n c,.slice A' n' c'] w fun e w'=>e = .returned (.int .i64 (Bn.ncmp x y))∧Below w.heap.size w w':=by
 have hl:=h.lenM
 have hl':=h'.lenM
 by_cases hne:n=n'
 ·subst hne
  have HL:=Lib.hid hl
  have HL':=Lib.hid hl'
  clear hl hl'
  have hnn:((n:Int) != (n:Int))=false:=by simp
  go_enter Tryz.func139,Tryz.ntmps139
  go_wp2
  go_loopg [5] n (fun q s W=>∃ k:Nat,k≤n∧s = .int .i64 ((k:Int) - 1)∧k≤q∧Hid (∀ j,k≤j→(digs x).getD j 0=(digs y).getD j 0)∧Below w.heap.size w W)
  case atStart=>exact ⟨n,Nat.le_refl _,rfl,Nat.le_refl _,(fun j hj=>by rw [getD_out (by rw [HL.out];omega),getD_out (by rw [HL'.out];omega)]),Below.refl _ _⟩
  case round=>
   obtain ⟨k,hk,rfl,hq,hz,hbel⟩:=hrel
   by_cases h0:0<k
   ·obtain ⟨i,rfl⟩:∃ i:Nat,k=i+1:=⟨k - 1,by omega⟩
    have e1:((i+1:Nat):Int) - 1=(i:Int):=by omega
    rw [e1]
    obtain ⟨ad,hkl,rfl,hbb,hcell⟩:=(h.below hbel).cellM (k:=i) (by omega)
    obtain ⟨ad',hkl',rfl,hbb',hcell'⟩:=(h'.below hbel).cellM (k:=i) (by omega)
    have hgx:(digs x).getD i 0=(digs x)[i]:=by simp [List.getD,hkl]
    have hgy:(digs y).getD i 0=(digs y)[i]:=by simp [List.getD,hkl']
    have HX:=Lib.hid hgx
    have HY:=Lib.hid hgy
    have hxB:=wf_digs x _ (List.getElem_mem hkl)
    have hyB:=wf_digs y _ (List.getElem_mem hkl')
    unfold natv at hcell hcell'
    clear hgx hgy e1
    generalize (digs x)[i]=xk at *
    generalize (digs y)[i]=yk at *
    have q1:(0:Int)≤(i:Int):=by omega
    have q2:(i:Int)<(n:Int):=by omega
    rcases Nat.lt_trichotomy xk yk with hlt | heq | hgt
    ·have HR:Hid (Bn.ncmp x y = -1):=Bn.ncmp_lt (lt_getD i (fun j hj=>hz.out j (by omega)) (by rw [HX.out,HY.out];exact hlt))
     have d1:decide (xk<yk)=true:=by simpa using hlt
     go_upto_region 8 with (fail)
     go_quiet (fail)
     go_wp2
     go_ret
     exact ⟨by rw [HR.out];rfl,by first | exact below_drewN hbel _ | exact below_drewN (below_drewN hbel _) _⟩
    ·subst heq
     have HZ:Hid (∀ j,i≤j→(digs x).getD j 0=(digs y).getD j 0):=fun j hj=>by
      rcases Nat.lt_or_ge i j with h1 | h1
      ·exact hz.out j (by omega)
      ·obtain rfl:j=i:=by omega
       rw [HX.out,HY.out]
     have d1:decide (xk<xk)=false:=by simp
     go_upto_region 8 with (fail)
     go_quiet (fail)
     go_upto_region 10 with (fail)
     go_quiet (fail)
     go_wp2
     go_roundg i
     case measure=>omega
     case rel=>exact ⟨i,by omega,rfl,Nat.le_refl _,HZ.out,by first | exact below_drewN hbel _ | exact below_drewN (below_drewN hbel _) _⟩
    ·have HR:Hid (Bn.ncmp x y=1):=Bn.ncmp_gt (lt_getD i (fun j hj=>(hz.out j (by omega)).symm) (by rw [HX.out,HY.out];exact hgt))
     have d1:decide (xk<yk)=false:=by simp;omega
     have d2:decide (yk<xk)=true:=by simpa using hgt
     go_upto_region 8 with (fail)
     go_quiet (fail)
     go_upto_region 10 with (fail)
     go_quiet (fail)
     go_wp2
     go_ret
     exact ⟨by rw [HR.out];rfl,by first | exact below_drewN hbel _ | exact below_drewN (below_drewN hbel _) _⟩
   ·obtain rfl:k=0:=by omega
    have HR:Hid (Bn.ncmp x y=0):=by
     have:x=y:=eq_getD (fun j=>hz.out j (Nat.zero_le _))
     subst this
     exact Bn.ncmp_eq x
    go_wp2
    go_ret
    exact ⟨by rw [HR.out];rfl,hbel⟩
 ·have hnn:((n:Int) != (n':Int))=true:=by rw [bne_iff_ne];omega
  by_cases hlt:n<n'
  ·have HR:Hid (Bn.ncmp x y = -1):=Bn.ncmp_lt (by
    rcases Nat.lt_or_ge x y with h1 | h1
    ·exact h1
    ·have:=digs_length_mono h1
     omega)
   have d1:decide (n<n')=true:=by simpa using hlt
   clear hl hl'
   go_enter Tryz.func139,Tryz.ntmps139
   go_wp2
   go_ret
   exact ⟨by rw [HR.out];rfl,Below.refl _ _⟩
  ·have HR:Hid (Bn.ncmp x y=1):=Bn.ncmp_gt (by
    rcases Nat.lt_or_ge y x with h1 | h1
    ·exact h1
    ·have:=digs_length_mono h1
     omega)
   have d1:decide (n<n')=false:=by simpa using hlt
   clear hl hl'
   go_enter Tryz.func139,Tryz.ntmps139
   go_wp2
   go_ret
   exact ⟨by rw [HR.out];rfl,Below.refl _ _⟩
end Go.Proofs.YteajibbphcfmeaaGreatDoor
namespace Go.Proofs.YteajibbphcfmeaaGreatDoor
open Go.RowKit
end Go.Proofs.YteajibbphcfmeaaGreatDoor
namespace Go.Proofs.YteajibbphcfmeaaGreatDoor
open Flt Bn
def wd:List (List Bool)→Nat→Nat
 | [],_=>0
 | l :: t,i=>(if l.getD i false then 1 else 0)+2*wd t i
end Go.Proofs.YteajibbphcfmeaaGreatDoor
namespace Go.Proofs.YteajibbphcfmeaaGreatDoor
open Go.RowKit
theorem info_int:(Tryz.prog.info? 3).map (fun i=>(i.zero,i.size,i.bytes))=some (some (.int .i64 0),1,8):=by kernel_rfl
end Go.Proofs.YteajibbphcfmeaaGreatDoor
