/- Plain: numbers in lowest terms by their values; the value of an edge of a converter is the reference's. No program. -/
import Derived.Test.YtjhgadajpliclaaGreatDoorORb27
import Derived.Test.YtjhgadajpliclaaGreatDoorORb40
import Derived.Deep.RegionHeld3
import Derived.Test.YtjhgadajpliclaaGreatDoorOPr2
import Derived.Laws.FloatArith
namespace Go.Proofs.YtjhgadajpliclaaGreatDoor
open Go.RowKit Bn
open Flt
def Val (p:Q) (num:Int) (den:Nat):Prop:=sI p*(den:Int)=num*(p.bot:Int)∧0<den∧0<p.bot
theorem Val.frac {num:Int} {den:Nat} (h:0<den):Val (fracQ num den) num den:=⟨sI_low h,h,(fracQ_low num h).1⟩
theorem Val.trans {p:Q} {a b:Int} {x y:Nat} (h:Val p a x) (hy:0<y) (e:a*(y:Int)=b*(x:Int)):Val p b y:=by
 obtain ⟨h1,h2,h3⟩:=h
 refine ⟨?_,hy,h3⟩
 have hx:(x:Int)≠0:=by omega
 apply Int.eq_of_mul_eq_mul_right hx
 grind
theorem Val.eq {p q:Q} {a b:Int} {x y:Nat} (h:Val p a x) (h':Val q b y) (hp:LowQ p) (hq:LowQ q) (e:a*(y:Int)=b*(x:Int)):p=q:=by
 obtain ⟨h1,h2,h3⟩:=h
 obtain ⟨k1,k2,k3⟩:=h'
 refine low_unique hp hq ?_
 have hx:((x:Int)*(y:Int))≠0:=Int.mul_ne_zero (by omega) (by omega)
 apply Int.eq_of_mul_eq_mul_right hx
 grind
theorem Val.mul {p q:Q} {a b:Int} {x y:Nat} (h:Val p a x) (h':Val q b y):Val (mulQ p q) (a*b) (x*y):=by
 obtain ⟨h1,h2,h3⟩:=h
 obtain ⟨k1,k2,k3⟩:=h'
 have hv:Val (mulQ p q) (sI p*sI q) (p.bot*q.bot):=Val.frac (Nat.mul_pos h3 k3)
 refine hv.trans (Nat.mul_pos h2 k2) ?_
 rw [Int.natCast_mul,Int.natCast_mul]
 grind
theorem Val.add {p q:Q} {a b:Int} {x y:Nat} (h:Val p a x) (h':Val q b y):Val (addQ p q) (a*y+b*x) (x*y):=by
 obtain ⟨h1,h2,h3⟩:=h
 obtain ⟨k1,k2,k3⟩:=h'
 have hv:Val (addQ p q) (sI p*(q.bot:Int)+sI q*(p.bot:Int)) (p.bot*q.bot):=Val.frac (Nat.mul_pos h3 k3)
 refine hv.trans (Nat.mul_pos h2 k2) ?_
 rw [Int.natCast_mul,Int.natCast_mul]
 grind
theorem Val.sub {p q:Q} {a b:Int} {x y:Nat} (h:Val p a x) (h':Val q b y):Val (subQ p q) (a*y - b*x) (x*y):=by
 obtain ⟨h1,h2,h3⟩:=h
 obtain ⟨k1,k2,k3⟩:=h'
 have hv:Val (subQ p q) (sI p*(q.bot:Int) - sI q*(p.bot:Int)) (p.bot*q.bot):=Val.frac (Nat.mul_pos h3 k3)
 refine hv.trans (Nat.mul_pos h2 k2) ?_
 rw [Int.natCast_mul,Int.natCast_mul]
 grind
theorem Val.int (z:Int):Val (intQ z) z 1:=by
 refine ⟨?_,Nat.one_pos,Nat.one_pos⟩
 show sgn (decide (z<0)) z.natAbs*1=z*1
 unfold sgn
 by_cases h:z<0
 ·rw [decide_eq_true h,if_pos rfl]
  omega
 ·rw [decide_eq_false h,if_neg (by simp)]
  omega
theorem Val.half:Val halfQ 1 2:=⟨by decide,by decide,by decide⟩
theorem Val.lsb {st:Int} (h : -20≤st∧st≤4):Val (lsbQ st) ((2 ^ (st+149).toNat:Nat):Int) (2 ^ 149):=by
 unfold lsbQ
 split
 ·refine ⟨?_,Nat.two_pow_pos _,Nat.pow_pos (by decide)⟩
  show ((2 ^ st.toNat:Nat):Int)*((2 ^ 149:Nat):Int)=((2 ^ (st+149).toNat:Nat):Int)*((1 ^ st.toNat:Nat):Int)
  rw [Nat.one_pow,←Int.natCast_mul,←Int.natCast_mul,←Nat.pow_add,Nat.mul_one,show st.toNat+149=(st+149).toNat by omega]
 ·rw [rec_two]
  refine ⟨?_,Nat.two_pow_pos _,Nat.pow_pos (by decide)⟩
  show ((1 ^ (-st).toNat:Nat):Int)*((2 ^ 149:Nat):Int)=((2 ^ (st+149).toNat:Nat):Int)*((2 ^ (-st).toNat:Nat):Int)
  rw [Nat.one_pow,←Int.natCast_mul,←Int.natCast_mul,←Nat.pow_add,Nat.one_mul,show (st+149).toNat+(-st).toNat=149 by omega]
theorem Val.sign {q:Q} {num:Int} {den:Nat} (h:Val q num den):(num<0→signI q = -1)∧(num=0→signI q=0)∧(0<num→signI q=1):=by
 obtain ⟨h1,h2,h3⟩:=h
 have hb:(0:Int)<(q.bot:Int):=by omega
 have hd:(0:Int)<(den:Int):=by omega
 have hs:sI q=if q.neg then -(q.top:Int) else (q.top:Int):=rfl
 unfold signI
 refine ⟨fun hn => ?_,fun hn => ?_,fun hn => ?_⟩
 ·have hlt:sI q*(den:Int)<0:=by rw [h1];exact Int.mul_neg_of_neg_of_pos hn hb
  have hsl:sI q<0:=by
   rcases Int.lt_or_le (sI q) 0 with h9 | h9
   ·exact h9
   ·have:=Int.mul_nonneg h9 (Int.le_of_lt hd);omega
  rw [hs] at hsl
  have ht:q.top≠0:=by intro h9;rw [h9] at hsl;simp at hsl
  rw [if_neg ht]
  cases hq:q.neg
  ·rw [hq] at hsl;simp at hsl;omega
  ·simp
 ·rw [hn,Int.zero_mul] at h1
  have h0:=(Int.mul_eq_zero.1 h1).resolve_right (by omega)
  rw [hs] at h0
  have ht:q.top=0:=by split at h0<;>omega
  rw [if_pos ht]
 ·have hlt:0<sI q*(den:Int):=by rw [h1];exact Int.mul_pos hn hb
  have hsl:0<sI q:=by
   rcases Int.lt_or_le 0 (sI q) with h9 | h9
   ·exact h9
   ·have:=Int.mul_nonpos_of_nonpos_of_nonneg h9 (Int.le_of_lt hd);omega
  rw [hs] at hsl
  have ht:q.top≠0:=by intro h9;rw [h9] at hsl;simp at hsl
  rw [if_neg ht]
  cases hq:q.neg
  ·simp
  ·rw [hq] at hsl;simp at hsl;omega
theorem sign_int (z:Int):(z<0→signI (intQ z) = -1)∧(z=0→signI (intQ z)=0)∧(0<z→signI (intQ z)=1):=(Val.int z).sign
theorem cmp_int (x y:Int):(x<y→cmpI (intQ x) (intQ y) = -1)∧(x=y→cmpI (intQ x) (intQ y)=0)∧(y<x→cmpI (intQ x) (intQ y)=1):=by
 have h:=((Val.int x).sub (Val.int y)).sign
 unfold cmpI
 exact ⟨fun h9=>h.1 (by omega),fun h9=>h.2.1 (by omega),fun h9=>h.2.2 (by omega)⟩
theorem lsb_pos (st:Int):(lsbQ st).neg=false∧0<(lsbQ st).top:=by
 unfold lsbQ
 split
 ·exact ⟨rfl,Nat.pow_pos (by decide)⟩
 ·rw [rec_two];exact ⟨rfl,Nat.pow_pos (by decide)⟩
def codeQ (st z:Int) (p:Q):Q:=addQ (addQ (mulQ p (recQ (lsbQ st))) (intQ z)) halfQ
def codeZ (st z:Int) (p:Q):Int:=floorZ (codeQ st z p)
set_option maxHeartbeats 8000000 in
set_option maxRecDepth 100000 in
theorem rCode_any (a:Nat) (st z k ce:Int) (g o v:ByteArray) (p:Q) (w:World) (ha:0<a∧a≤12) (hst : -20≤st∧st≤4) (hz:0≤z∧z≤4096) (hv:NumQ v p) (hp:Small p 600)
  (hk:(codeZ st z p<0∧k=0∧ce = -1)∨(((2 ^ a - 1:Nat):Int)<codeZ st z p∧k=((2 ^ a - 1:Nat):Int)∧ce=1)∨(0≤codeZ st z p∧codeZ st z p≤((2 ^ a - 1:Nat):Int)∧k=codeZ st z p∧ce=0)) :
  Calls Tryz.prog 15 #[.agg #[.int .i64 (a:Int),.int .i64 st,.int .i64 z,.string g,.string o],.string v] w fun e w'=>e = .returned (.tuple #[.int .i64 k,.int .i64 ce])∧Below w.heap.size w w':=by
 have hb0:Below w.heap.size w (w.alloc (.cells #[.int .i64 (a:Int),.int .i64 st,.int .i64 z,.string g,.string o] 24)):=(Below.refl _ _).alloc (Nat.le_refl _) _
 have a0:CBlk (w.alloc (.cells #[.int .i64 (a:Int),.int .i64 st,.int .i64 z,.string g,.string o] 24)) w.heap.size #[.int .i64 (a:Int),.int .i64 st,.int .i64 z,.string g,.string o] 24:=CBlk.new w _ _ _ rfl
 obtain ⟨ln,lt⟩:=lsb_pos st
 have ls:=lsb_small hst
 have ll:=lsb_low st
 have vs:v.size≤1202:=hv.size hp (by omega)
 have zs:Small (intQ z) 10:=small_intQ (by omega)
 have r1:LowQ (recQ (lsbQ st)):=low_rec lt
 have rs:Small (recQ (lsbQ st)) 10:=rec_size ls lt
 have l1:LowQ (mulQ p (recQ (lsbQ st))):=fracQ_low _ (Nat.mul_pos hv.2.1 r1.1)
 have s1:Small (mulQ p (recQ (lsbQ st))) 610:=small_mul hp rs hv.2.1 r1.1
 have l2:LowQ (addQ (mulQ p (recQ (lsbQ st))) (intQ z)):=fracQ_low _ (Nat.mul_pos l1.1 Nat.one_pos)
 have s2:Small (addQ (mulQ p (recQ (lsbQ st))) (intQ z)) 621:=small_add s1 zs l1.1 Nat.one_pos
 have hs1:Small halfQ 1:=⟨by decide,by decide⟩
 have s3:Small (codeQ st z p) 623:=small_add s2 hs1 l2.1 (by decide)
 have sz:∀ {s:ByteArray} {q:Q} {K:Nat},NumQ s q→Small q K→0<K→K≤700→s.size≤1402:=fun h1 h2 h3 h4=>by have:=h1.size h2 h3;omega
 have H1:=Lib.hid (fun W=>rLsb_any (a:Int) st z g o W hst)
 have H2:=Lib.hid (fun (s:ByteArray) (hs:NumQ s (lsbQ st)) W=>rDiv_q v s p (lsbQ st) W hv hs ln lt (by omega) (by have:=sz hs ls (by omega) (by omega);omega))
 have H3:=Lib.hid (fun W=>rFromInt_any z W (by omega) (by omega))
 have H4:=Lib.hid (fun (s t:ByteArray) (hs:NumQ s (mulQ p (recQ (lsbQ st)))) (ht:NumQ t (intQ z)) W=>rAdd_q s t _ _ W hs ht (by have:=sz hs s1 (by omega) (by omega);omega) (by have:=sz ht zs (by omega) (by omega);omega))
 have H5:=Lib.hid (fun (s:ByteArray) (hs:NumQ s (addQ (mulQ p (recQ (lsbQ st))) (intQ z))) W=>rAdd_q s ⟨#[49,47,50]⟩ _ _ W hs half_num (by have:=sz hs s2 (by omega) (by omega);omega) (by decide))
 have hcq:addQ (addQ (mulQ p (recQ (lsbQ st))) (intQ z)) halfQ=codeQ st z p:=rfl
 rw [hcq] at H5
 clear hcq
 have H6:=Lib.hid (fun (s:ByteArray) (hs:NumQ s (codeQ st z p)) W=>rFloor_q s _ W hs (by have:=sz hs s3 (by omega) (by omega);omega))
 have hpw:2 ^ a≤2 ^ 12:=Nat.pow_le_pow_right (by omega) ha.2
 have e12:(2:Nat) ^ 12=4096:=by decide
 rw [e12] at hpw
 have hpw1:1<2 ^ a:=Nat.one_lt_pow (by omega) (by omega)
 have HT:=Lib.hid (fun W=>rTop_any a st z (.string g) (.string o) W (by omega))
 obtain ⟨T,hT⟩:∃ T,T=2 ^ a - 1:=⟨_,rfl⟩
 rw [←hT] at HT hk
 have hTb:0<T∧T≤4095:=by omega
 have H7:=Lib.hid (fun W=>rFromInt_any (T:Int) W (by omega) (by omega))
 have hfl:floorZ (codeQ st z p)=codeZ st z p:=rfl
 rw [hfl] at H6
 have hsg:∀ s:ByteArray,NumQ s (intQ (codeZ st z p))→s.size≤99999:=fun s hs=>by
  obtain ⟨K,hK⟩:∃ K,K=700:=⟨_,rfl⟩
  have hq:Small (intQ (codeZ st z p)) K:=by
   obtain ⟨J,hJ⟩:∃ J,J=623:=⟨_,rfl⟩
   have h9:=s3.1
   rw [←hJ] at h9
   have h8:(10:Nat) ^ J<10 ^ K:=Nat.pow_lt_pow_right (by omega) (by omega)
   have h7:=floorI_abs (codeQ st z p).neg (codeQ st z p).top (codeQ st z p).bot
   refine ⟨?_,Nat.one_lt_pow (by omega) (by omega)⟩
   show (floorI (codeQ st z p).neg (codeQ st z p).top (codeQ st z p).bot).natAbs<10 ^ K
   generalize (10:Nat) ^ J=u at *
   generalize (10:Nat) ^ K=u2 at *
   omega
  have:=sz hs hq (by omega) (by omega)
  omega
 have HS:=Lib.hid (fun (s:ByteArray) (hs:NumQ s (intQ (codeZ st z p))) W=>rSign_q s _ W hs (by have:=hsg s hs;omega))
 have HC:=Lib.hid (fun (s t:ByteArray) (hs:NumQ s (intQ (codeZ st z p))) (ht:NumQ t (intQ (T:Int))) W=>rCmp_q s t _ _ W hs ht (hsg s hs) (by have:=sz ht (small_intQ (z:=(T:Int)) (by omega)) (by omega) (by omega);omega))
 have HI:Hid (∀ (f:Nat),codeZ st z p=(f:Int)→f≤4095→∀ (s:ByteArray),NumQ s (intQ (codeZ st z p))→∀ W,Calls Tryz.prog 61 #[.string s] W fun e w'=>e = .returned (.tuple #[.int .i64 (f:Int),.bool true])∧Below W.heap.size W w'):=fun f hf hf2 s hs W=>by
  rw [hf] at hs
  exact rToInt_small s f W hs (by omega)
 have HSI:=Lib.hid (sign_int (codeZ st z p))
 have HCI:=Lib.hid (cmp_int (codeZ st z p) (T:Int))
 generalize codeQ st z p=q3 at *
 generalize codeZ st z p=f at *
 generalize addQ (mulQ p (recQ (lsbQ st))) (intQ z)=q2 at *
 generalize mulQ p (recQ (lsbQ st))=q1 at *
 generalize lsbQ st=L at *
 have HK:=Lib.hid hk
 have HTB:=Lib.hid hTb
 clear hst hz hv hp hk ha ln lt ls ll vs zs r1 rs l1 s1 l2 s2 hs1 s3 sz hpw e12 hpw1 hT hTb hfl hsg
 go_enter Tryz.func15,Tryz.ntmps15
 have x0:=a0.cell 0
 have x1:=a0.cell 1
 have x2:=a0.cell 2
 have x3:=a0.cell 3
 have x4:=a0.cell 4
 go_wp2_with fail
 generalize w.alloc (.cells #[.int .i64 (a:Int),.int .i64 st,.int .i64 z,.string g,.string o] 24)=w1 at *
 have a1:CBlk w1.drew w.heap.size #[.int .i64 (a:Int),.int .i64 st,.int .i64 z,.string g,.string o] 24:=a0
 have hB1:Below w.heap.size w w1.drew:=hb0.drew
 go_region_held3 (fun w'=>w'.cell? ⟨w.heap.size,0,none⟩=some (.int .i64 (a:Int))∧w'.cell? ⟨w.heap.size,1,none⟩=some (.int .i64 st)∧w'.cell? ⟨w.heap.size,2,none⟩=some (.int .i64 z)∧w'.cell? ⟨w.heap.size,3,none⟩=some (.string g)∧w'.cell? ⟨w.heap.size,4,none⟩=some (.string o))
  ((refine ⟨?_,?_,?_,?_,?_⟩<;>first | exact a7.cell _ | exact a6.cell _ | exact a5.cell _ | exact a4.cell _ | exact a3.cell _ | exact a2.cell _ | exact a1.cell _))
  (first
   |(go_at_call 55;refine (H6.out _ i6 w6).mono ?_;rintro e w7 ⟨⟨s7,rfl,i7⟩,hb7⟩;have a7:=a6.below hb7 a6.lt;have hB7:=hB6.trans (hb7.mono hB6.size))
   |(go_at_call 56;refine (H5.out _ i5 w5).mono ?_;rintro e w6 ⟨⟨s6,rfl,i6⟩,hb6⟩;have a6:=a5.below hb6 a5.lt;have hB6:=hB5.trans (hb6.mono hB5.size))
   |(go_at_call 56;refine (H4.out _ _ i3 i4 w4).mono ?_;rintro e w5 ⟨⟨s5,rfl,i5⟩,hb5⟩;have a5:=a4.below hb5 a4.lt;have hB5:=hB4.trans (hb5.mono hB4.size))
   |(go_at_call 59;refine (H3.out w3).mono ?_;rintro e w4 ⟨⟨s4,rfl,i4⟩,hb4⟩;have a4:=a3.below hb4 a3.lt;have hB4:=hB3.trans (hb4.mono hB3.size))
   |(go_at_call 57;refine (H2.out _ i2 w2).mono ?_;rintro e w3 ⟨⟨s3,rfl,i3⟩,hb3⟩;have a3:=a2.below hb3 a2.lt;have hB3:=hB2.trans (hb3.mono hB2.size))
   |(go_at_call 58;refine (H1.out w1.drew).mono ?_;rintro e w2 ⟨⟨s2,rfl,i2⟩,hb2⟩;have a2:=a1.below hb2 a1.lt;have hB2:=hB1.trans (hb2.mono hB1.size)))
 clear x0 x1 x2 x3 x4 a0 a1 a2 a3 a4 a5 a6 hb0 hb2 hb3 hb4 hb5 hb6 hb7 hB1 hB2 hB3 hB4 hB5 hB6 i2 i3 i4 i5 i6 H1 H2 H3 H4 H5 H6
 rcases HK.out with ⟨hf,rfl,rfl⟩ | ⟨hf,rfl,rfl⟩ | ⟨hf,hf2,hkf,rfl⟩
 ·have hS:=HS.out _ i7 w7
  rw [HSI.out.1 hf] at hS
  clear HK hf
  go_wp2_with fail
  refine hS.mono ?_
  rintro e w8 ⟨rfl,rfl⟩
  go_wp2
  go_ret2
  exact ⟨rfl,hB7⟩
 ·have hS:=HS.out _ i7 w7
  rw [HSI.out.2.2 (by have:=HTB.out;omega)] at hS
  have hCC:=fun t W=>HC.out s7 t i7 (W:=W)
  simp only [HCI.out.2.2 hf] at hCC
  clear HK hf
  have x0:=a7.cell 0
  have x1:=a7.cell 1
  have x2:=a7.cell 2
  have x3:=a7.cell 3
  have x4:=a7.cell 4
  go_wp2_with fail
  refine hS.mono ?_
  rintro e w8 ⟨rfl,rfl⟩
  go_wp2_with fail
  refine (HT.out w7).mono ?_
  rintro e w8 ⟨rfl,hb8⟩
  have a8:=a7.below hb8 a7.lt
  have hB8:=hB7.trans (hb8.mono hB7.size)
  clear x0 x1 x2 x3 x4
  go_wp2_with fail
  refine (H7.out w8).mono ?_
  rintro e w9 ⟨⟨s9,rfl,i9⟩,hb9⟩
  have a9:=a8.below hb9 a8.lt
  have hB9:=hB8.trans (hb9.mono hB8.size)
  go_wp2_with fail
  refine (hCC s9 w9 i9).mono ?_
  rintro e w10 ⟨rfl,hb10⟩
  have a10:=a9.below hb10 a9.lt
  have hB10:=hB9.trans (hb10.mono hB9.size)
  have x0:=a10.cell 0
  have x1:=a10.cell 1
  have x2:=a10.cell 2
  have x3:=a10.cell 3
  have x4:=a10.cell 4
  go_wp2_with fail
  refine (HT.out w10).mono ?_
  rintro e w11 ⟨rfl,hb11⟩
  go_wp2
  go_ret2
  exact ⟨rfl,hB10.trans (hb11.mono hB10.size)⟩
 ·obtain rfl:=hkf.symm
  obtain ⟨sg,hsg,hsg2⟩:∃ sg,signI (intQ f)=sg∧decide (sg<0)=false:=by
   rcases Int.lt_or_eq_of_le hf with h9 | h9
   ·exact ⟨1,HSI.out.2.2 h9,by decide⟩
   ·exact ⟨0,HSI.out.2.1 h9.symm,by decide⟩
  obtain ⟨cm,hcm,hcm2⟩:∃ cm,cmpI (intQ f) (intQ (T:Int))=cm∧decide (0<cm)=false:=by
   rcases Int.lt_or_eq_of_le hf2 with h9 | h9
   ·exact ⟨-1,HCI.out.1 h9,by decide⟩
   ·exact ⟨0,HCI.out.2.1 h9,by decide⟩
  have hS:=HS.out _ i7 w7
  rw [hsg] at hS
  have hCC:=fun t W=>HC.out s7 t i7 (W:=W)
  simp only [hcm] at hCC
  have x0:=a7.cell 0
  have x1:=a7.cell 1
  have x2:=a7.cell 2
  have x3:=a7.cell 3
  have x4:=a7.cell 4
  go_wp2_with fail
  refine hS.mono ?_
  rintro e w8 ⟨rfl,rfl⟩
  go_wp2_with fail
  refine (HT.out w7).mono ?_
  rintro e w8 ⟨rfl,hb8⟩
  have a8:=a7.below hb8 a7.lt
  have hB8:=hB7.trans (hb8.mono hB7.size)
  clear x0 x1 x2 x3 x4
  go_wp2_with fail
  refine (H7.out w8).mono ?_
  rintro e w9 ⟨⟨s9,rfl,i9⟩,hb9⟩
  have a9:=a8.below hb9 a8.lt
  have hB9:=hB8.trans (hb9.mono hB8.size)
  go_wp2_with fail
  refine (hCC s9 w9 i9).mono ?_
  rintro e w10 ⟨rfl,hb10⟩
  have a10:=a9.below hb10 a9.lt
  have hB10:=hB9.trans (hb10.mono hB9.size)
  obtain ⟨fn,hfn⟩:∃ fn:Nat,f=(fn:Int):=⟨f.toNat,by omega⟩
  have hII:=HI.out fn hfn (by have:=HTB.out;omega) s7 i7 w10
  have HFN:=Lib.hid hfn
  clear HK hf hf2 hsg hcm HSI HCI HI hfn HC HS hS hCC
  go_wp2_with fail
  refine hII.mono ?_
  rintro e w11 ⟨rfl,hb11⟩
  go_wp2
  go_ret2
  exact ⟨by rw [HFN.out];rfl,hB10.trans (hb11.mono hB10.size)⟩
end Go.Proofs.YtjhgadajpliclaaGreatDoor
namespace Go.Proofs.YtjhgadajpliclaaGreatDoor
open Go.RowKit
open Flt
theorem log24 {n:Nat} (h1:8388608≤n) (h2:n<16777216):n.log2=23:=by
 have e23:(2:Nat) ^ 23=8388608:=by decide
 have e24:(2:Nat) ^ 24=16777216:=by decide
 have a1:23≤n.log2:=(Nat.le_log2 (by omega)).2 (by omega)
 have a2:n.log2<24:=(Nat.log2_lt (by omega)).2 (by omega)
 omega
theorem read_two:Ieee.single.read 1073741824 = .number false 8388608 (-22):=by decide
theorem read_nul:Ieee.single.read 0 = .number false 0 (-149):=by decide
theorem rnd24 {n:Nat} {e:Int} (h1:8388608≤n) (h2:n<16777216) (he : -149≤e):Rnd n e:=⟨he,by omega,.inr h1⟩
theorem rung_fin {n:Nat} {e:Int} (h2:n<16777216) (he : -149≤e) (he2:e≤104):rung n e<2139095040:=by
 unfold rung
 have:(e+149).toNat≤253:=by omega
 omega
theorem write_rung (s:Bool) {n k:Nat} {p q:Int} (h1:8388608≤n) (h2:n<16777216) (hq:p+k=q) (he : -149≤q) (he2:q≤104):Ieee.single.write (.number s (n*2 ^ k) p)=Ieee.single.word s (rung n q):=
 sgl_down s (by omega) (log24 h1 h2) hq (by omega) (by have:=rung_fin h2 he he2;unfold rung at this;omega)
theorem half_word (s:Bool) {n:Nat} {e:Int} (h1:8388608≤n) (h2:n<16777216) (he : -148≤e) (he2:e≤104):floatBits .quo .f32 (Ieee.single.word s (rung n e)) 1073741824=some (Ieee.single.word s (rung n (e - 1))):=by
 show ((Ieee.single.read (Ieee.single.word s (rung n e))).quotient 25 (Ieee.single.read 1073741824)).map Ieee.single.write=_
 rw [word_read s (rnd24 h1 h2 (by omega)) h2 (rung_fin h2 (by omega) he2),read_two]
 have hl:(8388608:Nat).log2=23:=by decide
 have hq:(n <<< 25) / 8388608=n*4∧(n <<< 25) % 8388608=0:=by
  rw [Nat.shiftLeft_eq]
  have:(2:Nat) ^ 25=33554432:=by decide
  rw [this]
  omega
 show some (Ieee.single.write (.number (s ^^ false) (2*((n <<< (25+(8388608:Nat).log2 - n.log2)) / 8388608)+((n <<< (25+(8388608:Nat).log2 - n.log2)) % 8388608 != 0).toNat) (e - -22 - ((25+(8388608:Nat).log2 - n.log2:Nat):Int) - 1)))=_
 rw [hl,log24 h1 h2,show 25+23 - 23=25 from rfl,hq.1,hq.2]
 have e1:2*(n*4)+((0:Nat) != 0).toNat=n*2 ^ 3:=by
  have:((0:Nat) != 0).toNat=0:=rfl
  rw [this]
  have:(2:Nat) ^ 3=8:=by decide
  omega
 rw [e1,Bool.xor_false,write_rung s h1 h2 (k:=3) (q:=e - 1) (by omega) (by omega) (by omega)]
theorem minus_word (s:Bool) {n:Nat} {e:Int} (h1:8388608≤n) (h2:n<16777216) (he : -149≤e) (he2:e≤104):floatBits .sub .f32 0 (Ieee.single.word s (rung n e))=some (Ieee.single.word (!s) (rung n e)):=by
 show ((Ieee.single.read 0).sum (Ieee.single.read (Ieee.single.word s (rung n e))).opposite).map Ieee.single.write=_
 rw [word_read s (rnd24 h1 h2 (by omega)) h2 (rung_fin h2 (by omega) (by omega)),read_nul]
 obtain ⟨k,hk⟩:∃ k:Nat,(e+149).toNat=k:=⟨_,rfl⟩
 have hm:min (-149:Int) e = -149:=by omega
 have hk2:(e - -149).toNat=k:=by omega
 have hpos:0<n*2 ^ k:=Nat.mul_pos (by omega) (Nat.two_pow_pos _)
 have ht:Ieee.signed false 0 ((-149:Int) - -149).toNat+Ieee.signed (!s) n k=if s then ((n*2 ^ k:Nat):Int) else -((n*2 ^ k:Nat):Int):=by
  unfold Ieee.signed
  rw [Nat.shiftLeft_eq,Nat.shiftLeft_eq]
  cases s<;>simp
 show some (Ieee.single.write (.number (if Ieee.signed false 0 ((-149:Int) - min (-149) e).toNat+Ieee.signed (!s) n (e - min (-149) e).toNat=0 then false && !s else decide (Ieee.signed false 0 ((-149:Int) - min (-149) e).toNat+Ieee.signed (!s) n (e - min (-149) e).toNat<0)) (Ieee.signed false 0 ((-149:Int) - min (-149) e).toNat+Ieee.signed (!s) n (e - min (-149) e).toNat).natAbs (min (-149) e)))=_
 rw [hm,hk2,ht]
 have hw:=fun b=>write_rung b h1 h2 (k:=k) (p := -149) (q:=e) (by omega) he he2
 generalize n*2 ^ k=M at *
 cases s
 ·simp only [Bool.false_eq_true,if_false]
  rw [if_neg (show ¬ -(M:Int)=0 by omega)]
  have e1:decide (-(M:Int)<0)=true:=decide_eq_true (by omega)
  have e2:(-(M:Int)).natAbs=M:=by omega
  rw [e1,e2,hw true]
  rfl
 ·simp only [if_true]
  rw [if_neg (show ¬ (M:Int)=0 by omega)]
  have e1:decide ((M:Int)<0)=false:=decide_eq_false (by omega)
  have e2:((M:Int)).natAbs=M:=by omega
  rw [e1,e2,hw false]
  rfl
theorem whole_word {n:Nat} (h1:8388608≤n) (h2:n<16777216):floatOfInt .f32 (n:Int)=Ieee.single.word false (rung n 0):=by
 show Ieee.single.write (.number (decide ((n:Int)<0)) (n:Int).natAbs 0)=_
 rw [show decide ((n:Int)<0)=false by simp,Int.natAbs_natCast]
 have:=write_rung false h1 h2 (k:=0) (p:=0) (q:=0) (by omega) (by omega) (by omega)
 rwa [Nat.pow_zero,Nat.mul_one] at this
set_option maxHeartbeats 2000000 in
set_option maxRecDepth 100000 in
theorem rbuilt_down (n m:Nat) (w:World) (h1:8388608≤n) (h2:n<16777216) (hm:m≤149) :
  Calls Tryz.prog 123 #[.int .i64 (n:Int),.int .i64 (-(m:Int))] w fun e w'=>e = .returned (.float .f32 (Ieee.single.word false (rung n (-(m:Int)))))∧w=w':=by
 obtain ⟨F,hF⟩:∃ F:Nat→Nat,∀ i:Nat,F i=Ieee.single.word false (rung n (-(i:Int))):=⟨_,fun _=>rfl⟩
 have hc:floatOfInt .f32 (n:Int)=F 0:=by rw [hF];exact whole_word h1 h2
 have hs:∀ i:Nat,i<m→floatBits .quo .f32 (F i) 1073741824=some (F (i+1)):=fun i hi=>by
  rw [hF,hF,half_word false h1 h2 (by omega) (by omega),show (-(i:Int) - 1)=(-((i+1:Nat):Int)) by omega]
 have HS:=Lib.hid hs
 rw [←hF m]
 clear hs hF h1 h2
 have d0:decide ((0:Int) < -(m:Int))=false:=decide_eq_false (by omega)
 go_enter Tryz.func123,Tryz.ntmps123
 go_wp2
 go_loopg [5,6] 0 (fun g v5 v6 W=>g=0∧v5 = .float .f32 (F 0)∧v6 = .int .i64 0∧W=w)
 case atStart=>exact ⟨rfl,rfl,rfl,rfl⟩
 case round=>
  obtain ⟨rfl,rfl,rfl,rfl⟩:=hrel
  go_wp2
  go_loopg [5,7] m (fun g v5 v7 W=>∃ i:Nat,v5 = .float .f32 (F i)∧v7 = .int .i64 (-(i:Int))∧i≤m∧g+i=m∧W=wr)
  case atStart=>exact ⟨0,rfl,rfl,Nat.zero_le _,rfl,rfl⟩
  case round=>
   obtain ⟨i,rfl,rfl,hi,hg,rfl⟩:=hrel
   by_cases hlt:i<m
   ·have d1:decide (-(m:Int) < -(i:Int))=true:=decide_eq_true (by omega)
    obtain ⟨ii,hii⟩:∃ ii,ii=i+1:=⟨_,rfl⟩
    have ha:=fun W=>run_float_arith (P:=Tryz.prog) W .quo 35 .f32 (F i) 1073741824 (F ii) (by rw [hii];exact HS.out i hlt)
    have hw:IntKind.i64.wrap (-(i:Int) - 1) = -(ii:Int):=by rw [IntWalk.i64_in _ (by omega)];omega
    go_wp2
    go_roundg (m - ii)
    case rel=>exact ⟨ii,by rw [hii],by congr 1;omega,by omega,by omega,rfl⟩
    case measure=>omega
   ·obtain rfl:i=m:=by omega
    have d1:decide (-(i:Int) < -(i:Int))=false:=decide_eq_false (by omega)
    go_wp2
    go_ret
    exact ⟨rfl,rfl⟩
end Go.Proofs.YtjhgadajpliclaaGreatDoor
