/- The code's CheckAdc of any converter. -/
import Derived.Test.YtmkihdjolnlccaaGreatDoorFInv
import Derived.Test.YtmkihdjolnlccaaGreatDoorFAd2
import Derived.Test.YtmkihdjolnlccaaGreatDoorFRng2
import Derived.Deep.RegionHeld3
namespace Go.Proofs.YtmkihdjolnlccaaGreatDoor
open Go.RowKit Bn
open Flt
theorem firstE_three (x y z:Int):firstE [x,y,z]=if x≠0 then x else if y≠0 then y else z:=by
 unfold firstE
 split
 ·rfl
 ·unfold firstE
  split
  ·rfl
  ·unfold firstE
   split
   ·rfl
   ·rename_i h
    simp only [firstE]
    exact (Classical.not_not.1 h).symm
theorem cfirst_threeA (x y z:Int) (w:World) (t:TypeId) (g:Nat) (hg:w.heap.size=g) :
  Calls Tryz.prog 64 #[.slice (some ⟨g,0,none⟩) 3 3] (w.alloc (.cells #[.int .i64 x,.int .i64 y,.int .i64 z] t)) fun e w'=>e = .returned (.int .i64 (if x≠0 then x else if y≠0 then y else z))∧w.alloc (.cells #[.int .i64 x,.int .i64 y,.int .i64 z] t)=w':=by
 subst hg
 have h:=cfirst_any (some ⟨w.heap.size,0,none⟩) 3 3 [x,y,z] (w.alloc (.cells #[.int .i64 x,.int .i64 y,.int .i64 z] t)) (Reads.lit w [.int .i64 x,.int .i64 y,.int .i64 z] t) (by unfold maxLen;omega)
 rwa [firstE_three] at h
def gainE (l:List UInt8):Int:=if readE l≠0 then readE l else if signI (readQ l)≤0 then 3 else 0
theorem rcmp_zero {p:Q} (h:LowQ p):rcmp p (readQ [48])=signI p:=by
 have hw:writeS ⟨false,0,1⟩=[48]:=by decide +kernel
 have hq:readQ [48]=⟨false,0,1⟩:=by
  rw [←hw]
  exact (read_writeS ⟨false,0,1⟩ ⟨by decide,by decide,fun h=>by cases h⟩ (by show (Lib.decDigits 0).length≤600;rw [Dec.dec_lt (by omega)];simp) (by show (Lib.decDigits 1).length≤600;rw [Dec.dec_lt (by omega)];simp)).2
 rw [hq]
 unfold rcmp signI
 have hz:∀ n,ncmp (n*1) (0*p.bot)=if n=0 then 0 else 1:=by
  intro n
  rw [Nat.mul_one,Nat.zero_mul]
  rcases Nat.eq_zero_or_pos n with rfl | h
  ·rfl
  ·rw [ncmp_gt h,if_neg (by omega)]
 rw [hz]
 cases hn:p.neg
 ·simp
 ·have:=h.2.2 hn
  rw [if_neg (by simp),if_neg (by simp),if_neg (by omega)]
  rfl
theorem gain_ord (l:List UInt8):(if ordE l [48]=0∧ordO l [48]≤0 then 3 else ordE l [48])=gainE l:=by
 have e0:readE [48]=0:=by decide +kernel
 unfold gainE ordE ordO
 by_cases h:readE l=0
 ·rw [h,e0,rcmp_zero (readQ_low h)]
  simp
 ·simp [h]
set_option maxHeartbeats 4000000 in
set_option maxRecDepth 100000 in
theorem checkAdc_bad (a st z:Int) (g o:ByteArray) (w:World) (hr:rangeE a 8 12≠0∨rangeE st (-20) 4≠0) :
  Calls Tryz.prog 65 #[.agg #[.int .i64 a,.int .i64 st,.int .i64 z,.string g,.string o]] w fun e w'=>e = .returned (.int .i64 3)∧Below w.heap.size w w':=by
 have hb0:Below w.heap.size w (w.alloc (.cells #[.int .i64 a,.int .i64 st,.int .i64 z,.string g,.string o] 33)).drew:=((Below.refl _ _).alloc (Nat.le_refl _) _).drew
 have q0:CBlk (w.alloc (.cells #[.int .i64 a,.int .i64 st,.int .i64 z,.string g,.string o] 33)).drew w.heap.size #[.int .i64 a,.int .i64 st,.int .i64 z,.string g,.string o] 33:=CBlk.new w _ _ _ rfl
 have x0:=q0.cell 0
 have x1:=q0.cell 1
 have k0:=q0.lt
 obtain ⟨ea,hea⟩:∃ ea,rangeE a 8 12=ea:=⟨_,rfl⟩
 obtain ⟨es,hes⟩:∃ es,rangeE st (-20) 4=es:=⟨_,rfl⟩
 have hv:(if ea≠0 then ea else es)=3:=by
  rcases range_cases a 8 12 with h | h<;>rcases range_cases st (-20) 4 with h' | h'<;>rw [hea] at h hr<;>rw [hes] at h' hr<;>simp_all
 have HV:=Lib.hid hv
 have HR1:=Lib.hid hea
 have HR2:=Lib.hid hes
 clear hv hr hea hes
 go_enter Tryz.func65,Tryz.ntmps65
 go_wp2_with fail
 generalize w.alloc (.cells #[.int .i64 a,.int .i64 st,.int .i64 z,.string g,.string o] 33)=w1 at *
 go_region_held3 (fun w'=>w'.cell? ⟨w.heap.size,0,none⟩=some (.int .i64 a)∧w'.cell? ⟨w.heap.size,1,none⟩=some (.int .i64 st))
  ((first | exact ⟨x0,x1⟩ | exact ⟨(World.cell?_alloc_lt _ _ _ k0).trans x0,(World.cell?_alloc_lt _ _ _ k0).trans x1⟩))
  (first
   |(go_at_call 144;refine (cinRange_any _ _ _ _).mono ?_;rintro e w4 ⟨he,rfl⟩;(first | rw [HR1.out] at he | rw [HR2.out] at he);subst he)
   |(go_at_call 64;refine (cfirst_two ea es w1.drew _ _ rfl).mono ?_;rintro e w6 ⟨he,rfl⟩;rw [HV.out] at he;subst he))
 have hb2:Below w1.heap.size w1 (w1.alloc (.cells #[.int .i64 ea,.int .i64 es] 30)).drew:=((Below.refl _ _).alloc (Nat.le_refl _) _).drew
 have q1:CBlk w1 w.heap.size #[.int .i64 a,.int .i64 st,.int .i64 z,.string g,.string o] 33:=q0
 have q2:=q1.below hb2 k0
 have hb1:Below w.heap.size w w1:=⟨hb0.os,hb0.tape,hb0.output,hb0.size,hb0.block⟩
 have hB2:Below w.heap.size w (w1.alloc (.cells #[.int .i64 ea,.int .i64 es] 30)).drew:=hb1.trans (hb2.mono hb1.size)
 generalize (w1.alloc (.cells #[.int .i64 ea,.int .i64 es] 30)).drew=w2 at *
 go_wp2
 go_ret
 exact ⟨rfl,hB2⟩
set_option maxHeartbeats 4000000 in
set_option maxRecDepth 100000 in
theorem checkAdc_good (n:Nat) (st z:Int) (g o:ByteArray) (w:World) (hT:Tabs w) (hg:g.size≤4294967296) (ho:o.size≤4294967296) (hr1:rangeE (n:Int) 8 12=0) (hr2:rangeE st (-20) 4=0) (hn:n≤32) :
  Calls Tryz.prog 65 #[.agg #[.int .i64 (n:Int),.int .i64 st,.int .i64 z,.string g,.string o]] w fun e w'=>e = .returned (.int .i64 (if rangeE z 0 ((2 ^ n - 1:Nat):Int)≠0 then rangeE z 0 ((2 ^ n - 1:Nat):Int) else if gainE g.data.toList≠0 then gainE g.data.toList else readE o.data.toList))∧Below w.heap.size w w':=by
 have hb0:Below w.heap.size w (w.alloc (.cells #[.int .i64 (n:Int),.int .i64 st,.int .i64 z,.string g,.string o] 33)).drew:=((Below.refl _ _).alloc (Nat.le_refl _) _).drew
 have q0:CBlk (w.alloc (.cells #[.int .i64 (n:Int),.int .i64 st,.int .i64 z,.string g,.string o] 33)).drew w.heap.size #[.int .i64 (n:Int),.int .i64 st,.int .i64 z,.string g,.string o] 33:=CBlk.new w _ _ _ rfl
 have x0:=q0.cell 0
 have x1:=q0.cell 1
 have k0:=q0.lt
 have HR1:=Lib.hid hr1
 have HR2:=Lib.hid hr2
 have HTP:=Lib.hid (fun W=>top_any n st z (.string g) (.string o) W hn)
 have HG:=Lib.hid (fun W hT=>checkGain_any g W hT hg)
 rw [gain_ord] at HG
 have HO:=Lib.hid (fun W hT=>check_any o W hT ho)
 generalize ((2 ^ n - 1:Nat):Int)=T at *
 obtain ⟨rz,hrz⟩:∃ rz,rangeE z 0 T=rz:=⟨_,rfl⟩
 have HR3:=Lib.hid hrz
 rw [hrz]
 generalize gainE g.data.toList=ge at *
 generalize readE o.data.toList=oe at *
 obtain ⟨r9,hr9⟩:∃ r9,(if rz≠0 then rz else if ge≠0 then ge else oe)=r9:=⟨_,rfl⟩
 rw [hr9]
 have HR9:=Lib.hid hr9
 clear hr1 hr2 hrz hn hr9
 go_enter Tryz.func65,Tryz.ntmps65
 go_wp2_with fail
 generalize w.alloc (.cells #[.int .i64 (n:Int),.int .i64 st,.int .i64 z,.string g,.string o] 33)=w1 at *
 go_region_held3 (fun w'=>w'.cell? ⟨w.heap.size,0,none⟩=some (.int .i64 (n:Int))∧w'.cell? ⟨w.heap.size,1,none⟩=some (.int .i64 st))
  ((first | exact ⟨x0,x1⟩ | exact ⟨(World.cell?_alloc_lt _ _ _ k0).trans x0,(World.cell?_alloc_lt _ _ _ k0).trans x1⟩))
  (first
   |(go_at_call 144;refine (cinRange_any _ _ _ _).mono ?_;rintro e w4 ⟨he,rfl⟩;(first | rw [HR1.out] at he | rw [HR2.out] at he);subst he)
   |(go_at_call 64;refine (cfirst_two 0 0 w1.drew _ _ rfl).mono ?_;rintro e w6 ⟨rfl,rfl⟩))
 have hb2:Below w1.heap.size w1 (w1.alloc (.cells #[.int .i64 0,.int .i64 0] 30)).drew:=((Below.refl _ _).alloc (Nat.le_refl _) _).drew
 have q1:CBlk w1 w.heap.size #[.int .i64 (n:Int),.int .i64 st,.int .i64 z,.string g,.string o] 33:=q0
 have q2:=q1.below hb2 k0
 have hb1:Below w.heap.size w w1:=⟨hb0.os,hb0.tape,hb0.output,hb0.size,hb0.block⟩
 have hB2:Below w.heap.size w (w1.alloc (.cells #[.int .i64 0,.int .i64 0] 30)).drew:=hb1.trans (hb2.mono hb1.size)
 generalize (w1.alloc (.cells #[.int .i64 0,.int .i64 0] 30)).drew=w2 at *
 clear x0 x1
 have x0:=q2.cell 0
 have x1:=q2.cell 1
 have x2:=q2.cell 2
 have x3:=q2.cell 3
 have x4:=q2.cell 4
 have hT2:Tabs w2:=hT.later hB2
 go_wp2_with fail
 go_region_held3 (fun w'=>w'.cell? ⟨w.heap.size,0,none⟩=some (.int .i64 (n:Int))∧w'.cell? ⟨w.heap.size,1,none⟩=some (.int .i64 st)∧w'.cell? ⟨w.heap.size,2,none⟩=some (.int .i64 z)∧w'.cell? ⟨w.heap.size,3,none⟩=some (.string g)∧w'.cell? ⟨w.heap.size,4,none⟩=some (.string o))
  ((first | exact ⟨x0,x1,x2,x3,x4⟩ | exact ⟨y0,y1,y2,y3,y4⟩ | exact ⟨z0,z1,z2,z3,z4⟩ | exact ⟨u0,u1,u2,u3,u4⟩ | exact ⟨(World.cell?_alloc_lt _ _ _ k5).trans u0,(World.cell?_alloc_lt _ _ _ k5).trans u1,(World.cell?_alloc_lt _ _ _ k5).trans u2,(World.cell?_alloc_lt _ _ _ k5).trans u3,(World.cell?_alloc_lt _ _ _ k5).trans u4⟩))
  (first
   |(go_at_call 81;refine (HTP.out w2.drew).mono ?_;rintro e w3 ⟨rfl,hb3'⟩;have hb3:Below w2.heap.size w2 w3:=⟨hb3'.os,hb3'.tape,hb3'.output,hb3'.size,hb3'.block⟩;clear hb3';have q3:=q2.below hb3 q2.lt;have y0:=q3.cell 0;have y1:=q3.cell 1;have y2:=q3.cell 2;have y3:=q3.cell 3;have y4:=q3.cell 4;have hT3:=hT2.later hb3)
   |(go_at_call 144;refine (cinRange_any _ _ _ _).mono ?_;rintro e w4 ⟨he,rfl⟩;rw [HR3.out] at he;subst he)
   |(go_at_call 145;refine (HG.out w3 hT3).mono ?_;rintro e w4 ⟨rfl,hb4⟩;have q4:=q3.below hb4 q3.lt;have z0:=q4.cell 0;have z1:=q4.cell 1;have z2:=q4.cell 2;have z3:=q4.cell 3;have z4:=q4.cell 4;have hT4:=hT3.later hb4)
   |(go_at_call 82;refine (HO.out w4 hT4).mono ?_;rintro e w5 ⟨rfl,hb5⟩;have q5:=q4.below hb5 q4.lt;have u0:=q5.cell 0;have u1:=q5.cell 1;have u2:=q5.cell 2;have u3:=q5.cell 3;have u4:=q5.cell 4;have k5:=q5.lt)
   |(go_at_call 64;refine (cfirst_threeA rz ge oe w5 _ _ rfl).mono ?_;rintro e w6 ⟨he,rfl⟩;rw [HR9.out] at he;subst he))
 go_wp2_with fail
 go_ret
 have c3:=hB2.trans (hb3.mono hB2.size)
 have c4:=c3.trans (hb4.mono c3.size)
 have c5:=c4.trans (hb5.mono c4.size)
 exact ⟨rfl,c5.alloc c5.size _⟩
theorem checkAdc_any (a st z:Int) (g o:ByteArray) (w:World) (hT:Tabs w) (hg:g.size≤4294967296) (ho:o.size≤4294967296) :
  Calls Tryz.prog 65 #[.agg #[.int .i64 a,.int .i64 st,.int .i64 z,.string g,.string o]] w fun e w'=>e = .returned (.int .i64 (adcE a st z g.data.toList o.data.toList))∧Below w.heap.size w w':=by
 by_cases hr:rangeE a 8 12≠0∨rangeE st (-20) 4≠0
 ·have hx:adcE a st z g.data.toList o.data.toList=3:=by
   unfold adcE
   by_cases h1:rangeE a 8 12≠0
   ·rw [if_pos h1]
   ·rw [if_neg h1,if_pos (by rcases hr with h | h;(· exact absurd h h1);(· exact h))]
  rw [hx]
  exact checkAdc_bad a st z g o w hr
 ·have hr1:rangeE a 8 12=0:=Classical.not_not.1 fun h=>hr (.inl h)
  have hr2:rangeE st (-20) 4=0:=Classical.not_not.1 fun h=>hr (.inr h)
  have ha:8≤a∧a≤12:=by
   rcases range_cases a 8 12 with h | h
   ·rw [hr1] at h
    omega
   ·exact h.2
  obtain ⟨n,rfl⟩:∃ n:Nat,a=n:=⟨a.toNat,by omega⟩
  have hx:(if rangeE z 0 ((2 ^ n - 1:Nat):Int)≠0 then rangeE z 0 ((2 ^ n - 1:Nat):Int) else if gainE g.data.toList≠0 then gainE g.data.toList else readE o.data.toList)=adcE n st z g.data.toList o.data.toList:=by
   unfold adcE
   rw [hr1,hr2,Int.toNat_natCast,if_neg (c:=(0:Int)≠0) (by simp),if_neg (c:=(0:Int)≠0) (by simp)]
   rcases range_cases z 0 ((2 ^ n - 1:Nat):Int) with h | h
   ·rw [h.1]
    rfl
   ·rw [h.1,if_neg (c:=(0:Int)≠0) (by simp),if_neg (c:=(0:Int)≠0) (by simp)]
    unfold gainE
    by_cases h1:readE g.data.toList=0
    ·rw [h1]
     by_cases h2:signI (readQ g.data.toList)≤0<;>simp [h2]
    ·simp [h1]
  rw [←hx]
  exact checkAdc_good n st z g o w hT hg ho hr1 hr2 (by omega)
end Go.Proofs.YtmkihdjolnlccaaGreatDoor
namespace Go.Proofs.YtmkihdjolnlccaaGreatDoor
open Go.RowKit Dn
def twoQ:Q:=⟨false,2,1⟩
theorem two_num:NumQ ⟨#[50]⟩ twoQ:=⟨by decide +kernel,by decide,by decide,fun h=>by cases h⟩
def lsbQ (st:Int):Q:=if 0≤st then powQ twoQ st.toNat else powQ (recQ twoQ) (-st).toNat
theorem rec_two:recQ twoQ=halfQ:=rec_pos two_num.2 rfl (by decide)
theorem lsb_low (st:Int):LowQ (lsbQ st):=by
 unfold lsbQ
 split
 ·exact low_pow two_num.2 _
 ·rw [rec_two]
  exact low_pow half_num.2 _
theorem lsb_small {st:Int} (h : -20≤st∧st≤4):Small (lsbQ st) 10:=by
 have hp:∀ k,k≤20→2 ^ k<10 ^ 10:=fun k hk=>Nat.lt_of_le_of_lt (Nat.pow_le_pow_right (by omega) hk) (by decide)
 unfold lsbQ
 split
 ·exact ⟨hp _ (by omega),by show 1 ^ _<_;rw [Nat.one_pow];decide⟩
 ·rw [rec_two]
  exact ⟨by show 1 ^ _<_;rw [Nat.one_pow];decide,hp _ (by omega)⟩
theorem small_intQ {z:Int} (h : -10000≤z∧z≤10000):Small (intQ z) 10:=
 ⟨Nat.lt_of_le_of_lt (show z.natAbs≤10000 by omega) (by decide),by show 1<_;decide⟩
set_option maxHeartbeats 1000000 in
theorem rLsb_any (a st z:Int) (g o:ByteArray) (w:World) (hst : -20≤st∧st≤4) :
  Calls Tryz.prog 30 #[.agg #[.int .i64 a,.int .i64 st,.int .i64 z,.string g,.string o]] w (RetS w (lsbQ st)):=by
 have hb0:Below w.heap.size w (w.alloc (.cells #[.int .i64 a,.int .i64 st,.int .i64 z,.string g,.string o] 24)):=(Below.refl _ _).alloc (Nat.le_refl _) _
 have hs2:Small twoQ 1:=⟨by decide,by decide⟩
 have HP:Hid (∀ W,Calls Tryz.prog 49 #[.string ⟨#[50]⟩,.int .i64 st] W (RetS W (lsbQ st))):=by
  intro W
  unfold lsbQ
  split
  ·have h:=rPow_pos ⟨#[50]⟩ twoQ st.toNat 1 W two_num rfl hs2 (by omega) (by omega)
   rwa [Int.toNat_of_nonneg (by assumption)] at h
  ·have h:=rPow_neg ⟨#[50]⟩ twoQ (-st).toNat 1 W two_num rfl (by decide) hs2 (by omega) (by omega) (by omega) (by decide)
   rwa [Int.toNat_of_nonneg (by omega),Int.neg_neg] at h
 generalize lsbQ st=L at *
 clear hs2 hst
 go_enter Tryz.func30,Tryz.ntmps30
 go_wp2_with fail
 refine (HP.out _).mono ?_
 rintro e w1 ⟨⟨s,rfl,hs⟩,hb1⟩
 go_wp2
 go_ret
 exact ⟨⟨s,rfl,hs⟩,hb0.trans (hb1.mono hb0.size)⟩
def nomQ (st z c:Int):Q:=mulQ (lsbQ st) (intQ (c - z))
def halfL (st:Int):Q:=mulQ (lsbQ st) halfQ
def lowE (st z c:Int):Q:=subQ (nomQ st z c) (halfL st)
def highE (st z c:Int):Q:=addQ (nomQ st z c) (halfL st)
def RetSpan (w:World) (p q:Q) (e:Ending) (w':World):Prop:=(∃ s t:ByteArray,e = .returned (.agg #[.string s,.string t])∧NumQ s p∧NumQ t q)∧Below w.heap.size w w'
theorem half_small:Small halfQ 1:=⟨by decide,by decide⟩
theorem halfL_small {st:Int} (h : -20≤st∧st≤4):Small (halfL st) 11:=small_mul (lsb_small h) half_small (lsb_low st).1 (by decide)
theorem nomQ_small {st z c:Int} (h : -20≤st∧st≤4) (hd : -10000≤c - z∧c - z≤10000):Small (nomQ st z c) 20:=small_mul (lsb_small h) (small_intQ hd) (lsb_low st).1 Nat.one_pos
theorem halfL_low (st:Int):LowQ (halfL st):=fracQ_low _ (Nat.mul_pos (lsb_low st).1 (by decide))
theorem nomQ_low (st z c:Int):LowQ (nomQ st z c):=fracQ_low _ (Nat.mul_pos (lsb_low st).1 Nat.one_pos)
theorem lowE_small {st z c:Int} (h : -20≤st∧st≤4) (hd : -10000≤c - z∧c - z≤10000):Small (lowE st z c) 32:=small_sub (nomQ_small h hd) (halfL_small h) (nomQ_low st z c).1 (halfL_low st).1
theorem highE_small {st z c:Int} (h : -20≤st∧st≤4) (hd : -10000≤c - z∧c - z≤10000):Small (highE st z c) 32:=small_add (nomQ_small h hd) (halfL_small h) (nomQ_low st z c).1 (halfL_low st).1
def realQ (p q v:Q):Q:=addQ (mulQ p v) q
end Go.Proofs.YtmkihdjolnlccaaGreatDoor
namespace Go.Proofs.YtmkihdjolnlccaaGreatDoor
open Go.RowKit Bn
open Flt
def inE (n:Nat) (c:Int):Int:=if rangeE c 0 ((2 ^ n - 1:Nat):Int)≠0 then 3 else if c=0∨c=((2 ^ n - 1:Nat):Int) then 15 else 0
theorem adcE_zero {a st z:Int} {g o:ByteArray} (h:adcE a st z g.data.toList o.data.toList=0) :
  ∃ n:Nat,a=n∧8≤n∧n≤12 ∧ -20≤st∧st≤4∧0≤z∧z≤((2 ^ n - 1:Nat):Int)∧readE g.data.toList=0∧0<signI (readQ g.data.toList)∧readE o.data.toList=0:=by
 unfold adcE at h
 rcases range_cases a 8 12 with h1 | h1
 ·rw [h1.1,if_pos (c:=(3:Int)≠0) (by decide)] at h
  exact absurd h (by decide)
 ·rw [h1.1,if_neg (c:=(0:Int)≠0) (by simp)] at h
  rcases range_cases st (-20) 4 with h2 | h2
  ·rw [h2.1,if_pos (c:=(3:Int)≠0) (by decide)] at h
   exact absurd h (by decide)
  ·rw [h2.1,if_neg (c:=(0:Int)≠0) (by simp)] at h
   rcases range_cases z 0 ((2 ^ a.toNat - 1:Nat):Int) with h3 | h3
   ·rw [h3.1,if_pos (c:=(3:Int)≠0) (by decide)] at h
    exact absurd h (by decide)
   ·rw [h3.1,if_neg (c:=(0:Int)≠0) (by simp)] at h
    by_cases h4:readE g.data.toList=0
    ·rw [if_neg (fun h9=>h9 h4)] at h
     by_cases h5:signI (readQ g.data.toList)≤0
     ·rw [if_pos h5] at h
      exact absurd h (by decide)
     ·rw [if_neg h5] at h
      exact ⟨a.toNat,by omega,by omega,by omega,h2.2.1,h2.2.2,h3.2.1,h3.2.2,h4,by omega,h⟩
    ·rw [if_pos h4] at h
     exact absurd h h4
set_option maxHeartbeats 1000000 in
theorem checkCode_good (n:Nat) (st z c:Int) (g o:ByteArray) (w:World) (hT:Tabs w) (hg:g.size≤4294967296) (ho:o.size≤4294967296) (hE:adcE n st z g.data.toList o.data.toList=0) (hn:n≤12) :
  Calls Tryz.prog 90 #[.agg #[.int .i64 (n:Int),.int .i64 st,.int .i64 z,.string g,.string o],.int .i64 c] w fun e w'=>e = .returned (.int .i64 (rangeE c 0 ((2 ^ n - 1:Nat):Int)))∧Below w.heap.size w w':=by
 have hb0:Below w.heap.size w (w.alloc (.cells #[.int .i64 (n:Int),.int .i64 st,.int .i64 z,.string g,.string o] 33)):=(Below.refl _ _).alloc (Nat.le_refl _) _
 have q0:CBlk (w.alloc (.cells #[.int .i64 (n:Int),.int .i64 st,.int .i64 z,.string g,.string o] 33)) w.heap.size #[.int .i64 (n:Int),.int .i64 st,.int .i64 z,.string g,.string o] 33:=CBlk.new w _ _ _ rfl
 have x0:=q0.cell 0
 have x1:=q0.cell 1
 have x2:=q0.cell 2
 have x3:=q0.cell 3
 have x4:=q0.cell 4
 have hC:=checkAdc_any n st z g o _ (hT.later hb0) hg ho
 rw [hE] at hC
 have HC:=Lib.hid hC
 have HTP:=Lib.hid (fun W=>top_any n st z (.string g) (.string o) W (by omega))
 generalize ((2 ^ n - 1:Nat):Int)=T at *
 obtain ⟨rc,hrc⟩:∃ rc,rangeE c 0 T=rc:=⟨_,rfl⟩
 have HR3:=Lib.hid hrc
 rw [hrc]
 clear hC hE hn hrc
 go_enter Tryz.func90,Tryz.ntmps90
 go_wp2_with fail
 generalize w.alloc (.cells #[.int .i64 (n:Int),.int .i64 st,.int .i64 z,.string g,.string o] 33)=w1 at *
 refine HC.out.mono ?_
 rintro e w2 ⟨rfl,hb2⟩
 have q2:=q0.below hb2 q0.lt
 clear x0 x1 x2 x3 x4
 have x0:=q2.cell 0
 have x1:=q2.cell 1
 have x2:=q2.cell 2
 have x3:=q2.cell 3
 have x4:=q2.cell 4
 have hB2:=hb0.trans (hb2.mono hb0.size)
 go_wp2_with fail
 refine (HTP.out w2).mono ?_
 rintro e w3 ⟨rfl,hb3⟩
 go_wp2_with fail
 refine (cinRange_any _ _ _ _).mono ?_
 rintro e w4 ⟨he,rfl⟩
 rw [HR3.out] at he
 subst he
 go_wp2_with fail
 go_ret
 exact ⟨rfl,hB2.trans (hb3.mono hB2.size)⟩
theorem inE_cases (n:Nat) (c:Int):(rangeE c 0 ((2 ^ n - 1:Nat):Int)=3∧inE n c=3)∨(rangeE c 0 ((2 ^ n - 1:Nat):Int)=0∧decide (c=0∨c=((2 ^ n - 1:Nat):Int))=true∧inE n c=15)∨(rangeE c 0 ((2 ^ n - 1:Nat):Int)=0∧decide (c=0∨c=((2 ^ n - 1:Nat):Int))=false∧inE n c=0):=by
 unfold inE
 rcases range_cases c 0 ((2 ^ n - 1:Nat):Int) with h | h
 ·exact .inl ⟨h.1,by rw [h.1];rfl⟩
 ·rw [h.1,if_neg (c:=(0:Int)≠0) (by simp)]
  by_cases h1:c=0∨c=((2 ^ n - 1:Nat):Int)
  ·exact .inr (.inl ⟨rfl,decide_eq_true h1,if_pos h1⟩)
  ·exact .inr (.inr ⟨rfl,decide_eq_false h1,if_neg h1⟩)
set_option maxHeartbeats 2000000 in
theorem checkInner_good (n:Nat) (st z c:Int) (g o:ByteArray) (w:World) (hT:Tabs w) (hg:g.size≤4294967296) (ho:o.size≤4294967296) (hE:adcE n st z g.data.toList o.data.toList=0) (hn:n≤12) :
    Calls Tryz.prog 86 #[.agg #[.int .i64 (n:Int),.int .i64 st,.int .i64 z,.string g,.string o],.int .i64 c] w fun e w'=>e = .returned (.int .i64 (inE n c))∧Below w.heap.size w w':=by
  have hb0:Below w.heap.size w (w.alloc (.cells #[.int .i64 (n:Int),.int .i64 st,.int .i64 z,.string g,.string o] 33)):=(Below.refl _ _).alloc (Nat.le_refl _) _
  have q0:CBlk (w.alloc (.cells #[.int .i64 (n:Int),.int .i64 st,.int .i64 z,.string g,.string o] 33)) w.heap.size #[.int .i64 (n:Int),.int .i64 st,.int .i64 z,.string g,.string o] 33:=CBlk.new w _ _ _ rfl
  have x0:=q0.cell 0
  have x1:=q0.cell 1
  have x2:=q0.cell 2
  have x3:=q0.cell 3
  have x4:=q0.cell 4
  have hC:=checkCode_good n st z c g o _ (hT.later hb0) hg ho hE hn
  have hI:=fun W=>isEnd_any n st z c (.string g) (.string o) W (by omega)
  have hcase:=inE_cases n c
  generalize inE n c=I at *
  generalize rangeE c 0 ((2 ^ n - 1:Nat):Int)=rc at *
  generalize decide (c=0∨c=((2 ^ n - 1:Nat):Int))=be at *
  have HC:=Lib.hid hC
  have HI:=Lib.hid hI
  clear hC hI hE hn
  rcases hcase with ⟨rfl,rfl⟩ | ⟨rfl,rfl,rfl⟩ | ⟨rfl,rfl,rfl⟩
  all_goals
    go_enter Tryz.func86,Tryz.ntmps86
    go_wp2_with fail
    generalize w.alloc (.cells #[.int .i64 (n:Int),.int .i64 st,.int .i64 z,.string g,.string o] 33)=w1 at *
    refine HC.out.mono ?_
    rintro e w2 ⟨rfl,hb2⟩
    have q2:=q0.below hb2 q0.lt
    clear x0 x1 x2 x3 x4
    have x0:=q2.cell 0
    have x1:=q2.cell 1
    have x2:=q2.cell 2
    have x3:=q2.cell 3
    have x4:=q2.cell 4
    have hB2:=hb0.trans (hb2.mono hb0.size)
    go_wp2_with fail
    first
      | (go_ret;exact ⟨rfl,hB2⟩)
      | (refine (HI.out w2).mono ?_
         rintro e w3 ⟨rfl,hb3⟩
         have hB3:=hB2.trans (hb3.mono hB2.size)
         go_wp2_with fail
         go_ret
         exact ⟨rfl,hB3⟩)
set_option maxHeartbeats 2000000 in
set_option maxRecDepth 100000 in
theorem interval_ok (a:Nat) (st z c:Int) (g o:ByteArray) (x y:Nat) (l m:List UInt8) (w:World) (hT:Tabs w) (hc:0≤c∧c≤4095) (hz:0≤z∧z≤4095) (hst : -20≤st∧st≤4) (hx:nomW (2*(c - z) - 1) (st - 1)=x) (hy:nomW (2*(c+1 - z) - 1) (st - 1)=y) (hl:exT x=l) (hm:exT y=m) :
  Calls Tryz.prog 87 #[.agg #[.int .i64 a,.int .i64 st,.int .i64 z,.string g,.string o],.int .i64 c] w fun e w'=>e = .returned (.agg #[.string ⟨l.toArray⟩,.string ⟨m.toArray⟩])∧Below w.heap.size w w':=by
 have hb0:Below w.heap.size w ((w.alloc (.cells #[.int .i64 a,.int .i64 st,.int .i64 z,.string g,.string o] 33)).alloc (.cells #[.string { data:=#[] },.string { data:=#[] }] 55)):=((Below.refl _ _).alloc (Nat.le_refl _) _).alloc (by simp) _
 have q2:CBlk ((w.alloc (.cells #[.int .i64 a,.int .i64 st,.int .i64 z,.string g,.string o] 33)).alloc (.cells #[.string { data:=#[] },.string { data:=#[] }] 55)) w.heap.size #[.int .i64 a,.int .i64 st,.int .i64 z,.string g,.string o] 33:=(CBlk.new w _ _ _ rfl).below ((Below.refl _ _).alloc (Nat.le_refl _) _) (by simp)
 have s2:CBlk ((w.alloc (.cells #[.int .i64 a,.int .i64 st,.int .i64 z,.string g,.string o] 33)).alloc (.cells #[.string { data:=#[] },.string { data:=#[] }] 55)) (w.heap.size+1) #[.string { data:=#[] },.string { data:=#[] }] 55:=CBlk.new _ _ _ _ (by simp)
 have HN0:=Lib.hid (fun W=>edge_any a st z c (.string g) (.string o) W (by omega) (by omega) (by omega) (by omega))
 have HNT:=Lib.hid (fun W=>edge_any a st z (c+1) (.string g) (.string o) W (by omega) (by omega) (by omega) (by omega))
 have HSP:=Lib.hid (fun W hT=>spanOf_eq x y l m W hT hl hm)
 rw [hx] at HN0
 rw [hy] at HNT
 have hw:IntKind.i64.wrap (c+1)=c+1:=IntWalk.i64_in _ (by omega)
 have hnt:∀ W,Calls Tryz.prog 159 #[.agg #[.int .i64 a,.int .i64 st,.int .i64 z,.string g,.string o],.int .i64 (IntKind.i64.wrap (c+1))] W fun e w'=>e = .returned (.float .f32 y)∧Below W.heap.size W w':=by rw [hw];exact HNT.out
 clear HNT
 have HNT:=Lib.hid hnt
 clear hnt hw
 generalize l.toArray=la at *
 generalize m.toArray=ma at *
 clear hz hc hl hm hx hy hst
 go_enter Tryz.func87,Tryz.ntmps87
 go_wp2_with fail
 generalize ((w.alloc (.cells #[.int .i64 a,.int .i64 st,.int .i64 z,.string g,.string o] 33)).alloc (.cells #[.string { data:=#[] },.string { data:=#[] }] 55))=w2 at *
 have hT2:=hT.later hb0
 go_region_held3 (fun w'=>w'.cell? ⟨w.heap.size,0,none⟩=some (.int .i64 a)∧w'.cell? ⟨w.heap.size,1,none⟩=some (.int .i64 st)∧w'.cell? ⟨w.heap.size,2,none⟩=some (.int .i64 z)∧w'.cell? ⟨w.heap.size,3,none⟩=some (.string g)∧w'.cell? ⟨w.heap.size,4,none⟩=some (.string o))
  ((refine ⟨?_,?_,?_,?_,?_⟩<;>first | exact q6.cell _ | exact q4.cell _ | exact q3.cell _ | exact q2.cell _ | exact (q6.far2 (Nat.succ_ne_self _) _ _).cell _))
  (first
   |(go_at_call 79;refine (HSP.out w4 hT4).mono ?_;rintro e w6 ⟨rfl,hb6⟩;have q6:=q4.below hb6 q4.lt;have s6:=s4.below hb6 s4.lt;have r0:=s6.cell 0;have r1:=s6.cell 1;have f0:=s6.frozen 0;have f1:=s6.frozen 1)
   |(go_at_call 159;refine (HNT.out w3).mono ?_;rintro e w4 ⟨rfl,hb4⟩;have q4:=q3.below hb4 q3.lt;have s4:=s3.below hb4 s3.lt;have hT4:=hT3.later hb4)
   |(go_at_call 159;refine (HN0.out w2.drew).mono ?_;rintro e w3 ⟨rfl,hb3'⟩;have hb3:Below w2.heap.size w2 w3:=⟨hb3'.os,hb3'.tape,hb3'.output,hb3'.size,hb3'.block⟩;clear hb3';have q3:=q2.below hb3 q2.lt;have s3:=s2.below hb3 s2.lt;have hT3:=hT2.later hb3))
 have hB3:=hb0.trans (hb3.mono hb0.size)
 have hB4:=hB3.trans (hb4.mono hB3.size)
 have hB6:=hB4.trans (hb6.mono hB4.size)
 have hset:=two_set hB6 (g:=w.heap.size+1) (by omega) (.string ⟨la⟩) (.string ⟨ma⟩)
 clear HN0 HNT HSP
 go_wp2_with fail
 refine bodyPost_ret (v := .agg #[.string ⟨la⟩,.string ⟨ma⟩]) (by simp [results,Tryz.results87,go_sem,r0,r1]) rfl ⟨rfl,hset⟩
set_option maxHeartbeats 1000000 in
theorem checkInner_ok (a:Nat) (st z c E:Int) (g o:ByteArray) (w:World) (hT:Tabs w) (h:Conv a st z g o) (hc:0≤c∧c≤((2 ^ a - 1:Nat):Int)) (hE:(if c=0∨c=((2 ^ a - 1:Nat):Int) then 15 else 0)=E) :
  Calls Tryz.prog 86 #[.agg #[.int .i64 a,.int .i64 st,.int .i64 z,.string g,.string o],.int .i64 c] w fun e w'=>e = .returned (.int .i64 E)∧Below w.heap.size w w':=by
 have hb0:Below w.heap.size w (w.alloc (.cells #[.int .i64 a,.int .i64 st,.int .i64 z,.string g,.string o] 33)):=(Below.refl _ _).alloc (Nat.le_refl _) _
 have q0:CBlk (w.alloc (.cells #[.int .i64 a,.int .i64 st,.int .i64 z,.string g,.string o] 33)) w.heap.size #[.int .i64 a,.int .i64 st,.int .i64 z,.string g,.string o] 33:=CBlk.new w _ _ _ rfl
 have x0:=q0.cell 0
 have x1:=q0.cell 1
 have x2:=q0.cell 2
 have x3:=q0.cell 3
 have x4:=q0.cell 4
 have HC:=Lib.hid (checkCode_ok a st z c g o _ (hT.later hb0) h hc)
 have HI:=Lib.hid (fun W=>isEnd_any a st z c (.string g) (.string o) W (by have:=h.bits;omega))
 generalize ((2 ^ a - 1:Nat):Int)=T at *
 clear h hc
 by_cases hd:c=0∨c=T
 ·rw [if_pos hd] at hE
  rw [decide_eq_true hd] at HI
  subst hE
  clear hd
  go_enter Tryz.func86,Tryz.ntmps86
  go_wp2_with fail
  generalize w.alloc (.cells #[.int .i64 a,.int .i64 st,.int .i64 z,.string g,.string o] 33)=w1 at *
  refine HC.out.mono ?_
  rintro e w2 ⟨rfl,hb2⟩
  have q2:=q0.below hb2 q0.lt
  clear x0 x1 x2 x3 x4
  have x0:=q2.cell 0
  have x1:=q2.cell 1
  have x2:=q2.cell 2
  have x3:=q2.cell 3
  have x4:=q2.cell 4
  have hB2:=hb0.trans (hb2.mono hb0.size)
  go_wp2_with fail
  refine (HI.out w2).mono ?_
  rintro e w3 ⟨rfl,hb3⟩
  go_wp2_with fail
  go_ret
  exact ⟨rfl,hB2.trans (hb3.mono hB2.size)⟩
 ·rw [if_neg hd] at hE
  rw [decide_eq_false hd] at HI
  subst hE
  clear hd
  go_enter Tryz.func86,Tryz.ntmps86
  go_wp2_with fail
  generalize w.alloc (.cells #[.int .i64 a,.int .i64 st,.int .i64 z,.string g,.string o] 33)=w1 at *
  refine HC.out.mono ?_
  rintro e w2 ⟨rfl,hb2⟩
  have q2:=q0.below hb2 q0.lt
  clear x0 x1 x2 x3 x4
  have x0:=q2.cell 0
  have x1:=q2.cell 1
  have x2:=q2.cell 2
  have x3:=q2.cell 3
  have x4:=q2.cell 4
  have hB2:=hb0.trans (hb2.mono hb0.size)
  go_wp2_with fail
  refine (HI.out w2).mono ?_
  rintro e w3 ⟨rfl,hb3⟩
  go_wp2_with fail
  go_ret
  exact ⟨rfl,hB2.trans (hb3.mono hB2.size)⟩
set_option maxHeartbeats 1000000 in
theorem Interval_end (a:Nat) (st z:Int) (g o:ByteArray) (w:World) (hT:Tabs w) (h:Conv a st z g o) :
  Calls Tryz.prog 38 #[.agg #[.int .i64 a,.int .i64 st,.int .i64 z,.string g,.string o],.int .i64 0] w fun e w'=>e = .returned (.tuple #[.agg #[.string { data:=#[] },.string { data:=#[] }],.int .i64 15])∧Below w.heap.size w w':=by
 have hb0:Below w.heap.size w ((w.alloc (.cells #[.int .i64 a,.int .i64 st,.int .i64 z,.string g,.string o] 33)).alloc (.cells #[.string { data:=#[] },.string { data:=#[] }] 55)):=((Below.refl _ _).alloc (Nat.le_refl _) _).alloc (by simp) _
 have q0:CBlk ((w.alloc (.cells #[.int .i64 a,.int .i64 st,.int .i64 z,.string g,.string o] 33)).alloc (.cells #[.string { data:=#[] },.string { data:=#[] }] 55)) w.heap.size #[.int .i64 a,.int .i64 st,.int .i64 z,.string g,.string o] 33:=(CBlk.new w _ _ _ rfl).below ((Below.refl _ _).alloc (Nat.le_refl _) _) (by simp)
 have s0:CBlk ((w.alloc (.cells #[.int .i64 a,.int .i64 st,.int .i64 z,.string g,.string o] 33)).alloc (.cells #[.string { data:=#[] },.string { data:=#[] }] 55)) (w.heap.size+1) #[.string { data:=#[] },.string { data:=#[] }] 55:=CBlk.new _ _ _ _ (by simp)
 have HC:=Lib.hid (checkInner_ok a st z 0 15 g o _ (hT.later hb0) h ⟨by omega,by omega⟩ (by simp))
 have x0:=q0.cell 0
 have x1:=q0.cell 1
 have x2:=q0.cell 2
 have x3:=q0.cell 3
 have x4:=q0.cell 4
 clear h
 go_enter Tryz.func38,Tryz.ntmps38
 go_wp2_with fail
 generalize ((w.alloc (.cells #[.int .i64 a,.int .i64 st,.int .i64 z,.string g,.string o] 33)).alloc (.cells #[.string { data:=#[] },.string { data:=#[] }] 55))=w1 at *
 refine HC.out.mono ?_
 rintro e w2 ⟨rfl,hb2⟩
 have s6:=s0.below hb2 s0.lt
 have hB6:=hb0.trans (hb2.mono hb0.size)
 clear x0 x1 x2 x3 x4
 have r0:=s6.cell 0
 have r1:=s6.cell 1
 have f0:=s6.frozen 0
 have f1:=s6.frozen 1
 have hset:=two_set hB6 (g:=w.heap.size+1) (by omega) (.string { data:=#[] }) (.string { data:=#[] })
 clear HC
 go_wp2_with fail
 refine bodyPost_ret (v := .tuple #[.agg #[.string { data:=#[] },.string { data:=#[] }],.int .i64 15]) (by simp [results,Tryz.results38,go_sem,r0,r1]) rfl ⟨rfl,hset⟩
set_option maxHeartbeats 1000000 in
theorem sample_ok (s:ByteArray) (a k:Nat) (st z:Int) (g o:ByteArray) (w:World) (hT:Tabs w) (h:Conv a st z g o) (hs:s.size≤4294967296) (C D:Int) (y:Nat)
  (hk:k≤2 ^ a+1) (hlo:∀ t:Nat,t<k→belowB s.data.toList (nearF s.data.toList) (nomW (2*((t:Int) - z) - 1) (st - 1))=false)
  (hhi:∀ t:Nat,k≤t→t<2 ^ a+1→belowB s.data.toList (nearF s.data.toList) (nomW (2*((t:Int) - z) - 1) (st - 1))=true)
  (hC:(if k=0 then (0:Int) else if k=2 ^ a+1 then ((2 ^ a - 1:Nat):Int) else (k:Int) - 1)=C) (hD:(if k=0 then (-1:Int) else if k=2 ^ a+1 then 1 else 0)=D) (hC2:0≤C∧C≤4095) (hy:nomW (C - z) st=y) :
  Calls Tryz.prog 68 #[.agg #[.int .i64 a,.int .i64 st,.int .i64 z,.string g,.string o],.string s] w fun e w'=>e = .returned (.float .f32 y)∧Below w.heap.size w w':=by
 have hp:2 ^ a≤2 ^ 12:=Nat.pow_le_pow_right (by omega) h.bits.2
 have hz:=h.zero
 have hb0:Below w.heap.size w (w.alloc (.cells #[.int .i64 a,.int .i64 st,.int .i64 z,.string g,.string o] 33)):=(Below.refl _ _).alloc (Nat.le_refl _) _
 have q0:CBlk (w.alloc (.cells #[.int .i64 a,.int .i64 st,.int .i64 z,.string g,.string o] 33)) w.heap.size #[.int .i64 a,.int .i64 st,.int .i64 z,.string g,.string o] 33:=CBlk.new w _ _ _ rfl
 have x0:=q0.cell 0
 have x1:=q0.cell 1
 have x2:=q0.cell 2
 have x3:=q0.cell 3
 have x4:=q0.cell 4
 have HV:=Lib.hid (code_any s a k st z (.string g) (.string o) _ (hT.later hb0) hs h.bits.2 (by omega) (by have:=h.step;omega) (by have:=h.step;omega) hk hlo hhi)
 rw [hC,hD] at HV
 have HN:=Lib.hid (fun W=>nominal_any a st z C (.string g) (.string o) W (by omega) (by omega) (by have:=h.step;omega) (by have:=h.step;omega))
 rw [hy] at HN
 clear h hz hp hlo hhi hk hC hD hC2 hy
 go_enter Tryz.func68,Tryz.ntmps68
 go_wp2_with fail
 generalize w.alloc (.cells #[.int .i64 a,.int .i64 st,.int .i64 z,.string g,.string o] 33)=w1 at *
 refine HV.out.mono ?_
 rintro e w2 ⟨rfl,hb2⟩
 have q2:=q0.below hb2 q0.lt
 clear x0 x1 x2 x3 x4
 have x0:=q2.cell 0
 have x1:=q2.cell 1
 have x2:=q2.cell 2
 have x3:=q2.cell 3
 have x4:=q2.cell 4
 have hB2:=hb0.trans (hb2.mono hb0.size)
 go_wp2_with fail
 refine (HN.out w2).mono ?_
 rintro e w3 ⟨rfl,hb3⟩
 go_wp2_with fail
 go_ret
 exact ⟨rfl,hB2.trans (hb3.mono hB2.size)⟩
end Go.Proofs.YtmkihdjolnlccaaGreatDoor
