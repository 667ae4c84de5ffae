/- The reference's numbers as rationals: Mul and Add; Sign, Neg, Abs, Sub, Cmp, Half. -/
import Derived.Test.YteajibbphcfmeaaGreatDoorTRb17
namespace Go.Proofs.YteajibbphcfmeaaGreatDoor
open Go.RowKit Dn
def NumQ (a:ByteArray) (p:Q):Prop:=a.data.toList=writeS p∧LowQ p
theorem NumQ.num {a:ByteArray} {p:Q} (h:NumQ a p):NumT a p.neg p.top p.bot:=h.1
def Small (p:Q) (N:Nat):Prop:=p.top<10 ^ N∧p.bot<10 ^ N
theorem Small.more {p:Q} {N M:Nat} (h:Small p N) (hM:N≤M):Small p M:=
 ⟨Nat.lt_of_lt_of_le h.1 (Nat.pow_le_pow_right (by omega) hM),Nat.lt_of_lt_of_le h.2 (Nat.pow_le_pow_right (by omega) hM)⟩
theorem NumQ.size {a:ByteArray} {p:Q} {N:Nat} (h:NumQ a p) (hs:Small p N) (hN:0<N):a.size≤2*N+2:=by
 have hl:=congrArg List.length h.1
 rw [Array.length_toList,writeS_eq,List.length_append] at hl
 have h1:=Dec.dec_length_le hN hs.1
 have h2:=Dec.dec_length_le hN hs.2
 have h3:=sgnT_len p.neg (Lib.decDigits p.top)
 have h4:a.data.size=a.size:=rfl
 split at hl<;>simp at hl<;>omega
theorem small_frac {z:Int} {d N:Nat} (hz:z.natAbs<10 ^ N) (hd:d<10 ^ N) (hd0:0<d):Small (fracQ z d) N:=by
 by_cases h0:z=0
 ·subst h0
  rw [fracQ_zero hd0]
  exact ⟨hz,by show 1<10 ^ N;omega⟩
 ·rw [fracQ_ne hd0 h0]
  exact ⟨Nat.lt_of_le_of_lt (Nat.div_le_self _ _) hz,Nat.lt_of_le_of_lt (Nat.div_le_self _ _) hd⟩
theorem NumQ.small {a:ByteArray} {p:Q} {N:Nat} (h:NumQ a p) (ha:a.size≤N) (hN:0<N):Small p N:=by
 have h1:=congrArg List.length h.1
 rw [Array.length_toList,writeS_eq,List.length_append] at h1
 have h3:a.data.size=a.size:=rfl
 have h6:(Lib.decDigits p.top).length≤(sgnT p.neg (Lib.decDigits p.top)).length:=by unfold sgnT;split<;>simp
 have e1:=decVal_lt _ (digits_dec p.top)
 have e2:=decVal_lt _ (digits_dec p.bot)
 rw [decVal_dec] at e1 e2
 refine ⟨Nat.lt_of_lt_of_le e1 (Nat.pow_le_pow_right (by omega) (by omega)),?_⟩
 by_cases hb:p.bot=1
 ·rw [hb];exact Nat.one_lt_pow (by omega) (by omega)
 ·rw [if_neg hb,List.length_cons] at h1
  exact Nat.lt_of_lt_of_le e2 (Nat.pow_le_pow_right (by omega) (by omega))
theorem sI_abs (p:Q):(sI p).natAbs=p.top:=by unfold sI;split<;>simp
theorem mul_pow_lt {x y M N:Nat} (hx:x<10 ^ M) (hy:y<10 ^ N):x*y<10 ^ (M+N):=by
 rw [Nat.pow_add]
 exact Nat.mul_lt_mul'' hx hy
theorem small_mul {p q:Q} {M N:Nat} (hp:Small p M) (hq:Small q N) (p0:0<p.bot) (q0:0<q.bot):Small (mulQ p q) (M+N):=by
 refine small_frac ?_ (mul_pow_lt hp.2 hq.2) (Nat.mul_pos p0 q0)
 rw [Int.natAbs_mul,sI_abs,sI_abs]
 exact mul_pow_lt hp.1 hq.1
theorem small_add {p q:Q} {M N:Nat} (hp:Small p M) (hq:Small q N) (p0:0<p.bot) (q0:0<q.bot):Small (addQ p q) (M+N+1):=by
 have h1:=mul_pow_lt hp.1 hq.2
 have h2:=mul_pow_lt hq.1 hp.2
 have h3:=mul_pow_lt hp.2 hq.2
 rw [Nat.add_comm N M] at h2
 have e:10 ^ (M+N+1)=10 ^ (M+N)*10:=Nat.pow_succ _ _
 refine small_frac ?_ (by omega) (Nat.mul_pos p0 q0)
 have h4:=Int.natAbs_add_le (sI p*(q.bot:Int)) (sI q*(p.bot:Int))
 rw [Int.natAbs_mul,Int.natAbs_mul,sI_abs,sI_abs,Int.natAbs_natCast,Int.natAbs_natCast] at h4
 omega
def RetS (w:World) (p:Q) (e:Ending) (w':World):Prop:=(∃ s:ByteArray,e = .returned (.string s)∧NumQ s p)∧Below w.heap.size w w'
theorem rMul_q (a a':ByteArray) (p q:Q) (w:World) (h:NumQ a p) (h':NumQ a' q) (ha:a.size≤100000) (ha':a'.size≤100000) :
  Calls Tryz.prog 21 #[.string a,.string a'] w (RetS w (mulQ p q)):=
 (rMul_any a a' p.neg q.neg p.top p.bot q.top q.bot w h.num h'.num h.2.2.2 h'.2.2.2 h.2.1 h'.2.1 ha ha').mono fun _ _ ⟨⟨s,he,hs⟩,hb⟩=>⟨⟨s,he,hs,fracQ_low _ (Nat.mul_pos h.2.1 h'.2.1)⟩,hb⟩
theorem rAdd_q (a a':ByteArray) (p q:Q) (w:World) (h:NumQ a p) (h':NumQ a' q) (ha:a.size≤100000) (ha':a'.size≤100000) :
  Calls Tryz.prog 19 #[.string a,.string a'] w (RetS w (addQ p q)):=
 (rAdd_any a a' p.neg q.neg p.top p.bot q.top q.bot w h.num h'.num h.2.2.2 h'.2.2.2 h.2.1 h'.2.1 ha ha').mono fun _ _ ⟨⟨s,he,hs⟩,hb⟩=>⟨⟨s,he,hs,fracQ_low _ (Nat.mul_pos h.2.1 h'.2.1)⟩,hb⟩
theorem LowQ.zero {p:Q} (h:LowQ p) (h0:p.top=0):p=⟨false,0,1⟩:=by
 obtain ⟨n,t,b⟩:=p
 obtain ⟨h1,h2,h3⟩:=h
 dsimp only at *
 subst h0
 rw [Nat.gcd_zero_left] at h2
 subst h2
 cases n
 ·rfl
 ·exact absurd (h3 rfl) (by omega)
theorem NumQ.is_zero {a:ByteArray} {p:Q} (h:NumQ a p):(a.toList==[48])=decide (p.top=0):=by
 rw [ByteArray.toList_eq,h.1,Bool.eq_iff_iff,beq_iff_eq,decide_eq_true_eq]
 constructor
 ·intro he
  rw [writeS_eq] at he
  rcases Nat.eq_zero_or_pos p.top with h0 | h0
  ·exact h0
  ·exfalso
   have h1:=dec_ne48 h0
   have h2:=Dec.dec_length_pos p.top
   have hl:=congrArg List.length he
   rw [List.length_append] at hl
   simp only [List.length_cons,List.length_nil] at hl
   cases hn:p.neg
   ·rw [hn] at he hl
    have e1:sgnT false (Lib.decDigits p.top)=Lib.decDigits p.top:=rfl
    rw [e1] at he hl
    have h9:(if p.bot=1 then [] else 47 :: Lib.decDigits p.bot)=[]:=List.eq_nil_of_length_eq_zero (by omega)
    rw [h9,List.append_nil] at he
    exact h1 he
   ·rw [hn] at hl
    have e1:(sgnT true (Lib.decDigits p.top)).length=(Lib.decDigits p.top).length+1:=rfl
    omega
 ·intro h0
  rw [h.2.zero h0]
  rw [writeS_eq]
  show Lib.decDigits 0++[]=[48]
  rw [Dec.dec_lt (by omega)]
  rfl
set_option maxHeartbeats 1000000 in
theorem rSign_q (a:ByteArray) (p:Q) (w:World) (h:NumQ a p) (_ha:a.size≤1000000) :
  Calls Tryz.prog 46 #[.string a] w fun e w'=>e = .returned (.int .i64 (signI p))∧w=w':=by
 have hz:=h.is_zero
 obtain ⟨h0,hhd⟩:=h.num.head
 obtain ⟨c0,hc0⟩:∃ c0:Nat,(a[0]'h0).toNat=c0:=⟨_,rfl⟩
 rw [hc0] at hhd
 have d0:decide (0<a.size)=true:=by simpa using h0
 by_cases ht:p.top=0
 ·have hs:signI p=0:=by unfold signI;rw [if_pos ht]
  rw [decide_eq_true ht] at hz
  have HS:=Lib.hid hs
  clear hs h ht hhd hc0
  go_enter Tryz.func46,Tryz.ntmps46
  go_wp2
  go_ret
  exact ⟨by rw [HS.out];rfl,rfl⟩
 ·rw [decide_eq_false ht] at hz
  have hs:signI p=if p.neg then -1 else 1:=by unfold signI;rw [if_neg ht]
  cases hn:p.neg
  all_goals
   rw [hn] at hs hhd
   have HS:=Lib.hid hs
   clear hs h ht hn
   go_enter Tryz.func46,Tryz.ntmps46
   go_wp2
   go_ret
   exact ⟨by rw [HS.out];rfl,rfl⟩
theorem signI_cases (p:Q) (h:LowQ p):(p.neg=true∧signI p = -1)∨(p.neg=false∧p.top=0∧signI p=0)∨(p.neg=false∧0<p.top∧signI p=1):=by
 unfold signI
 by_cases ht:p.top=0
 ·have:=h.zero ht
  rw [this]
  exact .inr (.inl ⟨rfl,rfl,rfl⟩)
 ·rw [if_neg ht]
  cases hn:p.neg
  ·exact .inr (.inr ⟨rfl,by omega,rfl⟩)
  ·exact .inl ⟨rfl,rfl⟩
theorem low_neg {p:Q} (h:LowQ p):LowQ (negQ p):=by
 refine ⟨h.1,h.2.1,fun h9 => ?_⟩
 unfold negQ at h9
 simp only [Bool.and_eq_true,decide_eq_true_eq] at h9
 exact h9.2
theorem low_abs {p:Q} (h:LowQ p):LowQ (absQ p):=⟨h.1,h.2.1,fun h9=>by cases h9⟩
theorem write_negneg {a:ByteArray} {p:Q} (h:NumQ a p) (hn:p.neg=true):(a.extract 1 a.size).data.toList=writeS ⟨false,p.top,p.bot⟩:=by
 have h1:=h.num.abs
 unfold absT at h1
 rw [hn] at h1
 exact h1
set_option maxHeartbeats 1000000 in
theorem rNeg_q (a:ByteArray) (p:Q) (w:World) (h:NumQ a p) (ha:a.size≤1000000) :
  Calls Tryz.prog 50 #[.string a] w (RetS w (negQ p)):=by
 have HK:=Lib.hid (fun W=>rSign_q a p W h ha)
 have hl:=low_neg h.2
 obtain ⟨h0,_⟩:=h.num.head
 have hs1:(1:Int)≤(a.size:Int):=by omega
 rcases signI_cases p h.2 with ⟨hn,hs⟩ | ⟨hn,ht,hs⟩ | ⟨hn,ht,hs⟩
 ·have hq:negQ p=⟨false,p.top,p.bot⟩:=by unfold negQ;rw [hn];rfl
  have hw:=write_negneg h hn
  have HR:Hid (NumQ (a.extract 1 a.size) (negQ p)):=⟨by rw [hq];exact hw,hl⟩
  simp only [hs] at HK
  clear hq hw hn hs h hl
  go_enter Tryz.func50,Tryz.ntmps50
  go_wp2_with fail
  refine (HK.out w).mono ?_
  rintro e w1 ⟨rfl,rfl⟩
  go_wp2
  go_ret
  exact ⟨⟨_,rfl,HR.out⟩,Below.refl _ _⟩
 ·have hq:negQ p=p:=by rw [h.2.zero ht];rfl
  have HR:Hid (NumQ a (negQ p)):=by show NumQ a (negQ p);rw [hq];exact h
  simp only [hs] at HK
  clear hq hn hs h hl ht
  go_enter Tryz.func50,Tryz.ntmps50
  go_wp2_with fail
  refine (HK.out w).mono ?_
  rintro e w1 ⟨rfl,rfl⟩
  go_wp2_with fail
  refine (HK.out w).mono ?_
  rintro e w1 ⟨rfl,rfl⟩
  go_wp2
  go_ret
  exact ⟨⟨_,rfl,HR.out⟩,Below.refl _ _⟩
 ·have hq:negQ p=⟨true,p.top,p.bot⟩:=by unfold negQ;rw [hn,decide_eq_true ht];rfl
  have HR:Hid (NumQ (⟨#[45]⟩++a) (negQ p)):=by
   refine ⟨?_,hl⟩
   rw [ByteArray.data_append,Array.toList_append,h.1,hq,writeS_eq,writeS_eq,hn]
   rfl
  simp only [hs] at HK
  clear hq hn hs h hl ht
  go_enter Tryz.func50,Tryz.ntmps50
  go_wp2_with fail
  refine (HK.out w).mono ?_
  rintro e w1 ⟨rfl,rfl⟩
  go_wp2_with fail
  refine (HK.out w).mono ?_
  rintro e w1 ⟨rfl,rfl⟩
  go_wp2
  go_ret
  exact ⟨⟨_,rfl,HR.out⟩,Below.refl _ _⟩
set_option maxHeartbeats 1000000 in
theorem rAbs_q (a:ByteArray) (p:Q) (w:World) (h:NumQ a p) (ha:a.size≤1000000) :
  Calls Tryz.prog 42 #[.string a] w (RetS w (absQ p)):=by
 have HK:=Lib.hid (fun W=>rSign_q a p W h ha)
 have hl:=low_abs h.2
 obtain ⟨h0,_⟩:=h.num.head
 have hs1:(1:Int)≤(a.size:Int):=by omega
 by_cases hn:p.neg=true
 ·have hs:signI p = -1:=by rcases signI_cases p h.2 with ⟨_,h9⟩ | ⟨h8,_⟩ | ⟨h8,_⟩;(· exact h9);(· rw [h8] at hn;cases hn);(· rw [h8] at hn;cases hn)
  have HR:Hid (NumQ (a.extract 1 a.size) (absQ p)):=⟨write_negneg h hn,hl⟩
  simp only [hs] at HK
  clear hn hs h hl
  go_enter Tryz.func42,Tryz.ntmps42
  go_wp2_with fail
  refine (HK.out w).mono ?_
  rintro e w1 ⟨rfl,rfl⟩
  go_wp2
  go_ret
  exact ⟨⟨_,rfl,HR.out⟩,Below.refl _ _⟩
 ·have hn':p.neg=false:=by simpa using hn
  obtain ⟨r,hr,hs⟩:∃ r:Int,0≤r∧signI p=r:=⟨signI p,by rcases signI_cases p h.2 with ⟨h9,_⟩ | ⟨_,_,h9⟩ | ⟨_,_,h9⟩;(· exact absurd h9 hn);(· rw [h9];decide);(· rw [h9];decide),rfl⟩
  have d0:decide (r<0)=false:=by simp only [decide_eq_false_iff_not];omega
  have hq:absQ p=p:=by
   obtain ⟨n,t,b⟩:=p
   dsimp only at hn'
   subst hn'
   rfl
  have HR:Hid (NumQ a (absQ p)):=by show NumQ a (absQ p);rw [hq];exact h
  simp only [hs] at HK
  clear hn hs h hl hq hn'
  go_enter Tryz.func42,Tryz.ntmps42
  go_wp2_with fail
  refine (HK.out w).mono ?_
  rintro e w1 ⟨rfl,rfl⟩
  go_wp2
  go_ret
  exact ⟨⟨_,rfl,HR.out⟩,Below.refl _ _⟩
theorem sI_neg (q:Q):sI (negQ q) = - sI q:=by
 unfold sI negQ
 dsimp only
 cases q.neg
 ·by_cases h:0<q.top
  ·simp [h]
  ·have:q.top=0:=by omega
   simp [this]
 ·simp
theorem addQ_neg (p q:Q):addQ p (negQ q)=subQ p q:=by
 unfold addQ subQ
 rw [sI_neg,Int.neg_mul,←Int.sub_eq_add_neg]
 rfl
set_option maxHeartbeats 1000000 in
theorem rSub_q (a a':ByteArray) (p q:Q) (w:World) (h:NumQ a p) (h':NumQ a' q) (ha:a.size≤100000) (ha':a'.size≤99999) :
  Calls Tryz.prog 20 #[.string a,.string a'] w (RetS w (subQ p q)):=by
 have HN:=Lib.hid (rNeg_q a' q w h' (by omega))
 have hsz:∀ s:ByteArray,NumQ s (negQ q)→s.size≤100000:=fun s hs=>by
  have h1:=congrArg List.length hs.1
  have h2:=congrArg List.length h'.1
  rw [Array.length_toList,writeS_eq,List.length_append] at h1 h2
  have h3:s.data.size=s.size:=rfl
  have h4:a'.data.size=a'.size:=rfl
  have h5:=sgnT_len (negQ q).neg (Lib.decDigits (negQ q).top)
  have h6:(Lib.decDigits q.top).length≤(sgnT q.neg (Lib.decDigits q.top)).length:=by unfold sgnT;split<;>simp
  have e1:(negQ q).top=q.top:=rfl
  have e2:(negQ q).bot=q.bot:=rfl
  rw [e1,e2] at h1
  rw [e1] at h5
  omega
 have HA:=Lib.hid (fun (s:ByteArray) (hs:NumQ s (negQ q)) (W:World)=>rAdd_q a s p (negQ q) W h hs ha (hsz s hs))
 rw [addQ_neg] at HA
 clear hsz
 go_enter Tryz.func20,Tryz.ntmps20
 go_wp2_with fail
 refine HN.out.mono ?_
 rintro e w1 ⟨⟨s,rfl,hs⟩,hb1⟩
 go_wp2_with fail
 refine (HA.out s hs w1).mono ?_
 rintro e w2 ⟨⟨t,rfl,ht⟩,hb2⟩
 go_wp2
 go_ret
 exact ⟨⟨t,rfl,ht⟩,hb1.trans (hb2.mono hb1.size)⟩
theorem small_neg {p:Q} {N:Nat} (h:Small p N):Small (negQ p) N:=h
theorem small_sub {p q:Q} {M N:Nat} (hp:Small p M) (hq:Small q N) (p0:0<p.bot) (q0:0<q.bot):Small (subQ p q) (M+N+1):=by
 rw [←addQ_neg]
 exact small_add hp (small_neg hq) p0 q0
set_option maxHeartbeats 1000000 in
theorem rCmp_q (a a':ByteArray) (p q:Q) (w:World) (h:NumQ a p) (h':NumQ a' q) (ha:a.size≤99999) (ha':a'.size≤99999) :
  Calls Tryz.prog 22 #[.string a,.string a'] w fun e w'=>e = .returned (.int .i64 (cmpI p q))∧Below w.heap.size w w':=by
 have HS:=Lib.hid (rSub_q a a' p q w h h' (by omega) ha')
 have hsz:∀ s:ByteArray,NumQ s (subQ p q)→s.size≤1000000:=fun s hs=>by
  obtain ⟨N,hN⟩:∃ N,N=99999:=⟨_,rfl⟩
  have s1:Small p N:=h.small (by omega) (by omega)
  have s2:Small q N:=h'.small (by omega) (by omega)
  have:=hs.size (small_sub s1 s2 h.2.1 h'.2.1) (by omega)
  omega
 have HG:=Lib.hid (fun (s:ByteArray) (hs:NumQ s (subQ p q)) (W:World)=>rSign_q s (subQ p q) W hs (hsz s hs))
 clear hsz
 go_enter Tryz.func22,Tryz.ntmps22
 go_wp2_with fail
 refine HS.out.mono ?_
 rintro e w1 ⟨⟨s,rfl,hs⟩,hb1⟩
 go_wp2_with fail
 refine (HG.out s hs w1).mono ?_
 rintro e w2 ⟨rfl,rfl⟩
 go_wp2
 go_ret
 exact ⟨rfl,hb1⟩
def halfQ:Q:=⟨false,1,2⟩
theorem half_num:NumQ ⟨#[49,47,50]⟩ halfQ:=⟨by decide +kernel,by decide,by decide,fun h=>by cases h⟩
def recQ (p:Q):Q:=fracQ (p.bot:Int) p.top
theorem low_rec {p:Q} (ht:0<p.top):LowQ (recQ p):=fracQ_low _ ht
theorem rec_pos {p:Q} (h:LowQ p) (_hn:p.neg=false) (ht:0<p.top):recQ p=⟨false,p.bot,p.top⟩:=by
 refine low_unique (low_rec ht) ⟨ht,by rw [Nat.gcd_comm];exact h.2.1,fun h9=>by cases h9⟩ ?_
 exact sI_low ht
set_option maxHeartbeats 2000000 in
set_option maxRecDepth 100000 in
theorem rRec_q (a:ByteArray) (p:Q) (w:World) (h:NumQ a p) (hn:p.neg=false) (ht:0<p.top) (ha:a.size≤100000) :
  Calls Tryz.prog 77 #[.string a] w (RetS w (recQ p)):=by
 have hp:=rparts_any a p.neg p.top p.bot w h.num h.2.2.2 h.2.1 (by omega)
 rw [hn] at hp
 have HP:=Lib.hid hp
 have hl:=h.num.lens2 ha
 have HL:=Lib.hid hl
 have HLOW:=Lib.hid (low_rec ht)
 have HRQ:Hid (∀ s:ByteArray,s.data.toList=writeS (fracQ (sgn false p.bot) p.top)→NumQ s (recQ p)):=fun s hs=>⟨hs,low_rec ht⟩
 clear hp hl
 generalize recQ p=R at *
 go_enter Tryz.func77,Tryz.ntmps77
 go_wp2_with fail
 refine HP.out.mono ?_
 rintro e w1 ⟨A1,n1,c1,A2,n2,c2,rfl,hd1,hd2,hb1⟩
 have hB:Below w1.heap.size w1 ((w1.alloc (.cells #[.bool false,.slice A1 n1 c1] 84)).alloc (.cells #[.bool false,.slice A2 n2 c2] 84)):=((Below.refl _ _).alloc (Nat.le_refl _) _).alloc (by simp) _
 have e1:n1≤100000:=by rw [←hd1.len];exact HL.out.1
 have e2:n2≤100001:=by rw [←hd2.len];exact HL.out.2
 have HF:=Lib.hid (rfraction_pos false p.bot p.top A2 A1 n2 c2 n1 c1 _ (hd2.later hB) (hd1.later hB) ht (by omega) (by omega))
 have HB:=Lib.hid (hb1.trans (hB.mono hb1.size))
 clear hd1 hd2 hB hb1
 go_wp2_with fail
 refine HF.out.mono ?_
 rintro e w2 ⟨⟨s,rfl,hs⟩,hb2⟩
 go_wp2
 go_ret
 exact ⟨⟨s,rfl,HRQ.out s hs⟩,HB.out.trans (hb2.mono HB.out.size)⟩
theorem rec_size {p:Q} {N:Nat} (h:Small p N) (ht:0<p.top):Small (recQ p) N:=by
 refine small_frac ?_ h.1 ht
 rw [Int.natAbs_natCast]
 exact h.2
def powQ (p:Q) (k:Nat):Q:=⟨false,p.top ^ k,p.bot ^ k⟩
theorem cop_pow {x y:Nat} (h:Nat.gcd x y=1) (k:Nat):Nat.gcd (x ^ k) (y ^ k)=1:=by
 have h1:Nat.Coprime x y:=h
 exact Nat.Coprime.pow k k h1
theorem low_pow {p:Q} (h:LowQ p) (k:Nat):LowQ (powQ p k):=⟨Nat.pow_pos h.1,cop_pow h.2.1 k,fun h9=>by cases h9⟩
theorem mul_powQ {p:Q} (h:LowQ p) (i j:Nat):mulQ (powQ p i) (powQ p j)=powQ p (i+j):=by
 have hi:=low_pow h i
 have hj:=low_pow h j
 refine low_unique (fracQ_low _ (Nat.mul_pos hi.1 hj.1)) (low_pow h (i+j)) ?_
 unfold mulQ
 have h9:=sI_low (num:=sI (powQ p i)*sI (powQ p j)) (Nat.mul_pos hi.1 hj.1)
 have e1:sI (powQ p (i+j))=sI (powQ p i)*sI (powQ p j):=by
  unfold sI powQ
  simp only [Bool.false_eq_true,if_false]
  rw [Nat.pow_add,Int.natCast_mul]
 have e2:(powQ p (i+j)).bot=(powQ p i).bot*(powQ p j).bot:=by
  unfold powQ
  dsimp only
  rw [Nat.pow_add]
 rw [e1,e2]
 exact h9
theorem small_pow {p:Q} {N:Nat} (h:Small p N) (k:Nat):Small (powQ p k) (N*k+1):=by
 have h1:p.top ^ k≤(10 ^ N) ^ k:=Nat.pow_le_pow_left (Nat.le_of_lt h.1) k
 have h2:p.bot ^ k≤(10 ^ N) ^ k:=Nat.pow_le_pow_left (Nat.le_of_lt h.2) k
 rw [←Nat.pow_mul] at h1 h2
 have h3:10 ^ (N*k)<10 ^ (N*k+1):=Nat.pow_lt_pow_right (by omega) (by omega)
 exact ⟨Nat.lt_of_le_of_lt h1 h3,Nat.lt_of_le_of_lt h2 h3⟩
theorem one_num:NumQ ⟨#[49]⟩ ⟨false,1,1⟩:=⟨by decide +kernel,by decide,by decide,fun h=>by cases h⟩
def PowInv (p:Q) (k i:Nat) (t s:ByteArray):Prop:=∃ e r,NumQ t (powQ p e)∧NumQ s (powQ p r)∧r+e*i=k∧e≤2*k+1∧r≤k
set_option maxHeartbeats 4000000 in
set_option maxRecDepth 100000 in
theorem rwhole_neg (m:Nat) (w:World) (hm:m≤4000000000000000000) (hm0:0<m) :
  Calls Tryz.prog 82 #[.int .i64 (-(m:Int))] w (RetZ w (-(m:Int))):=by
 obtain ⟨i0,hi0,hz0,hz1,hz2⟩:=info_parts info_int
 have hb0:Below w.heap.size w (w.alloc (.cells #[.bool false,.slice none 0 0] 84)):=(Below.refl _ _).alloc (Nat.le_refl _) _
 have hk:=CBlk.new w #[.bool false,.slice none 0 0] 84 _ rfl
 obtain ⟨zm,hzm⟩:∃ zm:Int,zm = -(m:Int):=⟨_,rfl⟩
 have dn:decide (zm<0)=true:=by simp only [decide_eq_true_eq];omega
 have hzmb : -4000000000000000000≤zm:=by omega
 have hzmn:zm<0:=by omega
 have HZM:=Lib.hid hzm
 rw [←hzm]
 clear hzm
 go_enter Tryz.func82,Tryz.ntmps82
 go_wp2
 generalize (w.alloc (.cells #[.bool false,.slice none 0 0] 84))=w0 at *
 go_loopg [0,3] m (fun g v0 v3 W=>∃ (q k:Nat) (z:Int) (ls:List Nat),v0 = .int .i64 z∧Hid (z = -(q:Int))∧z≤0 ∧ -4000000000000000000≤z∧q≤g∧q≤4000000000000000000∧k≤100∧q≤4000000000000000000 / 2 ^ k∧W.ownsRow w0.heap.size 3 1 v3 k (ls.map natv)∧Hid (Wf ls∧ls.length=k∧val ls+B ^ k*q=m)∧Below w0.heap.size w0 W)
 case atStart=>exact ⟨m,0,zm,[],rfl,HZM.out,by omega,hzmb,Nat.le_refl _,hm,by omega,by simpa using hm,World.ownsRow_nil _ _ _ _,⟨Wf.nil,rfl,by simp⟩,Below.refl _ _⟩
 case round=>
  obtain ⟨q,k,z,ls,rfl,hzq,hz0',hzb,hq,hqb,hk9,hqk,hown,hv,hbel⟩:=hrel
  have hsz:=hbel.size
  obtain ⟨hw,hl,hval⟩:=hv.out
  by_cases h0:q=0
  ·have hz00:z=0:=by have:=hzq.out;omega
   subst h0
   rw [Nat.mul_zero,Nat.add_zero] at hval
   obtain ⟨A9,c9,rfl,h91,h92,h93⟩:=own_slice hown
   have hs:=rsigned_any true A9 k c9 ls wr ⟨h93,h91,h92,hw⟩ (by omega)
   rw [show sgn true (val ls)=zm from by rw [hval,HZM.out];rfl] at hs
   have HS:=Lib.hid hs
   have hkb:=hk.below hbel hk.lt
   have hlt:=hk.lt
   have d1:(z != 0)=false:=by rw [hz00];rfl
   have d2:(z==0)=true:=by rw [hz00];rfl
   clear hs hval hl hw hown h93 hv hqk hz00 hzq
   go_wp2_with fail
   refine HS.out.mono ?_
   rintro e w6 ⟨A6,m6,c6,rfl,hd6,hb6⟩
   have hk6:=hkb.below hb6 hkb.lt
   have e0:w6.cell? ⟨w.heap.size,0,none⟩=some (.bool false):=hk6.cell 0
   have e1:w6.cell? ⟨w.heap.size,1,none⟩=some (.slice none 0 0):=hk6.cell 1
   have f0:w6.frozen? ⟨w.heap.size,0,none⟩=false:=hk6.frozen 0
   have f1:w6.frozen? ⟨w.heap.size,1,none⟩=false:=hk6.frozen 1
   have hB:=hb0.trans ((hbel.trans (hb6.mono hbel.size)).mono hb0.size)
   clear hb6
   have dn2:decide (zm<0)=true:=dn
   rw [dn2]
   go_wp2_with fail
   refine bodyPost_ret (v := .agg #[.bool true,.slice A6 m6 c6]) (by simp [results,Tryz.results82,go_sem,e0,e1]) rfl ?_
   exact ⟨A6,m6,c6,by rw [dn2],hd6.box hk6 _ _,two_set hB (by omega) _ _⟩
  ·obtain ⟨d,hd⟩:∃ d,d=q % B:=⟨_,rfl⟩
   obtain ⟨q',hq'⟩:∃ q',q'=q / B:=⟨_,rfl⟩
   have hdB:d<B:=by rw [hd];exact Nat.mod_lt _ B_pos
   have hdB':d<1000000000:=hdB
   have hq9:q'≤q / 2:=by rw [hq'];unfold B;omega
   have hst:=whole_step hl hval
   rw [←hd,←hq'] at hst
   have HI:Hid (Wf (ls++[d])∧(ls++[d]).length=k+1∧val (ls++[d])+B ^ (k+1)*q'=m):=⟨hw.append (Wf.cons hdB Wf.nil),by simp [hl],hst⟩
   have hqk':q'≤4000000000000000000 / 2 ^ (k+1):=by
    rw [Nat.pow_succ,←Nat.div_div_eq_div_mul]
    exact Nat.le_trans hq9 (Nat.div_le_div_right hqk)
   have hk64:k<62:=by
    rcases Nat.lt_or_ge k 62 with h9 | h9
    ·exact h9
    ·exfalso
     have:4000000000000000000 / 2 ^ k≤4000000000000000000 / 2 ^ 62:=Nat.div_le_div_left (Nat.pow_le_pow_right (by omega) h9) (Nat.two_pow_pos _)
     have e63:4000000000000000000 / 2 ^ 62=0:=by decide
     omega
   have HQK:=Lib.hid hqk'
   have hzz:=hzq.out
   have hzne:z≠0:=by omega
   have d1:(z != 0)=true:=by rw [bne_iff_ne];exact hzne
   have d2:(z==0)=false:=by rw [beq_eq_false_iff_ne];exact hzne
   obtain ⟨zd,hzd⟩:∃ zd:Int,zd = -(d:Int):=⟨_,rfl⟩
   obtain ⟨zq,hzq'⟩:∃ zq:Int,zq = -(q':Int):=⟨_,rfl⟩
   have f1:Int.tmod z 1000000000=zd:=by
    rw [hzz,Int.neg_tmod,hzd,hd,Int.tmod_eq_emod_of_nonneg (by omega)]
    rfl
   have f2:Int.tdiv z 1000000000=zq:=by
    rw [hzz,Int.neg_tdiv,hzq',hq',Int.tdiv_eq_ediv_of_nonneg (by omega)]
    rfl
   have hqlt:q'<q:=by omega
   have HZQ':=Lib.hid hzq'
   have hzq0:zq≤0:=by omega
   have hzqb : -4000000000000000000≤zq:=by omega
   by_cases hneg:d=0
   case' pos=>have d3:decide (zd<0)=false:=by simp only [decide_eq_false_iff_not];omega
   case' neg=>have d3:decide (zd<0)=true:=by simp only [decide_eq_true_eq];omega
   case' pos=>have ed:zd=(d:Int):=by omega
   case' pos=>subst ed
   case' neg=>have ed:0 - zd=(d:Int):=by omega
   case' neg=>have ed2 : -zd=(d:Int):=by omega
   case' neg=>have hzdb : -1000000000≤zd:=by omega
   all_goals
    first | clear hzd | skip
    clear hd hq' hst hqk' hqk hval hl hw hv hq9 hzz hzq' hneg
    go_wp2_with (at_builtin;refine wpList_append_own _ rfl _ _ 45 rfl w0.heap.size 3 i0 (.int .i64 0) 1 8 Tryz.underlying45 hi0 hz0 hz1 hz2 rfl (by decide) _ _ _ rfl (hown.alloc _) ⟨wr.heap.size,0,none⟩ 1 1 [.int .i64 (d:Int)] rfl rfl ?c1 ?c2 ?c3 ?c4 ?c5 ?_)
    case c1=>exact cell_one_new _ _ _
    case c2=>intro u hu;simp at hu;subst hu;rfl
    case c3=>unfold maxLen;omega
    case c4=>omega
    case c5=>simp;omega
    intro v' w2 hown' hgrow _
    have hb2:Below w0.heap.size w0 w2:=(hbel.alloc hsz _).grown hgrow (by simp;omega) (fun g hg=>(World.ownsRow.lt hown g hg).1)
    clear hgrow hown
    go_wp2
    go_roundg q'
    case measure=>omega
    case rel=>exact ⟨q',k+1,zq,ls++[d],rfl,HZQ'.out,hzq0,hzqb,Nat.le_refl _,by omega,by omega,HQK.out,by rw [List.map_append];exact hown',HI.out,hb2⟩
theorem rwhole_any (z:Int) (w:World) (h1 : -4000000000000000000≤z) (h2:z≤4000000000000000000) :
  Calls Tryz.prog 82 #[.int .i64 z] w (RetZ w z):=by
 by_cases h:z<0
 ·obtain ⟨m,rfl⟩:∃ m:Nat,z = -(m:Int):=⟨(-z).toNat,by omega⟩
  exact rwhole_neg m w (by omega) (by omega)
 ·obtain ⟨m,rfl⟩:∃ m:Nat,z=(m:Int):=⟨z.toNat,by omega⟩
  exact rwhole_nat m w (by omega)
def intQ (z:Int):Q:=⟨decide (z<0),z.natAbs,1⟩
theorem low_int (z:Int):LowQ (intQ z):=⟨Nat.one_pos,Nat.gcd_one_right _,fun h=>by
 have h9:z<0:=by simpa [intQ] using h
 show 0<z.natAbs
 omega⟩
theorem write_int (z:Int):writeS (intQ z)=sgnT (decide (z<0)) (Lib.decDigits z.natAbs):=by
 rw [writeS_eq]
 simp [intQ]
set_option maxHeartbeats 1000000 in
theorem rFromInt_any (z:Int) (w:World) (h1 : -4000000000000000000≤z) (h2:z≤4000000000000000000) :
  Calls Tryz.prog 107 #[.int .i64 z] w (RetS w (intQ z)):=by
 have HW:=Lib.hid (rwhole_any z w h1 h2)
 have HR:Hid (∀ s:ByteArray,s.data.toList=sgnT (decide (z<0)) (Lib.decDigits z.natAbs)→NumQ s (intQ z)):=fun s hs=>⟨by rw [write_int];exact hs,low_int z⟩
 have hT:=fun (A:Option Addr) (n c:Nat) (W:World) (h:DigI W A n c (digs z.natAbs)) (hn:n≤524288)=>rtext_any (decide (z<0)) z.natAbs A n c W h (by intro h9;simp at h9;omega) hn
 have hlen:(digs z.natAbs).length≤3:=digs_length_le (by have e:B ^ 3=1000000000000000000000000000:=(by decide);omega)
 have HT:=Lib.hid hT
 have HL:=Lib.hid hlen
 clear hT hlen
 go_enter Tryz.func107,Tryz.ntmps107
 go_wp2_with fail
 refine HW.out.mono ?_
 rintro e w1 ⟨A1,n1,c1,rfl,hd1,hb1⟩
 go_wp2_with fail
 refine (HT.out A1 n1 c1 w1 hd1 (by rw [←hd1.len];have:=HL.out;omega)).mono ?_
 rintro e w2 ⟨⟨s,rfl,hs⟩,hb2⟩
 go_wp2
 go_ret
 exact ⟨⟨s,rfl,HR.out s hs⟩,hb1.trans (hb2.mono hb1.size)⟩
set_option maxHeartbeats 1000000 in
theorem rDigits_any (s:ByteArray) (w:World) (hs:s.size≤9223372036854775807) :
  Calls Tryz.prog 119 #[.string s] w fun e w'=>e = .returned (.bool (digits s.data.toList))∧w=w':=by
 have hsz:s.data.toList.length=s.size:=by simp
 have HSZ:=Lib.hid hsz
 clear hsz
 obtain ⟨D,hD⟩:∃ D,D=digits s.data.toList:=⟨_,rfl⟩
 have HD:=Lib.hid hD
 rw [←hD]
 clear hD
 go_enter Tryz.func119,Tryz.ntmps119
 go_wp2
 go_loop [3] (fun i=>∃ k:Nat,k≤s.size∧i = .int .i64 k∧Hid (D=digits (s.data.toList.drop k))) (fun i=>s.size - (intOf i).toNat)
 case atStart=>exact ⟨0,Nat.zero_le _,rfl,by rw [Hid,List.drop_zero];exact HD.out⟩
 case round=>
  obtain ⟨k,hk,rfl,hv⟩:=hrel
  by_cases hlt:k<s.size
  ·have hsp:=digits_split s k hlt
   rw [←hv.out] at hsp
   obtain ⟨c,hcd⟩:∃ c:Nat,(s[k]'hlt).toNat=c:=⟨_,rfl⟩
   rw [hcd] at hsp
   by_cases hdig:48≤c∧c≤57
   ·have hb:digB (c:Int)=true:=by unfold digB;simp;omega
    rw [hb,Bool.true_and] at hsp
    have HV:=Lib.hid hsp
    have d1:decide ((c:Int)<48)=false:=by simp only [decide_eq_false_iff_not];omega
    have d2:decide ((57:Int)<(c:Int))=false:=by simp only [decide_eq_false_iff_not];omega
    clear hsp hb hdig hv
    go_wp2
    go_round
    case rel=>exact ⟨k+1,by omega,by go_num,HV.out⟩
    case measure=>simp [intOf];omega
   ·have hb:digB (c:Int)=false:=by
     unfold digB
     rw [Bool.and_eq_false_iff]
     simp only [decide_eq_false_iff_not]
     omega
    rw [hb,Bool.false_and] at hsp
    have HV:=Lib.hid hsp
    have hcase:(decide ((c:Int)<48)=true)∨(decide ((c:Int)<48)=false∧decide ((57:Int)<(c:Int))=true):=by
     simp only [decide_eq_true_eq,decide_eq_false_iff_not]
     omega
    clear hsp hb hdig hv
    rcases hcase with d1 | ⟨d1,d2⟩
    all_goals
     go_wp2
     go_ret
     exact ⟨by rw [HV.out];rfl,rfl⟩
  ·have hfin:D=true:=by
    rw [hv.out,List.drop_of_length_le (by rw [HSZ.out];omega)]
    rfl
   have HF:=Lib.hid hfin
   clear hfin hv
   go_wp2
   go_ret
   exact ⟨by rw [HF.out];rfl,rfl⟩
set_option maxHeartbeats 1000000 in
theorem rdecimalForm_any (s:ByteArray) (w:World) (hs:s.size≤9223372036854775807) :
  Calls Tryz.prog 60 #[.string s] w fun e w'=>e = .returned (.bool (isDec s.data.toList))∧w=w':=by
 have hsz:s.data.toList.length=s.size:=by simp
 have HG:=Lib.hid (rDigits_any s w hs)
 obtain ⟨D,hD⟩:∃ D,D=isDec s.data.toList:=⟨_,rfl⟩
 rw [←hD]
 by_cases h0:s.size=0
 ·have hl:s.data.toList=[]:=List.eq_nil_of_length_eq_zero (by omega)
  have hF:D=false:=by rw [hD,hl];rfl
  have HF:=Lib.hid hF
  have d1:((s.size:Int)==0)=true:=by rw [h0];rfl
  clear hF hl hD h0 hsz HG
  go_enter Tryz.func60,Tryz.ntmps60
  go_wp2
  go_ret
  exact ⟨by rw [HF.out];rfl,rfl⟩
 ·have hpos:0<s.size:=by omega
  have d1:((s.size:Int)==0)=false:=by rw [beq_eq_false_iff_ne];omega
  obtain ⟨c,hcd⟩:∃ c:Nat,(s[0]'hpos).toNat=c:=⟨_,rfl⟩
  have hlc:s.data.toList=(s[0]'hpos) :: s.data.toList.drop 1:=by
   have h9:0<s.data.toList.length:=by omega
   have e:=List.drop_eq_getElem_cons h9
   rw [List.drop_zero] at e
   exact e
  by_cases hbad:1<s.size∧c=48
  ·obtain ⟨hb1,hb2⟩:=hbad
   have d2:decide ((1:Int)<(s.size:Int))=true:=by simp only [decide_eq_true_eq];omega
   have d3:((c:Int)==48)=true:=by rw [beq_iff_eq];omega
   have hc48:s[0]'hpos=48:=UInt8.toNat_inj.1 (by rw [hcd,hb2];rfl)
   have hF:D=false:=by
    rw [hD]
    unfold isDec
    rw [Bool.and_eq_false_iff]
    refine .inr ?_
    have n1:s.data.toList≠[48]:=fun e=>by have:=congrArg List.length e;simp at this;omega
    have n2:s.data.toList.head? = some 48:=by rw [hlc,hc48];rfl
    simp [n1,n2]
   have HF:=Lib.hid hF
   clear hF hc48 hlc hD hsz HG hb1 hb2
   go_enter Tryz.func60,Tryz.ntmps60
   go_wp2
   go_ret
   exact ⟨by rw [HF.out];rfl,rfl⟩
  ·have hF:D=digits s.data.toList:=by
    rw [hD]
    unfold isDec
    by_cases h1:s.size=1
    ·have hl1:s.data.toList=[s[0]'hpos]:=by
      rw [hlc]
      congr 1
      exact List.drop_eq_nil_of_le (by omega)
     by_cases h48:s[0]'hpos=48
     ·rw [hl1,h48];simp
     ·have:s.data.toList.head? ≠ some 48:=by rw [hl1];simpa using h48
      have n2:s.data.toList≠[]:=by rw [hl1];simp
      simp [this,n2]
    ·have hc48:¬ (s[0]'hpos=48):=fun e=>hbad ⟨by omega,by rw [←hcd,e];rfl⟩
     have:s.data.toList.head? ≠ some 48:=by rw [hlc];simpa using hc48
     have n2:s.data.toList≠[]:=by rw [hlc];simp
     simp [this,n2]
   rw [←hF] at HG
   have hcase:(decide ((1:Int)<(s.size:Int))=false)∨(decide ((1:Int)<(s.size:Int))=true∧((c:Int)==48)=false):=by
    simp only [decide_eq_true_eq,decide_eq_false_iff_not,beq_eq_false_iff_ne]
    omega
   clear hF hlc hD hsz hbad
   rcases hcase with d2 | ⟨d2,d3⟩
   all_goals
    go_enter Tryz.func60,Tryz.ntmps60
    go_wp2_with fail
    refine HG.out.mono ?_
    rintro e w1 ⟨rfl,rfl⟩
    go_wp2
    go_ret
    exact ⟨rfl,rfl⟩
theorem slash_cases:∀ l:List UInt8,(∀ c ∈ l,c≠47)∨∃ t r,l=t++47 :: r∧∀ c ∈ t,c≠47
 | [] => .inl (fun c hc=>by cases hc)
 | x :: l=>by
  by_cases hx:x=47
  ·exact .inr ⟨[],l,by rw [hx];rfl,fun c hc=>by cases hc⟩
  ·rcases slash_cases l with h | ⟨t,r,rfl,h⟩
   ·exact .inl (fun c hc=>by rcases List.mem_cons.1 hc with rfl | hc;(· exact hx);(· exact h c hc))
   ·exact .inr ⟨x :: t,r,rfl,fun c hc=>by rcases List.mem_cons.1 hc with rfl | hc;(· exact hx);(· exact h c hc)⟩
theorem read_parts {l s:List UInt8} {neg:Bool} (hl:l=sgnT neg s) (hn:neg=false→s.head? ≠ some 45) :
  readE l=readE' (s.take (slashL s)) (s.drop (slashL s+1)) neg (decide (slashL s<s.length)):=by
 have hpre:∀ t:List UInt8,(neg=false→t.head? ≠ some 45)→Lib.hasPrefix (sgnT neg t) [45]=neg∧Lib.trimPrefix (sgnT neg t) [45]=t:=by
  intro t ht
  have h0:Lib.hasPrefix (sgnT neg t) [45]=neg:=by
   cases neg
   ·have h9:=ht rfl
    unfold sgnT Lib.hasPrefix
    cases t with
    | nil=>rfl
    | cons x r=>
     have hx:((45:UInt8)==x)=false:=by
      rw [beq_eq_false_iff_ne]
      intro e
      exact h9 (by rw [←e];rfl)
     simp [List.isPrefixOf,hx]
   ·rfl
  refine ⟨h0,?_⟩
  unfold Lib.trimPrefix
  rw [h0]
  cases neg<;>rfl
 have hsgn:∀ t:List UInt8,(∀ c ∈ t,c≠47)→∀ c ∈ sgnT neg t,c≠47:=by
  intro t ht c hc
  unfold sgnT at hc
  cases neg
  ·exact ht c hc
  ·rcases List.mem_cons.1 hc with rfl | hc
   ·decide
   ·exact ht c hc
 rcases slash_cases s with h | ⟨t,r,rfl,h⟩
 ·have e1:slashL s=s.length:=slashL_none h
  have ec:=cutL_none (hsgn s h)
  obtain ⟨p1,p2⟩:=hpre s hn
  unfold readE topL botL negL fracL
  rw [hl,ec]
  dsimp only
  rw [p1,p2,e1,List.take_length,List.drop_eq_nil_of_le (by omega),decide_eq_false (by omega)]
 ·have e1:slashL (t++47 :: r)=t.length:=slashL_some h
  have ht:neg=false→t.head? ≠ some 45:=fun h9=>by
   have h8:=hn h9
   cases t with
   | nil=>simp
   | cons x q=>simpa using h8
  have e2:sgnT neg (t++47 :: r)=sgnT neg t++47 :: r:=by unfold sgnT;cases neg<;>rfl
  have ec:=cutL_slash (r:=r) (hsgn t h)
  obtain ⟨p1,p2⟩:=hpre t ht
  unfold readE topL botL negL fracL
  rw [hl,e2,ec]
  dsimp only
  rw [p1,p2,e1,List.take_left,←List.drop_drop,List.drop_left,decide_eq_true (by simp)]
  rfl
end Go.Proofs.YteajibbphcfmeaaGreatDoor
