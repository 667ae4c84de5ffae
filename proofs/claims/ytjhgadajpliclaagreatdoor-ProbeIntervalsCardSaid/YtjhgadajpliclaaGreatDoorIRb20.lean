/- The reference's numbers as rationals: Mul and Add; Sign, Neg, Abs, Sub, Cmp, Half. -/
import Derived.Test.YtjhgadajpliclaaGreatDoorIRb17
namespace Go.Proofs.YtjhgadajpliclaaGreatDoor
open Go.RowKit Dn
def NumQ (a:ByteArray) (p:Q):Prop:=a.data.toList=writeS p∧LowQ p
theorem NumQ.num {a:ByteArray} {p:Q} (h:NumQ a p):NumT a p.neg p.top p.bot:=h.1
def Small (p:Q) (N:Nat):Prop:=p.top<10 ^ N∧p.bot<10 ^ N
theorem Small.more {p:Q} {N M:Nat} (h:Small p N) (hM:N≤M):Small p M:=
 ⟨Nat.lt_of_lt_of_le h.1 (Nat.pow_le_pow_right (by omega) hM),Nat.lt_of_lt_of_le h.2 (Nat.pow_le_pow_right (by omega) hM)⟩
theorem NumQ.size {a:ByteArray} {p:Q} {N:Nat} (h:NumQ a p) (hs:Small p N) (hN:0<N):a.size≤2*N+2:=by
 have hl:=congrArg List.length h.1
 rw [Array.length_toList,writeS_eq,List.length_append] at hl
 have h1:=Dec.dec_length_le hN hs.1
 have h2:=Dec.dec_length_le hN hs.2
 have h3:=sgnT_len p.neg (Lib.decDigits p.top)
 have h4:a.data.size=a.size:=rfl
 split at hl<;>simp at hl<;>omega
theorem small_frac {z:Int} {d N:Nat} (hz:z.natAbs<10 ^ N) (hd:d<10 ^ N) (hd0:0<d):Small (fracQ z d) N:=by
 by_cases h0:z=0
 ·subst h0
  rw [fracQ_zero hd0]
  exact ⟨hz,by show 1<10 ^ N;omega⟩
 ·rw [fracQ_ne hd0 h0]
  exact ⟨Nat.lt_of_le_of_lt (Nat.div_le_self _ _) hz,Nat.lt_of_le_of_lt (Nat.div_le_self _ _) hd⟩
theorem NumQ.small {a:ByteArray} {p:Q} {N:Nat} (h:NumQ a p) (ha:a.size≤N) (hN:0<N):Small p N:=by
 have h1:=congrArg List.length h.1
 rw [Array.length_toList,writeS_eq,List.length_append] at h1
 have h3:a.data.size=a.size:=rfl
 have h6:(Lib.decDigits p.top).length≤(sgnT p.neg (Lib.decDigits p.top)).length:=by unfold sgnT;split<;>simp
 have e1:=decVal_lt _ (digits_dec p.top)
 have e2:=decVal_lt _ (digits_dec p.bot)
 rw [decVal_dec] at e1 e2
 refine ⟨Nat.lt_of_lt_of_le e1 (Nat.pow_le_pow_right (by omega) (by omega)),?_⟩
 by_cases hb:p.bot=1
 ·rw [hb];exact Nat.one_lt_pow (by omega) (by omega)
 ·rw [if_neg hb,List.length_cons] at h1
  exact Nat.lt_of_lt_of_le e2 (Nat.pow_le_pow_right (by omega) (by omega))
theorem sI_abs (p:Q):(sI p).natAbs=p.top:=by unfold sI;split<;>simp
theorem mul_pow_lt {x y M N:Nat} (hx:x<10 ^ M) (hy:y<10 ^ N):x*y<10 ^ (M+N):=by
 rw [Nat.pow_add]
 exact Nat.mul_lt_mul'' hx hy
theorem small_mul {p q:Q} {M N:Nat} (hp:Small p M) (hq:Small q N) (p0:0<p.bot) (q0:0<q.bot):Small (mulQ p q) (M+N):=by
 refine small_frac ?_ (mul_pow_lt hp.2 hq.2) (Nat.mul_pos p0 q0)
 rw [Int.natAbs_mul,sI_abs,sI_abs]
 exact mul_pow_lt hp.1 hq.1
theorem small_add {p q:Q} {M N:Nat} (hp:Small p M) (hq:Small q N) (p0:0<p.bot) (q0:0<q.bot):Small (addQ p q) (M+N+1):=by
 have h1:=mul_pow_lt hp.1 hq.2
 have h2:=mul_pow_lt hq.1 hp.2
 have h3:=mul_pow_lt hp.2 hq.2
 rw [Nat.add_comm N M] at h2
 have e:10 ^ (M+N+1)=10 ^ (M+N)*10:=Nat.pow_succ _ _
 refine small_frac ?_ (by omega) (Nat.mul_pos p0 q0)
 have h4:=Int.natAbs_add_le (sI p*(q.bot:Int)) (sI q*(p.bot:Int))
 rw [Int.natAbs_mul,Int.natAbs_mul,sI_abs,sI_abs,Int.natAbs_natCast,Int.natAbs_natCast] at h4
 omega
def RetS (w:World) (p:Q) (e:Ending) (w':World):Prop:=(∃ s:ByteArray,e = .returned (.string s)∧NumQ s p)∧Below w.heap.size w w'
theorem rMul_q (a a':ByteArray) (p q:Q) (w:World) (h:NumQ a p) (h':NumQ a' q) (ha:a.size≤100000) (ha':a'.size≤100000) :
  Calls Tryz.prog 78 #[.string a,.string a'] w (RetS w (mulQ p q)):=
 (rMul_any a a' p.neg q.neg p.top p.bot q.top q.bot w h.num h'.num h.2.2.2 h'.2.2.2 h.2.1 h'.2.1 ha ha').mono fun _ _ ⟨⟨s,he,hs⟩,hb⟩=>⟨⟨s,he,hs,fracQ_low _ (Nat.mul_pos h.2.1 h'.2.1)⟩,hb⟩
theorem rAdd_q (a a':ByteArray) (p q:Q) (w:World) (h:NumQ a p) (h':NumQ a' q) (ha:a.size≤100000) (ha':a'.size≤100000) :
  Calls Tryz.prog 56 #[.string a,.string a'] w (RetS w (addQ p q)):=
 (rAdd_any a a' p.neg q.neg p.top p.bot q.top q.bot w h.num h'.num h.2.2.2 h'.2.2.2 h.2.1 h'.2.1 ha ha').mono fun _ _ ⟨⟨s,he,hs⟩,hb⟩=>⟨⟨s,he,hs,fracQ_low _ (Nat.mul_pos h.2.1 h'.2.1)⟩,hb⟩
theorem LowQ.zero {p:Q} (h:LowQ p) (h0:p.top=0):p=⟨false,0,1⟩:=by
 obtain ⟨n,t,b⟩:=p
 obtain ⟨h1,h2,h3⟩:=h
 dsimp only at *
 subst h0
 rw [Nat.gcd_zero_left] at h2
 subst h2
 cases n
 ·rfl
 ·exact absurd (h3 rfl) (by omega)
theorem NumQ.is_zero {a:ByteArray} {p:Q} (h:NumQ a p):(a.toList==[48])=decide (p.top=0):=by
 rw [ByteArray.toList_eq,h.1,Bool.eq_iff_iff,beq_iff_eq,decide_eq_true_eq]
 constructor
 ·intro he
  rw [writeS_eq] at he
  rcases Nat.eq_zero_or_pos p.top with h0 | h0
  ·exact h0
  ·exfalso
   have h1:=dec_ne48 h0
   have h2:=Dec.dec_length_pos p.top
   have hl:=congrArg List.length he
   rw [List.length_append] at hl
   simp only [List.length_cons,List.length_nil] at hl
   cases hn:p.neg
   ·rw [hn] at he hl
    have e1:sgnT false (Lib.decDigits p.top)=Lib.decDigits p.top:=rfl
    rw [e1] at he hl
    have h9:(if p.bot=1 then [] else 47 :: Lib.decDigits p.bot)=[]:=List.eq_nil_of_length_eq_zero (by omega)
    rw [h9,List.append_nil] at he
    exact h1 he
   ·rw [hn] at hl
    have e1:(sgnT true (Lib.decDigits p.top)).length=(Lib.decDigits p.top).length+1:=rfl
    omega
 ·intro h0
  rw [h.2.zero h0]
  rw [writeS_eq]
  show Lib.decDigits 0++[]=[48]
  rw [Dec.dec_lt (by omega)]
  rfl
set_option maxHeartbeats 1000000 in
theorem rSign_q (a:ByteArray) (p:Q) (w:World) (h:NumQ a p) (ha:a.size≤1000000) :
  Calls Tryz.prog 46 #[.string a] w fun e w'=>e = .returned (.int .i64 (signI p))∧w=w':=by
 have hz:=h.is_zero
 obtain ⟨h0,hhd⟩:=h.num.head
 obtain ⟨c0,hc0⟩:∃ c0:Nat,(a[0]'h0).toNat=c0:=⟨_,rfl⟩
 rw [hc0] at hhd
 have d0:decide (0<a.size)=true:=by simpa using h0
 by_cases ht:p.top=0
 ·have hs:signI p=0:=by unfold signI;rw [if_pos ht]
  rw [decide_eq_true ht] at hz
  have HS:=Lib.hid hs
  clear hs h ht hhd hc0
  go_enter Tryz.func46,Tryz.ntmps46
  go_wp2
  go_ret
  exact ⟨by rw [HS.out];rfl,rfl⟩
 ·rw [decide_eq_false ht] at hz
  have hs:signI p=if p.neg then -1 else 1:=by unfold signI;rw [if_neg ht]
  cases hn:p.neg
  all_goals
   rw [hn] at hs hhd
   have HS:=Lib.hid hs
   clear hs h ht hn
   go_enter Tryz.func46,Tryz.ntmps46
   go_wp2
   go_ret
   exact ⟨by rw [HS.out];rfl,rfl⟩
theorem signI_cases (p:Q) (h:LowQ p):(p.neg=true∧signI p = -1)∨(p.neg=false∧p.top=0∧signI p=0)∨(p.neg=false∧0<p.top∧signI p=1):=by
 unfold signI
 by_cases ht:p.top=0
 ·have:=h.zero ht
  rw [this]
  exact .inr (.inl ⟨rfl,rfl,rfl⟩)
 ·rw [if_neg ht]
  cases hn:p.neg
  ·exact .inr (.inr ⟨rfl,by omega,rfl⟩)
  ·exact .inl ⟨rfl,rfl⟩
theorem low_neg {p:Q} (h:LowQ p):LowQ (negQ p):=by
 refine ⟨h.1,h.2.1,fun h9 => ?_⟩
 unfold negQ at h9
 simp only [Bool.and_eq_true,decide_eq_true_eq] at h9
 exact h9.2
theorem write_negneg {a:ByteArray} {p:Q} (h:NumQ a p) (hn:p.neg=true):(a.extract 1 a.size).data.toList=writeS ⟨false,p.top,p.bot⟩:=by
 have h1:=h.num.abs
 unfold absT at h1
 rw [hn] at h1
 exact h1
set_option maxHeartbeats 1000000 in
theorem rNeg_q (a:ByteArray) (p:Q) (w:World) (h:NumQ a p) (ha:a.size≤1000000) :
  Calls Tryz.prog 122 #[.string a] w (RetS w (negQ p)):=by
 have HK:=Lib.hid (fun W=>rSign_q a p W h ha)
 have hl:=low_neg h.2
 obtain ⟨h0,_⟩:=h.num.head
 have hs1:(1:Int)≤(a.size:Int):=by omega
 rcases signI_cases p h.2 with ⟨hn,hs⟩ | ⟨hn,ht,hs⟩ | ⟨hn,ht,hs⟩
 ·have hq:negQ p=⟨false,p.top,p.bot⟩:=by unfold negQ;rw [hn];rfl
  have hw:=write_negneg h hn
  have HR:Hid (NumQ (a.extract 1 a.size) (negQ p)):=⟨by rw [hq];exact hw,hl⟩
  simp only [hs] at HK
  clear hq hw hn hs h hl
  go_enter Tryz.func122,Tryz.ntmps122
  go_wp2_with fail
  refine (HK.out w).mono ?_
  rintro e w1 ⟨rfl,rfl⟩
  go_wp2
  go_ret
  exact ⟨⟨_,rfl,HR.out⟩,Below.refl _ _⟩
 ·have hq:negQ p=p:=by rw [h.2.zero ht];rfl
  have HR:Hid (NumQ a (negQ p)):=by show NumQ a (negQ p);rw [hq];exact h
  simp only [hs] at HK
  clear hq hn hs h hl ht
  go_enter Tryz.func122,Tryz.ntmps122
  go_wp2_with fail
  refine (HK.out w).mono ?_
  rintro e w1 ⟨rfl,rfl⟩
  go_wp2_with fail
  refine (HK.out w).mono ?_
  rintro e w1 ⟨rfl,rfl⟩
  go_wp2
  go_ret
  exact ⟨⟨_,rfl,HR.out⟩,Below.refl _ _⟩
 ·have hq:negQ p=⟨true,p.top,p.bot⟩:=by unfold negQ;rw [hn,decide_eq_true ht];rfl
  have HR:Hid (NumQ (⟨#[45]⟩++a) (negQ p)):=by
   refine ⟨?_,hl⟩
   rw [ByteArray.data_append,Array.toList_append,h.1,hq,writeS_eq,writeS_eq,hn]
   rfl
  simp only [hs] at HK
  clear hq hn hs h hl ht
  go_enter Tryz.func122,Tryz.ntmps122
  go_wp2_with fail
  refine (HK.out w).mono ?_
  rintro e w1 ⟨rfl,rfl⟩
  go_wp2_with fail
  refine (HK.out w).mono ?_
  rintro e w1 ⟨rfl,rfl⟩
  go_wp2
  go_ret
  exact ⟨⟨_,rfl,HR.out⟩,Below.refl _ _⟩
theorem sI_neg (q:Q):sI (negQ q) = - sI q:=by
 unfold sI negQ
 dsimp only
 cases q.neg
 ·by_cases h:0<q.top
  ·simp [h]
  ·have:q.top=0:=by omega
   simp [this]
 ·simp
theorem addQ_neg (p q:Q):addQ p (negQ q)=subQ p q:=by
 unfold addQ subQ
 rw [sI_neg,Int.neg_mul,←Int.sub_eq_add_neg]
 rfl
set_option maxHeartbeats 1000000 in
theorem rSub_q (a a':ByteArray) (p q:Q) (w:World) (h:NumQ a p) (h':NumQ a' q) (ha:a.size≤100000) (ha':a'.size≤99999) :
  Calls Tryz.prog 68 #[.string a,.string a'] w (RetS w (subQ p q)):=by
 have HN:=Lib.hid (rNeg_q a' q w h' (by omega))
 have hsz:∀ s:ByteArray,NumQ s (negQ q)→s.size≤100000:=fun s hs=>by
  have h1:=congrArg List.length hs.1
  have h2:=congrArg List.length h'.1
  rw [Array.length_toList,writeS_eq,List.length_append] at h1 h2
  have h3:s.data.size=s.size:=rfl
  have h4:a'.data.size=a'.size:=rfl
  have h5:=sgnT_len (negQ q).neg (Lib.decDigits (negQ q).top)
  have h6:(Lib.decDigits q.top).length≤(sgnT q.neg (Lib.decDigits q.top)).length:=by unfold sgnT;split<;>simp
  have e1:(negQ q).top=q.top:=rfl
  have e2:(negQ q).bot=q.bot:=rfl
  rw [e1,e2] at h1
  rw [e1] at h5
  omega
 have HA:=Lib.hid (fun (s:ByteArray) (hs:NumQ s (negQ q)) (W:World)=>rAdd_q a s p (negQ q) W h hs ha (hsz s hs))
 rw [addQ_neg] at HA
 clear hsz
 go_enter Tryz.func68,Tryz.ntmps68
 go_wp2_with fail
 refine HN.out.mono ?_
 rintro e w1 ⟨⟨s,rfl,hs⟩,hb1⟩
 go_wp2_with fail
 refine (HA.out s hs w1).mono ?_
 rintro e w2 ⟨⟨t,rfl,ht⟩,hb2⟩
 go_wp2
 go_ret
 exact ⟨⟨t,rfl,ht⟩,hb1.trans (hb2.mono hb1.size)⟩
theorem small_neg {p:Q} {N:Nat} (h:Small p N):Small (negQ p) N:=h
theorem small_sub {p q:Q} {M N:Nat} (hp:Small p M) (hq:Small q N) (p0:0<p.bot) (q0:0<q.bot):Small (subQ p q) (M+N+1):=by
 rw [←addQ_neg]
 exact small_add hp (small_neg hq) p0 q0
def halfQ:Q:=⟨false,1,2⟩
theorem half_num:NumQ ⟨#[49,47,50]⟩ halfQ:=⟨by decide +kernel,by decide,by decide,fun h=>by cases h⟩
set_option maxHeartbeats 1000000 in
theorem rHalf_q (a:ByteArray) (p:Q) (w:World) (h:NumQ a p) (ha:a.size≤100000) :
  Calls Tryz.prog 67 #[.string a] w (RetS w (mulQ p halfQ)):=by
 have HM:=Lib.hid (rMul_q a ⟨#[49,47,50]⟩ p halfQ w h half_num ha (by decide))
 go_enter Tryz.func67,Tryz.ntmps67
 go_wp2_with fail
 refine HM.out.mono ?_
 rintro e w1 ⟨⟨s,rfl,hs⟩,hb1⟩
 go_wp2
 go_ret
 exact ⟨⟨s,rfl,hs⟩,hb1⟩
def recQ (p:Q):Q:=fracQ (p.bot:Int) p.top
theorem low_rec {p:Q} (ht:0<p.top):LowQ (recQ p):=fracQ_low _ ht
theorem rec_pos {p:Q} (h:LowQ p) (hn:p.neg=false) (ht:0<p.top):recQ p=⟨false,p.bot,p.top⟩:=by
 refine low_unique (low_rec ht) ⟨ht,by rw [Nat.gcd_comm];exact h.2.1,fun h9=>by cases h9⟩ ?_
 exact sI_low ht
set_option maxHeartbeats 2000000 in
set_option maxRecDepth 100000 in
theorem rRec_q (a:ByteArray) (p:Q) (w:World) (h:NumQ a p) (hn:p.neg=false) (ht:0<p.top) (ha:a.size≤100000) :
  Calls Tryz.prog 120 #[.string a] w (RetS w (recQ p)):=by
 have hp:=rparts_any a p.neg p.top p.bot w h.num h.2.2.2 h.2.1 (by omega)
 rw [hn] at hp
 have HP:=Lib.hid hp
 have hl:=h.num.lens2 ha
 have HL:=Lib.hid hl
 have HLOW:=Lib.hid (low_rec ht)
 have HRQ:Hid (∀ s:ByteArray,s.data.toList=writeS (fracQ (sgn false p.bot) p.top)→NumQ s (recQ p)):=fun s hs=>⟨hs,low_rec ht⟩
 clear hp hl
 generalize recQ p=R at *
 go_enter Tryz.func120,Tryz.ntmps120
 go_wp2_with fail
 refine HP.out.mono ?_
 rintro e w1 ⟨A1,n1,c1,A2,n2,c2,rfl,hd1,hd2,hb1⟩
 have hB:Below w1.heap.size w1 ((w1.alloc (.cells #[.bool false,.slice A1 n1 c1] 107)).alloc (.cells #[.bool false,.slice A2 n2 c2] 107)):=((Below.refl _ _).alloc (Nat.le_refl _) _).alloc (by simp) _
 have e1:n1≤100000:=by rw [←hd1.len];exact HL.out.1
 have e2:n2≤100001:=by rw [←hd2.len];exact HL.out.2
 have HF:=Lib.hid (rfraction_pos false p.bot p.top A2 A1 n2 c2 n1 c1 _ (hd2.later hB) (hd1.later hB) ht (by omega) (by omega))
 have HB:=Lib.hid (hb1.trans (hB.mono hb1.size))
 clear hd1 hd2 hB hb1
 go_wp2_with fail
 refine HF.out.mono ?_
 rintro e w2 ⟨⟨s,rfl,hs⟩,hb2⟩
 go_wp2
 go_ret
 exact ⟨⟨s,rfl,HRQ.out s hs⟩,HB.out.trans (hb2.mono HB.out.size)⟩
theorem rec_size {p:Q} {N:Nat} (h:Small p N) (ht:0<p.top):Small (recQ p) N:=by
 refine small_frac ?_ h.1 ht
 rw [Int.natAbs_natCast]
 exact h.2
def powQ (p:Q) (k:Nat):Q:=⟨false,p.top ^ k,p.bot ^ k⟩
theorem cop_pow {x y:Nat} (h:Nat.gcd x y=1) (k:Nat):Nat.gcd (x ^ k) (y ^ k)=1:=by
 have h1:Nat.Coprime x y:=h
 exact Nat.Coprime.pow k k h1
theorem low_pow {p:Q} (h:LowQ p) (k:Nat):LowQ (powQ p k):=⟨Nat.pow_pos h.1,cop_pow h.2.1 k,fun h9=>by cases h9⟩
theorem mul_powQ {p:Q} (h:LowQ p) (i j:Nat):mulQ (powQ p i) (powQ p j)=powQ p (i+j):=by
 have hi:=low_pow h i
 have hj:=low_pow h j
 refine low_unique (fracQ_low _ (Nat.mul_pos hi.1 hj.1)) (low_pow h (i+j)) ?_
 unfold mulQ
 have h9:=sI_low (num:=sI (powQ p i)*sI (powQ p j)) (Nat.mul_pos hi.1 hj.1)
 have e1:sI (powQ p (i+j))=sI (powQ p i)*sI (powQ p j):=by
  unfold sI powQ
  simp only [Bool.false_eq_true,if_false]
  rw [Nat.pow_add,Int.natCast_mul]
 have e2:(powQ p (i+j)).bot=(powQ p i).bot*(powQ p j).bot:=by
  unfold powQ
  dsimp only
  rw [Nat.pow_add]
 rw [e1,e2]
 exact h9
theorem small_pow {p:Q} {N:Nat} (h:Small p N) (k:Nat):Small (powQ p k) (N*k+1):=by
 have h1:p.top ^ k≤(10 ^ N) ^ k:=Nat.pow_le_pow_left (Nat.le_of_lt h.1) k
 have h2:p.bot ^ k≤(10 ^ N) ^ k:=Nat.pow_le_pow_left (Nat.le_of_lt h.2) k
 rw [←Nat.pow_mul] at h1 h2
 have h3:10 ^ (N*k)<10 ^ (N*k+1):=Nat.pow_lt_pow_right (by omega) (by omega)
 exact ⟨Nat.lt_of_le_of_lt h1 h3,Nat.lt_of_le_of_lt h2 h3⟩
theorem one_num:NumQ ⟨#[49]⟩ ⟨false,1,1⟩:=⟨by decide +kernel,by decide,by decide,fun h=>by cases h⟩
def PowInv (p:Q) (k i:Nat) (t s:ByteArray):Prop:=∃ e r,NumQ t (powQ p e)∧NumQ s (powQ p r)∧r+e*i=k∧e≤2*k+1∧r≤k
set_option maxHeartbeats 2000000 in
set_option maxRecDepth 100000 in
theorem rPow_pos (a:ByteArray) (p:Q) (k N:Nat) (w:World) (h:NumQ a p) (hn:p.neg=false) (hs:Small p N) (hk:k≤100) (hN:N≤40) :
  Calls Tryz.prog 121 #[.string a,.int .i64 (k:Int)] w (RetS w (powQ p k)):=by
 have hp1:NumQ a (powQ p 1):=by
  have e:powQ p 1=p:=by
   obtain ⟨n,t,b⟩:=p
   dsimp only at hn
   subst hn
   unfold powQ
   simp
  rw [e];exact h
 have hsz:∀ (s:ByteArray) (e:Nat),NumQ s (powQ p e)→e≤201→s.size≤20000:=fun s e h9 he=>by
  have h1:=h9.size (small_pow hs e) (by omega)
  have h2:N*e≤40*201:=Nat.mul_le_mul hN he
  omega
 have hmul:∀ (s t:ByteArray) (i j:Nat),NumQ s (powQ p i)→NumQ t (powQ p j)→i≤201→j≤201→∀ W:World,Calls Tryz.prog 78 #[.string s,.string t] W (RetS W (powQ p (i+j))):=fun s t i j h1 h2 hi hj W=>by
  have h9:=rMul_q s t _ _ W h1 h2 (by have:=hsz s i h1 hi;omega) (by have:=hsz t j h2 hj;omega)
  rwa [mul_powQ h.2] at h9
 have HM:=Lib.hid hmul
 have d0:decide ((k:Int)<0)=false:=by simp
 have H1:Hid (PowInv p k k a ⟨#[49]⟩):=⟨1,0,hp1,one_num,by omega,by omega,by omega⟩
 clear hsz hmul hp1 h hn hs
 go_enter Tryz.func121,Tryz.ntmps121
 go_wp2
 go_loopg [0,1,5] k (fun g v0 v1 v5 W=>∃ (i:Nat) (t s:ByteArray),v0 = .string t∧v1 = .int .i64 (i:Int)∧v5 = .string s∧i≤g∧i≤k∧Hid (PowInv p k i t s)∧Below w.heap.size w W)
 case atStart=>exact ⟨k,a,_,rfl,rfl,rfl,Nat.le_refl _,Nat.le_refl _,H1.out,Below.refl _ _⟩
 case round=>
  obtain ⟨i,t,s,rfl,rfl,rfl,hg,hik,hinv,hbel⟩:=hrel
  obtain ⟨e,r,ht,hs,hre,he,hr⟩:=hinv.out
  by_cases h0:i=0
  ·subst h0
   have hR:NumQ s (powQ p k):=by
    rw [Nat.mul_zero,Nat.add_zero] at hre
    rw [←hre];exact hs
   have HR:=Lib.hid hR
   clear hR hre ht hs hinv
   go_wp2
   go_ret
   exact ⟨⟨s,rfl,HR.out⟩,hbel⟩
  ·have hek:e≤k:=by
    have:e*1≤e*i:=Nat.mul_le_mul_left e (by omega)
    omega
   have d1:decide (0<i)=true:=by simp;omega
   obtain ⟨i2,hi2⟩:∃ i2,i2=i / 2:=⟨_,rfl⟩
   have ed:(i:Int) / 2=(i2:Int):=by omega
   have HSQ:=Lib.hid (HM.out t t e e ht ht (by omega) (by omega))
   by_cases hodd:i % 2=1
   ·have eo:(i:Int) % 2=1:=by omega
    have hee:e*i=e+(e+e)*i2:=by
     have:i=1+2*i2:=by omega
     rw [this,Nat.mul_add,Nat.mul_one,Nat.add_mul,←Nat.mul_assoc,Nat.mul_comm e 2,Nat.two_mul,Nat.add_mul]
    have HO:=Lib.hid (HM.out s t r e hs ht (by omega) (by omega))
    have HI:Hid (∀ t2 s2:ByteArray,NumQ t2 (powQ p (e+e))→NumQ s2 (powQ p (r+e))→PowInv p k i2 t2 s2):=fun t2 s2 h1 h2=>⟨e+e,r+e,h1,h2,by omega,by omega,by omega⟩
    have hi2k:i2≤k∧i2<i:=by omega
    have HIK:=Lib.hid hi2k
    clear hi2 hodd hee hre ht hs hinv hi2k
    go_wp2_with fail
    refine (HO.out wr).mono ?_
    rintro e1 w1 ⟨⟨s2,rfl,hs2⟩,hb1⟩
    go_wp2_with fail
    refine (HSQ.out w1).mono ?_
    rintro e2 w2 ⟨⟨t2,rfl,ht2⟩,hb2⟩
    have HN:=Lib.hid (HI.out t2 s2 ht2 hs2)
    clear hs2 ht2
    go_wp2
    go_roundg i2
    case measure=>have:=HIK.out;omega
    case rel=>exact ⟨i2,t2,s2,rfl,rfl,rfl,Nat.le_refl _,HIK.out.1,HN.out,hbel.trans ((hb1.trans (hb2.mono hb1.size)).mono hbel.size)⟩
   ·have eo:(i:Int) % 2=0:=by omega
    have hee:e*i=(e+e)*i2:=by
     have:i=2*i2:=by omega
     rw [this,←Nat.mul_assoc,Nat.mul_comm e 2,Nat.two_mul]
    have HI:Hid (∀ t2:ByteArray,NumQ t2 (powQ p (e+e))→PowInv p k i2 t2 s):=fun t2 h1=>⟨e+e,r,h1,hs,by omega,by omega,by omega⟩
    have hi2k:i2≤k∧i2<i:=by omega
    have HIK:=Lib.hid hi2k
    clear hi2 hodd hee hre ht hs hinv hi2k
    go_wp2_with fail
    refine (HSQ.out wr).mono ?_
    rintro e2 w2 ⟨⟨t2,rfl,ht2⟩,hb2⟩
    have HN:=Lib.hid (HI.out t2 ht2)
    clear ht2
    go_wp2
    go_roundg i2
    case measure=>have:=HIK.out;omega
    case rel=>exact ⟨i2,t2,s,rfl,rfl,rfl,Nat.le_refl _,HIK.out.1,HN.out,hbel.trans (hb2.mono hbel.size)⟩
set_option maxHeartbeats 2000000 in
set_option maxRecDepth 100000 in
theorem rPow_neg (a:ByteArray) (p:Q) (m N:Nat) (w:World) (h:NumQ a p) (hn:p.neg=false) (ht:0<p.top) (hs:Small p N) (hm:0<m) (hk:m≤100) (hN:N≤40) (ha:a.size≤100000) :
  Calls Tryz.prog 121 #[.string a,.int .i64 (-(m:Int))] w (RetS w (powQ (recQ p) m)):=by
 have hrn:(recQ p).neg=false:=by rw [rec_pos h.2 hn ht]
 have HR:=Lib.hid (rRec_q a p w h hn ht ha)
 have HP:=Lib.hid (fun (s:ByteArray) (h9:NumQ s (recQ p)) (W:World)=>rPow_pos s (recQ p) m N W h9 hrn (rec_size hs ht) hk hN)
 have d0:decide (-(m:Int)<0)=true:=by simp only [decide_eq_true_eq];omega
 have hm1 : -(m:Int)<0:=by omega
 obtain ⟨z,hz⟩:∃ z:Int, -(m:Int)=z:=⟨_,rfl⟩
 have ez:0 - z=(m:Int):=by omega
 have ez2 : -z=(m:Int):=by omega
 have hzb : -100≤z:=by omega
 rw [hz] at d0 hm1 ⊢
 clear hz h hn hs hrn
 go_enter Tryz.func121,Tryz.ntmps121
 go_wp2_with fail
 refine HR.out.mono ?_
 rintro e w1 ⟨⟨s,rfl,h9⟩,hb1⟩
 go_wp2_with fail
 refine (HP.out s h9 w1).mono ?_
 rintro e w2 ⟨⟨t,rfl,h8⟩,hb2⟩
 go_wp2
 go_ret
 exact ⟨⟨t,rfl,h8⟩,hb1.trans (hb2.mono hb1.size)⟩
set_option maxHeartbeats 4000000 in
set_option maxRecDepth 100000 in
theorem rwhole_neg (m:Nat) (w:World) (hm:m≤4000000000000000000) (hm0:0<m) :
  Calls Tryz.prog 110 #[.int .i64 (-(m:Int))] w (RetZ w (-(m:Int))):=by
 obtain ⟨i0,hi0,hz0,hz1,hz2⟩:=info_parts info_int
 have hb0:Below w.heap.size w (w.alloc (.cells #[.bool false,.slice none 0 0] 107)):=(Below.refl _ _).alloc (Nat.le_refl _) _
 have hk:=CBlk.new w #[.bool false,.slice none 0 0] 107 _ rfl
 obtain ⟨zm,hzm⟩:∃ zm:Int,zm = -(m:Int):=⟨_,rfl⟩
 have dn:decide (zm<0)=true:=by simp only [decide_eq_true_eq];omega
 have hzmb : -4000000000000000000≤zm:=by omega
 have hzmn:zm<0:=by omega
 have HZM:=Lib.hid hzm
 rw [←hzm]
 clear hzm
 go_enter Tryz.func110,Tryz.ntmps110
 go_wp2
 generalize (w.alloc (.cells #[.bool false,.slice none 0 0] 107))=w0 at *
 go_loopg [0,3] m (fun g v0 v3 W=>∃ (q k:Nat) (z:Int) (ls:List Nat),v0 = .int .i64 z∧Hid (z = -(q:Int))∧z≤0 ∧ -4000000000000000000≤z∧q≤g∧q≤4000000000000000000∧k≤100∧q≤4000000000000000000 / 2 ^ k∧W.ownsRow w0.heap.size 3 1 v3 k (ls.map natv)∧Hid (Wf ls∧ls.length=k∧val ls+B ^ k*q=m)∧Below w0.heap.size w0 W)
 case atStart=>exact ⟨m,0,zm,[],rfl,HZM.out,by omega,hzmb,Nat.le_refl _,hm,by omega,by simpa using hm,World.ownsRow_nil _ _ _ _,⟨Wf.nil,rfl,by simp⟩,Below.refl _ _⟩
 case round=>
  obtain ⟨q,k,z,ls,rfl,hzq,hz0',hzb,hq,hqb,hk9,hqk,hown,hv,hbel⟩:=hrel
  have hsz:=hbel.size
  obtain ⟨hw,hl,hval⟩:=hv.out
  by_cases h0:q=0
  ·have hz00:z=0:=by have:=hzq.out;omega
   subst h0
   rw [Nat.mul_zero,Nat.add_zero] at hval
   obtain ⟨A9,c9,rfl,h91,h92,h93⟩:=own_slice hown
   have hs:=rsigned_any true A9 k c9 ls wr ⟨h93,h91,h92,hw⟩ (by omega)
   rw [show sgn true (val ls)=zm from by rw [hval,HZM.out];rfl] at hs
   have HS:=Lib.hid hs
   have hkb:=hk.below hbel hk.lt
   have hlt:=hk.lt
   have d1:(z != 0)=false:=by rw [hz00];rfl
   have d2:(z==0)=true:=by rw [hz00];rfl
   clear hs hval hl hw hown h93 hv hqk hz00 hzq
   go_wp2_with fail
   refine HS.out.mono ?_
   rintro e w6 ⟨A6,m6,c6,rfl,hd6,hb6⟩
   have hk6:=hkb.below hb6 hkb.lt
   have e0:w6.cell? ⟨w.heap.size,0,none⟩=some (.bool false):=hk6.cell 0
   have e1:w6.cell? ⟨w.heap.size,1,none⟩=some (.slice none 0 0):=hk6.cell 1
   have f0:w6.frozen? ⟨w.heap.size,0,none⟩=false:=hk6.frozen 0
   have f1:w6.frozen? ⟨w.heap.size,1,none⟩=false:=hk6.frozen 1
   have hB:=hb0.trans ((hbel.trans (hb6.mono hbel.size)).mono hb0.size)
   clear hb6
   have dn2:decide (zm<0)=true:=dn
   rw [dn2]
   go_wp2_with fail
   refine bodyPost_ret (v := .agg #[.bool true,.slice A6 m6 c6]) (by simp [results,Tryz.results110,go_sem,e0,e1]) rfl ?_
   exact ⟨A6,m6,c6,by rw [dn2],hd6.box hk6 _ _,two_set hB (by omega) _ _⟩
  ·obtain ⟨d,hd⟩:∃ d,d=q % B:=⟨_,rfl⟩
   obtain ⟨q',hq'⟩:∃ q',q'=q / B:=⟨_,rfl⟩
   have hdB:d<B:=by rw [hd];exact Nat.mod_lt _ B_pos
   have hdB':d<1000000000:=hdB
   have hq9:q'≤q / 2:=by rw [hq'];unfold B;omega
   have hst:=whole_step hl hval
   rw [←hd,←hq'] at hst
   have HI:Hid (Wf (ls++[d])∧(ls++[d]).length=k+1∧val (ls++[d])+B ^ (k+1)*q'=m):=⟨hw.append (Wf.cons hdB Wf.nil),by simp [hl],hst⟩
   have hqk':q'≤4000000000000000000 / 2 ^ (k+1):=by
    rw [Nat.pow_succ,←Nat.div_div_eq_div_mul]
    exact Nat.le_trans hq9 (Nat.div_le_div_right hqk)
   have hk64:k<62:=by
    rcases Nat.lt_or_ge k 62 with h9 | h9
    ·exact h9
    ·exfalso
     have:4000000000000000000 / 2 ^ k≤4000000000000000000 / 2 ^ 62:=Nat.div_le_div_left (Nat.pow_le_pow_right (by omega) h9) (Nat.two_pow_pos _)
     have e63:4000000000000000000 / 2 ^ 62=0:=by decide
     omega
   have HQK:=Lib.hid hqk'
   have hzz:=hzq.out
   have hzne:z≠0:=by omega
   have d1:(z != 0)=true:=by rw [bne_iff_ne];exact hzne
   have d2:(z==0)=false:=by rw [beq_eq_false_iff_ne];exact hzne
   obtain ⟨zd,hzd⟩:∃ zd:Int,zd = -(d:Int):=⟨_,rfl⟩
   obtain ⟨zq,hzq'⟩:∃ zq:Int,zq = -(q':Int):=⟨_,rfl⟩
   have f1:Int.tmod z 1000000000=zd:=by
    rw [hzz,Int.neg_tmod,hzd,hd,Int.tmod_eq_emod_of_nonneg (by omega)]
    rfl
   have f2:Int.tdiv z 1000000000=zq:=by
    rw [hzz,Int.neg_tdiv,hzq',hq',Int.tdiv_eq_ediv_of_nonneg (by omega)]
    rfl
   have hqlt:q'<q:=by omega
   have HZQ':=Lib.hid hzq'
   have hzq0:zq≤0:=by omega
   have hzqb : -4000000000000000000≤zq:=by omega
   by_cases hneg:d=0
   case' pos=>have d3:decide (zd<0)=false:=by simp only [decide_eq_false_iff_not];omega
   case' neg=>have d3:decide (zd<0)=true:=by simp only [decide_eq_true_eq];omega
   case' pos=>have ed:zd=(d:Int):=by omega
   case' pos=>subst ed
   case' neg=>have ed:0 - zd=(d:Int):=by omega
   case' neg=>have ed2 : -zd=(d:Int):=by omega
   case' neg=>have hzdb : -1000000000≤zd:=by omega
   all_goals
    first | clear hzd | skip
    clear hd hq' hst hqk' hqk hval hl hw hv hq9 hzz hzq' hneg
    go_wp2_with (at_builtin;refine wpList_append_own _ rfl _ _ 64 rfl w0.heap.size 3 i0 (.int .i64 0) 1 8 Tryz.underlying64 hi0 hz0 hz1 hz2 rfl (by decide) _ _ _ rfl (hown.alloc _) ⟨wr.heap.size,0,none⟩ 1 1 [.int .i64 (d:Int)] rfl rfl ?c1 ?c2 ?c3 ?c4 ?c5 ?_)
    case c1=>exact cell_one_new _ _ _
    case c2=>intro u hu;simp at hu;subst hu;rfl
    case c3=>unfold maxLen;omega
    case c4=>omega
    case c5=>simp;omega
    intro v' w2 hown' hgrow _
    have hb2:Below w0.heap.size w0 w2:=(hbel.alloc hsz _).grown hgrow (by simp;omega) (fun g hg=>(World.ownsRow.lt hown g hg).1)
    clear hgrow hown
    go_wp2
    go_roundg q'
    case measure=>omega
    case rel=>exact ⟨q',k+1,zq,ls++[d],rfl,HZQ'.out,hzq0,hzqb,Nat.le_refl _,by omega,by omega,HQK.out,by rw [List.map_append];exact hown',HI.out,hb2⟩
theorem rwhole_any (z:Int) (w:World) (h1 : -4000000000000000000≤z) (h2:z≤4000000000000000000) :
  Calls Tryz.prog 110 #[.int .i64 z] w (RetZ w z):=by
 by_cases h:z<0
 ·obtain ⟨m,rfl⟩:∃ m:Nat,z = -(m:Int):=⟨(-z).toNat,by omega⟩
  exact rwhole_neg m w (by omega) (by omega)
 ·obtain ⟨m,rfl⟩:∃ m:Nat,z=(m:Int):=⟨z.toNat,by omega⟩
  exact rwhole_nat m w (by omega)
def intQ (z:Int):Q:=⟨decide (z<0),z.natAbs,1⟩
theorem low_int (z:Int):LowQ (intQ z):=⟨Nat.one_pos,Nat.gcd_one_right _,fun h=>by
 have h9:z<0:=by simpa [intQ] using h
 show 0<z.natAbs
 omega⟩
theorem write_int (z:Int):writeS (intQ z)=sgnT (decide (z<0)) (Lib.decDigits z.natAbs):=by
 rw [writeS_eq]
 simp [intQ]
set_option maxHeartbeats 1000000 in
theorem rFromInt_any (z:Int) (w:World) (h1 : -4000000000000000000≤z) (h2:z≤4000000000000000000) :
  Calls Tryz.prog 59 #[.int .i64 z] w (RetS w (intQ z)):=by
 have HW:=Lib.hid (rwhole_any z w h1 h2)
 have HR:Hid (∀ s:ByteArray,s.data.toList=sgnT (decide (z<0)) (Lib.decDigits z.natAbs)→NumQ s (intQ z)):=fun s hs=>⟨by rw [write_int];exact hs,low_int z⟩
 have hT:=fun (A:Option Addr) (n c:Nat) (W:World) (h:DigI W A n c (digs z.natAbs)) (hn:n≤524288)=>rtext_any (decide (z<0)) z.natAbs A n c W h (by intro h9;simp at h9;omega) hn
 have hlen:(digs z.natAbs).length≤3:=digs_length_le (by have e:B ^ 3=1000000000000000000000000000:=(by decide);omega)
 have HT:=Lib.hid hT
 have HL:=Lib.hid hlen
 clear hT hlen
 go_enter Tryz.func59,Tryz.ntmps59
 go_wp2_with fail
 refine HW.out.mono ?_
 rintro e w1 ⟨A1,n1,c1,rfl,hd1,hb1⟩
 go_wp2_with fail
 refine (HT.out A1 n1 c1 w1 hd1 (by rw [←hd1.len];have:=HL.out;omega)).mono ?_
 rintro e w2 ⟨⟨s,rfl,hs⟩,hb2⟩
 go_wp2
 go_ret
 exact ⟨⟨s,rfl,HR.out s hs⟩,hb1.trans (hb2.mono hb1.size)⟩
end Go.Proofs.YtjhgadajpliclaaGreatDoor
