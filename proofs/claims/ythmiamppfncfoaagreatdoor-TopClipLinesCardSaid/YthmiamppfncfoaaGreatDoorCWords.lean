/- Plain mathematics: words to the base 2^64 and their value. No program. -/
namespace Go.Proofs.YthmiamppfncfoaaGreatDoor.Bn

/-- the base: words of 64 bits -/
def B : Nat := 18446744073709551616
theorem B_def : B = 18446744073709551616 := rfl
theorem B_pos : 0 < B := by decide
theorem B_gt1 : 1 < B := by decide

def val : List Nat → Nat
  | [] => 0
  | x :: xs => x + B * val xs

def Wf (l : List Nat) : Prop := ∀ x ∈ l, x < B

theorem Wf.nil : Wf [] := fun _ h => by cases h
theorem Wf.cons {x : Nat} {l : List Nat} (h : x < B) (k : Wf l) : Wf (x :: l) := by
  intro y hy
  rcases List.mem_cons.1 hy with rfl | hy
  · exact h
  · exact k y hy
theorem Wf.replicate (n : Nat) : Wf (List.replicate n 0) := fun _ hy => by rw [(List.mem_replicate.1 hy).2]; exact B_pos
theorem Wf.head {x : Nat} {l : List Nat} (h : Wf (x :: l)) : x < B := h x (by simp)
theorem Wf.tail {x : Nat} {l : List Nat} (h : Wf (x :: l)) : Wf l := fun y hy => h y (by simp [hy])
theorem Wf.append {a b : List Nat} (h : Wf a) (k : Wf b) : Wf (a ++ b) := by
  intro y hy
  rcases List.mem_append.1 hy with hy | hy
  · exact h y hy
  · exact k y hy
theorem Wf.take {a : List Nat} (h : Wf a) (n : Nat) : Wf (a.take n) := fun y hy => h y (List.mem_of_mem_take hy)
theorem Wf.drop {a : List Nat} (h : Wf a) (n : Nat) : Wf (a.drop n) := fun y hy => h y (List.mem_of_mem_drop hy)
theorem Wf.get {a : List Nat} (h : Wf a) {i : Nat} (hi : i < a.length) : a[i] < B := h _ (List.getElem_mem hi)
theorem Wf.set {a : List Nat} (h : Wf a) (i : Nat) {x : Nat} (hx : x < B) : Wf (a.set i x) := by
  intro y hy
  rcases List.mem_or_eq_of_mem_set hy with hy | rfl
  · exact h y hy
  · exact hx

@[simp] theorem val_nil : val [] = 0 := rfl
@[simp] theorem val_cons (x : Nat) (xs : List Nat) : val (x :: xs) = x + B * val xs := rfl

theorem val_append (a b : List Nat) : val (a ++ b) = val a + B ^ a.length * val b := by
  induction a with
  | nil => simp
  | cons x a ih =>
    simp only [List.cons_append, val_cons, ih, List.length_cons, Nat.pow_succ]
    rw [Nat.mul_add, ← Nat.mul_assoc, Nat.mul_comm B (B ^ a.length), Nat.add_assoc]

theorem val_single (x : Nat) : val [x] = x := by simp

theorem val_lt {l : List Nat} (h : Wf l) : val l < B ^ l.length := by
  induction l with
  | nil => simp
  | cons x l ih =>
    have h1 := ih h.tail
    have h2 := h.head
    simp only [val_cons, List.length_cons, Nat.pow_succ]
    have : B * val l + B ≤ B * B ^ l.length := by
      have : B * (val l + 1) ≤ B * B ^ l.length := Nat.mul_le_mul_left B h1
      rwa [Nat.mul_add, Nat.mul_one] at this
    rw [Nat.mul_comm (B ^ l.length) B]
    omega

theorem val_take_succ (l : List Nat) (k : Nat) (h : k < l.length) : val (l.take (k + 1)) = val (l.take k) + B ^ k * l[k] := by
  rw [List.take_succ_eq_append_getElem h, val_append, val_single, List.length_take, Nat.min_eq_left (by omega)]

theorem val_split (l : List Nat) (k : Nat) (h : k ≤ l.length) : val l = val (l.take k) + B ^ k * val (l.drop k) := by
  have h1 := val_append (l.take k) (l.drop k)
  rw [List.take_append_drop, List.length_take, Nat.min_eq_left h] at h1
  exact h1

theorem val_replicate_zero (n : Nat) : val (List.replicate n 0) = 0 := by
  induction n with
  | zero => rfl
  | succ n ih => simp [List.replicate_succ, ih]

theorem val_zeros {l : List Nat} (h : ∀ x ∈ l, x = 0) : val l = 0 := by
  induction l with
  | nil => rfl
  | cons x l ih =>
    have := h x (by simp)
    simp [this, ih (fun y hy => h y (by simp [hy]))]

/-- the words of a number, the least first, without a last word 0 -/
def digs (n : Nat) : List Nat := if n = 0 then [] else (n % B) :: digs (n / B)
termination_by n
decreasing_by
  rename_i h
  exact Nat.div_lt_self (by omega) B_gt1

theorem digs_zero : digs 0 = [] := by rw [digs]; rfl
theorem digs_pos {n : Nat} (h : 0 < n) : digs n = (n % B) :: digs (n / B) := by rw [digs, if_neg (by omega)]

theorem val_digs (n : Nat) : val (digs n) = n := by
  induction n using Nat.strongRecOn with
  | ind n ih =>
    rcases Nat.eq_zero_or_pos n with rfl | h
    · rw [digs_zero]; rfl
    · rw [digs_pos h, val_cons, ih _ (Nat.div_lt_self h B_gt1)]
      exact Nat.mod_add_div n B

theorem wf_digs (n : Nat) : Wf (digs n) := by
  induction n using Nat.strongRecOn with
  | ind n ih =>
    rcases Nat.eq_zero_or_pos n with rfl | h
    · rw [digs_zero]; exact Wf.nil
    · rw [digs_pos h]
      exact Wf.cons (Nat.mod_lt _ B_pos) (ih _ (Nat.div_lt_self h B_gt1))

theorem digs_ne_nil {n : Nat} (h : 0 < n) : digs n ≠ [] := by rw [digs_pos h]; simp
theorem digs_eq_nil {n : Nat} : digs n = [] ↔ n = 0 := by
  constructor
  · intro h
    rcases Nat.eq_zero_or_pos n with h0 | h0
    · exact h0
    · exact absurd h (digs_ne_nil h0)
  · rintro rfl; exact digs_zero
theorem digs_length_pos {n : Nat} (h : 0 < n) : 0 < (digs n).length := List.length_pos_iff.2 (digs_ne_nil h)
theorem digs_length_zero {n : Nat} : (digs n).length = 0 ↔ n = 0 := by rw [List.length_eq_zero_iff]; exact digs_eq_nil

/-- what is normal is the words of its value -/
def Norm (l : List Nat) : Prop := ∀ h : 0 < l.length, l[l.length - 1] ≠ 0

theorem norm_digs (n : Nat) : Norm (digs n) := by
  induction n using Nat.strongRecOn with
  | ind n ih =>
    intro h0
    rcases Nat.eq_zero_or_pos n with rfl | h
    · simp [digs_zero] at h0
    · have ih' := ih _ (Nat.div_lt_self h B_gt1)
      have e := digs_pos h
      rcases Nat.eq_zero_or_pos (n / B) with hq | hq
      · have e2 : digs n = [n % B] := by rw [e, hq, digs_zero]
        have : n % B ≠ 0 := by
          have := Nat.mod_add_div n B
          rw [hq] at this; omega
        simp only [e2]
        simpa using this
      · have hl := digs_length_pos hq
        have h2 := ih' hl
        simp only [e, List.length_cons, Nat.add_sub_cancel]
        rw [List.getElem_cons, dif_neg (by omega)]
        exact h2

theorem digs_val {l : List Nat} (hw : Wf l) (hn : Norm l) : digs (val l) = l := by
  induction l with
  | nil => exact digs_zero
  | cons x l ih =>
    have hx := hw.head
    have hpos : 0 < x + B * val l := by
      rcases Nat.eq_zero_or_pos l.length with h0 | h0
      · have : l = [] := List.eq_nil_of_length_eq_zero h0
        subst this
        have := hn (by simp)
        simp at this
        omega
      · have hn' : Norm l := by
          intro h
          have := hn (by simp)
          simp only [List.length_cons, Nat.add_sub_cancel] at this
          rw [List.getElem_cons, dif_neg (by omega)] at this
          exact this
        have e := ih hw.tail hn'
        have : val l ≠ 0 := by
          intro hz
          rw [hz, digs_zero] at e
          subst e
          simp at h0
        have := Nat.mul_pos B_pos (Nat.pos_of_ne_zero this)
        omega
    rw [val_cons, digs_pos hpos]
    have h1 : (x + B * val l) % B = x := by rw [Nat.add_mul_mod_self_left, Nat.mod_eq_of_lt hx]
    have h2 : (x + B * val l) / B = val l := by rw [Nat.add_mul_div_left _ _ B_pos, Nat.div_eq_of_lt hx, Nat.zero_add]
    rw [h1, h2]
    rcases Nat.eq_zero_or_pos l.length with h0 | h0
    · have : l = [] := List.eq_nil_of_length_eq_zero h0
      subst this
      simp [digs_zero]
    · rw [ih hw.tail]
      intro h
      have := hn (by simp)
      simp only [List.length_cons, Nat.add_sub_cancel] at this
      rw [List.getElem_cons, dif_neg (by omega)] at this
      exact this

/-- what 'trimmed' keeps -/
theorem take_trim {l : List Nat} (hw : Wf l) (n : Nat) (hn : n ≤ l.length) (hz : ∀ j (h : j < l.length), n ≤ j → l[j] = 0)
    (ht : ∀ h : n - 1 < l.length, 0 < n → l[n - 1] ≠ 0) : l.take n = digs (val l) := by
  have h1 : val (l.drop n) = 0 := by
    apply val_zeros
    intro x hx
    obtain ⟨i, hi, rfl⟩ := List.getElem_of_mem hx
    rw [List.getElem_drop]
    exact hz _ _ (by omega)
  rw [val_split l n hn, h1, Nat.mul_zero, Nat.add_zero]
  refine (digs_val (hw.take n) ?_).symm
  intro h0
  rw [List.length_take, Nat.min_eq_left hn] at h0
  simp only [List.length_take, Nat.min_eq_left hn, List.getElem_take]
  exact ht (by omega) h0

theorem digs_length_le {n k : Nat} (h : n < B ^ k) : (digs n).length ≤ k := by
  rcases Nat.eq_zero_or_pos n with rfl | hp
  · simp [digs_zero]
  · rcases Nat.lt_or_ge k (digs n).length with hk | hk
    · exfalso
      have hn := norm_digs n (digs_length_pos hp)
      have hs := val_split (digs n) ((digs n).length - 1) (by omega)
      rw [val_digs] at hs
      have hd : (digs n).drop ((digs n).length - 1) = [(digs n)[(digs n).length - 1]] := by
        rw [List.drop_eq_getElem_cons (by omega)]
        congr 1
        apply List.drop_eq_nil_of_le
        omega
      rw [hd, val_single] at hs
      have : B ^ k ≤ B ^ ((digs n).length - 1) := Nat.pow_le_pow_right B_pos (by omega)
      have h1 : 1 ≤ (digs n)[(digs n).length - 1] := Nat.pos_of_ne_zero hn
      have := Nat.le_mul_of_pos_right (B ^ ((digs n).length - 1)) h1
      omega
    · exact hk

theorem lt_of_digs_length (n : Nat) : n < B ^ (digs n).length := by
  have := val_lt (wf_digs n)
  rwa [val_digs] at this

theorem pow_le_of_digs_length {n : Nat} (h : 0 < n) : B ^ ((digs n).length - 1) ≤ n := by
  rcases Nat.lt_or_ge n (B ^ ((digs n).length - 1)) with hl | hl
  · have := digs_length_le hl
    have := digs_length_pos h
    omega
  · exact hl

theorem lt_of_length_lt {a b : Nat} (h : (digs a).length < (digs b).length) : a < b := by
  have h1 := lt_of_digs_length a
  have hb : 0 < b := by
    rcases Nat.eq_zero_or_pos b with rfl | hb
    · simp [digs_zero] at h
    · exact hb
  have h2 := pow_le_of_digs_length hb
  have : B ^ (digs a).length ≤ B ^ ((digs b).length - 1) := Nat.pow_le_pow_right B_pos (by omega)
  omega

theorem digs_length_mono {a b : Nat} (h : a ≤ b) : (digs a).length ≤ (digs b).length := by
  rcases Nat.lt_or_ge (digs b).length (digs a).length with hl | hl
  · have := lt_of_length_lt hl; omega
  · exact hl

/-- equal above i, and less at i: less -/
theorem lt_of_word {x y : List Nat} (hx : Wf x) (hl : x.length = y.length) (i : Nat) (hi : i < x.length)
    (habove : ∀ j (h : j < x.length) (h' : j < y.length), i < j → x[j] = y[j]) (hlt : x[i] < y[i]'(by omega)) : val x < val y := by
  have hy' : i < y.length := by omega
  rw [val_split x (i + 1) (by omega), val_split y (i + 1) (by omega)]
  have e : x.drop (i + 1) = y.drop (i + 1) := by
    apply List.ext_getElem
    · simp [hl]
    · intro j h1 h2
      simp only [List.getElem_drop]
      rw [List.length_drop] at h1
      exact habove _ (by omega) (by omega) (by omega)
  rw [e, val_take_succ x i hi, val_take_succ y i hy']
  have h1 := val_lt (hx.take i)
  rw [List.length_take, Nat.min_eq_left (by omega)] at h1
  have h3 : B ^ i * x[i] + B ^ i ≤ B ^ i * y[i] := by
    have := Nat.mul_le_mul_left (B ^ i) hlt
    rwa [Nat.mul_succ] at this
  omega

theorem eq_of_words {x y : List Nat} (hl : x.length = y.length) (h : ∀ j (h : j < x.length) (h' : j < y.length), x[j] = y[j]) : x = y :=
  List.ext_getElem hl fun j h1 h2 => h j h1 h2

theorem digs_inj {a b : Nat} (h : digs a = digs b) : a = b := by rw [← val_digs a, h, val_digs]



theorem getD_lt {l : List Nat} (h : Wf l) (k : Nat) : l.getD k 0 < 18446744073709551616 := by
  by_cases hk : k < l.length
  · have := h.get hk
    have e : l.getD k 0 = l[k] := by simp [List.getD, hk]
    rw [e]; exact this
  · have e : l.getD k 0 = 0 := by simp [List.getD, Nat.le_of_not_lt hk]
    rw [e]; decide
theorem getD_out {l : List Nat} {k : Nat} (h : l.length ≤ k) : l.getD k 0 = 0 := by simp [List.getD, h]
theorem getD_in {l : List Nat} {k : Nat} (h : k < l.length) : l.getD k 0 = l[k] := by simp [List.getD, h]
theorem val_take_getD (l : List Nat) (k : Nat) : val (l.take (k + 1)) = val (l.take k) + B ^ k * l.getD k 0 := by
  by_cases hk : k < l.length
  · rw [getD_in hk, val_take_succ l k hk]
  · rw [getD_out (by omega), List.take_of_length_le (by omega), List.take_of_length_le (by omega)]; simp
theorem take_set_self (l : List Nat) (k x : Nat) : (l.set k x).take k = l.take k := by rw [List.take_set_of_le]; omega
theorem val_take_set (l : List Nat) (k x : Nat) (hk : k < l.length) : val ((l.set k x).take (k + 1)) = val (l.take k) + B ^ k * x := by
  have h1 := val_take_succ (l.set k x) k (by simpa using hk)
  rw [List.getElem_set_self] at h1
  rw [h1, take_set_self]

/-- one round of plus: s + B*c1 = a + b + c0 -/
theorem plus_round (l a b : List Nat) (k : Nat) (hk : k < l.length) (s c0 c1 : Nat)
    (hinv : val (l.take k) + B ^ k * c0 = val (a.take k) + val (b.take k))
    (hs : s + B * c1 = a.getD k 0 + b.getD k 0 + c0) : val ((l.set k s).take (k + 1)) + B ^ (k + 1) * c1 = val (a.take (k + 1)) + val (b.take (k + 1)) := by
  rw [val_take_set l k s hk, val_take_getD a, val_take_getD b, Nat.pow_succ, Nat.mul_assoc]
  have h3 : B ^ k * s + B ^ k * (B * c1) = B ^ k * a.getD k 0 + B ^ k * b.getD k 0 + B ^ k * c0 := by rw [← Nat.mul_add, hs, Nat.mul_add, Nat.mul_add]
  omega

/-- one round of minus: d + b + b0 = a + B*b1 -/
theorem minus_round (l a b : List Nat) (k : Nat) (hk : k < l.length) (d b0 b1 : Nat)
    (hinv : val (l.take k) + val (b.take k) = val (a.take k) + B ^ k * b0)
    (hs : d + b.getD k 0 + b0 = a.getD k 0 + B * b1) : val ((l.set k d).take (k + 1)) + val (b.take (k + 1)) = val (a.take (k + 1)) + B ^ (k + 1) * b1 := by
  rw [val_take_set l k d hk, val_take_getD a, val_take_getD b, Nat.pow_succ, Nat.mul_assoc]
  have h3 : B ^ k * d + B ^ k * b.getD k 0 + B ^ k * b0 = B ^ k * a.getD k 0 + B ^ k * (B * b1) := by rw [← Nat.mul_add, ← Nat.mul_add, hs, Nat.mul_add]
  omega

theorem minus_end (d y x p b0 : Nat) (h : d + y = x + p * b0) (hd : d < p) (hyx : y ≤ x) (hb : b0 ≤ 1) : d = x - y := by
  have : b0 = 0 ∨ b0 = 1 := by omega
  rcases this with rfl | rfl
  · omega
  · omega

theorem mul_bound (a b : Nat) (ha : a < 18446744073709551616) (hb : b < 18446744073709551616) : a * b ≤ 340282366920938463426481119284349108225 := by
  have h1 : a * b ≤ 18446744073709551615 * 18446744073709551615 := Nat.mul_le_mul (by omega) (by omega)
  omega
theorem mul_lt_two (a b : Nat) (ha : a < 18446744073709551616) (hb : b < 18446744073709551616) : a * b < 18446744073709551616 * 18446744073709551616 := by
  have := mul_bound a b ha hb
  omega

theorem val_set (l : List Nat) (k x : Nat) (hk : k < l.length) : val (l.set k x) + B ^ k * l.getD k 0 = val l + B ^ k * x := by
  have h1 := val_split (l.set k x) (k + 1) (by rw [List.length_set]; exact hk)
  have h2 := val_split l (k + 1) hk
  rw [val_take_set l k x hk] at h1
  rw [val_take_getD] at h2
  have h3 : (l.set k x).drop (k + 1) = l.drop (k + 1) := by rw [List.drop_set_of_lt]; omega
  rw [h3] at h1
  omega
theorem lgetD_set_ne (l : List Nat) (k j x : Nat) (h : k ≠ j) : (l.set k x).getD j 0 = l.getD j 0 := by
  simp only [List.getD]
  rw [List.getElem?_set_ne h]
theorem lgetD_set_self (l : List Nat) (k x : Nat) (h : k < l.length) : (l.set k x).getD k 0 = x := by
  simp only [List.getD]
  rw [List.getElem?_set_self h]
  rfl

theorem lgetD_zeros (n t : Nat) : (List.replicate n 0).getD t 0 = 0 := by
  by_cases h : t < n
  · simp [List.getD, h]
  · simp [List.getD, Nat.le_of_not_lt h]

/-- one round of the inner loop of times: lo + B*hi = f*b + o + c -/
theorem times_round (l lb : List Nat) (i j p f lo hi c : Nat) (hk : i + j < l.length)
    (hinv : val l + B ^ (i + j) * c = p + B ^ i * (f * val (lb.take j))) (hs : lo + B * hi = f * lb.getD j 0 + l.getD (i + j) 0 + c) :
    val (l.set (i + j) lo) + B ^ (i + (j + 1)) * hi = p + B ^ i * (f * val (lb.take (j + 1))) := by
  have h1 := val_set l (i + j) lo hk
  rw [val_take_getD, Nat.mul_add f, Nat.mul_add (B ^ i)]
  have h2 : B ^ (i + j) * lo + B ^ (i + j) * (B * hi) = B ^ (i + j) * (f * lb.getD j 0) + B ^ (i + j) * l.getD (i + j) 0 + B ^ (i + j) * c := by
    rw [← Nat.mul_add, hs, Nat.mul_add, Nat.mul_add]
  have h3 : B ^ (i + (j + 1)) * hi = B ^ (i + j) * (B * hi) := by rw [← Nat.add_assoc, Nat.pow_succ, Nat.mul_assoc]
  have h4 : B ^ i * (f * (B ^ j * lb.getD j 0)) = B ^ (i + j) * (f * lb.getD j 0) := by
    rw [Nat.pow_add, Nat.mul_left_comm f, Nat.mul_assoc]
  rw [h3, h4]
  generalize B ^ (i + j) * lo = a1 at *
  generalize B ^ (i + j) * (B * hi) = a2 at *
  generalize B ^ (i + j) * (f * lb.getD j 0) = a3 at *
  generalize B ^ (i + j) * l.getD (i + j) 0 = a4 at *
  generalize B ^ (i + j) * c = a5 at *
  generalize B ^ i * (f * val (lb.take j)) = a6 at *
  omega

theorem times_row (l la lb : List Nat) (i n' c : Nat) (hk : i + n' < l.length) (hz : l.getD (i + n') 0 = 0) (hn : lb.length = n')
    (hinv : val l + B ^ (i + n') * c = val (la.take i) * val lb + B ^ i * (la.getD i 0 * val (lb.take n'))) : val (l.set (i + n') c) = val (la.take (i + 1)) * val lb := by
  have h1 := val_set l (i + n') c hk
  rw [hz, Nat.mul_zero, Nat.add_zero] at h1
  rw [h1, hinv, val_take_getD, Nat.add_mul, List.take_of_length_le (l := lb) (by omega), Nat.mul_assoc]

/-- the order of two numbers as Go has it -/
def ncmp (x y : Nat) : Int := if x < y then -1 else if x = y then 0 else 1

theorem ncmp_lt {x y : Nat} (h : x < y) : ncmp x y = -1 := by simp [ncmp, h]
theorem ncmp_eq (x : Nat) : ncmp x x = 0 := by simp [ncmp]
theorem ncmp_gt {x y : Nat} (h : y < x) : ncmp x y = 1 := by
  unfold ncmp
  rw [if_neg (by omega), if_neg (by omega)]

theorem digs_lt_at {x y : Nat} (hl : (digs x).length = (digs y).length) (i : Nat) (hi : i < (digs x).length)
    (habove : ∀ j (h : j < (digs x).length) (h' : j < (digs y).length), i < j → (digs x)[j] = (digs y)[j]) (hlt : (digs x).getD i 0 < (digs y).getD i 0) : x < y := by
  have hi' : i < (digs y).length := by omega
  have h := lt_of_word (wf_digs x) hl i hi habove (by simpa [List.getD, hi, hi'] using hlt)
  rwa [val_digs, val_digs] at h

theorem digs_eq_of {x y : Nat} (hl : (digs x).length = (digs y).length) (h : ∀ j (h : j < (digs x).length) (h' : j < (digs y).length), (digs x)[j] = (digs y)[j]) : x = y :=
  digs_inj (eq_of_words hl h)

end Go.Proofs.YthmiamppfncfoaaGreatDoor.Bn

/- Plain mathematics: shifts of words. -/
namespace Go.Proofs.YthmiamppfncfoaaGreatDoor.Bn

theorem B_two : B = 2 ^ 64 := by decide
theorem B_split (r : Nat) (h : r ≤ 64) : B = 2 ^ r * 2 ^ (64 - r) := by rw [B_two, ← Nat.pow_add]; congr 1; omega
theorem shr_eq (f r : Nat) (h : r ≤ 64) : f / 2 ^ (64 - r) = f * 2 ^ r / B := by
  rw [B_split r h, Nat.mul_comm f, Nat.mul_div_mul_left _ _ (Nat.two_pow_pos r)]
theorem shl_mod (f r : Nat) (h : r ≤ 64) : f * 2 ^ r % B = 2 ^ r * (f % 2 ^ (64 - r)) := by
  rw [B_split r h, Nat.mul_comm f, Nat.mul_mod_mul_left]
theorem shl_le (f r : Nat) (h : r ≤ 64) : f * 2 ^ r % B + 2 ^ r ≤ B := by
  have h1 : f % 2 ^ (64 - r) + 1 ≤ 2 ^ (64 - r) := Nat.mod_lt _ (Nat.two_pow_pos _)
  have h2 := Nat.mul_le_mul_left (2 ^ r) h1
  rw [← B_split r h, Nat.mul_add, Nat.mul_one] at h2
  rw [shl_mod f r h]
  exact h2
theorem shr_lt (f r : Nat) (h : r ≤ 64) (hf : f < B) : f / 2 ^ (64 - r) < 2 ^ r := by
  rw [Nat.div_lt_iff_lt_mul (Nat.two_pow_pos _), ← B_split r h]
  exact hf

theorem shl_round (l la : List Nat) (i p r f o : Nat) (hk : i + p + 1 < l.length) (hr : r ≤ 64) (hf : la.getD i 0 = f) (ho : l.getD (i + p) 0 = o) (hz : l.getD (i + p + 1) 0 = 0)
    (hinv : val l = val (la.take i) * 2 ^ r * B ^ p) :
    val ((l.set (i + p) (o + f * 2 ^ r % B)).set (i + p + 1) (f / 2 ^ (64 - r))) = val (la.take (i + 1)) * 2 ^ r * B ^ p := by
  have h1 := val_set l (i + p) (o + f * 2 ^ r % B) (by omega)
  have h2 := val_set (l.set (i + p) (o + f * 2 ^ r % B)) (i + p + 1) (f / 2 ^ (64 - r)) (by simpa using hk)
  rw [lgetD_set_ne _ _ _ _ (by omega), hz, Nat.mul_zero, Nat.add_zero] at h2
  rw [ho, Nat.mul_add] at h1
  have h3 : B ^ (i + p + 1) * (f / 2 ^ (64 - r)) + B ^ (i + p) * (f * 2 ^ r % B) = B ^ (i + p) * (f * 2 ^ r) := by
    rw [shr_eq f r hr, Nat.pow_succ, Nat.mul_assoc, ← Nat.mul_add, Nat.div_add_mod]
  have h4 : val (la.take (i + 1)) * 2 ^ r * B ^ p = val (la.take i) * 2 ^ r * B ^ p + B ^ (i + p) * (f * 2 ^ r) := by
    rw [val_take_getD, hf, Nat.add_mul, Nat.add_mul, Nat.pow_add]
    congr 1
    rw [Nat.mul_assoc (B ^ i) f, Nat.mul_assoc (B ^ i), Nat.mul_comm (f * 2 ^ r) (B ^ p), ← Nat.mul_assoc]
  rw [h4, h2]
  generalize B ^ (i + p + 1) * (f / 2 ^ (64 - r)) = a1 at *
  generalize B ^ (i + p) * (f * 2 ^ r % B) = a2 at *
  generalize B ^ (i + p) * (f * 2 ^ r) = a3 at *
  generalize B ^ (i + p) * o = a4 at *
  generalize val (la.take i) * 2 ^ r * B ^ p = a5 at *
  omega

theorem shl_done (x s p r : Nat) (h : s = 64 * p + r) : x * 2 ^ r * B ^ p = x * 2 ^ s := by
  rw [h, B_two, ← Nat.pow_mul, Nat.mul_assoc, ← Nat.pow_add]
  congr 2
  omega

/-- one round of shift: what the k-th word of the target gets -/
theorem shr_word (z z' r : Nat) (hr : r < 64) (hz : z < B) : z / 2 ^ r + z' * 2 ^ (64 - r) % B < B ∧
    (z / 2 ^ r + z' * 2 ^ (64 - r) % B) * 2 ^ r + z % 2 ^ r = z + B * (z' % 2 ^ r) := by
  have e : z' * 2 ^ (64 - r) % B = 2 ^ (64 - r) * (z' % 2 ^ r) := by
    have := shl_mod z' (64 - r) (by omega)
    rwa [show 64 - (64 - r) = r from by omega] at this
  have h1 : z / 2 ^ r < 2 ^ (64 - r) := by
    rw [Nat.div_lt_iff_lt_mul (Nat.two_pow_pos _), Nat.mul_comm, ← B_split r (by omega)]; exact hz
  have h2 : z' % 2 ^ r + 1 ≤ 2 ^ r := Nat.mod_lt _ (Nat.two_pow_pos _)
  have h3 := Nat.mul_le_mul_left (2 ^ (64 - r)) h2
  have h4 := B_split r (by omega)
  rw [Nat.mul_comm] at h4
  rw [← h4, Nat.mul_add, Nat.mul_one] at h3
  rw [e]
  refine ⟨by omega, ?_⟩
  have h5 : 2 ^ (64 - r) * (z' % 2 ^ r) * 2 ^ r = B * (z' % 2 ^ r) := by
    rw [h4, Nat.mul_assoc, Nat.mul_assoc, Nat.mul_comm (z' % 2 ^ r)]
  have h6 := Nat.div_add_mod z (2 ^ r)
  rw [Nat.add_mul, h5, Nat.mul_comm (z / 2 ^ r)]
  omega

theorem shr_round (l la : List Nat) (p k r t : Nat) (hk : k < l.length) (hr : r < 64) (hw : Wf la)
    (ht : t = la.getD (p + k) 0 / 2 ^ r + la.getD (p + k + 1) 0 * 2 ^ (64 - r) % B)
    (hinv : val (l.take k) * 2 ^ r + la.getD p 0 % 2 ^ r = val ((la.drop p).take k) + B ^ k * (la.getD (p + k) 0 % 2 ^ r)) :
    val ((l.set k t).take (k + 1)) * 2 ^ r + la.getD p 0 % 2 ^ r = val ((la.drop p).take (k + 1)) + B ^ (k + 1) * (la.getD (p + (k + 1)) 0 % 2 ^ r) := by
  have h1 := (shr_word (la.getD (p + k) 0) (la.getD (p + k + 1) 0) r hr (getD_lt hw _)).2
  rw [← ht] at h1
  have hd : (la.drop p).getD k 0 = la.getD (p + k) 0 := by simp [List.getD, List.getElem?_drop]
  rw [val_take_set l k t hk, val_take_getD, hd, Nat.add_mul, ← Nat.add_assoc p k 1]
  have h2 : B ^ k * t * 2 ^ r + B ^ k * (la.getD (p + k) 0 % 2 ^ r) = B ^ k * la.getD (p + k) 0 + B ^ (k + 1) * (la.getD (p + k + 1) 0 % 2 ^ r) := by
    rw [Nat.pow_succ, Nat.mul_assoc, Nat.mul_assoc, ← Nat.mul_add, ← Nat.mul_add, h1]
  generalize B ^ k * t * 2 ^ r = a1 at *
  generalize B ^ k * (la.getD (p + k) 0 % 2 ^ r) = a2 at *
  generalize B ^ k * la.getD (p + k) 0 = a3 at *
  generalize B ^ (k + 1) * (la.getD (p + k + 1) 0 % 2 ^ r) = a4 at *
  generalize val (l.take k) * 2 ^ r = a5 at *
  omega

theorem val_drop_div {l : List Nat} (hw : Wf l) (p : Nat) (hp : p ≤ l.length) : val (l.drop p) = val l / B ^ p := by
  have h := val_split l p hp
  have h2 := val_lt (hw.take p)
  rw [List.length_take, Nat.min_eq_left hp] at h2
  rw [h, Nat.add_mul_div_left _ _ (Nat.pow_pos B_pos), Nat.div_eq_of_lt h2, Nat.zero_add]

theorem shr_done (l la : List Nat) (x s p r m : Nat) (h : s = 64 * p + r) (hla : la = digs x) (hp : p ≤ la.length) (hm : m = la.length - p)
    (hinv : val (l.take m) * 2 ^ r + la.getD p 0 % 2 ^ r = val ((la.drop p).take m) + B ^ m * (la.getD (p + m) 0 % 2 ^ r)) : val (l.take m) = x / 2 ^ s := by
  subst hla
  rw [getD_out (l := digs x) (k := p + m) (by omega), Nat.zero_mod, Nat.mul_zero, Nat.add_zero, List.take_of_length_le (l := (digs x).drop p) (by rw [List.length_drop]; omega), val_drop_div (wf_digs x) p hp, val_digs] at hinv
  have e : x / 2 ^ s = x / B ^ p / 2 ^ r := by
    rw [Nat.div_div_eq_div_mul, h, B_two, ← Nat.pow_mul, ← Nat.pow_add]
  have hlt := Nat.mod_lt ((digs x).getD p 0) (Nat.two_pow_pos r)
  rw [e, ← hinv, Nat.mul_comm, Nat.mul_add_div (Nat.two_pow_pos r), Nat.div_eq_of_lt hlt, Nat.add_zero]

theorem shr_gone (x s p : Nat) (h : 64 * p ≤ s) (hp : (digs x).length ≤ p) : x / 2 ^ s = 0 := by
  rw [Nat.div_eq_zero_iff]
  right
  have h1 := lt_of_digs_length x
  have h2 : B ^ (digs x).length ≤ B ^ p := Nat.pow_le_pow_right B_pos hp
  have h3 : B ^ p ≤ 2 ^ s := by rw [B_two, ← Nat.pow_mul]; exact Nat.pow_le_pow_right (by omega) h
  omega

/-! ### how often 2 divides -/
def ntz (n : Nat) : Nat := if n = 0 then 0 else if n % 2 = 1 then 0 else ntz (n / 2) + 1
termination_by n
decreasing_by
  rename_i h _
  omega
theorem ntz_odd (m : Nat) : ntz (2 * m + 1) = 0 := by
  rw [ntz, if_neg (by omega), if_pos (by omega)]
theorem ntz_two {n : Nat} (h : 0 < n) : ntz (2 * n) = ntz n + 1 := by
  rw [ntz, if_neg (by omega), if_neg (by omega), Nat.mul_div_cancel_left _ (by omega)]
theorem ntz_pow (t m : Nat) : ntz (2 ^ t * (2 * m + 1)) = t := by
  induction t with
  | zero => rw [Nat.pow_zero, Nat.one_mul, ntz_odd]
  | succ t ih =>
    rw [Nat.pow_succ, Nat.mul_comm (2 ^ t) 2, Nat.mul_assoc, ntz_two (Nat.mul_pos (Nat.two_pow_pos _) (by omega)), ih]
theorem ntz_spec {n : Nat} (h : 0 < n) : ∃ m, n = 2 ^ ntz n * (2 * m + 1) := by
  induction n using Nat.strongRecOn with
  | ind n ih =>
    rcases Nat.mod_two_eq_zero_or_one n with h0 | h1
    · obtain ⟨m, hm⟩ := ih (n / 2) (by omega) (by omega)
      refine ⟨m, ?_⟩
      have e : n = 2 * (n / 2) := by omega
      have e2 : ntz n = ntz (n / 2) + 1 := by rw [e, ntz_two (by omega)]; congr 2; omega
      rw [e2, Nat.pow_succ, Nat.mul_comm (2 ^ _) 2, Nat.mul_assoc, ← hm]
      omega
    · refine ⟨n / 2, ?_⟩
      have e : ntz n = 0 := by rw [ntz, if_neg (by omega), if_pos h1]
      rw [e]
      omega

/-! ### the number of bits -/
def nbits (n : Nat) : Nat := if n = 0 then 0 else Nat.log2 n + 1
theorem nbits_eq {n k : Nat} (h1 : 2 ^ k ≤ n) (h2 : n < 2 ^ (k + 1)) : nbits n = k + 1 := by
  have hn : n ≠ 0 := by have := Nat.two_pow_pos k; omega
  rw [nbits, if_neg hn]
  congr 1
  have a := Nat.log2_self_le hn
  have b := Nat.lt_log2_self (n := n)
  have c : ¬ k + 1 ≤ n.log2 := fun hh => by have := Nat.pow_le_pow_right (n := 2) (by omega) hh; omega
  have d : ¬ n.log2 + 1 ≤ k := fun hh => by have := Nat.pow_le_pow_right (n := 2) (by omega) hh; omega
  omega
theorem lt_nbits (n : Nat) : n < 2 ^ nbits n := by
  by_cases h : n = 0
  · subst h; simp [nbits]
  · rw [nbits, if_neg h]; exact Nat.lt_log2_self
theorem nbits_le {n : Nat} (h : 0 < n) : 2 ^ (nbits n - 1) ≤ n := by
  rw [nbits, if_neg (by omega), Nat.add_sub_cancel]; exact Nat.log2_self_le (by omega)
theorem nbits_pos {n : Nat} (h : 0 < n) : 0 < nbits n := by rw [nbits, if_neg (by omega)]; omega

theorem val_zero_take {l : List Nat} : ∀ (i : Nat), (∀ j, j < i → l.getD j 0 = 0) → val (l.take i) = 0
  | 0, _ => by simp
  | i + 1, h => by rw [val_take_getD, val_zero_take i (fun j hj => h j (by omega)), h i (by omega), Nat.mul_zero]
theorem top_word {x : Nat} (hx : 0 < x) (i : Nat) (hi : i < (digs x).length) (hz : ∀ j, j < i → (digs x).getD j 0 = 0) (h0 : (digs x).getD i 0 = 0) : i + 1 < (digs x).length := by
  rcases Nat.lt_or_ge (i + 1) (digs x).length with h | h
  · exact h
  · exfalso
    have e := val_zero_take (l := digs x) (i + 1) (fun j hj => by
      rcases Nat.lt_or_ge j i with h1 | h1
      · exact hz j h1
      · obtain rfl : j = i := by omega
        exact h0)
    rw [List.take_of_length_le h, val_digs] at e
    omega
theorem val_at {x : Nat} (i : Nat) (hi : i < (digs x).length) : x = val ((digs x).take i) + B ^ i * ((digs x).getD i 0 + B * val ((digs x).drop (i + 1))) := by
  have h := val_split (digs x) i (by omega)
  rw [val_digs, List.drop_eq_getElem_cons hi, val_cons, ← getD_in hi] at h
  exact h
theorem ntz_words {x : Nat} (hx : 0 < x) (i : Nat) (hi : i < (digs x).length) (hz : ∀ j, j < i → (digs x).getD j 0 = 0) (z m c : Nat) (hg : (digs x).getD i 0 = z) (hm : z = 2 ^ c * (2 * m + 1)) (hc : c < 64) :
    ntz x = 64 * i + c := by
  have _ := hx
  have h := val_at i hi
  rw [val_zero_take i hz, Nat.zero_add, hg, hm] at h
  generalize val ((digs x).drop (i + 1)) = y at h
  have e : 2 ^ c * (2 * m + 1) + B * y = 2 ^ c * (2 * (m + 2 ^ (63 - c) * y) + 1) := by
    have hb : B = 2 ^ c * (2 * 2 ^ (63 - c)) := by
      rw [B_two, ← Nat.pow_succ', ← Nat.pow_add]
      congr 1
      omega
    rw [hb, Nat.mul_assoc, ← Nat.mul_add, Nat.mul_add 2 m, Nat.mul_assoc 2]
    congr 1
    omega
  rw [e, B_two, ← Nat.pow_mul, ← Nat.mul_assoc, ← Nat.pow_add] at h
  rw [h, ntz_pow]
theorem nbits_words {x : Nat} (hx : 0 < x) (i : Nat) (hi : i + 1 = (digs x).length) (z b : Nat) (hg : (digs x).getD i 0 = z) (hb : 1 ≤ b) (h1 : 2 ^ (b - 1) ≤ z) (h2 : z < 2 ^ b) :
    nbits x = 64 * i + b := by
  have _ := hx
  have h := val_at (x := x) i (by omega)
  rw [hg, List.drop_of_length_le (by omega), val_nil, Nat.mul_zero, Nat.add_zero] at h
  have h3 := val_lt ((wf_digs x).take i)
  rw [List.length_take, Nat.min_eq_left (by omega)] at h3
  generalize val ((digs x).take i) = y at *
  have h4 : B ^ i * z + B ^ i ≤ B ^ i * 2 ^ b := by
    have := Nat.mul_le_mul_left (B ^ i) h2
    rwa [Nat.mul_succ] at this
  have h5 := Nat.mul_le_mul_left (B ^ i) h1
  have e : B ^ i = 2 ^ (64 * i) := by rw [B_two, ← Nat.pow_mul]
  rw [e, ← Nat.pow_add] at h4 h5
  rw [e] at h h3
  rw [show 64 * i + b = 64 * i + b - 1 + 1 from by omega]
  apply nbits_eq
  · rw [show 64 * i + b - 1 = 64 * i + (b - 1) from by omega]; omega
  · rw [show 64 * i + b - 1 + 1 = 64 * i + b from by omega]; omega

end Go.Proofs.YthmiamppfncfoaaGreatDoor.Bn

/- Plain mathematics: the division of two words by one, half a word at a time (math/bits.Div64). -/
namespace Go.Proofs.YthmiamppfncfoaaGreatDoor.Bn
set_option maxRecDepth 100000

section
variable {h U u Y y1 y0 q r : Nat}
theorem half_lt (hu : u < h) (hUY : U < Y) : (U * h + u) / Y < h := by
  rw [Nat.div_lt_iff_lt_mul (by omega)]
  have : (U + 1) * h ≤ Y * h := Nat.mul_le_mul_right _ hUY
  rw [Nat.add_mul, Nat.one_mul] at this
  rw [Nat.mul_comm h Y]
  omega

theorem half_init (hu : u < h) (hY : Y = y1 * h + y0) (h1 : 0 < y1) : (U * h + u) / Y ≤ U / y1 := by
  rw [Nat.le_div_iff_mul_le h1]
  have h2 : (U * h + u) / Y * Y ≤ U * h + u := Nat.div_mul_le_self _ _
  generalize (U * h + u) / Y = t at *
  rw [hY, Nat.mul_add, ← Nat.mul_assoc] at h2
  generalize t * y1 = a at *
  have h3 : a * h < (U + 1) * h := by
    rw [Nat.add_mul, Nat.one_mul]
    generalize t * y0 = c at *
    omega
  have := Nat.lt_of_mul_lt_mul_right h3
  omega

/-- the test says 'too large': so is the guess -/
theorem half_step (hu : u < h) (hUY : U < Y) (hY : Y = y1 * h + y0) (hq : U = q * y1 + r) (hc : h ≤ q ∨ h * r + u < q * y0) : 1 ≤ q ∧ (U * h + u) / Y ≤ q - 1 := by
  have h1 : 1 ≤ q := by
    rcases hc with h' | h'
    · omega
    · rcases Nat.eq_zero_or_pos q with rfl | h''
      · simp at h'
      · exact h''
  refine ⟨h1, ?_⟩
  rcases hc with h' | h'
  · have := half_lt (U := U) hu hUY
    omega
  · have : (U * h + u) / Y < q := by
      rw [Nat.div_lt_iff_lt_mul (by omega), hY, hq, Nat.mul_add, Nat.add_mul, ← Nat.mul_assoc, Nat.mul_comm r h]
      omega
    omega

theorem half_stop (hY : Y = y1 * h + y0) (hq : U = q * y1 + r) (hY0 : 0 < Y) (ht : (U * h + u) / Y ≤ q) (hc : q * y0 ≤ h * r + u) : q = (U * h + u) / Y := by
  refine Nat.le_antisymm ?_ ht
  rw [Nat.le_div_iff_mul_le hY0, hY, hq, Nat.mul_add, Nat.add_mul, ← Nat.mul_assoc, Nat.mul_comm r h]
  omega

theorem half_break (hUY : U < Y) (hY : Y = y1 * h + y0) (h0 : y0 < h) (hq : U = q * y1 + r) (ht : (U * h + u) / Y ≤ q) (hr : h ≤ r) : q = (U * h + u) / Y := by
  have hlt : q < h := by
    rcases Nat.lt_or_ge q h with h' | h'
    · exact h'
    · exfalso
      have : h * y1 ≤ q * y1 := Nat.mul_le_mul_right _ h'
      rw [Nat.mul_comm h y1] at this
      omega
  refine half_stop hY hq (by omega) ht ?_
  have h2 : q * y0 ≤ h * r := Nat.mul_le_mul (by omega) (by omega)
  omega

theorem half_dec (hq : U = q * y1 + r) (h1 : 1 ≤ q) : U = (q - 1) * y1 + (r + y1) := by
  obtain ⟨p, rfl⟩ : ∃ p, q = p + 1 := ⟨q - 1, by omega⟩
  rw [Nat.add_sub_cancel]
  rw [Nat.add_mul] at hq
  omega

/-- the remainder, computed with words that wrap -/
theorem rest_wrap (T m : Nat) (hle : m ≤ T) (hlt : T - m < 18446744073709551616) : (((T % 18446744073709551616 : Nat) : Int) - ((m % 18446744073709551616 : Nat) : Int)) % 18446744073709551616 = ((T - m : Nat) : Int) := by
  omega
end

/-- the whole: two halves of the quotient -/
theorem div_two (g h hi lo y s Y u32 u10 u1 u0 q1 q0 U : Nat) (hg : g = h * h) (hY : Y = y * 2 ^ s) (hy : 0 < y) (hu : u32 * g + u10 = (hi * g + lo) * 2 ^ s) (h10 : u10 = u1 * h + u0)
    (hq1 : q1 = (u32 * h + u1) / Y) (hU : U = (u32 * h + u1) % Y) (hq0 : q0 = (U * h + u0) / Y) :
    q1 * h + q0 = (hi * g + lo) / y ∧ (U * h + u0) % Y / 2 ^ s = (hi * g + lo) % y := by
  have hp := Nat.two_pow_pos s
  have hYp : 0 < Y := by rw [hY]; exact Nat.mul_pos hy hp
  have e1 := Nat.div_add_mod (u32 * h + u1) Y
  rw [← hq1, ← hU] at e1
  have e2 := Nat.div_add_mod (U * h + u0) Y
  rw [← hq0] at e2
  have hr := Nat.mod_lt (U * h + u0) hYp
  generalize (U * h + u0) % Y = R at *
  have e3 : (hi * g + lo) * 2 ^ s = Y * (q1 * h + q0) + R := by
    rw [← hu, h10, Nat.mul_add, ← Nat.mul_assoc, hg, ← Nat.mul_assoc]
    have : Y * q1 * h + U * h = (u32 * h + u1) * h := by rw [← Nat.add_mul, e1]
    rw [Nat.add_mul] at this
    generalize u32 * h * h = a1 at *
    generalize Y * q1 * h = a2 at *
    generalize U * h = a3 at *
    generalize u1 * h = a4 at *
    generalize Y * q0 = a5 at *
    omega
  generalize hi * g + lo = N at *
  generalize q1 * h + q0 = Q at *
  -- N * 2^s = y * 2^s * Q + R, R < y * 2^s
  have e4 : R = 2 ^ s * (R / 2 ^ s) := by
    have hdvd : 2 ^ s ∣ R := by
      have h1 : 2 ^ s ∣ N * 2 ^ s := Nat.dvd_mul_left _ _
      rw [e3] at h1
      refine (Nat.dvd_add_right ?_).1 h1
      rw [hY, Nat.mul_assoc, Nat.mul_comm y, Nat.mul_assoc]
      exact Nat.dvd_mul_right _ _
    exact (Nat.mul_div_cancel' hdvd).symm
  generalize R / 2 ^ s = ρ at *
  have hρ : ρ < y := by
    rw [e4, hY, Nat.mul_comm y] at hr
    exact Nat.lt_of_mul_lt_mul_left hr
  have e5 : N = y * Q + ρ := by
    have : N * 2 ^ s = (y * Q + ρ) * 2 ^ s := by
      rw [e3, e4, hY, Nat.add_mul, Nat.mul_comm (2 ^ s) ρ, Nat.mul_assoc, Nat.mul_assoc, Nat.mul_comm (2 ^ s) Q]
    exact Nat.eq_of_mul_eq_mul_right hp this
  rw [e5]
  refine ⟨?_, ?_⟩
  · rw [Nat.mul_add_div hy, Nat.div_eq_of_lt hρ, Nat.add_zero]
  · rw [Nat.mul_add_mod, Nat.mod_eq_of_lt hρ]

/-- what the shift to the left makes of the two words -/
theorem norm_words (hi lo y s : Nat) (hs : s ≤ 63) (hlo : lo < 18446744073709551616) (hhy : hi < y) (hY : y * 2 ^ s < 18446744073709551616) :
    hi * 2 ^ s % B = hi * 2 ^ s ∧ hi * 2 ^ s + lo / 2 ^ (64 - s) < y * 2 ^ s ∧ lo / 2 ^ (64 - s) < 2 ^ s ∧
      (hi * 2 ^ s + lo / 2 ^ (64 - s)) * 18446744073709551616 + lo * 2 ^ s % B = (hi * 18446744073709551616 + lo) * 2 ^ s := by
  have h1 := shr_lt lo s (by omega) hlo
  have h2 : (hi + 1) * 2 ^ s ≤ y * 2 ^ s := Nat.mul_le_mul_right _ hhy
  rw [Nat.add_mul, Nat.one_mul] at h2
  have h4 : hi * 2 ^ s < 18446744073709551616 ∧ hi * 2 ^ s + lo / 2 ^ (64 - s) < y * 2 ^ s := by
    generalize lo / 2 ^ (64 - s) = l at *
    generalize hi * 2 ^ s = a at *
    generalize y * 2 ^ s = b at *
    generalize 2 ^ s = c at *
    omega
  refine ⟨Nat.mod_eq_of_lt h4.1, h4.2, h1, ?_⟩
  rw [shr_eq lo s (by omega), Nat.add_mul, Nat.add_mul, Nat.add_assoc]
  have h3 := Nat.div_add_mod (lo * 2 ^ s) B
  rw [Nat.mul_comm] at h3
  have e : B = 18446744073709551616 := rfl
  rw [← e] at *
  rw [h3, Nat.mul_assoc, Nat.mul_assoc, Nat.mul_comm B]

end Go.Proofs.YthmiamppfncfoaaGreatDoor.Bn

/- Plain mathematics: the estimate of a quotient's word (Knuth), and the step of a long division. -/
namespace Go.Proofs.YthmiamppfncfoaaGreatDoor.Bn

section
variable {b r2 r1 r0 d1 d0 q rest : Nat}
/-- the guess is too large: so the next one is not too small -/
theorem est_step (hq : r2 * b + r1 = q * d1 + rest) (hb : 0 < b) (ht : min (b - 1) (((r2 * b + r1) * b + r0) / (d1 * b + d0)) ≤ q) (hlt : rest * b + r0 < q * d0) :
    1 ≤ q ∧ min (b - 1) (((r2 * b + r1) * b + r0) / (d1 * b + d0)) ≤ q - 1 := by
  have _ := ht
  have h1 : 1 ≤ q := by
    rcases Nat.eq_zero_or_pos q with rfl | h
    · simp at hlt
    · exact h
  refine ⟨h1, Nat.le_trans (Nat.min_le_right _ _) ?_⟩
  have : ((r2 * b + r1) * b + r0) / (d1 * b + d0) < q := by
    rcases Nat.eq_zero_or_pos (d1 * b + d0) with h | h
    · have : d0 = 0 := by omega
      subst this
      simp at hlt
    · rw [Nat.div_lt_iff_lt_mul h, hq, Nat.mul_add, Nat.add_mul, ← Nat.mul_assoc]
      omega
  omega
theorem est_stop (hq : r2 * b + r1 = q * d1 + rest) (hb : 0 < b) (hd : 0 < d1) (hqb : q < b) (ht : min (b - 1) (((r2 * b + r1) * b + r0) / (d1 * b + d0)) ≤ q) (hle : q * d0 ≤ rest * b + r0) :
    q = min (b - 1) (((r2 * b + r1) * b + r0) / (d1 * b + d0)) := by
  refine Nat.le_antisymm (Nat.le_min.2 ⟨by omega, ?_⟩) ht
  have h0 : 0 < d1 * b + d0 := by have := Nat.mul_pos hd hb; omega
  rw [Nat.le_div_iff_mul_le h0, hq, Nat.mul_add, Nat.add_mul, ← Nat.mul_assoc]
  omega
theorem est_carry (hq : r2 * b + r1 = q * d1 + rest) (hb : 0 < b) (hd : 0 < d1) (hqb : q < b) (hd0 : d0 < b) (ht : min (b - 1) (((r2 * b + r1) * b + r0) / (d1 * b + d0)) ≤ q) (hr : b ≤ rest) :
    q = min (b - 1) (((r2 * b + r1) * b + r0) / (d1 * b + d0)) := by
  refine est_stop hq hb hd hqb ht ?_
  have h1 : q * d0 ≤ b * b := Nat.mul_le_mul (by omega) (by omega)
  have h2 : b * b ≤ rest * b := Nat.mul_le_mul_right _ hr
  omega
theorem est_dec (hq : r2 * b + r1 = q * d1 + rest) (h1 : 1 ≤ q) : r2 * b + r1 = (q - 1) * d1 + (rest + d1) := by
  obtain ⟨p, rfl⟩ : ∃ p, q = p + 1 := ⟨q - 1, by omega⟩
  rw [Nat.add_sub_cancel]
  rw [Nat.add_mul] at hq
  omega
theorem est_init_lt (hd : 0 < d1) (hr0 : r0 < b) (hq : q = (r2 * b + r1) / d1) : min (b - 1) (((r2 * b + r1) * b + r0) / (d1 * b + d0)) ≤ q := by
  refine Nat.le_trans (Nat.min_le_right _ _) ?_
  rw [hq]
  exact half_init hr0 rfl hd
end

/-- the estimate is the quotient, or one more -/
theorem est_good (b m R D N3 D2 lr ld q : Nat) (hR : R = N3 * m + lr) (hD : D = D2 * m + ld) (hlr : lr < m) (hld : ld < m) (hD2 : b ≤ D2) (hq : q = min (b - 1) (N3 / D2)) (hlt : R < D * b) (hb : 1 < b) :
    R / D ≤ q ∧ q ≤ R / D + 1 := by
  have hm : 0 < m := by omega
  have hD0 : 0 < D := by
    rw [hD]
    have := Nat.mul_pos (show 0 < D2 by omega) hm
    omega
  constructor
  · rw [hq]
    refine Nat.le_min.2 ⟨?_, ?_⟩
    · have : R / D < b := by rw [Nat.div_lt_iff_lt_mul hD0, Nat.mul_comm]; exact hlt
      omega
    · rw [Nat.le_div_iff_mul_le (by omega)]
      have h1 : R / D * D ≤ R := Nat.div_mul_le_self _ _
      generalize R / D = t at *
      rw [hD, hR, Nat.mul_add, ← Nat.mul_assoc] at h1
      have h2 : t * D2 * m < (N3 + 1) * m := by rw [Nat.add_mul, Nat.one_mul]; omega
      have := Nat.lt_of_mul_lt_mul_right h2
      omega
  · have h1 : q * D2 ≤ N3 := by
      have : q ≤ N3 / D2 := by rw [hq]; exact Nat.min_le_right _ _
      exact (Nat.le_div_iff_mul_le (by omega)).1 this
    have h2 : q ≤ b - 1 := by rw [hq]; exact Nat.min_le_left _ _
    rcases Nat.eq_zero_or_pos q with h0 | h0
    · rw [h0]; exact Nat.zero_le _
    have h3 : q - 1 ≤ R / D := by
      rw [Nat.le_div_iff_mul_le hD0]
      have h4 : q * ld ≤ D := by
        have h5 : q * ld ≤ b * m := Nat.mul_le_mul (by omega) (by omega)
        have h6 : b * m ≤ D2 * m := Nat.mul_le_mul_right _ hD2
        omega
      have h7 : q * D = q * D2 * m + q * ld := by rw [hD, Nat.mul_add, Nat.mul_assoc]
      have h8 : q * D2 * m ≤ N3 * m := Nat.mul_le_mul_right _ h1
      have h9 : (q - 1) * D + D = q * D := by
        obtain ⟨p, rfl⟩ : ∃ p, q = p + 1 := ⟨q - 1, by omega⟩
        rw [Nat.add_sub_cancel, Nat.add_mul, Nat.one_mul]
      omega
    generalize R / D = t at *
    clear hq
    omega

end Go.Proofs.YthmiamppfncfoaaGreatDoor.Bn
