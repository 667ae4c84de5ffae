/- Contracts of strconv.ParseUint of at most nine decimal digits, and of package rational's parsed. -/
import Derived.Test.YtboaojkblmddkaaGreatDoorCDl
import Derived.Test.YtboaojkblmddkaaGreatDoorCStr1
import Derived.Test.YtboaojkblmddkaaGreatDoorCPux
import Derived.Shelf.Strconv.ParseUint10At
import Derived.Lib.AtoiErrMem
import Derived.Test.YtboaojkblmddkaaGreatDoorCCode
import Derived.Test.YtboaojkblmddkaaGreatDoorCText
import Derived.Deep.RegionHeld3
namespace Go.Proofs.YtboaojkblmddkaaGreatDoor
open Go.RowKit Dn

theorem parseUintM_digits : ∀ (l : List UInt8) (acc : Nat), digits l = true → acc * 10 ^ l.length + decVal l < 1000000000000000000 → Lib.parseUintM 18446744073709551615 acc l = .ok (acc * 10 ^ l.length + decVal l)
  | [], acc, _, _ => by simp [Lib.parseUintM, decVal]
  | c :: r, acc, hd, hlt => by
    have e : digits (c :: r) = (digB (c.toNat : Int) && digits r) := rfl
    rw [e, Bool.and_eq_true] at hd
    have h2 := hd.1
    unfold digB at h2
    simp only [Bool.and_eq_true, decide_eq_true_eq] at h2
    have hv : acc * 10 ^ (c :: r).length + decVal (c :: r) = (acc * 10 + (c.toNat - 48)) * 10 ^ r.length + decVal r := by
      rw [decVal_cons, List.length_cons, Nat.pow_succ, Nat.add_mul, Nat.mul_assoc, Nat.mul_comm 10 (10 ^ r.length)]
      omega
    rw [hv] at hlt ⊢
    have hp : 1 ≤ 10 ^ r.length := Nat.pow_pos (by omega)
    have hle : (acc * 10 + (c.toNat - 48)) * 1 ≤ (acc * 10 + (c.toNat - 48)) * 10 ^ r.length := Nat.mul_le_mul_left _ hp
    unfold Lib.parseUintM
    rw [if_pos (by omega), if_neg (by omega), if_neg (by omega)]
    exact parseUintM_digits r _ hd.2 hlt
theorem parseUintB_digits (l : List UInt8) (hd : digits l = true) (hne : l ≠ []) (hl : l.length ≤ 9) : Lib.parseUintB 64 l = .ok (decVal l) := by
  have h1 := decVal_lt l hd
  have h2 : 10 ^ l.length ≤ 10 ^ 9 := Nat.pow_le_pow_right (by omega) hl
  unfold Lib.parseUintB
  rw [if_neg hne, show (2 : Nat) ^ 64 - 1 = 18446744073709551615 from by decide]
  have h := parseUintM_digits l 0 hd (by rw [Nat.zero_mul, Nat.zero_add]; have : (10 : Nat) ^ 9 = 1000000000 := (by decide); omega)
  rwa [Nat.zero_mul, Nat.zero_add] at h

set_option maxHeartbeats 1000000 in
theorem parseUint_any (s : ByteArray) (w : World) (hd : digits s.data.toList = true) (h0 : 0 < s.size) (h9 : s.size ≤ 9) :
    Calls Tryz.prog 185 #[.string s, .int .i64 10, .int .i64 64] w fun e w' => e = .returned (.tuple #[.int .u64 ((decVal s.data.toList : Nat) : Int), .nilIface]) ∧ Below w.heap.size w w' := by
  have hs : s.data.toList.length = s.size := by simp
  have hp := parseUintB_digits s.data.toList hd (fun h => by rw [h] at hs; simp at hs; omega) (by omega)
  have hc := Any.internal_strconv_ParseUint_10_at64 Tryz.lays287 s (by omega) w
  rw [hp] at hc
  have HC : Hid (Calls Tryz.prog 204 #[.string s, .int .i64 10, .int .i64 64] w fun e w' => e = .returned (.tuple #[.int .u64 ((decVal s.data.toList : Nat) : Int), .nilIface]) ∧ Below w.heap.size w w') :=
    hc.mono fun e w' ⟨he, hw⟩ => ⟨he, by
      rcases hw with rfl | rfl
      · exact Below.refl _ _
      · exact Lib.bytesWorld_below _ _ _⟩
  clear hc hp
  generalize decVal s.data.toList = v at *
  go_enter Tryz.func185, Tryz.ntmps185
  go_wp2_with fail
  refine HC.out.mono ?_
  rintro e w1 ⟨rfl, hb⟩
  go_wp2
  go_ret2
  exact ⟨rfl, hb⟩

/-- the words of decimal digits, from the end -/
def chunkLo (L k : Nat) : Nat := L - 9 * k
theorem B_nine : B = 10 ^ 9 := by decide
theorem digits_sub (l : List UInt8) (h : digits l = true) (a b : Nat) : digits ((l.drop a).take b) = true := by
  unfold digits at *
  rw [List.all_eq_true] at *
  intro x hx
  exact h x (List.mem_of_mem_drop (List.mem_of_mem_take hx))
/-- one chunk more -/
theorem chunk_step (l : List UInt8) (ws : List Nat) (e d : Nat) (hd : d ≤ e) (he : e ≤ l.length) (hk : l.length - e = 9 * ws.length) (hv : val ws = decVal (l.drop e)) :
    val (ws ++ [decVal ((l.drop d).take (e - d))]) = decVal (l.drop d) := by
  have h1 : l.drop d = (l.drop d).take (e - d) ++ l.drop e := by
    have h := (List.take_append_drop (e - d) (l.drop d)).symm
    rw [List.drop_drop] at h
    rw [show d + (e - d) = e from by omega] at h
    exact h
  have h2 := decVal_append ((l.drop d).take (e - d)) (l.drop e)
  rw [← h1, List.length_drop, hk] at h2
  rw [val_append, val_single, hv, h2, B_nine, ← Nat.pow_mul, Nat.mul_comm (10 ^ (9 * ws.length))]
  omega
theorem ext_list (s : ByteArray) (d e : Nat) : (s.extract d e).data.toList = (s.data.toList.drop d).take (e - d) := by
  rw [ByteArray.data_extract, Array.toList_extract]
theorem own_belwD {w w' : World} {base size n : Nat} {e : TypeId} {v : Value} {xs : List Value} (h : w.ownsRow base e size v n xs) (hb : Below w.heap.size w w') : w'.ownsRow base e size v n xs :=
  h.kept (only_of_below hb none) (by cases v.ownBlock <;> simp)

set_option maxHeartbeats 2000000 in
set_option maxRecDepth 100000 in
theorem dparsed_any (s : ByteArray) (w : World) (hd : digits s.data.toList = true) (hs : s.size ≤ 1000000) :
    Calls Tryz.prog 146 #[.string s] w (RetD w (decVal s.data.toList)) := by
  obtain ⟨i0, hi0, hz0, hz1, hz2⟩ := info_parts info_u64
  have hsz : s.data.toList.length = s.size := by simp
  have HSZ := Lib.hid hsz
  have HD := Lib.hid hd
  clear hsz hd
  go_enter Tryz.func146, Tryz.ntmps146
  go_wp2
  go_loopg [3, 4] (s.size + 1) (fun q av ev W => ∃ (ws : List Nat) (E : Int), ev = .int .i64 E ∧ E = (s.size : Int) - 9 * (ws.length : Int) ∧ E ≤ (s.size : Int) ∧ -9 ≤ E ∧ W.ownsRow w.heap.size 199 1 av ws.length (ws.map u64v) ∧ Wf ws ∧ Hid (val ws = decVal (s.data.toList.drop E.toNat)) ∧ (E + 9).toNat ≤ q + 9 ∧ Below w.heap.size w W)
  case atStart => exact ⟨[], (s.size : Int), rfl, by simp, Int.le_refl _, by omega, ⟨rfl, .inl ⟨rfl, rfl⟩⟩, Wf.nil, by show val [] = _; rw [List.drop_of_length_le (by rw [HSZ.out]; omega)]; rfl, by omega, Below.refl _ _⟩
  case round =>
    obtain ⟨ws, E, rfl, hE, hE1, hE2, hown, hwf, hval, hq, hbel⟩ := hrel
    by_cases h0 : 0 < E
    · obtain ⟨e, rfl⟩ := Int.eq_ofNat_of_zero_le (Int.le_of_lt h0)
      have HE := Lib.hid hE
      clear hE
      obtain ⟨d, hdd⟩ : ∃ d, d = e - 9 := ⟨_, rfl⟩
      have ed : (max 0 ((e : Int) - 9)).toNat = d := by omega
      have he1 : e ≤ s.size := by omega
      have hde : d ≤ e := by omega
      have hd9 : e - d ≤ 9 := by omega
      have hd1 : 0 < e - d := by omega
      have hxl := ext_list s d e
      have hxs : (s.extract d e).size = e - d := by
        have h := congrArg List.length hxl
        simp only [List.length_take, List.length_drop, HSZ.out] at h
        have h2 : (s.extract d e).data.toList.length = (s.extract d e).size := Array.length_toList
        omega
      have hdg := digits_sub s.data.toList HD.out d (e - d)
      have hlt := decVal_lt _ hdg
      have hv1 := hval.out
      rw [show ((e : Int)).toNat = e from by omega] at hv1
      have hst := chunk_step s.data.toList ws e d hde (by rw [HSZ.out]; exact he1) (by rw [HSZ.out]; have := HE.out; omega) hv1
      have hpu := parseUint_any (s.extract d e) wr (by rw [hxl]; exact hdg) (by omega) (by omega)
      rw [hxl] at hpu
      have hlen : ((s.data.toList.drop d).take (e - d)).length ≤ 9 := by rw [List.length_take]; omega
      generalize decVal ((s.data.toList.drop d).take (e - d)) = v at *
      have hvB : v < B := by
        have h3 : 10 ^ ((s.data.toList.drop d).take (e - d)).length ≤ 10 ^ 9 := Nat.pow_le_pow_right (by omega) hlen
        rw [B_nine]; omega
      have HST := Lib.hid hst
      have HPU := Lib.hid hpu
      have HDD := Lib.hid hdd
      have hED := Lib.hid ed
      have hws : ws.length ≤ 1000000 := by have := HE.out; omega
      clear hxl hxs hdg hlt hv1 hst hpu hlen hdd ed
      go_wp2_with fail
      rw [hED.out]
      refine HPU.out.mono ?_
      rintro e9 w1 ⟨rfl, hb1⟩
      have hown1 := own_belwD hown hb1
      have hb02 := hbel.trans (hb1.mono hbel.size)
      have hsz1 := hb02.size
      clear hown hb1 hbel
      go_wp2_with (at_builtin; refine wpList_append_own _ rfl _ _ 151 rfl w.heap.size 199 i0 (.int .u64 0) 1 8 Tryz.underlying151 hi0 hz0 hz1 hz2 rfl (by decide) _ _ _ rfl (hown1.alloc _) ⟨w1.heap.size, 0, none⟩ 1 1 [.int .u64 (v : Int)] rfl rfl ?c0 ?c1 ?c2 ?c3 ?c4 ?_)
      case c0 => exact cell_one_new _ _ _
      case c1 => intro u hu; simp at hu; subst hu; rfl
      case c2 => unfold maxLen; omega
      case c3 => omega
      case c4 => simp; omega
      intro v2 w4 hown2 hgrow2 _
      have hb34 : Below w1.heap.size w1 (w1.alloc (.cells #[.int .u64 (v : Int)] 199)) := (Below.refl _ _).alloc (Nat.le_refl _) _
      have hb4 : Below w.heap.size w w4 := (hb02.trans (hb34.mono hsz1)).grown hgrow2 (by simp; omega) (fun g hg => (World.ownsRow.lt hown1 g hg).1)
      have hlen2 : (ws ++ [v]).length = ws.length + 1 := by simp
      have hown3 : w4.ownsRow w.heap.size 199 1 v2 (ws ++ [v]).length ((ws ++ [v]).map u64v) := by rw [hlen2, List.map_append]; exact hown2
      have hwf3 : Wf (ws ++ [v]) := hwf.append (Wf.cons hvB Wf.nil)
      have HL2 := Lib.hid hlen2
      clear hgrow2 hown2 hown1 hlen2 hval
      go_wp2
      go_roundg (e - 9)
      case measure => omega
      case rel => exact ⟨ws ++ [v], (e : Int) - 9, rfl, by have := HE.out; rw [HL2.out]; omega, by omega, by omega, hown3, hwf3, by show val (ws ++ [v]) = _; rw [HST.out, HDD.out, show ((e : Int) - 9).toNat = e - 9 from by omega], by omega, hb4⟩
    · obtain ⟨A, c, rfl, hc1, hc2, hr⟩ := own_slice hown
      have hv : val ws = decVal s.data.toList := by rw [hval.out, show E.toNat = 0 from by omega]; rfl
      have ht := dtrimmed_nat A ws.length c ws wr hr hwf hc1 hc2
      rw [hv] at ht
      have HT := Lib.hid ht
      clear ht hv hE
      go_wp2_with fail
      refine HT.out.mono ?_
      rintro e w1 ⟨m, rfl, hn1, hw1⟩
      obtain rfl : wr = w1 := hw1
      go_wp2
      go_ret
      exact ⟨_, m, _, rfl, hn1, hbel⟩
end Go.Proofs.YtboaojkblmddkaaGreatDoor

/- Contract of package rational's text: the decimal digits of a natural number. -/
namespace Go.Proofs.YtboaojkblmddkaaGreatDoor
open Go.RowKit Dn

theorem B_dec : B = 10 ^ 9 := by decide
theorem ddec_step (x q : Nat) (h : 0 < x / B ^ (q + 1)) : Lib.decDigits (x / B ^ q) = Lib.decDigits (x / B ^ (q + 1)) ++ Dec.pad 9 (x / B ^ q % B) := by
  have h1 := div_pow x q
  rw [digs_getD] at h1
  have h2 : x / B ^ q % B < 10 ^ 9 := by rw [← B_dec]; exact Nat.mod_lt _ B_pos
  have h3 := Dec.dec_append 9 (x / B ^ (q + 1)) (x / B ^ q % B) h h2
  rw [← B_dec, show x / B ^ (q + 1) * B + x / B ^ q % B = x / B ^ q by rw [Nat.mul_comm]; omega] at h3
  exact h3
theorem ddec_one {r : Nat} (h : r < B) : Lib.decDigits (1000000000 + r) = 49 :: Dec.pad 9 r := by
  have h1 := Dec.dec_append 9 1 r (by omega) (by rw [← B_dec]; exact h)
  rw [show 1 * 10 ^ 9 + r = 1000000000 + r by omega, Dec.dec_lt (show (1 : Nat) < 10 by omega)] at h1
  exact h1
theorem ddec_len {x n : Nat} (hn : 0 < n) (h : x < B ^ n) (j : Nat) : (Lib.decDigits (x / B ^ j)).length ≤ 9 * n := by
  refine Dec.dec_length_le (by omega) (Nat.lt_of_le_of_lt (Nat.div_le_self _ _) ?_)
  rwa [B_dec, ← Nat.pow_mul] at h

set_option maxHeartbeats 4000000 in
set_option maxRecDepth 100000 in
theorem dtext_any (A : Option Addr) (n c x : Nat) (w : World) (hT : Tabs w) (ha : NatD w w.heap.size A n c x) (hn : n ≤ 1073741824) :
    Calls Tryz.prog 130 #[.slice A n c] w fun e w' => e = .returned (.string ⟨(Lib.decDigits x).toArray⟩) ∧ Below w.heap.size w w' := by
  by_cases hx : x = 0
  · subst hx
    have hz := disZero_val A n c 0 w ha
    have hd : Hid ((⟨(Lib.decDigits 0).toArray⟩ : ByteArray) = ⟨#[48]⟩) := by unfold Hid; rw [Dec.dec_lt (by omega)]; rfl
    go_enter Tryz.func130, Tryz.ntmps130
    go_wp2_with fail
    refine hz.mono ?_
    rintro e w1 ⟨rfl, rfl⟩
    go_wp2
    go_ret
    exact ⟨by rw [hd.out]; rfl, Below.refl _ _⟩
  · have hz := disZero_val A n c x w ha
    have hd : decide (x = 0) = false := by simpa using hx
    rw [hd] at hz
    have hx0 : 0 < x := by omega
    have hlen := ha.len
    have hn0 : 0 < n := by have := digs_length_pos hx0; omega
    have hxB : x < B ^ n := by have := lt_of_digs_length x; rwa [hlen] at this
    have hpn := pow_le_of_digs_length hx0
    rw [hlen] at hpn
    have hpos : ∀ j, j ≤ n - 1 → 0 < x / B ^ j := fun j hj => Nat.div_pos (Nat.le_trans (Nat.pow_le_pow_right B_pos hj) hpn) (Nat.pow_pos B_pos)
    have htop : x / B ^ (n - 1) < B := Nat.div_lt_of_lt_mul (by rw [← Nat.pow_succ, show (n - 1).succ = n from by omega]; exact hxB)
    have htg : (digs x).getD (n - 1) 0 = x / B ^ (n - 1) := by rw [digs_getD, Nat.mod_eq_of_lt htop]
    obtain ⟨ad, rfl, hba, hca⟩ := ha.words.word (k := n - 1) (by omega)
    rw [htg] at hca
    have hdl := ddec_len hn0 hxB
    have HPOS := Lib.hid hpos
    have HDL := Lib.hid hdl
    have hl0 := hdl (n - 1)
    obtain ⟨tw, htw⟩ : ∃ tw, tw = x / B ^ (n - 1) := ⟨_, rfl⟩
    rw [← htw] at hca htop hl0
    have HTW := Lib.hid htw
    have htop2 : tw < 18446744073709551616 := by unfold B at htop; omega
    have e1 : ((n : Int) - 1) = ((n - 1 : Nat) : Int) := by omega
    have hb0 : Below w.heap.size w (w.alloc (.cells #[.pointer none, .slice none 0 0] 219)) := (Below.refl _ _).alloc (Nat.le_refl _) _
    have hbn := isBuilder_new w 219 5
    have hca2 := (hb0.cell (p := ad.add (n - 1)) (by rw [block_of_add]; exact hba)).trans hca
    clear hca
    obtain ⟨sd, hsd⟩ : ∃ sd : ByteArray, sd = ⟨(Lib.decDigits tw).toArray⟩ := ⟨_, rfl⟩
    have hsdl : sd.data.toList = Lib.decDigits tw := by rw [hsd]
    have hsds : sd.size ≤ 9 * n := by
      have : sd.data.toList.length = sd.size := Array.length_toList
      rw [hsdl] at this; omega
    have hf := formatUint_any tw htop2 _ (hT.later hb0)
    rw [← hsd] at hf
    have HF := Lib.hid hf
    have HSDL := Lib.hid hsdl
    clear hf hd hx hxB hpn hpos htop htg hdl hl0 htw hsd hsdl hlen
    go_enter Tryz.func130, Tryz.ntmps130
    go_wp2_with fail
    refine hz.mono ?_
    rintro e w1 ⟨rfl, rfl⟩
    clear hz
    go_wp2_with fail
    refine HF.out.mono ?_
    rintro e w1 ⟨rfl, hb1⟩
    have hbl1 := isBuilder_below hbn hb1
    have hB1 : Below w.heap.size w w1 := hb0.trans (hb1.mono hb0.size)
    clear hbn hb0 hb1 HF
    go_wp2_with fail
    refine (writeString_any w.heap.size w.heap.size _ sd w1 hbl1 (by rw [List.length_nil]; omega) hB1.size).mono ?_
    rintro e w2 ⟨rfl, hbl2, hb2⟩
    have hB2 := hB1.trans hb2
    have hbl3 : Lib.IsBuilder 219 5 w.heap.size w.heap.size (Lib.byteCells (Lib.decDigits (x / B ^ (n - 1)))) w2 := by
      have e2 : [] ++ Lib.strCells sd = Lib.byteCells (Lib.decDigits (x / B ^ (n - 1))) := by rw [← HTW.out, ← HSDL.out]; rfl
      rw [← e2]; exact .inr hbl2
    clear hbl1 hbl2 hB1 hb2
    go_wp2
    clear e1 hca2 hsds htop2
    go_loopg [5] n (fun G si wb => ∃ j : Nat, j ≤ n - 1 ∧ si = .int .i64 ((j : Int) - 1) ∧ j ≤ G ∧ Lib.IsBuilder 219 5 w.heap.size w.heap.size (Lib.byteCells (Lib.decDigits (x / B ^ j))) wb ∧ Below w.heap.size w wb)
    case atStart => exact ⟨n - 1, Nat.le_refl _, by first | rfl | go_num, by omega, hbl3, hB2⟩
    case round =>
      obtain ⟨j, hj, rfl, hG, hbl, hbel⟩ := hrel
      have hsz := hbel.size
      by_cases hj0 : 0 < j
      · obtain ⟨q, rfl⟩ : ∃ q, j = q + 1 := ⟨j - 1, by omega⟩
        have e2 : ((q + 1 : Nat) : Int) - 1 = (q : Int) := by omega
        rw [e2]
        obtain ⟨ad', ea, _, hcell⟩ := WordsAt.word (Reads.below ha.words hbel) (k := q) (by omega)
        injection ea with ea
        subst ea
        rw [digs_getD] at hcell
        have hst := ddec_step x q (HPOS.out (q + 1) hj)
        have hvB : x / B ^ q % B < B := Nat.mod_lt _ B_pos
        have hl0 := HDL.out (q + 1)
        generalize x / B ^ q % B = v at *
        have hone := ddec_one hvB
        have hv9 : v < 1000000000 := hvB
        obtain ⟨sd2, hsd2⟩ : ∃ sd2 : ByteArray, sd2 = ⟨(Lib.decDigits (1000000000 + v)).toArray⟩ := ⟨_, rfl⟩
        have hf := formatUint_any (1000000000 + v) (by omega) wr (hT.later hbel)
        rw [← hsd2] at hf
        have hsdl2 : sd2.data.toList = 49 :: Dec.pad 9 v := by rw [hsd2]; exact hone
        have hss2 : sd2.size = 10 := by
          have h : sd2.data.toList.length = sd2.size := Array.length_toList
          rw [hsdl2, List.length_cons, Dec.pad_length] at h
          omega
        have es : (1000000000 : Int) + (v : Int) = ((1000000000 + v : Nat) : Int) := by omega
        have hs1 : (1 : Int) ≤ (sd2.size : Int) := by omega
        have hxl := ext_list sd2 1 sd2.size
        rw [hsdl2, hss2] at hxl
        have hxl2 : (sd2.extract 1 sd2.size).data.toList = Dec.pad 9 v := by rw [hss2, hxl]; exact List.take_of_length_le (by rw [List.drop_succ_cons, List.drop_zero, Dec.pad_length]; omega)
        have hxs : (sd2.extract 1 sd2.size).size = 9 := by
          have h : (sd2.extract 1 sd2.size).data.toList.length = (sd2.extract 1 sd2.size).size := Array.length_toList
          rw [hxl2, Dec.pad_length] at h
          omega
        have HXL := Lib.hid hxl2
        have HXS := Lib.hid hxs
        clear hxl hxl2 hxs
        have HF := Lib.hid hf
        have HST := Lib.hid hst
        have HS2 := Lib.hid hsdl2
        have HSS := Lib.hid hss2
        clear hf hst hone hsd2 hsdl2 e2 hvB hss2 es
        go_wp2_with fail
        refine HF.out.mono ?_
        rintro e w3 ⟨rfl, hb3⟩
        have hbl4 := isBuilder_below hbl hb3
        have hB3 : Below w.heap.size w w3 := hbel.trans (hb3.mono hsz)
        go_wp2_with fail
        generalize sd2.extract 1 sd2.size = sx at *
        refine (writeString_any w.heap.size w.heap.size _ sx w3 hbl4 (by rw [Lib.byteCells_length, HXS.out]; omega) hB3.size).mono ?_
        rintro e w4 ⟨rfl, hbl5, hb5⟩
        have hbl6 : Lib.IsBuilder 219 5 w.heap.size w.heap.size (Lib.byteCells (Lib.decDigits (x / B ^ q))) w4 := by
          have e3 : Lib.byteCells (Lib.decDigits (x / B ^ (q + 1))) ++ Lib.strCells sx = Lib.byteCells (Lib.decDigits (x / B ^ q)) := by
            rw [HST.out, Lib.strCells_eq, HXL.out]
            simp [Lib.byteCells]
          rw [← e3]; exact .inr hbl5
        have hB5 := hB3.trans hb5
        clear hbl5 hbl4 hb5 hbl
        go_wp2
        go_roundg q
        case measure => omega
        case rel => exact ⟨q, by omega, rfl, Nat.le_refl _, hbl6, hB5⟩
      · obtain rfl : j = 0 := by omega
        rw [Nat.pow_zero, Nat.div_one] at hbl
        have hs := Tryz.Builder_String_any w.heap.size w.heap.size (Lib.decDigits x) wr hbl hsz
        have HS := Lib.hid hs
        clear hs
        go_wp2_with fail
        refine HS.out.mono ?_
        rintro e w9 ⟨rfl, hb9⟩
        go_wp2
        go_ret
        exact ⟨rfl, hbel.trans hb9⟩
end Go.Proofs.YtboaojkblmddkaaGreatDoor

/- Contract of package rational's Write: the text of a rational number. -/
namespace Go.Proofs.YtboaojkblmddkaaGreatDoor
open Go.RowKit Dn

theorem dec_is_one (b : Nat) : (Lib.decDigits b == [49]) = decide (b = 1) := by
  rw [Bool.eq_iff_iff]
  simp only [beq_iff_eq, decide_eq_true_eq]
  constructor
  · intro h
    rcases Nat.lt_or_ge b 10 with h1 | h1
    · rw [Dec.dec_lt h1] at h
      injection h with h
      have h2 : ∀ x < 10, Dec.dgt x = 49 → x = 1 := by decide
      exact h2 b h1 h
    · rw [Dec.dec_ge (by omega)] at h
      have h2 := congrArg List.length h
      rw [List.length_append] at h2
      have h3 := Dec.dec_length_pos (b / 10)
      simp only [List.length_cons, List.length_nil] at h2
      omega
  · rintro rfl
    rw [Dec.dec_lt (by omega)]
    rfl

set_option maxHeartbeats 4000000 in
set_option maxRecDepth 100000 in
theorem dwrite_any (q : Q) (A1 A2 : Option Addr) (n1 c1 n2 c2 : Nat) (w : World) (hT : Tabs w) (h1 : NatD w w.heap.size A1 n1 c1 q.top) (h2 : NatD w w.heap.size A2 n2 c2 q.bot) (k1 : n1 ≤ 268435456) (k2 : n2 ≤ 268435456) :
    Calls Tryz.prog 98 #[.agg #[.bool q.neg, .slice A1 n1 c1, .slice A2 n2 c2]] w (RetText w (writeT q) (writeE q)) := by
  obtain ⟨neg, top, bot⟩ := q
  dsimp only at h1 h2 ⊢
  have hb1 : Below w.heap.size w (w.alloc (.cells #[.bool neg, .slice A1 n1 c1, .slice A2 n2 c2] 153)) := (Below.refl _ _).alloc (Nat.le_refl _) _
  have hx1 : ResBlD (w.alloc (.cells #[.bool neg, .slice A1 n1 c1, .slice A2 n2 c2] 153)) w.heap.size neg (.slice A1 n1 c1) (.slice A2 n2 c2) := ResBlD.new w _ _ _
  have hz := disZero_val A2 n2 c2 bot _ (h2.later hb1)
  by_cases hb0 : bot = 0
  · have hE : writeE ⟨neg, top, bot⟩ = 6 := by unfold writeE; rw [if_pos hb0]
    have hW : writeT ⟨neg, top, bot⟩ = [] := by unfold writeT; rw [hE]; rfl
    have hd : decide (bot = 0) = true := by simpa using hb0
    rw [hE, hW]
    rw [hd] at hz
    clear hE hW hb0 hd
    go_enter Tryz.func98, Tryz.ntmps98
    go_wp2_with fail
    refine hz.mono ?_
    rintro e w1 ⟨rfl, rfl⟩
    go_wp2
    go_ret2
    exact ⟨⟨#[]⟩, rfl, rfl, hb1⟩
  · have hd : decide (bot = 0) = false := by simpa using hb0
    rw [hd] at hz
    have hT1 := hT.later hb1
    have ht1 := fun (W : World) (hb : Below (w.alloc (.cells #[.bool neg, .slice A1 n1 c1, .slice A2 n2 c2] 153)).heap.size (w.alloc (.cells #[.bool neg, .slice A1 n1 c1, .slice A2 n2 c2] 153)) W) => dtext_any A1 n1 c1 top W (hT1.later hb) ((h1.later hb1).later hb) (by omega)
    have ht2 := fun (W : World) (hb : Below (w.alloc (.cells #[.bool neg, .slice A1 n1 c1, .slice A2 n2 c2] 153)).heap.size (w.alloc (.cells #[.bool neg, .slice A1 n1 c1, .slice A2 n2 c2] 153)) W) => dtext_any A2 n2 c2 bot W (hT1.later hb) ((h2.later hb1).later hb) (by omega)
    obtain ⟨s1, hs1⟩ : ∃ s1 : ByteArray, s1 = ⟨(Lib.decDigits top).toArray⟩ := ⟨_, rfl⟩
    obtain ⟨s2, hs2⟩ : ∃ s2 : ByteArray, s2 = ⟨(Lib.decDigits bot).toArray⟩ := ⟨_, rfl⟩
    have e1 : s1.data.toList = Lib.decDigits top := by rw [hs1]
    have e2 : s2.data.toList = Lib.decDigits bot := by rw [hs2]
    simp only [← hs1] at ht1
    simp only [← hs2] at ht2
    have hE : Hid (writeE ⟨neg, top, bot⟩ = if 600 < s1.size ∨ 600 < s2.size then 4 else 0) := by
      unfold Hid writeE
      rw [if_neg hb0, ← e1, ← e2]; simp
    have hS : Hid (writeS ⟨neg, top, bot⟩ = (if neg then 45 :: s1.data.toList else s1.data.toList) ++ (if bot = 1 then [] else 47 :: s2.data.toList)) := by
      unfold Hid writeS; rw [← e1, ← e2]
    have hsz1 : s1.size < 8589934592 := by
      have h0 : s1.size = (Lib.decDigits top).length := by rw [← e1]; simp
      have h3 := Dec.dec_length_le (k := 20 * n1 + 1) (r := top) (by omega) (by
        have h4 := lt_of_digs_length top
        rw [h1.len] at h4
        refine Nat.lt_of_lt_of_le h4 ?_
        have h5 : B ≤ 10 ^ 20 := by rw [B_def]; exact Nat.le_of_lt (by decide)
        have h6 := Nat.pow_le_pow_left h5 n1
        rw [← Nat.pow_mul] at h6
        exact Nat.le_trans h6 (Nat.pow_le_pow_right (by omega) (by omega)))
      omega
    have hsz2 : s2.size < 8589934592 := by
      have h0 : s2.size = (Lib.decDigits bot).length := by rw [← e2]; simp
      have h3 := Dec.dec_length_le (k := 20 * n2 + 1) (r := bot) (by omega) (by
        have h4 := lt_of_digs_length bot
        rw [h2.len] at h4
        refine Nat.lt_of_lt_of_le h4 ?_
        have h5 : B ≤ 10 ^ 20 := by rw [B_def]; exact Nat.le_of_lt (by decide)
        have h6 := Nat.pow_le_pow_left h5 n2
        rw [← Nat.pow_mul] at h6
        exact Nat.le_trans h6 (Nat.pow_le_pow_right (by omega) (by omega)))
      omega
    have HO1 : Hid ((s2.toList == [49]) = decide (bot = 1)) := by
      show (s2.toList == [49]) = decide (bot = 1)
      rw [ByteArray.toList_eq, e2]
      exact dec_is_one bot
    have HT1 := Lib.hid ht1
    have HT2 := Lib.hid ht2
    have HS1 := Lib.hid hsz1
    have HS2 := Lib.hid hsz2
    have HE2 := Lib.hid e1
    clear ht1 ht2 hs1 hs2 e1 e2 hd hb0 hT1 hsz1 hsz2
    go_enter Tryz.func98, Tryz.ntmps98
    go_wp2_with fail
    refine hz.mono ?_
    rintro e w1 ⟨rfl, rfl⟩
    clear hz
    generalize (w.alloc (.cells #[.bool neg, .slice A1 n1 c1, .slice A2 n2 c2] 153)) = w3 at *
    obtain ⟨a0, a1, a2, _, _, _, al⟩ := hx1.cells
    go_wp2_with fail
    go_region_held3 (fun w' => w'.cell? ⟨w.heap.size, 0, none⟩ = some (.bool neg) ∧ w'.cell? ⟨w.heap.size, 1, none⟩ = some (.slice A1 n1 c1) ∧ w'.cell? ⟨w.heap.size, 2, none⟩ = some (.slice A2 n2 c2))
      (first | exact ⟨a0, a1, a2⟩ | exact ⟨((hb5.cell (p := ⟨w.heap.size, 0, none⟩) al).trans a0), ((hb5.cell (p := ⟨w.heap.size, 1, none⟩) al).trans a1), ((hb5.cell (p := ⟨w.heap.size, 2, none⟩) al).trans a2)⟩ | exact ⟨((hb6.cell (p := ⟨w.heap.size, 0, none⟩) (al6)).trans ((hb5.cell (p := ⟨w.heap.size, 0, none⟩) al).trans a0)), ((hb6.cell (p := ⟨w.heap.size, 1, none⟩) (al6)).trans ((hb5.cell (p := ⟨w.heap.size, 1, none⟩) al).trans a1)), ((hb6.cell (p := ⟨w.heap.size, 2, none⟩) (al6)).trans ((hb5.cell (p := ⟨w.heap.size, 2, none⟩) al).trans a2))⟩)
      (first
        | (go_at_call_of 130 (Value.slice A1 n1 c1); refine (HT1.out w3.drew (Below.drew (Below.refl _ _))).mono ?_; rintro e w4 ⟨rfl, hb5⟩; have al6 := Nat.lt_of_lt_of_le al hb5.size)
        | (go_at_call_of 130 (Value.slice A2 n2 c2); refine (HT2.out w4 (Below.trans (Below.drew (Below.refl _ _)) hb5)).mono ?_; rintro e w6 ⟨rfl, hb6⟩))
    have hB6 : Below w3.heap.size w3 w6 := (Below.trans (Below.drew (Below.refl _ _)) hb5).trans (hb6.mono (by have := hb5.size; exact this))
    have b0 := (hB6.cell (p := ⟨w.heap.size, 0, none⟩) al).trans a0
    have b2 := (hB6.cell (p := ⟨w.heap.size, 2, none⟩) al).trans a2
    have hBw := hb1.trans (hB6.mono hb1.size)
    clear a0 a1 a2 hb5 hb6 hx1
    by_cases hl : 600 < s1.size ∨ 600 < s2.size
    · have hmx : decide ((600 : Int) < max (s1.size : Int) (s2.size : Int)) = true := by simp only [decide_eq_true_eq]; omega
      have hE4 : writeE ⟨neg, top, bot⟩ = 4 := by rw [hE.out, if_pos hl]
      have hW : writeT ⟨neg, top, bot⟩ = [] := by unfold writeT; rw [hE4]; rfl
      have HE4 := Lib.hid hE4
      have HW := Lib.hid hW
      clear hE4 hW hl
      go_wp2
      go_ret2
      exact ⟨⟨#[]⟩, by rw [HE4.out]; rfl, by rw [HW.out], hBw⟩
    · have hmx : decide ((600 : Int) < max (s1.size : Int) (s2.size : Int)) = false := by simp only [decide_eq_false_iff_not]; omega
      have hE3 : writeE ⟨neg, top, bot⟩ = 0 := by rw [hE.out, if_neg hl]
      have hS2 : writeT ⟨neg, top, bot⟩ = (if neg then 45 :: s1.data.toList else s1.data.toList) ++ (if bot = 1 then [] else 47 :: s2.data.toList) := by
        unfold writeT; rw [if_pos hE3]; exact hS.out
      have HE3 := Lib.hid hE3
      have hz1 : s1.size ≤ 600 := by omega
      have hz2 : s2.size ≤ 600 := by omega
      clear hE3 hl
      by_cases h1 : bot = 1 <;> cases neg
      · have hq1 : (s2.toList == [49]) = true := by rw [HO1.out]; simpa using h1
        have hq2 : (s2.toList != [49]) = false := by unfold bne; rw [hq1]; rfl
        rw [if_neg (by simp), if_pos h1] at hS2
        have HW := Lib.hid hS2
        clear h1 hS2
        go_wp2
        go_ret2
        refine ⟨_, by rw [HE3.out]; rfl, ?_, hBw⟩
        rw [HW.out]
        simp
      · have hq1 : (s2.toList == [49]) = true := by rw [HO1.out]; simpa using h1
        have hq2 : (s2.toList != [49]) = false := by unfold bne; rw [hq1]; rfl
        rw [if_pos rfl, if_pos h1] at hS2
        have HW := Lib.hid hS2
        clear h1 hS2
        go_wp2
        go_ret2
        refine ⟨_, by rw [HE3.out]; rfl, ?_, hBw⟩
        rw [HW.out]
        simp
      · have hq1 : (s2.toList == [49]) = false := by rw [HO1.out]; simpa using h1
        have hq2 : (s2.toList != [49]) = true := by unfold bne; rw [hq1]; rfl
        rw [if_neg (by simp), if_neg h1] at hS2
        have HW := Lib.hid hS2
        clear h1 hS2
        go_wp2
        go_ret2
        refine ⟨_, by rw [HE3.out]; rfl, ?_, hBw⟩
        rw [HW.out]
        simp
      · have hq1 : (s2.toList == [49]) = false := by rw [HO1.out]; simpa using h1
        have hq2 : (s2.toList != [49]) = true := by unfold bne; rw [hq1]; rfl
        rw [if_pos rfl, if_neg h1] at hS2
        have HW := Lib.hid hS2
        clear h1 hS2
        go_wp2
        go_ret2
        refine ⟨_, by rw [HE3.out]; rfl, ?_, hBw⟩
        rw [HW.out]
        simp

end Go.Proofs.YtboaojkblmddkaaGreatDoor
