/- Contract of probe's Words, of valid lines. -/
import Derived.Test.YthmiamppfncfoaaGreatDoorCDig
import Derived.Laws.BitsAllLaws
namespace Go.Proofs.YthmiamppfncfoaaGreatDoor
open Go.RowKit

theorem info_u16 : (Tryz.prog.info? 63).map (fun i => (i.zero, i.size, i.bytes)) = some (some (.int .u16 0), 1, 2) := by kernel_rfl

theorem u16_mod (z : Int) : IntKind.u16.wrap z = z % 65536 := by
  first | rfl | (unfold IntKind.wrap; rfl) | (unfold IntKind.wrap IntKind.signed IntKind.bits; simp)
theorem or16 (x b : Nat) (hb : b < 16) (hx : x < 2 ^ b) : bits BinOp.or IntKind.u16 (x : Int) (IntKind.u16.wrap (2 ^ b)) = ((x + 2 ^ b : Nat) : Int) := by
  have h1 : 2 ^ b ≤ 2 ^ 15 := Nat.pow_le_pow_right (by omega) (by omega)
  have e15 : (2 : Nat) ^ 15 = 32768 := by decide
  have hc : (2 : Int) ^ b = ((2 ^ b : Nat) : Int) := by rw [Int.natCast_pow]; rfl
  have e1 : IntKind.u16.wrap ((2 : Int) ^ b) = ((2 ^ b : Nat) : Int) := by rw [hc, u16_mod]; omega
  have h2 := Nat.two_pow_add_eq_or_of_lt hx 1
  rw [Nat.mul_one] at h2
  rw [e1, u16_or_nat x _ (by omega) (by omega), Nat.or_comm, ← h2, Nat.add_comm]

set_option maxHeartbeats 4000000 in
set_option maxRecDepth 100000 in
theorem words_ok (A : Option Addr) (n c m : Nat) (rows : List (List Bool)) (w : World) (h : RowsR boolv w w.heap.size A n rows) (h0 : 1 ≤ n) (hn : n ≤ 16) (hm : ∀ r ∈ rows, r.length = m) (hm2 : m ≤ 4096) :
    Calls Tryz.prog 9 #[.slice A n c] w fun e w' => ∃ g, e = .returned (.tuple #[.slice (some ⟨g, 0, none⟩) m m, .int .i64 0]) ∧ w'.ownsRow w.heap.size 63 1 (.slice (some ⟨g, 0, none⟩) m m) m (((List.range m).map (wd rows)).map u16v) ∧ Below w.heap.size w w' := by
  obtain ⟨i0, hi0, hz0, hz1, hz2⟩ := info_parts info_u16
  have HCL := Lib.hid (checkLines_ok A n c m rows w h h0 hn hm hm2)
  have hrl := h.1
  have HM := Lib.hid hm
  have HRL := Lib.hid hrl
  clear hm hrl
  have hp0 : (0 : Int) < (n : Int) := by omega
  have hp1 : 0 < n := by omega
  go_enter Tryz.func9, Tryz.ntmps9
  go_wp2_with fail
  refine HCL.out.mono ?_
  rintro e w1 ⟨rfl, hb1⟩
  obtain ⟨ad, hr0, A0, c0, rfl, hb0, hc0, _, _, _⟩ := (h.later hb1).row (k := 0) hp1
  have hz : Addr.add ad 0 = ad := rfl
  rw [hz, HM.out rows[0] (List.getElem_mem hr0)] at hc0
  clear hz
  go_wp2_with (at_make; refine wpList_make_full _ rfl _ _ 39 rfl w1.heap.size 63 i0 (.int .u16 0) 1 Tryz.underlying39 hi0 hz0 hz1 _ _ _ _ m rfl rfl (by omega) (by omega) ?b2 ?b3 (Nat.le_refl _) ?_)
  case b2 => rw [hz2]; omega
  case b3 => unfold maxLen; omega
  intro w2 hown0 hgrow0
  rw [toList_madeCells_one] at hown0
  have hb2 : Below w1.heap.size w1 w2 := gnone hgrow0 (Nat.le_refl _)
  have hB2 : Below w.heap.size w w2 := hb1.trans (hb2.mono hb1.size)
  have hle := hb1.size
  have hown1 : w2.ownsRow w1.heap.size 63 1 (.slice (some ⟨w1.heap.size, 0, none⟩) m m) m ((wdRow rows m 0 0).map u16v) := by
    rw [wdRow_zero, List.map_replicate]
    simpa [u16v] using hown0
  clear hown0 hgrow0 hc0
  generalize w1.heap.size = G at *
  go_wp2
  go_loopg [21] n (fun q s W => ∃ b : Nat, b ≤ n ∧ s = .int .i64 b ∧ n - b ≤ q ∧ W.ownsRow G 63 1 (.slice (some ⟨G, 0, none⟩) m m) m ((wdRow rows m b 0).map u16v) ∧ Below w.heap.size w W)
  case atStart => exact ⟨0, Nat.zero_le _, rfl, by omega, hown1, hB2⟩
  case round =>
    obtain ⟨b, hb, rfl, hq, hown, hbel⟩ := hrel
    by_cases hbn : b < n
    · obtain ⟨ad', hbl, A', c', he, hbb, hcl, _, _, hrd⟩ := (h.below hbel).row hbn
      injection he with he
      subst he
      have hlen := HM.out rows[b] (List.getElem_mem hbl)
      rw [hlen] at hcl hrd
      have HLEN := Lib.hid hlen
      clear hlen
      go_wp2
      obtain ⟨wo, hwo⟩ : ∃ wo : World, wo = wr := ⟨_, rfl⟩
      subst hwo
      go_loopg [29] m (fun q s W => ∃ i : Nat, i ≤ m ∧ s = .int .i64 i ∧ m - i ≤ q ∧ W.ownsRow G 63 1 (.slice (some ⟨G, 0, none⟩) m m) m ((wdRow rows m b i).map u16v) ∧ Below w.heap.size w W ∧ Reads W w.heap.size 1 A' m (rows[b].map boolv))
      case atStart => exact ⟨0, Nat.zero_le _, rfl, by omega, hown, hbel, hrd⟩
      case round =>
        obtain ⟨i, hi, rfl, hq2, hown, hbel, hrd⟩ := hrel
        by_cases him : i < m
        · obtain ⟨ad2, hil, rfl, hb2', hcell⟩ := hrd.cellM him
          have hwt := wd_take rows b i hbl
          have hlt := wd_lt (rows.take b) i
          have hgd : rows[b].getD i false = rows[b][i] := by simp [List.getD, hil]
          rw [hgd] at hwt
          unfold boolv at hcell
          generalize rows[b][i] = x at *
          cases x
          · have hsk := wdRow_skip rows m b i him (by simpa using hwt)
            have HSK := Lib.hid hsk
            clear hsk hwt hlt hgd
            go_wp2
            go_roundg (m - (i + 1))
            case measure => omega
            case rel => exact ⟨i + 1, by omega, by go_num, Nat.le_refl _, by rw [← HSK.out]; exact hown, hbel, hrd⟩
          · have hcw := World.ownsRow.cellAt hown i (by omega)
            rw [List.getElem?_map, wdRow_at _ _ _ _ _ him, if_neg (Nat.lt_irrefl _)] at hcw
            have hfw := own_free hown i
            unfold u16v at hcw
            simp only [Option.map_some] at hcw
            have HV : Hid (bits BinOp.or IntKind.u16 ((wd (rows.take b) i : Nat) : Int) (IntKind.u16.wrap (2 ^ b)) = ((wd (rows.take (b + 1)) i : Nat) : Int)) := by
              rw [List.length_take, Nat.min_eq_left (by omega)] at hlt
              unfold Hid
              rw [or16 _ b (by omega) hlt, hwt, if_pos rfl]
            clear hwt hlt hgd
            go_wp2
            go_region
            go_wp2
            go_roundg (m - (i + 1))
            case measure => omega
            case rel =>
              refine ⟨i + 1, by omega, by go_num, Nat.le_refl _, ?_, ?_, ?_⟩
              · rw [HV.out]
                have h9 := own_set hown i (u16v (wd (rows.take (b + 1)) i))
                rw [← List.map_set, wdRow_set rows m b i _ him rfl] at h9
                exact h9
              · exact (hbel.setCell (p := ⟨G, i, none⟩) hle _).drew
              · exact hrd.setCell (p := ⟨G, i, none⟩) hle _
        · obtain rfl : i = m := by omega
          rw [wdRow_next] at hown
          go_wp2
          go_roundg (n - (b + 1))
          case measure => omega
          case rel => exact ⟨b + 1, by omega, by go_num, Nat.le_refl _, hown, hbel⟩
    · obtain rfl : b = n := by omega
      rw [wdRow_end rows m b HRL.out] at hown
      go_wp2
      go_ret2
      exact ⟨_, rfl, own_mono hown hle, hbel⟩

end Go.Proofs.YthmiamppfncfoaaGreatDoor
