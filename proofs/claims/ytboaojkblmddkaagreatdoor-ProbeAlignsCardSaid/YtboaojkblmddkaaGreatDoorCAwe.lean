/- Chapter 2's examples: the samples, their codes and clipped ranges. -/
import Derived.Test.YtboaojkblmddkaaGreatDoorCAw0
import Derived.Test.YtboaojkblmddkaaGreatDoorCTrn
import Derived.Test.YtboaojkblmddkaaGreatDoorCAw8
import Derived.Test.YtboaojkblmddkaaGreatDoorCAwc
import Derived.Test.YtboaojkblmddkaaGreatDoorCDre
import Derived.Deep.RegionHeld3
import Derived.Test.YtboaojkblmddkaaGreatDoorCCode
namespace Go.Proofs.YtboaojkblmddkaaGreatDoor
open Go.RowKit Bn
open Flt

theorem own_slice0 {w : World} {base size n : Nat} {e : TypeId} {v : Value} {xs : List Value} (h : w.ownsRow base e size v n xs) (hn : 0 < n) : ∃ g c, v = .slice (some ⟨g, 0, none⟩) n c ∧ Reads w w.heap.size size (some ⟨g, 0, none⟩) n xs := by
  rcases h.2 with ⟨rfl, rfl⟩ | ⟨g, cap, cur, rfl, hb, hg, hnc, hcm, hcs, htake⟩
  · omega
  · exact ⟨g, cap, rfl, Reads.of_own h⟩
theorem aw_fin : ∀ c : Nat, c < 256 → fin Ieee.single (nomF (-3) 128 c) = true := by decide +kernel
theorem aw_step : ∀ c : Nat, c < 255 → key Ieee.single (nomF (-3) 128 c) < key Ieee.single (nomF (-3) 128 (c + 1)) := by decide +kernel
theorem aw_mono (c : Nat) : ∀ n : Nat, n ≤ 255 → c < n → key Ieee.single (nomF (-3) 128 c) < key Ieee.single (nomF (-3) 128 n)
  | 0, _, h => absurd h (Nat.not_lt_zero _)
  | n + 1, hn, h => by
    have h1 := aw_step n (by omega)
    rcases Nat.lt_or_ge c n with hc | hc
    · exact Int.lt_trans (aw_mono c n (by omega) hc) h1
    · obtain rfl : c = n := by omega
      exact h1
theorem aw_dist (n c : Nat) (hn : n ≤ 255) (hc : c < n) : Op.floatEq .f32 (nomF (-3) 128 n) (nomF (-3) 128 c) = false := by
  have h := feq_key (aw_fin n (by omega)) (aw_fin c (by omega))
  have hm := aw_mono c n hn hc
  have h2 : decide (key Ieee.single (nomF (-3) 128 n) = key Ieee.single (nomF (-3) 128 c)) = false := by simpa using (show ¬ (key Ieee.single (nomF (-3) 128 n) = key Ieee.single (nomF (-3) 128 c)) from by omega)
  rw [h2] at h
  exact h
theorem aw_self (n : Nat) (hn : n ≤ 255) : Op.floatEq .f32 (nomF (-3) 128 n) (nomF (-3) 128 n) = true := by
  have h := feq_key (aw_fin n (by omega)) (aw_fin n (by omega))
  have h2 : decide (key Ieee.single (nomF (-3) 128 n) = key Ieee.single (nomF (-3) 128 n)) = true := by simp
  rw [h2] at h
  exact h
theorem aw_smp : [3246391296, 0, 1040187392, 1098776576, 1098776576] = [0, 128, 129, 255, 255].map (nomF (-3) 128) := by decide +kernel
theorem aw_smpfin : ∀ x ∈ [3246391296, 0, 1040187392, 1098776576, 1098776576], fin Ieee.single x = true := by decide +kernel
theorem aw_s20m (w : World) (hT : Tabs w) : Calls Tryz.prog 89 #[.agg #[.int .i64 8, .int .i64 (-3), .int .i64 128, .string { data := #[49] }, .string { data := #[48] }], .string { data := #[45, 50, 48] }] w fun e w' => e = .returned (.float .f32 3246391296) ∧ Below w.heap.size w w' := by
  refine sample_ok { data := #[45, 50, 48] } 8 0 (-3) 128 { data := #[49] } { data := #[48] } w hT aw_conv (by decide) 0 (-1) 3246391296 (by decide) ?_ ?_ (by decide) (by decide) (by decide) aw_nomlo
  · intro t ht
    have e : ({ data := #[45, 50, 48] } : ByteArray).data.toList = [45, 50, 48] := rfl
    rw [e, aw_n20m]
    omega
  · intro t h1 h2
    have e : ({ data := #[45, 50, 48] } : ByteArray).data.toList = [45, 50, 48] := rfl
    have e2 : (2 : Nat) ^ 8 = 256 := by decide
    rw [e, aw_n20m]
    exact aw_b20m t (by omega)
theorem aw_s0 (w : World) (hT : Tabs w) : Calls Tryz.prog 89 #[.agg #[.int .i64 8, .int .i64 (-3), .int .i64 128, .string { data := #[49] }, .string { data := #[48] }], .string { data := #[48] }] w fun e w' => e = .returned (.float .f32 0) ∧ Below w.heap.size w w' := by
  refine sample_ok { data := #[48] } 8 129 (-3) 128 { data := #[49] } { data := #[48] } w hT aw_conv (by decide) 128 0 0 (by decide) ?_ ?_ (by decide) (by decide) (by decide) aw_nom0
  · intro t ht
    have e : ({ data := #[48] } : ByteArray).data.toList = [48] := rfl
    rw [e, aw_n0]
    exact aw_l0 t ht
  · intro t h1 h2
    have e : ({ data := #[48] } : ByteArray).data.toList = [48] := rfl
    have e2 : (2 : Nat) ^ 8 = 256 := by decide
    rw [e, aw_n0]
    have h3 := aw_h0 (t - 129) (by omega)
    rw [show 129 + (t - 129) = t from by omega] at h3
    exact h3
theorem aw_s01 (w : World) (hT : Tabs w) : Calls Tryz.prog 89 #[.agg #[.int .i64 8, .int .i64 (-3), .int .i64 128, .string { data := #[49] }, .string { data := #[48] }], .string { data := #[49, 47, 49, 48] }] w fun e w' => e = .returned (.float .f32 1040187392) ∧ Below w.heap.size w w' := by
  refine sample_ok { data := #[49, 47, 49, 48] } 8 130 (-3) 128 { data := #[49] } { data := #[48] } w hT aw_conv (by decide) 129 0 1040187392 (by decide) ?_ ?_ (by decide) (by decide) (by decide) aw_nom1
  · intro t ht
    have e : ({ data := #[49, 47, 49, 48] } : ByteArray).data.toList = [49, 47, 49, 48] := rfl
    rw [e, aw_n01]
    exact aw_l01 t ht
  · intro t h1 h2
    have e : ({ data := #[49, 47, 49, 48] } : ByteArray).data.toList = [49, 47, 49, 48] := rfl
    have e2 : (2 : Nat) ^ 8 = 256 := by decide
    rw [e, aw_n01]
    have h3 := aw_h01 (t - 130) (by omega)
    rw [show 130 + (t - 130) = t from by omega] at h3
    exact h3
theorem aw_s20 (w : World) (hT : Tabs w) : Calls Tryz.prog 89 #[.agg #[.int .i64 8, .int .i64 (-3), .int .i64 128, .string { data := #[49] }, .string { data := #[48] }], .string { data := #[50, 48] }] w fun e w' => e = .returned (.float .f32 1098776576) ∧ Below w.heap.size w w' := by
  refine sample_ok { data := #[50, 48] } 8 257 (-3) 128 { data := #[49] } { data := #[48] } w hT aw_conv (by decide) 255 1 1098776576 (by decide) ?_ ?_ (by decide) (by decide) (by decide) aw_nomhi
  · intro t ht
    have e : ({ data := #[50, 48] } : ByteArray).data.toList = [50, 48] := rfl
    rw [e, aw_n20]
    exact aw_l20 t ht
  · intro t h1 h2
    have e : ({ data := #[50, 48] } : ByteArray).data.toList = [50, 48] := rfl
    have e2 : (2 : Nat) ^ 8 = 256 := by decide
    rw [e, aw_n20]
    omega
theorem aw_s30 (w : World) (hT : Tabs w) : Calls Tryz.prog 89 #[.agg #[.int .i64 8, .int .i64 (-3), .int .i64 128, .string { data := #[49] }, .string { data := #[48] }], .string { data := #[51, 48] }] w fun e w' => e = .returned (.float .f32 1098776576) ∧ Below w.heap.size w w' := by
  refine sample_ok { data := #[51, 48] } 8 257 (-3) 128 { data := #[49] } { data := #[48] } w hT aw_conv (by decide) 255 1 1098776576 (by decide) ?_ ?_ (by decide) (by decide) (by decide) aw_nomhi
  · intro t ht
    have e : ({ data := #[51, 48] } : ByteArray).data.toList = [51, 48] := rfl
    rw [e, aw_n30]
    exact aw_l30 t ht
  · intro t h1 h2
    have e : ({ data := #[51, 48] } : ByteArray).data.toList = [51, 48] := rfl
    have e2 : (2 : Nat) ^ 8 = 256 := by decide
    rw [e, aw_n30]
    omega

theorem aw_sampled (w : World) (hT : Tabs w) (g : Nat) (t : TypeId) (hg : g = w.heap.size) :
    Calls Tryz.prog 50 #[.agg #[.int .i64 8, .int .i64 (-3), .int .i64 128, .string { data := #[49] }, .string { data := #[48] }], .slice (some ⟨g, 0, none⟩) 5 5] (w.alloc (.cells #[.string { data := #[45, 50, 48] }, .string { data := #[48] }, .string { data := #[49, 47, 49, 48] }, .string { data := #[50, 48] }, .string { data := #[51, 48] }] t)) fun e w' =>
      ∃ b, e = .returned (.tuple #[.slice (some ⟨b, 0, none⟩) 5 5, .int .i64 0]) ∧ w.heap.size ≤ b ∧ Reads w' w'.heap.size 1 (some ⟨b, 0, none⟩) 5 ([3246391296, 0, 1040187392, 1098776576, 1098776576].map f32v) ∧ Below w.heap.size w w' := by
  subst hg
  have hb : Below w.heap.size w (w.alloc (.cells #[.string { data := #[45, 50, 48] }, .string { data := #[48] }, .string { data := #[49, 47, 49, 48] }, .string { data := #[50, 48] }, .string { data := #[51, 48] }] t)) := (Below.refl _ _).alloc (Nat.le_refl _) _
  refine (Sampled_ok 8 (-3) 128 { data := #[49] } { data := #[48] } (some ⟨w.heap.size, 0, none⟩) 5 5 [{ data := #[45, 50, 48] }, { data := #[48] }, { data := #[49, 47, 49, 48] }, { data := #[50, 48] }, { data := #[51, 48] }] [3246391296, 0, 1040187392, 1098776576, 1098776576] (w.alloc (.cells #[.string { data := #[45, 50, 48] }, .string { data := #[48] }, .string { data := #[49, 47, 49, 48] }, .string { data := #[50, 48] }, .string { data := #[51, 48] }] t)) (hT.later hb) aw_conv (Reads.lit w [.string { data := #[45, 50, 48] }, .string { data := #[48] }, .string { data := #[49, 47, 49, 48] }, .string { data := #[50, 48] }, .string { data := #[51, 48] }] t) (by decide) ?_ rfl ?_).mono ?_
  · intro s hs
    simp only [List.mem_cons, List.not_mem_nil, or_false] at hs
    rcases hs with rfl | rfl | rfl | rfl | rfl
    · exact ⟨by decide, aw_r20m⟩
    · exact ⟨by decide, aw_r0⟩
    · exact ⟨by decide, aw_r01⟩
    · exact ⟨by decide, aw_r20⟩
    · exact ⟨by decide, aw_r30⟩
  · intro i s y W hTW hs hy
    match i, hs, hy with
    | 0, hs, hy => cases hs; cases hy; exact aw_s20m W hTW
    | 1, hs, hy => cases hs; cases hy; exact aw_s0 W hTW
    | 2, hs, hy => cases hs; cases hy; exact aw_s01 W hTW
    | 3, hs, hy => cases hs; cases hy; exact aw_s20 W hTW
    | 4, hs, hy => cases hs; cases hy; exact aw_s30 W hTW
  · rintro e w' ⟨b, rfl, hbb, ho, hb'⟩
    exact ⟨b, rfl, Nat.le_trans hb.size hbb, Reads.of_own ho, hb.trans (hb'.mono hb.size)⟩

theorem aw_codes (w : World) (hT : Tabs w) (A : Option Addr) (h : Reads w w.heap.size 1 A 5 ([3246391296, 0, 1040187392, 1098776576, 1098776576].map f32v)) :
    Calls Tryz.prog 51 #[.agg #[.int .i64 8, .int .i64 (-3), .int .i64 128, .string { data := #[49] }, .string { data := #[48] }], .slice A 5 5] w fun e w' =>
      ∃ b, e = .returned (.tuple #[.slice (some ⟨b, 0, none⟩) 5 5, .int .i64 0]) ∧ w.heap.size ≤ b ∧ Reads w' w'.heap.size 1 (some ⟨b, 0, none⟩) 5 ([0, 128, 129, 255, 255].map natv) ∧ Below w.heap.size w w' := by
  refine (Codes_ok 8 (-3) 128 { data := #[49] } { data := #[48] } A 5 5 [3246391296, 0, 1040187392, 1098776576, 1098776576] [0, 128, 129, 255, 255] w hT aw_conv 255 (by decide) (fun n c => aw_dist n c) h (by decide) aw_smpfin rfl ?_).mono ?_
  · intro i y k hy hk
    have hk2 : k ≤ 255 := by
      have hm := List.mem_of_getElem? hk
      simp only [List.mem_cons, List.not_mem_nil, or_false] at hm
      omega
    rw [aw_smp, List.getElem?_map, hk] at hy
    obtain rfl : nomF (-3) 128 k = y := Option.some.inj hy
    exact ⟨hk2, aw_self k hk2, fun d hd => aw_dist k d hk2 hd⟩
  · rintro e w' ⟨b, rfl, hbb, ho, hb'⟩
    exact ⟨b, rfl, hbb, Reads.of_own ho, hb'⟩

set_option maxHeartbeats 2000000 in
set_option maxRecDepth 100000 in
theorem aw_clipped (w : World) (hT : Tabs w) (A : Option Addr) (h : Reads w w.heap.size 1 A 5 ([3246391296, 0, 1040187392, 1098776576, 1098776576].map f32v)) :
    Calls Tryz.prog 52 #[.agg #[.int .i64 8, .int .i64 (-3), .int .i64 128, .string { data := #[49] }, .string { data := #[48] }], .slice A 5 5] w fun e w' =>
      ∃ g c, e = .returned (.tuple #[.slice (some ⟨g, 0, none⟩) 2 c, .int .i64 0]) ∧ Reads w' w'.heap.size 2 (some ⟨g, 0, none⟩) 2 [.int .i64 0, .int .i64 1, .int .i64 3, .int .i64 5] ∧ Below w.heap.size w w' := by
  have hb0 : Below w.heap.size w (w.alloc (.cells #[.int .i64 8, .int .i64 (-3), .int .i64 128, .string { data := #[49] }, .string { data := #[48] }] 91)) := (Below.refl _ _).alloc (Nat.le_refl _) _
  have q0 : CBlk (w.alloc (.cells #[.int .i64 8, .int .i64 (-3), .int .i64 128, .string { data := #[49] }, .string { data := #[48] }] 91)) w.heap.size #[.int .i64 8, .int .i64 (-3), .int .i64 128, .string { data := #[49] }, .string { data := #[48] }] 91 := CBlk.new w _ _ _ rfl
  have x0 := q0.cell 0
  have x1 := q0.cell 1
  have x2 := q0.cell 2
  have x3 := q0.cell 3
  have x4 := q0.cell 4
  have HC := Lib.hid (aw_codes _ (hT.later hb0) A (h.later hb0))
  have hmf : ∀ (fn : Fn) (first cap : Array Value) (w : World), (Instr.makeFunc fn first cap).run Tryz.prog w = .ok (.func fn first cap) w := fun _ _ _ _ => rfl
  clear h
  go_enter Tryz.func52, Tryz.ntmps52
  go_wp2_with fail
  generalize w.alloc (.cells #[.int .i64 8, .int .i64 (-3), .int .i64 128, .string { data := #[49] }, .string { data := #[48] }] 91) = w1 at *
  refine HC.out.mono ?_
  rintro e w2 ⟨b, rfl, hbb, hr, hb2⟩
  have q2 := q0.below hb2 q0.lt
  have hB2 := hb0.trans (hb2.mono hb0.size)
  clear x0 x1 x2 x3 x4 HC
  have x0 := q2.cell 0
  have x1 := q2.cell 1
  have x2 := q2.cell 2
  have x3 := q2.cell 3
  have x4 := q2.cell 4
  have HR := Lib.hid (aw_ranges b 5 w2 hr)
  clear hr
  go_wp2_with fail
  refine HR.out.mono ?_
  rintro e w3 ⟨v, rfl, ho, hb3⟩
  have hB3 := hB2.trans (hb3.mono hB2.size)
  obtain ⟨g, c, rfl, hr⟩ := own_slice0 ho (by decide)
  clear x0 x1 x2 x3 x4 HR
  go_wp2_with fail
  go_ret2
  exact ⟨g, c, rfl, hr, hB3⟩

end Go.Proofs.YtboaojkblmddkaaGreatDoor

/- Contracts of package probe, chapter 2. -/
namespace Go.Proofs.YtboaojkblmddkaaGreatDoor
open Go.RowKit Bn
open Flt

set_option maxHeartbeats 2000000 in
set_option maxRecDepth 100000 in
theorem interval_ok (a : Nat) (st z c : Int) (g o : ByteArray) (x y : Nat) (l m : List UInt8) (w : World) (hT : Tabs w) (hc : 0 ≤ c ∧ c ≤ 4095) (hz : 0 ≤ z ∧ z ≤ 4095) (hst : -20 ≤ st ∧ st ≤ 4) (hx : nomW (2 * (c - z) - 1) (st - 1) = x) (hy : nomW (2 * (c + 1 - z) - 1) (st - 1) = y) (hl : exT x = l) (hm : exT y = m) :
    Calls Tryz.prog 102 #[.agg #[.int .i64 a, .int .i64 st, .int .i64 z, .string g, .string o], .int .i64 c] w fun e w' => e = .returned (.agg #[.string ⟨l.toArray⟩, .string ⟨m.toArray⟩]) ∧ Below w.heap.size w w' := by
  have hb0 : Below w.heap.size w ((w.alloc (.cells #[.int .i64 a, .int .i64 st, .int .i64 z, .string g, .string o] 91)).alloc (.cells #[.string { data := #[] }, .string { data := #[] }] 94)) := ((Below.refl _ _).alloc (Nat.le_refl _) _).alloc (by simp) _
  have q2 : CBlk ((w.alloc (.cells #[.int .i64 a, .int .i64 st, .int .i64 z, .string g, .string o] 91)).alloc (.cells #[.string { data := #[] }, .string { data := #[] }] 94)) w.heap.size #[.int .i64 a, .int .i64 st, .int .i64 z, .string g, .string o] 91 := (CBlk.new w _ _ _ rfl).below ((Below.refl _ _).alloc (Nat.le_refl _) _) (by simp)
  have s2 : CBlk ((w.alloc (.cells #[.int .i64 a, .int .i64 st, .int .i64 z, .string g, .string o] 91)).alloc (.cells #[.string { data := #[] }, .string { data := #[] }] 94)) (w.heap.size + 1) #[.string { data := #[] }, .string { data := #[] }] 94 := CBlk.new _ _ _ _ (by simp)
  have HN0 := Lib.hid (fun W => edge_any a st z c (.string g) (.string o) W (by omega) (by omega) (by omega) (by omega))
  have HNT := Lib.hid (fun W => edge_any a st z (c + 1) (.string g) (.string o) W (by omega) (by omega) (by omega) (by omega))
  have HSP := Lib.hid (fun W hT => spanOf_eq x y l m W hT hl hm)
  rw [hx] at HN0
  rw [hy] at HNT
  have hw : IntKind.i64.wrap (c + 1) = c + 1 := IntWalk.i64_in _ (by omega)
  have hnt : ∀ W, Calls Tryz.prog 122 #[.agg #[.int .i64 a, .int .i64 st, .int .i64 z, .string g, .string o], .int .i64 (IntKind.i64.wrap (c + 1))] W fun e w' => e = .returned (.float .f32 y) ∧ Below W.heap.size W w' := by rw [hw]; exact HNT.out
  clear HNT
  have HNT := Lib.hid hnt
  clear hnt hw
  generalize l.toArray = la at *
  generalize m.toArray = ma at *
  clear hz hc hl hm hx hy hst
  go_enter Tryz.func102, Tryz.ntmps102
  go_wp2_with fail
  generalize ((w.alloc (.cells #[.int .i64 a, .int .i64 st, .int .i64 z, .string g, .string o] 91)).alloc (.cells #[.string { data := #[] }, .string { data := #[] }] 94)) = w2 at *
  have hT2 := hT.later hb0
  go_region_held3 (fun w' => w'.cell? ⟨w.heap.size, 0, none⟩ = some (.int .i64 a) ∧ w'.cell? ⟨w.heap.size, 1, none⟩ = some (.int .i64 st) ∧ w'.cell? ⟨w.heap.size, 2, none⟩ = some (.int .i64 z) ∧ w'.cell? ⟨w.heap.size, 3, none⟩ = some (.string g) ∧ w'.cell? ⟨w.heap.size, 4, none⟩ = some (.string o))
    ((refine ⟨?_, ?_, ?_, ?_, ?_⟩ <;> first | exact q6.cell _ | exact q4.cell _ | exact q3.cell _ | exact q2.cell _ | exact (q6.far2 (Nat.succ_ne_self _) _ _).cell _))
    (first
      | (go_at_call 81; refine (HSP.out w4 hT4).mono ?_; rintro e w6 ⟨rfl, hb6⟩; have q6 := q4.below hb6 q4.lt; have s6 := s4.below hb6 s4.lt; have r0 := s6.cell 0; have r1 := s6.cell 1; have f0 := s6.frozen 0; have f1 := s6.frozen 1)
      | (go_at_call 122; refine (HNT.out w3).mono ?_; rintro e w4 ⟨rfl, hb4⟩; have q4 := q3.below hb4 q3.lt; have s4 := s3.below hb4 s3.lt; have hT4 := hT3.later hb4)
      | (go_at_call 122; refine (HN0.out w2.drew).mono ?_; rintro e w3 ⟨rfl, hb3'⟩; have hb3 : Below w2.heap.size w2 w3 := ⟨hb3'.os, hb3'.tape, hb3'.output, hb3'.size, hb3'.block⟩; clear hb3'; have q3 := q2.below hb3 q2.lt; have s3 := s2.below hb3 s2.lt; have hT3 := hT2.later hb3))
  have hB3 := hb0.trans (hb3.mono hb0.size)
  have hB4 := hB3.trans (hb4.mono hB3.size)
  have hB6 := hB4.trans (hb6.mono hB4.size)
  have hset := two_set hB6 (g := w.heap.size + 1) (by omega) (.string ⟨la⟩) (.string ⟨ma⟩)
  clear HN0 HNT HSP
  go_wp2_with fail
  refine bodyPost_ret (v := .agg #[.string ⟨la⟩, .string ⟨ma⟩]) (by simp [results, Tryz.results102, go_sem, r0, r1]) rfl ⟨rfl, hset⟩

end Go.Proofs.YtboaojkblmddkaaGreatDoor

/- Contracts of probe's trueVolts, calibrated, True of valid arguments. -/
namespace Go.Proofs.YtboaojkblmddkaaGreatDoor
open Go.RowKit Bn
open Flt

set_option maxHeartbeats 2000000 in
set_option maxRecDepth 100000 in
theorem trueVolts_eq (a st z : Int) (g o s : ByteArray) (p q r t u : Q) (l : List UInt8) (w : World) (hT : Tabs w) (hg : g.size ≤ 4294967296) (ho : o.size ≤ 4294967296) (hs : s.size ≤ 4294967296)
    (eg : readQ g.data.toList = p) (es : readQ s.data.toList = q) (eo : readQ o.data.toList = r) (et : lowQ (p.neg != q.neg) (p.top * q.top) (p.bot * q.bot) = t) (eu : plusQ t r = u) (el : writeT u = l) (ee : writeE u = 0)
    (hp : Sml p) (hq : Sml q) (hr : Sml r) (ht : Sml t) (hu : Sml u) :
    Calls Tryz.prog 103 #[.agg #[.int .i64 a, .int .i64 st, .int .i64 z, .string g, .string o], .string s] w fun e w' => e = .returned (.tuple #[.string ⟨l.toArray⟩, .int .i64 0]) ∧ Below w.heap.size w w' := by
  have hb0 : Below w.heap.size w (w.alloc (.cells #[.int .i64 a, .int .i64 st, .int .i64 z, .string g, .string o] 91)) := (Below.refl _ _).alloc (Nat.le_refl _) _
  have q0 : CBlk (w.alloc (.cells #[.int .i64 a, .int .i64 st, .int .i64 z, .string g, .string o] 91)) w.heap.size #[.int .i64 a, .int .i64 st, .int .i64 z, .string g, .string o] 91 := CBlk.new w _ _ _ rfl
  have HG := Lib.hid (fun W hT => pread_any g W hT hg)
  have HS := Lib.hid (fun W hT => pread_any s W hT hs)
  have HO := Lib.hid (fun W hT => pread_any o W hT ho)
  rw [eg] at HG
  rw [es] at HS
  rw [eo] at HO
  have HX := Lib.hid (fun v u W hT hv hu => dtimes_s p q v u W hT hv hu hp hq)
  rw [et] at HX
  have HP := Lib.hid (fun v u W hT hv hu => dplus_s t r v u W hT hv hu ht hr)
  rw [eu] at HP
  have HW := Lib.hid (fun v W hT hv => dwrite_s u v W hT hv hu)
  rw [el, ee] at HW
  clear eg es eo et eu el ee hp hq hr ht hu hg ho hs
  go_enter Tryz.func103, Tryz.ntmps103
  go_wp2_with fail
  generalize w.alloc (.cells #[.int .i64 a, .int .i64 st, .int .i64 z, .string g, .string o] 91) = w1 at *
  have hT1 := hT.later hb0
  go_region_held3 (fun w' => w'.cell? ⟨w.heap.size, 3, none⟩ = some (.string g) ∧ w'.cell? ⟨w.heap.size, 4, none⟩ = some (.string o))
    ((refine ⟨?_, ?_⟩ <;> first | exact q7.cell _ | exact q6.cell _ | exact q5.cell _ | exact q4.cell _ | exact q3.cell _ | exact q2.cell _ | exact q0.cell _))
    (first
      | (go_at_call 98; refine (HW.out v6 w6 hT6 hv6).mono ?_; rintro e w7 ⟨sr, rfl, hsr, hb7⟩; have q7 := q6.below hb7 q6.lt; have hT7 := hT6.later hb7)
      | (go_at_call 126; refine (HP.out v4 v5 w5 hT5 hv45 hv5).mono ?_; rintro e w6 ⟨v6, rfl, hv6, hb6⟩; have q6 := q5.below hb6 q5.lt; have hT6 := hT5.later hb6)
      | (go_at_call 93; refine (HO.out w4 hT4).mono ?_; rintro e w5 ⟨v5, rfl, hv5, hb5⟩; have q5 := q4.below hb5 q4.lt; have hT5 := hT4.later hb5; have hv45 := hv4.later hb5)
      | (go_at_call 99; refine (HX.out v2 v3 w3 hT3 hv23 hv3).mono ?_; rintro e w4 ⟨v4, rfl, hv4, hb4⟩; have q4 := q3.below hb4 q3.lt; have hT4 := hT3.later hb4)
      | (go_at_call 93; refine (HS.out w2 hT2).mono ?_; rintro e w3 ⟨v3, rfl, hv3, hb3⟩; have q3 := q2.below hb3 q2.lt; have hT3 := hT2.later hb3; have hv23 := hv2.later hb3)
      | (go_at_call 93; refine (HG.out w1.drew (hT1.later (Below.drew (Below.refl _ _)))).mono ?_; rintro e w2 ⟨v2, rfl, hv2, hb2'⟩; have hb2 : Below w1.heap.size w1 w2 := ⟨hb2'.os, hb2'.tape, hb2'.output, hb2'.size, hb2'.block⟩; clear hb2'; have q2 := q0.below hb2 q0.lt; have hT2 := hT1.later hb2))
  have hB2 := hb0.trans (hb2.mono hb0.size)
  have hB3 := hB2.trans (hb3.mono hB2.size)
  have hB4 := hB3.trans (hb4.mono hB3.size)
  have hB5 := hB4.trans (hb5.mono hB4.size)
  have hB6 := hB5.trans (hb6.mono hB5.size)
  have hB7 := hB6.trans (hb7.mono hB6.size)
  obtain rfl := ba_of hsr
  clear HG HS HO HX HP HW
  go_wp2_with fail
  go_ret2
  exact ⟨rfl, hB7⟩

set_option maxHeartbeats 2000000 in
set_option maxRecDepth 100000 in
theorem calibrated_any (a st z : Int) (g o g' o' : ByteArray) (w : World) :
    Calls Tryz.prog 100 #[.agg #[.int .i64 a, .int .i64 st, .int .i64 z, .string g, .string o], .string g', .string o'] w fun e w' => e = .returned (.agg #[.int .i64 a, .int .i64 st, .int .i64 z, .string g', .string o']) ∧ Below w.heap.size w w' := by
  go_enter Tryz.func100, Tryz.ntmps100
  go_wp2_with fail
  refine bodyPost_ret (v := .agg #[.int .i64 a, .int .i64 st, .int .i64 z, .string g', .string o']) (by simp [results, Tryz.results100, go_sem]) rfl ⟨rfl, ?_⟩
  exact (((Below.refl _ _).alloc (Nat.le_refl _) _).alloc (by simp) _).alloc (by simp; omega) _

end Go.Proofs.YtboaojkblmddkaaGreatDoor

/- A law for regions that draw their order: what is kept by each operation that may come next holds at the end, whatever the order was. -/
namespace Go.Proofs.YtboaojkblmddkaaGreatDoor
open Go.RowKit

theorem cnt_set : ∀ (l : List Bool) (i : Nat), l[i]? = some false → (l.set i true).countP (fun b => !b) + 1 = l.countP (fun b => !b)
  | [], _, h => by simp at h
  | b :: l, 0, h => by
    simp at h
    subst h
    simp
  | b :: l, i + 1, h => by
    have h2 := cnt_set l i (by simpa using h)
    rw [List.set_cons_succ, List.countP_cons, List.countP_cons]
    omega
theorem cnt_zero : ∀ (l : List Bool), l.countP (fun b => !b) = 0 → ∀ (i : Nat) (b : Bool), l[i]? = some b → b = true
  | [], _, i, b, h => by simp at h
  | c :: l, h0, i, b, h => by
    rw [List.countP_cons] at h0
    cases i with
    | zero =>
      simp at h
      subst h
      cases c
      · simp at h0
      · rfl
    | succ i => exact cnt_zero l (by omega) i b (by simpa using h)

theorem wpAny_inv {P : Program} {ops : Array Oper} {Q : Exit → Act → World → Prop} (Inv : Array Bool → Act → World → Prop)
    (hstep : ∀ (i : Nat) (o : Oper) (listed : Array Bool) (a : Act) (w : World), ops[i]? = some o → Inv listed a w → listed[i]? = some false →
      (∀ e ∈ o.after, Region.binds .any e = true → listed.getD e.on false = true) → wpOp P ops Q i (fun a' w' => Inv (listed.setIfInBounds i true) a' w') a w)
    (hdone : ∀ (listed : Array Bool) (a : Act) (w : World), Inv listed a w → Region.ready .any ops listed = [] → Q .normal a w) :
    ∀ (fuel : Nat) (listed : Array Bool) (a : Act) (w : World), listed.toList.countP (fun b => !b) ≤ fuel → Inv listed a w → wpAny P .any ops Q fuel listed a w := by
  have hun : ∀ (listed : Array Bool) (i : Nat), listed.getD i true = false → listed[i]? = some false := by
    intro listed i h
    rw [Array.getD_eq_getD_getElem?] at h
    cases hl : listed[i]? with
    | none => rw [hl] at h; cases h
    | some b => rw [hl] at h; simp at h; rw [h]
  intro fuel
  induction fuel with
  | zero =>
    intro listed a w hc hI
    have hr : Region.ready .any ops listed = [] := by
      cases hq : Region.ready .any ops listed with
      | nil => rfl
      | cons j l =>
        have hj : j ∈ Region.ready .any ops listed := by rw [hq]; exact List.mem_cons_self
        have h1 := hun listed j (mem_ready.1 hj).1
        have h2 := cnt_zero listed.toList (by omega) j false (by simpa using h1)
        cases h2
    exact ⟨hr, hdone listed a w hI hr⟩
  | succ fuel ih =>
    intro listed a w hc hI
    refine ⟨fun hr => hdone listed a w hI hr, fun i hi => ?_⟩
    obtain ⟨hu, o, ho, hall⟩ := mem_ready.1 hi
    have h1 := hun listed i hu
    refine wpOp_mono (fun a' w' h => ih _ a' w' ?_ h) (hstep i o listed a w ho hI h1 hall)
    have h3 := cnt_set listed.toList i (by simpa using h1)
    rw [Array.toList_setIfInBounds]
    omega

theorem all_listed {ops : Array Oper} {listed : Array Bool} (htop : ∀ (i : Nat) (o : Oper), ops[i]? = some o → ∀ e ∈ o.after, e.on < i) (hr : Region.ready .any ops listed = []) :
    ∀ (n i : Nat), i < n → i < ops.size → ∀ b, listed[i]? = some b → b = true := by
  intro n
  induction n with
  | zero => intro i h; omega
  | succ n ih =>
    intro i hi hs b hb
    cases b with
    | true => rfl
    | false =>
      exfalso
      have hlt : i < listed.size := (Array.getElem?_eq_some_iff.1 hb).1
      have hm : i ∈ Region.ready .any ops listed := by
        refine mem_ready.2 ⟨by rw [Array.getD_eq_getD_getElem?, hb]; rfl, ops[i], Array.getElem?_eq_getElem hs, fun e he _ => ?_⟩
        have h1 := htop i ops[i] (Array.getElem?_eq_getElem hs) e he
        have h2 : listed[e.on]? = some listed[e.on] := Array.getElem?_eq_getElem (by omega)
        have h3 := ih e.on (by omega) (by omega) _ h2
        rw [Array.getD_eq_getD_getElem?, h2, h3]
        rfl
      rw [hr] at hm
      cases hm
theorem top_of {ops : Array Oper} (h : (List.range ops.size).all (fun i => ((ops[i]?).map (fun o => o.after.toList.all (fun e => decide (e.on < i)))).getD true) = true) :
    ∀ (i : Nat) (o : Oper), ops[i]? = some o → ∀ e ∈ o.after, e.on < i := by
  intro i o ho e he
  have hi : i < ops.size := (Array.getElem?_eq_some_iff.1 ho).1
  have h1 := List.all_eq_true.1 h i (List.mem_range.2 hi)
  rw [ho] at h1
  have h2 := List.all_eq_true.1 h1 e (by simpa using he)
  simpa using h2

/-- the beginning -/
theorem wp_region_inv {P : Program} {id : Nat} {ops : Array Oper} {Q : Exit → Act → World → Prop} {a : Act} {w : World} (hm : P.follows .mixedOrders = true) (Inv : Array Bool → Act → World → Prop)
    (htop : (List.range ops.size).all (fun i => ((ops[i]?).map (fun o => o.after.toList.all (fun e => decide (e.on < i)))).getD true) = true)
    (h0 : Inv (Array.replicate ops.size false) a w.drew)
    (hstep : ∀ (i : Nat) (o : Oper) (listed : Array Bool) (a : Act) (w : World), ops[i]? = some o → Inv listed a w → listed[i]? = some false →
      (∀ e ∈ o.after, Region.binds .any e = true → listed.getD e.on false = true) → wpOp P ops Q i (fun a' w' => Inv (listed.setIfInBounds i true) a' w') a w)
    (hdone : ∀ (listed : Array Bool) (a : Act) (w : World), Inv listed a w → (∀ i b, i < ops.size → listed[i]? = some b → b = true) → Q .normal a w) :
    (Code.region id ops true).wp P Q a w := by
  refine wp_region_any hm (wpAny_inv Inv hstep (fun listed a w hI hr => hdone listed a w hI fun i b hi hb => all_listed (top_of htop) hr (i + 1) i (by omega) hi b hb) _ _ _ _ ?_ h0)
  rw [Array.toList_replicate]
  exact Nat.le_trans List.countP_le_length (by rw [List.length_replicate]; exact Nat.le_refl _)

/-- the step of one operation -/
theorem step_of {P : Program} {ops : Array Oper} {Q : Exit → Act → World → Prop} {Inv : Array Bool → Act → World → Prop} {i : Nat} {o : Oper} {listed : Array Bool} {a : Act} {w : World} (ho : ops[i]? = some o)
    (h : ∀ K' : Act → World → Prop, Hid (∀ a' w', Inv (listed.setIfInBounds i true) a' w' → K' a' w') → if Region.wanted o (yielded ops a.tmps) = true then Oper.wp P o a w K' Q else K' (a.put o.dst undef) w) :
    wpOp P ops Q i (fun a' w' => Inv (listed.setIfInBounds i true) a' w') a w := wpOp_step ho fun K' hK => h K' (Lib.hid hK)

end Go.Proofs.YtboaojkblmddkaaGreatDoor
