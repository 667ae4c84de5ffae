/- ProbeSkews: the cuts. -/
import Derived.Test.YtboaojkblmddkaaGreatDoorSkCxAg4
import Derived.Test.YtboaojkblmddkaaGreatDoorCAwe
import Derived.BigQuiet
import Derived.Deep.LoopGhost
import Derived.Deep.RegionHeld3
import Derived.Test.YtboaojkblmddkaaGreatDoorCAwj
namespace Go.Proofs.YtboaojkblmddkaaGreatDoor
open Go.RowKit Bn
open Flt

theorem range_alloc2 (w : World) (t : TypeId) (Z : Array Value) : (w.alloc (.cells Z t)).rangeAt w.heap.size 0 Z.toList := by
  intro j v hj
  rw [cell_of_row _ w.heap.size _ Z t (0, 0) (heap_alloc_new w _), Nat.zero_add]
  simpa using hj
/-- a slice of a slice, where it begins at the end of the room, too -/
theorem wpList_slice_ad {P : Program} {ops : Array Oper} {rest : List Oper} {op : Oper} {a : Act} {w : World} {Q : Exit → Act → World → Prop} (hgd : op.guard = none) (ty : TypeId) (x lo hi : Operand) (ho : op.op = .slice ty x (some lo) (some hi) none)
    (A : Option Addr) (N c p q : Nat) (hx : a.eval x = .slice A N c) (hlo : a.eval lo = .int .i64 p) (hhi : a.eval hi = .int .i64 q) (hu : P.underlying ty = some (.slice (P.elem ty))) (hs : (sizeOf (P.elem ty)).run P w = .ok 1 w) (h1 : p ≤ q) (h2 : q ≤ c)
    (h : ∀ A2, A2 = (if c = p then A else A.map (·.add p)) → wpList P ops Q rest (a.put op.dst (.slice A2 (q - p) (c - p))) w) : wpList P ops Q (op :: rest) a w := by
  have hv : (Instr.sliceAt ty (.slice A N c) (some (.int .i64 p)) (some (.int .i64 q)) none).run P w = .ok (.slice (if c = p then A else A.map (·.add p)) (q - p) (c - p)) w := by
    rw [run_sliceAt_slice _ ty _ _ _ _ hu, run_slice_lh _ ty A N c hu .i64 .i64 p q (by omega) (by omega) (by omega), hs]
    simp [Result.andThen, sliced]
  refine wpList_plain hgd fun _ hK => ?_
  unfold Oper.wp execOp
  simp only [ho, hx, hlo, hhi, Option.map_some, Option.map_none, Sem.run_bind, Sem.run_pure, Result.andThen_ok, hv]
  exact hK _ _ (h _ rfl)

theorem cut_reads {W : World} {A A2 : Option Addr} {N c p q : Nat} {l : List Nat} (h : Reads W W.heap.size 1 A N (l.map f32v)) (hac : A = none → c = 0) (h1 : p ≤ q) (h2 : q ≤ N) (h3 : N ≤ c) (e : A2 = if c = p then A else A.map (·.add p)) :
    Reads W W.heap.size 1 A2 (q - p) (((l.drop p).take (q - p)).map f32v) ∧ (A2 = none → c - p = 0) := by
  have hl := h.lenM
  by_cases hc : c = p
  · rw [if_pos hc] at e
    refine ⟨⟨by rw [List.length_map, List.length_take, List.length_drop]; omega, fun h0 => absurd h0 (by omega)⟩, fun _ => by omega⟩
  · rw [if_neg hc] at e
    cases A with
    | none => exact absurd (hac rfl) (by omega)
    | some a0 =>
      subst e
      have hcut := (h.dropN (k := p) (by omega)).take (m := q - p) (by omega)
      rw [← List.map_drop, ← List.map_take] at hcut
      exact ⟨hcut, fun e => by cases e⟩

theorem info_fls3 : (Tryz.prog.info? 22).map (fun i => (i.zero, i.size, i.bytes)) = some (some (.slice none 0 0), 1, 24) := by kernel_rfl
theorem cutR_nat (l : List Nat) (p q : Nat) : cutR l ((p : Int), (q : Int)) = (l.drop p).take (q - p) := by
  unfold cutR
  rw [Int.toNat_natCast, show ((q : Int) - (p : Int)).toNat = q - p by omega]
theorem info_cut : (Tryz.prog.info? 87).map (·.size) = some 2 := by kernel_rfl

set_option maxHeartbeats 16000000 in
set_option maxRecDepth 100000 in
/-- the two appends of a round, in whatever order -/
theorem region12_ok {Q : Exit → Act → World → Prop} {a0 a1 a3 a4 a5 a6 a7 a10 a11 a12 a14 a15 a16 a17 a18 a19 a20 a21 a22 a23 a24 a25 a26 a27 a28 a29 a30 a31 a32 a33 a34 a35 a36 a37 a38 a39 a40 a41 a42 a43 a44 a45 a46 a47 a48 a49 a50 a51 a52 a53 a54 a55 a56 a57 a58 a59 a60 a61 a62 a63 a64 a65 a66 a67 a68 a69 a70 a71 a72 a73 a74 a75 a76 a77 a78 a79 a80 a81 u82 u83 u84 u85 u86 u87 u88 u89 u90 u91 u92 u93 u94 a95 a96 a97 a98 a99 a100 a101 a102 a103 a104 a105 a106 a107 a108 a109 a110 a111 a112 a113 a114 a115 a116 a117 a118 a119 a120 a121 a122 a123 a124 a125 a126 a127 a128 a129 a130 a131 a132 a133 a134 a135 a136 a137 a138 a139 a140 a141 a142 a143 a144 a145 a146 a147 a148 a149 a150 a151 a152 a153 a154 a155 a156 a157 a158 a159 a160 a161 a162 a163 a164 a165 a166 a167 a168 a169 a170 a171 a172 a173 a174 : Value} (w w5 : World) (g i p q' : Nat) (m : Int) (v7 u8 u9 : Value) (L8 L9 : List Value) (RS : List (List Nat))
    (hB0 : Below w.heap.size w w5) (q0 : CBlk w5 g #[.int .i64 p, .int .i64 q'] 87) (gr0 : Grow f32v 22 23 w5 w.heap.size v7 (i + 1) RS)
    (o80 : w5.ownsRow w.heap.size 3 1 u8 i L8) (o90 : w5.ownsRow w.heap.size 3 1 u9 i L9) (ap0 : u8.ownBlock = none ∨ u8.ownBlock ≠ u9.ownBlock) (hi6 : i + 1 ≤ 6) (hp : p ≤ 64) (hm1 : -100 ≤ m) (hm2 : m ≤ 100)
    (K : ∀ (y8 y9 : Value) (j8 j9 : Nat) (W : World), Below w.heap.size w W → CBlk W g #[.int .i64 p, .int .i64 q'] 87 → Grow f32v 22 23 W w.heap.size v7 (i + 1) RS →
      W.ownsRow w.heap.size 3 1 y8 (i + 1) (L8 ++ [.int .i64 (-(p : Int))]) → W.ownsRow w.heap.size 3 1 y9 (i + 1) (L9 ++ [.int .i64 (m - (p : Int))]) → (y8.ownBlock = none ∨ y8.ownBlock ≠ y9.ownBlock) → Q .normal { tmps := #[a0, a1, .int .i64 m, a3, a4, a5, a6, a7, y8, y9, a10, a11, a12, .pointer (some ⟨g, 0, none⟩), a14, a15, a16, a17, a18, a19, a20, a21, a22, a23, a24, a25, a26, a27, a28, a29, a30, a31, a32, a33, a34, a35, a36, a37, a38, a39, a40, a41, a42, a43, a44, a45, a46, a47, a48, a49, a50, a51, a52, a53, a54, a55, a56, a57, a58, a59, a60, a61, a62, a63, a64, a65, a66, a67, a68, a69, a70, a71, a72, a73, a74, a75, a76, a77, a78, a79, a80, a81, u8, .pointer (some ⟨g, 0, none⟩), .int .i64 p, .int .i64 (-(p : Int)), .slice (some ⟨j8, 0, none⟩) 1 1, y8, u9, .int .i64 m, .pointer (some ⟨g, 0, none⟩), .int .i64 p, .int .i64 (m - (p : Int)), .slice (some ⟨j9, 0, none⟩) 1 1, y9, a95, a96, a97, a98, a99, a100, a101, a102, a103, a104, a105, a106, a107, a108, a109, a110, a111, a112, a113, a114, a115, a116, a117, a118, a119, a120, a121, a122, a123, a124, a125, a126, a127, a128, a129, a130, a131, a132, a133, a134, a135, a136, a137, a138, a139, a140, a141, a142, a143, a144, a145, a146, a147, a148, a149, a150, a151, a152, a153, a154, a155, a156, a157, a158, a159, a160, a161, a162, a163, a164, a165, a166, a167, a168, a169, a170, a171, a172, a173, a174], defers := [] } W) :
    (Code.region 12 #[{ dst := some 82, op := Go.Op.move (Go.Operand.tmp 8), type := 34, pos := "law.go:444", after := #[], guard := none }, { dst := some 83, op := Go.Op.indexAddr 87 (Go.Operand.tmp 13) (Go.Operand.const (Go.Value.int Go.IntKind.i64 0)), type := 0, pos := "law.go:444", after := #[], guard := none }, { dst := some 84, op := Go.Op.load 3 (Go.Operand.tmp 83), type := 3, pos := "law.go:444", after := #[{ on := 1, ground := Go.Ground.data }], guard := none }, { dst := some 85, op := Go.Op.unOp Go.UnOp.neg 3 (Go.Operand.tmp 84), type := 3, pos := "law.go:444", after := #[{ on := 2, ground := Go.Ground.data }], guard := none }, { dst := some 86, op := Go.Op.buildSlice 34 1 #[(0, Go.Operand.tmp 85)], type := 34, pos := "law.go:444", after := #[{ on := 3, ground := Go.Ground.data }], guard := none }, { dst := some 87, op := Go.Op.call { callee := Go.Callee.builtin Go.Builtin.append, args := #[Go.Operand.tmp 82, Go.Operand.tmp 86], argTypes := #[34, 34] }, type := 34, pos := "law.go:444", after := #[{ on := 0, ground := Go.Ground.data }, { on := 4, ground := Go.Ground.data }], guard := none }, { dst := some 88, op := Go.Op.move (Go.Operand.tmp 9), type := 34, pos := "law.go:444", after := #[], guard := none }, { dst := some 89, op := Go.Op.move (Go.Operand.tmp 2), type := 3, pos := "law.go:444", after := #[], guard := none }, { dst := some 90, op := Go.Op.indexAddr 87 (Go.Operand.tmp 13) (Go.Operand.const (Go.Value.int Go.IntKind.i64 0)), type := 0, pos := "law.go:444", after := #[], guard := none }, { dst := some 91, op := Go.Op.load 3 (Go.Operand.tmp 90), type := 3, pos := "law.go:444", after := #[{ on := 8, ground := Go.Ground.data }], guard := none }, { dst := some 92, op := Go.Op.binOp Go.BinOp.sub 3 (Go.Operand.tmp 89) (Go.Operand.tmp 91) 3, type := 3, pos := "law.go:444", after := #[{ on := 7, ground := Go.Ground.data }, { on := 9, ground := Go.Ground.data }], guard := none }, { dst := some 93, op := Go.Op.buildSlice 34 1 #[(0, Go.Operand.tmp 92)], type := 34, pos := "law.go:444", after := #[{ on := 10, ground := Go.Ground.data }], guard := none }, { dst := some 94, op := Go.Op.call { callee := Go.Callee.builtin Go.Builtin.append, args := #[Go.Operand.tmp 88, Go.Operand.tmp 93], argTypes := #[34, 34] }, type := 34, pos := "law.go:444", after := #[{ on := 6, ground := Go.Ground.data }, { on := 11, ground := Go.Ground.data }, { on := 5, ground := Go.Ground.chain }], guard := none }, { dst := some 8, op := Go.Op.assign (Go.Operand.tmp 87), type := 34, pos := "law.go:444", after := #[{ on := 5, ground := Go.Ground.data }, { on := 12, ground := Go.Ground.chain }, { on := 0, ground := Go.Ground.phase }, { on := 1, ground := Go.Ground.phase }, { on := 2, ground := Go.Ground.phase }, { on := 3, ground := Go.Ground.phase }, { on := 4, ground := Go.Ground.phase }, { on := 5, ground := Go.Ground.phase }, { on := 6, ground := Go.Ground.textOnly Go.Departure.lateStores }, { on := 7, ground := Go.Ground.textOnly Go.Departure.lateStores }, { on := 8, ground := Go.Ground.textOnly Go.Departure.lateStores }, { on := 9, ground := Go.Ground.textOnly Go.Departure.lateStores }, { on := 10, ground := Go.Ground.textOnly Go.Departure.lateStores }, { on := 11, ground := Go.Ground.textOnly Go.Departure.lateStores }, { on := 12, ground := Go.Ground.textOnly Go.Departure.lateStoresUnsure }], guard := none }, { dst := some 9, op := Go.Op.assign (Go.Operand.tmp 94), type := 34, pos := "law.go:444", after := #[{ on := 12, ground := Go.Ground.data }, { on := 13, ground := Go.Ground.chain }, { on := 0, ground := Go.Ground.phase }, { on := 1, ground := Go.Ground.phase }, { on := 2, ground := Go.Ground.phase }, { on := 3, ground := Go.Ground.phase }, { on := 4, ground := Go.Ground.phase }, { on := 5, ground := Go.Ground.phase }, { on := 6, ground := Go.Ground.phase }, { on := 7, ground := Go.Ground.phase }, { on := 8, ground := Go.Ground.phase }, { on := 9, ground := Go.Ground.phase }, { on := 10, ground := Go.Ground.phase }, { on := 11, ground := Go.Ground.phase }, { on := 12, ground := Go.Ground.phase }, { on := 13, ground := Go.Ground.phase }], guard := none }] true).wp Tryz.prog Q { tmps := #[a0, a1, .int .i64 m, a3, a4, a5, a6, a7, u8, u9, a10, a11, a12, .pointer (some ⟨g, 0, none⟩), a14, a15, a16, a17, a18, a19, a20, a21, a22, a23, a24, a25, a26, a27, a28, a29, a30, a31, a32, a33, a34, a35, a36, a37, a38, a39, a40, a41, a42, a43, a44, a45, a46, a47, a48, a49, a50, a51, a52, a53, a54, a55, a56, a57, a58, a59, a60, a61, a62, a63, a64, a65, a66, a67, a68, a69, a70, a71, a72, a73, a74, a75, a76, a77, a78, a79, a80, a81, u82, u83, u84, u85, u86, u87, u88, u89, u90, u91, u92, u93, u94, a95, a96, a97, a98, a99, a100, a101, a102, a103, a104, a105, a106, a107, a108, a109, a110, a111, a112, a113, a114, a115, a116, a117, a118, a119, a120, a121, a122, a123, a124, a125, a126, a127, a128, a129, a130, a131, a132, a133, a134, a135, a136, a137, a138, a139, a140, a141, a142, a143, a144, a145, a146, a147, a148, a149, a150, a151, a152, a153, a154, a155, a156, a157, a158, a159, a160, a161, a162, a163, a164, a165, a166, a167, a168, a169, a170, a171, a172, a173, a174], defers := [] } w5 := by
  obtain ⟨i2, hi2, hv0, hv1, hv2⟩ := info_parts info_int
  obtain ⟨G, hG⟩ : ∃ G, G = w5.heap.size := ⟨_, rfl⟩
  have hw8 : IntKind.i64.wrap (-(p : Int)) = -(p : Int) := IntWalk.i64_in _ (by omega)
  have hw9 : IntKind.i64.wrap (m - (p : Int)) = m - (p : Int) := IntWalk.i64_in _ (by omega)
  have hdr : Below w5.heap.size w5 w5.drew := (Below.refl _ _).drew
  replace q0 := q0.below hdr q0.lt
  replace gr0 := gr0.below hdr
  replace o80 := own_belw o80 hdr
  replace o90 := own_belw o90 hdr
  replace hB0 := hB0.drew
  have HK := Lib.hid K
  clear K hdr
  obtain ⟨Inv, hInv⟩ : ∃ J : Array Bool → Act → World → Prop, J = (fun listed a W => ∃ (b0 b1 b2 b3 b4 b5 b6 b7 b8 b9 b10 b11 b12 b13 b14 : Bool) (u82 u83 u84 u85 u86 u87 u88 u89 u90 u91 u92 u93 u94 : Value) (y8 y9 s8 s9 : Value) (m8 m9 j8 j9 : Nat) (X8 X9 : List Value), listed = #[b0, b1, b2, b3, b4, b5, b6, b7, b8, b9, b10, b11, b12, b13, b14] ∧ a = { tmps := #[a0, a1, .int .i64 m, a3, a4, a5, a6, a7, s8, s9, a10, a11, a12, .pointer (some ⟨g, 0, none⟩), a14, a15, a16, a17, a18, a19, a20, a21, a22, a23, a24, a25, a26, a27, a28, a29, a30, a31, a32, a33, a34, a35, a36, a37, a38, a39, a40, a41, a42, a43, a44, a45, a46, a47, a48, a49, a50, a51, a52, a53, a54, a55, a56, a57, a58, a59, a60, a61, a62, a63, a64, a65, a66, a67, a68, a69, a70, a71, a72, a73, a74, a75, a76, a77, a78, a79, a80, a81, u82, u83, u84, u85, u86, u87, u88, u89, u90, u91, u92, u93, u94, a95, a96, a97, a98, a99, a100, a101, a102, a103, a104, a105, a106, a107, a108, a109, a110, a111, a112, a113, a114, a115, a116, a117, a118, a119, a120, a121, a122, a123, a124, a125, a126, a127, a128, a129, a130, a131, a132, a133, a134, a135, a136, a137, a138, a139, a140, a141, a142, a143, a144, a145, a146, a147, a148, a149, a150, a151, a152, a153, a154, a155, a156, a157, a158, a159, a160, a161, a162, a163, a164, a165, a166, a167, a168, a169, a170, a171, a172, a173, a174], defers := [] } ∧ (G ≤ W.heap.size) ∧ (Below w.heap.size w W) ∧ (CBlk W g #[.int .i64 p, .int .i64 q'] 87) ∧ (Grow f32v 22 23 W w.heap.size v7 (i + 1) RS) ∧ (W.ownsRow w.heap.size 3 1 y8 m8 X8) ∧ (W.ownsRow w.heap.size 3 1 y9 m9 X9) ∧ (y8.ownBlock = none ∨ y8.ownBlock ≠ y9.ownBlock) ∧ (b0 = true → u8 = u82) ∧ (b1 = true → u83 = .pointer (some ⟨g, 0, none⟩)) ∧ (b2 = true → u84 = .int .i64 p) ∧ (b3 = true → u85 = .int .i64 (-(p : Int))) ∧ (b4 = true → u86 = .slice (some ⟨j8, 0, none⟩) 1 1 ∧ j8 < W.heap.size ∧ y8.ownBlock ≠ some j8 ∧ y9.ownBlock ≠ some j8 ∧ CBlk W j8 #[.int .i64 (-(p : Int))] 3) ∧ (b5 = false → u8 = y8 ∧ i = m8 ∧ L8 = X8) ∧ (b5 = true → b0 = true ∧ y8 = u87 ∧ m8 = i + 1 ∧ X8 = L8 ++ [.int .i64 (-(p : Int))]) ∧ (b6 = true → u9 = u88) ∧ (b7 = true → u89 = .int .i64 m) ∧ (b8 = true → u90 = .pointer (some ⟨g, 0, none⟩)) ∧ (b9 = true → u91 = .int .i64 p) ∧ (b10 = true → u92 = .int .i64 (m - (p : Int))) ∧ (b11 = true → u93 = .slice (some ⟨j9, 0, none⟩) 1 1 ∧ j9 < W.heap.size ∧ y8.ownBlock ≠ some j9 ∧ y9.ownBlock ≠ some j9 ∧ CBlk W j9 #[.int .i64 (m - (p : Int))] 3) ∧ (b12 = false → u9 = y9 ∧ i = m9 ∧ L9 = X9) ∧ (b12 = true → b6 = true ∧ y9 = u94 ∧ m9 = i + 1 ∧ X9 = L9 ++ [.int .i64 (m - (p : Int))]) ∧ (b13 = false → u8 = s8) ∧ (b13 = true → b5 = true ∧ y8 = s8) ∧ (b14 = false → u9 = s9) ∧ (b14 = true → b12 = true ∧ y9 = s9)) := ⟨_, rfl⟩
  have HInv := Lib.hid hInv
  clear hInv
  refine wp_region_inv (by kernel_rfl) Inv (by kernel_rfl) ?_ ?_ ?_
  · rw [HInv.out]
    exact ⟨false, false, false, false, false, false, false, false, false, false, false, false, false, false, false, u82, u83, u84, u85, u86, u87, u88, u89, u90, u91, u92, u93, u94, u8, u9, u8, u9, i, i, 0, 0, L8, L9, rfl, rfl, (Nat.le_of_eq hG), hB0, q0, gr0, o80, o90, ap0, (fun h => by cases h), (fun h => by cases h), (fun h => by cases h), (fun h => by cases h), (fun h => by cases h), (fun _ => ⟨rfl, rfl, rfl⟩), (fun h => by cases h), (fun h => by cases h), (fun h => by cases h), (fun h => by cases h), (fun h => by cases h), (fun h => by cases h), (fun h => by cases h), (fun _ => ⟨rfl, rfl, rfl⟩), (fun h => by cases h), (fun _ => rfl), (fun h => by cases h), (fun _ => rfl), (fun h => by cases h)⟩
  · intro k o listed a W ho hI hl hdep
    rw [HInv.out] at hI
    obtain ⟨b0, b1, b2, b3, b4, b5, b6, b7, b8, b9, b10, b11, b12, b13, b14, u82, u83, u84, u85, u86, u87, u88, u89, u90, u91, u92, u93, u94, y8, y9, s8, s9, m8, m9, j8, j9, X8, X9, rfl, rfl, hGW, hB, q, gr, o8, o9, ap, f0, f1, f2, f3, f4, f5n, f5, f6, f7, f8, f9, f10, f11, f12n, f12, f13n, f13, f14n, f14⟩ := hI
    match k, ho, hl, hdep with
      | 0, ho, hl, hdep =>
        have hun : b0 = false := Option.some.inj hl
        obtain rfl := Option.some.inj ho
        have hz : b13 = false := by
          cases hb : b13
          · rfl
          · exact absurd ((f5 (f13 hb).1).1) (by rw [hun]; simp)
        obtain rfl := f13n hz
        refine step_of ho fun K' hK => ?_
        go_simp
        refine hK.out _ _ ?_
        rw [HInv.out]
        exact ⟨true, b1, b2, b3, b4, b5, b6, b7, b8, b9, b10, b11, b12, b13, b14, u8, u83, u84, u85, u86, u87, u88, u89, u90, u91, u92, u93, u94, y8, y9, u8, s9, m8, m9, j8, j9, X8, X9, rfl, rfl, hGW, hB, q, gr, o8, o9, ap, (fun _ => rfl), f1, f2, f3, f4, f5n, (fun h => ⟨rfl, (f5 h).2⟩), f6, f7, f8, f9, f10, f11, f12n, f12, (fun _ => rfl), f13, f14n, f14⟩
      | 6, ho, hl, hdep =>
        have hun : b6 = false := Option.some.inj hl
        obtain rfl := Option.some.inj ho
        have hz : b14 = false := by
          cases hb : b14
          · rfl
          · exact absurd ((f12 (f14 hb).1).1) (by rw [hun]; simp)
        obtain rfl := f14n hz
        refine step_of ho fun K' hK => ?_
        go_simp
        refine hK.out _ _ ?_
        rw [HInv.out]
        exact ⟨b0, b1, b2, b3, b4, b5, true, b7, b8, b9, b10, b11, b12, b13, b14, u82, u83, u84, u85, u86, u87, u9, u89, u90, u91, u92, u93, u94, y8, y9, s8, u9, m8, m9, j8, j9, X8, X9, rfl, rfl, hGW, hB, q, gr, o8, o9, ap, f0, f1, f2, f3, f4, f5n, f5, (fun _ => rfl), f7, f8, f9, f10, f11, f12n, (fun h => ⟨rfl, (f12 h).2⟩), f13n, f13, (fun _ => rfl), f14⟩
      | 1, ho, hl, hdep =>
        have hun : b1 = false := Option.some.inj hl
        obtain rfl := Option.some.inj ho
        refine step_of ho fun K' hK => ?_
        go_simp
        refine hK.out _ _ ?_
        rw [HInv.out]
        exact ⟨b0, true, b2, b3, b4, b5, b6, b7, b8, b9, b10, b11, b12, b13, b14, u82, (.pointer (some ⟨g, 0, none⟩)), u84, u85, u86, u87, u88, u89, u90, u91, u92, u93, u94, y8, y9, s8, s9, m8, m9, j8, j9, X8, X9, rfl, rfl, hGW, hB, q, gr, o8, o9, ap, f0, (fun _ => rfl), f2, f3, f4, f5n, f5, f6, f7, f8, f9, f10, f11, f12n, f12, f13n, f13, f14n, f14⟩
      | 8, ho, hl, hdep =>
        have hun : b8 = false := Option.some.inj hl
        obtain rfl := Option.some.inj ho
        refine step_of ho fun K' hK => ?_
        go_simp
        refine hK.out _ _ ?_
        rw [HInv.out]
        exact ⟨b0, b1, b2, b3, b4, b5, b6, b7, true, b9, b10, b11, b12, b13, b14, u82, u83, u84, u85, u86, u87, u88, u89, (.pointer (some ⟨g, 0, none⟩)), u91, u92, u93, u94, y8, y9, s8, s9, m8, m9, j8, j9, X8, X9, rfl, rfl, hGW, hB, q, gr, o8, o9, ap, f0, f1, f2, f3, f4, f5n, f5, f6, f7, (fun _ => rfl), f9, f10, f11, f12n, f12, f13n, f13, f14n, f14⟩
      | 2, ho, hl, hdep =>
        have hun : b2 = false := Option.some.inj hl
        obtain rfl := Option.some.inj ho
        have e1 : b1 = true := hdep ⟨1, .data⟩ (by simp) rfl
        obtain rfl := f1 e1
        refine step_of ho fun K' hK => ?_
        have x0 := q.cell 0
        go_simp
        refine hK.out _ _ ?_
        rw [HInv.out]
        exact ⟨b0, b1, true, b3, b4, b5, b6, b7, b8, b9, b10, b11, b12, b13, b14, u82, (.pointer (some ⟨g, 0, none⟩)), (.int .i64 p), u85, u86, u87, u88, u89, u90, u91, u92, u93, u94, y8, y9, s8, s9, m8, m9, j8, j9, X8, X9, rfl, rfl, hGW, hB, q, gr, o8, o9, ap, f0, f1, (fun _ => rfl), f3, f4, f5n, f5, f6, f7, f8, f9, f10, f11, f12n, f12, f13n, f13, f14n, f14⟩
      | 9, ho, hl, hdep =>
        have hun : b9 = false := Option.some.inj hl
        obtain rfl := Option.some.inj ho
        have e8 : b8 = true := hdep ⟨8, .data⟩ (by simp) rfl
        obtain rfl := f8 e8
        refine step_of ho fun K' hK => ?_
        have x0 := q.cell 0
        go_simp
        refine hK.out _ _ ?_
        rw [HInv.out]
        exact ⟨b0, b1, b2, b3, b4, b5, b6, b7, b8, true, b10, b11, b12, b13, b14, u82, u83, u84, u85, u86, u87, u88, u89, (.pointer (some ⟨g, 0, none⟩)), (.int .i64 p), u92, u93, u94, y8, y9, s8, s9, m8, m9, j8, j9, X8, X9, rfl, rfl, hGW, hB, q, gr, o8, o9, ap, f0, f1, f2, f3, f4, f5n, f5, f6, f7, f8, (fun _ => rfl), f10, f11, f12n, f12, f13n, f13, f14n, f14⟩
      | 3, ho, hl, hdep =>
        have hun : b3 = false := Option.some.inj hl
        obtain rfl := Option.some.inj ho
        have e2 : b2 = true := hdep ⟨2, .data⟩ (by simp) rfl
        obtain rfl := f2 e2
        refine step_of ho fun K' hK => ?_
        go_simp
        refine hK.out _ _ ?_
        rw [HInv.out]
        exact ⟨b0, b1, b2, true, b4, b5, b6, b7, b8, b9, b10, b11, b12, b13, b14, u82, u83, (.int .i64 p), (.int .i64 (-(p : Int))), u86, u87, u88, u89, u90, u91, u92, u93, u94, y8, y9, s8, s9, m8, m9, j8, j9, X8, X9, rfl, rfl, hGW, hB, q, gr, o8, o9, ap, f0, f1, f2, (fun _ => rfl), f4, f5n, f5, f6, f7, f8, f9, f10, f11, f12n, f12, f13n, f13, f14n, f14⟩
      | 7, ho, hl, hdep =>
        have hun : b7 = false := Option.some.inj hl
        obtain rfl := Option.some.inj ho
        refine step_of ho fun K' hK => ?_
        go_simp
        refine hK.out _ _ ?_
        rw [HInv.out]
        exact ⟨b0, b1, b2, b3, b4, b5, b6, true, b8, b9, b10, b11, b12, b13, b14, u82, u83, u84, u85, u86, u87, u88, (.int .i64 m), u90, u91, u92, u93, u94, y8, y9, s8, s9, m8, m9, j8, j9, X8, X9, rfl, rfl, hGW, hB, q, gr, o8, o9, ap, f0, f1, f2, f3, f4, f5n, f5, f6, (fun _ => rfl), f8, f9, f10, f11, f12n, f12, f13n, f13, f14n, f14⟩
      | 10, ho, hl, hdep =>
        have hun : b10 = false := Option.some.inj hl
        obtain rfl := Option.some.inj ho
        have e7 : b7 = true := hdep ⟨7, .data⟩ (by simp) rfl
        obtain rfl := f7 e7
        have e9 : b9 = true := hdep ⟨9, .data⟩ (by simp) rfl
        obtain rfl := f9 e9
        refine step_of ho fun K' hK => ?_
        go_simp
        refine hK.out _ _ ?_
        rw [HInv.out]
        exact ⟨b0, b1, b2, b3, b4, b5, b6, b7, b8, b9, true, b11, b12, b13, b14, u82, u83, u84, u85, u86, u87, u88, (.int .i64 m), u90, (.int .i64 p), (.int .i64 (m - (p : Int))), u93, u94, y8, y9, s8, s9, m8, m9, j8, j9, X8, X9, rfl, rfl, hGW, hB, q, gr, o8, o9, ap, f0, f1, f2, f3, f4, f5n, f5, f6, f7, f8, f9, (fun _ => rfl), f11, f12n, f12, f13n, f13, f14n, f14⟩
      | 4, ho, hl, hdep =>
        have hun : b4 = false := Option.some.inj hl
        obtain rfl := Option.some.inj ho
        have e3 : b3 = true := hdep ⟨3, .data⟩ (by simp) rfl
        obtain rfl := f3 e3
        refine step_of ho fun K' hK => ?_
        have hb : Below W.heap.size W (W.alloc (.cells #[.int .i64 (-(p : Int))] 3)) := (Below.refl _ _).alloc (Nat.le_refl _) _
        have hn8 : y8.ownBlock ≠ some W.heap.size := fun e => Nat.lt_irrefl _ (World.ownsRow.lt o8 _ e).2
        have hn9 : y9.ownBlock ≠ some W.heap.size := fun e => Nat.lt_irrefl _ (World.ownsRow.lt o9 _ e).2
        have hsz : W.heap.size < (W.alloc (.cells #[.int .i64 (-(p : Int))] 3)).heap.size := by simp
        go_simp
        refine hK.out _ _ ?_
        rw [HInv.out]
        exact ⟨b0, b1, b2, b3, true, b5, b6, b7, b8, b9, b10, b11, b12, b13, b14, u82, u83, u84, (.int .i64 (-(p : Int))), (.slice (some ⟨W.heap.size, 0, none⟩) 1 1), u87, u88, u89, u90, u91, u92, u93, u94, y8, y9, s8, s9, m8, m9, W.heap.size, j9, X8, X9, rfl, rfl, (Nat.le_trans hGW hb.size), (hB.trans (hb.mono hB.size)), (q.below hb q.lt), (gr.below hb), (own_belw o8 hb), (own_belw o9 hb), ap, f0, f1, f2, f3, (fun _ => ⟨rfl, hsz, hn8, hn9, CBlk.new W _ _ _ rfl⟩), f5n, f5, f6, f7, f8, f9, f10, (fun h => ⟨(f11 h).1, Nat.lt_of_lt_of_le (f11 h).2.1 hb.size, (f11 h).2.2.1, (f11 h).2.2.2.1, (f11 h).2.2.2.2.below hb (f11 h).2.1⟩), f12n, f12, f13n, f13, f14n, f14⟩
      | 11, ho, hl, hdep =>
        have hun : b11 = false := Option.some.inj hl
        obtain rfl := Option.some.inj ho
        have e10 : b10 = true := hdep ⟨10, .data⟩ (by simp) rfl
        obtain rfl := f10 e10
        refine step_of ho fun K' hK => ?_
        have hb : Below W.heap.size W (W.alloc (.cells #[.int .i64 (m - (p : Int))] 3)) := (Below.refl _ _).alloc (Nat.le_refl _) _
        have hn8 : y8.ownBlock ≠ some W.heap.size := fun e => Nat.lt_irrefl _ (World.ownsRow.lt o8 _ e).2
        have hn9 : y9.ownBlock ≠ some W.heap.size := fun e => Nat.lt_irrefl _ (World.ownsRow.lt o9 _ e).2
        have hsz : W.heap.size < (W.alloc (.cells #[.int .i64 (m - (p : Int))] 3)).heap.size := by simp
        go_simp
        refine hK.out _ _ ?_
        rw [HInv.out]
        exact ⟨b0, b1, b2, b3, b4, b5, b6, b7, b8, b9, b10, true, b12, b13, b14, u82, u83, u84, u85, u86, u87, u88, u89, u90, u91, (.int .i64 (m - (p : Int))), (.slice (some ⟨W.heap.size, 0, none⟩) 1 1), u94, y8, y9, s8, s9, m8, m9, j8, W.heap.size, X8, X9, rfl, rfl, (Nat.le_trans hGW hb.size), (hB.trans (hb.mono hB.size)), (q.below hb q.lt), (gr.below hb), (own_belw o8 hb), (own_belw o9 hb), ap, f0, f1, f2, f3, (fun h => ⟨(f4 h).1, Nat.lt_of_lt_of_le (f4 h).2.1 hb.size, (f4 h).2.2.1, (f4 h).2.2.2.1, (f4 h).2.2.2.2.below hb (f4 h).2.1⟩), f5n, f5, f6, f7, f8, f9, f10, (fun _ => ⟨rfl, hsz, hn8, hn9, CBlk.new W _ _ _ rfl⟩), f12n, f12, f13n, f13, f14n, f14⟩
      | 5, ho, hl, hdep =>
        have hun : b5 = false := Option.some.inj hl
        obtain rfl := Option.some.inj ho
        have e0 : b0 = true := hdep ⟨0, .data⟩ (by simp) rfl
        obtain rfl := f0 e0
        have e4 : b4 = true := hdep ⟨4, .data⟩ (by simp) rfl
        obtain ⟨rfl, hjW, hj8, hj9, hcb⟩ := f4 e4
        obtain ⟨rfl, rfl, rfl⟩ := f5n hun
        refine step_of ho fun K' hK => ?_
        first | (rw [if_pos (by rfl)]) | (rw [if_pos (by kernel_rfl)]) | (rw [if_pos (by go_simp)])
        refine wp_append_own_at (.tmp 82) (.tmp 86) 34 rfl w.heap.size 3 i2 (.int .i64 0) 1 8 Tryz.underlying34 hi2 hv0 hv1 hv2 rfl (by decide) _ _ _ rfl o8 ⟨j8, 0, none⟩ 1 1 [.int .i64 (-(p : Int))] rfl rfl ?c1_5 ?c2_5 ?c3_5 ?c4_5 ?c5_5 ?_
        case c1_5 => intro z u hz; match z, hz with | 0, hz => (injection hz with hz; subst hz; exact hcb.cell 0) | z + 1, hz => simp at hz
        case c2_5 => intro u hu; simp at hu; subst hu; rfl
        case c3_5 => unfold maxLen; omega
        case c4_5 => omega
        case c5_5 => exact hB.size
        intro y' W' ho' hg' hat
        have hbb : Below w.heap.size w W' := hB.grown hg' hB.size (fun z hz => (World.ownsRow.lt o8 z hz).1)
        refine hK.out _ _ ?_
        rw [HInv.out]
        exact ⟨b0, b1, b2, b3, b4, true, b6, b7, b8, b9, b10, b11, b12, b13, b14, u8, u83, u84, u85, (.slice (some ⟨j8, 0, none⟩) 1 1), y', u88, u89, u90, u91, u92, u93, u94, y', y9, s8, s9, (i + 1), m9, j8, j9, (_ ++ [.int .i64 (-(p : Int))]), X9, rfl, rfl, (Nat.le_trans hGW hg'.size), hbb, (q.grown hg' q.lt (q.apart o8 (by decide))), (gr.grownBy o8 (by decide) (by decide) hg'), ho', (o9.kept hg' (apart_symm ap)), (apart_app ap (fun z hz => (World.ownsRow.lt o9 z hz).2) hat), f0, f1, f2, f3, (fun _ => ⟨rfl, Nat.lt_of_lt_of_le hjW hg'.size, block_app hj8 hjW hat, hj9, hcb.grown hg' hjW hj8⟩), (fun h => by cases h), (fun _ => ⟨e0, rfl, rfl, rfl⟩), f6, f7, f8, f9, f10, (fun h => ⟨(f11 h).1, Nat.lt_of_lt_of_le (f11 h).2.1 hg'.size, block_app (f11 h).2.2.1 (f11 h).2.1 hat, (f11 h).2.2.2.1, (f11 h).2.2.2.2.grown hg' (f11 h).2.1 (f11 h).2.2.1⟩), f12n, f12, f13n, (fun h => absurd (f13 h).1 (by rw [hun]; simp)), f14n, f14⟩
      | 12, ho, hl, hdep =>
        have hun : b12 = false := Option.some.inj hl
        obtain rfl := Option.some.inj ho
        have e6 : b6 = true := hdep ⟨6, .data⟩ (by simp) rfl
        obtain rfl := f6 e6
        have e11 : b11 = true := hdep ⟨11, .data⟩ (by simp) rfl
        obtain ⟨rfl, hjW, hj8, hj9, hcb⟩ := f11 e11
        obtain ⟨rfl, rfl, rfl⟩ := f12n hun
        refine step_of ho fun K' hK => ?_
        first | (rw [if_pos (by rfl)]) | (rw [if_pos (by kernel_rfl)]) | (rw [if_pos (by go_simp)])
        refine wp_append_own_at (.tmp 88) (.tmp 93) 34 rfl w.heap.size 3 i2 (.int .i64 0) 1 8 Tryz.underlying34 hi2 hv0 hv1 hv2 rfl (by decide) _ _ _ rfl o9 ⟨j9, 0, none⟩ 1 1 [.int .i64 (m - (p : Int))] rfl rfl ?c1_12 ?c2_12 ?c3_12 ?c4_12 ?c5_12 ?_
        case c1_12 => intro z u hz; match z, hz with | 0, hz => (injection hz with hz; subst hz; exact hcb.cell 0) | z + 1, hz => simp at hz
        case c2_12 => intro u hu; simp at hu; subst hu; rfl
        case c3_12 => unfold maxLen; omega
        case c4_12 => omega
        case c5_12 => exact hB.size
        intro y' W' ho' hg' hat
        have hbb : Below w.heap.size w W' := hB.grown hg' hB.size (fun z hz => (World.ownsRow.lt o9 z hz).1)
        refine hK.out _ _ ?_
        rw [HInv.out]
        exact ⟨b0, b1, b2, b3, b4, b5, b6, b7, b8, b9, b10, b11, true, b13, b14, u82, u83, u84, u85, u86, u87, u9, u89, u90, u91, u92, (.slice (some ⟨j9, 0, none⟩) 1 1), y', y8, y', s8, s9, m8, (i + 1), j8, j9, X8, (_ ++ [.int .i64 (m - (p : Int))]), rfl, rfl, (Nat.le_trans hGW hg'.size), hbb, (q.grown hg' q.lt (q.apart o9 (by decide))), (gr.grownBy o9 (by decide) (by decide) hg'), (o8.kept hg' ap), ho', (apart_symm (apart_app (apart_symm ap) (fun z hz => (World.ownsRow.lt o8 z hz).2) hat)), f0, f1, f2, f3, (fun h => ⟨(f4 h).1, Nat.lt_of_lt_of_le (f4 h).2.1 hg'.size, (f4 h).2.2.1, block_app (f4 h).2.2.2.1 (f4 h).2.1 hat, (f4 h).2.2.2.2.grown hg' (f4 h).2.1 (f4 h).2.2.2.1⟩), f5n, f5, f6, f7, f8, f9, f10, (fun _ => ⟨rfl, Nat.lt_of_lt_of_le hjW hg'.size, hj8, block_app hj9 hjW hat, hcb.grown hg' hjW hj9⟩), (fun h => by cases h), (fun _ => ⟨e6, rfl, rfl, rfl⟩), f13n, f13, f14n, (fun h => absurd (f14 h).1 (by rw [hun]; simp))⟩
      | 13, ho, hl, hdep =>
        have hun : b13 = false := Option.some.inj hl
        obtain rfl := Option.some.inj ho
        have e5 : b5 = true := hdep ⟨5, .data⟩ (by simp) rfl
        obtain ⟨_, rfl, _, _⟩ := f5 e5
        refine step_of ho fun K' hK => ?_
        go_simp
        refine hK.out _ _ ?_
        rw [HInv.out]
        exact ⟨b0, b1, b2, b3, b4, b5, b6, b7, b8, b9, b10, b11, b12, true, b14, u82, u83, u84, u85, u86, y8, u88, u89, u90, u91, u92, u93, u94, y8, y9, y8, s9, m8, m9, j8, j9, X8, X9, rfl, rfl, hGW, hB, q, gr, o8, o9, ap, f0, f1, f2, f3, f4, f5n, f5, f6, f7, f8, f9, f10, f11, f12n, f12, (fun h => by cases h), (fun _ => ⟨e5, rfl⟩), f14n, f14⟩
      | 14, ho, hl, hdep =>
        have hun : b14 = false := Option.some.inj hl
        obtain rfl := Option.some.inj ho
        have e12 : b12 = true := hdep ⟨12, .data⟩ (by simp) rfl
        obtain ⟨_, rfl, _, _⟩ := f12 e12
        refine step_of ho fun K' hK => ?_
        go_simp
        refine hK.out _ _ ?_
        rw [HInv.out]
        exact ⟨b0, b1, b2, b3, b4, b5, b6, b7, b8, b9, b10, b11, b12, b13, true, u82, u83, u84, u85, u86, u87, u88, u89, u90, u91, u92, u93, y9, y8, y9, s8, y9, m8, m9, j8, j9, X8, X9, rfl, rfl, hGW, hB, q, gr, o8, o9, ap, f0, f1, f2, f3, f4, f5n, f5, f6, f7, f8, f9, f10, f11, f12n, f12, f13n, f13, (fun h => by cases h), (fun _ => ⟨e12, rfl⟩)⟩
      | n + 15, ho, hl, hdep => exact absurd ho (by simp)
  · intro listed a w6 hI hall
    rw [HInv.out] at hI
    obtain ⟨b0, b1, b2, b3, b4, b5, b6, b7, b8, b9, b10, b11, b12, b13, b14, u82, u83, u84, u85, u86, u87, u88, u89, u90, u91, u92, u93, u94, y8, y9, s8, s9, m8, m9, j8, j9, X8, X9, rfl, rfl, hGW, hB5, q5, gr5, o85, o95, ap5, f0, f1, f2, f3, f4, f5n, f5, f6, f7, f8, f9, f10, f11, f12n, f12, f13n, f13, f14n, f14⟩ := hI
    have e0 : b0 = true := hall 0 b0 (by decide) rfl
    have e1 : b1 = true := hall 1 b1 (by decide) rfl
    have e2 : b2 = true := hall 2 b2 (by decide) rfl
    have e3 : b3 = true := hall 3 b3 (by decide) rfl
    have e4 : b4 = true := hall 4 b4 (by decide) rfl
    have e5 : b5 = true := hall 5 b5 (by decide) rfl
    have e6 : b6 = true := hall 6 b6 (by decide) rfl
    have e7 : b7 = true := hall 7 b7 (by decide) rfl
    have e8 : b8 = true := hall 8 b8 (by decide) rfl
    have e9 : b9 = true := hall 9 b9 (by decide) rfl
    have e10 : b10 = true := hall 10 b10 (by decide) rfl
    have e11 : b11 = true := hall 11 b11 (by decide) rfl
    have e12 : b12 = true := hall 12 b12 (by decide) rfl
    have e13 : b13 = true := hall 13 b13 (by decide) rfl
    have e14 : b14 = true := hall 14 b14 (by decide) rfl
    subst e0
    subst e1
    subst e2
    subst e3
    subst e4
    subst e5
    subst e6
    subst e7
    subst e8
    subst e9
    subst e10
    subst e11
    subst e12
    subst e13
    subst e14
    obtain rfl := f0 rfl
    obtain rfl := f1 rfl
    obtain rfl := f2 rfl
    obtain rfl := f3 rfl
    obtain ⟨rfl, -, -, -, -⟩ := f4 rfl
    obtain ⟨-, rfl, rfl, rfl⟩ := f5 rfl
    obtain rfl := f6 rfl
    obtain rfl := f7 rfl
    obtain rfl := f8 rfl
    obtain rfl := f9 rfl
    obtain rfl := f10 rfl
    obtain ⟨rfl, -, -, -, -⟩ := f11 rfl
    obtain ⟨-, rfl, rfl, rfl⟩ := f12 rfl
    obtain ⟨-, rfl⟩ := f13 rfl
    obtain ⟨-, rfl⟩ := f14 rfl
    exact HK.out y8 y9 j8 j9 w6 hB5 q5 gr5 o85 o95 ap5

end Go.Proofs.YtboaojkblmddkaaGreatDoor

/- ProbeSkews: the main case. -/
namespace Go.Proofs.YtboaojkblmddkaaGreatDoor
open Go.RowKit Bn
open Flt

theorem int_succ (i : Nat) (h : i ≤ 6) : Value.int .i64 (wrap64 ((i : Int) + 1)) = Value.int .i64 ((i + 1 : Nat) : Int) := by
  rw [show wrap64 ((i : Int) + 1) = (i : Int) + 1 from IntWalk.wrap64_in _ (by omega)]
  rfl
theorem smpE_ok2 (l : List Nat) (h : smpE l = 0) : ∀ x ∈ l, fin Ieee.single x = true := by
  unfold smpE at h
  split at h
  · cases h
  · split at h
    · rename_i h1 h2
      exact fun x hx => List.all_eq_true.1 h2 x hx
    · cases h

set_option maxHeartbeats 16000000 in
set_option maxRecDepth 100000 in
theorem skews_main (A A' : Option Addr) (N c n c' : Nat) (m : Int) (l : List Nat) (C : List (Int × Int)) (w : World) (KV : AwakeOk) (hT : Tabs w) (h : Reads w w.heap.size 1 A N (l.map f32v)) (hac : A = none → c = 0)
    (hc : N ≤ c) (hcm : c ≤ maxLen) (hp : PairsR w w.heap.size A' n C) (hok : SkOk l n m) :
    Calls Tryz.prog 10 #[.slice A N c, .slice A' n c', .int .i64 m] w fun e w' => e = .returned (.bool true) ∧ Below w.heap.size w w' := by
  have hl := h.lenM
  obtain ⟨hk1, hk2, hk3, hk4, hk5, hk6⟩ := hok
  rw [hl] at hk1
  have HCS := Lib.hid (rCheckSamples_any A N c l w h (by unfold maxLen; omega))
  rw [hk2] at HCS
  have KV := Lib.hid KV
  obtain ⟨hCl, hCr⟩ := hp
  obtain ⟨ad, rfl, hadb, hcc⟩ := hCr (by omega)
  have d1 : decide ((64 : Int) < (N : Int)) = false := decide_eq_false (by omega)
  have d3 : ((n : Int) == 0) = false := by rw [beq_eq_false_iff_ne]; omega
  have d4 : decide ((6 : Int) < (n : Int)) = false := decide_eq_false (by omega)
  have d5 : decide (m < -100) = false := decide_eq_false (by omega)
  have d6 : decide (100 < m) = false := decide_eq_false (by omega)
  have HL := Lib.hid hl
  have HCL := Lib.hid hCl
  have HCC := Lib.hid hcc
  obtain ⟨i2, hi2, hv0, hv1, hv2⟩ := info_parts info_int
  obtain ⟨i1, hi1, hy0, hy1, hy2⟩ := info_parts info_fls3
  have HC := Lib.hid hc
  have HK4 := Lib.hid hk4
  have HSM := Lib.hid hk2
  clear hl hCl hCr hcc hk2 hk4 hc
  unfold maxLen at hcm
  go_enter Tryz.func10, Tryz.ntmps10
  go_wp2_with fail
  refine HCS.out.mono ?_
  rintro e w1 ⟨rfl, hb1⟩
  go_wp2
  go_loopg [7, 8, 9, 10, 11, 13, 50] n (fun q v7 v8 v9 v10 v11 v13 s W => ∃ i : Nat, i ≤ n ∧ s = .int .i64 i ∧ n - i ≤ q ∧ Hid (∀ p ∈ C.take i, cutOk N p) ∧
    Grow f32v 22 23 W w.heap.size v7 i ((C.take i).map (cutR l)) ∧
    W.ownsRow w.heap.size 3 1 v8 i (((C.take i).map fun p => 0 - p.1).map i64v) ∧ W.ownsRow w.heap.size 3 1 v9 i (((C.take i).map fun p => m - p.1).map i64v) ∧
    (v8.ownBlock = none ∨ v8.ownBlock ≠ v9.ownBlock) ∧ v10 = .int .i64 (frC (C.take i)) ∧ v11 = .int .i64 (toC N (C.take i)) ∧ Below w.heap.size w W)
  case atStart => exact ⟨0, Nat.zero_le _, rfl, by omega, show ∀ p ∈ C.take 0, cutOk N p from fun p hp => absurd hp (by simp), Grow.nil, World.ownsRow_nil _ _ _ _, World.ownsRow_nil _ _ _ _, .inl rfl, rfl, rfl, hb1⟩
  case round =>
    obtain ⟨i, hi, rfl, hq, hval, hgr, ho8, ho9, hap, rfl, rfl, hbel⟩ := hrel
    by_cases h0 : i < n
    · have hil : i < C.length := by have := HCL.out; omega
      obtain ⟨hx0, hx1⟩ := HCC.out i hil
      have hy0 := (hbel.cell (by rw [block_of_add, block_of_add]; exact hadb)).trans hx0
      have hy1 := (hbel.cell (by rw [block_of_add, block_of_add]; exact hadb)).trans hx1
      have hts : C.take (i + 1) = C.take i ++ [C[i]] := List.take_succ_eq_append_getElem hil
      have HTS := Lib.hid hts
      clear hts hx0 hx1
      generalize hpp : C[i] = pp at *
      obtain ⟨a, b⟩ := pp
      dsimp only at hy0 hy1
      have hld : ∀ j v, ([Value.int .i64 a, Value.int .i64 b] : List Value)[j]? = some v → wr.cell? ((ad.add (i * 2)).add j) = some v := by
        intro j v hj
        match j, hj with
        | 0, hj => injection hj with hj; subst hj; exact hy0
        | 1, hj => injection hj with hj; subst hj; exact hy1
        | j + 2, hj => simp at hj
      have HLD := Lib.hid hld
      have hle := hbel.size
      have hbS : Below wr.heap.size wr (wr.alloc (.cells #[Value.int .i64 a, Value.int .i64 b] 87)) := (Below.refl _ _).alloc (Nat.le_refl _) _
      have hrg := range_alloc2 wr 87 #[Value.int .i64 a, Value.int .i64 b]
      have HBS := Lib.hid hbS
      have HRG := Lib.hid hrg
      have HQ0 := Lib.hid (CBlk.new wr #[Value.int .i64 a, Value.int .i64 b] 87 _ rfl)
      clear hld hy0 hy1 hbS hrg
      go_upto_region 9 with (first
        | (refine wpList_load_ad rfl 87 (.tmp 52) rfl (ad.add (i * 2)) rfl [Value.int .i64 a, Value.int .i64 b] _ HLD.out Tryz.underlying87 rfl info_cut ?_))

      have hbS := HBS.out
      have hrg := HRG.out
      have hq0 := HQ0.out
      clear HBS HRG HLD HQ0
      generalize wr.alloc (.cells #[Value.int .i64 a, Value.int .i64 b] 87) = w3 at *
      have hg0 : w3.cell? ⟨wr.heap.size, 0, none⟩ = some (.int .i64 a) := hrg 0 _ rfl
      have hg1 : w3.cell? ⟨wr.heap.size, 1, none⟩ = some (.int .i64 b) := hrg 1 _ rfl
      have hB3 := hbel.trans (hbS.mono hle)
      have hglt : wr.heap.size < w3.heap.size := by
        have := World.block_lt_of_cell? w3 _ hg0
        simpa using this
      have hgr3 := hgr.below hbS
      have ho83 := own_belw ho8 hbS
      have ho93 := own_belw ho9 hbS
      clear hgr ho8 ho9 hrg hbel
      generalize wr.heap.size = g at *
      by_cases e1 : a < 0
      · have f1 : decide (a < 0) = true := by simpa using e1
        clear hgr3 ho83 ho93 e1
        go_wp2_with fail
        refine (KV.out _ (hT.later hB3)).mono ?_
        rintro e w4 ⟨rfl, hb4⟩
        go_wp2_with fail
        go_ret
        exact ⟨rfl, hB3.trans (hb4.mono hB3.size)⟩
      · have f1 : decide (a < 0) = false := by simpa using e1
        by_cases e2 : b < a
        · have f2 : decide (b < a) = true := by simpa using e2
          clear hgr3 ho83 ho93 e1 e2
          go_wp2_with fail
          refine (KV.out _ (hT.later hB3)).mono ?_
          rintro e w4 ⟨rfl, hb4⟩
          go_wp2_with fail
          go_ret
          exact ⟨rfl, hB3.trans (hb4.mono hB3.size)⟩
        · have f2 : decide (b < a) = false := by simpa using e2
          by_cases e3 : (N : Int) < b
          · have f3 : decide ((N : Int) < b) = true := by simpa using e3
            clear hgr3 ho83 ho93 e1 e2 e3
            go_wp2_with fail
            refine (KV.out _ (hT.later hB3)).mono ?_
            rintro e w4 ⟨rfl, hb4⟩
            go_wp2_with fail
            go_ret
            exact ⟨rfl, hB3.trans (hb4.mono hB3.size)⟩
          · have f3 : decide ((N : Int) < b) = false := by simpa using e3
            obtain ⟨p, rfl⟩ : ∃ p : Nat, a = p := ⟨a.toNat, by omega⟩
            obtain ⟨q', rfl⟩ : ∃ q' : Nat, b = q' := ⟨b.toNat, by omega⟩
            have G2 : Hid (p ≤ q') := show p ≤ q' by omega
            have G3 : Hid (q' ≤ N) := show q' ≤ N by omega
            have G4 := HC
            have g1 : (0 : Int) ≤ (p : Int) := by omega
            have g2 : (p : Int) ≤ (q' : Int) := by have := G2.out; omega
            have g3 : (q' : Int) ≤ (c : Int) := by have := G3.out; have := G4.out; omega
            have f2n : decide (q' < p) = false := decide_eq_false (by have := G2.out; omega)
            have f3n : decide (N < q') = false := decide_eq_false (by have := G3.out; omega)
            clear e1 e2 e3
            have hrd3 := h.later hB3
            have hcutA := cut_reads (c := c) (p := p) (q := q') hrd3 hac G2.out G3.out G4.out rfl
            rcases Decidable.em (c = p) with hcp | hcp
            case' inl =>
              obtain rfl : p = c := hcp.symm
              rw [if_pos rfl] at hcutA
              have HFL := Lib.hid (floats_ownK A (q' - p) (p - p) _ w3 hcutA.1 (by have := G3.out; omega) hcutA.2)
              rw [Nat.sub_self] at HFL
            case' inr =>
              rw [if_neg hcp] at hcutA
              have HFL := Lib.hid (floats_ownK (A.map (·.add p)) (q' - p) (c - p) _ w3 hcutA.1 (by have := G3.out; omega) hcutA.2)
            all_goals
              clear hcutA hrd3
              go_wp2_with fail
              refine HFL.out.mono ?_
              rintro e w4 ⟨v4, rfl, ho4, hb4⟩
              obtain ⟨A4, c4, rfl, _, _, _⟩ := own_slice ho4
              have hle3 := hB3.size
              have hB4 := hB3.trans (hb4.mono hle3)
              have hgr4 := hgr3.below hb4
              have ho84 := own_belw ho83 hb4
              have ho94 := own_belw ho93 hb4
              clear hgr3 ho83 ho93 HFL
              have q4 := hq0.below hb4 hglt
              obtain ⟨hgl, vs, hown, hin⟩ := hgr4
              have HIN := Lib.hid hin
              have HGL := Lib.hid hgl
              clear hin hgl
              go_wp2_with (at_builtin; refine wpList_append_own _ rfl _ _ 75 rfl w.heap.size 22 i1 (.slice none 0 0) 1 24 Tryz.underlying75 hi1 hy0 hy1 hy2 rfl (by decide) _ _ _ rfl (hown.alloc _) ⟨w4.heap.size, 0, none⟩ 1 1 [.slice A4 (q' - p) c4] rfl rfl ?d1 ?d2 ?d3 ?d4 ?d5 ?_)
              case d1 => exact cell_one_new _ _ _
              case d2 => intro u hu; simp at hu; subst hu; rfl
              case d3 => have := HK4.out; unfold maxLen; omega
              case d4 => have := HK4.out; omega
              case d5 => have := hB4.size; simp; omega
              intro v5 w5 hown5 hgrow5 _
              have hba : Below w4.heap.size w4 (w4.alloc (.cells #[.slice A4 (q' - p) c4] 22)) := (Below.refl _ _).alloc (Nat.le_refl _) _
              have hlen := cutR_len l ((p : Int), (q' : Int)) ⟨by omega, by omega, by rw [HL.out]; have := G3.out; omega⟩
              rw [cutR_nat, show ((q' : Int) - (p : Int)).toNat = q' - p by omega] at hlen
              have gr0 : Grow f32v 22 23 w5 w.heap.size v5 (i + 1) ((C.take i).map (cutR l) ++ [(l.drop p).take (q' - p)]) :=
                Grow.snoc HGL.out (hown.alloc _) (fun j hj => (HIN.out j hj).imp fun u hu => ⟨hu.1, own_belw hu.2 hba⟩) (by rw [hlen]; exact own_belw (own_mono ho4 hle3) hba) (by decide) hgrow5 hown5
              have o80 := (own_belw ho84 hba).kept hgrow5 (own_apart (own_belw ho84 hba) (hown.alloc _) (by decide))
              have o90 := (own_belw ho94 hba).kept hgrow5 (own_apart (own_belw ho94 hba) (hown.alloc _) (by decide))
              have q0 := (q4.below hba q4.lt).grown hgrow5 (q4.below hba q4.lt).lt ((q4.below hba q4.lt).apart (hown.alloc _) (by decide))
              have hB0 : Below w.heap.size w w5 := (hB4.trans (hba.mono hB4.size)).grown hgrow5 (by have := hB4.size; simp; omega) (fun k hk => (World.ownsRow.lt hown k hk).1)
              clear hgrow5 hown5 hown ho4 ho84 ho94 q4 hba hlen hB4 hb4 hB3 HIN HGL hbS
              go_upto_region 12 with (fail)
              obtain ⟨L8, hL8⟩ : ∃ L, L = ((C.take i).map fun p => 0 - p.1).map i64v := ⟨_, rfl⟩
              rw [← hL8] at o80
              obtain ⟨L9, hL9⟩ : ∃ L, L = ((C.take i).map fun p => m - p.1).map i64v := ⟨_, rfl⟩
              rw [← hL9] at o90
              obtain ⟨RS, hRS⟩ : ∃ R, R = (C.take i).map (cutR l) ++ [(l.drop p).take (q' - p)] := ⟨_, rfl⟩
              rw [← hRS] at gr0
              have HL8 := Lib.hid hL8
              have HL9 := Lib.hid hL9
              have HRS := Lib.hid hRS
              clear hL8 hL9 hRS
              refine region12_ok w w5 g i p q' m v5 u8 u9 L8 L9 RS hB0 q0 gr0 o80 o90 hap (by have := HK4.out; omega) (by have := G2.out; have := G3.out; omega) hk5 hk6 ?_
              intro y8 y9 j8 j9 w6 hB6 q6 gr6 o86 o96 ap6
              clear hB0 q0 gr0 o80 o90 hap
              have x0 : w6.cell? ⟨g, 0, none⟩ = some (.int .i64 (p : Int)) := q6.cell 0
              have x1 : w6.cell? ⟨g, 1, none⟩ = some (.int .i64 (q' : Int)) := q6.cell 1
              clear q6
              have E0 : Hid (Value.int .i64 (wrap64 ((i : Int) + 1)) = Value.int .i64 ((i + 1 : Nat) : Int)) := int_succ i (by have := HK4.out; omega)
              have E1 : (C.take (i + 1)).map (cutR l) = RS := by
                rw [HTS.out, List.map_append, HRS.out, List.map_singleton, cutR_nat]
              have E8 : ((C.take (i + 1)).map fun p => 0 - p.1).map i64v = L8 ++ [.int .i64 (-(p : Int))] := by
                rw [HTS.out, HL8.out, List.map_append, List.map_append]
                simp [i64v]
              have E9 : ((C.take (i + 1)).map fun p => m - p.1).map i64v = L9 ++ [.int .i64 (m - (p : Int))] := by
                rw [HTS.out, HL9.out, List.map_append, List.map_append]
                simp [i64v]
              have E10 : frC (C.take (i + 1)) = max (frC (C.take i)) (p : Int) := by rw [HTS.out, frC_snoc]
              have E11 : toC N (C.take (i + 1)) = min (toC N (C.take i)) (q' : Int) := by rw [HTS.out, toC_snoc]
              have EV : Hid (∀ x ∈ C.take (i + 1), cutOk N x) := by
                show ∀ x ∈ C.take (i + 1), cutOk N x
                rw [HTS.out]
                intro x hx
                rcases List.mem_append.1 hx with hx | hx
                · exact hval.out x hx
                · obtain rfl := List.mem_singleton.1 hx
                  exact ⟨by dsimp only; omega, by dsimp only; have := G2.out; omega, by dsimp only; have := G3.out; omega⟩
              rw [← E1] at gr6
              rw [← E8] at o86
              rw [← E9] at o96
              have GR := Lib.hid gr6
              have O8 := Lib.hid o86
              have O9 := Lib.hid o96
              have E10 := Lib.hid E10
              have E11 := Lib.hid E11
              clear gr6 o86 o96 E1 E8 E9
              go_wp2
              go_region
              go_wp2
              have hn6 := HK4.out
              go_roundg (n - (i + 1))
              case measure => omega
              case rel => exact ⟨i + 1, by omega, E0.out, Nat.le_refl _, EV, GR.out, O8.out, O9.out, ap6, by rw [E10.out], by rw [E11.out], hB6.drew⟩
    · -- STUB after
      · obtain rfl : n = i := by omega
        have hCn : C.take n = C := List.take_of_length_le (by have := HCL.out; omega)
        rw [hCn] at hval hgr ho8 ho9
        rw [hCn]
        obtain ⟨A7, c7, rfl, hc7, hcm7, hr7⟩ := hgr.rowsR
        obtain ⟨A8, c8, rfl, _, _, hr8⟩ := own_slice ho8
        obtain ⟨A9, c9, rfl, _, _, hr9⟩ := own_slice ho9
        have hCL := HCL.out
        have hLN := HL.out
        have hn6 := HK4.out
        have hcN := HC.out
        have hv : ∀ p ∈ C, cutOk l.length p := by rw [hLN]; exact hval.out
        have hF0 : 0 ≤ frC C := (frC_le C 0).1
        have hT0 : toC N C ≤ (N : Int) := (toC_le C (N : Int)).1
        have r0 := recE_cuts l 0 C hv (by omega) (by omega) (by omega) (by omega) HSM.out
        have r1 := recE_cuts l m C hv (by omega) (by omega) (by omega) ⟨hk5, hk6⟩ HSM.out
        have f0 := frT_cuts N 0 C hval.out (by omega) hk1 (by omega)
        have f1 := frT_cuts N m C hval.out (by omega) hk1 ⟨hk5, hk6⟩
        have t0 := toT_cuts l 0 C hv (by omega) (by omega) (by omega)
        have t1 := toT_cuts l m C hv (by omega) (by omega) ⟨hk5, hk6⟩
        rw [hLN] at t0 t1
        clear hgr ho8 ho9
        by_cases hs : toC N C ≤ frC C
        · have HA := Lib.hid (fun (W : World) (hb : Below wr.heap.size wr W) => aligned_all A7 A8 n c7 n c8 0 16 [] (C.map (cutR l)) (C.map fun p => 0 - p.1) W (hr7.later hb) (hr8.later hb) (by omega) (by omega) (.inr ⟨r0, .inl ⟨by rw [t0, f0]; omega, rfl, rfl, rfl⟩⟩))
          have HB := Lib.hid (fun (W : World) (hb : Below wr.heap.size wr W) => aligned_all A7 A9 n c7 n c9 0 16 [] (C.map (cutR l)) (C.map fun p => m - p.1) W (hr7.later hb) (hr9.later hb) (by omega) (by omega) (.inr ⟨r1, .inl ⟨by rw [t1, f1]; omega, rfl, rfl, rfl⟩⟩))
          have d7 : decide (toC N C ≤ frC C) = true := by simpa using hs
          have HBEL := Lib.hid hbel
          clear r0 r1 f0 f1 t0 t1 hs hr7 hr8 hr9 hv hval hLN hCL hCn hF0 hT0 hbel hap
          generalize frC C = fr at *
          generalize toC N C = tt at *
          go_wp2_with fail
          refine (HA.out wr (Below.refl _ _)).mono ?_
          rintro e w2 ⟨B1, k1, rfl, _, hb2⟩
          go_wp2_with fail
          refine (HB.out w2 hb2).mono ?_
          rintro e w3 ⟨B2, k2, rfl, _, hb3⟩
          have hB3 := HBEL.out.trans ((hb2.trans (hb3.mono hb2.size)).mono HBEL.out.size)
          go_wp2_with fail
          refine (KV.out _ (hT.later hB3)).mono ?_
          rintro e w4 ⟨rfl, hb4⟩
          go_wp2_with fail
          go_ret
          exact ⟨rfl, hB3.trans (hb4.mono hB3.size)⟩
        · have a0 := algW_cuts l 0 C hv (by omega) (by omega) (by omega) (by rw [hLN]; omega)
          have a1 := algW_cuts l m C hv (by omega) (by omega) ⟨hk5, hk6⟩ (by rw [hLN]; omega)
          obtain ⟨fr, hfr⟩ : ∃ fr : Nat, frC C = fr := ⟨(frC C).toNat, by omega⟩
          obtain ⟨tt, htt⟩ : ∃ tt : Nat, toC N C = tt := ⟨(toC N C).toNat, by omega⟩
          have hM : midL l C = (l.drop fr).take (tt - fr) := by
            unfold midL
            rw [hLN, hfr, htt, Int.toNat_natCast, show ((tt : Int) - (fr : Int)).toNat = tt - fr by omega]
          rw [hfr, htt] at hs
          rw [hfr] at f0 f1
          rw [htt] at t0 t1
          rw [htt] at hT0
          have h1 : fr < tt := by omega
          have h2 : tt ≤ N := by omega
          have HA := Lib.hid (fun (W : World) (hb : Below wr.heap.size wr W) => aligned_all A7 A8 n c7 n c8 n 0 (List.replicate C.length (midL l C)) (C.map (cutR l)) (C.map fun p => 0 - p.1) W (hr7.later hb) (hr8.later hb) (by omega) (by omega) (.inr ⟨r0, .inr ⟨by rw [t0, f0]; omega, rfl, a0.symm, rfl⟩⟩))
          have HB := Lib.hid (fun (W : World) (hb : Below wr.heap.size wr W) => aligned_all A7 A9 n c7 n c9 n 0 (List.replicate C.length (midL l C)) (C.map (cutR l)) (C.map fun p => m - p.1) W (hr7.later hb) (hr9.later hb) (by omega) (by omega) (.inr ⟨r1, .inr ⟨by rw [t1, f1]; omega, rfl, a1.symm, rfl⟩⟩))
          rw [hM] at HA HB
          rw [hfr, htt]
          obtain ⟨b0, rfl, hb0b, _⟩ := h.2 (by omega)
          have hfin := (smpE_ok2 l HSM.out)
          obtain ⟨MM, hMM⟩ : ∃ M, M = (l.drop fr).take (tt - fr) := ⟨_, rfl⟩
          rw [← hMM] at HA HB
          have hMl : MM.length = tt - fr := by rw [hMM, List.length_take, List.length_drop]; omega
          have hMf : ∀ x ∈ MM, fin Ieee.single x = true := fun x hx => hfin x (List.mem_of_mem_drop (List.mem_of_mem_take (hMM ▸ hx)))
          have HMM := Lib.hid hMM
          have HML := Lib.hid hMl
          have HMF := Lib.hid hMf
          have HBEL := Lib.hid hbel
          have d7 : decide ((tt : Int) ≤ (fr : Int)) = false := decide_eq_false (by omega)
          have d8 : decide (tt ≤ fr) = false := decide_eq_false (by omega)
          have d9 : ((n : Int) != (n : Int)) = false := by simp
          have hy1 : (0 : Int) ≤ (fr : Int) := by omega
          have hy2 : (fr : Int) ≤ (tt : Int) := by omega
          have hy3 : (tt : Int) ≤ (c : Int) := by omega
          have hy4 : c ≠ fr := by omega
          have HH1 := Lib.hid h1
          have HH2 := Lib.hid h2
          clear r0 r1 f0 f1 t0 t1 hs hr7 hr8 hr9 hv hval hLN hCn hF0 hT0 hbel hap a0 a1 hM hMM hMl hMf hfin hfr htt h1 h2
          have HCL2 := Lib.hid hCL
          clear hCL
          go_wp2_with fail
          refine (HA.out wr (Below.refl _ _)).mono ?_
          rintro e w2 ⟨B1, k1, rfl, hR1, hb2⟩
          go_wp2_with fail
          refine (HB.out w2 hb2).mono ?_
          rintro e w3 ⟨B2, k2, rfl, hR2, hb3⟩
          have hB3 := HBEL.out.trans ((hb2.trans (hb3.mono hb2.size)).mono HBEL.out.size)
          replace hR1 := hR1.later hb3
          clear hb2 hb3 HA HB
          go_wp2_with fail
          go_loopg [18, 148] n (fun q v18 s W => ∃ k : Nat, k ≤ n ∧ s = .int .i64 k ∧ n - k ≤ q ∧ Below w3.heap.size w3 W)
          case atStart => exact ⟨0, Nat.zero_le _, rfl, by omega, Below.refl _ _⟩
          case round =>
            obtain ⟨k, hk, rfl, hq, hbel⟩ := hrel
            by_cases h0 : k < n
            · obtain ⟨ad1, hk1, B1', d1', rfl, hbb1, hcell1, hlc1, hcm1, hrd1⟩ := (hR1.later hbel).row h0
              obtain ⟨ad2, hk2, B2', d2', rfl, hbb2, hcell2, hlc2, hcm2, hrd2⟩ := (hR2.later hbel).row h0
              simp only [List.getElem_map, List.getElem_replicate, List.length_map] at hcell1 hlc1 hrd1 hcell2 hlc2 hrd2
              rw [HML.out] at hcell1 hlc1 hrd1 hcell2 hlc2 hrd2
              have hB4 := hB3.trans (hbel.mono hB3.size)
              have hcut : ∀ W : World, Below w.heap.size w W → Reads W W.heap.size 1 (some (b0.add fr)) (tt - fr) (MM.map f32v) := fun W hb => by
                have hx := ((h.later hb).dropN (k := fr) (by have := HH1.out; have := HH2.out; omega)).take (m := tt - fr) (by have := HH1.out; have := HH2.out; omega)
                rw [← List.map_drop, ← List.map_take, ← HMM.out] at hx
                exact hx
              have HS1 := Lib.hid (sameFloats_posz B1' (some (b0.add fr)) (tt - fr) d1' (c - fr) MM wr.drew (hrd1.later (Below.refl _ _).drew) (hcut _ hB4.drew) (by have := HH1.out; have := HH2.out; unfold maxLen; omega) HMF.out)
              have HS2 := Lib.hid (fun (W : World) (hb : Below wr.heap.size wr W) => sameFloats_posz B2' (some (b0.add fr)) (tt - fr) d2' (c - fr) MM W (hrd2.later hb) (hcut _ (hB4.trans (hb.mono hB4.size))) (by have := HH1.out; have := HH2.out; unfold maxLen; omega) HMF.out)
              have hl1 : (ad1.add k).block < wr.heap.size := by rw [block_of_add]; exact hbb1
              have hl2 : (ad2.add k).block < wr.heap.size := by rw [block_of_add]; exact hbb2
              have hk0 : (0 : Int) ≤ (k : Int) := by omega
              have hk9 : (k : Int) < (n : Int) := by omega
              clear hrd1 hrd2 hcut
              go_wp2_with fail
              go_upto_region 24 with (fail)
              have x1 : wr.drew.cell? (ad1.add k) = some (.slice B1' (tt - fr) d1') := hcell1
              have x2 : wr.drew.cell? (ad2.add k) = some (.slice B2' (tt - fr) d2') := hcell2
              go_region_held3 (fun w' => w'.cell? (ad1.add k) = some (.slice B1' (tt - fr) d1') ∧ w'.cell? (ad2.add k) = some (.slice B2' (tt - fr) d2'))
                ((first | (with_reducible exact ⟨z1, z2⟩) | (with_reducible exact ⟨y1, y2⟩) | (with_reducible exact ⟨x1, x2⟩)))
                (first
                  | (go_at_call_of 44 (Value.slice B1' (tt - fr) d1'); refine HS1.out.mono ?_; rintro e w8 ⟨rfl, hb8'⟩; have hb8 : Below wr.heap.size wr w8 := ⟨hb8'.os, hb8'.tape, hb8'.output, hb8'.size, hb8'.block⟩; clear hb8'; have y1 := (hb8.cell hl1).trans hcell1; have y2 := (hb8.cell hl2).trans hcell2)
                  | (go_at_call_of 44 (Value.slice B2' (tt - fr) d2'); refine (HS2.out w8 hb8).mono ?_; rintro e w9 ⟨rfl, hb9⟩; have z1 := (hb9.cell (Nat.lt_of_lt_of_le hl1 hb8.size)).trans y1; have z2 := (hb9.cell (Nat.lt_of_lt_of_le hl2 hb8.size)).trans y2))
              go_wp2
              go_roundg (n - (k + 1))
              case measure => omega
              case rel => exact ⟨k + 1, by omega, by go_num, Nat.le_refl _, hbel.trans ((hb8.trans (hb9.mono hb8.size)).mono hbel.size)⟩
            · have hB4 := hB3.trans (hbel.mono hB3.size)
              go_wp2_with fail
              refine (KV.out _ (hT.later hB4)).mono ?_
              rintro e w4 ⟨rfl, hb4⟩
              go_wp2_with fail
              go_ret
              exact ⟨rfl, hB4.trans (hb4.mono hB4.size)⟩

end Go.Proofs.YtboaojkblmddkaaGreatDoor

/- The law of skews: for all signals, cuts and numbers it returns true. -/
namespace Go.Proofs.YtboaojkblmddkaaGreatDoor
open Go.RowKit

/-- every input: true; nothing that was there has changed -/
theorem skews_any (A A' : Option Addr) (N c n c' : Nat) (m : Int) (l : List Nat) (C : List (Int × Int)) (w : World) (hT : Tabs w) (h : Reads w w.heap.size 1 A N (l.map f32v)) (hc : N ≤ c) (hcm : c ≤ maxLen) (hac : A = none → c = 0)
    (hp : PairsR w w.heap.size A' n C) (hn : n ≤ maxLen) :
    Calls Tryz.prog 10 #[.slice A N c, .slice A' n c', .int .i64 m] w fun e w' => e = .returned (.bool true) ∧ Below w.heap.size w w' := by
  by_cases hg : SkOk l n m
  · exact skews_main A A' N c n c' m l C w awake_ok hT h hac hc hcm hp hg
  · exact skews_turned A A' N c n c' m l w awake_ok hT h (Nat.le_trans hc hcm) hn hg

end Go.Proofs.YtboaojkblmddkaaGreatDoor
