/- ProbeBlocks: the law. -/
import Derived.Test.YtboaojkblmddkaaGreatDoorBkCxWr2
namespace Go.Proofs.YtboaojkblmddkaaGreatDoor
open Go.RowKit Bn

theorem range_setRow_at (w : World) (g : Nat) (t : TypeId) (old : Array Value) (cs : List Value) (h : w.heap[g]? = some (.cells old t (0, 0))) : (w.setRow g cs.toArray).rangeAt g 0 cs := by
  intro j v hj
  rw [cell_of_row _ g _ cs.toArray t (0, 0) (setRow_heap w g old cs.toArray t (0, 0) h), Nat.zero_add]
  simpa using hj

set_option maxHeartbeats 4000000 in
set_option maxRecDepth 100000 in
theorem blocks_none (A : Option Addr) (N c : Nat) (n : Int) (ws : List Nat) (w : World) (KV : AwakeOk) (hT : Tabs w)
    (hw : Reads w w.heap.size 1 A N (ws.map u16v)) (hac : A = none → c = 0) (hN : LenOk N 64) :
    Calls Tryz.prog 6 #[.slice A N c, .slice none 0 0, .int .i64 n] w fun e w' => e = .returned (.bool true) ∧ Below w.heap.size w w' := by
  have hbr : Reads w w.heap.size 16 none 0 (([] : List Nat).map u16v) := Reads.none_
  have HLE := Lib.hid (fun W => rLength_any N 64 W)
  have KV := Lib.hid KV
  have hN' := hN
  unfold LenOk at hN'
  rw [decide_eq_true hN'] at HLE
  have hN8 : N ≤ 4098 := by omega
  have HW := Lib.hid hw
  have HBR := Lib.hid hbr
  have HAC := Lib.hid hac
  have hlw : ws.length = N := hw.lenM
  have hbn : blkR ws N = if N = 16 then ws else List.replicate 16 0 := rfl
  have hbl : (blkR ws N).length = 16 := by
    unfold blkR
    split
    · omega
    · rw [List.length_replicate]
  have hBE : blkE N = if 4096 < N then 5 else if N = 16 then 0 else 2 := rfl
  have hE2 : blkE2 N = if 4096 < N then 5 else 0 := rfl
  have hB0 : 4096 < N → blksN N = 0 ∧ blksL ws N = [] := fun h => ⟨if_pos h, if_pos h⟩
  have hBk : blksN N ≤ 4096 := by unfold blksN; split <;> omega
  have HBO := Lib.hid (fun W c5 A5 (h : Reads W W.heap.size 1 A5 N (ws.map u16v)) h1 h2 => blocks_own A5 N c5 ws W h h1 h2)
  have HRB := Lib.hid (fun W (h : Reads W W.heap.size 1 A N (ws.map u16v)) h1 => rBlocks_any A N c ws W h h1)
  have HBL := Lib.hid (fun v2 W (h : W.ownsRow 0 63 1 v2 N (ws.map u16v)) => block_any N v2 ws W h)
  have heq := fun W => eq_blk (blkR ws N) (blkR ws N) hbl hbl W
  rw [show (blkR ws N == blkR ws N) = true from by simp] at heq
  have hcl : ((blkR ws N).map u16v).length = 16 := by rw [List.length_map]; exact hbl
  have hon : ∀ v ∈ (blkR ws N).map u16v, v.oneCell' = true := u16v_one _
  have hz16 : N ≠ 16 → ((blkR ws N).map u16v) = (#[.int .u16 0, .int .u16 0, .int .u16 0, .int .u16 0, .int .u16 0, .int .u16 0, .int .u16 0, .int .u16 0, .int .u16 0, .int .u16 0, .int .u16 0, .int .u16 0, .int .u16 0, .int .u16 0, .int .u16 0, .int .u16 0] : Array Value).toList := fun h => by rw [hbn, if_neg h]; rfl
  have hw16 : N = 16 → (blkR ws N) = ws := fun h => by rw [hbn, if_pos h]
  have hRU := fun W (h : Reads W W.heap.size 16 none 0 (([] : List Nat).map u16v)) => rUnpack_any none 0 0 n ([] : List Nat) W h (by unfold maxLen; omega)
  have hPU := fun v2 B W (h : W.ownsRow B 64 16 v2 0 (([] : List Nat).map u16v)) => unpack_any B v2 0 n ([] : List Nat) W h (by unfold maxLen; omega)
  have hURl : (unpR 0 ([] : List Nat) n).length ≤ maxLen := by
    have : (unpR 0 ([] : List Nat) n).length ≤ ([] : List Nat).length := by
      unfold unpR
      split
      · rw [List.length_take]; omega
      · simp
    have h2 := hbr.1
    rw [List.length_map] at h2
    unfold maxLen
    omega
  generalize unpR 0 ([] : List Nat) n = UR at *
  generalize unpE 0 ([] : List Nat) n = UE at *
  generalize hUL : UR.length = UL at *
  have huu : (UE == UE) = true := by simp
  have HULL := Lib.hid hURl
  have HRU := Lib.hid hRU
  have HPU := Lib.hid hPU
  generalize blkR ws N = BR at *
  generalize blkE N = BE at *
  generalize blkE2 N = E2 at *
  generalize blksN N = BN at *
  generalize blksL ws N = BL at *
  have HBE := Lib.hid hBE
  have HE2 := Lib.hid hE2
  have HB0 := Lib.hid hB0
  have HBK := Lib.hid hBk
  have HZ16 := Lib.hid hz16
  have HW16 := Lib.hid hw16
  have heq2 : (BR.map u16v).toArray.size = 16 := by rw [List.size_toArray]; exact hcl
  generalize hcs : BR.map u16v = cs at *
  have HCS := Lib.hid hcs
  have hi78 : (Tryz.prog.info? 64).map (·.size) = some cs.toArray.size := by
    rw [List.size_toArray, hcl]; kernel_rfl
  have hi78' : (Tryz.prog.info? 64).map (·.size) = some cs.length := by
    rw [hcl]; kernel_rfl
  have H78 := Lib.hid hi78
  have H78' := Lib.hid hi78'
  have HSZ := Lib.hid (show (16 : Nat) = cs.toArray.size from heq2.symm)
  have HON := Lib.hid hon
  obtain ⟨i0, hi0, hz0, hz1, hz2⟩ := info_parts info_blk
  clear hN hN' hw hbr hac hlw hbn hbl hBE hE2 hB0 hBk hcl hon hz16 hw16 hRU hPU hURl hUL heq2 hcs hi78 hi78'
  go_enter Tryz.func6, Tryz.ntmps6
  go_wp2_with fail
  refine (HLE.out _).mono ?_
  rintro e w1 ⟨rfl, rfl⟩
  clear HLE
  go_wp2_with fail
  refine (wordsCopy_own A N c ws w HW.out (by omega) HAC.out).mono ?_
  rintro e w2 ⟨v2, rfl, ho2, hb2⟩
  have ho2' := own_mono ho2 (Nat.zero_le _)
  have hle2 := hb2.size
  clear ho2
  go_wp2_with fail
  refine (HBL.out v2 w2 ho2').mono ?_
  rintro e w3 ⟨rfl, hb3⟩
  have hB3 := hb2.trans (hb3.mono hle2)
  have hB4 := below_setRow_new hB3 hB3.size (.cells #[.int .u16 0, .int .u16 0, .int .u16 0, .int .u16 0, .int .u16 0, .int .u16 0, .int .u16 0, .int .u16 0, .int .u16 0, .int .u16 0, .int .u16 0, .int .u16 0, .int .u16 0, .int .u16 0, .int .u16 0, .int .u16 0] 64) cs.toArray
  have hr7 := range_setRow w3 64 #[.int .u16 0, .int .u16 0, .int .u16 0, .int .u16 0, .int .u16 0, .int .u16 0, .int .u16 0, .int .u16 0, .int .u16 0, .int .u16 0, .int .u16 0, .int .u16 0, .int .u16 0, .int .u16 0, .int .u16 0, .int .u16 0] cs
  have hlt7 : w3.heap.size < ((w3.alloc (.cells #[.int .u16 0, .int .u16 0, .int .u16 0, .int .u16 0, .int .u16 0, .int .u16 0, .int .u16 0, .int .u16 0, .int .u16 0, .int .u16 0, .int .u16 0, .int .u16 0, .int .u16 0, .int .u16 0, .int .u16 0, .int .u16 0] 64)).setRow w3.heap.size cs.toArray).heap.size := by simp [World.setRow]
  have HB4 := Lib.hid hB4
  have HR7 := Lib.hid hr7
  have HLT7 := Lib.hid hlt7
  clear ho2' hb2 hb3 hB3 hB4 hr7 hlt7 hle2
  go_wp2_with (refine wpList_store_row rfl 64 (.tmp 7) (.tmp 43) rfl w3.heap.size cs.toArray rfl rfl 64 _ (heap_alloc_new _ _) H78.out HSZ.out (all_oneCell_toArray HON.out) ?_)
  have hB4 := HB4.out
  have hr7 := HR7.out
  have hlt7 := HLT7.out
  clear HB4 HR7 HLT7
  generalize ((w3.alloc (.cells #[.int .u16 0, .int .u16 0, .int .u16 0, .int .u16 0, .int .u16 0, .int .u16 0, .int .u16 0, .int .u16 0, .int .u16 0, .int .u16 0, .int .u16 0, .int .u16 0, .int .u16 0, .int .u16 0, .int .u16 0, .int .u16 0] 64)).setRow w3.heap.size cs.toArray) = w4 at *
  generalize w3.heap.size = b7 at *
  refine (wordsCopy_own A N c ws w4 (HW.out.later hB4) (by omega) HAC.out).mono ?_
  rintro e w5 ⟨v5, rfl, ho5, hb5⟩
  obtain ⟨A5, c5, rfl, hc5, hm5, hr5⟩ := own_slice ho5
  have hB5 := hB4.trans (hb5.mono hB4.size)
  have hr75 := range_below hr7 hb5 hlt7
  have hlt75 := Nat.lt_of_lt_of_le hlt7 hb5.size
  clear ho5 hB4 hr7 hlt7 hb5
  go_wp2_with fail
  refine (HBO.out w5 c5 A5 hr5 hc5 hm5).mono ?_
  rintro e w6 ⟨A6, c6, rfl, hr6, ha6, hb6⟩
  have hB6 := hB5.trans (hb6.mono hB5.size)
  have hr76 := range_below hr75 hb6 hlt75
  have hlt76 := Nat.lt_of_lt_of_le hlt75 hb6.size
  clear hr5 hc5 hm5 hB5 hr75 hlt75 hb6 HBO
  have ho8 := own_empty16 w6 w6.heap.size 64 (Nat.le_refl _)
  have hb8 : Below w6.heap.size w6 (w6.alloc (.cells #[] 64)) := (Below.refl _ _).alloc (Nat.le_refl _) _
  have HO8 := Lib.hid ho8
  have HB8 := Lib.hid hb8
  clear ho8 hb8
  go_wp2_with fail
  obtain ⟨A8, c8, hv8, HU⟩ := HPU.out _ _ _ HO8.out
  injection hv8 with z1 z2 z3
  subst z1 z3
  have hb8 := HB8.out
  clear HO8 HB8
  generalize w6.alloc (.cells #[] 64) = w8 at *
  refine HU.mono ?_
  rintro e w9 ⟨A9, c9, rfl, hr9, hb9⟩
  have hB8 := hB6.trans (hb8.mono hB6.size)
  have hB9 := hB8.trans (hb9.mono hB8.size)
  have hr69 := (hr6.later hb8).later hb9
  have hlt78 := Nat.lt_of_lt_of_le hlt76 hb8.size
  have hr79 := range_below (range_below hr76 hb8 hlt76) hb9 hlt78
  have hlt79 := Nat.lt_of_lt_of_le hlt78 hb9.size
  clear HU HPU hB6 hB8 hb8 hb9 hr6 hr76 hlt76 hlt78
  have hA := (Below.refl w9.heap.size w9).alloc (Nat.le_refl _) (.cells #[.int .u16 0, .int .u16 0, .int .u16 0, .int .u16 0, .int .u16 0, .int .u16 0, .int .u16 0, .int .u16 0, .int .u16 0, .int .u16 0, .int .u16 0, .int .u16 0, .int .u16 0, .int .u16 0, .int .u16 0, .int .u16 0] 64)
  have hra := range_alloc w9 64 #[.int .u16 0, .int .u16 0, .int .u16 0, .int .u16 0, .int .u16 0, .int .u16 0, .int .u16 0, .int .u16 0, .int .u16 0, .int .u16 0, .int .u16 0, .int .u16 0, .int .u16 0, .int .u16 0, .int .u16 0, .int .u16 0]
  have hnew := heap_alloc_new w9 (.cells #[.int .u16 0, .int .u16 0, .int .u16 0, .int .u16 0, .int .u16 0, .int .u16 0, .int .u16 0, .int .u16 0, .int .u16 0, .int .u16 0, .int .u16 0, .int .u16 0, .int .u16 0, .int .u16 0, .int .u16 0, .int .u16 0] 64)
  have hlta : w9.heap.size < (w9.alloc (.cells #[.int .u16 0, .int .u16 0, .int .u16 0, .int .u16 0, .int .u16 0, .int .u16 0, .int .u16 0, .int .u16 0, .int .u16 0, .int .u16 0, .int .u16 0, .int .u16 0, .int .u16 0, .int .u16 0, .int .u16 0, .int .u16 0] 64)).heap.size := by simp
  have HA := Lib.hid hA
  have HRA := Lib.hid hra
  have HNEW := Lib.hid hnew
  have HLTA := Lib.hid hlta
  clear hA hra hnew hlta
  by_cases h16 : N = 16
  · subst h16
    obtain rfl := HW16.out rfl
    have hbe : BE = 0 := HBE.out
    subst hbe
    have hee : E2 = 0 := HE2.out
    subst hee
    go_wp2_with fail
    have hA := HA.out
    have hra := HRA.out
    have hnew := HNEW.out
    have hlta := HLTA.out
    clear HA HRA HNEW HLTA
    generalize w9.alloc (.cells #[.int .u16 0, .int .u16 0, .int .u16 0, .int .u16 0, .int .u16 0, .int .u16 0, .int .u16 0, .int .u16 0, .int .u16 0, .int .u16 0, .int .u16 0, .int .u16 0, .int .u16 0, .int .u16 0, .int .u16 0, .int .u16 0] 64) = wa at *
    have hBa := hB9.trans (hA.mono hB9.size)
    have H16 := rBlocks_16 A c BR wa (HW.out.later hBa)
    rw [HCS.out] at H16
    refine H16.mono ?_
    rintro e wb ⟨rfl, hrb, hbb⟩
    have hAb := hA.trans (hbb.mono hA.size)
    have hnewb := (hbb.block _ hlta).trans hnew
    have hAc := below_setRow hAb (Nat.le_refl w9.heap.size) cs.toArray
    have hrc := range_setRow_at wb w9.heap.size 64 _ cs hnewb
    have hltc : w9.heap.size < (wb.setRow w9.heap.size cs.toArray).heap.size := by
      have := Nat.lt_of_lt_of_le hlta hbb.size
      simpa [World.setRow] using this
    have HAC2 := Lib.hid hAc
    have HRC := Lib.hid hrc
    have HLTC := Lib.hid hltc
    have HNB := Lib.hid hnewb
    have HRBB := Lib.hid hrb
    clear hA hra hnew hlta hBa H16 hbb hAb hnewb hAc hrc hltc hrb
    go_wp2_with (first
      | (refine wpList_load_mid rfl 64 (.tmp 64) rfl wa.heap.size 0 rfl cs _ HRBB.out Tryz.underlying64 rfl H78'.out ?_)
      | (refine wpList_store_row rfl 64 (.tmp 13) (.tmp 65) rfl w9.heap.size cs.toArray rfl rfl 64 _ HNB.out H78.out HSZ.out (all_oneCell_toArray HON.out) ?_))
    have hAc := HAC2.out
    have hrc := HRC.out
    have hltc := HLTC.out
    clear HAC2 HRC HLTC HNB HRBB
    generalize wb.setRow w9.heap.size cs.toArray = wc at *
    have hBc := hB9.trans (hAc.mono hB9.size)
    refine (HRB.out wc (HW.out.later hBc) (by omega)).mono ?_
    rintro e wd ⟨rfl, hrd, hbd⟩
    have hag : 0 < BN → ∃ g, some (⟨wc.heap.size, 0, none⟩ : Addr) = some ⟨g, 0, none⟩ := fun _ => ⟨_, rfl⟩
    generalize (some (⟨wc.heap.size, 0, none⟩ : Addr)) = AW at *
    have hBd := hBc.trans (hbd.mono hBc.size)
    have hr6d := (hr69.later hAc).later hbd
    have hr9d := (hr9.later hAc).later hbd
    have hr7d := range_below (range_below hr79 hAc hlt79) hbd (Nat.lt_of_lt_of_le hlt79 hAc.size)
    have hrad := range_below hrc hbd hltc
    have hlt7d := Nat.lt_of_lt_of_le (Nat.lt_of_lt_of_le hlt79 hAc.size) hbd.size
    have hltad := Nat.lt_of_lt_of_le hltc hbd.size
    clear hr69 hr9 hr79 hrc hlt79 hltc hbd hBc hAc hB9
    generalize w9.heap.size = b13 at *
    go_wp2_with fail
    refine (HRU.out wd (HBR.out.later hBd)).mono ?_
    rintro e we ⟨AX, cX, rfl, hrX, hbe⟩
    have hBe := hBd.trans (hbe.mono hBd.size)
    have R7 := Lib.hid (range_below hr7d hbe hlt7d)
    have R13 := Lib.hid (range_below hrad hbe hltad)
    have hr6e := hr6d.later hbe
    have hr9e := hr9d.later hbe
    have hrde := hrd.later hbe
    have HSB := Lib.hid (fun c1 c2 => sameBlocks_eq A6 AW BN c1 c2 BL we hr6e hrde (by have := HBK.out; omega) ha6 hag)
    clear hr7d hrad hlt7d hltad hbe hr6d hr9d hrd hBd hr6e hrde
    go_wp2_with (first
      | (refine wpList_load_mid rfl 64 (.tmp 7) rfl b7 0 rfl cs _ R7.out Tryz.underlying64 rfl H78'.out ?_)
      | (refine wpList_load_mid rfl 64 (.tmp 13) rfl b13 0 rfl cs _ R13.out Tryz.underlying64 rfl H78'.out ?_))
    refine (HSB.out _ _).mono ?_
    rintro e wf ⟨rfl, hbf⟩
    have hBf := hBe.trans (hbf.mono hBe.size)
    have HS := Lib.hid (sameWords_eq A9 AX UL c9 cX UR wf (hr9e.later hbf) (hrX.later hbf) HULL.out)
    clear hr9e hrX hbf HSB hBe
    go_wp2_with fail
    refine HS.out.mono ?_
    rintro e wg ⟨rfl, hbg⟩
    have hBg := hBf.trans (hbg.mono hBf.size)
    go_wp2_with fail
    refine (KV.out wg (hT.later hBg)).mono ?_
    rintro e wh ⟨rfl, hbh⟩
    go_wp2_with fail
    go_ret
    exact ⟨rfl, hBg.trans (hbh.mono hBg.size)⟩
  · by_cases hbig : 4096 < N
    · have dN : ((N : Int) == 16) = false := by rw [beq_eq_false_iff_ne]; omega
      have dm : decide ((4096 : Int) < (N : Int)) = true := by simpa using (show (4096 : Int) < N from by omega)
      have hbe : BE = 5 := by rw [HBE.out, if_pos hbig]
      subst hbe
      have hee : E2 = 5 := by rw [HE2.out, if_pos hbig]
      subst hee
      obtain ⟨hbn0, hbl0⟩ := HB0.out hbig
      subst hbn0 hbl0
      have hzz := HZ16.out h16
      have hra : (w9.alloc (.cells #[.int .u16 0, .int .u16 0, .int .u16 0, .int .u16 0, .int .u16 0, .int .u16 0, .int .u16 0, .int .u16 0, .int .u16 0, .int .u16 0, .int .u16 0, .int .u16 0, .int .u16 0, .int .u16 0, .int .u16 0, .int .u16 0] 64)).rangeAt w9.heap.size 0 cs := by rw [hzz]; exact HRA.out
      have HRA2 := Lib.hid hra
      clear hra HRA hzz HNEW
      go_wp2_with fail
      have hA := HA.out
      have hra := HRA2.out
      have hlta := HLTA.out
      clear HA HRA2 HLTA
      generalize w9.alloc (.cells #[.int .u16 0, .int .u16 0, .int .u16 0, .int .u16 0, .int .u16 0, .int .u16 0, .int .u16 0, .int .u16 0, .int .u16 0, .int .u16 0, .int .u16 0, .int .u16 0, .int .u16 0, .int .u16 0, .int .u16 0, .int .u16 0] 64) = wd at *
      have hBd := hB9.trans (hA.mono hB9.size)
      have hr6d := hr69.later hA
      have hr9d := hr9.later hA
      have hr7d := range_below hr79 hA hlt79
      have hrad := hra
      have hlt7d := Nat.lt_of_lt_of_le hlt79 hA.size
      have hltad := hlta
      have hrd : Reads wd wd.heap.size 16 none 0 (([] : List Nat).map u16v) := Reads.none_
      have hag : 0 < 0 → ∃ g, (none : Option Addr) = some ⟨g, 0, none⟩ := fun h => absurd h (Nat.lt_irrefl _)
      clear hr69 hr9 hr79 hra hlt79 hlta hA hB9
      generalize w9.heap.size = b13 at *
      go_wp2_with fail
      refine (HRU.out wd (HBR.out.later hBd)).mono ?_
      rintro e we ⟨AX, cX, rfl, hrX, hbe⟩
      have hBe := hBd.trans (hbe.mono hBd.size)
      have R7 := Lib.hid (range_below hr7d hbe hlt7d)
      have R13 := Lib.hid (range_below hrad hbe hltad)
      have hr6e := hr6d.later hbe
      have hr9e := hr9d.later hbe
      have hrde := hrd.later hbe
      have HSB := Lib.hid (fun c1 c2 => sameBlocks_eq A6 none 0 c1 c2 [] we hr6e hrde (by have := HBK.out; omega) ha6 hag)
      clear hr7d hrad hlt7d hltad hbe hr6d hr9d hrd hBd hr6e hrde
      go_wp2_with (first
        | (refine wpList_load_mid rfl 64 (.tmp 7) rfl b7 0 rfl cs _ R7.out Tryz.underlying64 rfl H78'.out ?_)
        | (refine wpList_load_mid rfl 64 (.tmp 13) rfl b13 0 rfl cs _ R13.out Tryz.underlying64 rfl H78'.out ?_))
      refine (HSB.out _ _).mono ?_
      rintro e wf ⟨rfl, hbf⟩
      have hBf := hBe.trans (hbf.mono hBe.size)
      have HS := Lib.hid (sameWords_eq A9 AX UL c9 cX UR wf (hr9e.later hbf) (hrX.later hbf) HULL.out)
      clear hr9e hrX hbf HSB hBe
      go_wp2_with fail
      refine HS.out.mono ?_
      rintro e wg ⟨rfl, hbg⟩
      have hBg := hBf.trans (hbg.mono hBf.size)
      go_wp2_with fail
      refine (KV.out wg (hT.later hBg)).mono ?_
      rintro e wh ⟨rfl, hbh⟩
      go_wp2_with fail
      go_ret
      exact ⟨rfl, hBg.trans (hbh.mono hBg.size)⟩
    · have dN : ((N : Int) == 16) = false := by rw [beq_eq_false_iff_ne]; omega
      have dm : decide ((4096 : Int) < (N : Int)) = false := by simpa using (show ¬ (4096 : Int) < N from by omega)
      have hbe : BE = 2 := by rw [HBE.out, if_neg hbig, if_neg h16]
      subst hbe
      have hee : E2 = 0 := by rw [HE2.out, if_neg hbig]
      subst hee
      have hzz := HZ16.out h16
      have hra : (w9.alloc (.cells #[.int .u16 0, .int .u16 0, .int .u16 0, .int .u16 0, .int .u16 0, .int .u16 0, .int .u16 0, .int .u16 0, .int .u16 0, .int .u16 0, .int .u16 0, .int .u16 0, .int .u16 0, .int .u16 0, .int .u16 0, .int .u16 0] 64)).rangeAt w9.heap.size 0 cs := by rw [hzz]; exact HRA.out
      have HRA2 := Lib.hid hra
      clear hra HRA hzz HNEW
      go_wp2_with fail
      have hA := HA.out
      have hra := HRA2.out
      have hlta := HLTA.out
      clear HA HRA2 HLTA
      generalize w9.alloc (.cells #[.int .u16 0, .int .u16 0, .int .u16 0, .int .u16 0, .int .u16 0, .int .u16 0, .int .u16 0, .int .u16 0, .int .u16 0, .int .u16 0, .int .u16 0, .int .u16 0, .int .u16 0, .int .u16 0, .int .u16 0, .int .u16 0] 64) = wa at *
      have hBa := hB9.trans (hA.mono hB9.size)
      refine (HRB.out wa (HW.out.later hBa) (by omega)).mono ?_
      rintro e wd ⟨rfl, hrd, hbd⟩
      have hag : 0 < BN → ∃ g, some (⟨wa.heap.size, 0, none⟩ : Addr) = some ⟨g, 0, none⟩ := fun _ => ⟨_, rfl⟩
      generalize (some (⟨wa.heap.size, 0, none⟩ : Addr)) = AW at *
      have hBd := hBa.trans (hbd.mono hBa.size)
      have hr6d := (hr69.later hA).later hbd
      have hr9d := (hr9.later hA).later hbd
      have hr7d := range_below (range_below hr79 hA hlt79) hbd (Nat.lt_of_lt_of_le hlt79 hA.size)
      have hrad := range_below hra hbd hlta
      have hlt7d := Nat.lt_of_lt_of_le (Nat.lt_of_lt_of_le hlt79 hA.size) hbd.size
      have hltad := Nat.lt_of_lt_of_le hlta hbd.size
      clear hr69 hr9 hr79 hra hlt79 hlta hbd hBa hA hB9
      generalize w9.heap.size = b13 at *
      go_wp2_with fail
      refine (HRU.out wd (HBR.out.later hBd)).mono ?_
      rintro e we ⟨AX, cX, rfl, hrX, hbe⟩
      have hBe := hBd.trans (hbe.mono hBd.size)
      have R7 := Lib.hid (range_below hr7d hbe hlt7d)
      have R13 := Lib.hid (range_below hrad hbe hltad)
      have hr6e := hr6d.later hbe
      have hr9e := hr9d.later hbe
      have hrde := hrd.later hbe
      have HSB := Lib.hid (fun c1 c2 => sameBlocks_eq A6 AW BN c1 c2 BL we hr6e hrde (by have := HBK.out; omega) ha6 hag)
      clear hr7d hrad hlt7d hltad hbe hr6d hr9d hrd hBd hr6e hrde
      go_wp2_with (first
        | (refine wpList_load_mid rfl 64 (.tmp 7) rfl b7 0 rfl cs _ R7.out Tryz.underlying64 rfl H78'.out ?_)
        | (refine wpList_load_mid rfl 64 (.tmp 13) rfl b13 0 rfl cs _ R13.out Tryz.underlying64 rfl H78'.out ?_))
      refine (HSB.out _ _).mono ?_
      rintro e wf ⟨rfl, hbf⟩
      have hBf := hBe.trans (hbf.mono hBe.size)
      have HS := Lib.hid (sameWords_eq A9 AX UL c9 cX UR wf (hr9e.later hbf) (hrX.later hbf) HULL.out)
      clear hr9e hrX hbf HSB hBe
      go_wp2_with fail
      refine HS.out.mono ?_
      rintro e wg ⟨rfl, hbg⟩
      have hBg := hBf.trans (hbg.mono hBf.size)
      go_wp2_with fail
      refine (KV.out wg (hT.later hBg)).mono ?_
      rintro e wh ⟨rfl, hbh⟩
      go_wp2_with fail
      go_ret
      exact ⟨rfl, hBg.trans (hbh.mono hBg.size)⟩

set_option maxHeartbeats 4000000 in
set_option maxRecDepth 100000 in
theorem blocks_small (A : Option Addr) (a1 : Addr) (N c k c' : Nat) (n : Int) (ws WS : List Nat) (w : World) (KV : AwakeOk) (hT : Tabs w)
    (hw : Reads w w.heap.size 1 A N (ws.map u16v)) (hac : A = none → c = 0) (hN : LenOk N 64)
    (hbr : Reads w w.heap.size 16 (some a1) k (WS.map u16v)) (hk : k ≤ 6) :
    Calls Tryz.prog 6 #[.slice A N c, .slice (some a1) k c', .int .i64 n] w fun e w' => e = .returned (.bool true) ∧ Below w.heap.size w w' := by
  have g1 : decide ((6 : Int) < (k : Int)) = false := by simpa using (show ¬ (6 : Int) < k from by omega)
  have g3 : decide ((258 : Int) < (k : Int)) = false := by simpa using (show ¬ (258 : Int) < k from by omega)
  have HLE := Lib.hid (fun W => rLength_any N 64 W)
  have KV := Lib.hid KV
  have hN' := hN
  unfold LenOk at hN'
  rw [decide_eq_true hN'] at HLE
  have hN8 : N ≤ 4098 := by omega
  have HW := Lib.hid hw
  have HBR := Lib.hid hbr
  have HAC := Lib.hid hac
  have hlw : ws.length = N := hw.lenM
  have hbn : blkR ws N = if N = 16 then ws else List.replicate 16 0 := rfl
  have hbl : (blkR ws N).length = 16 := by
    unfold blkR
    split
    · omega
    · rw [List.length_replicate]
  have hBE : blkE N = if 4096 < N then 5 else if N = 16 then 0 else 2 := rfl
  have hE2 : blkE2 N = if 4096 < N then 5 else 0 := rfl
  have hB0 : 4096 < N → blksN N = 0 ∧ blksL ws N = [] := fun h => ⟨if_pos h, if_pos h⟩
  have hBk : blksN N ≤ 4096 := by unfold blksN; split <;> omega
  have HBO := Lib.hid (fun W c5 A5 (h : Reads W W.heap.size 1 A5 N (ws.map u16v)) h1 h2 => blocks_own A5 N c5 ws W h h1 h2)
  have HRB := Lib.hid (fun W (h : Reads W W.heap.size 1 A N (ws.map u16v)) h1 => rBlocks_any A N c ws W h h1)
  have HBL := Lib.hid (fun v2 W (h : W.ownsRow 0 63 1 v2 N (ws.map u16v)) => block_any N v2 ws W h)
  have heq := fun W => eq_blk (blkR ws N) (blkR ws N) hbl hbl W
  rw [show (blkR ws N == blkR ws N) = true from by simp] at heq
  have hcl : ((blkR ws N).map u16v).length = 16 := by rw [List.length_map]; exact hbl
  have hon : ∀ v ∈ (blkR ws N).map u16v, v.oneCell' = true := u16v_one _
  have hz16 : N ≠ 16 → ((blkR ws N).map u16v) = (#[.int .u16 0, .int .u16 0, .int .u16 0, .int .u16 0, .int .u16 0, .int .u16 0, .int .u16 0, .int .u16 0, .int .u16 0, .int .u16 0, .int .u16 0, .int .u16 0, .int .u16 0, .int .u16 0, .int .u16 0, .int .u16 0] : Array Value).toList := fun h => by rw [hbn, if_neg h]; rfl
  have hw16 : N = 16 → (blkR ws N) = ws := fun h => by rw [hbn, if_pos h]
  have hRU := fun W (h : Reads W W.heap.size 16 (some a1) k (WS.map u16v)) => rUnpack_any (some a1) k c' n WS W h (by unfold maxLen; omega)
  have hPU := fun v2 B W (h : W.ownsRow B 64 16 v2 k (WS.map u16v)) => unpack_any B v2 k n WS W h (by unfold maxLen; omega)
  have hURl : (unpR k WS n).length ≤ maxLen := by
    have : (unpR k WS n).length ≤ WS.length := by
      unfold unpR
      split
      · rw [List.length_take]; omega
      · simp
    have h2 := hbr.1
    rw [List.length_map] at h2
    unfold maxLen
    omega
  generalize unpR k WS n = UR at *
  generalize unpE k WS n = UE at *
  generalize hUL : UR.length = UL at *
  have huu : (UE == UE) = true := by simp
  have HULL := Lib.hid hURl
  have HRU := Lib.hid hRU
  have HPU := Lib.hid hPU
  generalize blkR ws N = BR at *
  generalize blkE N = BE at *
  generalize blkE2 N = E2 at *
  generalize blksN N = BN at *
  generalize blksL ws N = BL at *
  have HBE := Lib.hid hBE
  have HE2 := Lib.hid hE2
  have HB0 := Lib.hid hB0
  have HBK := Lib.hid hBk
  have HZ16 := Lib.hid hz16
  have HW16 := Lib.hid hw16
  have heq2 : (BR.map u16v).toArray.size = 16 := by rw [List.size_toArray]; exact hcl
  generalize hcs : BR.map u16v = cs at *
  have HCS := Lib.hid hcs
  have hi78 : (Tryz.prog.info? 64).map (·.size) = some cs.toArray.size := by
    rw [List.size_toArray, hcl]; kernel_rfl
  have hi78' : (Tryz.prog.info? 64).map (·.size) = some cs.length := by
    rw [hcl]; kernel_rfl
  have H78 := Lib.hid hi78
  have H78' := Lib.hid hi78'
  have HSZ := Lib.hid (show (16 : Nat) = cs.toArray.size from heq2.symm)
  have HON := Lib.hid hon
  obtain ⟨i0, hi0, hz0, hz1, hz2⟩ := info_parts info_blk
  clear hN hN' hw hbr hac hlw hbn hbl hBE hE2 hB0 hBk hcl hon hz16 hw16 hRU hPU hURl hUL heq2 hcs hi78 hi78'
  go_enter Tryz.func6, Tryz.ntmps6
  go_wp2_with fail
  refine (HLE.out _).mono ?_
  rintro e w1 ⟨rfl, rfl⟩
  clear HLE
  go_wp2_with fail
  refine (wordsCopy_own A N c ws w HW.out (by omega) HAC.out).mono ?_
  rintro e w2 ⟨v2, rfl, ho2, hb2⟩
  have ho2' := own_mono ho2 (Nat.zero_le _)
  have hle2 := hb2.size
  clear ho2
  go_wp2_with fail
  refine (HBL.out v2 w2 ho2').mono ?_
  rintro e w3 ⟨rfl, hb3⟩
  have hB3 := hb2.trans (hb3.mono hle2)
  have hB4 := below_setRow_new hB3 hB3.size (.cells #[.int .u16 0, .int .u16 0, .int .u16 0, .int .u16 0, .int .u16 0, .int .u16 0, .int .u16 0, .int .u16 0, .int .u16 0, .int .u16 0, .int .u16 0, .int .u16 0, .int .u16 0, .int .u16 0, .int .u16 0, .int .u16 0] 64) cs.toArray
  have hr7 := range_setRow w3 64 #[.int .u16 0, .int .u16 0, .int .u16 0, .int .u16 0, .int .u16 0, .int .u16 0, .int .u16 0, .int .u16 0, .int .u16 0, .int .u16 0, .int .u16 0, .int .u16 0, .int .u16 0, .int .u16 0, .int .u16 0, .int .u16 0] cs
  have hlt7 : w3.heap.size < ((w3.alloc (.cells #[.int .u16 0, .int .u16 0, .int .u16 0, .int .u16 0, .int .u16 0, .int .u16 0, .int .u16 0, .int .u16 0, .int .u16 0, .int .u16 0, .int .u16 0, .int .u16 0, .int .u16 0, .int .u16 0, .int .u16 0, .int .u16 0] 64)).setRow w3.heap.size cs.toArray).heap.size := by simp [World.setRow]
  have HB4 := Lib.hid hB4
  have HR7 := Lib.hid hr7
  have HLT7 := Lib.hid hlt7
  clear ho2' hb2 hb3 hB3 hB4 hr7 hlt7 hle2
  go_wp2_with (refine wpList_store_row rfl 64 (.tmp 7) (.tmp 43) rfl w3.heap.size cs.toArray rfl rfl 64 _ (heap_alloc_new _ _) H78.out HSZ.out (all_oneCell_toArray HON.out) ?_)
  have hB4 := HB4.out
  have hr7 := HR7.out
  have hlt7 := HLT7.out
  clear HB4 HR7 HLT7
  generalize ((w3.alloc (.cells #[.int .u16 0, .int .u16 0, .int .u16 0, .int .u16 0, .int .u16 0, .int .u16 0, .int .u16 0, .int .u16 0, .int .u16 0, .int .u16 0, .int .u16 0, .int .u16 0, .int .u16 0, .int .u16 0, .int .u16 0, .int .u16 0] 64)).setRow w3.heap.size cs.toArray) = w4 at *
  generalize w3.heap.size = b7 at *
  refine (wordsCopy_own A N c ws w4 (HW.out.later hB4) (by omega) HAC.out).mono ?_
  rintro e w5 ⟨v5, rfl, ho5, hb5⟩
  obtain ⟨A5, c5, rfl, hc5, hm5, hr5⟩ := own_slice ho5
  have hB5 := hB4.trans (hb5.mono hB4.size)
  have hr75 := range_below hr7 hb5 hlt7
  have hlt75 := Nat.lt_of_lt_of_le hlt7 hb5.size
  clear ho5 hB4 hr7 hlt7 hb5
  go_wp2_with fail
  refine (HBO.out w5 c5 A5 hr5 hc5 hm5).mono ?_
  rintro e w6 ⟨A6, c6, rfl, hr6, ha6, hb6⟩
  have hB6 := hB5.trans (hb6.mono hB5.size)
  have hr76 := range_below hr75 hb6 hlt75
  have hlt76 := Nat.lt_of_lt_of_le hlt75 hb6.size
  clear hr5 hc5 hm5 hB5 hr75 hlt75 hb6 HBO
  have hbA : Below w6.heap.size w6 (w6.alloc (.cells #[] 64)) := (Below.refl _ _).alloc (Nat.le_refl _) _
  have hone : ∀ u ∈ WS.map u16v, u.oneCell' = true := u16v_one WS
  have HONE := Lib.hid hone
  have hrb6 := (HBR.out.later hB6).below hbA
  have hco := cells_over16 hrb6
  have hwl := hrb6.1
  have HCO := Lib.hid hco
  have HWLL := Lib.hid hwl
  clear hone hrb6 hco hwl
  go_wp2_with (at_builtin; refine wpList_append_own _ rfl _ _ 62 rfl w6.heap.size 64 i0 _ 16 32 Tryz.underlying62 hi0 hz0 hz1 hz2 rfl (by decide) _ _ _ rfl (own_empty16 w6 w6.heap.size 64 (Nat.le_refl _)) a1 k c' (WS.map u16v) rfl ?c0 ?c1 ?c2 ?c3 ?c4 ?c5 ?_)
  case c0 => exact HWLL.out
  case c1 => exact HCO.out
  case c2 => exact HONE.out
  case c3 => unfold maxLen; omega
  case c4 => omega
  case c5 => simp
  intro v8 w8 ho8 hgrow8 _
  have hb8 : Below w6.heap.size w6 w8 := hbA.grown hgrow8 (by simp) (fun g hg => by simp [Value.ownBlock] at hg; omega)
  obtain ⟨A8, c8, rfl, HU⟩ := HPU.out _ _ _ ho8
  clear ho8 hgrow8 hbA HCO HONE HWLL
  go_wp2_with fail
  refine HU.mono ?_
  rintro e w9 ⟨A9, c9, rfl, hr9, hb9⟩
  have hB8 := hB6.trans (hb8.mono hB6.size)
  have hB9 := hB8.trans (hb9.mono hB8.size)
  have hr69 := (hr6.later hb8).later hb9
  have hlt78 := Nat.lt_of_lt_of_le hlt76 hb8.size
  have hr79 := range_below (range_below hr76 hb8 hlt76) hb9 hlt78
  have hlt79 := Nat.lt_of_lt_of_le hlt78 hb9.size
  clear HU HPU hB6 hB8 hb8 hb9 hr6 hr76 hlt76 hlt78
  have hA := (Below.refl w9.heap.size w9).alloc (Nat.le_refl _) (.cells #[.int .u16 0, .int .u16 0, .int .u16 0, .int .u16 0, .int .u16 0, .int .u16 0, .int .u16 0, .int .u16 0, .int .u16 0, .int .u16 0, .int .u16 0, .int .u16 0, .int .u16 0, .int .u16 0, .int .u16 0, .int .u16 0] 64)
  have hra := range_alloc w9 64 #[.int .u16 0, .int .u16 0, .int .u16 0, .int .u16 0, .int .u16 0, .int .u16 0, .int .u16 0, .int .u16 0, .int .u16 0, .int .u16 0, .int .u16 0, .int .u16 0, .int .u16 0, .int .u16 0, .int .u16 0, .int .u16 0]
  have hnew := heap_alloc_new w9 (.cells #[.int .u16 0, .int .u16 0, .int .u16 0, .int .u16 0, .int .u16 0, .int .u16 0, .int .u16 0, .int .u16 0, .int .u16 0, .int .u16 0, .int .u16 0, .int .u16 0, .int .u16 0, .int .u16 0, .int .u16 0, .int .u16 0] 64)
  have hlta : w9.heap.size < (w9.alloc (.cells #[.int .u16 0, .int .u16 0, .int .u16 0, .int .u16 0, .int .u16 0, .int .u16 0, .int .u16 0, .int .u16 0, .int .u16 0, .int .u16 0, .int .u16 0, .int .u16 0, .int .u16 0, .int .u16 0, .int .u16 0, .int .u16 0] 64)).heap.size := by simp
  have HA := Lib.hid hA
  have HRA := Lib.hid hra
  have HNEW := Lib.hid hnew
  have HLTA := Lib.hid hlta
  clear hA hra hnew hlta
  by_cases h16 : N = 16
  · subst h16
    obtain rfl := HW16.out rfl
    have hbe : BE = 0 := HBE.out
    subst hbe
    have hee : E2 = 0 := HE2.out
    subst hee
    go_wp2_with fail
    have hA := HA.out
    have hra := HRA.out
    have hnew := HNEW.out
    have hlta := HLTA.out
    clear HA HRA HNEW HLTA
    generalize w9.alloc (.cells #[.int .u16 0, .int .u16 0, .int .u16 0, .int .u16 0, .int .u16 0, .int .u16 0, .int .u16 0, .int .u16 0, .int .u16 0, .int .u16 0, .int .u16 0, .int .u16 0, .int .u16 0, .int .u16 0, .int .u16 0, .int .u16 0] 64) = wa at *
    have hBa := hB9.trans (hA.mono hB9.size)
    have H16 := rBlocks_16 A c BR wa (HW.out.later hBa)
    rw [HCS.out] at H16
    refine H16.mono ?_
    rintro e wb ⟨rfl, hrb, hbb⟩
    have hAb := hA.trans (hbb.mono hA.size)
    have hnewb := (hbb.block _ hlta).trans hnew
    have hAc := below_setRow hAb (Nat.le_refl w9.heap.size) cs.toArray
    have hrc := range_setRow_at wb w9.heap.size 64 _ cs hnewb
    have hltc : w9.heap.size < (wb.setRow w9.heap.size cs.toArray).heap.size := by
      have := Nat.lt_of_lt_of_le hlta hbb.size
      simpa [World.setRow] using this
    have HAC2 := Lib.hid hAc
    have HRC := Lib.hid hrc
    have HLTC := Lib.hid hltc
    have HNB := Lib.hid hnewb
    have HRBB := Lib.hid hrb
    clear hA hra hnew hlta hBa H16 hbb hAb hnewb hAc hrc hltc hrb
    go_wp2_with (first
      | (refine wpList_load_mid rfl 64 (.tmp 64) rfl wa.heap.size 0 rfl cs _ HRBB.out Tryz.underlying64 rfl H78'.out ?_)
      | (refine wpList_store_row rfl 64 (.tmp 13) (.tmp 65) rfl w9.heap.size cs.toArray rfl rfl 64 _ HNB.out H78.out HSZ.out (all_oneCell_toArray HON.out) ?_))
    have hAc := HAC2.out
    have hrc := HRC.out
    have hltc := HLTC.out
    clear HAC2 HRC HLTC HNB HRBB
    generalize wb.setRow w9.heap.size cs.toArray = wc at *
    have hBc := hB9.trans (hAc.mono hB9.size)
    refine (HRB.out wc (HW.out.later hBc) (by omega)).mono ?_
    rintro e wd ⟨rfl, hrd, hbd⟩
    have hag : 0 < BN → ∃ g, some (⟨wc.heap.size, 0, none⟩ : Addr) = some ⟨g, 0, none⟩ := fun _ => ⟨_, rfl⟩
    generalize (some (⟨wc.heap.size, 0, none⟩ : Addr)) = AW at *
    have hBd := hBc.trans (hbd.mono hBc.size)
    have hr6d := (hr69.later hAc).later hbd
    have hr9d := (hr9.later hAc).later hbd
    have hr7d := range_below (range_below hr79 hAc hlt79) hbd (Nat.lt_of_lt_of_le hlt79 hAc.size)
    have hrad := range_below hrc hbd hltc
    have hlt7d := Nat.lt_of_lt_of_le (Nat.lt_of_lt_of_le hlt79 hAc.size) hbd.size
    have hltad := Nat.lt_of_lt_of_le hltc hbd.size
    clear hr69 hr9 hr79 hrc hlt79 hltc hbd hBc hAc hB9
    generalize w9.heap.size = b13 at *
    go_wp2_with fail
    refine (HRU.out wd (HBR.out.later hBd)).mono ?_
    rintro e we ⟨AX, cX, rfl, hrX, hbe⟩
    have hBe := hBd.trans (hbe.mono hBd.size)
    have R7 := Lib.hid (range_below hr7d hbe hlt7d)
    have R13 := Lib.hid (range_below hrad hbe hltad)
    have hr6e := hr6d.later hbe
    have hr9e := hr9d.later hbe
    have hrde := hrd.later hbe
    have HSB := Lib.hid (fun c1 c2 => sameBlocks_eq A6 AW BN c1 c2 BL we hr6e hrde (by have := HBK.out; omega) ha6 hag)
    clear hr7d hrad hlt7d hltad hbe hr6d hr9d hrd hBd hr6e hrde
    go_wp2_with (first
      | (refine wpList_load_mid rfl 64 (.tmp 7) rfl b7 0 rfl cs _ R7.out Tryz.underlying64 rfl H78'.out ?_)
      | (refine wpList_load_mid rfl 64 (.tmp 13) rfl b13 0 rfl cs _ R13.out Tryz.underlying64 rfl H78'.out ?_))
    refine (HSB.out _ _).mono ?_
    rintro e wf ⟨rfl, hbf⟩
    have hBf := hBe.trans (hbf.mono hBe.size)
    have HS := Lib.hid (sameWords_eq A9 AX UL c9 cX UR wf (hr9e.later hbf) (hrX.later hbf) HULL.out)
    clear hr9e hrX hbf HSB hBe
    go_wp2_with fail
    refine HS.out.mono ?_
    rintro e wg ⟨rfl, hbg⟩
    have hBg := hBf.trans (hbg.mono hBf.size)
    go_wp2_with fail
    refine (KV.out wg (hT.later hBg)).mono ?_
    rintro e wh ⟨rfl, hbh⟩
    go_wp2_with fail
    go_ret
    exact ⟨rfl, hBg.trans (hbh.mono hBg.size)⟩
  · by_cases hbig : 4096 < N
    · have dN : ((N : Int) == 16) = false := by rw [beq_eq_false_iff_ne]; omega
      have dm : decide ((4096 : Int) < (N : Int)) = true := by simpa using (show (4096 : Int) < N from by omega)
      have hbe : BE = 5 := by rw [HBE.out, if_pos hbig]
      subst hbe
      have hee : E2 = 5 := by rw [HE2.out, if_pos hbig]
      subst hee
      obtain ⟨hbn0, hbl0⟩ := HB0.out hbig
      subst hbn0 hbl0
      have hzz := HZ16.out h16
      have hra : (w9.alloc (.cells #[.int .u16 0, .int .u16 0, .int .u16 0, .int .u16 0, .int .u16 0, .int .u16 0, .int .u16 0, .int .u16 0, .int .u16 0, .int .u16 0, .int .u16 0, .int .u16 0, .int .u16 0, .int .u16 0, .int .u16 0, .int .u16 0] 64)).rangeAt w9.heap.size 0 cs := by rw [hzz]; exact HRA.out
      have HRA2 := Lib.hid hra
      clear hra HRA hzz HNEW
      go_wp2_with fail
      have hA := HA.out
      have hra := HRA2.out
      have hlta := HLTA.out
      clear HA HRA2 HLTA
      generalize w9.alloc (.cells #[.int .u16 0, .int .u16 0, .int .u16 0, .int .u16 0, .int .u16 0, .int .u16 0, .int .u16 0, .int .u16 0, .int .u16 0, .int .u16 0, .int .u16 0, .int .u16 0, .int .u16 0, .int .u16 0, .int .u16 0, .int .u16 0] 64) = wd at *
      have hBd := hB9.trans (hA.mono hB9.size)
      have hr6d := hr69.later hA
      have hr9d := hr9.later hA
      have hr7d := range_below hr79 hA hlt79
      have hrad := hra
      have hlt7d := Nat.lt_of_lt_of_le hlt79 hA.size
      have hltad := hlta
      have hrd : Reads wd wd.heap.size 16 none 0 (([] : List Nat).map u16v) := Reads.none_
      have hag : 0 < 0 → ∃ g, (none : Option Addr) = some ⟨g, 0, none⟩ := fun h => absurd h (Nat.lt_irrefl _)
      clear hr69 hr9 hr79 hra hlt79 hlta hA hB9
      generalize w9.heap.size = b13 at *
      go_wp2_with fail
      refine (HRU.out wd (HBR.out.later hBd)).mono ?_
      rintro e we ⟨AX, cX, rfl, hrX, hbe⟩
      have hBe := hBd.trans (hbe.mono hBd.size)
      have R7 := Lib.hid (range_below hr7d hbe hlt7d)
      have R13 := Lib.hid (range_below hrad hbe hltad)
      have hr6e := hr6d.later hbe
      have hr9e := hr9d.later hbe
      have hrde := hrd.later hbe
      have HSB := Lib.hid (fun c1 c2 => sameBlocks_eq A6 none 0 c1 c2 [] we hr6e hrde (by have := HBK.out; omega) ha6 hag)
      clear hr7d hrad hlt7d hltad hbe hr6d hr9d hrd hBd hr6e hrde
      go_wp2_with (first
        | (refine wpList_load_mid rfl 64 (.tmp 7) rfl b7 0 rfl cs _ R7.out Tryz.underlying64 rfl H78'.out ?_)
        | (refine wpList_load_mid rfl 64 (.tmp 13) rfl b13 0 rfl cs _ R13.out Tryz.underlying64 rfl H78'.out ?_))
      refine (HSB.out _ _).mono ?_
      rintro e wf ⟨rfl, hbf⟩
      have hBf := hBe.trans (hbf.mono hBe.size)
      have HS := Lib.hid (sameWords_eq A9 AX UL c9 cX UR wf (hr9e.later hbf) (hrX.later hbf) HULL.out)
      clear hr9e hrX hbf HSB hBe
      go_wp2_with fail
      refine HS.out.mono ?_
      rintro e wg ⟨rfl, hbg⟩
      have hBg := hBf.trans (hbg.mono hBf.size)
      go_wp2_with fail
      refine (KV.out wg (hT.later hBg)).mono ?_
      rintro e wh ⟨rfl, hbh⟩
      go_wp2_with fail
      go_ret
      exact ⟨rfl, hBg.trans (hbh.mono hBg.size)⟩
    · have dN : ((N : Int) == 16) = false := by rw [beq_eq_false_iff_ne]; omega
      have dm : decide ((4096 : Int) < (N : Int)) = false := by simpa using (show ¬ (4096 : Int) < N from by omega)
      have hbe : BE = 2 := by rw [HBE.out, if_neg hbig, if_neg h16]
      subst hbe
      have hee : E2 = 0 := by rw [HE2.out, if_neg hbig]
      subst hee
      have hzz := HZ16.out h16
      have hra : (w9.alloc (.cells #[.int .u16 0, .int .u16 0, .int .u16 0, .int .u16 0, .int .u16 0, .int .u16 0, .int .u16 0, .int .u16 0, .int .u16 0, .int .u16 0, .int .u16 0, .int .u16 0, .int .u16 0, .int .u16 0, .int .u16 0, .int .u16 0] 64)).rangeAt w9.heap.size 0 cs := by rw [hzz]; exact HRA.out
      have HRA2 := Lib.hid hra
      clear hra HRA hzz HNEW
      go_wp2_with fail
      have hA := HA.out
      have hra := HRA2.out
      have hlta := HLTA.out
      clear HA HRA2 HLTA
      generalize w9.alloc (.cells #[.int .u16 0, .int .u16 0, .int .u16 0, .int .u16 0, .int .u16 0, .int .u16 0, .int .u16 0, .int .u16 0, .int .u16 0, .int .u16 0, .int .u16 0, .int .u16 0, .int .u16 0, .int .u16 0, .int .u16 0, .int .u16 0] 64) = wa at *
      have hBa := hB9.trans (hA.mono hB9.size)
      refine (HRB.out wa (HW.out.later hBa) (by omega)).mono ?_
      rintro e wd ⟨rfl, hrd, hbd⟩
      have hag : 0 < BN → ∃ g, some (⟨wa.heap.size, 0, none⟩ : Addr) = some ⟨g, 0, none⟩ := fun _ => ⟨_, rfl⟩
      generalize (some (⟨wa.heap.size, 0, none⟩ : Addr)) = AW at *
      have hBd := hBa.trans (hbd.mono hBa.size)
      have hr6d := (hr69.later hA).later hbd
      have hr9d := (hr9.later hA).later hbd
      have hr7d := range_below (range_below hr79 hA hlt79) hbd (Nat.lt_of_lt_of_le hlt79 hA.size)
      have hrad := range_below hra hbd hlta
      have hlt7d := Nat.lt_of_lt_of_le (Nat.lt_of_lt_of_le hlt79 hA.size) hbd.size
      have hltad := Nat.lt_of_lt_of_le hlta hbd.size
      clear hr69 hr9 hr79 hra hlt79 hlta hbd hBa hA hB9
      generalize w9.heap.size = b13 at *
      go_wp2_with fail
      refine (HRU.out wd (HBR.out.later hBd)).mono ?_
      rintro e we ⟨AX, cX, rfl, hrX, hbe⟩
      have hBe := hBd.trans (hbe.mono hBd.size)
      have R7 := Lib.hid (range_below hr7d hbe hlt7d)
      have R13 := Lib.hid (range_below hrad hbe hltad)
      have hr6e := hr6d.later hbe
      have hr9e := hr9d.later hbe
      have hrde := hrd.later hbe
      have HSB := Lib.hid (fun c1 c2 => sameBlocks_eq A6 AW BN c1 c2 BL we hr6e hrde (by have := HBK.out; omega) ha6 hag)
      clear hr7d hrad hlt7d hltad hbe hr6d hr9d hrd hBd hr6e hrde
      go_wp2_with (first
        | (refine wpList_load_mid rfl 64 (.tmp 7) rfl b7 0 rfl cs _ R7.out Tryz.underlying64 rfl H78'.out ?_)
        | (refine wpList_load_mid rfl 64 (.tmp 13) rfl b13 0 rfl cs _ R13.out Tryz.underlying64 rfl H78'.out ?_))
      refine (HSB.out _ _).mono ?_
      rintro e wf ⟨rfl, hbf⟩
      have hBf := hBe.trans (hbf.mono hBe.size)
      have HS := Lib.hid (sameWords_eq A9 AX UL c9 cX UR wf (hr9e.later hbf) (hrX.later hbf) HULL.out)
      clear hr9e hrX hbf HSB hBe
      go_wp2_with fail
      refine HS.out.mono ?_
      rintro e wg ⟨rfl, hbg⟩
      have hBg := hBf.trans (hbg.mono hBf.size)
      go_wp2_with fail
      refine (KV.out wg (hT.later hBg)).mono ?_
      rintro e wh ⟨rfl, hbh⟩
      go_wp2_with fail
      go_ret
      exact ⟨rfl, hBg.trans (hbh.mono hBg.size)⟩

set_option maxHeartbeats 4000000 in
set_option maxRecDepth 100000 in
theorem blocks_large (A : Option Addr) (a1 : Addr) (N c k c' : Nat) (n : Int) (ws WS : List Nat) (w : World) (KV : AwakeOk) (hT : Tabs w)
    (hw : Reads w w.heap.size 1 A N (ws.map u16v)) (hac : A = none → c = 0) (hN : LenOk N 64)
    (hbr : Reads w w.heap.size 16 (some a1) k (WS.map u16v)) (hk : 256 < k ∧ k ≤ 258) :
    Calls Tryz.prog 6 #[.slice A N c, .slice (some a1) k c', .int .i64 n] w fun e w' => e = .returned (.bool true) ∧ Below w.heap.size w w' := by
  have g1 : decide ((6 : Int) < (k : Int)) = true := by simpa using (show (6 : Int) < k from by omega)
  have g2 : decide ((k : Int) ≤ 256) = false := by simpa using (show ¬ (k : Int) ≤ 256 from by omega)
  have g3 : decide ((258 : Int) < (k : Int)) = false := by simpa using (show ¬ (258 : Int) < k from by omega)
  have HLE := Lib.hid (fun W => rLength_any N 64 W)
  have KV := Lib.hid KV
  have hN' := hN
  unfold LenOk at hN'
  rw [decide_eq_true hN'] at HLE
  have hN8 : N ≤ 4098 := by omega
  have HW := Lib.hid hw
  have HBR := Lib.hid hbr
  have HAC := Lib.hid hac
  have hlw : ws.length = N := hw.lenM
  have hbn : blkR ws N = if N = 16 then ws else List.replicate 16 0 := rfl
  have hbl : (blkR ws N).length = 16 := by
    unfold blkR
    split
    · omega
    · rw [List.length_replicate]
  have hBE : blkE N = if 4096 < N then 5 else if N = 16 then 0 else 2 := rfl
  have hE2 : blkE2 N = if 4096 < N then 5 else 0 := rfl
  have hB0 : 4096 < N → blksN N = 0 ∧ blksL ws N = [] := fun h => ⟨if_pos h, if_pos h⟩
  have hBk : blksN N ≤ 4096 := by unfold blksN; split <;> omega
  have HBO := Lib.hid (fun W c5 A5 (h : Reads W W.heap.size 1 A5 N (ws.map u16v)) h1 h2 => blocks_own A5 N c5 ws W h h1 h2)
  have HRB := Lib.hid (fun W (h : Reads W W.heap.size 1 A N (ws.map u16v)) h1 => rBlocks_any A N c ws W h h1)
  have HBL := Lib.hid (fun v2 W (h : W.ownsRow 0 63 1 v2 N (ws.map u16v)) => block_any N v2 ws W h)
  have heq := fun W => eq_blk (blkR ws N) (blkR ws N) hbl hbl W
  rw [show (blkR ws N == blkR ws N) = true from by simp] at heq
  have hcl : ((blkR ws N).map u16v).length = 16 := by rw [List.length_map]; exact hbl
  have hon : ∀ v ∈ (blkR ws N).map u16v, v.oneCell' = true := u16v_one _
  have hz16 : N ≠ 16 → ((blkR ws N).map u16v) = (#[.int .u16 0, .int .u16 0, .int .u16 0, .int .u16 0, .int .u16 0, .int .u16 0, .int .u16 0, .int .u16 0, .int .u16 0, .int .u16 0, .int .u16 0, .int .u16 0, .int .u16 0, .int .u16 0, .int .u16 0, .int .u16 0] : Array Value).toList := fun h => by rw [hbn, if_neg h]; rfl
  have hw16 : N = 16 → (blkR ws N) = ws := fun h => by rw [hbn, if_pos h]
  have hRU := fun W (h : Reads W W.heap.size 16 (some a1) k (WS.map u16v)) => rUnpack_any (some a1) k c' n WS W h (by unfold maxLen; omega)
  have hPU := fun v2 B W (h : W.ownsRow B 64 16 v2 k (WS.map u16v)) => unpack_any B v2 k n WS W h (by unfold maxLen; omega)
  have hURl : (unpR k WS n).length ≤ maxLen := by
    have : (unpR k WS n).length ≤ WS.length := by
      unfold unpR
      split
      · rw [List.length_take]; omega
      · simp
    have h2 := hbr.1
    rw [List.length_map] at h2
    unfold maxLen
    omega
  generalize unpR k WS n = UR at *
  generalize unpE k WS n = UE at *
  generalize hUL : UR.length = UL at *
  have huu : (UE == UE) = true := by simp
  have HULL := Lib.hid hURl
  have HRU := Lib.hid hRU
  have HPU := Lib.hid hPU
  generalize blkR ws N = BR at *
  generalize blkE N = BE at *
  generalize blkE2 N = E2 at *
  generalize blksN N = BN at *
  generalize blksL ws N = BL at *
  have HBE := Lib.hid hBE
  have HE2 := Lib.hid hE2
  have HB0 := Lib.hid hB0
  have HBK := Lib.hid hBk
  have HZ16 := Lib.hid hz16
  have HW16 := Lib.hid hw16
  have heq2 : (BR.map u16v).toArray.size = 16 := by rw [List.size_toArray]; exact hcl
  generalize hcs : BR.map u16v = cs at *
  have HCS := Lib.hid hcs
  have hi78 : (Tryz.prog.info? 64).map (·.size) = some cs.toArray.size := by
    rw [List.size_toArray, hcl]; kernel_rfl
  have hi78' : (Tryz.prog.info? 64).map (·.size) = some cs.length := by
    rw [hcl]; kernel_rfl
  have H78 := Lib.hid hi78
  have H78' := Lib.hid hi78'
  have HSZ := Lib.hid (show (16 : Nat) = cs.toArray.size from heq2.symm)
  have HON := Lib.hid hon
  obtain ⟨i0, hi0, hz0, hz1, hz2⟩ := info_parts info_blk
  clear hN hN' hw hbr hac hlw hbn hbl hBE hE2 hB0 hBk hcl hon hz16 hw16 hRU hPU hURl hUL heq2 hcs hi78 hi78'
  go_enter Tryz.func6, Tryz.ntmps6
  go_wp2_with fail
  refine (HLE.out _).mono ?_
  rintro e w1 ⟨rfl, rfl⟩
  clear HLE
  go_wp2_with fail
  refine (wordsCopy_own A N c ws w HW.out (by omega) HAC.out).mono ?_
  rintro e w2 ⟨v2, rfl, ho2, hb2⟩
  have ho2' := own_mono ho2 (Nat.zero_le _)
  have hle2 := hb2.size
  clear ho2
  go_wp2_with fail
  refine (HBL.out v2 w2 ho2').mono ?_
  rintro e w3 ⟨rfl, hb3⟩
  have hB3 := hb2.trans (hb3.mono hle2)
  have hB4 := below_setRow_new hB3 hB3.size (.cells #[.int .u16 0, .int .u16 0, .int .u16 0, .int .u16 0, .int .u16 0, .int .u16 0, .int .u16 0, .int .u16 0, .int .u16 0, .int .u16 0, .int .u16 0, .int .u16 0, .int .u16 0, .int .u16 0, .int .u16 0, .int .u16 0] 64) cs.toArray
  have hr7 := range_setRow w3 64 #[.int .u16 0, .int .u16 0, .int .u16 0, .int .u16 0, .int .u16 0, .int .u16 0, .int .u16 0, .int .u16 0, .int .u16 0, .int .u16 0, .int .u16 0, .int .u16 0, .int .u16 0, .int .u16 0, .int .u16 0, .int .u16 0] cs
  have hlt7 : w3.heap.size < ((w3.alloc (.cells #[.int .u16 0, .int .u16 0, .int .u16 0, .int .u16 0, .int .u16 0, .int .u16 0, .int .u16 0, .int .u16 0, .int .u16 0, .int .u16 0, .int .u16 0, .int .u16 0, .int .u16 0, .int .u16 0, .int .u16 0, .int .u16 0] 64)).setRow w3.heap.size cs.toArray).heap.size := by simp [World.setRow]
  have HB4 := Lib.hid hB4
  have HR7 := Lib.hid hr7
  have HLT7 := Lib.hid hlt7
  clear ho2' hb2 hb3 hB3 hB4 hr7 hlt7 hle2
  go_wp2_with (refine wpList_store_row rfl 64 (.tmp 7) (.tmp 43) rfl w3.heap.size cs.toArray rfl rfl 64 _ (heap_alloc_new _ _) H78.out HSZ.out (all_oneCell_toArray HON.out) ?_)
  have hB4 := HB4.out
  have hr7 := HR7.out
  have hlt7 := HLT7.out
  clear HB4 HR7 HLT7
  generalize ((w3.alloc (.cells #[.int .u16 0, .int .u16 0, .int .u16 0, .int .u16 0, .int .u16 0, .int .u16 0, .int .u16 0, .int .u16 0, .int .u16 0, .int .u16 0, .int .u16 0, .int .u16 0, .int .u16 0, .int .u16 0, .int .u16 0, .int .u16 0] 64)).setRow w3.heap.size cs.toArray) = w4 at *
  generalize w3.heap.size = b7 at *
  refine (wordsCopy_own A N c ws w4 (HW.out.later hB4) (by omega) HAC.out).mono ?_
  rintro e w5 ⟨v5, rfl, ho5, hb5⟩
  obtain ⟨A5, c5, rfl, hc5, hm5, hr5⟩ := own_slice ho5
  have hB5 := hB4.trans (hb5.mono hB4.size)
  have hr75 := range_below hr7 hb5 hlt7
  have hlt75 := Nat.lt_of_lt_of_le hlt7 hb5.size
  clear ho5 hB4 hr7 hlt7 hb5
  go_wp2_with fail
  refine (HBO.out w5 c5 A5 hr5 hc5 hm5).mono ?_
  rintro e w6 ⟨A6, c6, rfl, hr6, ha6, hb6⟩
  have hB6 := hB5.trans (hb6.mono hB5.size)
  have hr76 := range_below hr75 hb6 hlt75
  have hlt76 := Nat.lt_of_lt_of_le hlt75 hb6.size
  clear hr5 hc5 hm5 hB5 hr75 hlt75 hb6 HBO
  have hbA : Below w6.heap.size w6 (w6.alloc (.cells #[] 64)) := (Below.refl _ _).alloc (Nat.le_refl _) _
  have hone : ∀ u ∈ WS.map u16v, u.oneCell' = true := u16v_one WS
  have HONE := Lib.hid hone
  have hrb6 := (HBR.out.later hB6).below hbA
  have hco := cells_over16 hrb6
  have hwl := hrb6.1
  have HCO := Lib.hid hco
  have HWLL := Lib.hid hwl
  clear hone hrb6 hco hwl
  go_wp2_with (at_builtin; refine wpList_append_own _ rfl _ _ 62 rfl w6.heap.size 64 i0 _ 16 32 Tryz.underlying62 hi0 hz0 hz1 hz2 rfl (by decide) _ _ _ rfl (own_empty16 w6 w6.heap.size 64 (Nat.le_refl _)) a1 k c' (WS.map u16v) rfl ?c0 ?c1 ?c2 ?c3 ?c4 ?c5 ?_)
  case c0 => exact HWLL.out
  case c1 => exact HCO.out
  case c2 => exact HONE.out
  case c3 => unfold maxLen; omega
  case c4 => omega
  case c5 => simp
  intro v8 w8 ho8 hgrow8 _
  have hb8 : Below w6.heap.size w6 w8 := hbA.grown hgrow8 (by simp) (fun g hg => by simp [Value.ownBlock] at hg; omega)
  obtain ⟨A8, c8, rfl, HU⟩ := HPU.out _ _ _ ho8
  clear ho8 hgrow8 hbA HCO HONE HWLL
  go_wp2_with fail
  refine HU.mono ?_
  rintro e w9 ⟨A9, c9, rfl, hr9, hb9⟩
  have hB8 := hB6.trans (hb8.mono hB6.size)
  have hB9 := hB8.trans (hb9.mono hB8.size)
  have hr69 := (hr6.later hb8).later hb9
  have hlt78 := Nat.lt_of_lt_of_le hlt76 hb8.size
  have hr79 := range_below (range_below hr76 hb8 hlt76) hb9 hlt78
  have hlt79 := Nat.lt_of_lt_of_le hlt78 hb9.size
  clear HU HPU hB6 hB8 hb8 hb9 hr6 hr76 hlt76 hlt78
  have hA := (Below.refl w9.heap.size w9).alloc (Nat.le_refl _) (.cells #[.int .u16 0, .int .u16 0, .int .u16 0, .int .u16 0, .int .u16 0, .int .u16 0, .int .u16 0, .int .u16 0, .int .u16 0, .int .u16 0, .int .u16 0, .int .u16 0, .int .u16 0, .int .u16 0, .int .u16 0, .int .u16 0] 64)
  have hra := range_alloc w9 64 #[.int .u16 0, .int .u16 0, .int .u16 0, .int .u16 0, .int .u16 0, .int .u16 0, .int .u16 0, .int .u16 0, .int .u16 0, .int .u16 0, .int .u16 0, .int .u16 0, .int .u16 0, .int .u16 0, .int .u16 0, .int .u16 0]
  have hnew := heap_alloc_new w9 (.cells #[.int .u16 0, .int .u16 0, .int .u16 0, .int .u16 0, .int .u16 0, .int .u16 0, .int .u16 0, .int .u16 0, .int .u16 0, .int .u16 0, .int .u16 0, .int .u16 0, .int .u16 0, .int .u16 0, .int .u16 0, .int .u16 0] 64)
  have hlta : w9.heap.size < (w9.alloc (.cells #[.int .u16 0, .int .u16 0, .int .u16 0, .int .u16 0, .int .u16 0, .int .u16 0, .int .u16 0, .int .u16 0, .int .u16 0, .int .u16 0, .int .u16 0, .int .u16 0, .int .u16 0, .int .u16 0, .int .u16 0, .int .u16 0] 64)).heap.size := by simp
  have HA := Lib.hid hA
  have HRA := Lib.hid hra
  have HNEW := Lib.hid hnew
  have HLTA := Lib.hid hlta
  clear hA hra hnew hlta
  by_cases h16 : N = 16
  · subst h16
    obtain rfl := HW16.out rfl
    have hbe : BE = 0 := HBE.out
    subst hbe
    have hee : E2 = 0 := HE2.out
    subst hee
    go_wp2_with fail
    have hA := HA.out
    have hra := HRA.out
    have hnew := HNEW.out
    have hlta := HLTA.out
    clear HA HRA HNEW HLTA
    generalize w9.alloc (.cells #[.int .u16 0, .int .u16 0, .int .u16 0, .int .u16 0, .int .u16 0, .int .u16 0, .int .u16 0, .int .u16 0, .int .u16 0, .int .u16 0, .int .u16 0, .int .u16 0, .int .u16 0, .int .u16 0, .int .u16 0, .int .u16 0] 64) = wa at *
    have hBa := hB9.trans (hA.mono hB9.size)
    have H16 := rBlocks_16 A c BR wa (HW.out.later hBa)
    rw [HCS.out] at H16
    refine H16.mono ?_
    rintro e wb ⟨rfl, hrb, hbb⟩
    have hAb := hA.trans (hbb.mono hA.size)
    have hnewb := (hbb.block _ hlta).trans hnew
    have hAc := below_setRow hAb (Nat.le_refl w9.heap.size) cs.toArray
    have hrc := range_setRow_at wb w9.heap.size 64 _ cs hnewb
    have hltc : w9.heap.size < (wb.setRow w9.heap.size cs.toArray).heap.size := by
      have := Nat.lt_of_lt_of_le hlta hbb.size
      simpa [World.setRow] using this
    have HAC2 := Lib.hid hAc
    have HRC := Lib.hid hrc
    have HLTC := Lib.hid hltc
    have HNB := Lib.hid hnewb
    have HRBB := Lib.hid hrb
    clear hA hra hnew hlta hBa H16 hbb hAb hnewb hAc hrc hltc hrb
    go_wp2_with (first
      | (refine wpList_load_mid rfl 64 (.tmp 64) rfl wa.heap.size 0 rfl cs _ HRBB.out Tryz.underlying64 rfl H78'.out ?_)
      | (refine wpList_store_row rfl 64 (.tmp 13) (.tmp 65) rfl w9.heap.size cs.toArray rfl rfl 64 _ HNB.out H78.out HSZ.out (all_oneCell_toArray HON.out) ?_))
    have hAc := HAC2.out
    have hrc := HRC.out
    have hltc := HLTC.out
    clear HAC2 HRC HLTC HNB HRBB
    generalize wb.setRow w9.heap.size cs.toArray = wc at *
    have hBc := hB9.trans (hAc.mono hB9.size)
    refine (HRB.out wc (HW.out.later hBc) (by omega)).mono ?_
    rintro e wd ⟨rfl, hrd, hbd⟩
    have hag : 0 < BN → ∃ g, some (⟨wc.heap.size, 0, none⟩ : Addr) = some ⟨g, 0, none⟩ := fun _ => ⟨_, rfl⟩
    generalize (some (⟨wc.heap.size, 0, none⟩ : Addr)) = AW at *
    have hBd := hBc.trans (hbd.mono hBc.size)
    have hr6d := (hr69.later hAc).later hbd
    have hr9d := (hr9.later hAc).later hbd
    have hr7d := range_below (range_below hr79 hAc hlt79) hbd (Nat.lt_of_lt_of_le hlt79 hAc.size)
    have hrad := range_below hrc hbd hltc
    have hlt7d := Nat.lt_of_lt_of_le (Nat.lt_of_lt_of_le hlt79 hAc.size) hbd.size
    have hltad := Nat.lt_of_lt_of_le hltc hbd.size
    clear hr69 hr9 hr79 hrc hlt79 hltc hbd hBc hAc hB9
    generalize w9.heap.size = b13 at *
    go_wp2_with fail
    refine (HRU.out wd (HBR.out.later hBd)).mono ?_
    rintro e we ⟨AX, cX, rfl, hrX, hbe⟩
    have hBe := hBd.trans (hbe.mono hBd.size)
    have R7 := Lib.hid (range_below hr7d hbe hlt7d)
    have R13 := Lib.hid (range_below hrad hbe hltad)
    have hr6e := hr6d.later hbe
    have hr9e := hr9d.later hbe
    have hrde := hrd.later hbe
    have HSB := Lib.hid (fun c1 c2 => sameBlocks_eq A6 AW BN c1 c2 BL we hr6e hrde (by have := HBK.out; omega) ha6 hag)
    clear hr7d hrad hlt7d hltad hbe hr6d hr9d hrd hBd hr6e hrde
    go_wp2_with (first
      | (refine wpList_load_mid rfl 64 (.tmp 7) rfl b7 0 rfl cs _ R7.out Tryz.underlying64 rfl H78'.out ?_)
      | (refine wpList_load_mid rfl 64 (.tmp 13) rfl b13 0 rfl cs _ R13.out Tryz.underlying64 rfl H78'.out ?_))
    refine (HSB.out _ _).mono ?_
    rintro e wf ⟨rfl, hbf⟩
    have hBf := hBe.trans (hbf.mono hBe.size)
    have HS := Lib.hid (sameWords_eq A9 AX UL c9 cX UR wf (hr9e.later hbf) (hrX.later hbf) HULL.out)
    clear hr9e hrX hbf HSB hBe
    go_wp2_with fail
    refine HS.out.mono ?_
    rintro e wg ⟨rfl, hbg⟩
    have hBg := hBf.trans (hbg.mono hBf.size)
    go_wp2_with fail
    refine (KV.out wg (hT.later hBg)).mono ?_
    rintro e wh ⟨rfl, hbh⟩
    go_wp2_with fail
    go_ret
    exact ⟨rfl, hBg.trans (hbh.mono hBg.size)⟩
  · by_cases hbig : 4096 < N
    · have dN : ((N : Int) == 16) = false := by rw [beq_eq_false_iff_ne]; omega
      have dm : decide ((4096 : Int) < (N : Int)) = true := by simpa using (show (4096 : Int) < N from by omega)
      have hbe : BE = 5 := by rw [HBE.out, if_pos hbig]
      subst hbe
      have hee : E2 = 5 := by rw [HE2.out, if_pos hbig]
      subst hee
      obtain ⟨hbn0, hbl0⟩ := HB0.out hbig
      subst hbn0 hbl0
      have hzz := HZ16.out h16
      have hra : (w9.alloc (.cells #[.int .u16 0, .int .u16 0, .int .u16 0, .int .u16 0, .int .u16 0, .int .u16 0, .int .u16 0, .int .u16 0, .int .u16 0, .int .u16 0, .int .u16 0, .int .u16 0, .int .u16 0, .int .u16 0, .int .u16 0, .int .u16 0] 64)).rangeAt w9.heap.size 0 cs := by rw [hzz]; exact HRA.out
      have HRA2 := Lib.hid hra
      clear hra HRA hzz HNEW
      go_wp2_with fail
      have hA := HA.out
      have hra := HRA2.out
      have hlta := HLTA.out
      clear HA HRA2 HLTA
      generalize w9.alloc (.cells #[.int .u16 0, .int .u16 0, .int .u16 0, .int .u16 0, .int .u16 0, .int .u16 0, .int .u16 0, .int .u16 0, .int .u16 0, .int .u16 0, .int .u16 0, .int .u16 0, .int .u16 0, .int .u16 0, .int .u16 0, .int .u16 0] 64) = wd at *
      have hBd := hB9.trans (hA.mono hB9.size)
      have hr6d := hr69.later hA
      have hr9d := hr9.later hA
      have hr7d := range_below hr79 hA hlt79
      have hrad := hra
      have hlt7d := Nat.lt_of_lt_of_le hlt79 hA.size
      have hltad := hlta
      have hrd : Reads wd wd.heap.size 16 none 0 (([] : List Nat).map u16v) := Reads.none_
      have hag : 0 < 0 → ∃ g, (none : Option Addr) = some ⟨g, 0, none⟩ := fun h => absurd h (Nat.lt_irrefl _)
      clear hr69 hr9 hr79 hra hlt79 hlta hA hB9
      generalize w9.heap.size = b13 at *
      go_wp2_with fail
      refine (HRU.out wd (HBR.out.later hBd)).mono ?_
      rintro e we ⟨AX, cX, rfl, hrX, hbe⟩
      have hBe := hBd.trans (hbe.mono hBd.size)
      have R7 := Lib.hid (range_below hr7d hbe hlt7d)
      have R13 := Lib.hid (range_below hrad hbe hltad)
      have hr6e := hr6d.later hbe
      have hr9e := hr9d.later hbe
      have hrde := hrd.later hbe
      have HSB := Lib.hid (fun c1 c2 => sameBlocks_eq A6 none 0 c1 c2 [] we hr6e hrde (by have := HBK.out; omega) ha6 hag)
      clear hr7d hrad hlt7d hltad hbe hr6d hr9d hrd hBd hr6e hrde
      go_wp2_with (first
        | (refine wpList_load_mid rfl 64 (.tmp 7) rfl b7 0 rfl cs _ R7.out Tryz.underlying64 rfl H78'.out ?_)
        | (refine wpList_load_mid rfl 64 (.tmp 13) rfl b13 0 rfl cs _ R13.out Tryz.underlying64 rfl H78'.out ?_))
      refine (HSB.out _ _).mono ?_
      rintro e wf ⟨rfl, hbf⟩
      have hBf := hBe.trans (hbf.mono hBe.size)
      have HS := Lib.hid (sameWords_eq A9 AX UL c9 cX UR wf (hr9e.later hbf) (hrX.later hbf) HULL.out)
      clear hr9e hrX hbf HSB hBe
      go_wp2_with fail
      refine HS.out.mono ?_
      rintro e wg ⟨rfl, hbg⟩
      have hBg := hBf.trans (hbg.mono hBf.size)
      go_wp2_with fail
      refine (KV.out wg (hT.later hBg)).mono ?_
      rintro e wh ⟨rfl, hbh⟩
      go_wp2_with fail
      go_ret
      exact ⟨rfl, hBg.trans (hbh.mono hBg.size)⟩
    · have dN : ((N : Int) == 16) = false := by rw [beq_eq_false_iff_ne]; omega
      have dm : decide ((4096 : Int) < (N : Int)) = false := by simpa using (show ¬ (4096 : Int) < N from by omega)
      have hbe : BE = 2 := by rw [HBE.out, if_neg hbig, if_neg h16]
      subst hbe
      have hee : E2 = 0 := by rw [HE2.out, if_neg hbig]
      subst hee
      have hzz := HZ16.out h16
      have hra : (w9.alloc (.cells #[.int .u16 0, .int .u16 0, .int .u16 0, .int .u16 0, .int .u16 0, .int .u16 0, .int .u16 0, .int .u16 0, .int .u16 0, .int .u16 0, .int .u16 0, .int .u16 0, .int .u16 0, .int .u16 0, .int .u16 0, .int .u16 0] 64)).rangeAt w9.heap.size 0 cs := by rw [hzz]; exact HRA.out
      have HRA2 := Lib.hid hra
      clear hra HRA hzz HNEW
      go_wp2_with fail
      have hA := HA.out
      have hra := HRA2.out
      have hlta := HLTA.out
      clear HA HRA2 HLTA
      generalize w9.alloc (.cells #[.int .u16 0, .int .u16 0, .int .u16 0, .int .u16 0, .int .u16 0, .int .u16 0, .int .u16 0, .int .u16 0, .int .u16 0, .int .u16 0, .int .u16 0, .int .u16 0, .int .u16 0, .int .u16 0, .int .u16 0, .int .u16 0] 64) = wa at *
      have hBa := hB9.trans (hA.mono hB9.size)
      refine (HRB.out wa (HW.out.later hBa) (by omega)).mono ?_
      rintro e wd ⟨rfl, hrd, hbd⟩
      have hag : 0 < BN → ∃ g, some (⟨wa.heap.size, 0, none⟩ : Addr) = some ⟨g, 0, none⟩ := fun _ => ⟨_, rfl⟩
      generalize (some (⟨wa.heap.size, 0, none⟩ : Addr)) = AW at *
      have hBd := hBa.trans (hbd.mono hBa.size)
      have hr6d := (hr69.later hA).later hbd
      have hr9d := (hr9.later hA).later hbd
      have hr7d := range_below (range_below hr79 hA hlt79) hbd (Nat.lt_of_lt_of_le hlt79 hA.size)
      have hrad := range_below hra hbd hlta
      have hlt7d := Nat.lt_of_lt_of_le (Nat.lt_of_lt_of_le hlt79 hA.size) hbd.size
      have hltad := Nat.lt_of_lt_of_le hlta hbd.size
      clear hr69 hr9 hr79 hra hlt79 hlta hbd hBa hA hB9
      generalize w9.heap.size = b13 at *
      go_wp2_with fail
      refine (HRU.out wd (HBR.out.later hBd)).mono ?_
      rintro e we ⟨AX, cX, rfl, hrX, hbe⟩
      have hBe := hBd.trans (hbe.mono hBd.size)
      have R7 := Lib.hid (range_below hr7d hbe hlt7d)
      have R13 := Lib.hid (range_below hrad hbe hltad)
      have hr6e := hr6d.later hbe
      have hr9e := hr9d.later hbe
      have hrde := hrd.later hbe
      have HSB := Lib.hid (fun c1 c2 => sameBlocks_eq A6 AW BN c1 c2 BL we hr6e hrde (by have := HBK.out; omega) ha6 hag)
      clear hr7d hrad hlt7d hltad hbe hr6d hr9d hrd hBd hr6e hrde
      go_wp2_with (first
        | (refine wpList_load_mid rfl 64 (.tmp 7) rfl b7 0 rfl cs _ R7.out Tryz.underlying64 rfl H78'.out ?_)
        | (refine wpList_load_mid rfl 64 (.tmp 13) rfl b13 0 rfl cs _ R13.out Tryz.underlying64 rfl H78'.out ?_))
      refine (HSB.out _ _).mono ?_
      rintro e wf ⟨rfl, hbf⟩
      have hBf := hBe.trans (hbf.mono hBe.size)
      have HS := Lib.hid (sameWords_eq A9 AX UL c9 cX UR wf (hr9e.later hbf) (hrX.later hbf) HULL.out)
      clear hr9e hrX hbf HSB hBe
      go_wp2_with fail
      refine HS.out.mono ?_
      rintro e wg ⟨rfl, hbg⟩
      have hBg := hBf.trans (hbg.mono hBf.size)
      go_wp2_with fail
      refine (KV.out wg (hT.later hBg)).mono ?_
      rintro e wh ⟨rfl, hbh⟩
      go_wp2_with fail
      go_ret
      exact ⟨rfl, hBg.trans (hbh.mono hBg.size)⟩

end Go.Proofs.YtboaojkblmddkaaGreatDoor
