/- Contracts of package probe, chapter 2. -/
import Derived.Test.YtmkihdjolnlccaaGreatDoorFAd2
import Derived.Test.YtmkihdjolnlccaaGreatDoorFAw0
import Derived.Test.YtmkihdjolnlccaaGreatDoorFCSm
import Derived.Test.YtmkihdjolnlccaaGreatDoorFAwc
import Derived.Test.YtmkihdjolnlccaaGreatDoorFRkd4
import Derived.Test.YtmkihdjolnlccaaGreatDoorFRbt
import Derived.Deep.RegionHeld3
namespace Go.Proofs.YtmkihdjolnlccaaGreatDoor
open Go.RowKit Bn
open Flt
set_option maxHeartbeats 2000000 in
set_option maxRecDepth 100000 in
theorem Full_ok (a:Nat) (st z:Int) (g o:ByteArray) (x y:Nat) (l m:List UInt8) (w:World) (hT:Tabs w) (h:Conv a st z g o) (hx:nomW (0 - z) st=x) (hy:nomW (((2 ^ a - 1:Nat):Int) - z) st=y) (hl:exT x=l) (hm:exT y=m) :
  Calls Tryz.prog 27 #[.agg #[.int .i64 a,.int .i64 st,.int .i64 z,.string g,.string o]] w fun e w'=>e = .returned (.tuple #[.agg #[.string ⟨l.toArray⟩,.string ⟨m.toArray⟩],.int .i64 0])∧Below w.heap.size w w':=by
 have hp:2 ^ a≤2 ^ 12:=Nat.pow_le_pow_right (by omega) h.bits.2
 have hz:=h.zero
 have hb0:Below w.heap.size w ((w.alloc (.cells #[.int .i64 a,.int .i64 st,.int .i64 z,.string g,.string o] 33)).alloc (.cells #[.string { data:=#[] },.string { data:=#[] }] 55)):=((Below.refl _ _).alloc (Nat.le_refl _) _).alloc (by simp) _
 have q0:CBlk ((w.alloc (.cells #[.int .i64 a,.int .i64 st,.int .i64 z,.string g,.string o] 33)).alloc (.cells #[.string { data:=#[] },.string { data:=#[] }] 55)) w.heap.size #[.int .i64 a,.int .i64 st,.int .i64 z,.string g,.string o] 33:=(CBlk.new w _ _ _ rfl).below ((Below.refl _ _).alloc (Nat.le_refl _) _) (by simp)
 have s0:CBlk ((w.alloc (.cells #[.int .i64 a,.int .i64 st,.int .i64 z,.string g,.string o] 33)).alloc (.cells #[.string { data:=#[] },.string { data:=#[] }] 55)) (w.heap.size+1) #[.string { data:=#[] },.string { data:=#[] }] 55:=CBlk.new _ _ _ _ (by simp)
 have HC:=Lib.hid (checkAdc_ok a st z g o _ (hT.later hb0) h)
 have HTP:=Lib.hid (fun W=>top_any a st z (.string g) (.string o) W (by have:=h.bits;omega))
 have HN0:=Lib.hid (fun W=>nominal_any a st z 0 (.string g) (.string o) W (by omega) (by omega) (by have:=h.step;omega) (by have:=h.step;omega))
 have HNT:=Lib.hid (fun W=>nominal_any a st z ((2 ^ a - 1:Nat):Int) (.string g) (.string o) W (by omega) (by omega) (by have:=h.step;omega) (by have:=h.step;omega))
 have HSP:=Lib.hid (fun W hT=>spanOf_eq x y l m W hT hl hm)
 rw [hx] at HN0
 rw [hy] at HNT
 generalize ((2 ^ a - 1:Nat):Int)=T at *
 generalize l.toArray=la at *
 generalize m.toArray=ma at *
 clear h hz hp hl hm hx hy
 go_enter Tryz.func27,Tryz.ntmps27
 have x0:=q0.cell 0
 have x1:=q0.cell 1
 have x2:=q0.cell 2
 have x3:=q0.cell 3
 have x4:=q0.cell 4
 go_wp2_with fail
 generalize ((w.alloc (.cells #[.int .i64 a,.int .i64 st,.int .i64 z,.string g,.string o] 33)).alloc (.cells #[.string { data:=#[] },.string { data:=#[] }] 55))=w1 at *
 have hT1:=hT.later hb0
 refine HC.out.mono ?_
 rintro e w2 ⟨rfl,hb2⟩
 have q2:=q0.below hb2 q0.lt
 have s2:=s0.below hb2 s0.lt
 have hT2:=hT1.later hb2
 have hB2:=hb0.trans (hb2.mono hb0.size)
 clear x0 x1 x2 x3 x4
 have x0:=q2.cell 0
 have x1:=q2.cell 1
 have x2:=q2.cell 2
 have x3:=q2.cell 3
 have x4:=q2.cell 4
 go_wp2_with fail
 go_region_held3 (fun w'=>w'.cell? ⟨w.heap.size,0,none⟩=some (.int .i64 a)∧w'.cell? ⟨w.heap.size,1,none⟩=some (.int .i64 st)∧w'.cell? ⟨w.heap.size,2,none⟩=some (.int .i64 z)∧w'.cell? ⟨w.heap.size,3,none⟩=some (.string g)∧w'.cell? ⟨w.heap.size,4,none⟩=some (.string o))
  ((refine ⟨?_,?_,?_,?_,?_⟩<;>first | exact q6.cell _ | exact q5.cell _ | exact q4.cell _ | exact q3.cell _ | exact q2.cell _ | exact (q6.far2 (Nat.succ_ne_self _) _ _).cell _))
  (first
   |(go_at_call 79;refine (HSP.out w5 hT5).mono ?_;rintro e w6 ⟨rfl,hb6⟩;have q6:=q5.below hb6 q5.lt;have s6:=s5.below hb6 s5.lt;have r0:=s6.cell 0;have r1:=s6.cell 1;have f0:=s6.frozen 0;have f1:=s6.frozen 1)
   |(go_at_call 80;refine (HNT.out w4).mono ?_;rintro e w5 ⟨rfl,hb5⟩;have q5:=q4.below hb5 q4.lt;have s5:=s4.below hb5 s4.lt;have hT5:=hT4.later hb5)
   |(go_at_call 81;refine (HTP.out w3).mono ?_;rintro e w4 ⟨rfl,hb4⟩;have q4:=q3.below hb4 q3.lt;have s4:=s3.below hb4 s3.lt;have hT4:=hT3.later hb4)
   |(go_at_call 80;refine (HN0.out w2.drew).mono ?_;rintro e w3 ⟨rfl,hb3'⟩;have hb3:Below w2.heap.size w2 w3:=⟨hb3'.os,hb3'.tape,hb3'.output,hb3'.size,hb3'.block⟩;clear hb3';have q3:=q2.below hb3 q2.lt;have s3:=s2.below hb3 s2.lt;have hT3:=hT2.later hb3))
 have hB3:=hB2.trans (hb3.mono hB2.size)
 have hB4:=hB3.trans (hb4.mono hB3.size)
 have hB5:=hB4.trans (hb5.mono hB4.size)
 have hB6:=hB5.trans (hb6.mono hB5.size)
 have hset:=two_set hB6 (g:=w.heap.size+1) (by omega) (.string ⟨la⟩) (.string ⟨ma⟩)
 clear HC HTP HN0 HNT HSP
 go_wp2_with fail
 refine bodyPost_ret (v := .tuple #[.agg #[.string ⟨la⟩,.string ⟨ma⟩],.int .i64 0]) (by simp [results,Tryz.results27,go_sem,r0,r1]) rfl ⟨rfl,hset⟩
theorem aw_inner (w:World) (hT:Tabs w):Calls Tryz.prog 86 #[.agg #[.int .i64 8,.int .i64 (-3),.int .i64 128,.string { data:=#[50] },.string { data:=#[49] }],.int .i64 129] w fun e w'=>e = .returned (.int .i64 0)∧Below w.heap.size w w':=
 checkInner_ok 8 (-3) 128 129 0 { data:=#[50] } { data:=#[49] } w hT aw_conv2 (by decide) (by decide)
theorem aw_interval (w:World) (hT:Tabs w):Calls Tryz.prog 87 #[.agg #[.int .i64 8,.int .i64 (-3),.int .i64 128,.string { data:=#[50] },.string { data:=#[49] }],.int .i64 129] w fun e w'=>e = .returned (.agg #[.string { data:=#[49,47,49,54] },.string { data:=#[51,47,49,54] }])∧Below w.heap.size w w':=
 interval_ok 8 (-3) 128 129 { data:=#[50] } { data:=#[49] } 1031798784 1044381696 [49,47,49,54] [51,47,49,54] w hT (by decide) (by decide) (by decide) aw_e129 aw_e130 aw_te129 aw_te130
theorem aw_tv129 (w:World) (hT:Tabs w):Calls Tryz.prog 99 #[.agg #[.int .i64 8,.int .i64 (-3),.int .i64 128,.string { data:=#[50] },.string { data:=#[49] }],.string { data:=#[49,47,49,54] }] w fun e w'=>e = .returned (.tuple #[.string { data:=#[57,47,56] },.int .i64 0])∧Below w.heap.size w w':=
 trueVolts_eq 8 (-3) 128 { data:=#[50] } { data:=#[49] } { data:=#[49,47,49,54] } ⟨false,2,1⟩ ⟨false,1,16⟩ ⟨false,1,1⟩ ⟨false,1,8⟩ ⟨false,9,8⟩ [57,47,56] w hT (by decide) (by decide) (by decide) aw_q2 aw_qe129 aw_q1 aw_t129 aw_p129 aw_w129.1 aw_w129.2 (by decide) (by decide) (by decide) (by decide) (by decide)
theorem aw_tv130 (w:World) (hT:Tabs w):Calls Tryz.prog 99 #[.agg #[.int .i64 8,.int .i64 (-3),.int .i64 128,.string { data:=#[50] },.string { data:=#[49] }],.string { data:=#[51,47,49,54] }] w fun e w'=>e = .returned (.tuple #[.string { data:=#[49,49,47,56] },.int .i64 0])∧Below w.heap.size w w':=
 trueVolts_eq 8 (-3) 128 { data:=#[50] } { data:=#[49] } { data:=#[51,47,49,54] } ⟨false,2,1⟩ ⟨false,3,16⟩ ⟨false,1,1⟩ ⟨false,3,8⟩ ⟨false,11,8⟩ [49,49,47,56] w hT (by decide) (by decide) (by decide) aw_q2 aw_qe130 aw_q1 aw_t130 aw_p130 aw_w130.1 aw_w130.2 (by decide) (by decide) (by decide) (by decide) (by decide)
set_option maxHeartbeats 2000000 in
set_option maxRecDepth 100000 in
theorem aw_true (w:World) (hT:Tabs w) :
  Calls Tryz.prog 41 #[.agg #[.int .i64 8,.int .i64 (-3),.int .i64 128,.string { data:=#[50] },.string { data:=#[49] }],.int .i64 129] w fun e w'=>e = .returned (.tuple #[.agg #[.string { data:=#[57,47,56] },.string { data:=#[49,49,47,56] }],.int .i64 0])∧Below w.heap.size w w':=by
 have hb0:Below w.heap.size w ((w.alloc (.cells #[.int .i64 8,.int .i64 (-3),.int .i64 128,.string { data:=#[50] },.string { data:=#[49] }] 33)).alloc (.cells #[.string { data:=#[] },.string { data:=#[] }] 55)):=((Below.refl _ _).alloc (Nat.le_refl _) _).alloc (by simp) _
 have q0:CBlk ((w.alloc (.cells #[.int .i64 8,.int .i64 (-3),.int .i64 128,.string { data:=#[50] },.string { data:=#[49] }] 33)).alloc (.cells #[.string { data:=#[] },.string { data:=#[] }] 55)) w.heap.size #[.int .i64 8,.int .i64 (-3),.int .i64 128,.string { data:=#[50] },.string { data:=#[49] }] 33:=(CBlk.new w _ _ _ rfl).below ((Below.refl _ _).alloc (Nat.le_refl _) _) (by simp)
 have s0:CBlk ((w.alloc (.cells #[.int .i64 8,.int .i64 (-3),.int .i64 128,.string { data:=#[50] },.string { data:=#[49] }] 33)).alloc (.cells #[.string { data:=#[] },.string { data:=#[] }] 55)) (w.heap.size+1) #[.string { data:=#[] },.string { data:=#[] }] 55:=CBlk.new _ _ _ _ (by simp)
 have x0:=q0.cell 0
 have x1:=q0.cell 1
 have x2:=q0.cell 2
 have x3:=q0.cell 3
 have x4:=q0.cell 4
 go_enter Tryz.func41,Tryz.ntmps41
 go_wp2_with fail
 generalize ((w.alloc (.cells #[.int .i64 8,.int .i64 (-3),.int .i64 128,.string { data:=#[50] },.string { data:=#[49] }] 33)).alloc (.cells #[.string { data:=#[] },.string { data:=#[] }] 55))=w1 at *
 have hT1:=hT.later hb0
 refine (aw_inner w1 hT1).mono ?_
 rintro e w2 ⟨rfl,hb2⟩
 have q2:=q0.below hb2 q0.lt
 have s2:=s0.below hb2 s0.lt
 have hT2:=hT1.later hb2
 have hB2:=hb0.trans (hb2.mono hb0.size)
 clear x0 x1 x2 x3 x4
 have x0:=q2.cell 0
 have x1:=q2.cell 1
 have x2:=q2.cell 2
 have x3:=q2.cell 3
 have x4:=q2.cell 4
 go_wp2_with fail
 refine (aw_interval w2 hT2).mono ?_
 rintro e w3 ⟨rfl,hb3⟩
 have hb4:Below w3.heap.size w3 (w3.alloc (.cells #[.string { data:=#[49,47,49,54] },.string { data:=#[51,47,49,54] }] 55)):=(Below.refl _ _).alloc (Nat.le_refl _) _
 have q4:=(q2.below hb3 q2.lt).below hb4 (q2.below hb3 q2.lt).lt
 have s4:=(s2.below hb3 s2.lt).below hb4 (s2.below hb3 s2.lt).lt
 have i4:CBlk (w3.alloc (.cells #[.string { data:=#[49,47,49,54] },.string { data:=#[51,47,49,54] }] 55)) w3.heap.size #[.string { data:=#[49,47,49,54] },.string { data:=#[51,47,49,54] }] 55:=CBlk.new _ _ _ _ rfl
 have hB3:=hB2.trans (hb3.mono hB2.size)
 have hB4:=hB3.trans (hb4.mono hB3.size)
 have hT4:=hT.later hB4
 clear x0 x1 x2 x3 x4 hb2 hb3 hb4
 go_wp2_with fail
 generalize w3.heap.size=j at *
 generalize w3.alloc (.cells #[.string { data:=#[49,47,49,54] },.string { data:=#[51,47,49,54] }] 55)=w4 at *
 have HCAL:=Lib.hid (fun W=>calibrated_any 8 (-3) 128 { data:=#[50] } { data:=#[49] } { data:=#[49] } { data:=#[48] } W)
 go_region_held3 (fun w'=>w'.cell? ⟨w.heap.size,0,none⟩=some (.int .i64 8)∧w'.cell? ⟨w.heap.size,1,none⟩=some (.int .i64 (-3))∧w'.cell? ⟨w.heap.size,2,none⟩=some (.int .i64 128)∧w'.cell? ⟨w.heap.size,3,none⟩=some (.string { data:=#[50] })∧w'.cell? ⟨w.heap.size,4,none⟩=some (.string { data:=#[49] }))
  ((refine ⟨?_,?_,?_,?_,?_⟩<;>first | exact q5.cell _ | exact q4.cell _))
  (first
   |(go_at_call 98;refine (HCAL.out w4.drew).mono ?_;rintro e w5 ⟨rfl,hb5'⟩;have hb5:Below w4.heap.size w4 w5:=⟨hb5'.os,hb5'.tape,hb5'.output,hb5'.size,hb5'.block⟩;clear hb5';have q5:=q4.below hb5 q4.lt))
 have hB5:=hB4.trans (hb5.mono hB4.size)
 have s5:=s4.below hb5 s4.lt
 have i5:=i4.below hb5 i4.lt
 have hT5:=hT4.later hb5
 have x0:=q5.cell 0
 have x1:=q5.cell 1
 have x2:=q5.cell 2
 have x3:=q5.cell 3
 have x4:=q5.cell 4
 have y0:=i5.cell 0
 have y1:=i5.cell 1
 clear hb5 q4 s4 i4 hT4 hB4 HCAL
 go_wp2_with fail
 refine (aw_tv129 w5 hT5).mono ?_
 rintro e w6 ⟨rfl,hb6⟩
 have q6:=q5.below hb6 q5.lt
 have s6:=s5.below hb6 s5.lt
 have i6:=i5.below hb6 i5.lt
 have hT6:=hT5.later hb6
 have hB6:=hB5.trans (hb6.mono hB5.size)
 clear x0 x1 x2 x3 x4 y0 y1
 have x0:=q6.cell 0
 have x1:=q6.cell 1
 have x2:=q6.cell 2
 have x3:=q6.cell 3
 have x4:=q6.cell 4
 have y0:=i6.cell 0
 have y1:=i6.cell 1
 clear hb6 q5 s5 i5 hT5 hB5
 go_wp2_with fail
 refine (aw_tv130 w6 hT6).mono ?_
 rintro e w7 ⟨rfl,hb7⟩
 have s7:=s6.below hb7 s6.lt
 have hB7:=hB6.trans (hb7.mono hB6.size)
 clear x0 x1 x2 x3 x4 y0 y1 hb7 q6 s6 i6 hT6 hB6
 go_wp2_with fail
 refine (cfirst_two 0 0 w7 _ _ rfl).mono ?_
 rintro e w8 ⟨rfl,rfl⟩
 have hb8:Below w7.heap.size w7 (w7.alloc (.cells #[.int .i64 0,.int .i64 0] 30)):=(Below.refl _ _).alloc (Nat.le_refl _) _
 have s8:=s7.below hb8 s7.lt
 have hB8:=hB7.trans (hb8.mono hB7.size)
 generalize w7.alloc (.cells #[.int .i64 0,.int .i64 0] 30)=w8 at *
 have r0:=s8.cell 0
 have r1:=s8.cell 1
 have f0:=s8.frozen 0
 have f1:=s8.frozen 1
 have hset:=two_set hB8 (g:=w.heap.size+1) (by omega) (.string { data:=#[57,47,56] }) (.string { data:=#[49,49,47,56] })
 clear hb8 s7 hB7
 go_wp2_with fail
 refine bodyPost_ret (v := .tuple #[.agg #[.string { data:=#[57,47,56] },.string { data:=#[49,49,47,56] }],.int .i64 0]) (by simp [results,Tryz.results41,go_sem,r0,r1]) rfl ⟨rfl,hset⟩
end Go.Proofs.YtmkihdjolnlccaaGreatDoor
namespace Go.Proofs.YtmkihdjolnlccaaGreatDoor
open Go.RowKit
open Flt
set_option maxHeartbeats 1000000 in
theorem sameInts_eq (A A':Option Addr) (n c c':Nat) (l:List Int) (w:World) (h:Reads w w.heap.size 1 A n (l.map i64v)) (h':Reads w w.heap.size 1 A' n (l.map i64v)) (hn:n≤maxLen) :
  Calls Tryz.prog 23 #[.slice A n c,.slice A' n c'] w fun e w'=>e = .returned (.bool true)∧Below w.heap.size w w':=by
 unfold maxLen at hn
 go_enter Tryz.func23,Tryz.ntmps23
 go_wp2
 go_loopg [5] n (fun m s W=>∃ k:Nat,k≤n∧s = .int .i64 k∧n - k≤m∧Below w.heap.size w W)
 case atStart=>exact ⟨0,Nat.zero_le _,rfl,by omega,Below.refl _ _⟩
 case round=>
  obtain ⟨k,hk,rfl,hm,hbel⟩:=hrel
  by_cases h0:k<n
  ·obtain ⟨ad,hkl,rfl,hbb,hcell⟩:=(h.below hbel).cellM h0
   obtain ⟨ad',hkl',rfl,hbb',hcell'⟩:=(h'.below hbel).cellM h0
   unfold i64v at hcell hcell'
   generalize l[k]=x at *
   go_wp2
   go_region
   go_wp2
   go_roundg (n - (k+1))
   case measure=>omega
   case rel=>exact ⟨k+1,by omega,by go_num,Nat.le_refl _,hbel.drew⟩
  ·go_wp2
   go_ret
   exact ⟨rfl,hbel⟩
set_option maxHeartbeats 1000000 in
theorem sameFloats_eq (A A':Option Addr) (n c c':Nat) (l:List Nat) (w:World) (h:Reads w w.heap.size 1 A n (l.map f32v)) (h':Reads w w.heap.size 1 A' n (l.map f32v)) (hn:n≤maxLen) (hf:∀ x ∈ l,fin Ieee.single x=true) :
  Calls Tryz.prog 22 #[.slice A n c,.slice A' n c'] w fun e w'=>e = .returned (.bool true)∧Below w.heap.size w w':=by
 unfold maxLen at hn
 have HFI:=Lib.hid hf
 clear hf
 go_enter Tryz.func22,Tryz.ntmps22
 go_wp2
 go_loopg [5] n (fun m s W=>∃ k:Nat,k≤n∧s = .int .i64 k∧n - k≤m∧Below w.heap.size w W)
 case atStart=>exact ⟨0,Nat.zero_le _,rfl,by omega,Below.refl _ _⟩
 case round=>
  obtain ⟨k,hk,rfl,hm,hbel⟩:=hrel
  by_cases h0:k<n
  ·obtain ⟨ad,hkl,rfl,hbb,hcell⟩:=(h.below hbel).cellM h0
   obtain ⟨ad',hkl',rfl,hbb',hcell'⟩:=(h'.below hbel).cellM h0
   have hfx:=HFI.out _ (List.getElem_mem hkl)
   unfold f32v at hcell hcell'
   generalize l[k]=x at *
   have hxx:(FloatKind.f32.format.order x x != some .eq)=false:=by
    have h:=feq_key hfx hfx
    have h2:feq x x=true:=by rw [h];simp
    show (Ieee.single.order x x != some .eq)=false
    simpa [feq] using h2
   clear hfx
   go_wp2
   go_region
   go_wp2
   go_roundg (n - (k+1))
   case measure=>omega
   case rel=>exact ⟨k+1,by omega,by go_num,Nat.le_refl _,hbel.drew⟩
  ·go_wp2
   go_ret
   exact ⟨rfl,hbel⟩
end Go.Proofs.YtmkihdjolnlccaaGreatDoor
namespace Go.Proofs.YtmkihdjolnlccaaGreatDoor
open Go.RowKit Bn
open Flt
set_option maxHeartbeats 1000000 in
theorem aw_adc (w:World):Calls Tryz.prog 56 #[] w fun e w'=>e = .returned (.agg #[.int .i64 8,.int .i64 (-3),.int .i64 128,.string { data:=#[49] },.string { data:=#[48] }])∧Below w.heap.size w w':=by
 go_enter Tryz.func56,Tryz.ntmps56
 go_wp2_with fail
 refine bodyPost_ret (v := .agg #[.int .i64 8,.int .i64 (-3),.int .i64 128,.string { data:=#[49] },.string { data:=#[48] }]) (by simp [results,Tryz.results56,go_sem]) rfl ⟨rfl,(Below.refl _ _).alloc (Nat.le_refl _) _⟩
theorem aw_full (w:World) (hT:Tabs w):Calls Tryz.prog 27 #[.agg #[.int .i64 8,.int .i64 (-3),.int .i64 128,.string { data:=#[49] },.string { data:=#[48] }]] w fun e w'=>e = .returned (.tuple #[.agg #[.string { data:=#[45,49,54] },.string { data:=#[49,50,55,47,56] }],.int .i64 0])∧Below w.heap.size w w':=
 Full_ok 8 (-3) 128 { data:=#[49] } { data:=#[48] } 3246391296 1098776576 [45,49,54] [49,50,55,47,56] w hT aw_conv aw_nomlo aw_nomhi aw_txlo aw_txhi
theorem aw_code (w:World) (hT:Tabs w):Calls Tryz.prog 31 #[.agg #[.int .i64 8,.int .i64 (-3),.int .i64 128,.string { data:=#[49] },.string { data:=#[48] }],.string { data:=#[45,49,55] }] w fun e w'=>e = .returned (.tuple #[.int .i64 0,.int .i64 (-1),.int .i64 0])∧Below w.heap.size w w':=by
 refine Code_ok { data:=#[45,49,55] } 8 0 (-3) 128 { data:=#[49] } { data:=#[48] } w hT aw_conv (by decide) aw_r17 0 (-1) (by decide) ?_ ?_ (by decide) (by decide)
 ·intro t ht
  omega
 ·intro t h1 h2
  have e:({ data:=#[45,49,55] }:ByteArray).data.toList=[45,49,55]:=rfl
  have e2:(2:Nat) ^ 8=256:=by decide
  rw [e,aw_n17]
  exact aw_b17 t (by omega)
theorem aw_volts (w:World) (hT:Tabs w):Calls Tryz.prog 45 #[.agg #[.int .i64 8,.int .i64 (-3),.int .i64 128,.string { data:=#[49] },.string { data:=#[48] }],.int .i64 130] w fun e w'=>e = .returned (.tuple #[.float .f32 1048576000,.int .i64 0])∧Below w.heap.size w w':=by
 have h:=Volts_ok 8 (-3) 128 130 { data:=#[49] } { data:=#[48] } w hT aw_conv (by decide)
 rw [show (130:Int) - 128=2 from rfl,aw_nom2] at h
 exact h
theorem aw_interval0 (w:World) (hT:Tabs w):Calls Tryz.prog 38 #[.agg #[.int .i64 8,.int .i64 (-3),.int .i64 128,.string { data:=#[50] },.string { data:=#[49] }],.int .i64 0] w fun e w'=>e = .returned (.tuple #[.agg #[.string { data:=#[] },.string { data:=#[] }],.int .i64 15])∧Below w.heap.size w w':=
 Interval_end 8 (-3) 128 { data:=#[50] } { data:=#[49] } w hT aw_conv2
end Go.Proofs.YtmkihdjolnlccaaGreatDoor
namespace Go.Proofs.YtmkihdjolnlccaaGreatDoor
open Go.RowKit
open Flt
set_option maxHeartbeats 1000000 in
theorem cmp1_any (x lo hi gl gv:Nat) (v:Bool) (w:World) (c1:w.cell? ⟨gl,0,none⟩=some (.float .f32 lo)) (c2:w.cell? ⟨gl,1,none⟩=some (.float .f32 hi)) (c3:w.cell? ⟨gv,0,none⟩=some (.bool v)) (f3:w.frozen? ⟨gv,0,none⟩=false) :
  Calls Tryz.prog 202 #[.float .f32 x,.pointer (some ⟨gl,0,none⟩),.pointer (some ⟨gv,0,none⟩)] w fun e w'=>e = .returned (.bool (digV lo hi v x))∧w.setCell ⟨gv,0,none⟩ (.bool (digV lo hi v x))=w':=by
 by_cases h1:fge x hi=true
 ·have hd:digV lo hi v x=true:=by unfold digV;rw [h1];rfl
  rw [hd]
  have t1:(FloatKind.f32.format.order x hi==some .gt || FloatKind.f32.format.order x hi==some .eq)=true:=h1
  clear hd h1
  go_enter Tryz.func202,Tryz.ntmps202
  go_wp2
  go_ret
  exact ⟨rfl,rfl⟩
 ·have h1':fge x hi=false:=by simpa using h1
  have t1:(FloatKind.f32.format.order x hi==some .gt || FloatKind.f32.format.order x hi==some .eq)=false:=h1'
  cases v
  ·have hd:digV lo hi false x=false:=by unfold digV;rw [h1'];rfl
   rw [hd]
   clear hd h1 h1'
   go_enter Tryz.func202,Tryz.ntmps202
   go_wp2
   go_ret
   exact ⟨rfl,rfl⟩
  ·by_cases h2:fgt x lo=true
   ·have hd:digV lo hi true x=true:=by unfold digV;rw [h1',h2];rfl
    rw [hd]
    have t2:(FloatKind.f32.format.order x lo==some .gt)=true:=h2
    clear hd h1 h1' h2
    go_enter Tryz.func202,Tryz.ntmps202
    go_wp2
    go_ret
    exact ⟨rfl,rfl⟩
   ·have h2':fgt x lo=false:=by simpa using h2
    have hd:digV lo hi true x=false:=by unfold digV;rw [h1',h2'];rfl
    rw [hd]
    have t2:(FloatKind.f32.format.order x lo==some .gt)=false:=h2'
    clear hd h1 h1' h2 h2'
    go_enter Tryz.func202,Tryz.ntmps202
    go_wp2
    go_ret
    exact ⟨rfl,rfl⟩
theorem cmp1_enter (args:Array Value) (w:World):(callFunc 202 args).run Tryz.prog w = .ok (.enter 202 args) w:=by kernel_rfl
theorem comparator_any (lo hi:Nat) (v:Bool) (w:World):Calls Tryz.prog 134 #[.agg #[.float .f32 lo,.float .f32 hi],.bool v] w fun e w'=>
  e = .returned (.func (.func 202) #[] #[.pointer (some ⟨w.heap.size,0,none⟩),.pointer (some ⟨w.heap.size+1,0,none⟩)])∧(w.alloc (.cells #[.float .f32 lo,.float .f32 hi] 99)).alloc (.cells #[.bool v] 4)=w':=by
 have hmf:∀ (fn:Fn) (first cap:Array Value) (w:World),(Instr.makeFunc fn first cap).run Tryz.prog w = .ok (.func fn first cap) w:=fun _ _ _ _=>rfl
 go_enter Tryz.func134,Tryz.ntmps134
 go_wp2
 go_ret
 exact ⟨rfl,rfl⟩
theorem pcheckLevels_ok (lo hi:Nat) (w:World) (h1:fin Ieee.single lo=true) (h2:fin Ieee.single hi=true) (h3:fge lo hi=false) :
  Calls Tryz.prog 132 #[.agg #[.float .f32 lo,.float .f32 hi]] w fun e w'=>e = .returned (.int .i64 0)∧Below w.heap.size w w':=by
 have t3:(FloatKind.f32.format.order lo hi==some .gt || FloatKind.f32.format.order lo hi==some .eq)=false:=h3
 have hb:Below w.heap.size w ((w.alloc (.cells #[.float .f32 lo,.float .f32 hi] 99)).alloc (.cells #[.float .f32 lo,.float .f32 hi] 64)):=((Below.refl _ _).alloc (Nat.le_refl _) _).alloc (by simp) _
 have hr:=Reads.lit (w.alloc (.cells #[.float .f32 lo,.float .f32 hi] 99)) [.float .f32 lo,.float .f32 hi] 64
 have hc:=ncheckSamples_ok _ 2 2 [lo,hi] _ hr (by simp [h1,h2]) (by omega)
 simp only [World.size_alloc] at hc
 have HC:=Lib.hid hc
 clear hc hr h1 h2 h3
 go_enter Tryz.func132,Tryz.ntmps132
 go_wp2_with fail
 refine HC.out.mono ?_
 rintro e w1 ⟨rfl,rfl⟩
 go_wp2_with fail
 go_ret
 exact ⟨rfl,hb⟩
set_option maxHeartbeats 1000000 in
theorem trn_cmp (A:Option Addr) (n c lo hi:Nat) (v:Bool) (l:List Nat) (w:World) (h:Reads w w.heap.size 1 A n (l.map f32v)) (hn:n≤4096) :
  Calls Tryz.prog 133 #[.slice A n c,.func (.func 202) #[] #[.pointer (some ⟨w.heap.size,0,none⟩),.pointer (some ⟨w.heap.size+1,0,none⟩)]] ((w.alloc (.cells #[.float .f32 lo,.float .f32 hi] 99)).alloc (.cells #[.bool v] 4)) fun e w'=>
   e = .returned (.slice (some ⟨w.heap.size+2,0,none⟩) n n)∧w'.ownsRow w.heap.size 4 1 (.slice (some ⟨w.heap.size+2,0,none⟩) n n) n ((digL lo hi v l).map boolv)∧Below w.heap.size w w':=by
 have hb0:Below w.heap.size w ((w.alloc (.cells #[.float .f32 lo,.float .f32 hi] 99)).alloc (.cells #[.bool v] 4)):=((Below.refl _ _).alloc (Nat.le_refl _) _).alloc (by simp) _
 have hl:=h.lenM
 have q1:CBlk ((w.alloc (.cells #[.float .f32 lo,.float .f32 hi] 99)).alloc (.cells #[.bool v] 4)) w.heap.size #[.float .f32 lo,.float .f32 hi] 99:=(CBlk.new w _ _ _ rfl).below ((Below.refl _ _).alloc (Nat.le_refl _) _) (by simp)
 have q2:CBlk ((w.alloc (.cells #[.float .f32 lo,.float .f32 hi] 99)).alloc (.cells #[.bool v] 4)) (w.heap.size+1) #[.bool v] 4:=CBlk.new _ _ _ _ (by simp)
 have hsz:((w.alloc (.cells #[.float .f32 lo,.float .f32 hi] 99)).alloc (.cells #[.bool v] 4)).heap.size=w.heap.size+2:=by simp
 generalize ((w.alloc (.cells #[.float .f32 lo,.float .f32 hi] 99)).alloc (.cells #[.bool v] 4))=W at *
 have ht:=trn_fb 202 #[.pointer (some ⟨w.heap.size,0,none⟩),.pointer (some ⟨w.heap.size+1,0,none⟩)] (some (w.heap.size+1)) (fun i W=>CBlk W (w.heap.size+1) #[.bool (digS lo hi v (l.take i))] 4) A n c (l.map f32v) (digL lo hi v l) W
  cmp1_enter hn (h.later hb0) (by rw [digL_len,hl]) ?_ ?_ ?_ ?_
 ·refine ht.mono ?_
  rintro e w' ⟨rfl,ho,hg,_⟩
  rw [hsz] at ho ⊢
  refine ⟨rfl,own_mono ho (by omega),?_⟩
  exact hb0.grown hg hb0.size (fun k e=>by injection e with e;omega)
 ·intro b hb
  injection hb with hb
  subst hb
  refine ⟨by omega,fun h0 ad e he => ?_⟩
  obtain ⟨ad',e',hb',_⟩:=h.2 h0
  rw [e] at e'
  injection e' with e'
  subst e'
  omega
 ·exact q2
 ·intro i W1 W2 hJ hb
  exact (hb _ rfl).trans hJ
 ·intro W1 i x y hin hg hJ hx hy
  have hil:i<l.length:=by omega
  rw [List.getElem?_map,List.getElem?_eq_getElem hil] at hx
  injection hx with hx
  subst hx
  rw [digL_at lo hi v l i hil] at hy
  injection hy with hy
  subst hy
  have p1:=q1.grown hg (by omega) (by intro e;injection e with e;omega)
  have hc:=cmp1_any l[i] lo hi w.heap.size (w.heap.size+1) (digS lo hi v (l.take i)) W1 (p1.cell 0) (p1.cell 1) (CBlk.cell hJ 0) (CBlk.frozen hJ 0)
  rw [←digS_succ lo hi v l i hil] at hc
  refine hc.mono ?_
  rintro e w' ⟨rfl,rfl⟩
  exact ⟨rfl,only_setCell (only_of_below (Below.refl _ _) _) (.inl rfl) _,CBlk.set0 hJ⟩
set_option maxHeartbeats 2000000 in
set_option maxRecDepth 100000 in
theorem digital_ok (A:Option Addr) (n c lo hi:Nat) (v:Bool) (l:List Nat) (w:World) (h:Reads w w.heap.size 1 A n (l.map f32v)) (hf:∀ x ∈ l,fin Ieee.single x=true) (hn:n≤4096)
  (h1:fin Ieee.single lo=true) (h2:fin Ieee.single hi=true) (h3:fge lo hi=false) :
  Calls Tryz.prog 57 #[.slice A n c,.agg #[.float .f32 lo,.float .f32 hi],.bool v] w fun e w'=>
   ∃ g,e = .returned (.tuple #[.slice (some ⟨g,0,none⟩) n n,.int .i64 0])∧w'.ownsRow w.heap.size 4 1 (.slice (some ⟨g,0,none⟩) n n) n ((digL lo hi v l).map boolv)∧Below w.heap.size w w':=by
 have hb0:Below w.heap.size w (w.alloc (.cells #[.float .f32 lo,.float .f32 hi] 99)).drew:=((Below.refl _ _).alloc (Nat.le_refl _) _).drew
 have q0:CBlk (w.alloc (.cells #[.float .f32 lo,.float .f32 hi] 99)).drew w.heap.size #[.float .f32 lo,.float .f32 hi] 99:=CBlk.new w _ _ _ rfl
 have x0:=q0.cell 0
 have x1:=q0.cell 1
 have HC:=Lib.hid (ncheckSamples_ok A n c l (w.alloc (.cells #[.float .f32 lo,.float .f32 hi] 99)).drew (h.later hb0) hf hn)
 have HL:=Lib.hid (pcheckLevels_ok lo hi (w.alloc (.cells #[.float .f32 lo,.float .f32 hi] 99)).drew h1 h2 h3)
 clear h1 h2 h3 hf
 go_enter Tryz.func57,Tryz.ntmps57
 go_wp2_with fail
 go_region_held3 (fun w'=>w'.cell? ⟨w.heap.size,0,none⟩=some (.float .f32 lo)∧w'.cell? ⟨w.heap.size,1,none⟩=some (.float .f32 hi))
  ((first | exact ⟨x0,x1⟩ | exact ⟨y0,y1⟩ | exact ⟨(World.cell?_alloc_lt _ _ _ k5).trans y0,(World.cell?_alloc_lt _ _ _ k5).trans y1⟩))
  (first
   |(go_at_call 69;refine (HC.out).mono ?_;rintro e w4 ⟨rfl,rfl⟩)
   |(go_at_call 132;refine (HL.out).mono ?_;rintro e w5 ⟨rfl,hb5⟩;have q5:=q0.below hb5 q0.lt;have y0:=q5.cell 0;have y1:=q5.cell 1;have k5:=q5.lt)
   |(go_at_call 64;refine (cfirst_two 0 0 w5 _ _ rfl).mono ?_;rintro e w6 ⟨rfl,rfl⟩))
 have hb6:Below w5.heap.size w5 (w5.alloc (.cells #[.int .i64 0,.int .i64 0] 30)):=(Below.refl _ _).alloc (Nat.le_refl _) _
 have q6:=q5.below hb6 q5.lt
 have hB6:Below w.heap.size w (w5.alloc (.cells #[.int .i64 0,.int .i64 0] 30)):=(hb0.trans (hb5.mono hb0.size)).trans (hb6.mono (hb0.trans (hb5.mono hb0.size)).size)
 generalize w5.alloc (.cells #[.int .i64 0,.int .i64 0] 30)=w6 at *
 have z0:=q6.cell 0
 have z1:=q6.cell 1
 clear x0 x1 y0 y1
 go_wp2_with fail
 refine (comparator_any lo hi v w6).mono ?_
 rintro e w7 ⟨rfl,rfl⟩
 go_wp2_with fail
 refine (trn_cmp A n c lo hi v l w6 (h.later hB6) hn).mono ?_
 rintro e w8 ⟨rfl,ho,hb8⟩
 go_wp2_with fail
 go_ret2
 exact ⟨_,rfl,own_mono ho hB6.size,hB6.trans (hb8.mono hB6.size)⟩
end Go.Proofs.YtmkihdjolnlccaaGreatDoor
namespace Go.Proofs.YtmkihdjolnlccaaGreatDoor
open Go.RowKit
def wdRow (rows:List (List Bool)) (m b i:Nat):List Nat:=(List.range m).map fun j=>if j<i then wd (rows.take (b+1)) j else wd (rows.take b) j
theorem wdRow_len (rows:List (List Bool)) (m b i:Nat):(wdRow rows m b i).length=m:=by simp [wdRow]
theorem wdRow_at (rows:List (List Bool)) (m b i j:Nat) (h:j<m):(wdRow rows m b i)[j]? = some (if j<i then wd (rows.take (b+1)) j else wd (rows.take b) j):=by
 simp [wdRow,h]
theorem wdRow_next (rows:List (List Bool)) (m b:Nat):wdRow rows m b m=wdRow rows m (b+1) 0:=by
 apply List.ext_getElem?
 intro j
 by_cases hj:j<m
 ·rw [wdRow_at _ _ _ _ _ hj,wdRow_at _ _ _ _ _ hj,if_pos hj,if_neg (by omega)]
 ·rw [List.getElem?_eq_none (by rw [wdRow_len];omega),List.getElem?_eq_none (by rw [wdRow_len];omega)]
theorem wdRow_set (rows:List (List Bool)) (m b i x:Nat) (h:i<m) (hx:x=wd (rows.take (b+1)) i):(wdRow rows m b i).set i x=wdRow rows m b (i+1):=by
 apply List.ext_getElem?
 intro j
 by_cases hj:j<m
 ·by_cases e:j=i
  ·subst e
   rw [List.getElem?_set_self (by rw [wdRow_len];exact h),wdRow_at _ _ _ _ _ hj,if_pos (by omega),hx]
  ·rw [List.getElem?_set_ne (by omega),wdRow_at _ _ _ _ _ hj,wdRow_at _ _ _ _ _ hj]
   by_cases h2:j<i
   ·rw [if_pos h2,if_pos (by omega)]
   ·rw [if_neg h2,if_neg (by omega)]
 ·rw [List.getElem?_eq_none (by rw [List.length_set,wdRow_len];omega),List.getElem?_eq_none (by rw [wdRow_len];omega)]
theorem wdRow_skip (rows:List (List Bool)) (m b i:Nat) (h:i<m) (hx:wd (rows.take (b+1)) i=wd (rows.take b) i):wdRow rows m b i=wdRow rows m b (i+1):=by
 rw [←wdRow_set rows m b i (wd (rows.take b) i) h hx.symm]
 apply List.ext_getElem?
 intro j
 by_cases e:j=i
 ·subst e
  rw [List.getElem?_set_self (by rw [wdRow_len];exact h),wdRow_at _ _ _ _ _ h,if_neg (by omega)]
 ·rw [List.getElem?_set_ne (by omega)]
theorem wd_take (rows:List (List Bool)) (b i:Nat) (h:b<rows.length):wd (rows.take (b+1)) i=wd (rows.take b) i+(if rows[b].getD i false then 2 ^ b else 0):=by
 rw [List.take_succ_eq_append_getElem h,wd_snoc,List.length_take,Nat.min_eq_left (by omega)]
theorem wdRow_zero (rows:List (List Bool)) (m:Nat):wdRow rows m 0 0=List.replicate m 0:=by
 apply List.ext_getElem?
 intro j
 by_cases hj:j<m
 ·rw [wdRow_at _ _ _ _ _ hj,if_neg (by omega),List.getElem?_replicate,if_pos hj];rfl
 ·rw [List.getElem?_eq_none (by rw [wdRow_len];omega),List.getElem?_eq_none (by simp;omega)]
theorem wdRow_end (rows:List (List Bool)) (m n:Nat) (h:rows.length=n):wdRow rows m n 0=(List.range m).map (wd rows):=by
 unfold wdRow
 apply List.map_congr_left
 intro j _
 rw [if_neg (by omega),List.take_of_length_le (by omega)]
set_option maxHeartbeats 2000000 in
set_option maxRecDepth 100000 in
theorem checkLines_ok (A:Option Addr) (n c m:Nat) (rows:List (List Bool)) (w:World) (h:RowsR boolv w w.heap.size A n rows) (h0:1≤n) (hn:n≤16) (hm:∀ r ∈ rows,r.length=m) (hm2:m≤4096) :
  Calls Tryz.prog 136 #[.slice A n c] w fun e w'=>e = .returned (.int .i64 0)∧Below w.heap.size w w':=by
 obtain ⟨ad,hr0,A0,c0,rfl,hb0,hc0,_,_,_⟩:=h.row (k:=0) (by omega)
 have hz:Addr.add ad 0=ad:=rfl
 rw [hz] at hc0
 rw [hm rows[0] (List.getElem_mem hr0)] at hc0
 have hcd:w.drew.cell? ad=some (.slice A0 m c0):=hc0
 have hp0:(0:Int)<(n:Int):=by omega
 have hp1:0<n:=by omega
 have hp2:n≠0:=by omega
 have hd0:((n:Int)==0)=false:=by rw [beq_eq_false_iff_ne];omega
 have e1:(if (16:Int)<(n:Int) then (5:Int) else 0)=0:=if_neg (by omega)
 have e2:(if (4096:Int)<(m:Int) then (5:Int) else 0)=0:=if_neg (by omega)
 have H1:=catMost_bools (some ad) n c 16 w.drew
 have H2:=catMost_bool A0 m c0 4096 w.drew
 rw [e1] at H1
 rw [e2] at H2
 have K1:=Lib.hid H1
 have K2:=Lib.hid H2
 have HM:=Lib.hid hm
 clear H1 H2 e1 e2 hz hm
 go_enter Tryz.func136,Tryz.ntmps136
 go_wp2_with fail
 go_region_held3 (fun w'=>w'.cell? ad=some (.slice A0 m c0))
  ((first | exact hcd | exact (World.cell?_alloc_lt _ _ _ (by simpa using hb0)).trans hcd))
  (first
   |(go_at_call 203;refine (K1.out).mono ?_;rintro e w4 ⟨rfl,rfl⟩)
   |(go_at_call 135;refine (K2.out).mono ?_;rintro e w5 ⟨rfl,rfl⟩)
   |(go_at_call 64;refine (cfirst_two 0 0 w.drew 30 w.heap.size rfl).mono ?_;rintro e w6 ⟨rfl,rfl⟩))
 have hB:Below w.heap.size w (w.alloc (.cells #[.int .i64 0,.int .i64 0] 30)).drew:=((Below.refl _ _).alloc (Nat.le_refl _) _).drew
 generalize (w.alloc (.cells #[.int .i64 0,.int .i64 0] 30)).drew=w1 at *
 have hc1:w1.cell? ad=some (.slice A0 m c0):=(hB.cell hb0).trans hc0
 have hmm:((m:Int) != (m:Int))=false:=by simp
 go_wp2
 go_loop [22] (fun s=>∃ k:Nat,k≤n∧s = .int .i64 k) (fun s=>n - (intOf s).toNat)
 case atStart=>exact ⟨0,Nat.zero_le _,rfl⟩
 case round=>
  obtain ⟨k,hk,rfl⟩:=hrel
  by_cases hkn:k<n
  ·obtain ⟨ad',hkl,A',c',he,hb',hc',_,_,_⟩:=(h.below hB).row hkn
   injection he with he
   subst he
   rw [HM.out rows[k] (List.getElem_mem hkl)] at hc'
   go_wp2
   go_round
   case rel=>exact ⟨k+1,by omega,by go_num⟩
   case measure=>simp [intOf];omega
  ·go_wp2
   go_ret
   exact ⟨rfl,hB⟩
end Go.Proofs.YtmkihdjolnlccaaGreatDoor
