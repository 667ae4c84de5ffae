/- Chapter 2's examples: the samples, their codes and clipped ranges. -/
import Derived.Test.YtjhgadajpliclaaGreatDoorORb27
import Derived.Test.YtjhgadajpliclaaGreatDoorOTrr
import Derived.Test.YtjhgadajpliclaaGreatDoorORc2
import Derived.Test.YtjhgadajpliclaaGreatDoorOPr2
import Derived.Test.YtjhgadajpliclaaGreatDoorODp
import Derived.Laws.FloatArith
import Derived.Deep.LoopGhost
import Derived.Test.YtjhgadajpliclaaGreatDoorOTrn
import Derived.Test.YtjhgadajpliclaaGreatDoorORc8
namespace Go.Proofs.YtjhgadajpliclaaGreatDoor
open Go.RowKit Bn
open Flt
theorem own_slice0 {w:World} {base size n:Nat} {e:TypeId} {v:Value} {xs:List Value} (h:w.ownsRow base e size v n xs) (hn:0<n):∃ g c,v = .slice (some ⟨g,0,none⟩) n c∧Reads w w.heap.size size (some ⟨g,0,none⟩) n xs:=by
 rcases h.2 with ⟨rfl,rfl⟩ | ⟨g,cap,cur,rfl,hb,hg,hnc,hcm,hcs,htake⟩
 ·omega
 ·exact ⟨g,cap,rfl,Reads.of_own h⟩
theorem aw_fin:∀ c:Nat,c<256→fin Ieee.single (nomF (-3) 128 c)=true:=by decide +kernel
theorem aw_step:∀ c:Nat,c<255→key Ieee.single (nomF (-3) 128 c)<key Ieee.single (nomF (-3) 128 (c+1)):=by decide +kernel
theorem aw_mono (c:Nat):∀ n:Nat,n≤255→c<n→key Ieee.single (nomF (-3) 128 c)<key Ieee.single (nomF (-3) 128 n)
 | 0,_,h=>absurd h (Nat.not_lt_zero _)
 | n+1,hn,h=>by
  have h1:=aw_step n (by omega)
  rcases Nat.lt_or_ge c n with hc | hc
  ·exact Int.lt_trans (aw_mono c n (by omega) hc) h1
  ·obtain rfl:c=n:=by omega
   exact h1
theorem aw_dist (n c:Nat) (hn:n≤255) (hc:c<n):Op.floatEq .f32 (nomF (-3) 128 n) (nomF (-3) 128 c)=false:=by
 have h:=feq_key (aw_fin n (by omega)) (aw_fin c (by omega))
 have hm:=aw_mono c n hn hc
 have h2:decide (key Ieee.single (nomF (-3) 128 n)=key Ieee.single (nomF (-3) 128 c))=false:=by simpa using (show ¬ (key Ieee.single (nomF (-3) 128 n)=key Ieee.single (nomF (-3) 128 c)) from by omega)
 rw [h2] at h
 exact h
theorem aw_self (n:Nat) (hn:n≤255):Op.floatEq .f32 (nomF (-3) 128 n) (nomF (-3) 128 n)=true:=by
 have h:=feq_key (aw_fin n (by omega)) (aw_fin n (by omega))
 have h2:decide (key Ieee.single (nomF (-3) 128 n)=key Ieee.single (nomF (-3) 128 n))=true:=by simp
 rw [h2] at h
 exact h
theorem aw_smp:[3246391296,0,1040187392,1098776576,1098776576]=[0,128,129,255,255].map (nomF (-3) 128):=by decide +kernel
theorem aw_smpfin:∀ x ∈ [3246391296,0,1040187392,1098776576,1098776576],fin Ieee.single x=true:=by decide +kernel
theorem aw_s20m (w:World) (hT:Tabs w):Calls Tryz.prog 82 #[.agg #[.int .i64 8,.int .i64 (-3),.int .i64 128,.string { data:=#[49] },.string { data:=#[48] }],.string { data:=#[45,50,48] }] w fun e w'=>e = .returned (.float .f32 3246391296)∧Below w.heap.size w w':=by
 refine sample_ok { data:=#[45,50,48] } 8 0 (-3) 128 { data:=#[49] } { data:=#[48] } w hT aw_conv (by decide) 0 (-1) 3246391296 (by decide) ?_ ?_ (by decide) (by decide) (by decide) aw_nomlo
 ·intro t ht
  have e:({ data:=#[45,50,48] }:ByteArray).data.toList=[45,50,48]:=rfl
  rw [e,aw_n20m]
  omega
 ·intro t h1 h2
  have e:({ data:=#[45,50,48] }:ByteArray).data.toList=[45,50,48]:=rfl
  have e2:(2:Nat) ^ 8=256:=by decide
  rw [e,aw_n20m]
  exact aw_b20m t (by omega)
theorem aw_s0 (w:World) (hT:Tabs w):Calls Tryz.prog 82 #[.agg #[.int .i64 8,.int .i64 (-3),.int .i64 128,.string { data:=#[49] },.string { data:=#[48] }],.string { data:=#[48] }] w fun e w'=>e = .returned (.float .f32 0)∧Below w.heap.size w w':=by
 refine sample_ok { data:=#[48] } 8 129 (-3) 128 { data:=#[49] } { data:=#[48] } w hT aw_conv (by decide) 128 0 0 (by decide) ?_ ?_ (by decide) (by decide) (by decide) aw_nom0
 ·intro t ht
  have e:({ data:=#[48] }:ByteArray).data.toList=[48]:=rfl
  rw [e,aw_n0]
  exact aw_l0 t ht
 ·intro t h1 h2
  have e:({ data:=#[48] }:ByteArray).data.toList=[48]:=rfl
  have e2:(2:Nat) ^ 8=256:=by decide
  rw [e,aw_n0]
  have h3:=aw_h0 (t - 129) (by omega)
  rw [show 129+(t - 129)=t from by omega] at h3
  exact h3
theorem aw_s01 (w:World) (hT:Tabs w):Calls Tryz.prog 82 #[.agg #[.int .i64 8,.int .i64 (-3),.int .i64 128,.string { data:=#[49] },.string { data:=#[48] }],.string { data:=#[49,47,49,48] }] w fun e w'=>e = .returned (.float .f32 1040187392)∧Below w.heap.size w w':=by
 refine sample_ok { data:=#[49,47,49,48] } 8 130 (-3) 128 { data:=#[49] } { data:=#[48] } w hT aw_conv (by decide) 129 0 1040187392 (by decide) ?_ ?_ (by decide) (by decide) (by decide) aw_nom1
 ·intro t ht
  have e:({ data:=#[49,47,49,48] }:ByteArray).data.toList=[49,47,49,48]:=rfl
  rw [e,aw_n01]
  exact aw_l01 t ht
 ·intro t h1 h2
  have e:({ data:=#[49,47,49,48] }:ByteArray).data.toList=[49,47,49,48]:=rfl
  have e2:(2:Nat) ^ 8=256:=by decide
  rw [e,aw_n01]
  have h3:=aw_h01 (t - 130) (by omega)
  rw [show 130+(t - 130)=t from by omega] at h3
  exact h3
theorem aw_s20 (w:World) (hT:Tabs w):Calls Tryz.prog 82 #[.agg #[.int .i64 8,.int .i64 (-3),.int .i64 128,.string { data:=#[49] },.string { data:=#[48] }],.string { data:=#[50,48] }] w fun e w'=>e = .returned (.float .f32 1098776576)∧Below w.heap.size w w':=by
 refine sample_ok { data:=#[50,48] } 8 257 (-3) 128 { data:=#[49] } { data:=#[48] } w hT aw_conv (by decide) 255 1 1098776576 (by decide) ?_ ?_ (by decide) (by decide) (by decide) aw_nomhi
 ·intro t ht
  have e:({ data:=#[50,48] }:ByteArray).data.toList=[50,48]:=rfl
  rw [e,aw_n20]
  exact aw_l20 t ht
 ·intro t h1 h2
  have e:({ data:=#[50,48] }:ByteArray).data.toList=[50,48]:=rfl
  have e2:(2:Nat) ^ 8=256:=by decide
  rw [e,aw_n20]
  omega
theorem aw_s30 (w:World) (hT:Tabs w):Calls Tryz.prog 82 #[.agg #[.int .i64 8,.int .i64 (-3),.int .i64 128,.string { data:=#[49] },.string { data:=#[48] }],.string { data:=#[51,48] }] w fun e w'=>e = .returned (.float .f32 1098776576)∧Below w.heap.size w w':=by
 refine sample_ok { data:=#[51,48] } 8 257 (-3) 128 { data:=#[49] } { data:=#[48] } w hT aw_conv (by decide) 255 1 1098776576 (by decide) ?_ ?_ (by decide) (by decide) (by decide) aw_nomhi
 ·intro t ht
  have e:({ data:=#[51,48] }:ByteArray).data.toList=[51,48]:=rfl
  rw [e,aw_n30]
  exact aw_l30 t ht
 ·intro t h1 h2
  have e:({ data:=#[51,48] }:ByteArray).data.toList=[51,48]:=rfl
  have e2:(2:Nat) ^ 8=256:=by decide
  rw [e,aw_n30]
  omega
theorem aw_sampled (w:World) (hT:Tabs w) (g:Nat) (t:TypeId) (hg:g=w.heap.size) :
  Calls Tryz.prog 26 #[.agg #[.int .i64 8,.int .i64 (-3),.int .i64 128,.string { data:=#[49] },.string { data:=#[48] }],.slice (some ⟨g,0,none⟩) 5 5] (w.alloc (.cells #[.string { data:=#[45,50,48] },.string { data:=#[48] },.string { data:=#[49,47,49,48] },.string { data:=#[50,48] },.string { data:=#[51,48] }] t)) fun e w'=>
   ∃ b,e = .returned (.tuple #[.slice (some ⟨b,0,none⟩) 5 5,.int .i64 0])∧w.heap.size≤b∧Reads w' w'.heap.size 1 (some ⟨b,0,none⟩) 5 ([3246391296,0,1040187392,1098776576,1098776576].map f32v)∧Below w.heap.size w w':=by
 subst hg
 have hb:Below w.heap.size w (w.alloc (.cells #[.string { data:=#[45,50,48] },.string { data:=#[48] },.string { data:=#[49,47,49,48] },.string { data:=#[50,48] },.string { data:=#[51,48] }] t)):=(Below.refl _ _).alloc (Nat.le_refl _) _
 refine (Sampled_ok 8 (-3) 128 { data:=#[49] } { data:=#[48] } (some ⟨w.heap.size,0,none⟩) 5 5 [{ data:=#[45,50,48] },{ data:=#[48] },{ data:=#[49,47,49,48] },{ data:=#[50,48] },{ data:=#[51,48] }] [3246391296,0,1040187392,1098776576,1098776576] (w.alloc (.cells #[.string { data:=#[45,50,48] },.string { data:=#[48] },.string { data:=#[49,47,49,48] },.string { data:=#[50,48] },.string { data:=#[51,48] }] t)) (hT.later hb) aw_conv (Reads.lit w [.string { data:=#[45,50,48] },.string { data:=#[48] },.string { data:=#[49,47,49,48] },.string { data:=#[50,48] },.string { data:=#[51,48] }] t) (by decide) ?_ rfl ?_).mono ?_
 ·intro s hs
  simp only [List.mem_cons,List.not_mem_nil,or_false] at hs
  rcases hs with rfl | rfl | rfl | rfl | rfl
  ·exact ⟨by decide,aw_r20m⟩
  ·exact ⟨by decide,aw_r0⟩
  ·exact ⟨by decide,aw_r01⟩
  ·exact ⟨by decide,aw_r20⟩
  ·exact ⟨by decide,aw_r30⟩
 ·intro i s y W hTW hs hy
  match i,hs,hy with
  | 0,hs,hy=>cases hs;cases hy;exact aw_s20m W hTW
  | 1,hs,hy=>cases hs;cases hy;exact aw_s0 W hTW
  | 2,hs,hy=>cases hs;cases hy;exact aw_s01 W hTW
  | 3,hs,hy=>cases hs;cases hy;exact aw_s20 W hTW
  | 4,hs,hy=>cases hs;cases hy;exact aw_s30 W hTW
 ·rintro e w' ⟨b,rfl,hbb,ho,hb'⟩
  exact ⟨b,rfl,Nat.le_trans hb.size hbb,Reads.of_own ho,hb.trans (hb'.mono hb.size)⟩
theorem aw_codes (w:World) (hT:Tabs w) (A:Option Addr) (h:Reads w w.heap.size 1 A 5 ([3246391296,0,1040187392,1098776576,1098776576].map f32v)) :
  Calls Tryz.prog 27 #[.agg #[.int .i64 8,.int .i64 (-3),.int .i64 128,.string { data:=#[49] },.string { data:=#[48] }],.slice A 5 5] w fun e w'=>
   ∃ b,e = .returned (.tuple #[.slice (some ⟨b,0,none⟩) 5 5,.int .i64 0])∧w.heap.size≤b∧Reads w' w'.heap.size 1 (some ⟨b,0,none⟩) 5 ([0,128,129,255,255].map natv)∧Below w.heap.size w w':=by
 refine (Codes_ok 8 (-3) 128 { data:=#[49] } { data:=#[48] } A 5 5 [3246391296,0,1040187392,1098776576,1098776576] [0,128,129,255,255] w hT aw_conv 255 (by decide) (fun n c=>aw_dist n c) h (by decide) aw_smpfin rfl ?_).mono ?_
 ·intro i y k hy hk
  have hk2:k≤255:=by
   have hm:=List.mem_of_getElem? hk
   simp only [List.mem_cons,List.not_mem_nil,or_false] at hm
   omega
  rw [aw_smp,List.getElem?_map,hk] at hy
  obtain rfl:nomF (-3) 128 k=y:=Option.some.inj hy
  exact ⟨hk2,aw_self k hk2,fun d hd=>aw_dist k d hk2 hd⟩
 ·rintro e w' ⟨b,rfl,hbb,ho,hb'⟩
  exact ⟨b,rfl,hbb,Reads.of_own ho,hb'⟩
set_option maxHeartbeats 2000000 in
set_option maxRecDepth 100000 in
theorem aw_clipped (w:World) (hT:Tabs w) (A:Option Addr) (h:Reads w w.heap.size 1 A 5 ([3246391296,0,1040187392,1098776576,1098776576].map f32v)) :
  Calls Tryz.prog 28 #[.agg #[.int .i64 8,.int .i64 (-3),.int .i64 128,.string { data:=#[49] },.string { data:=#[48] }],.slice A 5 5] w fun e w'=>
   ∃ g c,e = .returned (.tuple #[.slice (some ⟨g,0,none⟩) 2 c,.int .i64 0])∧Reads w' w'.heap.size 2 (some ⟨g,0,none⟩) 2 [.int .i64 0,.int .i64 1,.int .i64 3,.int .i64 5]∧Below w.heap.size w w':=by
 have hb0:Below w.heap.size w (w.alloc (.cells #[.int .i64 8,.int .i64 (-3),.int .i64 128,.string { data:=#[49] },.string { data:=#[48] }] 32)):=(Below.refl _ _).alloc (Nat.le_refl _) _
 have q0:CBlk (w.alloc (.cells #[.int .i64 8,.int .i64 (-3),.int .i64 128,.string { data:=#[49] },.string { data:=#[48] }] 32)) w.heap.size #[.int .i64 8,.int .i64 (-3),.int .i64 128,.string { data:=#[49] },.string { data:=#[48] }] 32:=CBlk.new w _ _ _ rfl
 have x0:=q0.cell 0
 have x1:=q0.cell 1
 have x2:=q0.cell 2
 have x3:=q0.cell 3
 have x4:=q0.cell 4
 have HC:=Lib.hid (aw_codes _ (hT.later hb0) A (h.later hb0))
 have hmf:∀ (fn:Fn) (first cap:Array Value) (w:World),(Instr.makeFunc fn first cap).run Tryz.prog w = .ok (.func fn first cap) w:=fun _ _ _ _=>rfl
 clear h
 go_enter Tryz.func28,Tryz.ntmps28
 go_wp2_with fail
 generalize w.alloc (.cells #[.int .i64 8,.int .i64 (-3),.int .i64 128,.string { data:=#[49] },.string { data:=#[48] }] 32)=w1 at *
 refine HC.out.mono ?_
 rintro e w2 ⟨b,rfl,hbb,hr,hb2⟩
 have q2:=q0.below hb2 q0.lt
 have hB2:=hb0.trans (hb2.mono hb0.size)
 clear x0 x1 x2 x3 x4 HC
 have x0:=q2.cell 0
 have x1:=q2.cell 1
 have x2:=q2.cell 2
 have x3:=q2.cell 3
 have x4:=q2.cell 4
 have HR:=Lib.hid (aw_ranges b 5 w2 hr)
 clear hr
 go_wp2_with fail
 refine HR.out.mono ?_
 rintro e w3 ⟨v,rfl,ho,hb3⟩
 have hB3:=hB2.trans (hb3.mono hB2.size)
 obtain ⟨g,c,rfl,hr⟩:=own_slice0 ho (by decide)
 clear x0 x1 x2 x3 x4 HR
 go_wp2_with fail
 go_ret2
 exact ⟨g,c,rfl,hr,hB3⟩
theorem aw_calibrated (w:World) (hT:Tabs w) :
  Calls Tryz.prog 23 #[.agg #[.int .i64 8,.int .i64 (-3),.int .i64 128,.string { data:=#[49] },.string { data:=#[48] }],.agg #[.int .i64 128,.string { data:=#[49,47,50] }],.agg #[.int .i64 136,.string { data:=#[53,47,50] }]] w fun e w'=>
   e = .returned (.tuple #[.agg #[.int .i64 8,.int .i64 (-3),.int .i64 128,.string { data:=#[50] },.string { data:=#[49,47,50] }],.int .i64 0])∧Below w.heap.size w w':=
 calib_main 8 (-3) 128 128 136 1 { data:=#[49] } { data:=#[48] } { data:=#[49,47,50] } { data:=#[53,47,50] } { data:=#[48] } { data:=#[49] } { data:=#[50] } { data:=#[49,47,50] } 0 1065353216
  ⟨false,0,1⟩ ⟨false,1,1⟩ ⟨false,1,2⟩ ⟨false,5,2⟩ ⟨false,1,1⟩ ⟨false,2,1⟩ ⟨false,2,1⟩ ⟨false,0,1⟩ ⟨false,1,2⟩ _ w hT
  (aw_ccode 128 (by decide)) (aw_ccode 136 (by decide)) (aw_check { data:=#[49,47,50] } (by decide) aw_rh) (aw_check { data:=#[53,47,50] } (by decide) aw_r5h) (by decide)
  (aw_nominal 128 0 (by decide) aw_nom0) (aw_nominal 136 1065353216 (by decide) aw_nom8) (fun W hT=>exact_eq 0 [48] W hT aw_tx0) (fun W hT=>exact_eq 1065353216 [49] W hT aw_tx1)
  (aw_read { data:=#[48] } false 0 1 (by decide) aw_q0) (aw_read { data:=#[49,47,50] } false 1 2 (by decide) aw_qh) (aw_read { data:=#[49] } false 1 1 (by decide) aw_q1) (aw_read { data:=#[53,47,50] } false 5 2 (by decide) aw_q5h)
  (aw_minus ⟨false,1,1⟩ ⟨false,0,1⟩ false 1 1 aw_run (by decide) (by decide)) (aw_minus ⟨false,5,2⟩ ⟨false,1,2⟩ false 2 1 aw_dv (by decide) (by decide)) (aw_over ⟨false,2,1⟩ ⟨false,1,1⟩ false 2 1 aw_sl (by decide) (by decide))
  (fun v W hv=>aw_sign ⟨false,2,1⟩ 1 (by decide) v W hv) (fun v W hT hv=>aw_write ⟨false,2,1⟩ [50] aw_wg (by decide) v W hT hv) (aw_times ⟨false,2,1⟩ ⟨false,0,1⟩ false 0 1 aw_st (by decide) (by decide))
  (aw_minus ⟨false,1,2⟩ ⟨false,0,1⟩ false 1 2 aw_of (by decide) (by decide)) (fun v W hT hv=>aw_write ⟨false,1,2⟩ [49,47,50] aw_wo (by decide) v W hT hv) (fun h=>absurd h (by decide)) (fun _=>rfl)
end Go.Proofs.YtjhgadajpliclaaGreatDoor
namespace Go.Proofs.YtjhgadajpliclaaGreatDoor
open Go.RowKit
open Flt
theorem signed_opp (s:Bool) (m k:Nat):Ieee.signed s m k+Ieee.signed (!s) m k=0:=by
 unfold Ieee.signed
 cases s<;>simp<;>omega
theorem sub_self {b:Nat} (h:fin Ieee.single b=true):floatBits .sub .f32 b b=some 0:=by
 unfold fin at h
 show ((Ieee.single.read b).sum (Ieee.single.read b).opposite).map Ieee.single.write=some 0
 rcases hr:Ieee.single.read b with ⟨s,m,p⟩ | s | ⟨s,f⟩
 ·have e1:(Ieee.Datum.number s m p).opposite = .number (!s) m p:=rfl
  rw [e1]
  unfold Ieee.Datum.sum
  simp only [Int.min_self,signed_opp]
  have e2:(s && !s)=false:=by cases s<;>rfl
  simp only [if_true,e2,Int.natAbs_zero,Option.map_some]
  congr 1
 ·rw [hr] at h;cases h
 ·rw [hr] at h;cases h
set_option maxHeartbeats 1000000 in
theorem sameWords_eq (A A':Option Addr) (n c c':Nat) (l:List Nat) (w:World) (h:Reads w w.heap.size 1 A n (l.map u16v)) (h':Reads w w.heap.size 1 A' n (l.map u16v)) (hn:n≤maxLen) :
  Calls Tryz.prog 37 #[.slice A n c,.slice A' n c'] w fun e w'=>e = .returned (.bool true)∧Below w.heap.size w w':=by
 unfold maxLen at hn
 go_enter Tryz.func37,Tryz.ntmps37
 go_wp2
 go_loopg [5] n (fun m s W=>∃ k:Nat,k≤n∧s = .int .i64 k∧n - k≤m∧Below w.heap.size w W)
 case atStart=>exact ⟨0,Nat.zero_le _,rfl,by omega,Below.refl _ _⟩
 case round=>
  obtain ⟨k,hk,rfl,hm,hbel⟩:=hrel
  by_cases h0:k<n
  ·obtain ⟨ad,hkl,rfl,hbb,hcell⟩:=(h.below hbel).cellM h0
   obtain ⟨ad',hkl',rfl,hbb',hcell'⟩:=(h'.below hbel).cellM h0
   unfold u16v at hcell hcell'
   generalize l[k]=x at *
   go_wp2
   go_region
   go_wp2
   go_roundg (n - (k+1))
   case measure=>omega
   case rel=>exact ⟨k+1,by omega,by go_num,Nat.le_refl _,hbel.drew⟩
  ·go_wp2
   go_ret
   exact ⟨rfl,hbel⟩
end Go.Proofs.YtjhgadajpliclaaGreatDoor
namespace Go.Proofs.YtjhgadajpliclaaGreatDoor
open Go.RowKit Bn
open Flt
set_option maxHeartbeats 2000000 in
set_option maxRecDepth 100000 in
theorem aw_ranges_eq (g g' c c':Nat) (w:World) (h:Reads w w.heap.size 2 (some ⟨g,0,none⟩) 2 [.int .i64 0,.int .i64 1,.int .i64 3,.int .i64 5]) (h':Reads w w.heap.size 2 (some ⟨g',0,none⟩) 2 [.int .i64 0,.int .i64 1,.int .i64 3,.int .i64 5]) :
  Calls Tryz.prog 30 #[.slice (some ⟨g,0,none⟩) 2 c,.slice (some ⟨g',0,none⟩) 2 c'] w fun e w'=>e = .returned (.bool true)∧Below w.heap.size w w':=by
 obtain ⟨ad,had,hb,hce⟩:=h.2 (by omega)
 cases had
 obtain ⟨ad',had',hb',hce'⟩:=h'.2 (by omega)
 cases had'
 have y0:w.cell? ⟨g,0,none⟩=some (.int .i64 0):=hce 0 (.int .i64 0) rfl
 have z0:w.cell? ⟨g',0,none⟩=some (.int .i64 0):=hce' 0 (.int .i64 0) rfl
 have y1:w.cell? ⟨g,1,none⟩=some (.int .i64 1):=hce 1 (.int .i64 1) rfl
 have z1:w.cell? ⟨g',1,none⟩=some (.int .i64 1):=hce' 1 (.int .i64 1) rfl
 have y2:w.cell? ⟨g,2,none⟩=some (.int .i64 3):=hce 2 (.int .i64 3) rfl
 have z2:w.cell? ⟨g',2,none⟩=some (.int .i64 3):=hce' 2 (.int .i64 3) rfl
 have y3:w.cell? ⟨g,3,none⟩=some (.int .i64 5):=hce 3 (.int .i64 5) rfl
 have z3:w.cell? ⟨g',3,none⟩=some (.int .i64 5):=hce' 3 (.int .i64 5) rfl
 clear hce hce' h h'
 have q0:∀ W:World,(Op.equalIn 10000 72 (.agg #[.int .i64 0,.int .i64 1]) (.agg #[.int .i64 0,.int .i64 1])).run Tryz.prog W = .ok true W:=fun W=>by kernel_rfl
 have q1:∀ W:World,(Op.equalIn 10000 72 (.agg #[.int .i64 3,.int .i64 5]) (.agg #[.int .i64 3,.int .i64 5])).run Tryz.prog W = .ok true W:=fun W=>by kernel_rfl
 go_enter Tryz.func30,Tryz.ntmps30
 go_wp2
 go_loopg [5] 2 (fun m s W=>Below w.heap.size w W∧((s = .int .i64 0∧2≤m)∨(s = .int .i64 1∧1≤m)∨s = .int .i64 2))
 case atStart=>exact ⟨Below.refl _ _,Or.inl ⟨rfl,Nat.le_refl _⟩⟩
 case round=>
  obtain ⟨hbel,(⟨rfl,hm⟩ | ⟨rfl,hm⟩ | rfl)⟩:=hrel
  ·have c0:=(hbel.cell (p:=⟨g,0,none⟩) hb).trans y0
   have c1:=(hbel.cell (p:=⟨g,1,none⟩) hb).trans y1
   have d0:=(hbel.cell (p:=⟨g',0,none⟩) hb').trans z0
   have d1:=(hbel.cell (p:=⟨g',1,none⟩) hb').trans z1
   go_wp2
   go_region
   go_wp2
   go_roundg 1
   case measure=>omega
   case rel=>exact ⟨hbel.drew,Or.inr (Or.inl ⟨rfl,Nat.le_refl _⟩)⟩
  ·have c2:=(hbel.cell (p:=⟨g,2,none⟩) hb).trans y2
   have c3:=(hbel.cell (p:=⟨g,3,none⟩) hb).trans y3
   have d2:=(hbel.cell (p:=⟨g',2,none⟩) hb').trans z2
   have d3:=(hbel.cell (p:=⟨g',3,none⟩) hb').trans z3
   go_wp2
   go_region
   go_wp2
   go_roundg 0
   case measure=>omega
   case rel=>exact ⟨hbel.drew,Or.inr (Or.inr rfl)⟩
  ·go_wp2
   go_ret
   exact ⟨rfl,hbel⟩
set_option maxHeartbeats 1000000 in
theorem aw_block (A:Option Addr) (c:Nat) (w:World) :
  Calls Tryz.prog 36 #[.slice A 3 c] w fun e w'=>e = .returned (.tuple #[.agg #[.int .u16 0,.int .u16 0,.int .u16 0,.int .u16 0,.int .u16 0,.int .u16 0,.int .u16 0,.int .u16 0,.int .u16 0,.int .u16 0,.int .u16 0,.int .u16 0,.int .u16 0,.int .u16 0,.int .u16 0,.int .u16 0],.int .i64 2])∧Below w.heap.size w w':=by
 have HM:=Lib.hid (fun W=>catMost_u16 A 3 c 4096 W)
 go_enter Tryz.func36,Tryz.ntmps36
 go_wp2_with fail
 refine (HM.out _).mono ?_
 rintro e w1 ⟨rfl,rfl⟩
 go_wp2_with fail
 refine bodyPost_ret (v := .tuple #[.agg #[.int .u16 0,.int .u16 0,.int .u16 0,.int .u16 0,.int .u16 0,.int .u16 0,.int .u16 0,.int .u16 0,.int .u16 0,.int .u16 0,.int .u16 0,.int .u16 0,.int .u16 0,.int .u16 0,.int .u16 0,.int .u16 0],.int .i64 2]) (by simp [results,Tryz.results36,go_sem]) rfl ⟨rfl,(Below.refl _ _).alloc (Nat.le_refl _) _⟩
theorem aw_inner (w:World) (hT:Tabs w):Calls Tryz.prog 63 #[.agg #[.int .i64 8,.int .i64 (-3),.int .i64 128,.string { data:=#[50] },.string { data:=#[49] }],.int .i64 129] w fun e w'=>e = .returned (.int .i64 0)∧Below w.heap.size w w':=
 checkInner_ok 8 (-3) 128 129 0 { data:=#[50] } { data:=#[49] } w hT aw_conv2 (by decide) (by decide)
theorem aw_interval (w:World) (hT:Tabs w):Calls Tryz.prog 64 #[.agg #[.int .i64 8,.int .i64 (-3),.int .i64 128,.string { data:=#[50] },.string { data:=#[49] }],.int .i64 129] w fun e w'=>e = .returned (.agg #[.string { data:=#[49,47,49,54] },.string { data:=#[51,47,49,54] }])∧Below w.heap.size w w':=
 interval_ok 8 (-3) 128 129 { data:=#[50] } { data:=#[49] } 1031798784 1044381696 [49,47,49,54] [51,47,49,54] w hT (by decide) (by decide) (by decide) aw_e129 aw_e130 aw_te129 aw_te130
theorem aw_tv129 (w:World) (hT:Tabs w):Calls Tryz.prog 66 #[.agg #[.int .i64 8,.int .i64 (-3),.int .i64 128,.string { data:=#[50] },.string { data:=#[49] }],.string { data:=#[49,47,49,54] }] w fun e w'=>e = .returned (.tuple #[.string { data:=#[57,47,56] },.int .i64 0])∧Below w.heap.size w w':=
 trueVolts_eq 8 (-3) 128 { data:=#[50] } { data:=#[49] } { data:=#[49,47,49,54] } ⟨false,2,1⟩ ⟨false,1,16⟩ ⟨false,1,1⟩ ⟨false,1,8⟩ ⟨false,9,8⟩ [57,47,56] w hT (by decide) (by decide) (by decide) aw_q2 aw_qe129 aw_q1 aw_t129 aw_p129 aw_w129.1 aw_w129.2 (by decide) (by decide) (by decide) (by decide) (by decide)
theorem aw_tv130 (w:World) (hT:Tabs w):Calls Tryz.prog 66 #[.agg #[.int .i64 8,.int .i64 (-3),.int .i64 128,.string { data:=#[50] },.string { data:=#[49] }],.string { data:=#[51,47,49,54] }] w fun e w'=>e = .returned (.tuple #[.string { data:=#[49,49,47,56] },.int .i64 0])∧Below w.heap.size w w':=
 trueVolts_eq 8 (-3) 128 { data:=#[50] } { data:=#[49] } { data:=#[51,47,49,54] } ⟨false,2,1⟩ ⟨false,3,16⟩ ⟨false,1,1⟩ ⟨false,3,8⟩ ⟨false,11,8⟩ [49,49,47,56] w hT (by decide) (by decide) (by decide) aw_q2 aw_qe130 aw_q1 aw_t130 aw_p130 aw_w130.1 aw_w130.2 (by decide) (by decide) (by decide) (by decide) (by decide)
set_option maxHeartbeats 2000000 in
set_option maxRecDepth 100000 in
theorem aw_true (w:World) (hT:Tabs w) :
  Calls Tryz.prog 19 #[.agg #[.int .i64 8,.int .i64 (-3),.int .i64 128,.string { data:=#[50] },.string { data:=#[49] }],.int .i64 129] w fun e w'=>e = .returned (.tuple #[.agg #[.string { data:=#[57,47,56] },.string { data:=#[49,49,47,56] }],.int .i64 0])∧Below w.heap.size w w':=by
 have hb0:Below w.heap.size w ((w.alloc (.cells #[.int .i64 8,.int .i64 (-3),.int .i64 128,.string { data:=#[50] },.string { data:=#[49] }] 32)).alloc (.cells #[.string { data:=#[] },.string { data:=#[] }] 28)):=((Below.refl _ _).alloc (Nat.le_refl _) _).alloc (by simp) _
 have q0:CBlk ((w.alloc (.cells #[.int .i64 8,.int .i64 (-3),.int .i64 128,.string { data:=#[50] },.string { data:=#[49] }] 32)).alloc (.cells #[.string { data:=#[] },.string { data:=#[] }] 28)) w.heap.size #[.int .i64 8,.int .i64 (-3),.int .i64 128,.string { data:=#[50] },.string { data:=#[49] }] 32:=(CBlk.new w _ _ _ rfl).below ((Below.refl _ _).alloc (Nat.le_refl _) _) (by simp)
 have s0:CBlk ((w.alloc (.cells #[.int .i64 8,.int .i64 (-3),.int .i64 128,.string { data:=#[50] },.string { data:=#[49] }] 32)).alloc (.cells #[.string { data:=#[] },.string { data:=#[] }] 28)) (w.heap.size+1) #[.string { data:=#[] },.string { data:=#[] }] 28:=CBlk.new _ _ _ _ (by simp)
 have x0:=q0.cell 0
 have x1:=q0.cell 1
 have x2:=q0.cell 2
 have x3:=q0.cell 3
 have x4:=q0.cell 4
 go_enter Tryz.func19,Tryz.ntmps19
 go_wp2_with fail
 generalize ((w.alloc (.cells #[.int .i64 8,.int .i64 (-3),.int .i64 128,.string { data:=#[50] },.string { data:=#[49] }] 32)).alloc (.cells #[.string { data:=#[] },.string { data:=#[] }] 28))=w1 at *
 have hT1:=hT.later hb0
 refine (aw_inner w1 hT1).mono ?_
 rintro e w2 ⟨rfl,hb2⟩
 have q2:=q0.below hb2 q0.lt
 have s2:=s0.below hb2 s0.lt
 have hT2:=hT1.later hb2
 have hB2:=hb0.trans (hb2.mono hb0.size)
 clear x0 x1 x2 x3 x4
 have x0:=q2.cell 0
 have x1:=q2.cell 1
 have x2:=q2.cell 2
 have x3:=q2.cell 3
 have x4:=q2.cell 4
 go_wp2_with fail
 refine (aw_interval w2 hT2).mono ?_
 rintro e w3 ⟨rfl,hb3⟩
 have hb4:Below w3.heap.size w3 (w3.alloc (.cells #[.string { data:=#[49,47,49,54] },.string { data:=#[51,47,49,54] }] 28)):=(Below.refl _ _).alloc (Nat.le_refl _) _
 have q4:=(q2.below hb3 q2.lt).below hb4 (q2.below hb3 q2.lt).lt
 have s4:=(s2.below hb3 s2.lt).below hb4 (s2.below hb3 s2.lt).lt
 have i4:CBlk (w3.alloc (.cells #[.string { data:=#[49,47,49,54] },.string { data:=#[51,47,49,54] }] 28)) w3.heap.size #[.string { data:=#[49,47,49,54] },.string { data:=#[51,47,49,54] }] 28:=CBlk.new _ _ _ _ rfl
 have hB3:=hB2.trans (hb3.mono hB2.size)
 have hB4:=hB3.trans (hb4.mono hB3.size)
 have hT4:=hT.later hB4
 clear x0 x1 x2 x3 x4 hb2 hb3 hb4
 go_wp2_with fail
 generalize w3.heap.size=j at *
 generalize w3.alloc (.cells #[.string { data:=#[49,47,49,54] },.string { data:=#[51,47,49,54] }] 28)=w4 at *
 have HCAL:=Lib.hid (fun W=>calibrated_any 8 (-3) 128 { data:=#[50] } { data:=#[49] } { data:=#[49] } { data:=#[48] } W)
 go_region_held3 (fun w'=>w'.cell? ⟨w.heap.size,0,none⟩=some (.int .i64 8)∧w'.cell? ⟨w.heap.size,1,none⟩=some (.int .i64 (-3))∧w'.cell? ⟨w.heap.size,2,none⟩=some (.int .i64 128)∧w'.cell? ⟨w.heap.size,3,none⟩=some (.string { data:=#[50] })∧w'.cell? ⟨w.heap.size,4,none⟩=some (.string { data:=#[49] }))
  ((refine ⟨?_,?_,?_,?_,?_⟩<;>first | exact q5.cell _ | exact q4.cell _))
  (first
   |(go_at_call 65;refine (HCAL.out w4.drew).mono ?_;rintro e w5 ⟨rfl,hb5'⟩;have hb5:Below w4.heap.size w4 w5:=⟨hb5'.os,hb5'.tape,hb5'.output,hb5'.size,hb5'.block⟩;clear hb5';have q5:=q4.below hb5 q4.lt))
 have hB5:=hB4.trans (hb5.mono hB4.size)
 have s5:=s4.below hb5 s4.lt
 have i5:=i4.below hb5 i4.lt
 have hT5:=hT4.later hb5
 have x0:=q5.cell 0
 have x1:=q5.cell 1
 have x2:=q5.cell 2
 have x3:=q5.cell 3
 have x4:=q5.cell 4
 have y0:=i5.cell 0
 have y1:=i5.cell 1
 clear hb5 q4 s4 i4 hT4 hB4 HCAL
 go_wp2_with fail
 refine (aw_tv129 w5 hT5).mono ?_
 rintro e w6 ⟨rfl,hb6⟩
 have q6:=q5.below hb6 q5.lt
 have s6:=s5.below hb6 s5.lt
 have i6:=i5.below hb6 i5.lt
 have hT6:=hT5.later hb6
 have hB6:=hB5.trans (hb6.mono hB5.size)
 clear x0 x1 x2 x3 x4 y0 y1
 have x0:=q6.cell 0
 have x1:=q6.cell 1
 have x2:=q6.cell 2
 have x3:=q6.cell 3
 have x4:=q6.cell 4
 have y0:=i6.cell 0
 have y1:=i6.cell 1
 clear hb6 q5 s5 i5 hT5 hB5
 go_wp2_with fail
 refine (aw_tv130 w6 hT6).mono ?_
 rintro e w7 ⟨rfl,hb7⟩
 have s7:=s6.below hb7 s6.lt
 have hB7:=hB6.trans (hb7.mono hB6.size)
 clear x0 x1 x2 x3 x4 y0 y1 hb7 q6 s6 i6 hT6 hB6
 go_wp2_with fail
 refine (cfirst_two 0 0 w7 _ _ rfl).mono ?_
 rintro e w8 ⟨rfl,rfl⟩
 have hb8:Below w7.heap.size w7 (w7.alloc (.cells #[.int .i64 0,.int .i64 0] 29)):=(Below.refl _ _).alloc (Nat.le_refl _) _
 have s8:=s7.below hb8 s7.lt
 have hB8:=hB7.trans (hb8.mono hB7.size)
 generalize w7.alloc (.cells #[.int .i64 0,.int .i64 0] 29)=w8 at *
 have r0:=s8.cell 0
 have r1:=s8.cell 1
 have f0:=s8.frozen 0
 have f1:=s8.frozen 1
 have hset:=two_set hB8 (g:=w.heap.size+1) (by omega) (.string { data:=#[57,47,56] }) (.string { data:=#[49,49,47,56] })
 clear hb8 s7 hB7
 go_wp2_with fail
 refine bodyPost_ret (v := .tuple #[.agg #[.string { data:=#[57,47,56] },.string { data:=#[49,49,47,56] }],.int .i64 0]) (by simp [results,Tryz.results19,go_sem,r0,r1]) rfl ⟨rfl,hset⟩
end Go.Proofs.YtjhgadajpliclaaGreatDoor
namespace Go.Proofs.YtjhgadajpliclaaGreatDoor
open Go.RowKit
open Flt
set_option maxHeartbeats 1000000 in
theorem sameInts_eq (A A':Option Addr) (n c c':Nat) (l:List Int) (w:World) (h:Reads w w.heap.size 1 A n (l.map i64v)) (h':Reads w w.heap.size 1 A' n (l.map i64v)) (hn:n≤maxLen) :
  Calls Tryz.prog 29 #[.slice A n c,.slice A' n c'] w fun e w'=>e = .returned (.bool true)∧Below w.heap.size w w':=by
 unfold maxLen at hn
 go_enter Tryz.func29,Tryz.ntmps29
 go_wp2
 go_loopg [5] n (fun m s W=>∃ k:Nat,k≤n∧s = .int .i64 k∧n - k≤m∧Below w.heap.size w W)
 case atStart=>exact ⟨0,Nat.zero_le _,rfl,by omega,Below.refl _ _⟩
 case round=>
  obtain ⟨k,hk,rfl,hm,hbel⟩:=hrel
  by_cases h0:k<n
  ·obtain ⟨ad,hkl,rfl,hbb,hcell⟩:=(h.below hbel).cellM h0
   obtain ⟨ad',hkl',rfl,hbb',hcell'⟩:=(h'.below hbel).cellM h0
   unfold i64v at hcell hcell'
   generalize l[k]=x at *
   go_wp2
   go_region
   go_wp2
   go_roundg (n - (k+1))
   case measure=>omega
   case rel=>exact ⟨k+1,by omega,by go_num,Nat.le_refl _,hbel.drew⟩
  ·go_wp2
   go_ret
   exact ⟨rfl,hbel⟩
set_option maxHeartbeats 1000000 in
theorem sameFloats_eq (A A':Option Addr) (n c c':Nat) (l:List Nat) (w:World) (h:Reads w w.heap.size 1 A n (l.map f32v)) (h':Reads w w.heap.size 1 A' n (l.map f32v)) (hn:n≤maxLen) (hf:∀ x ∈ l,fin Ieee.single x=true) :
  Calls Tryz.prog 38 #[.slice A n c,.slice A' n c'] w fun e w'=>e = .returned (.bool true)∧Below w.heap.size w w':=by
 unfold maxLen at hn
 have HFI:=Lib.hid hf
 clear hf
 go_enter Tryz.func38,Tryz.ntmps38
 go_wp2
 go_loopg [5] n (fun m s W=>∃ k:Nat,k≤n∧s = .int .i64 k∧n - k≤m∧Below w.heap.size w W)
 case atStart=>exact ⟨0,Nat.zero_le _,rfl,by omega,Below.refl _ _⟩
 case round=>
  obtain ⟨k,hk,rfl,hm,hbel⟩:=hrel
  by_cases h0:k<n
  ·obtain ⟨ad,hkl,rfl,hbb,hcell⟩:=(h.below hbel).cellM h0
   obtain ⟨ad',hkl',rfl,hbb',hcell'⟩:=(h'.below hbel).cellM h0
   have hfx:=HFI.out _ (List.getElem_mem hkl)
   unfold f32v at hcell hcell'
   generalize l[k]=x at *
   have hxx:(FloatKind.f32.format.order x x != some .eq)=false:=by
    have h:=feq_key hfx hfx
    have h2:feq x x=true:=by rw [h];simp
    show (Ieee.single.order x x != some .eq)=false
    simpa [feq] using h2
   clear hfx
   go_wp2
   go_region
   go_wp2
   go_roundg (n - (k+1))
   case measure=>omega
   case rel=>exact ⟨k+1,by omega,by go_num,Nat.le_refl _,hbel.drew⟩
  ·go_wp2
   go_ret
   exact ⟨rfl,hbel⟩
end Go.Proofs.YtjhgadajpliclaaGreatDoor
namespace Go.Proofs.YtjhgadajpliclaaGreatDoor
open Go.RowKit Bn
open Flt
set_option maxHeartbeats 1000000 in
theorem aw_adc (w:World):Calls Tryz.prog 25 #[] w fun e w'=>e = .returned (.agg #[.int .i64 8,.int .i64 (-3),.int .i64 128,.string { data:=#[49] },.string { data:=#[48] }])∧Below w.heap.size w w':=by
 go_enter Tryz.func25,Tryz.ntmps25
 go_wp2_with fail
 refine bodyPost_ret (v := .agg #[.int .i64 8,.int .i64 (-3),.int .i64 128,.string { data:=#[49] },.string { data:=#[48] }]) (by simp [results,Tryz.results25,go_sem]) rfl ⟨rfl,(Below.refl _ _).alloc (Nat.le_refl _) _⟩
theorem aw_full (w:World) (hT:Tabs w):Calls Tryz.prog 8 #[.agg #[.int .i64 8,.int .i64 (-3),.int .i64 128,.string { data:=#[49] },.string { data:=#[48] }]] w fun e w'=>e = .returned (.tuple #[.agg #[.string { data:=#[45,49,54] },.string { data:=#[49,50,55,47,56] }],.int .i64 0])∧Below w.heap.size w w':=
 Full_ok 8 (-3) 128 { data:=#[49] } { data:=#[48] } 3246391296 1098776576 [45,49,54] [49,50,55,47,56] w hT aw_conv aw_nomlo aw_nomhi aw_txlo aw_txhi
theorem aw_code (w:World) (hT:Tabs w):Calls Tryz.prog 9 #[.agg #[.int .i64 8,.int .i64 (-3),.int .i64 128,.string { data:=#[49] },.string { data:=#[48] }],.string { data:=#[45,49,55] }] w fun e w'=>e = .returned (.tuple #[.int .i64 0,.int .i64 (-1),.int .i64 0])∧Below w.heap.size w w':=by
 refine Code_ok { data:=#[45,49,55] } 8 0 (-3) 128 { data:=#[49] } { data:=#[48] } w hT aw_conv (by decide) aw_r17 0 (-1) (by decide) ?_ ?_ (by decide) (by decide)
 ·intro t ht
  omega
 ·intro t h1 h2
  have e:({ data:=#[45,49,55] }:ByteArray).data.toList=[45,49,55]:=rfl
  have e2:(2:Nat) ^ 8=256:=by decide
  rw [e,aw_n17]
  exact aw_b17 t (by omega)
theorem aw_volts (w:World) (hT:Tabs w):Calls Tryz.prog 10 #[.agg #[.int .i64 8,.int .i64 (-3),.int .i64 128,.string { data:=#[49] },.string { data:=#[48] }],.int .i64 130] w fun e w'=>e = .returned (.tuple #[.float .f32 1048576000,.int .i64 0])∧Below w.heap.size w w':=by
 have h:=Volts_ok 8 (-3) 128 130 { data:=#[49] } { data:=#[48] } w hT aw_conv (by decide)
 rw [show (130:Int) - 128=2 from rfl,aw_nom2] at h
 exact h
theorem aw_interval0 (w:World) (hT:Tabs w):Calls Tryz.prog 18 #[.agg #[.int .i64 8,.int .i64 (-3),.int .i64 128,.string { data:=#[50] },.string { data:=#[49] }],.int .i64 0] w fun e w'=>e = .returned (.tuple #[.agg #[.string { data:=#[] },.string { data:=#[] }],.int .i64 15])∧Below w.heap.size w w':=
 Interval_end 8 (-3) 128 { data:=#[50] } { data:=#[49] } w hT aw_conv2
end Go.Proofs.YtjhgadajpliclaaGreatDoor
