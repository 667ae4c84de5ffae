/- The reference's Finite: a single less itself. -/
import Derived.Test.YtjhgadajpliclaaGreatDoorIEx2
import Derived.Test.YtjhgadajpliclaaGreatDoorIDp
import Derived.Laws.FloatArith
import Derived.Deep.LoopGhost
import Derived.Test.YtjhgadajpliclaaGreatDoorIAwc
import Derived.Test.YtjhgadajpliclaaGreatDoorICSm
import Derived.Test.YtjhgadajpliclaaGreatDoorIAd2
import Derived.Test.YtjhgadajpliclaaGreatDoorIAw8
import Derived.Test.YtjhgadajpliclaaGreatDoorIAwf
namespace Go.Proofs.YtjhgadajpliclaaGreatDoor
open Go.RowKit
open Flt
theorem signed_opp (s:Bool) (m k:Nat):Ieee.signed s m k+Ieee.signed (!s) m k=0:=by
 unfold Ieee.signed
 cases s<;>simp<;>omega
theorem sub_self {b:Nat} (h:fin Ieee.single b=true):floatBits .sub .f32 b b=some 0:=by
 unfold fin at h
 show ((Ieee.single.read b).sum (Ieee.single.read b).opposite).map Ieee.single.write=some 0
 rcases hr:Ieee.single.read b with ⟨s,m,p⟩ | s | ⟨s,f⟩
 ·have e1:(Ieee.Datum.number s m p).opposite = .number (!s) m p:=rfl
  rw [e1]
  unfold Ieee.Datum.sum
  simp only [Int.min_self,signed_opp]
  have e2:(s && !s)=false:=by cases s<;>rfl
  simp only [if_true,e2,Int.natAbs_zero,Option.map_some]
  congr 1
 ·rw [hr] at h;cases h
 ·rw [hr] at h;cases h
set_option maxHeartbeats 1000000 in
theorem sameWords_eq (A A':Option Addr) (n c c':Nat) (l:List Nat) (w:World) (h:Reads w w.heap.size 1 A n (l.map u16v)) (h':Reads w w.heap.size 1 A' n (l.map u16v)) (hn:n≤maxLen) :
  Calls Tryz.prog 37 #[.slice A n c,.slice A' n c'] w fun e w'=>e = .returned (.bool true)∧Below w.heap.size w w':=by
 unfold maxLen at hn
 go_enter Tryz.func37,Tryz.ntmps37
 go_wp2
 go_loopg [5] n (fun m s W=>∃ k:Nat,k≤n∧s = .int .i64 k∧n - k≤m∧Below w.heap.size w W)
 case atStart=>exact ⟨0,Nat.zero_le _,rfl,by omega,Below.refl _ _⟩
 case round=>
  obtain ⟨k,hk,rfl,hm,hbel⟩:=hrel
  by_cases h0:k<n
  ·obtain ⟨ad,hkl,rfl,hbb,hcell⟩:=(h.below hbel).cellM h0
   obtain ⟨ad',hkl',rfl,hbb',hcell'⟩:=(h'.below hbel).cellM h0
   unfold u16v at hcell hcell'
   generalize l[k]=x at *
   go_wp2
   go_region
   go_wp2
   go_roundg (n - (k+1))
   case measure=>omega
   case rel=>exact ⟨k+1,by omega,by go_num,Nat.le_refl _,hbel.drew⟩
  ·go_wp2
   go_ret
   exact ⟨rfl,hbel⟩
end Go.Proofs.YtjhgadajpliclaaGreatDoor
namespace Go.Proofs.YtjhgadajpliclaaGreatDoor
open Go.RowKit Bn
open Flt
set_option maxHeartbeats 2000000 in
set_option maxRecDepth 100000 in
theorem aw_ranges_eq (g g' c c':Nat) (w:World) (h:Reads w w.heap.size 2 (some ⟨g,0,none⟩) 2 [.int .i64 0,.int .i64 1,.int .i64 3,.int .i64 5]) (h':Reads w w.heap.size 2 (some ⟨g',0,none⟩) 2 [.int .i64 0,.int .i64 1,.int .i64 3,.int .i64 5]) :
  Calls Tryz.prog 30 #[.slice (some ⟨g,0,none⟩) 2 c,.slice (some ⟨g',0,none⟩) 2 c'] w fun e w'=>e = .returned (.bool true)∧Below w.heap.size w w':=by
 obtain ⟨ad,had,hb,hce⟩:=h.2 (by omega)
 cases had
 obtain ⟨ad',had',hb',hce'⟩:=h'.2 (by omega)
 cases had'
 have y0:w.cell? ⟨g,0,none⟩=some (.int .i64 0):=hce 0 (.int .i64 0) rfl
 have z0:w.cell? ⟨g',0,none⟩=some (.int .i64 0):=hce' 0 (.int .i64 0) rfl
 have y1:w.cell? ⟨g,1,none⟩=some (.int .i64 1):=hce 1 (.int .i64 1) rfl
 have z1:w.cell? ⟨g',1,none⟩=some (.int .i64 1):=hce' 1 (.int .i64 1) rfl
 have y2:w.cell? ⟨g,2,none⟩=some (.int .i64 3):=hce 2 (.int .i64 3) rfl
 have z2:w.cell? ⟨g',2,none⟩=some (.int .i64 3):=hce' 2 (.int .i64 3) rfl
 have y3:w.cell? ⟨g,3,none⟩=some (.int .i64 5):=hce 3 (.int .i64 5) rfl
 have z3:w.cell? ⟨g',3,none⟩=some (.int .i64 5):=hce' 3 (.int .i64 5) rfl
 clear hce hce' h h'
 have q0:∀ W:World,(Op.equalIn 10000 72 (.agg #[.int .i64 0,.int .i64 1]) (.agg #[.int .i64 0,.int .i64 1])).run Tryz.prog W = .ok true W:=fun W=>by kernel_rfl
 have q1:∀ W:World,(Op.equalIn 10000 72 (.agg #[.int .i64 3,.int .i64 5]) (.agg #[.int .i64 3,.int .i64 5])).run Tryz.prog W = .ok true W:=fun W=>by kernel_rfl
 go_enter Tryz.func30,Tryz.ntmps30
 go_wp2
 go_loopg [5] 2 (fun m s W=>Below w.heap.size w W∧((s = .int .i64 0∧2≤m)∨(s = .int .i64 1∧1≤m)∨s = .int .i64 2))
 case atStart=>exact ⟨Below.refl _ _,Or.inl ⟨rfl,Nat.le_refl _⟩⟩
 case round=>
  obtain ⟨hbel,(⟨rfl,hm⟩ | ⟨rfl,hm⟩ | rfl)⟩:=hrel
  ·have c0:=(hbel.cell (p:=⟨g,0,none⟩) hb).trans y0
   have c1:=(hbel.cell (p:=⟨g,1,none⟩) hb).trans y1
   have d0:=(hbel.cell (p:=⟨g',0,none⟩) hb').trans z0
   have d1:=(hbel.cell (p:=⟨g',1,none⟩) hb').trans z1
   go_wp2
   go_region
   go_wp2
   go_roundg 1
   case measure=>omega
   case rel=>exact ⟨hbel.drew,Or.inr (Or.inl ⟨rfl,Nat.le_refl _⟩)⟩
  ·have c2:=(hbel.cell (p:=⟨g,2,none⟩) hb).trans y2
   have c3:=(hbel.cell (p:=⟨g,3,none⟩) hb).trans y3
   have d2:=(hbel.cell (p:=⟨g',2,none⟩) hb').trans z2
   have d3:=(hbel.cell (p:=⟨g',3,none⟩) hb').trans z3
   go_wp2
   go_region
   go_wp2
   go_roundg 0
   case measure=>omega
   case rel=>exact ⟨hbel.drew,Or.inr (Or.inr rfl)⟩
  ·go_wp2
   go_ret
   exact ⟨rfl,hbel⟩
set_option maxHeartbeats 1000000 in
theorem aw_block (A:Option Addr) (c:Nat) (w:World) :
  Calls Tryz.prog 36 #[.slice A 3 c] w fun e w'=>e = .returned (.tuple #[.agg #[.int .u16 0,.int .u16 0,.int .u16 0,.int .u16 0,.int .u16 0,.int .u16 0,.int .u16 0,.int .u16 0,.int .u16 0,.int .u16 0,.int .u16 0,.int .u16 0,.int .u16 0,.int .u16 0,.int .u16 0,.int .u16 0],.int .i64 2])∧Below w.heap.size w w':=by
 have HM:=Lib.hid (fun W=>catMost_u16 A 3 c 4096 W)
 go_enter Tryz.func36,Tryz.ntmps36
 go_wp2_with fail
 refine (HM.out _).mono ?_
 rintro e w1 ⟨rfl,rfl⟩
 go_wp2_with fail
 refine bodyPost_ret (v := .tuple #[.agg #[.int .u16 0,.int .u16 0,.int .u16 0,.int .u16 0,.int .u16 0,.int .u16 0,.int .u16 0,.int .u16 0,.int .u16 0,.int .u16 0,.int .u16 0,.int .u16 0,.int .u16 0,.int .u16 0,.int .u16 0,.int .u16 0],.int .i64 2]) (by simp [results,Tryz.results36,go_sem]) rfl ⟨rfl,(Below.refl _ _).alloc (Nat.le_refl _) _⟩
set_option maxHeartbeats 2000000 in
set_option maxRecDepth 100000 in
theorem Full_ok (a:Nat) (st z:Int) (g o:ByteArray) (x y:Nat) (l m:List UInt8) (w:World) (hT:Tabs w) (h:Conv a st z g o) (hx:nomW (0 - z) st=x) (hy:nomW (((2 ^ a - 1:Nat):Int) - z) st=y) (hl:exT x=l) (hm:exT y=m) :
  Calls Tryz.prog 8 #[.agg #[.int .i64 a,.int .i64 st,.int .i64 z,.string g,.string o]] w fun e w'=>e = .returned (.tuple #[.agg #[.string ⟨l.toArray⟩,.string ⟨m.toArray⟩],.int .i64 0])∧Below w.heap.size w w':=by
 have hp:2 ^ a≤2 ^ 12:=Nat.pow_le_pow_right (by omega) h.bits.2
 have hz:=h.zero
 have hb0:Below w.heap.size w ((w.alloc (.cells #[.int .i64 a,.int .i64 st,.int .i64 z,.string g,.string o] 32)).alloc (.cells #[.string { data:=#[] },.string { data:=#[] }] 28)):=((Below.refl _ _).alloc (Nat.le_refl _) _).alloc (by simp) _
 have q0:CBlk ((w.alloc (.cells #[.int .i64 a,.int .i64 st,.int .i64 z,.string g,.string o] 32)).alloc (.cells #[.string { data:=#[] },.string { data:=#[] }] 28)) w.heap.size #[.int .i64 a,.int .i64 st,.int .i64 z,.string g,.string o] 32:=(CBlk.new w _ _ _ rfl).below ((Below.refl _ _).alloc (Nat.le_refl _) _) (by simp)
 have s0:CBlk ((w.alloc (.cells #[.int .i64 a,.int .i64 st,.int .i64 z,.string g,.string o] 32)).alloc (.cells #[.string { data:=#[] },.string { data:=#[] }] 28)) (w.heap.size+1) #[.string { data:=#[] },.string { data:=#[] }] 28:=CBlk.new _ _ _ _ (by simp)
 have HC:=Lib.hid (checkAdc_ok a st z g o _ (hT.later hb0) h)
 have HTP:=Lib.hid (fun W=>top_any a st z (.string g) (.string o) W (by have:=h.bits;omega))
 have HN0:=Lib.hid (fun W=>nominal_any a st z 0 (.string g) (.string o) W (by omega) (by omega) (by have:=h.step;omega) (by have:=h.step;omega))
 have HNT:=Lib.hid (fun W=>nominal_any a st z ((2 ^ a - 1:Nat):Int) (.string g) (.string o) W (by omega) (by omega) (by have:=h.step;omega) (by have:=h.step;omega))
 have HSP:=Lib.hid (fun W hT=>spanOf_eq x y l m W hT hl hm)
 rw [hx] at HN0
 rw [hy] at HNT
 generalize ((2 ^ a - 1:Nat):Int)=T at *
 generalize l.toArray=la at *
 generalize m.toArray=ma at *
 clear h hz hp hl hm hx hy
 go_enter Tryz.func8,Tryz.ntmps8
 have x0:=q0.cell 0
 have x1:=q0.cell 1
 have x2:=q0.cell 2
 have x3:=q0.cell 3
 have x4:=q0.cell 4
 go_wp2_with fail
 generalize ((w.alloc (.cells #[.int .i64 a,.int .i64 st,.int .i64 z,.string g,.string o] 32)).alloc (.cells #[.string { data:=#[] },.string { data:=#[] }] 28))=w1 at *
 have hT1:=hT.later hb0
 refine HC.out.mono ?_
 rintro e w2 ⟨rfl,hb2⟩
 have q2:=q0.below hb2 q0.lt
 have s2:=s0.below hb2 s0.lt
 have hT2:=hT1.later hb2
 have hB2:=hb0.trans (hb2.mono hb0.size)
 clear x0 x1 x2 x3 x4
 have x0:=q2.cell 0
 have x1:=q2.cell 1
 have x2:=q2.cell 2
 have x3:=q2.cell 3
 have x4:=q2.cell 4
 go_wp2_with fail
 go_region_held3 (fun w'=>w'.cell? ⟨w.heap.size,0,none⟩=some (.int .i64 a)∧w'.cell? ⟨w.heap.size,1,none⟩=some (.int .i64 st)∧w'.cell? ⟨w.heap.size,2,none⟩=some (.int .i64 z)∧w'.cell? ⟨w.heap.size,3,none⟩=some (.string g)∧w'.cell? ⟨w.heap.size,4,none⟩=some (.string o))
  ((refine ⟨?_,?_,?_,?_,?_⟩<;>first | exact q6.cell _ | exact q5.cell _ | exact q4.cell _ | exact q3.cell _ | exact q2.cell _ | exact (q6.far2 (Nat.succ_ne_self _) _ _).cell _))
  (first
   |(go_at_call 39;refine (HSP.out w5 hT5).mono ?_;rintro e w6 ⟨rfl,hb6⟩;have q6:=q5.below hb6 q5.lt;have s6:=s5.below hb6 s5.lt;have r0:=s6.cell 0;have r1:=s6.cell 1;have f0:=s6.frozen 0;have f1:=s6.frozen 1)
   |(go_at_call 40;refine (HNT.out w4).mono ?_;rintro e w5 ⟨rfl,hb5⟩;have q5:=q4.below hb5 q4.lt;have s5:=s4.below hb5 s4.lt;have hT5:=hT4.later hb5)
   |(go_at_call 41;refine (HTP.out w3).mono ?_;rintro e w4 ⟨rfl,hb4⟩;have q4:=q3.below hb4 q3.lt;have s4:=s3.below hb4 s3.lt;have hT4:=hT3.later hb4)
   |(go_at_call 40;refine (HN0.out w2.drew).mono ?_;rintro e w3 ⟨rfl,hb3'⟩;have hb3:Below w2.heap.size w2 w3:=⟨hb3'.os,hb3'.tape,hb3'.output,hb3'.size,hb3'.block⟩;clear hb3';have q3:=q2.below hb3 q2.lt;have s3:=s2.below hb3 s2.lt;have hT3:=hT2.later hb3))
 have hB3:=hB2.trans (hb3.mono hB2.size)
 have hB4:=hB3.trans (hb4.mono hB3.size)
 have hB5:=hB4.trans (hb5.mono hB4.size)
 have hB6:=hB5.trans (hb6.mono hB5.size)
 have hset:=two_set hB6 (g:=w.heap.size+1) (by omega) (.string ⟨la⟩) (.string ⟨ma⟩)
 clear HC HTP HN0 HNT HSP
 go_wp2_with fail
 refine bodyPost_ret (v := .tuple #[.agg #[.string ⟨la⟩,.string ⟨ma⟩],.int .i64 0]) (by simp [results,Tryz.results8,go_sem,r0,r1]) rfl ⟨rfl,hset⟩
theorem aw_inner (w:World) (hT:Tabs w):Calls Tryz.prog 63 #[.agg #[.int .i64 8,.int .i64 (-3),.int .i64 128,.string { data:=#[50] },.string { data:=#[49] }],.int .i64 129] w fun e w'=>e = .returned (.int .i64 0)∧Below w.heap.size w w':=
 checkInner_ok 8 (-3) 128 129 0 { data:=#[50] } { data:=#[49] } w hT aw_conv2 (by decide) (by decide)
theorem aw_interval (w:World) (hT:Tabs w):Calls Tryz.prog 64 #[.agg #[.int .i64 8,.int .i64 (-3),.int .i64 128,.string { data:=#[50] },.string { data:=#[49] }],.int .i64 129] w fun e w'=>e = .returned (.agg #[.string { data:=#[49,47,49,54] },.string { data:=#[51,47,49,54] }])∧Below w.heap.size w w':=
 interval_ok 8 (-3) 128 129 { data:=#[50] } { data:=#[49] } 1031798784 1044381696 [49,47,49,54] [51,47,49,54] w hT (by decide) (by decide) (by decide) aw_e129 aw_e130 aw_te129 aw_te130
theorem aw_tv129 (w:World) (hT:Tabs w):Calls Tryz.prog 66 #[.agg #[.int .i64 8,.int .i64 (-3),.int .i64 128,.string { data:=#[50] },.string { data:=#[49] }],.string { data:=#[49,47,49,54] }] w fun e w'=>e = .returned (.tuple #[.string { data:=#[57,47,56] },.int .i64 0])∧Below w.heap.size w w':=
 trueVolts_eq 8 (-3) 128 { data:=#[50] } { data:=#[49] } { data:=#[49,47,49,54] } ⟨false,2,1⟩ ⟨false,1,16⟩ ⟨false,1,1⟩ ⟨false,1,8⟩ ⟨false,9,8⟩ [57,47,56] w hT (by decide) (by decide) (by decide) aw_q2 aw_qe129 aw_q1 aw_t129 aw_p129 aw_w129.1 aw_w129.2 (by decide) (by decide) (by decide) (by decide) (by decide)
theorem aw_tv130 (w:World) (hT:Tabs w):Calls Tryz.prog 66 #[.agg #[.int .i64 8,.int .i64 (-3),.int .i64 128,.string { data:=#[50] },.string { data:=#[49] }],.string { data:=#[51,47,49,54] }] w fun e w'=>e = .returned (.tuple #[.string { data:=#[49,49,47,56] },.int .i64 0])∧Below w.heap.size w w':=
 trueVolts_eq 8 (-3) 128 { data:=#[50] } { data:=#[49] } { data:=#[51,47,49,54] } ⟨false,2,1⟩ ⟨false,3,16⟩ ⟨false,1,1⟩ ⟨false,3,8⟩ ⟨false,11,8⟩ [49,49,47,56] w hT (by decide) (by decide) (by decide) aw_q2 aw_qe130 aw_q1 aw_t130 aw_p130 aw_w130.1 aw_w130.2 (by decide) (by decide) (by decide) (by decide) (by decide)
set_option maxHeartbeats 2000000 in
set_option maxRecDepth 100000 in
theorem aw_true (w:World) (hT:Tabs w) :
  Calls Tryz.prog 19 #[.agg #[.int .i64 8,.int .i64 (-3),.int .i64 128,.string { data:=#[50] },.string { data:=#[49] }],.int .i64 129] w fun e w'=>e = .returned (.tuple #[.agg #[.string { data:=#[57,47,56] },.string { data:=#[49,49,47,56] }],.int .i64 0])∧Below w.heap.size w w':=by
 have hb0:Below w.heap.size w ((w.alloc (.cells #[.int .i64 8,.int .i64 (-3),.int .i64 128,.string { data:=#[50] },.string { data:=#[49] }] 32)).alloc (.cells #[.string { data:=#[] },.string { data:=#[] }] 28)):=((Below.refl _ _).alloc (Nat.le_refl _) _).alloc (by simp) _
 have q0:CBlk ((w.alloc (.cells #[.int .i64 8,.int .i64 (-3),.int .i64 128,.string { data:=#[50] },.string { data:=#[49] }] 32)).alloc (.cells #[.string { data:=#[] },.string { data:=#[] }] 28)) w.heap.size #[.int .i64 8,.int .i64 (-3),.int .i64 128,.string { data:=#[50] },.string { data:=#[49] }] 32:=(CBlk.new w _ _ _ rfl).below ((Below.refl _ _).alloc (Nat.le_refl _) _) (by simp)
 have s0:CBlk ((w.alloc (.cells #[.int .i64 8,.int .i64 (-3),.int .i64 128,.string { data:=#[50] },.string { data:=#[49] }] 32)).alloc (.cells #[.string { data:=#[] },.string { data:=#[] }] 28)) (w.heap.size+1) #[.string { data:=#[] },.string { data:=#[] }] 28:=CBlk.new _ _ _ _ (by simp)
 have x0:=q0.cell 0
 have x1:=q0.cell 1
 have x2:=q0.cell 2
 have x3:=q0.cell 3
 have x4:=q0.cell 4
 go_enter Tryz.func19,Tryz.ntmps19
 go_wp2_with fail
 generalize ((w.alloc (.cells #[.int .i64 8,.int .i64 (-3),.int .i64 128,.string { data:=#[50] },.string { data:=#[49] }] 32)).alloc (.cells #[.string { data:=#[] },.string { data:=#[] }] 28))=w1 at *
 have hT1:=hT.later hb0
 refine (aw_inner w1 hT1).mono ?_
 rintro e w2 ⟨rfl,hb2⟩
 have q2:=q0.below hb2 q0.lt
 have s2:=s0.below hb2 s0.lt
 have hT2:=hT1.later hb2
 have hB2:=hb0.trans (hb2.mono hb0.size)
 clear x0 x1 x2 x3 x4
 have x0:=q2.cell 0
 have x1:=q2.cell 1
 have x2:=q2.cell 2
 have x3:=q2.cell 3
 have x4:=q2.cell 4
 go_wp2_with fail
 refine (aw_interval w2 hT2).mono ?_
 rintro e w3 ⟨rfl,hb3⟩
 have hb4:Below w3.heap.size w3 (w3.alloc (.cells #[.string { data:=#[49,47,49,54] },.string { data:=#[51,47,49,54] }] 28)):=(Below.refl _ _).alloc (Nat.le_refl _) _
 have q4:=(q2.below hb3 q2.lt).below hb4 (q2.below hb3 q2.lt).lt
 have s4:=(s2.below hb3 s2.lt).below hb4 (s2.below hb3 s2.lt).lt
 have i4:CBlk (w3.alloc (.cells #[.string { data:=#[49,47,49,54] },.string { data:=#[51,47,49,54] }] 28)) w3.heap.size #[.string { data:=#[49,47,49,54] },.string { data:=#[51,47,49,54] }] 28:=CBlk.new _ _ _ _ rfl
 have hB3:=hB2.trans (hb3.mono hB2.size)
 have hB4:=hB3.trans (hb4.mono hB3.size)
 have hT4:=hT.later hB4
 clear x0 x1 x2 x3 x4 hb2 hb3 hb4
 go_wp2_with fail
 generalize w3.heap.size=j at *
 generalize w3.alloc (.cells #[.string { data:=#[49,47,49,54] },.string { data:=#[51,47,49,54] }] 28)=w4 at *
 have HCAL:=Lib.hid (fun W=>calibrated_any 8 (-3) 128 { data:=#[50] } { data:=#[49] } { data:=#[49] } { data:=#[48] } W)
 go_region_held3 (fun w'=>w'.cell? ⟨w.heap.size,0,none⟩=some (.int .i64 8)∧w'.cell? ⟨w.heap.size,1,none⟩=some (.int .i64 (-3))∧w'.cell? ⟨w.heap.size,2,none⟩=some (.int .i64 128)∧w'.cell? ⟨w.heap.size,3,none⟩=some (.string { data:=#[50] })∧w'.cell? ⟨w.heap.size,4,none⟩=some (.string { data:=#[49] }))
  ((refine ⟨?_,?_,?_,?_,?_⟩<;>first | exact q5.cell _ | exact q4.cell _))
  (first
   |(go_at_call 65;refine (HCAL.out w4.drew).mono ?_;rintro e w5 ⟨rfl,hb5'⟩;have hb5:Below w4.heap.size w4 w5:=⟨hb5'.os,hb5'.tape,hb5'.output,hb5'.size,hb5'.block⟩;clear hb5';have q5:=q4.below hb5 q4.lt))
 have hB5:=hB4.trans (hb5.mono hB4.size)
 have s5:=s4.below hb5 s4.lt
 have i5:=i4.below hb5 i4.lt
 have hT5:=hT4.later hb5
 have x0:=q5.cell 0
 have x1:=q5.cell 1
 have x2:=q5.cell 2
 have x3:=q5.cell 3
 have x4:=q5.cell 4
 have y0:=i5.cell 0
 have y1:=i5.cell 1
 clear hb5 q4 s4 i4 hT4 hB4 HCAL
 go_wp2_with fail
 refine (aw_tv129 w5 hT5).mono ?_
 rintro e w6 ⟨rfl,hb6⟩
 have q6:=q5.below hb6 q5.lt
 have s6:=s5.below hb6 s5.lt
 have i6:=i5.below hb6 i5.lt
 have hT6:=hT5.later hb6
 have hB6:=hB5.trans (hb6.mono hB5.size)
 clear x0 x1 x2 x3 x4 y0 y1
 have x0:=q6.cell 0
 have x1:=q6.cell 1
 have x2:=q6.cell 2
 have x3:=q6.cell 3
 have x4:=q6.cell 4
 have y0:=i6.cell 0
 have y1:=i6.cell 1
 clear hb6 q5 s5 i5 hT5 hB5
 go_wp2_with fail
 refine (aw_tv130 w6 hT6).mono ?_
 rintro e w7 ⟨rfl,hb7⟩
 have s7:=s6.below hb7 s6.lt
 have hB7:=hB6.trans (hb7.mono hB6.size)
 clear x0 x1 x2 x3 x4 y0 y1 hb7 q6 s6 i6 hT6 hB6
 go_wp2_with fail
 refine (cfirst_two 0 0 w7 _ _ rfl).mono ?_
 rintro e w8 ⟨rfl,rfl⟩
 have hb8:Below w7.heap.size w7 (w7.alloc (.cells #[.int .i64 0,.int .i64 0] 29)):=(Below.refl _ _).alloc (Nat.le_refl _) _
 have s8:=s7.below hb8 s7.lt
 have hB8:=hB7.trans (hb8.mono hB7.size)
 generalize w7.alloc (.cells #[.int .i64 0,.int .i64 0] 29)=w8 at *
 have r0:=s8.cell 0
 have r1:=s8.cell 1
 have f0:=s8.frozen 0
 have f1:=s8.frozen 1
 have hset:=two_set hB8 (g:=w.heap.size+1) (by omega) (.string { data:=#[57,47,56] }) (.string { data:=#[49,49,47,56] })
 clear hb8 s7 hB7
 go_wp2_with fail
 refine bodyPost_ret (v := .tuple #[.agg #[.string { data:=#[57,47,56] },.string { data:=#[49,49,47,56] }],.int .i64 0]) (by simp [results,Tryz.results19,go_sem,r0,r1]) rfl ⟨rfl,hset⟩
end Go.Proofs.YtjhgadajpliclaaGreatDoor
namespace Go.Proofs.YtjhgadajpliclaaGreatDoor
open Go.RowKit
open Flt
set_option maxHeartbeats 1000000 in
theorem sameInts_eq (A A':Option Addr) (n c c':Nat) (l:List Int) (w:World) (h:Reads w w.heap.size 1 A n (l.map i64v)) (h':Reads w w.heap.size 1 A' n (l.map i64v)) (hn:n≤maxLen) :
  Calls Tryz.prog 29 #[.slice A n c,.slice A' n c'] w fun e w'=>e = .returned (.bool true)∧Below w.heap.size w w':=by
 unfold maxLen at hn
 go_enter Tryz.func29,Tryz.ntmps29
 go_wp2
 go_loopg [5] n (fun m s W=>∃ k:Nat,k≤n∧s = .int .i64 k∧n - k≤m∧Below w.heap.size w W)
 case atStart=>exact ⟨0,Nat.zero_le _,rfl,by omega,Below.refl _ _⟩
 case round=>
  obtain ⟨k,hk,rfl,hm,hbel⟩:=hrel
  by_cases h0:k<n
  ·obtain ⟨ad,hkl,rfl,hbb,hcell⟩:=(h.below hbel).cellM h0
   obtain ⟨ad',hkl',rfl,hbb',hcell'⟩:=(h'.below hbel).cellM h0
   unfold i64v at hcell hcell'
   generalize l[k]=x at *
   go_wp2
   go_region
   go_wp2
   go_roundg (n - (k+1))
   case measure=>omega
   case rel=>exact ⟨k+1,by omega,by go_num,Nat.le_refl _,hbel.drew⟩
  ·go_wp2
   go_ret
   exact ⟨rfl,hbel⟩
set_option maxHeartbeats 1000000 in
theorem sameFloats_eq (A A':Option Addr) (n c c':Nat) (l:List Nat) (w:World) (h:Reads w w.heap.size 1 A n (l.map f32v)) (h':Reads w w.heap.size 1 A' n (l.map f32v)) (hn:n≤maxLen) (hf:∀ x ∈ l,fin Ieee.single x=true) :
  Calls Tryz.prog 38 #[.slice A n c,.slice A' n c'] w fun e w'=>e = .returned (.bool true)∧Below w.heap.size w w':=by
 unfold maxLen at hn
 have HFI:=Lib.hid hf
 clear hf
 go_enter Tryz.func38,Tryz.ntmps38
 go_wp2
 go_loopg [5] n (fun m s W=>∃ k:Nat,k≤n∧s = .int .i64 k∧n - k≤m∧Below w.heap.size w W)
 case atStart=>exact ⟨0,Nat.zero_le _,rfl,by omega,Below.refl _ _⟩
 case round=>
  obtain ⟨k,hk,rfl,hm,hbel⟩:=hrel
  by_cases h0:k<n
  ·obtain ⟨ad,hkl,rfl,hbb,hcell⟩:=(h.below hbel).cellM h0
   obtain ⟨ad',hkl',rfl,hbb',hcell'⟩:=(h'.below hbel).cellM h0
   have hfx:=HFI.out _ (List.getElem_mem hkl)
   unfold f32v at hcell hcell'
   generalize l[k]=x at *
   have hxx:(FloatKind.f32.format.order x x != some .eq)=false:=by
    have h:=feq_key hfx hfx
    have h2:feq x x=true:=by rw [h];simp
    show (Ieee.single.order x x != some .eq)=false
    simpa [feq] using h2
   clear hfx
   go_wp2
   go_region
   go_wp2
   go_roundg (n - (k+1))
   case measure=>omega
   case rel=>exact ⟨k+1,by omega,by go_num,Nat.le_refl _,hbel.drew⟩
  ·go_wp2
   go_ret
   exact ⟨rfl,hbel⟩
end Go.Proofs.YtjhgadajpliclaaGreatDoor
namespace Go.Proofs.YtjhgadajpliclaaGreatDoor
open Go.RowKit Bn
open Flt
set_option maxHeartbeats 1000000 in
theorem aw_adc (w:World):Calls Tryz.prog 25 #[] w fun e w'=>e = .returned (.agg #[.int .i64 8,.int .i64 (-3),.int .i64 128,.string { data:=#[49] },.string { data:=#[48] }])∧Below w.heap.size w w':=by
 go_enter Tryz.func25,Tryz.ntmps25
 go_wp2_with fail
 refine bodyPost_ret (v := .agg #[.int .i64 8,.int .i64 (-3),.int .i64 128,.string { data:=#[49] },.string { data:=#[48] }]) (by simp [results,Tryz.results25,go_sem]) rfl ⟨rfl,(Below.refl _ _).alloc (Nat.le_refl _) _⟩
theorem aw_full (w:World) (hT:Tabs w):Calls Tryz.prog 8 #[.agg #[.int .i64 8,.int .i64 (-3),.int .i64 128,.string { data:=#[49] },.string { data:=#[48] }]] w fun e w'=>e = .returned (.tuple #[.agg #[.string { data:=#[45,49,54] },.string { data:=#[49,50,55,47,56] }],.int .i64 0])∧Below w.heap.size w w':=
 Full_ok 8 (-3) 128 { data:=#[49] } { data:=#[48] } 3246391296 1098776576 [45,49,54] [49,50,55,47,56] w hT aw_conv aw_nomlo aw_nomhi aw_txlo aw_txhi
theorem aw_code (w:World) (hT:Tabs w):Calls Tryz.prog 9 #[.agg #[.int .i64 8,.int .i64 (-3),.int .i64 128,.string { data:=#[49] },.string { data:=#[48] }],.string { data:=#[45,49,55] }] w fun e w'=>e = .returned (.tuple #[.int .i64 0,.int .i64 (-1),.int .i64 0])∧Below w.heap.size w w':=by
 refine Code_ok { data:=#[45,49,55] } 8 0 (-3) 128 { data:=#[49] } { data:=#[48] } w hT aw_conv (by decide) aw_r17 0 (-1) (by decide) ?_ ?_ (by decide) (by decide)
 ·intro t ht
  omega
 ·intro t h1 h2
  have e:({ data:=#[45,49,55] }:ByteArray).data.toList=[45,49,55]:=rfl
  have e2:(2:Nat) ^ 8=256:=by decide
  rw [e,aw_n17]
  exact aw_b17 t (by omega)
theorem aw_volts (w:World) (hT:Tabs w):Calls Tryz.prog 10 #[.agg #[.int .i64 8,.int .i64 (-3),.int .i64 128,.string { data:=#[49] },.string { data:=#[48] }],.int .i64 130] w fun e w'=>e = .returned (.tuple #[.float .f32 1048576000,.int .i64 0])∧Below w.heap.size w w':=by
 have h:=Volts_ok 8 (-3) 128 130 { data:=#[49] } { data:=#[48] } w hT aw_conv (by decide)
 rw [show (130:Int) - 128=2 from rfl,aw_nom2] at h
 exact h
theorem aw_interval0 (w:World) (hT:Tabs w):Calls Tryz.prog 18 #[.agg #[.int .i64 8,.int .i64 (-3),.int .i64 128,.string { data:=#[50] },.string { data:=#[49] }],.int .i64 0] w fun e w'=>e = .returned (.tuple #[.agg #[.string { data:=#[] },.string { data:=#[] }],.int .i64 15])∧Below w.heap.size w w':=
 Interval_end 8 (-3) 128 { data:=#[50] } { data:=#[49] } w hT aw_conv2
end Go.Proofs.YtjhgadajpliclaaGreatDoor
