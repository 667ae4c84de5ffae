/- The code's Calibrated where a mark is invalid, or both have one code. -/
import Derived.Test.YtmkihdjolnlccaaGreatDoorFRc2
import Derived.Test.YtmkihdjolnlccaaGreatDoorFRbt
import Derived.Test.YtmkihdjolnlccaaGreatDoorFAd2
import Derived.Test.YtmkihdjolnlccaaGreatDoorFCSm
import Derived.Maps.OwnOps
import Derived.Test.YtmkihdjolnlccaaGreatDoorFDp
import Derived.Test.YtmkihdjolnlccaaGreatDoorFRkd4
namespace Go.Proofs.YtmkihdjolnlccaaGreatDoor
open Go.RowKit Bn
open Flt
theorem cfirst_fourE (x y z u:Int) (w:World) (t:TypeId) (g:Nat) (hg:w.heap.size=g) :
  Calls Tryz.prog 64 #[.slice (some ⟨g,0,none⟩) 4 4] (w.alloc (.cells #[.int .i64 x,.int .i64 y,.int .i64 z,.int .i64 u] t)) fun e w'=>e = .returned (.int .i64 (firstE [x,y,z,u]))∧w.alloc (.cells #[.int .i64 x,.int .i64 y,.int .i64 z,.int .i64 u] t)=w':=by
 subst hg
 exact cfirst_any (some ⟨w.heap.size,0,none⟩) 4 4 [x,y,z,u] (w.alloc (.cells #[.int .i64 x,.int .i64 y,.int .i64 z,.int .i64 u] t)) (Reads.lit w [.int .i64 x,.int .i64 y,.int .i64 z,.int .i64 u] t) (by unfold maxLen;omega)
def CodeSays (a st z:Int) (g o:ByteArray) (c E:Int):Prop:=∀ W,Tabs W→Calls Tryz.prog 90 #[.agg #[.int .i64 a,.int .i64 st,.int .i64 z,.string g,.string o],.int .i64 c] W fun e w'=>e = .returned (.int .i64 E)∧Below W.heap.size W w'
def TextSays (s:ByteArray) (E:Int):Prop:=∀ W,Tabs W→Calls Tryz.prog 82 #[.string s] W fun e w'=>e = .returned (.int .i64 E)∧Below W.heap.size W w'
set_option maxHeartbeats 16000000 in
set_option maxRecDepth 100000 in
theorem calib_early (a st z c1 c2 e1 e2 e3 e4 F E:Int) (g o v1 v2:ByteArray) (w:World) (hT:Tabs w)
  (k1:CodeSays a st z g o c1 e1) (t1:TextSays v1 e2) (k2:CodeSays a st z g o c2 e3) (t2:TextSays v2 e4) (hF:firstE [e1,e2,e3,e4]=F) (hE:(F≠0∧E=F)∨(F=0∧c1=c2∧E=9)) :
  Calls Tryz.prog 40 #[.agg #[.int .i64 a,.int .i64 st,.int .i64 z,.string g,.string o],.agg #[.int .i64 c1,.string v1],.agg #[.int .i64 c2,.string v2]] w fun e w'=>e = .returned (.tuple #[.agg #[.int .i64 0,.int .i64 0,.int .i64 0,.string { data:=#[] },.string { data:=#[] }],.int .i64 E])∧Below w.heap.size w w':=by
 have hb1:Below w.heap.size w ((((w.alloc (.cells #[.int .i64 a,.int .i64 st,.int .i64 z,.string g,.string o] 33)).alloc (.cells #[.int .i64 c1,.string v1] 76)).alloc (.cells #[.int .i64 c2,.string v2] 76)).alloc (.cells #[.int .i64 0,.int .i64 0,.int .i64 0,.string { data:=#[] },.string { data:=#[] }] 33)):=((((Below.refl _ _).alloc (Nat.le_refl _) _).alloc (by simp) _).alloc (by simp;omega) _).alloc (by simp;omega) _
 have a1:CBlk ((((w.alloc (.cells #[.int .i64 a,.int .i64 st,.int .i64 z,.string g,.string o] 33)).alloc (.cells #[.int .i64 c1,.string v1] 76)).alloc (.cells #[.int .i64 c2,.string v2] 76)).alloc (.cells #[.int .i64 0,.int .i64 0,.int .i64 0,.string { data:=#[] },.string { data:=#[] }] 33)) (w.heap.size) #[.int .i64 a,.int .i64 st,.int .i64 z,.string g,.string o] 33:=(((CBlk.new w _ _ _ rfl).alloc _).alloc _).alloc _
 have m1:CBlk ((((w.alloc (.cells #[.int .i64 a,.int .i64 st,.int .i64 z,.string g,.string o] 33)).alloc (.cells #[.int .i64 c1,.string v1] 76)).alloc (.cells #[.int .i64 c2,.string v2] 76)).alloc (.cells #[.int .i64 0,.int .i64 0,.int .i64 0,.string { data:=#[] },.string { data:=#[] }] 33)) (w.heap.size+1) #[.int .i64 c1,.string v1] 76:=((CBlk.new _ _ _ _ (by simp)).alloc _).alloc _
 have k1':CBlk ((((w.alloc (.cells #[.int .i64 a,.int .i64 st,.int .i64 z,.string g,.string o] 33)).alloc (.cells #[.int .i64 c1,.string v1] 76)).alloc (.cells #[.int .i64 c2,.string v2] 76)).alloc (.cells #[.int .i64 0,.int .i64 0,.int .i64 0,.string { data:=#[] },.string { data:=#[] }] 33)) (w.heap.size+1+1) #[.int .i64 c2,.string v2] 76:=(CBlk.new _ _ _ _ (by simp)).alloc _
 have r1:CBlk ((((w.alloc (.cells #[.int .i64 a,.int .i64 st,.int .i64 z,.string g,.string o] 33)).alloc (.cells #[.int .i64 c1,.string v1] 76)).alloc (.cells #[.int .i64 c2,.string v2] 76)).alloc (.cells #[.int .i64 0,.int .i64 0,.int .i64 0,.string { data:=#[] },.string { data:=#[] }] 33)) (w.heap.size+1+1+1) #[.int .i64 0,.int .i64 0,.int .i64 0,.string { data:=#[] },.string { data:=#[] }] 33:=CBlk.new _ _ _ _ (by simp)
 have C1:=Lib.hid k1
 have C2:=Lib.hid k2
 have K1:=Lib.hid t1
 have K2:=Lib.hid t2
 have HF:=Lib.hid hF
 clear k1 k2 t1 t2 hF
 have k1:=k1'
 clear k1'
 go_enter Tryz.func40,Tryz.ntmps40
 go_wp2_with fail
 generalize ((((w.alloc (.cells #[.int .i64 a,.int .i64 st,.int .i64 z,.string g,.string o] 33)).alloc (.cells #[.int .i64 c1,.string v1] 76)).alloc (.cells #[.int .i64 c2,.string v2] 76)).alloc (.cells #[.int .i64 0,.int .i64 0,.int .i64 0,.string { data:=#[] },.string { data:=#[] }] 33))=w1 at *
 have hT1:=hT.later hb1
 have hD1:Tabs w1.drew:=hT1.later (Below.drew (Below.refl _ _))
 go_region_held3 (fun w'=>w'.cell? ⟨w.heap.size,0,none⟩=some (.int .i64 a)∧w'.cell? ⟨w.heap.size,1,none⟩=some (.int .i64 st)∧w'.cell? ⟨w.heap.size,2,none⟩=some (.int .i64 z)∧w'.cell? ⟨w.heap.size,3,none⟩=some (.string g)∧w'.cell? ⟨w.heap.size,4,none⟩=some (.string o)∧w'.cell? ⟨w.heap.size+1,0,none⟩=some (.int .i64 c1)∧w'.cell? ⟨w.heap.size+1,1,none⟩=some (.string v1)∧w'.cell? ⟨w.heap.size+1+1,0,none⟩=some (.int .i64 c2)∧w'.cell? ⟨w.heap.size+1+1,1,none⟩=some (.string v2))
  ((refine ⟨?_,?_,?_,?_,?_,?_,?_,?_,?_⟩<;>first | ((with_reducible refine (a5.cell _).trans ?_);rfl) | ((with_reducible refine (m5.cell _).trans ?_);rfl) | ((with_reducible refine (k5.cell _).trans ?_);rfl) | ((with_reducible refine (a4.cell _).trans ?_);rfl) | ((with_reducible refine (m4.cell _).trans ?_);rfl) | ((with_reducible refine (k4.cell _).trans ?_);rfl) | ((with_reducible refine (a3.cell _).trans ?_);rfl) | ((with_reducible refine (m3.cell _).trans ?_);rfl) | ((with_reducible refine (k3.cell _).trans ?_);rfl) | ((with_reducible refine (a2.cell _).trans ?_);rfl) | ((with_reducible refine (m2.cell _).trans ?_);rfl) | ((with_reducible refine (k2.cell _).trans ?_);rfl) | ((with_reducible refine (a1.cell _).trans ?_);rfl) | ((with_reducible refine (m1.cell _).trans ?_);rfl) | ((with_reducible refine (k1.cell _).trans ?_);rfl) | ((with_reducible refine ((a5.alloc _).cell _).trans ?_);rfl) | ((with_reducible refine ((m5.alloc _).cell _).trans ?_);rfl) | ((with_reducible refine ((k5.alloc _).cell _).trans ?_);rfl) | ((with_reducible refine (a1.drew.cell _).trans ?_);rfl) | ((with_reducible refine (m1.drew.cell _).trans ?_);rfl) | ((with_reducible refine (k1.drew.cell _).trans ?_);rfl)))
  (first
   |(go_at_call 64;refine (cfirst_fourE e1 e2 e3 e4 w5 _ _ rfl).mono ?_;rintro e w6 ⟨rfl,rfl⟩)
   |(go_at_call 82;refine (K2.out w4 hT4).mono ?_;rintro e w5 ⟨rfl,hb5⟩;have hT5:=hT4.later hb5;have a5:=a4.below hb5 a4.lt;have m5:=m4.below hb5 m4.lt;have k5:=k4.below hb5 k4.lt;have r5:=r4.below hb5 r4.lt)
   |(go_at_call 90;refine (C2.out w3 hT3).mono ?_;rintro e w4 ⟨rfl,hb4⟩;have hT4:=hT3.later hb4;have a4:=a3.below hb4 a3.lt;have m4:=m3.below hb4 m3.lt;have k4:=k3.below hb4 k3.lt;have r4:=r3.below hb4 r3.lt)
   |(go_at_call 82;refine (K1.out w2 hT2).mono ?_;rintro e w3 ⟨rfl,hb3⟩;have hT3:=hT2.later hb3;have a3:=a2.below hb3 a2.lt;have m3:=m2.below hb3 m2.lt;have k3:=k2.below hb3 k2.lt;have r3:=r2.below hb3 r2.lt)
   |(go_at_call 90;refine (C1.out w1.drew hD1).mono ?_;rintro e w2 ⟨rfl,hb2'⟩;have hb2:Below w1.heap.size w1 w2:=⟨hb2'.os,hb2'.tape,hb2'.output,hb2'.size,hb2'.block⟩;clear hb2';have hT2:=hT1.later hb2;have a2:=a1.below hb2 a1.lt;have m2:=m1.below hb2 m1.lt;have k2:=k1.below hb2 k1.lt;have r2:=r1.below hb2 r1.lt))
 clear C1 C2 K1 K2
 have hB2:=hb1.trans (hb2.mono hb1.size)
 have hB3:=hB2.trans (hb3.mono hB2.size)
 have hB4:=hB3.trans (hb4.mono hB3.size)
 have hB5:=hB4.trans (hb5.mono hB4.size)
 have hB6:Below w.heap.size w (w5.alloc (.cells #[.int .i64 e1,.int .i64 e2,.int .i64 e3,.int .i64 e4] 30)):=hB5.alloc hB5.size _
 have m6:=m5.alloc (.cells #[.int .i64 e1,.int .i64 e2,.int .i64 e3,.int .i64 e4] 30)
 have k6:=k5.alloc (.cells #[.int .i64 e1,.int .i64 e2,.int .i64 e3,.int .i64 e4] 30)
 have r6:=r5.alloc (.cells #[.int .i64 e1,.int .i64 e2,.int .i64 e3,.int .i64 e4] 30)
 generalize w5.alloc (.cells #[.int .i64 e1,.int .i64 e2,.int .i64 e3,.int .i64 e4] 30)=w6 at *
 clear hb1 hb2 hb3 hb4 hb5 hB2 hB3 hB4 hB5 a1 a2 a3 a4 a5 m1 m2 m3 m4 m5 k1 k2 k3 k4 k5 r1 r2 r3 r4 r5 hT1 hT2 hT3 hT4 hT5 hD1
 have y0':=m6.cell 0
 have y1':=k6.cell 0
 rw [HF.out]
 have u0:=r6.cell 0
 have u1:=r6.cell 1
 have u2:=r6.cell 2
 have u3:=r6.cell 3
 have u4:=r6.cell 4
 have f0:=r6.frozen 0
 have f1:=r6.frozen 1
 have f2:=r6.frozen 2
 have f3:=r6.frozen 3
 have f4:=r6.frozen 4
 have hset:=five_set hB6 (g:=w.heap.size+1+1+1) (by omega) (.int .i64 0) (.int .i64 0) (.int .i64 0) (.string { data:=#[] }) (.string { data:=#[] })
 rcases hE with ⟨h0,rfl⟩ | ⟨rfl,rfl,rfl⟩
 ·have d1:(E != 0)=true:=by simpa using h0
  go_wp2_with fail
  refine bodyPost_ret (v := .tuple #[.agg #[.int .i64 0,.int .i64 0,.int .i64 0,.string { data:=#[] },.string { data:=#[] }],.int .i64 E]) (by simp [results,Tryz.results40,go_sem,u0,u1,u2,u3,u4]) rfl ⟨rfl,hset⟩
 ·have d1:(c1==c1)=true:=beq_self_eq_true _
  go_wp2_with fail
  refine bodyPost_ret (v := .tuple #[.agg #[.int .i64 0,.int .i64 0,.int .i64 0,.string { data:=#[] },.string { data:=#[] }],.int .i64 9]) (by simp [results,Tryz.results40,go_sem,u0,u1,u2,u3,u4]) rfl ⟨rfl,hset⟩
end Go.Proofs.YtmkihdjolnlccaaGreatDoor
namespace Go.Proofs.YtmkihdjolnlccaaGreatDoor
open Go.RowKit
set_option maxHeartbeats 2000000 in
set_option maxRecDepth 100000 in
theorem trn_rf (g:FuncId) (v:Value) (row:Option Nat) (J:Nat→World→Prop) (A:Option Addr) (n c:Nat) (xs:List Value) (ys:List Nat) (w:World)
  (eg:∀ args w,(callFunc g args).run Tryz.prog w = .ok (.enter g args) w) (hn:n≤4096) (hx:Reads w w.heap.size 1 A n xs) (hy:ys.length=n)
  (hrow:∀ b,row=some b→b<w.heap.size∧(0<n→Off A b)) (hJ0:J 0 w)
  (hJ:∀ i W W',J i W→(∀ b,row=some b→W'.heap[b]? = W.heap[b]?)→J i W')
  (hf:∀ (W:World) (i:Nat) (x:Value) (y:Nat),i<n→w.grownBy W row→J i W→xs[i]? = some x→ys[i]? = some y →
   Calls Tryz.prog g #[v,x] W fun e W'=>e = .returned (f32v y)∧W.grownBy W' row∧J (i+1) W') :
  Calls Tryz.prog 67 #[.slice A n c,.func (.func g) #[v] #[]] w fun e w'=>
   e = .returned (.slice (some ⟨w.heap.size,0,none⟩) n n)∧w'.ownsRow w.heap.size 64 1 (.slice (some ⟨w.heap.size,0,none⟩) n n) n (ys.map f32v)∧w.grownBy w' row∧J n w':=by
 obtain ⟨i0,hi0,hz0,hz1,hz2⟩:=info_parts info_f32
 have HF:=Lib.hid hf
 have HY:=Lib.hid hy
 have HJ:=Lib.hid hJ
 have HROW:=Lib.hid hrow
 clear hf hy hJ hrow
 go_enter Tryz.func67,Tryz.ntmps67
 go_wp2_with (at_make;refine wpList_make_full _ rfl _ _ 26 rfl w.heap.size 64 i0 (.float .f32 0) 1 Tryz.underlying26 hi0 hz0 hz1 _ _ _ _ n rfl rfl (by omega) (by omega) ?b2 ?b3 (Nat.le_refl _) ?_)
 case b2=>rw [hz2];omega
 case b3=>unfold maxLen;omega
 intro w0 hown0 hgrow0
 rw [toList_madeCells_one] at hown0
 have hr0:w.grownBy w0 row:=⟨hgrow0.os,hgrow0.tape,hgrow0.output,hgrow0.size,fun i hi _=>hgrow0.block i hi (by simp)⟩
 have hJ1:J 0 w0:=HJ.out 0 w w0 hJ0 (fun b hb=>hgrow0.block b (HROW.out b hb).1 (by simp))
 go_wp2
 go_loopg [13] n (fun m s W=>∃ k:Nat,k≤n∧s = .int .i64 k∧n - k≤m∧W.ownsRow w.heap.size 64 1 (.slice (some ⟨w.heap.size,0,none⟩) n n) n ((ys.take k).map f32v++List.replicate (n - k) (.float .f32 0))∧w.grownBy W row∧J k W)
 case atStart=>exact ⟨0,Nat.zero_le _,rfl,by omega,by rw [set_start];simpa using hown0,hr0,hJ1⟩
 case round=>
  obtain ⟨k,hk,rfl,hm,hown,hg,hJk⟩:=hrel
  by_cases h0:k<n
  ·obtain ⟨ad,u,rfl,hbb,hu,hcell⟩:=(hx.keptRow hg (fun b hb=>(HROW.out b hb).2)).at_ h0
   have hkl:k<ys.length:=by have:=HY.out;omega
   have hc:=HF.out wr k u ys[k] h0 hg hJk hu (List.getElem?_eq_getElem hkl)
   have hss:=set_step f32v ys (.float .f32 0) n k hkl HY.out
   simp only [f32v] at hc
   have HC:=Lib.hid hc
   have HS:=Lib.hid hss
   have hne:row≠some w.heap.size:=fun e=>Nat.lt_irrefl _ (HROW.out _ e).1
   have hns:∀ b,row=some b→b≠w.heap.size:=fun b e=>Nat.ne_of_lt (HROW.out _ e).1
   have hst:=fun (W:World) (a:Addr) (m:_)=>run_store Tryz.prog W a (.float .f32 ys[k]) m rfl
   clear hc hss hu
   go_wp2_with (go_at_fn g;refine HC.out.mono ?_;rintro e w1 ⟨rfl,hg1,hJ1⟩;have hr1:=own_kept hown hg1 hne;obtain ⟨v1,hc1⟩:=own_cell hr1 k h0;have hf1:=own_free hr1 k)
   go_roundg (n - (k+1))
   case measure=>omega
   case rel=>exact ⟨k+1,by omega,by go_num,Nat.le_refl _,by have h9:=own_set hr1 k (f32v ys[k]);rw [HS.out] at h9;exact h9,gset (gtrans hg hg1) (p:=⟨w.heap.size,k,none⟩) (Nat.le_refl _) _,HJ.out (k+1) w1 _ hJ1 (fun b hb=>Below.heap_setCell w1 ⟨w.heap.size,k,none⟩ _ b (hns b hb))⟩
  ·obtain rfl:k=n:=by omega
   have hss:=set_stop f32v ys (.float .f32 0) k HY.out
   have HS:=Lib.hid hss
   clear hss
   go_wp2
   go_ret
   exact ⟨rfl,by rw [HS.out] at hown;exact hown,hg,hJk⟩
end Go.Proofs.YtmkihdjolnlccaaGreatDoor
namespace Go.Proofs.YtmkihdjolnlccaaGreatDoor
open Go.RowKit Bn
open Flt
def strv (s:ByteArray):Value := .string s
theorem catMost_rat (A:Option Addr) (n c:Nat) (k:Int) (w:World):Calls Tryz.prog 146 #[.slice A n c,.int .i64 k] w fun e w'=>e = .returned (.int .i64 (if k<n then 5 else 0))∧w=w':=by
 go_enter Tryz.func146,Tryz.ntmps146
 by_cases h:k<n
 ·rw [if_pos h]
  have hd:decide (k<(n:Int))=true:=by simpa using h
  go_wp2
  go_ret
  exact ⟨rfl,rfl⟩
 ·rw [if_neg h]
  have hd:decide (k<(n:Int))=false:=by simpa using h
  go_wp2
  go_ret
  exact ⟨rfl,rfl⟩
set_option maxHeartbeats 1000000 in
theorem checkVoltages_ok (A:Option Addr) (n c:Nat) (l:List ByteArray) (w:World) (hT:Tabs w) (h:Reads w w.heap.size 1 A n (l.map strv)) (hn:n≤4096)
  (hv:∀ s ∈ l,s.size≤4294967296∧readE s.data.toList=0) :
  Calls Tryz.prog 66 #[.slice A n c] w fun e w'=>e = .returned (.int .i64 0)∧Below w.heap.size w w':=by
 have HV:=Lib.hid hv
 have hd:decide (4096<(n:Int))=false:=by simpa using (show ¬ (4096<(n:Int)) from by omega)
 have HM:=Lib.hid (fun W=>catMost_rat A n c 4096 W)
 rw [if_neg (show ¬ ((4096:Int)<n) from by omega)] at HM
 clear hv
 go_enter Tryz.func66,Tryz.ntmps66
 go_wp2_with fail
 refine (HM.out w).mono ?_
 rintro e w1 ⟨rfl,rfl⟩
 go_wp2_with fail
 go_loopg [14] n (fun m s W=>∃ k:Nat,k≤n∧s = .int .i64 k∧n - k≤m∧Below w.heap.size w W)
 case atStart=>exact ⟨0,Nat.zero_le _,rfl,by omega,Below.refl _ _⟩
 case round=>
  obtain ⟨k,hk,rfl,hm,hbel⟩:=hrel
  by_cases h0:k<n
  ·obtain ⟨ad,hkl,rfl,hbb,hcell⟩:=(h.below hbel).cellM h0
   have hx:=HV.out _ (List.getElem_mem hkl)
   have hTr:=hT.later hbel
   unfold strv at hcell
   generalize l[k]=x at *
   have HK:=Lib.hid (check_any x wr hTr hx.1)
   have HE:=Lib.hid hx.2
   clear hx
   go_wp2_with fail
   refine HK.out.mono ?_
   rintro e w1 ⟨he,hb1⟩
   rw [HE.out] at he
   subst he
   go_wp2_with fail
   go_roundg (n - (k+1))
   case measure=>omega
   case rel=>exact ⟨k+1,by omega,by go_num,Nat.le_refl _,hbel.trans (hb1.mono hbel.size)⟩
  ·go_wp2_with fail
   go_ret
   exact ⟨rfl,hbel⟩
set_option maxHeartbeats 2000000 in
theorem Sampled_ok (a:Nat) (st z:Int) (g o:ByteArray) (A:Option Addr) (n c:Nat) (l:List ByteArray) (ys:List Nat) (w:World) (hT:Tabs w) (h:Conv a st z g o) (hA:Reads w w.heap.size 1 A n (l.map strv)) (hn:n≤4096)
  (hv:∀ s ∈ l,s.size≤4294967296∧readE s.data.toList=0) (hy:ys.length=n)
  (hs:∀ (i:Nat) (s:ByteArray) (y:Nat) (W:World),Tabs W→l[i]? = some s→ys[i]? = some y→Calls Tryz.prog 68 #[.agg #[.int .i64 a,.int .i64 st,.int .i64 z,.string g,.string o],.string s] W fun e w'=>e = .returned (.float .f32 y)∧Below W.heap.size W w') :
  Calls Tryz.prog 11 #[.agg #[.int .i64 a,.int .i64 st,.int .i64 z,.string g,.string o],.slice A n c] w fun e w'=>
   ∃ b,e = .returned (.tuple #[.slice (some ⟨b,0,none⟩) n n,.int .i64 0])∧w.heap.size≤b∧w'.ownsRow b 64 1 (.slice (some ⟨b,0,none⟩) n n) n (ys.map f32v)∧Below w.heap.size w w':=by
 have hb0:Below w.heap.size w (w.alloc (.cells #[.int .i64 a,.int .i64 st,.int .i64 z,.string g,.string o] 33)):=(Below.refl _ _).alloc (Nat.le_refl _) _
 have q0:CBlk (w.alloc (.cells #[.int .i64 a,.int .i64 st,.int .i64 z,.string g,.string o] 33)) w.heap.size #[.int .i64 a,.int .i64 st,.int .i64 z,.string g,.string o] 33:=CBlk.new w _ _ _ rfl
 have x0:=q0.cell 0
 have x1:=q0.cell 1
 have x2:=q0.cell 2
 have x3:=q0.cell 3
 have x4:=q0.cell 4
 have HC:=Lib.hid (checkAdc_ok a st z g o _ (hT.later hb0) h)
 have HV:=Lib.hid (fun W hT hA=>checkVoltages_ok A n c l W hT hA hn hv)
 have HA:=Lib.hid hA
 have HS:=Lib.hid hs
 have HY:=Lib.hid hy
 have HN:=Lib.hid hn
 clear h hA hs hy hv hn
 have hmf:∀ (fn:Fn) (first cap:Array Value) (w:World),(Instr.makeFunc fn first cap).run Tryz.prog w = .ok (.func fn first cap) w:=fun _ _ _ _=>rfl
 go_enter Tryz.func11,Tryz.ntmps11
 go_wp2_with fail
 generalize w.alloc (.cells #[.int .i64 a,.int .i64 st,.int .i64 z,.string g,.string o] 33)=w1 at *
 have hT1:=hT.later hb0
 refine HC.out.mono ?_
 rintro e w2 ⟨rfl,hb2⟩
 have hT2:=hT1.later hb2
 have q2:=q0.below hb2 q0.lt
 clear x0 x1 x2 x3 x4
 have hB2:=hb0.trans (hb2.mono hb0.size)
 go_wp2_with fail
 refine (HV.out w2 hT2 (HA.out.later hB2)).mono ?_
 rintro e w3 ⟨rfl,hb3⟩
 have hT3:=hT2.later hb3
 have q3:=q2.below hb3 q2.lt
 have hB3:=hB2.trans (hb3.mono hB2.size)
 go_wp2_with fail
 refine (cfirst_two 0 0 w3 _ _ rfl).mono ?_
 rintro e w4 ⟨rfl,rfl⟩
 have hb4:Below w3.heap.size w3 (w3.alloc (.cells #[.int .i64 0,.int .i64 0] 30)):=(Below.refl _ _).alloc (Nat.le_refl _) _
 generalize w3.alloc (.cells #[.int .i64 0,.int .i64 0] 30)=w4 at *
 have hT4:=hT3.later hb4
 have q4:=q3.below hb4 q3.lt
 have hB4:=hB3.trans (hb4.mono hB3.size)
 have x0:=q4.cell 0
 have x1:=q4.cell 1
 have x2:=q4.cell 2
 have x3:=q4.cell 3
 have x4:=q4.cell 4
 have HR:=HA.out.later hB4
 have HTR:=Lib.hid (trn_rf 68 (.agg #[.int .i64 a,.int .i64 st,.int .i64 z,.string g,.string o]) none (fun _ _=>True) A n c (l.map strv) ys w4 (fun _ _=>by kernel_rfl) HN.out HR HY.out (fun b hb=>by cases hb) trivial
  (fun i W W' h1 h2=>trivial)
  (fun W i x y hi hg hJ hx hy=>by
   rw [List.getElem?_map] at hx
   cases hl:l[i]? with
   | none=>rw [hl] at hx;cases hx
   | some s=>
    rw [hl] at hx
    obtain rfl:strv s=x:=Option.some.inj hx
    refine (HS.out i s y W (hT4.later (gnone hg (Nat.le_refl _))) hl hy).mono ?_
    rintro e w' ⟨rfl,hb⟩
    exact ⟨rfl,only_of_below hb _,trivial⟩))
 go_wp2_with fail
 refine HTR.out.mono ?_
 rintro e w5 ⟨rfl,ho,hg,_⟩
 have hb5:Below w4.heap.size w4 w5:=gnone hg (Nat.le_refl _)
 go_wp2_with fail
 go_ret2
 exact ⟨_,rfl,hB4.size,ho,hB4.trans (hb5.mono hB4.size)⟩
end Go.Proofs.YtmkihdjolnlccaaGreatDoor
namespace Go.Proofs.YtmkihdjolnlccaaGreatDoor
open Go.RowKit Bn
def fent (f:Nat→Nat) (c:Nat):MapEntry:=⟨.float .f32 (f c),.int .i64 (c:Int),c⟩
def fents (f:Nat→Nat) (n:Nat):Array MapEntry:=((List.range n).map (fent f)).toArray
theorem run_equalIn_f32 {P:Program} {t:TypeId} (ht:P.underlying t=some (.float .f32)) (a b n:Nat) (w:World):(Op.equalIn (n+1) t (.float .f32 a) (.float .f32 b)).run P w = .ok (Op.floatEq .f32 a b) w:=by
 simp [Op.equalIn,run_underlying ht,Result.andThen]
theorem run_equal_f32 {P:Program} {t:TypeId} (ht:P.underlying t=some (.float .f32)) (a b:Nat) (w:World):(Op.equal t (.float .f32 a) (.float .f32 b)).run P w = .ok (Op.floatEq .f32 a b) w:=run_equalIn_f32 ht a b 9999 w
theorem ask_none {P:Program} {t:TypeId} {x:Nat} {w:World} (ht:P.underlying t=some (.float .f32)) (f:Nat→Nat):∀ (l:List Nat) (i:Nat),(∀ c ∈ l,Op.floatEq .f32 x (f c)=false) →
  (Instr.findAsking t (.float .f32 x) (l.map (fent f)) i).run P w = .ok none w
 | [],_,_=>by simp [Instr.findAsking]
 | c :: l,i,h=>by
  have h1:=h c List.mem_cons_self
  have h2:=ask_none (w:=w) ht f l (i+1) (fun d hd=>h d (List.mem_cons_of_mem _ hd))
  rw [List.map_cons]
  unfold Instr.findAsking
  simp [fent,run_equal_f32 ht,h1,Result.andThen]
  exact h2
theorem ask_some {P:Program} {t:TypeId} {x:Nat} {w:World} (ht:P.underlying t=some (.float .f32)) (f:Nat→Nat) (m:List Nat) (k:Nat) (hk:Op.floatEq .f32 x (f k)=true):∀ (l:List Nat) (i:Nat),(∀ c ∈ l,Op.floatEq .f32 x (f c)=false) →
  (Instr.findAsking t (.float .f32 x) ((l++k :: m).map (fent f)) i).run P w = .ok (some (i+l.length,.int .i64 (k:Int))) w
 | [],i,_=>by
  rw [List.nil_append,List.map_cons]
  unfold Instr.findAsking
  simp [fent,run_equal_f32 ht,hk,Result.andThen]
 | c :: l,i,h=>by
  have h1:=h c List.mem_cons_self
  have h2:=ask_some (w:=w) ht f m k hk l (i+1) (fun d hd=>h d (List.mem_cons_of_mem _ hd))
  rw [List.cons_append,List.map_cons]
  unfold Instr.findAsking
  simp [fent,run_equal_f32 ht,h1,Result.andThen]
  rw [List.map_append,List.map_cons] at h2
  simp only [fent] at h2
  rw [h2]
  simp;omega
theorem key_ask {P:Program} {t:TypeId} {x:Nat} {w:World} (ht:P.underlying t=some (.float .f32)) (f:Nat→Nat) (l:List Nat) (r:Option (Nat × Value)) (h:(Instr.findAsking t (.float .f32 x) (l.map (fent f)) 0).run P w = .ok r w) :
  (Instr.findKey t (.float .f32 x) (l.map (fent f))).run P w = .ok r w:=by
 unfold Instr.findKey
 cases l with
 | nil=>simpa [Instr.findAsking,Instr.findNow,run_underlying ht,Result.andThen] using h
 | cons c l=>
  have e:Instr.findNow (.float .f32) (.float .f32 x) ((c :: l).map (fent f)) 0=none:=rfl
  simp only [Sem.run_bind,run_underlying ht,Result.andThen,e]
  exact h
theorem checkn_f32 {P:Program} {t:TypeId} (ht:P.underlying t=some (.float .f32)) (x n:Nat) (b:Bool) (w:World):(Instr.checkKey b (n+1) t (.float .f32 x)).run P w = .ok () w:=by
 simp [Instr.checkKey,run_underlying ht,Result.andThen]
theorem check_f32 {P:Program} {t:TypeId} (ht:P.underlying t=some (.float .f32)) (x:Nat) (b:Bool) (w:World):(Instr.checkKey b 10000 t (.float .f32 x)).run P w = .ok () w:=checkn_f32 ht x 9999 b w
theorem fents_push (f:Nat→Nat) (n:Nat):(fents f n).push (fent f n)=fents f (n+1):=by
 unfold fents
 rw [List.range_succ,List.map_append]
 simp
theorem wpList_update_f32 {P:Program} (w:World) {ops:Array Oper} {rest:List Oper} {o:Oper} {a:Act} {Q:Exit→Act→World→Prop}
  (hg:o.guard=none) (m x v:Operand) (t:TypeId) (hop:o.op=Op.mapUpdate t m x v) (k e:TypeId) (ht:P.underlying t=some (.map k e)) (hk:P.underlying k=some (.float .f32))
  (b n:Nat) (f:Nat→Nat) (hm:a.eval m = .map (some b)) (hb:w.heap[b]? = some (.map (fents f n) n)) (y:Nat) (hx:a.eval x = .float .f32 y) (hy:y=f n) (hv:a.eval v = .int .i64 (n:Int))
  (hd:∀ c,c<n→Op.floatEq .f32 (f n) (f c)=false)
  (hK:wpList P ops Q rest (a.put o.dst undef) { w with heap:=w.heap.setIfInBounds b (.map (fents f (n+1)) (n+1)) }) :
  wpList P ops Q (o :: rest) a w:=by
 refine wpList_plain hg fun K' hK' => ?_
 subst hy
 have h1:(Instr.findKey k (.float .f32 (f n)) (fents f n).toList).run P w = .ok none w:=key_ask hk f (List.range n) none (ask_none hk f _ 0 (fun c hc=>hd c (List.mem_range.1 hc)))
 have hp:(fents f n).push ⟨.float .f32 (f n),.int .i64 (n:Int),n⟩=fents f (n+1):=fents_push f n
 unfold Oper.wp
 simp [execOp,hop,hm,hx,hv,Instr.mapUpdate,run_underlying ht,MapKept.run_getObj_map hb,check_f32 hk,h1,MapKept.run_setObj_map _ hb,Result.andThen,hp]
 exact hK' _ _ hK
theorem wpList_lookup_f32 {P:Program} (w:World) {ops:Array Oper} {rest:List Oper} {o:Oper} {a:Act} {Q:Exit→Act→World→Prop}
  (hg:o.guard=none) (m x:Operand) (t:TypeId) (hop:o.op=Op.lookup t m x true) (k e:TypeId) (ht:P.underlying t=some (.map k e)) (hk:P.underlying k=some (.float .f32))
  (b n:Nat) (f:Nat→Nat) (hm:a.eval m = .map (some b)) (hb:w.heap[b]? = some (.map (fents f n) n)) (y:Nat) (hx:a.eval x = .float .f32 y)
  (c:Nat) (hc:c<n) (he:Op.floatEq .f32 y (f c)=true) (hd:∀ d,d<c→Op.floatEq .f32 y (f d)=false)
  (hK:wpList P ops Q rest (a.put o.dst (.tuple #[.int .i64 (c:Int),.bool true])) w) :
  wpList P ops Q (o :: rest) a w:=by
 refine wpList_plain hg fun K' hK' => ?_
 have hsplit:List.range n=List.range c++c :: (List.range' (c+1) (n - c - 1)):=by
  rw [List.range_eq_range',List.range_eq_range',show n=c+((n - c - 1)+1) from by omega,←List.range'_append_1,Nat.zero_add,List.range'_succ]
  congr 3;omega
 have h1:(Instr.findKey k (.float .f32 y) (fents f n).toList).run P w = .ok (some (c,.int .i64 (c:Int))) w:=by
  refine key_ask hk f (List.range n) _ ?_
  rw [hsplit]
  have h:=ask_some (w:=w) hk f (List.range' (c+1) (n - c - 1)) c he (List.range c) 0 (fun d hd'=>hd d (List.mem_range.1 hd'))
  rw [h];simp
 unfold Oper.wp
 simp [execOp,hop,hm,hx,Instr.lookup,run_underlying ht,MapKept.run_getObj_map hb,check_f32 hk,h1,Result.andThen]
 exact hK' _ _ hK
end Go.Proofs.YtmkihdjolnlccaaGreatDoor
namespace Go.Proofs.YtmkihdjolnlccaaGreatDoor
open Go.RowKit Bn
open Flt
def nomF (st z:Int) (c:Nat):Nat:=nomW ((c:Int) - z) st
theorem und_map:Tryz.prog.underlying 122=some (.map 64 3):=by kernel_rfl
theorem und_f32:Tryz.prog.underlying 64=some (.float .f32):=by kernel_rfl
theorem run_makeMap_hint {P:Program} {t k e:TypeId} (ht:P.underlying t=some (.map k e)) (v:Int) (w:World):(Instr.makeMap t (some (.int .i64 v))).run P w = .ok (.map (some w.heap.size)) (w.alloc (.map #[] 0)):=by
 simp [Instr.makeMap,run_underlying ht,asInt,Result.andThen]
 rfl
theorem below_setObj {a W:World} {B b:Nat} (h:Below B a W) (hb:B≤b) (o:Obj):Below B a { W with heap:=W.heap.setIfInBounds b o } where
 os:=h.os
 tape:=h.tape
 output:=h.output
 size:=by simpa using h.size
 block:=fun i hi=>by
  show (W.heap.setIfInBounds b o)[i]? = _
  rw [Array.getElem?_setIfInBounds_ne (by omega)]
  exact h.block i hi
theorem CBlk.setObj {w:World} {g b:Nat} {c:Array Value} {t:TypeId} (h:CBlk w g c t) (hne:b≠g) (o:Obj):CBlk { w with heap:=w.heap.setIfInBounds b o } g c t:=by
 show (w.heap.setIfInBounds b o)[g]? = _
 rw [Array.getElem?_setIfInBounds_ne hne]
 exact h
set_option maxHeartbeats 4000000 in
set_option maxRecDepth 100000 in
theorem codesOfSamples_ok (a:Nat) (st z:Int) (g o:ByteArray) (w:World) (h:Conv a st z g o) (T:Nat) (hTa:2 ^ a=T+1)
  (hd:∀ n c:Nat,n≤T→c<n→Op.floatEq .f32 (nomF st z n) (nomF st z c)=false) :
  Calls Tryz.prog 70 #[.agg #[.int .i64 a,.int .i64 st,.int .i64 z,.string g,.string o]] w fun e w'=>
   ∃ b,e = .returned (.map (some b))∧w.heap.size≤b∧b<w'.heap.size∧w'.heap[b]? = some (.map (fents (nomF st z) (T+1)) (T+1))∧Below w.heap.size w w':=by
 have hp:2 ^ a≤2 ^ 12:=Nat.pow_le_pow_right (by omega) h.bits.2
 have hz:=h.zero
 have hT12:T≤4095:=by omega
 have hb0:Below w.heap.size w (w.alloc (.cells #[.int .i64 a,.int .i64 st,.int .i64 z,.string g,.string o] 33)):=(Below.refl _ _).alloc (Nat.le_refl _) _
 have q0:CBlk (w.alloc (.cells #[.int .i64 a,.int .i64 st,.int .i64 z,.string g,.string o] 33)) w.heap.size #[.int .i64 a,.int .i64 st,.int .i64 z,.string g,.string o] 33:=CBlk.new w _ _ _ rfl
 have x0:=q0.cell 0
 have x1:=q0.cell 1
 have x2:=q0.cell 2
 have x3:=q0.cell 3
 have x4:=q0.cell 4
 have HTP:=Lib.hid (fun W=>top_any a st z (.string g) (.string o) W (by have:=h.bits;omega))
 rw [show 2 ^ a - 1=T from by omega] at HTP hz
 have HN:=Lib.hid (fun (k:Nat) (hk:k≤T) W=>nominal_any a st z k (.string g) (.string o) W (by omega) (by omega) (by have:=h.step;omega) (by have:=h.step;omega))
 have HD:=Lib.hid hd
 have hmm:=fun (W:World) (v:Int)=>run_makeMap_hint und_map v W
 have hw:wrap64 ((T:Int)+1)=(T:Int)+1:=IntWalk.wrap64_in _ (by omega)
 clear h hz hp hTa hd
 go_enter Tryz.func70,Tryz.ntmps70
 go_wp2_with fail
 generalize w.alloc (.cells #[.int .i64 a,.int .i64 st,.int .i64 z,.string g,.string o] 33)=w1 at *
 refine (HTP.out w1).mono ?_
 rintro e w2 ⟨rfl,hb2⟩
 have q2:=q0.below hb2 q0.lt
 have hB2:=hb0.trans (hb2.mono hb0.size)
 have k2:=q2.lt
 clear x0 x1 x2 x3 x4
 have hb3:Below w2.heap.size w2 (w2.alloc (.map #[] 0)):=(Below.refl _ _).alloc (Nat.le_refl _) _
 have q3:=q2.below hb3 k2
 have m3:(w2.alloc (.map #[] 0)).heap[w2.heap.size]? = some (.map (fents (nomF st z) 0) 0):=heap_alloc_new w2 _
 have x0:=q3.cell 0
 have x1:=q3.cell 1
 have x2:=q3.cell 2
 have x3:=q3.cell 3
 have x4:=q3.cell 4
 have hB3:=hB2.trans (hb3.mono hB2.size)
 have l3:w2.heap.size<(w2.alloc (.map #[] 0)).heap.size:=by simp
 have hMB:w.heap.size<w2.heap.size:=k2
 go_wp2_with fail
 generalize w2.alloc (.map #[] 0)=w3 at *
 generalize w2.heap.size=b at *
 refine (HTP.out w3).mono ?_
 rintro e w4 ⟨rfl,hb4⟩
 have q4:=q3.below hb4 q3.lt
 have m4:=(hb4.block b l3).trans m3
 have l4:=Nat.lt_of_lt_of_le l3 hb4.size
 have hB4:=hB3.trans (hb4.mono hB3.size)
 clear x0 x1 x2 x3 x4 hb0 hb2 hb3 hb4 q0 q2 q3 m3 l3 hB3 HTP hmm
 go_wp2_with fail
 go_loopg [12] (T+1) (fun m s W=>∃ k:Nat,k≤T+1∧s = .int .i64 k∧T+1 - k≤m∧CBlk W w.heap.size #[.int .i64 a,.int .i64 st,.int .i64 z,.string g,.string o] 33∧W.heap[b]? = some (.map (fents (nomF st z) k) k)∧b<W.heap.size∧Below w.heap.size w W)
 case atStart=>exact ⟨0,Nat.zero_le _,rfl,by omega,q4,m4,l4,hB4⟩
 case round=>
  obtain ⟨k,hk,rfl,hm,qr,mr,lr,hbel⟩:=hrel
  by_cases h0:k<T+1
  ·have hk1:(k:Int)<(T:Int)+1:=by omega
   have x0:=qr.cell 0
   have x1:=qr.cell 1
   have x2:=qr.cell 2
   have x3:=qr.cell 3
   have x4:=qr.cell 4
   have HNK:=Lib.hid (HN.out k (by omega) wr)
   have HDK:=Lib.hid (fun c (hc:c<k)=>HD.out k c (by omega) hc)
   go_wp2_with fail
   refine HNK.out.mono ?_
   rintro e w5 ⟨rfl,hb5⟩
   have q5:=qr.below hb5 qr.lt
   have m5:=(hb5.block b lr).trans mr
   have l5:=Nat.lt_of_lt_of_le lr hb5.size
   have hB5:=hbel.trans (hb5.mono hbel.size)
   clear x0 x1 x2 x3 x4 HNK HN
   go_wp2_with (at_mapUpdate;refine wpList_update_f32 _ rfl _ _ _ _ rfl _ _ und_map und_f32 b k (nomF st z) rfl m5 _ rfl rfl rfl HDK.out ?_)
   go_roundg (T+1 - (k+1))
   case measure=>omega
   case rel=>
    refine ⟨k+1,by omega,by go_num,Nat.le_refl _,q5.setObj (by omega) _,?_,by simpa using l5,below_setObj hB5 (by omega) _⟩
    show (w5.heap.setIfInBounds b _)[b]? = _
    rw [Array.getElem?_setIfInBounds_self_of_lt l5]
  ·have hk1:¬ (k:Int)<(T:Int)+1:=by omega
   obtain rfl:k=T+1:=by omega
   go_wp2_with fail
   go_ret
   exact ⟨b,rfl,by omega,lr,mr,hbel⟩
end Go.Proofs.YtmkihdjolnlccaaGreatDoor
