/- Contract of common.Transformed: the results of a function for the elements of a list; the function may turn one block of its own. -/
import Derived.Test.YtmkihdjolnlccaaGreatDoorQDp
import Derived.Deep.LoopGhost
import Derived.Test.YtmkihdjolnlccaaGreatDoorQDpu
import Derived.Test.YtmkihdjolnlccaaGreatDoorQWords
import Derived.Test.YtmkihdjolnlccaaGreatDoorQRat4
import Derived.Laws.Cover2
import Derived.Maps.AppendAt
import Derived.IntWalk
namespace Go.Proofs.YtmkihdjolnlccaaGreatDoor
open Go.RowKit
theorem zdt {α:Type} (f : α→Value) (ys:List α) (z:Value) (n k:Nat) (hk:k<ys.length) (hy:ys.length=n) :
  ((ys.take k).map f++List.replicate (n - k) z).set k (f ys[k])=(ys.take (k+1)).map f++List.replicate (n - (k+1)) z:=by
 have hl:((ys.take k).map f).length=k:=by rw [List.length_map,List.length_take];omega
 rw [List.set_append_right _ _ (by omega),hl,Nat.sub_self,show n - k=(n - (k+1))+1 from by omega,List.replicate_succ,List.set_cons_zero,List.take_succ_eq_append_getElem hk,List.map_append,List.append_assoc]
 rfl
theorem zae.keptRow {w w':World} {size n:Nat} {A:Option Addr} {xs:List Value} {row:Option Nat} (h:zae w w.heap.size size A n xs) (hg:w.grownBy w' row) (ho:∀ b,row=some b→0<n→Off A b):zae w' w.heap.size size A n xs:=
 ⟨h.1,fun hn=>by
  obtain ⟨ad,e,hb,hc⟩:=h.2 hn
  refine ⟨ad,e,hb,fun j u hu => ?_⟩
  rw [←hc j u hu]
  exact World.cell?_of_block (hg.block (ad.add j).block (by rw [zaI];omega) (by rw [zaI];intro e';exact ho _ e'.symm hn ad e rfl))⟩
theorem zcN {α:Type} (f : α→Value) (ys:List α) (z:Value) (n:Nat):(ys.take 0).map f++List.replicate (n - 0) z=List.replicate n z:=by simp
theorem zdq {α:Type} (f : α→Value) (ys:List α) (z:Value) (n:Nat) (hy:ys.length=n):(ys.take n).map f++List.replicate (n - n) z=ys.map f:=by
 rw [List.take_of_length_le (by omega)];simp
theorem zkq:(Tryz.prog.info? 64).map (fun i=>(i.zero,i.size,i.bytes))=some (some (.float .f32 0),1,4):=by kernel_rfl
theorem zos:(Tryz.prog.info? 4).map (fun i=>(i.zero,i.size,i.bytes))=some (some (.bool false),1,1):=by kernel_rfl
theorem zkn:(Tryz.prog.info? 30).map (fun i=>(i.zero,i.size,i.bytes))=some (some (.int .i64 0),1,8):=by kernel_rfl
set_option maxHeartbeats 2000000 in
set_option maxRecDepth 100000 in
theorem zsF (g:FuncId) (cb:Array Value) (row:Option Nat) (J:Nat→World→Prop) (A:Option Addr) (n c:Nat) (xs:List Value) (ys:List Nat) (w:World)
  (eg:∀ args w,(callFunc g args).run Tryz.prog w = .ok (.enter g args) w) (hn:n≤4096) (hx:zae w w.heap.size 1 A n xs) (hy:ys.length=n)
  (hrow:∀ b,row=some b→b<w.heap.size∧(0<n→Off A b)) (hJ0:J 0 w)
  (hJ:∀ i W W',J i W→(∀ b,row=some b→W'.heap[b]? = W.heap[b]?)→J i W')
  (hf:∀ (W:World) (i:Nat) (x:Value) (y:Nat),i<n→w.grownBy W row→J i W→xs[i]? = some x→ys[i]? = some y →
   Calls Tryz.prog g (#[x]++cb) W fun e W'=>e = .returned (f32v y)∧W.grownBy W' row∧J (i+1) W') :
  Calls Tryz.prog 142 #[.slice A n c,.func (.func g) #[] cb] w fun e w'=>
   e = .returned (.slice (some ⟨w.heap.size,0,none⟩) n n)∧w'.ownsRow w.heap.size 64 1 (.slice (some ⟨w.heap.size,0,none⟩) n n) n (ys.map f32v)∧w.grownBy w' row∧J n w':=by
 obtain ⟨i0,hi0,hz0,hz1,hz2⟩:=info_parts zkq
 have HF:=Lib.hid hf
 have HY:=Lib.hid hy
 have HJ:=Lib.hid hJ
 have HROW:=Lib.hid hrow
 clear hf hy hJ hrow
 go_enter Tryz.func142,Tryz.ntmps142
 go_wp2_with (at_make;refine wpList_make_full _ rfl _ _ 26 rfl w.heap.size 64 i0 (.float .f32 0) 1 Tryz.underlying26 hi0 hz0 hz1 _ _ _ _ n rfl rfl (by omega) (by omega) ?b2 ?b3 (Nat.le_refl _) ?_)
 case b2=>rw [hz2];omega
 case b3=>unfold maxLen;omega
 intro w0 hown0 hgrow0
 rw [toList_madeCells_one] at hown0
 have hr0:w.grownBy w0 row:=⟨hgrow0.os,hgrow0.tape,hgrow0.output,hgrow0.size,fun i hi _=>hgrow0.block i hi (by simp)⟩
 have hJ1:J 0 w0:=HJ.out 0 w w0 hJ0 (fun b hb=>hgrow0.block b (HROW.out b hb).1 (by simp))
 go_wp2
 go_loopg [13] n (fun m s W=>∃ k:Nat,k≤n∧s = .int .i64 k∧n - k≤m∧W.ownsRow w.heap.size 64 1 (.slice (some ⟨w.heap.size,0,none⟩) n n) n ((ys.take k).map f32v++List.replicate (n - k) (.float .f32 0))∧w.grownBy W row∧J k W)
 case atStart=>exact ⟨0,Nat.zero_le _,rfl,by omega,by rw [zcN];simpa using hown0,hr0,hJ1⟩
 case round=>
  obtain ⟨k,hk,rfl,hm,hown,hg,hJk⟩:=hrel
  by_cases h0:k<n
  ·obtain ⟨ad,u,rfl,hbb,hu,hcell⟩:=(hx.keptRow hg (fun b hb=>(HROW.out b hb).2)).at_ h0
   have hkl:k<ys.length:=by have:=HY.out;omega
   have hc:=HF.out wr k u ys[k] h0 hg hJk hu (List.getElem?_eq_getElem hkl)
   have hss:=zdt f32v ys (.float .f32 0) n k hkl HY.out
   simp only [f32v] at hc
   have HC:=Lib.hid hc
   have HS:=Lib.hid hss
   have hne:row≠some w.heap.size:=fun e=>Nat.lt_irrefl _ (HROW.out _ e).1
   have hns:∀ b,row=some b→b≠w.heap.size:=fun b e=>Nat.ne_of_lt (HROW.out _ e).1
   have hst:=fun (W:World) (a:Addr) (m:_)=>run_store Tryz.prog W a (.float .f32 ys[k]) m rfl
   clear hc hss hu
   go_wp2_with (go_at_fn g;refine HC.out.mono ?_;rintro e w1 ⟨rfl,hg1,hJ1⟩;have hr1:=zcn hown hg1 hne;obtain ⟨v1,hc1⟩:=zc0 hr1 k h0;have hf1:=zbw hr1 k)
   go_roundg (n - (k+1))
   case measure=>omega
   case rel=>exact ⟨k+1,by omega,by go_num,Nat.le_refl _,by have h9:=zda hr1 k (f32v ys[k]);rw [HS.out] at h9;exact h9,gset (zii hg hg1) (p:=⟨w.heap.size,k,none⟩) (Nat.le_refl _) _,HJ.out (k+1) w1 _ hJ1 (fun b hb=>Below.heap_setCell w1 ⟨w.heap.size,k,none⟩ _ b (hns b hb))⟩
  ·obtain rfl:k=n:=by omega
   have hss:=zdq f32v ys (.float .f32 0) k HY.out
   have HS:=Lib.hid hss
   clear hss
   go_wp2
   go_ret
   exact ⟨rfl,by rw [HS.out] at hown;exact hown,hg,hJk⟩
set_option maxHeartbeats 2000000 in
set_option maxRecDepth 100000 in
theorem zti (g:FuncId) (cb:Array Value) (row:Option Nat) (J:Nat→World→Prop) (A:Option Addr) (n c:Nat) (xs:List Value) (ys:List Bool) (w:World)
  (eg:∀ args w,(callFunc g args).run Tryz.prog w = .ok (.enter g args) w) (hn:n≤4096) (hx:zae w w.heap.size 1 A n xs) (hy:ys.length=n)
  (hrow:∀ b,row=some b→b<w.heap.size∧(0<n→Off A b)) (hJ0:J 0 w)
  (hJ:∀ i W W',J i W→(∀ b,row=some b→W'.heap[b]? = W.heap[b]?)→J i W')
  (hf:∀ (W:World) (i:Nat) (x:Value) (y:Bool),i<n→w.grownBy W row→J i W→xs[i]? = some x→ys[i]? = some y →
   Calls Tryz.prog g (#[x]++cb) W fun e W'=>e = .returned (zcR y)∧W.grownBy W' row∧J (i+1) W') :
  Calls Tryz.prog 133 #[.slice A n c,.func (.func g) #[] cb] w fun e w'=>
   e = .returned (.slice (some ⟨w.heap.size,0,none⟩) n n)∧w'.ownsRow w.heap.size 4 1 (.slice (some ⟨w.heap.size,0,none⟩) n n) n (ys.map zcR)∧w.grownBy w' row∧J n w':=by
 obtain ⟨i0,hi0,hz0,hz1,hz2⟩:=info_parts zos
 have HF:=Lib.hid hf
 have HY:=Lib.hid hy
 have HJ:=Lib.hid hJ
 have HROW:=Lib.hid hrow
 clear hf hy hJ hrow
 go_enter Tryz.func133,Tryz.ntmps133
 go_wp2_with (at_make;refine wpList_make_full _ rfl _ _ 95 rfl w.heap.size 4 i0 (.bool false) 1 Tryz.underlying95 hi0 hz0 hz1 _ _ _ _ n rfl rfl (by omega) (by omega) ?b2 ?b3 (Nat.le_refl _) ?_)
 case b2=>rw [hz2];omega
 case b3=>unfold maxLen;omega
 intro w0 hown0 hgrow0
 rw [toList_madeCells_one] at hown0
 have hr0:w.grownBy w0 row:=⟨hgrow0.os,hgrow0.tape,hgrow0.output,hgrow0.size,fun i hi _=>hgrow0.block i hi (by simp)⟩
 have hJ1:J 0 w0:=HJ.out 0 w w0 hJ0 (fun b hb=>hgrow0.block b (HROW.out b hb).1 (by simp))
 go_wp2
 go_loopg [13] n (fun m s W=>∃ k:Nat,k≤n∧s = .int .i64 k∧n - k≤m∧W.ownsRow w.heap.size 4 1 (.slice (some ⟨w.heap.size,0,none⟩) n n) n ((ys.take k).map zcR++List.replicate (n - k) (.bool false))∧w.grownBy W row∧J k W)
 case atStart=>exact ⟨0,Nat.zero_le _,rfl,by omega,by rw [zcN];simpa using hown0,hr0,hJ1⟩
 case round=>
  obtain ⟨k,hk,rfl,hm,hown,hg,hJk⟩:=hrel
  by_cases h0:k<n
  ·obtain ⟨ad,u,rfl,hbb,hu,hcell⟩:=(hx.keptRow hg (fun b hb=>(HROW.out b hb).2)).at_ h0
   have hkl:k<ys.length:=by have:=HY.out;omega
   have hc:=HF.out wr k u ys[k] h0 hg hJk hu (List.getElem?_eq_getElem hkl)
   have hss:=zdt zcR ys (.bool false) n k hkl HY.out
   simp only [zcR] at hc
   have HC:=Lib.hid hc
   have HS:=Lib.hid hss
   have hne:row≠some w.heap.size:=fun e=>Nat.lt_irrefl _ (HROW.out _ e).1
   have hns:∀ b,row=some b→b≠w.heap.size:=fun b e=>Nat.ne_of_lt (HROW.out _ e).1
   have hst:=fun (W:World) (a:Addr) (m:_)=>run_store Tryz.prog W a (.bool ys[k]) m rfl
   clear hc hss hu
   go_wp2_with (go_at_fn g;refine HC.out.mono ?_;rintro e w1 ⟨rfl,hg1,hJ1⟩;have hr1:=zcn hown hg1 hne;obtain ⟨v1,hc1⟩:=zc0 hr1 k h0;have hf1:=zbw hr1 k)
   go_roundg (n - (k+1))
   case measure=>omega
   case rel=>exact ⟨k+1,by omega,by go_num,Nat.le_refl _,by have h9:=zda hr1 k (zcR ys[k]);rw [HS.out] at h9;exact h9,gset (zii hg hg1) (p:=⟨w.heap.size,k,none⟩) (Nat.le_refl _) _,HJ.out (k+1) w1 _ hJ1 (fun b hb=>Below.heap_setCell w1 ⟨w.heap.size,k,none⟩ _ b (hns b hb))⟩
  ·obtain rfl:k=n:=by omega
   have hss:=zdq zcR ys (.bool false) k HY.out
   have HS:=Lib.hid hss
   clear hss
   go_wp2
   go_ret
   exact ⟨rfl,by rw [HS.out] at hown;exact hown,hg,hJk⟩
set_option maxHeartbeats 2000000 in
set_option maxRecDepth 100000 in
theorem ztC (g:FuncId) (cb:Array Value) (row:Option Nat) (J:Nat→World→Prop) (A:Option Addr) (n c:Nat) (xs:List Value) (ys:List Int) (w:World)
  (eg:∀ args w,(callFunc g args).run Tryz.prog w = .ok (.enter g args) w) (hn:n≤4096) (hx:zae w w.heap.size 1 A n xs) (hy:ys.length=n)
  (hrow:∀ b,row=some b→b<w.heap.size∧(0<n→Off A b)) (hJ0:J 0 w)
  (hJ:∀ i W W',J i W→(∀ b,row=some b→W'.heap[b]? = W.heap[b]?)→J i W')
  (hf:∀ (W:World) (i:Nat) (x:Value) (y:Int),i<n→w.grownBy W row→J i W→xs[i]? = some x→ys[i]? = some y →
   Calls Tryz.prog g (#[x]++cb) W fun e W'=>e = .returned (i64v y)∧W.grownBy W' row∧J (i+1) W') :
  Calls Tryz.prog 205 #[.slice A n c,.func (.func g) #[] cb] w fun e w'=>
   e = .returned (.slice (some ⟨w.heap.size,0,none⟩) n n)∧w'.ownsRow w.heap.size 30 1 (.slice (some ⟨w.heap.size,0,none⟩) n n) n (ys.map i64v)∧w.grownBy w' row∧J n w':=by
 obtain ⟨i0,hi0,hz0,hz1,hz2⟩:=info_parts zkn
 have HF:=Lib.hid hf
 have HY:=Lib.hid hy
 have HJ:=Lib.hid hJ
 have HROW:=Lib.hid hrow
 clear hf hy hJ hrow
 go_enter Tryz.func205,Tryz.ntmps205
 go_wp2_with (at_make;refine wpList_make_full _ rfl _ _ 198 rfl w.heap.size 30 i0 (.int .i64 0) 1 Tryz.underlying198 hi0 hz0 hz1 _ _ _ _ n rfl rfl (by omega) (by omega) ?b2 ?b3 (Nat.le_refl _) ?_)
 case b2=>rw [hz2];omega
 case b3=>unfold maxLen;omega
 intro w0 hown0 hgrow0
 rw [toList_madeCells_one] at hown0
 have hr0:w.grownBy w0 row:=⟨hgrow0.os,hgrow0.tape,hgrow0.output,hgrow0.size,fun i hi _=>hgrow0.block i hi (by simp)⟩
 have hJ1:J 0 w0:=HJ.out 0 w w0 hJ0 (fun b hb=>hgrow0.block b (HROW.out b hb).1 (by simp))
 go_wp2
 go_loopg [13] n (fun m s W=>∃ k:Nat,k≤n∧s = .int .i64 k∧n - k≤m∧W.ownsRow w.heap.size 30 1 (.slice (some ⟨w.heap.size,0,none⟩) n n) n ((ys.take k).map i64v++List.replicate (n - k) (.int .i64 0))∧w.grownBy W row∧J k W)
 case atStart=>exact ⟨0,Nat.zero_le _,rfl,by omega,by rw [zcN];simpa using hown0,hr0,hJ1⟩
 case round=>
  obtain ⟨k,hk,rfl,hm,hown,hg,hJk⟩:=hrel
  by_cases h0:k<n
  ·obtain ⟨ad,u,rfl,hbb,hu,hcell⟩:=(hx.keptRow hg (fun b hb=>(HROW.out b hb).2)).at_ h0
   have hkl:k<ys.length:=by have:=HY.out;omega
   have hc:=HF.out wr k u ys[k] h0 hg hJk hu (List.getElem?_eq_getElem hkl)
   have hss:=zdt i64v ys (.int .i64 0) n k hkl HY.out
   simp only [i64v] at hc
   have HC:=Lib.hid hc
   have HS:=Lib.hid hss
   have hne:row≠some w.heap.size:=fun e=>Nat.lt_irrefl _ (HROW.out _ e).1
   have hns:∀ b,row=some b→b≠w.heap.size:=fun b e=>Nat.ne_of_lt (HROW.out _ e).1
   have hst:=fun (W:World) (a:Addr) (m:_)=>run_store Tryz.prog W a (.int .i64 ys[k]) m rfl
   clear hc hss hu
   go_wp2_with (go_at_fn g;refine HC.out.mono ?_;rintro e w1 ⟨rfl,hg1,hJ1⟩;have hr1:=zcn hown hg1 hne;obtain ⟨v1,hc1⟩:=zc0 hr1 k h0;have hf1:=zbw hr1 k)
   go_roundg (n - (k+1))
   case measure=>omega
   case rel=>exact ⟨k+1,by omega,by go_num,Nat.le_refl _,by have h9:=zda hr1 k (i64v ys[k]);rw [HS.out] at h9;exact h9,gset (zii hg hg1) (p:=⟨w.heap.size,k,none⟩) (Nat.le_refl _) _,HJ.out (k+1) w1 _ hJ1 (fun b hb=>Below.heap_setCell w1 ⟨w.heap.size,k,none⟩ _ b (hns b hb))⟩
  ·obtain rfl:k=n:=by omega
   have hss:=zdq i64v ys (.int .i64 0) k HY.out
   have HS:=Lib.hid hss
   clear hss
   go_wp2
   go_ret
   exact ⟨rfl,by rw [HS.out] at hown;exact hown,hg,hJk⟩
set_option maxHeartbeats 2000000 in
set_option maxRecDepth 100000 in
theorem zsS (g:FuncId) (cb:Array Value) (row:Option Nat) (J:Nat→World→Prop) (A:Option Addr) (n c:Nat) (xs:List Value) (ys:List Int) (w:World)
  (eg:∀ args w,(callFunc g args).run Tryz.prog w = .ok (.enter g args) w) (hn:n≤4096) (hx:zae w w.heap.size 1 A n xs) (hy:ys.length=n)
  (hrow:∀ b,row=some b→b<w.heap.size∧(0<n→Off A b)) (hJ0:J 0 w)
  (hJ:∀ i W W',J i W→(∀ b,row=some b→W'.heap[b]? = W.heap[b]?)→J i W')
  (hf:∀ (W:World) (i:Nat) (x:Value) (y:Int),i<n→w.grownBy W row→J i W→xs[i]? = some x→ys[i]? = some y →
   Calls Tryz.prog g (#[x]++cb) W fun e W'=>e = .returned (i64v y)∧W.grownBy W' row∧J (i+1) W') :
  Calls Tryz.prog 206 #[.slice A n c,.func (.func g) #[] cb] w fun e w'=>
   e = .returned (.slice (some ⟨w.heap.size,0,none⟩) n n)∧w'.ownsRow w.heap.size 30 1 (.slice (some ⟨w.heap.size,0,none⟩) n n) n (ys.map i64v)∧w.grownBy w' row∧J n w':=by
 obtain ⟨i0,hi0,hz0,hz1,hz2⟩:=info_parts zkn
 have HF:=Lib.hid hf
 have HY:=Lib.hid hy
 have HJ:=Lib.hid hJ
 have HROW:=Lib.hid hrow
 clear hf hy hJ hrow
 go_enter Tryz.func206,Tryz.ntmps206
 go_wp2_with (at_make;refine wpList_make_full _ rfl _ _ 198 rfl w.heap.size 30 i0 (.int .i64 0) 1 Tryz.underlying198 hi0 hz0 hz1 _ _ _ _ n rfl rfl (by omega) (by omega) ?b2 ?b3 (Nat.le_refl _) ?_)
 case b2=>rw [hz2];omega
 case b3=>unfold maxLen;omega
 intro w0 hown0 hgrow0
 rw [toList_madeCells_one] at hown0
 have hr0:w.grownBy w0 row:=⟨hgrow0.os,hgrow0.tape,hgrow0.output,hgrow0.size,fun i hi _=>hgrow0.block i hi (by simp)⟩
 have hJ1:J 0 w0:=HJ.out 0 w w0 hJ0 (fun b hb=>hgrow0.block b (HROW.out b hb).1 (by simp))
 go_wp2
 go_loopg [13] n (fun m s W=>∃ k:Nat,k≤n∧s = .int .i64 k∧n - k≤m∧W.ownsRow w.heap.size 30 1 (.slice (some ⟨w.heap.size,0,none⟩) n n) n ((ys.take k).map i64v++List.replicate (n - k) (.int .i64 0))∧w.grownBy W row∧J k W)
 case atStart=>exact ⟨0,Nat.zero_le _,rfl,by omega,by rw [zcN];simpa using hown0,hr0,hJ1⟩
 case round=>
  obtain ⟨k,hk,rfl,hm,hown,hg,hJk⟩:=hrel
  by_cases h0:k<n
  ·obtain ⟨ad,u,rfl,hbb,hu,hcell⟩:=(hx.keptRow hg (fun b hb=>(HROW.out b hb).2)).at_ h0
   have hkl:k<ys.length:=by have:=HY.out;omega
   have hc:=HF.out wr k u ys[k] h0 hg hJk hu (List.getElem?_eq_getElem hkl)
   have hss:=zdt i64v ys (.int .i64 0) n k hkl HY.out
   simp only [i64v] at hc
   have HC:=Lib.hid hc
   have HS:=Lib.hid hss
   have hne:row≠some w.heap.size:=fun e=>Nat.lt_irrefl _ (HROW.out _ e).1
   have hns:∀ b,row=some b→b≠w.heap.size:=fun b e=>Nat.ne_of_lt (HROW.out _ e).1
   have hst:=fun (W:World) (a:Addr) (m:_)=>run_store Tryz.prog W a (.int .i64 ys[k]) m rfl
   clear hc hss hu
   go_wp2_with (go_at_fn g;refine HC.out.mono ?_;rintro e w1 ⟨rfl,hg1,hJ1⟩;have hr1:=zcn hown hg1 hne;obtain ⟨v1,hc1⟩:=zc0 hr1 k h0;have hf1:=zbw hr1 k)
   go_roundg (n - (k+1))
   case measure=>omega
   case rel=>exact ⟨k+1,by omega,by go_num,Nat.le_refl _,by have h9:=zda hr1 k (i64v ys[k]);rw [HS.out] at h9;exact h9,gset (zii hg hg1) (p:=⟨w.heap.size,k,none⟩) (Nat.le_refl _) _,HJ.out (k+1) w1 _ hJ1 (fun b hb=>Below.heap_setCell w1 ⟨w.heap.size,k,none⟩ _ b (hns b hb))⟩
  ·obtain rfl:k=n:=by omega
   have hss:=zdq i64v ys (.int .i64 0) k HY.out
   have HS:=Lib.hid hss
   clear hss
   go_wp2
   go_ret
   exact ⟨rfl,by rw [HS.out] at hown;exact hown,hg,hJk⟩
end Go.Proofs.YtmkihdjolnlccaaGreatDoor
namespace Go.Proofs.YtmkihdjolnlccaaGreatDoor
open Flt Bn
def digV (lo hi:Nat) (v:Bool) (x:Nat):Bool:=fge x hi || (v && fgt x lo)
def digS (lo hi:Nat) (v:Bool) (l:List Nat):Bool:=l.foldl (digV lo hi) v
def digL (lo hi:Nat) (v:Bool) (l:List Nat):List Bool:=(List.range l.length).map fun i=>digS lo hi v (l.take (i+1))
theorem zox (lo hi:Nat) (v:Bool) (l:List Nat) (k:Nat) (h:k<l.length):digS lo hi v (l.take (k+1))=digV lo hi (digS lo hi v (l.take k)) l[k]:=by
 unfold digS
 rw [List.take_succ_eq_append_getElem h,List.foldl_append]
 rfl
theorem zpd (lo hi:Nat) (v:Bool) (l:List Nat):(digL lo hi v l).length=l.length:=by simp [digL]
theorem zrJ (lo hi:Nat) (v:Bool) (l:List Nat) (k:Nat) (h:k<l.length):(digL lo hi v l)[k]? = some (digS lo hi v (l.take (k+1))):=by
 simp [digL,h]
def posz (x:Nat):Nat:=if FloatKind.f32.format.order x 0==some .eq then 0 else x
def wd:List (List Bool)→Nat→Nat
 | [],_=>0
 | l :: t,i=>(if l.getD i false then 1 else 0)+2*wd t i
theorem zrb (ls:List (List Bool)) (l:List Bool) (i:Nat):wd (ls++[l]) i=wd ls i+(if l.getD i false then 2 ^ ls.length else 0):=by
 induction ls with
 | nil=>simp [wd]
 | cons a t ih=>
  rw [List.cons_append]
  unfold wd
  rw [ih,List.length_cons,Nat.pow_succ]
  by_cases h:l.getD i false=true
  ·rw [if_pos h,if_pos h];omega
  ·rw [if_neg h,if_neg h];omega
theorem ztN (ls:List (List Bool)) (i:Nat):wd ls i<2 ^ ls.length:=by
 induction ls with
 | nil=>simp [wd]
 | cons a t ih=>
  unfold wd
  rw [List.length_cons,Nat.pow_succ]
  split<;>omega
def chgB (b:Bool) (l:List Bool) (i:Nat):Bool:=l.getD i false != (if i=0 then b else l.getD (i - 1) false)
def chg (b:Bool) (l:List Bool) (k:Nat):List Nat:=(List.range k).filter (chgB b l)
theorem zpV (b:Bool) (l:List Bool) (k:Nat):chg b l (k+1)=chg b l k++(if chgB b l k then [k] else []):=by
 unfold chg
 rw [List.range_succ,List.filter_append]
 congr 1
 cases h:chgB b l k<;>simp [h]
theorem zrj (b:Bool) (l:List Bool) (k:Nat):(chg b l k).length≤k:=by
 have:=List.length_filter_le (chgB b l) (List.range k)
 rwa [List.length_range] at this
end Go.Proofs.YtmkihdjolnlccaaGreatDoor
namespace Go.Proofs.YtmkihdjolnlccaaGreatDoor
open Go.RowKit
theorem zfY (A:Option Addr) (n c:Nat) (k:Int) (w:World):Calls Tryz.prog 137 #[.slice A n c,.int .i64 k] w fun e w'=>e = .returned (.int .i64 (if k<n then 5 else 0))∧w=w':=by
 go_enter Tryz.func137,Tryz.ntmps137
 by_cases h:k<n
 ·rw [if_pos h]
  go_wp2
  go_ret
  exact ⟨rfl,rfl⟩
 ·rw [if_neg h]
  go_wp2
  go_ret
  exact ⟨rfl,rfl⟩
theorem zfe (A:Option Addr) (n c:Nat) (k:Int) (w:World):Calls Tryz.prog 135 #[.slice A n c,.int .i64 k] w fun e w'=>e = .returned (.int .i64 (if k<n then 5 else 0))∧w=w':=by
 go_enter Tryz.func135,Tryz.ntmps135
 by_cases h:k<n
 ·rw [if_pos h]
  go_wp2
  go_ret
  exact ⟨rfl,rfl⟩
 ·rw [if_neg h]
  go_wp2
  go_ret
  exact ⟨rfl,rfl⟩
theorem zgE (A:Option Addr) (n c:Nat) (k:Int) (w:World):Calls Tryz.prog 204 #[.slice A n c,.int .i64 k] w fun e w'=>e = .returned (.int .i64 (if k<n then 5 else 0))∧w=w':=by
 go_enter Tryz.func204,Tryz.ntmps204
 by_cases h:k<n
 ·rw [if_pos h]
  go_wp2
  go_ret
  exact ⟨rfl,rfl⟩
 ·rw [if_neg h]
  go_wp2
  go_ret
  exact ⟨rfl,rfl⟩
theorem zhV (A:Option Addr) (n c:Nat) (k:Int) (w:World):Calls Tryz.prog 203 #[.slice A n c,.int .i64 k] w fun e w'=>e = .returned (.int .i64 (if k<n then 5 else 0))∧w=w':=by
 go_enter Tryz.func203,Tryz.ntmps203
 by_cases h:k<n
 ·rw [if_pos h]
  go_wp2
  go_ret
  exact ⟨rfl,rfl⟩
 ·rw [if_neg h]
  go_wp2
  go_ret
  exact ⟨rfl,rfl⟩
set_option maxHeartbeats 400000 in
theorem zcb (A:Option Addr) (n c:Nat) (l:List Int) (w:World) (h:zae w w.heap.size 1 A n (l.map i64v)) (hn:n≤maxLen) :
  Calls Tryz.prog 64 #[.slice A n c] w fun e w'=>e = .returned (.int .i64 (zaW l))∧w=w':=by
 unfold maxLen at hn
 have hl:l.length=n:=by have:=h.1;rw [List.length_map] at this;omega
 go_enter Tryz.func64,Tryz.ntmps64
 go_wp2
 have HL:=Lib.hid hl
 clear hl
 go_loop [7] (fun s=>∃ k:Nat,k≤n∧s = .int .i64 k∧Hid (zaW l=zaW (l.drop k))) (fun s=>n - (intOf s).toNat)
 case atStart=>exact ⟨0,Nat.zero_le _,rfl,rfl⟩
 case round=>
  obtain ⟨k,hk,rfl,hf⟩:=hrel
  by_cases h0:k<n
  ·obtain ⟨ad,u,rfl,hb,hu,hcell⟩:=h.at_ h0
   have hkl:k<l.length:=by have:=HL.out;omega
   have hu2:u = .int .i64 l[k]:=by
    rw [List.getElem?_map,List.getElem?_eq_getElem hkl] at hu
    injection hu with hu;exact hu.symm
   have hf2:=hf.out
   rw [List.drop_eq_getElem_cons hkl] at hf2
   generalize l[k]=x at hu2 hf2
   subst hu2
   by_cases hx:x=0
   ·subst hx
    have hf3:Hid (zaW l=zaW (l.drop (k+1))):=by unfold Hid;rw [hf2];rfl
    clear hf2 hu
    go_wp2
    go_round
    case rel=>exact ⟨k+1,by omega,by go_num,hf3⟩
    case measure=>simp [intOf];omega
   ·have hf3:Hid (zaW l=x):=by unfold Hid;rw [hf2];unfold zaW;rw [if_pos hx]
    have hx1:(x != 0)=true:=by simpa using hx
    clear hf2 hu hx
    go_wp2
    go_ret
    exact ⟨by rw [hf3.out];rfl,rfl⟩
  ·have hk2:k=n:=by omega
   have hf3:Hid (zaW l=0):=by
    unfold Hid;rw [hf.out,List.drop_eq_nil_of_le (by have:=HL.out;omega)];rfl
   clear hk2
   go_wp2
   go_ret
   exact ⟨by rw [hf3.out];rfl,rfl⟩
theorem za7 (x y:Int) (w:World) (t:TypeId) (g:Nat) (hg:w.heap.size=g) :
  Calls Tryz.prog 64 #[.slice (some ⟨g,0,none⟩) 2 2] (w.alloc (.cells #[.int .i64 x,.int .i64 y] t)) fun e w'=>e = .returned (.int .i64 (if x≠0 then x else y))∧w.alloc (.cells #[.int .i64 x,.int .i64 y] t)=w':=by
 subst hg
 have h:=zcb (some ⟨w.heap.size,0,none⟩) 2 2 [x,y] (w.alloc (.cells #[.int .i64 x,.int .i64 y] t)) (zae.lit w [.int .i64 x,.int .i64 y] t) (by unfold maxLen;omega)
 have e:zaW [x,y]=if x≠0 then x else y:=by unfold zaW;split<;>(try rfl);unfold zaW;split<;>simp_all [zaW]
 rwa [e] at h
theorem zi0 (w:World) (t:TypeId) (g:Nat) (hg:w.heap.size=g) :
  Calls Tryz.prog 64 #[.slice (some ⟨g,0,none⟩) 3 3] (w.alloc (.cells #[.int .i64 0,.int .i64 0,.int .i64 0] t)) fun e w'=>e = .returned (.int .i64 0)∧w.alloc (.cells #[.int .i64 0,.int .i64 0,.int .i64 0] t)=w':=by
 subst hg
 exact zcb (some ⟨w.heap.size,0,none⟩) 3 3 [0,0,0] (w.alloc (.cells #[.int .i64 0,.int .i64 0,.int .i64 0] t)) (zae.lit w [.int .i64 0,.int .i64 0,.int .i64 0] t) (by unfold maxLen;omega)
theorem zbb (n a b:Int) (w:World) :
  Calls Tryz.prog 144 #[.int .i64 n,.int .i64 a,.int .i64 b] w fun e w'=>e = .returned (.int .i64 (zax n a b))∧w=w':=by
 by_cases h1:n<a
 ·have d1:decide (n<a)=true:=by simpa using h1
  have hv:Hid (zax n a b=3):=by unfold Hid zax;rw [if_pos (.inl h1)]
  go_enter Tryz.func144,Tryz.ntmps144
  go_wp2
  go_ret
  exact ⟨by rw [hv.out];rfl,rfl⟩
 ·have d1:decide (n<a)=false:=by simpa using h1
  by_cases h2:b<n
  ·have d2:decide (b<n)=true:=by simpa using h2
   have hv:Hid (zax n a b=3):=by unfold Hid zax;rw [if_pos (.inr h2)]
   go_enter Tryz.func144,Tryz.ntmps144
   go_wp2
   go_ret
   exact ⟨by rw [hv.out];rfl,rfl⟩
  ·have d2:decide (b<n)=false:=by simpa using h2
   have hv:Hid (zax n a b=0):=by unfold Hid zax;rw [if_neg (by omega)]
   go_enter Tryz.func144,Tryz.ntmps144
   go_wp2
   go_ret
   exact ⟨by rw [hv.out];rfl,rfl⟩
theorem zil (x:Nat) (w:World):Calls Tryz.prog 143 #[.float .f32 x] w fun e w'=>e = .returned (.float .f32 (if FloatKind.f32.format.order x 0==some .eq then 0 else x))∧w=w':=by
 go_enter Tryz.func143,Tryz.ntmps143
 by_cases h:(FloatKind.f32.format.order x 0==some .eq)=true
 ·rw [if_pos h]
  go_wp2
  go_ret
  exact ⟨rfl,rfl⟩
 ·rw [if_neg h]
  have h':(FloatKind.f32.format.order x 0==some .eq)=false:=by simpa using h
  go_wp2
  go_ret
  exact ⟨rfl,rfl⟩
theorem zbZ:(Tryz.prog.info? 3).map (fun i=>(i.zero,i.size,i.bytes))=some (some (.int .i64 0),1,8):=by kernel_rfl
def prv (b:Bool) (l:List Bool) (k:Nat):Bool:=if k=0 then b else l.getD (k - 1) false
theorem zpY (b:Bool) (l:List Bool) (k:Nat) (h:k<l.length):prv b l (k+1)=l[k]:=by
 unfold prv
 rw [if_neg (by omega)]
 simp [List.getD,h]
theorem zpX (b:Bool) (l:List Bool) (k:Nat) (h:k<l.length):chgB b l k=(l[k] != prv b l k):=by
 unfold chgB prv
 simp [List.getD,h]
set_option maxHeartbeats 2000000 in
set_option maxRecDepth 100000 in
theorem zmn (A:Option Addr) (n c:Nat) (b:Bool) (l:List Bool) (w:World) (h:zae w w.heap.size 1 A n (l.map zcR)) (hn:n≤4096) :
  Calls Tryz.prog 58 #[.slice A n c,.bool b] w fun e w'=>∃ A' c',e = .returned (.tuple #[.slice A' (chg b l n).length c',.int .i64 0])∧zae w' w'.heap.size 1 A' (chg b l n).length ((chg b l n).map natv)∧Below w.heap.size w w':=by
 obtain ⟨i0,hi0,hz0,hz1,hz2⟩:=info_parts zbZ
 have e1:(if (4096:Int)<(n:Int) then (5:Int) else 0)=0:=if_neg (by omega)
 have H1:=zfe A n c 4096 w
 rw [e1] at H1
 have K1:=Lib.hid H1
 clear H1 e1
 go_enter Tryz.func58,Tryz.ntmps58
 go_wp2_with fail
 refine K1.out.mono ?_
 rintro e w1 ⟨rfl,rfl⟩
 go_wp2
 go_loopg [1,7,17] n (fun q p v s W=>∃ k:Nat,k≤n∧s = .int .i64 k∧n - k≤q∧p = .bool (prv b l k)∧W.ownsRow w.heap.size 3 1 v (chg b l k).length ((chg b l k).map natv)∧Below w.heap.size w W)
 case atStart=>exact ⟨0,Nat.zero_le _,rfl,by omega,rfl,World.ownsRow_nil _ _ _ _,Below.refl _ _⟩
 case round=>
  obtain ⟨k,hk,rfl,hq,rfl,hown,hbel⟩:=hrel
  by_cases h0:k<n
  ·obtain ⟨ad,hkl,rfl,hbb,hcell⟩:=(h.below hbel).cellM h0
   have hcb:=zpX b l k hkl
   have hnx:=zpY b l k hkl
   have hsu:=zpV b l k
   have hcl:=zrj b l k
   rw [hcb] at hsu
   unfold zcR at hcell
   generalize l[k]=x at *
   generalize prv b l k=p at *
   have HN:=Lib.hid hnx
   by_cases hxp:(x != p)=true
   ·rw [hxp,if_pos rfl] at hsu
    have HS:=Lib.hid hsu
    clear hsu hnx hcb
    generalize hL:chg b l k=L at *
    have HL:=Lib.hid hL
    clear hL
    cases x<;>cases p<;>first | exact absurd hxp (by decide) | clear hxp
    all_goals
     go_wp2_with (at_builtin;refine wpList_append_own _ rfl _ _ 35 rfl w.heap.size 3 i0 (.int .i64 0) 1 8 Tryz.underlying35 hi0 hz0 hz1 hz2 rfl (by decide) _ _ _ rfl (hown.alloc _) ⟨wr.heap.size,0,none⟩ 1 1 [.int .i64 k] rfl rfl ?c1 ?c2 ?c3 ?c4 ?c5 ?_)
     case c1=>exact cell_one_new _ _ _
     case c2=>intro u hu;simp at hu;subst hu;rfl
     case c3=>unfold maxLen;omega
     case c4=>omega
     case c5=>have:=hbel.size;simp;omega
     intro v' w2 hown' hgrow _
     have hb2:Below w.heap.size w w2:=(hbel.alloc hbel.size _).grown hgrow (by have:=hbel.size;simp;omega) (fun g hg=>(World.ownsRow.lt hown g hg).1)
     clear hgrow hown
     go_wp2
     go_roundg (n - (k+1))
     case measure=>omega
     case rel=>exact ⟨k+1,by omega,by go_num,Nat.le_refl _,by rw [HN.out],by rw [HS.out,List.length_append,List.map_append];exact hown',hb2⟩
   ·have hxp':(x != p)=false:=by simpa using hxp
    rw [hxp',if_neg (by decide),List.append_nil] at hsu
    have HS:=Lib.hid hsu
    clear hsu hnx hcb hxp
    cases x<;>cases p<;>first | exact absurd hxp' (by decide) | clear hxp'
    all_goals
     go_wp2
     go_roundg (n - (k+1))
     case measure=>omega
     case rel=>exact ⟨k+1,by omega,by go_num,Nat.le_refl _,by rw [HN.out],by rw [HS.out];exact hown,hbel⟩
  ·obtain rfl:k=n:=by omega
   obtain ⟨A',c',rfl,_,_,hr⟩:=zbo hown
   go_wp2
   go_ret2
   exact ⟨A',c',rfl,hr,hbel⟩
end Go.Proofs.YtmkihdjolnlccaaGreatDoor
