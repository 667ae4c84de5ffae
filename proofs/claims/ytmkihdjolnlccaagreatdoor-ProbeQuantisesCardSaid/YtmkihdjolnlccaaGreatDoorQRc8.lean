/- The code's Calibrated where a mark is invalid, or both have one code. -/
import Derived.Test.YtmkihdjolnlccaaGreatDoorQRc2
import Derived.Test.YtmkihdjolnlccaaGreatDoorQTrn
import Derived.Test.YtmkihdjolnlccaaGreatDoorQAd2
import Derived.Maps.OwnOps
import Derived.Test.YtmkihdjolnlccaaGreatDoorQDp
import Derived.Test.YtmkihdjolnlccaaGreatDoorQRkd4
import Derived.Test.YtmkihdjolnlccaaGreatDoorQRb30
import Derived.Test.YtmkihdjolnlccaaGreatDoorQAlg
import Derived.Maps.AppendAt
import Derived.Deep.LoopGhost
namespace Go.Proofs.YtmkihdjolnlccaaGreatDoor
open Go.RowKit Bn
open Flt
end Go.Proofs.YtmkihdjolnlccaaGreatDoor
namespace Go.Proofs.YtmkihdjolnlccaaGreatDoor
open Go.RowKit
set_option maxHeartbeats 2000000 in
set_option maxRecDepth 100000 in
theorem zs0 (g:FuncId) (v:Value) (row:Option Nat) (J:Nat→World→Prop) (A:Option Addr) (n c:Nat) (xs:List Value) (ys:List Nat) (w:World)
  (eg:∀ args w,(callFunc g args).run Tryz.prog w = .ok (.enter g args) w) (hn:n≤4096) (hx:zae w w.heap.size 1 A n xs) (hy:ys.length=n)
  (hrow:∀ b,row=some b→b<w.heap.size∧(0<n→Off A b)) (hJ0:J 0 w)
  (hJ:∀ i W W',J i W→(∀ b,row=some b→W'.heap[b]? = W.heap[b]?)→J i W')
  (hf:∀ (W:World) (i:Nat) (x:Value) (y:Nat),i<n→w.grownBy W row→J i W→xs[i]? = some x→ys[i]? = some y →
   Calls Tryz.prog g #[v,x] W fun e W'=>e = .returned (f32v y)∧W.grownBy W' row∧J (i+1) W') :
  Calls Tryz.prog 67 #[.slice A n c,.func (.func g) #[v] #[]] w fun e w'=>
   e = .returned (.slice (some ⟨w.heap.size,0,none⟩) n n)∧w'.ownsRow w.heap.size 64 1 (.slice (some ⟨w.heap.size,0,none⟩) n n) n (ys.map f32v)∧w.grownBy w' row∧J n w':=by
 obtain ⟨i0,hi0,hz0,hz1,hz2⟩:=info_parts zkq
 have HF:=Lib.hid hf
 have HY:=Lib.hid hy
 have HJ:=Lib.hid hJ
 have HROW:=Lib.hid hrow
 clear hf hy hJ hrow
 go_enter Tryz.func67,Tryz.ntmps67
 go_wp2_with (at_make;refine wpList_make_full _ rfl _ _ 26 rfl w.heap.size 64 i0 (.float .f32 0) 1 Tryz.underlying26 hi0 hz0 hz1 _ _ _ _ n rfl rfl (by omega) (by omega) ?b2 ?b3 (Nat.le_refl _) ?_)
 case b2=>rw [hz2];omega
 case b3=>unfold maxLen;omega
 intro w0 hown0 hgrow0
 rw [toList_madeCells_one] at hown0
 have hr0:w.grownBy w0 row:=⟨hgrow0.os,hgrow0.tape,hgrow0.output,hgrow0.size,fun i hi _=>hgrow0.block i hi (by simp)⟩
 have hJ1:J 0 w0:=HJ.out 0 w w0 hJ0 (fun b hb=>hgrow0.block b (HROW.out b hb).1 (by simp))
 go_wp2
 go_loopg [13] n (fun m s W=>∃ k:Nat,k≤n∧s = .int .i64 k∧n - k≤m∧W.ownsRow w.heap.size 64 1 (.slice (some ⟨w.heap.size,0,none⟩) n n) n ((ys.take k).map f32v++List.replicate (n - k) (.float .f32 0))∧w.grownBy W row∧J k W)
 case atStart=>exact ⟨0,Nat.zero_le _,rfl,by omega,by rw [zcN];simpa using hown0,hr0,hJ1⟩
 case round=>
  obtain ⟨k,hk,rfl,hm,hown,hg,hJk⟩:=hrel
  by_cases h0:k<n
  ·obtain ⟨ad,u,rfl,hbb,hu,hcell⟩:=(hx.keptRow hg (fun b hb=>(HROW.out b hb).2)).at_ h0
   have hkl:k<ys.length:=by have:=HY.out;omega
   have hc:=HF.out wr k u ys[k] h0 hg hJk hu (List.getElem?_eq_getElem hkl)
   have hss:=zdt f32v ys (.float .f32 0) n k hkl HY.out
   simp only [f32v] at hc
   have HC:=Lib.hid hc
   have HS:=Lib.hid hss
   have hne:row≠some w.heap.size:=fun e=>Nat.lt_irrefl _ (HROW.out _ e).1
   have hns:∀ b,row=some b→b≠w.heap.size:=fun b e=>Nat.ne_of_lt (HROW.out _ e).1
   have hst:=fun (W:World) (a:Addr) (m:_)=>run_store Tryz.prog W a (.float .f32 ys[k]) m rfl
   clear hc hss hu
   go_wp2_with (go_at_fn g;refine HC.out.mono ?_;rintro e w1 ⟨rfl,hg1,hJ1⟩;have hr1:=zcn hown hg1 hne;obtain ⟨v1,hc1⟩:=zc0 hr1 k h0;have hf1:=zbw hr1 k)
   go_roundg (n - (k+1))
   case measure=>omega
   case rel=>exact ⟨k+1,by omega,by go_num,Nat.le_refl _,by have h9:=zda hr1 k (f32v ys[k]);rw [HS.out] at h9;exact h9,gset (zii hg hg1) (p:=⟨w.heap.size,k,none⟩) (Nat.le_refl _) _,HJ.out (k+1) w1 _ hJ1 (fun b hb=>Below.heap_setCell w1 ⟨w.heap.size,k,none⟩ _ b (hns b hb))⟩
  ·obtain rfl:k=n:=by omega
   have hss:=zdq f32v ys (.float .f32 0) k HY.out
   have HS:=Lib.hid hss
   clear hss
   go_wp2
   go_ret
   exact ⟨rfl,by rw [HS.out] at hown;exact hown,hg,hJk⟩
end Go.Proofs.YtmkihdjolnlccaaGreatDoor
namespace Go.Proofs.YtmkihdjolnlccaaGreatDoor
open Go.RowKit Bn
open Flt
def strv (s:ByteArray):Value := .string s
theorem zjS (A:Option Addr) (n c:Nat) (k:Int) (w:World):Calls Tryz.prog 146 #[.slice A n c,.int .i64 k] w fun e w'=>e = .returned (.int .i64 (if k<n then 5 else 0))∧w=w':=by
 go_enter Tryz.func146,Tryz.ntmps146
 by_cases h:k<n
 ·rw [if_pos h]
  have hd:decide (k<(n:Int))=true:=by simpa using h
  go_wp2
  go_ret
  exact ⟨rfl,rfl⟩
 ·rw [if_neg h]
  have hd:decide (k<(n:Int))=false:=by simpa using h
  go_wp2
  go_ret
  exact ⟨rfl,rfl⟩
set_option maxHeartbeats 1000000 in
theorem zfg (A:Option Addr) (n c:Nat) (l:List ByteArray) (w:World) (hT:Tabs w) (h:zae w w.heap.size 1 A n (l.map strv)) (hn:n≤4096)
  (hv:∀ s ∈ l,s.size≤4294967296∧zam s.data.toList=0) :
  Calls Tryz.prog 66 #[.slice A n c] w fun e w'=>e = .returned (.int .i64 0)∧Below w.heap.size w w':=by
 have HV:=Lib.hid hv
 have hd:decide (4096<(n:Int))=false:=by simpa using (show ¬ (4096<(n:Int)) from by omega)
 have HM:=Lib.hid (fun W=>zjS A n c 4096 W)
 rw [if_neg (show ¬ ((4096:Int)<n) from by omega)] at HM
 clear hv
 go_enter Tryz.func66,Tryz.ntmps66
 go_wp2_with fail
 refine (HM.out w).mono ?_
 rintro e w1 ⟨rfl,rfl⟩
 go_wp2_with fail
 go_loopg [14] n (fun m s W=>∃ k:Nat,k≤n∧s = .int .i64 k∧n - k≤m∧Below w.heap.size w W)
 case atStart=>exact ⟨0,Nat.zero_le _,rfl,by omega,Below.refl _ _⟩
 case round=>
  obtain ⟨k,hk,rfl,hm,hbel⟩:=hrel
  by_cases h0:k<n
  ·obtain ⟨ad,hkl,rfl,hbb,hcell⟩:=(h.below hbel).cellM h0
   have hx:=HV.out _ (List.getElem_mem hkl)
   have hTr:=hT.later hbel
   unfold strv at hcell
   generalize l[k]=x at *
   have HK:=Lib.hid (zcL x wr hTr hx.1)
   have HE:=Lib.hid hx.2
   clear hx
   go_wp2_with fail
   refine HK.out.mono ?_
   rintro e w1 ⟨he,hb1⟩
   rw [HE.out] at he
   subst he
   go_wp2_with fail
   go_roundg (n - (k+1))
   case measure=>omega
   case rel=>exact ⟨k+1,by omega,by go_num,Nat.le_refl _,hbel.trans (hb1.mono hbel.size)⟩
  ·go_wp2_with fail
   go_ret
   exact ⟨rfl,hbel⟩
set_option maxHeartbeats 2000000 in
theorem zg5 (a:Nat) (st z:Int) (g o:ByteArray) (A:Option Addr) (n c:Nat) (l:List ByteArray) (ys:List Nat) (w:World) (hT:Tabs w) (h:Conv a st z g o) (hA:zae w w.heap.size 1 A n (l.map strv)) (hn:n≤4096)
  (hv:∀ s ∈ l,s.size≤4294967296∧zam s.data.toList=0) (hy:ys.length=n)
  (hs:∀ (i:Nat) (s:ByteArray) (y:Nat) (W:World),Tabs W→l[i]? = some s→ys[i]? = some y→Calls Tryz.prog 68 #[.agg #[.int .i64 a,.int .i64 st,.int .i64 z,.string g,.string o],.string s] W fun e w'=>e = .returned (.float .f32 y)∧Below W.heap.size W w') :
  Calls Tryz.prog 11 #[.agg #[.int .i64 a,.int .i64 st,.int .i64 z,.string g,.string o],.slice A n c] w fun e w'=>
   ∃ b,e = .returned (.tuple #[.slice (some ⟨b,0,none⟩) n n,.int .i64 0])∧w.heap.size≤b∧w'.ownsRow b 64 1 (.slice (some ⟨b,0,none⟩) n n) n (ys.map f32v)∧Below w.heap.size w w':=by
 have hb0:Below w.heap.size w (w.alloc (.cells #[.int .i64 a,.int .i64 st,.int .i64 z,.string g,.string o] 33)):=(Below.refl _ _).alloc (Nat.le_refl _) _
 have q0:CBlk (w.alloc (.cells #[.int .i64 a,.int .i64 st,.int .i64 z,.string g,.string o] 33)) w.heap.size #[.int .i64 a,.int .i64 st,.int .i64 z,.string g,.string o] 33:=CBlk.new w _ _ _ rfl
 have x0:=q0.cell 0
 have x1:=q0.cell 1
 have x2:=q0.cell 2
 have x3:=q0.cell 3
 have x4:=q0.cell 4
 have HC:=Lib.hid (zcf a st z g o _ (hT.later hb0) h)
 have HV:=Lib.hid (fun W hT hA=>zfg A n c l W hT hA hn hv)
 have HA:=Lib.hid hA
 have HS:=Lib.hid hs
 have HY:=Lib.hid hy
 have HN:=Lib.hid hn
 clear h hA hs hy hv hn
 have hmf:∀ (fn:Fn) (first cap:Array Value) (w:World),(Instr.makeFunc fn first cap).run Tryz.prog w = .ok (.func fn first cap) w:=fun _ _ _ _=>rfl
 go_enter Tryz.func11,Tryz.ntmps11
 go_wp2_with fail
 generalize w.alloc (.cells #[.int .i64 a,.int .i64 st,.int .i64 z,.string g,.string o] 33)=w1 at *
 have hT1:=hT.later hb0
 refine HC.out.mono ?_
 rintro e w2 ⟨rfl,hb2⟩
 have hT2:=hT1.later hb2
 have q2:=q0.below hb2 q0.lt
 clear x0 x1 x2 x3 x4
 have hB2:=hb0.trans (hb2.mono hb0.size)
 go_wp2_with fail
 refine (HV.out w2 hT2 (HA.out.later hB2)).mono ?_
 rintro e w3 ⟨rfl,hb3⟩
 have hT3:=hT2.later hb3
 have q3:=q2.below hb3 q2.lt
 have hB3:=hB2.trans (hb3.mono hB2.size)
 go_wp2_with fail
 refine (za7 0 0 w3 _ _ rfl).mono ?_
 rintro e w4 ⟨rfl,rfl⟩
 have hb4:Below w3.heap.size w3 (w3.alloc (.cells #[.int .i64 0,.int .i64 0] 30)):=(Below.refl _ _).alloc (Nat.le_refl _) _
 generalize w3.alloc (.cells #[.int .i64 0,.int .i64 0] 30)=w4 at *
 have hT4:=hT3.later hb4
 have q4:=q3.below hb4 q3.lt
 have hB4:=hB3.trans (hb4.mono hB3.size)
 have x0:=q4.cell 0
 have x1:=q4.cell 1
 have x2:=q4.cell 2
 have x3:=q4.cell 3
 have x4:=q4.cell 4
 have HR:=HA.out.later hB4
 have HTR:=Lib.hid (zs0 68 (.agg #[.int .i64 a,.int .i64 st,.int .i64 z,.string g,.string o]) none (fun _ _=>True) A n c (l.map strv) ys w4 (fun _ _=>by kernel_rfl) HN.out HR HY.out (fun b hb=>by cases hb) trivial
  (fun i W W' h1 h2=>trivial)
  (fun W i x y hi hg hJ hx hy=>by
   rw [List.getElem?_map] at hx
   cases hl:l[i]? with
   | none=>rw [hl] at hx;cases hx
   | some s=>
    rw [hl] at hx
    obtain rfl:strv s=x:=Option.some.inj hx
    refine (HS.out i s y W (hT4.later (zgr hg (Nat.le_refl _))) hl hy).mono ?_
    rintro e w' ⟨rfl,hb⟩
    exact ⟨rfl,za0 hb _,trivial⟩))
 go_wp2_with fail
 refine HTR.out.mono ?_
 rintro e w5 ⟨rfl,ho,hg,_⟩
 have hb5:Below w4.heap.size w4 w5:=zgr hg (Nat.le_refl _)
 go_wp2_with fail
 go_ret2
 exact ⟨_,rfl,hB4.size,ho,hB4.trans (hb5.mono hB4.size)⟩
end Go.Proofs.YtmkihdjolnlccaaGreatDoor
namespace Go.Proofs.YtmkihdjolnlccaaGreatDoor
open Go.RowKit Bn
def fent (f:Nat→Nat) (c:Nat):MapEntry:=⟨.float .f32 (f c),.int .i64 (c:Int),c⟩
def zet (f:Nat→Nat) (n:Nat):Array MapEntry:=((List.range n).map (fent f)).toArray
theorem zgm {P:Program} {t:TypeId} (ht:P.underlying t=some (.float .f32)) (a b n:Nat) (w:World):(Op.equalIn (n+1) t (.float .f32 a) (.float .f32 b)).run P w = .ok (Op.floatEq .f32 a b) w:=by
 simp [Op.equalIn,run_underlying ht,Result.andThen]
theorem zcT {P:Program} {t:TypeId} (ht:P.underlying t=some (.float .f32)) (a b:Nat) (w:World):(Op.equal t (.float .f32 a) (.float .f32 b)).run P w = .ok (Op.floatEq .f32 a b) w:=zgm ht a b 9999 w
theorem zk3 {P:Program} {t:TypeId} {x:Nat} {w:World} (ht:P.underlying t=some (.float .f32)) (f:Nat→Nat):∀ (l:List Nat) (i:Nat),(∀ c ∈ l,Op.floatEq .f32 x (f c)=false) →
  (Instr.findAsking t (.float .f32 x) (l.map (fent f)) i).run P w = .ok none w
 | [],_,_=>by simp [Instr.findAsking]
 | c :: l,i,h=>by
  have h1:=h c List.mem_cons_self
  have h2:=zk3 (w:=w) ht f l (i+1) (fun d hd=>h d (List.mem_cons_of_mem _ hd))
  rw [List.map_cons]
  unfold Instr.findAsking
  simp [fent,zcT ht,h1,Result.andThen]
  exact h2
theorem zkC {P:Program} {t:TypeId} {x:Nat} {w:World} (ht:P.underlying t=some (.float .f32)) (f:Nat→Nat) (m:List Nat) (k:Nat) (hk:Op.floatEq .f32 x (f k)=true):∀ (l:List Nat) (i:Nat),(∀ c ∈ l,Op.floatEq .f32 x (f c)=false) →
  (Instr.findAsking t (.float .f32 x) ((l++k :: m).map (fent f)) i).run P w = .ok (some (i+l.length,.int .i64 (k:Int))) w
 | [],i,_=>by
  rw [List.nil_append,List.map_cons]
  unfold Instr.findAsking
  simp [fent,zcT ht,hk,Result.andThen]
 | c :: l,i,h=>by
  have h1:=h c List.mem_cons_self
  have h2:=zkC (w:=w) ht f m k hk l (i+1) (fun d hd=>h d (List.mem_cons_of_mem _ hd))
  rw [List.cons_append,List.map_cons]
  unfold Instr.findAsking
  simp [fent,zcT ht,h1,Result.andThen]
  rw [List.map_append,List.map_cons] at h2
  simp only [fent] at h2
  rw [h2]
  simp;omega
theorem zm5 {P:Program} {t:TypeId} {x:Nat} {w:World} (ht:P.underlying t=some (.float .f32)) (f:Nat→Nat) (l:List Nat) (r:Option (Nat × Value)) (h:(Instr.findAsking t (.float .f32 x) (l.map (fent f)) 0).run P w = .ok r w) :
  (Instr.findKey t (.float .f32 x) (l.map (fent f))).run P w = .ok r w:=by
 unfold Instr.findKey
 cases l with
 | nil=>simpa [Instr.findAsking,Instr.findNow,run_underlying ht,Result.andThen] using h
 | cons c l=>
  have e:Instr.findNow (.float .f32) (.float .f32 x) ((c :: l).map (fent f)) 0=none:=rfl
  simp only [Sem.run_bind,run_underlying ht,Result.andThen,e]
  exact h
theorem zlv {P:Program} {t:TypeId} (ht:P.underlying t=some (.float .f32)) (x n:Nat) (b:Bool) (w:World):(Instr.checkKey b (n+1) t (.float .f32 x)).run P w = .ok () w:=by
 simp [Instr.checkKey,run_underlying ht,Result.andThen]
theorem ziw {P:Program} {t:TypeId} (ht:P.underlying t=some (.float .f32)) (x:Nat) (b:Bool) (w:World):(Instr.checkKey b 10000 t (.float .f32 x)).run P w = .ok () w:=zlv ht x 9999 b w
theorem zl4 (f:Nat→Nat) (n:Nat):(zet f n).push (fent f n)=zet f (n+1):=by
 unfold zet
 rw [List.range_succ,List.map_append]
 simp
theorem zez {P:Program} (w:World) {ops:Array Oper} {rest:List Oper} {o:Oper} {a:Act} {Q:Exit→Act→World→Prop}
  (hg:o.guard=none) (m x v:Operand) (t:TypeId) (hop:o.op=Op.mapUpdate t m x v) (k e:TypeId) (ht:P.underlying t=some (.map k e)) (hk:P.underlying k=some (.float .f32))
  (b n:Nat) (f:Nat→Nat) (hm:a.eval m = .map (some b)) (hb:w.heap[b]? = some (.map (zet f n) n)) (y:Nat) (hx:a.eval x = .float .f32 y) (hy:y=f n) (hv:a.eval v = .int .i64 (n:Int))
  (hd:∀ c,c<n→Op.floatEq .f32 (f n) (f c)=false)
  (hK:wpList P ops Q rest (a.put o.dst undef) { w with heap:=w.heap.setIfInBounds b (.map (zet f (n+1)) (n+1)) }) :
  wpList P ops Q (o :: rest) a w:=by
 refine wpList_plain hg fun K' hK' => ?_
 subst hy
 have h1:(Instr.findKey k (.float .f32 (f n)) (zet f n).toList).run P w = .ok none w:=zm5 hk f (List.range n) none (zk3 hk f _ 0 (fun c hc=>hd c (List.mem_range.1 hc)))
 have hp:(zet f n).push ⟨.float .f32 (f n),.int .i64 (n:Int),n⟩=zet f (n+1):=zl4 f n
 unfold Oper.wp
 simp [execOp,hop,hm,hx,hv,Instr.mapUpdate,run_underlying ht,MapKept.run_getObj_map hb,ziw hk,h1,MapKept.run_setObj_map _ hb,Result.andThen,hp]
 exact hK' _ _ hK
theorem zeK {P:Program} (w:World) {ops:Array Oper} {rest:List Oper} {o:Oper} {a:Act} {Q:Exit→Act→World→Prop}
  (hg:o.guard=none) (m x:Operand) (t:TypeId) (hop:o.op=Op.lookup t m x true) (k e:TypeId) (ht:P.underlying t=some (.map k e)) (hk:P.underlying k=some (.float .f32))
  (b n:Nat) (f:Nat→Nat) (hm:a.eval m = .map (some b)) (hb:w.heap[b]? = some (.map (zet f n) n)) (y:Nat) (hx:a.eval x = .float .f32 y)
  (c:Nat) (hc:c<n) (he:Op.floatEq .f32 y (f c)=true) (hd:∀ d,d<c→Op.floatEq .f32 y (f d)=false)
  (hK:wpList P ops Q rest (a.put o.dst (.tuple #[.int .i64 (c:Int),.bool true])) w) :
  wpList P ops Q (o :: rest) a w:=by
 refine wpList_plain hg fun K' hK' => ?_
 have hsplit:List.range n=List.range c++c :: (List.range' (c+1) (n - c - 1)):=by
  rw [List.range_eq_range',List.range_eq_range',show n=c+((n - c - 1)+1) from by omega,←List.range'_append_1,Nat.zero_add,List.range'_succ]
  congr 3;omega
 have h1:(Instr.findKey k (.float .f32 y) (zet f n).toList).run P w = .ok (some (c,.int .i64 (c:Int))) w:=by
  refine zm5 hk f (List.range n) _ ?_
  rw [hsplit]
  have h:=zkC (w:=w) hk f (List.range' (c+1) (n - c - 1)) c he (List.range c) 0 (fun d hd'=>hd d (List.mem_range.1 hd'))
  rw [h];simp
 unfold Oper.wp
 simp [execOp,hop,hm,hx,Instr.lookup,run_underlying ht,MapKept.run_getObj_map hb,ziw hk,h1,Result.andThen]
 exact hK' _ _ hK
end Go.Proofs.YtmkihdjolnlccaaGreatDoor
namespace Go.Proofs.YtmkihdjolnlccaaGreatDoor
open Go.RowKit Bn
open Flt
def nomF (st z:Int) (c:Nat):Nat:=nomW ((c:Int) - z) st
theorem zj6:Tryz.prog.underlying 122=some (.map 64 3):=by kernel_rfl
theorem zmZ:Tryz.prog.underlying 64=some (.float .f32):=by kernel_rfl
theorem zfi {P:Program} {t k e:TypeId} (ht:P.underlying t=some (.map k e)) (v:Int) (w:World):(Instr.makeMap t (some (.int .i64 v))).run P w = .ok (.map (some w.heap.size)) (w.alloc (.map #[] 0)):=by
 simp [Instr.makeMap,run_underlying ht,asInt,Result.andThen]
 rfl
theorem ziP {a W:World} {B b:Nat} (h:Below B a W) (hb:B≤b) (o:Obj):Below B a { W with heap:=W.heap.setIfInBounds b o } where
 os:=h.os
 tape:=h.tape
 output:=h.output
 size:=by simpa using h.size
 block:=fun i hi=>by
  show (W.heap.setIfInBounds b o)[i]? = _
  rw [Array.getElem?_setIfInBounds_ne (by omega)]
  exact h.block i hi
theorem CBlk.setObj {w:World} {g b:Nat} {c:Array Value} {t:TypeId} (h:CBlk w g c t) (hne:b≠g) (o:Obj):CBlk { w with heap:=w.heap.setIfInBounds b o } g c t:=by
 show (w.heap.setIfInBounds b o)[g]? = _
 rw [Array.getElem?_setIfInBounds_ne hne]
 exact h
set_option maxHeartbeats 4000000 in
set_option maxRecDepth 100000 in
theorem zeQ (a:Nat) (st z:Int) (g o:ByteArray) (w:World) (h:Conv a st z g o) (T:Nat) (hTa:2 ^ a=T+1)
  (hd:∀ n c:Nat,n≤T→c<n→Op.floatEq .f32 (nomF st z n) (nomF st z c)=false) :
  Calls Tryz.prog 70 #[.agg #[.int .i64 a,.int .i64 st,.int .i64 z,.string g,.string o]] w fun e w'=>
   ∃ b,e = .returned (.map (some b))∧w.heap.size≤b∧b<w'.heap.size∧w'.heap[b]? = some (.map (zet (nomF st z) (T+1)) (T+1))∧Below w.heap.size w w':=by
 have hp:2 ^ a≤2 ^ 12:=Nat.pow_le_pow_right (by omega) h.bits.2
 have hz:=h.zero
 have hT12:T≤4095:=by omega
 have hb0:Below w.heap.size w (w.alloc (.cells #[.int .i64 a,.int .i64 st,.int .i64 z,.string g,.string o] 33)):=(Below.refl _ _).alloc (Nat.le_refl _) _
 have q0:CBlk (w.alloc (.cells #[.int .i64 a,.int .i64 st,.int .i64 z,.string g,.string o] 33)) w.heap.size #[.int .i64 a,.int .i64 st,.int .i64 z,.string g,.string o] 33:=CBlk.new w _ _ _ rfl
 have x0:=q0.cell 0
 have x1:=q0.cell 1
 have x2:=q0.cell 2
 have x3:=q0.cell 3
 have x4:=q0.cell 4
 have HTP:=Lib.hid (fun W=>zdh a st z (.string g) (.string o) W (by have:=h.bits;omega))
 rw [show 2 ^ a - 1=T from by omega] at HTP hz
 have HN:=Lib.hid (fun (k:Nat) (hk:k≤T) W=>zbR a st z k (.string g) (.string o) W (by omega) (by omega) (by have:=h.step;omega) (by have:=h.step;omega))
 have HD:=Lib.hid hd
 have hmm:=fun (W:World) (v:Int)=>zfi zj6 v W
 have hw:wrap64 ((T:Int)+1)=(T:Int)+1:=IntWalk.wrap64_in _ (by omega)
 clear h hz hp hTa hd
 go_enter Tryz.func70,Tryz.ntmps70
 go_wp2_with fail
 generalize w.alloc (.cells #[.int .i64 a,.int .i64 st,.int .i64 z,.string g,.string o] 33)=w1 at *
 refine (HTP.out w1).mono ?_
 rintro e w2 ⟨rfl,hb2⟩
 have q2:=q0.below hb2 q0.lt
 have hB2:=hb0.trans (hb2.mono hb0.size)
 have k2:=q2.lt
 clear x0 x1 x2 x3 x4
 have hb3:Below w2.heap.size w2 (w2.alloc (.map #[] 0)):=(Below.refl _ _).alloc (Nat.le_refl _) _
 have q3:=q2.below hb3 k2
 have m3:(w2.alloc (.map #[] 0)).heap[w2.heap.size]? = some (.map (zet (nomF st z) 0) 0):=heap_alloc_new w2 _
 have x0:=q3.cell 0
 have x1:=q3.cell 1
 have x2:=q3.cell 2
 have x3:=q3.cell 3
 have x4:=q3.cell 4
 have hB3:=hB2.trans (hb3.mono hB2.size)
 have l3:w2.heap.size<(w2.alloc (.map #[] 0)).heap.size:=by simp
 have hMB:w.heap.size<w2.heap.size:=k2
 go_wp2_with fail
 generalize w2.alloc (.map #[] 0)=w3 at *
 generalize w2.heap.size=b at *
 refine (HTP.out w3).mono ?_
 rintro e w4 ⟨rfl,hb4⟩
 have q4:=q3.below hb4 q3.lt
 have m4:=(hb4.block b l3).trans m3
 have l4:=Nat.lt_of_lt_of_le l3 hb4.size
 have hB4:=hB3.trans (hb4.mono hB3.size)
 clear x0 x1 x2 x3 x4 hb0 hb2 hb3 hb4 q0 q2 q3 m3 l3 hB3 HTP hmm
 go_wp2_with fail
 go_loopg [12] (T+1) (fun m s W=>∃ k:Nat,k≤T+1∧s = .int .i64 k∧T+1 - k≤m∧CBlk W w.heap.size #[.int .i64 a,.int .i64 st,.int .i64 z,.string g,.string o] 33∧W.heap[b]? = some (.map (zet (nomF st z) k) k)∧b<W.heap.size∧Below w.heap.size w W)
 case atStart=>exact ⟨0,Nat.zero_le _,rfl,by omega,q4,m4,l4,hB4⟩
 case round=>
  obtain ⟨k,hk,rfl,hm,qr,mr,lr,hbel⟩:=hrel
  by_cases h0:k<T+1
  ·have hk1:(k:Int)<(T:Int)+1:=by omega
   have x0:=qr.cell 0
   have x1:=qr.cell 1
   have x2:=qr.cell 2
   have x3:=qr.cell 3
   have x4:=qr.cell 4
   have HNK:=Lib.hid (HN.out k (by omega) wr)
   have HDK:=Lib.hid (fun c (hc:c<k)=>HD.out k c (by omega) hc)
   go_wp2_with fail
   refine HNK.out.mono ?_
   rintro e w5 ⟨rfl,hb5⟩
   have q5:=qr.below hb5 qr.lt
   have m5:=(hb5.block b lr).trans mr
   have l5:=Nat.lt_of_lt_of_le lr hb5.size
   have hB5:=hbel.trans (hb5.mono hbel.size)
   clear x0 x1 x2 x3 x4 HNK HN
   go_wp2_with (at_mapUpdate;refine zez _ rfl _ _ _ _ rfl _ _ zj6 zmZ b k (nomF st z) rfl m5 _ rfl rfl rfl HDK.out ?_)
   go_roundg (T+1 - (k+1))
   case measure=>omega
   case rel=>
    refine ⟨k+1,by omega,by go_num,Nat.le_refl _,q5.setObj (by omega) _,?_,by simpa using l5,ziP hB5 (by omega) _⟩
    show (w5.heap.setIfInBounds b _)[b]? = _
    rw [Array.getElem?_setIfInBounds_self_of_lt l5]
  ·have hk1:¬ (k:Int)<(T:Int)+1:=by omega
   obtain rfl:k=T+1:=by omega
   go_wp2_with fail
   go_ret
   exact ⟨b,rfl,by omega,lr,mr,hbel⟩
set_option maxHeartbeats 4000000 in
set_option maxRecDepth 100000 in
theorem zkS (a:Nat) (st z:Int) (g o:ByteArray) (A:Option Addr) (n c:Nat) (l cs:List Nat) (w:World) (hT:Tabs w) (h:Conv a st z g o) (T:Nat) (hTa:2 ^ a=T+1)
  (hd:∀ n c:Nat,n≤T→c<n→Op.floatEq .f32 (nomF st z n) (nomF st z c)=false)
  (hA:zae w w.heap.size 1 A n (l.map f32v)) (hn:n≤4096) (hf:∀ x ∈ l,fin Ieee.single x=true) (hcl:cs.length=n)
  (hc:∀ (i y k:Nat),l[i]? = some y→cs[i]? = some k→k≤T∧Op.floatEq .f32 y (nomF st z k)=true∧∀ d,d<k→Op.floatEq .f32 y (nomF st z d)=false) :
  Calls Tryz.prog 13 #[.agg #[.int .i64 a,.int .i64 st,.int .i64 z,.string g,.string o],.slice A n c] w fun e w'=>
   ∃ b,e = .returned (.tuple #[.slice (some ⟨b,0,none⟩) n n,.int .i64 0])∧w.heap.size≤b∧w'.ownsRow b 3 1 (.slice (some ⟨b,0,none⟩) n n) n (cs.map natv)∧Below w.heap.size w w':=by
 obtain ⟨i0,hi0,hz0,hz1,hz2⟩:=info_parts zbZ
 have hb0:Below w.heap.size w (w.alloc (.cells #[.int .i64 a,.int .i64 st,.int .i64 z,.string g,.string o] 33)):=(Below.refl _ _).alloc (Nat.le_refl _) _
 have q0:CBlk (w.alloc (.cells #[.int .i64 a,.int .i64 st,.int .i64 z,.string g,.string o] 33)) w.heap.size #[.int .i64 a,.int .i64 st,.int .i64 z,.string g,.string o] 33:=CBlk.new w _ _ _ rfl
 have x0:=q0.cell 0
 have x1:=q0.cell 1
 have x2:=q0.cell 2
 have x3:=q0.cell 3
 have x4:=q0.cell 4
 have HC:=Lib.hid (zcf a st z g o _ (hT.later hb0) h)
 have HK:=Lib.hid (fun W hA=>zbz A n c l W hA hf hn)
 have HM:=Lib.hid (fun W=>zeQ a st z g o W h T hTa hd)
 have HA:=Lib.hid hA
 have HCS:=Lib.hid hc
 have HCL:=Lib.hid hcl
 have HN:=Lib.hid hn
 have HL:=Lib.hid hA.lenM
 clear h hA hf hc hcl hd hTa
 go_enter Tryz.func13,Tryz.ntmps13
 go_wp2_with fail
 generalize w.alloc (.cells #[.int .i64 a,.int .i64 st,.int .i64 z,.string g,.string o] 33)=w1 at *
 have hT1:=hT.later hb0
 refine HC.out.mono ?_
 rintro e w2 ⟨rfl,hb2⟩
 have q2:=q0.below hb2 q0.lt
 clear x0 x1 x2 x3 x4
 have hB2:=hb0.trans (hb2.mono hb0.size)
 go_wp2_with fail
 refine (HK.out w2 (HA.out.later hB2)).mono ?_
 rintro e w3 ⟨rfl,rfl⟩
 go_wp2_with fail
 refine (za7 0 0 w2 _ _ rfl).mono ?_
 rintro e w4 ⟨rfl,rfl⟩
 have hb4:Below w2.heap.size w2 (w2.alloc (.cells #[.int .i64 0,.int .i64 0] 30)):=(Below.refl _ _).alloc (Nat.le_refl _) _
 generalize w2.alloc (.cells #[.int .i64 0,.int .i64 0] 30)=w4 at *
 have q4:=q2.below hb4 q2.lt
 have hB4:=hB2.trans (hb4.mono hB2.size)
 have x0:=q4.cell 0
 have x1:=q4.cell 1
 have x2:=q4.cell 2
 have x3:=q4.cell 3
 have x4:=q4.cell 4
 clear HC HK hb0 hb2 hb4 q0 q2 hT1 hB2
 go_wp2_with fail
 refine (HM.out w4).mono ?_
 rintro e w5 ⟨b,rfl,hb5l,hb5s,hm5,hb5⟩
 have hB5:=hB4.trans (hb5.mono hB4.size)
 have hbw:w.heap.size≤b:=Nat.le_trans hB4.size hb5l
 clear x0 x1 x2 x3 x4 HM hb5 hb5l q4 hB4
 go_wp2_with (at_make;refine wpList_make_full _ rfl _ _ 35 rfl w5.heap.size 3 i0 (.int .i64 0) 1 Tryz.underlying35 hi0 hz0 hz1 _ _ _ _ n rfl rfl (by omega) (by omega) ?b2 ?b3 (Nat.le_refl _) ?_)
 case b2=>rw [hz2];omega
 case b3=>unfold maxLen;omega
 intro w6 hown6 hgrow6
 rw [toList_madeCells_one] at hown6
 have hb6:Below w5.heap.size w5 w6:=zgr hgrow6 (Nat.le_refl _)
 have hm6:=(hb6.block b hb5s).trans hm5
 have hB6:=hB5.trans (hb6.mono hB5.size)
 have hl6:w.heap.size≤w5.heap.size:=hB5.size
 generalize w5.heap.size=G at *
 clear hm5 hB5 hgrow6 hb6
 go_wp2_with fail
 go_loopg [29] n (fun m s W=>∃ k:Nat,k≤n∧s = .int .i64 k∧n - k≤m∧W.ownsRow G 3 1 (.slice (some ⟨G,0,none⟩) n n) n ((cs.take k).map natv++List.replicate (n - k) (.int .i64 0))∧W.heap[b]? = some (.map (zet (nomF st z) (T+1)) (T+1))∧Below w.heap.size w W)
 case atStart=>exact ⟨0,Nat.zero_le _,rfl,by omega,by rw [zcN];simpa using hown6,hm6,hB6⟩
 case round=>
  obtain ⟨k,hk,rfl,hm,hown,hmr,hbel⟩:=hrel
  by_cases h0:k<n
  ·obtain ⟨ad,hkl,rfl,hbb,hcell⟩:=(HA.out.below hbel).cellM h0
   have hkc:k<cs.length:=by have:=HCL.out;omega
   obtain ⟨e1,e2,e3⟩:=HCS.out k l[k] cs[k] (List.getElem?_eq_getElem hkl) (List.getElem?_eq_getElem hkc)
   have HS:=Lib.hid (zdt natv cs (.int .i64 0) n k hkc HCL.out)
   obtain ⟨v1,hc1⟩:=zc0 hown k h0
   have hf1:=zbw hown k
   unfold f32v at hcell
   generalize l[k]=x at *
   have hst:=fun (W:World) (a:Addr) (m:_)=>run_store Tryz.prog W a (.int .i64 (cs[k]:Int)) m rfl
   have HE1:=Lib.hid (show cs[k]<T+1 from by omega)
   have HE2:=Lib.hid e2
   have HE3:=Lib.hid e3
   clear e1 e2 e3
   go_wp2_with (at_lookup;refine zeK _ rfl _ _ _ rfl _ _ zj6 zmZ b (T+1) (nomF st z) rfl hmr x rfl cs[k] HE1.out HE2.out HE3.out ?_)
   go_roundg (n - (k+1))
   case measure=>omega
   case rel=>exact ⟨k+1,by omega,by go_num,Nat.le_refl _,by have h9:=zda hown k (natv cs[k]);rw [HS.out] at h9;exact h9,(Below.heap_setCell wr ⟨G,k,none⟩ _ b (Nat.ne_of_lt hb5s)).trans hmr,hbel.setCell (p:=⟨G,k,none⟩) hl6 _⟩
  ·obtain rfl:k=n:=by omega
   have HS:=Lib.hid (zdq natv cs (.int .i64 0) k HCL.out)
   go_wp2_with fail
   go_ret2
   exact ⟨G,rfl,hl6,by rw [HS.out] at hown;exact hown,hbel⟩
theorem zmT:(Tryz.prog.info? 94).map (fun i=>(i.zero,i.size,i.bytes))=some (some (.agg #[.int .i64 0,.int .i64 0]),2,16):=by kernel_rfl
theorem ze6 (w:World) (x y:Value) (t:TypeId):∀ j u,[x,y][j]? = some u→(w.alloc (.cells #[x,y] t)).cell? ((⟨w.heap.size,0,none⟩:Addr).add j)=some u:=by
 intro j u hu
 have h:=(zae.lit w [x,y] t).2 (by simp)
 obtain ⟨ad,e,_,hc⟩:=h
 cases e
 exact hc j u hu
theorem zfs (c:Int) (b:Bool) (hb:decide (c=0∨c=((2 ^ 8 - 1:Nat):Int))=b) (W:World) :
  Calls Tryz.prog 72 #[.agg #[.int .i64 8,.int .i64 (-3),.int .i64 128,.string { data:=#[49] },.string { data:=#[48] }],.int .i64 c] W fun e w'=>e = .returned (.bool b)∧Below W.heap.size W w':=by
 rw [←hb]
 exact zfH 8 (-3) 128 c (.string { data:=#[49] }) (.string { data:=#[48] }) W (by decide)
set_option maxHeartbeats 4000000 in
set_option maxRecDepth 100000 in
theorem zoX (b c:Nat) (w:World) (h:zae w w.heap.size 1 (some ⟨b,0,none⟩) 5 ([0,128,129,255,255].map natv)) :
  Calls Tryz.prog 71 #[.slice (some ⟨b,0,none⟩) 5 c,.func (.func 72) #[.agg #[.int .i64 8,.int .i64 (-3),.int .i64 128,.string { data:=#[49] },.string { data:=#[48] }]] #[]] w fun e w'=>
   ∃ v,e = .returned v∧w'.ownsRow w.heap.size 94 2 v 2 [.int .i64 0,.int .i64 1,.int .i64 3,.int .i64 5]∧Below w.heap.size w w':=by
 obtain ⟨i0,hi0,hz0,hz1,hz2⟩:=info_parts zmT
 obtain ⟨ad,had,hbd,hce⟩:=h.2 (by omega)
 cases had
 have c0:w.cell? ⟨b,0,none⟩=some (.int .i64 0):=hce 0 (.int .i64 0) rfl
 have c1:w.cell? ⟨b,1,none⟩=some (.int .i64 128):=hce 1 (.int .i64 128) rfl
 have c2:w.cell? ⟨b,2,none⟩=some (.int .i64 129):=hce 2 (.int .i64 129) rfl
 have c3:w.cell? ⟨b,3,none⟩=some (.int .i64 255):=hce 3 (.int .i64 255) rfl
 have c4:w.cell? ⟨b,4,none⟩=some (.int .i64 255):=hce 4 (.int .i64 255) rfl
 have eg:∀ args w,(callFunc 72 args).run Tryz.prog w = .ok (.enter 72 args) w:=fun _ _=>by kernel_rfl
 have E0:=Lib.hid (zfs 0 true (by decide))
 have E1:=Lib.hid (zfs 128 false (by decide))
 have E2:=Lib.hid (zfs 129 false (by decide))
 have E3:=Lib.hid (zfs 255 true (by decide))
 clear h
 go_enter Tryz.func71,Tryz.ntmps71
 go_wp2
 go_step3
 go_wp2
 go_step3
 go_wp2
 go_loopg [6,5] 3 (fun m f v W=>Below w.heap.size w W∧((f = .int .i64 0∧v = .slice none 0 0∧3≤m)∨(f = .int .i64 2∧W.ownsRow w.heap.size 94 2 v 1 [.int .i64 0,.int .i64 1]∧2≤m)∨(f = .int .i64 3∧W.ownsRow w.heap.size 94 2 v 1 [.int .i64 0,.int .i64 1]∧1≤m)))
 case atStart=>exact ⟨Below.refl _ _,Or.inl ⟨rfl,rfl,Nat.le_refl _⟩⟩
 case round=>
  obtain ⟨hbel,(⟨rfl,rfl,hm⟩ | ⟨rfl,hown,hm⟩ | ⟨rfl,hown,hm⟩)⟩:=hrel
  ·have d0:=(hbel.cell (p:=⟨b,0,none⟩) hbd).trans c0
   go_wp2_with (go_at_fn 72;refine (E0.out _).mono ?_;rintro e w1 ⟨rfl,hb1⟩)
   have hB1:=hbel.trans (hb1.mono hbel.size)
   clear d0 hb1
   go_loopg [6,7,5] 1 (fun m' f s v W=>f = .int .i64 0∧s = .int .i64 1∧v = .slice none 0 0∧Below w.heap.size w W)
   case atStart=>exact ⟨rfl,rfl,rfl,hB1⟩
   case round=>
    obtain ⟨rfl,rfl,rfl,hbel2⟩:=hrel
    have d1:=(hbel2.cell (p:=⟨b,1,none⟩) hbd).trans c1
    go_wp2_with (first
     |(go_at_fn 72;refine (E1.out _).mono ?_;rintro e w2 ⟨rfl,hb2⟩)
     |(at_builtin;refine wpList_append_own _ rfl _ _ 39 rfl w.heap.size 94 i0 (.agg #[.int .i64 0,.int .i64 0]) 2 16 Tryz.underlying39 hi0 hz0 hz1 hz2 rfl (by decide) _ _ _ rfl (World.ownsRow_nil _ _ _ _) ⟨w2.heap.size,0,none⟩ 1 1 [.int .i64 0,.int .i64 1] rfl rfl ?a1 ?a2 ?a3 ?a4 ?a5 ?_))
    case a1=>exact ze6 _ _ _ _
    case a2=>intro u hu;simp at hu;rcases hu with rfl | rfl<;>rfl
    case a3=>unfold maxLen;omega
    case a4=>omega
    case a5=>have:=(hbel2.trans (hb2.mono hbel2.size)).size;simp;omega
    intro v3 w3 hown3 hgrow3 _
    have hB2:=hbel2.trans (hb2.mono hbel2.size)
    have hB3:Below w.heap.size w w3:=(hB2.alloc hB2.size _).grown hgrow3 (by have:=hB2.size;simp;omega) (fun g hg=>by simp [Value.ownBlock] at hg)
    go_wp2
    go_roundg 2
    case measure=>omega
    case rel=>exact ⟨hB3,Or.inr (Or.inl ⟨rfl,hown3,Nat.le_refl _⟩)⟩
  ·have d2:=(hbel.cell (p:=⟨b,2,none⟩) hbd).trans c2
   go_wp2_with (go_at_fn 72;refine (E2.out _).mono ?_;rintro e w2 ⟨rfl,hb2⟩)
   have hB2:=hbel.trans (hb2.mono hbel.size)
   have hown2:=zeg hown hb2
   go_roundg 1
   case measure=>omega
   case rel=>exact ⟨hB2,Or.inr (Or.inr ⟨rfl,hown2,Nat.le_refl _⟩)⟩
  ·have d3:=(hbel.cell (p:=⟨b,3,none⟩) hbd).trans c3
   go_wp2_with (go_at_fn 72;refine (E3.out _).mono ?_;rintro e w2 ⟨rfl,hb2⟩)
   have hB2:=hbel.trans (hb2.mono hbel.size)
   have hown2:=zeg hown hb2
   clear d3 hb2 hown
   go_loopg [6,7,5] 2 (fun m' f s v W=>f = .int .i64 3∧((s = .int .i64 4∧1≤m')∨s = .int .i64 5)∧W.ownsRow w.heap.size 94 2 v 1 [.int .i64 0,.int .i64 1]∧Below w.heap.size w W)
   case atStart=>exact ⟨rfl,Or.inl ⟨rfl,by omega⟩,hown2,hB2⟩
   case round=>
    obtain ⟨rfl,(⟨rfl,hm'⟩ | rfl),hown3,hbel3⟩:=hrel
    ·have d4:=(hbel3.cell (p:=⟨b,4,none⟩) hbd).trans c4
     go_wp2_with (go_at_fn 72;refine (E3.out _).mono ?_;rintro e w4 ⟨rfl,hb4⟩)
     have hB4:=hbel3.trans (hb4.mono hbel3.size)
     have hown4:=zeg hown3 hb4
     go_roundg 0
     case measure=>omega
     case rel=>exact ⟨rfl,Or.inr rfl,hown4,hB4⟩
    ·go_wp2_with (at_builtin;refine wpList_append_own _ rfl _ _ 39 rfl w.heap.size 94 i0 (.agg #[.int .i64 0,.int .i64 0]) 2 16 Tryz.underlying39 hi0 hz0 hz1 hz2 rfl (by decide) _ _ _ rfl (hown3.alloc _) ⟨wr.heap.size,0,none⟩ 1 1 [.int .i64 3,.int .i64 5] rfl rfl ?b1 ?b2 ?b3 ?b4 ?b5 ?_)
     case b1=>exact ze6 _ _ _ _
     case b2=>intro u hu;simp at hu;rcases hu with rfl | rfl<;>rfl
     case b3=>unfold maxLen;omega
     case b4=>omega
     case b5=>have:=hbel3.size;simp;omega
     intro v5 w5 hown5 hgrow5 _
     have hB5:Below w.heap.size w w5:=(hbel3.alloc hbel3.size _).grown hgrow5 (by have:=hbel3.size;simp;omega) (fun g hg=>(World.ownsRow.lt hown3 g hg).1)
     go_wp2
     try rw [Exit.noGoto_ret]
     go_ret
     exact ⟨_,rfl,hown5,hB5⟩
end Go.Proofs.YtmkihdjolnlccaaGreatDoor
