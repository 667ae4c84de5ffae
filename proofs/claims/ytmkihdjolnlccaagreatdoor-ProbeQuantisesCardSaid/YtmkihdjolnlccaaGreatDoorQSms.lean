/- The references' SameInts, SameFloats of lists that are equal. -/
import Derived.Test.YtmkihdjolnlccaaGreatDoorQAwe
import Derived.Test.YtmkihdjolnlccaaGreatDoorQRkd4
import Derived.Test.YtmkihdjolnlccaaGreatDoorQTrn
import Derived.Deep.RegionHeld3
import Derived.Laws.BitsAllLaws
import Derived.Test.YtmkihdjolnlccaaGreatDoorQWords
import Derived.Laws.CopyOwn
import Derived.StillTailTactics
import Derived.IntWalk
namespace Go.Proofs.YtmkihdjolnlccaaGreatDoor
open Go.RowKit
open Flt
set_option maxHeartbeats 1000000 in
theorem zfF (A A':Option Addr) (n c c':Nat) (l:List Int) (w:World) (h:zae w w.heap.size 1 A n (l.map i64v)) (h':zae w w.heap.size 1 A' n (l.map i64v)) (hn:n≤maxLen) :
  Calls Tryz.prog 23 #[.slice A n c,.slice A' n c'] w fun e w'=>e = .returned (.bool true)∧Below w.heap.size w w':=by
 unfold maxLen at hn
 go_enter Tryz.func23,Tryz.ntmps23
 go_wp2
 go_loopg [5] n (fun m s W=>∃ k:Nat,k≤n∧s = .int .i64 k∧n - k≤m∧Below w.heap.size w W)
 case atStart=>exact ⟨0,Nat.zero_le _,rfl,by omega,Below.refl _ _⟩
 case round=>
  obtain ⟨k,hk,rfl,hm,hbel⟩:=hrel
  by_cases h0:k<n
  ·obtain ⟨ad,hkl,rfl,hbb,hcell⟩:=(h.below hbel).cellM h0
   obtain ⟨ad',hkl',rfl,hbb',hcell'⟩:=(h'.below hbel).cellM h0
   unfold i64v at hcell hcell'
   generalize l[k]=x at *
   go_wp2
   go_region
   go_wp2
   go_roundg (n - (k+1))
   case measure=>omega
   case rel=>exact ⟨k+1,by omega,by go_num,Nat.le_refl _,hbel.drew⟩
  ·go_wp2
   go_ret
   exact ⟨rfl,hbel⟩
set_option maxHeartbeats 1000000 in
theorem zd8 (A A':Option Addr) (n c c':Nat) (l:List Nat) (w:World) (h:zae w w.heap.size 1 A n (l.map f32v)) (h':zae w w.heap.size 1 A' n (l.map f32v)) (hn:n≤maxLen) (hf:∀ x ∈ l,fin Ieee.single x=true) :
  Calls Tryz.prog 22 #[.slice A n c,.slice A' n c'] w fun e w'=>e = .returned (.bool true)∧Below w.heap.size w w':=by
 unfold maxLen at hn
 have HFI:=Lib.hid hf
 clear hf
 go_enter Tryz.func22,Tryz.ntmps22
 go_wp2
 go_loopg [5] n (fun m s W=>∃ k:Nat,k≤n∧s = .int .i64 k∧n - k≤m∧Below w.heap.size w W)
 case atStart=>exact ⟨0,Nat.zero_le _,rfl,by omega,Below.refl _ _⟩
 case round=>
  obtain ⟨k,hk,rfl,hm,hbel⟩:=hrel
  by_cases h0:k<n
  ·obtain ⟨ad,hkl,rfl,hbb,hcell⟩:=(h.below hbel).cellM h0
   obtain ⟨ad',hkl',rfl,hbb',hcell'⟩:=(h'.below hbel).cellM h0
   have hfx:=HFI.out _ (List.getElem_mem hkl)
   unfold f32v at hcell hcell'
   generalize l[k]=x at *
   have hxx:(FloatKind.f32.format.order x x != some .eq)=false:=by
    have h:=zhl hfx hfx
    have h2:feq x x=true:=by rw [h];simp
    show (Ieee.single.order x x != some .eq)=false
    simpa [feq] using h2
   clear hfx
   go_wp2
   go_region
   go_wp2
   go_roundg (n - (k+1))
   case measure=>omega
   case rel=>exact ⟨k+1,by omega,by go_num,Nat.le_refl _,hbel.drew⟩
  ·go_wp2
   go_ret
   exact ⟨rfl,hbel⟩
end Go.Proofs.YtmkihdjolnlccaaGreatDoor
namespace Go.Proofs.YtmkihdjolnlccaaGreatDoor
open Go.RowKit Bn
open Flt
set_option maxHeartbeats 1000000 in
theorem ztt (w:World):Calls Tryz.prog 56 #[] w fun e w'=>e = .returned (.agg #[.int .i64 8,.int .i64 (-3),.int .i64 128,.string { data:=#[49] },.string { data:=#[48] }])∧Below w.heap.size w w':=by
 go_enter Tryz.func56,Tryz.ntmps56
 go_wp2_with fail
 refine bodyPost_ret (v := .agg #[.int .i64 8,.int .i64 (-3),.int .i64 128,.string { data:=#[49] },.string { data:=#[48] }]) (by simp [results,Tryz.results56,go_sem]) rfl ⟨rfl,(Below.refl _ _).alloc (Nat.le_refl _) _⟩
theorem zst (w:World) (hT:Tabs w):Calls Tryz.prog 27 #[.agg #[.int .i64 8,.int .i64 (-3),.int .i64 128,.string { data:=#[49] },.string { data:=#[48] }]] w fun e w'=>e = .returned (.tuple #[.agg #[.string { data:=#[45,49,54] },.string { data:=#[49,50,55,47,56] }],.int .i64 0])∧Below w.heap.size w w':=
 znp 8 (-3) 128 { data:=#[49] } { data:=#[48] } 3246391296 1098776576 [45,49,54] [49,50,55,47,56] w hT zch zk2 zhO zrN zry
theorem zrE (w:World) (hT:Tabs w):Calls Tryz.prog 31 #[.agg #[.int .i64 8,.int .i64 (-3),.int .i64 128,.string { data:=#[49] },.string { data:=#[48] }],.string { data:=#[45,49,55] }] w fun e w'=>e = .returned (.tuple #[.int .i64 0,.int .i64 (-1),.int .i64 0])∧Below w.heap.size w w':=by
 refine zmR { data:=#[45,49,55] } 8 0 (-3) 128 { data:=#[49] } { data:=#[48] } w hT zch (by decide) zs3 0 (-1) (by decide) ?_ ?_ (by decide) (by decide)
 ·intro t ht
  omega
 ·intro t h1 h2
  have e:({ data:=#[45,49,55] }:ByteArray).data.toList=[45,49,55]:=rfl
  have e2:(2:Nat) ^ 8=256:=by decide
  rw [e,zsC]
  exact zs4 t (by omega)
theorem zqA (w:World) (hT:Tabs w):Calls Tryz.prog 45 #[.agg #[.int .i64 8,.int .i64 (-3),.int .i64 128,.string { data:=#[49] },.string { data:=#[48] }],.int .i64 130] w fun e w'=>e = .returned (.tuple #[.float .f32 1048576000,.int .i64 0])∧Below w.heap.size w w':=by
 have h:=zpk 8 (-3) 128 130 { data:=#[49] } { data:=#[48] } w hT zch (by decide)
 rw [show (130:Int) - 128=2 from rfl,zsr] at h
 exact h
theorem ziq (w:World) (hT:Tabs w):Calls Tryz.prog 38 #[.agg #[.int .i64 8,.int .i64 (-3),.int .i64 128,.string { data:=#[50] },.string { data:=#[49] }],.int .i64 0] w fun e w'=>e = .returned (.tuple #[.agg #[.string { data:=#[] },.string { data:=#[] }],.int .i64 15])∧Below w.heap.size w w':=
 ziJ 8 (-3) 128 { data:=#[50] } { data:=#[49] } w hT zk6
end Go.Proofs.YtmkihdjolnlccaaGreatDoor
namespace Go.Proofs.YtmkihdjolnlccaaGreatDoor
open Go.RowKit
open Flt
set_option maxHeartbeats 1000000 in
theorem zpl (x lo hi gl gv:Nat) (v:Bool) (w:World) (c1:w.cell? ⟨gl,0,none⟩=some (.float .f32 lo)) (c2:w.cell? ⟨gl,1,none⟩=some (.float .f32 hi)) (c3:w.cell? ⟨gv,0,none⟩=some (.bool v)) (f3:w.frozen? ⟨gv,0,none⟩=false) :
  Calls Tryz.prog 202 #[.float .f32 x,.pointer (some ⟨gl,0,none⟩),.pointer (some ⟨gv,0,none⟩)] w fun e w'=>e = .returned (.bool (digV lo hi v x))∧w.setCell ⟨gv,0,none⟩ (.bool (digV lo hi v x))=w':=by
 by_cases h1:fge x hi=true
 ·have hd:digV lo hi v x=true:=by unfold digV;rw [h1];rfl
  rw [hd]
  have t1:(FloatKind.f32.format.order x hi==some .gt || FloatKind.f32.format.order x hi==some .eq)=true:=h1
  clear hd h1
  go_enter Tryz.func202,Tryz.ntmps202
  go_wp2
  go_ret
  exact ⟨rfl,rfl⟩
 ·have h1':fge x hi=false:=by simpa using h1
  have t1:(FloatKind.f32.format.order x hi==some .gt || FloatKind.f32.format.order x hi==some .eq)=false:=h1'
  cases v
  ·have hd:digV lo hi false x=false:=by unfold digV;rw [h1'];rfl
   rw [hd]
   clear hd h1 h1'
   go_enter Tryz.func202,Tryz.ntmps202
   go_wp2
   go_ret
   exact ⟨rfl,rfl⟩
  ·by_cases h2:fgt x lo=true
   ·have hd:digV lo hi true x=true:=by unfold digV;rw [h1',h2];rfl
    rw [hd]
    have t2:(FloatKind.f32.format.order x lo==some .gt)=true:=h2
    clear hd h1 h1' h2
    go_enter Tryz.func202,Tryz.ntmps202
    go_wp2
    go_ret
    exact ⟨rfl,rfl⟩
   ·have h2':fgt x lo=false:=by simpa using h2
    have hd:digV lo hi true x=false:=by unfold digV;rw [h1',h2'];rfl
    rw [hd]
    have t2:(FloatKind.f32.format.order x lo==some .gt)=false:=h2'
    clear hd h1 h1' h2 h2'
    go_enter Tryz.func202,Tryz.ntmps202
    go_wp2
    go_ret
    exact ⟨rfl,rfl⟩
theorem zl8 (args:Array Value) (w:World):(callFunc 202 args).run Tryz.prog w = .ok (.enter 202 args) w:=by kernel_rfl
theorem zgA (lo hi:Nat) (v:Bool) (w:World):Calls Tryz.prog 134 #[.agg #[.float .f32 lo,.float .f32 hi],.bool v] w fun e w'=>
  e = .returned (.func (.func 202) #[] #[.pointer (some ⟨w.heap.size,0,none⟩),.pointer (some ⟨w.heap.size+1,0,none⟩)])∧(w.alloc (.cells #[.float .f32 lo,.float .f32 hi] 99)).alloc (.cells #[.bool v] 4)=w':=by
 have hmf:∀ (fn:Fn) (first cap:Array Value) (w:World),(Instr.makeFunc fn first cap).run Tryz.prog w = .ok (.func fn first cap) w:=fun _ _ _ _=>rfl
 go_enter Tryz.func134,Tryz.ntmps134
 go_wp2
 go_ret
 exact ⟨rfl,rfl⟩
theorem zgp (lo hi:Nat) (w:World) (h1:fin Ieee.single lo=true) (h2:fin Ieee.single hi=true) (h3:fge lo hi=false) :
  Calls Tryz.prog 132 #[.agg #[.float .f32 lo,.float .f32 hi]] w fun e w'=>e = .returned (.int .i64 0)∧Below w.heap.size w w':=by
 have t3:(FloatKind.f32.format.order lo hi==some .gt || FloatKind.f32.format.order lo hi==some .eq)=false:=h3
 have hb:Below w.heap.size w ((w.alloc (.cells #[.float .f32 lo,.float .f32 hi] 99)).alloc (.cells #[.float .f32 lo,.float .f32 hi] 64)):=((Below.refl _ _).alloc (Nat.le_refl _) _).alloc (by simp) _
 have hr:=zae.lit (w.alloc (.cells #[.float .f32 lo,.float .f32 hi] 99)) [.float .f32 lo,.float .f32 hi] 64
 have hc:=zbz _ 2 2 [lo,hi] _ hr (by simp [h1,h2]) (by omega)
 simp only [World.size_alloc] at hc
 have HC:=Lib.hid hc
 clear hc hr h1 h2 h3
 go_enter Tryz.func132,Tryz.ntmps132
 go_wp2_with fail
 refine HC.out.mono ?_
 rintro e w1 ⟨rfl,rfl⟩
 go_wp2_with fail
 go_ret
 exact ⟨rfl,hb⟩
set_option maxHeartbeats 1000000 in
theorem zrx (A:Option Addr) (n c lo hi:Nat) (v:Bool) (l:List Nat) (w:World) (h:zae w w.heap.size 1 A n (l.map f32v)) (hn:n≤4096) :
  Calls Tryz.prog 133 #[.slice A n c,.func (.func 202) #[] #[.pointer (some ⟨w.heap.size,0,none⟩),.pointer (some ⟨w.heap.size+1,0,none⟩)]] ((w.alloc (.cells #[.float .f32 lo,.float .f32 hi] 99)).alloc (.cells #[.bool v] 4)) fun e w'=>
   e = .returned (.slice (some ⟨w.heap.size+2,0,none⟩) n n)∧w'.ownsRow w.heap.size 4 1 (.slice (some ⟨w.heap.size+2,0,none⟩) n n) n ((digL lo hi v l).map zcR)∧Below w.heap.size w w':=by
 have hb0:Below w.heap.size w ((w.alloc (.cells #[.float .f32 lo,.float .f32 hi] 99)).alloc (.cells #[.bool v] 4)):=((Below.refl _ _).alloc (Nat.le_refl _) _).alloc (by simp) _
 have hl:=h.lenM
 have q1:CBlk ((w.alloc (.cells #[.float .f32 lo,.float .f32 hi] 99)).alloc (.cells #[.bool v] 4)) w.heap.size #[.float .f32 lo,.float .f32 hi] 99:=(CBlk.new w _ _ _ rfl).below ((Below.refl _ _).alloc (Nat.le_refl _) _) (by simp)
 have q2:CBlk ((w.alloc (.cells #[.float .f32 lo,.float .f32 hi] 99)).alloc (.cells #[.bool v] 4)) (w.heap.size+1) #[.bool v] 4:=CBlk.new _ _ _ _ (by simp)
 have hsz:((w.alloc (.cells #[.float .f32 lo,.float .f32 hi] 99)).alloc (.cells #[.bool v] 4)).heap.size=w.heap.size+2:=by simp
 generalize ((w.alloc (.cells #[.float .f32 lo,.float .f32 hi] 99)).alloc (.cells #[.bool v] 4))=W at *
 have ht:=zti 202 #[.pointer (some ⟨w.heap.size,0,none⟩),.pointer (some ⟨w.heap.size+1,0,none⟩)] (some (w.heap.size+1)) (fun i W=>CBlk W (w.heap.size+1) #[.bool (digS lo hi v (l.take i))] 4) A n c (l.map f32v) (digL lo hi v l) W
  zl8 hn (h.later hb0) (by rw [zpd,hl]) ?_ ?_ ?_ ?_
 ·refine ht.mono ?_
  rintro e w' ⟨rfl,ho,hg,_⟩
  rw [hsz] at ho ⊢
  refine ⟨rfl,zep ho (by omega),?_⟩
  exact hb0.grown hg hb0.size (fun k e=>by injection e with e;omega)
 ·intro b hb
  injection hb with hb
  subst hb
  refine ⟨by omega,fun h0 ad e he => ?_⟩
  obtain ⟨ad',e',hb',_⟩:=h.2 h0
  rw [e] at e'
  injection e' with e'
  subst e'
  omega
 ·exact q2
 ·intro i W1 W2 hJ hb
  exact (hb _ rfl).trans hJ
 ·intro W1 i x y hin hg hJ hx hy
  have hil:i<l.length:=by omega
  rw [List.getElem?_map,List.getElem?_eq_getElem hil] at hx
  injection hx with hx
  subst hx
  rw [zrJ lo hi v l i hil] at hy
  injection hy with hy
  subst hy
  have p1:=q1.grown hg (by omega) (by intro e;injection e with e;omega)
  have hc:=zpl l[i] lo hi w.heap.size (w.heap.size+1) (digS lo hi v (l.take i)) W1 (p1.cell 0) (p1.cell 1) (CBlk.cell hJ 0) (CBlk.frozen hJ 0)
  rw [←zox lo hi v l i hil] at hc
  refine hc.mono ?_
  rintro e w' ⟨rfl,rfl⟩
  exact ⟨rfl,zaN (za0 (Below.refl _ _) _) (.inl rfl) _,CBlk.set0 hJ⟩
set_option maxHeartbeats 2000000 in
set_option maxRecDepth 100000 in
theorem zlI (A:Option Addr) (n c lo hi:Nat) (v:Bool) (l:List Nat) (w:World) (h:zae w w.heap.size 1 A n (l.map f32v)) (hf:∀ x ∈ l,fin Ieee.single x=true) (hn:n≤4096)
  (h1:fin Ieee.single lo=true) (h2:fin Ieee.single hi=true) (h3:fge lo hi=false) :
  Calls Tryz.prog 57 #[.slice A n c,.agg #[.float .f32 lo,.float .f32 hi],.bool v] w fun e w'=>
   ∃ g,e = .returned (.tuple #[.slice (some ⟨g,0,none⟩) n n,.int .i64 0])∧w'.ownsRow w.heap.size 4 1 (.slice (some ⟨g,0,none⟩) n n) n ((digL lo hi v l).map zcR)∧Below w.heap.size w w':=by
 have hb0:Below w.heap.size w (w.alloc (.cells #[.float .f32 lo,.float .f32 hi] 99)).drew:=((Below.refl _ _).alloc (Nat.le_refl _) _).drew
 have q0:CBlk (w.alloc (.cells #[.float .f32 lo,.float .f32 hi] 99)).drew w.heap.size #[.float .f32 lo,.float .f32 hi] 99:=CBlk.new w _ _ _ rfl
 have x0:=q0.cell 0
 have x1:=q0.cell 1
 have HC:=Lib.hid (zbz A n c l (w.alloc (.cells #[.float .f32 lo,.float .f32 hi] 99)).drew (h.later hb0) hf hn)
 have HL:=Lib.hid (zgp lo hi (w.alloc (.cells #[.float .f32 lo,.float .f32 hi] 99)).drew h1 h2 h3)
 clear h1 h2 h3 hf
 go_enter Tryz.func57,Tryz.ntmps57
 go_wp2_with fail
 go_region_held3 (fun w'=>w'.cell? ⟨w.heap.size,0,none⟩=some (.float .f32 lo)∧w'.cell? ⟨w.heap.size,1,none⟩=some (.float .f32 hi))
  ((first | exact ⟨x0,x1⟩ | exact ⟨y0,y1⟩ | exact ⟨(World.cell?_alloc_lt _ _ _ k5).trans y0,(World.cell?_alloc_lt _ _ _ k5).trans y1⟩))
  (first
   |(go_at_call 69;refine (HC.out).mono ?_;rintro e w4 ⟨rfl,rfl⟩)
   |(go_at_call 132;refine (HL.out).mono ?_;rintro e w5 ⟨rfl,hb5⟩;have q5:=q0.below hb5 q0.lt;have y0:=q5.cell 0;have y1:=q5.cell 1;have k5:=q5.lt)
   |(go_at_call 64;refine (za7 0 0 w5 _ _ rfl).mono ?_;rintro e w6 ⟨rfl,rfl⟩))
 have hb6:Below w5.heap.size w5 (w5.alloc (.cells #[.int .i64 0,.int .i64 0] 30)):=(Below.refl _ _).alloc (Nat.le_refl _) _
 have q6:=q5.below hb6 q5.lt
 have hB6:Below w.heap.size w (w5.alloc (.cells #[.int .i64 0,.int .i64 0] 30)):=(hb0.trans (hb5.mono hb0.size)).trans (hb6.mono (hb0.trans (hb5.mono hb0.size)).size)
 generalize w5.alloc (.cells #[.int .i64 0,.int .i64 0] 30)=w6 at *
 have z0:=q6.cell 0
 have z1:=q6.cell 1
 clear x0 x1 y0 y1
 go_wp2_with fail
 refine (zgA lo hi v w6).mono ?_
 rintro e w7 ⟨rfl,rfl⟩
 go_wp2_with fail
 refine (zrx A n c lo hi v l w6 (h.later hB6) hn).mono ?_
 rintro e w8 ⟨rfl,ho,hb8⟩
 go_wp2_with fail
 go_ret2
 exact ⟨_,rfl,zep ho hB6.size,hB6.trans (hb8.mono hB6.size)⟩
end Go.Proofs.YtmkihdjolnlccaaGreatDoor
namespace Go.Proofs.YtmkihdjolnlccaaGreatDoor
open Go.RowKit
def zdA (rows:List (List Bool)) (m b i:Nat):List Nat:=(List.range m).map fun j=>if j<i then wd (rows.take (b+1)) j else wd (rows.take b) j
theorem zck (rows:List (List Bool)) (m b i:Nat):(zdA rows m b i).length=m:=by simp [zdA]
theorem zcr (rows:List (List Bool)) (m b i j:Nat) (h:j<m):(zdA rows m b i)[j]? = some (if j<i then wd (rows.take (b+1)) j else wd (rows.take b) j):=by
 simp [zdA,h]
theorem zmv (rows:List (List Bool)) (m b:Nat):zdA rows m b m=zdA rows m (b+1) 0:=by
 apply List.ext_getElem?
 intro j
 by_cases hj:j<m
 ·rw [zcr _ _ _ _ _ hj,zcr _ _ _ _ _ hj,if_pos hj,if_neg (by omega)]
 ·rw [List.getElem?_eq_none (by rw [zck];omega),List.getElem?_eq_none (by rw [zck];omega)]
theorem ziN (rows:List (List Bool)) (m b i x:Nat) (h:i<m) (hx:x=wd (rows.take (b+1)) i):(zdA rows m b i).set i x=zdA rows m b (i+1):=by
 apply List.ext_getElem?
 intro j
 by_cases hj:j<m
 ·by_cases e:j=i
  ·subst e
   rw [List.getElem?_set_self (by rw [zck];exact h),zcr _ _ _ _ _ hj,if_pos (by omega),hx]
  ·rw [List.getElem?_set_ne (by omega),zcr _ _ _ _ _ hj,zcr _ _ _ _ _ hj]
   by_cases h2:j<i
   ·rw [if_pos h2,if_pos (by omega)]
   ·rw [if_neg h2,if_neg (by omega)]
 ·rw [List.getElem?_eq_none (by rw [List.length_set,zck];omega),List.getElem?_eq_none (by rw [zck];omega)]
theorem zmB (rows:List (List Bool)) (m b i:Nat) (h:i<m) (hx:wd (rows.take (b+1)) i=wd (rows.take b) i):zdA rows m b i=zdA rows m b (i+1):=by
 rw [←ziN rows m b i (wd (rows.take b) i) h hx.symm]
 apply List.ext_getElem?
 intro j
 by_cases e:j=i
 ·subst e
  rw [List.getElem?_set_self (by rw [zck];exact h),zcr _ _ _ _ _ h,if_neg (by omega)]
 ·rw [List.getElem?_set_ne (by omega)]
theorem zre (rows:List (List Bool)) (b i:Nat) (h:b<rows.length):wd (rows.take (b+1)) i=wd (rows.take b) i+(if rows[b].getD i false then 2 ^ b else 0):=by
 rw [List.take_succ_eq_append_getElem h,zrb,List.length_take,Nat.min_eq_left (by omega)]
theorem zlg (rows:List (List Bool)) (m:Nat):zdA rows m 0 0=List.replicate m 0:=by
 apply List.ext_getElem?
 intro j
 by_cases hj:j<m
 ·rw [zcr _ _ _ _ _ hj,if_neg (by omega),List.getElem?_replicate,if_pos hj];rfl
 ·rw [List.getElem?_eq_none (by rw [zck];omega),List.getElem?_eq_none (by simp;omega)]
theorem zoP (rows:List (List Bool)) (m n:Nat) (h:rows.length=n):zdA rows m n 0=(List.range m).map (wd rows):=by
 unfold zdA
 apply List.map_congr_left
 intro j _
 rw [if_neg (by omega),List.take_of_length_le (by omega)]
set_option maxHeartbeats 2000000 in
set_option maxRecDepth 100000 in
theorem zhd (A:Option Addr) (n c m:Nat) (rows:List (List Bool)) (w:World) (h:zcG zcR w w.heap.size A n rows) (h0:1≤n) (hn:n≤16) (hm:∀ r ∈ rows,r.length=m) (hm2:m≤4096) :
  Calls Tryz.prog 136 #[.slice A n c] w fun e w'=>e = .returned (.int .i64 0)∧Below w.heap.size w w':=by
 obtain ⟨ad,hr0,A0,c0,rfl,hb0,hc0,_,_,_⟩:=h.row (k:=0) (by omega)
 have hz:Addr.add ad 0=ad:=rfl
 rw [hz] at hc0
 rw [hm rows[0] (List.getElem_mem hr0)] at hc0
 have hcd:w.drew.cell? ad=some (.slice A0 m c0):=hc0
 have hp0:(0:Int)<(n:Int):=by omega
 have hp1:0<n:=by omega
 have hp2:n≠0:=by omega
 have hd0:((n:Int)==0)=false:=by rw [beq_eq_false_iff_ne];omega
 have e1:(if (16:Int)<(n:Int) then (5:Int) else 0)=0:=if_neg (by omega)
 have e2:(if (4096:Int)<(m:Int) then (5:Int) else 0)=0:=if_neg (by omega)
 have H1:=zhV (some ad) n c 16 w.drew
 have H2:=zfe A0 m c0 4096 w.drew
 rw [e1] at H1
 rw [e2] at H2
 have K1:=Lib.hid H1
 have K2:=Lib.hid H2
 have HM:=Lib.hid hm
 clear H1 H2 e1 e2 hz hm
 go_enter Tryz.func136,Tryz.ntmps136
 go_wp2_with fail
 go_region_held3 (fun w'=>w'.cell? ad=some (.slice A0 m c0))
  ((first | exact hcd | exact (World.cell?_alloc_lt _ _ _ (by simpa using hb0)).trans hcd))
  (first
   |(go_at_call 203;refine (K1.out).mono ?_;rintro e w4 ⟨rfl,rfl⟩)
   |(go_at_call 135;refine (K2.out).mono ?_;rintro e w5 ⟨rfl,rfl⟩)
   |(go_at_call 64;refine (za7 0 0 w.drew 30 w.heap.size rfl).mono ?_;rintro e w6 ⟨rfl,rfl⟩))
 have hB:Below w.heap.size w (w.alloc (.cells #[.int .i64 0,.int .i64 0] 30)).drew:=((Below.refl _ _).alloc (Nat.le_refl _) _).drew
 generalize (w.alloc (.cells #[.int .i64 0,.int .i64 0] 30)).drew=w1 at *
 have hc1:w1.cell? ad=some (.slice A0 m c0):=(hB.cell hb0).trans hc0
 have hmm:((m:Int) != (m:Int))=false:=by simp
 go_wp2
 go_loop [22] (fun s=>∃ k:Nat,k≤n∧s = .int .i64 k) (fun s=>n - (intOf s).toNat)
 case atStart=>exact ⟨0,Nat.zero_le _,rfl⟩
 case round=>
  obtain ⟨k,hk,rfl⟩:=hrel
  by_cases hkn:k<n
  ·obtain ⟨ad',hkl,A',c',he,hb',hc',_,_,_⟩:=(h.below hB).row hkn
   injection he with he
   subst he
   rw [HM.out rows[k] (List.getElem_mem hkl)] at hc'
   go_wp2
   go_round
   case rel=>exact ⟨k+1,by omega,by go_num⟩
   case measure=>simp [intOf];omega
  ·go_wp2
   go_ret
   exact ⟨rfl,hB⟩
theorem zqc:(Tryz.prog.info? 111).map (fun i=>(i.zero,i.size,i.bytes))=some (some (.int .u16 0),1,2):=by kernel_rfl
theorem zrD (z:Int):IntKind.u16.wrap z=z % 65536:=by
 first | rfl | (unfold IntKind.wrap;rfl) | (unfold IntKind.wrap IntKind.signed IntKind.bits;simp)
theorem or16 (x b:Nat) (hb:b<16) (hx:x<2 ^ b):bits BinOp.or IntKind.u16 (x:Int) (IntKind.u16.wrap (2 ^ b))=((x+2 ^ b:Nat):Int):=by
 have h1:2 ^ b≤2 ^ 15:=Nat.pow_le_pow_right (by omega) (by omega)
 have e15:(2:Nat) ^ 15=32768:=by decide
 have hc:(2:Int) ^ b=((2 ^ b:Nat):Int):=by rw [Int.natCast_pow];rfl
 have e1:IntKind.u16.wrap ((2:Int) ^ b)=((2 ^ b:Nat):Int):=by rw [hc,zrD];omega
 have h2:=Nat.two_pow_add_eq_or_of_lt hx 1
 rw [Nat.mul_one] at h2
 rw [e1,u16_or_nat x _ (by omega) (by omega),Nat.or_comm,←h2,Nat.add_comm]
set_option maxHeartbeats 4000000 in
set_option maxRecDepth 100000 in
theorem zpQ (A:Option Addr) (n c m:Nat) (rows:List (List Bool)) (w:World) (h:zcG zcR w w.heap.size A n rows) (h0:1≤n) (hn:n≤16) (hm:∀ r ∈ rows,r.length=m) (hm2:m≤4096) :
  Calls Tryz.prog 59 #[.slice A n c] w fun e w'=>∃ g,e = .returned (.tuple #[.slice (some ⟨g,0,none⟩) m m,.int .i64 0])∧w'.ownsRow w.heap.size 111 1 (.slice (some ⟨g,0,none⟩) m m) m (((List.range m).map (wd rows)).map u16v)∧Below w.heap.size w w':=by
 obtain ⟨i0,hi0,hz0,hz1,hz2⟩:=info_parts zqc
 have HCL:=Lib.hid (zhd A n c m rows w h h0 hn hm hm2)
 have hrl:=h.1
 have HM:=Lib.hid hm
 have HRL:=Lib.hid hrl
 clear hm hrl
 have hp0:(0:Int)<(n:Int):=by omega
 have hp1:0<n:=by omega
 go_enter Tryz.func59,Tryz.ntmps59
 go_wp2_with fail
 refine HCL.out.mono ?_
 rintro e w1 ⟨rfl,hb1⟩
 obtain ⟨ad,hr0,A0,c0,rfl,hb0,hc0,_,_,_⟩:=(h.later hb1).row (k:=0) hp1
 have hz:Addr.add ad 0=ad:=rfl
 rw [hz,HM.out rows[0] (List.getElem_mem hr0)] at hc0
 clear hz
 go_wp2_with (at_make;refine wpList_make_full _ rfl _ _ 101 rfl w1.heap.size 111 i0 (.int .u16 0) 1 Tryz.underlying101 hi0 hz0 hz1 _ _ _ _ m rfl rfl (by omega) (by omega) ?b2 ?b3 (Nat.le_refl _) ?_)
 case b2=>rw [hz2];omega
 case b3=>unfold maxLen;omega
 intro w2 hown0 hgrow0
 rw [toList_madeCells_one] at hown0
 have hb2:Below w1.heap.size w1 w2:=zgr hgrow0 (Nat.le_refl _)
 have hB2:Below w.heap.size w w2:=hb1.trans (hb2.mono hb1.size)
 have hle:=hb1.size
 have hown1:w2.ownsRow w1.heap.size 111 1 (.slice (some ⟨w1.heap.size,0,none⟩) m m) m ((zdA rows m 0 0).map u16v):=by
  rw [zlg,List.map_replicate]
  simpa [u16v] using hown0
 clear hown0 hgrow0 hc0
 generalize w1.heap.size=G at *
 go_wp2
 go_loopg [21] n (fun q s W=>∃ b:Nat,b≤n∧s = .int .i64 b∧n - b≤q∧W.ownsRow G 111 1 (.slice (some ⟨G,0,none⟩) m m) m ((zdA rows m b 0).map u16v)∧Below w.heap.size w W)
 case atStart=>exact ⟨0,Nat.zero_le _,rfl,by omega,hown1,hB2⟩
 case round=>
  obtain ⟨b,hb,rfl,hq,hown,hbel⟩:=hrel
  by_cases hbn:b<n
  ·obtain ⟨ad',hbl,A',c',he,hbb,hcl,_,_,hrd⟩:=(h.below hbel).row hbn
   injection he with he
   subst he
   have hlen:=HM.out rows[b] (List.getElem_mem hbl)
   rw [hlen] at hcl hrd
   have HLEN:=Lib.hid hlen
   clear hlen
   go_wp2
   obtain ⟨wo,hwo⟩:∃ wo:World,wo=wr:=⟨_,rfl⟩
   subst hwo
   go_loopg [29] m (fun q s W=>∃ i:Nat,i≤m∧s = .int .i64 i∧m - i≤q∧W.ownsRow G 111 1 (.slice (some ⟨G,0,none⟩) m m) m ((zdA rows m b i).map u16v)∧Below w.heap.size w W∧zae W w.heap.size 1 A' m (rows[b].map zcR))
   case atStart=>exact ⟨0,Nat.zero_le _,rfl,by omega,hown,hbel,hrd⟩
   case round=>
    obtain ⟨i,hi,rfl,hq2,hown,hbel,hrd⟩:=hrel
    by_cases him:i<m
    ·obtain ⟨ad2,hil,rfl,hb2',hcell⟩:=hrd.cellM him
     have hwt:=zre rows b i hbl
     have hlt:=ztN (rows.take b) i
     have hgd:rows[b].getD i false=rows[b][i]:=by simp [List.getD,hil]
     rw [hgd] at hwt
     unfold zcR at hcell
     generalize rows[b][i]=x at *
     cases x
     ·have hsk:=zmB rows m b i him (by simpa using hwt)
      have HSK:=Lib.hid hsk
      clear hsk hwt hlt hgd
      go_wp2
      go_roundg (m - (i+1))
      case measure=>omega
      case rel=>exact ⟨i+1,by omega,by go_num,Nat.le_refl _,by rw [←HSK.out];exact hown,hbel,hrd⟩
     ·have hcw:=World.ownsRow.cellAt hown i (by omega)
      rw [List.getElem?_map,zcr _ _ _ _ _ him,if_neg (Nat.lt_irrefl _)] at hcw
      have hfw:=zbw hown i
      unfold u16v at hcw
      simp only [Option.map_some] at hcw
      have HV:Hid (bits BinOp.or IntKind.u16 ((wd (rows.take b) i:Nat):Int) (IntKind.u16.wrap (2 ^ b))=((wd (rows.take (b+1)) i:Nat):Int)):=by
       rw [List.length_take,Nat.min_eq_left (by omega)] at hlt
       unfold Hid
       rw [or16 _ b (by omega) hlt,hwt,if_pos rfl]
      clear hwt hlt hgd
      go_wp2
      go_region
      go_wp2
      go_roundg (m - (i+1))
      case measure=>omega
      case rel=>
       refine ⟨i+1,by omega,by go_num,Nat.le_refl _,?_,?_,?_⟩
       ·rw [HV.out]
        have h9:=zda hown i (u16v (wd (rows.take (b+1)) i))
        rw [←List.map_set,ziN rows m b i _ him rfl] at h9
        exact h9
       ·exact (hbel.setCell (p:=⟨G,i,none⟩) hle _).drew
       ·exact hrd.setCell (p:=⟨G,i,none⟩) hle _
    ·obtain rfl:i=m:=by omega
     rw [zmv] at hown
     go_wp2
     go_roundg (n - (b+1))
     case measure=>omega
     case rel=>exact ⟨b+1,by omega,by go_num,Nat.le_refl _,hown,hbel⟩
  ·obtain rfl:b=n:=by omega
   rw [zoP rows m b HRL.out] at hown
   go_wp2
   go_ret2
   exact ⟨_,rfl,zep hown hle,hbel⟩
end Go.Proofs.YtmkihdjolnlccaaGreatDoor
namespace Go.Proofs.YtmkihdjolnlccaaGreatDoor
def zeZ {α:Type} (z : α) (ws:List α) (k i:Nat):List α:=ws.take (16*i)++List.replicate (16*k - min (16*i) ws.length) z
theorem zlD {α:Type} (z : α) (ws:List α) (k:Nat):zeZ z ws k 0=List.replicate (16*k) z:=by simp [zeZ]
theorem ziH {α:Type} (z : α) (ws:List α) (k i:Nat) (h:i≤k):(zeZ z ws k i).length=16*k:=by
 unfold zeZ
 rw [List.length_append,List.length_take,List.length_replicate]
 omega
theorem zl9 {α:Type} (z : α) (ws:List α) (k i:Nat) (hi:16*i<ws.length) (hk:ws.length≤16*k):splice (zeZ z ws k i) (16*i) ((ws.drop (16*i)).take 16)=zeZ z ws k (i+1):=by
 unfold splice zeZ
 have hl:(ws.take (16*i)).length=16*i:=by rw [List.length_take];omega
 have e1:(ws.take (16*i)++List.replicate (16*k - min (16*i) ws.length) z).take (16*i)=ws.take (16*i):=by
  rw [List.take_append_of_le_length (by omega),List.take_of_length_le (by omega)]
 have hc:((ws.drop (16*i)).take 16).length=min 16 (ws.length - 16*i):=by rw [List.length_take,List.length_drop]
 have e2:(ws.take (16*i)++List.replicate (16*k - min (16*i) ws.length) z).drop (16*i+((ws.drop (16*i)).take 16).length)=List.replicate (16*k - min (16*(i+1)) ws.length) z:=by
  rw [hc,List.drop_append,List.drop_eq_nil_of_le (by omega),List.nil_append,List.drop_replicate,hl]
  congr 1
  omega
 rw [e1,e2,←List.append_assoc]
 congr 1
 rw [show 16*(i+1)=16*i+16 from by omega,List.take_add]
theorem zn5 {α:Type} (z : α) (ws:List α) (k:Nat) (hk:ws.length≤16*k):zeZ z ws k k=ws++List.replicate (16*k - ws.length) z:=by
 unfold zeZ
 rw [List.take_of_length_le hk,Nat.min_eq_right hk]
end Go.Proofs.YtmkihdjolnlccaaGreatDoor
namespace Go.Proofs.YtmkihdjolnlccaaGreatDoor
open Go.RowKit
theorem zqD:(Tryz.prog.info? 112).map (fun i=>(i.zero,i.size,i.bytes))=some (some (.agg #[.int .u16 0,.int .u16 0,.int .u16 0,.int .u16 0,.int .u16 0,.int .u16 0,.int .u16 0,.int .u16 0,.int .u16 0,.int .u16 0,.int .u16 0,.int .u16 0,.int .u16 0,.int .u16 0,.int .u16 0,.int .u16 0]),16,32):=by kernel_rfl
theorem zpJ (k:Nat):(madeCells #[Value.int .u16 0,.int .u16 0,.int .u16 0,.int .u16 0,.int .u16 0,.int .u16 0,.int .u16 0,.int .u16 0,.int .u16 0,.int .u16 0,.int .u16 0,.int .u16 0,.int .u16 0,.int .u16 0,.int .u16 0,.int .u16 0] k).toList=List.replicate k (u16v 0):=by
 apply List.ext_getElem?
 intro j
 by_cases hj:j<k
 ·have h16:j % 16<16:=Nat.mod_lt _ (by omega)
  rw [List.getElem?_replicate,if_pos hj]
  simp [madeCells,hj]
  generalize j % 16=q at *
  rcases (show q=0∨q=1∨q=2∨q=3∨q=4∨q=5∨q=6∨q=7∨q=8∨q=9∨q=10∨q=11∨q=12∨q=13∨q=14∨q=15 from by omega) with rfl | rfl | rfl | rfl | rfl | rfl | rfl | rfl | rfl | rfl | rfl | rfl | rfl | rfl | rfl | rfl<;>rfl
 ·simp [madeCells,hj]
theorem zhp (n:Nat) (w:World) (hn:n≤4096):Calls Tryz.prog 138 #[.int .i64 n] w fun e w'=>e = .returned (.int .i64 ((n+15) / 16:Nat))∧w=w':=by
 have e1:((n:Int)+16 - 1) / 16=(((n+15) / 16:Nat):Int):=by omega
 have HE:=Lib.hid e1
 clear e1
 go_enter Tryz.func138,Tryz.ntmps138
 go_wp2
 go_ret
 exact ⟨by rw [←HE.out];rfl,rfl⟩
set_option maxHeartbeats 600000 in
set_option maxRecDepth 100000 in
theorem zoy (A:Option Addr) (n c:Nat) (ws:List Nat) (w:World) (h:zae w w.heap.size 1 A n (ws.map u16v)) (hn:n≤4096) (hnc:n≤c) (_hc:c≤maxLen) :
  Calls Tryz.prog 60 #[.slice A n c] w fun e w'=>∃ g,e = .returned (.tuple #[.slice (some ⟨g,0,none⟩) ((n+15) / 16) ((n+15) / 16),.int .i64 0]) ∧
   w'.ownsRow w.heap.size 112 16 (.slice (some ⟨g,0,none⟩) ((n+15) / 16) ((n+15) / 16)) ((n+15) / 16) (ws.map u16v++List.replicate (16*((n+15) / 16) - n) (u16v 0))∧Below w.heap.size w w':=by
 obtain ⟨i0,hi0,hz0,hz1,hz2⟩:=info_parts zqD
 have e1:(if (4096:Int)<(n:Int) then (5:Int) else 0)=0:=if_neg (by omega)
 have H1:=zfY A n c 4096 w
 rw [e1] at H1
 have K1:=Lib.hid H1
 have K2:=Lib.hid (zhp n w hn)
 have hk1:n≤16*((n+15) / 16):=by omega
 have hk2:∀ i,i<(n+15) / 16→16*i<n:=fun i hi=>by omega
 have hk3:(n+15) / 16≤4096:=by omega
 have hwl:=h.lenM
 have HK2:=Lib.hid hk2
 have HWL:=Lib.hid hwl
 clear H1 e1 hk2 hwl
 unfold maxLen at _hc
 generalize (n+15) / 16=k at *
 go_enter Tryz.func60,Tryz.ntmps60
 go_wp2_with fail
 refine K1.out.mono ?_
 rintro e w1 ⟨rfl,rfl⟩
 go_wp2_with fail
 refine K2.out.mono ?_
 rintro e w1 ⟨rfl,rfl⟩
 go_wp2_with (at_make;refine wpList_make_full _ rfl _ _ 105 rfl w.heap.size 112 i0 _ 16 Tryz.underlying105 hi0 hz0 hz1 _ _ _ _ k rfl rfl (by omega) (by omega) ?b2 ?b3 (Nat.le_refl _) ?_)
 case b2=>rw [hz2];omega
 case b3=>unfold maxLen;omega
 intro w2 hown0 hgrow0
 have hB2:Below w.heap.size w w2:=zgr hgrow0 (Nat.le_refl _)
 have hown1:w2.ownsRow w.heap.size 112 16 (.slice (some ⟨w.heap.size,0,none⟩) k k) k (zeZ (u16v 0) (ws.map u16v) k 0):=by
  rw [zlD,Nat.mul_comm 16 k,←zpJ]
  exact hown0
 clear hown0 hgrow0
 go_wp2
 go_loopg [18] k (fun q s W=>∃ i:Nat,i≤k∧s = .int .i64 i∧k - i≤q∧W.ownsRow w.heap.size 112 16 (.slice (some ⟨w.heap.size,0,none⟩) k k) k (zeZ (u16v 0) (ws.map u16v) k i)∧Below w.heap.size w W)
 case atStart=>exact ⟨0,Nat.zero_le _,rfl,by omega,hown1,hB2⟩
 case round=>
  obtain ⟨i,hi,rfl,hq,hown,hbel⟩:=hrel
  by_cases h0:i<k
  ·have hin:=HK2.out i h0
   obtain ⟨ad,e,hb,hcell⟩:=(h.below hbel).2 (by omega)
   subst e
   have b1:(0:Int)≤(i:Int)*16:=by omega
   have b2:(i:Int)*16≤(n:Int):=by omega
   have b3:((i:Int)*16).toNat=i*16:=by omega
   have b4:c≠i*16:=by omega
   have b5:IntKind.i64.wrap ((i:Int)*16)=(i:Int)*16:=IntWalk.i64_in _ (by omega)
   have hblk:=zfG hown
   have hWl:(ws.map u16v).length=n:=by rw [List.length_map];exact HWL.out
   have hst:=zl9 (u16v 0) (ws.map u16v) k i (by rw [hWl];exact hin) (by rw [hWl];exact hk1)
   have hfl:=ziH (u16v 0) (ws.map u16v) k i (by omega)
   have hfl2:=ziH (u16v 0) (ws.map u16v) k (i+1) (by omega)
   have hcl:(((ws.map u16v).drop (16*i)).take 16).length=min 16 (n - 16*i):=by rw [List.length_take,List.length_drop,hWl]
   have hsrc:∀ j v,(((ws.map u16v).drop (16*i)).take 16)[j]? = some v→wr.cell? ((ad.add (i*16)).add j)=some v:=by
    intro j v hj
    rw [zeP,Nat.mul_comm]
    refine hcell _ v ?_
    rw [List.getElem?_take] at hj
    split at hj
    ·rw [List.getElem?_drop] at hj;exact hj
    ·cases hj
   have hone:∀ v ∈ ((ws.map u16v).drop (16*i)).take 16,v.oneCell'=true:=fun v hv=>zpM ws v (List.mem_of_mem_drop (List.mem_of_mem_take hv))
   generalize zeZ (u16v 0) (ws.map u16v) k i=F0 at *
   generalize hF1:zeZ (u16v 0) (ws.map u16v) k (i+1)=F1 at *
   have HE1:=Lib.hid hF1
   clear hF1
   generalize ((ws.map u16v).drop (16*i)).take 16=cs at *
   rw [Nat.mul_comm 16 i] at hst
   have HST:=Lib.hid hst
   have HF0:=Lib.hid hfl
   have HF1:=Lib.hid hfl2
   have HCL:=Lib.hid hcl
   have HSRC:=Lib.hid hsrc
   have HBLK:=Lib.hid hblk
   have HN:Hid (cs.length=Nat.min (n - i*16) 16):=by
    unfold Hid
    rw [hcl,Nat.mul_comm 16 i]
    exact Nat.min_comm _ _
   have HFIT:Hid (i*16+cs.length≤F0.length):=by
    unfold Hid
    rw [hcl,hfl]
    omega
   have info63:(Tryz.prog.info? 111).map (·.size)=some 1:=by kernel_rfl
   clear hst hfl hfl2 hcl hsrc hblk hcell hWl hown
   go_wp2
   go_still_tail 8,(by kernel_rfl)
   change wpList _ _ _ _ _ wr.drew
   refine wpList_copy_splice rfl (.tmp 24) (.tmp 28) 101 101 rfl 111 Tryz.underlying101 info63 (some ⟨w.heap.size,i*16,none⟩) (some (ad.add (i*16))) 16 16 (n - i*16) (c - i*16) rfl rfl w.heap.size (i*16) F0 112 HBLK.out cs HN.out (fun _=>⟨rfl,_,rfl,HSRC.out⟩) HFIT.out hone w.heap.size w hbel.drew (Nat.le_refl _) ?_
   intro w4 hg4 hb4
   rw [HST.out] at hg4
   go_wp2
   go_roundg (k - (i+1))
   case measure=>omega
   case rel=>exact ⟨i+1,by omega,by go_num,Nat.le_refl _,by rw [HE1.out];exact zb1 hg4.out (Nat.le_refl _) (by unfold maxLen;omega) (by rw [HF1.out,Nat.mul_comm]),hb4⟩
  ·obtain rfl:i=k:=by omega
   rw [zn5 _ _ _ (by rw [List.length_map,HWL.out];exact hk1),List.length_map,HWL.out] at hown
   go_wp2
   go_ret2
   exact ⟨_,rfl,hown,hbel⟩
end Go.Proofs.YtmkihdjolnlccaaGreatDoor
