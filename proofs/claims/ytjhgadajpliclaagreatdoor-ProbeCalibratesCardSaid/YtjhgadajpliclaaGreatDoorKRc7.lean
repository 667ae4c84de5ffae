/- The law of calibrations: the guards, and the case behind them. -/
import Derived.Test.YtjhgadajpliclaaGreatDoorKRc6
import Derived.Test.YtjhgadajpliclaaGreatDoorKRc1
import Derived.Laws.StructEq
namespace Go.Proofs.YtjhgadajpliclaaGreatDoor
open Go.RowKit Bn
open Flt
theorem CBlk.far5 {w:World} {g g':Nat} {c:Array Value} {t:TypeId} (h:CBlk w g c t) (hne:g'≠g) (u v x y z:Value):CBlk (((((w.setCell ⟨g',0,none⟩ u).setCell ⟨g',1,none⟩ v).setCell ⟨g',2,none⟩ x).setCell ⟨g',3,none⟩ y).setCell ⟨g',4,none⟩ z) g c t:=
 (Below.heap_setCell _ ⟨g',4,none⟩ z g (fun e=>hne e.symm)).trans ((Below.heap_setCell _ ⟨g',3,none⟩ y g (fun e=>hne e.symm)).trans (h.far3 hne u v x))
theorem CBlk.set5 {w:World} {g:Nat} {a b c d e:Value} {t:TypeId} (h:CBlk w g #[a,b,c,d,e] t) (u v x y z:Value):CBlk (((((w.setCell ⟨g,0,none⟩ u).setCell ⟨g,1,none⟩ v).setCell ⟨g,2,none⟩ x).setCell ⟨g,3,none⟩ y).setCell ⟨g,4,none⟩ z) g #[u,v,x,y,z] t:=
 heap_setCell_same _ g 4 #[u,v,x,y,e] t z (heap_setCell_same _ g 3 #[u,v,x,d,e] t y (heap_setCell_same _ g 2 #[u,v,c,d,e] t x (heap_setCell_same _ g 1 #[u,b,c,d,e] t v (heap_setCell_same w g 0 #[a,b,c,d,e] t u h))))
set_option maxHeartbeats 4000000 in
set_option maxRecDepth 100000 in
theorem cal_turned (a st z c1 c2:Int) (g o v1 v2:ByteArray) (w:World) (KV:AwakeK) (hT:Tabs w) (hs:¬ ((g.size≤60∧o.size≤60)∧v1.size≤60∧v2.size≤60)) :
  Calls Tryz.prog 5 #[.agg #[.int .i64 a,.int .i64 st,.int .i64 z,.string g,.string o],.agg #[.int .i64 c1,.string v1],.agg #[.int .i64 c2,.string v2]] w fun e w'=>e = .returned (.bool true)∧Below w.heap.size w w':=by
 have hb1:Below w.heap.size w (((w.alloc (.cells #[.int .i64 a,.int .i64 st,.int .i64 z,.string g,.string o] 24)).alloc (.cells #[.int .i64 c1,.string v1] 52)).alloc (.cells #[.int .i64 c2,.string v2] 52)):=(((Below.refl _ _).alloc (Nat.le_refl _) _).alloc (by simp) _).alloc (by simp;omega) _
 have a1:CBlk (((w.alloc (.cells #[.int .i64 a,.int .i64 st,.int .i64 z,.string g,.string o] 24)).alloc (.cells #[.int .i64 c1,.string v1] 52)).alloc (.cells #[.int .i64 c2,.string v2] 52)) (w.heap.size) #[.int .i64 a,.int .i64 st,.int .i64 z,.string g,.string o] 24:=((CBlk.new w _ _ _ rfl).alloc _).alloc _
 have m1:CBlk (((w.alloc (.cells #[.int .i64 a,.int .i64 st,.int .i64 z,.string g,.string o] 24)).alloc (.cells #[.int .i64 c1,.string v1] 52)).alloc (.cells #[.int .i64 c2,.string v2] 52)) (w.heap.size+1) #[.int .i64 c1,.string v1] 52:=(CBlk.new _ _ _ _ (by simp)).alloc _
 have k1:CBlk (((w.alloc (.cells #[.int .i64 a,.int .i64 st,.int .i64 z,.string g,.string o] 24)).alloc (.cells #[.int .i64 c1,.string v1] 52)).alloc (.cells #[.int .i64 c2,.string v2] 52)) (w.heap.size+1+1) #[.int .i64 c2,.string v2] 52:=CBlk.new _ _ _ _ (by simp)
 have hT1:=hT.later hb1
 have hcase:¬ (g.size≤60∧o.size≤60)∨((g.size≤60∧o.size≤60)∧decide (60<(v1.size:Int))=true)∨((g.size≤60∧o.size≤60)∧decide (60<(v1.size:Int))=false∧decide (60<(v2.size:Int))=true):=by
  by_cases h1:g.size≤60∧o.size≤60
  ·by_cases h2:v1.size≤60
   ·by_cases h3:v2.size≤60
    ·exact absurd ⟨h1,h2,h3⟩ hs
    ·exact .inr (.inr ⟨h1,decide_eq_false (by omega),decide_eq_true (by omega)⟩)
   ·exact .inr (.inl ⟨h1,decide_eq_true (by omega)⟩)
  ·exact .inl h1
 have HK:=Lib.hid KV
 clear KV hs
 rcases hcase with h1 | ⟨h1,d1⟩ | ⟨h1,d1,d2⟩
 ·have HS:=Lib.hid (fun W=>rShort_any a st z g o false W (decide_eq_false h1))
  clear h1
  have x0:=a1.cell 0
  have x1:=a1.cell 1
  have x2:=a1.cell 2
  have x3:=a1.cell 3
  have x4:=a1.cell 4
  have y0:=m1.cell 0
  have y1:=m1.cell 1
  have z0:=k1.cell 0
  have z1:=k1.cell 1
  go_enter Tryz.func5,Tryz.ntmps5
  go_wp2_with fail
  generalize (((w.alloc (.cells #[.int .i64 a,.int .i64 st,.int .i64 z,.string g,.string o] 24)).alloc (.cells #[.int .i64 c1,.string v1] 52)).alloc (.cells #[.int .i64 c2,.string v2] 52))=w1 at *
  refine (HS.out w1).mono ?_
  rintro e w2 ⟨rfl,hb2⟩
  have m2:=m1.below hb2 m1.lt
  have k2:=k1.below hb2 k1.lt
  have hT2:=hT1.later hb2
  have hB2:=hb1.trans (hb2.mono hb1.size)
  clear x0 x1 x2 x3 x4 y0 y1 z0 z1
  have y1:=m2.cell 1
  have z1:=k2.cell 1
  go_wp2_with fail
  refine (HK.out w2 hT2).mono ?_
  rintro e w3 ⟨rfl,hb3⟩
  go_wp2_with fail
  go_ret
  exact ⟨rfl,hB2.trans (hb3.mono hB2.size)⟩
 ·have HS:=Lib.hid (fun W=>rShort_any a st z g o true W (decide_eq_true h1))
  clear h1
  have x0:=a1.cell 0
  have x1:=a1.cell 1
  have x2:=a1.cell 2
  have x3:=a1.cell 3
  have x4:=a1.cell 4
  have y0:=m1.cell 0
  have y1:=m1.cell 1
  have z0:=k1.cell 0
  have z1:=k1.cell 1
  go_enter Tryz.func5,Tryz.ntmps5
  go_wp2_with fail
  generalize (((w.alloc (.cells #[.int .i64 a,.int .i64 st,.int .i64 z,.string g,.string o] 24)).alloc (.cells #[.int .i64 c1,.string v1] 52)).alloc (.cells #[.int .i64 c2,.string v2] 52))=w1 at *
  refine (HS.out w1).mono ?_
  rintro e w2 ⟨rfl,hb2⟩
  have m2:=m1.below hb2 m1.lt
  have k2:=k1.below hb2 k1.lt
  have hT2:=hT1.later hb2
  have hB2:=hb1.trans (hb2.mono hb1.size)
  clear x0 x1 x2 x3 x4 y0 y1 z0 z1
  have y1:=m2.cell 1
  have z1:=k2.cell 1
  go_wp2_with fail
  refine (HK.out w2 hT2).mono ?_
  rintro e w3 ⟨rfl,hb3⟩
  go_wp2_with fail
  go_ret
  exact ⟨rfl,hB2.trans (hb3.mono hB2.size)⟩
 ·have HS:=Lib.hid (fun W=>rShort_any a st z g o true W (decide_eq_true h1))
  clear h1
  have x0:=a1.cell 0
  have x1:=a1.cell 1
  have x2:=a1.cell 2
  have x3:=a1.cell 3
  have x4:=a1.cell 4
  have y0:=m1.cell 0
  have y1:=m1.cell 1
  have z0:=k1.cell 0
  have z1:=k1.cell 1
  go_enter Tryz.func5,Tryz.ntmps5
  go_wp2_with fail
  generalize (((w.alloc (.cells #[.int .i64 a,.int .i64 st,.int .i64 z,.string g,.string o] 24)).alloc (.cells #[.int .i64 c1,.string v1] 52)).alloc (.cells #[.int .i64 c2,.string v2] 52))=w1 at *
  refine (HS.out w1).mono ?_
  rintro e w2 ⟨rfl,hb2⟩
  have m2:=m1.below hb2 m1.lt
  have k2:=k1.below hb2 k1.lt
  have hT2:=hT1.later hb2
  have hB2:=hb1.trans (hb2.mono hb1.size)
  clear x0 x1 x2 x3 x4 y0 y1 z0 z1
  have y1:=m2.cell 1
  have z1:=k2.cell 1
  go_wp2_with fail
  refine (HK.out w2 hT2).mono ?_
  rintro e w3 ⟨rfl,hb3⟩
  go_wp2_with fail
  go_ret
  exact ⟨rfl,hB2.trans (hb3.mono hB2.size)⟩
def CalCode (a st z c1 c2:Int) (g o v1 v2:ByteArray) (xa xs xz:Int) (xg xo:ByteArray) (E:Int):Prop:=
 ∀ W,Tabs W→Calls Tryz.prog 23 #[.agg #[.int .i64 a,.int .i64 st,.int .i64 z,.string g,.string o],.agg #[.int .i64 c1,.string v1],.agg #[.int .i64 c2,.string v2]] W fun e w'=>e = .returned (.tuple #[.agg #[.int .i64 xa,.int .i64 xs,.int .i64 xz,.string xg,.string xo],.int .i64 E])∧Below W.heap.size W w'
def CalRef (a st z c1 c2:Int) (g o v1 v2:ByteArray) (xa xs xz:Int) (xg xo:ByteArray) (E:Int):Prop:=
 ∀ W,Calls Tryz.prog 24 #[.agg #[.int .i64 a,.int .i64 st,.int .i64 z,.string g,.string o],.agg #[.int .i64 c1,.string v1],.agg #[.int .i64 c2,.string v2]] W fun e w'=>e = .returned (.tuple #[.agg #[.int .i64 xa,.int .i64 xs,.int .i64 xz,.string xg,.string xo],.int .i64 E])∧Below W.heap.size W w'
def AdcSays (a st z:Int) (g o:ByteArray) (E:Int):Prop:=∀ W,Calls Tryz.prog 11 #[.agg #[.int .i64 a,.int .i64 st,.int .i64 z,.string g,.string o]] W fun e w'=>e = .returned (.int .i64 E)∧Below W.heap.size W w'
set_option maxHeartbeats 8000000 in
set_option maxRecDepth 100000 in
theorem cal_main (a st z c1 c2 E xa xs xz:Int) (g o v1 v2 xg xo:ByteArray) (w:World) (KV:AwakeK) (hT:Tabs w) (hs:g.size≤60∧o.size≤60) (hv1:v1.size≤60) (hv2:v2.size≤60)
  (hX:CalCode a st z c1 c2 g o v1 v2 xa xs xz xg xo E)
  (hR:(E≠0∧xa=0∧xs=0∧xz=0∧xg={ data:=#[] }∧xo={ data:=#[] }∧AdcSays a st z g o E)∨(AdcSays a st z g o 0∧CalRef a st z c1 c2 g o v1 v2 xa xs xz xg xo E)) :
  Calls Tryz.prog 5 #[.agg #[.int .i64 a,.int .i64 st,.int .i64 z,.string g,.string o],.agg #[.int .i64 c1,.string v1],.agg #[.int .i64 c2,.string v2]] w fun e w'=>e = .returned (.bool true)∧Below w.heap.size w w':=by
 have hb1:Below w.heap.size w (((w.alloc (.cells #[.int .i64 a,.int .i64 st,.int .i64 z,.string g,.string o] 24)).alloc (.cells #[.int .i64 c1,.string v1] 52)).alloc (.cells #[.int .i64 c2,.string v2] 52)):=(((Below.refl _ _).alloc (Nat.le_refl _) _).alloc (by simp) _).alloc (by simp;omega) _
 have a1:CBlk (((w.alloc (.cells #[.int .i64 a,.int .i64 st,.int .i64 z,.string g,.string o] 24)).alloc (.cells #[.int .i64 c1,.string v1] 52)).alloc (.cells #[.int .i64 c2,.string v2] 52)) (w.heap.size) #[.int .i64 a,.int .i64 st,.int .i64 z,.string g,.string o] 24:=((CBlk.new w _ _ _ rfl).alloc _).alloc _
 have m1:CBlk (((w.alloc (.cells #[.int .i64 a,.int .i64 st,.int .i64 z,.string g,.string o] 24)).alloc (.cells #[.int .i64 c1,.string v1] 52)).alloc (.cells #[.int .i64 c2,.string v2] 52)) (w.heap.size+1) #[.int .i64 c1,.string v1] 52:=(CBlk.new _ _ _ _ (by simp)).alloc _
 have k1:CBlk (((w.alloc (.cells #[.int .i64 a,.int .i64 st,.int .i64 z,.string g,.string o] 24)).alloc (.cells #[.int .i64 c1,.string v1] 52)).alloc (.cells #[.int .i64 c2,.string v2] 52)) (w.heap.size+1+1) #[.int .i64 c2,.string v2] 52:=CBlk.new _ _ _ _ (by simp)
 have hT1:=hT.later hb1
 have d1:decide (60<(v1.size:Int))=false:=decide_eq_false (by omega)
 have d2:decide (60<(v2.size:Int))=false:=decide_eq_false (by omega)
 have HS:=Lib.hid (fun W=>rShort_any a st z g o true W (decide_eq_true hs))
 have HK:=Lib.hid KV
 have HX:=Lib.hid hX
 clear KV hs hv1 hv2 hX
 rcases hR with ⟨h0,rfl,rfl,rfl,rfl,rfl,hA⟩ | ⟨hA,hC⟩
 ·have d3:(E==0)=false:=beq_eq_false_iff_ne.2 h0
  have HA:=Lib.hid hA
  clear h0 hA
  have x0:=a1.cell 0
  have x1:=a1.cell 1
  have x2:=a1.cell 2
  have x3:=a1.cell 3
  have x4:=a1.cell 4
  have y0:=m1.cell 0
  have y1:=m1.cell 1
  have z0:=k1.cell 0
  have z1:=k1.cell 1
  go_enter Tryz.func5,Tryz.ntmps5
  go_wp2_with fail
  generalize (((w.alloc (.cells #[.int .i64 a,.int .i64 st,.int .i64 z,.string g,.string o] 24)).alloc (.cells #[.int .i64 c1,.string v1] 52)).alloc (.cells #[.int .i64 c2,.string v2] 52))=w1 at *
  refine (HS.out w1).mono ?_
  rintro e w2 ⟨rfl,hb2⟩
  have a2:=a1.below hb2 a1.lt
  have m2:=m1.below hb2 m1.lt
  have k2:=k1.below hb2 k1.lt
  have hT2:=hT1.later hb2
  have hB2:=hb1.trans (hb2.mono hb1.size)
  clear x0 x1 x2 x3 x4 y0 y1 z0 z1 hb2 hT1
  have x0:=a2.cell 0
  have x1:=a2.cell 1
  have x2:=a2.cell 2
  have x3:=a2.cell 3
  have x4:=a2.cell 4
  have y0:=m2.cell 0
  have y1:=m2.cell 1
  have z0:=k2.cell 0
  have z1:=k2.cell 1
  go_wp2_with fail
  refine (HX.out w2 hT2).mono ?_
  rintro e w3 ⟨rfl,hb3⟩
  have hb4:Below w3.heap.size w3 (w3.alloc (.cells #[.int .i64 0,.int .i64 0,.int .i64 0,.string { data:=#[] },.string { data:=#[] }] 32)):=(Below.refl _ _).alloc (Nat.le_refl _) _
  have p4:CBlk (w3.alloc (.cells #[.int .i64 0,.int .i64 0,.int .i64 0,.string { data:=#[] },.string { data:=#[] }] 32)) w3.heap.size #[.int .i64 0,.int .i64 0,.int .i64 0,.string { data:=#[] },.string { data:=#[] }] 32:=CBlk.new _ _ _ _ rfl
  have hb34:=hb3.trans (hb4.mono hb3.size)
  have a4:=a2.below hb34 a2.lt
  have m4:=m2.below hb34 m2.lt
  have k4:=k2.below hb34 k2.lt
  have hB4:=hB2.trans (hb34.mono hB2.size)
  clear x0 x1 x2 x3 x4 y0 y1 z0 z1 hb3 hb4 hb34 hT2 hB2 a2 m2 k2
  have x0:=a4.cell 0
  have x1:=a4.cell 1
  have x2:=a4.cell 2
  have x3:=a4.cell 3
  have x4:=a4.cell 4
  have y0:=m4.cell 0
  have y1:=m4.cell 1
  have z0:=k4.cell 0
  have z1:=k4.cell 1
  go_wp2_with fail
  generalize w3.heap.size=j at *
  generalize w3.alloc (.cells #[.int .i64 0,.int .i64 0,.int .i64 0,.string { data:=#[] },.string { data:=#[] }] 32)=w4 at *
  refine (HA.out w4).mono ?_
  rintro e w5 ⟨rfl,hb5⟩
  have hb6:Below w5.heap.size w5 (w5.alloc (.cells #[.int .i64 0,.int .i64 0,.int .i64 0,.string { data:=#[] },.string { data:=#[] }] 24)):=(Below.refl _ _).alloc (Nat.le_refl _) _
  have t6:CBlk (w5.alloc (.cells #[.int .i64 0,.int .i64 0,.int .i64 0,.string { data:=#[] },.string { data:=#[] }] 24)) w5.heap.size #[.int .i64 0,.int .i64 0,.int .i64 0,.string { data:=#[] },.string { data:=#[] }] 24:=CBlk.new _ _ _ _ rfl
  have hb56:=hb5.trans (hb6.mono hb5.size)
  have a6:=a4.below hb56 a4.lt
  have m6:=m4.below hb56 m4.lt
  have k6:=k4.below hb56 k4.lt
  have p6:=p4.below hb56 p4.lt
  have hB6:=hB4.trans (hb56.mono hB4.size)
  clear x0 x1 x2 x3 x4 y0 y1 z0 z1 hb5 hb6 hb56 hB4 a4 m4 k4 p4
  have x0:=a6.cell 0
  have x1:=a6.cell 1
  have x2:=a6.cell 2
  have x3:=a6.cell 3
  have x4:=a6.cell 4
  have y0:=m6.cell 0
  have y1:=m6.cell 1
  have z0:=k6.cell 0
  have z1:=k6.cell 1
  have p0:=p6.cell 0
  have p1:=p6.cell 1
  have p2:=p6.cell 2
  have p3:=p6.cell 3
  have p4:=p6.cell 4
  have t0:=t6.cell 0
  have t1:=t6.cell 1
  have t2:=t6.cell 2
  have t3:=t6.cell 3
  have t4:=t6.cell 4
  have g0:=t6.frozen 0
  have g1:=t6.frozen 1
  have g2:=t6.frozen 2
  have g3:=t6.frozen 3
  have g4:=t6.frozen 4
  go_wp2_with fail
  have hT6:=hT.later hB6
  generalize w5.heap.size=i at *
  generalize w5.alloc (.cells #[.int .i64 0,.int .i64 0,.int .i64 0,.string { data:=#[] },.string { data:=#[] }] 24)=w6 at *
  refine (HK.out w6 hT6).mono ?_
  rintro e w7 ⟨rfl,hb7⟩
  go_wp2_with fail
  go_ret
  exact ⟨rfl,hB6.trans (hb7.mono hB6.size)⟩
 ·have HA:=Lib.hid hA
  have HC:=Lib.hid hC
  clear hA hC
  have x0:=a1.cell 0
  have x1:=a1.cell 1
  have x2:=a1.cell 2
  have x3:=a1.cell 3
  have x4:=a1.cell 4
  have y0:=m1.cell 0
  have y1:=m1.cell 1
  have z0:=k1.cell 0
  have z1:=k1.cell 1
  go_enter Tryz.func5,Tryz.ntmps5
  go_wp2_with fail
  generalize (((w.alloc (.cells #[.int .i64 a,.int .i64 st,.int .i64 z,.string g,.string o] 24)).alloc (.cells #[.int .i64 c1,.string v1] 52)).alloc (.cells #[.int .i64 c2,.string v2] 52))=w1 at *
  refine (HS.out w1).mono ?_
  rintro e w2 ⟨rfl,hb2⟩
  have a2:=a1.below hb2 a1.lt
  have m2:=m1.below hb2 m1.lt
  have k2:=k1.below hb2 k1.lt
  have hT2:=hT1.later hb2
  have hB2:=hb1.trans (hb2.mono hb1.size)
  clear x0 x1 x2 x3 x4 y0 y1 z0 z1 hb2 hT1
  have x0:=a2.cell 0
  have x1:=a2.cell 1
  have x2:=a2.cell 2
  have x3:=a2.cell 3
  have x4:=a2.cell 4
  have y0:=m2.cell 0
  have y1:=m2.cell 1
  have z0:=k2.cell 0
  have z1:=k2.cell 1
  go_wp2_with fail
  refine (HX.out w2 hT2).mono ?_
  rintro e w3 ⟨rfl,hb3⟩
  have hb4:Below w3.heap.size w3 (w3.alloc (.cells #[.int .i64 xa,.int .i64 xs,.int .i64 xz,.string xg,.string xo] 32)):=(Below.refl _ _).alloc (Nat.le_refl _) _
  have p4:CBlk (w3.alloc (.cells #[.int .i64 xa,.int .i64 xs,.int .i64 xz,.string xg,.string xo] 32)) w3.heap.size #[.int .i64 xa,.int .i64 xs,.int .i64 xz,.string xg,.string xo] 32:=CBlk.new _ _ _ _ rfl
  have hb34:=hb3.trans (hb4.mono hb3.size)
  have a4:=a2.below hb34 a2.lt
  have m4:=m2.below hb34 m2.lt
  have k4:=k2.below hb34 k2.lt
  have hB4:=hB2.trans (hb34.mono hB2.size)
  clear x0 x1 x2 x3 x4 y0 y1 z0 z1 hb3 hb4 hb34 hT2 hB2 a2 m2 k2
  have x0:=a4.cell 0
  have x1:=a4.cell 1
  have x2:=a4.cell 2
  have x3:=a4.cell 3
  have x4:=a4.cell 4
  have y0:=m4.cell 0
  have y1:=m4.cell 1
  have z0:=k4.cell 0
  have z1:=k4.cell 1
  go_wp2_with fail
  generalize w3.heap.size=j at *
  generalize w3.alloc (.cells #[.int .i64 xa,.int .i64 xs,.int .i64 xz,.string xg,.string xo] 32)=w4 at *
  refine (HA.out w4).mono ?_
  rintro e w5 ⟨rfl,hb5⟩
  have p5lt:=(p4.below hb5 p4.lt).lt
  have hb6:Below w5.heap.size w5 (w5.alloc (.cells #[.int .i64 0,.int .i64 0,.int .i64 0,.string { data:=#[] },.string { data:=#[] }] 24)):=(Below.refl _ _).alloc (Nat.le_refl _) _
  have t6:CBlk (w5.alloc (.cells #[.int .i64 0,.int .i64 0,.int .i64 0,.string { data:=#[] },.string { data:=#[] }] 24)) w5.heap.size #[.int .i64 0,.int .i64 0,.int .i64 0,.string { data:=#[] },.string { data:=#[] }] 24:=CBlk.new _ _ _ _ rfl
  have hb56:=hb5.trans (hb6.mono hb5.size)
  have a6:=a4.below hb56 a4.lt
  have m6:=m4.below hb56 m4.lt
  have k6:=k4.below hb56 k4.lt
  have p6:=p4.below hb56 p4.lt
  have hB6:=hB4.trans (hb56.mono hB4.size)
  have hji:j<w5.heap.size:=p5lt
  have hwi:w.heap.size≤w5.heap.size:=Nat.le_trans hB4.size hb5.size
  clear x0 x1 x2 x3 x4 y0 y1 z0 z1 hb5 hb6 hb56 hB4 a4 m4 k4 p4
  have x0:=a6.cell 0
  have x1:=a6.cell 1
  have x2:=a6.cell 2
  have x3:=a6.cell 3
  have x4:=a6.cell 4
  have y0:=m6.cell 0
  have y1:=m6.cell 1
  have z0:=k6.cell 0
  have z1:=k6.cell 1
  have p0:=p6.cell 0
  have p1:=p6.cell 1
  have p2:=p6.cell 2
  have p3:=p6.cell 3
  have p4:=p6.cell 4
  have t0:=t6.cell 0
  have t1:=t6.cell 1
  have t2:=t6.cell 2
  have t3:=t6.cell 3
  have t4:=t6.cell 4
  have g0:=t6.frozen 0
  have g1:=t6.frozen 1
  have g2:=t6.frozen 2
  have g3:=t6.frozen 3
  have g4:=t6.frozen 4
  go_wp2_with fail
  generalize w5.heap.size=i at *
  generalize w5.alloc (.cells #[.int .i64 0,.int .i64 0,.int .i64 0,.string { data:=#[] },.string { data:=#[] }] 24)=w6 at *
  refine (HC.out w6).mono ?_
  rintro e w7 ⟨rfl,hb7⟩
  have p7:=p6.below hb7 p6.lt
  have t7':=t6.below hb7 t6.lt
  have hB7:=hB6.trans (hb7.mono hB6.size)
  have p8:CBlk (((((w7.setCell ⟨i,0,none⟩ (.int .i64 xa)).setCell ⟨i,1,none⟩ (.int .i64 xs)).setCell ⟨i,2,none⟩ (.int .i64 xz)).setCell ⟨i,3,none⟩ (.string xg)).setCell ⟨i,4,none⟩ (.string xo)) j #[.int .i64 xa,.int .i64 xs,.int .i64 xz,.string xg,.string xo] 32:=p7.far5 (by omega) _ _ _ _ _
  have t8:CBlk (((((w7.setCell ⟨i,0,none⟩ (.int .i64 xa)).setCell ⟨i,1,none⟩ (.int .i64 xs)).setCell ⟨i,2,none⟩ (.int .i64 xz)).setCell ⟨i,3,none⟩ (.string xg)).setCell ⟨i,4,none⟩ (.string xo)) i #[.int .i64 xa,.int .i64 xs,.int .i64 xz,.string xg,.string xo] 24:=t7'.set5 _ _ _ _ _
  have hB8:Below w.heap.size w (((((w7.setCell ⟨i,0,none⟩ (.int .i64 xa)).setCell ⟨i,1,none⟩ (.int .i64 xs)).setCell ⟨i,2,none⟩ (.int .i64 xz)).setCell ⟨i,3,none⟩ (.string xg)).setCell ⟨i,4,none⟩ (.string xo)):=five_set hB7 hwi _ _ _ _ _
  have hT8:=hT.later hB8
  clear x0 x1 x2 x3 x4 y0 y1 z0 z1 p0 p1 p2 p3 p4 t0 t1 t2 t3 t4 g0 g1 g2 g3 g4 a6 m6 k6 p6 t6 hb7
  have g0:=t7'.frozen 0
  have g1:=t7'.frozen 1
  have g2:=t7'.frozen 2
  have g3:=t7'.frozen 3
  have g4:=t7'.frozen 4
  have t0:=t7'.cell 0
  have t1:=t7'.cell 1
  have t2:=t7'.cell 2
  have t3:=t7'.cell 3
  have t4:=t7'.cell 4
  have HP8:=Lib.hid p8
  have HT8:=Lib.hid t8
  have HTB:=Lib.hid hT8
  have HB8:=Lib.hid hB8
  clear p8 t8 hT8 hB8 hB7 p7 hB6
  go_upto_region 8 with (fail)
  generalize (((((w7.setCell ⟨i,0,none⟩ (.int .i64 xa)).setCell ⟨i,1,none⟩ (.int .i64 xs)).setCell ⟨i,2,none⟩ (.int .i64 xz)).setCell ⟨i,3,none⟩ (.string xg)).setCell ⟨i,4,none⟩ (.string xo))=w8 at *
  have p8:=HP8.out
  have t8:=HT8.out
  clear t0 t1 t2 t3 t4 g0 g1 g2 g3 g4 HP8 HT8 t7'
  have p0:=p8.cell 0
  have p1:=p8.cell 1
  have p2:=p8.cell 2
  have p3:=p8.cell 3
  have p4:=p8.cell 4
  have t0:=t8.cell 0
  have t1:=t8.cell 1
  have t2:=t8.cell 2
  have t3:=t8.cell 3
  have t4:=t8.cell 4
  clear p8 t8
  go_wp2_with fail
  refine (HK.out _ HTB.out).mono ?_
  rintro e w9 ⟨rfl,hb9⟩
  go_wp2_with fail
  go_ret
  exact ⟨rfl,HB8.out.trans (hb9.mono HB8.out.size)⟩
end Go.Proofs.YtjhgadajpliclaaGreatDoor
