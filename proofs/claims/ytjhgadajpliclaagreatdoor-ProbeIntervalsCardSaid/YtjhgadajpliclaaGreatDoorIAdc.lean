/- Contracts of probe's CheckAdc, checkCode, Code, Volts of a valid converter. -/
import Derived.Test.YtjhgadajpliclaaGreatDoorIFloat
import Derived.Test.YtjhgadajpliclaaGreatDoorICSm
import Derived.Test.YtjhgadajpliclaaGreatDoorIDp
import Derived.Deep.RegionHeld3
namespace Go.Proofs.YtjhgadajpliclaaGreatDoor
open Go.RowKit Bn
open Flt
set_option maxHeartbeats 1000000 in
theorem checkGain_ok (s:ByteArray) (w:World) (hT:Tabs w) (hs:s.size≤4294967296) (h0:readE s.data.toList=0) (h1:rcmp (readQ s.data.toList) (readQ [48])=1) :
  Calls Tryz.prog 48 #[.string s] w fun e w'=>e = .returned (.int .i64 0)∧Below w.heap.size w w':=by
 have e0:readE [48]=0:=by decide +kernel
 have ho:Calls Tryz.prog 106 #[.string s,.string { data:=#[48] }] w fun e w'=>e = .returned (.tuple #[.int .i64 1,.int .i64 0])∧Below w.heap.size w w':=by
  refine (order_any s { data:=#[48] } w hT hs (by decide)).mono ?_
  rintro e w' ⟨rfl,hb⟩
  refine ⟨?_,hb⟩
  have e1:({ data:=#[48] }:ByteArray).data.toList=[48]:=rfl
  rw [e1,h0,e0,h1]
  rfl
 have HO:=Lib.hid ho
 clear ho h1 h0
 go_enter Tryz.func48,Tryz.ntmps48
 go_wp2_with fail
 refine HO.out.mono ?_
 rintro e w1 ⟨rfl,hb1⟩
 go_wp2_with fail
 go_ret
 exact ⟨rfl,hb1⟩
structure Conv (a:Nat) (st z:Int) (g o:ByteArray):Prop where
 bits:8≤a∧a≤12
 step : -20≤st∧st≤4
 zero:0≤z∧z≤((2 ^ a - 1:Nat):Int)
 gsize:g.size≤4294967296
 osize:o.size≤4294967296
 gain:readE g.data.toList=0
 plus:rcmp (readQ g.data.toList) (readQ [48])=1
 offs:readE o.data.toList=0
theorem rangeE_0 (n a b:Int) (h1:a≤n) (h2:n≤b):rangeE n a b=0:=by
 unfold rangeE
 rw [if_neg (by omega)]
set_option maxHeartbeats 2000000 in
set_option maxRecDepth 100000 in
theorem checkAdc_ok (a:Nat) (st z:Int) (g o:ByteArray) (w:World) (hT:Tabs w) (h:Conv a st z g o) :
  Calls Tryz.prog 12 #[.agg #[.int .i64 a,.int .i64 st,.int .i64 z,.string g,.string o]] w fun e w'=>e = .returned (.int .i64 0)∧Below w.heap.size w w':=by
 have hb0:Below w.heap.size w (w.alloc (.cells #[.int .i64 a,.int .i64 st,.int .i64 z,.string g,.string o] 32)).drew:=((Below.refl _ _).alloc (Nat.le_refl _) _).drew
 have q0:CBlk (w.alloc (.cells #[.int .i64 a,.int .i64 st,.int .i64 z,.string g,.string o] 32)).drew w.heap.size #[.int .i64 a,.int .i64 st,.int .i64 z,.string g,.string o] 32:=CBlk.new w _ _ _ rfl
 have x0:=q0.cell 0
 have x1:=q0.cell 1
 have k0:=q0.lt
 have HR1:=Lib.hid (rangeE_0 a 8 12 (by have:=h.bits;omega) (by have:=h.bits;omega))
 have HR2:=Lib.hid (rangeE_0 st (-20) 4 h.step.1 h.step.2)
 have HR3:=Lib.hid (rangeE_0 z 0 ((2 ^ a - 1:Nat):Int) h.zero.1 h.zero.2)
 have HTP:=Lib.hid (fun W=>top_any a st z (.string g) (.string o) W (by have:=h.bits;omega))
 have HG:=Lib.hid (fun W hT=>checkGain_ok g W hT h.gsize h.gain h.plus)
 have HO:=Lib.hid (fun W hT=>check_any o W hT h.osize)
 have HE:=Lib.hid h.offs
 generalize ((2 ^ a - 1:Nat):Int)=T at *
 clear h
 go_enter Tryz.func12,Tryz.ntmps12
 go_wp2_with fail
 generalize w.alloc (.cells #[.int .i64 a,.int .i64 st,.int .i64 z,.string g,.string o] 32)=w1 at *
 go_region_held3 (fun w'=>w'.cell? ⟨w.heap.size,0,none⟩=some (.int .i64 a)∧w'.cell? ⟨w.heap.size,1,none⟩=some (.int .i64 st))
  ((first | exact ⟨x0,x1⟩ | exact ⟨(World.cell?_alloc_lt _ _ _ k0).trans x0,(World.cell?_alloc_lt _ _ _ k0).trans x1⟩))
  (first
   |(go_at_call 47;refine (cinRange_any _ _ _ _).mono ?_;rintro e w4 ⟨he,rfl⟩;(first | rw [HR1.out] at he | rw [HR2.out] at he);subst he)
   |(go_at_call 42;refine (cfirst_two 0 0 w1.drew _ _ rfl).mono ?_;rintro e w6 ⟨rfl,rfl⟩))
 have hb2:Below w1.heap.size w1 (w1.alloc (.cells #[.int .i64 0,.int .i64 0] 29)).drew:=((Below.refl _ _).alloc (Nat.le_refl _) _).drew
 have q1:CBlk w1 w.heap.size #[.int .i64 a,.int .i64 st,.int .i64 z,.string g,.string o] 32:=q0
 have q2:=q1.below hb2 k0
 have hb1:Below w.heap.size w w1:=⟨hb0.os,hb0.tape,hb0.output,hb0.size,hb0.block⟩
 have hB2:Below w.heap.size w (w1.alloc (.cells #[.int .i64 0,.int .i64 0] 29)).drew:=hb1.trans (hb2.mono hb1.size)
 generalize (w1.alloc (.cells #[.int .i64 0,.int .i64 0] 29)).drew=w2 at *
 clear x0 x1
 have x0:=q2.cell 0
 have x1:=q2.cell 1
 have x2:=q2.cell 2
 have x3:=q2.cell 3
 have x4:=q2.cell 4
 have hT2:Tabs w2:=hT.later hB2
 go_wp2_with fail
 go_region_held3 (fun w'=>w'.cell? ⟨w.heap.size,0,none⟩=some (.int .i64 a)∧w'.cell? ⟨w.heap.size,1,none⟩=some (.int .i64 st)∧w'.cell? ⟨w.heap.size,2,none⟩=some (.int .i64 z)∧w'.cell? ⟨w.heap.size,3,none⟩=some (.string g)∧w'.cell? ⟨w.heap.size,4,none⟩=some (.string o))
  ((first | exact ⟨x0,x1,x2,x3,x4⟩ | exact ⟨y0,y1,y2,y3,y4⟩ | exact ⟨z0,z1,z2,z3,z4⟩ | exact ⟨u0,u1,u2,u3,u4⟩ | exact ⟨(World.cell?_alloc_lt _ _ _ k5).trans u0,(World.cell?_alloc_lt _ _ _ k5).trans u1,(World.cell?_alloc_lt _ _ _ k5).trans u2,(World.cell?_alloc_lt _ _ _ k5).trans u3,(World.cell?_alloc_lt _ _ _ k5).trans u4⟩))
  (first
   |(go_at_call 41;refine (HTP.out w2.drew).mono ?_;rintro e w3 ⟨rfl,hb3'⟩;have hb3:Below w2.heap.size w2 w3:=⟨hb3'.os,hb3'.tape,hb3'.output,hb3'.size,hb3'.block⟩;clear hb3';have q3:=q2.below hb3 q2.lt;have y0:=q3.cell 0;have y1:=q3.cell 1;have y2:=q3.cell 2;have y3:=q3.cell 3;have y4:=q3.cell 4;have hT3:=hT2.later hb3)
   |(go_at_call 47;refine (cinRange_any _ _ _ _).mono ?_;rintro e w4 ⟨he,rfl⟩;rw [HR3.out] at he;subst he)
   |(go_at_call 48;refine (HG.out w3 hT3).mono ?_;rintro e w4 ⟨rfl,hb4⟩;have q4:=q3.below hb4 q3.lt;have z0:=q4.cell 0;have z1:=q4.cell 1;have z2:=q4.cell 2;have z3:=q4.cell 3;have z4:=q4.cell 4;have hT4:=hT3.later hb4)
   |(go_at_call 43;refine (HO.out w4 hT4).mono ?_;rintro e w5 ⟨he,hb5⟩;rw [HE.out] at he;subst he;have q5:=q4.below hb5 q4.lt;have u0:=q5.cell 0;have u1:=q5.cell 1;have u2:=q5.cell 2;have u3:=q5.cell 3;have u4:=q5.cell 4;have k5:=q5.lt)
   |(go_at_call 42;refine (cfirst_three w5 _ _ rfl).mono ?_;rintro e w6 ⟨rfl,rfl⟩))
 go_wp2_with fail
 go_ret
 have c3:=hB2.trans (hb3.mono hB2.size)
 have c4:=c3.trans (hb4.mono c3.size)
 have c5:=c4.trans (hb5.mono c4.size)
 exact ⟨rfl,c5.alloc c5.size _⟩
end Go.Proofs.YtjhgadajpliclaaGreatDoor
