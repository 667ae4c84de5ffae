/- The law of floats: helpers and guards. -/
import Derived.Test.YteajibbphcfmeaaGreatDoorTTf2
import Derived.Test.YteajibbphcfmeaaGreatDoorTCo9
namespace Go.Proofs.YteajibbphcfmeaaGreatDoor
open Go.RowKit Bn
open Flt
theorem numQ_one {s t:ByteArray} {p:Q} (h:NumQ s p) (h':NumQ t p):t=s:=by
 obtain ⟨⟨x⟩⟩:=s
 obtain ⟨⟨y⟩⟩:=t
 have e:x=y:=h.1.trans h'.1.symm
 rw [e]
def IsText (v:Value) (q:Q):Prop:=∃ s:ByteArray,v = .string s∧NumQ s q
def IsSure (v:Value) (P:Prop):Prop:=∃ b:Bool,v = .bool b∧(b=true→P)
theorem tops_core {Y Z:Int} {T:Nat} (h2:Y.natAbs<T) (h3:Z.natAbs<T):min Y.natAbs Z.natAbs<T*8∧max Y.natAbs Z.natAbs<T*8∧(2*((min Y.natAbs Z.natAbs:Nat):Int)).natAbs<T*8∧(2*Y).natAbs<T*8:=by omega
theorem nFloat_own (s:ByteArray) (q:Q) (W:World) (hT:Tabs W) (h:NumQ s q) (hs:Small q 100) (hx:flX q=0) :
  Calls Tryz.prog 39 #[.string s] W fun e w'=>e = .returned (.tuple #[.float .f32 (flW q),.int .i64 0])∧Below W.heap.size W w':=by
 obtain ⟨h1,h2⟩:=read_numK h hs (by omega) (by omega)
 have hz:=h.size hs (by omega)
 have h9:=Float_any s W hT (by omega)
 rw [h1,h2,if_neg (by omega),if_neg (by omega),hx] at h9
 exact h9
theorem rAbs_unit (s:ByteArray) (V:Int) (W:World) (h:NumQ s (unitQ V)) (hV:V.natAbs<topU*8):Calls Tryz.prog 42 #[.string s] W (RetS W (unitQ (V.natAbs:Int))):=by
 have hz:=h.size (unit_smallV hV) (by omega)
 have h9:=rAbs_q s (unitQ V) W h (by omega)
 rwa [unit_abs] at h9
theorem rMin_unit (s t:ByteArray) (A B:Nat) (W:World) (h:NumQ s (unitQ (A:Int))) (h':NumQ t (unitQ (B:Int))) (hA:A<topU*8) (hB:B<topU*8):Calls Tryz.prog 44 #[.string s,.string t] W (RetS W (unitQ ((min A B:Nat):Int))):=by
 have hz:=h.size (unit_smallV (by omega)) (by omega)
 have hz':=h'.size (unit_smallV (by omega)) (by omega)
 have h9:=rMin_q s t _ _ W h h' (by omega) (by omega)
 rwa [unit_min] at h9
theorem rMax_unit (s t:ByteArray) (A B:Nat) (W:World) (h:NumQ s (unitQ (A:Int))) (h':NumQ t (unitQ (B:Int))) (hA:A<topU*8) (hB:B<topU*8):Calls Tryz.prog 45 #[.string s,.string t] W (RetS W (unitQ ((max A B:Nat):Int))):=by
 have hz:=h.size (unit_smallV (by omega)) (by omega)
 have hz':=h'.size (unit_smallV (by omega)) (by omega)
 have h9:=rMax_q s t _ _ W h h' (by omega) (by omega)
 rwa [unit_max] at h9
theorem rTwo_unit (s:ByteArray) (V:Int) (W:World) (h:NumQ s (unitQ V)) (hV:V.natAbs<topU*8):Calls Tryz.prog 21 #[.string ⟨#[50]⟩,.string s] W (RetS W (unitQ (2*V))):=by
 have hz:=h.size (unit_smallV hV) (by omega)
 have h9:=rMul_q ⟨#[50]⟩ s _ _ W two_num h (by decide) (by omega)
 rwa [unit_two] at h9
theorem rTwo_unit' (s:ByteArray) (V:Int) (W:World) (h:NumQ s (unitQ V)) (hV:V.natAbs<topU*8):Calls Tryz.prog 21 #[.string s,.string ⟨#[50]⟩] W (RetS W (unitQ (2*V))):=by
 have hz:=h.size (unit_smallV hV) (by omega)
 have h9:=rMul_q s ⟨#[50]⟩ _ _ W h two_num (by omega) (by decide)
 rwa [unit_two'] at h9
theorem rSub_unit (s t:ByteArray) (V U:Int) (W:World) (h:NumQ s (unitQ V)) (h':NumQ t (unitQ U)) (hV:V.natAbs<topU*8) (hU:U.natAbs<topU*8):Calls Tryz.prog 20 #[.string s,.string t] W (RetS W (unitQ (V - U))):=by
 have hz:=h.size (unit_smallV hV) (by omega)
 have hz':=h'.size (unit_smallV hU) (by omega)
 have h9:=rSub_q s t _ _ W h h' (by omega) (by omega)
 rwa [unit_sub] at h9
theorem rSign_unit (s:ByteArray) (V:Int) (W:World) (h:NumQ s (unitQ V)) (hV:V.natAbs<topU*8):Calls Tryz.prog 46 #[.string s] W fun e w'=>e = .returned (.int .i64 V.sign)∧W=w':=by
 have hz:=h.size (unit_smallV hV) (by omega)
 have h9:=rSign_q s _ W h (by omega)
 rwa [unit_sign] at h9
theorem rExact_unit (d:Nat) (V:Int) (W:World) (hf:fin Ieee.single d=true) (hk:key Ieee.single d=V):Calls Tryz.prog 47 #[.float .f32 d] W (RetS W (unitQ V)):=by
 have h9:=rExact_any d W hf
 rwa [hk] at h9
theorem Finite_ok (d:Nat) (W:World) (hf:fin Ieee.single d=true):Calls Tryz.prog 37 #[.float .f32 d] W fun e w'=>e = .returned (.bool true)∧Below W.heap.size W w':=by
 have h9:=Finite_any d W
 rwa [hf] at h9
set_option maxHeartbeats 4000000 in
set_option maxRecDepth 100000 in
theorem floats_turned (a:ByteArray) (f g:Nat) (bA:Bool) (w:World) (hT:Tabs w) (kA:FewKIs 30 a bA) (hs:bA=false∨(bA=true∧fin Ieee.single f=false)∨(bA=true∧fin Ieee.single f=true∧fin Ieee.single g=false)) :
  Calls Tryz.prog 6 #[.string a,.float .f32 f,.float .f32 g] w fun e w'=>e = .returned (.bool true)∧Below w.heap.size w w':=by
 have HBH:=Lib.hid beamHalf_ok
 have HA:=Lib.hid kA
 clear kA
 rcases hs with rfl | ⟨rfl,hf⟩ | ⟨rfl,hf,hg⟩
 ·go_enter Tryz.func6,Tryz.ntmps6
  go_wp2_with fail
  refine (HA.out w).mono ?_
  rintro e w1 ⟨rfl,hb1⟩
  have hB1:=hb1
  go_wp2_with fail
  refine (HBH.out w1 (hT.later hB1)).mono ?_
  rintro e w2 ⟨rfl,hb2⟩
  have hB2:=hB1.trans (hb2.mono hB1.size)
  go_wp2_with fail
  go_ret
  exact ⟨rfl,hB2⟩
 ·have HF:Hid (∀ W,Calls Tryz.prog 37 #[.float .f32 f] W fun e w'=>e = .returned (.bool false)∧Below W.heap.size W w'):=fun W=>by rw [←hf];exact Finite_any f W
  clear hf
  go_enter Tryz.func6,Tryz.ntmps6
  go_wp2_with fail
  refine (HA.out w).mono ?_
  rintro e w1 ⟨rfl,hb1⟩
  have hB1:=hb1
  go_wp2_with fail
  refine (HF.out w1).mono ?_
  rintro e w2 ⟨rfl,hb2⟩
  have hB2:=hB1.trans (hb2.mono hB1.size)
  go_wp2_with fail
  refine (HBH.out w2 (hT.later hB2)).mono ?_
  rintro e w3 ⟨rfl,hb3⟩
  have hB3:=hB2.trans (hb3.mono hB2.size)
  go_wp2_with fail
  go_ret
  exact ⟨rfl,hB3⟩
 ·have HF:Hid (∀ W,Calls Tryz.prog 37 #[.float .f32 f] W fun e w'=>e = .returned (.bool true)∧Below W.heap.size W w'):=fun W=>by rw [←hf];exact Finite_any f W
  clear hf
  have HG:Hid (∀ W,Calls Tryz.prog 37 #[.float .f32 g] W fun e w'=>e = .returned (.bool false)∧Below W.heap.size W w'):=fun W=>by rw [←hg];exact Finite_any g W
  clear hg
  go_enter Tryz.func6,Tryz.ntmps6
  go_wp2_with fail
  refine (HA.out w).mono ?_
  rintro e w1 ⟨rfl,hb1⟩
  have hB1:=hb1
  go_wp2_with fail
  refine (HF.out w1).mono ?_
  rintro e w2 ⟨rfl,hb2⟩
  have hB2:=hB1.trans (hb2.mono hB1.size)
  go_wp2_with fail
  refine (HG.out w2).mono ?_
  rintro e w3 ⟨rfl,hb3⟩
  have hB3:=hB2.trans (hb3.mono hB2.size)
  go_wp2_with fail
  refine (HBH.out w3 (hT.later hB3)).mono ?_
  rintro e w4 ⟨rfl,hb4⟩
  have hB4:=hB3.trans (hb4.mono hB3.size)
  go_wp2_with fail
  go_ret
  exact ⟨rfl,hB4⟩
set_option maxHeartbeats 4000000 in
set_option maxRecDepth 100000 in
theorem floats_large (a:ByteArray) (f g:Nat) (w:World) (hT:Tabs w) (kA:FewKIs 30 a true) (hA:FewK 30 a) (hf:fin Ieee.single f=true) (hg:fin Ieee.single g=true) (hx:flX (readQ a.data.toList)=4) :
  Calls Tryz.prog 6 #[.string a,.float .f32 f,.float .f32 g] w fun e w'=>e = .returned (.bool true)∧Below w.heap.size w w':=by
 have HBH:=Lib.hid beamHalf_ok
 have HA:=Lib.hid kA
 have HF:=Lib.hid (fun W=>Finite_ok f W hf)
 have HG:=Lib.hid (fun W=>Finite_ok g W hg)
 obtain ⟨x,HFL⟩:∃ x:Nat,Hid (∀ W,Tabs W→Calls Tryz.prog 39 #[.string a] W fun e w'=>e = .returned (.tuple #[.float .f32 x,.int .i64 4])∧Below W.heap.size W w'):=⟨flW (readQ a.data.toList),fun W hT=>by
  have h:=Float_any a W hT (by have:=hA.2.2;omega)
  rw [hA.1,if_neg (by omega),if_neg (by omega),hx] at h
  exact h⟩
 clear kA hA hf hg hx
 go_enter Tryz.func6,Tryz.ntmps6
 go_wp2_with fail
 refine (HA.out w).mono ?_
 rintro e w1 ⟨rfl,hb1⟩
 have hB1:=hb1
 go_wp2_with fail
 refine (HF.out w1).mono ?_
 rintro e w2 ⟨rfl,hb2⟩
 have hB2:=hB1.trans (hb2.mono hB1.size)
 go_wp2_with fail
 refine (HG.out w2).mono ?_
 rintro e w3 ⟨rfl,hb3⟩
 have hB3:=hB2.trans (hb3.mono hB2.size)
 go_wp2_with fail
 refine (HFL.out w3 (hT.later hB3)).mono ?_
 rintro e w4 ⟨rfl,hb4⟩
 have hB4:=hB3.trans (hb4.mono hB3.size)
 go_wp2_with fail
 refine (HBH.out w4 (hT.later hB4)).mono ?_
 rintro e w5 ⟨rfl,hb5⟩
 have hB5:=hB4.trans (hb5.mono hB4.size)
 go_wp2_with fail
 go_ret
 exact ⟨rfl,hB5⟩
end Go.Proofs.YteajibbphcfmeaaGreatDoor
