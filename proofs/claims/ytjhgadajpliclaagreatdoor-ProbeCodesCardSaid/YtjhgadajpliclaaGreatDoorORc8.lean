/- The code's Calibrated where a mark is invalid, or both have one code. -/
import Derived.Test.YtjhgadajpliclaaGreatDoorORc2
import Derived.Test.YtjhgadajpliclaaGreatDoorOAd2
import Derived.Test.YtjhgadajpliclaaGreatDoorORb44
import Derived.Test.YtjhgadajpliclaaGreatDoorORb45
import Derived.Deep.RegionHeld3
import Derived.Laws.StructEq
namespace Go.Proofs.YtjhgadajpliclaaGreatDoor
open Go.RowKit Bn
open Flt
def CodeSays (a st z:Int) (g o:ByteArray) (c E:Int):Prop:=∀ W,Tabs W→Calls Tryz.prog 45 #[.agg #[.int .i64 a,.int .i64 st,.int .i64 z,.string g,.string o],.int .i64 c] W fun e w'=>e = .returned (.int .i64 E)∧Below W.heap.size W w'
def TextSays (s:ByteArray) (E:Int):Prop:=∀ W,Tabs W→Calls Tryz.prog 43 #[.string s] W fun e w'=>e = .returned (.int .i64 E)∧Below W.heap.size W w'
def codeC (a k:Nat):Int:=if k=0 then 0 else if k=2 ^ a+1 then ((2 ^ a - 1:Nat):Int) else (k:Int) - 1
def codeD (a k:Nat):Int:=if k=0 then -1 else if k=2 ^ a+1 then 1 else 0
theorem Code_valid (s:ByteArray) (a:Nat) (st z:Int) (g o:ByteArray) (h:Conv a st z g o) (hs:s.size≤4294967296) (h0:readE s.data.toList=0) :
  ∃ k:Nat,k≤2 ^ a+1∧(∀ t:Nat,t<2 ^ a+1→(t<k↔edgeI (readQ s.data.toList) z (st - 1) t≤sI (readQ s.data.toList)*((2 ^ 149:Nat):Int))) ∧
   ∀ w:World,Tabs w→Calls Tryz.prog 9 #[.agg #[.int .i64 a,.int .i64 st,.int .i64 z,.string g,.string o],.string s] w fun e w'=>
    e = .returned (.tuple #[.int .i64 (codeC a k),.int .i64 (codeD a k),.int .i64 0])∧Below w.heap.size w w':=by
 have hb:=h.bits
 have hst:=h.step
 have hz:=h.zero
 have hp:2 ^ a≤4096:=by
  have:=Nat.pow_le_pow_right (show 0<2 by omega) hb.2
  have e:(2:Nat) ^ 12=4096:=by decide
  omega
 obtain ⟨k,hk,h1,h2,h3⟩:=code_bound s.data.toList h0 a z (st - 1) hb.2 (by omega) (by omega) (by omega)
 exact ⟨k,hk,h3,fun w hT=>Code_ok s a k st z g o w hT h hs h0 (codeC a k) (codeD a k) hk h1 h2 rfl rfl⟩
set_option maxHeartbeats 2000000 in
set_option maxRecDepth 100000 in
theorem Full_ok (a:Nat) (st z:Int) (g o:ByteArray) (x y:Nat) (l m:List UInt8) (w:World) (hT:Tabs w) (h:Conv a st z g o) (hx:nomW (0 - z) st=x) (hy:nomW (((2 ^ a - 1:Nat):Int) - z) st=y) (hl:exT x=l) (hm:exT y=m) :
  Calls Tryz.prog 8 #[.agg #[.int .i64 a,.int .i64 st,.int .i64 z,.string g,.string o]] w fun e w'=>e = .returned (.tuple #[.agg #[.string ⟨l.toArray⟩,.string ⟨m.toArray⟩],.int .i64 0])∧Below w.heap.size w w':=by
 have hp:2 ^ a≤2 ^ 12:=Nat.pow_le_pow_right (by omega) h.bits.2
 have hz:=h.zero
 have hb0:Below w.heap.size w ((w.alloc (.cells #[.int .i64 a,.int .i64 st,.int .i64 z,.string g,.string o] 32)).alloc (.cells #[.string { data:=#[] },.string { data:=#[] }] 28)):=((Below.refl _ _).alloc (Nat.le_refl _) _).alloc (by simp) _
 have q0:CBlk ((w.alloc (.cells #[.int .i64 a,.int .i64 st,.int .i64 z,.string g,.string o] 32)).alloc (.cells #[.string { data:=#[] },.string { data:=#[] }] 28)) w.heap.size #[.int .i64 a,.int .i64 st,.int .i64 z,.string g,.string o] 32:=(CBlk.new w _ _ _ rfl).below ((Below.refl _ _).alloc (Nat.le_refl _) _) (by simp)
 have s0:CBlk ((w.alloc (.cells #[.int .i64 a,.int .i64 st,.int .i64 z,.string g,.string o] 32)).alloc (.cells #[.string { data:=#[] },.string { data:=#[] }] 28)) (w.heap.size+1) #[.string { data:=#[] },.string { data:=#[] }] 28:=CBlk.new _ _ _ _ (by simp)
 have HC:=Lib.hid (checkAdc_ok a st z g o _ (hT.later hb0) h)
 have HTP:=Lib.hid (fun W=>top_any a st z (.string g) (.string o) W (by have:=h.bits;omega))
 have HN0:=Lib.hid (fun W=>nominal_any a st z 0 (.string g) (.string o) W (by omega) (by omega) (by have:=h.step;omega) (by have:=h.step;omega))
 have HNT:=Lib.hid (fun W=>nominal_any a st z ((2 ^ a - 1:Nat):Int) (.string g) (.string o) W (by omega) (by omega) (by have:=h.step;omega) (by have:=h.step;omega))
 have HSP:=Lib.hid (fun W hT=>spanOf_eq x y l m W hT hl hm)
 rw [hx] at HN0
 rw [hy] at HNT
 generalize ((2 ^ a - 1:Nat):Int)=T at *
 generalize l.toArray=la at *
 generalize m.toArray=ma at *
 clear h hz hp hl hm hx hy
 go_enter Tryz.func8,Tryz.ntmps8
 have x0:=q0.cell 0
 have x1:=q0.cell 1
 have x2:=q0.cell 2
 have x3:=q0.cell 3
 have x4:=q0.cell 4
 go_wp2_with fail
 generalize ((w.alloc (.cells #[.int .i64 a,.int .i64 st,.int .i64 z,.string g,.string o] 32)).alloc (.cells #[.string { data:=#[] },.string { data:=#[] }] 28))=w1 at *
 have hT1:=hT.later hb0
 refine HC.out.mono ?_
 rintro e w2 ⟨rfl,hb2⟩
 have q2:=q0.below hb2 q0.lt
 have s2:=s0.below hb2 s0.lt
 have hT2:=hT1.later hb2
 have hB2:=hb0.trans (hb2.mono hb0.size)
 clear x0 x1 x2 x3 x4
 have x0:=q2.cell 0
 have x1:=q2.cell 1
 have x2:=q2.cell 2
 have x3:=q2.cell 3
 have x4:=q2.cell 4
 go_wp2_with fail
 go_region_held3 (fun w'=>w'.cell? ⟨w.heap.size,0,none⟩=some (.int .i64 a)∧w'.cell? ⟨w.heap.size,1,none⟩=some (.int .i64 st)∧w'.cell? ⟨w.heap.size,2,none⟩=some (.int .i64 z)∧w'.cell? ⟨w.heap.size,3,none⟩=some (.string g)∧w'.cell? ⟨w.heap.size,4,none⟩=some (.string o))
  ((refine ⟨?_,?_,?_,?_,?_⟩<;>first | exact q6.cell _ | exact q5.cell _ | exact q4.cell _ | exact q3.cell _ | exact q2.cell _ | exact (q6.far2 (Nat.succ_ne_self _) _ _).cell _))
  (first
   |(go_at_call 39;refine (HSP.out w5 hT5).mono ?_;rintro e w6 ⟨rfl,hb6⟩;have q6:=q5.below hb6 q5.lt;have s6:=s5.below hb6 s5.lt;have r0:=s6.cell 0;have r1:=s6.cell 1;have f0:=s6.frozen 0;have f1:=s6.frozen 1)
   |(go_at_call 40;refine (HNT.out w4).mono ?_;rintro e w5 ⟨rfl,hb5⟩;have q5:=q4.below hb5 q4.lt;have s5:=s4.below hb5 s4.lt;have hT5:=hT4.later hb5)
   |(go_at_call 41;refine (HTP.out w3).mono ?_;rintro e w4 ⟨rfl,hb4⟩;have q4:=q3.below hb4 q3.lt;have s4:=s3.below hb4 s3.lt;have hT4:=hT3.later hb4)
   |(go_at_call 40;refine (HN0.out w2.drew).mono ?_;rintro e w3 ⟨rfl,hb3'⟩;have hb3:Below w2.heap.size w2 w3:=⟨hb3'.os,hb3'.tape,hb3'.output,hb3'.size,hb3'.block⟩;clear hb3';have q3:=q2.below hb3 q2.lt;have s3:=s2.below hb3 s2.lt;have hT3:=hT2.later hb3))
 have hB3:=hB2.trans (hb3.mono hB2.size)
 have hB4:=hB3.trans (hb4.mono hB3.size)
 have hB5:=hB4.trans (hb5.mono hB4.size)
 have hB6:=hB5.trans (hb6.mono hB5.size)
 have hset:=two_set hB6 (g:=w.heap.size+1) (by omega) (.string ⟨la⟩) (.string ⟨ma⟩)
 clear HC HTP HN0 HNT HSP
 go_wp2_with fail
 refine bodyPost_ret (v := .tuple #[.agg #[.string ⟨la⟩,.string ⟨ma⟩],.int .i64 0]) (by simp [results,Tryz.results8,go_sem,r0,r1]) rfl ⟨rfl,hset⟩
set_option maxHeartbeats 4000000 in
set_option maxRecDepth 100000 in
theorem rFull_any (a:Nat) (st z:Int) (g o:ByteArray) (w:World) (ha:a≤12) (hst : -20≤st∧st≤4) (hz:0≤z∧z≤4096) :
  Calls Tryz.prog 13 #[.agg #[.int .i64 (a:Int),.int .i64 st,.int .i64 z,.string g,.string o]] w (RetSpan w (nomQ st z 0) (nomQ st z ((2 ^ a - 1:Nat):Int))):=by
 have hb0:Below w.heap.size w ((w.alloc (.cells #[.int .i64 (a:Int),.int .i64 st,.int .i64 z,.string g,.string o] 24)).alloc (.cells #[.string { data:=#[] },.string { data:=#[] }] 28)):=((Below.refl _ _).alloc (Nat.le_refl _) _).alloc (by simp) _
 have a0:CBlk ((w.alloc (.cells #[.int .i64 (a:Int),.int .i64 st,.int .i64 z,.string g,.string o] 24)).alloc (.cells #[.string { data:=#[] },.string { data:=#[] }] 28)) (w.heap.size) #[.int .i64 (a:Int),.int .i64 st,.int .i64 z,.string g,.string o] 24:=(CBlk.new w _ _ _ rfl).below ((Below.refl _ _).alloc (Nat.le_refl _) _) (by simp)
 have s0:CBlk ((w.alloc (.cells #[.int .i64 (a:Int),.int .i64 st,.int .i64 z,.string g,.string o] 24)).alloc (.cells #[.string { data:=#[] },.string { data:=#[] }] 28)) (w.heap.size+1) #[.string { data:=#[] },.string { data:=#[] }] 28:=CBlk.new _ _ _ _ (by simp)
 have hp:2 ^ a≤2 ^ 12:=Nat.pow_le_pow_right (by omega) ha
 have e12:(2:Nat) ^ 12=4096:=by decide
 rw [e12] at hp
 have HTP:=Lib.hid (fun W=>rTop_any a st z (.string g) (.string o) W (by omega))
 have HN0:=Lib.hid (fun W=>rNominal_any (a:Int) st z 0 g o W hst hz (by omega))
 have HNT:=Lib.hid (fun W=>rNominal_any (a:Int) st z ((2 ^ a - 1:Nat):Int) g o W hst hz (by omega))
 generalize nomQ st z 0=n0 at *
 generalize nomQ st z ((2 ^ a - 1:Nat):Int)=nT at *
 generalize ((2 ^ a - 1:Nat):Int)=T at *
 clear ha hst hz hp e12
 go_enter Tryz.func13,Tryz.ntmps13
 have x0:=a0.cell 0
 have x1:=a0.cell 1
 have x2:=a0.cell 2
 have x3:=a0.cell 3
 have x4:=a0.cell 4
 go_wp2_with fail
 generalize ((w.alloc (.cells #[.int .i64 (a:Int),.int .i64 st,.int .i64 z,.string g,.string o] 24)).alloc (.cells #[.string { data:=#[] },.string { data:=#[] }] 28))=w1 at *
 have a1:CBlk w1.drew _ _ _:=a0
 have s1:CBlk w1.drew _ _ _:=s0
 have hB1:Below w.heap.size w w1.drew:=hb0.drew
 go_region_held3 (fun w'=>w'.cell? ⟨w.heap.size,0,none⟩=some (.int .i64 (a:Int))∧w'.cell? ⟨w.heap.size,1,none⟩=some (.int .i64 st)∧w'.cell? ⟨w.heap.size,2,none⟩=some (.int .i64 z)∧w'.cell? ⟨w.heap.size,3,none⟩=some (.string g)∧w'.cell? ⟨w.heap.size,4,none⟩=some (.string o))
  ((refine ⟨?_,?_,?_,?_,?_⟩<;>first | exact a4.cell _ | exact a3.cell _ | exact a2.cell _ | exact a1.cell _ | exact (a4.far2 (Nat.succ_ne_self _) _ _).cell _))
  (first
   |(go_at_call 49;refine (HNT.out w3).mono ?_;rintro e w4 ⟨⟨s4',rfl,i4⟩,hb4⟩;have a4:=a3.below hb4 a3.lt;have s4:=s3.below hb4 s3.lt;have hB4:=hB3.trans (hb4.mono hB3.size);have r0:=s4.cell 0;have r1:=s4.cell 1;have f0:=s4.frozen 0;have f1:=s4.frozen 1)
   |(go_at_call 50;refine (HTP.out w2).mono ?_;rintro e w3 ⟨rfl,hb3⟩;have a3:=a2.below hb3 a2.lt;have s3:=s2.below hb3 s2.lt;have hB3:=hB2.trans (hb3.mono hB2.size))
   |(go_at_call 49;refine (HN0.out w1.drew).mono ?_;rintro e w2 ⟨⟨s2',rfl,i2⟩,hb2⟩;have a2:=a1.below hb2 a1.lt;have s2:=s1.below hb2 s1.lt;have hB2:=hB1.trans (hb2.mono hB1.size)))
 have hset:=two_set hB4 (g:=w.heap.size+1) (by omega) (.string s2') (.string s4')
 go_wp2_with fail
 refine bodyPost_ret (v := .agg #[.string s2',.string s4']) (by simp [results,Tryz.results13,go_sem,r0,r1]) rfl ⟨⟨s2',s4',rfl,i2,i4⟩,hset⟩
def AdcIs (a st z:Int) (g o:ByteArray) (E:Int):Prop:=∀ W,Tabs W→Calls Tryz.prog 12 #[.agg #[.int .i64 a,.int .i64 st,.int .i64 z,.string g,.string o]] W fun e w'=>e = .returned (.int .i64 E)∧Below W.heap.size W w'
set_option maxHeartbeats 2000000 in
set_option maxRecDepth 100000 in
theorem Full_bad (a st z E:Int) (g o:ByteArray) (w:World) (hT:Tabs w) (hI:AdcIs a st z g o E) (h0:E≠0) :
  Calls Tryz.prog 8 #[.agg #[.int .i64 a,.int .i64 st,.int .i64 z,.string g,.string o]] w fun e w'=>e = .returned (.tuple #[.agg #[.string { data:=#[] },.string { data:=#[] }],.int .i64 E])∧Below w.heap.size w w':=by
 have hb0:Below w.heap.size w ((w.alloc (.cells #[.int .i64 a,.int .i64 st,.int .i64 z,.string g,.string o] 32)).alloc (.cells #[.string { data:=#[] },.string { data:=#[] }] 28)):=((Below.refl _ _).alloc (Nat.le_refl _) _).alloc (by simp) _
 have a0:CBlk ((w.alloc (.cells #[.int .i64 a,.int .i64 st,.int .i64 z,.string g,.string o] 32)).alloc (.cells #[.string { data:=#[] },.string { data:=#[] }] 28)) (w.heap.size) #[.int .i64 a,.int .i64 st,.int .i64 z,.string g,.string o] 32:=(CBlk.new w _ _ _ rfl).below ((Below.refl _ _).alloc (Nat.le_refl _) _) (by simp)
 have s0:CBlk ((w.alloc (.cells #[.int .i64 a,.int .i64 st,.int .i64 z,.string g,.string o] 32)).alloc (.cells #[.string { data:=#[] },.string { data:=#[] }] 28)) (w.heap.size+1) #[.string { data:=#[] },.string { data:=#[] }] 28:=CBlk.new _ _ _ _ (by simp)
 have hT1:=hT.later hb0
 have HC:=Lib.hid (hI _ hT1)
 have d1:(E != 0)=true:=by simpa using h0
 clear h0 hI
 go_enter Tryz.func8,Tryz.ntmps8
 have x0:=a0.cell 0
 have x1:=a0.cell 1
 have x2:=a0.cell 2
 have x3:=a0.cell 3
 have x4:=a0.cell 4
 go_wp2_with fail
 generalize ((w.alloc (.cells #[.int .i64 a,.int .i64 st,.int .i64 z,.string g,.string o] 32)).alloc (.cells #[.string { data:=#[] },.string { data:=#[] }] 28))=w1 at *
 refine HC.out.mono ?_
 rintro e w2 ⟨rfl,hb2⟩
 have s6:=s0.below hb2 s0.lt
 have hB6:=hb0.trans (hb2.mono hb0.size)
 clear x0 x1 x2 x3 x4
 have r0:=s6.cell 0
 have r1:=s6.cell 1
 have f0:=s6.frozen 0
 have f1:=s6.frozen 1
 have hset:=two_set hB6 (g:=w.heap.size+1) (by omega) (.string { data:=#[] }) (.string { data:=#[] })
 clear HC
 go_wp2_with fail
 refine bodyPost_ret (v := .tuple #[.agg #[.string { data:=#[] },.string { data:=#[] }],.int .i64 E]) (by simp [results,Tryz.results8,go_sem,r0,r1]) rfl ⟨rfl,hset⟩
set_option maxHeartbeats 2000000 in
set_option maxRecDepth 100000 in
theorem Code_bad (a st z E0 t E:Int) (g o v:ByteArray) (w:World) (hT:Tabs w) (hI:AdcIs a st z g o E0) (hv:TextSays v t) (hE:(if E0≠0 then E0 else t)=E) (h0:E≠0) :
  Calls Tryz.prog 9 #[.agg #[.int .i64 a,.int .i64 st,.int .i64 z,.string g,.string o],.string v] w fun e w'=>e = .returned (.tuple #[.int .i64 0,.int .i64 0,.int .i64 E])∧Below w.heap.size w w':=by
 have hb0:Below w.heap.size w (w.alloc (.cells #[.int .i64 a,.int .i64 st,.int .i64 z,.string g,.string o] 32)):=(Below.refl _ _).alloc (Nat.le_refl _) _
 have a0:CBlk (w.alloc (.cells #[.int .i64 a,.int .i64 st,.int .i64 z,.string g,.string o] 32)) (w.heap.size) #[.int .i64 a,.int .i64 st,.int .i64 z,.string g,.string o] 32:=CBlk.new w _ _ _ rfl
 have hT1:=hT.later hb0
 have HC:=Lib.hid hI
 have HV:=Lib.hid hv
 have HE:=Lib.hid hE
 have d1:(E != 0)=true:=by simpa using h0
 clear h0 hI hv hE
 go_enter Tryz.func9,Tryz.ntmps9
 have x0:=a0.cell 0
 have x1:=a0.cell 1
 have x2:=a0.cell 2
 have x3:=a0.cell 3
 have x4:=a0.cell 4
 go_wp2_with fail
 generalize w.alloc (.cells #[.int .i64 a,.int .i64 st,.int .i64 z,.string g,.string o] 32)=w1 at *
 refine (HC.out w1 hT1).mono ?_
 rintro e w2 ⟨rfl,hb2⟩
 have hB2:=hb0.trans (hb2.mono hb0.size)
 have hT2:=hT1.later hb2
 clear x0 x1 x2 x3 x4
 go_wp2_with fail
 refine (HV.out w2 hT2).mono ?_
 rintro e w3 ⟨rfl,hb3⟩
 have hB3:=hB2.trans (hb3.mono hB2.size)
 have hb4:Below w3.heap.size w3 (w3.alloc (.cells #[.int .i64 E0,.int .i64 t] 29)):=(Below.refl _ _).alloc (Nat.le_refl _) _
 have hB4:=hB3.trans (hb4.mono hB3.size)
 go_wp2_with fail
 refine (cfirst_two E0 t w3 _ _ rfl).mono ?_
 rintro e w4 ⟨he,rfl⟩
 rw [HE.out] at he
 subst he
 go_wp2
 go_ret3
 exact ⟨rfl,hB4⟩
set_option maxHeartbeats 2000000 in
set_option maxRecDepth 100000 in
theorem Volts_bad (a st z c E:Int) (g o:ByteArray) (w:World) (hT:Tabs w) (hI:CodeSays a st z g o c E) (h0:E≠0) :
  Calls Tryz.prog 10 #[.agg #[.int .i64 a,.int .i64 st,.int .i64 z,.string g,.string o],.int .i64 c] w fun e w'=>e = .returned (.tuple #[.float .f32 0,.int .i64 E])∧Below w.heap.size w w':=by
 have hb0:Below w.heap.size w (w.alloc (.cells #[.int .i64 a,.int .i64 st,.int .i64 z,.string g,.string o] 32)):=(Below.refl _ _).alloc (Nat.le_refl _) _
 have a0:CBlk (w.alloc (.cells #[.int .i64 a,.int .i64 st,.int .i64 z,.string g,.string o] 32)) (w.heap.size) #[.int .i64 a,.int .i64 st,.int .i64 z,.string g,.string o] 32:=CBlk.new w _ _ _ rfl
 have hT1:=hT.later hb0
 have HC:=Lib.hid (hI _ hT1)
 have d1:(E != 0)=true:=by simpa using h0
 clear h0 hI
 go_enter Tryz.func10,Tryz.ntmps10
 have x0:=a0.cell 0
 have x1:=a0.cell 1
 have x2:=a0.cell 2
 have x3:=a0.cell 3
 have x4:=a0.cell 4
 go_wp2_with fail
 generalize w.alloc (.cells #[.int .i64 a,.int .i64 st,.int .i64 z,.string g,.string o] 32)=w1 at *
 refine HC.out.mono ?_
 rintro e w2 ⟨rfl,hb2⟩
 have hB2:=hb0.trans (hb2.mono hb0.size)
 clear x0 x1 x2 x3 x4
 go_wp2
 go_ret2
 exact ⟨rfl,hB2⟩
end Go.Proofs.YtjhgadajpliclaaGreatDoor
namespace Go.Proofs.YtjhgadajpliclaaGreatDoor
open Go.RowKit Dn
theorem CBlk.set2 {w:World} {g:Nat} {a b:Value} {t:TypeId} (h:CBlk w g #[a,b] t) (u v:Value):CBlk ((w.setCell ⟨g,0,none⟩ u).setCell ⟨g,1,none⟩ v) g #[u,v] t:=
 heap_setCell_same _ g 1 #[u,b] t v (heap_setCell_same w g 0 #[a,b] t u h)
end Go.Proofs.YtjhgadajpliclaaGreatDoor
namespace Go.Proofs.YtjhgadajpliclaaGreatDoor
open Go.RowKit Bn
open Flt
def AdcSays (a st z:Int) (g o:ByteArray) (E:Int):Prop:=∀ W,Calls Tryz.prog 11 #[.agg #[.int .i64 a,.int .i64 st,.int .i64 z,.string g,.string o]] W fun e w'=>e = .returned (.int .i64 E)∧Below W.heap.size W w'
set_option maxHeartbeats 4000000 in
set_option maxRecDepth 100000 in
theorem codes_turned (a st z c:Int) (g o v:ByteArray) (w:World) (KV:AwakeK) (hT:Tabs w) (hs:¬ ((g.size≤60∧o.size≤60)∧v.size≤60)) :
  Calls Tryz.prog 3 #[.agg #[.int .i64 a,.int .i64 st,.int .i64 z,.string g,.string o],.string v,.int .i64 c] w fun e w'=>e = .returned (.bool true)∧Below w.heap.size w w':=by
 have hb1:Below w.heap.size w (w.alloc (.cells #[.int .i64 a,.int .i64 st,.int .i64 z,.string g,.string o] 24)):=(Below.refl _ _).alloc (Nat.le_refl _) _
 have a1:CBlk (w.alloc (.cells #[.int .i64 a,.int .i64 st,.int .i64 z,.string g,.string o] 24)) (w.heap.size) #[.int .i64 a,.int .i64 st,.int .i64 z,.string g,.string o] 24:=CBlk.new w _ _ _ rfl
 have hT1:=hT.later hb1
 have hcase:¬ (g.size≤60∧o.size≤60)∨((g.size≤60∧o.size≤60)∧decide (60<(v.size:Int))=true):=by
  by_cases h1:g.size≤60∧o.size≤60
  ·by_cases h2:v.size≤60
   ·exact absurd ⟨h1,h2⟩ hs
   ·exact .inr ⟨h1,decide_eq_true (by omega)⟩
  ·exact .inl h1
 have HK:=Lib.hid KV
 clear KV hs
 rcases hcase with h1 | ⟨h1,d1⟩
 ·have HS:=Lib.hid (fun W=>rShort_any a st z g o false W (decide_eq_false h1))
  clear h1
  have x0:=a1.cell 0
  have x1:=a1.cell 1
  have x2:=a1.cell 2
  have x3:=a1.cell 3
  have x4:=a1.cell 4
  go_enter Tryz.func3,Tryz.ntmps3
  go_wp2_with fail
  generalize w.alloc (.cells #[.int .i64 a,.int .i64 st,.int .i64 z,.string g,.string o] 24)=w1 at *
  refine (HS.out w1).mono ?_
  rintro e w2 ⟨rfl,hb2⟩
  have hT2:=hT1.later hb2
  have hB2:=hb1.trans (hb2.mono hb1.size)
  clear x0 x1 x2 x3 x4
  go_wp2_with fail
  refine (HK.out w2 hT2).mono ?_
  rintro e w3 ⟨rfl,hb3⟩
  go_wp2_with fail
  go_ret
  exact ⟨rfl,hB2.trans (hb3.mono hB2.size)⟩
 ·have HS:=Lib.hid (fun W=>rShort_any a st z g o true W (decide_eq_true h1))
  clear h1
  have x0:=a1.cell 0
  have x1:=a1.cell 1
  have x2:=a1.cell 2
  have x3:=a1.cell 3
  have x4:=a1.cell 4
  go_enter Tryz.func3,Tryz.ntmps3
  go_wp2_with fail
  generalize w.alloc (.cells #[.int .i64 a,.int .i64 st,.int .i64 z,.string g,.string o] 24)=w1 at *
  refine (HS.out w1).mono ?_
  rintro e w2 ⟨rfl,hb2⟩
  have hT2:=hT1.later hb2
  have hB2:=hb1.trans (hb2.mono hb1.size)
  clear x0 x1 x2 x3 x4
  go_wp2_with fail
  refine (HK.out w2 hT2).mono ?_
  rintro e w3 ⟨rfl,hb3⟩
  go_wp2_with fail
  go_ret
  exact ⟨rfl,hB2.trans (hb3.mono hB2.size)⟩
def FullSays (a st z:Int) (g o fs ft:ByteArray) (E:Int):Prop:=∀ W,Tabs W→Calls Tryz.prog 8 #[.agg #[.int .i64 a,.int .i64 st,.int .i64 z,.string g,.string o]] W fun e w'=>e = .returned (.tuple #[.agg #[.string fs,.string ft],.int .i64 E])∧Below W.heap.size W w'
def CodeIs (a st z:Int) (g o v:ByteArray) (k d E:Int):Prop:=∀ W,Tabs W→Calls Tryz.prog 9 #[.agg #[.int .i64 a,.int .i64 st,.int .i64 z,.string g,.string o],.string v] W fun e w'=>e = .returned (.tuple #[.int .i64 k,.int .i64 d,.int .i64 E])∧Below W.heap.size W w'
def VoltsIs (a st z:Int) (g o:ByteArray) (c:Int) (f:Nat) (E:Int):Prop:=∀ W,Tabs W→Calls Tryz.prog 10 #[.agg #[.int .i64 a,.int .i64 st,.int .i64 z,.string g,.string o],.int .i64 c] W fun e w'=>e = .returned (.tuple #[.float .f32 f,.int .i64 E])∧Below W.heap.size W w'
def RFull (a st z:Int) (g o fs ft:ByteArray):Prop:=∀ W,Calls Tryz.prog 13 #[.agg #[.int .i64 a,.int .i64 st,.int .i64 z,.string g,.string o]] W fun e w'=>e = .returned (.agg #[.string fs,.string ft])∧Below W.heap.size W w'
def RCheck (v:ByteArray) (E:Int):Prop:=∀ W,Calls Tryz.prog 14 #[.string v] W fun e w'=>e = .returned (.int .i64 E)∧Below W.heap.size W w'
def RCode (a st z:Int) (g o v:ByteArray) (k d:Int):Prop:=∀ W,Calls Tryz.prog 15 #[.agg #[.int .i64 a,.int .i64 st,.int .i64 z,.string g,.string o],.string v] W fun e w'=>e = .returned (.tuple #[.int .i64 k,.int .i64 d])∧Below W.heap.size W w'
def RCheckCode (a st z:Int) (g o:ByteArray) (c E:Int):Prop:=∀ W,Calls Tryz.prog 16 #[.agg #[.int .i64 a,.int .i64 st,.int .i64 z,.string g,.string o],.int .i64 c] W fun e w'=>e = .returned (.int .i64 E)∧Below W.heap.size W w'
def RVolts (a st z:Int) (g o:ByteArray) (c:Int) (f:Nat):Prop:=∀ W,Calls Tryz.prog 17 #[.agg #[.int .i64 a,.int .i64 st,.int .i64 z,.string g,.string o],.int .i64 c] W fun e w'=>e = .returned (.float .f32 f)∧Below W.heap.size W w'
set_option maxHeartbeats 16000000 in
set_option maxRecDepth 100000 in
theorem codes_main (a st z c E0 k d E2 E3:Int) (f:Nat) (g o v fs ft:ByteArray) (w:World) (KV:AwakeK) (hT:Tabs w) (hs:g.size≤60∧o.size≤60) (hv:v.size≤60)
  (hXF:FullSays a st z g o fs ft E0) (hXC:CodeIs a st z g o v k d E2) (hXV:VoltsIs a st z g o c f E3) (hXA:AdcIs a st z g o E0) (hRA:AdcSays a st z g o E0) (hff:(FloatKind.f32.format.order f f==some .eq)=true)
  (hR:(E0≠0∧fs={ data:=#[] }∧ft={ data:=#[] }∧k=0∧d=0∧E2=E0∧f=0∧E3=E0) ∨
   (E0=0∧RFull a st z g o fs ft∧RCheck v E2∧RCheckCode a st z g o c E3∧((E2≠0∧k=0∧d=0)∨(E2=0∧RCode a st z g o v k d))∧((E3≠0∧f=0)∨(E3=0∧RVolts a st z g o c f)))) :
  Calls Tryz.prog 3 #[.agg #[.int .i64 a,.int .i64 st,.int .i64 z,.string g,.string o],.string v,.int .i64 c] w fun e w'=>e = .returned (.bool true)∧Below w.heap.size w w':=by
 have hb1:Below w.heap.size w (w.alloc (.cells #[.int .i64 a,.int .i64 st,.int .i64 z,.string g,.string o] 24)):=(Below.refl _ _).alloc (Nat.le_refl _) _
 have a1:CBlk (w.alloc (.cells #[.int .i64 a,.int .i64 st,.int .i64 z,.string g,.string o] 24)) (w.heap.size) #[.int .i64 a,.int .i64 st,.int .i64 z,.string g,.string o] 24:=CBlk.new w _ _ _ rfl
 have hT1:=hT.later hb1
 have d1:decide (60<(v.size:Int))=false:=decide_eq_false (by omega)
 have HS:=Lib.hid (fun W=>rShort_any a st z g o true W (decide_eq_true hs))
 have HK:=Lib.hid KV
 have HXF:=Lib.hid hXF
 have HXC:=Lib.hid hXC
 have HXV:=Lib.hid hXV
 have HXA:=Lib.hid hXA
 have HRA:=Lib.hid hRA
 have HR:=Lib.hid hR
 have dE:(E0 != E0)=false:=by simp
 clear KV hs hv hXF hXC hXV hXA hRA hR
 have x0:=a1.cell 0
 have x1:=a1.cell 1
 have x2:=a1.cell 2
 have x3:=a1.cell 3
 have x4:=a1.cell 4
 go_enter Tryz.func3,Tryz.ntmps3
 go_wp2_with fail
 generalize w.alloc (.cells #[.int .i64 a,.int .i64 st,.int .i64 z,.string g,.string o] 24)=w1 at *
 refine (HS.out w1).mono ?_
 rintro e w2 ⟨rfl,hb2⟩
 have a2:=a1.below hb2 a1.lt
 have hT2:=hT1.later hb2
 have hB2:=hb1.trans (hb2.mono hb1.size)
 clear x0 x1 x2 x3 x4 hb2 hT1 a1 hb1 HS
 have x0:=a2.cell 0
 have x1:=a2.cell 1
 have x2:=a2.cell 2
 have x3:=a2.cell 3
 have x4:=a2.cell 4
 go_wp2_with fail
 refine (HXF.out w2 hT2).mono ?_
 rintro e w3 ⟨rfl,hb3⟩
 have hb4:Below w3.heap.size w3 (w3.alloc (.cells #[.string fs,.string ft] 28)):=(Below.refl _ _).alloc (Nat.le_refl _) _
 have p4:CBlk (w3.alloc (.cells #[.string fs,.string ft] 28)) w3.heap.size #[.string fs,.string ft] 28:=CBlk.new _ _ _ _ rfl
 have hb34:=hb3.trans (hb4.mono hb3.size)
 have a4:=a2.below hb34 a2.lt
 have hB4:=hB2.trans (hb34.mono hB2.size)
 have hT4:=hT.later hB4
 clear x0 x1 x2 x3 x4 hb3 hb4 hb34 hT2 hB2 a2 HXF
 have x0:=a4.cell 0
 have x1:=a4.cell 1
 have x2:=a4.cell 2
 have x3:=a4.cell 3
 have x4:=a4.cell 4
 go_wp2_with fail
 generalize w3.heap.size=j at *
 generalize w3.alloc (.cells #[.string fs,.string ft] 28)=w4 at *
 refine (HXC.out w4 hT4).mono ?_
 rintro e w5 ⟨rfl,hb5⟩
 have a5:=a4.below hb5 a4.lt
 have p5:=p4.below hb5 p4.lt
 have hB5:=hB4.trans (hb5.mono hB4.size)
 have hT5:=hT.later hB5
 clear x0 x1 x2 x3 x4 hb5 hB4 hT4 a4 p4 HXC
 have x0:=a5.cell 0
 have x1:=a5.cell 1
 have x2:=a5.cell 2
 have x3:=a5.cell 3
 have x4:=a5.cell 4
 go_wp2_with fail
 refine (HXV.out w5 hT5).mono ?_
 rintro e w6 ⟨rfl,hb6⟩
 have a6:=a5.below hb6 a5.lt
 have p6:=p5.below hb6 p5.lt
 have hB6:=hB5.trans (hb6.mono hB5.size)
 have hT6:=hT.later hB6
 clear x0 x1 x2 x3 x4 hb6 hB5 hT5 a5 p5 HXV
 have x0:=a6.cell 0
 have x1:=a6.cell 1
 have x2:=a6.cell 2
 have x3:=a6.cell 3
 have x4:=a6.cell 4
 go_wp2_with fail
 refine (HRA.out w6).mono ?_
 rintro e w7 ⟨rfl,hb7⟩
 have a7:=a6.below hb7 a6.lt
 have p7:=p6.below hb7 p6.lt
 have hB7:=hB6.trans (hb7.mono hB6.size)
 have hT7:=hT.later hB7
 clear x0 x1 x2 x3 x4 hb7 hB6 hT6 a6 p6 HRA
 have x0:=a7.cell 0
 have x1:=a7.cell 1
 have x2:=a7.cell 2
 have x3:=a7.cell 3
 have x4:=a7.cell 4
 go_wp2_with fail
 refine (HXA.out w7 hT7).mono ?_
 rintro e w8 ⟨rfl,hb8⟩
 have hb9:Below w8.heap.size w8 (w8.alloc (.cells #[.string { data:=#[] },.string { data:=#[] }] 28)):=(Below.refl _ _).alloc (Nat.le_refl _) _
 have t9:CBlk (w8.alloc (.cells #[.string { data:=#[] },.string { data:=#[] }] 28)) w8.heap.size #[.string { data:=#[] },.string { data:=#[] }] 28:=CBlk.new _ _ _ _ rfl
 have p8lt:=(p7.below hb8 p7.lt).lt
 have hb89:=hb8.trans (hb9.mono hb8.size)
 have a9:=a7.below hb89 a7.lt
 have p9:=p7.below hb89 p7.lt
 have hB9:=hB7.trans (hb89.mono hB7.size)
 have hwi:w.heap.size≤w8.heap.size:=Nat.le_trans hB7.size hb8.size
 have awi:w.heap.size<w8.heap.size:=(a7.below hb8 a7.lt).lt
 clear x0 x1 x2 x3 x4 hb8 hb9 hb89 hB7 hT7 a7 p7 HXA
 rcases HR.out with ⟨h0,rfl,rfl,rfl,rfl,rfl,rfl,rfl⟩ | ⟨rfl,hRF,hRC,hRK,h2,h3⟩
 ·have d3:(E3==0)=false:=beq_eq_false_iff_ne.2 h0
  clear h0 HR
  have x0:=a9.cell 0
  have x1:=a9.cell 1
  have x2:=a9.cell 2
  have x3:=a9.cell 3
  have x4:=a9.cell 4
  have u0:=p9.cell 0
  have u1:=p9.cell 1
  have s0:=t9.cell 0
  have s1:=t9.cell 1
  have hT9:=hT.later hB9
  go_wp2_with fail
  generalize w8.heap.size=i at *
  generalize w8.alloc (.cells #[.string { data:=#[] },.string { data:=#[] }] 28)=w9 at *
  refine (HK.out _ hT9).mono ?_
  rintro e w20 ⟨rfl,hb20⟩
  go_wp2_with fail
  go_ret
  exact ⟨rfl,hB9.trans (hb20.mono hB9.size)⟩
 ·have HRF:=Lib.hid hRF
  have HRC:=Lib.hid hRC
  have HRK:=Lib.hid hRK
  have H2:=Lib.hid h2
  have H3:=Lib.hid h3
  clear hRF hRC hRK h2 h3 HR
  have x0:=a9.cell 0
  have x1:=a9.cell 1
  have x2:=a9.cell 2
  have x3:=a9.cell 3
  have x4:=a9.cell 4
  go_wp2_with fail
  generalize w8.heap.size=i at *
  generalize w8.alloc (.cells #[.string { data:=#[] },.string { data:=#[] }] 28)=w9 at *
  refine (HRF.out w9).mono ?_
  rintro e w10 ⟨rfl,hb10⟩
  have a10:=a9.below hb10 a9.lt
  have p10:=p9.below hb10 p9.lt
  have t10:=t9.below hb10 t9.lt
  have hB10:=hB9.trans (hb10.mono hB9.size)
  have a11:CBlk ((w10.setCell ⟨i,0,none⟩ (.string fs)).setCell ⟨i,1,none⟩ (.string ft)) _ _ _:=a10.far2 (by omega) _ _
  have p11:CBlk ((w10.setCell ⟨i,0,none⟩ (.string fs)).setCell ⟨i,1,none⟩ (.string ft)) _ _ _:=p10.far2 (by omega) _ _
  have t11:CBlk ((w10.setCell ⟨i,0,none⟩ (.string fs)).setCell ⟨i,1,none⟩ (.string ft)) i #[.string fs,.string ft] 28:=t10.set2 _ _
  have hB11:Below w.heap.size w ((w10.setCell ⟨i,0,none⟩ (.string fs)).setCell ⟨i,1,none⟩ (.string ft)):=two_set hB10 hwi _ _
  have g0:=t10.frozen 0
  have g1:=t10.frozen 1
  have s0:=t10.cell 0
  have s1:=t10.cell 1
  clear x0 x1 x2 x3 x4 hb10 hB9 hB10 a9 p9 t9 a10 p10 t10 HRF
  go_wp2_with fail
  generalize ((w10.setCell ⟨i,0,none⟩ (.string fs)).setCell ⟨i,1,none⟩ (.string ft))=w11 at *
  refine (HRC.out w11).mono ?_
  rintro e w12 ⟨rfl,hb12⟩
  have a12:=a11.below hb12 a11.lt
  have p12:=p11.below hb12 p11.lt
  have t12:=t11.below hb12 t11.lt
  have hB12:=hB11.trans (hb12.mono hB11.size)
  clear s0 s1 g0 g1 hb12 hB11 a11 p11 t11 HRC
  rcases H2.out with ⟨h20,rfl,rfl⟩ | ⟨rfl,hRD⟩
  ·have d4:(E2==0)=false:=beq_eq_false_iff_ne.2 h20
   clear h20 H2
   have x0:=a12.cell 0
   have x1:=a12.cell 1
   have x2:=a12.cell 2
   have x3:=a12.cell 3
   have x4:=a12.cell 4
   go_wp2_with fail
   refine (HRK.out w12).mono ?_
   rintro e w13 ⟨rfl,hb13⟩
   have a13:=a12.below hb13 a12.lt
   have p13:=p12.below hb13 p12.lt
   have t13:=t12.below hb13 t12.lt
   have hB13:=hB12.trans (hb13.mono hB12.size)
   clear x0 x1 x2 x3 x4 hb13 hB12 a12 p12 t12
   rcases H3.out with ⟨h30,rfl⟩ | ⟨rfl,hRV⟩
   ·have d5:(E3==0)=false:=beq_eq_false_iff_ne.2 h30
    clear h30 H3
    have u0:=p13.cell 0
    have u1:=p13.cell 1
    have s0:=t13.cell 0
    have s1:=t13.cell 1
    have hT13:=hT.later hB13
    go_wp2_with fail
    refine (HK.out _ hT13).mono ?_
    rintro e w20 ⟨rfl,hb20⟩
    go_wp2_with fail
    go_ret
    exact ⟨rfl,hB13.trans (hb20.mono hB13.size)⟩
   ·have HRV:=Lib.hid hRV
    clear hRV H3
    have x0:=a13.cell 0
    have x1:=a13.cell 1
    have x2:=a13.cell 2
    have x3:=a13.cell 3
    have x4:=a13.cell 4
    go_wp2_with fail
    refine (HRV.out w13).mono ?_
    rintro e w14 ⟨rfl,hb14⟩
    have a14:=a13.below hb14 a13.lt
    have p14:=p13.below hb14 p13.lt
    have t14:=t13.below hb14 t13.lt
    have hB14:=hB13.trans (hb14.mono hB13.size)
    clear x0 x1 x2 x3 x4 hb14 hB13 a13 p13 t13
    have u0:=p14.cell 0
    have u1:=p14.cell 1
    have s0:=t14.cell 0
    have s1:=t14.cell 1
    have hT14:=hT.later hB14
    go_wp2_with fail
    refine (HK.out _ hT14).mono ?_
    rintro e w20 ⟨rfl,hb20⟩
    go_wp2_with fail
    go_ret
    exact ⟨rfl,hB14.trans (hb20.mono hB14.size)⟩
  ·have HRD:=Lib.hid hRD
   clear hRD H2
   have x0:=a12.cell 0
   have x1:=a12.cell 1
   have x2:=a12.cell 2
   have x3:=a12.cell 3
   have x4:=a12.cell 4
   go_wp2_with fail
   refine (HRD.out w12).mono ?_
   rintro e w13 ⟨rfl,hb13⟩
   have a13:=a12.below hb13 a12.lt
   have p13:=p12.below hb13 p12.lt
   have t13:=t12.below hb13 t12.lt
   have hB13:=hB12.trans (hb13.mono hB12.size)
   clear x0 x1 x2 x3 x4 hb13 hB12 a12 p12 t12
   have x0:=a13.cell 0
   have x1:=a13.cell 1
   have x2:=a13.cell 2
   have x3:=a13.cell 3
   have x4:=a13.cell 4
   go_wp2_with fail
   refine (HRK.out w13).mono ?_
   rintro e w14 ⟨rfl,hb14⟩
   have a14:=a13.below hb14 a13.lt
   have p14:=p13.below hb14 p13.lt
   have t14:=t13.below hb14 t13.lt
   have hB14:=hB13.trans (hb14.mono hB13.size)
   clear x0 x1 x2 x3 x4 hb14 hB13 a13 p13 t13
   rcases H3.out with ⟨h30,rfl⟩ | ⟨rfl,hRV⟩
   ·have d5:(E3==0)=false:=beq_eq_false_iff_ne.2 h30
    clear h30 H3
    have u0:=p14.cell 0
    have u1:=p14.cell 1
    have s0:=t14.cell 0
    have s1:=t14.cell 1
    have hT14:=hT.later hB14
    go_wp2_with fail
    refine (HK.out _ hT14).mono ?_
    rintro e w20 ⟨rfl,hb20⟩
    go_wp2_with fail
    go_ret
    exact ⟨rfl,hB14.trans (hb20.mono hB14.size)⟩
   ·have HRV:=Lib.hid hRV
    clear hRV H3
    have x0:=a14.cell 0
    have x1:=a14.cell 1
    have x2:=a14.cell 2
    have x3:=a14.cell 3
    have x4:=a14.cell 4
    go_wp2_with fail
    refine (HRV.out w14).mono ?_
    rintro e w15 ⟨rfl,hb15⟩
    have a15:=a14.below hb15 a14.lt
    have p15:=p14.below hb15 p14.lt
    have t15:=t14.below hb15 t14.lt
    have hB15:=hB14.trans (hb15.mono hB14.size)
    clear x0 x1 x2 x3 x4 hb15 hB14 a14 p14 t14
    have u0:=p15.cell 0
    have u1:=p15.cell 1
    have s0:=t15.cell 0
    have s1:=t15.cell 1
    have hT15:=hT.later hB15
    go_wp2_with fail
    refine (HK.out _ hT15).mono ?_
    rintro e w20 ⟨rfl,hb20⟩
    go_wp2_with fail
    go_ret
    exact ⟨rfl,hB15.trans (hb20.mono hB15.size)⟩
end Go.Proofs.YtjhgadajpliclaaGreatDoor
