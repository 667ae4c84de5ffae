/- Contracts of probe's checkCode, Code, Volts of a valid converter. -/
import Derived.Test.YtmkihdjolnlccaaGreatDoorQFloat
import Derived.Test.YtmkihdjolnlccaaGreatDoorQDr8
import Derived.Test.YtmkihdjolnlccaaGreatDoorQRb2
import Derived.Deep.RegionHeld3
import Derived.Test.YtmkihdjolnlccaaGreatDoorQPr4
import Derived.Test.YtmkihdjolnlccaaGreatDoorQDw
namespace Go.Proofs.YtmkihdjolnlccaaGreatDoor
open Go.RowKit Bn
open Flt
set_option maxHeartbeats 1000000 in
theorem zdf (a:Nat) (st z c:Int) (g o:ByteArray) (w:World) (hT:Tabs w) (h:Conv a st z g o) (hc:0≤c∧c≤((2 ^ a - 1:Nat):Int)) :
  Calls Tryz.prog 90 #[.agg #[.int .i64 a,.int .i64 st,.int .i64 z,.string g,.string o],.int .i64 c] w fun e w'=>e = .returned (.int .i64 0)∧Below w.heap.size w w':=by
 have hb0:Below w.heap.size w (w.alloc (.cells #[.int .i64 a,.int .i64 st,.int .i64 z,.string g,.string o] 33)):=(Below.refl _ _).alloc (Nat.le_refl _) _
 have q0:CBlk (w.alloc (.cells #[.int .i64 a,.int .i64 st,.int .i64 z,.string g,.string o] 33)) w.heap.size #[.int .i64 a,.int .i64 st,.int .i64 z,.string g,.string o] 33:=CBlk.new w _ _ _ rfl
 have x0:=q0.cell 0
 have x1:=q0.cell 1
 have x2:=q0.cell 2
 have x3:=q0.cell 3
 have x4:=q0.cell 4
 have HC:=Lib.hid (zcf a st z g o _ (hT.later hb0) h)
 have HTP:=Lib.hid (fun W=>zdh a st z (.string g) (.string o) W (by have:=h.bits;omega))
 have HR3:=Lib.hid (zeb c 0 ((2 ^ a - 1:Nat):Int) hc.1 hc.2)
 generalize ((2 ^ a - 1:Nat):Int)=T at *
 clear h hc
 go_enter Tryz.func90,Tryz.ntmps90
 go_wp2_with fail
 generalize w.alloc (.cells #[.int .i64 a,.int .i64 st,.int .i64 z,.string g,.string o] 33)=w1 at *
 refine HC.out.mono ?_
 rintro e w2 ⟨rfl,hb2⟩
 have q2:=q0.below hb2 q0.lt
 clear x0 x1 x2 x3 x4
 have x0:=q2.cell 0
 have x1:=q2.cell 1
 have x2:=q2.cell 2
 have x3:=q2.cell 3
 have x4:=q2.cell 4
 have hB2:=hb0.trans (hb2.mono hb0.size)
 go_wp2_with fail
 refine (HTP.out w2).mono ?_
 rintro e w3 ⟨rfl,hb3⟩
 go_wp2_with fail
 refine (zbb _ _ _ _).mono ?_
 rintro e w4 ⟨he,rfl⟩
 rw [HR3.out] at he
 subst he
 go_wp2_with fail
 go_ret
 exact ⟨rfl,hB2.trans (hb3.mono hB2.size)⟩
set_option maxHeartbeats 1000000 in
theorem zpk (a:Nat) (st z c:Int) (g o:ByteArray) (w:World) (hT:Tabs w) (h:Conv a st z g o) (hc:0≤c∧c≤((2 ^ a - 1:Nat):Int)) :
  Calls Tryz.prog 45 #[.agg #[.int .i64 a,.int .i64 st,.int .i64 z,.string g,.string o],.int .i64 c] w fun e w'=>e = .returned (.tuple #[.float .f32 (nomW (c - z) st),.int .i64 0])∧Below w.heap.size w w':=by
 have hb0:Below w.heap.size w (w.alloc (.cells #[.int .i64 a,.int .i64 st,.int .i64 z,.string g,.string o] 33)):=(Below.refl _ _).alloc (Nat.le_refl _) _
 have q0:CBlk (w.alloc (.cells #[.int .i64 a,.int .i64 st,.int .i64 z,.string g,.string o] 33)) w.heap.size #[.int .i64 a,.int .i64 st,.int .i64 z,.string g,.string o] 33:=CBlk.new w _ _ _ rfl
 have x0:=q0.cell 0
 have x1:=q0.cell 1
 have x2:=q0.cell 2
 have x3:=q0.cell 3
 have x4:=q0.cell 4
 have hp:2 ^ a≤2 ^ 12:=Nat.pow_le_pow_right (by omega) h.bits.2
 have hz:=h.zero
 have HC:=Lib.hid (zdf a st z c g o _ (hT.later hb0) h hc)
 have HN:=Lib.hid (fun W=>zbR a st z c (.string g) (.string o) W (by omega) (by omega) (by have:=h.step;omega) (by have:=h.step;omega))
 clear h hc hz hp
 go_enter Tryz.func45,Tryz.ntmps45
 go_wp2_with fail
 generalize w.alloc (.cells #[.int .i64 a,.int .i64 st,.int .i64 z,.string g,.string o] 33)=w1 at *
 refine HC.out.mono ?_
 rintro e w2 ⟨rfl,hb2⟩
 have q2:=q0.below hb2 q0.lt
 clear x0 x1 x2 x3 x4
 have x0:=q2.cell 0
 have x1:=q2.cell 1
 have x2:=q2.cell 2
 have x3:=q2.cell 3
 have x4:=q2.cell 4
 have hB2:=hb0.trans (hb2.mono hb0.size)
 go_wp2_with fail
 refine (HN.out w2).mono ?_
 rintro e w3 ⟨rfl,hb3⟩
 go_wp2_with fail
 go_ret2
 exact ⟨rfl,hB2.trans (hb3.mono hB2.size)⟩
set_option maxHeartbeats 1000000 in
theorem zmR (s:ByteArray) (a k:Nat) (st z:Int) (g o:ByteArray) (w:World) (hT:Tabs w) (h:Conv a st z g o) (hs:s.size≤4294967296) (h0:zam s.data.toList=0) (C D:Int)
  (hk:k≤2 ^ a+1) (hlo:∀ t:Nat,t<k→zba s.data.toList (zbU s.data.toList) (nomW (2*((t:Int) - z) - 1) (st - 1))=false)
  (hhi:∀ t:Nat,k≤t→t<2 ^ a+1→zba s.data.toList (zbU s.data.toList) (nomW (2*((t:Int) - z) - 1) (st - 1))=true)
  (hC:(if k=0 then (0:Int) else if k=2 ^ a+1 then ((2 ^ a - 1:Nat):Int) else (k:Int) - 1)=C) (hD:(if k=0 then (-1:Int) else if k=2 ^ a+1 then 1 else 0)=D) :
  Calls Tryz.prog 31 #[.agg #[.int .i64 a,.int .i64 st,.int .i64 z,.string g,.string o],.string s] w fun e w'=>e = .returned (.tuple #[.int .i64 C,.int .i64 D,.int .i64 0])∧Below w.heap.size w w':=by
 have hp:2 ^ a≤2 ^ 12:=Nat.pow_le_pow_right (by omega) h.bits.2
 have hz:=h.zero
 have hb0:Below w.heap.size w (w.alloc (.cells #[.int .i64 a,.int .i64 st,.int .i64 z,.string g,.string o] 33)):=(Below.refl _ _).alloc (Nat.le_refl _) _
 have q0:CBlk (w.alloc (.cells #[.int .i64 a,.int .i64 st,.int .i64 z,.string g,.string o] 33)) w.heap.size #[.int .i64 a,.int .i64 st,.int .i64 z,.string g,.string o] 33:=CBlk.new w _ _ _ rfl
 have x0:=q0.cell 0
 have x1:=q0.cell 1
 have x2:=q0.cell 2
 have x3:=q0.cell 3
 have x4:=q0.cell 4
 have HC:=Lib.hid (zcf a st z g o _ (hT.later hb0) h)
 have HK:=Lib.hid (fun W hT=>zcL s W hT hs)
 have HE:=Lib.hid h0
 have HV:=Lib.hid (fun W hT=>zkE s a k st z (.string g) (.string o) W hT hs h.bits.2 (by omega) (by have:=h.step;omega) (by have:=h.step;omega) hk hlo hhi)
 rw [hC,hD] at HV
 clear h hz hp hlo hhi hk hC hD h0
 go_enter Tryz.func31,Tryz.ntmps31
 go_wp2_with fail
 generalize w.alloc (.cells #[.int .i64 a,.int .i64 st,.int .i64 z,.string g,.string o] 33)=w1 at *
 have hT1:=hT.later hb0
 refine HC.out.mono ?_
 rintro e w2 ⟨rfl,hb2⟩
 have hT2:=hT1.later hb2
 have q2:=q0.below hb2 q0.lt
 clear x0 x1 x2 x3 x4
 have hB2:=hb0.trans (hb2.mono hb0.size)
 go_wp2_with fail
 refine (HK.out w2 hT2).mono ?_
 rintro e w3 ⟨he,hb3⟩
 rw [HE.out] at he
 subst he
 have hT3:=hT2.later hb3
 have q3:=q2.below hb3 q2.lt
 have hB3:=hB2.trans (hb3.mono hB2.size)
 go_wp2_with fail
 refine (za7 0 0 w3 _ _ rfl).mono ?_
 rintro e w4 ⟨rfl,rfl⟩
 have hb4:Below w3.heap.size w3 (w3.alloc (.cells #[.int .i64 0,.int .i64 0] 30)):=(Below.refl _ _).alloc (Nat.le_refl _) _
 generalize w3.alloc (.cells #[.int .i64 0,.int .i64 0] 30)=w4 at *
 have hT4:=hT3.later hb4
 have q4:=q3.below hb4 q3.lt
 have hB4:=hB3.trans (hb4.mono hB3.size)
 have x0:=q4.cell 0
 have x1:=q4.cell 1
 have x2:=q4.cell 2
 have x3:=q4.cell 3
 have x4:=q4.cell 4
 go_wp2_with fail
 refine (HV.out w4 hT4).mono ?_
 rintro e w5 ⟨rfl,hb5⟩
 go_wp2_with fail
 go_ret3
 exact ⟨rfl,hB4.trans (hb5.mono hB4.size)⟩
theorem zqh {s:ByteArray} {l:List UInt8} (h:s.data.toList=l):s=⟨l.toArray⟩:=by
 subst h;rfl
theorem zbc {a w:World} {B g:Nat} (h:Below B a w) (hg:B≤g) (u v:Value):Below B a ((w.setCell ⟨g,0,none⟩ u).setCell ⟨g,1,none⟩ v):=
 (h.setCell (p:=⟨g,0,none⟩) hg _).setCell (p:=⟨g,1,none⟩) hg _
theorem CBlk.far2 {w:World} {g g':Nat} {c:Array Value} {t:TypeId} (h:CBlk w g c t) (hne:g'≠g) (u v:Value):CBlk ((w.setCell ⟨g',0,none⟩ u).setCell ⟨g',1,none⟩ v) g c t:=
 (Below.heap_setCell _ ⟨g',1,none⟩ v g (fun e=>hne e.symm)).trans ((Below.heap_setCell w ⟨g',0,none⟩ u g (fun e=>hne e.symm)).trans h)
theorem zkf {a w:World} {B g:Nat} (h:Below B a w) (hg:B≤g) (u v x y z:Value):Below B a (((((w.setCell ⟨g,0,none⟩ u).setCell ⟨g,1,none⟩ v).setCell ⟨g,2,none⟩ x).setCell ⟨g,3,none⟩ y).setCell ⟨g,4,none⟩ z):=
 (((((h.setCell (p:=⟨g,0,none⟩) hg _).setCell (p:=⟨g,1,none⟩) hg _).setCell (p:=⟨g,2,none⟩) hg _).setCell (p:=⟨g,3,none⟩) hg _).setCell (p:=⟨g,4,none⟩) hg _)
theorem zfl (b:Nat) (l:List UInt8) (w:World) (hT:Tabs w) (hl:exT b=l):Calls Tryz.prog 92 #[.float .f32 b] w fun e w'=>e = .returned (.string ⟨l.toArray⟩)∧Below w.heap.size w w':=by
 refine (ziD b w hT).mono ?_
 rintro e w' ⟨s,rfl,hs,hb⟩
 rw [hl] at hs
 obtain rfl:=zqh hs
 exact ⟨rfl,hb⟩
set_option maxHeartbeats 1000000 in
theorem ziI (x y:Nat) (l m:List UInt8) (w:World) (hT:Tabs w) (hl:exT x=l) (hm:exT y=m) :
  Calls Tryz.prog 79 #[.float .f32 x,.float .f32 y] w fun e w'=>e = .returned (.agg #[.string ⟨l.toArray⟩,.string ⟨m.toArray⟩])∧Below w.heap.size w w':=by
 have hb0:Below w.heap.size w (w.alloc (.cells #[.string { data:=#[] },.string { data:=#[] }] 55)):=(Below.refl _ _).alloc (Nat.le_refl _) _
 have q0:CBlk (w.alloc (.cells #[.string { data:=#[] },.string { data:=#[] }] 55)) w.heap.size #[.string { data:=#[] },.string { data:=#[] }] 55:=CBlk.new w _ _ _ rfl
 have HX:=Lib.hid (fun W hT=>zfl x l W hT hl)
 have HY:=Lib.hid (fun W hT=>zfl y m W hT hm)
 generalize l.toArray=la at *
 generalize m.toArray=ma at *
 clear hl hm
 go_enter Tryz.func79,Tryz.ntmps79
 go_wp2_with fail
 generalize (w.alloc (.cells #[.string { data:=#[] },.string { data:=#[] }] 55))=w1 at *
 have hT1:=hT.later hb0
 refine (HX.out w1 hT1).mono ?_
 rintro e w2 ⟨rfl,hb2⟩
 have q2:=q0.below hb2 q0.lt
 have hT2:=hT1.later hb2
 have hB2:=hb0.trans (hb2.mono hb0.size)
 go_wp2_with fail
 refine (HY.out w2 hT2).mono ?_
 rintro e w3 ⟨rfl,hb3⟩
 have q3:=q2.below hb3 q2.lt
 have hB3:=hB2.trans (hb3.mono hB2.size)
 have r0:=q3.cell 0
 have r1:=q3.cell 1
 have f0:=q3.frozen 0
 have f1:=q3.frozen 1
 have hset:=zbc hB3 (g:=w.heap.size) (Nat.le_refl _) (.string ⟨la⟩) (.string ⟨ma⟩)
 clear HX HY hb0 hb2 hb3 hB2 hB3 q0 q2
 go_wp2_with fail
 refine bodyPost_ret (v := .agg #[.string ⟨la⟩,.string ⟨ma⟩]) (by simp [results,Tryz.results79,go_sem,r0,r1]) rfl ⟨rfl,hset⟩
end Go.Proofs.YtmkihdjolnlccaaGreatDoor
namespace Go.Proofs.YtmkihdjolnlccaaGreatDoor
open Go.RowKit Dn
def sgn (b:Bool) (x:Nat):Int:=if b then -(x:Int) else (x:Int)
theorem zcg (b:Bool) (x:Nat):(sgn b x).natAbs=x:=by unfold sgn;cases b<;>simp
theorem zdm (b:Bool) (x:Nat):decide (sgn b x<0)=(b && decide (0<x)):=by
 unfold sgn
 cases b
 ·simp
 ·simp
theorem zkc (z:Int):sgn (decide (z<0)) z.natAbs=z:=by
 unfold sgn
 by_cases h:z<0
 ·rw [decide_eq_true h,if_pos rfl];omega
 ·rw [decide_eq_false h,if_neg (by decide)];omega
def RetZ (w:World) (z:Int) (e:Ending) (w':World):Prop:=∃ A n c,e = .returned (.agg #[.bool (decide (z<0)),.slice A n c])∧DigI w' A n c (digs z.natAbs)∧Below w.heap.size w w'
theorem DigI.box {w:World} {A A1:Option Addr} {n c n1 c1 g:Nat} {b:Bool} {l:List Nat} {t:TypeId} (h:DigI w A n c l) (hk:CBlk w g #[.bool b,.slice A1 n1 c1] t) (u v:Value) :
  DigI ((w.setCell ⟨g,0,none⟩ u).setCell ⟨g,1,none⟩ v) A n c l:=by
 have k0:w.cell? ⟨g,0,none⟩=some (.bool b):=hk.cell 0
 have k1:w.cell? ⟨g,1,none⟩=some (.slice A1 n1 c1):=hk.cell 1
 refine ⟨⟨h.rd.1,fun hn => ?_⟩,h.nc,h.cm,h.wf⟩
 obtain ⟨ad,e,hb,hc⟩:=h.rd.2 hn
 refine ⟨ad,e,by simpa [World.setCell] using hb,fun j z hz => ?_⟩
 have hcell:=hc j z hz
 have hint:∃ d:Nat,z = .int .i64 (d:Int):=by
  rw [List.getElem?_map] at hz
  cases hd:l[j]? with
  | none=>rw [hd] at hz;cases hz
  | some d=>rw [hd] at hz;injection hz with hz;exact ⟨d,hz.symm⟩
 obtain ⟨d,rfl⟩:=hint
 have n0:ad.add j≠⟨g,0,none⟩:=fun e0=>by rw [e0,k0] at hcell;injection hcell with hcell;cases hcell
 have n1':ad.add j≠⟨g,1,none⟩:=fun e0=>by rw [e0,k1] at hcell;injection hcell with hcell;cases hcell
 rw [World.cell?_setCell_other _ _ _ _ n1'.symm,World.cell?_setCell_other _ _ _ _ n0.symm]
 exact hcell
theorem zio {w:World} {A:Option Addr} {n c x:Nat} (h:DigI w A n c (digs x)):decide (0<(n:Int))=decide (0<x):=by
 rw [←h.len]
 rcases Nat.eq_zero_or_pos x with rfl | hx
 ·simp [digs_zero]
 ·have:=zan hx
  simp [hx]
  omega
set_option maxHeartbeats 1000000 in
theorem zbe (b:Bool) (A:Option Addr) (n c:Nat) (l:List Nat) (w:World) (h:DigI w A n c l) (hn:n≤1099511627776) :
  Calls Tryz.prog 172 #[.bool b,.slice A n c] w (RetZ w (sgn b (val l))):=by
 have hb0:Below w.heap.size w (w.alloc (.cells #[.bool false,.slice none 0 0] 152)):=(Below.refl _ _).alloc (Nat.le_refl _) _
 have hk:=CBlk.new w #[.bool false,.slice none 0 0] 152 _ rfl
 have K1:=Lib.hid (zcm A n c l _ (h.later hb0) hn)
 have HA:=Lib.hid (zcg b (val l))
 have HN:=Lib.hid (zdm b (val l))
 generalize val l=x at *
 generalize sgn b x=z at *
 clear h
 go_enter Tryz.func172,Tryz.ntmps172
 go_wp2_with fail
 refine K1.out.mono ?_
 rintro e w1 ⟨m,rfl,hd,hb1⟩
 have hk1:=hk.below hb1 (by simp)
 have hB:=hb0.trans (hb1.mono hb0.size)
 have k0:w1.cell? ⟨w.heap.size,0,none⟩=some (.bool false):=hk1.cell 0
 have k1:w1.cell? ⟨w.heap.size,1,none⟩=some (.slice none 0 0):=hk1.cell 1
 have f0:w1.frozen? ⟨w.heap.size,0,none⟩=false:=hk1.frozen 0
 have f1:w1.frozen? ⟨w.heap.size,1,none⟩=false:=hk1.frozen 1
 have hp:=zio hd
 have hset:=zbc hB (g:=w.heap.size) (Nat.le_refl _) (.bool (b && decide (0<x))) (.slice A m c)
 have hbox:=hd.box hk1 (.bool (b && decide (0<x))) (.slice A m c)
 have HS:=Lib.hid hset
 have HX:=Lib.hid hbox
 clear hset hbox hb0 hb1 hB K1
 have hret:∀ bb:Bool,bb=(b && decide (0<x))→RetZ w z (.returned (.agg #[.bool bb,.slice A m c])) ((w1.setCell ⟨w.heap.size,0,none⟩ (.bool bb)).setCell ⟨w.heap.size,1,none⟩ (.slice A m c)):=fun bb hbb=>by
  subst hbb
  exact ⟨A,m,c,by rw [HN.out],by rw [HA.out];exact HX.out,HS.out⟩
 have hcase:b=false∨(b=true∧0<x)∨(b=true∧x=0):=by
  cases b
  ·exact .inl rfl
  ·rcases Nat.eq_zero_or_pos x with h0 | h0
   ·exact .inr (.inr ⟨rfl,h0⟩)
   ·exact .inr (.inl ⟨rfl,h0⟩)
 rcases hcase with rfl | ⟨rfl,hx⟩ | ⟨rfl,hx⟩
 ·have HR:=Lib.hid (hret false (by simp))
  clear hp hret HS HX
  go_wp2
  refine bodyPost_ret (v := .agg #[.bool false,.slice A m c]) (by simp [results,Tryz.results172,go_sem,k0,k1]) rfl ?_
  exact HR.out
 ·have HR:=Lib.hid (hret true (by simp [hx]))
  have dx:decide (0<(m:Int))=true:=by rw [hp];simpa using hx
  have dy:decide (0<m)=true:=by simpa using dx
  clear hp hret HS HX dx
  go_wp2
  refine bodyPost_ret (v := .agg #[.bool true,.slice A m c]) (by simp [results,Tryz.results172,go_sem,k0,k1]) rfl ?_
  exact HR.out
 ·have HR:=Lib.hid (hret false (by simp [hx]))
  have dx:decide (0<(m:Int))=false:=by rw [hp];simpa using hx
  obtain rfl:m=0:=by simp at dx;omega
  clear hp hret HS HX dx
  go_wp2
  refine bodyPost_ret (v := .agg #[.bool false,.slice A 0 c]) (by simp [results,Tryz.results172,go_sem,k0,k1]) rfl ?_
  exact HR.out
set_option maxHeartbeats 1000000 in
theorem zdp (s:ByteArray) (w:World) (hd:zap s.data.toList=true) (hs:s.size≤18) :
  Calls Tryz.prog 166 #[.string s] w fun e w'=>e = .returned (.int .i64 ((zaf s.data.toList:Nat):Int))∧w=w':=by
 have hsz:s.data.toList.length=s.size:=by simp
 have HSZ:=Lib.hid hsz
 have HD:=Lib.hid hd
 clear hsz hd
 go_enter Tryz.func166,Tryz.ntmps166
 go_wp2
 go_loop [3,4] (fun n i=>∃ k v:Nat,k≤s.size∧i = .int .i64 k∧n = .int .i64 (v:Int)∧Hid (v=zaf (s.data.toList.take k))) (fun _ i=>s.size - (intOf i).toNat)
 case atStart=>exact ⟨0,0,Nat.zero_le _,rfl,rfl,rfl⟩
 case round=>
  obtain ⟨k,v,hk,rfl,rfl,hv⟩:=hrel
  by_cases hlt:k<s.size
  ·have htk:=zcP s.data.toList HD.out 0 k
   rw [List.drop_zero] at htk
   have hvb:=za6 _ htk
   rw [←hv.out] at hvb
   have hp:10 ^ (s.data.toList.take k).length≤10 ^ 17:=Nat.pow_le_pow_right (by omega) (by rw [List.length_take];omega)
   have e17:(10:Nat) ^ 17=100000000000000000:=by decide
   have hv17:v<100000000000000000:=by omega
   have hcm:(s[k]'hlt) ∈ s.data.toList:=by
    have:(s[k]'hlt)=s.data.toList[k]'(by rw [HSZ.out];exact hlt):=rfl
    rw [this]
    exact List.getElem_mem _
   have hc:=zdd HD.out hcm
   have hts:s.data.toList.take (k+1)=s.data.toList.take k++[s[k]'hlt]:=by
    rw [List.take_succ_eq_append_getElem (by rw [HSZ.out];exact hlt)]
    rfl
   have hv':v*10+((s[k]'hlt).toNat - 48)=zaf (s.data.toList.take (k+1)):=by rw [hts,zc1,hv.out]
   obtain ⟨c,hcd⟩:∃ c:Nat,(s[k]'hlt).toNat=c:=⟨_,rfl⟩
   rw [hcd] at hc hv'
   obtain ⟨v',hvd⟩:∃ v',v'=v*10+(c - 48):=⟨_,rfl⟩
   rw [←hvd] at hv'
   have ev:10*(v:Int)+(c:Int) - 48=(v':Int):=by omega
   have HV:=Lib.hid hv'
   clear htk hvb hp e17 hcm hts hv' hvd hv
   go_wp2
   go_round
   case rel=>exact ⟨k+1,v',by omega,by go_num,rfl,HV.out⟩
   case measure=>simp [intOf];omega
  ·obtain rfl:k=s.size:=by omega
   have hfin:v=zaf s.data.toList:=by rw [hv.out,List.take_of_length_le (by rw [HSZ.out];exact Nat.le_refl _)]
   have HF:=Lib.hid hfin
   clear hfin hv
   go_wp2
   go_ret
   exact ⟨by rw [HF.out];rfl,rfl⟩
set_option maxHeartbeats 1000000 in
theorem zbV (s:ByteArray) (w:World) (hs:s.size≤9223372036854775807) :
  Calls Tryz.prog 124 #[.string s] w fun e w'=>e = .returned (.int .i64 ((zbp s.data.toList:Nat):Int))∧w=w':=by
 have hsz:s.data.toList.length=s.size:=by simp
 have HSZ:=Lib.hid hsz
 clear hsz
 go_enter Tryz.func124,Tryz.ntmps124
 go_wp2
 go_loop [3] (fun i=>∃ k:Nat,k≤s.size∧i = .int .i64 k∧Hid (∀ c ∈ s.data.toList.take k,c≠47)) (fun i=>s.size - (intOf i).toNat)
 case atStart=>exact ⟨0,Nat.zero_le _,rfl,by intro c hc;simp at hc⟩
 case round=>
  obtain ⟨k,hk,rfl,hv⟩:=hrel
  by_cases hlt:k<s.size
  ·have hgl:k<s.data.toList.length:=by rw [HSZ.out];exact hlt
   have hge:s.data.toList[k]=s[k]'hlt:=rfl
   by_cases h47:(s[k]'hlt).toNat=47
   ·have hb:s[k]'hlt=47:=UInt8.toNat_inj.1 h47
    have hsl:zbp s.data.toList=k:=by
     have e:s.data.toList=s.data.toList.take k++47 :: s.data.toList.drop (k+1):=by
      conv=>lhs;rw [←List.take_append_drop k s.data.toList,List.drop_eq_getElem_cons hgl,hge,hb]
     rw [e,zcj hv.out,List.length_take]
     omega
    have HS:=Lib.hid hsl
    clear hsl hb hge
    go_wp2
    go_ret
    exact ⟨by rw [HS.out];rfl,rfl⟩
   ·have hb:s[k]'hlt≠47:=fun h=>h47 (by rw [h];decide)
    have HV:Hid (∀ c ∈ s.data.toList.take (k+1),c≠47):=by
     show ∀ c ∈ s.data.toList.take (k+1),c≠47
     rw [List.take_succ_eq_append_getElem hgl,hge]
     intro c hc
     rcases List.mem_append.1 hc with hc | hc
     ·exact hv.out c hc
     ·rw [List.mem_singleton.1 hc];exact hb
    clear hge hb
    obtain ⟨c,hcd⟩:∃ c:Nat,(s[k]'hlt).toNat=c:=⟨_,rfl⟩
    rw [hcd] at h47
    have d1:((c:Int)==47)=false:=by rw [beq_eq_false_iff_ne];omega
    clear h47
    go_wp2
    go_round
    case rel=>exact ⟨k+1,by omega,by go_num,HV.out⟩
    case measure=>simp [intOf];omega
  ·obtain rfl:k=s.size:=by omega
   have hfin:zbp s.data.toList=s.size:=by
    have h1:=hv.out
    rw [List.take_of_length_le (by rw [HSZ.out];exact Nat.le_refl _)] at h1
    rw [zbM h1,HSZ.out]
   have HF:=Lib.hid hfin
   clear hfin hv
   go_wp2
   go_ret
   exact ⟨by rw [HF.out];rfl,rfl⟩
theorem zlQ:∀ d:Nat,d<10→((⟨#[48,49,50,51,52,53,54,55,56,57]⟩:ByteArray).extract d (d+1))=⟨#[Dec.dgt d]⟩:=by
 intro d hd
 have:d=0∨d=1∨d=2∨d=3∨d=4∨d=5∨d=6∨d=7∨d=8∨d=9:=by omega
 rcases this with rfl | rfl | rfl | rfl | rfl | rfl | rfl | rfl | rfl | rfl<;>decide
set_option maxHeartbeats 1000000 in
theorem zcu (n least:Nat) (w:World) (hn:n≤9223372036854775807) (hl:least≤19) :
  Calls Tryz.prog 168 #[.int .i64 (n:Int),.int .i64 (least:Int)] w fun e w'=>(∃ s:ByteArray,e = .returned (.string s)∧s.data.toList=Dec.pad (decK n least) n)∧w=w':=by
 have hK:=zsx (n:=n) (least:=least) (by omega) hl
 obtain ⟨K,hKd⟩:∃ K,decK n least=K:=⟨_,rfl⟩
 rw [hKd] at hK ⊢
 have HK:=Lib.hid hKd
 clear hKd
 go_enter Tryz.func168,Tryz.ntmps168
 go_wp2
 go_loop [0,5] (fun v0 v5=>∃ (k q:Nat) (s:ByteArray),k≤K∧v0 = .int .i64 (q:Int)∧v5 = .string s∧q≤9223372036854775807∧s.size=k∧Hid (q=n / 10 ^ k∧s.data.toList=Dec.pad k n)) (fun _ v5=>K - zqJ v5)
 case atStart=>exact ⟨0,n,⟨#[]⟩,Nat.zero_le _,rfl,rfl,hn,rfl,by simp,rfl⟩
 case round=>
  obtain ⟨k,q,s,hk,rfl,rfl,hq,hsz,hv⟩:=hrel
  have HSZ:=Lib.hid hsz
  have hss:s.size≤19:=by omega
  by_cases hgo:0<q∨s.size<least
  ·have hk1:k+1≤K:=by
    rw [←HK.out]
    refine zoJ ?_
    rw [←hv.out.1,←hsz]
    exact hgo
   obtain ⟨d,hd⟩:∃ d,d=q % 10:=⟨_,rfl⟩
   obtain ⟨q',hq'⟩:∃ q',q'=q / 10:=⟨_,rfl⟩
   have hd10:d<10:=by omega
   have ed:(q:Int) % 10=(d:Int):=by omega
   have eq:(q:Int) / 10=(q':Int):=by omega
   have hx:=zlQ d hd10
   have HI:Hid (q'=n / 10 ^ (k+1)∧((⟨#[Dec.dgt d]⟩:ByteArray)++s).data.toList=Dec.pad (k+1) n):=by
    refine ⟨by rw [hq',hv.out.1,Nat.div_div_eq_div_mul,Nat.pow_succ],?_⟩
    rw [zqb,ByteArray.data_append,Array.toList_append,hv.out.2,hd,hv.out.1]
    rfl
   have HS1:Hid (((⟨#[Dec.dgt d]⟩:ByteArray)++s).size=k+1):=by
    show ((⟨#[Dec.dgt d]⟩:ByteArray)++s).size=k+1
    rw [ByteArray.size_append,HSZ.out]
    show 1+k=k+1
    omega
   have hcase:(decide (0<q)=true)∨(decide (0<q)=false∧decide (s.size<least)=true):=by
    simp only [decide_eq_true_eq,decide_eq_false_iff_not]
    omega
   have HX:=Lib.hid hx
   clear hd hq' hgo hv hsz hx
   rcases hcase with d1 | ⟨d1,d2⟩
   all_goals
    have hx:=HX.out
    go_wp2
    go_round
    case rel=>exact ⟨k+1,q',_,hk1,rfl,rfl,by omega,HS1.out,HI.out⟩
    case measure=>have:=HS1.out;have:=HSZ.out;simp [zqJ] at *; omega
  ·have hkK:k=K:=by
    rw [←HK.out]
    exact zpr (by rw [←hv.out.1];omega) (by omega) (by rw [HK.out];exact hk)
   have d1:decide (0<q)=false:=by simp;omega
   have d2:decide (s.size<least)=false:=by simp;omega
   have HF:Hid (s.data.toList=Dec.pad K n):=by
    show s.data.toList=Dec.pad K n
    rw [←hkK];exact hv.out.2
   clear hv hkK hgo hsz
   go_wp2
   go_ret
   exact ⟨⟨s,rfl,HF.out⟩,rfl⟩
end Go.Proofs.YtmkihdjolnlccaaGreatDoor
namespace Go.Proofs.YtmkihdjolnlccaaGreatDoor.Dn
theorem ztJ {t r top v1 v2 u2 P rest vr:Nat} (h:t*v1+r=top) (hc:r*B+u2<t*v2) (hr:rest<P):(top*B+u2)*P+rest<t*((v1*B+v2)*P+vr):=by
 have e:t*(v1*B+v2)=t*v1*B+t*v2:=by rw [Nat.mul_add,Nat.mul_assoc]
 have h1:top*B+u2+1≤t*(v1*B+v2):=by
  rw [e,←h,Nat.add_mul]
  omega
 have h2:=Nat.mul_le_mul_right P h1
 have h3:t*((v1*B+v2)*P+vr)=t*(v1*B+v2)*P+t*vr:=by rw [Nat.mul_add,Nat.mul_assoc]
 rw [h3]
 rw [Nat.add_mul,Nat.one_mul] at h2
 omega
theorem ztZ {t r top v1 v2 u2 P rest vr:Nat} (h:t*v1+r=top) (ht:t<B) (hv2:v2<B) (hv1:1≤v1) (hvr:vr<P) (hc:B≤r∨t*v2≤r*B+u2) :
  t*((v1*B+v2)*P+vr)<(top*B+u2)*P+rest+((v1*B+v2)*P+vr):=by
 have hc2:t*v2≤r*B+u2:=by
  rcases hc with hc | hc
  ·have h1:t*v2≤B*B:=Nat.mul_le_mul (Nat.le_of_lt ht) (Nat.le_of_lt hv2)
   have h2:B*B≤r*B:=Nat.mul_le_mul_right _ hc
   omega
  ·exact hc
 have e:t*(v1*B+v2)=t*v1*B+t*v2:=by rw [Nat.mul_add,Nat.mul_assoc]
 have h1:t*(v1*B+v2)≤top*B+u2:=by
  rw [e,←h,Nat.add_mul]
  omega
 have h2:=Nat.mul_le_mul_right P h1
 have h3:t*((v1*B+v2)*P+vr)=t*(v1*B+v2)*P+t*vr:=by rw [Nat.mul_add,Nat.mul_assoc]
 have h4:t*vr≤t*P:=Nat.mul_le_mul_left _ (Nat.le_of_lt hvr)
 have hP:0<P:=Nat.lt_of_le_of_lt (Nat.zero_le _) hvr
 have h5:t*P<B*P:=Nat.mul_lt_mul_of_pos_right ht hP
 have h6:B*P≤v1*B*P:=by
  rw [Nat.mul_assoc]
  exact Nat.le_mul_of_pos_left _ hv1
 have h7:(v1*B+v2)*P=v1*B*P+v2*P:=Nat.add_mul _ _ _
 rw [h3]
 omega
theorem zpa {t U V:Nat} (hV:0<V) (h1:U / V≤t) (h2:t*V<U+V):t=U / V∨t=U / V+1:=by
 have h3:t≤U / V+1:=by
  rcases Nat.lt_or_ge t (U / V+2) with h | h
  ·omega
  ·exfalso
   have h4:(U / V+2)*V≤t*V:=Nat.mul_le_mul_right _ h
   have h5:=Nat.div_add_mod U V
   have h6:=Nat.mod_lt U hV
   rw [Nat.mul_comm V] at h5
   rw [Nat.add_mul] at h4
   omega
 omega
theorem zrI {t U V:Nat} (hV:0<V) (h:U<t*V):U / V≤t - 1:=by
 have:=(Nat.div_lt_iff_lt_mul hV).2 h
 omega
theorem zpD {u p:Nat} (hu:u<B):(p % B≤u→u - p % B<B∧u - p % B+p=u+B*(p / B))∧(u<p % B→u+B - p % B<B∧u+B - p % B+p=u+B*(p / B+1)):=by
 have h1:=Nat.mod_add_div p B
 have h2:=Nat.mod_lt p zaA
 refine ⟨fun h=>⟨by omega,by omega⟩,fun h=>⟨by omega,?_⟩⟩
 rw [Nat.mul_add,Nat.mul_one]
 omega
theorem zsg {W W' V P t ut b:Nat} (h:W'+t*V=W+P*b) (hW':W'<P) (hVP:V<P) (hV:0<V) (ht:t=(W+P*ut) / V∨t=(W+P*ut) / V+1) :
  (b≤ut→ut=b∧t=(W+P*ut) / V∧W'=(W+P*ut) % V)∧(ut<b→b=ut+1∧t=(W+P*ut) / V+1∧W'+V=P+(W+P*ut) % V):=by
 generalize hU:W+P*ut=U at *
 have hdm:=Nat.div_add_mod U V
 have hml:=Nat.mod_lt U hV
 rw [Nat.mul_comm V] at hdm
 generalize hq:U / V=q at *
 generalize hr:U % V=r at *
 constructor
 ·intro hb
  obtain ⟨k,rfl⟩:∃ k,ut=b+k:=⟨ut - b,by omega⟩
  rw [Nat.mul_add] at hU
  rcases ht with rfl | rfl
  ·have h1:W'+P*k=r:=by omega
   rcases Nat.eq_zero_or_pos k with rfl | hk
   ·exact ⟨by omega,rfl,by simpa using h1⟩
   ·exfalso
    have:=Nat.le_mul_of_pos_right P hk
    omega
  ·exfalso
   rw [Nat.add_mul,Nat.one_mul] at h
   omega
 ·intro hb
  obtain ⟨k,rfl⟩:∃ k,b=ut+1+k:=⟨b - ut - 1,by omega⟩
  rw [Nat.mul_add,Nat.mul_add,Nat.mul_one] at h
  rcases ht with rfl | rfl
  ·exfalso
   omega
  ·rw [Nat.add_mul,Nat.one_mul] at h
   rcases Nat.eq_zero_or_pos k with rfl | hk
   ·exact ⟨by omega,rfl,by simp at h;omega⟩
   ·exfalso
    have:=Nat.le_mul_of_pos_right P hk
    omega
theorem zhE (w:List Nat) (k:Nat) (hl:k+2<w.length) (hz:val (w.drop (k+3))=0):val w=((w[k+2]*B+w[k+1])*B+w[k])*B ^ k+val (w.take k):=by
 rw [zav w (k+3) (by omega),hz,zat w (k+2) hl,zat w (k+1) (by omega),zat w k (by omega)]
 rw [Nat.mul_zero,Nat.add_zero]
 simp only [Nat.add_mul,Nat.pow_succ]
 have e1:w[k+2]*B*B*B ^ k=B ^ k*B*B*w[k+2]:=by
  rw [Nat.mul_comm (w[k+2]*B*B),Nat.mul_comm (w[k+2]*B),Nat.mul_comm w[k+2]]
  simp only [Nat.mul_assoc]
 have e2:w[k+1]*B*B ^ k=B ^ k*B*w[k+1]:=by
  rw [Nat.mul_comm (w[k+1]*B),Nat.mul_comm w[k+1]]
  simp only [Nat.mul_assoc]
 have e3:w[k]*B ^ k=B ^ k*w[k]:=Nat.mul_comm _ _
 omega
theorem zhQ (w:List Nat) (k:Nat) (hl:w.length=k+2):val w=(w[k+1]*B+w[k])*B ^ k+val (w.take k):=by
 have h1:=zat w (k+1) (by omega)
 have h2:=zat w k (by omega)
 rw [List.take_of_length_le (by omega)] at h1
 rw [h1,h2,Nat.pow_succ,Nat.add_mul]
 have e2:w[k+1]*B*B ^ k=B ^ k*B*w[k+1]:=by
  rw [Nat.mul_comm (w[k+1]*B),Nat.mul_comm w[k+1]]
  simp only [Nat.mul_assoc]
 have e3:w[k]*B ^ k=B ^ k*w[k]:=Nat.mul_comm _ _
 omega
theorem zlk (u:List Nat) (j n V:Nat) (h:val (u.drop (j+1))<V) (hV:V<B ^ n):val ((u.drop j).drop (n+1))=0:=by
 rw [List.drop_drop]
 rcases Nat.lt_or_ge (u.drop (j+1)).length n with hl | hl
 ·rw [List.drop_eq_nil_of_le (by rw [List.length_drop] at hl;omega)]
  rfl
 ·have hs:=zav (u.drop (j+1)) n hl
  rw [List.drop_drop,show j+1+n=j+(n+1) by omega] at hs
  generalize val (u.drop (j+(n+1)))=z at *
  rcases Nat.eq_zero_or_pos z with h0 | h0
  ·exact h0
  ·exfalso
   have:=Nat.le_mul_of_pos_right (B ^ n) h0
   omega
theorem zo1 {top v1 v2 u2 P rest vr:Nat} (hv1:1≤v1) (hr:rest<P) (hu2:u2<B):((top*B+u2)*P+rest) / ((v1*B+v2)*P+vr)≤top / v1:=by
 have hP:0<P:=Nat.lt_of_le_of_lt (Nat.zero_le _) hr
 have hVp:0<(v1*B+v2)*P+vr:=by
  have h1:1*1≤v1*B:=Nat.mul_le_mul hv1 (Nat.le_of_lt zdL)
  have h2:1*1≤(v1*B+v2)*P:=Nat.mul_le_mul (by omega) hP
  omega
 refine Nat.le_of_lt_succ ((Nat.div_lt_iff_lt_mul hVp).2 ?_)
 have h1:top+1≤(top / v1+1)*v1:=by
  have:=Nat.div_add_mod top v1
  have:=Nat.mod_lt top hv1
  rw [Nat.add_mul,Nat.one_mul,Nat.mul_comm]
  omega
 generalize top / v1=t at *
 have h2:(top+1)*(B*P)≤(t+1)*v1*(B*P):=Nat.mul_le_mul_right _ h1
 have e1:(t+1)*v1*(B*P)=(t+1)*(v1*B*P):=by simp only [Nat.mul_assoc]
 have e2:(t+1)*(v1*B*P)≤(t+1)*((v1*B+v2)*P+vr):=by
  apply Nat.mul_le_mul_left
  rw [Nat.add_mul]
  omega
 have e3:(top+1)*(B*P)=top*B*P+B*P:=by rw [Nat.add_mul,Nat.one_mul];simp only [Nat.mul_assoc]
 have e4:(u2+1)*P≤B*P:=Nat.mul_le_mul_right _ hu2
 rw [Nat.add_mul,Nat.one_mul] at e4
 show (top*B+u2)*P+rest<(t+1)*_
 rw [Nat.add_mul]
 omega
theorem zq1 {top v1 v2 u2 P rest vr:Nat} (hvr:vr<P) (hv2:v2<B) (hU:(top*B+u2)*P+rest<B*((v1*B+v2)*P+vr)):top≤B*v1+(B - 1):=by
 rcases Nat.lt_or_ge top (B*v1+B) with h | h
 ·omega
 ·exfalso
  have hP:0<P:=Nat.lt_of_le_of_lt (Nat.zero_le _) hvr
  have h1:(B*v1+B)*(B*P)≤top*(B*P):=Nat.mul_le_mul_right _ h
  have e0:top*(B*P)=top*B*P:=by simp only [Nat.mul_assoc]
  have h2:(v2+1)*P≤B*P:=Nat.mul_le_mul_right _ hv2
  rw [Nat.add_mul,Nat.one_mul] at h2
  have h3:(v1*B+v2)*P+vr<v1*B*P+B*P:=by rw [Nat.add_mul];omega
  have h4:B*((v1*B+v2)*P+vr)<B*(v1*B*P+B*P):=Nat.mul_lt_mul_of_pos_left h3 zaA
  have e1:B*(v1*B*P+B*P)=(B*v1+B)*(B*P):=by
   rw [Nat.mul_add,Nat.add_mul]
   simp only [Nat.mul_assoc]
  have e2:(top*B+u2)*P=top*B*P+u2*P:=Nat.add_mul _ _ _
  omega
theorem zpq {t r top v1:Nat} (h:t*v1+r=top) (hr:B≤r) (ht:top≤B*v1+(B - 1)):t<B:=by
 rcases Nat.lt_or_ge t B with h1 | h1
 ·exact h1
 ·exfalso
  have h2:B*v1≤t*v1:=Nat.mul_le_mul_right _ h1
  have:=zaA
  omega
theorem zns {X V Q P lo U:Nat} (h:X=V*Q*(P*B)+(lo+P*U)):X=V*(U / V+B*Q)*P+(lo+P*(U % V)):=by
 have hdm:=Nat.div_add_mod U V
 generalize U / V=q at *
 generalize U % V=r at *
 subst hdm
 rw [h,Nat.mul_add,Nat.mul_add,Nat.add_mul]
 have e1:V*Q*(P*B)=V*(B*Q)*P:=by
  rw [Nat.mul_assoc,Nat.mul_assoc V (B*Q)]
  congr 1
  rw [Nat.mul_comm B Q,Nat.mul_assoc,Nat.mul_comm P B]
 have e2:P*(V*q)=V*q*P:=Nat.mul_comm _ _
 omega
theorem zsy {a b f Q R:Nat} (hb:0<b) (hf:0<f) (h:a*f=b*f*Q+R) (hR:R<b*f):Q=a / b∧R=a % b*f:=by
 have hbf:0<b*f:=Nat.mul_pos hb hf
 have h1:a*f / (b*f)=Q:=by
  rw [h,Nat.mul_add_div hbf,Nat.div_eq_of_lt hR,Nat.add_zero]
 have h2:a*f % (b*f)=R:=by
  rw [h,Nat.mul_add_mod,Nat.mod_eq_of_lt hR]
 rw [Nat.mul_div_mul_right _ _ hf] at h1
 rw [Nat.mul_mod_mul_right] at h2
 exact ⟨h1.symm,h2.symm⟩
theorem zog {b n f v1:Nat} (hb:b<B ^ (n+1)) (h1:B ^ n≤b) (hf:f=B / (b / B ^ n+1)) (hv:v1=b*f / B ^ n):b*f<B ^ (n+1)∧B≤2*v1+1:=by
 have hP:0<B ^ n:=Nat.pow_pos zaA
 have hd:=Nat.div_add_mod b (B ^ n)
 have hm:=Nat.mod_lt b hP
 have hb1:1≤b / B ^ n:=(Nat.le_div_iff_mul_le hP).2 (by omega)
 have hbB:b / B ^ n<B:=(Nat.div_lt_iff_lt_mul hP).2 (by rw [Nat.mul_comm,←Nat.pow_succ];exact hb)
 obtain ⟨d,hd1⟩:∃ d,d=b / B ^ n:=⟨_,rfl⟩
 rw [←hd1] at hd hb1 hbB hf
 generalize b % B ^ n=bm at hd hm
 have hfd:=Nat.div_add_mod B (d+1)
 have hfm:=Nat.mod_lt B (show 0<d+1 by omega)
 rw [←hf] at hfd
 generalize B % (d+1)=Bm at hfd hfm
 have hfd2:(d+1)*f≤B:=by omega
 constructor
 ·have h2:b<(d+1)*B ^ n:=by rw [Nat.add_mul,Nat.one_mul,Nat.mul_comm d];omega
  have hf0:0<f:=by
   rw [hf]
   exact Nat.div_pos (by omega) (by omega)
  have h3:b*f<(d+1)*B ^ n*f:=Nat.mul_lt_mul_of_pos_right h2 hf0
  have e:(d+1)*B ^ n*f=(d+1)*f*B ^ n:=by rw [Nat.mul_right_comm]
  have h4:(d+1)*f*B ^ n≤B*B ^ n:=Nat.mul_le_mul_right _ hfd2
  rw [Nat.pow_succ,Nat.mul_comm (B ^ n)]
  omega
 ·have h2:d*f≤v1:=by
   rw [hv]
   refine (Nat.le_div_iff_mul_le hP).2 ?_
   have h5:B ^ n*d*f≤b*f:=Nat.mul_le_mul_right _ (by omega)
   have e:d*f*B ^ n=B ^ n*d*f:=by rw [Nat.mul_comm,Nat.mul_assoc]
   omega
  have hf0:0<f:=by
   rw [hf]
   exact Nat.div_pos (by omega) (by omega)
  obtain ⟨d',rfl⟩:∃ d',d=d'+1:=⟨d - 1,by omega⟩
  obtain ⟨f',hf'⟩:∃ f',f=f'+1:=⟨f - 1,by omega⟩
  rw [hf'] at hfd h2
  have h8:(d'+1)*(f'+1)=d'*f'+d'+f'+1:=by
   rw [Nat.add_mul,Nat.mul_add,Nat.mul_one,Nat.one_mul]
   omega
  rw [Nat.add_mul (d'+1) 1,Nat.one_mul,h8] at hfd
  rw [h8] at h2
  omega
end Go.Proofs.YtmkihdjolnlccaaGreatDoor.Dn
