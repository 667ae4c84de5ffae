/- The reference's Calibrated. -/
import Derived.Test.YtjhgadajpliclaaGreatDoorKRc4
import Derived.Test.YtjhgadajpliclaaGreatDoorKRc1
import Derived.Test.YtjhgadajpliclaaGreatDoorKRb24
import Derived.Deep.RegionHeld3
namespace Go.Proofs.YtjhgadajpliclaaGreatDoor
open Go.RowKit Bn
open Flt
def MarkSays (a st z c:Int) (g o v:ByteArray) (E:Int):Prop:=∀ W,Calls Tryz.prog 77 #[.agg #[.int .i64 a,.int .i64 st,.int .i64 z,.string g,.string o],.agg #[.int .i64 c,.string v]] W fun e w'=>e = .returned (.int .i64 E)∧Below W.heap.size W w'
def RefSub (s t:ByteArray) (p:Q):Prop:=∀ W,Calls Tryz.prog 68 #[.string s,.string t] W (RetS W p)
theorem CBlk.far1 {w:World} {g g':Nat} {c:Array Value} {t:TypeId} (h:CBlk w g c t) (hne:g'≠g) (k:Nat) (u:Value):CBlk (w.setCell ⟨g',k,none⟩ u) g c t:=(Below.heap_setCell _ ⟨g',k,none⟩ u g (fun e=>hne e.symm)).trans h
set_option maxHeartbeats 8000000 in
set_option maxRecDepth 100000 in
theorem rcal_early (a st z c1 c2 E1 E2 E:Int) (g o v1 v2:ByteArray) (w:World) (h1:MarkSays a st z c1 g o v1 E1) (h2:MarkSays a st z c2 g o v2 E2)
  (hE:(E1≠0∧E=E1)∨(E1=0∧E2≠0∧E=E2)∨(E1=0∧E2=0∧c1=c2∧E=9)) :
  Calls Tryz.prog 24 #[.agg #[.int .i64 a,.int .i64 st,.int .i64 z,.string g,.string o],.agg #[.int .i64 c1,.string v1],.agg #[.int .i64 c2,.string v2]] w fun e w'=>e = .returned (.tuple #[.agg #[.int .i64 0,.int .i64 0,.int .i64 0,.string { data:=#[] },.string { data:=#[] }],.int .i64 E])∧Below w.heap.size w w':=by
 have hb1:Below w.heap.size w ((((w.alloc (.cells #[.int .i64 a,.int .i64 st,.int .i64 z,.string g,.string o] 24)).alloc (.cells #[.int .i64 c1,.string v1] 52)).alloc (.cells #[.int .i64 c2,.string v2] 52)).alloc (.cells #[.int .i64 0,.int .i64 0,.int .i64 0,.string { data:=#[] },.string { data:=#[] }] 24)):=((((Below.refl _ _).alloc (Nat.le_refl _) _).alloc (by simp) _).alloc (by simp;omega) _).alloc (by simp;omega) _
 have a1:CBlk ((((w.alloc (.cells #[.int .i64 a,.int .i64 st,.int .i64 z,.string g,.string o] 24)).alloc (.cells #[.int .i64 c1,.string v1] 52)).alloc (.cells #[.int .i64 c2,.string v2] 52)).alloc (.cells #[.int .i64 0,.int .i64 0,.int .i64 0,.string { data:=#[] },.string { data:=#[] }] 24)) (w.heap.size) #[.int .i64 a,.int .i64 st,.int .i64 z,.string g,.string o] 24:=(((CBlk.new w _ _ _ rfl).alloc _).alloc _).alloc _
 have m1:CBlk ((((w.alloc (.cells #[.int .i64 a,.int .i64 st,.int .i64 z,.string g,.string o] 24)).alloc (.cells #[.int .i64 c1,.string v1] 52)).alloc (.cells #[.int .i64 c2,.string v2] 52)).alloc (.cells #[.int .i64 0,.int .i64 0,.int .i64 0,.string { data:=#[] },.string { data:=#[] }] 24)) (w.heap.size+1) #[.int .i64 c1,.string v1] 52:=((CBlk.new _ _ _ _ (by simp)).alloc _).alloc _
 have k1:CBlk ((((w.alloc (.cells #[.int .i64 a,.int .i64 st,.int .i64 z,.string g,.string o] 24)).alloc (.cells #[.int .i64 c1,.string v1] 52)).alloc (.cells #[.int .i64 c2,.string v2] 52)).alloc (.cells #[.int .i64 0,.int .i64 0,.int .i64 0,.string { data:=#[] },.string { data:=#[] }] 24)) (w.heap.size+1+1) #[.int .i64 c2,.string v2] 52:=(CBlk.new _ _ _ _ (by simp)).alloc _
 have r1:CBlk ((((w.alloc (.cells #[.int .i64 a,.int .i64 st,.int .i64 z,.string g,.string o] 24)).alloc (.cells #[.int .i64 c1,.string v1] 52)).alloc (.cells #[.int .i64 c2,.string v2] 52)).alloc (.cells #[.int .i64 0,.int .i64 0,.int .i64 0,.string { data:=#[] },.string { data:=#[] }] 24)) (w.heap.size+1+1+1) #[.int .i64 0,.int .i64 0,.int .i64 0,.string { data:=#[] },.string { data:=#[] }] 24:=CBlk.new _ _ _ _ (by simp)
 have H1:=Lib.hid h1
 have H2:=Lib.hid h2
 clear h1 h2
 rcases hE with ⟨h0,rfl⟩ | ⟨rfl,h0,rfl⟩ | ⟨rfl,rfl,hc,rfl⟩
 ·have d1:(E==0)=false:=beq_eq_false_iff_ne.2 h0
  have d2:(E != 0)=true:=by simpa using h0
  clear h0
  go_enter Tryz.func24,Tryz.ntmps24
  have x0:=a1.cell 0
  have x1:=a1.cell 1
  have x2:=a1.cell 2
  have x3:=a1.cell 3
  have x4:=a1.cell 4
  have y0:=m1.cell 0
  have y1:=m1.cell 1
  have z0:=k1.cell 0
  have z1:=k1.cell 1
  go_wp2_with fail
  generalize ((((w.alloc (.cells #[.int .i64 a,.int .i64 st,.int .i64 z,.string g,.string o] 24)).alloc (.cells #[.int .i64 c1,.string v1] 52)).alloc (.cells #[.int .i64 c2,.string v2] 52)).alloc (.cells #[.int .i64 0,.int .i64 0,.int .i64 0,.string { data:=#[] },.string { data:=#[] }] 24))=w1 at *
  refine (H1.out w1).mono ?_
  rintro e w2 ⟨rfl,hb2⟩
  have a2:=a1.below hb2 a1.lt
  have m2:=m1.below hb2 m1.lt
  have k2:=k1.below hb2 k1.lt
  have r2:=r1.below hb2 r1.lt
  have hB2:=hb1.trans (hb2.mono hb1.size)
  clear x0 x1 x2 x3 x4 y0 y1 z0 z1 hb2 a1 m1 k1 r1
  have x0:=a2.cell 0
  have x1:=a2.cell 1
  have x2:=a2.cell 2
  have x3:=a2.cell 3
  have x4:=a2.cell 4
  have y0:=m2.cell 0
  have y1:=m2.cell 1
  have z0:=k2.cell 0
  have z1:=k2.cell 1
  have u0:=r2.cell 0
  have u1:=r2.cell 1
  have u2:=r2.cell 2
  have u3:=r2.cell 3
  have u4:=r2.cell 4
  have f0:=r2.frozen 0
  have f1:=r2.frozen 1
  have f2:=r2.frozen 2
  have f3:=r2.frozen 3
  have f4:=r2.frozen 4
  have hset:=five_set hB2 (g:=w.heap.size+1+1+1) (by omega) (.int .i64 0) (.int .i64 0) (.int .i64 0) (.string { data:=#[] }) (.string { data:=#[] })
  go_wp2_with fail
  refine bodyPost_ret (v := .tuple #[.agg #[.int .i64 0,.int .i64 0,.int .i64 0,.string { data:=#[] },.string { data:=#[] }],.int .i64 E]) (by simp [results,Tryz.results24,go_sem,u0,u1,u2,u3,u4]) rfl ⟨rfl,hset⟩
 ·have d1:(E==0)=false:=beq_eq_false_iff_ne.2 h0
  have d2:(E != 0)=true:=by simpa using h0
  clear h0
  go_enter Tryz.func24,Tryz.ntmps24
  have x0:=a1.cell 0
  have x1:=a1.cell 1
  have x2:=a1.cell 2
  have x3:=a1.cell 3
  have x4:=a1.cell 4
  have y0:=m1.cell 0
  have y1:=m1.cell 1
  have z0:=k1.cell 0
  have z1:=k1.cell 1
  go_wp2_with fail
  generalize ((((w.alloc (.cells #[.int .i64 a,.int .i64 st,.int .i64 z,.string g,.string o] 24)).alloc (.cells #[.int .i64 c1,.string v1] 52)).alloc (.cells #[.int .i64 c2,.string v2] 52)).alloc (.cells #[.int .i64 0,.int .i64 0,.int .i64 0,.string { data:=#[] },.string { data:=#[] }] 24))=w1 at *
  refine (H1.out w1).mono ?_
  rintro e w2 ⟨rfl,hb2⟩
  have a2:=a1.below hb2 a1.lt
  have m2:=m1.below hb2 m1.lt
  have k2:=k1.below hb2 k1.lt
  have r2:=r1.below hb2 r1.lt
  have hB2:=hb1.trans (hb2.mono hb1.size)
  clear x0 x1 x2 x3 x4 y0 y1 z0 z1 hb2 a1 m1 k1 r1
  have x0:=a2.cell 0
  have x1:=a2.cell 1
  have x2:=a2.cell 2
  have x3:=a2.cell 3
  have x4:=a2.cell 4
  have y0:=m2.cell 0
  have y1:=m2.cell 1
  have z0:=k2.cell 0
  have z1:=k2.cell 1
  go_wp2_with fail
  refine (H2.out w2).mono ?_
  rintro e w3 ⟨rfl,hb3⟩
  have a3:=a2.below hb3 a2.lt
  have m3:=m2.below hb3 m2.lt
  have k3:=k2.below hb3 k2.lt
  have r3:=r2.below hb3 r2.lt
  have hB3:=hB2.trans (hb3.mono hB2.size)
  clear x0 x1 x2 x3 x4 y0 y1 z0 z1 hb3 a2 m2 k2 r2
  have x0:=a3.cell 0
  have x1:=a3.cell 1
  have x2:=a3.cell 2
  have x3:=a3.cell 3
  have x4:=a3.cell 4
  have y0:=m3.cell 0
  have y1:=m3.cell 1
  have z0:=k3.cell 0
  have z1:=k3.cell 1
  have u0:=r3.cell 0
  have u1:=r3.cell 1
  have u2:=r3.cell 2
  have u3:=r3.cell 3
  have u4:=r3.cell 4
  have f0:=r3.frozen 0
  have f1:=r3.frozen 1
  have f2:=r3.frozen 2
  have f3:=r3.frozen 3
  have f4:=r3.frozen 4
  have hset:=five_set hB3 (g:=w.heap.size+1+1+1) (by omega) (.int .i64 0) (.int .i64 0) (.int .i64 0) (.string { data:=#[] }) (.string { data:=#[] })
  go_wp2_with fail
  refine bodyPost_ret (v := .tuple #[.agg #[.int .i64 0,.int .i64 0,.int .i64 0,.string { data:=#[] },.string { data:=#[] }],.int .i64 E]) (by simp [results,Tryz.results24,go_sem,u0,u1,u2,u3,u4]) rfl ⟨rfl,hset⟩
 ·have d1:(c1==c2)=true:=by rw [hc];exact beq_self_eq_true _
  clear hc
  go_enter Tryz.func24,Tryz.ntmps24
  have x0:=a1.cell 0
  have x1:=a1.cell 1
  have x2:=a1.cell 2
  have x3:=a1.cell 3
  have x4:=a1.cell 4
  have y0:=m1.cell 0
  have y1:=m1.cell 1
  have z0:=k1.cell 0
  have z1:=k1.cell 1
  go_wp2_with fail
  generalize ((((w.alloc (.cells #[.int .i64 a,.int .i64 st,.int .i64 z,.string g,.string o] 24)).alloc (.cells #[.int .i64 c1,.string v1] 52)).alloc (.cells #[.int .i64 c2,.string v2] 52)).alloc (.cells #[.int .i64 0,.int .i64 0,.int .i64 0,.string { data:=#[] },.string { data:=#[] }] 24))=w1 at *
  refine (H1.out w1).mono ?_
  rintro e w2 ⟨rfl,hb2⟩
  have a2:=a1.below hb2 a1.lt
  have m2:=m1.below hb2 m1.lt
  have k2:=k1.below hb2 k1.lt
  have r2:=r1.below hb2 r1.lt
  have hB2:=hb1.trans (hb2.mono hb1.size)
  clear x0 x1 x2 x3 x4 y0 y1 z0 z1 hb2 a1 m1 k1 r1
  have x0:=a2.cell 0
  have x1:=a2.cell 1
  have x2:=a2.cell 2
  have x3:=a2.cell 3
  have x4:=a2.cell 4
  have y0:=m2.cell 0
  have y1:=m2.cell 1
  have z0:=k2.cell 0
  have z1:=k2.cell 1
  go_wp2_with fail
  refine (H2.out w2).mono ?_
  rintro e w3 ⟨rfl,hb3⟩
  have a3:=a2.below hb3 a2.lt
  have m3:=m2.below hb3 m2.lt
  have k3:=k2.below hb3 k2.lt
  have r3:=r2.below hb3 r2.lt
  have hB3:=hB2.trans (hb3.mono hB2.size)
  clear x0 x1 x2 x3 x4 y0 y1 z0 z1 hb3 a2 m2 k2 r2
  have x0:=a3.cell 0
  have x1:=a3.cell 1
  have x2:=a3.cell 2
  have x3:=a3.cell 3
  have x4:=a3.cell 4
  have y0:=m3.cell 0
  have y1:=m3.cell 1
  have z0:=k3.cell 0
  have z1:=k3.cell 1
  have u0:=r3.cell 0
  have u1:=r3.cell 1
  have u2:=r3.cell 2
  have u3:=r3.cell 3
  have u4:=r3.cell 4
  have f0:=r3.frozen 0
  have f1:=r3.frozen 1
  have f2:=r3.frozen 2
  have f3:=r3.frozen 3
  have f4:=r3.frozen 4
  have hset:=five_set hB3 (g:=w.heap.size+1+1+1) (by omega) (.int .i64 0) (.int .i64 0) (.int .i64 0) (.string { data:=#[] }) (.string { data:=#[] })
  go_wp2_with fail
  refine bodyPost_ret (v := .tuple #[.agg #[.int .i64 0,.int .i64 0,.int .i64 0,.string { data:=#[] },.string { data:=#[] }],.int .i64 9]) (by simp [results,Tryz.results24,go_sem,u0,u1,u2,u3,u4]) rfl ⟨rfl,hset⟩
set_option maxHeartbeats 16000000 in
set_option maxRecDepth 100000 in
theorem rcal_main (a st z c1 c2 sg:Int) (g o v1 v2 gs ot:ByteArray) (n1 n2 ru df sl pr off:Q) (R:Value) (w:World) (h1:MarkSays a st z c1 g o v1 0) (h2:MarkSays a st z c2 g o v2 0) (hne:(c1==c2)=false)
  (s1:RefSub v2 v1 df) (u2:∀ W,Calls Tryz.prog 49 #[.agg #[.int .i64 a,.int .i64 st,.int .i64 z,.string g,.string o],.int .i64 c2] W (RetS W n2)) (u1:∀ W,Calls Tryz.prog 49 #[.agg #[.int .i64 a,.int .i64 st,.int .i64 z,.string g,.string o],.int .i64 c1] W (RetS W n1))
  (s2:∀ s t,NumQ s n2→NumQ t n1→RefSub s t ru) (dv:∀ s t,NumQ s df→NumQ t ru→∀ W,Calls Tryz.prog 57 #[.string s,.string t] W (RetS W sl))
  (hs:∀ s,NumQ s sl→∀ W,Calls Tryz.prog 46 #[.string s] W fun e w'=>e = .returned (.int .i64 sg)∧W=w')
  (ml:∀ s t,NumQ s sl→NumQ t n1→∀ W,Calls Tryz.prog 78 #[.string s,.string t] W (RetS W pr)) (s3:∀ t,NumQ t pr→RefSub v1 t off)
  (q1:Small sl 600) (q2:Small off 600) (hgs:NumQ gs sl) (hot:NumQ ot off)
  (hbad:sg≤0→R = .tuple #[.agg #[.int .i64 0,.int .i64 0,.int .i64 0,.string { data:=#[] },.string { data:=#[] }],.int .i64 3]) (hgood:0<sg→R = .tuple #[.agg #[.int .i64 a,.int .i64 st,.int .i64 z,.string gs,.string ot],.int .i64 0]) :
  Calls Tryz.prog 24 #[.agg #[.int .i64 a,.int .i64 st,.int .i64 z,.string g,.string o],.agg #[.int .i64 c1,.string v1],.agg #[.int .i64 c2,.string v2]] w fun e w'=>e = .returned R∧Below w.heap.size w w':=by
 have hb1:Below w.heap.size w ((((w.alloc (.cells #[.int .i64 a,.int .i64 st,.int .i64 z,.string g,.string o] 24)).alloc (.cells #[.int .i64 c1,.string v1] 52)).alloc (.cells #[.int .i64 c2,.string v2] 52)).alloc (.cells #[.int .i64 0,.int .i64 0,.int .i64 0,.string { data:=#[] },.string { data:=#[] }] 24)):=((((Below.refl _ _).alloc (Nat.le_refl _) _).alloc (by simp) _).alloc (by simp;omega) _).alloc (by simp;omega) _
 have a1:CBlk ((((w.alloc (.cells #[.int .i64 a,.int .i64 st,.int .i64 z,.string g,.string o] 24)).alloc (.cells #[.int .i64 c1,.string v1] 52)).alloc (.cells #[.int .i64 c2,.string v2] 52)).alloc (.cells #[.int .i64 0,.int .i64 0,.int .i64 0,.string { data:=#[] },.string { data:=#[] }] 24)) (w.heap.size) #[.int .i64 a,.int .i64 st,.int .i64 z,.string g,.string o] 24:=(((CBlk.new w _ _ _ rfl).alloc _).alloc _).alloc _
 have m1:CBlk ((((w.alloc (.cells #[.int .i64 a,.int .i64 st,.int .i64 z,.string g,.string o] 24)).alloc (.cells #[.int .i64 c1,.string v1] 52)).alloc (.cells #[.int .i64 c2,.string v2] 52)).alloc (.cells #[.int .i64 0,.int .i64 0,.int .i64 0,.string { data:=#[] },.string { data:=#[] }] 24)) (w.heap.size+1) #[.int .i64 c1,.string v1] 52:=((CBlk.new _ _ _ _ (by simp)).alloc _).alloc _
 have k1:CBlk ((((w.alloc (.cells #[.int .i64 a,.int .i64 st,.int .i64 z,.string g,.string o] 24)).alloc (.cells #[.int .i64 c1,.string v1] 52)).alloc (.cells #[.int .i64 c2,.string v2] 52)).alloc (.cells #[.int .i64 0,.int .i64 0,.int .i64 0,.string { data:=#[] },.string { data:=#[] }] 24)) (w.heap.size+1+1) #[.int .i64 c2,.string v2] 52:=(CBlk.new _ _ _ _ (by simp)).alloc _
 have r1:CBlk ((((w.alloc (.cells #[.int .i64 a,.int .i64 st,.int .i64 z,.string g,.string o] 24)).alloc (.cells #[.int .i64 c1,.string v1] 52)).alloc (.cells #[.int .i64 c2,.string v2] 52)).alloc (.cells #[.int .i64 0,.int .i64 0,.int .i64 0,.string { data:=#[] },.string { data:=#[] }] 24)) (w.heap.size+1+1+1) #[.int .i64 0,.int .i64 0,.int .i64 0,.string { data:=#[] },.string { data:=#[] }] 24:=CBlk.new _ _ _ _ (by simp)
 have H1:=Lib.hid h1
 have H2:=Lib.hid h2
 have HS1:=Lib.hid s1
 have HS2:=Lib.hid s2
 have HS3:=Lib.hid s3
 have HU1:=Lib.hid u1
 have HU2:=Lib.hid u2
 have HDV:=Lib.hid dv
 have HSG:=Lib.hid hs
 have HML:=Lib.hid ml
 have HL:=Lib.hid (fun s t ty g W (hk:CBlk W g #[.string s,.string t] ty) (hs:NumQ s sl) (ht:NumQ t off)=>rLargeRow_two s t sl off ty g W hk hs ht q1 q2)
 have HGS:=Lib.hid hgs
 have HOT:=Lib.hid hot
 have HBAD:=Lib.hid hbad
 have HGOOD:=Lib.hid hgood
 clear h1 h2 s1 s2 s3 u1 u2 dv hs ml q1 q2 hgs hot hbad hgood
 go_enter Tryz.func24,Tryz.ntmps24
 have x0:=a1.cell 0
 have x1:=a1.cell 1
 have x2:=a1.cell 2
 have x3:=a1.cell 3
 have x4:=a1.cell 4
 have y0:=m1.cell 0
 have y1:=m1.cell 1
 have z0:=k1.cell 0
 have z1:=k1.cell 1
 go_wp2_with fail
 generalize ((((w.alloc (.cells #[.int .i64 a,.int .i64 st,.int .i64 z,.string g,.string o] 24)).alloc (.cells #[.int .i64 c1,.string v1] 52)).alloc (.cells #[.int .i64 c2,.string v2] 52)).alloc (.cells #[.int .i64 0,.int .i64 0,.int .i64 0,.string { data:=#[] },.string { data:=#[] }] 24))=w1 at *
 refine (H1.out w1).mono ?_
 rintro e w2 ⟨rfl,hb2⟩
 have a2:=a1.below hb2 a1.lt
 have m2:=m1.below hb2 m1.lt
 have k2:=k1.below hb2 k1.lt
 have r2:=r1.below hb2 r1.lt
 have hB2:=hb1.trans (hb2.mono hb1.size)
 clear x0 x1 x2 x3 x4 y0 y1 z0 z1 hb2 a1 m1 k1 r1
 have x0:=a2.cell 0
 have x1:=a2.cell 1
 have x2:=a2.cell 2
 have x3:=a2.cell 3
 have x4:=a2.cell 4
 have y0:=m2.cell 0
 have y1:=m2.cell 1
 have z0:=k2.cell 0
 have z1:=k2.cell 1
 go_wp2_with fail
 refine (H2.out w2).mono ?_
 rintro e w3 ⟨rfl,hb3⟩
 have a3:=a2.below hb3 a2.lt
 have m3:=m2.below hb3 m2.lt
 have k3:=k2.below hb3 k2.lt
 have r3:=r2.below hb3 r2.lt
 have hB3:=hB2.trans (hb3.mono hB2.size)
 clear x0 x1 x2 x3 x4 y0 y1 z0 z1 hb3 a2 m2 k2 r2
 have x0:=a3.cell 0
 have x1:=a3.cell 1
 have x2:=a3.cell 2
 have x3:=a3.cell 3
 have x4:=a3.cell 4
 have y0:=m3.cell 0
 have y1:=m3.cell 1
 have z0:=k3.cell 0
 have z1:=k3.cell 1
 have a4:CBlk w3.drew _ _ _:=a3
 have m4:CBlk w3.drew _ _ _:=m3
 have k4:CBlk w3.drew _ _ _:=k3
 have r4:CBlk w3.drew _ _ _:=r3
 have hB4:Below w.heap.size w w3.drew:=hB3.drew
 clear a3 m3 k3 r3 H1 H2
 go_wp2_with fail
 go_region_held3 (fun w'=>w'.cell? ⟨w.heap.size,0,none⟩=some (.int .i64 a)∧w'.cell? ⟨w.heap.size,1,none⟩=some (.int .i64 st)∧w'.cell? ⟨w.heap.size,2,none⟩=some (.int .i64 z)∧w'.cell? ⟨w.heap.size,3,none⟩=some (.string g)∧w'.cell? ⟨w.heap.size,4,none⟩=some (.string o)∧w'.cell? ⟨w.heap.size+1,0,none⟩=some (.int .i64 c1)∧w'.cell? ⟨w.heap.size+1,1,none⟩=some (.string v1)∧w'.cell? ⟨w.heap.size+1+1,0,none⟩=some (.int .i64 c2)∧w'.cell? ⟨w.heap.size+1+1,1,none⟩=some (.string v2))
  ((refine ⟨?_,?_,?_,?_,?_,?_,?_,?_,?_⟩<;>first | exact a9.cell _ | exact m9.cell _ | exact k9.cell _ | exact a8.cell _ | exact m8.cell _ | exact k8.cell _ | exact a7.cell _ | exact m7.cell _ | exact k7.cell _ | exact a6.cell _ | exact m6.cell _ | exact k6.cell _ | exact a5.cell _ | exact m5.cell _ | exact k5.cell _ | exact a4.cell _ | exact m4.cell _ | exact k4.cell _))
  (first
   |(go_at_call 57;refine (HDV.out _ _ i5 i8 w8).mono ?_;rintro e w9 ⟨⟨s9,rfl,i9⟩,hb9⟩;have a9:=a8.below hb9 a8.lt;have m9:=m8.below hb9 m8.lt;have k9:=k8.below hb9 k8.lt;have r9:=r8.below hb9 r8.lt;have hB9:=hB8.trans (hb9.mono hB8.size))
   |(go_at_call 68;refine (HS2.out _ _ i6 i7 w7).mono ?_;rintro e w8 ⟨⟨s8,rfl,i8⟩,hb8⟩;have a8:=a7.below hb8 a7.lt;have m8:=m7.below hb8 m7.lt;have k8:=k7.below hb8 k7.lt;have r8:=r7.below hb8 r7.lt;have hB8:=hB7.trans (hb8.mono hB7.size))
   |(go_at_call 49;refine (HU1.out w6).mono ?_;rintro e w7 ⟨⟨s7,rfl,i7⟩,hb7⟩;have a7:=a6.below hb7 a6.lt;have m7:=m6.below hb7 m6.lt;have k7:=k6.below hb7 k6.lt;have r7:=r6.below hb7 r6.lt;have hB7:=hB6.trans (hb7.mono hB6.size))
   |(go_at_call 49;refine (HU2.out w5).mono ?_;rintro e w6 ⟨⟨s6,rfl,i6⟩,hb6⟩;have a6:=a5.below hb6 a5.lt;have m6:=m5.below hb6 m5.lt;have k6:=k5.below hb6 k5.lt;have r6:=r5.below hb6 r5.lt;have hB6:=hB5.trans (hb6.mono hB5.size))
   |(go_at_call 68;refine (HS1.out w3.drew).mono ?_;rintro e w5 ⟨⟨s5,rfl,i5⟩,hb5⟩;have a5:=a4.below hb5 a4.lt;have m5:=m4.below hb5 m4.lt;have k5:=k4.below hb5 k4.lt;have r5:=r4.below hb5 r4.lt;have hB5:=hB4.trans (hb5.mono hB4.size)))
 obtain rfl:=(HGS.out.one i9).symm
 clear x0 x1 x2 x3 x4 y0 y1 z0 z1 hb5 hb6 hb7 hb8 hb9 hB4 hB5 hB6 hB7 hB8 i5 i6 i7 i8 a4 m4 k4 r4 a5 m5 k5 r5 a6 m6 k6 r6 a7 m7 k7 r7 a8 m8 k8 r8 HS1 HU2 HS2 HDV
 by_cases hsg:sg≤0
 ·have d0:decide (sg≤0)=true:=decide_eq_true hsg
  have HR:=Lib.hid (HBAD.out hsg)
  clear HBAD HGOOD hsg
  go_wp2_with fail
  refine (HSG.out _ i9 w9).mono ?_
  rintro e w10 ⟨rfl,rfl⟩
  have u0:=r9.cell 0
  have u1:=r9.cell 1
  have u2:=r9.cell 2
  have u3:=r9.cell 3
  have u4:=r9.cell 4
  have f0:=r9.frozen 0
  have f1:=r9.frozen 1
  have f2:=r9.frozen 2
  have f3:=r9.frozen 3
  have f4:=r9.frozen 4
  have hset:=five_set hB9 (g:=w.heap.size+1+1+1) (by omega) (.int .i64 0) (.int .i64 0) (.int .i64 0) (.string { data:=#[] }) (.string { data:=#[] })
  go_wp2_with fail
  refine bodyPost_ret (v := .tuple #[.agg #[.int .i64 0,.int .i64 0,.int .i64 0,.string { data:=#[] },.string { data:=#[] }],.int .i64 3]) (by simp [results,Tryz.results24,go_sem,u0,u1,u2,u3,u4]) rfl ⟨by rw [HR.out],hset⟩
 have d0:decide (sg≤0)=false:=decide_eq_false hsg
 have HR:=Lib.hid (HGOOD.out (by omega))
 clear HBAD HGOOD hsg
 go_wp2_with fail
 refine (HSG.out _ i9 w9).mono ?_
 rintro e w10 ⟨rfl,rfl⟩
 have a11:CBlk w9.drew _ _ _:=a9
 have m11:CBlk w9.drew _ _ _:=m9
 have k11:CBlk w9.drew _ _ _:=k9
 have r11:CBlk w9.drew _ _ _:=r9
 have hB11:Below w.heap.size w w9.drew:=hB9.drew
 clear a9 m9 k9 r9 hB9 HSG
 go_wp2_with fail
 obtain ⟨Inv11,hInv11⟩:∃ I:Array Bool→Act→World→Prop,I=(fun listed ac W=>∃ (b0 b1 b2 b3 b4 b5 b6 b7 b8 b9 b10 b11 b12 b13:Bool) (u47 u48 u49 u50 u51 u52 u53 u54 u55 u56 u57 u58:Value) (sn:ByteArray) (sm:ByteArray),listed=#[b0,b1,b2,b3,b4,b5,b6,b7,b8,b9,b10,b11,b12,b13]∧ac={ tmps:=#[.agg #[.int .i64 a,.int .i64 st,.int .i64 z,.string g,.string o],.agg #[.int .i64 c1,.string v1],.agg #[.int .i64 c2,.string v2],.pointer (some ⟨w.heap.size,0,none⟩),.pointer (some ⟨w.heap.size+1,0,none⟩),.pointer (some ⟨w.heap.size+1+1,0,none⟩),.pointer (some ⟨w.heap.size+1+1+1,0,none⟩),.int .i64 0,.int .i64 0,.string gs,.agg #[.int .i64 a,.int .i64 st,.int .i64 z,.string g,.string o],.agg #[.int .i64 c1,.string v1],.int .i64 0,.int .i64 0,.bool true,.agg #[.int .i64 a,.int .i64 st,.int .i64 z,.string g,.string o],.agg #[.int .i64 c2,.string v2],.int .i64 0,.int .i64 0,.bool false,undef,undef,.pointer (some ⟨w.heap.size+1,0,none⟩),.int .i64 c1,.pointer (some ⟨w.heap.size+1+1,0,none⟩),.int .i64 c2,.bool false,undef,.pointer (some ⟨w.heap.size+1+1,1,none⟩),.string v2,.pointer (some ⟨w.heap.size+1,1,none⟩),.string v1,.string s5,.agg #[.int .i64 a,.int .i64 st,.int .i64 z,.string g,.string o],.pointer (some ⟨w.heap.size+1+1,0,none⟩),.int .i64 c2,.string s6,.agg #[.int .i64 a,.int .i64 st,.int .i64 z,.string g,.string o],.pointer (some ⟨w.heap.size+1,0,none⟩),.int .i64 c1,.string s7,.string s8,.string gs,.string gs,.int .i64 sg,.bool false,undef,u47,u48,u49,u50,u51,u52,u53,u54,u55,u56,u57,u58,undef,undef,undef,undef,undef,undef,undef,undef,undef,undef,undef],defers:=[] }∧Below w.heap.size w W∧CBlk W (w.heap.size+1) #[.int .i64 c1,.string v1] 52∧CBlk W (w.heap.size+1+1+1) #[.int .i64 0,.int .i64 0,.int .i64 0,.string { data:=#[] },.string { data:=#[] }] 24∧(b11=false→CBlk W (w.heap.size) #[.int .i64 a,.int .i64 st,.int .i64 z,.string g,.string o] 24)∧(b11=true→b13=false→CBlk W (w.heap.size) #[.int .i64 a,.int .i64 st,.int .i64 z,.string gs,.string o] 24)∧(b13=true→b11=true∧CBlk W (w.heap.size) #[.int .i64 a,.int .i64 st,.int .i64 z,.string gs,.string ot] 24)∧(b7=true→b4=true∧b6=true)∧(b8=true→b7=true∧b3=true)∧(b9=true→b8=true∧b2=true)∧(b11=true→b9=true)∧(b0=true→u47 = .string gs)∧(b1=true→u48 = .pointer (some ⟨w.heap.size+1,1,none⟩))∧(b2=true→u49 = .string v1)∧(b3=true→u50 = .string gs)∧(b4=true→u51 = .agg #[.int .i64 a,.int .i64 st,.int .i64 z,.string g,.string o])∧(b5=true→u52 = .pointer (some ⟨w.heap.size+1,0,none⟩))∧(b6=true→u53 = .int .i64 c1)∧(b7=true→u54 = .string sn∧NumQ sn n1)∧(b8=true→u55 = .string sm∧NumQ sm pr)∧(b9=true→u56 = .string ot)∧(b10=true→u57 = .pointer (some ⟨w.heap.size,3,none⟩))∧(b11=true→True)∧(b12=true→u58 = .pointer (some ⟨w.heap.size,4,none⟩))∧(b13=true→True)):=⟨_,rfl⟩
 have HInv11:=Lib.hid hInv11
 clear hInv11
 refine wp_region_inv (by kernel_rfl) Inv11 (by kernel_rfl) ?_ ?_ ?_
 ·rw [HInv11.out]
  exact ⟨false,false,false,false,false,false,false,false,false,false,false,false,false,false,undef,undef,undef,undef,undef,undef,undef,undef,undef,undef,undef,undef,⟨#[]⟩,⟨#[]⟩,rfl,rfl,hB11,m11,r11,(fun _=>a11),(fun h=>by cases h),(fun h=>by cases h),(fun h=>by cases h),(fun h=>by cases h),(fun h=>by cases h),(fun h=>by cases h),(fun h=>by cases h),(fun h=>by cases h),(fun h=>by cases h),(fun h=>by cases h),(fun h=>by cases h),(fun h=>by cases h),(fun h=>by cases h),(fun h=>by cases h),(fun h=>by cases h),(fun h=>by cases h),(fun h=>by cases h),(fun h=>by cases h),(fun h=>by cases h),(fun h=>by cases h)⟩
 ·intro i op listed ac W ho hI hl hdep
  rw [HInv11.out] at hI
  obtain ⟨b0,b1,b2,b3,b4,b5,b6,b7,b8,b9,b10,b11,b12,b13,u47,u48,u49,u50,u51,u52,u53,u54,u55,u56,u57,u58,sn,sm,rfl,rfl,hb,m,r,q0,q1,q2,o7,o8,o9,o11,f0,f1,f2,f3,f4,f5,f6,f7,f8,f9,f10,f11,f12,f13⟩:=hI
  match i,ho,hl,hdep with
  | 0,ho,hl,hdep=>
   have hun:b0=false:=Option.some.inj hl
   obtain rfl:=Option.some.inj ho
   have F_f0:=Lib.hid f0
   have F_f1:=Lib.hid f1
   have F_f2:=Lib.hid f2
   have F_f3:=Lib.hid f3
   have F_f4:=Lib.hid f4
   have F_f5:=Lib.hid f5
   have F_f6:=Lib.hid f6
   have F_f7:=Lib.hid f7
   have F_f8:=Lib.hid f8
   have F_f9:=Lib.hid f9
   have F_f10:=Lib.hid f10
   have F_f11:=Lib.hid f11
   have F_f12:=Lib.hid f12
   have F_f13:=Lib.hid f13
   have F_q0:=Lib.hid q0
   have F_q1:=Lib.hid q1
   have F_q2:=Lib.hid q2
   have F_o7:=Lib.hid o7
   have F_o8:=Lib.hid o8
   have F_o9:=Lib.hid o9
   have F_o11:=Lib.hid o11
   clear f0 f1 f2 f3 f4 f5 f6 f7 f8 f9 f10 f11 f12 f13 q0 q1 q2 o7 o8 o9 o11
   refine step_of ho fun K' hK => ?_
   go_simp
   have f0:=F_f0.out
   have f1:=F_f1.out
   have f2:=F_f2.out
   have f3:=F_f3.out
   have f4:=F_f4.out
   have f5:=F_f5.out
   have f6:=F_f6.out
   have f7:=F_f7.out
   have f8:=F_f8.out
   have f9:=F_f9.out
   have f10:=F_f10.out
   have f11:=F_f11.out
   have f12:=F_f12.out
   have f13:=F_f13.out
   have q0:=F_q0.out
   have q1:=F_q1.out
   have q2:=F_q2.out
   have o7:=F_o7.out
   have o8:=F_o8.out
   have o9:=F_o9.out
   have o11:=F_o11.out
   refine hK.out _ _ ?_
   rw [HInv11.out]
   exact ⟨true,b1,b2,b3,b4,b5,b6,b7,b8,b9,b10,b11,b12,b13,_,u48,u49,u50,u51,u52,u53,u54,u55,u56,u57,u58,sn,sm,rfl,rfl,hb,m,r,q0,q1,q2,o7,o8,o9,o11,(fun _=>rfl),f1,f2,f3,f4,f5,f6,f7,f8,f9,f10,f11,f12,f13⟩
  | 1,ho,hl,hdep=>
   have hun:b1=false:=Option.some.inj hl
   obtain rfl:=Option.some.inj ho
   have F_f0:=Lib.hid f0
   have F_f1:=Lib.hid f1
   have F_f2:=Lib.hid f2
   have F_f3:=Lib.hid f3
   have F_f4:=Lib.hid f4
   have F_f5:=Lib.hid f5
   have F_f6:=Lib.hid f6
   have F_f7:=Lib.hid f7
   have F_f8:=Lib.hid f8
   have F_f9:=Lib.hid f9
   have F_f10:=Lib.hid f10
   have F_f11:=Lib.hid f11
   have F_f12:=Lib.hid f12
   have F_f13:=Lib.hid f13
   have F_q0:=Lib.hid q0
   have F_q1:=Lib.hid q1
   have F_q2:=Lib.hid q2
   have F_o7:=Lib.hid o7
   have F_o8:=Lib.hid o8
   have F_o9:=Lib.hid o9
   have F_o11:=Lib.hid o11
   clear f0 f1 f2 f3 f4 f5 f6 f7 f8 f9 f10 f11 f12 f13 q0 q1 q2 o7 o8 o9 o11
   refine step_of ho fun K' hK => ?_
   go_simp
   have f0:=F_f0.out
   have f1:=F_f1.out
   have f2:=F_f2.out
   have f3:=F_f3.out
   have f4:=F_f4.out
   have f5:=F_f5.out
   have f6:=F_f6.out
   have f7:=F_f7.out
   have f8:=F_f8.out
   have f9:=F_f9.out
   have f10:=F_f10.out
   have f11:=F_f11.out
   have f12:=F_f12.out
   have f13:=F_f13.out
   have q0:=F_q0.out
   have q1:=F_q1.out
   have q2:=F_q2.out
   have o7:=F_o7.out
   have o8:=F_o8.out
   have o9:=F_o9.out
   have o11:=F_o11.out
   refine hK.out _ _ ?_
   rw [HInv11.out]
   exact ⟨b0,true,b2,b3,b4,b5,b6,b7,b8,b9,b10,b11,b12,b13,u47,_,u49,u50,u51,u52,u53,u54,u55,u56,u57,u58,sn,sm,rfl,rfl,hb,m,r,q0,q1,q2,o7,o8,o9,o11,f0,(fun _=>rfl),f2,f3,f4,f5,f6,f7,f8,f9,f10,f11,f12,f13⟩
  | 2,ho,hl,hdep=>
   have hun:b2=false:=Option.some.inj hl
   obtain rfl:=Option.some.inj ho
   have e1:b1=true:=hdep ⟨1,.data⟩ (by simp) rfl
   obtain rfl:=f1 e1
   have y0:=m.cell 0
   have y1:=m.cell 1
   have F_f0:=Lib.hid f0
   have F_f1:=Lib.hid f1
   have F_f2:=Lib.hid f2
   have F_f3:=Lib.hid f3
   have F_f4:=Lib.hid f4
   have F_f5:=Lib.hid f5
   have F_f6:=Lib.hid f6
   have F_f7:=Lib.hid f7
   have F_f8:=Lib.hid f8
   have F_f9:=Lib.hid f9
   have F_f10:=Lib.hid f10
   have F_f11:=Lib.hid f11
   have F_f12:=Lib.hid f12
   have F_f13:=Lib.hid f13
   have F_q0:=Lib.hid q0
   have F_q1:=Lib.hid q1
   have F_q2:=Lib.hid q2
   have F_o7:=Lib.hid o7
   have F_o8:=Lib.hid o8
   have F_o9:=Lib.hid o9
   have F_o11:=Lib.hid o11
   have F_e1:=Lib.hid e1
   clear f0 f1 f2 f3 f4 f5 f6 f7 f8 f9 f10 f11 f12 f13 q0 q1 q2 o7 o8 o9 o11 e1
   refine step_of ho fun K' hK => ?_
   go_simp
   have f0:=F_f0.out
   have f1:=F_f1.out
   have f2:=F_f2.out
   have f3:=F_f3.out
   have f4:=F_f4.out
   have f5:=F_f5.out
   have f6:=F_f6.out
   have f7:=F_f7.out
   have f8:=F_f8.out
   have f9:=F_f9.out
   have f10:=F_f10.out
   have f11:=F_f11.out
   have f12:=F_f12.out
   have f13:=F_f13.out
   have q0:=F_q0.out
   have q1:=F_q1.out
   have q2:=F_q2.out
   have o7:=F_o7.out
   have o8:=F_o8.out
   have o9:=F_o9.out
   have o11:=F_o11.out
   have e1:=F_e1.out
   refine hK.out _ _ ?_
   rw [HInv11.out]
   exact ⟨b0,b1,true,b3,b4,b5,b6,b7,b8,b9,b10,b11,b12,b13,u47,_,_,u50,u51,u52,u53,u54,u55,u56,u57,u58,sn,sm,rfl,rfl,hb,m,r,q0,q1,q2,o7,o8,(fun h=>⟨(o9 h).1,rfl⟩),o11,f0,(fun _=>rfl),(fun _=>rfl),f3,f4,f5,f6,f7,f8,f9,f10,f11,f12,f13⟩
  | 3,ho,hl,hdep=>
   have hun:b3=false:=Option.some.inj hl
   obtain rfl:=Option.some.inj ho
   have F_f0:=Lib.hid f0
   have F_f1:=Lib.hid f1
   have F_f2:=Lib.hid f2
   have F_f3:=Lib.hid f3
   have F_f4:=Lib.hid f4
   have F_f5:=Lib.hid f5
   have F_f6:=Lib.hid f6
   have F_f7:=Lib.hid f7
   have F_f8:=Lib.hid f8
   have F_f9:=Lib.hid f9
   have F_f10:=Lib.hid f10
   have F_f11:=Lib.hid f11
   have F_f12:=Lib.hid f12
   have F_f13:=Lib.hid f13
   have F_q0:=Lib.hid q0
   have F_q1:=Lib.hid q1
   have F_q2:=Lib.hid q2
   have F_o7:=Lib.hid o7
   have F_o8:=Lib.hid o8
   have F_o9:=Lib.hid o9
   have F_o11:=Lib.hid o11
   clear f0 f1 f2 f3 f4 f5 f6 f7 f8 f9 f10 f11 f12 f13 q0 q1 q2 o7 o8 o9 o11
   refine step_of ho fun K' hK => ?_
   go_simp
   have f0:=F_f0.out
   have f1:=F_f1.out
   have f2:=F_f2.out
   have f3:=F_f3.out
   have f4:=F_f4.out
   have f5:=F_f5.out
   have f6:=F_f6.out
   have f7:=F_f7.out
   have f8:=F_f8.out
   have f9:=F_f9.out
   have f10:=F_f10.out
   have f11:=F_f11.out
   have f12:=F_f12.out
   have f13:=F_f13.out
   have q0:=F_q0.out
   have q1:=F_q1.out
   have q2:=F_q2.out
   have o7:=F_o7.out
   have o8:=F_o8.out
   have o9:=F_o9.out
   have o11:=F_o11.out
   refine hK.out _ _ ?_
   rw [HInv11.out]
   exact ⟨b0,b1,b2,true,b4,b5,b6,b7,b8,b9,b10,b11,b12,b13,u47,u48,u49,_,u51,u52,u53,u54,u55,u56,u57,u58,sn,sm,rfl,rfl,hb,m,r,q0,q1,q2,o7,(fun h=>⟨(o8 h).1,rfl⟩),o9,o11,f0,f1,f2,(fun _=>rfl),f4,f5,f6,f7,f8,f9,f10,f11,f12,f13⟩
  | 4,ho,hl,hdep=>
   have hun:b4=false:=Option.some.inj hl
   obtain rfl:=Option.some.inj ho
   have n11:b11=false:=by
    cases h11:b11
    ·rfl
    ·have h9:=(o7 (o8 (o9 (o11 h11)).1).1).1;rw [hun] at h9;cases h9
   have k0:=q0 n11
   have x0:=k0.cell 0
   have x1:=k0.cell 1
   have x2:=k0.cell 2
   have x3:=k0.cell 3
   have x4:=k0.cell 4
   have F_f0:=Lib.hid f0
   have F_f1:=Lib.hid f1
   have F_f2:=Lib.hid f2
   have F_f3:=Lib.hid f3
   have F_f4:=Lib.hid f4
   have F_f5:=Lib.hid f5
   have F_f6:=Lib.hid f6
   have F_f7:=Lib.hid f7
   have F_f8:=Lib.hid f8
   have F_f9:=Lib.hid f9
   have F_f10:=Lib.hid f10
   have F_f11:=Lib.hid f11
   have F_f12:=Lib.hid f12
   have F_f13:=Lib.hid f13
   have F_q0:=Lib.hid q0
   have F_q1:=Lib.hid q1
   have F_q2:=Lib.hid q2
   have F_o7:=Lib.hid o7
   have F_o8:=Lib.hid o8
   have F_o9:=Lib.hid o9
   have F_o11:=Lib.hid o11
   clear f0 f1 f2 f3 f4 f5 f6 f7 f8 f9 f10 f11 f12 f13 q0 q1 q2 o7 o8 o9 o11
   refine step_of ho fun K' hK => ?_
   go_simp
   have f0:=F_f0.out
   have f1:=F_f1.out
   have f2:=F_f2.out
   have f3:=F_f3.out
   have f4:=F_f4.out
   have f5:=F_f5.out
   have f6:=F_f6.out
   have f7:=F_f7.out
   have f8:=F_f8.out
   have f9:=F_f9.out
   have f10:=F_f10.out
   have f11:=F_f11.out
   have f12:=F_f12.out
   have f13:=F_f13.out
   have q0:=F_q0.out
   have q1:=F_q1.out
   have q2:=F_q2.out
   have o7:=F_o7.out
   have o8:=F_o8.out
   have o9:=F_o9.out
   have o11:=F_o11.out
   refine hK.out _ _ ?_
   rw [HInv11.out]
   exact ⟨b0,b1,b2,b3,true,b5,b6,b7,b8,b9,b10,b11,b12,b13,u47,u48,u49,u50,_,u52,u53,u54,u55,u56,u57,u58,sn,sm,rfl,rfl,hb,m,r,q0,q1,q2,(fun h=>⟨rfl,(o7 h).2⟩),o8,o9,o11,f0,f1,f2,f3,(fun _=>rfl),f5,f6,f7,f8,f9,f10,f11,f12,f13⟩
  | 5,ho,hl,hdep=>
   have hun:b5=false:=Option.some.inj hl
   obtain rfl:=Option.some.inj ho
   have F_f0:=Lib.hid f0
   have F_f1:=Lib.hid f1
   have F_f2:=Lib.hid f2
   have F_f3:=Lib.hid f3
   have F_f4:=Lib.hid f4
   have F_f5:=Lib.hid f5
   have F_f6:=Lib.hid f6
   have F_f7:=Lib.hid f7
   have F_f8:=Lib.hid f8
   have F_f9:=Lib.hid f9
   have F_f10:=Lib.hid f10
   have F_f11:=Lib.hid f11
   have F_f12:=Lib.hid f12
   have F_f13:=Lib.hid f13
   have F_q0:=Lib.hid q0
   have F_q1:=Lib.hid q1
   have F_q2:=Lib.hid q2
   have F_o7:=Lib.hid o7
   have F_o8:=Lib.hid o8
   have F_o9:=Lib.hid o9
   have F_o11:=Lib.hid o11
   clear f0 f1 f2 f3 f4 f5 f6 f7 f8 f9 f10 f11 f12 f13 q0 q1 q2 o7 o8 o9 o11
   refine step_of ho fun K' hK => ?_
   go_simp
   have f0:=F_f0.out
   have f1:=F_f1.out
   have f2:=F_f2.out
   have f3:=F_f3.out
   have f4:=F_f4.out
   have f5:=F_f5.out
   have f6:=F_f6.out
   have f7:=F_f7.out
   have f8:=F_f8.out
   have f9:=F_f9.out
   have f10:=F_f10.out
   have f11:=F_f11.out
   have f12:=F_f12.out
   have f13:=F_f13.out
   have q0:=F_q0.out
   have q1:=F_q1.out
   have q2:=F_q2.out
   have o7:=F_o7.out
   have o8:=F_o8.out
   have o9:=F_o9.out
   have o11:=F_o11.out
   refine hK.out _ _ ?_
   rw [HInv11.out]
   exact ⟨b0,b1,b2,b3,b4,true,b6,b7,b8,b9,b10,b11,b12,b13,u47,u48,u49,u50,u51,_,u53,u54,u55,u56,u57,u58,sn,sm,rfl,rfl,hb,m,r,q0,q1,q2,o7,o8,o9,o11,f0,f1,f2,f3,f4,(fun _=>rfl),f6,f7,f8,f9,f10,f11,f12,f13⟩
  | 6,ho,hl,hdep=>
   have hun:b6=false:=Option.some.inj hl
   obtain rfl:=Option.some.inj ho
   have e5:b5=true:=hdep ⟨5,.data⟩ (by simp) rfl
   obtain rfl:=f5 e5
   have y0:=m.cell 0
   have y1:=m.cell 1
   have F_f0:=Lib.hid f0
   have F_f1:=Lib.hid f1
   have F_f2:=Lib.hid f2
   have F_f3:=Lib.hid f3
   have F_f4:=Lib.hid f4
   have F_f5:=Lib.hid f5
   have F_f6:=Lib.hid f6
   have F_f7:=Lib.hid f7
   have F_f8:=Lib.hid f8
   have F_f9:=Lib.hid f9
   have F_f10:=Lib.hid f10
   have F_f11:=Lib.hid f11
   have F_f12:=Lib.hid f12
   have F_f13:=Lib.hid f13
   have F_q0:=Lib.hid q0
   have F_q1:=Lib.hid q1
   have F_q2:=Lib.hid q2
   have F_o7:=Lib.hid o7
   have F_o8:=Lib.hid o8
   have F_o9:=Lib.hid o9
   have F_o11:=Lib.hid o11
   have F_e5:=Lib.hid e5
   clear f0 f1 f2 f3 f4 f5 f6 f7 f8 f9 f10 f11 f12 f13 q0 q1 q2 o7 o8 o9 o11 e5
   refine step_of ho fun K' hK => ?_
   go_simp
   have f0:=F_f0.out
   have f1:=F_f1.out
   have f2:=F_f2.out
   have f3:=F_f3.out
   have f4:=F_f4.out
   have f5:=F_f5.out
   have f6:=F_f6.out
   have f7:=F_f7.out
   have f8:=F_f8.out
   have f9:=F_f9.out
   have f10:=F_f10.out
   have f11:=F_f11.out
   have f12:=F_f12.out
   have f13:=F_f13.out
   have q0:=F_q0.out
   have q1:=F_q1.out
   have q2:=F_q2.out
   have o7:=F_o7.out
   have o8:=F_o8.out
   have o9:=F_o9.out
   have o11:=F_o11.out
   have e5:=F_e5.out
   refine hK.out _ _ ?_
   rw [HInv11.out]
   exact ⟨b0,b1,b2,b3,b4,b5,true,b7,b8,b9,b10,b11,b12,b13,u47,u48,u49,u50,u51,_,_,u54,u55,u56,u57,u58,sn,sm,rfl,rfl,hb,m,r,q0,q1,q2,(fun h=>⟨(o7 h).1,rfl⟩),o8,o9,o11,f0,f1,f2,f3,f4,(fun _=>rfl),(fun _=>rfl),f7,f8,f9,f10,f11,f12,f13⟩
  | 7,ho,hl,hdep=>
   have hun:b7=false:=Option.some.inj hl
   obtain rfl:=Option.some.inj ho
   have e4:b4=true:=hdep ⟨4,.data⟩ (by simp) rfl
   have e6:b6=true:=hdep ⟨6,.data⟩ (by simp) rfl
   obtain rfl:=f4 e4
   obtain rfl:=f6 e6
   have n11:b11=false:=by
    cases h11:b11
    ·rfl
    ·have h9:=(o8 (o9 (o11 h11)).1).1;rw [hun] at h9;cases h9
   have n13:b13=false:=by
    cases h13:b13
    ·rfl
    ·have h9:=(q2 h13).1;rw [n11] at h9;cases h9
   have F_f0:=Lib.hid f0
   have F_f1:=Lib.hid f1
   have F_f2:=Lib.hid f2
   have F_f3:=Lib.hid f3
   have F_f4:=Lib.hid f4
   have F_f5:=Lib.hid f5
   have F_f6:=Lib.hid f6
   have F_f7:=Lib.hid f7
   have F_f8:=Lib.hid f8
   have F_f9:=Lib.hid f9
   have F_f10:=Lib.hid f10
   have F_f11:=Lib.hid f11
   have F_f12:=Lib.hid f12
   have F_f13:=Lib.hid f13
   have F_q0:=Lib.hid q0
   have F_q1:=Lib.hid q1
   have F_q2:=Lib.hid q2
   have F_o7:=Lib.hid o7
   have F_o8:=Lib.hid o8
   have F_o9:=Lib.hid o9
   have F_o11:=Lib.hid o11
   have F_e4:=Lib.hid e4
   have F_e6:=Lib.hid e6
   clear f0 f1 f2 f3 f4 f5 f6 f7 f8 f9 f10 f11 f12 f13 q0 q1 q2 o7 o8 o9 o11 e4 e6
   refine step_of ho fun K' hK => ?_
   go_simp
   go_at_call 49
   refine (HU1.out W).mono ?_
   rintro e W1 ⟨⟨s,rfl,hs⟩,hb2⟩
   have f0:=F_f0.out
   have f1:=F_f1.out
   have f2:=F_f2.out
   have f3:=F_f3.out
   have f4:=F_f4.out
   have f5:=F_f5.out
   have f6:=F_f6.out
   have f7:=F_f7.out
   have f8:=F_f8.out
   have f9:=F_f9.out
   have f10:=F_f10.out
   have f11:=F_f11.out
   have f12:=F_f12.out
   have f13:=F_f13.out
   have q0:=F_q0.out
   have q1:=F_q1.out
   have q2:=F_q2.out
   have o7:=F_o7.out
   have o8:=F_o8.out
   have o9:=F_o9.out
   have o11:=F_o11.out
   have e4:=F_e4.out
   have e6:=F_e6.out
   refine hK.out _ _ ?_
   rw [HInv11.out]
   exact ⟨b0,b1,b2,b3,b4,b5,b6,true,b8,b9,b10,b11,b12,b13,u47,u48,u49,u50,_,u52,_,_,u55,u56,u57,u58,s,sm,rfl,rfl,(hb.trans (hb2.mono hb.size)),(m.below hb2 m.lt),(r.below hb2 r.lt),(fun h=>(q0 h).below hb2 (q0 h).lt),(fun h=>by rw [n11] at h;cases h),(fun h=>by rw [n13] at h;cases h),(fun _=>⟨e4,e6⟩),(fun h=>by have h9:=(o8 h).1;rw [hun] at h9;cases h9),o9,o11,f0,f1,f2,f3,(fun _=>rfl),f5,(fun _=>rfl),(fun _=>⟨rfl,hs⟩),f8,f9,f10,f11,f12,f13⟩
  | 8,ho,hl,hdep=>
   have hun:b8=false:=Option.some.inj hl
   obtain rfl:=Option.some.inj ho
   have e3:b3=true:=hdep ⟨3,.data⟩ (by simp) rfl
   have e7:b7=true:=hdep ⟨7,.data⟩ (by simp) rfl
   obtain rfl:=f3 e3
   obtain ⟨rfl,hsn⟩:=f7 e7
   have n11:b11=false:=by
    cases h11:b11
    ·rfl
    ·have h9:=(o9 (o11 h11)).1;rw [hun] at h9;cases h9
   have n13:b13=false:=by
    cases h13:b13
    ·rfl
    ·have h9:=(q2 h13).1;rw [n11] at h9;cases h9
   have F_f0:=Lib.hid f0
   have F_f1:=Lib.hid f1
   have F_f2:=Lib.hid f2
   have F_f3:=Lib.hid f3
   have F_f4:=Lib.hid f4
   have F_f5:=Lib.hid f5
   have F_f6:=Lib.hid f6
   have F_f7:=Lib.hid f7
   have F_f8:=Lib.hid f8
   have F_f9:=Lib.hid f9
   have F_f10:=Lib.hid f10
   have F_f11:=Lib.hid f11
   have F_f12:=Lib.hid f12
   have F_f13:=Lib.hid f13
   have F_q0:=Lib.hid q0
   have F_q1:=Lib.hid q1
   have F_q2:=Lib.hid q2
   have F_o7:=Lib.hid o7
   have F_o8:=Lib.hid o8
   have F_o9:=Lib.hid o9
   have F_o11:=Lib.hid o11
   have F_e3:=Lib.hid e3
   have F_e7:=Lib.hid e7
   clear f0 f1 f2 f3 f4 f5 f6 f7 f8 f9 f10 f11 f12 f13 q0 q1 q2 o7 o8 o9 o11 e3 e7
   refine step_of ho fun K' hK => ?_
   go_simp
   go_at_call 78
   refine (HML.out _ _ i9 hsn W).mono ?_
   rintro e W1 ⟨⟨s,rfl,hs⟩,hb2⟩
   have f0:=F_f0.out
   have f1:=F_f1.out
   have f2:=F_f2.out
   have f3:=F_f3.out
   have f4:=F_f4.out
   have f5:=F_f5.out
   have f6:=F_f6.out
   have f7:=F_f7.out
   have f8:=F_f8.out
   have f9:=F_f9.out
   have f10:=F_f10.out
   have f11:=F_f11.out
   have f12:=F_f12.out
   have f13:=F_f13.out
   have q0:=F_q0.out
   have q1:=F_q1.out
   have q2:=F_q2.out
   have o7:=F_o7.out
   have o8:=F_o8.out
   have o9:=F_o9.out
   have o11:=F_o11.out
   have e3:=F_e3.out
   have e7:=F_e7.out
   refine hK.out _ _ ?_
   rw [HInv11.out]
   exact ⟨b0,b1,b2,b3,b4,b5,b6,b7,true,b9,b10,b11,b12,b13,u47,u48,u49,_,u51,u52,u53,_,_,u56,u57,u58,sn,s,rfl,rfl,(hb.trans (hb2.mono hb.size)),(m.below hb2 m.lt),(r.below hb2 r.lt),(fun h=>(q0 h).below hb2 (q0 h).lt),(fun h=>by rw [n11] at h;cases h),(fun h=>by rw [n13] at h;cases h),o7,(fun _=>⟨e7,e3⟩),(fun h=>by have h9:=(o9 h).1;rw [hun] at h9;cases h9),o11,f0,f1,f2,(fun _=>rfl),f4,f5,f6,(fun _=>⟨rfl,hsn⟩),(fun _=>⟨rfl,hs⟩),f9,f10,f11,f12,f13⟩
  | 9,ho,hl,hdep=>
   have hun:b9=false:=Option.some.inj hl
   obtain rfl:=Option.some.inj ho
   have e2:b2=true:=hdep ⟨2,.data⟩ (by simp) rfl
   have e8:b8=true:=hdep ⟨8,.data⟩ (by simp) rfl
   obtain rfl:=f2 e2
   obtain ⟨rfl,hsm⟩:=f8 e8
   have n11:b11=false:=by
    cases h11:b11
    ·rfl
    ·have h9:=o11 h11;rw [hun] at h9;cases h9
   have n13:b13=false:=by
    cases h13:b13
    ·rfl
    ·have h9:=(q2 h13).1;rw [n11] at h9;cases h9
   have F_f0:=Lib.hid f0
   have F_f1:=Lib.hid f1
   have F_f2:=Lib.hid f2
   have F_f3:=Lib.hid f3
   have F_f4:=Lib.hid f4
   have F_f5:=Lib.hid f5
   have F_f6:=Lib.hid f6
   have F_f7:=Lib.hid f7
   have F_f8:=Lib.hid f8
   have F_f9:=Lib.hid f9
   have F_f10:=Lib.hid f10
   have F_f11:=Lib.hid f11
   have F_f12:=Lib.hid f12
   have F_f13:=Lib.hid f13
   have F_q0:=Lib.hid q0
   have F_q1:=Lib.hid q1
   have F_q2:=Lib.hid q2
   have F_o7:=Lib.hid o7
   have F_o8:=Lib.hid o8
   have F_o9:=Lib.hid o9
   have F_o11:=Lib.hid o11
   have F_e2:=Lib.hid e2
   have F_e8:=Lib.hid e8
   clear f0 f1 f2 f3 f4 f5 f6 f7 f8 f9 f10 f11 f12 f13 q0 q1 q2 o7 o8 o9 o11 e2 e8
   refine step_of ho fun K' hK => ?_
   go_simp
   go_at_call 68
   refine (HS3.out _ hsm W).mono ?_
   rintro e W1 ⟨⟨s,rfl,hs⟩,hb2⟩
   obtain rfl:=(HOT.out.one hs).symm
   have f0:=F_f0.out
   have f1:=F_f1.out
   have f2:=F_f2.out
   have f3:=F_f3.out
   have f4:=F_f4.out
   have f5:=F_f5.out
   have f6:=F_f6.out
   have f7:=F_f7.out
   have f8:=F_f8.out
   have f9:=F_f9.out
   have f10:=F_f10.out
   have f11:=F_f11.out
   have f12:=F_f12.out
   have f13:=F_f13.out
   have q0:=F_q0.out
   have q1:=F_q1.out
   have q2:=F_q2.out
   have o7:=F_o7.out
   have o8:=F_o8.out
   have o9:=F_o9.out
   have o11:=F_o11.out
   have e2:=F_e2.out
   have e8:=F_e8.out
   refine hK.out _ _ ?_
   rw [HInv11.out]
   exact ⟨b0,b1,b2,b3,b4,b5,b6,b7,b8,true,b10,b11,b12,b13,u47,u48,_,u50,u51,u52,u53,u54,_,_,u57,u58,sn,sm,rfl,rfl,(hb.trans (hb2.mono hb.size)),(m.below hb2 m.lt),(r.below hb2 r.lt),(fun h=>(q0 h).below hb2 (q0 h).lt),(fun h=>by rw [n11] at h;cases h),(fun h=>by rw [n13] at h;cases h),o7,o8,(fun _=>⟨e8,e2⟩),(fun _=>rfl),f0,f1,(fun _=>rfl),f3,f4,f5,f6,f7,(fun _=>⟨rfl,hsm⟩),(fun _=>rfl),f10,f11,f12,f13⟩
  | 10,ho,hl,hdep=>
   have hun:b10=false:=Option.some.inj hl
   obtain rfl:=Option.some.inj ho
   have F_f0:=Lib.hid f0
   have F_f1:=Lib.hid f1
   have F_f2:=Lib.hid f2
   have F_f3:=Lib.hid f3
   have F_f4:=Lib.hid f4
   have F_f5:=Lib.hid f5
   have F_f6:=Lib.hid f6
   have F_f7:=Lib.hid f7
   have F_f8:=Lib.hid f8
   have F_f9:=Lib.hid f9
   have F_f10:=Lib.hid f10
   have F_f11:=Lib.hid f11
   have F_f12:=Lib.hid f12
   have F_f13:=Lib.hid f13
   have F_q0:=Lib.hid q0
   have F_q1:=Lib.hid q1
   have F_q2:=Lib.hid q2
   have F_o7:=Lib.hid o7
   have F_o8:=Lib.hid o8
   have F_o9:=Lib.hid o9
   have F_o11:=Lib.hid o11
   clear f0 f1 f2 f3 f4 f5 f6 f7 f8 f9 f10 f11 f12 f13 q0 q1 q2 o7 o8 o9 o11
   refine step_of ho fun K' hK => ?_
   go_simp
   have f0:=F_f0.out
   have f1:=F_f1.out
   have f2:=F_f2.out
   have f3:=F_f3.out
   have f4:=F_f4.out
   have f5:=F_f5.out
   have f6:=F_f6.out
   have f7:=F_f7.out
   have f8:=F_f8.out
   have f9:=F_f9.out
   have f10:=F_f10.out
   have f11:=F_f11.out
   have f12:=F_f12.out
   have f13:=F_f13.out
   have q0:=F_q0.out
   have q1:=F_q1.out
   have q2:=F_q2.out
   have o7:=F_o7.out
   have o8:=F_o8.out
   have o9:=F_o9.out
   have o11:=F_o11.out
   refine hK.out _ _ ?_
   rw [HInv11.out]
   exact ⟨b0,b1,b2,b3,b4,b5,b6,b7,b8,b9,true,b11,b12,b13,u47,u48,u49,u50,u51,u52,u53,u54,u55,u56,_,u58,sn,sm,rfl,rfl,hb,m,r,q0,q1,q2,o7,o8,o9,o11,f0,f1,f2,f3,f4,f5,f6,f7,f8,f9,(fun _=>rfl),f11,f12,f13⟩
  | 11,ho,hl,hdep=>
   have hun:b11=false:=Option.some.inj hl
   obtain rfl:=Option.some.inj ho
   have e10:b10=true:=hdep ⟨10,.data⟩ (by simp) rfl
   have e0:b0=true:=hdep ⟨0,.data⟩ (by simp) rfl
   have e9:b9=true:=hdep ⟨9,.chain⟩ (by simp) rfl
   obtain rfl:=f10 e10
   obtain rfl:=f0 e0
   obtain rfl:=f9 e9
   have n13:b13=false:=by
    cases h13:b13
    ·rfl
    ·have h9:=(q2 h13).1;rw [hun] at h9;cases h9
   have k0:=q0 hun
   have x3:=k0.cell 3
   have z3:=k0.frozen 3
   have F_f0:=Lib.hid f0
   have F_f1:=Lib.hid f1
   have F_f2:=Lib.hid f2
   have F_f3:=Lib.hid f3
   have F_f4:=Lib.hid f4
   have F_f5:=Lib.hid f5
   have F_f6:=Lib.hid f6
   have F_f7:=Lib.hid f7
   have F_f8:=Lib.hid f8
   have F_f9:=Lib.hid f9
   have F_f10:=Lib.hid f10
   have F_f11:=Lib.hid f11
   have F_f12:=Lib.hid f12
   have F_f13:=Lib.hid f13
   have F_q0:=Lib.hid q0
   have F_q1:=Lib.hid q1
   have F_q2:=Lib.hid q2
   have F_o7:=Lib.hid o7
   have F_o8:=Lib.hid o8
   have F_o9:=Lib.hid o9
   have F_o11:=Lib.hid o11
   have F_e10:=Lib.hid e10
   have F_e0:=Lib.hid e0
   have F_e9:=Lib.hid e9
   clear f0 f1 f2 f3 f4 f5 f6 f7 f8 f9 f10 f11 f12 f13 q0 q1 q2 o7 o8 o9 o11 e10 e0 e9
   refine step_of ho fun K' hK => ?_
   go_simp
   have f0:=F_f0.out
   have f1:=F_f1.out
   have f2:=F_f2.out
   have f3:=F_f3.out
   have f4:=F_f4.out
   have f5:=F_f5.out
   have f6:=F_f6.out
   have f7:=F_f7.out
   have f8:=F_f8.out
   have f9:=F_f9.out
   have f10:=F_f10.out
   have f11:=F_f11.out
   have f12:=F_f12.out
   have f13:=F_f13.out
   have q0:=F_q0.out
   have q1:=F_q1.out
   have q2:=F_q2.out
   have o7:=F_o7.out
   have o8:=F_o8.out
   have o9:=F_o9.out
   have o11:=F_o11.out
   have e10:=F_e10.out
   have e0:=F_e0.out
   have e9:=F_e9.out
   refine hK.out _ _ ?_
   rw [HInv11.out]
   exact ⟨b0,b1,b2,b3,b4,b5,b6,b7,b8,b9,b10,true,b12,b13,_,u48,u49,u50,u51,u52,u53,u54,u55,_,_,u58,sn,sm,rfl,rfl,(hb.setCell (p:=⟨w.heap.size,3,none⟩) (Nat.le_refl _) _),(CBlk.far1 m (by omega) 3 _),(CBlk.far1 r (by omega) 3 _),(fun h=>by cases h),(fun _ _=>heap_setCell_same W _ 3 #[.int .i64 a,.int .i64 st,.int .i64 z,.string g,.string o] _ (.string gs) k0),(fun h=>by rw [n13] at h;cases h),o7,o8,o9,(fun _=>e9),(fun _=>rfl),f1,f2,f3,f4,f5,f6,f7,f8,(fun _=>rfl),(fun _=>rfl),(fun _=>trivial),f12,f13⟩
  | 12,ho,hl,hdep=>
   have hun:b12=false:=Option.some.inj hl
   obtain rfl:=Option.some.inj ho
   have F_f0:=Lib.hid f0
   have F_f1:=Lib.hid f1
   have F_f2:=Lib.hid f2
   have F_f3:=Lib.hid f3
   have F_f4:=Lib.hid f4
   have F_f5:=Lib.hid f5
   have F_f6:=Lib.hid f6
   have F_f7:=Lib.hid f7
   have F_f8:=Lib.hid f8
   have F_f9:=Lib.hid f9
   have F_f10:=Lib.hid f10
   have F_f11:=Lib.hid f11
   have F_f12:=Lib.hid f12
   have F_f13:=Lib.hid f13
   have F_q0:=Lib.hid q0
   have F_q1:=Lib.hid q1
   have F_q2:=Lib.hid q2
   have F_o7:=Lib.hid o7
   have F_o8:=Lib.hid o8
   have F_o9:=Lib.hid o9
   have F_o11:=Lib.hid o11
   clear f0 f1 f2 f3 f4 f5 f6 f7 f8 f9 f10 f11 f12 f13 q0 q1 q2 o7 o8 o9 o11
   refine step_of ho fun K' hK => ?_
   go_simp
   have f0:=F_f0.out
   have f1:=F_f1.out
   have f2:=F_f2.out
   have f3:=F_f3.out
   have f4:=F_f4.out
   have f5:=F_f5.out
   have f6:=F_f6.out
   have f7:=F_f7.out
   have f8:=F_f8.out
   have f9:=F_f9.out
   have f10:=F_f10.out
   have f11:=F_f11.out
   have f12:=F_f12.out
   have f13:=F_f13.out
   have q0:=F_q0.out
   have q1:=F_q1.out
   have q2:=F_q2.out
   have o7:=F_o7.out
   have o8:=F_o8.out
   have o9:=F_o9.out
   have o11:=F_o11.out
   refine hK.out _ _ ?_
   rw [HInv11.out]
   exact ⟨b0,b1,b2,b3,b4,b5,b6,b7,b8,b9,b10,b11,true,b13,u47,u48,u49,u50,u51,u52,u53,u54,u55,u56,u57,_,sn,sm,rfl,rfl,hb,m,r,q0,q1,q2,o7,o8,o9,o11,f0,f1,f2,f3,f4,f5,f6,f7,f8,f9,f10,f11,(fun _=>rfl),f13⟩
  | 13,ho,hl,hdep=>
   have hun:b13=false:=Option.some.inj hl
   obtain rfl:=Option.some.inj ho
   have e12:b12=true:=hdep ⟨12,.data⟩ (by simp) rfl
   have e9:b9=true:=hdep ⟨9,.data⟩ (by simp) rfl
   have e11:b11=true:=hdep ⟨11,.chain⟩ (by simp) rfl
   obtain rfl:=f12 e12
   obtain rfl:=f9 e9
   have k0:=q1 e11 hun
   have x4:=k0.cell 4
   have z4:=k0.frozen 4
   have F_f0:=Lib.hid f0
   have F_f1:=Lib.hid f1
   have F_f2:=Lib.hid f2
   have F_f3:=Lib.hid f3
   have F_f4:=Lib.hid f4
   have F_f5:=Lib.hid f5
   have F_f6:=Lib.hid f6
   have F_f7:=Lib.hid f7
   have F_f8:=Lib.hid f8
   have F_f9:=Lib.hid f9
   have F_f10:=Lib.hid f10
   have F_f11:=Lib.hid f11
   have F_f12:=Lib.hid f12
   have F_f13:=Lib.hid f13
   have F_q0:=Lib.hid q0
   have F_q1:=Lib.hid q1
   have F_q2:=Lib.hid q2
   have F_o7:=Lib.hid o7
   have F_o8:=Lib.hid o8
   have F_o9:=Lib.hid o9
   have F_o11:=Lib.hid o11
   have F_e12:=Lib.hid e12
   have F_e9:=Lib.hid e9
   have F_e11:=Lib.hid e11
   clear f0 f1 f2 f3 f4 f5 f6 f7 f8 f9 f10 f11 f12 f13 q0 q1 q2 o7 o8 o9 o11 e12 e9 e11
   refine step_of ho fun K' hK => ?_
   go_simp
   have f0:=F_f0.out
   have f1:=F_f1.out
   have f2:=F_f2.out
   have f3:=F_f3.out
   have f4:=F_f4.out
   have f5:=F_f5.out
   have f6:=F_f6.out
   have f7:=F_f7.out
   have f8:=F_f8.out
   have f9:=F_f9.out
   have f10:=F_f10.out
   have f11:=F_f11.out
   have f12:=F_f12.out
   have f13:=F_f13.out
   have q0:=F_q0.out
   have q1:=F_q1.out
   have q2:=F_q2.out
   have o7:=F_o7.out
   have o8:=F_o8.out
   have o9:=F_o9.out
   have o11:=F_o11.out
   have e12:=F_e12.out
   have e9:=F_e9.out
   have e11:=F_e11.out
   refine hK.out _ _ ?_
   rw [HInv11.out]
   exact ⟨b0,b1,b2,b3,b4,b5,b6,b7,b8,b9,b10,b11,b12,true,u47,u48,u49,u50,u51,u52,u53,u54,u55,_,u57,_,sn,sm,rfl,rfl,(hb.setCell (p:=⟨w.heap.size,4,none⟩) (Nat.le_refl _) _),(CBlk.far1 m (by omega) 4 _),(CBlk.far1 r (by omega) 4 _),(fun h=>by rw [e11] at h;cases h),(fun _ h=>by cases h),(fun _=>⟨e11,heap_setCell_same W _ 4 #[.int .i64 a,.int .i64 st,.int .i64 z,.string gs,.string o] _ (.string ot) k0⟩),o7,o8,o9,o11,f0,f1,f2,f3,f4,f5,f6,f7,f8,(fun _=>rfl),f10,f11,(fun _=>rfl),(fun _=>trivial)⟩
  | n+14,ho,hl,hdep=>exact absurd ho (by simp)
 ·intro listed ac w15 hI hall
  rw [HInv11.out] at hI
  obtain ⟨b0,b1,b2,b3,b4,b5,b6,b7,b8,b9,b10,b11,b12,b13,u47,u48,u49,u50,u51,u52,u53,u54,u55,u56,u57,u58,sn,sm,rfl,rfl,hb,m,r,q0,q1,q2,o7,o8,o9,o11,f0,f1,f2,f3,f4,f5,f6,f7,f8,f9,f10,f11,f12,f13⟩:=hI
  have e0:b0=true:=hall 0 b0 (by decide) rfl
  have e1:b1=true:=hall 1 b1 (by decide) rfl
  have e2:b2=true:=hall 2 b2 (by decide) rfl
  have e3:b3=true:=hall 3 b3 (by decide) rfl
  have e4:b4=true:=hall 4 b4 (by decide) rfl
  have e5:b5=true:=hall 5 b5 (by decide) rfl
  have e6:b6=true:=hall 6 b6 (by decide) rfl
  have e7:b7=true:=hall 7 b7 (by decide) rfl
  have e8:b8=true:=hall 8 b8 (by decide) rfl
  have e9:b9=true:=hall 9 b9 (by decide) rfl
  have e10:b10=true:=hall 10 b10 (by decide) rfl
  have e11:b11=true:=hall 11 b11 (by decide) rfl
  have e12:b12=true:=hall 12 b12 (by decide) rfl
  have e13:b13=true:=hall 13 b13 (by decide) rfl
  subst e0
  subst e1
  subst e2
  subst e3
  subst e4
  subst e5
  subst e6
  subst e7
  subst e8
  subst e9
  subst e10
  subst e11
  subst e12
  subst e13
  obtain rfl:=f0 rfl
  obtain rfl:=f1 rfl
  obtain rfl:=f2 rfl
  obtain rfl:=f3 rfl
  obtain rfl:=f4 rfl
  obtain rfl:=f5 rfl
  obtain rfl:=f6 rfl
  obtain ⟨rfl,_⟩:=f7 rfl
  obtain ⟨rfl,_⟩:=f8 rfl
  obtain rfl:=f9 rfl
  obtain rfl:=f10 rfl
  obtain rfl:=f12 rfl
  have a15:=(q2 rfl).2
  have hB15:=hb
  have r15:=r
  clear f0 f1 f2 f3 f4 f5 f6 f7 f8 f9 f10 f11 f12 f13 q0 q1 q2 o7 o8 o9 o11 hb r m hall HInv11 a11 m11 k11 r11 hB11
  clear HS3 HU1 HML
  have x0:=a15.cell 0
  have x1:=a15.cell 1
  have x2:=a15.cell 2
  have x3:=a15.cell 3
  have x4:=a15.cell 4
  have HBX:Hid (Below w15.heap.size w15 (w15.alloc (.cells #[.string gs,.string ot] 22))):=(Below.refl _ _).alloc (Nat.le_refl _) _
  have HLL:=Lib.hid (HL.out gs ot 22 w15.heap.size _ (CBlk.new w15 _ _ _ rfl) HGS.out HOT.out)
  go_wp2_with fail
  refine HLL.out.mono ?_
  rintro e w16 ⟨rfl,hb16⟩
  have hbx:=HBX.out.trans (hb16.mono HBX.out.size)
  have a16:=a15.below hbx a15.lt
  have r16:=r15.below hbx r15.lt
  have hB16:=hB15.trans (hbx.mono hB15.size)
  clear x0 x1 x2 x3 x4 hb16 hbx HBX HLL a15 r15 hB15
  have x0:=a16.cell 0
  have x1:=a16.cell 1
  have x2:=a16.cell 2
  have x3:=a16.cell 3
  have x4:=a16.cell 4
  have u0:=r16.cell 0
  have u1:=r16.cell 1
  have u2:=r16.cell 2
  have u3:=r16.cell 3
  have u4:=r16.cell 4
  have f0:=r16.frozen 0
  have f1:=r16.frozen 1
  have f2:=r16.frozen 2
  have f3:=r16.frozen 3
  have f4:=r16.frozen 4
  have hset:=five_set hB16 (g:=w.heap.size+1+1+1) (by omega) (.int .i64 a) (.int .i64 st) (.int .i64 z) (.string gs) (.string ot)
  go_wp2_with fail
  refine bodyPost_ret (v := .tuple #[.agg #[.int .i64 a,.int .i64 st,.int .i64 z,.string gs,.string ot],.int .i64 0]) (by simp [results,Tryz.results24,go_sem,u0,u1,u2,u3,u4]) rfl ⟨by rw [HR.out],hset⟩
end Go.Proofs.YtjhgadajpliclaaGreatDoor
