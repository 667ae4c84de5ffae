/- The code's checkCode, checkInner; the reference's CheckInside: any converter, any code. -/
import Derived.Test.YtmkihdjolnlccaaGreatDoorQCdm2
import Derived.Test.YtmkihdjolnlccaaGreatDoorQAd2
import Derived.Test.YtmkihdjolnlccaaGreatDoorQTrn
import Derived.Test.YtmkihdjolnlccaaGreatDoorQDr8
namespace Go.Proofs.YtmkihdjolnlccaaGreatDoor
open Go.RowKit Bn
open Flt
def inE (n:Nat) (c:Int):Int:=if zax c 0 ((2 ^ n - 1:Nat):Int)≠0 then 3 else if c=0∨c=((2 ^ n - 1:Nat):Int) then 15 else 0
theorem zof {a st z:Int} {g o:ByteArray} (h:adcE a st z g.data.toList o.data.toList=0) :
  ∃ n:Nat,a=n∧8≤n∧n≤12 ∧ -20≤st∧st≤4∧0≤z∧z≤((2 ^ n - 1:Nat):Int)∧zam g.data.toList=0∧0<zbs (zad g.data.toList)∧zam o.data.toList=0:=by
 unfold adcE at h
 rcases zaX a 8 12 with h1 | h1
 ·rw [h1.1,if_pos (c:=(3:Int)≠0) (by decide)] at h
  exact absurd h (by decide)
 ·rw [h1.1,if_neg (c:=(0:Int)≠0) (by simp)] at h
  rcases zaX st (-20) 4 with h2 | h2
  ·rw [h2.1,if_pos (c:=(3:Int)≠0) (by decide)] at h
   exact absurd h (by decide)
  ·rw [h2.1,if_neg (c:=(0:Int)≠0) (by simp)] at h
   rcases zaX z 0 ((2 ^ a.toNat - 1:Nat):Int) with h3 | h3
   ·rw [h3.1,if_pos (c:=(3:Int)≠0) (by decide)] at h
    exact absurd h (by decide)
   ·rw [h3.1,if_neg (c:=(0:Int)≠0) (by simp)] at h
    by_cases h4:zam g.data.toList=0
    ·rw [if_neg (fun h9=>h9 h4)] at h
     by_cases h5:zbs (zad g.data.toList)≤0
     ·rw [if_pos h5] at h
      exact absurd h (by decide)
     ·rw [if_neg h5] at h
      exact ⟨a.toNat,by omega,by omega,by omega,h2.2.1,h2.2.2,h3.2.1,h3.2.2,h4,by omega,h⟩
    ·rw [if_pos h4] at h
     exact absurd h h4
set_option maxHeartbeats 1000000 in
theorem zgs (n:Nat) (st z c:Int) (g o:ByteArray) (w:World) (hT:Tabs w) (hg:g.size≤4294967296) (ho:o.size≤4294967296) (hE:adcE n st z g.data.toList o.data.toList=0) (hn:n≤12) :
  Calls Tryz.prog 90 #[.agg #[.int .i64 (n:Int),.int .i64 st,.int .i64 z,.string g,.string o],.int .i64 c] w fun e w'=>e = .returned (.int .i64 (zax c 0 ((2 ^ n - 1:Nat):Int)))∧Below w.heap.size w w':=by
 have hb0:Below w.heap.size w (w.alloc (.cells #[.int .i64 (n:Int),.int .i64 st,.int .i64 z,.string g,.string o] 33)):=(Below.refl _ _).alloc (Nat.le_refl _) _
 have q0:CBlk (w.alloc (.cells #[.int .i64 (n:Int),.int .i64 st,.int .i64 z,.string g,.string o] 33)) w.heap.size #[.int .i64 (n:Int),.int .i64 st,.int .i64 z,.string g,.string o] 33:=CBlk.new w _ _ _ rfl
 have x0:=q0.cell 0
 have x1:=q0.cell 1
 have x2:=q0.cell 2
 have x3:=q0.cell 3
 have x4:=q0.cell 4
 have hC:=zi3 n st z g o _ (hT.later hb0) hg ho
 rw [hE] at hC
 have HC:=Lib.hid hC
 have HTP:=Lib.hid (fun W=>zdh n st z (.string g) (.string o) W (by omega))
 generalize ((2 ^ n - 1:Nat):Int)=T at *
 obtain ⟨rc,hrc⟩:∃ rc,zax c 0 T=rc:=⟨_,rfl⟩
 have HR3:=Lib.hid hrc
 rw [hrc]
 clear hC hE hn hrc
 go_enter Tryz.func90,Tryz.ntmps90
 go_wp2_with fail
 generalize w.alloc (.cells #[.int .i64 (n:Int),.int .i64 st,.int .i64 z,.string g,.string o] 33)=w1 at *
 refine HC.out.mono ?_
 rintro e w2 ⟨rfl,hb2⟩
 have q2:=q0.below hb2 q0.lt
 clear x0 x1 x2 x3 x4
 have x0:=q2.cell 0
 have x1:=q2.cell 1
 have x2:=q2.cell 2
 have x3:=q2.cell 3
 have x4:=q2.cell 4
 have hB2:=hb0.trans (hb2.mono hb0.size)
 go_wp2_with fail
 refine (HTP.out w2).mono ?_
 rintro e w3 ⟨rfl,hb3⟩
 go_wp2_with fail
 refine (zbb _ _ _ _).mono ?_
 rintro e w4 ⟨he,rfl⟩
 rw [HR3.out] at he
 subst he
 go_wp2_with fail
 go_ret
 exact ⟨rfl,hB2.trans (hb3.mono hB2.size)⟩
theorem znL (n:Nat) (c:Int):(zax c 0 ((2 ^ n - 1:Nat):Int)=3∧inE n c=3)∨(zax c 0 ((2 ^ n - 1:Nat):Int)=0∧decide (c=0∨c=((2 ^ n - 1:Nat):Int))=true∧inE n c=15)∨(zax c 0 ((2 ^ n - 1:Nat):Int)=0∧decide (c=0∨c=((2 ^ n - 1:Nat):Int))=false∧inE n c=0):=by
 unfold inE
 rcases zaX c 0 ((2 ^ n - 1:Nat):Int) with h | h
 ·exact .inl ⟨h.1,by rw [h.1];rfl⟩
 ·rw [h.1,if_neg (c:=(0:Int)≠0) (by simp)]
  by_cases h1:c=0∨c=((2 ^ n - 1:Nat):Int)
  ·exact .inr (.inl ⟨rfl,decide_eq_true h1,if_pos h1⟩)
  ·exact .inr (.inr ⟨rfl,decide_eq_false h1,if_neg h1⟩)
set_option maxHeartbeats 2000000 in
theorem zfx (n:Nat) (st z c:Int) (g o:ByteArray) (w:World) (hT:Tabs w) (hg:g.size≤4294967296) (ho:o.size≤4294967296) (hE:adcE n st z g.data.toList o.data.toList=0) (hn:n≤12) :
    Calls Tryz.prog 86 #[.agg #[.int .i64 (n:Int),.int .i64 st,.int .i64 z,.string g,.string o],.int .i64 c] w fun e w'=>e = .returned (.int .i64 (inE n c))∧Below w.heap.size w w':=by
  have hb0:Below w.heap.size w (w.alloc (.cells #[.int .i64 (n:Int),.int .i64 st,.int .i64 z,.string g,.string o] 33)):=(Below.refl _ _).alloc (Nat.le_refl _) _
  have q0:CBlk (w.alloc (.cells #[.int .i64 (n:Int),.int .i64 st,.int .i64 z,.string g,.string o] 33)) w.heap.size #[.int .i64 (n:Int),.int .i64 st,.int .i64 z,.string g,.string o] 33:=CBlk.new w _ _ _ rfl
  have x0:=q0.cell 0
  have x1:=q0.cell 1
  have x2:=q0.cell 2
  have x3:=q0.cell 3
  have x4:=q0.cell 4
  have hC:=zgs n st z c g o _ (hT.later hb0) hg ho hE hn
  have hI:=fun W=>zfH n st z c (.string g) (.string o) W (by omega)
  have hcase:=znL n c
  generalize inE n c=I at *
  generalize zax c 0 ((2 ^ n - 1:Nat):Int)=rc at *
  generalize decide (c=0∨c=((2 ^ n - 1:Nat):Int))=be at *
  have HC:=Lib.hid hC
  have HI:=Lib.hid hI
  clear hC hI hE hn
  rcases hcase with ⟨rfl,rfl⟩ | ⟨rfl,rfl,rfl⟩ | ⟨rfl,rfl,rfl⟩
  all_goals
    go_enter Tryz.func86,Tryz.ntmps86
    go_wp2_with fail
    generalize w.alloc (.cells #[.int .i64 (n:Int),.int .i64 st,.int .i64 z,.string g,.string o] 33)=w1 at *
    refine HC.out.mono ?_
    rintro e w2 ⟨rfl,hb2⟩
    have q2:=q0.below hb2 q0.lt
    clear x0 x1 x2 x3 x4
    have x0:=q2.cell 0
    have x1:=q2.cell 1
    have x2:=q2.cell 2
    have x3:=q2.cell 3
    have x4:=q2.cell 4
    have hB2:=hb0.trans (hb2.mono hb0.size)
    go_wp2_with fail
    first
      | (go_ret;exact ⟨rfl,hB2⟩)
      | (refine (HI.out w2).mono ?_
         rintro e w3 ⟨rfl,hb3⟩
         have hB3:=hB2.trans (hb3.mono hB2.size)
         go_wp2_with fail
         go_ret
         exact ⟨rfl,hB3⟩)
set_option maxHeartbeats 2000000 in
set_option maxRecDepth 100000 in
theorem zfU (a:Nat) (st z c:Int) (g o:ByteArray) (x y:Nat) (l m:List UInt8) (w:World) (hT:Tabs w) (hc:0≤c∧c≤4095) (hz:0≤z∧z≤4095) (hst : -20≤st∧st≤4) (hx:nomW (2*(c - z) - 1) (st - 1)=x) (hy:nomW (2*(c+1 - z) - 1) (st - 1)=y) (hl:exT x=l) (hm:exT y=m) :
  Calls Tryz.prog 87 #[.agg #[.int .i64 a,.int .i64 st,.int .i64 z,.string g,.string o],.int .i64 c] w fun e w'=>e = .returned (.agg #[.string ⟨l.toArray⟩,.string ⟨m.toArray⟩])∧Below w.heap.size w w':=by
 have hb0:Below w.heap.size w ((w.alloc (.cells #[.int .i64 a,.int .i64 st,.int .i64 z,.string g,.string o] 33)).alloc (.cells #[.string { data:=#[] },.string { data:=#[] }] 55)):=((Below.refl _ _).alloc (Nat.le_refl _) _).alloc (by simp) _
 have q2:CBlk ((w.alloc (.cells #[.int .i64 a,.int .i64 st,.int .i64 z,.string g,.string o] 33)).alloc (.cells #[.string { data:=#[] },.string { data:=#[] }] 55)) w.heap.size #[.int .i64 a,.int .i64 st,.int .i64 z,.string g,.string o] 33:=(CBlk.new w _ _ _ rfl).below ((Below.refl _ _).alloc (Nat.le_refl _) _) (by simp)
 have s2:CBlk ((w.alloc (.cells #[.int .i64 a,.int .i64 st,.int .i64 z,.string g,.string o] 33)).alloc (.cells #[.string { data:=#[] },.string { data:=#[] }] 55)) (w.heap.size+1) #[.string { data:=#[] },.string { data:=#[] }] 55:=CBlk.new _ _ _ _ (by simp)
 have HN0:=Lib.hid (fun W=>zh5 a st z c (.string g) (.string o) W (by omega) (by omega) (by omega) (by omega))
 have HNT:=Lib.hid (fun W=>zh5 a st z (c+1) (.string g) (.string o) W (by omega) (by omega) (by omega) (by omega))
 have HSP:=Lib.hid (fun W hT=>ziI x y l m W hT hl hm)
 rw [hx] at HN0
 rw [hy] at HNT
 have hw:IntKind.i64.wrap (c+1)=c+1:=IntWalk.i64_in _ (by omega)
 have hnt:∀ W,Calls Tryz.prog 159 #[.agg #[.int .i64 a,.int .i64 st,.int .i64 z,.string g,.string o],.int .i64 (IntKind.i64.wrap (c+1))] W fun e w'=>e = .returned (.float .f32 y)∧Below W.heap.size W w':=by rw [hw];exact HNT.out
 clear HNT
 have HNT:=Lib.hid hnt
 clear hnt hw
 generalize l.toArray=la at *
 generalize m.toArray=ma at *
 clear hz hc hl hm hx hy hst
 go_enter Tryz.func87,Tryz.ntmps87
 go_wp2_with fail
 generalize ((w.alloc (.cells #[.int .i64 a,.int .i64 st,.int .i64 z,.string g,.string o] 33)).alloc (.cells #[.string { data:=#[] },.string { data:=#[] }] 55))=w2 at *
 have hT2:=hT.later hb0
 go_region_held3 (fun w'=>w'.cell? ⟨w.heap.size,0,none⟩=some (.int .i64 a)∧w'.cell? ⟨w.heap.size,1,none⟩=some (.int .i64 st)∧w'.cell? ⟨w.heap.size,2,none⟩=some (.int .i64 z)∧w'.cell? ⟨w.heap.size,3,none⟩=some (.string g)∧w'.cell? ⟨w.heap.size,4,none⟩=some (.string o))
  ((refine ⟨?_,?_,?_,?_,?_⟩<;>first | exact q6.cell _ | exact q4.cell _ | exact q3.cell _ | exact q2.cell _ | exact (q6.far2 (Nat.succ_ne_self _) _ _).cell _))
  (first
   |(go_at_call 79;refine (HSP.out w4 hT4).mono ?_;rintro e w6 ⟨rfl,hb6⟩;have q6:=q4.below hb6 q4.lt;have s6:=s4.below hb6 s4.lt;have r0:=s6.cell 0;have r1:=s6.cell 1;have f0:=s6.frozen 0;have f1:=s6.frozen 1)
   |(go_at_call 159;refine (HNT.out w3).mono ?_;rintro e w4 ⟨rfl,hb4⟩;have q4:=q3.below hb4 q3.lt;have s4:=s3.below hb4 s3.lt;have hT4:=hT3.later hb4)
   |(go_at_call 159;refine (HN0.out w2.drew).mono ?_;rintro e w3 ⟨rfl,hb3'⟩;have hb3:Below w2.heap.size w2 w3:=⟨hb3'.os,hb3'.tape,hb3'.output,hb3'.size,hb3'.block⟩;clear hb3';have q3:=q2.below hb3 q2.lt;have s3:=s2.below hb3 s2.lt;have hT3:=hT2.later hb3))
 have hB3:=hb0.trans (hb3.mono hb0.size)
 have hB4:=hB3.trans (hb4.mono hB3.size)
 have hB6:=hB4.trans (hb6.mono hB4.size)
 have hset:=zbc hB6 (g:=w.heap.size+1) (by omega) (.string ⟨la⟩) (.string ⟨ma⟩)
 clear HN0 HNT HSP
 go_wp2_with fail
 refine bodyPost_ret (v := .agg #[.string ⟨la⟩,.string ⟨ma⟩]) (by simp [results,Tryz.results87,go_sem,r0,r1]) rfl ⟨rfl,hset⟩
set_option maxHeartbeats 1000000 in
theorem zeh (a:Nat) (st z c E:Int) (g o:ByteArray) (w:World) (hT:Tabs w) (h:Conv a st z g o) (hc:0≤c∧c≤((2 ^ a - 1:Nat):Int)) (hE:(if c=0∨c=((2 ^ a - 1:Nat):Int) then 15 else 0)=E) :
  Calls Tryz.prog 86 #[.agg #[.int .i64 a,.int .i64 st,.int .i64 z,.string g,.string o],.int .i64 c] w fun e w'=>e = .returned (.int .i64 E)∧Below w.heap.size w w':=by
 have hb0:Below w.heap.size w (w.alloc (.cells #[.int .i64 a,.int .i64 st,.int .i64 z,.string g,.string o] 33)):=(Below.refl _ _).alloc (Nat.le_refl _) _
 have q0:CBlk (w.alloc (.cells #[.int .i64 a,.int .i64 st,.int .i64 z,.string g,.string o] 33)) w.heap.size #[.int .i64 a,.int .i64 st,.int .i64 z,.string g,.string o] 33:=CBlk.new w _ _ _ rfl
 have x0:=q0.cell 0
 have x1:=q0.cell 1
 have x2:=q0.cell 2
 have x3:=q0.cell 3
 have x4:=q0.cell 4
 have HC:=Lib.hid (zdf a st z c g o _ (hT.later hb0) h hc)
 have HI:=Lib.hid (fun W=>zfH a st z c (.string g) (.string o) W (by have:=h.bits;omega))
 generalize ((2 ^ a - 1:Nat):Int)=T at *
 clear h hc
 by_cases hd:c=0∨c=T
 ·rw [if_pos hd] at hE
  rw [decide_eq_true hd] at HI
  subst hE
  clear hd
  go_enter Tryz.func86,Tryz.ntmps86
  go_wp2_with fail
  generalize w.alloc (.cells #[.int .i64 a,.int .i64 st,.int .i64 z,.string g,.string o] 33)=w1 at *
  refine HC.out.mono ?_
  rintro e w2 ⟨rfl,hb2⟩
  have q2:=q0.below hb2 q0.lt
  clear x0 x1 x2 x3 x4
  have x0:=q2.cell 0
  have x1:=q2.cell 1
  have x2:=q2.cell 2
  have x3:=q2.cell 3
  have x4:=q2.cell 4
  have hB2:=hb0.trans (hb2.mono hb0.size)
  go_wp2_with fail
  refine (HI.out w2).mono ?_
  rintro e w3 ⟨rfl,hb3⟩
  go_wp2_with fail
  go_ret
  exact ⟨rfl,hB2.trans (hb3.mono hB2.size)⟩
 ·rw [if_neg hd] at hE
  rw [decide_eq_false hd] at HI
  subst hE
  clear hd
  go_enter Tryz.func86,Tryz.ntmps86
  go_wp2_with fail
  generalize w.alloc (.cells #[.int .i64 a,.int .i64 st,.int .i64 z,.string g,.string o] 33)=w1 at *
  refine HC.out.mono ?_
  rintro e w2 ⟨rfl,hb2⟩
  have q2:=q0.below hb2 q0.lt
  clear x0 x1 x2 x3 x4
  have x0:=q2.cell 0
  have x1:=q2.cell 1
  have x2:=q2.cell 2
  have x3:=q2.cell 3
  have x4:=q2.cell 4
  have hB2:=hb0.trans (hb2.mono hb0.size)
  go_wp2_with fail
  refine (HI.out w2).mono ?_
  rintro e w3 ⟨rfl,hb3⟩
  go_wp2_with fail
  go_ret
  exact ⟨rfl,hB2.trans (hb3.mono hB2.size)⟩
set_option maxHeartbeats 1000000 in
theorem ziJ (a:Nat) (st z:Int) (g o:ByteArray) (w:World) (hT:Tabs w) (h:Conv a st z g o) :
  Calls Tryz.prog 38 #[.agg #[.int .i64 a,.int .i64 st,.int .i64 z,.string g,.string o],.int .i64 0] w fun e w'=>e = .returned (.tuple #[.agg #[.string { data:=#[] },.string { data:=#[] }],.int .i64 15])∧Below w.heap.size w w':=by
 have hb0:Below w.heap.size w ((w.alloc (.cells #[.int .i64 a,.int .i64 st,.int .i64 z,.string g,.string o] 33)).alloc (.cells #[.string { data:=#[] },.string { data:=#[] }] 55)):=((Below.refl _ _).alloc (Nat.le_refl _) _).alloc (by simp) _
 have q0:CBlk ((w.alloc (.cells #[.int .i64 a,.int .i64 st,.int .i64 z,.string g,.string o] 33)).alloc (.cells #[.string { data:=#[] },.string { data:=#[] }] 55)) w.heap.size #[.int .i64 a,.int .i64 st,.int .i64 z,.string g,.string o] 33:=(CBlk.new w _ _ _ rfl).below ((Below.refl _ _).alloc (Nat.le_refl _) _) (by simp)
 have s0:CBlk ((w.alloc (.cells #[.int .i64 a,.int .i64 st,.int .i64 z,.string g,.string o] 33)).alloc (.cells #[.string { data:=#[] },.string { data:=#[] }] 55)) (w.heap.size+1) #[.string { data:=#[] },.string { data:=#[] }] 55:=CBlk.new _ _ _ _ (by simp)
 have HC:=Lib.hid (zeh a st z 0 15 g o _ (hT.later hb0) h ⟨by omega,by omega⟩ (by simp))
 have x0:=q0.cell 0
 have x1:=q0.cell 1
 have x2:=q0.cell 2
 have x3:=q0.cell 3
 have x4:=q0.cell 4
 clear h
 go_enter Tryz.func38,Tryz.ntmps38
 go_wp2_with fail
 generalize ((w.alloc (.cells #[.int .i64 a,.int .i64 st,.int .i64 z,.string g,.string o] 33)).alloc (.cells #[.string { data:=#[] },.string { data:=#[] }] 55))=w1 at *
 refine HC.out.mono ?_
 rintro e w2 ⟨rfl,hb2⟩
 have s6:=s0.below hb2 s0.lt
 have hB6:=hb0.trans (hb2.mono hb0.size)
 clear x0 x1 x2 x3 x4
 have r0:=s6.cell 0
 have r1:=s6.cell 1
 have f0:=s6.frozen 0
 have f1:=s6.frozen 1
 have hset:=zbc hB6 (g:=w.heap.size+1) (by omega) (.string { data:=#[] }) (.string { data:=#[] })
 clear HC
 go_wp2_with fail
 refine bodyPost_ret (v := .tuple #[.agg #[.string { data:=#[] },.string { data:=#[] }],.int .i64 15]) (by simp [results,Tryz.results38,go_sem,r0,r1]) rfl ⟨rfl,hset⟩
set_option maxHeartbeats 1000000 in
theorem zcJ (s:ByteArray) (a k:Nat) (st z:Int) (g o:ByteArray) (w:World) (hT:Tabs w) (h:Conv a st z g o) (hs:s.size≤4294967296) (C D:Int) (y:Nat)
  (hk:k≤2 ^ a+1) (hlo:∀ t:Nat,t<k→zba s.data.toList (zbU s.data.toList) (nomW (2*((t:Int) - z) - 1) (st - 1))=false)
  (hhi:∀ t:Nat,k≤t→t<2 ^ a+1→zba s.data.toList (zbU s.data.toList) (nomW (2*((t:Int) - z) - 1) (st - 1))=true)
  (hC:(if k=0 then (0:Int) else if k=2 ^ a+1 then ((2 ^ a - 1:Nat):Int) else (k:Int) - 1)=C) (hD:(if k=0 then (-1:Int) else if k=2 ^ a+1 then 1 else 0)=D) (hC2:0≤C∧C≤4095) (hy:nomW (C - z) st=y) :
  Calls Tryz.prog 68 #[.agg #[.int .i64 a,.int .i64 st,.int .i64 z,.string g,.string o],.string s] w fun e w'=>e = .returned (.float .f32 y)∧Below w.heap.size w w':=by
 have hp:2 ^ a≤2 ^ 12:=Nat.pow_le_pow_right (by omega) h.bits.2
 have hz:=h.zero
 have hb0:Below w.heap.size w (w.alloc (.cells #[.int .i64 a,.int .i64 st,.int .i64 z,.string g,.string o] 33)):=(Below.refl _ _).alloc (Nat.le_refl _) _
 have q0:CBlk (w.alloc (.cells #[.int .i64 a,.int .i64 st,.int .i64 z,.string g,.string o] 33)) w.heap.size #[.int .i64 a,.int .i64 st,.int .i64 z,.string g,.string o] 33:=CBlk.new w _ _ _ rfl
 have x0:=q0.cell 0
 have x1:=q0.cell 1
 have x2:=q0.cell 2
 have x3:=q0.cell 3
 have x4:=q0.cell 4
 have HV:=Lib.hid (zkE s a k st z (.string g) (.string o) _ (hT.later hb0) hs h.bits.2 (by omega) (by have:=h.step;omega) (by have:=h.step;omega) hk hlo hhi)
 rw [hC,hD] at HV
 have HN:=Lib.hid (fun W=>zbR a st z C (.string g) (.string o) W (by omega) (by omega) (by have:=h.step;omega) (by have:=h.step;omega))
 rw [hy] at HN
 clear h hz hp hlo hhi hk hC hD hC2 hy
 go_enter Tryz.func68,Tryz.ntmps68
 go_wp2_with fail
 generalize w.alloc (.cells #[.int .i64 a,.int .i64 st,.int .i64 z,.string g,.string o] 33)=w1 at *
 refine HV.out.mono ?_
 rintro e w2 ⟨rfl,hb2⟩
 have q2:=q0.below hb2 q0.lt
 clear x0 x1 x2 x3 x4
 have x0:=q2.cell 0
 have x1:=q2.cell 1
 have x2:=q2.cell 2
 have x3:=q2.cell 3
 have x4:=q2.cell 4
 have hB2:=hb0.trans (hb2.mono hb0.size)
 go_wp2_with fail
 refine (HN.out w2).mono ?_
 rintro e w3 ⟨rfl,hb3⟩
 go_wp2_with fail
 go_ret
 exact ⟨rfl,hB2.trans (hb3.mono hB2.size)⟩
instance:DecidableEq Q:=fun a b=>decidable_of_iff (a.neg=b.neg∧a.top=b.top∧a.bot=b.bot) ⟨fun h=>by
 obtain ⟨x,y,z⟩:=a
 obtain ⟨x',y',z'⟩:=b
 obtain ⟨rfl,rfl,rfl⟩:=h
 rfl,fun h=>by subst h;exact ⟨rfl,rfl,rfl⟩⟩
theorem zch:Conv 8 (-3) 128 { data:=#[49] } { data:=#[48] } where
 bits:=by omega
 step:=by omega
 zero:=by decide
 gsize:=by decide
 osize:=by decide
 gain:=by decide +kernel
 plus:=by decide +kernel
 offs:=by decide +kernel
theorem zk6:Conv 8 (-3) 128 { data:=#[50] } { data:=#[49] } where
 bits:=by omega
 step:=by omega
 zero:=by decide
 gsize:=by decide
 osize:=by decide
 gain:=by decide +kernel
 plus:=by decide +kernel
 offs:=by decide +kernel
theorem zk2:nomW (0 - 128) (-3)=3246391296:=by decide +kernel
theorem zhO:nomW (255 - 128) (-3)=1098776576:=by decide +kernel
theorem zrN:exT 3246391296=[45,49,54]:=by decide +kernel
theorem zry:exT 1098776576=[49,50,55,47,56]:=by decide +kernel
theorem zs3:zam [45,49,55]=0:=by decide +kernel
theorem zsC:zbU [45,49,55]=3246915584:=by decide +kernel
theorem zs4:∀ t:Nat,t<257→zba [45,49,55] 3246915584 (nomW (2*((t:Int) - 128) - 1) (-4))=true:=by decide +kernel
theorem zsr:nomW 2 (-3)=1048576000:=by decide +kernel
theorem zri:zam [45,50,48]=0:=by decide +kernel
theorem zmN:zbU [45,50,48]=3248488448:=by decide +kernel
theorem zrp:∀ t:Nat,t<257→zba [45,50,48] 3248488448 (nomW (2*((t:Int) - 128) - 1) (-4))=true:=by decide +kernel
theorem ztQ:zam [48]=0:=by decide +kernel
theorem zsA:zbU [48]=0:=by decide +kernel
theorem ztV:∀ t:Nat,t<129→zba [48] 0 (nomW (2*((t:Int) - 128) - 1) (-4))=false:=by decide +kernel
theorem ztI:∀ t:Nat,t<128→zba [48] 0 (nomW (2*(((129+t:Nat):Int) - 128) - 1) (-4))=true:=by decide +kernel
theorem ztf:zam [49,47,49,48]=0:=by decide +kernel
theorem zq5:zbU [49,47,49,48]=1036831949:=by decide +kernel
theorem zs7:∀ t:Nat,t<130→zba [49,47,49,48] 1036831949 (nomW (2*((t:Int) - 128) - 1) (-4))=false:=by decide +kernel
theorem ztd:∀ t:Nat,t<127→zba [49,47,49,48] 1036831949 (nomW (2*(((130+t:Nat):Int) - 128) - 1) (-4))=true:=by decide +kernel
theorem ztD:zam [50,48]=0:=by decide +kernel
theorem zqR:zbU [50,48]=1101004800:=by decide +kernel
theorem zs9:∀ t:Nat,t<257→zba [50,48] 1101004800 (nomW (2*((t:Int) - 128) - 1) (-4))=false:=by decide +kernel
theorem zta:zam [51,48]=0:=by decide +kernel
theorem zq0:zbU [51,48]=1106247680:=by decide +kernel
theorem zty:∀ t:Nat,t<257→zba [51,48] 1106247680 (nomW (2*((t:Int) - 128) - 1) (-4))=false:=by decide +kernel
theorem zoN:nomW (128 - 128) (-3)=0:=by decide +kernel
theorem zrA:nomW (129 - 128) (-3)=1040187392:=by decide +kernel
theorem zr9:nomW (136 - 128) (-3)=1065353216:=by decide +kernel
theorem ztA:exT 0=[48]:=by decide +kernel
theorem zsJ:exT 1065353216=[49]:=by decide +kernel
theorem ztU:zad [48]=⟨false,0,1⟩:=by decide +kernel
theorem zsn:zad [49]=⟨false,1,1⟩:=by decide +kernel
theorem zsO:zad [50]=⟨false,2,1⟩:=by decide +kernel
theorem ztG:zad [49,47,50]=⟨false,1,2⟩:=by decide +kernel
theorem zsE:zad [53,47,50]=⟨false,5,2⟩:=by decide +kernel
theorem ztO:zam [49,47,50]=0:=by decide +kernel
theorem ztz:zam [53,47,50]=0:=by decide +kernel
theorem zte:zcw ⟨false,1,1⟩ ⟨!false,0,1⟩=⟨false,1,1⟩:=by decide +kernel
theorem ztK:zcw ⟨false,5,2⟩ ⟨!false,1,2⟩=⟨false,2,1⟩:=by decide +kernel
theorem ztP:lowQ (false != false) (2*1) (1*1)=⟨false,2,1⟩:=by decide +kernel
theorem ztR:lowQ (false != false) (2*0) (1*1)=⟨false,0,1⟩:=by decide +kernel
theorem ztT:zcw ⟨false,1,2⟩ ⟨!false,0,1⟩=⟨false,1,2⟩:=by decide +kernel
theorem ztW:zaS ⟨false,2,1⟩=[50]∧zaO ⟨false,2,1⟩=0:=by decide +kernel
theorem ztH:zaS ⟨false,1,2⟩=[49,47,50]∧zaO ⟨false,1,2⟩=0:=by decide +kernel
theorem zrO:nomW (2*(129 - 128) - 1) (-4)=1031798784:=by decide +kernel
theorem zrU:nomW (2*(130 - 128) - 1) (-4)=1044381696:=by decide +kernel
theorem zo2:exT 1031798784=[49,47,49,54]:=by decide +kernel
theorem zql:exT 1044381696=[51,47,49,54]:=by decide +kernel
theorem zpG:zad [49,47,49,54]=⟨false,1,16⟩:=by decide +kernel
theorem zpp:zad [51,47,49,54]=⟨false,3,16⟩:=by decide +kernel
theorem zr1:lowQ (false != false) (2*1) (1*16)=⟨false,1,8⟩:=by decide +kernel
theorem zrR:lowQ (false != false) (2*3) (1*16)=⟨false,3,8⟩:=by decide +kernel
theorem zra:zcw ⟨false,1,8⟩ ⟨false,1,1⟩=⟨false,9,8⟩:=by decide +kernel
theorem zr6:zcw ⟨false,3,8⟩ ⟨false,1,1⟩=⟨false,11,8⟩:=by decide +kernel
theorem znj:zaS ⟨false,9,8⟩=[57,47,56]∧zaO ⟨false,9,8⟩=0:=by decide +kernel
theorem znF:zaS ⟨false,11,8⟩=[49,49,47,56]∧zaO ⟨false,11,8⟩=0:=by decide +kernel
set_option maxHeartbeats 2000000 in
set_option maxRecDepth 100000 in
theorem ze4 (a st z:Int) (g o s:ByteArray) (p q r t u:Q) (l:List UInt8) (w:World) (hT:Tabs w) (hg:g.size≤4294967296) (ho:o.size≤4294967296) (hs:s.size≤4294967296)
  (eg:zad g.data.toList=p) (es:zad s.data.toList=q) (eo:zad o.data.toList=r) (et:lowQ (p.neg != q.neg) (p.top*q.top) (p.bot*q.bot)=t) (eu:zcw t r=u) (el:zaS u=l) (ee:zaO u=0)
  (hp:Sml p) (hq:Sml q) (hr:Sml r) (ht:Sml t) (hu:Sml u) :
  Calls Tryz.prog 99 #[.agg #[.int .i64 a,.int .i64 st,.int .i64 z,.string g,.string o],.string s] w fun e w'=>e = .returned (.tuple #[.string ⟨l.toArray⟩,.int .i64 0])∧Below w.heap.size w w':=by
 have hb0:Below w.heap.size w (w.alloc (.cells #[.int .i64 a,.int .i64 st,.int .i64 z,.string g,.string o] 33)):=(Below.refl _ _).alloc (Nat.le_refl _) _
 have q0:CBlk (w.alloc (.cells #[.int .i64 a,.int .i64 st,.int .i64 z,.string g,.string o] 33)) w.heap.size #[.int .i64 a,.int .i64 st,.int .i64 z,.string g,.string o] 33:=CBlk.new w _ _ _ rfl
 have HG:=Lib.hid (fun W hT=>zec g W hT hg)
 have HS:=Lib.hid (fun W hT=>zec s W hT hs)
 have HO:=Lib.hid (fun W hT=>zec o W hT ho)
 rw [eg] at HG
 rw [es] at HS
 rw [eo] at HO
 have HX:=Lib.hid (fun v u W hT hv hu=>zk0 p q v u W hT hv hu hp hq)
 rw [et] at HX
 have HP:=Lib.hid (fun v u W hT hv hu=>zrV t r v u W hT hv hu ht hr)
 rw [eu] at HP
 have HW:=Lib.hid (fun v W hT hv=>zk7 u v W hT hv hu)
 rw [el,ee] at HW
 clear eg es eo et eu el ee hp hq hr ht hu hg ho hs
 go_enter Tryz.func99,Tryz.ntmps99
 go_wp2_with fail
 generalize w.alloc (.cells #[.int .i64 a,.int .i64 st,.int .i64 z,.string g,.string o] 33)=w1 at *
 have hT1:=hT.later hb0
 go_region_held3 (fun w'=>w'.cell? ⟨w.heap.size,3,none⟩=some (.string g)∧w'.cell? ⟨w.heap.size,4,none⟩=some (.string o))
  ((refine ⟨?_,?_⟩<;>first | exact q7.cell _ | exact q6.cell _ | exact q5.cell _ | exact q4.cell _ | exact q3.cell _ | exact q2.cell _ | exact q0.cell _))
  (first
   |(go_at_call 96;refine (HW.out v6 w6 hT6 hv6).mono ?_;rintro e w7 ⟨sr,rfl,hsr,hb7⟩;have q7:=q6.below hb7 q6.lt;have hT7:=hT6.later hb7)
   |(go_at_call 161;refine (HP.out v4 v5 w5 hT5 hv45 hv5).mono ?_;rintro e w6 ⟨v6,rfl,hv6,hb6⟩;have q6:=q5.below hb6 q5.lt;have hT6:=hT5.later hb6)
   |(go_at_call 91;refine (HO.out w4 hT4).mono ?_;rintro e w5 ⟨v5,rfl,hv5,hb5⟩;have q5:=q4.below hb5 q4.lt;have hT5:=hT4.later hb5;have hv45:=hv4.later hb5)
   |(go_at_call 97;refine (HX.out v2 v3 w3 hT3 hv23 hv3).mono ?_;rintro e w4 ⟨v4,rfl,hv4,hb4⟩;have q4:=q3.below hb4 q3.lt;have hT4:=hT3.later hb4)
   |(go_at_call 91;refine (HS.out w2 hT2).mono ?_;rintro e w3 ⟨v3,rfl,hv3,hb3⟩;have q3:=q2.below hb3 q2.lt;have hT3:=hT2.later hb3;have hv23:=hv2.later hb3)
   |(go_at_call 91;refine (HG.out w1.drew (hT1.later (Below.drew (Below.refl _ _)))).mono ?_;rintro e w2 ⟨v2,rfl,hv2,hb2'⟩;have hb2:Below w1.heap.size w1 w2:=⟨hb2'.os,hb2'.tape,hb2'.output,hb2'.size,hb2'.block⟩;clear hb2';have q2:=q0.below hb2 q0.lt;have hT2:=hT1.later hb2))
 have hB2:=hb0.trans (hb2.mono hb0.size)
 have hB3:=hB2.trans (hb3.mono hB2.size)
 have hB4:=hB3.trans (hb4.mono hB3.size)
 have hB5:=hB4.trans (hb5.mono hB4.size)
 have hB6:=hB5.trans (hb6.mono hB5.size)
 have hB7:=hB6.trans (hb7.mono hB6.size)
 obtain rfl:=zqh hsr
 clear HG HS HO HX HP HW
 go_wp2_with fail
 go_ret2
 exact ⟨rfl,hB7⟩
set_option maxHeartbeats 2000000 in
set_option maxRecDepth 100000 in
theorem zdF (a st z:Int) (g o g' o':ByteArray) (w:World) :
  Calls Tryz.prog 98 #[.agg #[.int .i64 a,.int .i64 st,.int .i64 z,.string g,.string o],.string g',.string o'] w fun e w'=>e = .returned (.agg #[.int .i64 a,.int .i64 st,.int .i64 z,.string g',.string o'])∧Below w.heap.size w w':=by
 go_enter Tryz.func98,Tryz.ntmps98
 go_wp2_with fail
 refine bodyPost_ret (v := .agg #[.int .i64 a,.int .i64 st,.int .i64 z,.string g',.string o']) (by simp [results,Tryz.results98,go_sem]) rfl ⟨rfl,?_⟩
 exact (((Below.refl _ _).alloc (Nat.le_refl _) _).alloc (by simp) _).alloc (by simp;omega) _
theorem zhA (b:Bool) (t d:Nat):lowQ b t d=zb4 (sgn b t) d:=by
 unfold zb4
 rw [zdm,zcg]
 unfold lowQ
 by_cases hd:d=0
 ·rw [if_pos hd,if_pos hd]
 ·rw [if_neg hd,if_neg hd]
  by_cases ht:t=0
  ·rw [if_pos ht,if_pos ht]
  ·rw [if_neg ht,if_neg ht,decide_eq_true (Nat.pos_of_ne_zero ht),Bool.and_true]
theorem zkb (p:Q):sI p=sgn p.neg p.top:=rfl
theorem zg3 (p q:Q):lowQ (p.neg != q.neg) (p.top*q.top) (p.bot*q.bot)=mulQ p q:=by
 rw [zhA]
 unfold mulQ
 rw [zkb,zkb,←zjB]
 cases p.neg<;>cases q.neg<;>rfl
theorem zm2 (p q:Q):zcw p q=addQ p q:=by
 unfold zcw addQ
 rw [zkb,zkb]
 have e1:∀ b x y,sgn b x*(y:Nat)=sgn b (x*y):=by
  intro b x y
  unfold sgn
  cases b<;>simp [Int.natCast_mul,Int.neg_mul]
 rw [e1,e1]
 generalize p.top*q.bot=u
 generalize q.top*p.bot=v
 generalize p.bot*q.bot=d
 split
 ·rename_i h
  rw [h,zhA]
  congr 1
  unfold sgn
  cases q.neg<;>simp<;>omega
 ·rename_i h
  split
  ·rename_i h2
   rw [zhA]
   congr 1
   unfold sgn
   cases hp:p.neg<;>cases hq:q.neg<;>rw [hp,hq] at h<;>simp at h ⊢ <;> omega
  ·rename_i h2
   rw [zhA]
   congr 1
   unfold sgn
   cases hp:p.neg<;>cases hq:q.neg<;>rw [hp,hq] at h<;>simp at h ⊢ <;> omega
theorem zbj {w:World} {B n c x N:Nat} {A:Option Addr} (h:NatD w B A n c x) (hx:x<10 ^ N):n≤N:=by
 have h1:=h.len
 have h2:=Dn.digs_length_le (n:=x) (k:=N) (Nat.lt_of_lt_of_le hx (Nat.pow_le_pow_left (by decide) N))
 omega
theorem zpO {N:Nat} (p q:Q) (v u:Value) (w:World) (hT:Tabs w) (hv:RatD w w.heap.size v p) (hu:RatD w w.heap.size u q) (hp:Small p N) (hq:Small q N) (hN:N≤100000) :
  Calls Tryz.prog 97 #[v,u] w (zbH w (mulQ p q)):=by
 obtain ⟨A1,n1,c1,A2,n2,c2,rfl,h1,h2⟩:=hv
 obtain ⟨A3,n3,c3,A4,n4,c4,rfl,h3,h4⟩:=hu
 have b1:=zbj h1 hp.1
 have b2:=zbj h2 hp.2
 have b3:=zbj h3 hq.1
 have b4:=zbj h4 hq.2
 rw [←zg3]
 exact zd6 p q _ _ _ _ _ _ _ _ _ _ _ _ w hT h1 h2 h3 h4 (by omega) (by omega) (by omega) (by omega)
theorem zqg {N:Nat} (p:Q) (v:Value) (w:World) (hT:Tabs w) (hv:RatD w w.heap.size v p) (hp:Small p N) (hN:N≤100000) :
  Calls Tryz.prog 96 #[v] w (zcY w (zaS p) (zaO p)):=by
 obtain ⟨A1,n1,c1,A2,n2,c2,rfl,h1,h2⟩:=hv
 have b1:=zbj h1 hp.1
 have b2:=zbj h2 hp.2
 exact zgY p _ _ _ _ _ _ w hT h1 h2 (by omega) (by omega)
theorem zmc {p:Q} {N:Nat} (h:Small p N) (hN:N≤600) (hN0:0<N) (hb:0<p.bot):zaO p=0∧zaS p=zay p:=by
 have h1:=Dec.dec_length_le hN0 h.1
 have h2:=Dec.dec_length_le hN0 h.2
 have h0:zaO p=0:=by
  unfold zaO
  rw [if_neg (by omega),if_neg (by omega)]
 exact ⟨h0,by unfold zaS;rw [if_pos h0]⟩
end Go.Proofs.YtmkihdjolnlccaaGreatDoor
namespace Go.Proofs.YtmkihdjolnlccaaGreatDoor
open Go.RowKit Dn
def FewA (a st z:Int) (g o:ByteArray):Prop:=adcE a st z g.data.toList o.data.toList=0∧FewT g∧FewT o
def zkd (a st z:Int) (g o:ByteArray) (b:Bool):Prop:=∀ W,Calls Tryz.prog 25 #[.agg #[.int .i64 a,.int .i64 st,.int .i64 z,.string g,.string o]] W fun e w'=>e = .returned (.bool b)∧Below W.heap.size W w'
set_option maxHeartbeats 2000000 in
set_option maxRecDepth 100000 in
theorem zf6 (a st z E:Int) (g o:ByteArray) (b1 b2 b:Bool) (hC:∀ W,Calls Tryz.prog 16 #[.agg #[.int .i64 a,.int .i64 st,.int .i64 z,.string g,.string o]] W fun e w'=>e = .returned (.int .i64 E)∧Below W.heap.size W w')
    (hG:zoz g b1) (hO:zoz o b2) (hb:(E≠0∧b=false)∨(E=0∧b1=false∧b=false)∨(E=0∧b1=true∧b=b2)):zkd a st z g o b:=by
  intro w
  have hb0:Below w.heap.size w (w.alloc (.cells #[.int .i64 a,.int .i64 st,.int .i64 z,.string g,.string o] 24)):=(Below.refl _ _).alloc (Nat.le_refl _) _
  have q0:CBlk (w.alloc (.cells #[.int .i64 a,.int .i64 st,.int .i64 z,.string g,.string o] 24)) w.heap.size #[.int .i64 a,.int .i64 st,.int .i64 z,.string g,.string o] 24:=CBlk.new w _ _ _ rfl
  have x0:=q0.cell 0
  have x1:=q0.cell 1
  have x2:=q0.cell 2
  have x3:=q0.cell 3
  have x4:=q0.cell 4
  have HC:=Lib.hid hC
  have HG:=Lib.hid hG
  have HO:=Lib.hid hO
  clear hC hG hO
  rcases hb with ⟨h0,rfl⟩ | ⟨rfl,rfl,rfl⟩ | ⟨rfl,rfl,rfl⟩
  · have d0:(E==0)=false:=beq_eq_false_iff_ne.2 h0
    clear h0
    go_enter Tryz.func25,Tryz.ntmps25
    go_wp2_with fail
    generalize w.alloc (.cells #[.int .i64 a,.int .i64 st,.int .i64 z,.string g,.string o] 24)=w1 at *
    refine (HC.out w1).mono ?_
    rintro e w2 ⟨rfl,hb2⟩
    have hB2:=hb0.trans (hb2.mono hb0.size)
    go_wp2_with fail
    go_ret
    exact ⟨rfl,hB2⟩
  all_goals
    go_enter Tryz.func25,Tryz.ntmps25
    go_wp2_with fail
    generalize w.alloc (.cells #[.int .i64 a,.int .i64 st,.int .i64 z,.string g,.string o] 24)=w1 at *
    refine (HC.out w1).mono ?_
    rintro e w2 ⟨rfl,hb2⟩
    have q2:=q0.below hb2 q0.lt
    have hB2:=hb0.trans (hb2.mono hb0.size)
    clear x0 x1 x2 x3 x4 hb2
    have x3:=q2.cell 3
    have x4:=q2.cell 4
    go_wp2_with fail
    refine (HG.out w2).mono ?_
    rintro e w3 ⟨rfl,hb3⟩
    have q3:=q2.below hb3 q2.lt
    have hB3:=hB2.trans (hb3.mono hB2.size)
    clear x3 x4 hb3
    have x4:=q3.cell 4
    go_wp2_with fail
    first
      | (go_ret
         exact ⟨rfl,hB3⟩)
      | (refine (HO.out w3).mono ?_
         rintro e w4 ⟨rfl,hb4⟩
         have hB4:=hB3.trans (hb4.mono hB3.size)
         clear hb4
         go_wp2_with fail
         go_ret
         exact ⟨rfl,hB4⟩)
theorem zsq (a st z:Int) (g o:ByteArray) (hg:g.size≤9223372036854775807) (ho:o.size≤9223372036854775807):∃ b,(b=true→FewA a st z g o)∧zkd a st z g o b:=by
 obtain ⟨b1,h1,k1⟩:=zni g
 obtain ⟨b2,h2,k2⟩:=zni o
 have hC:=fun W=>zh4 a st z g o W hg ho
 by_cases hE:adcE a st z g.data.toList o.data.toList=0
 ·rw [hE] at hC
  cases b1
  ·exact ⟨false,(fun h=>by cases h),zf6 a st z 0 g o false b2 false hC k1 k2 (.inr (.inl ⟨rfl,rfl,rfl⟩))⟩
  ·exact ⟨b2,fun h=>⟨hE,h1 rfl,h2 h⟩,zf6 a st z 0 g o true b2 b2 hC k1 k2 (.inr (.inr ⟨rfl,rfl,rfl⟩))⟩
 ·exact ⟨false,(fun h=>by cases h),zf6 a st z _ g o b1 b2 false hC k1 k2 (.inl ⟨hE,rfl⟩)⟩
end Go.Proofs.YtmkihdjolnlccaaGreatDoor
