/- The code's Interval and True where checkInner errs, Interval where it does not. -/
import Derived.Test.YtjhgadajpliclaaGreatDoorIAw8
import Derived.Laws.StructEq
namespace Go.Proofs.YtjhgadajpliclaaGreatDoor
open Go.RowKit Bn
open Flt
def Inner (a st z c:Int) (g o:ByteArray) (E:Int):Prop:=∀ W,Tabs W→Calls Tryz.prog 63 #[.agg #[.int .i64 a,.int .i64 st,.int .i64 z,.string g,.string o],.int .i64 c] W fun e w'=>e = .returned (.int .i64 E)∧Below W.heap.size W w'
set_option maxHeartbeats 1000000 in
theorem Interval_bad (a st z c E:Int) (g o:ByteArray) (w:World) (hT:Tabs w) (hI:Inner a st z c g o E) (h0:E≠0) :
  Calls Tryz.prog 18 #[.agg #[.int .i64 a,.int .i64 st,.int .i64 z,.string g,.string o],.int .i64 c] w fun e w'=>e = .returned (.tuple #[.agg #[.string { data:=#[] },.string { data:=#[] }],.int .i64 E])∧Below w.heap.size w w':=by
 have hb0:Below w.heap.size w ((w.alloc (.cells #[.int .i64 a,.int .i64 st,.int .i64 z,.string g,.string o] 32)).alloc (.cells #[.string { data:=#[] },.string { data:=#[] }] 28)):=((Below.refl _ _).alloc (Nat.le_refl _) _).alloc (by simp) _
 have q0:CBlk ((w.alloc (.cells #[.int .i64 a,.int .i64 st,.int .i64 z,.string g,.string o] 32)).alloc (.cells #[.string { data:=#[] },.string { data:=#[] }] 28)) w.heap.size #[.int .i64 a,.int .i64 st,.int .i64 z,.string g,.string o] 32:=(CBlk.new w _ _ _ rfl).below ((Below.refl _ _).alloc (Nat.le_refl _) _) (by simp)
 have s0:CBlk ((w.alloc (.cells #[.int .i64 a,.int .i64 st,.int .i64 z,.string g,.string o] 32)).alloc (.cells #[.string { data:=#[] },.string { data:=#[] }] 28)) (w.heap.size+1) #[.string { data:=#[] },.string { data:=#[] }] 28:=CBlk.new _ _ _ _ (by simp)
 have hT1:=hT.later hb0
 have x0:=q0.cell 0
 have x1:=q0.cell 1
 have x2:=q0.cell 2
 have x3:=q0.cell 3
 have x4:=q0.cell 4
 have HC:=Lib.hid (hI _ hT1)
 have d0:(E==0)=false:=beq_eq_false_iff_ne.2 h0
 have d1:(E != 0)=true:=by simpa using h0
 clear h0 hI
 go_enter Tryz.func18,Tryz.ntmps18
 go_wp2_with fail
 generalize (w.alloc (.cells #[.int .i64 a,.int .i64 st,.int .i64 z,.string g,.string o] 32)).alloc (.cells #[.string { data:=#[] },.string { data:=#[] }] 28)=w1 at *
 refine HC.out.mono ?_
 rintro e w2 ⟨rfl,hb2⟩
 have s6:=s0.below hb2 s0.lt
 have hB6:=hb0.trans (hb2.mono hb0.size)
 clear x0 x1 x2 x3 x4
 have r0:=s6.cell 0
 have r1:=s6.cell 1
 have f0:=s6.frozen 0
 have f1:=s6.frozen 1
 have hset:=two_set hB6 (g:=w.heap.size+1) (by omega) (.string { data:=#[] }) (.string { data:=#[] })
 clear HC
 go_wp2_with fail
 refine bodyPost_ret (v := .tuple #[.agg #[.string { data:=#[] },.string { data:=#[] }],.int .i64 E]) (by simp [results,Tryz.results18,go_sem,r0,r1]) rfl ⟨rfl,hset⟩
set_option maxHeartbeats 1000000 in
theorem True_bad (a st z c E:Int) (g o:ByteArray) (w:World) (hT:Tabs w) (hI:Inner a st z c g o E) (h0:E≠0) :
  Calls Tryz.prog 19 #[.agg #[.int .i64 a,.int .i64 st,.int .i64 z,.string g,.string o],.int .i64 c] w fun e w'=>e = .returned (.tuple #[.agg #[.string { data:=#[] },.string { data:=#[] }],.int .i64 E])∧Below w.heap.size w w':=by
 have hb0:Below w.heap.size w ((w.alloc (.cells #[.int .i64 a,.int .i64 st,.int .i64 z,.string g,.string o] 32)).alloc (.cells #[.string { data:=#[] },.string { data:=#[] }] 28)):=((Below.refl _ _).alloc (Nat.le_refl _) _).alloc (by simp) _
 have q0:CBlk ((w.alloc (.cells #[.int .i64 a,.int .i64 st,.int .i64 z,.string g,.string o] 32)).alloc (.cells #[.string { data:=#[] },.string { data:=#[] }] 28)) w.heap.size #[.int .i64 a,.int .i64 st,.int .i64 z,.string g,.string o] 32:=(CBlk.new w _ _ _ rfl).below ((Below.refl _ _).alloc (Nat.le_refl _) _) (by simp)
 have s0:CBlk ((w.alloc (.cells #[.int .i64 a,.int .i64 st,.int .i64 z,.string g,.string o] 32)).alloc (.cells #[.string { data:=#[] },.string { data:=#[] }] 28)) (w.heap.size+1) #[.string { data:=#[] },.string { data:=#[] }] 28:=CBlk.new _ _ _ _ (by simp)
 have hT1:=hT.later hb0
 have x0:=q0.cell 0
 have x1:=q0.cell 1
 have x2:=q0.cell 2
 have x3:=q0.cell 3
 have x4:=q0.cell 4
 have HC:=Lib.hid (hI _ hT1)
 have d0:(E==0)=false:=beq_eq_false_iff_ne.2 h0
 have d1:(E != 0)=true:=by simpa using h0
 clear h0 hI
 go_enter Tryz.func19,Tryz.ntmps19
 go_wp2_with fail
 generalize (w.alloc (.cells #[.int .i64 a,.int .i64 st,.int .i64 z,.string g,.string o] 32)).alloc (.cells #[.string { data:=#[] },.string { data:=#[] }] 28)=w1 at *
 refine HC.out.mono ?_
 rintro e w2 ⟨rfl,hb2⟩
 have s6:=s0.below hb2 s0.lt
 have hB6:=hb0.trans (hb2.mono hb0.size)
 clear x0 x1 x2 x3 x4
 have r0:=s6.cell 0
 have r1:=s6.cell 1
 have f0:=s6.frozen 0
 have f1:=s6.frozen 1
 have hset:=two_set hB6 (g:=w.heap.size+1) (by omega) (.string { data:=#[] }) (.string { data:=#[] })
 clear HC
 go_wp2_with fail
 refine bodyPost_ret (v := .tuple #[.agg #[.string { data:=#[] },.string { data:=#[] }],.int .i64 E]) (by simp [results,Tryz.results19,go_sem,r0,r1]) rfl ⟨rfl,hset⟩
theorem interval_q (a:Nat) (st z c:Int) (g o:ByteArray) (w:World) (hT:Tabs w) (hc:0≤c∧c≤4095) (hz:0≤z∧z≤4095) (hst : -20≤st∧st≤4) :
  Calls Tryz.prog 64 #[.agg #[.int .i64 a,.int .i64 st,.int .i64 z,.string g,.string o],.int .i64 c] w (RetSpan w (lowE st z c) (highE st z c)):=by
 refine (interval_ok a st z c g o _ _ _ _ w hT hc hz hst rfl rfl (edge_low hst (by omega) (by omega)) (edge_high hst (by omega) (by omega))).mono ?_
 rintro e w' ⟨rfl,hb⟩
 exact ⟨⟨_,_,rfl,⟨by simp,lowE_low st z c⟩,⟨by simp,highE_low st z c⟩⟩,hb⟩
set_option maxHeartbeats 1000000 in
theorem Interval_good (a:Nat) (st z c:Int) (g o:ByteArray) (w:World) (hT:Tabs w) (hI:Inner a st z c g o 0) (hc:0≤c∧c≤4095) (hz:0≤z∧z≤4095) (hst : -20≤st∧st≤4) :
  Calls Tryz.prog 18 #[.agg #[.int .i64 a,.int .i64 st,.int .i64 z,.string g,.string o],.int .i64 c] w fun e w'=>(∃ s t:ByteArray,e = .returned (.tuple #[.agg #[.string s,.string t],.int .i64 0])∧NumQ s (lowE st z c)∧NumQ t (highE st z c))∧Below w.heap.size w w':=by
 have hb0:Below w.heap.size w ((w.alloc (.cells #[.int .i64 a,.int .i64 st,.int .i64 z,.string g,.string o] 32)).alloc (.cells #[.string { data:=#[] },.string { data:=#[] }] 28)):=((Below.refl _ _).alloc (Nat.le_refl _) _).alloc (by simp) _
 have q0:CBlk ((w.alloc (.cells #[.int .i64 a,.int .i64 st,.int .i64 z,.string g,.string o] 32)).alloc (.cells #[.string { data:=#[] },.string { data:=#[] }] 28)) w.heap.size #[.int .i64 a,.int .i64 st,.int .i64 z,.string g,.string o] 32:=(CBlk.new w _ _ _ rfl).below ((Below.refl _ _).alloc (Nat.le_refl _) _) (by simp)
 have s0:CBlk ((w.alloc (.cells #[.int .i64 a,.int .i64 st,.int .i64 z,.string g,.string o] 32)).alloc (.cells #[.string { data:=#[] },.string { data:=#[] }] 28)) (w.heap.size+1) #[.string { data:=#[] },.string { data:=#[] }] 28:=CBlk.new _ _ _ _ (by simp)
 have hT1:=hT.later hb0
 have x0:=q0.cell 0
 have x1:=q0.cell 1
 have x2:=q0.cell 2
 have x3:=q0.cell 3
 have x4:=q0.cell 4
 have HC:=Lib.hid (hI _ hT1)
 have HQ:=Lib.hid (fun W hT=>interval_q a st z c g o W hT hc hz hst)
 generalize lowE st z c=P at *
 generalize highE st z c=Q at *
 clear hI hc hz hst
 go_enter Tryz.func18,Tryz.ntmps18
 go_wp2_with fail
 generalize (w.alloc (.cells #[.int .i64 a,.int .i64 st,.int .i64 z,.string g,.string o] 32)).alloc (.cells #[.string { data:=#[] },.string { data:=#[] }] 28)=w1 at *
 refine HC.out.mono ?_
 rintro e w2 ⟨rfl,hb2⟩
 have q2:=q0.below hb2 q0.lt
 have s2:=s0.below hb2 s0.lt
 have hT2:=hT1.later hb2
 have hB2:=hb0.trans (hb2.mono hb0.size)
 clear x0 x1 x2 x3 x4
 have x0:=q2.cell 0
 have x1:=q2.cell 1
 have x2:=q2.cell 2
 have x3:=q2.cell 3
 have x4:=q2.cell 4
 go_wp2_with fail
 refine (HQ.out w2 hT2).mono ?_
 rintro e w3 ⟨⟨s,t,rfl,hs,ht⟩,hb3⟩
 have s6:=s2.below hb3 s2.lt
 have hB6:=hB2.trans (hb3.mono hB2.size)
 clear x0 x1 x2 x3 x4
 have r0:=s6.cell 0
 have r1:=s6.cell 1
 have f0:=s6.frozen 0
 have f1:=s6.frozen 1
 have hset:=two_set hB6 (g:=w.heap.size+1) (by omega) (.string s) (.string t)
 have HS:=Lib.hid hs
 have HT:=Lib.hid ht
 clear HC HQ hs ht
 go_wp2_with fail
 refine bodyPost_ret (v := .tuple #[.agg #[.string s,.string t],.int .i64 0]) (by simp [results,Tryz.results18,go_sem,r0,r1]) rfl ?_
 exact ⟨⟨s,t,rfl,HS.out,HT.out⟩,hset⟩
set_option maxHeartbeats 4000000 in
set_option maxRecDepth 100000 in
theorem True_good (a:Nat) (st z c:Int) (g o:ByteArray) (w:World) (hT:Tabs w) (hI:Inner a st z c g o 0) (hc:0≤c∧c≤4095) (hz:0≤z∧z≤4095) (hst : -20≤st∧st≤4)
  (hg:g.size≤60) (ho:o.size≤60) (eg:readE g.data.toList=0) (eo:readE o.data.toList=0) (hcal:((g.toList==[49])=false)∨((g.toList==[49])=true∧(o.toList==[48])=false)) :
  Calls Tryz.prog 19 #[.agg #[.int .i64 a,.int .i64 st,.int .i64 z,.string g,.string o],.int .i64 c] w fun e w'=>(∃ s t:ByteArray,e = .returned (.tuple #[.agg #[.string s,.string t],.int .i64 0])∧NumQ s (realQ (readQ g.data.toList) (readQ o.data.toList) (lowE st z c))∧NumQ t (realQ (readQ g.data.toList) (readQ o.data.toList) (highE st z c)))∧Below w.heap.size w w':=by
 have hb0:Below w.heap.size w ((w.alloc (.cells #[.int .i64 a,.int .i64 st,.int .i64 z,.string g,.string o] 32)).alloc (.cells #[.string { data:=#[] },.string { data:=#[] }] 28)):=((Below.refl _ _).alloc (Nat.le_refl _) _).alloc (by simp) _
 have q0:CBlk ((w.alloc (.cells #[.int .i64 a,.int .i64 st,.int .i64 z,.string g,.string o] 32)).alloc (.cells #[.string { data:=#[] },.string { data:=#[] }] 28)) w.heap.size #[.int .i64 a,.int .i64 st,.int .i64 z,.string g,.string o] 32:=(CBlk.new w _ _ _ rfl).below ((Below.refl _ _).alloc (Nat.le_refl _) _) (by simp)
 have s0:CBlk ((w.alloc (.cells #[.int .i64 a,.int .i64 st,.int .i64 z,.string g,.string o] 32)).alloc (.cells #[.string { data:=#[] },.string { data:=#[] }] 28)) (w.heap.size+1) #[.string { data:=#[] },.string { data:=#[] }] 28:=CBlk.new _ _ _ _ (by simp)
 have hT1:=hT.later hb0
 have x0:=q0.cell 0
 have x1:=q0.cell 1
 have x2:=q0.cell 2
 have x3:=q0.cell 3
 have x4:=q0.cell 4
 have HC:=Lib.hid (hI _ hT1)
 have HQ:=Lib.hid (fun W hT=>interval_q a st z c g o W hT hc hz hst)
 have sg:Small (readQ g.data.toList) 100:=((num_read eg).small hg (by omega)).more (by omega)
 have so:Small (readQ o.data.toList) 100:=((num_read eo).small ho (by omega)).more (by omega)
 have g0:=readQ_bot eg
 have o0:=readQ_bot eo
 have sl:=(lowE_small (z:=z) (c:=c) hst (by omega)).more (M:=100) (by omega)
 have sh:=(highE_small (z:=z) (c:=c) hst (by omega)).more (M:=100) (by omega)
 have rd:∀ (s:ByteArray) (p:Q),NumQ s p→Small p 32→readQ s.data.toList=p∧s.size≤66:=fun s p hs hp=>by
  have l1:=Dec.dec_length_le (by omega) hp.1
  have l2:=Dec.dec_length_le (by omega) hp.2
  refine ⟨?_,hs.size hp (by omega)⟩
  rw [hs.1]
  exact (read_writeS p hs.2 (by omega) (by omega)).2
 have HV1:Hid (∀ (v:ByteArray) W,Tabs W→NumQ v (lowE st z c)→Calls Tryz.prog 66 #[.agg #[.int .i64 a,.int .i64 st,.int .i64 z,.string g,.string o],.string v] W fun e w'=>(∃ l:ByteArray,e = .returned (.tuple #[.string l,.int .i64 0])∧NumQ l (realQ (readQ g.data.toList) (readQ o.data.toList) (lowE st z c)))∧Below W.heap.size W w'):=fun v W hT hv=>by
  obtain ⟨r1,r2⟩:=rd v _ hv (lowE_small hst (by omega))
  exact trueVolts_any a st z g o v _ _ _ W hT (by omega) (by omega) (by omega) rfl r1 rfl sg sl so g0 hv.2.1 o0
 have HV2:Hid (∀ (v:ByteArray) W,Tabs W→NumQ v (highE st z c)→Calls Tryz.prog 66 #[.agg #[.int .i64 a,.int .i64 st,.int .i64 z,.string g,.string o],.string v] W fun e w'=>(∃ l:ByteArray,e = .returned (.tuple #[.string l,.int .i64 0])∧NumQ l (realQ (readQ g.data.toList) (readQ o.data.toList) (highE st z c)))∧Below W.heap.size W w'):=fun v W hT hv=>by
  obtain ⟨r1,r2⟩:=rd v _ hv (highE_small hst (by omega))
  exact trueVolts_any a st z g o v _ _ _ W hT (by omega) (by omega) (by omega) rfl r1 rfl sg sh so g0 hv.2.1 o0
 generalize realQ (readQ g.data.toList) (readQ o.data.toList) (lowE st z c)=R1 at *
 generalize realQ (readQ g.data.toList) (readQ o.data.toList) (highE st z c)=R2 at *
 generalize lowE st z c=P at *
 generalize highE st z c=Q at *
 clear hI hc hz hst hg ho eg eo sg so g0 o0 sl sh rd
 rcases hcal with d1 | ⟨d1,d2⟩
 all_goals
  go_enter Tryz.func19,Tryz.ntmps19
  go_wp2_with fail
  generalize (w.alloc (.cells #[.int .i64 a,.int .i64 st,.int .i64 z,.string g,.string o] 32)).alloc (.cells #[.string { data:=#[] },.string { data:=#[] }] 28)=w1 at *
  refine HC.out.mono ?_
  rintro e w2 ⟨rfl,hb2⟩
  have q2:=q0.below hb2 q0.lt
  have s2:=s0.below hb2 s0.lt
  have hT2:=hT1.later hb2
  have hB2:=hb0.trans (hb2.mono hb0.size)
  clear x0 x1 x2 x3 x4
  have x0:=q2.cell 0
  have x1:=q2.cell 1
  have x2:=q2.cell 2
  have x3:=q2.cell 3
  have x4:=q2.cell 4
  go_wp2_with fail
  refine (HQ.out w2 hT2).mono ?_
  rintro e w3 ⟨⟨l,h,rfl,hl,hh⟩,hb3⟩
  have hb4:Below w3.heap.size w3 (w3.alloc (.cells #[.string l,.string h] 28)):=(Below.refl _ _).alloc (Nat.le_refl _) _
  have q4:=(q2.below hb3 q2.lt).below hb4 (q2.below hb3 q2.lt).lt
  have s4:=(s2.below hb3 s2.lt).below hb4 (s2.below hb3 s2.lt).lt
  have i4:CBlk (w3.alloc (.cells #[.string l,.string h] 28)) w3.heap.size #[.string l,.string h] 28:=CBlk.new _ _ _ _ rfl
  have hB3:=hB2.trans (hb3.mono hB2.size)
  have hB4:=hB3.trans (hb4.mono hB3.size)
  have hT4:=hT.later hB4
  have HL:=Lib.hid hl
  have HH:=Lib.hid hh
  clear x0 x1 x2 x3 x4 hb2 hb3 hb4 hl hh HC HQ
  go_wp2_with fail
  generalize w3.heap.size=j at *
  generalize w3.alloc (.cells #[.string l,.string h] 28)=w4 at *
  have HCAL:=Lib.hid (fun W=>calibrated_any a st z g o { data:=#[49] } { data:=#[48] } W)
  go_region_held3 (fun w'=>w'.cell? ⟨w.heap.size,0,none⟩=some (.int .i64 a)∧w'.cell? ⟨w.heap.size,1,none⟩=some (.int .i64 st)∧w'.cell? ⟨w.heap.size,2,none⟩=some (.int .i64 z)∧w'.cell? ⟨w.heap.size,3,none⟩=some (.string g)∧w'.cell? ⟨w.heap.size,4,none⟩=some (.string o))
   ((refine ⟨?_,?_,?_,?_,?_⟩<;>first | exact q5.cell _ | exact q4.cell _))
   (first
    |(go_at_call 65;refine (HCAL.out w4.drew).mono ?_;rintro e w5 ⟨rfl,hb5'⟩;have hb5:Below w4.heap.size w4 w5:=⟨hb5'.os,hb5'.tape,hb5'.output,hb5'.size,hb5'.block⟩;clear hb5';have q5:=q4.below hb5 q4.lt))
  have hB5:=hB4.trans (hb5.mono hB4.size)
  have s5:=s4.below hb5 s4.lt
  have i5:=i4.below hb5 i4.lt
  have hT5:=hT4.later hb5
  have x0:=q5.cell 0
  have x1:=q5.cell 1
  have x2:=q5.cell 2
  have x3:=q5.cell 3
  have x4:=q5.cell 4
  have y0:=i5.cell 0
  have y1:=i5.cell 1
  have r0:=s5.cell 0
  have r1:=s5.cell 1
  have f0:=s5.frozen 0
  have f1:=s5.frozen 1
  clear hb5 q4 s4 i4 hT4 hB4 HCAL
  clear r0 r1 f0 f1
  go_wp2_with fail
  refine (HV1.out l w5 hT5 HL.out).mono ?_
  rintro e w6 ⟨⟨t1,rfl,ht1⟩,hb6⟩
  have q6:=q5.below hb6 q5.lt
  have s6:=s5.below hb6 s5.lt
  have i6:=i5.below hb6 i5.lt
  have hT6:=hT5.later hb6
  have hB6:=hB5.trans (hb6.mono hB5.size)
  clear x0 x1 x2 x3 x4 y0 y1
  have x0:=q6.cell 0
  have x1:=q6.cell 1
  have x2:=q6.cell 2
  have x3:=q6.cell 3
  have x4:=q6.cell 4
  have y0:=i6.cell 0
  have y1:=i6.cell 1
  have HT1:=Lib.hid ht1
  clear hb6 q5 s5 i5 hT5 hB5 ht1
  go_wp2_with fail
  refine (HV2.out h w6 hT6 HH.out).mono ?_
  rintro e w7 ⟨⟨t2,rfl,ht2⟩,hb7⟩
  have s7:=s6.below hb7 s6.lt
  have hB7:=hB6.trans (hb7.mono hB6.size)
  have HT2:=Lib.hid ht2
  clear x0 x1 x2 x3 x4 y0 y1 hb7 q6 s6 i6 hT6 hB6 ht2
  go_wp2_with fail
  refine (cfirst_two 0 0 w7 _ _ rfl).mono ?_
  rintro e w8 ⟨rfl,rfl⟩
  have hb8:Below w7.heap.size w7 (w7.alloc (.cells #[.int .i64 0,.int .i64 0] 29)):=(Below.refl _ _).alloc (Nat.le_refl _) _
  have s8:=s7.below hb8 s7.lt
  have hB8:=hB7.trans (hb8.mono hB7.size)
  generalize w7.alloc (.cells #[.int .i64 0,.int .i64 0] 29)=w8 at *
  have r0:=s8.cell 0
  have r1:=s8.cell 1
  have f0:=s8.frozen 0
  have f1:=s8.frozen 1
  have hset:=two_set hB8 (g:=w.heap.size+1) (by omega) (.string t1) (.string t2)
  clear hb8 s7 hB7
  go_wp2_with fail
  refine bodyPost_ret (v := .tuple #[.agg #[.string t1,.string t2],.int .i64 0]) (by simp [results,Tryz.results19,go_sem,r0,r1]) rfl ?_
  exact ⟨⟨t1,t2,rfl,HT1.out,HT2.out⟩,hset⟩
theorem read_one:readQ [49]=⟨false,1,1⟩:=by
 have hw:writeS ⟨false,1,1⟩=[49]:=by decide +kernel
 rw [←hw]
 exact (read_writeS ⟨false,1,1⟩ ⟨by decide,by decide,fun h=>by cases h⟩ (by show (Lib.decDigits 1).length≤600;rw [Dec.dec_lt (by omega)];simp) (by show (Lib.decDigits 1).length≤600;rw [Dec.dec_lt (by omega)];simp)).2
theorem read_zero:readQ [48]=⟨false,0,1⟩:=by
 have hw:writeS ⟨false,0,1⟩=[48]:=by decide +kernel
 rw [←hw]
 exact (read_writeS ⟨false,0,1⟩ ⟨by decide,by decide,fun h=>by cases h⟩ (by show (Lib.decDigits 0).length≤600;rw [Dec.dec_lt (by omega)];simp) (by show (Lib.decDigits 1).length≤600;rw [Dec.dec_lt (by omega)];simp)).2
theorem real_plain {v:Q} (h:LowQ v):realQ (readQ [49]) (readQ [48]) v=v:=by
 rw [read_one,read_zero]
 have h1:Val (⟨false,1,1⟩:Q) 1 1:=⟨by decide,by decide,by decide⟩
 have h0:Val (⟨false,0,1⟩:Q) 0 1:=⟨by decide,by decide,by decide⟩
 have hv:Val v (sI v) v.bot:=⟨rfl,h.1,h.1⟩
 have hr:=(h1.mul hv).add h0
 refine Val.eq hr hv (fracQ_low _ (Nat.mul_pos (fracQ_low _ (Nat.mul_pos (by decide) h.1)).1 (by decide))) h ?_
 simp
set_option maxHeartbeats 4000000 in
set_option maxRecDepth 100000 in
theorem True_plain (a:Nat) (st z c:Int) (g o:ByteArray) (w:World) (hT:Tabs w) (hI:Inner a st z c g o 0) (hc:0≤c∧c≤4095) (hz:0≤z∧z≤4095) (hst : -20≤st∧st≤4)
  (hg:g.size≤60) (ho:o.size≤60) (eg:readE g.data.toList=0) (eo:readE o.data.toList=0) (d1:(g.toList==[49])=true) (d2:(o.toList==[48])=true) :
  Calls Tryz.prog 19 #[.agg #[.int .i64 a,.int .i64 st,.int .i64 z,.string g,.string o],.int .i64 c] w fun e w'=>(∃ s t:ByteArray,e = .returned (.tuple #[.agg #[.string s,.string t],.int .i64 0])∧NumQ s (realQ (readQ g.data.toList) (readQ o.data.toList) (lowE st z c))∧NumQ t (realQ (readQ g.data.toList) (readQ o.data.toList) (highE st z c)))∧Below w.heap.size w w':=by
 have hb0:Below w.heap.size w ((w.alloc (.cells #[.int .i64 a,.int .i64 st,.int .i64 z,.string g,.string o] 32)).alloc (.cells #[.string { data:=#[] },.string { data:=#[] }] 28)):=((Below.refl _ _).alloc (Nat.le_refl _) _).alloc (by simp) _
 have q0:CBlk ((w.alloc (.cells #[.int .i64 a,.int .i64 st,.int .i64 z,.string g,.string o] 32)).alloc (.cells #[.string { data:=#[] },.string { data:=#[] }] 28)) w.heap.size #[.int .i64 a,.int .i64 st,.int .i64 z,.string g,.string o] 32:=(CBlk.new w _ _ _ rfl).below ((Below.refl _ _).alloc (Nat.le_refl _) _) (by simp)
 have s0:CBlk ((w.alloc (.cells #[.int .i64 a,.int .i64 st,.int .i64 z,.string g,.string o] 32)).alloc (.cells #[.string { data:=#[] },.string { data:=#[] }] 28)) (w.heap.size+1) #[.string { data:=#[] },.string { data:=#[] }] 28:=CBlk.new _ _ _ _ (by simp)
 have hT1:=hT.later hb0
 have x0:=q0.cell 0
 have x1:=q0.cell 1
 have x2:=q0.cell 2
 have x3:=q0.cell 3
 have x4:=q0.cell 4
 have HC:=Lib.hid (hI _ hT1)
 have HQ:=Lib.hid (fun W hT=>interval_q a st z c g o W hT hc hz hst)
 have l49:g.data.toList=[49]:=by rw [←ByteArray.toList_eq];exact beq_iff_eq.1 d1
 have l48:o.data.toList=[48]:=by rw [←ByteArray.toList_eq];exact beq_iff_eq.1 d2
 have hR1:realQ (readQ g.data.toList) (readQ o.data.toList) (lowE st z c)=lowE st z c:=by rw [l49,l48];exact real_plain (lowE_low st z c)
 have hR2:realQ (readQ g.data.toList) (readQ o.data.toList) (highE st z c)=highE st z c:=by rw [l49,l48];exact real_plain (highE_low st z c)
 rw [hR1,hR2]
 clear hR1 hR2 l48 l49
 generalize lowE st z c=P at *
 generalize highE st z c=Q at *
 clear hI hc hz hst hg ho eg eo
 go_enter Tryz.func19,Tryz.ntmps19
 go_wp2_with fail
 generalize (w.alloc (.cells #[.int .i64 a,.int .i64 st,.int .i64 z,.string g,.string o] 32)).alloc (.cells #[.string { data:=#[] },.string { data:=#[] }] 28)=w1 at *
 refine HC.out.mono ?_
 rintro e w2 ⟨rfl,hb2⟩
 have q2:=q0.below hb2 q0.lt
 have s2:=s0.below hb2 s0.lt
 have hT2:=hT1.later hb2
 have hB2:=hb0.trans (hb2.mono hb0.size)
 clear x0 x1 x2 x3 x4
 have x0:=q2.cell 0
 have x1:=q2.cell 1
 have x2:=q2.cell 2
 have x3:=q2.cell 3
 have x4:=q2.cell 4
 go_wp2_with fail
 refine (HQ.out w2 hT2).mono ?_
 rintro e w3 ⟨⟨l,h,rfl,hl,hh⟩,hb3⟩
 have hb4:Below w3.heap.size w3 (w3.alloc (.cells #[.string l,.string h] 28)):=(Below.refl _ _).alloc (Nat.le_refl _) _
 have q4:=(q2.below hb3 q2.lt).below hb4 (q2.below hb3 q2.lt).lt
 have s4:=(s2.below hb3 s2.lt).below hb4 (s2.below hb3 s2.lt).lt
 have i4:CBlk (w3.alloc (.cells #[.string l,.string h] 28)) w3.heap.size #[.string l,.string h] 28:=CBlk.new _ _ _ _ rfl
 have hB3:=hB2.trans (hb3.mono hB2.size)
 have hB4:=hB3.trans (hb4.mono hB3.size)
 have hT4:=hT.later hB4
 have HL:=Lib.hid hl
 have HH:=Lib.hid hh
 clear x0 x1 x2 x3 x4 hb2 hb3 hb4 hl hh HC HQ
 go_wp2_with fail
 generalize w3.heap.size=j at *
 generalize w3.alloc (.cells #[.string l,.string h] 28)=w4 at *
 have HCAL:=Lib.hid (fun W=>calibrated_any a st z g o { data:=#[49] } { data:=#[48] } W)
 go_region_held3 (fun w'=>w'.cell? ⟨w.heap.size,0,none⟩=some (.int .i64 a)∧w'.cell? ⟨w.heap.size,1,none⟩=some (.int .i64 st)∧w'.cell? ⟨w.heap.size,2,none⟩=some (.int .i64 z)∧w'.cell? ⟨w.heap.size,3,none⟩=some (.string g)∧w'.cell? ⟨w.heap.size,4,none⟩=some (.string o))
  ((refine ⟨?_,?_,?_,?_,?_⟩<;>first | exact q5.cell _ | exact q4.cell _))
  (first
   |(go_at_call 65;refine (HCAL.out w4.drew).mono ?_;rintro e w5 ⟨rfl,hb5'⟩;have hb5:Below w4.heap.size w4 w5:=⟨hb5'.os,hb5'.tape,hb5'.output,hb5'.size,hb5'.block⟩;clear hb5';have q5:=q4.below hb5 q4.lt))
 have hB5:=hB4.trans (hb5.mono hB4.size)
 have s5:=s4.below hb5 s4.lt
 have i5:=i4.below hb5 i4.lt
 have hT5:=hT4.later hb5
 have x0:=q5.cell 0
 have x1:=q5.cell 1
 have x2:=q5.cell 2
 have x3:=q5.cell 3
 have x4:=q5.cell 4
 have y0:=i5.cell 0
 have y1:=i5.cell 1
 have r0:=s5.cell 0
 have r1:=s5.cell 1
 have f0:=s5.frozen 0
 have f1:=s5.frozen 1
 clear hb5 q4 s4 i4 hT4 hB4 HCAL
 have hset:=two_set hB5 (g:=w.heap.size+1) (by omega) (.string l) (.string h)
 go_wp2_with fail
 refine bodyPost_ret (v := .tuple #[.agg #[.string l,.string h],.int .i64 0]) (by simp [results,Tryz.results19,go_sem,r0,r1]) rfl ?_
 exact ⟨⟨l,h,rfl,HL.out,HH.out⟩,hset⟩
def AwakeK:Prop:=∀ W:World,Tabs W→Calls Tryz.prog 7 #[] W fun e w'=>e = .returned (.bool true)∧Below W.heap.size W w'
set_option maxHeartbeats 1000000 in
theorem rShort_any (a st z:Int) (g o:ByteArray) (b:Bool) (w:World) (hb:decide (g.size≤60∧o.size≤60)=b) :
  Calls Tryz.prog 6 #[.agg #[.int .i64 a,.int .i64 st,.int .i64 z,.string g,.string o]] w fun e w'=>e = .returned (.bool b)∧Below w.heap.size w w':=by
 have hb0:Below w.heap.size w (w.alloc (.cells #[.int .i64 a,.int .i64 st,.int .i64 z,.string g,.string o] 24)):=(Below.refl _ _).alloc (Nat.le_refl _) _
 have hcase:(decide ((g.size:Int)≤60)=false∧b=false)∨(decide ((g.size:Int)≤60)=true∧decide ((o.size:Int)≤60)=b):=by
  rw [←hb]
  by_cases h1:g.size≤60
  ·refine .inr ⟨decide_eq_true (by omega),?_⟩
   by_cases h2:o.size≤60
   ·rw [decide_eq_true (by omega),decide_eq_true ⟨h1,h2⟩]
   ·rw [decide_eq_false (by omega),decide_eq_false (fun h=>h2 h.2)]
  ·exact .inl ⟨decide_eq_false (by omega),decide_eq_false (fun h=>h1 h.1)⟩
 clear hb
 rcases hcase with ⟨d1,rfl⟩ | ⟨d1,d2⟩
 all_goals
  go_enter Tryz.func6,Tryz.ntmps6
  go_wp2
  go_ret
  exact ⟨rfl,hb0⟩
set_option maxHeartbeats 1000000 in
theorem iv_turned (a st z c:Int) (g o:ByteArray) (w:World) (KV:AwakeK) (hT:Tabs w) (hs:¬ (g.size≤60∧o.size≤60)) :
  Calls Tryz.prog 4 #[.agg #[.int .i64 a,.int .i64 st,.int .i64 z,.string g,.string o],.int .i64 c] w fun e w'=>e = .returned (.bool true)∧Below w.heap.size w w':=by
 have hb0:Below w.heap.size w (w.alloc (.cells #[.int .i64 a,.int .i64 st,.int .i64 z,.string g,.string o] 24)):=(Below.refl _ _).alloc (Nat.le_refl _) _
 have q0:CBlk (w.alloc (.cells #[.int .i64 a,.int .i64 st,.int .i64 z,.string g,.string o] 24)) w.heap.size #[.int .i64 a,.int .i64 st,.int .i64 z,.string g,.string o] 24:=CBlk.new w _ _ _ rfl
 have hT1:=hT.later hb0
 have x0:=q0.cell 0
 have x1:=q0.cell 1
 have x2:=q0.cell 2
 have x3:=q0.cell 3
 have x4:=q0.cell 4
 have HS:=Lib.hid (fun W=>rShort_any a st z g o false W (decide_eq_false hs))
 have HK:=Lib.hid KV
 clear KV hs
 go_enter Tryz.func4,Tryz.ntmps4
 go_wp2_with fail
 generalize w.alloc (.cells #[.int .i64 a,.int .i64 st,.int .i64 z,.string g,.string o] 24)=w1 at *
 refine (HS.out w1).mono ?_
 rintro e w2 ⟨rfl,hb2⟩
 have hT2:=hT1.later hb2
 have hB2:=hb0.trans (hb2.mono hb0.size)
 go_wp2_with fail
 refine (HK.out w2 hT2).mono ?_
 rintro e w3 ⟨rfl,hb3⟩
 go_wp2_with fail
 go_ret
 exact ⟨rfl,hB2.trans (hb3.mono hB2.size)⟩
def RefBad (a st z c:Int) (g o:ByteArray) (E:Int):Prop:=
  (E≠0∧(∀ W,Calls Tryz.prog 11 #[.agg #[.int .i64 a,.int .i64 st,.int .i64 z,.string g,.string o]] W fun e w'=>e = .returned (.int .i64 E)∧Below W.heap.size W w')) ∨
  ((∀ W,Calls Tryz.prog 11 #[.agg #[.int .i64 a,.int .i64 st,.int .i64 z,.string g,.string o]] W fun e w'=>e = .returned (.int .i64 0)∧Below W.heap.size W w') ∧
   (∀ W,Calls Tryz.prog 20 #[.agg #[.int .i64 a,.int .i64 st,.int .i64 z,.string g,.string o],.int .i64 c] W fun e w'=>e = .returned (.int .i64 E)∧Below W.heap.size W w'))
set_option maxHeartbeats 4000000 in
set_option maxRecDepth 100000 in
theorem iv_bad (a st z c E:Int) (g o:ByteArray) (w:World) (KV:AwakeK) (hT:Tabs w) (hs:g.size≤60∧o.size≤60) (hI:Inner a st z c g o E) (hR:RefBad a st z c g o E) (h0:E≠0) :
    Calls Tryz.prog 4 #[.agg #[.int .i64 a,.int .i64 st,.int .i64 z,.string g,.string o],.int .i64 c] w fun e w'=>e = .returned (.bool true)∧Below w.heap.size w w':=by
  have hb0:Below w.heap.size w (w.alloc (.cells #[.int .i64 a,.int .i64 st,.int .i64 z,.string g,.string o] 24)):=(Below.refl _ _).alloc (Nat.le_refl _) _
  have q0:CBlk (w.alloc (.cells #[.int .i64 a,.int .i64 st,.int .i64 z,.string g,.string o] 24)) w.heap.size #[.int .i64 a,.int .i64 st,.int .i64 z,.string g,.string o] 24:=CBlk.new w _ _ _ rfl
  have hT1:=hT.later hb0
  have x0:=q0.cell 0
  have x1:=q0.cell 1
  have x2:=q0.cell 2
  have x3:=q0.cell 3
  have x4:=q0.cell 4
  have HS:=Lib.hid (fun W=>rShort_any a st z g o true W (decide_eq_true hs))
  have HK:=Lib.hid KV
  have HI:=Lib.hid (fun W hT=>Interval_bad a st z c E g o W hT hI h0)
  have HTr:=Lib.hid (fun W hT=>True_bad a st z c E g o W hT hI h0)
  have d0:(E==0)=false:=beq_eq_false_iff_ne.2 h0
  have d1:(E != 0)=true:=by simpa using h0
  clear KV hs hI h0
  rcases hR with ⟨_,hA⟩ | ⟨hA,hC⟩
  all_goals
    have HA:=Lib.hid hA
    clear hA
    try have HCI:=Lib.hid hC
    try clear hC
    go_enter Tryz.func4,Tryz.ntmps4
    go_wp2_with fail
    generalize w.alloc (.cells #[.int .i64 a,.int .i64 st,.int .i64 z,.string g,.string o] 24)=w1 at *
    refine (HS.out w1).mono ?_
    rintro e w2 ⟨rfl,hb2⟩
    have q2:=q0.below hb2 q0.lt
    have hT2:=hT1.later hb2
    have hB2:=hb0.trans (hb2.mono hb0.size)
    clear x0 x1 x2 x3 x4
    have x0:=q2.cell 0
    have x1:=q2.cell 1
    have x2:=q2.cell 2
    have x3:=q2.cell 3
    have x4:=q2.cell 4
    go_wp2_with fail
    refine (HI.out w2 hT2).mono ?_
    rintro e w3 ⟨rfl,hb3⟩
    have hb4:Below w3.heap.size w3 (w3.alloc (.cells #[.string { data:=#[] },.string { data:=#[] }] 28)):=(Below.refl _ _).alloc (Nat.le_refl _) _
    have q4:=(q2.below hb3 q2.lt).below hb4 (q2.below hb3 q2.lt).lt
    have i4:CBlk (w3.alloc (.cells #[.string { data:=#[] },.string { data:=#[] }] 28)) w3.heap.size #[.string { data:=#[] },.string { data:=#[] }] 28:=CBlk.new _ _ _ _ rfl
    have hB3:=hB2.trans (hb3.mono hB2.size)
    have hB4:=hB3.trans (hb4.mono hB3.size)
    have hT4:=hT.later hB4
    clear x0 x1 x2 x3 x4 hb2 hb3 hb4
    have x0:=q4.cell 0
    have x1:=q4.cell 1
    have x2:=q4.cell 2
    have x3:=q4.cell 3
    have x4:=q4.cell 4
    go_wp2_with fail
    generalize w3.heap.size=j at *
    generalize w3.alloc (.cells #[.string { data:=#[] },.string { data:=#[] }] 28)=w4 at *
    refine (HTr.out w4 hT4).mono ?_
    rintro e w5 ⟨rfl,hb5⟩
    have hb6:Below w5.heap.size w5 (w5.alloc (.cells #[.string { data:=#[] },.string { data:=#[] }] 28)):=(Below.refl _ _).alloc (Nat.le_refl _) _
    have q6:=(q4.below hb5 q4.lt).below hb6 (q4.below hb5 q4.lt).lt
    have i6:=(i4.below hb5 i4.lt).below hb6 (i4.below hb5 i4.lt).lt
    have t6:CBlk (w5.alloc (.cells #[.string { data:=#[] },.string { data:=#[] }] 28)) w5.heap.size #[.string { data:=#[] },.string { data:=#[] }] 28:=CBlk.new _ _ _ _ rfl
    have hB5:=hB4.trans (hb5.mono hB4.size)
    have hB6:=hB5.trans (hb6.mono hB5.size)
    have hT6:=hT.later hB6
    clear x0 x1 x2 x3 x4 hb5 hb6 q4 i4
    have x0:=q6.cell 0
    have x1:=q6.cell 1
    have x2:=q6.cell 2
    have x3:=q6.cell 3
    have x4:=q6.cell 4
    go_wp2_with fail
    generalize w5.heap.size=k at *
    generalize w5.alloc (.cells #[.string { data:=#[] },.string { data:=#[] }] 28)=w6 at *
    refine (HA.out w6).mono ?_
    rintro e w7 ⟨rfl,hb7⟩
    have q7:=q6.below hb7 q6.lt
    have i7:=i6.below hb7 i6.lt
    have t7:=t6.below hb7 t6.lt
    have hB7:=hB6.trans (hb7.mono hB6.size)
    have hT7:=hT.later hB7
    clear x0 x1 x2 x3 x4 hb7 q6 i6 t6
    have x0:=q7.cell 0
    have x1:=q7.cell 1
    have x2:=q7.cell 2
    have x3:=q7.cell 3
    have x4:=q7.cell 4
    have y0:=i7.cell 0
    have y1:=i7.cell 1
    have z0:=t7.cell 0
    have z1:=t7.cell 1
    go_wp2_with fail
    first
      | (refine (HK.out w7 hT7).mono ?_
         rintro e w8 ⟨rfl,hb8⟩
         go_wp2_with fail
         go_ret
         exact ⟨rfl,hB7.trans (hb8.mono hB7.size)⟩)
      | (refine (HCI.out w7).mono ?_
         rintro e w8 ⟨rfl,hb8⟩
         have i8:=i7.below hb8 i7.lt
         have t8:=t7.below hb8 t7.lt
         have hB8:=hB7.trans (hb8.mono hB7.size)
         have hT8:=hT.later hB8
         clear y0 y1 z0 z1 x0 x1 x2 x3 x4
         have y0:=i8.cell 0
         have y1:=i8.cell 1
         have z0:=t8.cell 0
         have z1:=t8.cell 1
         go_wp2_with fail
         refine (HK.out w8 hT8).mono ?_
         rintro e w9 ⟨rfl,hb9⟩
         go_wp2_with fail
         go_ret
         exact ⟨rfl,hB8.trans (hb9.mono hB8.size)⟩)
end Go.Proofs.YtjhgadajpliclaaGreatDoor
