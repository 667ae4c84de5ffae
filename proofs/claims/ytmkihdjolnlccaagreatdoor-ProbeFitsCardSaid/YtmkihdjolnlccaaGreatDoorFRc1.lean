/- The code's differences, quotients and signs as the reference's. -/
import Derived.Test.YtmkihdjolnlccaaGreatDoorFRb23
import Derived.Test.YtmkihdjolnlccaaGreatDoorFAw0
import Derived.Laws.StructEq
import Derived.Deep.RegionHeld3
import Derived.Test.YtmkihdjolnlccaaGreatDoorFInv
namespace Go.Proofs.YtmkihdjolnlccaaGreatDoor
open Go.RowKit Bn
open Flt
theorem sI_not (q:Q):sI ⟨!q.neg,q.top,q.bot⟩ = - sI q:=by
 unfold sI
 dsimp only
 cases q.neg<;>simp
theorem plus_subQ (p q:Q):plusQ p ⟨!q.neg,q.top,q.bot⟩=subQ p q:=by
 rw [plus_addQ]
 unfold addQ subQ
 rw [sI_not,Int.neg_mul,←Int.sub_eq_add_neg]
theorem over_mulQ (p q:Q):lowQ (p.neg != q.neg) (p.top*q.bot) (p.bot*q.top)=mulQ p (recS q):=times_mulQ p (recS q)
theorem dminus_n {N:Nat} (p q:Q) (v u:Value) (w:World) (hT:Tabs w) (hv:RatD w w.heap.size v p) (hu:RatD w w.heap.size u q) (hp:Small p N) (hq:Small q N) (hN:N≤100000) :
  Calls Tryz.prog 93 #[v,u] w (RetRatD w (subQ p q)):=by
 obtain ⟨A1,n1,c1,A2,n2,c2,rfl,h1,h2⟩:=hv
 obtain ⟨A3,n3,c3,A4,n4,c4,rfl,h3,h4⟩:=hu
 have b1:=natD_len h1 hp.1
 have b2:=natD_len h2 hp.2
 have b3:=natD_len h3 hq.1
 have b4:=natD_len h4 hq.2
 rw [←plus_subQ]
 exact dratMinus_any p q _ _ _ _ _ _ _ _ _ _ _ _ w hT h1 h2 h3 h4 (by omega) (by omega) (by omega) (by omega)
theorem dover_n {N:Nat} (p q:Q) (v u:Value) (w:World) (hT:Tabs w) (hv:RatD w w.heap.size v p) (hu:RatD w w.heap.size u q) (hp:Small p N) (hq:Small q N) (hN:N≤100000) :
  Calls Tryz.prog 94 #[v,u] w (RetRatD w (mulQ p (recS q))):=by
 obtain ⟨A1,n1,c1,A2,n2,c2,rfl,h1,h2⟩:=hv
 obtain ⟨A3,n3,c3,A4,n4,c4,rfl,h3,h4⟩:=hu
 have b1:=natD_len h1 hp.1
 have b2:=natD_len h2 hp.2
 have b3:=natD_len h3 hq.1
 have b4:=natD_len h4 hq.2
 rw [←over_mulQ]
 exact dratOver_any p q _ _ _ _ _ _ _ _ _ _ _ _ w hT h1 h2 h3 h4 (by omega) (by omega) (by omega) (by omega)
def HasRead (s:ByteArray) (p:Q):Prop:=∀ W,Tabs W→Calls Tryz.prog 91 #[.string s] W (RetN W p.neg p.top p.bot)
def HasMinus (p q r:Q):Prop:=∀ v u W,Tabs W→RatD W W.heap.size v p→RatD W W.heap.size u q→Calls Tryz.prog 93 #[v,u] W (RetN W r.neg r.top r.bot)
def HasOver (p q r:Q):Prop:=∀ v u W,Tabs W→RatD W W.heap.size v p→RatD W W.heap.size u q→Calls Tryz.prog 94 #[v,u] W (RetN W r.neg r.top r.bot)
def HasTimes (p q r:Q):Prop:=∀ v u W,Tabs W→RatD W W.heap.size v p→RatD W W.heap.size u q→Calls Tryz.prog 97 #[v,u] W (RetN W r.neg r.top r.bot)
def HasWrite (p:Q) (s:ByteArray):Prop:=∀ v W,Tabs W→RatD W W.heap.size v p→Calls Tryz.prog 96 #[v] W fun e w'=>e = .returned (.tuple #[.string s,.int .i64 0])∧Below W.heap.size W w'
def HasSign (p:Q) (i:Int):Prop:=∀ v W,RatD W W.heap.size v p→Calls Tryz.prog 95 #[v] W fun e w'=>e = .returned (.int .i64 i)∧Below W.heap.size W w'
theorem HasRead.of {s:ByteArray} {p:Q} (hs:s.size≤4294967296) (h:readQ s.data.toList=p):HasRead s p:=fun W hT=>aw_read s _ _ _ hs (by rw [h]) W hT
theorem HasMinus.of {N:Nat} {p q:Q} (hp:Small p N) (hq:Small q N) (hN:N≤100000):HasMinus p q (subQ p q):=fun v u W hT hv hu=>(dminus_n p q v u W hT hv hu hp hq hN).mono fun _ _ h=>RetN.of h rfl
theorem HasOver.of {N:Nat} {p q:Q} (hp:Small p N) (hq:Small q N) (hN:N≤100000):HasOver p q (mulQ p (recS q)):=fun v u W hT hv hu=>(dover_n p q v u W hT hv hu hp hq hN).mono fun _ _ h=>RetN.of h rfl
theorem HasTimes.of {N:Nat} {p q:Q} (hp:Small p N) (hq:Small q N) (hN:N≤100000):HasTimes p q (mulQ p q):=fun v u W hT hv hu=>(dtimes_n p q v u W hT hv hu hp hq hN).mono fun _ _ h=>RetN.of h rfl
theorem HasSign.of (p:Q):HasSign p (signQ p):=fun v W hv=>dsign_s p v W hv
theorem HasWrite.of {N:Nat} {p:Q} (hp:Small p N) (hN:N≤600) (hN0:0<N) (hb:0<p.bot):HasWrite p ⟨(writeS p).toArray⟩:=fun v W hT hv=>by
 obtain ⟨we,wt⟩:=write_fits hp hN hN0 hb
 refine (dwrite_n p v W hT hv hp (by omega)).mono ?_
 rintro e w' ⟨s,rfl,hs,hb⟩
 rw [wt] at hs
 rw [we]
 obtain rfl:=ba_of hs
 exact ⟨rfl,hb⟩
def Inner (a st z c:Int) (g o:ByteArray) (E:Int):Prop:=∀ W,Tabs W→Calls Tryz.prog 86 #[.agg #[.int .i64 a,.int .i64 st,.int .i64 z,.string g,.string o],.int .i64 c] W fun e w'=>e = .returned (.int .i64 E)∧Below W.heap.size W w'
set_option maxHeartbeats 1000000 in
theorem Interval_bad (a st z c E:Int) (g o:ByteArray) (w:World) (hT:Tabs w) (hI:Inner a st z c g o E) (h0:E≠0) :
  Calls Tryz.prog 38 #[.agg #[.int .i64 a,.int .i64 st,.int .i64 z,.string g,.string o],.int .i64 c] w fun e w'=>e = .returned (.tuple #[.agg #[.string { data:=#[] },.string { data:=#[] }],.int .i64 E])∧Below w.heap.size w w':=by
 have hb0:Below w.heap.size w ((w.alloc (.cells #[.int .i64 a,.int .i64 st,.int .i64 z,.string g,.string o] 33)).alloc (.cells #[.string { data:=#[] },.string { data:=#[] }] 55)):=((Below.refl _ _).alloc (Nat.le_refl _) _).alloc (by simp) _
 have q0:CBlk ((w.alloc (.cells #[.int .i64 a,.int .i64 st,.int .i64 z,.string g,.string o] 33)).alloc (.cells #[.string { data:=#[] },.string { data:=#[] }] 55)) w.heap.size #[.int .i64 a,.int .i64 st,.int .i64 z,.string g,.string o] 33:=(CBlk.new w _ _ _ rfl).below ((Below.refl _ _).alloc (Nat.le_refl _) _) (by simp)
 have s0:CBlk ((w.alloc (.cells #[.int .i64 a,.int .i64 st,.int .i64 z,.string g,.string o] 33)).alloc (.cells #[.string { data:=#[] },.string { data:=#[] }] 55)) (w.heap.size+1) #[.string { data:=#[] },.string { data:=#[] }] 55:=CBlk.new _ _ _ _ (by simp)
 have hT1:=hT.later hb0
 have x0:=q0.cell 0
 have x1:=q0.cell 1
 have x2:=q0.cell 2
 have x3:=q0.cell 3
 have x4:=q0.cell 4
 have HC:=Lib.hid (hI _ hT1)
 have d0:(E==0)=false:=beq_eq_false_iff_ne.2 h0
 have d1:(E != 0)=true:=by simpa using h0
 clear h0 hI
 go_enter Tryz.func38,Tryz.ntmps38
 go_wp2_with fail
 generalize (w.alloc (.cells #[.int .i64 a,.int .i64 st,.int .i64 z,.string g,.string o] 33)).alloc (.cells #[.string { data:=#[] },.string { data:=#[] }] 55)=w1 at *
 refine HC.out.mono ?_
 rintro e w2 ⟨rfl,hb2⟩
 have s6:=s0.below hb2 s0.lt
 have hB6:=hb0.trans (hb2.mono hb0.size)
 clear x0 x1 x2 x3 x4
 have r0:=s6.cell 0
 have r1:=s6.cell 1
 have f0:=s6.frozen 0
 have f1:=s6.frozen 1
 have hset:=two_set hB6 (g:=w.heap.size+1) (by omega) (.string { data:=#[] }) (.string { data:=#[] })
 clear HC
 go_wp2_with fail
 refine bodyPost_ret (v := .tuple #[.agg #[.string { data:=#[] },.string { data:=#[] }],.int .i64 E]) (by simp [results,Tryz.results38,go_sem,r0,r1]) rfl ⟨rfl,hset⟩
set_option maxHeartbeats 1000000 in
theorem True_bad (a st z c E:Int) (g o:ByteArray) (w:World) (hT:Tabs w) (hI:Inner a st z c g o E) (h0:E≠0) :
  Calls Tryz.prog 41 #[.agg #[.int .i64 a,.int .i64 st,.int .i64 z,.string g,.string o],.int .i64 c] w fun e w'=>e = .returned (.tuple #[.agg #[.string { data:=#[] },.string { data:=#[] }],.int .i64 E])∧Below w.heap.size w w':=by
 have hb0:Below w.heap.size w ((w.alloc (.cells #[.int .i64 a,.int .i64 st,.int .i64 z,.string g,.string o] 33)).alloc (.cells #[.string { data:=#[] },.string { data:=#[] }] 55)):=((Below.refl _ _).alloc (Nat.le_refl _) _).alloc (by simp) _
 have q0:CBlk ((w.alloc (.cells #[.int .i64 a,.int .i64 st,.int .i64 z,.string g,.string o] 33)).alloc (.cells #[.string { data:=#[] },.string { data:=#[] }] 55)) w.heap.size #[.int .i64 a,.int .i64 st,.int .i64 z,.string g,.string o] 33:=(CBlk.new w _ _ _ rfl).below ((Below.refl _ _).alloc (Nat.le_refl _) _) (by simp)
 have s0:CBlk ((w.alloc (.cells #[.int .i64 a,.int .i64 st,.int .i64 z,.string g,.string o] 33)).alloc (.cells #[.string { data:=#[] },.string { data:=#[] }] 55)) (w.heap.size+1) #[.string { data:=#[] },.string { data:=#[] }] 55:=CBlk.new _ _ _ _ (by simp)
 have hT1:=hT.later hb0
 have x0:=q0.cell 0
 have x1:=q0.cell 1
 have x2:=q0.cell 2
 have x3:=q0.cell 3
 have x4:=q0.cell 4
 have HC:=Lib.hid (hI _ hT1)
 have d0:(E==0)=false:=beq_eq_false_iff_ne.2 h0
 have d1:(E != 0)=true:=by simpa using h0
 clear h0 hI
 go_enter Tryz.func41,Tryz.ntmps41
 go_wp2_with fail
 generalize (w.alloc (.cells #[.int .i64 a,.int .i64 st,.int .i64 z,.string g,.string o] 33)).alloc (.cells #[.string { data:=#[] },.string { data:=#[] }] 55)=w1 at *
 refine HC.out.mono ?_
 rintro e w2 ⟨rfl,hb2⟩
 have s6:=s0.below hb2 s0.lt
 have hB6:=hb0.trans (hb2.mono hb0.size)
 clear x0 x1 x2 x3 x4
 have r0:=s6.cell 0
 have r1:=s6.cell 1
 have f0:=s6.frozen 0
 have f1:=s6.frozen 1
 have hset:=two_set hB6 (g:=w.heap.size+1) (by omega) (.string { data:=#[] }) (.string { data:=#[] })
 clear HC
 go_wp2_with fail
 refine bodyPost_ret (v := .tuple #[.agg #[.string { data:=#[] },.string { data:=#[] }],.int .i64 E]) (by simp [results,Tryz.results41,go_sem,r0,r1]) rfl ⟨rfl,hset⟩
theorem interval_q (a:Nat) (st z c:Int) (g o:ByteArray) (w:World) (hT:Tabs w) (hc:0≤c∧c≤4095) (hz:0≤z∧z≤4095) (hst : -20≤st∧st≤4) :
  Calls Tryz.prog 87 #[.agg #[.int .i64 a,.int .i64 st,.int .i64 z,.string g,.string o],.int .i64 c] w (RetSpan w (lowE st z c) (highE st z c)):=by
 refine (interval_ok a st z c g o _ _ _ _ w hT hc hz hst rfl rfl (edge_low hst (by omega) (by omega)) (edge_high hst (by omega) (by omega))).mono ?_
 rintro e w' ⟨rfl,hb⟩
 exact ⟨⟨_,_,rfl,⟨by simp,lowE_low st z c⟩,⟨by simp,highE_low st z c⟩⟩,hb⟩
set_option maxHeartbeats 4000000 in
set_option maxRecDepth 100000 in
theorem True_goodS (a:Nat) (st z c:Int) (g o:ByteArray) (w:World) (hT:Tabs w) (hI:Inner a st z c g o 0) (hc:0≤c∧c≤4095) (hz:0≤z∧z≤4095) (hst : -20≤st∧st≤4)
  (hg:g.size≤4294967296) (ho:o.size≤4294967296) (sg:Small (readQ g.data.toList) 100) (so:Small (readQ o.data.toList) 100) (eg:readE g.data.toList=0) (eo:readE o.data.toList=0) (hcal:((g.toList==[49])=false)∨((g.toList==[49])=true∧(o.toList==[48])=false)) :
  Calls Tryz.prog 41 #[.agg #[.int .i64 a,.int .i64 st,.int .i64 z,.string g,.string o],.int .i64 c] w fun e w'=>(∃ s t:ByteArray,e = .returned (.tuple #[.agg #[.string s,.string t],.int .i64 0])∧NumQ s (realQ (readQ g.data.toList) (readQ o.data.toList) (lowE st z c))∧NumQ t (realQ (readQ g.data.toList) (readQ o.data.toList) (highE st z c)))∧Below w.heap.size w w':=by
 have hb0:Below w.heap.size w ((w.alloc (.cells #[.int .i64 a,.int .i64 st,.int .i64 z,.string g,.string o] 33)).alloc (.cells #[.string { data:=#[] },.string { data:=#[] }] 55)):=((Below.refl _ _).alloc (Nat.le_refl _) _).alloc (by simp) _
 have q0:CBlk ((w.alloc (.cells #[.int .i64 a,.int .i64 st,.int .i64 z,.string g,.string o] 33)).alloc (.cells #[.string { data:=#[] },.string { data:=#[] }] 55)) w.heap.size #[.int .i64 a,.int .i64 st,.int .i64 z,.string g,.string o] 33:=(CBlk.new w _ _ _ rfl).below ((Below.refl _ _).alloc (Nat.le_refl _) _) (by simp)
 have s0:CBlk ((w.alloc (.cells #[.int .i64 a,.int .i64 st,.int .i64 z,.string g,.string o] 33)).alloc (.cells #[.string { data:=#[] },.string { data:=#[] }] 55)) (w.heap.size+1) #[.string { data:=#[] },.string { data:=#[] }] 55:=CBlk.new _ _ _ _ (by simp)
 have hT1:=hT.later hb0
 have x0:=q0.cell 0
 have x1:=q0.cell 1
 have x2:=q0.cell 2
 have x3:=q0.cell 3
 have x4:=q0.cell 4
 have HC:=Lib.hid (hI _ hT1)
 have HQ:=Lib.hid (fun W hT=>interval_q a st z c g o W hT hc hz hst)
 have g0:=readQ_bot eg
 have o0:=readQ_bot eo
 have sl:=(lowE_small (z:=z) (c:=c) hst (by omega)).more (M:=100) (by omega)
 have sh:=(highE_small (z:=z) (c:=c) hst (by omega)).more (M:=100) (by omega)
 have rd:∀ (s:ByteArray) (p:Q),NumQ s p→Small p 32→readQ s.data.toList=p∧s.size≤66:=fun s p hs hp=>by
  have l1:=Dec.dec_length_le (by omega) hp.1
  have l2:=Dec.dec_length_le (by omega) hp.2
  refine ⟨?_,hs.size hp (by omega)⟩
  rw [hs.1]
  exact (read_writeS p hs.2 (by omega) (by omega)).2
 have HV1:Hid (∀ (v:ByteArray) W,Tabs W→NumQ v (lowE st z c)→Calls Tryz.prog 99 #[.agg #[.int .i64 a,.int .i64 st,.int .i64 z,.string g,.string o],.string v] W fun e w'=>(∃ l:ByteArray,e = .returned (.tuple #[.string l,.int .i64 0])∧NumQ l (realQ (readQ g.data.toList) (readQ o.data.toList) (lowE st z c)))∧Below W.heap.size W w'):=fun v W hT hv=>by
  obtain ⟨r1,r2⟩:=rd v _ hv (lowE_small hst (by omega))
  exact trueVolts_any a st z g o v _ _ _ W hT (by omega) (by omega) (by omega) rfl r1 rfl sg sl so g0 hv.2.1 o0
 have HV2:Hid (∀ (v:ByteArray) W,Tabs W→NumQ v (highE st z c)→Calls Tryz.prog 99 #[.agg #[.int .i64 a,.int .i64 st,.int .i64 z,.string g,.string o],.string v] W fun e w'=>(∃ l:ByteArray,e = .returned (.tuple #[.string l,.int .i64 0])∧NumQ l (realQ (readQ g.data.toList) (readQ o.data.toList) (highE st z c)))∧Below W.heap.size W w'):=fun v W hT hv=>by
  obtain ⟨r1,r2⟩:=rd v _ hv (highE_small hst (by omega))
  exact trueVolts_any a st z g o v _ _ _ W hT (by omega) (by omega) (by omega) rfl r1 rfl sg sh so g0 hv.2.1 o0
 generalize realQ (readQ g.data.toList) (readQ o.data.toList) (lowE st z c)=R1 at *
 generalize realQ (readQ g.data.toList) (readQ o.data.toList) (highE st z c)=R2 at *
 generalize lowE st z c=P at *
 generalize highE st z c=Q at *
 clear hI hc hz hst hg ho eg eo sg so g0 o0 sl sh rd
 rcases hcal with d1 | ⟨d1,d2⟩
 all_goals
  go_enter Tryz.func41,Tryz.ntmps41
  go_wp2_with fail
  generalize (w.alloc (.cells #[.int .i64 a,.int .i64 st,.int .i64 z,.string g,.string o] 33)).alloc (.cells #[.string { data:=#[] },.string { data:=#[] }] 55)=w1 at *
  refine HC.out.mono ?_
  rintro e w2 ⟨rfl,hb2⟩
  have q2:=q0.below hb2 q0.lt
  have s2:=s0.below hb2 s0.lt
  have hT2:=hT1.later hb2
  have hB2:=hb0.trans (hb2.mono hb0.size)
  clear x0 x1 x2 x3 x4
  have x0:=q2.cell 0
  have x1:=q2.cell 1
  have x2:=q2.cell 2
  have x3:=q2.cell 3
  have x4:=q2.cell 4
  go_wp2_with fail
  refine (HQ.out w2 hT2).mono ?_
  rintro e w3 ⟨⟨l,h,rfl,hl,hh⟩,hb3⟩
  have hb4:Below w3.heap.size w3 (w3.alloc (.cells #[.string l,.string h] 55)):=(Below.refl _ _).alloc (Nat.le_refl _) _
  have q4:=(q2.below hb3 q2.lt).below hb4 (q2.below hb3 q2.lt).lt
  have s4:=(s2.below hb3 s2.lt).below hb4 (s2.below hb3 s2.lt).lt
  have i4:CBlk (w3.alloc (.cells #[.string l,.string h] 55)) w3.heap.size #[.string l,.string h] 55:=CBlk.new _ _ _ _ rfl
  have hB3:=hB2.trans (hb3.mono hB2.size)
  have hB4:=hB3.trans (hb4.mono hB3.size)
  have hT4:=hT.later hB4
  have HL:=Lib.hid hl
  have HH:=Lib.hid hh
  clear x0 x1 x2 x3 x4 hb2 hb3 hb4 hl hh HC HQ
  go_wp2_with fail
  generalize w3.heap.size=j at *
  generalize w3.alloc (.cells #[.string l,.string h] 55)=w4 at *
  have HCAL:=Lib.hid (fun W=>calibrated_any a st z g o { data:=#[49] } { data:=#[48] } W)
  go_region_held3 (fun w'=>w'.cell? ⟨w.heap.size,0,none⟩=some (.int .i64 a)∧w'.cell? ⟨w.heap.size,1,none⟩=some (.int .i64 st)∧w'.cell? ⟨w.heap.size,2,none⟩=some (.int .i64 z)∧w'.cell? ⟨w.heap.size,3,none⟩=some (.string g)∧w'.cell? ⟨w.heap.size,4,none⟩=some (.string o))
   ((refine ⟨?_,?_,?_,?_,?_⟩<;>first | exact q5.cell _ | exact q4.cell _))
   (first
    |(go_at_call 98;refine (HCAL.out w4.drew).mono ?_;rintro e w5 ⟨rfl,hb5'⟩;have hb5:Below w4.heap.size w4 w5:=⟨hb5'.os,hb5'.tape,hb5'.output,hb5'.size,hb5'.block⟩;clear hb5';have q5:=q4.below hb5 q4.lt))
  have hB5:=hB4.trans (hb5.mono hB4.size)
  have s5:=s4.below hb5 s4.lt
  have i5:=i4.below hb5 i4.lt
  have hT5:=hT4.later hb5
  have x0:=q5.cell 0
  have x1:=q5.cell 1
  have x2:=q5.cell 2
  have x3:=q5.cell 3
  have x4:=q5.cell 4
  have y0:=i5.cell 0
  have y1:=i5.cell 1
  have r0:=s5.cell 0
  have r1:=s5.cell 1
  have f0:=s5.frozen 0
  have f1:=s5.frozen 1
  clear hb5 q4 s4 i4 hT4 hB4 HCAL
  clear r0 r1 f0 f1
  go_wp2_with fail
  refine (HV1.out l w5 hT5 HL.out).mono ?_
  rintro e w6 ⟨⟨t1,rfl,ht1⟩,hb6⟩
  have q6:=q5.below hb6 q5.lt
  have s6:=s5.below hb6 s5.lt
  have i6:=i5.below hb6 i5.lt
  have hT6:=hT5.later hb6
  have hB6:=hB5.trans (hb6.mono hB5.size)
  clear x0 x1 x2 x3 x4 y0 y1
  have x0:=q6.cell 0
  have x1:=q6.cell 1
  have x2:=q6.cell 2
  have x3:=q6.cell 3
  have x4:=q6.cell 4
  have y0:=i6.cell 0
  have y1:=i6.cell 1
  have HT1:=Lib.hid ht1
  clear hb6 q5 s5 i5 hT5 hB5 ht1
  go_wp2_with fail
  refine (HV2.out h w6 hT6 HH.out).mono ?_
  rintro e w7 ⟨⟨t2,rfl,ht2⟩,hb7⟩
  have s7:=s6.below hb7 s6.lt
  have hB7:=hB6.trans (hb7.mono hB6.size)
  have HT2:=Lib.hid ht2
  clear x0 x1 x2 x3 x4 y0 y1 hb7 q6 s6 i6 hT6 hB6 ht2
  go_wp2_with fail
  refine (cfirst_two 0 0 w7 _ _ rfl).mono ?_
  rintro e w8 ⟨rfl,rfl⟩
  have hb8:Below w7.heap.size w7 (w7.alloc (.cells #[.int .i64 0,.int .i64 0] 30)):=(Below.refl _ _).alloc (Nat.le_refl _) _
  have s8:=s7.below hb8 s7.lt
  have hB8:=hB7.trans (hb8.mono hB7.size)
  generalize w7.alloc (.cells #[.int .i64 0,.int .i64 0] 30)=w8 at *
  have r0:=s8.cell 0
  have r1:=s8.cell 1
  have f0:=s8.frozen 0
  have f1:=s8.frozen 1
  have hset:=two_set hB8 (g:=w.heap.size+1) (by omega) (.string t1) (.string t2)
  clear hb8 s7 hB7
  go_wp2_with fail
  refine bodyPost_ret (v := .tuple #[.agg #[.string t1,.string t2],.int .i64 0]) (by simp [results,Tryz.results41,go_sem,r0,r1]) rfl ?_
  exact ⟨⟨t1,t2,rfl,HT1.out,HT2.out⟩,hset⟩
theorem read_one:readQ [49]=⟨false,1,1⟩:=by
 have hw:writeS ⟨false,1,1⟩=[49]:=by decide +kernel
 rw [←hw]
 exact (read_writeS ⟨false,1,1⟩ ⟨by decide,by decide,fun h=>by cases h⟩ (by show (Lib.decDigits 1).length≤600;rw [Dec.dec_lt (by omega)];simp) (by show (Lib.decDigits 1).length≤600;rw [Dec.dec_lt (by omega)];simp)).2
theorem read_zero:readQ [48]=⟨false,0,1⟩:=by
 have hw:writeS ⟨false,0,1⟩=[48]:=by decide +kernel
 rw [←hw]
 exact (read_writeS ⟨false,0,1⟩ ⟨by decide,by decide,fun h=>by cases h⟩ (by show (Lib.decDigits 0).length≤600;rw [Dec.dec_lt (by omega)];simp) (by show (Lib.decDigits 1).length≤600;rw [Dec.dec_lt (by omega)];simp)).2
theorem real_plain {v:Q} (h:LowQ v):realQ (readQ [49]) (readQ [48]) v=v:=by
 rw [read_one,read_zero]
 have h1:Val (⟨false,1,1⟩:Q) 1 1:=⟨by decide,by decide,by decide⟩
 have h0:Val (⟨false,0,1⟩:Q) 0 1:=⟨by decide,by decide,by decide⟩
 have hv:Val v (sI v) v.bot:=⟨rfl,h.1,h.1⟩
 have hr:=(h1.mul hv).add h0
 refine Val.eq hr hv (fracQ_low _ (Nat.mul_pos (fracQ_low _ (Nat.mul_pos (by decide) h.1)).1 (by decide))) h ?_
 simp
set_option maxHeartbeats 4000000 in
set_option maxRecDepth 100000 in
theorem True_plain (a:Nat) (st z c:Int) (g o:ByteArray) (w:World) (hT:Tabs w) (hI:Inner a st z c g o 0) (hc:0≤c∧c≤4095) (hz:0≤z∧z≤4095) (hst : -20≤st∧st≤4)
  (_hg:g.size≤60) (_ho:o.size≤60) (_eg:readE g.data.toList=0) (_eo:readE o.data.toList=0) (d1:(g.toList==[49])=true) (d2:(o.toList==[48])=true) :
  Calls Tryz.prog 41 #[.agg #[.int .i64 a,.int .i64 st,.int .i64 z,.string g,.string o],.int .i64 c] w fun e w'=>(∃ s t:ByteArray,e = .returned (.tuple #[.agg #[.string s,.string t],.int .i64 0])∧NumQ s (realQ (readQ g.data.toList) (readQ o.data.toList) (lowE st z c))∧NumQ t (realQ (readQ g.data.toList) (readQ o.data.toList) (highE st z c)))∧Below w.heap.size w w':=by
 have hb0:Below w.heap.size w ((w.alloc (.cells #[.int .i64 a,.int .i64 st,.int .i64 z,.string g,.string o] 33)).alloc (.cells #[.string { data:=#[] },.string { data:=#[] }] 55)):=((Below.refl _ _).alloc (Nat.le_refl _) _).alloc (by simp) _
 have q0:CBlk ((w.alloc (.cells #[.int .i64 a,.int .i64 st,.int .i64 z,.string g,.string o] 33)).alloc (.cells #[.string { data:=#[] },.string { data:=#[] }] 55)) w.heap.size #[.int .i64 a,.int .i64 st,.int .i64 z,.string g,.string o] 33:=(CBlk.new w _ _ _ rfl).below ((Below.refl _ _).alloc (Nat.le_refl _) _) (by simp)
 have s0:CBlk ((w.alloc (.cells #[.int .i64 a,.int .i64 st,.int .i64 z,.string g,.string o] 33)).alloc (.cells #[.string { data:=#[] },.string { data:=#[] }] 55)) (w.heap.size+1) #[.string { data:=#[] },.string { data:=#[] }] 55:=CBlk.new _ _ _ _ (by simp)
 have hT1:=hT.later hb0
 have x0:=q0.cell 0
 have x1:=q0.cell 1
 have x2:=q0.cell 2
 have x3:=q0.cell 3
 have x4:=q0.cell 4
 have HC:=Lib.hid (hI _ hT1)
 have HQ:=Lib.hid (fun W hT=>interval_q a st z c g o W hT hc hz hst)
 have l49:g.data.toList=[49]:=by rw [←ByteArray.toList_eq];exact beq_iff_eq.1 d1
 have l48:o.data.toList=[48]:=by rw [←ByteArray.toList_eq];exact beq_iff_eq.1 d2
 have hR1:realQ (readQ g.data.toList) (readQ o.data.toList) (lowE st z c)=lowE st z c:=by rw [l49,l48];exact real_plain (lowE_low st z c)
 have hR2:realQ (readQ g.data.toList) (readQ o.data.toList) (highE st z c)=highE st z c:=by rw [l49,l48];exact real_plain (highE_low st z c)
 rw [hR1,hR2]
 clear hR1 hR2 l48 l49
 generalize lowE st z c=P at *
 generalize highE st z c=Q at *
 clear hI hc hz hst _hg _ho _eg _eo
 go_enter Tryz.func41,Tryz.ntmps41
 go_wp2_with fail
 generalize (w.alloc (.cells #[.int .i64 a,.int .i64 st,.int .i64 z,.string g,.string o] 33)).alloc (.cells #[.string { data:=#[] },.string { data:=#[] }] 55)=w1 at *
 refine HC.out.mono ?_
 rintro e w2 ⟨rfl,hb2⟩
 have q2:=q0.below hb2 q0.lt
 have s2:=s0.below hb2 s0.lt
 have hT2:=hT1.later hb2
 have hB2:=hb0.trans (hb2.mono hb0.size)
 clear x0 x1 x2 x3 x4
 have x0:=q2.cell 0
 have x1:=q2.cell 1
 have x2:=q2.cell 2
 have x3:=q2.cell 3
 have x4:=q2.cell 4
 go_wp2_with fail
 refine (HQ.out w2 hT2).mono ?_
 rintro e w3 ⟨⟨l,h,rfl,hl,hh⟩,hb3⟩
 have hb4:Below w3.heap.size w3 (w3.alloc (.cells #[.string l,.string h] 55)):=(Below.refl _ _).alloc (Nat.le_refl _) _
 have q4:=(q2.below hb3 q2.lt).below hb4 (q2.below hb3 q2.lt).lt
 have s4:=(s2.below hb3 s2.lt).below hb4 (s2.below hb3 s2.lt).lt
 have i4:CBlk (w3.alloc (.cells #[.string l,.string h] 55)) w3.heap.size #[.string l,.string h] 55:=CBlk.new _ _ _ _ rfl
 have hB3:=hB2.trans (hb3.mono hB2.size)
 have hB4:=hB3.trans (hb4.mono hB3.size)
 have hT4:=hT.later hB4
 have HL:=Lib.hid hl
 have HH:=Lib.hid hh
 clear x0 x1 x2 x3 x4 hb2 hb3 hb4 hl hh HC HQ
 go_wp2_with fail
 generalize w3.heap.size=j at *
 generalize w3.alloc (.cells #[.string l,.string h] 55)=w4 at *
 have HCAL:=Lib.hid (fun W=>calibrated_any a st z g o { data:=#[49] } { data:=#[48] } W)
 go_region_held3 (fun w'=>w'.cell? ⟨w.heap.size,0,none⟩=some (.int .i64 a)∧w'.cell? ⟨w.heap.size,1,none⟩=some (.int .i64 st)∧w'.cell? ⟨w.heap.size,2,none⟩=some (.int .i64 z)∧w'.cell? ⟨w.heap.size,3,none⟩=some (.string g)∧w'.cell? ⟨w.heap.size,4,none⟩=some (.string o))
  ((refine ⟨?_,?_,?_,?_,?_⟩<;>first | exact q5.cell _ | exact q4.cell _))
  (first
   |(go_at_call 98;refine (HCAL.out w4.drew).mono ?_;rintro e w5 ⟨rfl,hb5'⟩;have hb5:Below w4.heap.size w4 w5:=⟨hb5'.os,hb5'.tape,hb5'.output,hb5'.size,hb5'.block⟩;clear hb5';have q5:=q4.below hb5 q4.lt))
 have hB5:=hB4.trans (hb5.mono hB4.size)
 have s5:=s4.below hb5 s4.lt
 have i5:=i4.below hb5 i4.lt
 have hT5:=hT4.later hb5
 have x0:=q5.cell 0
 have x1:=q5.cell 1
 have x2:=q5.cell 2
 have x3:=q5.cell 3
 have x4:=q5.cell 4
 have y0:=i5.cell 0
 have y1:=i5.cell 1
 have r0:=s5.cell 0
 have r1:=s5.cell 1
 have f0:=s5.frozen 0
 have f1:=s5.frozen 1
 clear hb5 q4 s4 i4 hT4 hB4 HCAL
 have hset:=two_set hB5 (g:=w.heap.size+1) (by omega) (.string l) (.string h)
 go_wp2_with fail
 refine bodyPost_ret (v := .tuple #[.agg #[.string l,.string h],.int .i64 0]) (by simp [results,Tryz.results41,go_sem,r0,r1]) rfl ?_
 exact ⟨⟨l,h,rfl,HL.out,HH.out⟩,hset⟩
def AwakeK:Prop:=∀ W:World,Tabs W→Calls Tryz.prog 10 #[] W fun e w'=>e = .returned (.bool true)∧Below W.heap.size W w'
theorem NumQ.one {s t:ByteArray} {p:Q} (h:NumQ s p) (h':NumQ t p):t=s:=by
 obtain ⟨⟨x⟩⟩:=s
 obtain ⟨⟨y⟩⟩:=t
 have e:x=y:=h.1.trans h'.1.symm
 rw [e]
theorem nomQ_val {st z c:Int} (h : -20≤st∧st≤4):Val (nomQ st z c) ((c - z)*((2 ^ (st+149).toNat:Nat):Int)) (2 ^ 149):=by
 have hT:0<(2:Nat) ^ 149:=Nat.two_pow_pos _
 have h1:=(Val.lsb h).mul (Val.int (c - z))
 refine Val.trans h1 hT ?_
 generalize (2:Nat) ^ 149=t
 generalize (2 ^ (st+149).toNat:Nat)=u
 rw [Nat.mul_one]
 grind
theorem nom_text {st z c:Int} (h : -20≤st∧st≤4) (hz:0≤z∧z≤4096) (hc:0≤c∧c≤4096):exT (nomW (c - z) st)=writeS (nomQ st z c):=by
 by_cases hd:c - z=0
 ·have e1:nomQ st z c=⟨false,0,1⟩:=by
   have hv:=nomQ_val (z:=z) (c:=c) h
   rw [hd,Int.zero_mul] at hv
   refine LowQ.zero (nomQ_low st z c) ?_
   have h2:=hv.1
   have hT:((2 ^ 149:Nat):Int)≠0:=by decide
   rw [Int.zero_mul] at h2
   have h3:=(Int.mul_eq_zero.1 h2).resolve_right hT
   have h4:=sI_abs (nomQ st z c)
   rw [h3] at h4
   exact h4.symm
  rw [e1,hd]
  have e2:nomW 0 st=0:=by unfold nomW;rw [if_pos rfl]
  rw [e2]
  decide +kernel
 ·exact nom_exact hd (by omega) (by omega) (by have:=log_small (d:=c - z) (by omega);omega) (nomQ_low st z c) (nomQ_val h)
theorem run_pos {st z c1 c2:Int} (h : -20≤st∧st≤4) (hne:c1≠c2):0<(subQ (nomQ st z c2) (nomQ st z c1)).top:=by
 have hv:=(nomQ_val (z:=z) (c:=c2) h).sub (nomQ_val (z:=z) (c:=c1) h)
 rcases Nat.eq_zero_or_pos (subQ (nomQ st z c2) (nomQ st z c1)).top with h0 | h0
 ·exfalso
  have h4:=sI_abs (subQ (nomQ st z c2) (nomQ st z c1))
  rw [h0] at h4
  have h5:sI (subQ (nomQ st z c2) (nomQ st z c1))=0:=by omega
  have h1:=hv.1
  have h3:=hv.2.2
  rw [h5,Int.zero_mul] at h1
  have hu:(0:Int)<((2 ^ (st+149).toNat:Nat):Int):=Int.natCast_pos.2 (Nat.two_pow_pos _)
  have hT:(0:Int)<((2 ^ 149:Nat):Int):=by decide
  generalize ((2 ^ (st+149).toNat:Nat):Int)=u at *
  generalize ((2 ^ 149:Nat):Int)=t at *
  generalize (subQ (nomQ st z c2) (nomQ st z c1)).bot=b at *
  have h6:(c2 - c1)*(u*t*(b:Int))=0:=by grind
  have h7:u*t*(b:Int)≠0:=Int.mul_ne_zero (Int.mul_ne_zero (by omega) (by omega)) (by omega)
  have h8:=(Int.mul_eq_zero.1 h6).resolve_right h7
  omega
 ·exact h0
def runQ (st z c1 c2:Int):Q:=subQ (nomQ st z c2) (nomQ st z c1)
def slopeQ (st z c1 c2:Int) (p1 p2:Q):Q:=mulQ (subQ p2 p1) (recS (runQ st z c1 c2))
def offQ (st z c1 c2:Int) (p1 p2:Q):Q:=subQ p1 (mulQ (slopeQ st z c1 c2 p1 p2) (nomQ st z c1))
theorem low_sub {p q:Q} (hp:0<p.bot) (hq:0<q.bot):LowQ (subQ p q):=fracQ_low _ (Nat.mul_pos hp hq)
theorem low_mul {p q:Q} (hp:0<p.bot) (hq:0<q.bot):LowQ (mulQ p q):=fracQ_low _ (Nat.mul_pos hp hq)
structure CalNums (st z c1 c2:Int) (p1 p2:Q):Prop where
 ln1:LowQ (nomQ st z c1)
 ln2:LowQ (nomQ st z c2)
 sn1:Small (nomQ st z c1) 20
 sn2:Small (nomQ st z c2) 20
 lru:LowQ (runQ st z c1 c2)
 sru:Small (runQ st z c1 c2) 41
 ru0:0<(runQ st z c1 c2).top
 ldf:LowQ (subQ p2 p1)
 sdf:Small (subQ p2 p1) 121
 lsl:LowQ (slopeQ st z c1 c2 p1 p2)
 ssl:Small (slopeQ st z c1 c2 p1 p2) 162
 lpr:LowQ (mulQ (slopeQ st z c1 c2 p1 p2) (nomQ st z c1))
 spr:Small (mulQ (slopeQ st z c1 c2 p1 p2) (nomQ st z c1)) 182
 lof:LowQ (offQ st z c1 c2 p1 p2)
 sof:Small (offQ st z c1 c2 p1 p2) 243
theorem calNums {st z c1 c2:Int} {p1 p2:Q} (h : -20≤st∧st≤4) (hz:0≤z∧z≤4096) (hc1:0≤c1∧c1≤4096) (hc2:0≤c2∧c2≤4096) (hne:c1≠c2)
  (s1:Small p1 60) (s2:Small p2 60) (l1:LowQ p1) (l2:LowQ p2):CalNums st z c1 c2 p1 p2:=by
 have ln1:=nomQ_low st z c1
 have ln2:=nomQ_low st z c2
 have sn1:Small (nomQ st z c1) 20:=nomQ_small h (by omega)
 have sn2:Small (nomQ st z c2) 20:=nomQ_small h (by omega)
 have lru:LowQ (runQ st z c1 c2):=low_sub ln2.1 ln1.1
 have sru:Small (runQ st z c1 c2) 41:=small_sub sn2 sn1 ln2.1 ln1.1
 have ru0:0<(runQ st z c1 c2).top:=run_pos h hne
 have ldf:LowQ (subQ p2 p1):=low_sub l2.1 l1.1
 have sdf:Small (subQ p2 p1) 121:=small_sub s2 s1 l2.1 l1.1
 have lsl:LowQ (slopeQ st z c1 c2 p1 p2):=low_mul ldf.1 (low_recS lru ru0).1
 have ssl:Small (slopeQ st z c1 c2 p1 p2) 162:=small_mul sdf (small_recS sru) ldf.1 (low_recS lru ru0).1
 have lpr:LowQ (mulQ (slopeQ st z c1 c2 p1 p2) (nomQ st z c1)):=low_mul lsl.1 ln1.1
 have spr:Small (mulQ (slopeQ st z c1 c2 p1 p2) (nomQ st z c1)) 182:=small_mul ssl sn1 lsl.1 ln1.1
 exact ⟨ln1,ln2,sn1,sn2,lru,sru,ru0,ldf,sdf,lsl,ssl,lpr,spr,low_sub l1.1 lpr.1,small_sub s1 spr l1.1 lpr.1⟩
theorem ba_text {p:Q} (h:LowQ p):NumQ ⟨(writeS p).toArray⟩ p:=⟨by simp,h⟩
theorem readQ_writeS {p:Q} {N:Nat} (h:LowQ p) (hs:Small p N) (hN:N≤600) (hN0:0<N):readQ (writeS p)=p:=
 (read_writeS p h (Nat.le_trans (Dec.dec_length_le hN0 hs.1) hN) (Nat.le_trans (Dec.dec_length_le hN0 hs.2) hN)).2
end Go.Proofs.YtmkihdjolnlccaaGreatDoor
namespace Go.Proofs.YtmkihdjolnlccaaGreatDoor
open Go.RowKit Dn
end Go.Proofs.YtmkihdjolnlccaaGreatDoor
namespace Go.Proofs.YtmkihdjolnlccaaGreatDoor
open Go.RowKit Bn
open Flt
theorem Val.sign {q:Q} {num:Int} {den:Nat} (h:Val q num den):(num<0→signI q = -1)∧(num=0→signI q=0)∧(0<num→signI q=1):=by
 obtain ⟨h1,h2,h3⟩:=h
 have hb:(0:Int)<(q.bot:Int):=by omega
 have hd:(0:Int)<(den:Int):=by omega
 have hs:sI q=if q.neg then -(q.top:Int) else (q.top:Int):=rfl
 unfold signI
 refine ⟨fun hn => ?_,fun hn => ?_,fun hn => ?_⟩
 ·have hlt:sI q*(den:Int)<0:=by rw [h1];exact Int.mul_neg_of_neg_of_pos hn hb
  have hsl:sI q<0:=by
   rcases Int.lt_or_le (sI q) 0 with h9 | h9
   ·exact h9
   ·have:=Int.mul_nonneg h9 (Int.le_of_lt hd);omega
  rw [hs] at hsl
  have ht:q.top≠0:=by intro h9;rw [h9] at hsl;simp at hsl
  rw [if_neg ht]
  cases hq:q.neg
  ·rw [hq] at hsl;simp at hsl;omega
  ·simp
 ·rw [hn,Int.zero_mul] at h1
  have h0:=(Int.mul_eq_zero.1 h1).resolve_right (by omega)
  rw [hs] at h0
  have ht:q.top=0:=by split at h0<;>omega
  rw [if_pos ht]
 ·have hlt:0<sI q*(den:Int):=by rw [h1];exact Int.mul_pos hn hb
  have hsl:0<sI q:=by
   rcases Int.lt_or_le 0 (sI q) with h9 | h9
   ·exact h9
   ·have:=Int.mul_nonpos_of_nonpos_of_nonneg h9 (Int.le_of_lt hd);omega
  rw [hs] at hsl
  have ht:q.top≠0:=by intro h9;rw [h9] at hsl;simp at hsl
  rw [if_neg ht]
  cases hq:q.neg
  ·simp
  ·rw [hq] at hsl;simp at hsl;omega
def edgeI (q:Q) (z e:Int) (t:Nat):Int:=(2*((t:Int) - z) - 1)*((2 ^ (e+149).toNat:Nat):Int)*(q.bot:Int)
def stepI (q:Q) (e:Int):Int:=((2 ^ (e+149).toNat:Nat):Int)*(q.bot:Int)
theorem edgeI_eq (q:Q) (z e:Int) (t:Nat):edgeI q z e t=2*((t:Int) - z)*stepI q e - stepI q e:=by
 unfold edgeI stepI
 rw [Int.mul_assoc,Int.sub_mul,Int.one_mul]
theorem half_step {q:Q} {z e V:Int} {t:Nat} (h1:edgeI q z e t≤V) (h2:V<edgeI q z e (t+1)):2*((t:Int) - z)*stepI q e - stepI q e≤V∧V<2*((t:Int) - z)*stepI q e+stepI q e:=by
 rw [edgeI_eq] at h1 h2
 have e1:2*(((t+1:Nat):Int) - z)*stepI q e=2*((t:Int) - z)*stepI q e+2*stepI q e:=by
  rw [show 2*(((t+1:Nat):Int) - z)=2*((t:Int) - z)+2 by omega,Int.add_mul]
 rw [e1] at h2
 omega
end Go.Proofs.YtmkihdjolnlccaaGreatDoor
