/- The reference of chapter 2: Interval, True of a valid converter. -/
import Derived.Test.YtjhgadajpliclaaGreatDoorICdm2
import Derived.Test.YtjhgadajpliclaaGreatDoorIAd2
import Derived.Deep.RegionHeld3
namespace Go.Proofs.YtjhgadajpliclaaGreatDoor
open Go.RowKit Dn
def halfL (st:Int):Q:=mulQ (lsbQ st) halfQ
def lowE (st z c:Int):Q:=subQ (nomQ st z c) (halfL st)
def highE (st z c:Int):Q:=addQ (nomQ st z c) (halfL st)
def RetSpan (w:World) (p q:Q) (e:Ending) (w':World):Prop:=(∃ s t:ByteArray,e = .returned (.agg #[.string s,.string t])∧NumQ s p∧NumQ t q)∧Below w.heap.size w w'
theorem half_small:Small halfQ 1:=⟨by decide,by decide⟩
theorem halfL_small {st:Int} (h : -20≤st∧st≤4):Small (halfL st) 11:=small_mul (lsb_small h) half_small (lsb_low st).1 (by decide)
theorem nomQ_small {st z c:Int} (h : -20≤st∧st≤4) (hd : -10000≤c - z∧c - z≤10000):Small (nomQ st z c) 20:=small_mul (lsb_small h) (small_intQ hd) (lsb_low st).1 Nat.one_pos
theorem halfL_low (st:Int):LowQ (halfL st):=fracQ_low _ (Nat.mul_pos (lsb_low st).1 (by decide))
theorem nomQ_low (st z c:Int):LowQ (nomQ st z c):=fracQ_low _ (Nat.mul_pos (lsb_low st).1 Nat.one_pos)
theorem lowE_small {st z c:Int} (h : -20≤st∧st≤4) (hd : -10000≤c - z∧c - z≤10000):Small (lowE st z c) 32:=small_sub (nomQ_small h hd) (halfL_small h) (nomQ_low st z c).1 (halfL_low st).1
theorem highE_small {st z c:Int} (h : -20≤st∧st≤4) (hd : -10000≤c - z∧c - z≤10000):Small (highE st z c) 32:=small_add (nomQ_small h hd) (halfL_small h) (nomQ_low st z c).1 (halfL_low st).1
set_option maxHeartbeats 4000000 in
set_option maxRecDepth 100000 in
theorem rInterval_any (a st z c:Int) (g o:ByteArray) (w:World) (hst : -20≤st∧st≤4) (hz:0≤z∧z≤4096) (hc:0≤c∧c≤4096) :
  Calls Tryz.prog 21 #[.agg #[.int .i64 a,.int .i64 st,.int .i64 z,.string g,.string o],.int .i64 c] w (RetSpan w (lowE st z c) (highE st z c)):=by
 have hb0:Below w.heap.size w ((w.alloc (.cells #[.int .i64 a,.int .i64 st,.int .i64 z,.string g,.string o] 24)).alloc (.cells #[.string { data:=#[] },.string { data:=#[] }] 28)):=((Below.refl _ _).alloc (Nat.le_refl _) _).alloc (by simp) _
 have q0:CBlk ((w.alloc (.cells #[.int .i64 a,.int .i64 st,.int .i64 z,.string g,.string o] 24)).alloc (.cells #[.string { data:=#[] },.string { data:=#[] }] 28)) w.heap.size #[.int .i64 a,.int .i64 st,.int .i64 z,.string g,.string o] 24:=(CBlk.new w _ _ _ rfl).below ((Below.refl _ _).alloc (Nat.le_refl _) _) (by simp)
 have s0:CBlk ((w.alloc (.cells #[.int .i64 a,.int .i64 st,.int .i64 z,.string g,.string o] 24)).alloc (.cells #[.string { data:=#[] },.string { data:=#[] }] 28)) (w.heap.size+1) #[.string { data:=#[] },.string { data:=#[] }] 28:=CBlk.new (w.alloc (.cells #[.int .i64 a,.int .i64 st,.int .i64 z,.string g,.string o] 24)) _ _ _ (by simp)
 have x0:=q0.cell 0
 have x1:=q0.cell 1
 have x2:=q0.cell 2
 have x3:=q0.cell 3
 have x4:=q0.cell 4
 have HL:=Lib.hid (fun W=>rLsb_any a st z g o W hst)
 have HH:Hid (∀ (s:ByteArray) W,NumQ s (lsbQ st)→Calls Tryz.prog 67 #[.string s] W (RetS W (halfL st))):=fun s W hs=>rHalf_q s _ W hs (by have:=hs.size (lsb_small hst) (by omega);omega)
 have HN:=Lib.hid (fun W=>rNominal_any a st z c g o W hst hz hc)
 have hns:∀ s:ByteArray,NumQ s (nomQ st z c)→s.size≤42:=fun s hs=>hs.size (nomQ_small hst (by omega)) (by omega)
 have hhs:∀ s:ByteArray,NumQ s (halfL st)→s.size≤24:=fun s hs=>hs.size (halfL_small hst) (by omega)
 have HS:Hid (∀ (s t:ByteArray) W,NumQ s (nomQ st z c)→NumQ t (halfL st)→Calls Tryz.prog 68 #[.string s,.string t] W (RetS W (lowE st z c))):=fun s t W hs ht=>rSub_q s t _ _ W hs ht (by have:=hns s hs;omega) (by have:=hhs t ht;omega)
 have HA:Hid (∀ (s t:ByteArray) W,NumQ s (nomQ st z c)→NumQ t (halfL st)→Calls Tryz.prog 56 #[.string s,.string t] W (RetS W (highE st z c))):=fun s t W hs ht=>rAdd_q s t _ _ W hs ht (by have:=hns s hs;omega) (by have:=hhs t ht;omega)
 generalize lsbQ st=L at *
 generalize halfL st=H at *
 generalize nomQ st z c=M at *
 generalize lowE st z c=Q1 at *
 generalize highE st z c=Q2 at *
 clear hns hhs hst hz hc
 go_enter Tryz.func21,Tryz.ntmps21
 go_wp2_with fail
 generalize ((w.alloc (.cells #[.int .i64 a,.int .i64 st,.int .i64 z,.string g,.string o] 24)).alloc (.cells #[.string { data:=#[] },.string { data:=#[] }] 28))=w2 at *
 refine (HL.out w2).mono ?_
 rintro e w3 ⟨⟨s,rfl,hs⟩,hb3⟩
 have HSs:=Lib.hid hs
 have HB3:=Lib.hid hb3
 have q3:=q0.below hb3 q0.lt
 have s3:=s0.below hb3 s0.lt
 clear hs x0 x1 x2 x3 x4
 go_wp2_with fail
 refine (HH.out s w3 HSs.out).mono ?_
 rintro e w4 ⟨⟨hf,rfl,hhf⟩,hb4⟩
 have q4:CBlk w4.drew w.heap.size #[.int .i64 a,.int .i64 st,.int .i64 z,.string g,.string o] 24:=q3.below hb4.drew q3.lt
 have s4:CBlk w4.drew (w.heap.size+1) #[.string { data:=#[] },.string { data:=#[] }] 28:=s3.below hb4.drew s3.lt
 have hB3:=hb0.trans (hb3.mono hb0.size)
 have hB4':=hB3.trans (hb4.mono hB3.size)
 have hB4:Below w.heap.size w w4.drew:=hB4'.drew
 have HHF:=Lib.hid hhf
 have HB4:=Lib.hid hB4
 clear hB3 hB4' hB4 hb3 hb4 q0 s0 q3 s3 hb0 hhf HH HL HSs HB3
 have x0:=q4.cell 0
 have x1:=q4.cell 1
 have x2:=q4.cell 2
 have x3:=q4.cell 3
 have x4:=q4.cell 4
 have r0:=s4.cell 0
 have r1:=s4.cell 1
 have f0:=s4.frozen 0
 have f1:=s4.frozen 1
 go_upto_region 2 with (fail)
 go_region_held3 (fun w'=>w'.cell? ⟨w.heap.size,0,none⟩=some (.int .i64 a)∧w'.cell? ⟨w.heap.size,1,none⟩=some (.int .i64 st)∧w'.cell? ⟨w.heap.size,2,none⟩=some (.int .i64 z)∧w'.cell? ⟨w.heap.size,3,none⟩=some (.string g)∧w'.cell? ⟨w.heap.size,4,none⟩=some (.string o))
  ((refine ⟨?_,?_,?_,?_,?_⟩<;>first | exact q8.cell _ | exact q7.cell _ | exact q6.cell _ | exact q5.cell _ | exact q4.cell _ | exact (q8.far2 (Nat.succ_ne_self _) _ _).cell _))
  (first
   |(go_at_call 56;refine (HA.out t2 hf v3 ht2 HHF.out).mono ?_;rintro e v4 ⟨⟨u,rfl,hu⟩,b8⟩;have q8:=q7.below b8 q7.lt;have s8:=s7.below b8 s7.lt;have r0:=s8.cell 0;have r1:=s8.cell 1;have f0:=s8.frozen 0;have f1:=s8.frozen 1)
   |(go_at_call 49;refine (HN.out v2).mono ?_;rintro e v3 ⟨⟨t2,rfl,ht2⟩,b7⟩;have q7:=q6.below b7 q6.lt;have s7:=s6.below b7 s6.lt)
   |(go_at_call 68;refine (HS.out t1 hf v1 ht1 HHF.out).mono ?_;rintro e v2 ⟨⟨l,rfl,hl⟩,b6⟩;have q6:=q5.below b6 q5.lt;have s6:=s5.below b6 s5.lt)
   |(go_at_call 49;refine (HN.out w4.drew).mono ?_;rintro e v1 ⟨⟨t1,rfl,ht1⟩,b5⟩;have q5:=q4.below b5 q4.lt;have s5:=s4.below b5 s4.lt))
 have c5:=HB4.out.trans (b5.mono HB4.out.size)
 have c6:=c5.trans (b6.mono c5.size)
 have c7:=c6.trans (b7.mono c6.size)
 have c8:=c7.trans (b8.mono c7.size)
 have hset:=two_set c8 (g:=w.heap.size+1) (by omega) (.string l) (.string u)
 clear HN HS HA
 go_wp2_with fail
 refine bodyPost_ret (v := .agg #[.string l,.string u]) (by simp [results,Tryz.results21,go_sem,r0,r1]) rfl ?_
 exact ⟨⟨l,u,rfl,hl,hu⟩,hset⟩
def realQ (p q v:Q):Q:=addQ (mulQ p v) q
set_option maxHeartbeats 4000000 in
set_option maxRecDepth 100000 in
theorem rTrue_any (a st z c:Int) (g o:ByteArray) (p q:Q) (w:World) (hst : -20≤st∧st≤4) (hz:0≤z∧z≤4096) (hc:0≤c∧c≤4096) (hg:NumQ g p) (ho:NumQ o q) (hgs:g.size≤2000) (hos:o.size≤2000) :
  Calls Tryz.prog 22 #[.agg #[.int .i64 a,.int .i64 st,.int .i64 z,.string g,.string o],.int .i64 c] w (RetSpan w (realQ p q (lowE st z c)) (realQ p q (highE st z c))):=by
 have hb0:Below w.heap.size w ((w.alloc (.cells #[.int .i64 a,.int .i64 st,.int .i64 z,.string g,.string o] 24)).alloc (.cells #[.string { data:=#[] },.string { data:=#[] }] 28)):=((Below.refl _ _).alloc (Nat.le_refl _) _).alloc (by simp) _
 have q0:CBlk ((w.alloc (.cells #[.int .i64 a,.int .i64 st,.int .i64 z,.string g,.string o] 24)).alloc (.cells #[.string { data:=#[] },.string { data:=#[] }] 28)) w.heap.size #[.int .i64 a,.int .i64 st,.int .i64 z,.string g,.string o] 24:=(CBlk.new w _ _ _ rfl).below ((Below.refl _ _).alloc (Nat.le_refl _) _) (by simp)
 have s0:CBlk ((w.alloc (.cells #[.int .i64 a,.int .i64 st,.int .i64 z,.string g,.string o] 24)).alloc (.cells #[.string { data:=#[] },.string { data:=#[] }] 28)) (w.heap.size+1) #[.string { data:=#[] },.string { data:=#[] }] 28:=CBlk.new (w.alloc (.cells #[.int .i64 a,.int .i64 st,.int .i64 z,.string g,.string o] 24)) _ _ _ (by simp)
 have x0:=q0.cell 0
 have x1:=q0.cell 1
 have x2:=q0.cell 2
 have x3:=q0.cell 3
 have x4:=q0.cell 4
 have HI:=Lib.hid (fun W=>rInterval_any a st z c g o W hst hz hc)
 have hls:∀ s:ByteArray,NumQ s (lowE st z c)→s.size≤2000:=fun s hs=>by have:=hs.size (lowE_small hst (by omega)) (by omega);omega
 have hus:∀ s:ByteArray,NumQ s (highE st z c)→s.size≤2000:=fun s hs=>by have:=hs.size (highE_small hst (by omega)) (by omega);omega
 have HR1:Hid (∀ (v:ByteArray) W,NumQ v (lowE st z c)→Calls Tryz.prog 69 #[.agg #[.int .i64 a,.int .i64 st,.int .i64 z,.string g,.string o],.string v] W (RetS W (realQ p q (lowE st z c)))):=fun v W hv=>rReal_any a st z g o v p q _ W hg ho hv hgs hos (hls v hv)
 have HR2:Hid (∀ (v:ByteArray) W,NumQ v (highE st z c)→Calls Tryz.prog 69 #[.agg #[.int .i64 a,.int .i64 st,.int .i64 z,.string g,.string o],.string v] W (RetS W (realQ p q (highE st z c)))):=fun v W hv=>rReal_any a st z g o v p q _ W hg ho hv hgs hos (hus v hv)
 generalize realQ p q (lowE st z c)=R1 at *
 generalize realQ p q (highE st z c)=R2 at *
 generalize lowE st z c=Q1 at *
 generalize highE st z c=Q2 at *
 clear hls hus hst hz hc hg ho hgs hos
 go_enter Tryz.func22,Tryz.ntmps22
 go_wp2_with fail
 generalize ((w.alloc (.cells #[.int .i64 a,.int .i64 st,.int .i64 z,.string g,.string o] 24)).alloc (.cells #[.string { data:=#[] },.string { data:=#[] }] 28))=w2 at *
 refine (HI.out w2).mono ?_
 rintro e w3 ⟨⟨l,h,rfl,hl,hh⟩,hb3⟩
 have hB3:=hb0.trans (hb3.mono hb0.size)
 obtain ⟨gs,hgs⟩:∃ gs,w3.heap.size=gs:=⟨_,rfl⟩
 have hba:Below w3.heap.size w3 (w3.alloc (.cells #[.string l,.string h] 28)).drew:=((Below.refl _ _).alloc (Nat.le_refl _) _).drew
 have v4:CBlk (w3.alloc (.cells #[.string l,.string h] 28)).drew gs #[.string l,.string h] 28:=CBlk.new w3 _ _ gs hgs.symm
 have hB4:=hB3.trans (hba.mono hB3.size)
 have q4:=(q0.below hb3 q0.lt).below hba (q0.below hb3 q0.lt).lt
 have s4:=(s0.below hb3 s0.lt).below hba (s0.below hb3 s0.lt).lt
 have hne:gs≠w.heap.size+1:=by
  have:=(s0.below hb3 s0.lt).lt
  omega
 have HL:=Lib.hid hl
 have HH:=Lib.hid hh
 have HB4:=Lib.hid hB4
 have HNE:=Lib.hid hne
 clear hB3 hB4 hb3 hba q0 s0 hb0 HI hl hh hne x0 x1 x2 x3 x4
 go_upto_region 2 with (fail)
 generalize w3.alloc (.cells #[.string l,.string h] 28)=w4 at *
 have x0:=q4.cell 0
 have x1:=q4.cell 1
 have x2:=q4.cell 2
 have x3:=q4.cell 3
 have x4:=q4.cell 4
 have y0:=v4.cell 0
 have y1:=v4.cell 1
 have r0:=s4.cell 0
 have r1:=s4.cell 1
 have f0:=s4.frozen 0
 have f1:=s4.frozen 1
 go_region_held3 (fun w'=>w'.cell? ⟨w.heap.size,0,none⟩=some (.int .i64 a)∧w'.cell? ⟨w.heap.size,1,none⟩=some (.int .i64 st)∧w'.cell? ⟨w.heap.size,2,none⟩=some (.int .i64 z)∧w'.cell? ⟨w.heap.size,3,none⟩=some (.string g)∧w'.cell? ⟨w.heap.size,4,none⟩=some (.string o)∧w'.cell? ⟨gs,0,none⟩=some (.string l)∧w'.cell? ⟨gs,1,none⟩=some (.string h))
  ((refine ⟨?_,?_,?_,?_,?_,?_,?_⟩<;>first | exact q6.cell _ | exact q5.cell _ | exact q4.cell _ | exact v6.cell _ | exact v5.cell _ | exact v4.cell _ | exact (q6.far2 (Nat.succ_ne_self _) _ _).cell _ | exact (v6.far2 HNE.out.symm _ _).cell _))
  (first
   |(go_at_call 69;refine (HR2.out h u1 HH.out).mono ?_;rintro e u2 ⟨⟨t2,rfl,ht2⟩,b6⟩;have q6:=q5.below b6 q5.lt;have v6:=v5.below b6 v5.lt;have s6:=s5.below b6 s5.lt;have r0:=s6.cell 0;have r1:=s6.cell 1;have f0:=s6.frozen 0;have f1:=s6.frozen 1)
   |(go_at_call 69;refine (HR1.out l w4.drew HL.out).mono ?_;rintro e u1 ⟨⟨t1,rfl,ht1⟩,b5⟩;have q5:=q4.below b5 q4.lt;have v5:=v4.below b5 v4.lt;have s5:=s4.below b5 s4.lt))
 have c5:=HB4.out.trans (b5.mono HB4.out.size)
 have c6:=c5.trans (b6.mono c5.size)
 have hset:=two_set c6 (g:=w.heap.size+1) (by omega) (.string t1) (.string t2)
 clear HR1 HR2
 go_wp2_with fail
 refine bodyPost_ret (v := .agg #[.string t1,.string t2]) (by simp [results,Tryz.results22,go_sem,r0,r1]) rfl ?_
 exact ⟨⟨t1,t2,rfl,ht1,ht2⟩,hset⟩
end Go.Proofs.YtjhgadajpliclaaGreatDoor
namespace Go.Proofs.YtjhgadajpliclaaGreatDoor
open Go.RowKit Bn
open Flt
def inE (n:Nat) (c:Int):Int:=if rangeE c 0 ((2 ^ n - 1:Nat):Int)≠0 then 3 else if c=0∨c=((2 ^ n - 1:Nat):Int) then 15 else 0
theorem adcE_zero {a st z:Int} {g o:ByteArray} (h:adcE a st z g.data.toList o.data.toList=0) :
  ∃ n:Nat,a=n∧8≤n∧n≤12 ∧ -20≤st∧st≤4∧0≤z∧z≤((2 ^ n - 1:Nat):Int)∧readE g.data.toList=0∧0<signI (readQ g.data.toList)∧readE o.data.toList=0:=by
 unfold adcE at h
 rcases range_cases a 8 12 with h1 | h1
 ·rw [h1.1,if_pos (c:=(3:Int)≠0) (by decide)] at h
  exact absurd h (by decide)
 ·rw [h1.1,if_neg (c:=(0:Int)≠0) (by simp)] at h
  rcases range_cases st (-20) 4 with h2 | h2
  ·rw [h2.1,if_pos (c:=(3:Int)≠0) (by decide)] at h
   exact absurd h (by decide)
  ·rw [h2.1,if_neg (c:=(0:Int)≠0) (by simp)] at h
   rcases range_cases z 0 ((2 ^ a.toNat - 1:Nat):Int) with h3 | h3
   ·rw [h3.1,if_pos (c:=(3:Int)≠0) (by decide)] at h
    exact absurd h (by decide)
   ·rw [h3.1,if_neg (c:=(0:Int)≠0) (by simp)] at h
    by_cases h4:readE g.data.toList=0
    ·rw [if_neg (fun h9=>h9 h4)] at h
     by_cases h5:signI (readQ g.data.toList)≤0
     ·rw [if_pos h5] at h
      exact absurd h (by decide)
     ·rw [if_neg h5] at h
      exact ⟨a.toNat,by omega,by omega,by omega,h2.2.1,h2.2.2,h3.2.1,h3.2.2,h4,by omega,h⟩
    ·rw [if_pos h4] at h
     exact absurd h h4
set_option maxHeartbeats 1000000 in
theorem checkCode_bad (a st z c E:Int) (g o:ByteArray) (w:World) (hT:Tabs w) (hg:g.size≤4294967296) (ho:o.size≤4294967296) (hE:adcE a st z g.data.toList o.data.toList=E) (h0:E≠0) :
  Calls Tryz.prog 45 #[.agg #[.int .i64 a,.int .i64 st,.int .i64 z,.string g,.string o],.int .i64 c] w fun e w'=>e = .returned (.int .i64 E)∧Below w.heap.size w w':=by
 have hb0:Below w.heap.size w (w.alloc (.cells #[.int .i64 a,.int .i64 st,.int .i64 z,.string g,.string o] 32)):=(Below.refl _ _).alloc (Nat.le_refl _) _
 have q0:CBlk (w.alloc (.cells #[.int .i64 a,.int .i64 st,.int .i64 z,.string g,.string o] 32)) w.heap.size #[.int .i64 a,.int .i64 st,.int .i64 z,.string g,.string o] 32:=CBlk.new w _ _ _ rfl
 have x0:=q0.cell 0
 have x1:=q0.cell 1
 have x2:=q0.cell 2
 have x3:=q0.cell 3
 have x4:=q0.cell 4
 have hC:=checkAdc_any a st z g o _ (hT.later hb0) hg ho
 rw [hE] at hC
 have HC:=Lib.hid hC
 have d0:(E==0)=false:=beq_eq_false_iff_ne.2 h0
 have d1:(E != 0)=true:=by simpa using h0
 clear hC hE h0
 go_enter Tryz.func45,Tryz.ntmps45
 go_wp2_with fail
 generalize w.alloc (.cells #[.int .i64 a,.int .i64 st,.int .i64 z,.string g,.string o] 32)=w1 at *
 refine HC.out.mono ?_
 rintro e w2 ⟨rfl,hb2⟩
 have q2:=q0.below hb2 q0.lt
 clear x0 x1 x2 x3 x4
 have x0:=q2.cell 0
 have x1:=q2.cell 1
 have x2:=q2.cell 2
 have x3:=q2.cell 3
 have x4:=q2.cell 4
 have hB2:=hb0.trans (hb2.mono hb0.size)
 go_wp2
 go_ret
 exact ⟨rfl,hB2⟩
set_option maxHeartbeats 1000000 in
theorem checkInner_bad (a st z c E:Int) (g o:ByteArray) (w:World) (hT:Tabs w) (hg:g.size≤4294967296) (ho:o.size≤4294967296) (hE:adcE a st z g.data.toList o.data.toList=E) (h0:E≠0) :
  Calls Tryz.prog 63 #[.agg #[.int .i64 a,.int .i64 st,.int .i64 z,.string g,.string o],.int .i64 c] w fun e w'=>e = .returned (.int .i64 E)∧Below w.heap.size w w':=by
 have hb0:Below w.heap.size w (w.alloc (.cells #[.int .i64 a,.int .i64 st,.int .i64 z,.string g,.string o] 32)):=(Below.refl _ _).alloc (Nat.le_refl _) _
 have q0:CBlk (w.alloc (.cells #[.int .i64 a,.int .i64 st,.int .i64 z,.string g,.string o] 32)) w.heap.size #[.int .i64 a,.int .i64 st,.int .i64 z,.string g,.string o] 32:=CBlk.new w _ _ _ rfl
 have x0:=q0.cell 0
 have x1:=q0.cell 1
 have x2:=q0.cell 2
 have x3:=q0.cell 3
 have x4:=q0.cell 4
 have HC:=Lib.hid (checkCode_bad a st z c E g o _ (hT.later hb0) hg ho hE h0)
 have d0:(E==0)=false:=beq_eq_false_iff_ne.2 h0
 clear hE h0
 go_enter Tryz.func63,Tryz.ntmps63
 go_wp2_with fail
 generalize w.alloc (.cells #[.int .i64 a,.int .i64 st,.int .i64 z,.string g,.string o] 32)=w1 at *
 refine HC.out.mono ?_
 rintro e w2 ⟨rfl,hb2⟩
 have q2:=q0.below hb2 q0.lt
 clear x0 x1 x2 x3 x4
 have x0:=q2.cell 0
 have x1:=q2.cell 1
 have x2:=q2.cell 2
 have x3:=q2.cell 3
 have x4:=q2.cell 4
 have hB2:=hb0.trans (hb2.mono hb0.size)
 go_wp2
 go_ret
 exact ⟨rfl,hB2⟩
set_option maxHeartbeats 1000000 in
theorem checkCode_good (n:Nat) (st z c:Int) (g o:ByteArray) (w:World) (hT:Tabs w) (hg:g.size≤4294967296) (ho:o.size≤4294967296) (hE:adcE n st z g.data.toList o.data.toList=0) (hn:n≤12) :
  Calls Tryz.prog 45 #[.agg #[.int .i64 (n:Int),.int .i64 st,.int .i64 z,.string g,.string o],.int .i64 c] w fun e w'=>e = .returned (.int .i64 (rangeE c 0 ((2 ^ n - 1:Nat):Int)))∧Below w.heap.size w w':=by
 have hb0:Below w.heap.size w (w.alloc (.cells #[.int .i64 (n:Int),.int .i64 st,.int .i64 z,.string g,.string o] 32)):=(Below.refl _ _).alloc (Nat.le_refl _) _
 have q0:CBlk (w.alloc (.cells #[.int .i64 (n:Int),.int .i64 st,.int .i64 z,.string g,.string o] 32)) w.heap.size #[.int .i64 (n:Int),.int .i64 st,.int .i64 z,.string g,.string o] 32:=CBlk.new w _ _ _ rfl
 have x0:=q0.cell 0
 have x1:=q0.cell 1
 have x2:=q0.cell 2
 have x3:=q0.cell 3
 have x4:=q0.cell 4
 have hC:=checkAdc_any n st z g o _ (hT.later hb0) hg ho
 rw [hE] at hC
 have HC:=Lib.hid hC
 have HTP:=Lib.hid (fun W=>top_any n st z (.string g) (.string o) W (by omega))
 generalize ((2 ^ n - 1:Nat):Int)=T at *
 obtain ⟨rc,hrc⟩:∃ rc,rangeE c 0 T=rc:=⟨_,rfl⟩
 have HR3:=Lib.hid hrc
 rw [hrc]
 clear hC hE hn hrc
 go_enter Tryz.func45,Tryz.ntmps45
 go_wp2_with fail
 generalize w.alloc (.cells #[.int .i64 (n:Int),.int .i64 st,.int .i64 z,.string g,.string o] 32)=w1 at *
 refine HC.out.mono ?_
 rintro e w2 ⟨rfl,hb2⟩
 have q2:=q0.below hb2 q0.lt
 clear x0 x1 x2 x3 x4
 have x0:=q2.cell 0
 have x1:=q2.cell 1
 have x2:=q2.cell 2
 have x3:=q2.cell 3
 have x4:=q2.cell 4
 have hB2:=hb0.trans (hb2.mono hb0.size)
 go_wp2_with fail
 refine (HTP.out w2).mono ?_
 rintro e w3 ⟨rfl,hb3⟩
 go_wp2_with fail
 refine (cinRange_any _ _ _ _).mono ?_
 rintro e w4 ⟨he,rfl⟩
 rw [HR3.out] at he
 subst he
 go_wp2_with fail
 go_ret
 exact ⟨rfl,hB2.trans (hb3.mono hB2.size)⟩
theorem inE_cases (n:Nat) (c:Int):(rangeE c 0 ((2 ^ n - 1:Nat):Int)=3∧inE n c=3)∨(rangeE c 0 ((2 ^ n - 1:Nat):Int)=0∧decide (c=0∨c=((2 ^ n - 1:Nat):Int))=true∧inE n c=15)∨(rangeE c 0 ((2 ^ n - 1:Nat):Int)=0∧decide (c=0∨c=((2 ^ n - 1:Nat):Int))=false∧inE n c=0):=by
 unfold inE
 rcases range_cases c 0 ((2 ^ n - 1:Nat):Int) with h | h
 ·exact .inl ⟨h.1,by rw [h.1];rfl⟩
 ·rw [h.1,if_neg (c:=(0:Int)≠0) (by simp)]
  by_cases h1:c=0∨c=((2 ^ n - 1:Nat):Int)
  ·exact .inr (.inl ⟨rfl,decide_eq_true h1,if_pos h1⟩)
  ·exact .inr (.inr ⟨rfl,decide_eq_false h1,if_neg h1⟩)
set_option maxHeartbeats 2000000 in
theorem checkInner_good (n:Nat) (st z c:Int) (g o:ByteArray) (w:World) (hT:Tabs w) (hg:g.size≤4294967296) (ho:o.size≤4294967296) (hE:adcE n st z g.data.toList o.data.toList=0) (hn:n≤12) :
    Calls Tryz.prog 63 #[.agg #[.int .i64 (n:Int),.int .i64 st,.int .i64 z,.string g,.string o],.int .i64 c] w fun e w'=>e = .returned (.int .i64 (inE n c))∧Below w.heap.size w w':=by
  have hb0:Below w.heap.size w (w.alloc (.cells #[.int .i64 (n:Int),.int .i64 st,.int .i64 z,.string g,.string o] 32)):=(Below.refl _ _).alloc (Nat.le_refl _) _
  have q0:CBlk (w.alloc (.cells #[.int .i64 (n:Int),.int .i64 st,.int .i64 z,.string g,.string o] 32)) w.heap.size #[.int .i64 (n:Int),.int .i64 st,.int .i64 z,.string g,.string o] 32:=CBlk.new w _ _ _ rfl
  have x0:=q0.cell 0
  have x1:=q0.cell 1
  have x2:=q0.cell 2
  have x3:=q0.cell 3
  have x4:=q0.cell 4
  have hC:=checkCode_good n st z c g o _ (hT.later hb0) hg ho hE hn
  have hI:=fun W=>isEnd_any n st z c (.string g) (.string o) W (by omega)
  have hcase:=inE_cases n c
  generalize inE n c=I at *
  generalize rangeE c 0 ((2 ^ n - 1:Nat):Int)=rc at *
  generalize decide (c=0∨c=((2 ^ n - 1:Nat):Int))=be at *
  have HC:=Lib.hid hC
  have HI:=Lib.hid hI
  clear hC hI hE hn
  rcases hcase with ⟨rfl,rfl⟩ | ⟨rfl,rfl,rfl⟩ | ⟨rfl,rfl,rfl⟩
  all_goals
    go_enter Tryz.func63,Tryz.ntmps63
    go_wp2_with fail
    generalize w.alloc (.cells #[.int .i64 (n:Int),.int .i64 st,.int .i64 z,.string g,.string o] 32)=w1 at *
    refine HC.out.mono ?_
    rintro e w2 ⟨rfl,hb2⟩
    have q2:=q0.below hb2 q0.lt
    clear x0 x1 x2 x3 x4
    have x0:=q2.cell 0
    have x1:=q2.cell 1
    have x2:=q2.cell 2
    have x3:=q2.cell 3
    have x4:=q2.cell 4
    have hB2:=hb0.trans (hb2.mono hb0.size)
    go_wp2_with fail
    first
      | (go_ret;exact ⟨rfl,hB2⟩)
      | (refine (HI.out w2).mono ?_
         rintro e w3 ⟨rfl,hb3⟩
         have hB3:=hB2.trans (hb3.mono hB2.size)
         go_wp2_with fail
         go_ret
         exact ⟨rfl,hB3⟩)
set_option maxHeartbeats 2000000 in
theorem rCheckInside_any (n:Nat) (st z c:Int) (g o:ByteArray) (w:World) (hn:n≤12) :
    Calls Tryz.prog 20 #[.agg #[.int .i64 (n:Int),.int .i64 st,.int .i64 z,.string g,.string o],.int .i64 c] w fun e w'=>e = .returned (.int .i64 (inE n c))∧Below w.heap.size w w':=by
  have hb0:Below w.heap.size w (w.alloc (.cells #[.int .i64 (n:Int),.int .i64 st,.int .i64 z,.string g,.string o] 24)):=(Below.refl _ _).alloc (Nat.le_refl _) _
  have q0:CBlk (w.alloc (.cells #[.int .i64 (n:Int),.int .i64 st,.int .i64 z,.string g,.string o] 24)) w.heap.size #[.int .i64 (n:Int),.int .i64 st,.int .i64 z,.string g,.string o] 24:=CBlk.new w _ _ _ rfl
  have x0:=q0.cell 0
  have x1:=q0.cell 1
  have x2:=q0.cell 2
  have x3:=q0.cell 3
  have x4:=q0.cell 4
  have hC:=rCheckCode_any n st z c (.string g) (.string o) (w.alloc (.cells #[.int .i64 (n:Int),.int .i64 st,.int .i64 z,.string g,.string o] 24)) (by omega)
  have HT:=Lib.hid (fun W=>rTop_any n st z (.string g) (.string o) W (by omega))
  have hcase:(rangeE c 0 ((2 ^ n - 1:Nat):Int)=3∧inE n c=3)∨(rangeE c 0 ((2 ^ n - 1:Nat):Int)=0∧(c==0)=true∧inE n c=15)∨(rangeE c 0 ((2 ^ n - 1:Nat):Int)=0∧(c==0)=false∧(c==((2 ^ n - 1:Nat):Int))=true∧inE n c=15)∨(rangeE c 0 ((2 ^ n - 1:Nat):Int)=0∧(c==0)=false∧(c==((2 ^ n - 1:Nat):Int))=false∧inE n c=0):=by
    rcases inE_cases n c with h | ⟨h1,h2,h3⟩ | ⟨h1,h2,h3⟩
    · exact .inl h
    · by_cases h0:c=0
      · exact .inr (.inl ⟨h1,by rw [beq_iff_eq];exact h0,h3⟩)
      · have h9:=of_decide_eq_true h2
        exact .inr (.inr (.inl ⟨h1,beq_eq_false_iff_ne.2 h0,by rw [beq_iff_eq];exact h9.resolve_left h0,h3⟩))
    · have h9:=of_decide_eq_false h2
      exact .inr (.inr (.inr ⟨h1,beq_eq_false_iff_ne.2 (fun e=>h9 (.inl e)),beq_eq_false_iff_ne.2 (fun e=>h9 (.inr e)),h3⟩))
  generalize inE n c=I at *
  generalize rangeE c 0 ((2 ^ n - 1:Nat):Int)=rc at *
  generalize ((2 ^ n - 1:Nat):Int)=T at *
  have HC:=Lib.hid hC
  clear hC hn
  rcases hcase with ⟨rfl,rfl⟩ | ⟨rfl,d1,rfl⟩ | ⟨rfl,d1,d2,rfl⟩ | ⟨rfl,d1,d2,rfl⟩
  all_goals
    go_enter Tryz.func20,Tryz.ntmps20
    go_wp2_with fail
    generalize w.alloc (.cells #[.int .i64 (n:Int),.int .i64 st,.int .i64 z,.string g,.string o] 24)=w1 at *
    refine HC.out.mono ?_
    rintro e w2 ⟨rfl,hb2⟩
    have q2:=q0.below hb2 q0.lt
    clear x0 x1 x2 x3 x4
    have x0:=q2.cell 0
    have x1:=q2.cell 1
    have x2:=q2.cell 2
    have x3:=q2.cell 3
    have x4:=q2.cell 4
    have hB2:=hb0.trans (hb2.mono hb0.size)
    go_wp2_with fail
    first
      | (go_ret;exact ⟨rfl,hB2⟩)
      | (refine (HT.out w2).mono ?_
         rintro e w3 ⟨rfl,hb3⟩
         have hB3:=hB2.trans (hb3.mono hB2.size)
         go_wp2_with fail
         go_ret
         exact ⟨rfl,hB3⟩)
set_option maxHeartbeats 2000000 in
set_option maxRecDepth 100000 in
theorem interval_ok (a:Nat) (st z c:Int) (g o:ByteArray) (x y:Nat) (l m:List UInt8) (w:World) (hT:Tabs w) (hc:0≤c∧c≤4095) (hz:0≤z∧z≤4095) (hst : -20≤st∧st≤4) (hx:nomW (2*(c - z) - 1) (st - 1)=x) (hy:nomW (2*(c+1 - z) - 1) (st - 1)=y) (hl:exT x=l) (hm:exT y=m) :
  Calls Tryz.prog 64 #[.agg #[.int .i64 a,.int .i64 st,.int .i64 z,.string g,.string o],.int .i64 c] w fun e w'=>e = .returned (.agg #[.string ⟨l.toArray⟩,.string ⟨m.toArray⟩])∧Below w.heap.size w w':=by
 have hb0:Below w.heap.size w ((w.alloc (.cells #[.int .i64 a,.int .i64 st,.int .i64 z,.string g,.string o] 32)).alloc (.cells #[.string { data:=#[] },.string { data:=#[] }] 28)):=((Below.refl _ _).alloc (Nat.le_refl _) _).alloc (by simp) _
 have q2:CBlk ((w.alloc (.cells #[.int .i64 a,.int .i64 st,.int .i64 z,.string g,.string o] 32)).alloc (.cells #[.string { data:=#[] },.string { data:=#[] }] 28)) w.heap.size #[.int .i64 a,.int .i64 st,.int .i64 z,.string g,.string o] 32:=(CBlk.new w _ _ _ rfl).below ((Below.refl _ _).alloc (Nat.le_refl _) _) (by simp)
 have s2:CBlk ((w.alloc (.cells #[.int .i64 a,.int .i64 st,.int .i64 z,.string g,.string o] 32)).alloc (.cells #[.string { data:=#[] },.string { data:=#[] }] 28)) (w.heap.size+1) #[.string { data:=#[] },.string { data:=#[] }] 28:=CBlk.new _ _ _ _ (by simp)
 have HN0:=Lib.hid (fun W=>edge_any a st z c (.string g) (.string o) W (by omega) (by omega) (by omega) (by omega))
 have HNT:=Lib.hid (fun W=>edge_any a st z (c+1) (.string g) (.string o) W (by omega) (by omega) (by omega) (by omega))
 have HSP:=Lib.hid (fun W hT=>spanOf_eq x y l m W hT hl hm)
 rw [hx] at HN0
 rw [hy] at HNT
 have hw:IntKind.i64.wrap (c+1)=c+1:=IntWalk.i64_in _ (by omega)
 have hnt:∀ W,Calls Tryz.prog 105 #[.agg #[.int .i64 a,.int .i64 st,.int .i64 z,.string g,.string o],.int .i64 (IntKind.i64.wrap (c+1))] W fun e w'=>e = .returned (.float .f32 y)∧Below W.heap.size W w':=by rw [hw];exact HNT.out
 clear HNT
 have HNT:=Lib.hid hnt
 clear hnt hw
 generalize l.toArray=la at *
 generalize m.toArray=ma at *
 clear hz hc hl hm hx hy hst
 go_enter Tryz.func64,Tryz.ntmps64
 go_wp2_with fail
 generalize ((w.alloc (.cells #[.int .i64 a,.int .i64 st,.int .i64 z,.string g,.string o] 32)).alloc (.cells #[.string { data:=#[] },.string { data:=#[] }] 28))=w2 at *
 have hT2:=hT.later hb0
 go_region_held3 (fun w'=>w'.cell? ⟨w.heap.size,0,none⟩=some (.int .i64 a)∧w'.cell? ⟨w.heap.size,1,none⟩=some (.int .i64 st)∧w'.cell? ⟨w.heap.size,2,none⟩=some (.int .i64 z)∧w'.cell? ⟨w.heap.size,3,none⟩=some (.string g)∧w'.cell? ⟨w.heap.size,4,none⟩=some (.string o))
  ((refine ⟨?_,?_,?_,?_,?_⟩<;>first | exact q6.cell _ | exact q4.cell _ | exact q3.cell _ | exact q2.cell _ | exact (q6.far2 (Nat.succ_ne_self _) _ _).cell _))
  (first
   |(go_at_call 39;refine (HSP.out w4 hT4).mono ?_;rintro e w6 ⟨rfl,hb6⟩;have q6:=q4.below hb6 q4.lt;have s6:=s4.below hb6 s4.lt;have r0:=s6.cell 0;have r1:=s6.cell 1;have f0:=s6.frozen 0;have f1:=s6.frozen 1)
   |(go_at_call 105;refine (HNT.out w3).mono ?_;rintro e w4 ⟨rfl,hb4⟩;have q4:=q3.below hb4 q3.lt;have s4:=s3.below hb4 s3.lt;have hT4:=hT3.later hb4)
   |(go_at_call 105;refine (HN0.out w2.drew).mono ?_;rintro e w3 ⟨rfl,hb3'⟩;have hb3:Below w2.heap.size w2 w3:=⟨hb3'.os,hb3'.tape,hb3'.output,hb3'.size,hb3'.block⟩;clear hb3';have q3:=q2.below hb3 q2.lt;have s3:=s2.below hb3 s2.lt;have hT3:=hT2.later hb3))
 have hB3:=hb0.trans (hb3.mono hb0.size)
 have hB4:=hB3.trans (hb4.mono hB3.size)
 have hB6:=hB4.trans (hb6.mono hB4.size)
 have hset:=two_set hB6 (g:=w.heap.size+1) (by omega) (.string ⟨la⟩) (.string ⟨ma⟩)
 clear HN0 HNT HSP
 go_wp2_with fail
 refine bodyPost_ret (v := .agg #[.string ⟨la⟩,.string ⟨ma⟩]) (by simp [results,Tryz.results64,go_sem,r0,r1]) rfl ⟨rfl,hset⟩
end Go.Proofs.YtjhgadajpliclaaGreatDoor
