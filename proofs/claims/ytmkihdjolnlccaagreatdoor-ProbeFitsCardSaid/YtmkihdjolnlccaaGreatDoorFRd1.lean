/- Plain: what a fitted converter does: the middle of a mark's interval is the mark's voltage, a step is the gain times the step, intervals meet. No program. -/
import Derived.Test.YtmkihdjolnlccaaGreatDoorFRc1
import Derived.Test.YtmkihdjolnlccaaGreatDoorFRb26
import Derived.Test.YtmkihdjolnlccaaGreatDoorFAw0
import Derived.Test.YtmkihdjolnlccaaGreatDoorFInv
import Derived.Deep.RegionHeld3
import Derived.Laws.StructEq
namespace Go.Proofs.YtmkihdjolnlccaaGreatDoor
open Go.RowKit Bn
open Flt
def rat (p:Q):Rat:=(sI p:Rat) / ((p.bot:Int):Rat)
theorem rat_val {p:Q} {a:Int} {x:Nat} (h:Val p a x):rat p=(a:Rat) / ((x:Int):Rat):=by
 obtain ⟨h1,h2,h3⟩:=h
 have hb:((p.bot:Int):Rat)≠0:=by exact_mod_cast (show (p.bot:Int)≠0 by omega)
 have hx:((x:Int):Rat)≠0:=by exact_mod_cast (show (x:Int)≠0 by omega)
 have e:(sI p:Rat)*((x:Int):Rat)=(a:Rat)*((p.bot:Int):Rat):=by exact_mod_cast h1
 unfold rat
 generalize (sI p:Rat)=s at *
 generalize ((p.bot:Int):Rat)=b at *
 generalize ((x:Int):Rat)=y at *
 generalize (a:Rat)=c at *
 grind
theorem rat_one {p q:Q} (hp:LowQ p) (hq:LowQ q) (h:rat p=rat q):p=q:=by
 refine low_unique hp hq ?_
 have hb:((p.bot:Int):Rat)≠0:=by exact_mod_cast (show (p.bot:Int)≠0 by have:=hp.1;omega)
 have hb':((q.bot:Int):Rat)≠0:=by exact_mod_cast (show (q.bot:Int)≠0 by have:=hq.1;omega)
 unfold rat at h
 have e:(sI p:Rat)*((q.bot:Int):Rat)=(sI q:Rat)*((p.bot:Int):Rat):=by
  generalize (sI p:Rat)=s at *
  generalize (sI q:Rat)=s' at *
  generalize ((p.bot:Int):Rat)=b at *
  generalize ((q.bot:Int):Rat)=b' at *
  grind
 exact_mod_cast e
theorem rat_self (p:Q) (h:0<p.bot):Val p (sI p) p.bot:=⟨rfl,h,h⟩
theorem int_ne {z:Int} (h:z≠0):(z:Rat)≠0:=by exact_mod_cast h
theorem rat_mul (p q:Q) (hp:0<p.bot) (hq:0<q.bot):rat (mulQ p q)=rat p*rat q:=by
 rw [rat_val ((rat_self p hp).mul (rat_self q hq))]
 have h1:=int_ne (z:=(p.bot:Int)) (by omega)
 have h2:=int_ne (z:=(q.bot:Int)) (by omega)
 unfold rat
 rw [Int.natCast_mul]
 push_cast at h1 h2 ⊢
 generalize (sI p:Rat)=s at *
 generalize (sI q:Rat)=s' at *
 generalize (p.bot:Rat)=b at *
 generalize (q.bot:Rat)=b' at *
 grind
theorem rat_add (p q:Q) (hp:0<p.bot) (hq:0<q.bot):rat (addQ p q)=rat p+rat q:=by
 rw [rat_val ((rat_self p hp).add (rat_self q hq))]
 have h1:=int_ne (z:=(p.bot:Int)) (by omega)
 have h2:=int_ne (z:=(q.bot:Int)) (by omega)
 unfold rat
 rw [Int.natCast_mul]
 push_cast at h1 h2 ⊢
 generalize (sI p:Rat)=s at *
 generalize (sI q:Rat)=s' at *
 generalize (p.bot:Rat)=b at *
 generalize (q.bot:Rat)=b' at *
 grind
theorem rat_sub (p q:Q) (hp:0<p.bot) (hq:0<q.bot):rat (subQ p q)=rat p - rat q:=by
 rw [rat_val ((rat_self p hp).sub (rat_self q hq))]
 have h1:=int_ne (z:=(p.bot:Int)) (by omega)
 have h2:=int_ne (z:=(q.bot:Int)) (by omega)
 unfold rat
 rw [Int.natCast_mul]
 push_cast at h1 h2 ⊢
 generalize (sI p:Rat)=s at *
 generalize (sI q:Rat)=s' at *
 generalize (p.bot:Rat)=b at *
 generalize (q.bot:Rat)=b' at *
 grind
theorem rat_half:rat halfQ=1 / 2:=by rw [rat_val Val.half];rfl
theorem rat_int (z:Int):rat (intQ z)=(z:Rat):=by
 rw [rat_val (Val.int z)]
 show (z:Rat) / ((1:Int):Rat)=z
 push_cast
 grind
theorem rat_zero {p:Q} (h:0<p.bot) (ht:0<p.top):rat p≠0:=by
 unfold rat
 have hb:=int_ne (z:=(p.bot:Int)) (by omega)
 have hs:sI p≠0:=by
  intro h9
  have:=sI_abs p
  rw [h9] at this
  simp at this
  omega
 have hs':=int_ne hs
 generalize (sI p:Rat)=s at *
 generalize ((p.bot:Int):Rat)=b at *
 grind
theorem rat_recS {p:Q} (h:0<p.bot) (ht:0<p.top):rat (recS p)=(rat p)⁻¹ := by
 have hv:Val (recS p) (sgn p.neg p.bot) p.top:=⟨rfl,ht,ht⟩
 rw [rat_val hv]
 have hn:=rat_zero h ht
 have h1:=int_ne (z:=(p.bot:Int)) (by omega)
 have h2:=int_ne (z:=(p.top:Int)) (by omega)
 unfold rat at *
 unfold sI sgn at *
 cases p.neg
 ·simp only [Bool.false_eq_true,if_false] at *
  generalize ((p.bot:Int):Rat)=b at *
  generalize ((p.top:Int):Rat)=t at *
  grind
 ·simp only [if_true] at *
  push_cast at *
  generalize (p.bot:Rat)=b at *
  generalize (p.top:Rat)=t at *
  grind
theorem rat_nom (st z c:Int):rat (nomQ st z c)=rat (lsbQ st)*((c - z:Int):Rat):=by
 unfold nomQ
 rw [rat_mul _ _ (lsb_low st).1 Nat.one_pos,rat_int]
theorem rat_low (st z c:Int):rat (lowE st z c)=rat (lsbQ st)*((c - z:Int):Rat) - rat (lsbQ st)*(1 / 2):=by
 unfold lowE
 rw [rat_sub _ _ (nomQ_low st z c).1 (halfL_low st).1,rat_nom,show halfL st=mulQ (lsbQ st) halfQ from rfl,rat_mul _ _ (lsb_low st).1 (by decide),rat_half]
theorem rat_high (st z c:Int):rat (highE st z c)=rat (lsbQ st)*((c - z:Int):Rat)+rat (lsbQ st)*(1 / 2):=by
 unfold highE
 rw [rat_add _ _ (nomQ_low st z c).1 (halfL_low st).1,rat_nom,show halfL st=mulQ (lsbQ st) halfQ from rfl,rat_mul _ _ (lsb_low st).1 (by decide),rat_half]
theorem low_addQ {p q:Q} (hp:0<p.bot) (hq:0<q.bot):LowQ (addQ p q):=fracQ_low _ (Nat.mul_pos hp hq)
theorem rat_real {g o e:Q} (hg:0<g.bot) (ho:0<o.bot) (he:0<e.bot):rat (realQ g o e)=rat g*rat e+rat o:=by
 unfold realQ
 rw [rat_add _ _ (low_mul hg he).1 ho,rat_mul _ _ hg he]
theorem real_low {g o e:Q} (hg:0<g.bot) (ho:0<o.bot) (he:0<e.bot):LowQ (realQ g o e):=fracQ_low _ (Nat.mul_pos (fracQ_low _ (Nat.mul_pos hg he)).1 ho)
theorem fit_next (st z c:Int) (g o:Q) (hg:0<g.bot) (ho:0<o.bot):realQ g o (lowE st z (c+1))=realQ g o (highE st z c):=by
 refine rat_one (real_low hg ho (lowE_low st z _).1) (real_low hg ho (highE_low st z _).1) ?_
 rw [rat_real hg ho (lowE_low st z _).1,rat_real hg ho (highE_low st z _).1,rat_low,rat_high]
 push_cast
 grind
theorem fit_width (st z c:Int) (g o:Q) (hg:0<g.bot) (ho:0<o.bot):subQ (realQ g o (highE st z c)) (realQ g o (lowE st z c))=mulQ g (lsbQ st):=by
 have h1:=real_low hg ho (lowE_low st z c).1
 have h2:=real_low hg ho (highE_low st z c).1
 refine rat_one (low_sub h2.1 h1.1) (low_mul hg (lsb_low st).1) ?_
 rw [rat_sub _ _ h2.1 h1.1,rat_real hg ho (highE_low st z _).1,rat_real hg ho (lowE_low st z _).1,rat_low,rat_high,rat_mul _ _ hg (lsb_low st).1]
 push_cast
 grind
theorem fit_mid (st z c:Int) (g o:Q) (hg:0<g.bot) (ho:0<o.bot):rat (mulQ (addQ (realQ g o (lowE st z c)) (realQ g o (highE st z c))) halfQ)=rat g*rat (nomQ st z c)+rat o:=by
 have h1:=real_low hg ho (lowE_low st z c).1
 have h2:=real_low hg ho (highE_low st z c).1
 rw [rat_mul _ _ (low_addQ h1.1 h2.1).1 (by decide),rat_add _ _ h1.1 h2.1,rat_real hg ho (highE_low st z _).1,rat_real hg ho (lowE_low st z _).1,rat_low,rat_high,rat_half,rat_nom]
 push_cast
 grind
theorem fit_marks {st z c1 c2:Int} {p1 p2:Q} (l1:LowQ p1) (l2:LowQ p2) (N:CalNums st z c1 c2 p1 p2) :
  rat (slopeQ st z c1 c2 p1 p2)*rat (nomQ st z c1)+rat (offQ st z c1 c2 p1 p2)=rat p1∧rat (slopeQ st z c1 c2 p1 p2)*rat (nomQ st z c2)+rat (offQ st z c1 c2 p1 p2)=rat p2:=by
 have hz:=rat_zero N.lru.1 N.ru0
 have e1:rat (slopeQ st z c1 c2 p1 p2)=(rat p2 - rat p1)*(rat (runQ st z c1 c2))⁻¹ := by
  show rat (mulQ (subQ p2 p1) (recS (runQ st z c1 c2)))=_
  rw [rat_mul _ _ N.ldf.1 (low_recS N.lru N.ru0).1,rat_sub _ _ l2.1 l1.1,rat_recS N.lru.1 N.ru0]
 have e2:rat (offQ st z c1 c2 p1 p2)=rat p1 - rat (slopeQ st z c1 c2 p1 p2)*rat (nomQ st z c1):=by
  show rat (subQ p1 (mulQ (slopeQ st z c1 c2 p1 p2) (nomQ st z c1)))=_
  rw [rat_sub _ _ l1.1 N.lpr.1,rat_mul _ _ N.lsl.1 N.ln1.1]
 have e3:rat (runQ st z c1 c2)=rat (nomQ st z c2) - rat (nomQ st z c1):=rat_sub _ _ N.ln2.1 N.ln1.1
 rw [e2,e1]
 generalize rat (runQ st z c1 c2)=r at *
 generalize rat (nomQ st z c1)=a at *
 generalize rat (nomQ st z c2)=b at *
 generalize rat p1=u at *
 generalize rat p2=v at *
 constructor<;>grind
theorem fit_first {st z c1 c2:Int} {p1 p2:Q} (l1:LowQ p1) (l2:LowQ p2) (N:CalNums st z c1 c2 p1 p2) :
  mulQ (addQ (realQ (slopeQ st z c1 c2 p1 p2) (offQ st z c1 c2 p1 p2) (lowE st z c1)) (realQ (slopeQ st z c1 c2 p1 p2) (offQ st z c1 c2 p1 p2) (highE st z c1))) halfQ=p1:=by
 have h1:=real_low N.lsl.1 N.lof.1 (lowE_low st z c1).1
 have h2:=real_low N.lsl.1 N.lof.1 (highE_low st z c1).1
 refine rat_one (low_mul (low_addQ h1.1 h2.1).1 (by decide)) l1 ?_
 rw [fit_mid st z c1 _ _ N.lsl.1 N.lof.1]
 exact (fit_marks l1 l2 N).1
theorem fit_second {st z c1 c2:Int} {p1 p2:Q} (l1:LowQ p1) (l2:LowQ p2) (N:CalNums st z c1 c2 p1 p2) :
  mulQ (addQ (realQ (slopeQ st z c1 c2 p1 p2) (offQ st z c1 c2 p1 p2) (lowE st z c2)) (realQ (slopeQ st z c1 c2 p1 p2) (offQ st z c1 c2 p1 p2) (highE st z c2))) halfQ=p2:=by
 have h1:=real_low N.lsl.1 N.lof.1 (lowE_low st z c2).1
 have h2:=real_low N.lsl.1 N.lof.1 (highE_low st z c2).1
 refine rat_one (low_mul (low_addQ h1.1 h2.1).1 (by decide)) l2 ?_
 rw [fit_mid st z c2 _ _ N.lsl.1 N.lof.1]
 exact (fit_marks l1 l2 N).2
theorem read_num {s:ByteArray} {p:Q} {K:Nat} (h:NumQ s p) (hs:Small p K) (hK:K≤600) (hK0:0<K):readE s.data.toList=0∧readQ s.data.toList=p:=by
 rw [h.1]
 exact read_writeS p h.2 (Nat.le_trans (Dec.dec_length_le hK0 hs.1) hK) (Nat.le_trans (Dec.dec_length_le hK0 hs.2) hK)
theorem range_in {c a b:Int} (h1:a≤c) (h2:c≤b):rangeE c a b=0:=rangeE_0 c a b h1 h2
theorem adc_fit {n:Nat} {st z:Int} {gs os:ByteArray} {G O:Q} (n1:8≤n) (n2:n≤12) (hst : -20≤st∧st≤4) (hz:0≤z∧z≤((2 ^ n - 1:Nat):Int)) (hG:NumQ gs G) (hO:NumQ os O) (sG:Small G 100) (sO:Small O 100) (hp:0<signI G) :
  adcE n st z gs.data.toList os.data.toList=0:=by
 obtain ⟨r1,r2⟩:=read_num hG sG (by omega) (by omega)
 obtain ⟨r3,r4⟩:=read_num hO sO (by omega) (by omega)
 have hn:(n:Int).toNat=n:=Int.toNat_natCast n
 unfold adcE
 rw [range_in (show (8:Int)≤n by omega) (show (n:Int)≤12 by omega),range_in hst.1 hst.2,r1,r2,r3]
 simp [hn,range_in hz.1 hz.2,show ¬ signI G≤0 by omega]
set_option maxHeartbeats 1000000 in
theorem True_fit (n:Nat) (st z c:Int) (gs os:ByteArray) (G O:Q) (w:World) (hT:Tabs w) (n1:8≤n) (n2:n≤12) (hst : -20≤st∧st≤4) (hz:0≤z∧z≤((2 ^ n - 1:Nat):Int)) (hG:NumQ gs G) (hO:NumQ os O) (sG:Small G 100) (sO:Small O 100) (hp:0<signI G)
  (hc:0<c∧c<((2 ^ n - 1:Nat):Int)) :
  Calls Tryz.prog 41 #[.agg #[.int .i64 n,.int .i64 st,.int .i64 z,.string gs,.string os],.int .i64 c] w fun e w'=>(∃ s t:ByteArray,e = .returned (.tuple #[.agg #[.string s,.string t],.int .i64 0])∧NumQ s (realQ G O (lowE st z c))∧NumQ t (realQ G O (highE st z c)))∧Below w.heap.size w w':=by
 obtain ⟨r1,r2⟩:=read_num hG sG (by omega) (by omega)
 obtain ⟨r3,r4⟩:=read_num hO sO (by omega) (by omega)
 have hg:=hG.size sG (by omega)
 have ho:=hO.size sO (by omega)
 have hpw:2 ^ n≤2 ^ 12:=Nat.pow_le_pow_right (by omega) n2
 have e12:(2:Nat) ^ 12=4096:=by decide
 rw [e12] at hpw
 have hE:=adc_fit n1 n2 hst hz hG hO sG sO hp
 have hI:Inner n st z c gs os 0:=fun W hT=>by
  have h:=checkInner_good n st z c gs os W hT (by omega) (by omega) hE n2
  have hi:inE n c=0:=by
   unfold inE
   rw [range_in (by omega) (by omega),if_neg (by simp),if_neg (by omega)]
  rwa [hi] at h
 rw [←r2,←r4]
 cases d1:(gs.toList==[49])
 ·exact True_goodS n st z c gs os w hT hI (by omega) (by omega) hst (by omega) (by omega) (by rw [r2];exact sG) (by rw [r4];exact sO) r1 r3 (.inl d1)
 ·cases d2:(os.toList==[48])
  ·exact True_goodS n st z c gs os w hT hI (by omega) (by omega) hst (by omega) (by omega) (by rw [r2];exact sG) (by rw [r4];exact sO) r1 r3 (.inr ⟨d1,d2⟩)
  ·have hs:∀ {s:ByteArray} {x:UInt8},(s.toList==[x])=true→s.size≤60:=fun {s x} h=>by
    have h9:=congrArg List.length (beq_iff_eq.1 h)
    rw [ByteArray.toList_eq,Array.length_toList] at h9
    have h8:s.data.size=s.size:=rfl
    simp at h9
    omega
   exact True_plain n st z c gs os w hT hI (by omega) (by omega) hst (hs d1) (hs d2) r1 r3 d1 d2
theorem True_end (n:Nat) (st z c:Int) (gs os:ByteArray) (G O:Q) (w:World) (hT:Tabs w) (n1:8≤n) (n2:n≤12) (hst : -20≤st∧st≤4) (hz:0≤z∧z≤((2 ^ n - 1:Nat):Int)) (hG:NumQ gs G) (hO:NumQ os O) (sG:Small G 100) (sO:Small O 100) (hp:0<signI G)
  (hc:c=0∨c=((2 ^ n - 1:Nat):Int)) :
  Calls Tryz.prog 41 #[.agg #[.int .i64 n,.int .i64 st,.int .i64 z,.string gs,.string os],.int .i64 c] w fun e w'=>e = .returned (.tuple #[.agg #[.string { data:=#[] },.string { data:=#[] }],.int .i64 15])∧Below w.heap.size w w':=by
 have hg:=hG.size sG (by omega)
 have ho:=hO.size sO (by omega)
 have hE:=adc_fit n1 n2 hst hz hG hO sG sO hp
 have hI:Inner n st z c gs os 15:=fun W hT=>by
  have h:=checkInner_good n st z c gs os W hT (by omega) (by omega) hE n2
  have hi:inE n c=15:=by
   unfold inE
   rw [range_in (by omega) (by omega),if_neg (by simp),if_pos hc]
  rwa [hi] at h
 exact True_bad n st z c 15 gs os w hT hI (by decide)
end Go.Proofs.YtmkihdjolnlccaaGreatDoor
namespace Go.Proofs.YtmkihdjolnlccaaGreatDoor
open Go.RowKit Dn
set_option maxHeartbeats 2000000 in
set_option maxRecDepth 100000 in
theorem rCheckRow_two (s t:ByteArray) (ty:TypeId) (g:Nat) (w:World) (hk:CBlk w g #[.string s,.string t] ty) (hs:readE s.data.toList=0) (ht:readE t.data.toList=0) :
  Calls Tryz.prog 75 #[.slice (some ⟨g,0,none⟩) 2 2] w fun e w'=>e = .returned (.int .i64 0)∧Below w.heap.size w w':=by
 have b1:=size_read hs
 have b2:=size_read ht
 have HS:Hid (∀ W,Calls Tryz.prog 51 #[.string s] W (RetC W 0)):=fun W=>by
  have h:=rCheck_any s W (by omega)
  rwa [hs] at h
 have HT:Hid (∀ W,Calls Tryz.prog 51 #[.string t] W (RetC W 0)):=fun W=>by
  have h:=rCheck_any t W (by omega)
  rwa [ht] at h
 clear hs ht b1 b2
 go_enter Tryz.func75,Tryz.ntmps75
 go_wp2
 go_loopg [3] 2 (fun g1 v3 W=>∃ i:Nat,v3 = .int .i64 (i:Int)∧i≤2∧g1+i=2∧Below w.heap.size w W)
 case atStart=>exact ⟨0,rfl,by omega,rfl,Below.refl _ _⟩
 case round=>
  obtain ⟨i,rfl,hi,hgi,hbel⟩:=hrel
  have hkr:=hk.below hbel hk.lt
  have z0:wr.cell? ⟨g,0,none⟩=some (.string s):=hkr.cell 0
  have z1:wr.cell? ⟨g,1,none⟩=some (.string t):=hkr.cell 1
  clear hkr
  match i,hi,hgi with
  | 0,_,_=>
   go_wp2_with fail
   refine (HS.out wr).mono ?_
   rintro e w1 ⟨rfl,hb1⟩
   go_wp2
   go_roundg 1
   case rel=>exact ⟨1,rfl,by omega,rfl,hbel.trans (hb1.mono hbel.size)⟩
   case measure=>omega
  | 1,_,_=>
   go_wp2_with fail
   refine (HT.out wr).mono ?_
   rintro e w1 ⟨rfl,hb1⟩
   go_wp2
   go_roundg 0
   case rel=>exact ⟨2,rfl,by omega,rfl,hbel.trans (hb1.mono hbel.size)⟩
   case measure=>omega
  | 2,_,_=>
   go_wp2
   go_ret
   exact ⟨rfl,hbel⟩
  | n+3,h,_=>exact absurd h (by omega)
set_option maxHeartbeats 4000000 in
set_option maxRecDepth 100000 in
theorem rCheckSpan_two (s t:ByteArray) (p q:Q) (w:World) (hs:NumQ s p) (ht:NumQ t q) (sp:Small p 300) (sq:Small q 300) (hle:cmpI p q≤0) :
  Calls Tryz.prog 28 #[.agg #[.string s,.string t]] w fun e w'=>e = .returned (.int .i64 0)∧Below w.heap.size w w':=by
 have hb0:Below w.heap.size w (w.alloc (.cells #[.string s,.string t] 55)):=(Below.refl _ _).alloc (Nat.le_refl _) _
 have q0:CBlk (w.alloc (.cells #[.string s,.string t] 55)) w.heap.size #[.string s,.string t] 55:=CBlk.new w _ _ _ rfl
 obtain ⟨e1,_⟩:=read_num hs sp (by omega) (by omega)
 obtain ⟨e2,_⟩:=read_num ht sq (by omega) (by omega)
 have b1:=hs.size sp (by omega)
 have b2:=ht.size sq (by omega)
 have HR:=Lib.hid (fun (W:World) (g:Nat) (ty:TypeId) (hk:CBlk W g #[.string s,.string t] ty)=>rCheckRow_two s t ty g W hk e1 e2)
 have HC:=Lib.hid (fun W=>rCmp_q s t p q W hs ht (by omega) (by omega))
 have d1:decide (0<cmpI p q)=false:=decide_eq_false (by omega)
 have x0:=q0.cell 0
 have x1:=q0.cell 1
 generalize cmpI p q=C at *
 clear hs ht sp sq hle e1 e2 b1 b2
 go_enter Tryz.func28,Tryz.ntmps28
 go_wp2_with fail
 have l1:CBlk ((w.alloc (.cells #[.string s,.string t] 55)).alloc (.cells #[.string s,.string t] 22)) (w.heap.size+1) #[.string s,.string t] 22:=CBlk.new _ _ _ _ (by simp)
 have q1:=q0.alloc (.cells #[.string s,.string t] 22)
 have hb1:Below w.heap.size w ((w.alloc (.cells #[.string s,.string t] 55)).alloc (.cells #[.string s,.string t] 22)):=hb0.alloc (by simp) _
 generalize (w.alloc (.cells #[.string s,.string t] 55)).alloc (.cells #[.string s,.string t] 22)=w1 at *
 refine (HR.out w1 (w.heap.size+1) 22 l1).mono ?_
 rintro e w2 ⟨rfl,hb2⟩
 have q2:=q1.below hb2 q1.lt
 have hB2:=hb1.trans (hb2.mono hb1.size)
 clear x0 x1 hb2 q1 l1 hb0 hb1
 have x0:=q2.cell 0
 have x1:=q2.cell 1
 go_wp2_with fail
 refine (HC.out w2).mono ?_
 rintro e w3 ⟨rfl,hb3⟩
 go_wp2_with fail
 go_ret
 exact ⟨rfl,hB2.trans (hb3.mono hB2.size)⟩
end Go.Proofs.YtmkihdjolnlccaaGreatDoor
namespace Go.Proofs.YtmkihdjolnlccaaGreatDoor
open Go.RowKit Bn
open Flt
def CalCode (a st z c1 c2:Int) (g o v1 v2:ByteArray) (xa xs xz:Int) (xg xo:ByteArray) (E:Int):Prop:=
 ∀ W,Tabs W→Calls Tryz.prog 40 #[.agg #[.int .i64 a,.int .i64 st,.int .i64 z,.string g,.string o],.agg #[.int .i64 c1,.string v1],.agg #[.int .i64 c2,.string v2]] W fun e w'=>e = .returned (.tuple #[.agg #[.int .i64 xa,.int .i64 xs,.int .i64 xz,.string xg,.string xo],.int .i64 E])∧Below W.heap.size W w'
def AdcSays (a st z:Int) (g o:ByteArray) (E:Int):Prop:=∀ W,Calls Tryz.prog 16 #[.agg #[.int .i64 a,.int .i64 st,.int .i64 z,.string g,.string o]] W fun e w'=>e = .returned (.int .i64 E)∧Below W.heap.size W w'
end Go.Proofs.YtmkihdjolnlccaaGreatDoor
