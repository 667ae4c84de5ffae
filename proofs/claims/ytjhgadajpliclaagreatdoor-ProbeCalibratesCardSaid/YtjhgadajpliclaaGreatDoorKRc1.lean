/- The code's differences, quotients and signs as the reference's. -/
import Derived.Test.YtjhgadajpliclaaGreatDoorKRb24
import Derived.Test.YtjhgadajpliclaaGreatDoorKAw7
import Derived.Laws.StructEq
import Derived.Deep.RegionHeld3
namespace Go.Proofs.YtjhgadajpliclaaGreatDoor
open Go.RowKit Bn
open Flt
theorem sI_not (q:Q):sI ⟨!q.neg,q.top,q.bot⟩ = - sI q:=by
 unfold sI
 dsimp only
 cases q.neg<;>simp
theorem plus_subQ (p q:Q):plusQ p ⟨!q.neg,q.top,q.bot⟩=subQ p q:=by
 rw [plus_addQ]
 unfold addQ subQ
 rw [sI_not,Int.neg_mul,←Int.sub_eq_add_neg]
theorem over_mulQ (p q:Q):lowQ (p.neg != q.neg) (p.top*q.bot) (p.bot*q.top)=mulQ p (recS q):=times_mulQ p (recS q)
theorem dminus_n {N:Nat} (p q:Q) (v u:Value) (w:World) (hT:Tabs w) (hv:RatD w w.heap.size v p) (hu:RatD w w.heap.size u q) (hp:Small p N) (hq:Small q N) (hN:N≤100000) :
  Calls Tryz.prog 72 #[v,u] w (RetRatD w (subQ p q)):=by
 obtain ⟨A1,n1,c1,A2,n2,c2,rfl,h1,h2⟩:=hv
 obtain ⟨A3,n3,c3,A4,n4,c4,rfl,h3,h4⟩:=hu
 have b1:=natD_len h1 hp.1
 have b2:=natD_len h2 hp.2
 have b3:=natD_len h3 hq.1
 have b4:=natD_len h4 hq.2
 rw [←plus_subQ]
 exact dratMinus_any p q _ _ _ _ _ _ _ _ _ _ _ _ w hT h1 h2 h3 h4 (by omega) (by omega) (by omega) (by omega)
theorem dover_n {N:Nat} (p q:Q) (v u:Value) (w:World) (hT:Tabs w) (hv:RatD w w.heap.size v p) (hu:RatD w w.heap.size u q) (hp:Small p N) (hq:Small q N) (hN:N≤100000) :
  Calls Tryz.prog 73 #[v,u] w (RetRatD w (mulQ p (recS q))):=by
 obtain ⟨A1,n1,c1,A2,n2,c2,rfl,h1,h2⟩:=hv
 obtain ⟨A3,n3,c3,A4,n4,c4,rfl,h3,h4⟩:=hu
 have b1:=natD_len h1 hp.1
 have b2:=natD_len h2 hp.2
 have b3:=natD_len h3 hq.1
 have b4:=natD_len h4 hq.2
 rw [←over_mulQ]
 exact dratOver_any p q _ _ _ _ _ _ _ _ _ _ _ _ w hT h1 h2 h3 h4 (by omega) (by omega) (by omega) (by omega)
def HasRead (s:ByteArray) (p:Q):Prop:=∀ W,Tabs W→Calls Tryz.prog 70 #[.string s] W (RetN W p.neg p.top p.bot)
def HasMinus (p q r:Q):Prop:=∀ v u W,Tabs W→RatD W W.heap.size v p→RatD W W.heap.size u q→Calls Tryz.prog 72 #[v,u] W (RetN W r.neg r.top r.bot)
def HasOver (p q r:Q):Prop:=∀ v u W,Tabs W→RatD W W.heap.size v p→RatD W W.heap.size u q→Calls Tryz.prog 73 #[v,u] W (RetN W r.neg r.top r.bot)
def HasTimes (p q r:Q):Prop:=∀ v u W,Tabs W→RatD W W.heap.size v p→RatD W W.heap.size u q→Calls Tryz.prog 76 #[v,u] W (RetN W r.neg r.top r.bot)
def HasWrite (p:Q) (s:ByteArray):Prop:=∀ v W,Tabs W→RatD W W.heap.size v p→Calls Tryz.prog 75 #[v] W fun e w'=>e = .returned (.tuple #[.string s,.int .i64 0])∧Below W.heap.size W w'
def HasSign (p:Q) (i:Int):Prop:=∀ v W,RatD W W.heap.size v p→Calls Tryz.prog 74 #[v] W fun e w'=>e = .returned (.int .i64 i)∧Below W.heap.size W w'
theorem HasRead.of {s:ByteArray} {p:Q} (hs:s.size≤4294967296) (h:readQ s.data.toList=p):HasRead s p:=fun W hT=>aw_read s _ _ _ hs (by rw [h]) W hT
theorem HasMinus.of {N:Nat} {p q:Q} (hp:Small p N) (hq:Small q N) (hN:N≤100000):HasMinus p q (subQ p q):=fun v u W hT hv hu=>(dminus_n p q v u W hT hv hu hp hq hN).mono fun _ _ h=>RetN.of h rfl
theorem HasOver.of {N:Nat} {p q:Q} (hp:Small p N) (hq:Small q N) (hN:N≤100000):HasOver p q (mulQ p (recS q)):=fun v u W hT hv hu=>(dover_n p q v u W hT hv hu hp hq hN).mono fun _ _ h=>RetN.of h rfl
theorem HasTimes.of {N:Nat} {p q:Q} (hp:Small p N) (hq:Small q N) (hN:N≤100000):HasTimes p q (mulQ p q):=fun v u W hT hv hu=>(dtimes_n p q v u W hT hv hu hp hq hN).mono fun _ _ h=>RetN.of h rfl
theorem HasSign.of (p:Q):HasSign p (signQ p):=fun v W hv=>dsign_s p v W hv
theorem HasWrite.of {N:Nat} {p:Q} (hp:Small p N) (hN:N≤600) (hN0:0<N) (hb:0<p.bot):HasWrite p ⟨(writeS p).toArray⟩:=fun v W hT hv=>by
 obtain ⟨we,wt⟩:=write_fits hp hN hN0 hb
 refine (dwrite_n p v W hT hv hp (by omega)).mono ?_
 rintro e w' ⟨s,rfl,hs,hb⟩
 rw [wt] at hs
 rw [we]
 obtain rfl:=ba_of hs
 exact ⟨rfl,hb⟩
def AwakeK:Prop:=∀ W:World,Tabs W→Calls Tryz.prog 7 #[] W fun e w'=>e = .returned (.bool true)∧Below W.heap.size W w'
set_option maxHeartbeats 1000000 in
theorem rShort_any (a st z:Int) (g o:ByteArray) (b:Bool) (w:World) (hb:decide (g.size≤60∧o.size≤60)=b) :
  Calls Tryz.prog 6 #[.agg #[.int .i64 a,.int .i64 st,.int .i64 z,.string g,.string o]] w fun e w'=>e = .returned (.bool b)∧Below w.heap.size w w':=by
 have hb0:Below w.heap.size w (w.alloc (.cells #[.int .i64 a,.int .i64 st,.int .i64 z,.string g,.string o] 24)):=(Below.refl _ _).alloc (Nat.le_refl _) _
 have hcase:(decide ((g.size:Int)≤60)=false∧b=false)∨(decide ((g.size:Int)≤60)=true∧decide ((o.size:Int)≤60)=b):=by
  rw [←hb]
  by_cases h1:g.size≤60
  ·refine .inr ⟨decide_eq_true (by omega),?_⟩
   by_cases h2:o.size≤60
   ·rw [decide_eq_true (by omega),decide_eq_true ⟨h1,h2⟩]
   ·rw [decide_eq_false (by omega),decide_eq_false (fun h=>h2 h.2)]
  ·exact .inl ⟨decide_eq_false (by omega),decide_eq_false (fun h=>h1 h.1)⟩
 clear hb
 rcases hcase with ⟨d1,rfl⟩ | ⟨d1,d2⟩
 all_goals
  go_enter Tryz.func6,Tryz.ntmps6
  go_wp2
  go_ret
  exact ⟨rfl,hb0⟩
theorem NumQ.one {s t:ByteArray} {p:Q} (h:NumQ s p) (h':NumQ t p):t=s:=by
 obtain ⟨⟨x⟩⟩:=s
 obtain ⟨⟨y⟩⟩:=t
 have e:x=y:=h.1.trans h'.1.symm
 rw [e]
theorem nomQ_val {st z c:Int} (h : -20≤st∧st≤4):Val (nomQ st z c) ((c - z)*((2 ^ (st+149).toNat:Nat):Int)) (2 ^ 149):=by
 have hT:0<(2:Nat) ^ 149:=Nat.two_pow_pos _
 have h1:=(Val.lsb h).mul (Val.int (c - z))
 refine Val.trans h1 hT ?_
 generalize (2:Nat) ^ 149=t
 generalize (2 ^ (st+149).toNat:Nat)=u
 rw [Nat.mul_one]
 grind
theorem nom_text {st z c:Int} (h : -20≤st∧st≤4) (hz:0≤z∧z≤4096) (hc:0≤c∧c≤4096):exT (nomW (c - z) st)=writeS (nomQ st z c):=by
 by_cases hd:c - z=0
 ·have e1:nomQ st z c=⟨false,0,1⟩:=by
   have hv:=nomQ_val (z:=z) (c:=c) h
   rw [hd,Int.zero_mul] at hv
   refine LowQ.zero (nomQ_low st z c) ?_
   have h2:=hv.1
   have hT:((2 ^ 149:Nat):Int)≠0:=by decide
   rw [Int.zero_mul] at h2
   have h3:=(Int.mul_eq_zero.1 h2).resolve_right hT
   have h4:=sI_abs (nomQ st z c)
   rw [h3] at h4
   exact h4.symm
  rw [e1,hd]
  have e2:nomW 0 st=0:=by unfold nomW;rw [if_pos rfl]
  rw [e2]
  decide +kernel
 ·exact nom_exact hd (by omega) (by omega) (by have:=log_small (d:=c - z) (by omega);omega) (nomQ_low st z c) (nomQ_val h)
theorem run_pos {st z c1 c2:Int} (h : -20≤st∧st≤4) (hne:c1≠c2):0<(subQ (nomQ st z c2) (nomQ st z c1)).top:=by
 have hv:=(nomQ_val (z:=z) (c:=c2) h).sub (nomQ_val (z:=z) (c:=c1) h)
 rcases Nat.eq_zero_or_pos (subQ (nomQ st z c2) (nomQ st z c1)).top with h0 | h0
 ·exfalso
  have h4:=sI_abs (subQ (nomQ st z c2) (nomQ st z c1))
  rw [h0] at h4
  have h5:sI (subQ (nomQ st z c2) (nomQ st z c1))=0:=by omega
  have h1:=hv.1
  have h3:=hv.2.2
  rw [h5,Int.zero_mul] at h1
  have hu:(0:Int)<((2 ^ (st+149).toNat:Nat):Int):=Int.natCast_pos.2 (Nat.two_pow_pos _)
  have hT:(0:Int)<((2 ^ 149:Nat):Int):=by decide
  generalize ((2 ^ (st+149).toNat:Nat):Int)=u at *
  generalize ((2 ^ 149:Nat):Int)=t at *
  generalize (subQ (nomQ st z c2) (nomQ st z c1)).bot=b at *
  have h6:(c2 - c1)*(u*t*(b:Int))=0:=by grind
  have h7:u*t*(b:Int)≠0:=Int.mul_ne_zero (Int.mul_ne_zero (by omega) (by omega)) (by omega)
  have h8:=(Int.mul_eq_zero.1 h6).resolve_right h7
  omega
 ·exact h0
def runQ (st z c1 c2:Int):Q:=subQ (nomQ st z c2) (nomQ st z c1)
def slopeQ (st z c1 c2:Int) (p1 p2:Q):Q:=mulQ (subQ p2 p1) (recS (runQ st z c1 c2))
def offQ (st z c1 c2:Int) (p1 p2:Q):Q:=subQ p1 (mulQ (slopeQ st z c1 c2 p1 p2) (nomQ st z c1))
theorem low_sub {p q:Q} (hp:0<p.bot) (hq:0<q.bot):LowQ (subQ p q):=fracQ_low _ (Nat.mul_pos hp hq)
theorem low_mul {p q:Q} (hp:0<p.bot) (hq:0<q.bot):LowQ (mulQ p q):=fracQ_low _ (Nat.mul_pos hp hq)
structure CalNums (st z c1 c2:Int) (p1 p2:Q):Prop where
 ln1:LowQ (nomQ st z c1)
 ln2:LowQ (nomQ st z c2)
 sn1:Small (nomQ st z c1) 20
 sn2:Small (nomQ st z c2) 20
 lru:LowQ (runQ st z c1 c2)
 sru:Small (runQ st z c1 c2) 41
 ru0:0<(runQ st z c1 c2).top
 ldf:LowQ (subQ p2 p1)
 sdf:Small (subQ p2 p1) 121
 lsl:LowQ (slopeQ st z c1 c2 p1 p2)
 ssl:Small (slopeQ st z c1 c2 p1 p2) 162
 lpr:LowQ (mulQ (slopeQ st z c1 c2 p1 p2) (nomQ st z c1))
 spr:Small (mulQ (slopeQ st z c1 c2 p1 p2) (nomQ st z c1)) 182
 lof:LowQ (offQ st z c1 c2 p1 p2)
 sof:Small (offQ st z c1 c2 p1 p2) 243
theorem calNums {st z c1 c2:Int} {p1 p2:Q} (h : -20≤st∧st≤4) (hz:0≤z∧z≤4096) (hc1:0≤c1∧c1≤4096) (hc2:0≤c2∧c2≤4096) (hne:c1≠c2)
  (s1:Small p1 60) (s2:Small p2 60) (l1:LowQ p1) (l2:LowQ p2):CalNums st z c1 c2 p1 p2:=by
 have ln1:=nomQ_low st z c1
 have ln2:=nomQ_low st z c2
 have sn1:Small (nomQ st z c1) 20:=nomQ_small h (by omega)
 have sn2:Small (nomQ st z c2) 20:=nomQ_small h (by omega)
 have lru:LowQ (runQ st z c1 c2):=low_sub ln2.1 ln1.1
 have sru:Small (runQ st z c1 c2) 41:=small_sub sn2 sn1 ln2.1 ln1.1
 have ru0:0<(runQ st z c1 c2).top:=run_pos h hne
 have ldf:LowQ (subQ p2 p1):=low_sub l2.1 l1.1
 have sdf:Small (subQ p2 p1) 121:=small_sub s2 s1 l2.1 l1.1
 have lsl:LowQ (slopeQ st z c1 c2 p1 p2):=low_mul ldf.1 (low_recS lru ru0).1
 have ssl:Small (slopeQ st z c1 c2 p1 p2) 162:=small_mul sdf (small_recS sru) ldf.1 (low_recS lru ru0).1
 have lpr:LowQ (mulQ (slopeQ st z c1 c2 p1 p2) (nomQ st z c1)):=low_mul lsl.1 ln1.1
 have spr:Small (mulQ (slopeQ st z c1 c2 p1 p2) (nomQ st z c1)) 182:=small_mul ssl sn1 lsl.1 ln1.1
 exact ⟨ln1,ln2,sn1,sn2,lru,sru,ru0,ldf,sdf,lsl,ssl,lpr,spr,low_sub l1.1 lpr.1,small_sub s1 spr l1.1 lpr.1⟩
theorem ba_text {p:Q} (h:LowQ p):NumQ ⟨(writeS p).toArray⟩ p:=⟨by simp,h⟩
theorem readQ_writeS {p:Q} {N:Nat} (h:LowQ p) (hs:Small p N) (hN:N≤600) (hN0:0<N):readQ (writeS p)=p:=
 (read_writeS p h (Nat.le_trans (Dec.dec_length_le hN0 hs.1) hN) (Nat.le_trans (Dec.dec_length_le hN0 hs.2) hN)).2
end Go.Proofs.YtjhgadajpliclaaGreatDoor
