/- The numbers of chapter 2's examples. -/
import Derived.Test.YtmkihdjolnlccaaGreatDoorFAd2
import Derived.Test.YtmkihdjolnlccaaGreatDoorFRbt
import Derived.Test.YtmkihdjolnlccaaGreatDoorFDr8
import Derived.Test.YtmkihdjolnlccaaGreatDoorFRb26
import Derived.Test.YtmkihdjolnlccaaGreatDoorFInv
import Derived.Test.YtmkihdjolnlccaaGreatDoorFRng2
import Derived.Test.YtmkihdjolnlccaaGreatDoorFCSm
namespace Go.Proofs.YtmkihdjolnlccaaGreatDoor
open Go.RowKit Bn
open Flt
instance:DecidableEq Q:=fun a b=>decidable_of_iff (a.neg=b.neg∧a.top=b.top∧a.bot=b.bot) ⟨fun h=>by
 obtain ⟨x,y,z⟩:=a
 obtain ⟨x',y',z'⟩:=b
 obtain ⟨rfl,rfl,rfl⟩:=h
 rfl,fun h=>by subst h;exact ⟨rfl,rfl,rfl⟩⟩
theorem aw_conv:Conv 8 (-3) 128 { data:=#[49] } { data:=#[48] } where
 bits:=by omega
 step:=by omega
 zero:=by decide
 gsize:=by decide
 osize:=by decide
 gain:=by decide +kernel
 plus:=by decide +kernel
 offs:=by decide +kernel
theorem aw_conv2:Conv 8 (-3) 128 { data:=#[50] } { data:=#[49] } where
 bits:=by omega
 step:=by omega
 zero:=by decide
 gsize:=by decide
 osize:=by decide
 gain:=by decide +kernel
 plus:=by decide +kernel
 offs:=by decide +kernel
theorem aw_nomlo:nomW (0 - 128) (-3)=3246391296:=by decide +kernel
theorem aw_nomhi:nomW (255 - 128) (-3)=1098776576:=by decide +kernel
theorem aw_txlo:exT 3246391296=[45,49,54]:=by decide +kernel
theorem aw_txhi:exT 1098776576=[49,50,55,47,56]:=by decide +kernel
theorem aw_r17:readE [45,49,55]=0:=by decide +kernel
theorem aw_n17:nearF [45,49,55]=3246915584:=by decide +kernel
theorem aw_b17:∀ t:Nat,t<257→belowB [45,49,55] 3246915584 (nomW (2*((t:Int) - 128) - 1) (-4))=true:=by decide +kernel
theorem aw_nom2:nomW 2 (-3)=1048576000:=by decide +kernel
theorem aw_r20m:readE [45,50,48]=0:=by decide +kernel
theorem aw_n20m:nearF [45,50,48]=3248488448:=by decide +kernel
theorem aw_b20m:∀ t:Nat,t<257→belowB [45,50,48] 3248488448 (nomW (2*((t:Int) - 128) - 1) (-4))=true:=by decide +kernel
theorem aw_r0:readE [48]=0:=by decide +kernel
theorem aw_n0:nearF [48]=0:=by decide +kernel
theorem aw_l0:∀ t:Nat,t<129→belowB [48] 0 (nomW (2*((t:Int) - 128) - 1) (-4))=false:=by decide +kernel
theorem aw_h0:∀ t:Nat,t<128→belowB [48] 0 (nomW (2*(((129+t:Nat):Int) - 128) - 1) (-4))=true:=by decide +kernel
theorem aw_r01:readE [49,47,49,48]=0:=by decide +kernel
theorem aw_n01:nearF [49,47,49,48]=1036831949:=by decide +kernel
theorem aw_l01:∀ t:Nat,t<130→belowB [49,47,49,48] 1036831949 (nomW (2*((t:Int) - 128) - 1) (-4))=false:=by decide +kernel
theorem aw_h01:∀ t:Nat,t<127→belowB [49,47,49,48] 1036831949 (nomW (2*(((130+t:Nat):Int) - 128) - 1) (-4))=true:=by decide +kernel
theorem aw_r20:readE [50,48]=0:=by decide +kernel
theorem aw_n20:nearF [50,48]=1101004800:=by decide +kernel
theorem aw_l20:∀ t:Nat,t<257→belowB [50,48] 1101004800 (nomW (2*((t:Int) - 128) - 1) (-4))=false:=by decide +kernel
theorem aw_r30:readE [51,48]=0:=by decide +kernel
theorem aw_n30:nearF [51,48]=1106247680:=by decide +kernel
theorem aw_l30:∀ t:Nat,t<257→belowB [51,48] 1106247680 (nomW (2*((t:Int) - 128) - 1) (-4))=false:=by decide +kernel
theorem aw_nom0:nomW (128 - 128) (-3)=0:=by decide +kernel
theorem aw_nom1:nomW (129 - 128) (-3)=1040187392:=by decide +kernel
theorem aw_nom8:nomW (136 - 128) (-3)=1065353216:=by decide +kernel
theorem aw_tx0:exT 0=[48]:=by decide +kernel
theorem aw_tx1:exT 1065353216=[49]:=by decide +kernel
theorem aw_q0:readQ [48]=⟨false,0,1⟩:=by decide +kernel
theorem aw_q1:readQ [49]=⟨false,1,1⟩:=by decide +kernel
theorem aw_q2:readQ [50]=⟨false,2,1⟩:=by decide +kernel
theorem aw_qh:readQ [49,47,50]=⟨false,1,2⟩:=by decide +kernel
theorem aw_q5h:readQ [53,47,50]=⟨false,5,2⟩:=by decide +kernel
theorem aw_rh:readE [49,47,50]=0:=by decide +kernel
theorem aw_r5h:readE [53,47,50]=0:=by decide +kernel
theorem aw_run:plusQ ⟨false,1,1⟩ ⟨!false,0,1⟩=⟨false,1,1⟩:=by decide +kernel
theorem aw_dv:plusQ ⟨false,5,2⟩ ⟨!false,1,2⟩=⟨false,2,1⟩:=by decide +kernel
theorem aw_sl:lowQ (false != false) (2*1) (1*1)=⟨false,2,1⟩:=by decide +kernel
theorem aw_st:lowQ (false != false) (2*0) (1*1)=⟨false,0,1⟩:=by decide +kernel
theorem aw_of:plusQ ⟨false,1,2⟩ ⟨!false,0,1⟩=⟨false,1,2⟩:=by decide +kernel
theorem aw_wg:writeT ⟨false,2,1⟩=[50]∧writeE ⟨false,2,1⟩=0:=by decide +kernel
theorem aw_wo:writeT ⟨false,1,2⟩=[49,47,50]∧writeE ⟨false,1,2⟩=0:=by decide +kernel
theorem aw_e129:nomW (2*(129 - 128) - 1) (-4)=1031798784:=by decide +kernel
theorem aw_e130:nomW (2*(130 - 128) - 1) (-4)=1044381696:=by decide +kernel
theorem aw_te129:exT 1031798784=[49,47,49,54]:=by decide +kernel
theorem aw_te130:exT 1044381696=[51,47,49,54]:=by decide +kernel
theorem aw_qe129:readQ [49,47,49,54]=⟨false,1,16⟩:=by decide +kernel
theorem aw_qe130:readQ [51,47,49,54]=⟨false,3,16⟩:=by decide +kernel
theorem aw_t129:lowQ (false != false) (2*1) (1*16)=⟨false,1,8⟩:=by decide +kernel
theorem aw_t130:lowQ (false != false) (2*3) (1*16)=⟨false,3,8⟩:=by decide +kernel
theorem aw_p129:plusQ ⟨false,1,8⟩ ⟨false,1,1⟩=⟨false,9,8⟩:=by decide +kernel
theorem aw_p130:plusQ ⟨false,3,8⟩ ⟨false,1,1⟩=⟨false,11,8⟩:=by decide +kernel
theorem aw_w129:writeT ⟨false,9,8⟩=[57,47,56]∧writeE ⟨false,9,8⟩=0:=by decide +kernel
theorem aw_w130:writeT ⟨false,11,8⟩=[49,49,47,56]∧writeE ⟨false,11,8⟩=0:=by decide +kernel
set_option maxHeartbeats 2000000 in
set_option maxRecDepth 100000 in
theorem trueVolts_eq (a st z:Int) (g o s:ByteArray) (p q r t u:Q) (l:List UInt8) (w:World) (hT:Tabs w) (hg:g.size≤4294967296) (ho:o.size≤4294967296) (hs:s.size≤4294967296)
  (eg:readQ g.data.toList=p) (es:readQ s.data.toList=q) (eo:readQ o.data.toList=r) (et:lowQ (p.neg != q.neg) (p.top*q.top) (p.bot*q.bot)=t) (eu:plusQ t r=u) (el:writeT u=l) (ee:writeE u=0)
  (hp:Sml p) (hq:Sml q) (hr:Sml r) (ht:Sml t) (hu:Sml u) :
  Calls Tryz.prog 99 #[.agg #[.int .i64 a,.int .i64 st,.int .i64 z,.string g,.string o],.string s] w fun e w'=>e = .returned (.tuple #[.string ⟨l.toArray⟩,.int .i64 0])∧Below w.heap.size w w':=by
 have hb0:Below w.heap.size w (w.alloc (.cells #[.int .i64 a,.int .i64 st,.int .i64 z,.string g,.string o] 33)):=(Below.refl _ _).alloc (Nat.le_refl _) _
 have q0:CBlk (w.alloc (.cells #[.int .i64 a,.int .i64 st,.int .i64 z,.string g,.string o] 33)) w.heap.size #[.int .i64 a,.int .i64 st,.int .i64 z,.string g,.string o] 33:=CBlk.new w _ _ _ rfl
 have HG:=Lib.hid (fun W hT=>pread_any g W hT hg)
 have HS:=Lib.hid (fun W hT=>pread_any s W hT hs)
 have HO:=Lib.hid (fun W hT=>pread_any o W hT ho)
 rw [eg] at HG
 rw [es] at HS
 rw [eo] at HO
 have HX:=Lib.hid (fun v u W hT hv hu=>dtimes_s p q v u W hT hv hu hp hq)
 rw [et] at HX
 have HP:=Lib.hid (fun v u W hT hv hu=>dplus_s t r v u W hT hv hu ht hr)
 rw [eu] at HP
 have HW:=Lib.hid (fun v W hT hv=>dwrite_s u v W hT hv hu)
 rw [el,ee] at HW
 clear eg es eo et eu el ee hp hq hr ht hu hg ho hs
 go_enter Tryz.func99,Tryz.ntmps99
 go_wp2_with fail
 generalize w.alloc (.cells #[.int .i64 a,.int .i64 st,.int .i64 z,.string g,.string o] 33)=w1 at *
 have hT1:=hT.later hb0
 go_region_held3 (fun w'=>w'.cell? ⟨w.heap.size,3,none⟩=some (.string g)∧w'.cell? ⟨w.heap.size,4,none⟩=some (.string o))
  ((refine ⟨?_,?_⟩<;>first | exact q7.cell _ | exact q6.cell _ | exact q5.cell _ | exact q4.cell _ | exact q3.cell _ | exact q2.cell _ | exact q0.cell _))
  (first
   |(go_at_call 96;refine (HW.out v6 w6 hT6 hv6).mono ?_;rintro e w7 ⟨sr,rfl,hsr,hb7⟩;have q7:=q6.below hb7 q6.lt;have hT7:=hT6.later hb7)
   |(go_at_call 161;refine (HP.out v4 v5 w5 hT5 hv45 hv5).mono ?_;rintro e w6 ⟨v6,rfl,hv6,hb6⟩;have q6:=q5.below hb6 q5.lt;have hT6:=hT5.later hb6)
   |(go_at_call 91;refine (HO.out w4 hT4).mono ?_;rintro e w5 ⟨v5,rfl,hv5,hb5⟩;have q5:=q4.below hb5 q4.lt;have hT5:=hT4.later hb5;have hv45:=hv4.later hb5)
   |(go_at_call 97;refine (HX.out v2 v3 w3 hT3 hv23 hv3).mono ?_;rintro e w4 ⟨v4,rfl,hv4,hb4⟩;have q4:=q3.below hb4 q3.lt;have hT4:=hT3.later hb4)
   |(go_at_call 91;refine (HS.out w2 hT2).mono ?_;rintro e w3 ⟨v3,rfl,hv3,hb3⟩;have q3:=q2.below hb3 q2.lt;have hT3:=hT2.later hb3;have hv23:=hv2.later hb3)
   |(go_at_call 91;refine (HG.out w1.drew (hT1.later (Below.drew (Below.refl _ _)))).mono ?_;rintro e w2 ⟨v2,rfl,hv2,hb2'⟩;have hb2:Below w1.heap.size w1 w2:=⟨hb2'.os,hb2'.tape,hb2'.output,hb2'.size,hb2'.block⟩;clear hb2';have q2:=q0.below hb2 q0.lt;have hT2:=hT1.later hb2))
 have hB2:=hb0.trans (hb2.mono hb0.size)
 have hB3:=hB2.trans (hb3.mono hB2.size)
 have hB4:=hB3.trans (hb4.mono hB3.size)
 have hB5:=hB4.trans (hb5.mono hB4.size)
 have hB6:=hB5.trans (hb6.mono hB5.size)
 have hB7:=hB6.trans (hb7.mono hB6.size)
 obtain rfl:=ba_of hsr
 clear HG HS HO HX HP HW
 go_wp2_with fail
 go_ret2
 exact ⟨rfl,hB7⟩
set_option maxHeartbeats 2000000 in
set_option maxRecDepth 100000 in
theorem calibrated_any (a st z:Int) (g o g' o':ByteArray) (w:World) :
  Calls Tryz.prog 98 #[.agg #[.int .i64 a,.int .i64 st,.int .i64 z,.string g,.string o],.string g',.string o'] w fun e w'=>e = .returned (.agg #[.int .i64 a,.int .i64 st,.int .i64 z,.string g',.string o'])∧Below w.heap.size w w':=by
 go_enter Tryz.func98,Tryz.ntmps98
 go_wp2_with fail
 refine bodyPost_ret (v := .agg #[.int .i64 a,.int .i64 st,.int .i64 z,.string g',.string o']) (by simp [results,Tryz.results98,go_sem]) rfl ⟨rfl,?_⟩
 exact (((Below.refl _ _).alloc (Nat.le_refl _) _).alloc (by simp) _).alloc (by simp;omega) _
theorem low_sgn (b:Bool) (t d:Nat):lowQ b t d=fracQ (sgn b t) d:=by
 unfold fracQ
 rw [sgn_neg,sgn_abs]
 unfold lowQ
 by_cases hd:d=0
 ·rw [if_pos hd,if_pos hd]
 ·rw [if_neg hd,if_neg hd]
  by_cases ht:t=0
  ·rw [if_pos ht,if_pos ht]
  ·rw [if_neg ht,if_neg ht,decide_eq_true (Nat.pos_of_ne_zero ht),Bool.and_true]
theorem sI_sgn (p:Q):sI p=sgn p.neg p.top:=rfl
theorem times_mulQ (p q:Q):lowQ (p.neg != q.neg) (p.top*q.top) (p.bot*q.bot)=mulQ p q:=by
 rw [low_sgn]
 unfold mulQ
 rw [sI_sgn,sI_sgn,←sgn_mul]
 cases p.neg<;>cases q.neg<;>rfl
theorem plus_addQ (p q:Q):plusQ p q=addQ p q:=by
 unfold plusQ addQ
 rw [sI_sgn,sI_sgn]
 have e1:∀ b x y,sgn b x*(y:Nat)=sgn b (x*y):=by
  intro b x y
  unfold sgn
  cases b<;>simp [Int.natCast_mul,Int.neg_mul]
 rw [e1,e1]
 generalize p.top*q.bot=u
 generalize q.top*p.bot=v
 generalize p.bot*q.bot=d
 split
 ·rename_i h
  rw [h,low_sgn]
  congr 1
  unfold sgn
  cases q.neg<;>simp<;>omega
 ·rename_i h
  split
  ·rename_i h2
   rw [low_sgn]
   congr 1
   unfold sgn
   cases hp:p.neg<;>cases hq:q.neg<;>rw [hp,hq] at h<;>simp at h ⊢ <;> omega
  ·rename_i h2
   rw [low_sgn]
   congr 1
   unfold sgn
   cases hp:p.neg<;>cases hq:q.neg<;>rw [hp,hq] at h<;>simp at h ⊢ <;> omega
theorem natD_len {w:World} {B n c x N:Nat} {A:Option Addr} (h:NatD w B A n c x) (hx:x<10 ^ N):n≤N:=by
 have h1:=h.len
 have h2:=Dn.digs_length_le (n:=x) (k:=N) (Nat.lt_of_lt_of_le hx (Nat.pow_le_pow_left (by decide) N))
 omega
theorem dtimes_n {N:Nat} (p q:Q) (v u:Value) (w:World) (hT:Tabs w) (hv:RatD w w.heap.size v p) (hu:RatD w w.heap.size u q) (hp:Small p N) (hq:Small q N) (hN:N≤100000) :
  Calls Tryz.prog 97 #[v,u] w (RetRatD w (mulQ p q)):=by
 obtain ⟨A1,n1,c1,A2,n2,c2,rfl,h1,h2⟩:=hv
 obtain ⟨A3,n3,c3,A4,n4,c4,rfl,h3,h4⟩:=hu
 have b1:=natD_len h1 hp.1
 have b2:=natD_len h2 hp.2
 have b3:=natD_len h3 hq.1
 have b4:=natD_len h4 hq.2
 rw [←times_mulQ]
 exact dratTimes_any p q _ _ _ _ _ _ _ _ _ _ _ _ w hT h1 h2 h3 h4 (by omega) (by omega) (by omega) (by omega)
theorem dplus_n {N:Nat} (p q:Q) (v u:Value) (w:World) (hT:Tabs w) (hv:RatD w w.heap.size v p) (hu:RatD w w.heap.size u q) (hp:Small p N) (hq:Small q N) (hN:N≤100000) :
  Calls Tryz.prog 161 #[v,u] w (RetRatD w (addQ p q)):=by
 obtain ⟨A1,n1,c1,A2,n2,c2,rfl,h1,h2⟩:=hv
 obtain ⟨A3,n3,c3,A4,n4,c4,rfl,h3,h4⟩:=hu
 have b1:=natD_len h1 hp.1
 have b2:=natD_len h2 hp.2
 have b3:=natD_len h3 hq.1
 have b4:=natD_len h4 hq.2
 rw [←plus_addQ]
 exact dratPlus_any p q _ _ _ _ _ _ _ _ _ _ _ _ w hT h1 h2 h3 h4 (by omega) (by omega) (by omega) (by omega)
theorem dwrite_n {N:Nat} (p:Q) (v:Value) (w:World) (hT:Tabs w) (hv:RatD w w.heap.size v p) (hp:Small p N) (hN:N≤100000) :
  Calls Tryz.prog 96 #[v] w (RetText w (writeT p) (writeE p)):=by
 obtain ⟨A1,n1,c1,A2,n2,c2,rfl,h1,h2⟩:=hv
 have b1:=natD_len h1 hp.1
 have b2:=natD_len h2 hp.2
 exact dwrite_any p _ _ _ _ _ _ w hT h1 h2 (by omega) (by omega)
theorem write_fits {p:Q} {N:Nat} (h:Small p N) (hN:N≤600) (hN0:0<N) (hb:0<p.bot):writeE p=0∧writeT p=writeS p:=by
 have h1:=Dec.dec_length_le hN0 h.1
 have h2:=Dec.dec_length_le hN0 h.2
 have h0:writeE p=0:=by
  unfold writeE
  rw [if_neg (by omega),if_neg (by omega)]
 exact ⟨h0,by unfold writeT;rw [if_pos h0]⟩
set_option maxHeartbeats 2000000 in
set_option maxRecDepth 100000 in
theorem trueVolts_any (a st z:Int) (g o s:ByteArray) (p q r:Q) (w:World) (hT:Tabs w) (hg:g.size≤4294967296) (ho:o.size≤4294967296) (hs:s.size≤4294967296)
  (eg:readQ g.data.toList=p) (es:readQ s.data.toList=q) (eo:readQ o.data.toList=r) (hp:Small p 100) (hq:Small q 100) (hr:Small r 100) (p0:0<p.bot) (q0:0<q.bot) (r0:0<r.bot) :
  Calls Tryz.prog 99 #[.agg #[.int .i64 a,.int .i64 st,.int .i64 z,.string g,.string o],.string s] w fun e w'=>(∃ l:ByteArray,e = .returned (.tuple #[.string l,.int .i64 0])∧NumQ l (addQ (mulQ p q) r))∧Below w.heap.size w w':=by
 have hb0:Below w.heap.size w (w.alloc (.cells #[.int .i64 a,.int .i64 st,.int .i64 z,.string g,.string o] 33)):=(Below.refl _ _).alloc (Nat.le_refl _) _
 have q0':CBlk (w.alloc (.cells #[.int .i64 a,.int .i64 st,.int .i64 z,.string g,.string o] 33)) w.heap.size #[.int .i64 a,.int .i64 st,.int .i64 z,.string g,.string o] 33:=CBlk.new w _ _ _ rfl
 have HG:=Lib.hid (fun W hT=>pread_any g W hT hg)
 have HS:=Lib.hid (fun W hT=>pread_any s W hT hs)
 have HO:=Lib.hid (fun W hT=>pread_any o W hT ho)
 rw [eg] at HG
 rw [es] at HS
 rw [eo] at HO
 have hm:Small (mulQ p q) 200:=small_mul hp hq p0 q0
 have hm0:LowQ (mulQ p q):=fracQ_low _ (Nat.mul_pos p0 q0)
 have hu:Small (addQ (mulQ p q) r) 301:=small_add hm hr hm0.1 r0
 have hu0:LowQ (addQ (mulQ p q) r):=fracQ_low _ (Nat.mul_pos hm0.1 r0)
 obtain ⟨we,wt⟩:=write_fits hu (by omega) (by omega) hu0.1
 have HX:=Lib.hid (fun v u W hT hv hu=>dtimes_n p q v u W hT hv hu hp hq (by omega))
 have HP:=Lib.hid (fun v u W hT hv hu=>dplus_n (mulQ p q) r v u W hT hv hu hm (hr.more (by omega)) (by omega))
 have HW:=Lib.hid (fun v W hT hv=>dwrite_n (addQ (mulQ p q) r) v W hT hv hu (by omega))
 rw [we,wt] at HW
 have HU:Hid (∀ s:ByteArray,s.data.toList=writeS (addQ (mulQ p q) r)→NumQ s (addQ (mulQ p q) r)):=fun s hs=>⟨hs,hu0⟩
 generalize addQ (mulQ p q) r=U at *
 generalize mulQ p q=M at *
 generalize writeS U=l at *
 clear eg es eo hp hq hr hg ho hs hm hu we wt hm0 hu0 p0 q0 r0
 go_enter Tryz.func99,Tryz.ntmps99
 go_wp2_with fail
 generalize w.alloc (.cells #[.int .i64 a,.int .i64 st,.int .i64 z,.string g,.string o] 33)=w1 at *
 have hT1:=hT.later hb0
 go_region_held3 (fun w'=>w'.cell? ⟨w.heap.size,3,none⟩=some (.string g)∧w'.cell? ⟨w.heap.size,4,none⟩=some (.string o))
  ((refine ⟨?_,?_⟩<;>first | exact q7.cell _ | exact q6.cell _ | exact q5.cell _ | exact q4.cell _ | exact q3.cell _ | exact q2.cell _ | exact q0'.cell _))
  (first
   |(go_at_call 96;refine (HW.out v6 w6 hT6 hv6).mono ?_;rintro e w7 ⟨sr,rfl,hsr,hb7⟩;have q7:=q6.below hb7 q6.lt;have hT7:=hT6.later hb7)
   |(go_at_call 161;refine (HP.out v4 v5 w5 hT5 hv45 hv5).mono ?_;rintro e w6 ⟨v6,rfl,hv6,hb6⟩;have q6:=q5.below hb6 q5.lt;have hT6:=hT5.later hb6)
   |(go_at_call 91;refine (HO.out w4 hT4).mono ?_;rintro e w5 ⟨v5,rfl,hv5,hb5⟩;have q5:=q4.below hb5 q4.lt;have hT5:=hT4.later hb5;have hv45:=hv4.later hb5)
   |(go_at_call 97;refine (HX.out v2 v3 w3 hT3 hv23 hv3).mono ?_;rintro e w4 ⟨v4,rfl,hv4,hb4⟩;have q4:=q3.below hb4 q3.lt;have hT4:=hT3.later hb4)
   |(go_at_call 91;refine (HS.out w2 hT2).mono ?_;rintro e w3 ⟨v3,rfl,hv3,hb3⟩;have q3:=q2.below hb3 q2.lt;have hT3:=hT2.later hb3;have hv23:=hv2.later hb3)
   |(go_at_call 91;refine (HG.out w1.drew (hT1.later (Below.drew (Below.refl _ _)))).mono ?_;rintro e w2 ⟨v2,rfl,hv2,hb2'⟩;have hb2:Below w1.heap.size w1 w2:=⟨hb2'.os,hb2'.tape,hb2'.output,hb2'.size,hb2'.block⟩;clear hb2';have q2:=q0'.below hb2 q0'.lt;have hT2:=hT1.later hb2))
 have hB2:=hb0.trans (hb2.mono hb0.size)
 have hB3:=hB2.trans (hb3.mono hB2.size)
 have hB4:=hB3.trans (hb4.mono hB3.size)
 have hB5:=hB4.trans (hb5.mono hB4.size)
 have hB6:=hB5.trans (hb6.mono hB5.size)
 have hB7:=hB6.trans (hb7.mono hB6.size)
 have HN:=Lib.hid (HU.out sr hsr)
 clear HG HS HO HX HP HW HU hsr
 go_wp2_with fail
 go_ret2
 exact ⟨⟨sr,rfl,HN.out⟩,hB7⟩
end Go.Proofs.YtmkihdjolnlccaaGreatDoor
namespace Go.Proofs.YtmkihdjolnlccaaGreatDoor
open Go.RowKit Dn
def FewA (a st z:Int) (g o:ByteArray):Prop:=adcE a st z g.data.toList o.data.toList=0∧FewT g∧FewT o
def FewAIs (a st z:Int) (g o:ByteArray) (b:Bool):Prop:=∀ W,Calls Tryz.prog 25 #[.agg #[.int .i64 a,.int .i64 st,.int .i64 z,.string g,.string o]] W fun e w'=>e = .returned (.bool b)∧Below W.heap.size W w'
set_option maxHeartbeats 2000000 in
set_option maxRecDepth 100000 in
theorem fewA_step (a st z E:Int) (g o:ByteArray) (b1 b2 b:Bool) (hC:∀ W,Calls Tryz.prog 16 #[.agg #[.int .i64 a,.int .i64 st,.int .i64 z,.string g,.string o]] W fun e w'=>e = .returned (.int .i64 E)∧Below W.heap.size W w')
    (hG:FewIs g b1) (hO:FewIs o b2) (hb:(E≠0∧b=false)∨(E=0∧b1=false∧b=false)∨(E=0∧b1=true∧b=b2)):FewAIs a st z g o b:=by
  intro w
  have hb0:Below w.heap.size w (w.alloc (.cells #[.int .i64 a,.int .i64 st,.int .i64 z,.string g,.string o] 24)):=(Below.refl _ _).alloc (Nat.le_refl _) _
  have q0:CBlk (w.alloc (.cells #[.int .i64 a,.int .i64 st,.int .i64 z,.string g,.string o] 24)) w.heap.size #[.int .i64 a,.int .i64 st,.int .i64 z,.string g,.string o] 24:=CBlk.new w _ _ _ rfl
  have x0:=q0.cell 0
  have x1:=q0.cell 1
  have x2:=q0.cell 2
  have x3:=q0.cell 3
  have x4:=q0.cell 4
  have HC:=Lib.hid hC
  have HG:=Lib.hid hG
  have HO:=Lib.hid hO
  clear hC hG hO
  rcases hb with ⟨h0,rfl⟩ | ⟨rfl,rfl,rfl⟩ | ⟨rfl,rfl,rfl⟩
  · have d0:(E==0)=false:=beq_eq_false_iff_ne.2 h0
    clear h0
    go_enter Tryz.func25,Tryz.ntmps25
    go_wp2_with fail
    generalize w.alloc (.cells #[.int .i64 a,.int .i64 st,.int .i64 z,.string g,.string o] 24)=w1 at *
    refine (HC.out w1).mono ?_
    rintro e w2 ⟨rfl,hb2⟩
    have hB2:=hb0.trans (hb2.mono hb0.size)
    go_wp2_with fail
    go_ret
    exact ⟨rfl,hB2⟩
  all_goals
    go_enter Tryz.func25,Tryz.ntmps25
    go_wp2_with fail
    generalize w.alloc (.cells #[.int .i64 a,.int .i64 st,.int .i64 z,.string g,.string o] 24)=w1 at *
    refine (HC.out w1).mono ?_
    rintro e w2 ⟨rfl,hb2⟩
    have q2:=q0.below hb2 q0.lt
    have hB2:=hb0.trans (hb2.mono hb0.size)
    clear x0 x1 x2 x3 x4 hb2
    have x3:=q2.cell 3
    have x4:=q2.cell 4
    go_wp2_with fail
    refine (HG.out w2).mono ?_
    rintro e w3 ⟨rfl,hb3⟩
    have q3:=q2.below hb3 q2.lt
    have hB3:=hB2.trans (hb3.mono hB2.size)
    clear x3 x4 hb3
    have x4:=q3.cell 4
    go_wp2_with fail
    first
      | (go_ret
         exact ⟨rfl,hB3⟩)
      | (refine (HO.out w3).mono ?_
         rintro e w4 ⟨rfl,hb4⟩
         have hB4:=hB3.trans (hb4.mono hB3.size)
         clear hb4
         go_wp2_with fail
         go_ret
         exact ⟨rfl,hB4⟩)
theorem fewA_is (a st z:Int) (g o:ByteArray) (hg:g.size≤9223372036854775807) (ho:o.size≤9223372036854775807):∃ b,(b=true→FewA a st z g o)∧FewAIs a st z g o b:=by
 obtain ⟨b1,h1,k1⟩:=few_is g
 obtain ⟨b2,h2,k2⟩:=few_is o
 have hC:=fun W=>rCheckAdc_any a st z g o W hg ho
 by_cases hE:adcE a st z g.data.toList o.data.toList=0
 ·rw [hE] at hC
  cases b1
  ·exact ⟨false,(fun h=>by cases h),fewA_step a st z 0 g o false b2 false hC k1 k2 (.inr (.inl ⟨rfl,rfl,rfl⟩))⟩
  ·exact ⟨b2,fun h=>⟨hE,h1 rfl,h2 h⟩,fewA_step a st z 0 g o true b2 b2 hC k1 k2 (.inr (.inr ⟨rfl,rfl,rfl⟩))⟩
 ·exact ⟨false,(fun h=>by cases h),fewA_step a st z _ g o b1 b2 false hC k1 k2 (.inl ⟨hE,rfl⟩)⟩
end Go.Proofs.YtmkihdjolnlccaaGreatDoor
namespace Go.Proofs.YtmkihdjolnlccaaGreatDoor
open Go.RowKit Bn
open Flt
def Val (p:Q) (num:Int) (den:Nat):Prop:=sI p*(den:Int)=num*(p.bot:Int)∧0<den∧0<p.bot
theorem Val.frac {num:Int} {den:Nat} (h:0<den):Val (fracQ num den) num den:=⟨sI_low h,h,(fracQ_low num h).1⟩
theorem Val.trans {p:Q} {a b:Int} {x y:Nat} (h:Val p a x) (hy:0<y) (e:a*(y:Int)=b*(x:Int)):Val p b y:=by
 obtain ⟨h1,h2,h3⟩:=h
 refine ⟨?_,hy,h3⟩
 have hx:(x:Int)≠0:=by omega
 apply Int.eq_of_mul_eq_mul_right hx
 grind
theorem Val.eq {p q:Q} {a b:Int} {x y:Nat} (h:Val p a x) (h':Val q b y) (hp:LowQ p) (hq:LowQ q) (e:a*(y:Int)=b*(x:Int)):p=q:=by
 obtain ⟨h1,h2,h3⟩:=h
 obtain ⟨k1,k2,k3⟩:=h'
 refine low_unique hp hq ?_
 have hx:((x:Int)*(y:Int))≠0:=Int.mul_ne_zero (by omega) (by omega)
 apply Int.eq_of_mul_eq_mul_right hx
 grind
theorem Val.mul {p q:Q} {a b:Int} {x y:Nat} (h:Val p a x) (h':Val q b y):Val (mulQ p q) (a*b) (x*y):=by
 obtain ⟨h1,h2,h3⟩:=h
 obtain ⟨k1,k2,k3⟩:=h'
 have hv:Val (mulQ p q) (sI p*sI q) (p.bot*q.bot):=Val.frac (Nat.mul_pos h3 k3)
 refine hv.trans (Nat.mul_pos h2 k2) ?_
 rw [Int.natCast_mul,Int.natCast_mul]
 grind
theorem Val.add {p q:Q} {a b:Int} {x y:Nat} (h:Val p a x) (h':Val q b y):Val (addQ p q) (a*y+b*x) (x*y):=by
 obtain ⟨h1,h2,h3⟩:=h
 obtain ⟨k1,k2,k3⟩:=h'
 have hv:Val (addQ p q) (sI p*(q.bot:Int)+sI q*(p.bot:Int)) (p.bot*q.bot):=Val.frac (Nat.mul_pos h3 k3)
 refine hv.trans (Nat.mul_pos h2 k2) ?_
 rw [Int.natCast_mul,Int.natCast_mul]
 grind
theorem Val.sub {p q:Q} {a b:Int} {x y:Nat} (h:Val p a x) (h':Val q b y):Val (subQ p q) (a*y - b*x) (x*y):=by
 obtain ⟨h1,h2,h3⟩:=h
 obtain ⟨k1,k2,k3⟩:=h'
 have hv:Val (subQ p q) (sI p*(q.bot:Int) - sI q*(p.bot:Int)) (p.bot*q.bot):=Val.frac (Nat.mul_pos h3 k3)
 refine hv.trans (Nat.mul_pos h2 k2) ?_
 rw [Int.natCast_mul,Int.natCast_mul]
 grind
theorem Val.int (z:Int):Val (intQ z) z 1:=by
 refine ⟨?_,Nat.one_pos,Nat.one_pos⟩
 show sgn (decide (z<0)) z.natAbs*1=z*1
 unfold sgn
 by_cases h:z<0
 ·rw [decide_eq_true h,if_pos rfl]
  omega
 ·rw [decide_eq_false h,if_neg (by simp)]
  omega
theorem Val.half:Val halfQ 1 2:=⟨by decide,by decide,by decide⟩
theorem Val.lsb {st:Int} (h : -20≤st∧st≤4):Val (lsbQ st) ((2 ^ (st+149).toNat:Nat):Int) (2 ^ 149):=by
 unfold lsbQ
 split
 ·refine ⟨?_,Nat.two_pow_pos _,Nat.pow_pos (by decide)⟩
  show ((2 ^ st.toNat:Nat):Int)*((2 ^ 149:Nat):Int)=((2 ^ (st+149).toNat:Nat):Int)*((1 ^ st.toNat:Nat):Int)
  rw [Nat.one_pow,←Int.natCast_mul,←Int.natCast_mul,←Nat.pow_add,Nat.mul_one,show st.toNat+149=(st+149).toNat by omega]
 ·rw [rec_two]
  refine ⟨?_,Nat.two_pow_pos _,Nat.pow_pos (by decide)⟩
  show ((1 ^ (-st).toNat:Nat):Int)*((2 ^ 149:Nat):Int)=((2 ^ (st+149).toNat:Nat):Int)*((2 ^ (-st).toNat:Nat):Int)
  rw [Nat.one_pow,←Int.natCast_mul,←Int.natCast_mul,←Nat.pow_add,Nat.one_mul,show (st+149).toNat+(-st).toNat=149 by omega]
theorem nom_exact {d e:Int} (hd:d≠0) (hd2:d.natAbs<16777216) (he : -149≤e) (he2:e+d.natAbs.log2≤127) {p:Q} (hp:LowQ p) (hv:Val p (d*((2 ^ (e+149).toNat:Nat):Int)) (2 ^ 149)) :
  exT (nomW d e)=writeS p:=by
 obtain ⟨n',e',hw,hr,hn0,hR,hval,hn2,he3⟩:=nom_word hd hd2 he he2
 have hread:=word_read (decide (d<0)) hr hn2 hR
 have hplace:=hr.place
 rw [←hw] at hread
 obtain ⟨x1,x2,x3,x4,x5⟩:=exQ_val hread hn0 hn2 (by omega) he3
 rw [hval] at x3
 have hq:exQ (nomW d e)=p:=by
  have hq1:Val (exQ (nomW d e)) (d*((2 ^ (e+149).toNat:Nat):Int)) (2 ^ 149):=by
   refine ⟨?_,Nat.two_pow_pos _,x1.1⟩
   generalize exQ (nomW d e)=E at *
   generalize 2 ^ (e+149).toNat=u at *
   generalize (2:Nat) ^ 149=T at *
   unfold sI
   rw [x2]
   have x3':(E.top:Int)*(T:Int)=((d.natAbs*u:Nat):Int)*(E.bot:Int):=by rw [←Int.natCast_mul,x3,Int.natCast_mul]
   rw [Int.natCast_mul] at x3'
   by_cases h:d<0
   ·rw [decide_eq_true h,if_pos rfl,Int.neg_mul,x3',show (d.natAbs:Int) = -d by omega]
    grind
   ·rw [decide_eq_false h,if_neg (by simp),x3',show (d.natAbs:Int)=d by omega]
  exact hq1.eq hv x1 hp rfl
 have hf:=fin_of_read hread
 have hE:writeE (exQ (nomW d e))=0:=by
  unfold writeE
  rw [if_neg (by have:=x1.1;omega),if_neg (by have:=dec_600 x4;have:=dec_600 x5;omega)]
 unfold exT
 rw [if_pos hf]
 unfold writeT
 rw [if_pos hE,hq]
theorem Val.below {L:Q} {u:Int} {T:Nat} (h:Val L (u*2) T) (d:Int):Val (subQ (mulQ L (intQ d)) (mulQ L halfQ)) ((2*d - 1)*u) T:=by
 have hT:=h.2.1
 refine Val.trans ((h.mul (Val.int d)).sub (h.mul Val.half)) hT ?_
 simp only [Int.natCast_mul]
 clear h
 generalize (T:Int)=t
 grind
theorem Val.above {L:Q} {u:Int} {T:Nat} (h:Val L (u*2) T) (d:Int):Val (addQ (mulQ L (intQ d)) (mulQ L halfQ)) ((2*(d+1) - 1)*u) T:=by
 have hT:=h.2.1
 refine Val.trans ((h.mul (Val.int d)).add (h.mul Val.half)) hT ?_
 simp only [Int.natCast_mul]
 clear h
 generalize (T:Int)=t
 grind
theorem lsb_two {st:Int} (h : -20≤st∧st≤4):Val (lsbQ st) (((2 ^ (st - 1+149).toNat:Nat):Int)*2) (2 ^ 149):=by
 have h1:=Val.lsb h
 rw [show (st+149).toNat=(st - 1+149).toNat+1 by omega,Nat.pow_succ,Int.natCast_mul] at h1
 exact h1
theorem lowE_val {st z c:Int} (h : -20≤st∧st≤4):Val (lowE st z c) ((2*(c - z) - 1)*((2 ^ (st - 1+149).toNat:Nat):Int)) (2 ^ 149):=(lsb_two h).below (c - z)
theorem highE_val {st z c:Int} (h : -20≤st∧st≤4):Val (highE st z c) ((2*(c+1 - z) - 1)*((2 ^ (st - 1+149).toNat:Nat):Int)) (2 ^ 149):=by
 have h1:=(lsb_two h).above (c - z)
 rw [show c - z+1=c+1 - z by omega] at h1
 exact h1
theorem lowE_low (st z c:Int):LowQ (lowE st z c):=fracQ_low _ (Nat.mul_pos (nomQ_low st z c).1 (halfL_low st).1)
theorem highE_low (st z c:Int):LowQ (highE st z c):=fracQ_low _ (Nat.mul_pos (nomQ_low st z c).1 (halfL_low st).1)
theorem log_small {d:Int} (h:d.natAbs<65536):d.natAbs.log2≤16:=by
 rcases Nat.eq_zero_or_pos d.natAbs with h0 | h0
 ·rw [h0]
  decide
 ·have e16:(2:Nat) ^ 16=65536:=by decide
  have h9:d.natAbs.log2<16:=(Nat.log2_lt (Nat.ne_of_gt h0)).2 (by rw [e16];exact h)
  omega
theorem edge_low {st z c:Int} (h : -20≤st∧st≤4) (hz:0≤z∧z≤4096) (hc:0≤c∧c≤4096):exT (nomW (2*(c - z) - 1) (st - 1))=writeS (lowE st z c):=
 nom_exact (by omega) (by omega) (by omega) (by have:=log_small (d:=2*(c - z) - 1) (by omega);omega) (lowE_low st z c) (lowE_val h)
theorem edge_high {st z c:Int} (h : -20≤st∧st≤4) (hz:0≤z∧z≤4096) (hc:0≤c∧c≤4096):exT (nomW (2*(c+1 - z) - 1) (st - 1))=writeS (highE st z c):=
 nom_exact (by omega) (by omega) (by omega) (by have:=log_small (d:=2*(c+1 - z) - 1) (by omega);omega) (highE_low st z c) (highE_val h)
theorem cfirst_four (w:World) (t:TypeId) (g:Nat) (hg:w.heap.size=g) :
  Calls Tryz.prog 64 #[.slice (some ⟨g,0,none⟩) 4 4] (w.alloc (.cells #[.int .i64 0,.int .i64 0,.int .i64 0,.int .i64 0] t)) fun e w'=>e = .returned (.int .i64 0)∧w.alloc (.cells #[.int .i64 0,.int .i64 0,.int .i64 0,.int .i64 0] t)=w':=by
 subst hg
 exact cfirst_any (some ⟨w.heap.size,0,none⟩) 4 4 [0,0,0,0] (w.alloc (.cells #[.int .i64 0,.int .i64 0,.int .i64 0,.int .i64 0] t)) (Reads.lit w [.int .i64 0,.int .i64 0,.int .i64 0,.int .i64 0] t) (by unfold maxLen;omega)
theorem CBlk.alloc {w:World} {g:Nat} {c:Array Value} {t:TypeId} (h:CBlk w g c t) (o:Obj):CBlk (w.alloc o) g c t:=h.below ((Below.refl _ _).alloc (Nat.le_refl _) o) h.lt
theorem CBlk.drew {w:World} {g:Nat} {c:Array Value} {t:TypeId} (h:CBlk w g c t):CBlk w.drew g c t:=h
theorem CBlk.far3 {w:World} {g g':Nat} {c:Array Value} {t:TypeId} (h:CBlk w g c t) (hne:g'≠g) (u v x:Value):CBlk (((w.setCell ⟨g',0,none⟩ u).setCell ⟨g',1,none⟩ v).setCell ⟨g',2,none⟩ x) g c t:=
 (Below.heap_setCell _ ⟨g',2,none⟩ x g (fun e=>hne e.symm)).trans (h.far2 hne u v)
theorem CBlk.set3 {w:World} {g:Nat} {a b c:Value} {t:TypeId} (h:CBlk w g #[a,b,c] t) (u v x:Value):CBlk (((w.setCell ⟨g,0,none⟩ u).setCell ⟨g,1,none⟩ v).setCell ⟨g,2,none⟩ x) g #[u,v,x] t:=
 heap_setCell_same _ g 2 #[u,v,c] t x (heap_setCell_same _ g 1 #[u,b,c] t v (heap_setCell_same w g 0 #[a,b,c] t u h))
theorem RatD.res3 {w:World} {g:Nat} {v:Value} {q:Q} (h:RatD w w.heap.size v q) (hz:CBlk w g #[.bool false,.slice none 0 0,.slice none 0 0] 142) (u x y:Value) :
  RatD (((w.setCell ⟨g,0,none⟩ u).setCell ⟨g,1,none⟩ x).setCell ⟨g,2,none⟩ y) (((w.setCell ⟨g,0,none⟩ u).setCell ⟨g,1,none⟩ x).setCell ⟨g,2,none⟩ y).heap.size v q:=by
 obtain ⟨A,n,c,A',n',c',rfl,h1,h2⟩:=h
 refine ⟨A,n,c,A',n',c',rfl,?_,?_⟩
 ·rw [size_set3];exact h1.res hz _ _ _
 ·rw [size_set3];exact h2.res hz _ _ _
def RetN (w:World) (b:Bool) (x y:Nat) (e:Ending) (w':World):Prop:=
 ∃ A n c A' n' c',e = .returned (.agg #[.bool b,.slice A n c,.slice A' n' c'])∧RatD w' w'.heap.size (.agg #[.bool b,.slice A n c,.slice A' n' c']) ⟨b,x,y⟩∧Below w.heap.size w w'
theorem RetN.of {w w':World} {q:Q} {b:Bool} {x y:Nat} {e:Ending} (h:RetRatD w q e w') (hq:q=⟨b,x,y⟩):RetN w b x y e w':=by
 subst hq
 obtain ⟨v,rfl,hv,hb⟩:=h
 have hv2:=hv
 obtain ⟨A,n,c,A',n',c',rfl,_,_⟩:=hv2
 exact ⟨A,n,c,A',n',c',rfl,hv,hb⟩
theorem aw_read (s:ByteArray) (b:Bool) (x y:Nat) (hs:s.size≤4294967296) (hq:readQ s.data.toList=⟨b,x,y⟩) (w:World) (hT:Tabs w):Calls Tryz.prog 91 #[.string s] w (RetN w b x y):=
 (pread_any s w hT hs).mono fun _ _ h=>RetN.of h hq
theorem aw_minus (p q:Q) (b:Bool) (x y:Nat) (hz:plusQ p ⟨!q.neg,q.top,q.bot⟩=⟨b,x,y⟩) (hp:Sml p) (hq:Sml q) (v u:Value) (w:World) (hT:Tabs w) (hv:RatD w w.heap.size v p) (hu:RatD w w.heap.size u q) :
  Calls Tryz.prog 93 #[v,u] w (RetN w b x y):=
 (dminus_s p q v u w hT hv hu hp hq).mono fun _ _ h=>RetN.of h hz
theorem aw_over (p q:Q) (b:Bool) (x y:Nat) (hz:lowQ (p.neg != q.neg) (p.top*q.bot) (p.bot*q.top)=⟨b,x,y⟩) (hp:Sml p) (hq:Sml q) (v u:Value) (w:World) (hT:Tabs w) (hv:RatD w w.heap.size v p) (hu:RatD w w.heap.size u q) :
  Calls Tryz.prog 94 #[v,u] w (RetN w b x y):=
 (dover_s p q v u w hT hv hu hp hq).mono fun _ _ h=>RetN.of h hz
theorem aw_times (p q:Q) (b:Bool) (x y:Nat) (hz:lowQ (p.neg != q.neg) (p.top*q.top) (p.bot*q.bot)=⟨b,x,y⟩) (hp:Sml p) (hq:Sml q) (v u:Value) (w:World) (hT:Tabs w) (hv:RatD w w.heap.size v p) (hu:RatD w w.heap.size u q) :
  Calls Tryz.prog 97 #[v,u] w (RetN w b x y):=
 (dtimes_s p q v u w hT hv hu hp hq).mono fun _ _ h=>RetN.of h hz
theorem aw_write (p:Q) (l:List UInt8) (hl:writeT p=l∧writeE p=0) (hp:Sml p) (v:Value) (w:World) (hT:Tabs w) (hv:RatD w w.heap.size v p) :
  Calls Tryz.prog 96 #[v] w fun e w'=>e = .returned (.tuple #[.string ⟨l.toArray⟩,.int .i64 0])∧Below w.heap.size w w':=by
 refine (dwrite_s p v w hT hv hp).mono ?_
 rintro e w' ⟨s,rfl,hs,hb⟩
 rw [hl.1] at hs
 rw [hl.2]
 obtain rfl:=ba_of hs
 exact ⟨rfl,hb⟩
theorem aw_sign (p:Q) (i:Int) (hi:signQ p=i) (v:Value) (w:World) (hv:RatD w w.heap.size v p):Calls Tryz.prog 95 #[v] w fun e w'=>e = .returned (.int .i64 i)∧Below w.heap.size w w':=by
 rw [←hi]
 exact dsign_s p v w hv
theorem aw_check (s:ByteArray) (hs:s.size≤4294967296) (h0:readE s.data.toList=0) (w:World) (hT:Tabs w):Calls Tryz.prog 82 #[.string s] w fun e w'=>e = .returned (.int .i64 0)∧Below w.heap.size w w':=by
 rw [←h0]
 exact check_any s w hT hs
theorem aw_ccode (c:Int) (hc:0≤c∧c≤((2 ^ 8 - 1:Nat):Int)) (w:World) (hT:Tabs w):Calls Tryz.prog 90 #[.agg #[.int .i64 8,.int .i64 (-3),.int .i64 128,.string { data:=#[49] },.string { data:=#[48] }],.int .i64 c] w fun e w'=>e = .returned (.int .i64 0)∧Below w.heap.size w w':=
 checkCode_ok 8 (-3) 128 c { data:=#[49] } { data:=#[48] } w hT aw_conv hc
theorem aw_nominal (c:Int) (y:Nat) (hc:0≤c∧c≤255) (hy:nomW (c - 128) (-3)=y) (w:World):Calls Tryz.prog 80 #[.agg #[.int .i64 8,.int .i64 (-3),.int .i64 128,.string { data:=#[49] },.string { data:=#[48] }],.int .i64 c] w fun e w'=>e = .returned (.float .f32 y)∧Below w.heap.size w w':=by
 rw [←hy]
 exact nominal_any 8 (-3) 128 c _ _ w (by omega) (by omega) (by omega) (by omega)
end Go.Proofs.YtmkihdjolnlccaaGreatDoor
