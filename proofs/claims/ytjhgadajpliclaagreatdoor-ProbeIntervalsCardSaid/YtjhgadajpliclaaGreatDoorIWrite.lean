/- Contract of write: the text of a rational number. -/
import Derived.Test.YtjhgadajpliclaaGreatDoorIBld
import Derived.Test.YtjhgadajpliclaaGreatDoorIRat2
import Derived.Deep.RegionHeld3
namespace Go.Proofs.YtjhgadajpliclaaGreatDoor
open Go.RowKit Bn
def writeS (q:Q):List UInt8:=(if q.neg then 45 :: Lib.decDigits q.top else Lib.decDigits q.top)++(if q.bot=1 then [] else 47 :: Lib.decDigits q.bot)
def writeE (q:Q):Int:=if q.bot=0 then 6 else if 600<(Lib.decDigits q.top).length∨600<(Lib.decDigits q.bot).length then 4 else 0
def writeT (q:Q):List UInt8:=if writeE q=0 then writeS q else []
def RetText (w:World) (l:List UInt8) (x:Int) (e:Ending) (w':World):Prop:=∃ s:ByteArray,e = .returned (.tuple #[.string s,.int .i64 x])∧s.data.toList=l∧Below w.heap.size w w'
set_option maxHeartbeats 4000000 in
set_option maxRecDepth 100000 in
theorem write_any (q:Q) (A1 A2:Option Addr) (n1 c1 n2 c2:Nat) (w:World) (hT:Tabs w) (h1:NatS w w.heap.size A1 n1 c1 q.top) (h2:NatS w w.heap.size A2 n2 c2 q.bot) (k1:n1≤268435456) (k2:n2≤268435456) :
  Calls Tryz.prog 176 #[.agg #[.bool q.neg,.slice A1 n1 c1,.slice A2 n2 c2]] w (RetText w (writeT q) (writeE q)):=by
 obtain ⟨neg,top,bot⟩:=q
 dsimp only at h1 h2 ⊢
 have hb1:Below w.heap.size w (w.alloc (.cells #[.bool neg,.slice A1 n1 c1,.slice A2 n2 c2] 159)):=(Below.refl _ _).alloc (Nat.le_refl _) _
 have hx1:ResBlk (w.alloc (.cells #[.bool neg,.slice A1 n1 c1,.slice A2 n2 c2] 159)) w.heap.size neg (.slice A1 n1 c1) (.slice A2 n2 c2):=ResBlk.new w _ _ _
 have hz:=isZero_val A2 n2 c2 bot _ (h2.later hb1)
 by_cases hb0:bot=0
 ·have hE:writeE ⟨neg,top,bot⟩=6:=by unfold writeE;rw [if_pos hb0]
  have hW:writeT ⟨neg,top,bot⟩=[]:=by unfold writeT;rw [hE];rfl
  have hd:decide (bot=0)=true:=by simpa using hb0
  rw [hE,hW]
  rw [hd] at hz
  clear hE hW hb0 hd
  go_enter Tryz.func176,Tryz.ntmps176
  go_wp2_with fail
  refine hz.mono ?_
  rintro e w1 ⟨rfl,rfl⟩
  go_wp2
  go_ret2
  exact ⟨⟨#[]⟩,rfl,rfl,hb1⟩
 ·have hd:decide (bot=0)=false:=by simpa using hb0
  rw [hd] at hz
  have hT1:=hT.later hb1
  have ht1:=fun (W:World) (hb:Below (w.alloc (.cells #[.bool neg,.slice A1 n1 c1,.slice A2 n2 c2] 159)).heap.size (w.alloc (.cells #[.bool neg,.slice A1 n1 c1,.slice A2 n2 c2] 159)) W)=>text_any A1 n1 c1 top W (hT1.later hb) ((h1.later hb1).later hb) (by omega)
  have ht2:=fun (W:World) (hb:Below (w.alloc (.cells #[.bool neg,.slice A1 n1 c1,.slice A2 n2 c2] 159)).heap.size (w.alloc (.cells #[.bool neg,.slice A1 n1 c1,.slice A2 n2 c2] 159)) W)=>text_any A2 n2 c2 bot W (hT1.later hb) ((h2.later hb1).later hb) (by omega)
  have ho:=fun (W:World) (hb:Below (w.alloc (.cells #[.bool neg,.slice A1 n1 c1,.slice A2 n2 c2] 159)).heap.size (w.alloc (.cells #[.bool neg,.slice A1 n1 c1,.slice A2 n2 c2] 159)) W)=>isOne_any A2 n2 c2 bot W ((h2.later hb1).later hb)
  obtain ⟨s1,hs1⟩:∃ s1:ByteArray,s1=⟨(Lib.decDigits top).toArray⟩:=⟨_,rfl⟩
  obtain ⟨s2,hs2⟩:∃ s2:ByteArray,s2=⟨(Lib.decDigits bot).toArray⟩:=⟨_,rfl⟩
  have e1:s1.data.toList=Lib.decDigits top:=by rw [hs1]
  have e2:s2.data.toList=Lib.decDigits bot:=by rw [hs2]
  simp only [←hs1] at ht1
  simp only [←hs2] at ht2
  have hE:Hid (writeE ⟨neg,top,bot⟩=if 600<s1.size∨600<s2.size then 4 else 0):=by
   unfold Hid writeE
   rw [if_neg hb0,←e1,←e2];simp
  have hS:Hid (writeS ⟨neg,top,bot⟩=(if neg then 45 :: s1.data.toList else s1.data.toList)++(if bot=1 then [] else 47 :: s2.data.toList)):=by
   unfold Hid writeS;rw [←e1,←e2]
  have hsz1:s1.size<8589934592:=by
   have h0:s1.size=(Lib.decDigits top).length:=by rw [←e1];simp
   have h3:=Dec.dec_length_le (k:=20*n1+1) (r:=top) (by omega) (by
    have h4:=lt_of_digs_length top
    rw [h1.len] at h4
    refine Nat.lt_of_lt_of_le h4 ?_
    have h5:B≤10 ^ 20:=by rw [B_def];omega
    have h6:=Nat.pow_le_pow_left h5 n1
    rw [←Nat.pow_mul] at h6
    exact Nat.le_trans h6 (Nat.pow_le_pow_right (by omega) (by omega)))
   omega
  have hsz2:s2.size<8589934592:=by
   have h0:s2.size=(Lib.decDigits bot).length:=by rw [←e2];simp
   have h3:=Dec.dec_length_le (k:=20*n2+1) (r:=bot) (by omega) (by
    have h4:=lt_of_digs_length bot
    rw [h2.len] at h4
    refine Nat.lt_of_lt_of_le h4 ?_
    have h5:B≤10 ^ 20:=by rw [B_def];omega
    have h6:=Nat.pow_le_pow_left h5 n2
    rw [←Nat.pow_mul] at h6
    exact Nat.le_trans h6 (Nat.pow_le_pow_right (by omega) (by omega)))
   omega
  have HT1:=Lib.hid ht1
  have HT2:=Lib.hid ht2
  have HO:=Lib.hid ho
  have HS1:=Lib.hid hsz1
  have HS2:=Lib.hid hsz2
  have HE2:=Lib.hid e1
  clear ht1 ht2 ho hs1 hs2 e1 e2 hd hb0 hT1 hsz1 hsz2
  go_enter Tryz.func176,Tryz.ntmps176
  go_wp2_with fail
  refine hz.mono ?_
  rintro e w1 ⟨rfl,rfl⟩
  clear hz
  generalize (w.alloc (.cells #[.bool neg,.slice A1 n1 c1,.slice A2 n2 c2] 159))=w3 at *
  obtain ⟨a0,a1,a2,_,_,_,al⟩:=hx1.cells
  go_wp2_with fail
  go_region_held3 (fun w'=>w'.cell? ⟨w.heap.size,0,none⟩=some (.bool neg)∧w'.cell? ⟨w.heap.size,1,none⟩=some (.slice A1 n1 c1)∧w'.cell? ⟨w.heap.size,2,none⟩=some (.slice A2 n2 c2))
   (first | exact ⟨a0,a1,a2⟩ | exact ⟨((hb5.cell (p:=⟨w.heap.size,0,none⟩) al).trans a0),((hb5.cell (p:=⟨w.heap.size,1,none⟩) al).trans a1),((hb5.cell (p:=⟨w.heap.size,2,none⟩) al).trans a2)⟩ | exact ⟨((hb6.cell (p:=⟨w.heap.size,0,none⟩) (al6)).trans ((hb5.cell (p:=⟨w.heap.size,0,none⟩) al).trans a0)),((hb6.cell (p:=⟨w.heap.size,1,none⟩) (al6)).trans ((hb5.cell (p:=⟨w.heap.size,1,none⟩) al).trans a1)),((hb6.cell (p:=⟨w.heap.size,2,none⟩) (al6)).trans ((hb5.cell (p:=⟨w.heap.size,2,none⟩) al).trans a2))⟩)
   (first
    |(go_at_call_of 215 (Value.slice A1 n1 c1);refine (HT1.out w3.drew (Below.drew (Below.refl _ _))).mono ?_;rintro e w4 ⟨rfl,hb5⟩;have al6:=Nat.lt_of_lt_of_le al hb5.size)
    |(go_at_call_of 215 (Value.slice A2 n2 c2);refine (HT2.out w4 (Below.trans (Below.drew (Below.refl _ _)) hb5)).mono ?_;rintro e w6 ⟨rfl,hb6⟩))
  have hB6:Below w3.heap.size w3 w6:=(Below.trans (Below.drew (Below.refl _ _)) hb5).trans (hb6.mono (by have:=hb5.size;exact this))
  have b0:=(hB6.cell (p:=⟨w.heap.size,0,none⟩) al).trans a0
  have b2:=(hB6.cell (p:=⟨w.heap.size,2,none⟩) al).trans a2
  have ho:=HO.out w6 hB6
  have hBw:=hb1.trans (hB6.mono hb1.size)
  clear a0 a1 a2 hb5 hb6 hx1
  by_cases hl:600<s1.size∨600<s2.size
  ·have hmx:decide ((600:Int)<max (s1.size:Int) (s2.size:Int))=true:=by simp only [decide_eq_true_eq];omega
   have hE4:writeE ⟨neg,top,bot⟩=4:=by rw [hE.out,if_pos hl]
   have hW:writeT ⟨neg,top,bot⟩=[]:=by unfold writeT;rw [hE4];rfl
   have HE4:=Lib.hid hE4
   have HW:=Lib.hid hW
   clear hE4 hW hl ho
   go_wp2
   go_ret2
   exact ⟨⟨#[]⟩,by rw [HE4.out];rfl,by rw [HW.out],hBw⟩
  ·have hmx:decide ((600:Int)<max (s1.size:Int) (s2.size:Int))=false:=by simp only [decide_eq_false_iff_not];omega
   have hE3:writeE ⟨neg,top,bot⟩=0:=by rw [hE.out,if_neg hl]
   have hS2:writeT ⟨neg,top,bot⟩=(if neg then 45 :: s1.data.toList else s1.data.toList)++(if bot=1 then [] else 47 :: s2.data.toList):=by
    unfold writeT;rw [if_pos hE3];exact hS.out
   have HE3:=Lib.hid hE3
   have hz1:s1.size≤600:=by omega
   have hz2:s2.size≤600:=by omega
   clear hE3 hl
   by_cases h1:bot=1<;>cases neg
   ·rw [show decide (bot=1)=true from by simpa using h1] at ho
    rw [if_neg (by simp),if_pos h1] at hS2
    have HW:=Lib.hid hS2
    clear h1 hS2
    go_wp2_with fail
    refine ho.mono ?_
    rintro e w7 ⟨rfl,rfl⟩
    go_wp2
    go_ret2
    refine ⟨_,by rw [HE3.out];rfl,?_,hBw⟩
    rw [HW.out]
    simp
   ·rw [show decide (bot=1)=true from by simpa using h1] at ho
    rw [if_pos rfl,if_pos h1] at hS2
    have HW:=Lib.hid hS2
    clear h1 hS2
    go_wp2_with fail
    refine ho.mono ?_
    rintro e w7 ⟨rfl,rfl⟩
    go_wp2
    go_ret2
    refine ⟨_,by rw [HE3.out];rfl,?_,hBw⟩
    rw [HW.out]
    simp
   ·rw [show decide (bot=1)=false from by simpa using h1] at ho
    rw [if_neg (by simp),if_neg h1] at hS2
    have HW:=Lib.hid hS2
    clear h1 hS2
    go_wp2_with fail
    refine ho.mono ?_
    rintro e w7 ⟨rfl,rfl⟩
    go_wp2
    go_ret2
    refine ⟨_,by rw [HE3.out];rfl,?_,hBw⟩
    rw [HW.out]
    simp
   ·rw [show decide (bot=1)=false from by simpa using h1] at ho
    rw [if_pos rfl,if_neg h1] at hS2
    have HW:=Lib.hid hS2
    clear h1 hS2
    go_wp2_with fail
    refine ho.mono ?_
    rintro e w7 ⟨rfl,rfl⟩
    go_wp2
    go_ret2
    refine ⟨_,by rw [HE3.out];rfl,?_,hBw⟩
    rw [HW.out]
    simp
theorem byte_toNat {n:Nat} (h:n<10):(UInt8.ofNat (48+n)).toNat=48+n:=by
 rw [UInt8.toNat_ofNat']
 omega
theorem digB_byte {n:Nat} (h:n<10):digB ((UInt8.ofNat (48+n)).toNat:Int)=true:=by
 rw [byte_toNat h]
 unfold digB
 simp
 omega
theorem byte_of {c:UInt8} (h:digB (c.toNat:Int)=true):48≤c.toNat∧c.toNat≤57∧c=UInt8.ofNat (48+(c.toNat - 48)):=by
 unfold digB at h
 simp at h
 have h1:48≤c.toNat:=by omega
 have h2:c.toNat≤57:=by omega
 refine ⟨h1,h2,?_⟩
 apply UInt8.toNat_inj.1
 rw [UInt8.toNat_ofNat']
 omega
theorem digits_dec (n:Nat):digits (Lib.decDigits n)=true:=by
 induction n using Nat.strongRecOn with
 | ind n ih=>
  rw [Lib.decDigits]
  split
  ·rename_i h
   unfold digits
   simp only [List.all_cons,List.all_nil,Bool.and_true]
   exact digB_byte h
  ·rename_i h
   rw [digits_append,ih _ (by omega),Bool.true_and]
   unfold digits
   simp only [List.all_cons,List.all_nil,Bool.and_true]
   exact digB_byte (by omega)
theorem decVal_dec (n:Nat):decVal (Lib.decDigits n)=n:=by
 induction n using Nat.strongRecOn with
 | ind n ih=>
  rw [Lib.decDigits]
  split
  ·rename_i h
   show 0*10+((UInt8.ofNat (48+n)).toNat - 48)=n
   rw [byte_toNat h]
   omega
  ·rename_i h
   rw [decVal_snoc,ih _ (by omega),byte_toNat (by omega)]
   omega
theorem dec_ne (n:Nat):Lib.decDigits n≠[]:=by
 have:=Dec.dec_length_pos n
 intro h
 rw [h] at this
 simp at this
theorem dec_head {n:Nat} (h:0<n):(Lib.decDigits n).head? ≠ some 48:=by
 induction n using Nat.strongRecOn with
 | ind n ih=>
  rw [Lib.decDigits]
  split
  ·rename_i h1
   intro e
   simp only [List.head?_cons,Option.some.injEq] at e
   have:=congrArg UInt8.toNat e
   rw [byte_toNat h1] at this
   have h48:(48:UInt8).toNat=48:=by decide
   omega
  ·rename_i h1
   have h2:=ih (n / 10) (by omega) (by omega)
   obtain ⟨x,t,hxt⟩:=List.exists_cons_of_ne_nil (dec_ne (n / 10))
   rw [hxt] at h2 ⊢
   exact h2
theorem isDec_dec (n:Nat):isDec (Lib.decDigits n)=true:=by
 unfold isDec
 rw [digits_dec,Bool.true_and]
 rcases Nat.eq_zero_or_pos n with rfl | h
 ·have e:Lib.decDigits 0=[48]:=by rw [Lib.decDigits];rfl
  simp [e]
 ·simp [dec_ne,dec_head h]
theorem dec_decVal:∀ (l:List UInt8),isDec l=true→Lib.decDigits (decVal l)=l:=by
 intro l
 induction hn:l.length using Nat.strongRecOn generalizing l with
 | ind n ih=>
  intro h
  subst hn
  by_cases h48:l=[48]
  ·subst h48
   decide +kernel
  ·have hd:digits l=true:=isDec_digits h
   have hne:l≠[]:=by
    intro e
    subst e
    simp [isDec] at h
   have hh:l.head? ≠ some 48:=by
    unfold isDec at h
    rw [hd] at h
    simp [h48] at h
    exact h.2
   obtain ⟨a,c,rfl⟩:∃ a c,l=a++[c]:=⟨l.dropLast,l.getLast hne,(List.dropLast_concat_getLast hne).symm⟩
   rw [digits_append] at hd
   have hda:digits a=true:=by
    cases hq:digits a
    ·rw [hq] at hd;simp at hd
    ·rfl
   have hdc:digB (c.toNat:Int)=true:=by
    rw [hda,Bool.true_and] at hd
    unfold digits at hd
    simpa using hd
   obtain ⟨h1,h2,h3⟩:=byte_of hdc
   rw [decVal_snoc]
   cases a with
   | nil=>
    have e0:decVal []=0:=rfl
    rw [e0,Nat.zero_mul,Nat.zero_add,Lib.decDigits,dif_pos (by omega),List.nil_append]
    rw [←h3]
   | cons x t=>
    have hx:(x :: t).head? ≠ some 48:=by simpa using hh
    have hda2:isDec (x :: t)=true:=by
     unfold isDec
     rw [hda,Bool.true_and]
     simp only [Bool.or_eq_true,Bool.and_eq_true,decide_eq_true_eq]
     exact .inr ⟨by simp,hx⟩
    have hp:0<decVal (x :: t):=decVal_pos hda2 (by intro e;rw [e] at hx;simp at hx)
    have hrec:=ih (x :: t).length (by simp) (x :: t) rfl hda2
    rw [Lib.decDigits,dif_neg (by omega),show (decVal (x :: t)*10+(c.toNat - 48)) / 10=decVal (x :: t) by omega,show (decVal (x :: t)*10+(c.toNat - 48)) % 10=c.toNat - 48 by omega,hrec,←h3]
theorem indexByte_none:∀ (l:List UInt8),(∀ c ∈ l,c≠47)→Lib.indexByte l 47 = -1
 | [],_=>rfl
 | b :: l,h=>by
  have h1:(b==47)=false:=beq_eq_false_iff_ne.2 (h b (List.mem_cons_self ..))
  have h2:=indexByte_none l (fun c hc=>h c (List.mem_cons_of_mem _ hc))
  unfold Lib.indexByte
  rw [h1,h2]
  rfl
theorem indexByte_slash:∀ (l r:List UInt8),(∀ c ∈ l,c≠47)→Lib.indexByte (l++47 :: r) 47=l.length
 | [],_,_=>rfl
 | b :: l,r,h=>by
  have h1:(b==47)=false:=beq_eq_false_iff_ne.2 (h b (List.mem_cons_self ..))
  have h2:=indexByte_slash l r (fun c hc=>h c (List.mem_cons_of_mem _ hc))
  show (if b==47 then (0:Int) else if Lib.indexByte (l++47 :: r) 47 == -1 then -1 else Lib.indexByte (l++47 :: r) 47+1)=_
  rw [h1,h2]
  have h3:((l.length:Int) == -1)=false:=by rw [beq_eq_false_iff_ne];omega
  simp [h3]
theorem cutL_none {l:List UInt8} (h:∀ c ∈ l,c≠47):cutL l=(l,[],false):=by
 unfold cutL
 rw [indexByte_none l h]
 rfl
theorem cutL_slash {l r:List UInt8} (h:∀ c ∈ l,c≠47):cutL (l++47 :: r)=(l,r,true):=by
 unfold cutL
 rw [indexByte_slash l r h,if_pos (by omega),Int.toNat_natCast]
 simp
theorem digit_mem {l:List UInt8} (h:digits l=true) {c:UInt8} (hc:c ∈ l):48≤c.toNat∧c.toNat≤57:=by
 unfold digits at h
 have:=byte_of (List.all_eq_true.1 h c hc)
 exact ⟨this.1,this.2.1⟩
def sgnT (neg:Bool) (t:List UInt8):List UInt8:=if neg then 45 :: t else t
theorem sgnT_slash {neg:Bool} {t:List UInt8} (h:digits t=true):∀ c ∈ sgnT neg t,c≠47:=by
 have h1:∀ c ∈ t,c≠47:=fun c hc e=>by
  have:=(digit_mem h hc).1
  rw [e] at this
  exact absurd this (by decide)
 unfold sgnT
 cases neg
 ·exact h1
 ·intro c hc
  rcases List.mem_cons.1 hc with rfl | hc
  ·decide
  ·exact h1 c hc
theorem sgnT_neg {neg:Bool} {t:List UInt8} (h:digits t=true):Lib.hasPrefix (sgnT neg t) [45]=neg∧Lib.trimPrefix (sgnT neg t) [45]=t:=by
 have h0:∀ neg,Lib.hasPrefix (sgnT neg t) [45]=neg:=by
  intro neg
  cases neg
  ·unfold sgnT Lib.hasPrefix
   cases t with
   | nil=>rfl
   | cons x r=>
    have:=(digit_mem h (List.mem_cons_self ..)).1
    have hx:((45:UInt8)==x)=false:=by
     rw [beq_eq_false_iff_ne]
     intro e
     rw [←e] at this
     exact absurd this (by decide)
    simp [List.isPrefixOf,hx]
  ·rfl
 refine ⟨h0 neg,?_⟩
 unfold Lib.trimPrefix
 rw [h0 neg]
 cases neg<;>rfl
def LowQ (p:Q):Prop:=0<p.bot∧Nat.gcd p.top p.bot=1∧(p.neg=true→0<p.top)
theorem writeS_eq (p:Q):writeS p=sgnT p.neg (Lib.decDigits p.top)++(if p.bot=1 then [] else 47 :: Lib.decDigits p.bot):=rfl
theorem dec_ne48 {n:Nat} (h:0<n):Lib.decDigits n≠[48]:=fun e=>by
 have:=decVal_dec n
 rw [e] at this
 have h48:decVal [48]=0:=by decide
 omega
theorem dec_ne49 {n:Nat} (h:n≠1):Lib.decDigits n≠[49]:=fun e=>by
 have:=decVal_dec n
 rw [e] at this
 have h49:decVal [49]=1:=by decide
 omega
theorem read_writeS (p:Q) (h:LowQ p) (h1:(Lib.decDigits p.top).length≤600) (h2:(Lib.decDigits p.bot).length≤600):readE (writeS p)=0∧readQ (writeS p)=p:=by
 obtain ⟨hb,hg,hn⟩:=h
 obtain ⟨hp,ht⟩:=sgnT_neg (neg:=p.neg) (digits_dec p.top)
 by_cases hb1:p.bot=1
 ·have hc:cutL (writeS p)=(sgnT p.neg (Lib.decDigits p.top),[],false):=by
   rw [writeS_eq,if_pos hb1,List.append_nil]
   exact cutL_none (sgnT_slash (digits_dec _))
  have e1:topL (writeS p)=Lib.decDigits p.top:=by unfold topL;rw [hc];exact ht
  have e2:negL (writeS p)=p.neg:=by unfold negL;rw [hc];exact hp
  have e3:botL (writeS p)=[]:=by unfold botL;rw [hc]
  have e4:fracL (writeS p)=false:=by unfold fracL;rw [hc]
  have he:readE (writeS p)=0:=by
   unfold readE readE'
   rw [e1,e2,e3,e4,if_neg,if_neg,if_neg,if_neg]
   ·simp
   ·simp;exact h1
   ·simp
   ·rw [isDec_dec]
    rintro (h | ⟨h,h'⟩)
    ·cases h
    ·exact dec_ne48 (hn h) h'
  refine ⟨he,?_⟩
  unfold readQ
  rw [if_pos he,e1,e2,e4,decVal_dec]
  cases p
  simp_all
 ·have hc:cutL (writeS p)=(sgnT p.neg (Lib.decDigits p.top),Lib.decDigits p.bot,true):=by
   rw [writeS_eq,if_neg hb1]
   exact cutL_slash (sgnT_slash (digits_dec _))
  have e1:topL (writeS p)=Lib.decDigits p.top:=by unfold topL;rw [hc];exact ht
  have e2:negL (writeS p)=p.neg:=by unfold negL;rw [hc];exact hp
  have e3:botL (writeS p)=Lib.decDigits p.bot:=by unfold botL;rw [hc]
  have e4:fracL (writeS p)=true:=by unfold fracL;rw [hc]
  have he:readE (writeS p)=0:=by
   unfold readE readE'
   rw [e1,e2,e3,e4,if_neg,if_neg,if_neg,if_neg]
   ·rw [decVal_dec,decVal_dec]
    simp [hg]
   ·omega
   ·rw [isDec_dec]
    rintro ⟨_,h | h | h⟩
    ·cases h
    ·exact dec_ne48 hb h
    ·exact dec_ne49 hb1 h
   ·rw [isDec_dec]
    rintro (h | ⟨h,h'⟩)
    ·cases h
    ·exact dec_ne48 (hn h) h'
  refine ⟨he,?_⟩
  unfold readQ
  rw [if_pos he,e1,e2,e3,e4,decVal_dec,decVal_dec]
  rfl
theorem cutL_join (l:List UInt8):l=(cutL l).1++(if (cutL l).2.2=true then 47 :: (cutL l).2.1 else []):=by
 unfold cutL
 split
 ·rename_i h
  obtain ⟨o,ho⟩:=Int.eq_ofNat_of_zero_le h
  obtain ⟨h1,_⟩:=Lib.indexByte_some ho
  rw [ho]
  simp only [Int.toNat_natCast,if_true]
  have hlt:o<l.length:=by
   rcases Nat.lt_or_ge o l.length with h3 | h3
   ·exact h3
   ·rw [List.getElem?_eq_none h3] at h1;cases h1
  rw [List.getElem?_eq_getElem hlt] at h1
  injection h1 with h1
  conv=>lhs;rw [←List.take_append_drop o l,List.drop_eq_getElem_cons hlt,h1]
 ·simp
theorem sgn_join (t:List UInt8):t=sgnT (Lib.hasPrefix t [45]) (Lib.trimPrefix t [45]):=by
 unfold sgnT Lib.trimPrefix
 cases h:Lib.hasPrefix t [45]
 ·rfl
 ·cases t with
  | nil=>cases h
  | cons x r=>
   unfold Lib.hasPrefix at h
   simp [List.isPrefixOf] at h
   subst h
   rfl
theorem write_readQ (l:List UInt8) (h:readE l=0):writeS (readQ l)=l:=by
 obtain ⟨h1,_,_,h4⟩:=readE_zero h
 have e0:readQ l=⟨negL l,decVal (topL l),if fracL l then decVal (botL l) else 1⟩:=by unfold readQ;rw [if_pos h]
 have ej:=cutL_join l
 have es:=sgn_join (cutL l).1
 rw [writeS_eq,e0]
 dsimp only
 rw [dec_decVal _ h1]
 have e1:sgnT (negL l) (topL l)=(cutL l).1:=es.symm
 rw [e1]
 cases hf:fracL l
 ·have hf2:(cutL l).2.2=false:=hf
  rw [hf2] at ej
  simpa using ej.symm
 ·have hf2:(cutL l).2.2=true:=hf
  obtain ⟨h5,h6,h7,_⟩:=h4 hf
  have hne:decVal (botL l)≠1:=fun e=>by
   have:=dec_decVal _ h5
   rw [e] at this
   exact h7 (this.symm.trans (by decide +kernel))
  rw [hf2] at ej
  simp only [if_true] at ej
  rw [if_pos rfl,if_neg hne,dec_decVal _ h5]
  exact ej.symm
end Go.Proofs.YtjhgadajpliclaaGreatDoor
