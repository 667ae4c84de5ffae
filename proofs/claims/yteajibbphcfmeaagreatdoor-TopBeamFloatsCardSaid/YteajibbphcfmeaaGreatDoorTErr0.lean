/- Errors: the first of a list; a number in a range. Slices of ints. -/
import Derived.Test.YteajibbphcfmeaaGreatDoorTRow
import Derived.Test.YteajibbphcfmeaaGreatDoorTRead2
import Derived.Test.YteajibbphcfmeaaGreatDoorTRat2
import Derived.Test.YteajibbphcfmeaaGreatDoorTText
namespace Go.Proofs.YteajibbphcfmeaaGreatDoor
open Go.RowKit
def i64v (d:Int):Value := .int .i64 d
def firstE:List Int→Int
 | []=>0
 | x :: t=>if x≠0 then x else firstE t
theorem Reads.lit (w:World) (l:List Value) (t:TypeId):Reads (w.alloc (.cells l.toArray t)) (w.alloc (.cells l.toArray t)).heap.size 1 (some ⟨w.heap.size,0,none⟩) l.length l:=by
 refine ⟨by simp,fun _=>⟨_,rfl,by simp,fun j u hu => ?_⟩⟩
 have h:=cell_of_row (w.alloc (.cells l.toArray t)) w.heap.size j l.toArray t (0,0) (heap_alloc_new w _)
 have e:(⟨w.heap.size,0,none⟩:Addr).add j=⟨w.heap.size,j,none⟩:=by
  unfold Addr.add
  by_cases hj:j=0<;>simp [hj]
 rw [e,h]
 simpa using hu
set_option maxHeartbeats 400000 in
theorem nfirst_any (A:Option Addr) (n c:Nat) (l:List Int) (w:World) (h:Reads w w.heap.size 1 A n (l.map i64v)) (hn:n≤maxLen) :
  Calls Tryz.prog 70 #[.slice A n c] w fun e w'=>e = .returned (.int .i64 (firstE l))∧w=w':=by
 unfold maxLen at hn
 have hl:l.length=n:=by have:=h.1;rw [List.length_map] at this;omega
 go_enter Tryz.func70,Tryz.ntmps70
 go_wp2
 have HL:=Lib.hid hl
 clear hl
 go_loop [7] (fun s=>∃ k:Nat,k≤n∧s = .int .i64 k∧Hid (firstE l=firstE (l.drop k))) (fun s=>n - (intOf s).toNat)
 case atStart=>exact ⟨0,Nat.zero_le _,rfl,rfl⟩
 case round=>
  obtain ⟨k,hk,rfl,hf⟩:=hrel
  by_cases h0:k<n
  ·obtain ⟨ad,u,rfl,hb,hu,hcell⟩:=h.at_ h0
   have hkl:k<l.length:=by have:=HL.out;omega
   have hu2:u = .int .i64 l[k]:=by
    rw [List.getElem?_map,List.getElem?_eq_getElem hkl] at hu
    injection hu with hu;exact hu.symm
   have hf2:=hf.out
   rw [List.drop_eq_getElem_cons hkl] at hf2
   generalize l[k]=x at hu2 hf2
   subst hu2
   by_cases hx:x=0
   ·subst hx
    have hf3:Hid (firstE l=firstE (l.drop (k+1))):=by unfold Hid;rw [hf2];rfl
    clear hf2 hu
    go_wp2
    go_round
    case rel=>exact ⟨k+1,by omega,by go_num,hf3⟩
    case measure=>simp [intOf];omega
   ·have hf3:Hid (firstE l=x):=by unfold Hid;rw [hf2];unfold firstE;rw [if_pos hx]
    have hx1:(x != 0)=true:=by simpa using hx
    clear hf2 hu hx
    go_wp2
    go_ret
    exact ⟨by rw [hf3.out];rfl,rfl⟩
  ·have hk2:k=n:=by omega
   have hf3:Hid (firstE l=0):=by
    unfold Hid;rw [hf.out,List.drop_eq_nil_of_le (by have:=HL.out;omega)];rfl
   clear hk2
   go_wp2
   go_ret
   exact ⟨by rw [hf3.out];rfl,rfl⟩
theorem nfirst_two (x y:Int) (w:World) (t:TypeId) (g:Nat) (hg:w.heap.size=g) :
  Calls Tryz.prog 70 #[.slice (some ⟨g,0,none⟩) 2 2] (w.alloc (.cells #[.int .i64 x,.int .i64 y] t)) fun e w'=>e = .returned (.int .i64 (if x≠0 then x else y))∧w.alloc (.cells #[.int .i64 x,.int .i64 y] t)=w':=by
 subst hg
 have h:=nfirst_any (some ⟨w.heap.size,0,none⟩) 2 2 [x,y] (w.alloc (.cells #[.int .i64 x,.int .i64 y] t)) (Reads.lit w [.int .i64 x,.int .i64 y] t) (by unfold maxLen;omega)
 have e:firstE [x,y]=if x≠0 then x else y:=by unfold firstE;split<;>(try rfl);unfold firstE;split<;>simp_all [firstE]
 rwa [e] at h
end Go.Proofs.YteajibbphcfmeaaGreatDoor
namespace Go.Proofs.YteajibbphcfmeaaGreatDoor
open Go.RowKit Bn
theorem readE_zero {l:List UInt8} (h:readE l=0) :
  isDec (topL l)=true∧(topL l).length≤600∧(negL l=true→topL l≠[48]) ∧
   (fracL l=true→isDec (botL l)=true∧botL l≠[48]∧botL l≠[49]∧(botL l).length≤600∧Nat.gcd (decVal (topL l)) (decVal (botL l))=1):=by
 unfold readE readE' at h
 by_cases h1:isDec (topL l)=false∨(negL l=true∧topL l=[48])
 ·rw [if_pos h1] at h;cases h
 ·rw [if_neg h1] at h
  by_cases h2:fracL l=true∧(isDec (botL l)=false∨botL l=[48]∨botL l=[49])
  ·rw [if_pos h2] at h;cases h
  ·rw [if_neg h2] at h
   by_cases h3:600<(topL l).length∨600<(botL l).length
   ·rw [if_pos h3] at h;cases h
   ·rw [if_neg h3] at h
    by_cases h4:fracL l=true∧Nat.gcd (decVal (topL l)) (decVal (botL l))≠1
    ·rw [if_pos h4] at h;cases h
    ·refine ⟨by cases hd:isDec (topL l)<;>simp_all,by omega,fun hn e=>h1 (.inr ⟨hn,e⟩),fun hf=>⟨?_,fun e=>h2 ⟨hf,.inr (.inl e)⟩,fun e=>h2 ⟨hf,.inr (.inr e)⟩,by omega,?_⟩⟩
     ·cases hd:isDec (botL l)
      ·exact absurd ⟨hf,.inl hd⟩ h2
      ·rfl
     ·exact Classical.byContradiction fun e=>h4 ⟨hf,e⟩
theorem decVal_pos {l:List UInt8} (h:isDec l=true) (h0:l≠[48]):0<decVal l:=by
 unfold isDec at h
 rw [Bool.and_eq_true,Bool.or_eq_true] at h
 obtain ⟨hd,h | h⟩:=h
 ·exact absurd (by simpa using h) h0
 ·cases l with
  | nil=>simp at h
  | cons c t=>
   simp at h
   have e:digits (c :: t)=(digB (c.toNat:Int) && digits t):=rfl
   rw [e,Bool.and_eq_true] at hd
   have hc:=hd.1
   unfold digB at hc
   simp only [Bool.and_eq_true,decide_eq_true_eq] at hc
   have hne:c.toNat≠48:=fun e=>h (UInt8.toNat_inj.1 (by rw [e];rfl))
   rw [decVal_cons]
   have:0<(c.toNat - 48)*10 ^ t.length:=Nat.mul_pos (by omega) (Nat.pow_pos (by omega))
   omega
theorem readQ_bot {l:List UInt8} (h:readE l=0):0<(readQ l).bot:=by
 obtain ⟨_,_,_,hf⟩:=readE_zero h
 unfold readQ
 rw [if_pos h]
 cases hb:fracL l
 ·simp
 ·obtain ⟨h1,h2,_⟩:=hf hb
  simpa using decVal_pos h1 h2
theorem readQ_len {l:List UInt8} (h:readE l=0):(digs (readQ l).top).length≤600∧(digs (readQ l).bot).length≤600:=by
 obtain ⟨h1,h2,_,hf⟩:=readE_zero h
 unfold readQ
 rw [if_pos h]
 refine ⟨digs_len_dec (isDec_digits h1) h2,?_⟩
 cases hb:fracL l
 ·simp only [Bool.false_eq_true,if_false]
  exact Nat.le_trans (digs_length_le (k:=1) (by rw [B_def];omega)) (by omega)
 ·obtain ⟨h3,_,_,h4,_⟩:=hf hb
  simpa using digs_len_dec (isDec_digits h3) h4
theorem readQ_gcd {l:List UInt8} (h:readE l=0):Nat.gcd (readQ l).top (readQ l).bot=1:=by
 obtain ⟨_,_,_,hf⟩:=readE_zero h
 unfold readQ
 rw [if_pos h]
 cases hb:fracL l
 ·simp
 ·simpa using (hf hb).2.2.2.2
theorem readQ_neg {l:List UInt8} (h:readE l=0):(readQ l).neg=true→0<(readQ l).top:=by
 obtain ⟨h1,_,h3,_⟩:=readE_zero h
 unfold readQ
 rw [if_pos h]
 intro hn
 exact decVal_pos h1 (h3 hn)
theorem byte_toNat {n:Nat} (h:n<10):(UInt8.ofNat (48+n)).toNat=48+n:=by
 rw [UInt8.toNat_ofNat']
 omega
theorem digB_byte {n:Nat} (h:n<10):digB ((UInt8.ofNat (48+n)).toNat:Int)=true:=by
 rw [byte_toNat h]
 unfold digB
 simp
 omega
theorem byte_of {c:UInt8} (h:digB (c.toNat:Int)=true):48≤c.toNat∧c.toNat≤57∧c=UInt8.ofNat (48+(c.toNat - 48)):=by
 unfold digB at h
 simp at h
 have h1:48≤c.toNat:=by omega
 have h2:c.toNat≤57:=by omega
 refine ⟨h1,h2,?_⟩
 apply UInt8.toNat_inj.1
 rw [UInt8.toNat_ofNat']
 omega
theorem digits_dec (n:Nat):digits (Lib.decDigits n)=true:=by
 induction n using Nat.strongRecOn with
 | ind n ih=>
  rw [Lib.decDigits]
  split
  ·rename_i h
   unfold digits
   simp only [List.all_cons,List.all_nil,Bool.and_true]
   exact digB_byte h
  ·rename_i h
   rw [digits_append,ih _ (by omega),Bool.true_and]
   unfold digits
   simp only [List.all_cons,List.all_nil,Bool.and_true]
   exact digB_byte (by omega)
theorem decVal_dec (n:Nat):decVal (Lib.decDigits n)=n:=by
 induction n using Nat.strongRecOn with
 | ind n ih=>
  rw [Lib.decDigits]
  split
  ·rename_i h
   show 0*10+((UInt8.ofNat (48+n)).toNat - 48)=n
   rw [byte_toNat h]
   omega
  ·rename_i h
   rw [decVal_snoc,ih _ (by omega),byte_toNat (by omega)]
   omega
theorem dec_ne (n:Nat):Lib.decDigits n≠[]:=by
 have:=Dec.dec_length_pos n
 intro h
 rw [h] at this
 simp at this
theorem dec_head {n:Nat} (h:0<n):(Lib.decDigits n).head? ≠ some 48:=by
 induction n using Nat.strongRecOn with
 | ind n ih=>
  rw [Lib.decDigits]
  split
  ·rename_i h1
   intro e
   simp only [List.head?_cons,Option.some.injEq] at e
   have:=congrArg UInt8.toNat e
   rw [byte_toNat h1] at this
   have h48:(48:UInt8).toNat=48:=by decide
   omega
  ·rename_i h1
   have h2:=ih (n / 10) (by omega) (by omega)
   obtain ⟨x,t,hxt⟩:=List.exists_cons_of_ne_nil (dec_ne (n / 10))
   rw [hxt] at h2 ⊢
   exact h2
theorem isDec_dec (n:Nat):isDec (Lib.decDigits n)=true:=by
 unfold isDec
 rw [digits_dec,Bool.true_and]
 rcases Nat.eq_zero_or_pos n with rfl | h
 ·have e:Lib.decDigits 0=[48]:=by rw [Lib.decDigits];rfl
  simp [e]
 ·simp [dec_ne,dec_head h]
theorem dec_decVal:∀ (l:List UInt8),isDec l=true→Lib.decDigits (decVal l)=l:=by
 intro l
 induction hn:l.length using Nat.strongRecOn generalizing l with
 | ind n ih=>
  intro h
  subst hn
  by_cases h48:l=[48]
  ·subst h48
   decide +kernel
  ·have hd:digits l=true:=isDec_digits h
   have hne:l≠[]:=by
    intro e
    subst e
    simp [isDec] at h
   have hh:l.head? ≠ some 48:=by
    unfold isDec at h
    rw [hd] at h
    simp [h48] at h
    exact h.2
   obtain ⟨a,c,rfl⟩:∃ a c,l=a++[c]:=⟨l.dropLast,l.getLast hne,(List.dropLast_concat_getLast hne).symm⟩
   rw [digits_append] at hd
   have hda:digits a=true:=by
    cases hq:digits a
    ·rw [hq] at hd;simp at hd
    ·rfl
   have hdc:digB (c.toNat:Int)=true:=by
    rw [hda,Bool.true_and] at hd
    unfold digits at hd
    simpa using hd
   obtain ⟨h1,h2,h3⟩:=byte_of hdc
   rw [decVal_snoc]
   cases a with
   | nil=>
    have e0:decVal []=0:=rfl
    rw [e0,Nat.zero_mul,Nat.zero_add,Lib.decDigits,dif_pos (by omega),List.nil_append]
    rw [←h3]
   | cons x t=>
    have hx:(x :: t).head? ≠ some 48:=by simpa using hh
    have hda2:isDec (x :: t)=true:=by
     unfold isDec
     rw [hda,Bool.true_and]
     simp only [Bool.or_eq_true,Bool.and_eq_true,decide_eq_true_eq]
     exact .inr ⟨by simp,hx⟩
    have hp:0<decVal (x :: t):=decVal_pos hda2 (by intro e;rw [e] at hx;simp at hx)
    have hrec:=ih (x :: t).length (by simp) (x :: t) rfl hda2
    rw [Lib.decDigits,dif_neg (by omega),show (decVal (x :: t)*10+(c.toNat - 48)) / 10=decVal (x :: t) by omega,show (decVal (x :: t)*10+(c.toNat - 48)) % 10=c.toNat - 48 by omega,hrec,←h3]
theorem indexByte_none:∀ (l:List UInt8),(∀ c ∈ l,c≠47)→Lib.indexByte l 47 = -1
 | [],_=>rfl
 | b :: l,h=>by
  have h1:(b==47)=false:=beq_eq_false_iff_ne.2 (h b (List.mem_cons_self ..))
  have h2:=indexByte_none l (fun c hc=>h c (List.mem_cons_of_mem _ hc))
  unfold Lib.indexByte
  rw [h1,h2]
  rfl
theorem indexByte_slash:∀ (l r:List UInt8),(∀ c ∈ l,c≠47)→Lib.indexByte (l++47 :: r) 47=l.length
 | [],_,_=>rfl
 | b :: l,r,h=>by
  have h1:(b==47)=false:=beq_eq_false_iff_ne.2 (h b (List.mem_cons_self ..))
  have h2:=indexByte_slash l r (fun c hc=>h c (List.mem_cons_of_mem _ hc))
  show (if b==47 then (0:Int) else if Lib.indexByte (l++47 :: r) 47 == -1 then -1 else Lib.indexByte (l++47 :: r) 47+1)=_
  rw [h1,h2]
  have h3:((l.length:Int) == -1)=false:=by rw [beq_eq_false_iff_ne];omega
  simp [h3]
theorem cutL_none {l:List UInt8} (h:∀ c ∈ l,c≠47):cutL l=(l,[],false):=by
 unfold cutL
 rw [indexByte_none l h]
 rfl
theorem cutL_slash {l r:List UInt8} (h:∀ c ∈ l,c≠47):cutL (l++47 :: r)=(l,r,true):=by
 unfold cutL
 rw [indexByte_slash l r h,if_pos (by omega),Int.toNat_natCast]
 simp
theorem digit_mem {l:List UInt8} (h:digits l=true) {c:UInt8} (hc:c ∈ l):48≤c.toNat∧c.toNat≤57:=by
 unfold digits at h
 have:=byte_of (List.all_eq_true.1 h c hc)
 exact ⟨this.1,this.2.1⟩
def sgnT (neg:Bool) (t:List UInt8):List UInt8:=if neg then 45 :: t else t
theorem sgnT_slash {neg:Bool} {t:List UInt8} (h:digits t=true):∀ c ∈ sgnT neg t,c≠47:=by
 have h1:∀ c ∈ t,c≠47:=fun c hc e=>by
  have:=(digit_mem h hc).1
  rw [e] at this
  exact absurd this (by decide)
 unfold sgnT
 cases neg
 ·exact h1
 ·intro c hc
  rcases List.mem_cons.1 hc with rfl | hc
  ·decide
  ·exact h1 c hc
theorem sgnT_neg {neg:Bool} {t:List UInt8} (h:digits t=true):Lib.hasPrefix (sgnT neg t) [45]=neg∧Lib.trimPrefix (sgnT neg t) [45]=t:=by
 have h0:∀ neg,Lib.hasPrefix (sgnT neg t) [45]=neg:=by
  intro neg
  cases neg
  ·unfold sgnT Lib.hasPrefix
   cases t with
   | nil=>rfl
   | cons x r=>
    have:=(digit_mem h (List.mem_cons_self ..)).1
    have hx:((45:UInt8)==x)=false:=by
     rw [beq_eq_false_iff_ne]
     intro e
     rw [←e] at this
     exact absurd this (by decide)
    simp [List.isPrefixOf,hx]
  ·rfl
 refine ⟨h0 neg,?_⟩
 unfold Lib.trimPrefix
 rw [h0 neg]
 cases neg<;>rfl
def LowQ (p:Q):Prop:=0<p.bot∧Nat.gcd p.top p.bot=1∧(p.neg=true→0<p.top)
theorem writeS_eq (p:Q):writeS p=sgnT p.neg (Lib.decDigits p.top)++(if p.bot=1 then [] else 47 :: Lib.decDigits p.bot):=rfl
theorem dec_ne48 {n:Nat} (h:0<n):Lib.decDigits n≠[48]:=fun e=>by
 have:=decVal_dec n
 rw [e] at this
 have h48:decVal [48]=0:=by decide
 omega
theorem dec_ne49 {n:Nat} (h:n≠1):Lib.decDigits n≠[49]:=fun e=>by
 have:=decVal_dec n
 rw [e] at this
 have h49:decVal [49]=1:=by decide
 omega
theorem read_writeS (p:Q) (h:LowQ p) (h1:(Lib.decDigits p.top).length≤600) (h2:(Lib.decDigits p.bot).length≤600):readE (writeS p)=0∧readQ (writeS p)=p:=by
 obtain ⟨hb,hg,hn⟩:=h
 obtain ⟨hp,ht⟩:=sgnT_neg (neg:=p.neg) (digits_dec p.top)
 by_cases hb1:p.bot=1
 ·have hc:cutL (writeS p)=(sgnT p.neg (Lib.decDigits p.top),[],false):=by
   rw [writeS_eq,if_pos hb1,List.append_nil]
   exact cutL_none (sgnT_slash (digits_dec _))
  have e1:topL (writeS p)=Lib.decDigits p.top:=by unfold topL;rw [hc];exact ht
  have e2:negL (writeS p)=p.neg:=by unfold negL;rw [hc];exact hp
  have e3:botL (writeS p)=[]:=by unfold botL;rw [hc]
  have e4:fracL (writeS p)=false:=by unfold fracL;rw [hc]
  have he:readE (writeS p)=0:=by
   unfold readE readE'
   rw [e1,e2,e3,e4,if_neg,if_neg,if_neg,if_neg]
   ·simp
   ·simp;exact h1
   ·simp
   ·rw [isDec_dec]
    rintro (h | ⟨h,h'⟩)
    ·cases h
    ·exact dec_ne48 (hn h) h'
  refine ⟨he,?_⟩
  unfold readQ
  rw [if_pos he,e1,e2,e4,decVal_dec]
  cases p
  simp_all
 ·have hc:cutL (writeS p)=(sgnT p.neg (Lib.decDigits p.top),Lib.decDigits p.bot,true):=by
   rw [writeS_eq,if_neg hb1]
   exact cutL_slash (sgnT_slash (digits_dec _))
  have e1:topL (writeS p)=Lib.decDigits p.top:=by unfold topL;rw [hc];exact ht
  have e2:negL (writeS p)=p.neg:=by unfold negL;rw [hc];exact hp
  have e3:botL (writeS p)=Lib.decDigits p.bot:=by unfold botL;rw [hc]
  have e4:fracL (writeS p)=true:=by unfold fracL;rw [hc]
  have he:readE (writeS p)=0:=by
   unfold readE readE'
   rw [e1,e2,e3,e4,if_neg,if_neg,if_neg,if_neg]
   ·rw [decVal_dec,decVal_dec]
    simp [hg]
   ·omega
   ·rw [isDec_dec]
    rintro ⟨_,h | h | h⟩
    ·cases h
    ·exact dec_ne48 hb h
    ·exact dec_ne49 hb1 h
   ·rw [isDec_dec]
    rintro (h | ⟨h,h'⟩)
    ·cases h
    ·exact dec_ne48 (hn h) h'
  refine ⟨he,?_⟩
  unfold readQ
  rw [if_pos he,e1,e2,e3,e4,decVal_dec,decVal_dec]
  rfl
theorem cutL_join (l:List UInt8):l=(cutL l).1++(if (cutL l).2.2=true then 47 :: (cutL l).2.1 else []):=by
 unfold cutL
 split
 ·rename_i h
  obtain ⟨o,ho⟩:=Int.eq_ofNat_of_zero_le h
  obtain ⟨h1,_⟩:=Lib.indexByte_some ho
  rw [ho]
  simp only [Int.toNat_natCast,if_true]
  have hlt:o<l.length:=by
   rcases Nat.lt_or_ge o l.length with h3 | h3
   ·exact h3
   ·rw [List.getElem?_eq_none h3] at h1;cases h1
  rw [List.getElem?_eq_getElem hlt] at h1
  injection h1 with h1
  conv=>lhs;rw [←List.take_append_drop o l,List.drop_eq_getElem_cons hlt,h1]
 ·simp
theorem sgn_join (t:List UInt8):t=sgnT (Lib.hasPrefix t [45]) (Lib.trimPrefix t [45]):=by
 unfold sgnT Lib.trimPrefix
 cases h:Lib.hasPrefix t [45]
 ·rfl
 ·cases t with
  | nil=>cases h
  | cons x r=>
   unfold Lib.hasPrefix at h
   simp [List.isPrefixOf] at h
   subst h
   rfl
theorem write_readQ (l:List UInt8) (h:readE l=0):writeS (readQ l)=l:=by
 obtain ⟨h1,_,_,h4⟩:=readE_zero h
 have e0:readQ l=⟨negL l,decVal (topL l),if fracL l then decVal (botL l) else 1⟩:=by unfold readQ;rw [if_pos h]
 have ej:=cutL_join l
 have es:=sgn_join (cutL l).1
 rw [writeS_eq,e0]
 dsimp only
 rw [dec_decVal _ h1]
 have e1:sgnT (negL l) (topL l)=(cutL l).1:=es.symm
 rw [e1]
 cases hf:fracL l
 ·have hf2:(cutL l).2.2=false:=hf
  rw [hf2] at ej
  simpa using ej.symm
 ·have hf2:(cutL l).2.2=true:=hf
  obtain ⟨h5,h6,h7,_⟩:=h4 hf
  have hne:decVal (botL l)≠1:=fun e=>by
   have:=dec_decVal _ h5
   rw [e] at this
   exact h7 (this.symm.trans (by decide +kernel))
  rw [hf2] at ej
  simp only [if_true] at ej
  rw [if_pos rfl,if_neg hne,dec_decVal _ h5]
  exact ej.symm
end Go.Proofs.YteajibbphcfmeaaGreatDoor
namespace Go.Proofs.YteajibbphcfmeaaGreatDoor.Dn
def B:Nat:=1000000000
theorem B_def:B=1000000000:=rfl
theorem B_pos:0<B:=by decide
theorem B_gt1:1<B:=by decide
def val:List Nat→Nat
 | []=>0
 | x :: xs=>x+B*val xs
def Wf (l:List Nat):Prop:=∀ x ∈ l,x<B
theorem Wf.nil:Wf []:=fun _ h=>by cases h
theorem Wf.cons {x:Nat} {l:List Nat} (h:x<B) (k:Wf l):Wf (x :: l):=by
 intro y hy
 rcases List.mem_cons.1 hy with rfl | hy
 ·exact h
 ·exact k y hy
theorem Wf.replicate (n:Nat):Wf (List.replicate n 0):=fun _ hy=>by rw [(List.mem_replicate.1 hy).2];exact B_pos
theorem Wf.head {x:Nat} {l:List Nat} (h:Wf (x :: l)):x<B:=h x (by simp)
theorem Wf.tail {x:Nat} {l:List Nat} (h:Wf (x :: l)):Wf l:=fun y hy=>h y (by simp [hy])
theorem Wf.append {a b:List Nat} (h:Wf a) (k:Wf b):Wf (a++b):=by
 intro y hy
 rcases List.mem_append.1 hy with hy | hy
 ·exact h y hy
 ·exact k y hy
theorem Wf.take {a:List Nat} (h:Wf a) (n:Nat):Wf (a.take n):=fun y hy=>h y (List.mem_of_mem_take hy)
theorem Wf.drop {a:List Nat} (h:Wf a) (n:Nat):Wf (a.drop n):=fun y hy=>h y (List.mem_of_mem_drop hy)
theorem Wf.get {a:List Nat} (h:Wf a) {i:Nat} (hi:i<a.length):a[i]<B:=h _ (List.getElem_mem hi)
theorem Wf.set {a:List Nat} (h:Wf a) (i:Nat) {x:Nat} (hx:x<B):Wf (a.set i x):=by
 intro y hy
 rcases List.mem_or_eq_of_mem_set hy with hy | rfl
 ·exact h y hy
 ·exact hx
@[simp] theorem val_nil:val []=0:=rfl
@[simp] theorem val_cons (x:Nat) (xs:List Nat):val (x :: xs)=x+B*val xs:=rfl
theorem val_append (a b:List Nat):val (a++b)=val a+B ^ a.length*val b:=by
 induction a with
 | nil=>simp
 | cons x a ih=>
  simp only [List.cons_append,val_cons,ih,List.length_cons,Nat.pow_succ]
  rw [Nat.mul_add,←Nat.mul_assoc,Nat.mul_comm B (B ^ a.length),Nat.add_assoc]
theorem val_single (x:Nat):val [x]=x:=by simp
theorem val_lt {l:List Nat} (h:Wf l):val l<B ^ l.length:=by
 induction l with
 | nil=>simp
 | cons x l ih=>
  have h1:=ih h.tail
  have h2:=h.head
  simp only [val_cons,List.length_cons,Nat.pow_succ]
  have:B*val l+B≤B*B ^ l.length:=by
   have:B*(val l+1)≤B*B ^ l.length:=Nat.mul_le_mul_left B h1
   rwa [Nat.mul_add,Nat.mul_one] at this
  rw [Nat.mul_comm (B ^ l.length) B]
  omega
theorem val_take_succ (l:List Nat) (k:Nat) (h:k<l.length):val (l.take (k+1))=val (l.take k)+B ^ k*l[k]:=by
 rw [List.take_succ_eq_append_getElem h,val_append,val_single,List.length_take,Nat.min_eq_left (by omega)]
theorem val_split (l:List Nat) (k:Nat) (h:k≤l.length):val l=val (l.take k)+B ^ k*val (l.drop k):=by
 have h1:=val_append (l.take k) (l.drop k)
 rw [List.take_append_drop,List.length_take,Nat.min_eq_left h] at h1
 exact h1
theorem val_replicate_zero (n:Nat):val (List.replicate n 0)=0:=by
 induction n with
 | zero=>rfl
 | succ n ih=>simp [List.replicate_succ,ih]
theorem val_zeros {l:List Nat} (h:∀ x ∈ l,x=0):val l=0:=by
 induction l with
 | nil=>rfl
 | cons x l ih=>
  have:=h x (by simp)
  simp [this,ih (fun y hy=>h y (by simp [hy]))]
def digs (n:Nat):List Nat:=if n=0 then [] else (n % B) :: digs (n / B)
termination_by n
decreasing_by
 rename_i h
 exact Nat.div_lt_self (by omega) B_gt1
theorem digs_zero:digs 0=[]:=by rw [digs];rfl
theorem digs_pos {n:Nat} (h:0<n):digs n=(n % B) :: digs (n / B):=by rw [digs,if_neg (by omega)]
theorem val_digs (n:Nat):val (digs n)=n:=by
 induction n using Nat.strongRecOn with
 | ind n ih=>
  rcases Nat.eq_zero_or_pos n with rfl | h
  ·rw [digs_zero];rfl
  ·rw [digs_pos h,val_cons,ih _ (Nat.div_lt_self h B_gt1)]
   exact Nat.mod_add_div n B
theorem wf_digs (n:Nat):Wf (digs n):=by
 induction n using Nat.strongRecOn with
 | ind n ih=>
  rcases Nat.eq_zero_or_pos n with rfl | h
  ·rw [digs_zero];exact Wf.nil
  ·rw [digs_pos h]
   exact Wf.cons (Nat.mod_lt _ B_pos) (ih _ (Nat.div_lt_self h B_gt1))
theorem digs_ne_nil {n:Nat} (h:0<n):digs n≠[]:=by rw [digs_pos h];simp
theorem digs_eq_nil {n:Nat}:digs n=[]↔n=0:=by
 constructor
 ·intro h
  rcases Nat.eq_zero_or_pos n with h0 | h0
  ·exact h0
  ·exact absurd h (digs_ne_nil h0)
 ·rintro rfl;exact digs_zero
theorem digs_length_pos {n:Nat} (h:0<n):0<(digs n).length:=List.length_pos_iff.2 (digs_ne_nil h)
theorem digs_length_zero {n:Nat}:(digs n).length=0↔n=0:=by rw [List.length_eq_zero_iff];exact digs_eq_nil
def Norm (l:List Nat):Prop:=∀ h:0<l.length,l[l.length - 1]≠0
theorem norm_digs (n:Nat):Norm (digs n):=by
 induction n using Nat.strongRecOn with
 | ind n ih=>
  intro h0
  rcases Nat.eq_zero_or_pos n with rfl | h
  ·simp [digs_zero] at h0
  ·have ih':=ih _ (Nat.div_lt_self h B_gt1)
   have e:=digs_pos h
   rcases Nat.eq_zero_or_pos (n / B) with hq | hq
   ·have e2:digs n=[n % B]:=by rw [e,hq,digs_zero]
    have:n % B≠0:=by
     have:=Nat.mod_add_div n B
     rw [hq] at this;omega
    simp only [e2]
    simpa using this
   ·have hl:=digs_length_pos hq
    have h2:=ih' hl
    simp only [e,List.length_cons,Nat.add_sub_cancel]
    rw [List.getElem_cons,dif_neg (by omega)]
    exact h2
theorem digs_val {l:List Nat} (hw:Wf l) (hn:Norm l):digs (val l)=l:=by
 induction l with
 | nil=>exact digs_zero
 | cons x l ih=>
  have hx:=hw.head
  have hpos:0<x+B*val l:=by
   rcases Nat.eq_zero_or_pos l.length with h0 | h0
   ·have:l=[]:=List.eq_nil_of_length_eq_zero h0
    subst this
    have:=hn (by simp)
    simp at this
    omega
   ·have hn':Norm l:=by
     intro h
     have:=hn (by simp)
     simp only [List.length_cons,Nat.add_sub_cancel] at this
     rw [List.getElem_cons,dif_neg (by omega)] at this
     exact this
    have e:=ih hw.tail hn'
    have:val l≠0:=by
     intro hz
     rw [hz,digs_zero] at e
     subst e
     simp at h0
    have:=Nat.mul_pos B_pos (Nat.pos_of_ne_zero this)
    omega
  rw [val_cons,digs_pos hpos]
  have h1:(x+B*val l) % B=x:=by rw [Nat.add_mul_mod_self_left,Nat.mod_eq_of_lt hx]
  have h2:(x+B*val l) / B=val l:=by rw [Nat.add_mul_div_left _ _ B_pos,Nat.div_eq_of_lt hx,Nat.zero_add]
  rw [h1,h2]
  rcases Nat.eq_zero_or_pos l.length with h0 | h0
  ·have:l=[]:=List.eq_nil_of_length_eq_zero h0
   subst this
   simp [digs_zero]
  ·rw [ih hw.tail]
   intro h
   have:=hn (by simp)
   simp only [List.length_cons,Nat.add_sub_cancel] at this
   rw [List.getElem_cons,dif_neg (by omega)] at this
   exact this
theorem take_trim {l:List Nat} (hw:Wf l) (n:Nat) (hn:n≤l.length) (hz:∀ j (h:j<l.length),n≤j→l[j]=0)
  (ht:∀ h:n - 1<l.length,0<n→l[n - 1]≠0):l.take n=digs (val l):=by
 have h1:val (l.drop n)=0:=by
  apply val_zeros
  intro x hx
  obtain ⟨i,hi,rfl⟩:=List.getElem_of_mem hx
  rw [List.getElem_drop]
  exact hz _ _ (by omega)
 rw [val_split l n hn,h1,Nat.mul_zero,Nat.add_zero]
 refine (digs_val (hw.take n) ?_).symm
 intro h0
 rw [List.length_take,Nat.min_eq_left hn] at h0
 simp only [List.length_take,Nat.min_eq_left hn,List.getElem_take]
 exact ht (by omega) h0
theorem digs_length_le {n k:Nat} (h:n<B ^ k):(digs n).length≤k:=by
 rcases Nat.eq_zero_or_pos n with rfl | hp
 ·simp [digs_zero]
 ·rcases Nat.lt_or_ge k (digs n).length with hk | hk
  ·exfalso
   have hn:=norm_digs n (digs_length_pos hp)
   have hs:=val_split (digs n) ((digs n).length - 1) (by omega)
   rw [val_digs] at hs
   have hd:(digs n).drop ((digs n).length - 1)=[(digs n)[(digs n).length - 1]]:=by
    rw [List.drop_eq_getElem_cons (by omega)]
    congr 1
    apply List.drop_eq_nil_of_le
    omega
   rw [hd,val_single] at hs
   have:B ^ k≤B ^ ((digs n).length - 1):=Nat.pow_le_pow_right B_pos (by omega)
   have h1:1≤(digs n)[(digs n).length - 1]:=Nat.pos_of_ne_zero hn
   have:=Nat.le_mul_of_pos_right (B ^ ((digs n).length - 1)) h1
   omega
  ·exact hk
theorem lt_of_digs_length (n:Nat):n<B ^ (digs n).length:=by
 have:=val_lt (wf_digs n)
 rwa [val_digs] at this
theorem pow_le_of_digs_length {n:Nat} (h:0<n):B ^ ((digs n).length - 1)≤n:=by
 rcases Nat.lt_or_ge n (B ^ ((digs n).length - 1)) with hl | hl
 ·have:=digs_length_le hl
  have:=digs_length_pos h
  omega
 ·exact hl
theorem lt_of_length_lt {a b:Nat} (h:(digs a).length<(digs b).length):a<b:=by
 have h1:=lt_of_digs_length a
 have hb:0<b:=by
  rcases Nat.eq_zero_or_pos b with rfl | hb
  ·simp [digs_zero] at h
  ·exact hb
 have h2:=pow_le_of_digs_length hb
 have:B ^ (digs a).length≤B ^ ((digs b).length - 1):=Nat.pow_le_pow_right B_pos (by omega)
 omega
theorem digs_length_mono {a b:Nat} (h:a≤b):(digs a).length≤(digs b).length:=by
 rcases Nat.lt_or_ge (digs b).length (digs a).length with hl | hl
 ·have:=lt_of_length_lt hl;omega
 ·exact hl
theorem lt_of_word {x y:List Nat} (hx:Wf x) (hl:x.length=y.length) (i:Nat) (hi:i<x.length)
  (habove:∀ j (h:j<x.length) (h':j<y.length),i<j→x[j]=y[j]) (hlt:x[i]<y[i]'(by omega)):val x<val y:=by
 have hy':i<y.length:=by omega
 rw [val_split x (i+1) (by omega),val_split y (i+1) (by omega)]
 have e:x.drop (i+1)=y.drop (i+1):=by
  apply List.ext_getElem
  ·simp [hl]
  ·intro j h1 h2
   simp only [List.getElem_drop]
   rw [List.length_drop] at h1
   exact habove _ (by omega) (by omega) (by omega)
 rw [e,val_take_succ x i hi,val_take_succ y i hy']
 have h1:=val_lt (hx.take i)
 rw [List.length_take,Nat.min_eq_left (by omega)] at h1
 have h3:B ^ i*x[i]+B ^ i≤B ^ i*y[i]:=by
  have:=Nat.mul_le_mul_left (B ^ i) hlt
  rwa [Nat.mul_succ] at this
 omega
theorem eq_of_words {x y:List Nat} (hl:x.length=y.length) (h:∀ j (h:j<x.length) (h':j<y.length),x[j]=y[j]):x=y:=
 List.ext_getElem hl fun j h1 h2=>h j h1 h2
theorem digs_inj {a b:Nat} (h:digs a=digs b):a=b:=by rw [←val_digs a,h,val_digs]
theorem getD_lt {l:List Nat} (h:Wf l) (k:Nat):l.getD k 0<1000000000:=by
 by_cases hk:k<l.length
 ·have:=h.get hk
  have e:l.getD k 0=l[k]:=by simp [List.getD,hk]
  rw [e];exact this
 ·have e:l.getD k 0=0:=by simp [List.getD,Nat.le_of_not_lt hk]
  rw [e];decide
theorem getD_out {l:List Nat} {k:Nat} (h:l.length≤k):l.getD k 0=0:=by simp [List.getD,h]
theorem getD_in {l:List Nat} {k:Nat} (h:k<l.length):l.getD k 0=l[k]:=by simp [List.getD,h]
theorem val_take_getD (l:List Nat) (k:Nat):val (l.take (k+1))=val (l.take k)+B ^ k*l.getD k 0:=by
 by_cases hk:k<l.length
 ·rw [getD_in hk,val_take_succ l k hk]
 ·rw [getD_out (by omega),List.take_of_length_le (by omega),List.take_of_length_le (by omega)];simp
theorem take_set_self (l:List Nat) (k x:Nat):(l.set k x).take k=l.take k:=by rw [List.take_set_of_le];omega
theorem val_take_set (l:List Nat) (k x:Nat) (hk:k<l.length):val ((l.set k x).take (k+1))=val (l.take k)+B ^ k*x:=by
 have h1:=val_take_succ (l.set k x) k (by simpa using hk)
 rw [List.getElem_set_self] at h1
 rw [h1,take_set_self]
theorem plus_round (l a b:List Nat) (k:Nat) (hk:k<l.length) (s c0 c1:Nat)
  (hinv:val (l.take k)+B ^ k*c0=val (a.take k)+val (b.take k))
  (hs:s+B*c1=a.getD k 0+b.getD k 0+c0):val ((l.set k s).take (k+1))+B ^ (k+1)*c1=val (a.take (k+1))+val (b.take (k+1)):=by
 rw [val_take_set l k s hk,val_take_getD a,val_take_getD b,Nat.pow_succ,Nat.mul_assoc]
 have h3:B ^ k*s+B ^ k*(B*c1)=B ^ k*a.getD k 0+B ^ k*b.getD k 0+B ^ k*c0:=by rw [←Nat.mul_add,hs,Nat.mul_add,Nat.mul_add]
 omega
theorem minus_round (l a b:List Nat) (k:Nat) (hk:k<l.length) (d b0 b1:Nat)
  (hinv:val (l.take k)+val (b.take k)=val (a.take k)+B ^ k*b0)
  (hs:d+b.getD k 0+b0=a.getD k 0+B*b1):val ((l.set k d).take (k+1))+val (b.take (k+1))=val (a.take (k+1))+B ^ (k+1)*b1:=by
 rw [val_take_set l k d hk,val_take_getD a,val_take_getD b,Nat.pow_succ,Nat.mul_assoc]
 have h3:B ^ k*d+B ^ k*b.getD k 0+B ^ k*b0=B ^ k*a.getD k 0+B ^ k*(B*b1):=by rw [←Nat.mul_add,←Nat.mul_add,hs,Nat.mul_add]
 omega
theorem minus_end (d y x p b0:Nat) (h:d+y=x+p*b0) (hd:d<p) (hyx:y≤x) (hb:b0≤1):d=x - y:=by
 have:b0=0∨b0=1:=by omega
 rcases this with rfl | rfl
 ·omega
 ·omega
theorem val_set (l:List Nat) (k x:Nat) (hk:k<l.length):val (l.set k x)+B ^ k*l.getD k 0=val l+B ^ k*x:=by
 have h1:=val_split (l.set k x) (k+1) (by rw [List.length_set];exact hk)
 have h2:=val_split l (k+1) hk
 rw [val_take_set l k x hk] at h1
 rw [val_take_getD] at h2
 have h3:(l.set k x).drop (k+1)=l.drop (k+1):=by rw [List.drop_set_of_lt];omega
 rw [h3] at h1
 omega
theorem lgetD_set_ne (l:List Nat) (k j x:Nat) (h:k≠j):(l.set k x).getD j 0=l.getD j 0:=by
 simp only [List.getD]
 rw [List.getElem?_set_ne h]
theorem lgetD_set_self (l:List Nat) (k x:Nat) (h:k<l.length):(l.set k x).getD k 0=x:=by
 simp only [List.getD]
 rw [List.getElem?_set_self h]
 rfl
theorem lgetD_zeros (n t:Nat):(List.replicate n 0).getD t 0=0:=by
 by_cases h:t<n
 ·simp [List.getD,h]
 ·simp [List.getD,Nat.le_of_not_lt h]
theorem times_round (l lb:List Nat) (i j p f lo hi c:Nat) (hk:i+j<l.length)
  (hinv:val l+B ^ (i+j)*c=p+B ^ i*(f*val (lb.take j))) (hs:lo+B*hi=f*lb.getD j 0+l.getD (i+j) 0+c) :
  val (l.set (i+j) lo)+B ^ (i+(j+1))*hi=p+B ^ i*(f*val (lb.take (j+1))):=by
 have h1:=val_set l (i+j) lo hk
 rw [val_take_getD,Nat.mul_add f,Nat.mul_add (B ^ i)]
 have h2:B ^ (i+j)*lo+B ^ (i+j)*(B*hi)=B ^ (i+j)*(f*lb.getD j 0)+B ^ (i+j)*l.getD (i+j) 0+B ^ (i+j)*c:=by
  rw [←Nat.mul_add,hs,Nat.mul_add,Nat.mul_add]
 have h3:B ^ (i+(j+1))*hi=B ^ (i+j)*(B*hi):=by rw [←Nat.add_assoc,Nat.pow_succ,Nat.mul_assoc]
 have h4:B ^ i*(f*(B ^ j*lb.getD j 0))=B ^ (i+j)*(f*lb.getD j 0):=by
  rw [Nat.pow_add,Nat.mul_left_comm f,Nat.mul_assoc]
 rw [h3,h4]
 generalize B ^ (i+j)*lo=a1 at *
 generalize B ^ (i+j)*(B*hi)=a2 at *
 generalize B ^ (i+j)*(f*lb.getD j 0)=a3 at *
 generalize B ^ (i+j)*l.getD (i+j) 0=a4 at *
 generalize B ^ (i+j)*c=a5 at *
 generalize B ^ i*(f*val (lb.take j))=a6 at *
 omega
theorem times_row (l la lb:List Nat) (i n' c:Nat) (hk:i+n'<l.length) (hz:l.getD (i+n') 0=0) (hn:lb.length=n')
  (hinv:val l+B ^ (i+n')*c=val (la.take i)*val lb+B ^ i*(la.getD i 0*val (lb.take n'))):val (l.set (i+n') c)=val (la.take (i+1))*val lb:=by
 have h1:=val_set l (i+n') c hk
 rw [hz,Nat.mul_zero,Nat.add_zero] at h1
 rw [h1,hinv,val_take_getD,Nat.add_mul,List.take_of_length_le (l:=lb) (by omega),Nat.mul_assoc]
theorem digs_lt_at {x y:Nat} (hl:(digs x).length=(digs y).length) (i:Nat) (hi:i<(digs x).length)
  (habove:∀ j (h:j<(digs x).length) (h':j<(digs y).length),i<j→(digs x)[j]=(digs y)[j]) (hlt:(digs x).getD i 0<(digs y).getD i 0):x<y:=by
 have hi':i<(digs y).length:=by omega
 have h:=lt_of_word (wf_digs x) hl i hi habove (by simpa [List.getD,hi,hi'] using hlt)
 rwa [val_digs,val_digs] at h
theorem digs_eq_of {x y:Nat} (hl:(digs x).length=(digs y).length) (h:∀ j (h:j<(digs x).length) (h':j<(digs y).length),(digs x)[j]=(digs y)[j]):x=y:=
 digs_inj (eq_of_words hl h)
end Go.Proofs.YteajibbphcfmeaaGreatDoor.Dn
