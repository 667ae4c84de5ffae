/- Plain facts of decimal texts: the text of a number in lowest terms, read again, is the number; the text of what was read is the text. No program. -/
import Derived.Test.YteajibbphcfmeaaGreatDoorVRat2
import Derived.Test.YteajibbphcfmeaaGreatDoorVBld
import Derived.Test.YteajibbphcfmeaaGreatDoorVWords
import Derived.Test.YteajibbphcfmeaaGreatDoorVDiv1
import Derived.Test.YteajibbphcfmeaaGreatDoorVCut
namespace Go.Proofs.YteajibbphcfmeaaGreatDoor
open Go.RowKit Bn
theorem zes {n:Nat} (h:n<10):(UInt8.ofNat (48+n)).toNat=48+n:=by
 rw [UInt8.toNat_ofNat']
 omega
theorem zgV {n:Nat} (h:n<10):digB ((UInt8.ofNat (48+n)).toNat:Int)=true:=by
 rw [zes h]
 unfold digB
 simp
 omega
theorem zk1 {c:UInt8} (h:digB (c.toNat:Int)=true):48≤c.toNat∧c.toNat≤57∧c=UInt8.ofNat (48+(c.toNat - 48)):=by
 unfold digB at h
 simp at h
 have h1:48≤c.toNat:=by omega
 have h2:c.toNat≤57:=by omega
 refine ⟨h1,h2,?_⟩
 apply UInt8.toNat_inj.1
 rw [UInt8.toNat_ofNat']
 omega
theorem za8 (n:Nat):zas (Lib.decDigits n)=true:=by
 induction n using Nat.strongRecOn with
 | ind n ih=>
  rw [Lib.decDigits]
  split
  ·rename_i h
   unfold zas
   simp only [List.all_cons,List.all_nil,Bool.and_true]
   exact zgV h
  ·rename_i h
   rw [zbs,ih _ (by omega),Bool.true_and]
   unfold zas
   simp only [List.all_cons,List.all_nil,Bool.and_true]
   exact zgV (by omega)
theorem zdo (n:Nat):zai (Lib.decDigits n)=n:=by
 induction n using Nat.strongRecOn with
 | ind n ih=>
  rw [Lib.decDigits]
  split
  ·rename_i h
   show 0*10+((UInt8.ofNat (48+n)).toNat - 48)=n
   rw [zes h]
   omega
  ·rename_i h
   rw [zcO,ih _ (by omega),zes (by omega)]
   omega
theorem zbi:∀ (l:List UInt8),zaz l=true→Lib.decDigits (zai l)=l:=by
 intro l
 induction hn:l.length using Nat.strongRecOn generalizing l with
 | ind n ih=>
  intro h
  subst hn
  by_cases h48:l=[48]
  ·subst h48
   decide +kernel
  ·have hd:zas l=true:=zax h
   have aD:l≠[]:=by
    intro e
    subst e
    simp [zaz] at h
   have hh:l.head? ≠ some 48:=by
    unfold zaz at h
    rw [hd] at h
    simp [h48] at h
    exact h.2
   obtain ⟨a,c,rfl⟩:∃ a c,l=a++[c]:=⟨l.dropLast,l.getLast aD,(List.dropLast_concat_getLast aD).symm⟩
   rw [zbs] at hd
   have aE:zas a=true:=by
    cases hq:zas a
    ·rw [hq] at hd;simp at hd
    ·rfl
   have aF:digB (c.toNat:Int)=true:=by
    rw [aE,Bool.true_and] at hd
    unfold zas at hd
    simpa using hd
   obtain ⟨h1,h2,h3⟩:=zk1 aF
   rw [zcO]
   cases a with
   | nil=>
    have e0:zai []=0:=rfl
    rw [e0,Nat.zero_mul,Nat.zero_add,Lib.decDigits,dif_pos (by omega),List.nil_append]
    rw [←h3]
   | cons x t=>
    have hx:(x :: t).head? ≠ some 48:=by simpa using hh
    have aA:zaz (x :: t)=true:=by
     unfold zaz
     rw [aE,Bool.true_and]
     simp only [Bool.or_eq_true,Bool.and_eq_true,decide_eq_true_eq]
     exact .inr ⟨by simp,hx⟩
    have hp:0<zai (x :: t):=zcL aA (by intro e;rw [e] at hx;simp at hx)
    have aC:=ih (x :: t).length (by simp) (x :: t) rfl aA
    rw [Lib.decDigits,dif_neg (by omega),show (zai (x :: t)*10+(c.toNat - 48)) / 10=zai (x :: t) by omega,show (zai (x :: t)*10+(c.toNat - 48)) % 10=c.toNat - 48 by omega,aC,←h3]
theorem zdB:∀ (l:List UInt8),(∀ c ∈ l,c≠47)→Lib.indexByte l 47 = -1
 | [],_=>rfl
 | b :: l,h=>by
  have h1:(b==47)=false:=beq_eq_false_iff_ne.2 (h b (List.mem_cons_self ..))
  have h2:=zdB l (fun c hc=>h c (List.mem_cons_of_mem _ hc))
  unfold Lib.indexByte
  rw [h1,h2]
  rfl
theorem zde:∀ (l r:List UInt8),(∀ c ∈ l,c≠47)→Lib.indexByte (l++47 :: r) 47=l.length
 | [],_,_=>rfl
 | b :: l,r,h=>by
  have h1:(b==47)=false:=beq_eq_false_iff_ne.2 (h b (List.mem_cons_self ..))
  have h2:=zde l r (fun c hc=>h c (List.mem_cons_of_mem _ hc))
  show (if b==47 then (0:Int) else if Lib.indexByte (l++47 :: r) 47 == -1 then -1 else Lib.indexByte (l++47 :: r) 47+1)=_
  rw [h1,h2]
  have h3:((l.length:Int) == -1)=false:=by rw [beq_eq_false_iff_ne];omega
  simp [h3]
theorem zkW {l:List UInt8} (h:∀ c ∈ l,c≠47):cutL l=(l,[],false):=by
 unfold cutL
 rw [zdB l h]
 rfl
theorem ziM {l r:List UInt8} (h:∀ c ∈ l,c≠47):cutL (l++47 :: r)=(l,r,true):=by
 unfold cutL
 rw [zde l r h,if_pos (by omega),Int.toNat_natCast]
 simp
theorem zd1 {l:List UInt8} (h:zas l=true) {c:UInt8} (hc:c ∈ l):48≤c.toNat∧c.toNat≤57:=by
 unfold zas at h
 have:=zk1 (List.all_eq_true.1 h c hc)
 exact ⟨this.1,this.2.1⟩
def sgnT (neg:Bool) (t:List UInt8):List UInt8:=if neg then 45 :: t else t
theorem zdp {neg:Bool} {t:List UInt8} (h:zas t=true):∀ c ∈ sgnT neg t,c≠47:=by
 have h1:∀ c ∈ t,c≠47:=fun c hc e=>by
  have:=(zd1 h hc).1
  rw [e] at this
  exact absurd this (by decide)
 unfold sgnT
 cases neg
 ·exact h1
 ·intro c hc
  rcases List.mem_cons.1 hc with rfl | hc
  ·decide
  ·exact h1 c hc
def LowQ (p:Q):Prop:=0<p.bot∧Nat.gcd p.top p.bot=1∧(p.neg=true→0<p.top)
theorem za9 (p:Q):zbU p=sgnT p.neg (Lib.decDigits p.top)++(if p.bot=1 then [] else 47 :: Lib.decDigits p.bot):=rfl
theorem zmF {n:Nat} (h:0<n):Lib.decDigits n≠[48]:=fun e=>by
 have:=zdo n
 rw [e] at this
 have h48:zai [48]=0:=by decide
 omega
theorem zkI (l:List UInt8):l=(cutL l).1++(if (cutL l).2.2=true then 47 :: (cutL l).2.1 else []):=by
 unfold cutL
 split
 ·rename_i h
  obtain ⟨o,ho⟩:=Int.eq_ofNat_of_zero_le h
  obtain ⟨h1,_⟩:=Lib.indexByte_some ho
  rw [ho]
  simp only [Int.toNat_natCast,if_true]
  have aA:o<l.length:=by
   rcases Nat.lt_or_ge o l.length with h3 | h3
   ·exact h3
   ·rw [List.getElem?_eq_none h3] at h1;cases h1
  rw [List.getElem?_eq_getElem aA] at h1
  injection h1 with h1
  conv=>lhs;rw [←List.take_append_drop o l,List.drop_eq_getElem_cons aA,h1]
 ·simp
theorem zmI (t:List UInt8):t=sgnT (Lib.hasPrefix t [45]) (Lib.trimPrefix t [45]):=by
 unfold sgnT Lib.trimPrefix
 cases h:Lib.hasPrefix t [45]
 ·rfl
 ·cases t with
  | nil=>cases h
  | cons x r=>
   unfold Lib.hasPrefix at h
   simp [List.isPrefixOf] at h
   subst h
   rfl
theorem zhN (l:List UInt8) (h:zam l=0):zbU (zag l)=l:=by
 obtain ⟨h1,_,_,h4⟩:=zcM h
 have e0:zag l=⟨negL l,zai (topL l),if zel l then zai (botL l) else 1⟩:=by unfold zag;rw [if_pos h]
 have ej:=zkI l
 have es:=zmI (cutL l).1
 rw [za9,e0]
 dsimp only
 rw [zbi _ h1]
 have e1:sgnT (negL l) (topL l)=(cutL l).1:=es.symm
 rw [e1]
 cases hf:zel l
 ·have aA:(cutL l).2.2=false:=hf
  rw [aA] at ej
  simpa using ej.symm
 ·have aA:(cutL l).2.2=true:=hf
  obtain ⟨h5,h6,h7,_⟩:=h4 hf
  have aC:zai (botL l)≠1:=fun e=>by
   have:=zbi _ h5
   rw [e] at this
   exact h7 (this.symm.trans (by decide +kernel))
  rw [aA] at ej
  simp only [if_true] at ej
  rw [if_pos rfl,if_neg aC,zbi _ h5]
  exact ej.symm
end Go.Proofs.YteajibbphcfmeaaGreatDoor
namespace Go.Proofs.YteajibbphcfmeaaGreatDoor.Dn
def B:Nat:=1000000000
theorem zcN:B=1000000000:=rfl
theorem zaL:0<B:=by decide
theorem zd0:1<B:=by decide
def val:List Nat→Nat
 | []=>0
 | x :: xs=>x+B*val xs
def Wf (l:List Nat):Prop:=∀ x ∈ l,x<B
theorem Wf.nil:Wf []:=fun _ h=>by cases h
theorem Wf.cons {x:Nat} {l:List Nat} (h:x<B) (k:Wf l):Wf (x :: l):=by
 intro y hy
 rcases List.mem_cons.1 hy with rfl | hy
 ·exact h
 ·exact k y hy
theorem Wf.replicate (n:Nat):Wf (List.replicate n 0):=fun _ hy=>by rw [(List.mem_replicate.1 hy).2];exact zaL
theorem Wf.head {x:Nat} {l:List Nat} (h:Wf (x :: l)):x<B:=h x (by simp)
theorem Wf.tail {x:Nat} {l:List Nat} (h:Wf (x :: l)):Wf l:=fun y hy=>h y (by simp [hy])
theorem Wf.append {a b:List Nat} (h:Wf a) (k:Wf b):Wf (a++b):=by
 intro y hy
 rcases List.mem_append.1 hy with hy | hy
 ·exact h y hy
 ·exact k y hy
theorem Wf.take {a:List Nat} (h:Wf a) (n:Nat):Wf (a.take n):=fun y hy=>h y (List.mem_of_mem_take hy)
theorem Wf.drop {a:List Nat} (h:Wf a) (n:Nat):Wf (a.drop n):=fun y hy=>h y (List.mem_of_mem_drop hy)
theorem Wf.get {a:List Nat} (h:Wf a) {i:Nat} (hi:i<a.length):a[i]<B:=h _ (List.getElem_mem hi)
theorem Wf.set {a:List Nat} (h:Wf a) (i:Nat) {x:Nat} (hx:x<B):Wf (a.set i x):=by
 intro y hy
 rcases List.mem_or_eq_of_mem_set hy with hy | rfl
 ·exact h y hy
 ·exact hx
@[simp] theorem val_nil:val []=0:=rfl
@[simp] theorem val_cons (x:Nat) (xs:List Nat):val (x :: xs)=x+B*val xs:=rfl
theorem zaN (a b:List Nat):val (a++b)=val a+B ^ a.length*val b:=by
 induction a with
 | nil=>simp
 | cons x a ih=>
  simp only [List.cons_append,val_cons,ih,List.length_cons,Nat.pow_succ]
  rw [Nat.mul_add,←Nat.mul_assoc,Nat.mul_comm B (B ^ a.length),Nat.add_assoc]
theorem zaS (x:Nat):val [x]=x:=by simp
theorem zbk {l:List Nat} (h:Wf l):val l<B ^ l.length:=by
 induction l with
 | nil=>simp
 | cons x l ih=>
  have h1:=ih h.tail
  have h2:=h.head
  simp only [val_cons,List.length_cons,Nat.pow_succ]
  have:B*val l+B≤B*B ^ l.length:=by
   have:B*(val l+1)≤B*B ^ l.length:=Nat.mul_le_mul_left B h1
   rwa [Nat.mul_add,Nat.mul_one] at this
  rw [Nat.mul_comm (B ^ l.length) B]
  omega
theorem zar (l:List Nat) (k:Nat) (h:k<l.length):val (l.take (k+1))=val (l.take k)+B ^ k*l[k]:=by
 rw [List.take_succ_eq_append_getElem h,zaN,zaS,List.length_take,Nat.min_eq_left (by omega)]
theorem zaw (l:List Nat) (k:Nat) (h:k≤l.length):val l=val (l.take k)+B ^ k*val (l.drop k):=by
 have h1:=zaN (l.take k) (l.drop k)
 rw [List.take_append_drop,List.length_take,Nat.min_eq_left h] at h1
 exact h1
theorem zaR (n:Nat):val (List.replicate n 0)=0:=by
 induction n with
 | zero=>rfl
 | succ n ih=>simp [List.replicate_succ,ih]
theorem zfp {l:List Nat} (h:∀ x ∈ l,x=0):val l=0:=by
 induction l with
 | nil=>rfl
 | cons x l ih=>
  have:=h x (by simp)
  simp [this,ih (fun y hy=>h y (by simp [hy]))]
def digs (n:Nat):List Nat:=if n=0 then [] else (n % B) :: digs (n / B)
termination_by n
decreasing_by
 rename_i h
 exact Nat.div_lt_self (by omega) zd0
theorem digs_zero:digs 0=[]:=by rw [digs];rfl
theorem za7 {n:Nat} (h:0<n):digs n=(n % B) :: digs (n / B):=by rw [digs,if_neg (by omega)]
theorem zal (n:Nat):val (digs n)=n:=by
 induction n using Nat.strongRecOn with
 | ind n ih=>
  rcases Nat.eq_zero_or_pos n with rfl | h
  ·rw [digs_zero];rfl
  ·rw [za7 h,val_cons,ih _ (Nat.div_lt_self h zd0)]
   exact Nat.mod_add_div n B
theorem zap (n:Nat):Wf (digs n):=by
 induction n using Nat.strongRecOn with
 | ind n ih=>
  rcases Nat.eq_zero_or_pos n with rfl | h
  ·rw [digs_zero];exact Wf.nil
  ·rw [za7 h]
   exact Wf.cons (Nat.mod_lt _ zaL) (ih _ (Nat.div_lt_self h zd0))
theorem zch {n:Nat} (h:0<n):digs n≠[]:=by rw [za7 h];simp
theorem zdJ {n:Nat}:digs n=[]↔n=0:=by
 constructor
 ·intro h
  rcases Nat.eq_zero_or_pos n with h0 | h0
  ·exact h0
  ·exact absurd h (zch h0)
 ·rintro rfl;exact digs_zero
theorem zan {n:Nat} (h:0<n):0<(digs n).length:=List.length_pos_iff.2 (zch h)
theorem za1 {n:Nat}:(digs n).length=0↔n=0:=by rw [List.length_eq_zero_iff];exact zdJ
def Norm (l:List Nat):Prop:=∀ h:0<l.length,l[l.length - 1]≠0
theorem zcB (n:Nat):Norm (digs n):=by
 induction n using Nat.strongRecOn with
 | ind n ih=>
  intro h0
  rcases Nat.eq_zero_or_pos n with rfl | h
  ·simp [digs_zero] at h0
  ·have aA:=ih _ (Nat.div_lt_self h zd0)
   have e:=za7 h
   rcases Nat.eq_zero_or_pos (n / B) with hq | hq
   ·have e2:digs n=[n % B]:=by rw [e,hq,digs_zero]
    have:n % B≠0:=by
     have:=Nat.mod_add_div n B
     rw [hq] at this;omega
    simp only [e2]
    simpa using this
   ·have hl:=zan hq
    have h2:=aA hl
    simp only [e,List.length_cons,Nat.add_sub_cancel]
    rw [List.getElem_cons,dif_neg (by omega)]
    exact h2
theorem zgo {l:List Nat} (hw:Wf l) (hn:Norm l):digs (val l)=l:=by
 induction l with
 | nil=>exact digs_zero
 | cons x l ih=>
  have hx:=hw.head
  have aA:0<x+B*val l:=by
   rcases Nat.eq_zero_or_pos l.length with h0 | h0
   ·have:l=[]:=List.eq_nil_of_length_eq_zero h0
    subst this
    have:=hn (by simp)
    simp at this
    omega
   ·have aC:Norm l:=by
     intro h
     have:=hn (by simp)
     simp only [List.length_cons,Nat.add_sub_cancel] at this
     rw [List.getElem_cons,dif_neg (by omega)] at this
     exact this
    have e:=ih hw.tail aC
    have:val l≠0:=by
     intro hz
     rw [hz,digs_zero] at e
     subst e
     simp at h0
    have:=Nat.mul_pos zaL (Nat.pos_of_ne_zero this)
    omega
  rw [val_cons,za7 aA]
  have h1:(x+B*val l) % B=x:=by rw [Nat.add_mul_mod_self_left,Nat.mod_eq_of_lt hx]
  have h2:(x+B*val l) / B=val l:=by rw [Nat.add_mul_div_left _ _ zaL,Nat.div_eq_of_lt hx,Nat.zero_add]
  rw [h1,h2]
  rcases Nat.eq_zero_or_pos l.length with h0 | h0
  ·have:l=[]:=List.eq_nil_of_length_eq_zero h0
   subst this
   simp [digs_zero]
  ·rw [ih hw.tail]
   intro h
   have:=hn (by simp)
   simp only [List.length_cons,Nat.add_sub_cancel] at this
   rw [List.getElem_cons,dif_neg (by omega)] at this
   exact this
theorem zdR {l:List Nat} (hw:Wf l) (n:Nat) (hn:n≤l.length) (hz:∀ j (h:j<l.length),n≤j→l[j]=0)
  (ht:∀ h:n - 1<l.length,0<n→l[n - 1]≠0):l.take n=digs (val l):=by
 have h1:val (l.drop n)=0:=by
  apply zfp
  intro x hx
  obtain ⟨i,hi,rfl⟩:=List.getElem_of_mem hx
  rw [List.getElem_drop]
  exact hz _ _ (by omega)
 rw [zaw l n hn,h1,Nat.mul_zero,Nat.add_zero]
 refine (zgo (hw.take n) ?_).symm
 intro h0
 rw [List.length_take,Nat.min_eq_left hn] at h0
 simp only [List.length_take,Nat.min_eq_left hn,List.getElem_take]
 exact ht (by omega) h0
theorem digs_length_le {n k:Nat} (h:n<B ^ k):(digs n).length≤k:=by
 rcases Nat.eq_zero_or_pos n with rfl | hp
 ·simp [digs_zero]
 ·rcases Nat.lt_or_ge k (digs n).length with hk | hk
  ·exfalso
   have hn:=zcB n (zan hp)
   have hs:=zaw (digs n) ((digs n).length - 1) (by omega)
   rw [zal] at hs
   have hd:(digs n).drop ((digs n).length - 1)=[(digs n)[(digs n).length - 1]]:=by
    rw [List.drop_eq_getElem_cons (by omega)]
    congr 1
    apply List.drop_eq_nil_of_le
    omega
   rw [hd,zaS] at hs
   have:B ^ k≤B ^ ((digs n).length - 1):=Nat.pow_le_pow_right zaL (by omega)
   have h1:1≤(digs n)[(digs n).length - 1]:=Nat.pos_of_ne_zero hn
   have:=Nat.le_mul_of_pos_right (B ^ ((digs n).length - 1)) h1
   omega
  ·exact hk
theorem zac (n:Nat):n<B ^ (digs n).length:=by
 have:=zbk (zap n)
 rwa [zal] at this
theorem zaC {n:Nat} (h:0<n):B ^ ((digs n).length - 1)≤n:=by
 rcases Nat.lt_or_ge n (B ^ ((digs n).length - 1)) with hl | hl
 ·have:=digs_length_le hl
  have:=zan h
  omega
 ·exact hl
theorem zbl {a b:Nat} (h:(digs a).length<(digs b).length):a<b:=by
 have h1:=zac a
 have hb:0<b:=by
  rcases Nat.eq_zero_or_pos b with rfl | hb
  ·simp [digs_zero] at h
  ·exact hb
 have h2:=zaC hb
 have:B ^ (digs a).length≤B ^ ((digs b).length - 1):=Nat.pow_le_pow_right zaL (by omega)
 omega
theorem zaa {a b:Nat} (h:a≤b):(digs a).length≤(digs b).length:=by
 rcases Nat.lt_or_ge (digs b).length (digs a).length with hl | hl
 ·have:=zbl hl;omega
 ·exact hl
theorem zdv {x y:List Nat} (hx:Wf x) (hl:x.length=y.length) (i:Nat) (hi:i<x.length)
  (habove:∀ j (h:j<x.length) (h':j<y.length),i<j→x[j]=y[j]) (hlt:x[i]<y[i]'(by omega)):val x<val y:=by
 have aA:i<y.length:=by omega
 rw [zaw x (i+1) (by omega),zaw y (i+1) (by omega)]
 have e:x.drop (i+1)=y.drop (i+1):=by
  apply List.ext_getElem
  ·simp [hl]
  ·intro j h1 h2
   simp only [List.getElem_drop]
   rw [List.length_drop] at h1
   exact habove _ (by omega) (by omega) (by omega)
 rw [e,zar x i hi,zar y i aA]
 have h1:=zbk (hx.take i)
 rw [List.length_take,Nat.min_eq_left (by omega)] at h1
 have h3:B ^ i*x[i]+B ^ i≤B ^ i*y[i]:=by
  have:=Nat.mul_le_mul_left (B ^ i) hlt
  rwa [Nat.mul_succ] at this
 omega
theorem zc4 {x y:List Nat} (hl:x.length=y.length) (h:∀ j (h:j<x.length) (h':j<y.length),x[j]=y[j]):x=y:=
 List.ext_getElem hl fun j h1 h2=>h j h1 h2
theorem zgF {a b:Nat} (h:digs a=digs b):a=b:=by rw [←zal a,h,zal]
theorem zaD {l:List Nat} (h:Wf l) (k:Nat):l.getD k 0<1000000000:=by
 by_cases hk:k<l.length
 ·have:=h.get hk
  have e:l.getD k 0=l[k]:=by simp [List.getD,hk]
  rw [e];exact this
 ·have e:l.getD k 0=0:=by simp [List.getD,Nat.le_of_not_lt hk]
  rw [e];decide
theorem zbG {l:List Nat} {k:Nat} (h:l.length≤k):l.getD k 0=0:=by simp [List.getD,h]
theorem getD_in {l:List Nat} {k:Nat} (h:k<l.length):l.getD k 0=l[k]:=by simp [List.getD,h]
theorem zae (l:List Nat) (k:Nat):val (l.take (k+1))=val (l.take k)+B ^ k*l.getD k 0:=by
 by_cases hk:k<l.length
 ·rw [getD_in hk,zar l k hk]
 ·rw [zbG (by omega),List.take_of_length_le (by omega),List.take_of_length_le (by omega)];simp
theorem zcP (l:List Nat) (k x:Nat):(l.set k x).take k=l.take k:=by rw [List.take_set_of_le];omega
theorem zaF (l:List Nat) (k x:Nat) (hk:k<l.length):val ((l.set k x).take (k+1))=val (l.take k)+B ^ k*x:=by
 have h1:=zar (l.set k x) k (by simpa using hk)
 rw [List.getElem_set_self] at h1
 rw [h1,zcP]
theorem zeg (l a b:List Nat) (k:Nat) (hk:k<l.length) (s c0 c1:Nat)
  (hinv:val (l.take k)+B ^ k*c0=val (a.take k)+val (b.take k))
  (hs:s+B*c1=a.getD k 0+b.getD k 0+c0):val ((l.set k s).take (k+1))+B ^ (k+1)*c1=val (a.take (k+1))+val (b.take (k+1)):=by
 rw [zaF l k s hk,zae a,zae b,Nat.pow_succ,Nat.mul_assoc]
 have h3:B ^ k*s+B ^ k*(B*c1)=B ^ k*a.getD k 0+B ^ k*b.getD k 0+B ^ k*c0:=by rw [←Nat.mul_add,hs,Nat.mul_add,Nat.mul_add]
 omega
theorem ze1 (l a b:List Nat) (k:Nat) (hk:k<l.length) (d b0 b1:Nat)
  (hinv:val (l.take k)+val (b.take k)=val (a.take k)+B ^ k*b0)
  (hs:d+b.getD k 0+b0=a.getD k 0+B*b1):val ((l.set k d).take (k+1))+val (b.take (k+1))=val (a.take (k+1))+B ^ (k+1)*b1:=by
 rw [zaF l k d hk,zae a,zae b,Nat.pow_succ,Nat.mul_assoc]
 have h3:B ^ k*d+B ^ k*b.getD k 0+B ^ k*b0=B ^ k*a.getD k 0+B ^ k*(B*b1):=by rw [←Nat.mul_add,←Nat.mul_add,hs,Nat.mul_add]
 omega
theorem zgI (d y x p b0:Nat) (h:d+y=x+p*b0) (hd:d<p) (hyx:y≤x) (hb:b0≤1):d=x - y:=by
 have:b0=0∨b0=1:=by omega
 rcases this with rfl | rfl
 ·omega
 ·omega
theorem zdL (l:List Nat) (k x:Nat) (hk:k<l.length):val (l.set k x)+B ^ k*l.getD k 0=val l+B ^ k*x:=by
 have h1:=zaw (l.set k x) (k+1) (by rw [List.length_set];exact hk)
 have h2:=zaw l (k+1) hk
 rw [zaF l k x hk] at h1
 rw [zae] at h2
 have h3:(l.set k x).drop (k+1)=l.drop (k+1):=by rw [List.drop_set_of_lt];omega
 rw [h3] at h1
 omega
theorem zaH (l:List Nat) (k j x:Nat) (h:k≠j):(l.set k x).getD j 0=l.getD j 0:=by
 simp only [List.getD]
 rw [List.getElem?_set_ne h]
theorem zcx (l:List Nat) (k x:Nat) (h:k<l.length):(l.set k x).getD k 0=x:=by
 simp only [List.getD]
 rw [List.getElem?_set_self h]
 rfl
theorem zcj (n t:Nat):(List.replicate n 0).getD t 0=0:=by
 by_cases h:t<n
 ·simp [List.getD,h]
 ·simp [List.getD,Nat.le_of_not_lt h]
theorem zdF (l lb:List Nat) (i j p f lo hi c:Nat) (hk:i+j<l.length)
  (hinv:val l+B ^ (i+j)*c=p+B ^ i*(f*val (lb.take j))) (hs:lo+B*hi=f*lb.getD j 0+l.getD (i+j) 0+c) :
  val (l.set (i+j) lo)+B ^ (i+(j+1))*hi=p+B ^ i*(f*val (lb.take (j+1))):=by
 have h1:=zdL l (i+j) lo hk
 rw [zae,Nat.mul_add f,Nat.mul_add (B ^ i)]
 have h2:B ^ (i+j)*lo+B ^ (i+j)*(B*hi)=B ^ (i+j)*(f*lb.getD j 0)+B ^ (i+j)*l.getD (i+j) 0+B ^ (i+j)*c:=by
  rw [←Nat.mul_add,hs,Nat.mul_add,Nat.mul_add]
 have h3:B ^ (i+(j+1))*hi=B ^ (i+j)*(B*hi):=by rw [←Nat.add_assoc,Nat.pow_succ,Nat.mul_assoc]
 have h4:B ^ i*(f*(B ^ j*lb.getD j 0))=B ^ (i+j)*(f*lb.getD j 0):=by
  rw [Nat.pow_add,Nat.mul_left_comm f,Nat.mul_assoc]
 rw [h3,h4]
 generalize B ^ (i+j)*lo=a1 at *
 generalize B ^ (i+j)*(B*hi)=a2 at *
 generalize B ^ (i+j)*(f*lb.getD j 0)=a3 at *
 generalize B ^ (i+j)*l.getD (i+j) 0=a4 at *
 generalize B ^ (i+j)*c=a5 at *
 generalize B ^ i*(f*val (lb.take j))=a6 at *
 omega
theorem ze3 (l la lb:List Nat) (i n' c:Nat) (hk:i+n'<l.length) (hz:l.getD (i+n') 0=0) (hn:lb.length=n')
  (hinv:val l+B ^ (i+n')*c=val (la.take i)*val lb+B ^ i*(la.getD i 0*val (lb.take n'))):val (l.set (i+n') c)=val (la.take (i+1))*val lb:=by
 have h1:=zdL l (i+n') c hk
 rw [hz,Nat.mul_zero,Nat.add_zero] at h1
 rw [h1,hinv,zae,Nat.add_mul,List.take_of_length_le (l:=lb) (by omega),Nat.mul_assoc]
theorem zeh {x y:Nat} (hl:(digs x).length=(digs y).length) (i:Nat) (hi:i<(digs x).length)
  (habove:∀ j (h:j<(digs x).length) (h':j<(digs y).length),i<j→(digs x)[j]=(digs y)[j]) (hlt:(digs x).getD i 0<(digs y).getD i 0):x<y:=by
 have aA:i<(digs y).length:=by omega
 have h:=zdv (zap x) hl i hi habove (by simpa [List.getD,hi,aA] using hlt)
 rwa [zal,zal] at h
theorem zfV {x y:Nat} (hl:(digs x).length=(digs y).length) (h:∀ j (h:j<(digs x).length) (h':j<(digs y).length),(digs x)[j]=(digs y)[j]):x=y:=
 zgF (zc4 hl h)
def pad (l:List Nat) (N:Nat):List Nat:=l++List.replicate (N - l.length) 0
theorem zea (l:List Nat) (N:Nat):val (pad l N)=val l:=by unfold pad;rw [zaN,zaR];simp
theorem zf8 {l:List Nat} {N:Nat} (h:l.length≤N):(pad l N).length=N:=by unfold pad;rw [List.length_append,List.length_replicate];omega
theorem zen (l:List Nat) (N j:Nat) (h:j<(pad l N).length):(pad l N)[j]=l.getD j 0:=by
 have h':j<(l++List.replicate (N - l.length) 0).length:=h
 show (l++List.replicate (N - l.length) 0)[j]'h'=_
 by_cases hj:j<l.length
 ·rw [List.getElem_append_left hj,getD_in hj]
 ·rw [List.getElem_append_right (by omega),zbG (by omega)];simp
theorem zn5 {l:List Nat} (h:Wf l) (N:Nat):Wf (pad l N):=h.append (Wf.replicate _)
theorem zjQ {x y:Nat} (i:Nat) (habove:∀ j,i<j→(digs x).getD j 0=(digs y).getD j 0) (hlt:(digs x).getD i 0<(digs y).getD i 0):x<y:=by
 have hi:i<(digs y).length:=by
  rcases Nat.lt_or_ge i (digs y).length with h | h
  ·exact h
  ·rw [zbG h] at hlt;omega
 obtain ⟨N,hN⟩:∃ N,N=max (digs x).length (digs y).length:=⟨_,rfl⟩
 have h1:=zf8 (l:=digs x) (N:=N) (by omega)
 have h2:=zf8 (l:=digs y) (N:=N) (by omega)
 have h:=zdv (x:=pad (digs x) N) (y:=pad (digs y) N) (zn5 (zap x) N) (by omega) i (by omega) (fun j h h' hj=>by rw [zen,zen];exact habove j hj) (by rw [zen,zen];exact hlt)
 rwa [zea,zea,zal,zal] at h
theorem znJ {x y:Nat} (h:∀ j,(digs x).getD j 0=(digs y).getD j 0):x=y:=by
 obtain ⟨N,hN⟩:∃ N,N=max (digs x).length (digs y).length:=⟨_,rfl⟩
 have h1:=zf8 (l:=digs x) (N:=N) (by omega)
 have h2:=zf8 (l:=digs y) (N:=N) (by omega)
 have e:pad (digs x) N=pad (digs y) N:=zc4 (by omega) (fun j h3 h4=>by rw [zen,zen];exact h j)
 have:=congrArg val e
 rwa [zea,zea,zal,zal] at this
theorem zca:∀ (k x:Nat),(digs x).getD k 0=x / B ^ k % B
 | 0,x=>by
  rcases Nat.eq_zero_or_pos x with rfl | h
  ·simp [digs_zero]
  ·rw [za7 h];simp
 | k+1,x=>by
  rcases Nat.eq_zero_or_pos x with rfl | h
  ·simp [digs_zero]
  ·rw [za7 h,List.getD_cons_succ,zca k (x / B),Nat.div_div_eq_div_mul,Nat.pow_succ,Nat.mul_comm]
theorem znf (x k:Nat):x / B ^ k=(digs x).getD k 0+B*(x / B ^ (k+1)):=by
 rw [zca,Nat.pow_succ,←Nat.div_div_eq_div_mul]
 exact (Nat.mod_add_div _ _).symm
end Go.Proofs.YteajibbphcfmeaaGreatDoor.Dn
namespace Go.Proofs.YteajibbphcfmeaaGreatDoor
open Go.RowKit
structure NatD (w:World) (B:Nat) (A:Option Addr) (n c:Nat) (x:Nat):Prop where
 words:zbe w B A n (Dn.digs x)
 nc:n≤c
 cm:c≤maxLen
section
variable {w w':World} {B B' n c x:Nat} {A:Option Addr}
theorem NatD.len (h:NatD w B A n c x):(Dn.digs x).length=n:=h.words.len
theorem NatD.below (h:NatD w B A n c x) (hb:Below B w w'):NatD w' B A n c x:=⟨h.words.below hb,h.nc,h.cm⟩
theorem NatD.more (h:NatD w B A n c x) (hB:B≤B'):NatD w B' A n c x:=⟨h.words.more hB,h.nc,h.cm⟩
theorem NatD.later (h:NatD w w.heap.size A n c x) (hb:Below w.heap.size w w'):NatD w' w'.heap.size A n c x:=(h.below hb).more hb.size
theorem NatD.alloc (h:NatD w w.heap.size A n c x) (o:Obj):NatD (w.alloc o) (w.heap.size+1) A n c x:=⟨(h.words.alloc (Nat.le_refl _) o).more (by omega),h.nc,h.cm⟩
theorem NatD.zero (w:World) (B:Nat):NatD w B none 0 0 0:=⟨by rw [Dn.digs_zero];exact zat.none_,Nat.le_refl _,Nat.zero_le _⟩
end
def RetD (w:World) (x:Nat) (e:Ending) (w':World):Prop:=∃ A m c,e = .returned (.slice A m c)∧NatD w' w'.heap.size A m c x∧Below w.heap.size w w'
def znX (w:World) (x:Nat) (e:Ending) (w':World):Prop:=∃ g m c,e = .returned (.slice (some ⟨g,0,none⟩) m c)∧w.heap.size≤g∧NatD w' w'.heap.size (some ⟨g,0,none⟩) m c x∧Below w.heap.size w w'
theorem znX.ret {w w':World} {x:Nat} {e:Ending} (h:znX w x e w'):RetD w x e w':=by
 obtain ⟨g,m,c,h1,_,h2,h3⟩:=h
 exact ⟨_,m,c,h1,h2,h3⟩
section
open Dn
end
end Go.Proofs.YteajibbphcfmeaaGreatDoor
namespace Go.Proofs.YteajibbphcfmeaaGreatDoor
open Go.RowKit Dn
def Weak (l:List Nat):Prop:=(∀ k,l.getD k 0≤B)∧val l≤B ^ l.length
theorem Weak.wf {l:List Nat} (h:Wf l):Weak l:=⟨fun k=>Nat.le_of_lt (zaD h k),Nat.le_of_lt (zbk h)⟩
theorem Weak.one {x:Nat} (h:x≤B):Weak [x]:=⟨fun k=>by
 rcases k with _ | k
 ·simpa using h
 ·simp,by simpa using h⟩
theorem zl1 (l la lb:List Nat) (i n' c:Nat) (hk:i+n'<l.length) (hv:val (l.set (i+n') c)=val (la.take (i+1))*val lb) (hwa:Wf la) (hb:val lb≤B ^ n'):c<B:=by
 have h1:=zaw (l.set (i+n') c) (i+n'+1) (by rw [List.length_set];exact hk)
 rw [zaF l (i+n') c hk] at h1
 have h2:val (la.take (i+1))<B ^ (i+1):=Nat.lt_of_lt_of_le (zbk (hwa.take _)) (Nat.pow_le_pow_right zaL (by rw [List.length_take];omega))
 have h3:val (la.take (i+1))*val lb≤val (la.take (i+1))*B ^ n':=Nat.mul_le_mul_left _ hb
 have h4:val (la.take (i+1))*B ^ n'<B ^ (i+1)*B ^ n':=Nat.mul_lt_mul_of_pos_right h2 (Nat.pow_pos zaL)
 have e5:B ^ (i+n')*B=B ^ (i+1)*B ^ n':=by
  rw [←Nat.pow_succ,show (i+n').succ=i+1+n' from by omega,Nat.pow_add]
 have h5:B ^ (i+n')*c<B ^ (i+n')*B:=by
  rw [e5]
  omega
 exact Nat.lt_of_mul_lt_mul_left h5
end Go.Proofs.YteajibbphcfmeaaGreatDoor
namespace Go.Proofs.YteajibbphcfmeaaGreatDoor
open Go.RowKit
def natv (d:Nat):Value := .int .i64 (d:Int)
theorem zmN:∀ l:List Nat,∀ u ∈ l.map natv,u.oneCell'=true:=by
 intro l u hu
 obtain ⟨d,_,rfl⟩:=List.mem_map.1 hu
 rfl
theorem zat.cellM {α:Type} {w:World} {B n:Nat} {A:Option Addr} {l:List α} {f : α→Value} (h:zat w B 1 A n (l.map f)) {k:Nat} (hk:k<n) :
  ∃ (ad:Addr) (hl:k<l.length),A=some ad∧ad.block<B∧w.cell? (ad.add k)=some (f l[k]):=by
 obtain ⟨ad,u,hA,hb,hu,hc⟩:=h.at_ hk
 have hl:k<l.length:=by have:=h.1;rw [List.length_map] at this;omega
 rw [List.getElem?_map,List.getElem?_eq_getElem hl] at hu
 injection hu with hu
 exact ⟨ad,hl,hA,hb,by rw [hc,←hu]⟩
theorem zat.lenM {α:Type} {w:World} {B n:Nat} {A:Option Addr} {l:List α} {f : α→Value} (h:zat w B 1 A n (l.map f)):l.length=n:=by
 have:=h.1;rw [List.length_map] at this;omega
theorem zat.later {w w':World} {size n:Nat} {A:Option Addr} {xs:List Value} (h:zat w w.heap.size size A n xs) (hb:Below w.heap.size w w'):zat w' w'.heap.size size A n xs:=(h.below hb).more hb.size
def zeY {α:Type} (f : α→Value) (w:World) (B:Nat) (A:Option Addr) (n:Nat) (rows:List (List α)):Prop:=
 rows.length=n∧∃ vs:List Value,zat w B 1 A n vs∧∀ i (h:i<rows.length),∃ A' c',vs[i]? = some (.slice A' rows[i].length c')∧rows[i].length≤c'∧c'≤maxLen∧zat w B 1 A' rows[i].length (rows[i].map f)
section
variable {α:Type} {f : α→Value} {w w':World} {B B' n:Nat} {A:Option Addr} {rows:List (List α)}
theorem zeY.below (h:zeY f w B A n rows) (hb:Below B w w'):zeY f w' B A n rows:=by
 obtain ⟨hl,vs,hr,hv⟩:=h
 exact ⟨hl,vs,hr.below hb,fun i hi=>by
  obtain ⟨A',c',h1,h2,h3,h4⟩:=hv i hi
  exact ⟨A',c',h1,h2,h3,h4.below hb⟩⟩
theorem zeY.more (h:zeY f w B A n rows) (hB:B≤B'):zeY f w B' A n rows:=by
 obtain ⟨hl,vs,hr,hv⟩:=h
 exact ⟨hl,vs,hr.more hB,fun i hi=>by
  obtain ⟨A',c',h1,h2,h3,h4⟩:=hv i hi
  exact ⟨A',c',h1,h2,h3,h4.more hB⟩⟩
theorem zeY.later (h:zeY f w w.heap.size A n rows) (hb:Below w.heap.size w w'):zeY f w' w'.heap.size A n rows:=(h.below hb).more hb.size
theorem zeY.row (h:zeY f w B A n rows) {k:Nat} (hk:k<n) :
  ∃ (ad:Addr) (hl:k<rows.length) (A':Option Addr) (c':Nat),A=some ad∧ad.block<B∧w.cell? (ad.add k)=some (.slice A' rows[k].length c')∧rows[k].length≤c'∧c'≤maxLen∧zat w B 1 A' rows[k].length (rows[k].map f):=by
 obtain ⟨hl,vs,hr,hv⟩:=h
 have aA:k<rows.length:=by omega
 obtain ⟨A',c',h1,h2,h3,h4⟩:=hv k aA
 obtain ⟨ad,u,hA,hb,hu,hc⟩:=hr.at_ hk
 rw [h1] at hu
 injection hu with hu
 exact ⟨ad,aA,A',c',hA,hb,by rw [hc,←hu],h2,h3,h4⟩
end
theorem zoy {a b:World} {B:Nat} (h:a.grownBy b none) (hB:B≤a.heap.size):Below B a b:=(Below.refl _ _).grown h hB (fun k e=>by cases e)
theorem zj3 {w:World} {base g n c size:Nat} {e:TypeId} {xs:List Value} (h:w.ownsRow base e size (.slice (some ⟨g,0,none⟩) n c) n xs):base≤g∧g<w.heap.size:=World.ownsRow.lt h g rfl
theorem zcV {w:World} {base g n c:Nat} {e:TypeId} {xs:List Value} (h:w.ownsRow base e 1 (.slice (some ⟨g,0,none⟩) n c) n xs) (k:Nat) (u:Value) :
  (w.setCell ⟨g,k,none⟩ u).ownsRow base e 1 (.slice (some ⟨g,0,none⟩) n c) n (xs.set k u):=(World.ownsRow.stored h k u).1
theorem zds {w:World} {base g n c:Nat} {e:TypeId} {xs:List Value} (h:w.ownsRow base e 1 (.slice (some ⟨g,0,none⟩) n c) n xs) (k:Nat) (hk:k<n):∃ u,w.cell? ⟨g,k,none⟩=some u:=by
 rw [World.ownsRow.cellAt h k (by omega)]
 have:=h.1
 exact ⟨_,List.getElem?_eq_getElem (by omega)⟩
theorem zbr {w:World} {base g n c:Nat} {e:TypeId} {xs:List Value} (h:w.ownsRow base e 1 (.slice (some ⟨g,0,none⟩) n c) n xs) (k:Nat):w.frozen? ⟨g,k,none⟩=false:=World.ownsRow.frozenAt h k
def CBlk (w:World) (g:Nat) (c:Array Value) (t:TypeId):Prop:=w.heap[g]? = some (.cells c t (0,0))
section
variable {w w':World} {g B:Nat} {c:Array Value} {t:TypeId}
theorem CBlk.new (w:World) (c:Array Value) (t:TypeId) (g:Nat) (hg:g=w.heap.size):CBlk (w.alloc (.cells c t)) g c t:=by subst hg;exact heap_alloc_new w _
theorem CBlk.below (h:CBlk w g c t) (hb:Below B w w') (hg:g<B):CBlk w' g c t:=(hb.block g hg).trans h
theorem CBlk.grown {row:Option Nat} (h:CBlk w g c t) (hb:w.grownBy w' row) (hg:g<w.heap.size) (hr:row≠some g):CBlk w' g c t:=(hb.block g hg (fun e=>hr e.symm)).trans h
theorem CBlk.cell (h:CBlk w g c t) (i:Nat):w.cell? ⟨g,i,none⟩=c[i]? := cell_of_row w g i _ _ _ h
theorem CBlk.frozen (h:CBlk w g c t) (i:Nat):w.frozen? ⟨g,i,none⟩=false:=by
 unfold CBlk at h
 simp [World.frozen?,h]
theorem CBlk.lt (h:CBlk w g c t):g<w.heap.size:=by
 unfold CBlk at h
 rcases Nat.lt_or_ge g w.heap.size with aC | aA
 ·exact aC
 ·rw [Array.getElem?_eq_none aA] at h;cases h
theorem CBlk.set0 {v u:Value} (h:CBlk w g #[v] t):CBlk (w.setCell ⟨g,0,none⟩ u) g #[u] t:=heap_setCell_same w g 0 #[v] t u h
end
theorem zcE {w:World} {base size n:Nat} {e:TypeId} {v:Value} {xs:List Value} (h:w.ownsRow base e size v n xs):∃ A c,v = .slice A n c∧n≤c∧c≤maxLen∧zat w w.heap.size size A n xs:=by
 rcases h.2 with ⟨rfl,rfl⟩ | ⟨g,aE,aG,rfl,hb,hg,aC,aD,aF,aA⟩
 ·exact ⟨none,0,rfl,Nat.le_refl _,by unfold maxLen;omega,h.1,fun h0=>absurd h0 (by omega)⟩
 ·exact ⟨some ⟨g,0,none⟩,aE,rfl,aC,aD,zat.of_own h⟩
theorem zhn {w:World} {base size n g:Nat} {e:TypeId} {xs:List Value} (h:w.heap[g]? = some (.cells xs.toArray e (0,0))) (hb:base≤g) (hn:n≤maxLen) (hl:xs.length=n*size):w.ownsRow base e size (.slice (some ⟨g,0,none⟩) n n) n xs:=
 ⟨hl,.inr ⟨g,n,xs.toArray,rfl,hb,h,Nat.le_refl _,hn,by simpa using hl,by rw [List.take_of_length_le (by simp;omega)]⟩⟩
end Go.Proofs.YteajibbphcfmeaaGreatDoor
namespace Go.Proofs.YteajibbphcfmeaaGreatDoor
open Go.RowKit Dn
theorem zeF (l:List Nat) (k x:Nat) (hk:k<l.length):val ((l.set k x).drop k)=x+B*val (l.drop (k+1)):=by
 have h1:(l.set k x).drop k=x :: (l.set k x).drop (k+1):=by
  rw [List.drop_eq_getElem_cons (by simpa using hk)]
  simp
 rw [h1,val_cons,List.drop_set_of_lt (by omega)]
theorem zbe.zero {w:World} {B:Nat} {A:Option Addr}:zbe w B A 0 []:=⟨rfl,fun h=>absurd h (by omega)⟩
theorem zat.cellsD {w:World} {B n:Nat} {a:Addr} {xs:List Value} (h:zat w B 1 (some a) n xs):∀ j u,xs[j]? = some u→w.cell? (a.add j)=some u:=by
 intro j u hu
 have hl:=h.1
 have hj:j<xs.length:=by
  rcases Nat.lt_or_ge j xs.length with h1 | h1
  ·exact h1
  ·rw [List.getElem?_eq_none h1] at hu;cases hu
 obtain ⟨ad,e,_,hc⟩:=h.2 (by omega)
 injection e with e
 subst e
 exact hc j u hu
theorem zik {w:World} {base size n:Nat} {e:TypeId} {v:Value} {xs:List Value} (h:w.ownsRow base e size v n xs) (hn:0<n):∃ g c,v = .slice (some ⟨g,0,none⟩) n c∧base≤g:=by
 rcases h.2 with ⟨rfl,h0⟩ | ⟨g,aA,aC,rfl,hb,_⟩
 ·omega
 ·exact ⟨g,aA,rfl,hb⟩
theorem NatD.kept {w w':World} {n c x g:Nat} {A:Option Addr} (h:NatD w w.heap.size A n c x) (hg:w.grownBy w' (some g)) (ho:0<n→Off A g):NatD w' w'.heap.size A n c x:=
 ⟨(h.words.kept hg (Nat.le_refl _) ho).more hg.size,h.nc,h.cm⟩
theorem NatD.stored {w:World} {n c x g g' i:Nat} {u:Value} (h:NatD w w.heap.size (some ⟨g,0,none⟩) n c x) (hne:g≠g'):NatD (w.setCell ⟨g',i,none⟩ u) (w.setCell ⟨g',i,none⟩ u).heap.size (some ⟨g,0,none⟩) n c x:=
 h.kept (zaU (World.grownBy.refl w _) (.inl rfl) u) (fun _ ad e=>by injection e with e;subst e;exact hne)
end Go.Proofs.YteajibbphcfmeaaGreatDoor
