/- Plain facts of decimal texts: the text of a number in lowest terms, read again, is the number; the text of what was read is the text. No program. -/
import Derived.Test.YtbkgkoenppkhpaaGreatDoorGRead2
import Derived.Test.YtbkgkoenppkhpaaGreatDoorGBld
import Derived.Test.YtbkgkoenppkhpaaGreatDoorGWords
import Derived.Test.YtbkgkoenppkhpaaGreatDoorGNat5
import Derived.Test.YtbkgkoenppkhpaaGreatDoorGNat3
import Derived.Test.YtbkgkoenppkhpaaGreatDoorGNa1
import Derived.Test.YtbkgkoenppkhpaaGreatDoorGRat1
import Derived.Test.YtbkgkoenppkhpaaGreatDoorGStr1
import Derived.Shelf.Strconv.ParseUint10At
import Derived.Test.YtbkgkoenppkhpaaGreatDoorProg
import Derived.Lib.AtoiErrMem
import Derived.Laws.FloatBits
import Derived.Laws.FloatArith
namespace Go.Proofs.YtbkgkoenppkhpaaGreatDoor
section
open Go.RowKit Bn
theorem zdV {n:Nat} (h:n<10):(UInt8.ofNat (48+n)).toNat=48+n:=by
 rw [UInt8.toNat_ofNat'];omega
theorem zhY {n:Nat} (h:n<10):digB ((UInt8.ofNat (48+n)).toNat:Int)=true:=by
 rw [zdV h];unfold digB;simp
 omega
theorem zmj {c:UInt8} (h:digB (c.toNat:Int)=true):48≤c.toNat∧c.toNat≤57∧c=UInt8.ofNat (48+(c.toNat - 48)):=by
 unfold digB at h;simp at h
 have h1:48≤c.toNat:=by omega
 have h2:c.toNat≤57:=by omega
 refine ⟨h1,h2,?_⟩
 apply UInt8.toNat_inj.1
 rw [UInt8.toNat_ofNat'];omega
theorem zaC (n:Nat):zaq (Lib.decDigits n)=true:=by
 induction n using Nat.strongRecOn with
 | ind n ih=>
  rw [Lib.decDigits]
  split
  ·rename_i h
   unfold zaq;simp only [List.all_cons,List.all_nil,Bool.and_true]
   exact zhY h
  ·rename_i h
   rw [zby,ih _ (by omega),Bool.true_and];unfold zaq;simp only [List.all_cons,List.all_nil,Bool.and_true]
   exact zhY (by omega)
theorem zaW (n:Nat):zah (Lib.decDigits n)=n:=by
 induction n using Nat.strongRecOn with
 | ind n ih=>
  rw [Lib.decDigits]
  split
  ·rename_i h
   show 0*10+((UInt8.ofNat (48+n)).toNat - 48)=n
   rw [zdV h];omega
  ·rename_i h
   rw [zdc,ih _ (by omega),zdV (by omega)];omega
theorem znJ (n:Nat):Lib.decDigits n≠[]:=by
 have:=Dec.dec_length_pos n;intro h;rw [h] at this;simp at this
theorem znk {n:Nat} (h:0<n):(Lib.decDigits n).head? ≠ some 48:=by
 induction n using Nat.strongRecOn with
 | ind n ih=>
  rw [Lib.decDigits]
  split
  ·rename_i h1
   intro e;simp only [List.head?_cons,Option.some.injEq] at e
   have:=congrArg UInt8.toNat e;rw [zdV h1] at this;have aC:(48:UInt8).toNat=48:=by decide
   omega
  ·rename_i h1
   have h2:=ih (n / 10) (by omega) (by omega);obtain ⟨x,t,aA⟩:=List.exists_cons_of_ne_nil (znJ (n / 10));rw [aA] at h2 ⊢;exact h2
theorem zfA (n:Nat):zax (Lib.decDigits n)=true:=by
 unfold zax;rw [zaC,Bool.true_and]
 rcases Nat.eq_zero_or_pos n with rfl | h
 ·have e:Lib.decDigits 0=[48]:=by rw [Lib.decDigits];rfl
  simp [e]
 ·simp [znJ,znk h]
theorem zbi:∀ (l:List UInt8),zax l=true→Lib.decDigits (zah l)=l:=by
 intro l
 induction hn:l.length using Nat.strongRecOn generalizing l with
 | ind n ih=>
  intro h;subst hn
  by_cases h48:l=[48]
  ·subst h48
   decide +kernel
  ·have hd:zaq l=true:=zat h
   have aD:l≠[]:=by
    intro e;subst e;simp [zax] at h
   have hh:l.head? ≠ some 48:=by
    unfold zax at h;rw [hd] at h;simp [h48] at h
    exact h.2
   obtain ⟨a,c,rfl⟩:∃ a c,l=a++[c]:=⟨l.dropLast,l.getLast aD,(List.dropLast_concat_getLast aD).symm⟩;rw [zby] at hd;have aE:zaq a=true:=by
    cases hq:zaq a
    ·rw [hq] at hd;simp at hd
    ·rfl
   have aF:digB (c.toNat:Int)=true:=by
    rw [aE,Bool.true_and] at hd;unfold zaq at hd
    simpa using hd
   obtain ⟨h1,h2,h3⟩:=zmj aF;rw [zdc]
   cases a with
   | nil=>
    have e0:zah []=0:=rfl;rw [e0,Nat.zero_mul,Nat.zero_add,Lib.decDigits,dif_pos (by omega),List.nil_append];rw [←h3]
   | cons x t=>
    have hx:(x :: t).head? ≠ some 48:=by simpa using hh
    have aA:zax (x :: t)=true:=by
     unfold zax;rw [aE,Bool.true_and];simp only [Bool.or_eq_true,Bool.and_eq_true,decide_eq_true_eq]
     exact .inr ⟨by simp,hx⟩
    have hp:0<zah (x :: t):=zc3 aA (by intro e;rw [e] at hx;simp at hx);have aC:=ih (x :: t).length (by simp) (x :: t) rfl aA;rw [Lib.decDigits,dif_neg (by omega),show (zah (x :: t)*10+(c.toNat - 48)) / 10=zah (x :: t) by omega,show (zah (x :: t)*10+(c.toNat - 48)) % 10=c.toNat - 48 by omega,aC,←h3]
theorem zd3:∀ (l:List UInt8),(∀ c ∈ l,c≠47)→Lib.indexByte l 47 = -1
 | [],_=>rfl
 | b :: l,h=>by
  have h1:(b==47)=false:=beq_eq_false_iff_ne.2 (h b (List.mem_cons_self ..));have h2:=zd3 l (fun c hc=>h c (List.mem_cons_of_mem _ hc));unfold Lib.indexByte;rw [h1,h2];rfl
theorem zdq:∀ (l r:List UInt8),(∀ c ∈ l,c≠47)→Lib.indexByte (l++47 :: r) 47=l.length
 | [],_,_=>rfl
 | b :: l,r,h=>by
  have h1:(b==47)=false:=beq_eq_false_iff_ne.2 (h b (List.mem_cons_self ..));have h2:=zdq l r (fun c hc=>h c (List.mem_cons_of_mem _ hc));show (if b==47 then (0:Int) else if Lib.indexByte (l++47 :: r) 47 == -1 then -1 else Lib.indexByte (l++47 :: r) 47+1)=_
  rw [h1,h2];have h3:((l.length:Int) == -1)=false:=by rw [beq_eq_false_iff_ne];omega
  simp [h3]
theorem zhX {l:List UInt8} (h:∀ c ∈ l,c≠47):cutL l=(l,[],false):=by
 unfold cutL;rw [zd3 l h];rfl
theorem zgA {l r:List UInt8} (h:∀ c ∈ l,c≠47):cutL (l++47 :: r)=(l,r,true):=by
 unfold cutL;rw [zdq l r h,if_pos (by omega),Int.toNat_natCast];simp
theorem zdD {l:List UInt8} (h:zaq l=true) {c:UInt8} (hc:c ∈ l):48≤c.toNat∧c.toNat≤57:=by
 unfold zaq at h;have:=zmj (List.all_eq_true.1 h c hc);exact ⟨this.1,this.2.1⟩
def sgnT (neg:Bool) (t:List UInt8):List UInt8:=if neg then 45 :: t else t
theorem zcg {neg:Bool} {t:List UInt8} (h:zaq t=true):∀ c ∈ sgnT neg t,c≠47:=by
 have h1:∀ c ∈ t,c≠47:=fun c hc e=>by
  have:=(zdD h hc).1;rw [e] at this;exact absurd this (by decide)
 unfold sgnT
 cases neg
 ·exact h1
 ·intro c hc
  rcases List.mem_cons.1 hc with rfl | hc
  ·decide
  ·exact h1 c hc
theorem znh {neg:Bool} {t:List UInt8} (h:zaq t=true):Lib.hasPrefix (sgnT neg t) [45]=neg∧Lib.trimPrefix (sgnT neg t) [45]=t:=by
 have h0:∀ neg,Lib.hasPrefix (sgnT neg t) [45]=neg:=by
  intro neg
  cases neg
  ·unfold sgnT Lib.hasPrefix
   cases t with
   | nil=>rfl
   | cons x r=>
    have:=(zdD h (List.mem_cons_self ..)).1;have hx:((45:UInt8)==x)=false:=by
     rw [beq_eq_false_iff_ne];intro e;rw [←e] at this;exact absurd this (by decide)
    simp [List.isPrefixOf,hx]
  ·rfl
 refine ⟨h0 neg,?_⟩;unfold Lib.trimPrefix;rw [h0 neg]
 cases neg<;>rfl
def LowQ (p:Q):Prop:=0<p.bot∧Nat.gcd p.top p.bot=1∧(p.neg=true→0<p.top)
theorem zaV (p:Q):zaE p=sgnT p.neg (Lib.decDigits p.top)++(if p.bot=1 then [] else 47 :: Lib.decDigits p.bot):=rfl
theorem zfl {n:Nat} (h:0<n):Lib.decDigits n≠[48]:=fun e=>by
 have:=zaW n;rw [e] at this;have h48:zah [48]=0:=by decide
 omega
theorem zm6 {n:Nat} (h:n≠1):Lib.decDigits n≠[49]:=fun e=>by
 have:=zaW n;rw [e] at this;have h49:zah [49]=1:=by decide
 omega
theorem zfU (p:Q) (h:LowQ p) (h1:(Lib.decDigits p.top).length≤600) (h2:(Lib.decDigits p.bot).length≤600):zam (zaE p)=0∧zak (zaE p)=p:=by
 obtain ⟨hb,hg,hn⟩:=h;obtain ⟨hp,ht⟩:=znh (neg:=p.neg) (zaC p.top)
 by_cases hb1:p.bot=1
 ·have hc:cutL (zaE p)=(sgnT p.neg (Lib.decDigits p.top),[],false):=by
   rw [zaV,if_pos hb1,List.append_nil];exact zhX (zcg (zaC _))
  have e1:topL (zaE p)=Lib.decDigits p.top:=by unfold topL;rw [hc];exact ht
  have e2:negL (zaE p)=p.neg:=by unfold negL;rw [hc];exact hp
  have e3:botL (zaE p)=[]:=by unfold botL;rw [hc]
  have e4:zdn (zaE p)=false:=by unfold zdn;rw [hc]
  have he:zam (zaE p)=0:=by
   unfold zam za7;rw [e1,e2,e3,e4,if_neg,if_neg,if_neg,if_neg]
   ·simp
   ·simp;exact h1
   ·simp
   ·rw [zfA]
    rintro (h | ⟨h,h'⟩)
    ·cases h
    ·exact zfl (hn h) h'
  refine ⟨he,?_⟩;unfold zak;rw [if_pos he,e1,e2,e4,zaW]
  cases p
  simp_all
 ·have hc:cutL (zaE p)=(sgnT p.neg (Lib.decDigits p.top),Lib.decDigits p.bot,true):=by
   rw [zaV,if_neg hb1];exact zgA (zcg (zaC _))
  have e1:topL (zaE p)=Lib.decDigits p.top:=by unfold topL;rw [hc];exact ht
  have e2:negL (zaE p)=p.neg:=by unfold negL;rw [hc];exact hp
  have e3:botL (zaE p)=Lib.decDigits p.bot:=by unfold botL;rw [hc]
  have e4:zdn (zaE p)=true:=by unfold zdn;rw [hc]
  have he:zam (zaE p)=0:=by
   unfold zam za7;rw [e1,e2,e3,e4,if_neg,if_neg,if_neg,if_neg]
   ·rw [zaW,zaW]
    simp [hg]
   ·omega
   ·rw [zfA]
    rintro ⟨_,h | h | h⟩
    ·cases h
    ·exact zfl hb h
    ·exact zm6 hb1 h
   ·rw [zfA]
    rintro (h | ⟨h,h'⟩)
    ·cases h
    ·exact zfl (hn h) h'
  refine ⟨he,?_⟩;unfold zak;rw [if_pos he,e1,e2,e3,e4,zaW,zaW];rfl
theorem zlH (l:List UInt8):l=(cutL l).1++(if (cutL l).2.2=true then 47 :: (cutL l).2.1 else []):=by
 unfold cutL
 split
 ·rename_i h
  obtain ⟨o,ho⟩:=Int.eq_ofNat_of_zero_le h;obtain ⟨h1,_⟩:=Lib.indexByte_some ho;rw [ho];simp only [Int.toNat_natCast,if_true]
  have aA:o<l.length:=by
   rcases Nat.lt_or_ge o l.length with h3 | h3
   ·exact h3
   ·rw [List.getElem?_eq_none h3] at h1;cases h1
  rw [List.getElem?_eq_getElem aA] at h1;injection h1 with h1
  conv=>lhs;rw [←List.take_append_drop o l,List.drop_eq_getElem_cons aA,h1]
 ·simp
theorem zmC (t:List UInt8):t=sgnT (Lib.hasPrefix t [45]) (Lib.trimPrefix t [45]):=by
 unfold sgnT Lib.trimPrefix
 cases h:Lib.hasPrefix t [45]
 ·rfl
 ·cases t with
  | nil=>cases h
  | cons x r=>
   unfold Lib.hasPrefix at h;simp [List.isPrefixOf] at h
   subst h;rfl
theorem ziG (l:List UInt8) (h:zam l=0):zaE (zak l)=l:=by
 obtain ⟨h1,_,_,h4⟩:=zcf h;have e0:zak l=⟨negL l,zah (topL l),if zdn l then zah (botL l) else 1⟩:=by unfold zak;rw [if_pos h]
 have ej:=zlH l;have es:=zmC (cutL l).1;rw [zaV,e0]
 dsimp only
 rw [zbi _ h1];have e1:sgnT (negL l) (topL l)=(cutL l).1:=es.symm;rw [e1]
 cases hf:zdn l
 ·have aA:(cutL l).2.2=false:=hf
  rw [aA] at ej
  simpa using ej.symm
 ·have aA:(cutL l).2.2=true:=hf
  obtain ⟨h5,h6,h7,_⟩:=h4 hf;have aC:zah (botL l)≠1:=fun e=>by
   have:=zbi _ h5;rw [e] at this;exact h7 (this.symm.trans (by decide +kernel))
  rw [aA] at ej;simp only [if_true] at ej
  rw [if_pos rfl,if_neg aC,zbi _ h5];exact ej.symm
end
end Go.Proofs.YtbkgkoenppkhpaaGreatDoor
namespace Go.Proofs.YtbkgkoenppkhpaaGreatDoor.Dn
def B:Nat:=1000000000
theorem zdm:B=1000000000:=rfl
theorem zaO:0<B:=by decide
theorem zeA:1<B:=by decide
def val:List Nat→Nat
 | []=>0
 | x :: xs=>x+B*val xs
def Wf (l:List Nat):Prop:=∀ x ∈ l,x<B
theorem Wf.nil:Wf []:=fun _ h=>by cases h
theorem Wf.cons {x:Nat} {l:List Nat} (h:x<B) (k:Wf l):Wf (x :: l):=by
 intro y hy
 rcases List.mem_cons.1 hy with rfl | hy
 ·exact h
 ·exact k y hy
theorem Wf.replicate (n:Nat):Wf (List.replicate n 0):=fun _ hy=>by rw [(List.mem_replicate.1 hy).2];exact zaO
theorem Wf.head {x:Nat} {l:List Nat} (h:Wf (x :: l)):x<B:=h x (by simp)
theorem Wf.tail {x:Nat} {l:List Nat} (h:Wf (x :: l)):Wf l:=fun y hy=>h y (by simp [hy])
theorem Wf.append {a b:List Nat} (h:Wf a) (k:Wf b):Wf (a++b):=by
 intro y hy
 rcases List.mem_append.1 hy with hy | hy
 ·exact h y hy
 ·exact k y hy
theorem Wf.take {a:List Nat} (h:Wf a) (n:Nat):Wf (a.take n):=fun y hy=>h y (List.mem_of_mem_take hy)
theorem Wf.drop {a:List Nat} (h:Wf a) (n:Nat):Wf (a.drop n):=fun y hy=>h y (List.mem_of_mem_drop hy)
theorem Wf.get {a:List Nat} (h:Wf a) {i:Nat} (hi:i<a.length):a[i]<B:=h _ (List.getElem_mem hi)
theorem Wf.set {a:List Nat} (h:Wf a) (i:Nat) {x:Nat} (hx:x<B):Wf (a.set i x):=by
 intro y hy
 rcases List.mem_or_eq_of_mem_set hy with hy | rfl
 ·exact h y hy
 ·exact hx
@[simp] theorem val_nil:val []=0:=rfl
@[simp] theorem val_cons (x:Nat) (xs:List Nat):val (x :: xs)=x+B*val xs:=rfl
theorem zaM (a b:List Nat):val (a++b)=val a+B ^ a.length*val b:=by
 induction a with
 | nil=>simp
 | cons x a ih=>
  simp only [List.cons_append,val_cons,ih,List.length_cons,Nat.pow_succ]
  rw [Nat.mul_add,←Nat.mul_assoc,Nat.mul_comm B (B ^ a.length),Nat.add_assoc]
theorem zaQ (x:Nat):val [x]=x:=by simp
theorem zbm {l:List Nat} (h:Wf l):val l<B ^ l.length:=by
 induction l with
 | nil=>simp
 | cons x l ih=>
  have h1:=ih h.tail;have h2:=h.head;simp only [val_cons,List.length_cons,Nat.pow_succ]
  have:B*val l+B≤B*B ^ l.length:=by
   have:B*(val l+1)≤B*B ^ l.length:=Nat.mul_le_mul_left B h1
   rwa [Nat.mul_add,Nat.mul_one] at this
  rw [Nat.mul_comm (B ^ l.length) B];omega
theorem zas (l:List Nat) (k:Nat) (h:k<l.length):val (l.take (k+1))=val (l.take k)+B ^ k*l[k]:=by
 rw [List.take_succ_eq_append_getElem h,zaM,zaQ,List.length_take,Nat.min_eq_left (by omega)]
theorem zav (l:List Nat) (k:Nat) (h:k≤l.length):val l=val (l.take k)+B ^ k*val (l.drop k):=by
 have h1:=zaM (l.take k) (l.drop k);rw [List.take_append_drop,List.length_take,Nat.min_eq_left h] at h1;exact h1
theorem zaX (n:Nat):val (List.replicate n 0)=0:=by
 induction n with
 | zero=>rfl
 | succ n ih=>simp [List.replicate_succ,ih]
theorem zf5 {l:List Nat} (h:∀ x ∈ l,x=0):val l=0:=by
 induction l with
 | nil=>rfl
 | cons x l ih=>
  have:=h x (by simp);simp [this,ih (fun y hy=>h y (by simp [hy]))]
def digs (n:Nat):List Nat:=if n=0 then [] else (n % B) :: digs (n / B)
termination_by n
decreasing_by
 rename_i h
 exact Nat.div_lt_self (by omega) zeA
theorem zao:digs 0=[]:=by rw [digs];rfl
theorem zbe {n:Nat} (h:0<n):digs n=(n % B) :: digs (n / B):=by rw [digs,if_neg (by omega)]
theorem zaj (n:Nat):val (digs n)=n:=by
 induction n using Nat.strongRecOn with
 | ind n ih=>
  rcases Nat.eq_zero_or_pos n with rfl | h
  ·rw [zao];rfl
  ·rw [zbe h,val_cons,ih _ (Nat.div_lt_self h zeA)]
   exact Nat.mod_add_div n B
theorem zap (n:Nat):Wf (digs n):=by
 induction n using Nat.strongRecOn with
 | ind n ih=>
  rcases Nat.eq_zero_or_pos n with rfl | h
  ·rw [zao];exact Wf.nil
  ·rw [zbe h]
   exact Wf.cons (Nat.mod_lt _ zaO) (ih _ (Nat.div_lt_self h zeA))
theorem zcq {n:Nat} (h:0<n):digs n≠[]:=by rw [zbe h];simp
theorem zd8 {n:Nat}:digs n=[]↔n=0:=by
 constructor
 ·intro h
  rcases Nat.eq_zero_or_pos n with h0 | h0
  ·exact h0
  ·exact absurd h (zcq h0)
 ·rintro rfl;exact zao
theorem zar {n:Nat} (h:0<n):0<(digs n).length:=List.length_pos_iff.2 (zcq h)
theorem za6 {n:Nat}:(digs n).length=0↔n=0:=by rw [List.length_eq_zero_iff];exact zd8
def Norm (l:List Nat):Prop:=∀ h:0<l.length,l[l.length - 1]≠0
theorem zc1 (n:Nat):Norm (digs n):=by
 induction n using Nat.strongRecOn with
 | ind n ih=>
  intro h0
  rcases Nat.eq_zero_or_pos n with rfl | h
  ·simp [zao] at h0
  ·have aA:=ih _ (Nat.div_lt_self h zeA)
   have e:=zbe h
   rcases Nat.eq_zero_or_pos (n / B) with hq | hq
   ·have e2:digs n=[n % B]:=by rw [e,hq,zao]
    have:n % B≠0:=by
     have:=Nat.mod_add_div n B;rw [hq] at this;omega
    simp only [e2]
    simpa using this
   ·have hl:=zar hq
    have h2:=aA hl;simp only [e,List.length_cons,Nat.add_sub_cancel]
    rw [List.getElem_cons,dif_neg (by omega)];exact h2
theorem zg4 {l:List Nat} (hw:Wf l) (hn:Norm l):digs (val l)=l:=by
 induction l with
 | nil=>exact zao
 | cons x l ih=>
  have hx:=hw.head;have aA:0<x+B*val l:=by
   rcases Nat.eq_zero_or_pos l.length with h0 | h0
   ·have:l=[]:=List.eq_nil_of_length_eq_zero h0
    subst this;have:=hn (by simp);simp at this
    omega
   ·have aC:Norm l:=by
     intro h;have:=hn (by simp);simp only [List.length_cons,Nat.add_sub_cancel] at this
     rw [List.getElem_cons,dif_neg (by omega)] at this;exact this
    have e:=ih hw.tail aC;have:val l≠0:=by
     intro hz;rw [hz,zao] at e;subst e;simp at h0
    have:=Nat.mul_pos zaO (Nat.pos_of_ne_zero this);omega
  rw [val_cons,zbe aA];have h1:(x+B*val l) % B=x:=by rw [Nat.add_mul_mod_self_left,Nat.mod_eq_of_lt hx]
  have h2:(x+B*val l) / B=val l:=by rw [Nat.add_mul_div_left _ _ zaO,Nat.div_eq_of_lt hx,Nat.zero_add]
  rw [h1,h2]
  rcases Nat.eq_zero_or_pos l.length with h0 | h0
  ·have:l=[]:=List.eq_nil_of_length_eq_zero h0
   subst this;simp [zao]
  ·rw [ih hw.tail]
   intro h;have:=hn (by simp);simp only [List.length_cons,Nat.add_sub_cancel] at this
   rw [List.getElem_cons,dif_neg (by omega)] at this;exact this
theorem zeu {l:List Nat} (hw:Wf l) (n:Nat) (hn:n≤l.length) (hz:∀ j (h:j<l.length),n≤j→l[j]=0)
  (ht:∀ h:n - 1<l.length,0<n→l[n - 1]≠0):l.take n=digs (val l):=by
 have h1:val (l.drop n)=0:=by
  apply zf5
  intro x hx;obtain ⟨i,hi,rfl⟩:=List.getElem_of_mem hx;rw [List.getElem_drop];exact hz _ _ (by omega)
 rw [zav l n hn,h1,Nat.mul_zero,Nat.add_zero];refine (zg4 (hw.take n) ?_).symm;intro h0;rw [List.length_take,Nat.min_eq_left hn] at h0;simp only [List.length_take,Nat.min_eq_left hn,List.getElem_take]
 exact ht (by omega) h0
theorem zad {n k:Nat} (h:n<B ^ k):(digs n).length≤k:=by
 rcases Nat.eq_zero_or_pos n with rfl | hp
 ·simp [zao]
 ·rcases Nat.lt_or_ge k (digs n).length with hk | hk
  ·exfalso
   have hn:=zc1 n (zar hp);have hs:=zav (digs n) ((digs n).length - 1) (by omega);rw [zaj] at hs;have hd:(digs n).drop ((digs n).length - 1)=[(digs n)[(digs n).length - 1]]:=by
    rw [List.drop_eq_getElem_cons (by omega)]
    congr 1
    apply List.drop_eq_nil_of_le
    omega
   rw [hd,zaQ] at hs;have:B ^ k≤B ^ ((digs n).length - 1):=Nat.pow_le_pow_right zaO (by omega);have h1:1≤(digs n)[(digs n).length - 1]:=Nat.pos_of_ne_zero hn;have:=Nat.le_mul_of_pos_right (B ^ ((digs n).length - 1)) h1;omega
  ·exact hk
theorem zab (n:Nat):n<B ^ (digs n).length:=by
 have:=zbm (zap n)
 rwa [zaj] at this
theorem zaz {n:Nat} (h:0<n):B ^ ((digs n).length - 1)≤n:=by
 rcases Nat.lt_or_ge n (B ^ ((digs n).length - 1)) with hl | hl
 ·have:=zad hl
  have:=zar h;omega
 ·exact hl
theorem zbo {a b:Nat} (h:(digs a).length<(digs b).length):a<b:=by
 have h1:=zab a;have hb:0<b:=by
  rcases Nat.eq_zero_or_pos b with rfl | hb
  ·simp [zao] at h
  ·exact hb
 have h2:=zaz hb;have:B ^ (digs a).length≤B ^ ((digs b).length - 1):=Nat.pow_le_pow_right zaO (by omega);omega
theorem zaa {a b:Nat} (h:a≤b):(digs a).length≤(digs b).length:=by
 rcases Nat.lt_or_ge (digs b).length (digs a).length with hl | hl
 ·have:=zbo hl;omega
 ·exact hl
theorem zdZ {x y:List Nat} (hx:Wf x) (hl:x.length=y.length) (i:Nat) (hi:i<x.length)
  (habove:∀ j (h:j<x.length) (h':j<y.length),i<j→x[j]=y[j]) (hlt:x[i]<y[i]'(by omega)):val x<val y:=by
 have aA:i<y.length:=by omega
 rw [zav x (i+1) (by omega),zav y (i+1) (by omega)];have e:x.drop (i+1)=y.drop (i+1):=by
  apply List.ext_getElem
  ·simp [hl]
  ·intro j h1 h2
   simp only [List.getElem_drop]
   rw [List.length_drop] at h1;exact habove _ (by omega) (by omega) (by omega)
 rw [e,zas x i hi,zas y i aA];have h1:=zbm (hx.take i);rw [List.length_take,Nat.min_eq_left (by omega)] at h1;have h3:B ^ i*x[i]+B ^ i≤B ^ i*y[i]:=by
  have:=Nat.mul_le_mul_left (B ^ i) hlt
  rwa [Nat.mul_succ] at this
 omega
theorem zc8 {x y:List Nat} (hl:x.length=y.length) (h:∀ j (h:j<x.length) (h':j<y.length),x[j]=y[j]):x=y:=
 List.ext_getElem hl fun j h1 h2=>h j h1 h2
theorem zgN {a b:Nat} (h:digs a=digs b):a=b:=by rw [←zaj a,h,zaj]
theorem zaA {l:List Nat} (h:Wf l) (k:Nat):l.getD k 0<1000000000:=by
 by_cases hk:k<l.length
 ·have:=h.get hk
  have e:l.getD k 0=l[k]:=by simp [List.getD,hk]
  rw [e];exact this
 ·have e:l.getD k 0=0:=by simp [List.getD,Nat.le_of_not_lt hk]
  rw [e];decide
theorem zbU {l:List Nat} {k:Nat} (h:l.length≤k):l.getD k 0=0:=by simp [List.getD,h]
theorem getD_in {l:List Nat} {k:Nat} (h:k<l.length):l.getD k 0=l[k]:=by simp [List.getD,h]
theorem zaf (l:List Nat) (k:Nat):val (l.take (k+1))=val (l.take k)+B ^ k*l.getD k 0:=by
 by_cases hk:k<l.length
 ·rw [getD_in hk,zas l k hk]
 ·rw [zbU (by omega),List.take_of_length_le (by omega),List.take_of_length_le (by omega)];simp
theorem zdb (l:List Nat) (k x:Nat):(l.set k x).take k=l.take k:=by rw [List.take_set_of_le];omega
theorem zaF (l:List Nat) (k x:Nat) (hk:k<l.length):val ((l.set k x).take (k+1))=val (l.take k)+B ^ k*x:=by
 have h1:=zas (l.set k x) k (by simpa using hk);rw [List.getElem_set_self] at h1;rw [h1,zdb]
theorem zeQ (l a b:List Nat) (k:Nat) (hk:k<l.length) (s c0 c1:Nat)
  (hinv:val (l.take k)+B ^ k*c0=val (a.take k)+val (b.take k))
  (hs:s+B*c1=a.getD k 0+b.getD k 0+c0):val ((l.set k s).take (k+1))+B ^ (k+1)*c1=val (a.take (k+1))+val (b.take (k+1)):=by
 rw [zaF l k s hk,zaf a,zaf b,Nat.pow_succ,Nat.mul_assoc];have h3:B ^ k*s+B ^ k*(B*c1)=B ^ k*a.getD k 0+B ^ k*b.getD k 0+B ^ k*c0:=by rw [←Nat.mul_add,hs,Nat.mul_add,Nat.mul_add]
 omega
theorem zga (l a b:List Nat) (k:Nat) (hk:k<l.length) (d b0 b1:Nat)
  (hinv:val (l.take k)+val (b.take k)=val (a.take k)+B ^ k*b0)
  (hs:d+b.getD k 0+b0=a.getD k 0+B*b1):val ((l.set k d).take (k+1))+val (b.take (k+1))=val (a.take (k+1))+B ^ (k+1)*b1:=by
 rw [zaF l k d hk,zaf a,zaf b,Nat.pow_succ,Nat.mul_assoc];have h3:B ^ k*d+B ^ k*b.getD k 0+B ^ k*b0=B ^ k*a.getD k 0+B ^ k*(B*b1):=by rw [←Nat.mul_add,←Nat.mul_add,hs,Nat.mul_add]
 omega
theorem minus_end (d y x p b0:Nat) (h:d+y=x+p*b0) (hd:d<p) (hyx:y≤x) (hb:b0≤1):d=x - y:=by
 have:b0=0∨b0=1:=by omega
 rcases this with rfl | rfl
 ·omega
 ·omega
theorem zd5 (l:List Nat) (k x:Nat) (hk:k<l.length):val (l.set k x)+B ^ k*l.getD k 0=val l+B ^ k*x:=by
 have h1:=zav (l.set k x) (k+1) (by rw [List.length_set];exact hk);have h2:=zav l (k+1) hk;rw [zaF l k x hk] at h1;rw [zaf] at h2;have h3:(l.set k x).drop (k+1)=l.drop (k+1):=by rw [List.drop_set_of_lt];omega
 rw [h3] at h1;omega
theorem zaG (l:List Nat) (k j x:Nat) (h:k≠j):(l.set k x).getD j 0=l.getD j 0:=by
 simp only [List.getD]
 rw [List.getElem?_set_ne h]
theorem zcL (l:List Nat) (k x:Nat) (h:k<l.length):(l.set k x).getD k 0=x:=by
 simp only [List.getD]
 rw [List.getElem?_set_self h];rfl
theorem zcu (n t:Nat):(List.replicate n 0).getD t 0=0:=by
 by_cases h:t<n
 ·simp [List.getD,h]
 ·simp [List.getD,Nat.le_of_not_lt h]
theorem zef (l lb:List Nat) (i j p f lo hi c:Nat) (hk:i+j<l.length)
  (hinv:val l+B ^ (i+j)*c=p+B ^ i*(f*val (lb.take j))) (hs:lo+B*hi=f*lb.getD j 0+l.getD (i+j) 0+c) :
  val (l.set (i+j) lo)+B ^ (i+(j+1))*hi=p+B ^ i*(f*val (lb.take (j+1))):=by
 have h1:=zd5 l (i+j) lo hk;rw [zaf,Nat.mul_add f,Nat.mul_add (B ^ i)];have h2:B ^ (i+j)*lo+B ^ (i+j)*(B*hi)=B ^ (i+j)*(f*lb.getD j 0)+B ^ (i+j)*l.getD (i+j) 0+B ^ (i+j)*c:=by
  rw [←Nat.mul_add,hs,Nat.mul_add,Nat.mul_add]
 have h3:B ^ (i+(j+1))*hi=B ^ (i+j)*(B*hi):=by rw [←Nat.add_assoc,Nat.pow_succ,Nat.mul_assoc]
 have h4:B ^ i*(f*(B ^ j*lb.getD j 0))=B ^ (i+j)*(f*lb.getD j 0):=by
  rw [Nat.pow_add,Nat.mul_left_comm f,Nat.mul_assoc]
 rw [h3,h4];generalize B ^ (i+j)*lo=a1 at *;generalize B ^ (i+j)*(B*hi)=a2 at *;generalize B ^ (i+j)*(f*lb.getD j 0)=a3 at *;generalize B ^ (i+j)*l.getD (i+j) 0=a4 at *;generalize B ^ (i+j)*c=a5 at *;generalize B ^ i*(f*val (lb.take j))=a6 at *;omega
theorem zfM (l la lb:List Nat) (i n' c:Nat) (hk:i+n'<l.length) (hz:l.getD (i+n') 0=0) (hn:lb.length=n')
  (hinv:val l+B ^ (i+n')*c=val (la.take i)*val lb+B ^ i*(la.getD i 0*val (lb.take n'))):val (l.set (i+n') c)=val (la.take (i+1))*val lb:=by
 have h1:=zd5 l (i+n') c hk;rw [hz,Nat.mul_zero,Nat.add_zero] at h1;rw [h1,hinv,zaf,Nat.add_mul,List.take_of_length_le (l:=lb) (by omega),Nat.mul_assoc]
theorem zeP {x y:Nat} (hl:(digs x).length=(digs y).length) (i:Nat) (hi:i<(digs x).length)
  (habove:∀ j (h:j<(digs x).length) (h':j<(digs y).length),i<j→(digs x)[j]=(digs y)[j]) (hlt:(digs x).getD i 0<(digs y).getD i 0):x<y:=by
 have aA:i<(digs y).length:=by omega
 have h:=zdZ (zap x) hl i hi habove (by simpa [List.getD,hi,aA] using hlt)
 rwa [zaj,zaj] at h
theorem zgt {x y:Nat} (hl:(digs x).length=(digs y).length) (h:∀ j (h:j<(digs x).length) (h':j<(digs y).length),(digs x)[j]=(digs y)[j]):x=y:=
 zgN (zc8 hl h)
def pad (l:List Nat) (N:Nat):List Nat:=l++List.replicate (N - l.length) 0
theorem zeN (l:List Nat) (N:Nat):val (pad l N)=val l:=by unfold pad;rw [zaM,zaX];simp
theorem zgT {l:List Nat} {N:Nat} (h:l.length≤N):(pad l N).length=N:=by unfold pad;rw [List.length_append,List.length_replicate];omega
theorem zeW (l:List Nat) (N j:Nat) (h:j<(pad l N).length):(pad l N)[j]=l.getD j 0:=by
 have h':j<(l++List.replicate (N - l.length) 0).length:=h;show (l++List.replicate (N - l.length) 0)[j]'h'=_
 by_cases hj:j<l.length
 ·rw [List.getElem_append_left hj,getD_in hj]
 ·rw [List.getElem_append_right (by omega),zbU (by omega)];simp
theorem zo9 {l:List Nat} (h:Wf l) (N:Nat):Wf (pad l N):=h.append (Wf.replicate _)
theorem zlP {x y:Nat} (i:Nat) (habove:∀ j,i<j→(digs x).getD j 0=(digs y).getD j 0) (hlt:(digs x).getD i 0<(digs y).getD i 0):x<y:=by
 have hi:i<(digs y).length:=by
  rcases Nat.lt_or_ge i (digs y).length with h | h
  ·exact h
  ·rw [zbU h] at hlt;omega
 obtain ⟨N,hN⟩:∃ N,N=max (digs x).length (digs y).length:=⟨_,rfl⟩;have h1:=zgT (l:=digs x) (N:=N) (by omega);have h2:=zgT (l:=digs y) (N:=N) (by omega);have h:=zdZ (x:=pad (digs x) N) (y:=pad (digs y) N) (zo9 (zap x) N) (by omega) i (by omega) (fun j h h' hj=>by rw [zeW,zeW];exact habove j hj) (by rw [zeW,zeW];exact hlt)
 rwa [zeN,zeN,zaj,zaj] at h
theorem zoj {x y:Nat} (h:∀ j,(digs x).getD j 0=(digs y).getD j 0):x=y:=by
 obtain ⟨N,hN⟩:∃ N,N=max (digs x).length (digs y).length:=⟨_,rfl⟩;have h1:=zgT (l:=digs x) (N:=N) (by omega);have h2:=zgT (l:=digs y) (N:=N) (by omega);have e:pad (digs x) N=pad (digs y) N:=zc8 (by omega) (fun j h3 h4=>by rw [zeW,zeW];exact h j);have:=congrArg val e
 rwa [zeN,zeN,zaj,zaj] at this
theorem zcv:∀ (k x:Nat),(digs x).getD k 0=x / B ^ k % B
 | 0,x=>by
  rcases Nat.eq_zero_or_pos x with rfl | h
  ·simp [zao]
  ·rw [zbe h];simp
 | k+1,x=>by
  rcases Nat.eq_zero_or_pos x with rfl | h
  ·simp [zao]
  ·rw [zbe h,List.getD_cons_succ,zcv k (x / B),Nat.div_div_eq_div_mul,Nat.pow_succ,Nat.mul_comm]
theorem zoG (x k:Nat):x / B ^ k=(digs x).getD k 0+B*(x / B ^ (k+1)):=by
 rw [zcv,Nat.pow_succ,←Nat.div_div_eq_div_mul];exact (Nat.mod_add_div _ _).symm
end Go.Proofs.YtbkgkoenppkhpaaGreatDoor.Dn
namespace Go.Proofs.YtbkgkoenppkhpaaGreatDoor
section
open Go.RowKit Dn
theorem zni (l la lb:List Nat) (i n' c:Nat) (hk:i+n'<l.length) (hv:val (l.set (i+n') c)=val (la.take (i+1))*val lb) (hwa:Wf la) (hb:val lb≤B ^ n'):c<B:=by
 have h1:=zav (l.set (i+n') c) (i+n'+1) (by rw [List.length_set];exact hk);rw [zaF l (i+n') c hk] at h1;have h2:val (la.take (i+1))<B ^ (i+1):=Nat.lt_of_lt_of_le (zbm (hwa.take _)) (Nat.pow_le_pow_right zaO (by rw [List.length_take];omega));have h3:val (la.take (i+1))*val lb≤val (la.take (i+1))*B ^ n':=Nat.mul_le_mul_left _ hb;have h4:val (la.take (i+1))*B ^ n'<B ^ (i+1)*B ^ n':=Nat.mul_lt_mul_of_pos_right h2 (Nat.pow_pos zaO);have e5:B ^ (i+n')*B=B ^ (i+1)*B ^ n':=by
  rw [←Nat.pow_succ,show (i+n').succ=i+1+n' from by omega,Nat.pow_add]
 have h5:B ^ (i+n')*c<B ^ (i+n')*B:=by
  rw [e5];omega
 exact Nat.lt_of_mul_lt_mul_left h5
theorem zfd (l:List Nat) (k x:Nat) (hk:k<l.length):val ((l.set k x).drop k)=x+B*val (l.drop (k+1)):=by
 have h1:(l.set k x).drop k=x :: (l.set k x).drop (k+1):=by
  rw [List.drop_eq_getElem_cons (by simpa using hk)];simp
 rw [h1,val_cons,List.drop_set_of_lt (by omega)]
theorem zaY.cellsD {w:World} {B n:Nat} {a:Addr} {xs:List Value} (h:zaY w B 1 (some a) n xs):∀ j u,xs[j]? = some u→w.cell? (a.add j)=some u:=by
 intro j u hu;have hl:=h.1;have hj:j<xs.length:=by
  rcases Nat.lt_or_ge j xs.length with h1 | h1
  ·exact h1
  ·rw [List.getElem?_eq_none h1] at hu;cases hu
 obtain ⟨ad,e,_,hc⟩:=h.2 (by omega);injection e with e
 subst e;exact hc j u hu
theorem zjn {w:World} {base size n:Nat} {e:TypeId} {v:Value} {xs:List Value} (h:w.ownsRow base e size v n xs) (hn:0<n):∃ g c,v = .slice (some ⟨g,0,none⟩) n c∧base≤g:=by
 rcases h.2 with ⟨rfl,h0⟩ | ⟨g,aA,aC,rfl,hb,_⟩
 ·omega
 ·exact ⟨g,aA,rfl,hb⟩
theorem zmJ (neg:Bool) (x y:Nat) (hy:0<y):lowQ neg x y=⟨neg && !decide (x / Nat.gcd x y=0),x / Nat.gcd x y,y / Nat.gcd x y⟩:=by
 unfold lowQ;rw [if_neg (by omega)]
 by_cases hx:x=0
 ·subst hx
  rw [if_pos rfl,Nat.gcd_zero_left,Nat.zero_div,Nat.div_self hy];simp
 ·rw [if_neg hx]
  have h1:0<x / Nat.gcd x y:=Nat.div_pos (Nat.gcd_le_left _ (by omega)) (Nat.gcd_pos_of_pos_right _ hy);have h2:decide (x / Nat.gcd x y=0)=false:=decide_eq_false (Nat.ne_of_gt h1);rw [h2];simp
theorem znT:B=10 ^ 9:=by decide
theorem zdJ (l:List UInt8) (h:zaq l=true) (a b:Nat):zaq ((l.drop a).take b)=true:=by
 unfold zaq at *;rw [List.all_eq_true] at *;intro x hx;exact h x (List.mem_of_mem_drop (List.mem_of_mem_take hx))
theorem zgK (l:List UInt8) (ws:List Nat) (e d:Nat) (hd:d≤e) (_he:e≤l.length) (hk:l.length - e=9*ws.length) (hv:val ws=zah (l.drop e)) :
  val (ws++[zah ((l.drop d).take (e - d))])=zah (l.drop d):=by
 have h1:l.drop d=(l.drop d).take (e - d)++l.drop e:=by
  have h:=(List.take_append_drop (e - d) (l.drop d)).symm;rw [List.drop_drop] at h;rw [show d+(e - d)=e from by omega] at h;exact h
 have h2:=zce ((l.drop d).take (e - d)) (l.drop e);rw [←h1,List.length_drop,hk] at h2;rw [zaM,zaQ,hv,h2,znT,←Nat.pow_mul,Nat.mul_comm (10 ^ (9*ws.length))];omega
theorem zb3 (s:ByteArray) (d e:Nat):(s.extract d e).data.toList=(s.data.toList.drop d).take (e - d):=by
 rw [ByteArray.data_extract,Array.toList_extract]
theorem zmn {w w':World} {base size n:Nat} {e:TypeId} {v:Value} {xs:List Value} (h:w.ownsRow base e size v n xs) (hb:Below w.heap.size w w'):w'.ownsRow base e size v n xs:=
 h.kept (zey hb none) (by cases v.ownBlock<;>simp)
theorem zmI:B=10 ^ 9:=by decide
theorem zlJ (x q:Nat) (h:0<x / B ^ (q+1)):Lib.decDigits (x / B ^ q)=Lib.decDigits (x / B ^ (q+1))++Dec.pad 9 (x / B ^ q % B):=by
 have h1:=zoG x q;rw [zcv] at h1;have h2:x / B ^ q % B<10 ^ 9:=by rw [←zmI];exact Nat.mod_lt _ zaO
 have h3:=Dec.dec_append 9 (x / B ^ (q+1)) (x / B ^ q % B) h h2;rw [←zmI,show x / B ^ (q+1)*B+x / B ^ q % B=x / B ^ q by rw [Nat.mul_comm];omega] at h3;exact h3
theorem zjw {x n:Nat} (hn:0<n) (h:x<B ^ n) (j:Nat):(Lib.decDigits (x / B ^ j)).length≤9*n:=by
 refine Dec.dec_length_le (by omega) (Nat.lt_of_le_of_lt (Nat.div_le_self _ _) ?_)
 rwa [zmI,←Nat.pow_mul] at h
end
end Go.Proofs.YtbkgkoenppkhpaaGreatDoor
namespace Go.Proofs.YtbkgkoenppkhpaaGreatDoor.Flt
open Ieee
def fin (f:Format) (b:Nat):Bool:=match f.read b with | .number .. => true | _=>false
def key (f:Format) (b:Nat):Int:=match f.read b with | .number s m e=>signed s m (e - f.leastPlace).toNat | _=>0
theorem zgC {f:Format} {b:Nat} {s:Bool} {m:Nat} {e:Int} (h:f.read b = .number s m e):f.leastPlace≤e:=by
 unfold Format.read at h
 dsimp only at h
 split at h
 ·injection h with _ _ h;omega
 ·split at h
  ·injection h with _ _ h;omega
  ·split at h<;>cases h
theorem zgw (s:Bool) (m a k:Nat):signed s m (a+k)=signed s m a*((2 ^ k:Nat):Int):=by
 unfold signed;simp only [Nat.shiftLeft_eq,Nat.pow_add]
 split
 ·rw [Int.neg_mul,←Int.natCast_mul,Nat.mul_assoc]
 ·rw [←Int.natCast_mul,Nat.mul_assoc]
theorem zgp {a b:Int} (h:a<b):compare a b = .lt:=by unfold compare;simp [instOrdInt,compareOfLessAndEq,h]
theorem zjA (a:Int):compare a a = .eq:=by unfold compare;simp [instOrdInt,compareOfLessAndEq]
theorem zhN {a b:Int} (h:b<a):compare a b = .gt:=by unfold compare;simp [instOrdInt,compareOfLessAndEq,show ¬ a<b from by omega,show ¬ a=b from by omega]
theorem zig (a b:Int) {k:Nat} (hk:0<k):compare (a*(k:Int)) (b*(k:Int))=compare a b:=by
 have aA:(0:Int)<(k:Int):=by omega
 rcases Int.lt_trichotomy a b with h | h | h
 ·have h1:a*(k:Int)<b*(k:Int):=Int.mul_lt_mul_of_pos_right h aA
  rw [zgp h,zgp h1]
 ·subst h;simp
 ·have h1:b*(k:Int)<a*(k:Int):=Int.mul_lt_mul_of_pos_right h aA
  rw [zhN h,zhN h1]
theorem zcT {f:Format} {x y:Nat} (hx:fin f x=true) (hy:fin f y=true):f.order x y=some (compare (key f x) (key f y)):=by
 unfold fin at hx hy;unfold key Format.order
 split at hx
 ·rename_i s m i h1
  split at hy
  ·rename_i t n j h2
   have p1:=zgC h1;have p2:=zgC h2;rw [h1,h2];simp only [Datum.order]
   have e1:(i - f.leastPlace).toNat=(i - min i j).toNat+(min i j - f.leastPlace).toNat:=by omega
   have e2:(j - f.leastPlace).toNat=(j - min i j).toNat+(min i j - f.leastPlace).toNat:=by omega
   rw [e1,e2,zgw,zgw,zig _ _ (Nat.two_pow_pos _)]
  ·cases hy
 ·cases hx
section
variable {x y:Nat} (hx:fin single x=true) (hy:fin single y=true)
include hx hy
end
end Go.Proofs.YtbkgkoenppkhpaaGreatDoor.Flt
