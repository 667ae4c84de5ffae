/- Plain mathematics: words to the base 2^64 and their value. No program. -/
import Derived.Test.YtbkgkoenppkhpaaGreatDoorGHd
import Derived.Test.YtbkgkoenppkhpaaGreatDoorProg
import Derived.WalkKit
import Derived.WalkSpells
import Derived.WalkLawsBesides
import Derived.Laws.OwnMore
import Derived.Laws.MakeOwn
import Derived.Deep.AppendLies
import Derived.Deep.Draws
import Derived.Deep.QuietTactic
import Derived.BigQuiet
import Derived.Lib.Hide
import Derived.Laws.Externs
import Derived.Shelf.Spec.BitsCarry
import Derived.Deep.DeepCutAuto
import Derived.Outline
set_option maxHeartbeats 400000
namespace Go.Proofs.YtbkgkoenppkhpaaGreatDoor.Bn
def B:Nat:=18446744073709551616
theorem zdm:B=18446744073709551616:=rfl
theorem zaO:0<B:=by decide
theorem zeA:1<B:=by decide
def val:List Nat→Nat
 | []=>0
 | x :: xs=>x+B*val xs
def Wf (l:List Nat):Prop:=∀ x ∈ l,x<B
theorem Wf.nil:Wf []:=fun _ h=>by cases h
theorem Wf.cons {x:Nat} {l:List Nat} (h:x<B) (k:Wf l):Wf (x :: l):=by
 intro y hy
 rcases List.mem_cons.1 hy with rfl | hy
 ·exact h
 ·exact k y hy
theorem Wf.replicate (n:Nat):Wf (List.replicate n 0):=fun _ hy=>by rw [(List.mem_replicate.1 hy).2];exact zaO
theorem Wf.head {x:Nat} {l:List Nat} (h:Wf (x :: l)):x<B:=h x (by simp)
theorem Wf.tail {x:Nat} {l:List Nat} (h:Wf (x :: l)):Wf l:=fun y hy=>h y (by simp [hy])
theorem Wf.append {a b:List Nat} (h:Wf a) (k:Wf b):Wf (a++b):=by
 intro y hy
 rcases List.mem_append.1 hy with hy | hy
 ·exact h y hy
 ·exact k y hy
theorem Wf.take {a:List Nat} (h:Wf a) (n:Nat):Wf (a.take n):=fun y hy=>h y (List.mem_of_mem_take hy)
theorem Wf.drop {a:List Nat} (h:Wf a) (n:Nat):Wf (a.drop n):=fun y hy=>h y (List.mem_of_mem_drop hy)
theorem Wf.get {a:List Nat} (h:Wf a) {i:Nat} (hi:i<a.length):a[i]<B:=h _ (List.getElem_mem hi)
theorem Wf.set {a:List Nat} (h:Wf a) (i:Nat) {x:Nat} (hx:x<B):Wf (a.set i x):=by
 intro y hy
 rcases List.mem_or_eq_of_mem_set hy with hy | rfl
 ·exact h y hy
 ·exact hx
@[simp] theorem val_nil:val []=0:=rfl
@[simp] theorem val_cons (x:Nat) (xs:List Nat):val (x :: xs)=x+B*val xs:=rfl
theorem zaM (a b:List Nat):val (a++b)=val a+B ^ a.length*val b:=by
 induction a with
 | nil=>simp
 | cons x a ih=>
  simp only [List.cons_append,val_cons,ih,List.length_cons,Nat.pow_succ]
  rw [Nat.mul_add,←Nat.mul_assoc,Nat.mul_comm B (B ^ a.length),Nat.add_assoc]
theorem zaQ (x:Nat):val [x]=x:=by simp
theorem zbm {l:List Nat} (h:Wf l):val l<B ^ l.length:=by
 induction l with
 | nil=>simp
 | cons x l ih=>
  have h1:=ih h.tail;have h2:=h.head;simp only [val_cons,List.length_cons,Nat.pow_succ]
  have:B*val l+B≤B*B ^ l.length:=by
   have:B*(val l+1)≤B*B ^ l.length:=Nat.mul_le_mul_left B h1
   rwa [Nat.mul_add,Nat.mul_one] at this
  rw [Nat.mul_comm (B ^ l.length) B];omega
theorem zas (l:List Nat) (k:Nat) (h:k<l.length):val (l.take (k+1))=val (l.take k)+B ^ k*l[k]:=by
 rw [List.take_succ_eq_append_getElem h,zaM,zaQ,List.length_take,Nat.min_eq_left (by omega)]
theorem zav (l:List Nat) (k:Nat) (h:k≤l.length):val l=val (l.take k)+B ^ k*val (l.drop k):=by
 have h1:=zaM (l.take k) (l.drop k);rw [List.take_append_drop,List.length_take,Nat.min_eq_left h] at h1;exact h1
theorem zaX (n:Nat):val (List.replicate n 0)=0:=by
 induction n with
 | zero=>rfl
 | succ n ih=>simp [List.replicate_succ,ih]
theorem zf5 {l:List Nat} (h:∀ x ∈ l,x=0):val l=0:=by
 induction l with
 | nil=>rfl
 | cons x l ih=>
  have:=h x (by simp);simp [this,ih (fun y hy=>h y (by simp [hy]))]
def digs (n:Nat):List Nat:=if n=0 then [] else (n % B) :: digs (n / B)
termination_by n
decreasing_by
 rename_i h
 exact Nat.div_lt_self (by omega) zeA
theorem zao:digs 0=[]:=by rw [digs];rfl
theorem zbe {n:Nat} (h:0<n):digs n=(n % B) :: digs (n / B):=by rw [digs,if_neg (by omega)]
theorem zaj (n:Nat):val (digs n)=n:=by
 induction n using Nat.strongRecOn with
 | ind n ih=>
  rcases Nat.eq_zero_or_pos n with rfl | h
  ·rw [zao];rfl
  ·rw [zbe h,val_cons,ih _ (Nat.div_lt_self h zeA)]
   exact Nat.mod_add_div n B
theorem zap (n:Nat):Wf (digs n):=by
 induction n using Nat.strongRecOn with
 | ind n ih=>
  rcases Nat.eq_zero_or_pos n with rfl | h
  ·rw [zao];exact Wf.nil
  ·rw [zbe h]
   exact Wf.cons (Nat.mod_lt _ zaO) (ih _ (Nat.div_lt_self h zeA))
theorem zcq {n:Nat} (h:0<n):digs n≠[]:=by rw [zbe h];simp
theorem zd8 {n:Nat}:digs n=[]↔n=0:=by
 constructor
 ·intro h
  rcases Nat.eq_zero_or_pos n with h0 | h0
  ·exact h0
  ·exact absurd h (zcq h0)
 ·rintro rfl;exact zao
theorem zar {n:Nat} (h:0<n):0<(digs n).length:=List.length_pos_iff.2 (zcq h)
theorem za6 {n:Nat}:(digs n).length=0↔n=0:=by rw [List.length_eq_zero_iff];exact zd8
def Norm (l:List Nat):Prop:=∀ h:0<l.length,l[l.length - 1]≠0
theorem zc1 (n:Nat):Norm (digs n):=by
 induction n using Nat.strongRecOn with
 | ind n ih=>
  intro h0
  rcases Nat.eq_zero_or_pos n with rfl | h
  ·simp [zao] at h0
  ·have aA:=ih _ (Nat.div_lt_self h zeA)
   have e:=zbe h
   rcases Nat.eq_zero_or_pos (n / B) with hq | hq
   ·have e2:digs n=[n % B]:=by rw [e,hq,zao]
    have:n % B≠0:=by
     have:=Nat.mod_add_div n B;rw [hq] at this;omega
    simp only [e2]
    simpa using this
   ·have hl:=zar hq
    have h2:=aA hl;simp only [e,List.length_cons,Nat.add_sub_cancel]
    rw [List.getElem_cons,dif_neg (by omega)];exact h2
theorem zg4 {l:List Nat} (hw:Wf l) (hn:Norm l):digs (val l)=l:=by
 induction l with
 | nil=>exact zao
 | cons x l ih=>
  have hx:=hw.head;have aA:0<x+B*val l:=by
   rcases Nat.eq_zero_or_pos l.length with h0 | h0
   ·have:l=[]:=List.eq_nil_of_length_eq_zero h0
    subst this;have:=hn (by simp);simp at this
    omega
   ·have aC:Norm l:=by
     intro h;have:=hn (by simp);simp only [List.length_cons,Nat.add_sub_cancel] at this
     rw [List.getElem_cons,dif_neg (by omega)] at this;exact this
    have e:=ih hw.tail aC;have:val l≠0:=by
     intro hz;rw [hz,zao] at e;subst e;simp at h0
    have:=Nat.mul_pos zaO (Nat.pos_of_ne_zero this);omega
  rw [val_cons,zbe aA];have h1:(x+B*val l) % B=x:=by rw [Nat.add_mul_mod_self_left,Nat.mod_eq_of_lt hx]
  have h2:(x+B*val l) / B=val l:=by rw [Nat.add_mul_div_left _ _ zaO,Nat.div_eq_of_lt hx,Nat.zero_add]
  rw [h1,h2]
  rcases Nat.eq_zero_or_pos l.length with h0 | h0
  ·have:l=[]:=List.eq_nil_of_length_eq_zero h0
   subst this;simp [zao]
  ·rw [ih hw.tail]
   intro h;have:=hn (by simp);simp only [List.length_cons,Nat.add_sub_cancel] at this
   rw [List.getElem_cons,dif_neg (by omega)] at this;exact this
theorem zeu {l:List Nat} (hw:Wf l) (n:Nat) (hn:n≤l.length) (hz:∀ j (h:j<l.length),n≤j→l[j]=0)
  (ht:∀ h:n - 1<l.length,0<n→l[n - 1]≠0):l.take n=digs (val l):=by
 have h1:val (l.drop n)=0:=by
  apply zf5
  intro x hx;obtain ⟨i,hi,rfl⟩:=List.getElem_of_mem hx;rw [List.getElem_drop];exact hz _ _ (by omega)
 rw [zav l n hn,h1,Nat.mul_zero,Nat.add_zero];refine (zg4 (hw.take n) ?_).symm;intro h0;rw [List.length_take,Nat.min_eq_left hn] at h0;simp only [List.length_take,Nat.min_eq_left hn,List.getElem_take]
 exact ht (by omega) h0
theorem zad {n k:Nat} (h:n<B ^ k):(digs n).length≤k:=by
 rcases Nat.eq_zero_or_pos n with rfl | hp
 ·simp [zao]
 ·rcases Nat.lt_or_ge k (digs n).length with hk | hk
  ·exfalso
   have hn:=zc1 n (zar hp);have hs:=zav (digs n) ((digs n).length - 1) (by omega);rw [zaj] at hs;have hd:(digs n).drop ((digs n).length - 1)=[(digs n)[(digs n).length - 1]]:=by
    rw [List.drop_eq_getElem_cons (by omega)]
    congr 1
    apply List.drop_eq_nil_of_le
    omega
   rw [hd,zaQ] at hs;have:B ^ k≤B ^ ((digs n).length - 1):=Nat.pow_le_pow_right zaO (by omega);have h1:1≤(digs n)[(digs n).length - 1]:=Nat.pos_of_ne_zero hn;have:=Nat.le_mul_of_pos_right (B ^ ((digs n).length - 1)) h1;omega
  ·exact hk
theorem zab (n:Nat):n<B ^ (digs n).length:=by
 have:=zbm (zap n)
 rwa [zaj] at this
theorem zaz {n:Nat} (h:0<n):B ^ ((digs n).length - 1)≤n:=by
 rcases Nat.lt_or_ge n (B ^ ((digs n).length - 1)) with hl | hl
 ·have:=zad hl
  have:=zar h;omega
 ·exact hl
theorem zbo {a b:Nat} (h:(digs a).length<(digs b).length):a<b:=by
 have h1:=zab a;have hb:0<b:=by
  rcases Nat.eq_zero_or_pos b with rfl | hb
  ·simp [zao] at h
  ·exact hb
 have h2:=zaz hb;have:B ^ (digs a).length≤B ^ ((digs b).length - 1):=Nat.pow_le_pow_right zaO (by omega);omega
theorem zaa {a b:Nat} (h:a≤b):(digs a).length≤(digs b).length:=by
 rcases Nat.lt_or_ge (digs b).length (digs a).length with hl | hl
 ·have:=zbo hl;omega
 ·exact hl
theorem zdZ {x y:List Nat} (hx:Wf x) (hl:x.length=y.length) (i:Nat) (hi:i<x.length)
  (habove:∀ j (h:j<x.length) (h':j<y.length),i<j→x[j]=y[j]) (hlt:x[i]<y[i]'(by omega)):val x<val y:=by
 have aA:i<y.length:=by omega
 rw [zav x (i+1) (by omega),zav y (i+1) (by omega)];have e:x.drop (i+1)=y.drop (i+1):=by
  apply List.ext_getElem
  ·simp [hl]
  ·intro j h1 h2
   simp only [List.getElem_drop]
   rw [List.length_drop] at h1;exact habove _ (by omega) (by omega) (by omega)
 rw [e,zas x i hi,zas y i aA];have h1:=zbm (hx.take i);rw [List.length_take,Nat.min_eq_left (by omega)] at h1;have h3:B ^ i*x[i]+B ^ i≤B ^ i*y[i]:=by
  have:=Nat.mul_le_mul_left (B ^ i) hlt
  rwa [Nat.mul_succ] at this
 omega
theorem zc8 {x y:List Nat} (hl:x.length=y.length) (h:∀ j (h:j<x.length) (h':j<y.length),x[j]=y[j]):x=y:=
 List.ext_getElem hl fun j h1 h2=>h j h1 h2
theorem zgN {a b:Nat} (h:digs a=digs b):a=b:=by rw [←zaj a,h,zaj]
theorem zaA {l:List Nat} (h:Wf l) (k:Nat):l.getD k 0<18446744073709551616:=by
 by_cases hk:k<l.length
 ·have:=h.get hk
  have e:l.getD k 0=l[k]:=by simp [List.getD,hk]
  rw [e];exact this
 ·have e:l.getD k 0=0:=by simp [List.getD,Nat.le_of_not_lt hk]
  rw [e];decide
theorem zbU {l:List Nat} {k:Nat} (h:l.length≤k):l.getD k 0=0:=by simp [List.getD,h]
theorem getD_in {l:List Nat} {k:Nat} (h:k<l.length):l.getD k 0=l[k]:=by simp [List.getD,h]
theorem zaf (l:List Nat) (k:Nat):val (l.take (k+1))=val (l.take k)+B ^ k*l.getD k 0:=by
 by_cases hk:k<l.length
 ·rw [getD_in hk,zas l k hk]
 ·rw [zbU (by omega),List.take_of_length_le (by omega),List.take_of_length_le (by omega)];simp
theorem zdb (l:List Nat) (k x:Nat):(l.set k x).take k=l.take k:=by rw [List.take_set_of_le];omega
theorem zaF (l:List Nat) (k x:Nat) (hk:k<l.length):val ((l.set k x).take (k+1))=val (l.take k)+B ^ k*x:=by
 have h1:=zas (l.set k x) k (by simpa using hk);rw [List.getElem_set_self] at h1;rw [h1,zdb]
theorem zeQ (l a b:List Nat) (k:Nat) (hk:k<l.length) (s c0 c1:Nat)
  (hinv:val (l.take k)+B ^ k*c0=val (a.take k)+val (b.take k))
  (hs:s+B*c1=a.getD k 0+b.getD k 0+c0):val ((l.set k s).take (k+1))+B ^ (k+1)*c1=val (a.take (k+1))+val (b.take (k+1)):=by
 rw [zaF l k s hk,zaf a,zaf b,Nat.pow_succ,Nat.mul_assoc];have h3:B ^ k*s+B ^ k*(B*c1)=B ^ k*a.getD k 0+B ^ k*b.getD k 0+B ^ k*c0:=by rw [←Nat.mul_add,hs,Nat.mul_add,Nat.mul_add]
 omega
theorem zga (l a b:List Nat) (k:Nat) (hk:k<l.length) (d b0 b1:Nat)
  (hinv:val (l.take k)+val (b.take k)=val (a.take k)+B ^ k*b0)
  (hs:d+b.getD k 0+b0=a.getD k 0+B*b1):val ((l.set k d).take (k+1))+val (b.take (k+1))=val (a.take (k+1))+B ^ (k+1)*b1:=by
 rw [zaF l k d hk,zaf a,zaf b,Nat.pow_succ,Nat.mul_assoc];have h3:B ^ k*d+B ^ k*b.getD k 0+B ^ k*b0=B ^ k*a.getD k 0+B ^ k*(B*b1):=by rw [←Nat.mul_add,←Nat.mul_add,hs,Nat.mul_add]
 omega
theorem minus_end (d y x p b0:Nat) (h:d+y=x+p*b0) (hd:d<p) (hyx:y≤x) (hb:b0≤1):d=x - y:=by
 have:b0=0∨b0=1:=by omega
 rcases this with rfl | rfl
 ·omega
 ·omega
theorem zhE (a b:Nat) (ha:a<18446744073709551616) (hb:b<18446744073709551616):a*b≤340282366920938463426481119284349108225:=by
 have h1:a*b≤18446744073709551615*18446744073709551615:=Nat.mul_le_mul (by omega) (by omega);omega
theorem zjT (a b:Nat) (ha:a<18446744073709551616) (hb:b<18446744073709551616):a*b<18446744073709551616*18446744073709551616:=by
 have:=zhE a b ha hb;omega
theorem zd5 (l:List Nat) (k x:Nat) (hk:k<l.length):val (l.set k x)+B ^ k*l.getD k 0=val l+B ^ k*x:=by
 have h1:=zav (l.set k x) (k+1) (by rw [List.length_set];exact hk);have h2:=zav l (k+1) hk;rw [zaF l k x hk] at h1;rw [zaf] at h2;have h3:(l.set k x).drop (k+1)=l.drop (k+1):=by rw [List.drop_set_of_lt];omega
 rw [h3] at h1;omega
theorem zaG (l:List Nat) (k j x:Nat) (h:k≠j):(l.set k x).getD j 0=l.getD j 0:=by
 simp only [List.getD]
 rw [List.getElem?_set_ne h]
theorem zcL (l:List Nat) (k x:Nat) (h:k<l.length):(l.set k x).getD k 0=x:=by
 simp only [List.getD]
 rw [List.getElem?_set_self h];rfl
theorem zcu (n t:Nat):(List.replicate n 0).getD t 0=0:=by
 by_cases h:t<n
 ·simp [List.getD,h]
 ·simp [List.getD,Nat.le_of_not_lt h]
theorem zef (l lb:List Nat) (i j p f lo hi c:Nat) (hk:i+j<l.length)
  (hinv:val l+B ^ (i+j)*c=p+B ^ i*(f*val (lb.take j))) (hs:lo+B*hi=f*lb.getD j 0+l.getD (i+j) 0+c) :
  val (l.set (i+j) lo)+B ^ (i+(j+1))*hi=p+B ^ i*(f*val (lb.take (j+1))):=by
 have h1:=zd5 l (i+j) lo hk;rw [zaf,Nat.mul_add f,Nat.mul_add (B ^ i)];have h2:B ^ (i+j)*lo+B ^ (i+j)*(B*hi)=B ^ (i+j)*(f*lb.getD j 0)+B ^ (i+j)*l.getD (i+j) 0+B ^ (i+j)*c:=by
  rw [←Nat.mul_add,hs,Nat.mul_add,Nat.mul_add]
 have h3:B ^ (i+(j+1))*hi=B ^ (i+j)*(B*hi):=by rw [←Nat.add_assoc,Nat.pow_succ,Nat.mul_assoc]
 have h4:B ^ i*(f*(B ^ j*lb.getD j 0))=B ^ (i+j)*(f*lb.getD j 0):=by
  rw [Nat.pow_add,Nat.mul_left_comm f,Nat.mul_assoc]
 rw [h3,h4];generalize B ^ (i+j)*lo=a1 at *;generalize B ^ (i+j)*(B*hi)=a2 at *;generalize B ^ (i+j)*(f*lb.getD j 0)=a3 at *;generalize B ^ (i+j)*l.getD (i+j) 0=a4 at *;generalize B ^ (i+j)*c=a5 at *;generalize B ^ i*(f*val (lb.take j))=a6 at *;omega
theorem zfM (l la lb:List Nat) (i n' c:Nat) (hk:i+n'<l.length) (hz:l.getD (i+n') 0=0) (hn:lb.length=n')
  (hinv:val l+B ^ (i+n')*c=val (la.take i)*val lb+B ^ i*(la.getD i 0*val (lb.take n'))):val (l.set (i+n') c)=val (la.take (i+1))*val lb:=by
 have h1:=zd5 l (i+n') c hk;rw [hz,Nat.mul_zero,Nat.add_zero] at h1;rw [h1,hinv,zaf,Nat.add_mul,List.take_of_length_le (l:=lb) (by omega),Nat.mul_assoc]
def ncmp (x y:Nat):Int:=if x<y then -1 else if x=y then 0 else 1
theorem ncmp_lt {x y:Nat} (h:x<y):ncmp x y = -1:=by simp [ncmp,h]
theorem ncmp_eq (x:Nat):ncmp x x=0:=by simp [ncmp]
theorem ncmp_gt {x y:Nat} (h:y<x):ncmp x y=1:=by
 unfold ncmp;rw [if_neg (by omega),if_neg (by omega)]
theorem zeP {x y:Nat} (hl:(digs x).length=(digs y).length) (i:Nat) (hi:i<(digs x).length)
  (habove:∀ j (h:j<(digs x).length) (h':j<(digs y).length),i<j→(digs x)[j]=(digs y)[j]) (hlt:(digs x).getD i 0<(digs y).getD i 0):x<y:=by
 have aA:i<(digs y).length:=by omega
 have h:=zdZ (zap x) hl i hi habove (by simpa [List.getD,hi,aA] using hlt)
 rwa [zaj,zaj] at h
theorem zgt {x y:Nat} (hl:(digs x).length=(digs y).length) (h:∀ j (h:j<(digs x).length) (h':j<(digs y).length),(digs x)[j]=(digs y)[j]):x=y:=
 zgN (zc8 hl h)
end Go.Proofs.YtbkgkoenppkhpaaGreatDoor.Bn
namespace Go.Proofs.YtbkgkoenppkhpaaGreatDoor
section
open Go.RowKit
theorem zaK (a:Addr) (n:Nat):(a.add n).block=a.block:=by unfold Addr.add;split<;>rfl
theorem zgy (a:Addr) (i j:Nat):(a.add i).add j=a.add (i+j):=by
 unfold Addr.add
 by_cases hi:i=0<;>by_cases hj:j=0<;>simp [hi,hj,Nat.add_assoc]
def zaY (w:World) (B size:Nat) (A:Option Addr) (n:Nat) (xs:List Value):Prop:=
 xs.length=n*size∧(0<n→∃ ad,A=some ad∧ad.block<B∧∀ j u,xs[j]? = some u→w.cell? (ad.add j)=some u)
section
variable {w w':World} {B B' size n:Nat} {A:Option Addr} {xs:List Value}
theorem zaY.none_:zaY w B size A 0 []:=⟨by simp,fun h=>absurd h (by omega)⟩
theorem zaY.at_ {k:Nat} (h:zaY w B 1 A n xs) (hk:k<n):∃ ad u,A=some ad∧ad.block<B∧xs[k]? = some u∧w.cell? (ad.add k)=some u:=by
 obtain ⟨ad,e,hb,hc⟩:=h.2 (by omega);have hl:k<xs.length:=by have:=h.1;omega
 exact ⟨ad,xs[k],e,hb,List.getElem?_eq_getElem hl,hc k _ (List.getElem?_eq_getElem hl)⟩
theorem zaY.keep (h:zaY w B size A n xs) (hk:∀ p:Addr,p.block<B→w'.cell? p=w.cell? p):zaY w' B size A n xs:=
 ⟨h.1,fun hn=>by
  obtain ⟨ad,e,hb,hc⟩:=h.2 hn;exact ⟨ad,e,hb,fun j u hu=>(hk _ (by rw [zaK];exact hb)).trans (hc j u hu)⟩⟩
theorem zaY.more (h:zaY w B size A n xs) (hB:B≤B'):zaY w B' size A n xs:=
 ⟨h.1,fun hn=>by
  obtain ⟨ad,e,hb,hc⟩:=h.2 hn;exact ⟨ad,e,by omega,hc⟩⟩
theorem zaY.below (h:zaY w B size A n xs) (hb:Below B w w'):zaY w' B size A n xs:=h.keep fun _ hp=>hb.cell hp
theorem zaY.drewN (h:zaY w B size A n xs) (k:Nat):zaY (w.drewN k) B size A n xs:=h
theorem zaY.of_own {base:Nat} {e:TypeId} {c:Nat} (h:w.ownsRow base e size (.slice A n c) n xs):zaY w w.heap.size size A n xs:=by
 refine ⟨h.1,fun hn => ?_⟩;obtain ⟨g,aC,hv,_,aA⟩:=h.form hn;have hA:A=some ⟨g,0,none⟩:=by injection hv
 subst hA;exact ⟨_,rfl,aA,h.cells (g:=g) rfl⟩
theorem zaY.take {m:Nat} (h:zaY w B 1 A n xs) (hm:m≤n):zaY w B 1 A m (xs.take m):=
 ⟨by rw [List.length_take,h.1];omega,fun h0=>by
  obtain ⟨ad,e,hb,hc⟩:=h.2 (by omega);refine ⟨ad,e,hb,fun j u hu=>hc j u ?_⟩;rw [List.getElem?_take] at hu
  split at hu
  ·exact hu
  ·cases hu⟩
end
theorem zac {B:Nat} {a w:World} (h:Below B a w) (n:Nat):Below B a (w.drewN n):=⟨h.os,h.tape,h.output,h.size,h.block⟩
def u64v (d:Nat):Value := .int .u64 (d:Int)
theorem zmK:∀ l:List Nat,∀ u ∈ l.map u64v,u.oneCell'=true:=by
 intro l u hu;obtain ⟨d,_,rfl⟩:=List.mem_map.1 hu;rfl
abbrev zbB (w:World) (B:Nat) (A:Option Addr) (n:Nat) (l:List Nat):Prop:=zaY w B 1 A n (l.map u64v)
theorem zbB.len {w:World} {B:Nat} {A:Option Addr} {n:Nat} {l:List Nat} (h:zbB w B A n l):l.length=n:=by
 have:=h.1;rw [List.length_map] at this;omega
theorem zbB.word {w:World} {B:Nat} {A:Option Addr} {n:Nat} {l:List Nat} (h:zbB w B A n l) {k:Nat} (hk:k<n) :
  ∃ ad,A=some ad∧ad.block<B∧w.cell? (ad.add k)=some (.int .u64 ((l.getD k 0:Nat):Int)):=by
 obtain ⟨ad,e,hb,hc⟩:=h.2 (by omega);have hl:k<l.length:=by rw [h.len];exact hk
 refine ⟨ad,e,hb,hc k _ ?_⟩;simp [u64v,List.getD,hl]
theorem zbB.lit (w:World) (l:List Nat) (t:TypeId):zbB (w.alloc (.cells (l.map u64v).toArray t)) (w.heap.size+1) (some ⟨w.heap.size,0,none⟩) l.length l:=by
 refine ⟨by simp,fun _=>⟨_,rfl,Nat.lt_succ_self _,fun j u hu => ?_⟩⟩;have h:=cell_of_row (w.alloc (.cells (l.map u64v).toArray t)) w.heap.size j (l.map u64v).toArray t (0,0) (heap_alloc_new w _);show World.cell? _ ((⟨w.heap.size,0,none⟩:Addr).add j)=some u
 have e:(⟨w.heap.size,0,none⟩:Addr).add j=⟨w.heap.size,j,none⟩:=by
  unfold Addr.add
  by_cases hj:j=0<;>simp [hj]
 rw [e,h]
 simpa using hu
theorem zca:(Tryz.prog.info? 116).map (fun i=>(i.zero,i.size,i.bytes))=some (some (.int .u64 0),1,8):=by kernel_rfl
structure NatS (w:World) (B:Nat) (A:Option Addr) (n c:Nat) (x:Nat):Prop where
 words:zbB w B A n (Bn.digs x)
 nc:n≤c
 cm:c≤maxLen
section
variable {w w':World} {B B' n c x:Nat} {A:Option Addr}
theorem NatS.len (h:NatS w B A n c x):(Bn.digs x).length=n:=h.words.len
theorem NatS.below (h:NatS w B A n c x) (hb:Below B w w'):NatS w' B A n c x:=⟨h.words.below hb,h.nc,h.cm⟩
theorem NatS.more (h:NatS w B A n c x) (hB:B≤B'):NatS w B' A n c x:=⟨h.words.more hB,h.nc,h.cm⟩
theorem NatS.later (h:NatS w w.heap.size A n c x) (hb:Below w.heap.size w w'):NatS w' w'.heap.size A n c x:=(h.below hb).more hb.size
end
def zb9 (w:World) (x:Nat) (e:Ending) (w':World):Prop:=∃ A m c,e = .returned (.slice A m c)∧NatS w' w'.heap.size A m c x∧Below w.heap.size w w'
theorem zbX (x y c:Nat) (hx:x<18446744073709551616) (hy:y<18446744073709551616) (hc:c≤1) :
  ∃ s d:Nat,s+18446744073709551616*d=x+y+c∧s<18446744073709551616∧d≤1 ∧
   ∀ w:World,(callFunc 203 #[.int .u64 x,.int .u64 y,.int .u64 c]).run Tryz.prog w = .ok (.value (.tuple #[.int .u64 s,.int .u64 d])) w:=by
 refine ⟨(x+y+c) % 18446744073709551616,(x+y+c) / 18446744073709551616,?_,Nat.mod_lt _ (by omega),by omega,fun w => ?_⟩
 ·have:=Nat.mod_add_div (x+y+c) 18446744073709551616;omega
 ·rw [run_callFunc_extern Tryz.func203 (by kernel_rfl) (by kernel_rfl) (by kernel_rfl) (e:=add64Entry) (by kernel_rfl),run_add64 x y c (by omega) (by omega) (by omega) (by omega)]
  simp only [Result.andThen]
  congr 5<;>omega
theorem zoJ (x y b:Nat) (hb:b≤1) (w:World) :
  (callFunc 214 #[.int .u64 x,.int .u64 y,.int .u64 b]).run Tryz.prog w =
   .ok (.value (.tuple #[.int .u64 (((x+18446744073709551616 - y - b) % 18446744073709551616:Nat):Int),.int .u64 ((if x<y+b then 1 else 0:Nat):Int)])) w:=by
 rw [run_callFunc_extern Tryz.func214 (by kernel_rfl) (by kernel_rfl) (by kernel_rfl) (e:=sub64Entry) (by kernel_rfl),run_sub64 x y b hb];rfl
theorem ze0 (x y b:Nat) (hx:x<18446744073709551616) (hy:y<18446744073709551616) (hb:b≤1) :
  ∃ s d:Nat,s+y+b=x+18446744073709551616*d∧s<18446744073709551616∧d≤1 ∧
   ∀ w:World,(callFunc 214 #[.int .u64 x,.int .u64 y,.int .u64 b]).run Tryz.prog w = .ok (.value (.tuple #[.int .u64 s,.int .u64 d])) w:=by
 refine ⟨(x+18446744073709551616 - y - b) % 18446744073709551616,if x<y+b then 1 else 0,?_,Nat.mod_lt _ (by omega),by split<;>omega,fun w=>zoJ x y b hb w⟩
 split<;>omega
theorem zln {P:Program} {f:FuncId} {args:Array Value} {w:World} {a n:Nat} {v:Value}
  (h:Calls P f args (w.drewN (a+n)) fun e w'=>e = .returned v∧∃ m,w'=(w.drewN (a+n)).drewN m) :
  Calls P f args (w.drewN (a+n)) fun e w''=>e = .returned v∧∃ m,w''=w.drewN (a+m):=
 h.mono fun _ _ ⟨he,m,hm⟩=>⟨he,n+m,by rw [hm,World.drewN_drewN,Nat.add_assoc]⟩
theorem zle {P:Program} {f:FuncId} {args:Array Value} {w:World} {n:Nat} {v:Value}
  (h:Calls P f args (w.drewN n) fun e w'=>e = .returned v∧∃ m,w'=(w.drewN n).drewN m) :
  Calls P f args (w.drewN n) fun e w''=>e = .returned v∧∃ m,w''=w.drewN m:=
 h.mono fun _ _ ⟨he,m,hm⟩=>⟨he,n+m,by rw [hm,World.drewN_drewN]⟩
theorem zb4 {P:Program} {f:FuncId} {args:Array Value} {w:World} {a n:Nat} {v:Value}
  (h:Calls P f args (w.drewN (a+n)) fun e w'=>e = .returned v∧w.drewN (a+n)=w') :
  Calls P f args (w.drewN (a+n)) fun e w''=>e = .returned v∧∃ m,w''=w.drewN (a+m):=
 h.mono fun _ _ ⟨he,hm⟩=>⟨he,n,hm.symm⟩
theorem zcP {P:Program} {f:FuncId} {args:Array Value} {w:World} {n:Nat} {v:Value}
  (h:Calls P f args (w.drewN n) fun e w'=>e = .returned v∧w.drewN n=w'):Calls P f args (w.drewN n) fun e w''=>e = .returned v∧∃ m,w''=w.drewN m:=
 h.mono fun _ _ ⟨he,hm⟩=>⟨he,n,hm.symm⟩
end
section
open Go.RowKit Bn
theorem zfD (B:Nat) (A:Option Addr) (n c:Nat) (l:List Nat) (w:World) (hr:zbB w B A n l) (hw:Wf l) (hnc:n≤c) (hc:c≤maxLen) :
  Calls Tryz.prog 153 #[.slice A n c] w fun e w'=>∃ m,e = .returned (.slice A m c)∧m≤n∧l.take m=digs (val l)∧w=w':=by
 unfold maxLen at hc;have hl:=hr.len;go_enter Tryz.func153,Tryz.ntmps153
 go_wp2
 go_loop [3] (fun s=>∃ k:Nat,k≤n∧s = .int .i64 k∧Hid (∀ j (h:j<l.length),k≤j→l[j]=0)) (fun s=>(intOf s).toNat)
 case atStart=>exact ⟨n,Nat.le_refl _,rfl,fun j h h'=>by omega⟩
 case round=>
  obtain ⟨k,hk,rfl,hz⟩:=hrel
  by_cases h0:0<k
  ·obtain ⟨ad,rfl,hb,aA⟩:=hr.word (k:=k - 1) (by omega)
   have aD:k - 1<l.length:=by omega
   have aC:l.getD (k - 1) 0=l[k - 1]:=by simp [List.getD,aD]
   by_cases hx:l[k - 1]=0
   ·rw [aC,hx] at aA
    have HX:=Aa hx;clear hx aC;go_wp2
    go_round
    case rel=>
     refine ⟨k - 1,by omega,by go_num,?_⟩;intro j h hj
     rcases Nat.lt_or_ge j k with h1 | h1
     ·obtain rfl:j=k - 1:=by omega
      exact HX.out
     ·exact hz.out j h h1
    case measure=>simp [intOf];omega
   ·rw [aC] at aA
    have HX:=Aa hx;clear hx aC;generalize hg:l[k - 1]=x at aA;have aE:(((x:Nat):Int)==0)=false:=by
     have:=HX.out;rw [hg] at this
     rw [beq_eq_false_iff_ne];omega
    have HG:=Aa hg;clear hg;go_wp2
    go_ret;refine ⟨k,rfl,hk,?_,rfl⟩;refine zeu hw k (by omega) (fun j h hj=>hz.out j h hj) (fun h _=>HX.out)
  ·go_wp2
   go_ret;refine ⟨k,rfl,hk,?_,rfl⟩;exact zeu hw k (by omega) (fun j h hj=>hz.out j h hj) (fun h h1=>absurd h1 h0)
theorem zc4 (A:Option Addr) (n c:Nat) (l:List Nat) (w:World) (hr:zbB w w.heap.size A n l) (hw:Wf l) (hnc:n≤c) (hc:c≤maxLen) :
  Calls Tryz.prog 153 #[.slice A n c] w fun e w'=>∃ m,e = .returned (.slice A m c)∧NatS w w.heap.size A m c (val l)∧w=w':=
 (zfD w.heap.size A n c l w hr hw hnc hc).mono fun e w' ⟨m,he,hm,ht,hww⟩=>⟨m,he,⟨by
  have h:=hr.take hm;rw [←List.map_take,ht] at h;exact h,by omega,hc⟩,hww⟩
theorem zai (x:Int) (w:World) (h0:0≤x) (h1:x<18446744073709551616) :
  Calls Tryz.prog 86 #[.int .u64 x] w (zb9 w x.toNat):=by
 obtain ⟨n,rfl⟩:=Int.eq_ofNat_of_zero_le h0;have hn:n<18446744073709551616:=by omega
 have hl:=zbB.lit w [n] 116;have hc:=zc4 (some ⟨w.heap.size,0,none⟩) 1 1 [n] (w.alloc (.cells #[.int .u64 n] 116)) (by simpa [u64v] using hl) (Wf.cons hn Wf.nil) (Nat.le_refl _) (by unfold maxLen;omega);go_enter Tryz.func86,Tryz.ntmps86
 go_wp2_with fail
 refine hc.mono ?_;rintro e w1 ⟨m,rfl,aA,rfl⟩;go_wp2
 go_ret;exact ⟨_,m,1,rfl,by simpa using aA,(Below.refl _ _).alloc (Nat.le_refl _) _⟩
theorem zcW (A:Option Addr) (n c:Nat) (w:World) (_hn:n≤maxLen) :
  Calls Tryz.prog 154 #[.slice A n c] w fun e w'=>e = .returned (.bool ((n:Int)==0))∧w=w':=by
 unfold maxLen at _hn;go_enter Tryz.func154,Tryz.ntmps154
 go_wp2
 go_ret;exact ⟨rfl,rfl⟩
theorem zcG (b:Bool) (w:World) :
  Calls Tryz.prog 146 #[.bool b] w fun e w'=>e = .returned (.int .i64 (if b then 1 else -1))∧w=w':=by
 cases b
 all_goals
  go_enter Tryz.func146,Tryz.ntmps146
  go_wp2
  go_ret;exact ⟨rfl,rfl⟩
theorem zbq (A:Option Addr) (n c x:Nat) (w:World) (h:NatS w w.heap.size A n c x) :
  Calls Tryz.prog 128 #[.slice A n c] w fun e w'=>e = .returned (.bool (decide (x=1)))∧w=w':=by
 have aA:=h.len;have aC:=h.cm;have aE:=h.nc;unfold maxLen at aC
 by_cases h1:n=1
 ·subst h1
  obtain ⟨ad,rfl,hb,hc⟩:=h.words.word (k:=0) (by omega);have hx:(digs x).getD 0 0=x:=by
   match hd:digs x,aA with
   | [d],_=>
    have:=zaj x;rw [hd] at this
    simpa using this
  rw [hx] at hc;have e0:ad.add 0=ad:=by simp [Addr.add]
  rw [e0] at hc;clear hx aA e0
  by_cases hx1:x=1
  ·subst hx1
   go_enter Tryz.func128,Tryz.ntmps128
   go_wp2
   go_ret;exact ⟨rfl,rfl⟩
  ·have aD:(((x:Nat):Int)==1)=false:=by rw [beq_eq_false_iff_ne];omega
   go_enter Tryz.func128,Tryz.ntmps128
   go_wp2
   go_ret;exact ⟨by simp [hx1],rfl⟩
 ·have aD:(((n:Nat):Int)==1)=false:=by rw [beq_eq_false_iff_ne];omega
  have hx:x≠1:=by
   rintro rfl;rw [zbe (by omega)] at aA;rw [show 1 / B=0 from by decide,zao] at aA;simp at aA
   omega
  clear aA;go_enter Tryz.func128,Tryz.ntmps128
  go_wp2
  go_ret;exact ⟨by simp [hx],rfl⟩
def zau (w:World) (base g n c:Nat) (l:List Nat):Prop:=w.ownsRow base 116 1 (.slice (some ⟨g,0,none⟩) n c) n (l.map u64v)
section
variable {w w':World} {base g n c:Nat} {l:List Nat}
theorem zau.len (h:zau w base g n c l):l.length=n:=by
 have:=h.1;rw [List.length_map] at this;omega
theorem zau.cell (h:zau w base g n c l) (k:Nat) (hk:k<n):w.cell? ⟨g,k,none⟩=some (.int .u64 ((l.getD k 0:Nat):Int)):=by
 have hl:k<l.length:=by rw [h.len];exact hk
 rw [World.ownsRow.cellAt h k (by omega)];simp [u64v,List.getD,hl]
theorem zau.free (h:zau w base g n c l) (k:Nat):w.frozen? ⟨g,k,none⟩=false:=World.ownsRow.frozenAt h k
theorem zau.set (h:zau w base g n c l) (k x:Nat):zau (w.setCell ⟨g,k,none⟩ (.int .u64 (x:Int))) base g n c (l.set k x):=by
 have:=(World.ownsRow.stored h k (u64v x)).1;unfold zau;rw [List.map_set];exact this
theorem zau.lt (h:zau w base g n c l):base≤g∧g<w.heap.size:=World.ownsRow.lt h g rfl
theorem zau.words (h:zau w base g n c l):zbB w w.heap.size (some ⟨g,0,none⟩) n l:=zaY.of_own h
theorem zau.kept {row:Option Nat} (h:zau w base g n c l) (hg:w.grownBy w' row) (hr:row≠some g):zau w' base g n c l:=
 World.ownsRow.kept h hg (.inr (by simpa [Value.ownBlock] using fun e=>hr e.symm))
theorem zau.below (h:zau w base g n c l) (hb:Below w.heap.size w w'):zau w' base g n c l:=
 h.kept (World.grownBy.mk hb.os hb.tape hb.output hb.size (fun i hi _=>hb.block i hi):w.grownBy w' none) (by simp)
theorem zau.drewN (h:zau w base g n c l) (q:Nat):zau (w.drewN q) base g n c l:=h
theorem zau.alloc (h:zau w base g n c l) (o:Obj):zau (w.alloc o) base g n c l:=World.ownsRow.alloc h o
theorem zau.caps (h:zau w base g n c l):n≤c∧c≤maxLen:=by
 rcases h.2 with ⟨h',_⟩ | ⟨g',aC,aG,h',hb,hg,aE,aD,aF,aA⟩
 ·simp at h'
 ·simp only [Value.slice.injEq] at h'
  obtain ⟨_,_,rfl⟩:=h';exact ⟨aE,aD⟩
theorem zau.mono {base':Nat} (h:zau w base g n c l) (hb:base'≤base):zau w base' g n c l:=by
 refine ⟨h.1,?_⟩
 rcases h.2 with h' | ⟨g',aA,aC,h',aD,r⟩
 ·exact .inl h'
 ·exact .inr ⟨g',aA,aC,h',by omega,r⟩
theorem zau.take {m:Nat} (h:zau w base g n c l) (hm:m≤n):zau w base g m c (l.take m):=by
 refine ⟨by rw [List.length_map,List.length_take,h.len];omega,?_⟩
 rcases h.2 with ⟨h',_⟩ | ⟨g',aD,aE,h',hb,hg,aG,aF,aC,aA⟩
 ·simp at h'
 ·simp only [Value.slice.injEq,Option.some.injEq,Addr.mk.injEq,and_true,true_and] at h'
  obtain ⟨rfl,rfl⟩:=h';refine .inr ⟨g,c,aE,rfl,hb,hg,by omega,aF,aC,?_⟩;rw [List.map_take,←aA,List.take_take]
  congr 1
  omega
theorem zau.nat {x:Nat} (h:zau w base g n c (digs x)):NatS w w.heap.size (some ⟨g,0,none⟩) n c x:=⟨h.words,h.caps.1,h.caps.2⟩
end
theorem zau.made {w1:World} {base g n:Nat} (h:w1.ownsRow base 116 1 (.slice (some ⟨g,0,none⟩) n n) n (madeCells #[Value.int .u64 0] n).toList) :
  zau w1 base g n n (List.replicate n 0):=by
 unfold zau;rw [List.map_replicate]
 rwa [toList_madeCells_one] at h
theorem zb1 (base g n c:Nat) (l:List Nat) (w:World) (hr:zau w base g n c l) (hw:Wf l) :
  Calls Tryz.prog 153 #[.slice (some ⟨g,0,none⟩) n c] w fun e w'=>∃ m,e = .returned (.slice (some ⟨g,0,none⟩) m c)∧zau w base g m c (digs (val l))∧w=w':=
 (zfD w.heap.size _ n c l w hr.words hw hr.caps.1 hr.caps.2).mono fun e w' ⟨m,he,hm,ht,hww⟩=>⟨m,he,by
  have h:=hr.take hm
  rwa [ht] at h,hww⟩
theorem zkl {a w:World} {row:Option Nat} (h:a.grownBy w row) (n:Nat):a.grownBy (w.drewN n) row:=⟨h.os,h.tape,h.output,h.size,h.block⟩
theorem zlm {a w:World} {row:Option Nat} (h:a.grownBy w row):a.grownBy w.drew row:=⟨h.os,h.tape,h.output,h.size,h.block⟩
theorem za8 {a w:World} {g:Nat} (h:a.grownBy w (some g)) {p:Addr} (hp:p.block=g∨a.heap.size≤p.block) (u:Value):a.grownBy (w.setCell p u) (some g):=
 ⟨h.os,h.tape,h.output,by simpa [World.setCell] using h.size,fun i hi hne=>(Below.heap_setCell w p u i (by
  rintro rfl
  rcases hp with hp | hp
  ·exact hne (by rw [hp])
  ·omega)).trans (h.block i hi hne)⟩
theorem zey {a w:World} (h:Below a.heap.size a w) (row:Option Nat):a.grownBy w row:=⟨h.os,h.tape,h.output,h.size,fun i hi _=>h.block i hi⟩
theorem zgJ {a b c:World} {g:Nat} (h:a.grownBy b (some g)) (k:b.grownBy c (some g)):a.grownBy c (some g):=
 ⟨k.os.trans h.os,k.tape.trans h.tape,k.output.trans h.output,Nat.le_trans h.size k.size,fun i hi hne=>(k.block i (Nat.lt_of_lt_of_le hi h.size) hne).trans (h.block i hi hne)⟩
def Off (A:Option Addr) (g:Nat):Prop:=∀ ad,A=some ad→ad.block≠g
theorem zbB.kept {w w':World} {B n g:Nat} {A:Option Addr} {l:List Nat} (h:zbB w B A n l) (hg:w.grownBy w' (some g)) (hB:B≤w.heap.size) (ho:0<n→Off A g):zbB w' B A n l:=
 ⟨h.1,fun hn=>by
  obtain ⟨ad,e,hb,hc⟩:=h.2 hn;refine ⟨ad,e,hb,fun j u hu => ?_⟩;rw [←hc j u hu];exact World.cell?_of_block (hg.block (ad.add j).block (by rw [zaK];omega) (by rw [zaK];intro e';exact ho hn ad e (by injection e')))⟩
theorem NatS.kept {w w':World} {n c x g:Nat} {A:Option Addr} (h:NatS w w.heap.size A n c x) (hg:w.grownBy w' (some g)) (ho:0<n→Off A g):NatS w' w'.heap.size A n c x:=
 ⟨(h.words.kept hg (Nat.le_refl _) ho).more hg.size,h.nc,h.cm⟩
theorem NatS.off {w:World} {n c x g:Nat} {A:Option Addr} (h:NatS w w.heap.size A n c x) (hg:w.heap.size≤g):0<n→Off A g:=by
 intro h0 ad e he;obtain ⟨aA,e',hb,_⟩:=h.words.2 h0;rw [e] at e';injection e' with e'
 subst e';omega
def zkR (base x:Nat) (e:Ending) (w':World):Prop:=
 (e = .returned (.slice none 0 0)∧x=0)∨∃ g m c,e = .returned (.slice (some ⟨g,0,none⟩) m c)∧zau w' base g m c (digs x)
theorem NatS.nil (w:World) (B:Nat):NatS w B none 0 0 0:=⟨by rw [zao];exact zaY.none_,Nat.le_refl _,by unfold maxLen;omega⟩
theorem zkR.ret {w w':World} {x:Nat} {e:Ending} (h:zkR w.heap.size x e w') (hb:Below w.heap.size w w'):zb9 w x e w':=by
 rcases h with ⟨rfl,rfl⟩ | ⟨g,m,c,rfl,hr⟩
 ·exact ⟨none,0,0,rfl,NatS.nil _ _,hb⟩
 ·exact ⟨_,m,c,rfl,hr.nat,hb⟩
end
end Go.Proofs.YtbkgkoenppkhpaaGreatDoor
