/- Plain mathematics: words to the base 10^9 and their value. No program. -/
import Derived.Test.YteajibbphcfmeaaGreatDoorXWords
import Derived.Test.YteajibbphcfmeaaGreatDoorXNat5
import Derived.Test.YteajibbphcfmeaaGreatDoorXShelf
import Derived.Test.YteajibbphcfmeaaGreatDoorXRat2
import Derived.Shelf.Strconv.ParseUint10At
import Derived.Test.YteajibbphcfmeaaGreatDoorProg
import Derived.Test.YteajibbphcfmeaaGreatDoorXStr2
import Derived.Lib.AtoiErrMem
import Derived.Test.YteajibbphcfmeaaGreatDoorXFmt
import Derived.Laws.FloatBits
import Derived.Laws.FloatArith
namespace Go.Proofs.YteajibbphcfmeaaGreatDoor.Dn
def B:Nat:=1000000000
theorem zdf:B=1000000000:=rfl
theorem zaN:0<B:=by decide
theorem zdP:1<B:=by decide
def val:List Nat→Nat
 | []=>0
 | x :: xs=>x+B*val xs
def Wf (l:List Nat):Prop:=∀ x ∈ l,x<B
theorem Wf.nil:Wf []:=fun _ h=>by cases h
theorem Wf.cons {x:Nat} {l:List Nat} (h:x<B) (k:Wf l):Wf (x :: l):=by
 intro y hy
 rcases List.mem_cons.1 hy with rfl | hy
 ·exact h
 ·exact k y hy
theorem Wf.replicate (n:Nat):Wf (List.replicate n 0):=fun _ hy=>by rw [(List.mem_replicate.1 hy).2];exact zaN
theorem Wf.head {x:Nat} {l:List Nat} (h:Wf (x :: l)):x<B:=h x (by simp)
theorem Wf.tail {x:Nat} {l:List Nat} (h:Wf (x :: l)):Wf l:=fun y hy=>h y (by simp [hy])
theorem Wf.append {a b:List Nat} (h:Wf a) (k:Wf b):Wf (a++b):=by
 intro y hy
 rcases List.mem_append.1 hy with hy | hy
 ·exact h y hy
 ·exact k y hy
theorem Wf.take {a:List Nat} (h:Wf a) (n:Nat):Wf (a.take n):=fun y hy=>h y (List.mem_of_mem_take hy)
theorem Wf.drop {a:List Nat} (h:Wf a) (n:Nat):Wf (a.drop n):=fun y hy=>h y (List.mem_of_mem_drop hy)
theorem Wf.get {a:List Nat} (h:Wf a) {i:Nat} (hi:i<a.length):a[i]<B:=h _ (List.getElem_mem hi)
theorem Wf.set {a:List Nat} (h:Wf a) (i:Nat) {x:Nat} (hx:x<B):Wf (a.set i x):=by
 intro y hy
 rcases List.mem_or_eq_of_mem_set hy with hy | rfl
 ·exact h y hy
 ·exact hx
@[simp] theorem val_nil:val []=0:=rfl
@[simp] theorem val_cons (x:Nat) (xs:List Nat):val (x :: xs)=x+B*val xs:=rfl
theorem zaL (a b:List Nat):val (a++b)=val a+B ^ a.length*val b:=by
 induction a with
 | nil=>simp
 | cons x a ih=>
  simp only [List.cons_append,val_cons,ih,List.length_cons,Nat.pow_succ]
  rw [Nat.mul_add,←Nat.mul_assoc,Nat.mul_comm B (B ^ a.length),Nat.add_assoc]
theorem zaT (x:Nat):val [x]=x:=by simp
theorem zbo {l:List Nat} (h:Wf l):val l<B ^ l.length:=by
 induction l with
 | nil=>simp
 | cons x l ih=>
  have h1:=ih h.tail;have h2:=h.head;simp only [val_cons,List.length_cons,Nat.pow_succ]
  have:B*val l+B≤B*B ^ l.length:=by
   have:B*(val l+1)≤B*B ^ l.length:=Nat.mul_le_mul_left B h1
   rwa [Nat.mul_add,Nat.mul_one] at this
  rw [Nat.mul_comm (B ^ l.length) B];omega
theorem zat (l:List Nat) (k:Nat) (h:k<l.length):val (l.take (k+1))=val (l.take k)+B ^ k*l[k]:=by
 rw [List.take_succ_eq_append_getElem h,zaL,zaT,List.length_take,Nat.min_eq_left (by omega)]
theorem zay (l:List Nat) (k:Nat) (h:k≤l.length):val l=val (l.take k)+B ^ k*val (l.drop k):=by
 have h1:=zaL (l.take k) (l.drop k);rw [List.take_append_drop,List.length_take,Nat.min_eq_left h] at h1;exact h1
theorem zaW (n:Nat):val (List.replicate n 0)=0:=by
 induction n with
 | zero=>rfl
 | succ n ih=>simp [List.replicate_succ,ih]
theorem zfo {l:List Nat} (h:∀ x ∈ l,x=0):val l=0:=by
 induction l with
 | nil=>rfl
 | cons x l ih=>
  have:=h x (by simp);simp [this,ih (fun y hy=>h y (by simp [hy]))]
def digs (n:Nat):List Nat:=if n=0 then [] else (n % B) :: digs (n / B)
termination_by n
decreasing_by
 rename_i h
 exact Nat.div_lt_self (by omega) zdP
theorem digs_zero:digs 0=[]:=by rw [digs];rfl
theorem zbc {n:Nat} (h:0<n):digs n=(n % B) :: digs (n / B):=by rw [digs,if_neg (by omega)]
theorem zak (n:Nat):val (digs n)=n:=by
 induction n using Nat.strongRecOn with
 | ind n ih=>
  rcases Nat.eq_zero_or_pos n with rfl | h
  ·rw [digs_zero];rfl
  ·rw [zbc h,val_cons,ih _ (Nat.div_lt_self h zdP)]
   exact Nat.mod_add_div n B
theorem zaq (n:Nat):Wf (digs n):=by
 induction n using Nat.strongRecOn with
 | ind n ih=>
  rcases Nat.eq_zero_or_pos n with rfl | h
  ·rw [digs_zero];exact Wf.nil
  ·rw [zbc h]
   exact Wf.cons (Nat.mod_lt _ zaN) (ih _ (Nat.div_lt_self h zdP))
theorem zcp {n:Nat} (h:0<n):digs n≠[]:=by rw [zbc h];simp
theorem zdS {n:Nat}:digs n=[]↔n=0:=by
 constructor
 ·intro h
  rcases Nat.eq_zero_or_pos n with h0 | h0
  ·exact h0
  ·exact absurd h (zcp h0)
 ·rintro rfl;exact digs_zero
theorem zas {n:Nat} (h:0<n):0<(digs n).length:=List.length_pos_iff.2 (zcp h)
theorem zaY {n:Nat}:(digs n).length=0↔n=0:=by rw [List.length_eq_zero_iff];exact zdS
def Norm (l:List Nat):Prop:=∀ h:0<l.length,l[l.length - 1]≠0
theorem zcP (n:Nat):Norm (digs n):=by
 induction n using Nat.strongRecOn with
 | ind n ih=>
  intro h0
  rcases Nat.eq_zero_or_pos n with rfl | h
  ·simp [digs_zero] at h0
  ·have aA:=ih _ (Nat.div_lt_self h zdP)
   have e:=zbc h
   rcases Nat.eq_zero_or_pos (n / B) with hq | hq
   ·have e2:digs n=[n % B]:=by rw [e,hq,digs_zero]
    have:n % B≠0:=by
     have:=Nat.mod_add_div n B;rw [hq] at this;omega
    simp only [e2]
    simpa using this
   ·have hl:=zas hq
    have h2:=aA hl;simp only [e,List.length_cons,Nat.add_sub_cancel]
    rw [List.getElem_cons,dif_neg (by omega)];exact h2
theorem zgQ {l:List Nat} (hw:Wf l) (hn:Norm l):digs (val l)=l:=by
 induction l with
 | nil=>exact digs_zero
 | cons x l ih=>
  have hx:=hw.head;have aA:0<x+B*val l:=by
   rcases Nat.eq_zero_or_pos l.length with h0 | h0
   ·have:l=[]:=List.eq_nil_of_length_eq_zero h0
    subst this;have:=hn (by simp);simp at this
    omega
   ·have aC:Norm l:=by
     intro h;have:=hn (by simp);simp only [List.length_cons,Nat.add_sub_cancel] at this
     rw [List.getElem_cons,dif_neg (by omega)] at this;exact this
    have e:=ih hw.tail aC;have:val l≠0:=by
     intro hz;rw [hz,digs_zero] at e;subst e;simp at h0
    have:=Nat.mul_pos zaN (Nat.pos_of_ne_zero this);omega
  rw [val_cons,zbc aA];have h1:(x+B*val l) % B=x:=by rw [Nat.add_mul_mod_self_left,Nat.mod_eq_of_lt hx]
  have h2:(x+B*val l) / B=val l:=by rw [Nat.add_mul_div_left _ _ zaN,Nat.div_eq_of_lt hx,Nat.zero_add]
  rw [h1,h2]
  rcases Nat.eq_zero_or_pos l.length with h0 | h0
  ·have:l=[]:=List.eq_nil_of_length_eq_zero h0
   subst this;simp [digs_zero]
  ·rw [ih hw.tail]
   intro h;have:=hn (by simp);simp only [List.length_cons,Nat.add_sub_cancel] at this
   rw [List.getElem_cons,dif_neg (by omega)] at this;exact this
theorem zd4 {l:List Nat} (hw:Wf l) (n:Nat) (hn:n≤l.length) (hz:∀ j (h:j<l.length),n≤j→l[j]=0)
  (ht:∀ h:n - 1<l.length,0<n→l[n - 1]≠0):l.take n=digs (val l):=by
 have h1:val (l.drop n)=0:=by
  apply zfo
  intro x hx;obtain ⟨i,hi,rfl⟩:=List.getElem_of_mem hx;rw [List.getElem_drop];exact hz _ _ (by omega)
 rw [zay l n hn,h1,Nat.mul_zero,Nat.add_zero];refine (zgQ (hw.take n) ?_).symm;intro h0;rw [List.length_take,Nat.min_eq_left hn] at h0;simp only [List.length_take,Nat.min_eq_left hn,List.getElem_take]
 exact ht (by omega) h0
theorem digs_length_le {n k:Nat} (h:n<B ^ k):(digs n).length≤k:=by
 rcases Nat.eq_zero_or_pos n with rfl | hp
 ·simp [digs_zero]
 ·rcases Nat.lt_or_ge k (digs n).length with hk | hk
  ·exfalso
   have hn:=zcP n (zas hp);have hs:=zay (digs n) ((digs n).length - 1) (by omega);rw [zak] at hs;have hd:(digs n).drop ((digs n).length - 1)=[(digs n)[(digs n).length - 1]]:=by
    rw [List.drop_eq_getElem_cons (by omega)]
    congr 1
    apply List.drop_eq_nil_of_le
    omega
   rw [hd,zaT] at hs;have:B ^ k≤B ^ ((digs n).length - 1):=Nat.pow_le_pow_right zaN (by omega);have h1:1≤(digs n)[(digs n).length - 1]:=Nat.pos_of_ne_zero hn;have:=Nat.le_mul_of_pos_right (B ^ ((digs n).length - 1)) h1;omega
  ·exact hk
theorem zac (n:Nat):n<B ^ (digs n).length:=by
 have:=zbo (zaq n)
 rwa [zak] at this
theorem zaD {n:Nat} (h:0<n):B ^ ((digs n).length - 1)≤n:=by
 rcases Nat.lt_or_ge n (B ^ ((digs n).length - 1)) with hl | hl
 ·have:=digs_length_le hl
  have:=zas h;omega
 ·exact hl
theorem zbv {a b:Nat} (h:(digs a).length<(digs b).length):a<b:=by
 have h1:=zac a;have hb:0<b:=by
  rcases Nat.eq_zero_or_pos b with rfl | hb
  ·simp [digs_zero] at h
  ·exact hb
 have h2:=zaD hb;have:B ^ (digs a).length≤B ^ ((digs b).length - 1):=Nat.pow_le_pow_right zaN (by omega);omega
theorem zaa {a b:Nat} (h:a≤b):(digs a).length≤(digs b).length:=by
 rcases Nat.lt_or_ge (digs b).length (digs a).length with hl | hl
 ·have:=zbv hl;omega
 ·exact hl
theorem zdC {x y:List Nat} (hx:Wf x) (hl:x.length=y.length) (i:Nat) (hi:i<x.length)
  (habove:∀ j (h:j<x.length) (h':j<y.length),i<j→x[j]=y[j]) (hlt:x[i]<y[i]'(by omega)):val x<val y:=by
 have aA:i<y.length:=by omega
 rw [zay x (i+1) (by omega),zay y (i+1) (by omega)];have e:x.drop (i+1)=y.drop (i+1):=by
  apply List.ext_getElem
  ·simp [hl]
  ·intro j h1 h2
   simp only [List.getElem_drop]
   rw [List.length_drop] at h1;exact habove _ (by omega) (by omega) (by omega)
 rw [e,zat x i hi,zat y i aA];have h1:=zbo (hx.take i);rw [List.length_take,Nat.min_eq_left (by omega)] at h1;have h3:B ^ i*x[i]+B ^ i≤B ^ i*y[i]:=by
  have:=Nat.mul_le_mul_left (B ^ i) hlt
  rwa [Nat.mul_succ] at this
 omega
theorem zc9 {x y:List Nat} (hl:x.length=y.length) (h:∀ j (h:j<x.length) (h':j<y.length),x[j]=y[j]):x=y:=
 List.ext_getElem hl fun j h1 h2=>h j h1 h2
theorem zgm {a b:Nat} (h:digs a=digs b):a=b:=by rw [←zak a,h,zak]
theorem zaC {l:List Nat} (h:Wf l) (k:Nat):l.getD k 0<1000000000:=by
 by_cases hk:k<l.length
 ·have:=h.get hk
  have e:l.getD k 0=l[k]:=by simp [List.getD,hk]
  rw [e];exact this
 ·have e:l.getD k 0=0:=by simp [List.getD,Nat.le_of_not_lt hk]
  rw [e];decide
theorem zbM {l:List Nat} {k:Nat} (h:l.length≤k):l.getD k 0=0:=by simp [List.getD,h]
theorem getD_in {l:List Nat} {k:Nat} (h:k<l.length):l.getD k 0=l[k]:=by simp [List.getD,h]
theorem zag (l:List Nat) (k:Nat):val (l.take (k+1))=val (l.take k)+B ^ k*l.getD k 0:=by
 by_cases hk:k<l.length
 ·rw [getD_in hk,zat l k hk]
 ·rw [zbM (by omega),List.take_of_length_le (by omega),List.take_of_length_le (by omega)];simp
theorem zc7 (l:List Nat) (k x:Nat):(l.set k x).take k=l.take k:=by rw [List.take_set_of_le];omega
theorem zaG (l:List Nat) (k x:Nat) (hk:k<l.length):val ((l.set k x).take (k+1))=val (l.take k)+B ^ k*x:=by
 have h1:=zat (l.set k x) k (by simpa using hk);rw [List.getElem_set_self] at h1;rw [h1,zc7]
theorem zeF (l a b:List Nat) (k:Nat) (hk:k<l.length) (s c0 c1:Nat)
  (hinv:val (l.take k)+B ^ k*c0=val (a.take k)+val (b.take k))
  (hs:s+B*c1=a.getD k 0+b.getD k 0+c0):val ((l.set k s).take (k+1))+B ^ (k+1)*c1=val (a.take (k+1))+val (b.take (k+1)):=by
 rw [zaG l k s hk,zag a,zag b,Nat.pow_succ,Nat.mul_assoc];have h3:B ^ k*s+B ^ k*(B*c1)=B ^ k*a.getD k 0+B ^ k*b.getD k 0+B ^ k*c0:=by rw [←Nat.mul_add,hs,Nat.mul_add,Nat.mul_add]
 omega
theorem zfC (l a b:List Nat) (k:Nat) (hk:k<l.length) (d b0 b1:Nat)
  (hinv:val (l.take k)+val (b.take k)=val (a.take k)+B ^ k*b0)
  (hs:d+b.getD k 0+b0=a.getD k 0+B*b1):val ((l.set k d).take (k+1))+val (b.take (k+1))=val (a.take (k+1))+B ^ (k+1)*b1:=by
 rw [zaG l k d hk,zag a,zag b,Nat.pow_succ,Nat.mul_assoc];have h3:B ^ k*d+B ^ k*b.getD k 0+B ^ k*b0=B ^ k*a.getD k 0+B ^ k*(B*b1):=by rw [←Nat.mul_add,←Nat.mul_add,hs,Nat.mul_add]
 omega
theorem minus_end (d y x p b0:Nat) (h:d+y=x+p*b0) (hd:d<p) (hyx:y≤x) (hb:b0≤1):d=x - y:=by
 have:b0=0∨b0=1:=by omega
 rcases this with rfl | rfl
 ·omega
 ·omega
theorem zdN (l:List Nat) (k x:Nat) (hk:k<l.length):val (l.set k x)+B ^ k*l.getD k 0=val l+B ^ k*x:=by
 have h1:=zay (l.set k x) (k+1) (by rw [List.length_set];exact hk);have h2:=zay l (k+1) hk;rw [zaG l k x hk] at h1;rw [zag] at h2;have h3:(l.set k x).drop (k+1)=l.drop (k+1):=by rw [List.drop_set_of_lt];omega
 rw [h3] at h1;omega
theorem zaH (l:List Nat) (k j x:Nat) (h:k≠j):(l.set k x).getD j 0=l.getD j 0:=by
 simp only [List.getD]
 rw [List.getElem?_set_ne h]
theorem zcJ (l:List Nat) (k x:Nat) (h:k<l.length):(l.set k x).getD k 0=x:=by
 simp only [List.getD]
 rw [List.getElem?_set_self h];rfl
theorem zcu (n t:Nat):(List.replicate n 0).getD t 0=0:=by
 by_cases h:t<n
 ·simp [List.getD,h]
 ·simp [List.getD,Nat.le_of_not_lt h]
theorem zdT (l lb:List Nat) (i j p f lo hi c:Nat) (hk:i+j<l.length)
  (hinv:val l+B ^ (i+j)*c=p+B ^ i*(f*val (lb.take j))) (hs:lo+B*hi=f*lb.getD j 0+l.getD (i+j) 0+c) :
  val (l.set (i+j) lo)+B ^ (i+(j+1))*hi=p+B ^ i*(f*val (lb.take (j+1))):=by
 have h1:=zdN l (i+j) lo hk;rw [zag,Nat.mul_add f,Nat.mul_add (B ^ i)];have h2:B ^ (i+j)*lo+B ^ (i+j)*(B*hi)=B ^ (i+j)*(f*lb.getD j 0)+B ^ (i+j)*l.getD (i+j) 0+B ^ (i+j)*c:=by
  rw [←Nat.mul_add,hs,Nat.mul_add,Nat.mul_add]
 have h3:B ^ (i+(j+1))*hi=B ^ (i+j)*(B*hi):=by rw [←Nat.add_assoc,Nat.pow_succ,Nat.mul_assoc]
 have h4:B ^ i*(f*(B ^ j*lb.getD j 0))=B ^ (i+j)*(f*lb.getD j 0):=by
  rw [Nat.pow_add,Nat.mul_left_comm f,Nat.mul_assoc]
 rw [h3,h4];generalize B ^ (i+j)*lo=a1 at *;generalize B ^ (i+j)*(B*hi)=a2 at *;generalize B ^ (i+j)*(f*lb.getD j 0)=a3 at *;generalize B ^ (i+j)*l.getD (i+j) 0=a4 at *;generalize B ^ (i+j)*c=a5 at *;generalize B ^ i*(f*val (lb.take j))=a6 at *;omega
theorem ze8 (l la lb:List Nat) (i n' c:Nat) (hk:i+n'<l.length) (hz:l.getD (i+n') 0=0) (hn:lb.length=n')
  (hinv:val l+B ^ (i+n')*c=val (la.take i)*val lb+B ^ i*(la.getD i 0*val (lb.take n'))):val (l.set (i+n') c)=val (la.take (i+1))*val lb:=by
 have h1:=zdN l (i+n') c hk;rw [hz,Nat.mul_zero,Nat.add_zero] at h1;rw [h1,hinv,zag,Nat.add_mul,List.take_of_length_le (l:=lb) (by omega),Nat.mul_assoc]
theorem zeo {x y:Nat} (hl:(digs x).length=(digs y).length) (i:Nat) (hi:i<(digs x).length)
  (habove:∀ j (h:j<(digs x).length) (h':j<(digs y).length),i<j→(digs x)[j]=(digs y)[j]) (hlt:(digs x).getD i 0<(digs y).getD i 0):x<y:=by
 have aA:i<(digs y).length:=by omega
 have h:=zdC (zaq x) hl i hi habove (by simpa [List.getD,hi,aA] using hlt)
 rwa [zak,zak] at h
theorem zfW {x y:Nat} (hl:(digs x).length=(digs y).length) (h:∀ j (h:j<(digs x).length) (h':j<(digs y).length),(digs x)[j]=(digs y)[j]):x=y:=
 zgm (zc9 hl h)
def pad (l:List Nat) (N:Nat):List Nat:=l++List.replicate (N - l.length) 0
theorem zew (l:List Nat) (N:Nat):val (pad l N)=val l:=by unfold pad;rw [zaL,zaW];simp
theorem zgP {l:List Nat} {N:Nat} (h:l.length≤N):(pad l N).length=N:=by unfold pad;rw [List.length_append,List.length_replicate];omega
theorem zey (l:List Nat) (N j:Nat) (h:j<(pad l N).length):(pad l N)[j]=l.getD j 0:=by
 have h':j<(l++List.replicate (N - l.length) 0).length:=h;show (l++List.replicate (N - l.length) 0)[j]'h'=_
 by_cases hj:j<l.length
 ·rw [List.getElem_append_left hj,getD_in hj]
 ·rw [List.getElem_append_right (by omega),zbM (by omega)];simp
theorem zo4 {l:List Nat} (h:Wf l) (N:Nat):Wf (pad l N):=h.append (Wf.replicate _)
theorem zk0 {x y:Nat} (i:Nat) (habove:∀ j,i<j→(digs x).getD j 0=(digs y).getD j 0) (hlt:(digs x).getD i 0<(digs y).getD i 0):x<y:=by
 have hi:i<(digs y).length:=by
  rcases Nat.lt_or_ge i (digs y).length with h | h
  ·exact h
  ·rw [zbM h] at hlt;omega
 obtain ⟨N,hN⟩:∃ N,N=max (digs x).length (digs y).length:=⟨_,rfl⟩;have h1:=zgP (l:=digs x) (N:=N) (by omega);have h2:=zgP (l:=digs y) (N:=N) (by omega);have h:=zdC (x:=pad (digs x) N) (y:=pad (digs y) N) (zo4 (zaq x) N) (by omega) i (by omega) (fun j h h' hj=>by rw [zey,zey];exact habove j hj) (by rw [zey,zey];exact hlt)
 rwa [zew,zew,zak,zak] at h
theorem znI {x y:Nat} (h:∀ j,(digs x).getD j 0=(digs y).getD j 0):x=y:=by
 obtain ⟨N,hN⟩:∃ N,N=max (digs x).length (digs y).length:=⟨_,rfl⟩;have h1:=zgP (l:=digs x) (N:=N) (by omega);have h2:=zgP (l:=digs y) (N:=N) (by omega);have e:pad (digs x) N=pad (digs y) N:=zc9 (by omega) (fun j h3 h4=>by rw [zey,zey];exact h j);have:=congrArg val e
 rwa [zew,zew,zak,zak] at this
theorem zcm:∀ (k x:Nat),(digs x).getD k 0=x / B ^ k % B
 | 0,x=>by
  rcases Nat.eq_zero_or_pos x with rfl | h
  ·simp [digs_zero]
  ·rw [zbc h];simp
 | k+1,x=>by
  rcases Nat.eq_zero_or_pos x with rfl | h
  ·simp [digs_zero]
  ·rw [zbc h,List.getD_cons_succ,zcm k (x / B),Nat.div_div_eq_div_mul,Nat.pow_succ,Nat.mul_comm]
theorem znY (x k:Nat):x / B ^ k=(digs x).getD k 0+B*(x / B ^ (k+1)):=by
 rw [zcm,Nat.pow_succ,←Nat.div_div_eq_div_mul];exact (Nat.mod_add_div _ _).symm
end Go.Proofs.YteajibbphcfmeaaGreatDoor.Dn
namespace Go.Proofs.YteajibbphcfmeaaGreatDoor
open Go.RowKit
structure NatD (w:World) (B:Nat) (A:Option Addr) (n c:Nat) (x:Nat):Prop where
 words:zbk w B A n (Dn.digs x)
 nc:n≤c
 cm:c≤maxLen
section
variable {w w':World} {B B' n c x:Nat} {A:Option Addr}
theorem NatD.len (h:NatD w B A n c x):(Dn.digs x).length=n:=h.words.len
theorem NatD.below (h:NatD w B A n c x) (hb:Below B w w'):NatD w' B A n c x:=⟨h.words.below hb,h.nc,h.cm⟩
theorem NatD.more (h:NatD w B A n c x) (hB:B≤B'):NatD w B' A n c x:=⟨h.words.more hB,h.nc,h.cm⟩
theorem NatD.later (h:NatD w w.heap.size A n c x) (hb:Below w.heap.size w w'):NatD w' w'.heap.size A n c x:=(h.below hb).more hb.size
theorem NatD.alloc (h:NatD w w.heap.size A n c x) (o:Obj):NatD (w.alloc o) (w.heap.size+1) A n c x:=⟨(h.words.alloc (Nat.le_refl _) o).more (by omega),h.nc,h.cm⟩
theorem NatD.zero (w:World) (B:Nat):NatD w B none 0 0 0:=⟨by rw [Dn.digs_zero];exact zav.none_,Nat.le_refl _,Nat.zero_le _⟩
end
def RetD (w:World) (x:Nat) (e:Ending) (w':World):Prop:=∃ A m c,e = .returned (.slice A m c)∧NatD w' w'.heap.size A m c x∧Below w.heap.size w w'
def zoQ (w:World) (x:Nat) (e:Ending) (w':World):Prop:=∃ g m c,e = .returned (.slice (some ⟨g,0,none⟩) m c)∧w.heap.size≤g∧NatD w' w'.heap.size (some ⟨g,0,none⟩) m c x∧Below w.heap.size w w'
theorem zoQ.ret {w w':World} {x:Nat} {e:Ending} (h:zoQ w x e w'):RetD w x e w':=by
 obtain ⟨g,m,c,h1,_,h2,h3⟩:=h;exact ⟨_,m,c,h1,h2,h3⟩
section
open Dn
end
end Go.Proofs.YteajibbphcfmeaaGreatDoor
namespace Go.Proofs.YteajibbphcfmeaaGreatDoor
open Go.RowKit Dn
def Weak (l:List Nat):Prop:=(∀ k,l.getD k 0≤B)∧val l≤B ^ l.length
theorem Weak.wf {l:List Nat} (h:Wf l):Weak l:=⟨fun k=>Nat.le_of_lt (zaC h k),Nat.le_of_lt (zbo h)⟩
theorem Weak.one {x:Nat} (h:x≤B):Weak [x]:=⟨fun k=>by
 rcases k with _ | k
 ·simpa using h
 ·simp,by simpa using h⟩
theorem zmj (l la lb:List Nat) (i n' c:Nat) (hk:i+n'<l.length) (hv:val (l.set (i+n') c)=val (la.take (i+1))*val lb) (hwa:Wf la) (hb:val lb≤B ^ n'):c<B:=by
 have h1:=zay (l.set (i+n') c) (i+n'+1) (by rw [List.length_set];exact hk);rw [zaG l (i+n') c hk] at h1;have h2:val (la.take (i+1))<B ^ (i+1):=Nat.lt_of_lt_of_le (zbo (hwa.take _)) (Nat.pow_le_pow_right zaN (by rw [List.length_take];omega));have h3:val (la.take (i+1))*val lb≤val (la.take (i+1))*B ^ n':=Nat.mul_le_mul_left _ hb;have h4:val (la.take (i+1))*B ^ n'<B ^ (i+1)*B ^ n':=Nat.mul_lt_mul_of_pos_right h2 (Nat.pow_pos zaN);have e5:B ^ (i+n')*B=B ^ (i+1)*B ^ n':=by
  rw [←Nat.pow_succ,show (i+n').succ=i+1+n' from by omega,Nat.pow_add]
 have h5:B ^ (i+n')*c<B ^ (i+n')*B:=by
  rw [e5];omega
 exact Nat.lt_of_mul_lt_mul_left h5
end Go.Proofs.YteajibbphcfmeaaGreatDoor
namespace Go.Proofs.YteajibbphcfmeaaGreatDoor
open Go.RowKit
def natv (d:Nat):Value := .int .i64 (d:Int)
theorem zmC:∀ l:List Nat,∀ u ∈ l.map natv,u.oneCell'=true:=by
 intro l u hu;obtain ⟨d,_,rfl⟩:=List.mem_map.1 hu;rfl
theorem zav.cellM {α:Type} {w:World} {B n:Nat} {A:Option Addr} {l:List α} {f : α→Value} (h:zav w B 1 A n (l.map f)) {k:Nat} (hk:k<n) :
  ∃ (ad:Addr) (hl:k<l.length),A=some ad∧ad.block<B∧w.cell? (ad.add k)=some (f l[k]):=by
 obtain ⟨ad,u,hA,hb,hu,hc⟩:=h.at_ hk;have hl:k<l.length:=by have:=h.1;rw [List.length_map] at this;omega
 rw [List.getElem?_map,List.getElem?_eq_getElem hl] at hu;injection hu with hu
 exact ⟨ad,hl,hA,hb,by rw [hc,←hu]⟩
theorem zav.lenM {α:Type} {w:World} {B n:Nat} {A:Option Addr} {l:List α} {f : α→Value} (h:zav w B 1 A n (l.map f)):l.length=n:=by
 have:=h.1;rw [List.length_map] at this;omega
theorem zav.later {w w':World} {size n:Nat} {A:Option Addr} {xs:List Value} (h:zav w w.heap.size size A n xs) (hb:Below w.heap.size w w'):zav w' w'.heap.size size A n xs:=(h.below hb).more hb.size
def zfn {α:Type} (f : α→Value) (w:World) (B:Nat) (A:Option Addr) (n:Nat) (rows:List (List α)):Prop:=
 rows.length=n∧∃ vs:List Value,zav w B 1 A n vs∧∀ i (h:i<rows.length),∃ A' c',vs[i]? = some (.slice A' rows[i].length c')∧rows[i].length≤c'∧c'≤maxLen∧zav w B 1 A' rows[i].length (rows[i].map f)
section
variable {α:Type} {f : α→Value} {w w':World} {B B' n:Nat} {A:Option Addr} {rows:List (List α)}
theorem zfn.below (h:zfn f w B A n rows) (hb:Below B w w'):zfn f w' B A n rows:=by
 obtain ⟨hl,vs,hr,hv⟩:=h;exact ⟨hl,vs,hr.below hb,fun i hi=>by
  obtain ⟨A',c',h1,h2,h3,h4⟩:=hv i hi;exact ⟨A',c',h1,h2,h3,h4.below hb⟩⟩
theorem zfn.more (h:zfn f w B A n rows) (hB:B≤B'):zfn f w B' A n rows:=by
 obtain ⟨hl,vs,hr,hv⟩:=h;exact ⟨hl,vs,hr.more hB,fun i hi=>by
  obtain ⟨A',c',h1,h2,h3,h4⟩:=hv i hi;exact ⟨A',c',h1,h2,h3,h4.more hB⟩⟩
theorem zfn.later (h:zfn f w w.heap.size A n rows) (hb:Below w.heap.size w w'):zfn f w' w'.heap.size A n rows:=(h.below hb).more hb.size
theorem zfn.row (h:zfn f w B A n rows) {k:Nat} (hk:k<n) :
  ∃ (ad:Addr) (hl:k<rows.length) (A':Option Addr) (c':Nat),A=some ad∧ad.block<B∧w.cell? (ad.add k)=some (.slice A' rows[k].length c')∧rows[k].length≤c'∧c'≤maxLen∧zav w B 1 A' rows[k].length (rows[k].map f):=by
 obtain ⟨hl,vs,hr,hv⟩:=h;have aA:k<rows.length:=by omega
 obtain ⟨A',c',h1,h2,h3,h4⟩:=hv k aA;obtain ⟨ad,u,hA,hb,hu,hc⟩:=hr.at_ hk;rw [h1] at hu;injection hu with hu
 exact ⟨ad,aA,A',c',hA,hb,by rw [hc,←hu],h2,h3,h4⟩
end
theorem zpi {a b:World} {B:Nat} (h:a.grownBy b none) (hB:B≤a.heap.size):Below B a b:=(Below.refl _ _).grown h hB (fun k e=>by cases e)
theorem zkp {w:World} {base g n c size:Nat} {e:TypeId} {xs:List Value} (h:w.ownsRow base e size (.slice (some ⟨g,0,none⟩) n c) n xs):base≤g∧g<w.heap.size:=World.ownsRow.lt h g rfl
theorem zdd {w:World} {base g n c:Nat} {e:TypeId} {xs:List Value} (h:w.ownsRow base e 1 (.slice (some ⟨g,0,none⟩) n c) n xs) (k:Nat) (u:Value) :
  (w.setCell ⟨g,k,none⟩ u).ownsRow base e 1 (.slice (some ⟨g,0,none⟩) n c) n (xs.set k u):=(World.ownsRow.stored h k u).1
theorem zdH {w:World} {base g n c:Nat} {e:TypeId} {xs:List Value} (h:w.ownsRow base e 1 (.slice (some ⟨g,0,none⟩) n c) n xs) (k:Nat) (hk:k<n):∃ u,w.cell? ⟨g,k,none⟩=some u:=by
 rw [World.ownsRow.cellAt h k (by omega)];have:=h.1;exact ⟨_,List.getElem?_eq_getElem (by omega)⟩
theorem zbx {w:World} {base g n c:Nat} {e:TypeId} {xs:List Value} (h:w.ownsRow base e 1 (.slice (some ⟨g,0,none⟩) n c) n xs) (k:Nat):w.frozen? ⟨g,k,none⟩=false:=World.ownsRow.frozenAt h k
def CBlk (w:World) (g:Nat) (c:Array Value) (t:TypeId):Prop:=w.heap[g]? = some (.cells c t (0,0))
section
variable {w w':World} {g B:Nat} {c:Array Value} {t:TypeId}
theorem CBlk.new (w:World) (c:Array Value) (t:TypeId) (g:Nat) (hg:g=w.heap.size):CBlk (w.alloc (.cells c t)) g c t:=by subst hg;exact heap_alloc_new w _
theorem CBlk.below (h:CBlk w g c t) (hb:Below B w w') (hg:g<B):CBlk w' g c t:=(hb.block g hg).trans h
theorem CBlk.grown {row:Option Nat} (h:CBlk w g c t) (hb:w.grownBy w' row) (hg:g<w.heap.size) (hr:row≠some g):CBlk w' g c t:=(hb.block g hg (fun e=>hr e.symm)).trans h
theorem CBlk.cell (h:CBlk w g c t) (i:Nat):w.cell? ⟨g,i,none⟩=c[i]? := cell_of_row w g i _ _ _ h
theorem CBlk.frozen (h:CBlk w g c t) (i:Nat):w.frozen? ⟨g,i,none⟩=false:=by
 unfold CBlk at h;simp [World.frozen?,h]
theorem CBlk.lt (h:CBlk w g c t):g<w.heap.size:=by
 unfold CBlk at h
 rcases Nat.lt_or_ge g w.heap.size with aA | aC
 ·exact aA
 ·rw [Array.getElem?_eq_none aC] at h;cases h
theorem CBlk.set0 {v u:Value} (h:CBlk w g #[v] t):CBlk (w.setCell ⟨g,0,none⟩ u) g #[u] t:=heap_setCell_same w g 0 #[v] t u h
end
theorem zcv {w:World} {base size n:Nat} {e:TypeId} {v:Value} {xs:List Value} (h:w.ownsRow base e size v n xs):∃ A c,v = .slice A n c∧n≤c∧c≤maxLen∧zav w w.heap.size size A n xs:=by
 rcases h.2 with ⟨rfl,rfl⟩ | ⟨g,aE,aF,rfl,hb,hg,aD,aC,aG,aA⟩
 ·exact ⟨none,0,rfl,Nat.le_refl _,by unfold maxLen;omega,h.1,fun h0=>absurd h0 (by omega)⟩
 ·exact ⟨some ⟨g,0,none⟩,aE,rfl,aD,aC,zav.of_own h⟩
theorem zhl {w:World} {base size n g:Nat} {e:TypeId} {xs:List Value} (h:w.heap[g]? = some (.cells xs.toArray e (0,0))) (hb:base≤g) (hn:n≤maxLen) (hl:xs.length=n*size):w.ownsRow base e size (.slice (some ⟨g,0,none⟩) n n) n xs:=
 ⟨hl,.inr ⟨g,n,xs.toArray,rfl,hb,h,Nat.le_refl _,hn,by simpa using hl,by rw [List.take_of_length_le (by simp;omega)]⟩⟩
end Go.Proofs.YteajibbphcfmeaaGreatDoor
namespace Go.Proofs.YteajibbphcfmeaaGreatDoor
open Go.RowKit Dn
theorem zeL (l:List Nat) (k x:Nat) (hk:k<l.length):val ((l.set k x).drop k)=x+B*val (l.drop (k+1)):=by
 have h1:(l.set k x).drop k=x :: (l.set k x).drop (k+1):=by
  rw [List.drop_eq_getElem_cons (by simpa using hk)];simp
 rw [h1,val_cons,List.drop_set_of_lt (by omega)]
theorem zbk.zero {w:World} {B:Nat} {A:Option Addr}:zbk w B A 0 []:=⟨rfl,fun h=>absurd h (by omega)⟩
theorem zav.cellsD {w:World} {B n:Nat} {a:Addr} {xs:List Value} (h:zav w B 1 (some a) n xs):∀ j u,xs[j]? = some u→w.cell? (a.add j)=some u:=by
 intro j u hu;have hl:=h.1;have hj:j<xs.length:=by
  rcases Nat.lt_or_ge j xs.length with h1 | h1
  ·exact h1
  ·rw [List.getElem?_eq_none h1] at hu;cases hu
 obtain ⟨ad,e,_,hc⟩:=h.2 (by omega);injection e with e
 subst e;exact hc j u hu
theorem ziF {w:World} {base size n:Nat} {e:TypeId} {v:Value} {xs:List Value} (h:w.ownsRow base e size v n xs) (hn:0<n):∃ g c,v = .slice (some ⟨g,0,none⟩) n c∧base≤g:=by
 rcases h.2 with ⟨rfl,h0⟩ | ⟨g,aA,aC,rfl,hb,_⟩
 ·omega
 ·exact ⟨g,aA,rfl,hb⟩
theorem NatD.kept {w w':World} {n c x g:Nat} {A:Option Addr} (h:NatD w w.heap.size A n c x) (hg:w.grownBy w' (some g)) (ho:0<n→Off A g):NatD w' w'.heap.size A n c x:=
 ⟨(h.words.kept hg (Nat.le_refl _) ho).more hg.size,h.nc,h.cm⟩
theorem NatD.stored {w:World} {n c x g g' i:Nat} {u:Value} (h:NatD w w.heap.size (some ⟨g,0,none⟩) n c x) (hne:g≠g'):NatD (w.setCell ⟨g',i,none⟩ u) (w.setCell ⟨g',i,none⟩ u).heap.size (some ⟨g,0,none⟩) n c x:=
 h.kept (za0 (World.grownBy.refl w _) (.inl rfl) u) (fun _ ad e=>by injection e with e;subst e;exact hne)
def RatD (w:World) (B:Nat) (v:Value) (q:Q):Prop:=
 ∃ A n c A' n' c',v = .agg #[.bool q.neg,.slice A n c,.slice A' n' c']∧NatD w B A n c q.top∧NatD w B A' n' c' q.bot
theorem zmU (neg:Bool) (x y:Nat) (hy:0<y):lowQ neg x y=⟨neg && !decide (x / Nat.gcd x y=0),x / Nat.gcd x y,y / Nat.gcd x y⟩:=by
 unfold lowQ;rw [if_neg (by omega)]
 by_cases hx:x=0
 ·subst hx
  rw [if_pos rfl,Nat.gcd_zero_left,Nat.zero_div,Nat.div_self hy];simp
 ·rw [if_neg hx]
  have h1:0<x / Nat.gcd x y:=Nat.div_pos (Nat.gcd_le_left _ (by omega)) (Nat.gcd_pos_of_pos_right _ hy);have h2:decide (x / Nat.gcd x y=0)=false:=decide_eq_false (Nat.ne_of_gt h1);rw [h2];simp
end Go.Proofs.YteajibbphcfmeaaGreatDoor
namespace Go.Proofs
open Go.Shelf
end Go.Proofs
namespace Go.Proofs.YteajibbphcfmeaaGreatDoor
open Go.RowKit Dn
theorem znC:B=10 ^ 9:=by decide
theorem zdz (l:List UInt8) (h:zar l=true) (a b:Nat):zar ((l.drop a).take b)=true:=by
 unfold zar at *;rw [List.all_eq_true] at *;intro x hx;exact h x (List.mem_of_mem_drop (List.mem_of_mem_take hx))
theorem zgh (l:List UInt8) (ws:List Nat) (e d:Nat) (hd:d≤e) (_he:e≤l.length) (hk:l.length - e=9*ws.length) (hv:val ws=zaj (l.drop e)) :
  val (ws++[zaj ((l.drop d).take (e - d))])=zaj (l.drop d):=by
 have h1:l.drop d=(l.drop d).take (e - d)++l.drop e:=by
  have h:=(List.take_append_drop (e - d) (l.drop d)).symm;rw [List.drop_drop] at h;rw [show d+(e - d)=e from by omega] at h;exact h
 have h2:=zcc ((l.drop d).take (e - d)) (l.drop e);rw [←h1,List.length_drop,hk] at h2;rw [zaL,zaT,hv,h2,znC,←Nat.pow_mul,Nat.mul_comm (10 ^ (9*ws.length))];omega
theorem zbZ (s:ByteArray) (d e:Nat):(s.extract d e).data.toList=(s.data.toList.drop d).take (e - d):=by
 rw [ByteArray.data_extract,Array.toList_extract]
theorem zk9 {w w':World} {base size n:Nat} {e:TypeId} {v:Value} {xs:List Value} (h:w.ownsRow base e size v n xs) (hb:Below w.heap.size w w'):w'.ownsRow base e size v n xs:=
 h.kept (zc5 hb none) (by cases v.ownBlock<;>simp)
theorem zng:B=10 ^ 9:=by decide
theorem zlo (x q:Nat) (h:0<x / B ^ (q+1)):Lib.decDigits (x / B ^ q)=Lib.decDigits (x / B ^ (q+1))++Dec.pad 9 (x / B ^ q % B):=by
 have h1:=znY x q;rw [zcm] at h1;have h2:x / B ^ q % B<10 ^ 9:=by rw [←zng];exact Nat.mod_lt _ zaN
 have h3:=Dec.dec_append 9 (x / B ^ (q+1)) (x / B ^ q % B) h h2;rw [←zng,show x / B ^ (q+1)*B+x / B ^ q % B=x / B ^ q by rw [Nat.mul_comm];omega] at h3;exact h3
theorem ziG {x n:Nat} (hn:0<n) (h:x<B ^ n) (j:Nat):(Lib.decDigits (x / B ^ j)).length≤9*n:=by
 refine Dec.dec_length_le (by omega) (Nat.lt_of_le_of_lt (Nat.div_le_self _ _) ?_)
 rwa [zng,←Nat.pow_mul] at h
end Go.Proofs.YteajibbphcfmeaaGreatDoor
namespace Go.Proofs.YteajibbphcfmeaaGreatDoor.Flt
open Ieee
def fin (f:Format) (b:Nat):Bool:=match f.read b with | .number .. => true | _=>false
def key (f:Format) (b:Nat):Int:=match f.read b with | .number s m e=>signed s m (e - f.leastPlace).toNat | _=>0
theorem zgi {f:Format} {b:Nat} {s:Bool} {m:Nat} {e:Int} (h:f.read b = .number s m e):f.leastPlace≤e:=by
 unfold Format.read at h
 dsimp only at h
 split at h
 ·injection h with _ _ h;omega
 ·split at h
  ·injection h with _ _ h;omega
  ·split at h<;>cases h
theorem zfX (s:Bool) (m a k:Nat):signed s m (a+k)=signed s m a*((2 ^ k:Nat):Int):=by
 unfold signed;simp only [Nat.shiftLeft_eq,Nat.pow_add]
 split
 ·rw [Int.neg_mul,←Int.natCast_mul,Nat.mul_assoc]
 ·rw [←Int.natCast_mul,Nat.mul_assoc]
theorem zf6 {a b:Int} (h:a<b):compare a b = .lt:=by unfold compare;simp [instOrdInt,compareOfLessAndEq,h]
theorem ziD (a:Int):compare a a = .eq:=by unfold compare;simp [instOrdInt,compareOfLessAndEq]
theorem zhw {a b:Int} (h:b<a):compare a b = .gt:=by unfold compare;simp [instOrdInt,compareOfLessAndEq,show ¬ a<b from by omega,show ¬ a=b from by omega]
theorem zhZ (a b:Int) {k:Nat} (hk:0<k):compare (a*(k:Int)) (b*(k:Int))=compare a b:=by
 have aA:(0:Int)<(k:Int):=by omega
 rcases Int.lt_trichotomy a b with h | h | h
 ·have h1:a*(k:Int)<b*(k:Int):=Int.mul_lt_mul_of_pos_right h aA
  rw [zf6 h,zf6 h1]
 ·subst h;simp
 ·have h1:b*(k:Int)<a*(k:Int):=Int.mul_lt_mul_of_pos_right h aA
  rw [zhw h,zhw h1]
theorem zcN {f:Format} {x y:Nat} (hx:fin f x=true) (hy:fin f y=true):f.order x y=some (compare (key f x) (key f y)):=by
 unfold fin at hx hy;unfold key Format.order
 split at hx
 ·rename_i s m i h1
  split at hy
  ·rename_i t n j h2
   have p1:=zgi h1;have p2:=zgi h2;rw [h1,h2];simp only [Datum.order]
   have e1:(i - f.leastPlace).toNat=(i - min i j).toNat+(min i j - f.leastPlace).toNat:=by omega
   have e2:(j - f.leastPlace).toNat=(j - min i j).toNat+(min i j - f.leastPlace).toNat:=by omega
   rw [e1,e2,zfX,zfX,zhZ _ _ (Nat.two_pow_pos _)]
  ·cases hy
 ·cases hx
section
variable {x y:Nat} (hx:fin single x=true) (hy:fin single y=true)
include hx hy
end
end Go.Proofs.YteajibbphcfmeaaGreatDoor.Flt
