/- Plain mathematics: words to the base 10^9 and their value. No program. -/
import Derived.Test.YtmkihdjolnlccaaGreatDoorQWords
namespace Go.Proofs.YtmkihdjolnlccaaGreatDoor.Dn
def B:Nat:=1000000000
theorem zfV:B=1000000000:=rfl
theorem zaA:0<B:=by decide
theorem zdL:1<B:=by decide
def val:List Nat→Nat
 | []=>0
 | x :: xs=>x+B*val xs
def Wf (l:List Nat):Prop:=∀ x ∈ l,x<B
theorem Wf.nil:Wf []:=fun _ h=>by cases h
theorem Wf.cons {x:Nat} {l:List Nat} (h:x<B) (k:Wf l):Wf (x :: l):=by
 intro y hy
 rcases List.mem_cons.1 hy with rfl | hy
 ·exact h
 ·exact k y hy
theorem Wf.replicate (n:Nat):Wf (List.replicate n 0):=fun _ hy=>by rw [(List.mem_replicate.1 hy).2];exact zaA
theorem Wf.head {x:Nat} {l:List Nat} (h:Wf (x :: l)):x<B:=h x (by simp)
theorem Wf.tail {x:Nat} {l:List Nat} (h:Wf (x :: l)):Wf l:=fun y hy=>h y (by simp [hy])
theorem Wf.append {a b:List Nat} (h:Wf a) (k:Wf b):Wf (a++b):=by
 intro y hy
 rcases List.mem_append.1 hy with hy | hy
 ·exact h y hy
 ·exact k y hy
theorem Wf.take {a:List Nat} (h:Wf a) (n:Nat):Wf (a.take n):=fun y hy=>h y (List.mem_of_mem_take hy)
theorem Wf.drop {a:List Nat} (h:Wf a) (n:Nat):Wf (a.drop n):=fun y hy=>h y (List.mem_of_mem_drop hy)
theorem Wf.get {a:List Nat} (h:Wf a) {i:Nat} (hi:i<a.length):a[i]<B:=h _ (List.getElem_mem hi)
theorem Wf.set {a:List Nat} (h:Wf a) (i:Nat) {x:Nat} (hx:x<B):Wf (a.set i x):=by
 intro y hy
 rcases List.mem_or_eq_of_mem_set hy with hy | rfl
 ·exact h y hy
 ·exact hx
@[simp] theorem val_nil:val []=0:=rfl
@[simp] theorem val_cons (x:Nat) (xs:List Nat):val (x :: xs)=x+B*val xs:=rfl
theorem zaJ (a b:List Nat):val (a++b)=val a+B ^ a.length*val b:=by
 induction a with
 | nil=>simp
 | cons x a ih=>
  simp only [List.cons_append,val_cons,ih,List.length_cons,Nat.pow_succ]
  rw [Nat.mul_add,←Nat.mul_assoc,Nat.mul_comm B (B ^ a.length),Nat.add_assoc]
theorem zaM (x:Nat):val [x]=x:=by simp
theorem za9 {l:List Nat} (h:Wf l):val l<B ^ l.length:=by
 induction l with
 | nil=>simp
 | cons x l ih=>
  have h1:=ih h.tail
  have h2:=h.head
  simp only [val_cons,List.length_cons,Nat.pow_succ]
  have:B*val l+B≤B*B ^ l.length:=by
   have:B*(val l+1)≤B*B ^ l.length:=Nat.mul_le_mul_left B h1
   rwa [Nat.mul_add,Nat.mul_one] at this
  rw [Nat.mul_comm (B ^ l.length) B]
  omega
theorem zat (l:List Nat) (k:Nat) (h:k<l.length):val (l.take (k+1))=val (l.take k)+B ^ k*l[k]:=by
 rw [List.take_succ_eq_append_getElem h,zaJ,zaM,List.length_take,Nat.min_eq_left (by omega)]
theorem zav (l:List Nat) (k:Nat) (h:k≤l.length):val l=val (l.take k)+B ^ k*val (l.drop k):=by
 have h1:=zaJ (l.take k) (l.drop k)
 rw [List.take_append_drop,List.length_take,Nat.min_eq_left h] at h1
 exact h1
theorem zaL (n:Nat):val (List.replicate n 0)=0:=by
 induction n with
 | zero=>rfl
 | succ n ih=>simp [List.replicate_succ,ih]
theorem zfQ {l:List Nat} (h:∀ x ∈ l,x=0):val l=0:=by
 induction l with
 | nil=>rfl
 | cons x l ih=>
  have:=h x (by simp)
  simp [this,ih (fun y hy=>h y (by simp [hy]))]
def digs (n:Nat):List Nat:=if n=0 then [] else (n % B) :: digs (n / B)
termination_by n
decreasing_by
 rename_i h
 exact Nat.div_lt_self (by omega) zdL
theorem digs_zero:digs 0=[]:=by rw [digs];rfl
theorem zaZ {n:Nat} (h:0<n):digs n=(n % B) :: digs (n / B):=by rw [digs,if_neg (by omega)]
theorem zai (n:Nat):val (digs n)=n:=by
 induction n using Nat.strongRecOn with
 | ind n ih=>
  rcases Nat.eq_zero_or_pos n with rfl | h
  ·rw [digs_zero];rfl
  ·rw [zaZ h,val_cons,ih _ (Nat.div_lt_self h zdL)]
   exact Nat.mod_add_div n B
theorem zak (n:Nat):Wf (digs n):=by
 induction n using Nat.strongRecOn with
 | ind n ih=>
  rcases Nat.eq_zero_or_pos n with rfl | h
  ·rw [digs_zero];exact Wf.nil
  ·rw [zaZ h]
   exact Wf.cons (Nat.mod_lt _ zaA) (ih _ (Nat.div_lt_self h zdL))
theorem zci {n:Nat} (h:0<n):digs n≠[]:=by rw [zaZ h];simp
theorem zdS {n:Nat}:digs n=[]↔n=0:=by
 constructor
 ·intro h
  rcases Nat.eq_zero_or_pos n with h0 | h0
  ·exact h0
  ·exact absurd h (zci h0)
 ·rintro rfl;exact digs_zero
theorem zan {n:Nat} (h:0<n):0<(digs n).length:=List.length_pos_iff.2 (zci h)
theorem zaT {n:Nat}:(digs n).length=0↔n=0:=by rw [List.length_eq_zero_iff];exact zdS
def Norm (l:List Nat):Prop:=∀ h:0<l.length,l[l.length - 1]≠0
theorem zcl (n:Nat):Norm (digs n):=by
 induction n using Nat.strongRecOn with
 | ind n ih=>
  intro h0
  rcases Nat.eq_zero_or_pos n with rfl | h
  ·simp [digs_zero] at h0
  ·have ih':=ih _ (Nat.div_lt_self h zdL)
   have e:=zaZ h
   rcases Nat.eq_zero_or_pos (n / B) with hq | hq
   ·have e2:digs n=[n % B]:=by rw [e,hq,digs_zero]
    have:n % B≠0:=by
     have:=Nat.mod_add_div n B
     rw [hq] at this;omega
    simp only [e2]
    simpa using this
   ·have hl:=zan hq
    have h2:=ih' hl
    simp only [e,List.length_cons,Nat.add_sub_cancel]
    rw [List.getElem_cons,dif_neg (by omega)]
    exact h2
theorem zhu {l:List Nat} (hw:Wf l) (hn:Norm l):digs (val l)=l:=by
 induction l with
 | nil=>exact digs_zero
 | cons x l ih=>
  have hx:=hw.head
  have hpos:0<x+B*val l:=by
   rcases Nat.eq_zero_or_pos l.length with h0 | h0
   ·have:l=[]:=List.eq_nil_of_length_eq_zero h0
    subst this
    have:=hn (by simp)
    simp at this
    omega
   ·have hn':Norm l:=by
     intro h
     have:=hn (by simp)
     simp only [List.length_cons,Nat.add_sub_cancel] at this
     rw [List.getElem_cons,dif_neg (by omega)] at this
     exact this
    have e:=ih hw.tail hn'
    have:val l≠0:=by
     intro hz
     rw [hz,digs_zero] at e
     subst e
     simp at h0
    have:=Nat.mul_pos zaA (Nat.pos_of_ne_zero this)
    omega
  rw [val_cons,zaZ hpos]
  have h1:(x+B*val l) % B=x:=by rw [Nat.add_mul_mod_self_left,Nat.mod_eq_of_lt hx]
  have h2:(x+B*val l) / B=val l:=by rw [Nat.add_mul_div_left _ _ zaA,Nat.div_eq_of_lt hx,Nat.zero_add]
  rw [h1,h2]
  rcases Nat.eq_zero_or_pos l.length with h0 | h0
  ·have:l=[]:=List.eq_nil_of_length_eq_zero h0
   subst this
   simp [digs_zero]
  ·rw [ih hw.tail]
   intro h
   have:=hn (by simp)
   simp only [List.length_cons,Nat.add_sub_cancel] at this
   rw [List.getElem_cons,dif_neg (by omega)] at this
   exact this
theorem zcM {l:List Nat} (hw:Wf l) (n:Nat) (hn:n≤l.length) (hz:∀ j (h:j<l.length),n≤j→l[j]=0)
  (ht:∀ h:n - 1<l.length,0<n→l[n - 1]≠0):l.take n=digs (val l):=by
 have h1:val (l.drop n)=0:=by
  apply zfQ
  intro x hx
  obtain ⟨i,hi,rfl⟩:=List.getElem_of_mem hx
  rw [List.getElem_drop]
  exact hz _ _ (by omega)
 rw [zav l n hn,h1,Nat.mul_zero,Nat.add_zero]
 refine (zhu (hw.take n) ?_).symm
 intro h0
 rw [List.length_take,Nat.min_eq_left hn] at h0
 simp only [List.length_take,Nat.min_eq_left hn,List.getElem_take]
 exact ht (by omega) h0
theorem digs_length_le {n k:Nat} (h:n<B ^ k):(digs n).length≤k:=by
 rcases Nat.eq_zero_or_pos n with rfl | hp
 ·simp [digs_zero]
 ·rcases Nat.lt_or_ge k (digs n).length with hk | hk
  ·exfalso
   have hn:=zcl n (zan hp)
   have hs:=zav (digs n) ((digs n).length - 1) (by omega)
   rw [zai] at hs
   have hd:(digs n).drop ((digs n).length - 1)=[(digs n)[(digs n).length - 1]]:=by
    rw [List.drop_eq_getElem_cons (by omega)]
    congr 1
    apply List.drop_eq_nil_of_le
    omega
   rw [hd,zaM] at hs
   have:B ^ k≤B ^ ((digs n).length - 1):=Nat.pow_le_pow_right zaA (by omega)
   have h1:1≤(digs n)[(digs n).length - 1]:=Nat.pos_of_ne_zero hn
   have:=Nat.le_mul_of_pos_right (B ^ ((digs n).length - 1)) h1
   omega
  ·exact hk
theorem zaa (n:Nat):n<B ^ (digs n).length:=by
 have:=za9 (zak n)
 rwa [zai] at this
theorem zau {n:Nat} (h:0<n):B ^ ((digs n).length - 1)≤n:=by
 rcases Nat.lt_or_ge n (B ^ ((digs n).length - 1)) with hl | hl
 ·have:=digs_length_le hl
  have:=zan h
  omega
 ·exact hl
theorem zbl {a b:Nat} (h:(digs a).length<(digs b).length):a<b:=by
 have h1:=zaa a
 have hb:0<b:=by
  rcases Nat.eq_zero_or_pos b with rfl | hb
  ·simp [digs_zero] at h
  ·exact hb
 have h2:=zau hb
 have:B ^ (digs a).length≤B ^ ((digs b).length - 1):=Nat.pow_le_pow_right zaA (by omega)
 omega
theorem zac {a b:Nat} (h:a≤b):(digs a).length≤(digs b).length:=by
 rcases Nat.lt_or_ge (digs b).length (digs a).length with hl | hl
 ·have:=zbl hl;omega
 ·exact hl
theorem zds {x y:List Nat} (hx:Wf x) (hl:x.length=y.length) (i:Nat) (hi:i<x.length)
  (habove:∀ j (h:j<x.length) (h':j<y.length),i<j→x[j]=y[j]) (hlt:x[i]<y[i]'(by omega)):val x<val y:=by
 have hy':i<y.length:=by omega
 rw [zav x (i+1) (by omega),zav y (i+1) (by omega)]
 have e:x.drop (i+1)=y.drop (i+1):=by
  apply List.ext_getElem
  ·simp [hl]
  ·intro j h1 h2
   simp only [List.getElem_drop]
   rw [List.length_drop] at h1
   exact habove _ (by omega) (by omega) (by omega)
 rw [e,zat x i hi,zat y i hy']
 have h1:=za9 (hx.take i)
 rw [List.length_take,Nat.min_eq_left (by omega)] at h1
 have h3:B ^ i*x[i]+B ^ i≤B ^ i*y[i]:=by
  have:=Nat.mul_le_mul_left (B ^ i) hlt
  rwa [Nat.mul_succ] at this
 omega
theorem zcZ {x y:List Nat} (hl:x.length=y.length) (h:∀ j (h:j<x.length) (h':j<y.length),x[j]=y[j]):x=y:=
 List.ext_getElem hl fun j h1 h2=>h j h1 h2
theorem zhr {a b:Nat} (h:digs a=digs b):a=b:=by rw [←zai a,h,zai]
theorem zar {l:List Nat} (h:Wf l) (k:Nat):l.getD k 0<1000000000:=by
 by_cases hk:k<l.length
 ·have:=h.get hk
  have e:l.getD k 0=l[k]:=by simp [List.getD,hk]
  rw [e];exact this
 ·have e:l.getD k 0=0:=by simp [List.getD,Nat.le_of_not_lt hk]
  rw [e];decide
theorem zbr {l:List Nat} {k:Nat} (h:l.length≤k):l.getD k 0=0:=by simp [List.getD,h]
theorem getD_in {l:List Nat} {k:Nat} (h:k<l.length):l.getD k 0=l[k]:=by simp [List.getD,h]
theorem zag (l:List Nat) (k:Nat):val (l.take (k+1))=val (l.take k)+B ^ k*l.getD k 0:=by
 by_cases hk:k<l.length
 ·rw [getD_in hk,zat l k hk]
 ·rw [zbr (by omega),List.take_of_length_le (by omega),List.take_of_length_le (by omega)];simp
theorem zcW (l:List Nat) (k x:Nat):(l.set k x).take k=l.take k:=by rw [List.take_set_of_le];omega
theorem zaK (l:List Nat) (k x:Nat) (hk:k<l.length):val ((l.set k x).take (k+1))=val (l.take k)+B ^ k*x:=by
 have h1:=zat (l.set k x) k (by simpa using hk)
 rw [List.getElem_set_self] at h1
 rw [h1,zcW]
theorem zeF (l a b:List Nat) (k:Nat) (hk:k<l.length) (s c0 c1:Nat)
  (hinv:val (l.take k)+B ^ k*c0=val (a.take k)+val (b.take k))
  (hs:s+B*c1=a.getD k 0+b.getD k 0+c0):val ((l.set k s).take (k+1))+B ^ (k+1)*c1=val (a.take (k+1))+val (b.take (k+1)):=by
 rw [zaK l k s hk,zag a,zag b,Nat.pow_succ,Nat.mul_assoc]
 have h3:B ^ k*s+B ^ k*(B*c1)=B ^ k*a.getD k 0+B ^ k*b.getD k 0+B ^ k*c0:=by rw [←Nat.mul_add,hs,Nat.mul_add,Nat.mul_add]
 omega
theorem zdX (l a b:List Nat) (k:Nat) (hk:k<l.length) (d b0 b1:Nat)
  (hinv:val (l.take k)+val (b.take k)=val (a.take k)+B ^ k*b0)
  (hs:d+b.getD k 0+b0=a.getD k 0+B*b1):val ((l.set k d).take (k+1))+val (b.take (k+1))=val (a.take (k+1))+B ^ (k+1)*b1:=by
 rw [zaK l k d hk,zag a,zag b,Nat.pow_succ,Nat.mul_assoc]
 have h3:B ^ k*d+B ^ k*b.getD k 0+B ^ k*b0=B ^ k*a.getD k 0+B ^ k*(B*b1):=by rw [←Nat.mul_add,←Nat.mul_add,hs,Nat.mul_add]
 omega
theorem minus_end (d y x p b0:Nat) (h:d+y=x+p*b0) (hd:d<p) (hyx:y≤x) (hb:b0≤1):d=x - y:=by
 have:b0=0∨b0=1:=by omega
 rcases this with rfl | rfl
 ·omega
 ·omega
theorem zd2 (l:List Nat) (k x:Nat) (hk:k<l.length):val (l.set k x)+B ^ k*l.getD k 0=val l+B ^ k*x:=by
 have h1:=zav (l.set k x) (k+1) (by rw [List.length_set];exact hk)
 have h2:=zav l (k+1) hk
 rw [zaK l k x hk] at h1
 rw [zag] at h2
 have h3:(l.set k x).drop (k+1)=l.drop (k+1):=by rw [List.drop_set_of_lt];omega
 rw [h3] at h1
 omega
theorem zaz (l:List Nat) (k j x:Nat) (h:k≠j):(l.set k x).getD j 0=l.getD j 0:=by
 simp only [List.getD]
 rw [List.getElem?_set_ne h]
theorem zcA (l:List Nat) (k x:Nat) (h:k<l.length):(l.set k x).getD k 0=x:=by
 simp only [List.getD]
 rw [List.getElem?_set_self h]
 rfl
theorem zbO (n t:Nat):(List.replicate n 0).getD t 0=0:=by
 by_cases h:t<n
 ·simp [List.getD,h]
 ·simp [List.getD,Nat.le_of_not_lt h]
theorem zc6 (l lb:List Nat) (i j p f lo hi c:Nat) (hk:i+j<l.length)
  (hinv:val l+B ^ (i+j)*c=p+B ^ i*(f*val (lb.take j))) (hs:lo+B*hi=f*lb.getD j 0+l.getD (i+j) 0+c) :
  val (l.set (i+j) lo)+B ^ (i+(j+1))*hi=p+B ^ i*(f*val (lb.take (j+1))):=by
 have h1:=zd2 l (i+j) lo hk
 rw [zag,Nat.mul_add f,Nat.mul_add (B ^ i)]
 have h2:B ^ (i+j)*lo+B ^ (i+j)*(B*hi)=B ^ (i+j)*(f*lb.getD j 0)+B ^ (i+j)*l.getD (i+j) 0+B ^ (i+j)*c:=by
  rw [←Nat.mul_add,hs,Nat.mul_add,Nat.mul_add]
 have h3:B ^ (i+(j+1))*hi=B ^ (i+j)*(B*hi):=by rw [←Nat.add_assoc,Nat.pow_succ,Nat.mul_assoc]
 have h4:B ^ i*(f*(B ^ j*lb.getD j 0))=B ^ (i+j)*(f*lb.getD j 0):=by
  rw [Nat.pow_add,Nat.mul_left_comm f,Nat.mul_assoc]
 rw [h3,h4]
 generalize B ^ (i+j)*lo=a1 at *
 generalize B ^ (i+j)*(B*hi)=a2 at *
 generalize B ^ (i+j)*(f*lb.getD j 0)=a3 at *
 generalize B ^ (i+j)*l.getD (i+j) 0=a4 at *
 generalize B ^ (i+j)*c=a5 at *
 generalize B ^ i*(f*val (lb.take j))=a6 at *
 omega
theorem zd7 (l la lb:List Nat) (i n' c:Nat) (hk:i+n'<l.length) (hz:l.getD (i+n') 0=0) (hn:lb.length=n')
  (hinv:val l+B ^ (i+n')*c=val (la.take i)*val lb+B ^ i*(la.getD i 0*val (lb.take n'))):val (l.set (i+n') c)=val (la.take (i+1))*val lb:=by
 have h1:=zd2 l (i+n') c hk
 rw [hz,Nat.mul_zero,Nat.add_zero] at h1
 rw [h1,hinv,zag,Nat.add_mul,List.take_of_length_le (l:=lb) (by omega),Nat.mul_assoc]
theorem zeL {x y:Nat} (hl:(digs x).length=(digs y).length) (i:Nat) (hi:i<(digs x).length)
  (habove:∀ j (h:j<(digs x).length) (h':j<(digs y).length),i<j→(digs x)[j]=(digs y)[j]) (hlt:(digs x).getD i 0<(digs y).getD i 0):x<y:=by
 have hi':i<(digs y).length:=by omega
 have h:=zds (zak x) hl i hi habove (by simpa [List.getD,hi,hi'] using hlt)
 rwa [zai,zai] at h
theorem zg6 {x y:Nat} (hl:(digs x).length=(digs y).length) (h:∀ j (h:j<(digs x).length) (h':j<(digs y).length),(digs x)[j]=(digs y)[j]):x=y:=
 zhr (zcZ hl h)
def pad (l:List Nat) (N:Nat):List Nat:=l++List.replicate (N - l.length) 0
theorem zeE (l:List Nat) (N:Nat):val (pad l N)=val l:=by unfold pad;rw [zaJ,zaL];simp
theorem zhZ {l:List Nat} {N:Nat} (h:l.length≤N):(pad l N).length=N:=by unfold pad;rw [List.length_append,List.length_replicate];omega
theorem zeI (l:List Nat) (N j:Nat) (h:j<(pad l N).length):(pad l N)[j]=l.getD j 0:=by
 have h':j<(l++List.replicate (N - l.length) 0).length:=h
 show (l++List.replicate (N - l.length) 0)[j]'h'=_
 by_cases hj:j<l.length
 ·rw [List.getElem_append_left hj,getD_in hj]
 ·rw [List.getElem_append_right (by omega),zbr (by omega)];simp
theorem zs2 {l:List Nat} (h:Wf l) (N:Nat):Wf (pad l N):=h.append (Wf.replicate _)
theorem zhH {x y:Nat} (i:Nat) (habove:∀ j,i<j→(digs x).getD j 0=(digs y).getD j 0) (hlt:(digs x).getD i 0<(digs y).getD i 0):x<y:=by
 have hi:i<(digs y).length:=by
  rcases Nat.lt_or_ge i (digs y).length with h | h
  ·exact h
  ·rw [zbr h] at hlt;omega
 obtain ⟨N,hN⟩:∃ N,N=max (digs x).length (digs y).length:=⟨_,rfl⟩
 have h1:=zhZ (l:=digs x) (N:=N) (by omega)
 have h2:=zhZ (l:=digs y) (N:=N) (by omega)
 have h:=zds (x:=pad (digs x) N) (y:=pad (digs y) N) (zs2 (zak x) N) (by omega) i (by omega) (fun j h h' hj=>by rw [zeI,zeI];exact habove j hj) (by rw [zeI,zeI];exact hlt)
 rwa [zeE,zeE,zai,zai] at h
theorem zod {x y:Nat} (h:∀ j,(digs x).getD j 0=(digs y).getD j 0):x=y:=by
 obtain ⟨N,hN⟩:∃ N,N=max (digs x).length (digs y).length:=⟨_,rfl⟩
 have h1:=zhZ (l:=digs x) (N:=N) (by omega)
 have h2:=zhZ (l:=digs y) (N:=N) (by omega)
 have e:pad (digs x) N=pad (digs y) N:=zcZ (by omega) (fun j h3 h4=>by rw [zeI,zeI];exact h j)
 have:=congrArg val e
 rwa [zeE,zeE,zai,zai] at this
theorem zbK:∀ (k x:Nat),(digs x).getD k 0=x / B ^ k % B
 | 0,x=>by
  rcases Nat.eq_zero_or_pos x with rfl | h
  ·simp [digs_zero]
  ·rw [zaZ h];simp
 | k+1,x=>by
  rcases Nat.eq_zero_or_pos x with rfl | h
  ·simp [digs_zero]
  ·rw [zaZ h,List.getD_cons_succ,zbK k (x / B),Nat.div_div_eq_div_mul,Nat.pow_succ,Nat.mul_comm]
theorem zdQ (x k:Nat):x / B ^ k=(digs x).getD k 0+B*(x / B ^ (k+1)):=by
 rw [zbK,Nat.pow_succ,←Nat.div_div_eq_div_mul]
 exact (Nat.mod_add_div _ _).symm
theorem est (r y P b0:Nat) (hP:0<P) (hry:r<y*b0) (hb:b0≤y / P):r / y≤r / P / (y / P)∧r / P / (y / P)≤r / y+1:=by
 have hb0:0<b0:=by
  rcases Nat.eq_zero_or_pos b0 with rfl | h
  ·omega
  ·exact h
 have hy:0<y:=by
  rcases Nat.eq_zero_or_pos y with rfl | h
  ·simp at hry
  ·exact h
 obtain ⟨b,hbd⟩:∃ b,b=y / P:=⟨_,rfl⟩
 obtain ⟨a,had⟩:∃ a,a=r / P:=⟨_,rfl⟩
 obtain ⟨q,hqd⟩:∃ q,q=r / y:=⟨_,rfl⟩
 rw [←hbd] at hb
 rw [←hbd,←had,←hqd]
 have hqb:q<b0:=by rw [hqd];exact Nat.div_lt_of_lt_mul hry
 have h1:q*y≤r:=by rw [hqd];exact Nat.div_mul_le_self r y
 have h2:b*P≤y:=by rw [hbd];exact Nat.div_mul_le_self y P
 have h3:r<(q+1)*y:=by
  rw [hqd,Nat.mul_comm];exact Nat.lt_mul_div_succ r hy
 have h4:y<(b+1)*P:=by
  rw [hbd,Nat.mul_comm];exact Nat.lt_mul_div_succ y hP
 have h5:a*P≤r:=by rw [had];exact Nat.div_mul_le_self r P
 refine ⟨(Nat.le_div_iff_mul_le (by omega)).2 ?_,?_⟩
 ·rw [had]
  apply (Nat.le_div_iff_mul_le hP).2
  rw [Nat.mul_assoc]
  exact Nat.le_trans (Nat.mul_le_mul_left q h2) h1
 ·rcases Nat.lt_or_ge (q+1) (a / b) with h | h
  ·exfalso
   have h6:(q+2)*b≤a:=(Nat.le_div_iff_mul_le (by omega)).1 (by omega)
   have h7:(q+2)*b*P≤r:=Nat.le_trans (Nat.mul_le_mul_right P h6) h5
   have h8:(q+1)*y≤(q+1)*((b+1)*P):=Nat.mul_le_mul_left _ (by omega)
   have h9:(q+2)*b*P<(q+1)*((b+1)*P):=by omega
   rw [←Nat.mul_assoc] at h9
   have h10:(q+2)*b<(q+1)*(b+1):=Nat.lt_of_mul_lt_mul_right h9
   rw [Nat.add_mul,Nat.add_mul,Nat.mul_add] at h10
   omega
  ·exact h
def estA (r n:Nat):Nat:=((digs r).getD n 0*B+(digs r).getD (n - 1) 0)*B+(if 2≤n then (digs r).getD (n - 2) 0 else 0)
def estB (y n:Nat):Nat:=(digs y).getD (n - 1) 0*B+(if 2≤n then (digs y).getD (n - 2) 0 else 0)
theorem zrZ {y n:Nat} (hn:(digs y).length=n) (h1:1≤n):1≤(digs y).getD (n - 1) 0:=by
 subst hn
 rw [getD_in (by omega)]
 exact Nat.pos_of_ne_zero (zcl y (by omega))
theorem zke {y n:Nat} (hn:(digs y).length=n) (h1:1≤n):B≤estB y n:=by
 have:=zrZ hn h1
 have h2:1*B≤(digs y).getD (n - 1) 0*B:=Nat.mul_le_mul_right B this
 unfold estB
 omega
theorem zqL {r y n:Nat} (hn:(digs y).length=n) (h1:1≤n) (hry:r<y*B):r / y≤estA r n / estB y n∧estA r n / estB y n≤r / y+1:=by
 have hyB:y<B ^ n:=by have:=zaa y;rwa [hn] at this
 have hrB:r<B ^ (n+1):=by
  rw [Nat.pow_succ]
  exact Nat.lt_of_lt_of_le hry (Nat.mul_le_mul_right B (by omega))
 have r0:=zdQ r n
 rw [Nat.div_eq_of_lt hrB,Nat.mul_zero,Nat.add_zero] at r0
 have r1:=zdQ r (n - 1)
 rw [show n - 1+1=n from by omega,r0] at r1
 have y1:=zdQ y (n - 1)
 rw [show n - 1+1=n from by omega,Nat.div_eq_of_lt hyB,Nat.mul_zero,Nat.add_zero] at y1
 by_cases h2:2≤n
 ·have r2:=zdQ r (n - 2)
  rw [show n - 2+1=n - 1 from by omega,r1] at r2
  have y2:=zdQ y (n - 2)
  rw [show n - 2+1=n - 1 from by omega,y1] at y2
  have eA:estA r n=r / B ^ (n - 2):=by
   unfold estA
   rw [if_pos h2,r2,Nat.mul_comm B ((digs r).getD (n - 1) 0+B*(digs r).getD n 0),Nat.mul_comm B ((digs r).getD n 0)]
   rw [Nat.add_comm ((digs r).getD n 0*B)]
   omega
  have eB:estB y n=y / B ^ (n - 2):=by
   unfold estB
   rw [if_pos h2,y2,Nat.mul_comm B]
   omega
  have hb:=zke hn h1
  rw [eB] at hb
  rw [eA,eB]
  exact est r y (B ^ (n - 2)) B (Nat.pow_pos zaA) hry hb
 ·have hn1:n=1:=by omega
  subst hn1
  have eA:estA r 1=r*B:=by
   unfold estA
   rw [if_neg h2,Nat.add_zero]
   simp only [Nat.sub_self,Nat.pow_zero,Nat.div_one] at r1
   have:(digs r).getD 1 0*B+(digs r).getD (1 - 1) 0=r:=by
    rw [Nat.mul_comm]
    simp only [Nat.sub_self]
    omega
   rw [this]
  have eB:estB y 1=y*B:=by
   unfold estB
   rw [if_neg h2,Nat.add_zero]
   simp only [Nat.sub_self,Nat.pow_zero,Nat.div_one] at y1
   simp only [Nat.sub_self]
   rw [←y1]
  rw [eA,eB,Nat.mul_div_mul_right _ _ zaA]
  omega
theorem zrh {y n:Nat}:estB y n<B*B:=by
 have h1:=zar (zak y) (n - 1)
 have h2:=zar (zak y) (n - 2)
 unfold estB B
 split<;>omega
end Go.Proofs.YtmkihdjolnlccaaGreatDoor.Dn
namespace Go.Proofs.YtmkihdjolnlccaaGreatDoor
open Go.RowKit
structure NatD (w:World) (B:Nat) (A:Option Addr) (n c:Nat) (x:Nat):Prop where
 words:zaB w B A n (Dn.digs x)
 nc:n≤c
 cm:c≤maxLen
section
variable {w w':World} {B B' n c x:Nat} {A:Option Addr}
theorem NatD.len (h:NatD w B A n c x):(Dn.digs x).length=n:=h.words.len
theorem NatD.below (h:NatD w B A n c x) (hb:Below B w w'):NatD w' B A n c x:=⟨h.words.below hb,h.nc,h.cm⟩
theorem NatD.more (h:NatD w B A n c x) (hB:B≤B'):NatD w B' A n c x:=⟨h.words.more hB,h.nc,h.cm⟩
theorem NatD.later (h:NatD w w.heap.size A n c x) (hb:Below w.heap.size w w'):NatD w' w'.heap.size A n c x:=(h.below hb).more hb.size
theorem NatD.alloc (h:NatD w w.heap.size A n c x) (o:Obj):NatD (w.alloc o) (w.heap.size+1) A n c x:=⟨(h.words.alloc (Nat.le_refl _) o).more (by omega),h.nc,h.cm⟩
theorem NatD.zero (w:World) (B:Nat):NatD w B none 0 0 0:=⟨by rw [Dn.digs_zero];exact zae.none_,Nat.le_refl _,Nat.zero_le _⟩
end
def RetD (w:World) (x:Nat) (e:Ending) (w':World):Prop:=∃ A m c,e = .returned (.slice A m c)∧NatD w' w'.heap.size A m c x∧Below w.heap.size w w'
def zqw (w:World) (x:Nat) (e:Ending) (w':World):Prop:=∃ g m c,e = .returned (.slice (some ⟨g,0,none⟩) m c)∧w.heap.size≤g∧NatD w' w'.heap.size (some ⟨g,0,none⟩) m c x∧Below w.heap.size w w'
theorem zqw.ret {w w':World} {x:Nat} {e:Ending} (h:zqw w x e w'):RetD w x e w':=by
 obtain ⟨g,m,c,h1,_,h2,h3⟩:=h
 exact ⟨_,m,c,h1,h2,h3⟩
section
open Dn
set_option maxHeartbeats 400000 in
theorem ziB (B:Nat) (A:Option Addr) (n c:Nat) (l:List Nat) (w:World) (hr:zaB w B A n l) (hw:Wf l) (hnc:n≤c) (hc:c≤maxLen) :
  Calls Tryz.prog 219 #[.slice A n c] w fun e w'=>∃ m,e = .returned (.slice A m c)∧m≤n∧l.take m=digs (val l)∧w=w':=by
 unfold maxLen at hc
 have hl:=hr.len
 go_enter Tryz.func219,Tryz.ntmps219
 go_wp2
 go_loop [3] (fun s=>∃ k:Nat,k≤n∧s = .int .i64 k∧Hid (∀ j (h:j<l.length),k≤j→l[j]=0)) (fun s=>(intOf s).toNat)
 case atStart=>exact ⟨n,Nat.le_refl _,rfl,fun j h h'=>by omega⟩
 case round=>
  obtain ⟨k,hk,rfl,hz⟩:=hrel
  by_cases h0:0<k
  ·obtain ⟨ad,rfl,hb,hcell⟩:=hr.word (k:=k - 1) (by omega)
   have hkl:k - 1<l.length:=by omega
   have hgd:l.getD (k - 1) 0=l[k - 1]:=by simp [List.getD,hkl]
   by_cases hx:l[k - 1]=0
   ·rw [hgd,hx] at hcell
    have HX:=Lib.hid hx
    clear hx hgd
    go_wp2
    go_round
    case rel=>
     refine ⟨k - 1,by omega,by go_num,?_⟩
     intro j h hj
     rcases Nat.lt_or_ge j k with h1 | h1
     ·obtain rfl:j=k - 1:=by omega
      exact HX.out
     ·exact hz.out j h h1
    case measure=>simp [intOf];omega
   ·rw [hgd] at hcell
    have HX:=Lib.hid hx
    clear hx hgd
    generalize hg:l[k - 1]=x at hcell
    have hx0:(((x:Nat):Int)==0)=false:=by
     have:=HX.out;rw [hg] at this
     rw [beq_eq_false_iff_ne];omega
    have HG:=Lib.hid hg
    clear hg
    go_wp2
    go_ret
    refine ⟨k,rfl,hk,?_,rfl⟩
    refine zcM hw k (by omega) (fun j h hj=>hz.out j h hj) (fun h _=>HX.out)
  ·go_wp2
   go_ret
   refine ⟨k,rfl,hk,?_,rfl⟩
   exact zcM hw k (by omega) (fun j h hj=>hz.out j h hj) (fun h h1=>absurd h1 h0)
theorem zbF (A:Option Addr) (n c:Nat) (l:List Nat) (w:World) (hr:zaB w w.heap.size A n l) (hw:Wf l) (hnc:n≤c) (hc:c≤maxLen) :
  Calls Tryz.prog 219 #[.slice A n c] w fun e w'=>∃ m,e = .returned (.slice A m c)∧NatD w w.heap.size A m c (val l)∧w=w':=
 (ziB w.heap.size A n c l w hr hw hnc hc).mono fun e w' ⟨m,he,hm,ht,hww⟩=>⟨m,he,⟨by
  have h:=hr.take hm
  rw [←List.map_take,ht] at h
  exact h,by omega,hc⟩,hww⟩
theorem zj7 (A:Option Addr) (n c:Nat) (w:World) (_hn:n≤maxLen) :
  Calls Tryz.prog 164 #[.slice A n c] w fun e w'=>e = .returned (.bool ((n:Int)==0))∧w=w':=by
 unfold maxLen at _hn
 go_enter Tryz.func164,Tryz.ntmps164
 go_wp2
 go_ret
 exact ⟨rfl,rfl⟩
set_option maxHeartbeats 400000 in
theorem zo7 (A:Option Addr) (n c:Nat) (l:List Nat) (k:Nat) (B:Nat) (w:World) (hr:zaB w B A n l) (_hn:n≤1099511627776) (hk:k<n) :
  Calls Tryz.prog 251 #[.slice A n c,.int .i64 (k:Int)] w fun e w'=>e = .returned (.int .u64 ((l.getD k 0:Nat):Int))∧w=w':=by
 obtain ⟨ad,rfl,hb,hc⟩:=hr.word (k:=k) hk
 generalize l.getD k 0=x at *
 have d1:decide (((k:Nat):Int)<0)=false:=by simp
 have d2:decide (((n:Nat):Int)≤((k:Nat):Int))=false:=by simp;omega
 have d3:decide (n≤k)=false:=by simp;omega
 go_enter Tryz.func251,Tryz.ntmps251
 go_wp2
 go_ret
 exact ⟨rfl,rfl⟩
set_option maxHeartbeats 400000 in
theorem zje (A:Option Addr) (n c:Nat) (i:Int) (w:World) (_hn:n≤1099511627776) (hi:i<0∨(n:Int)≤i) :
  Calls Tryz.prog 251 #[.slice A n c,.int .i64 i] w fun e w'=>e = .returned (.int .u64 0)∧w=w':=by
 by_cases h0:i<0
 ·have d1:decide (i<0)=true:=by simp;omega
  go_enter Tryz.func251,Tryz.ntmps251
  go_wp2
  go_ret
  exact ⟨rfl,rfl⟩
 ·have d1:decide (i<0)=false:=by simp;omega
  have d2:decide (((n:Nat):Int)≤i)=true:=by simp;omega
  go_enter Tryz.func251,Tryz.ntmps251
  go_wp2
  go_ret
  exact ⟨rfl,rfl⟩
theorem zf4 (A:Option Addr) (n c:Nat) (l:List Nat) (i:Int) (B:Nat) (w:World) (hr:zaB w B A n l) (hn:n≤1099511627776) :
  Calls Tryz.prog 251 #[.slice A n c,.int .i64 i] w fun e w'=>e = .returned (.int .u64 ((if 0≤i then l.getD i.toNat 0 else 0:Nat):Int))∧w=w':=by
 have hl:=hr.len
 by_cases h0:0≤i
 ·rw [if_pos h0]
  obtain ⟨k,rfl⟩:=Int.eq_ofNat_of_zero_le h0
  by_cases hk:k<n
  ·exact zo7 A n c l k B w hr hn hk
  ·have h:=zje A n c (k:Int) w hn (.inr (by omega))
   have e:l.getD ((k:Nat):Int).toNat 0=0:=zbr (by simp;omega)
   rw [e]
   exact h
 ·rw [if_neg h0]
  exact zje A n c i w hn (.inl (by omega))
theorem zcE (A:Option Addr) (n c:Nat) (l:List Nat) (k:Nat) (B:Nat) (w:World) (hr:zaB w B A n l) (hn:n≤1099511627776) :
  Calls Tryz.prog 251 #[.slice A n c,.int .i64 (k:Int)] w fun e w'=>e = .returned (.int .u64 ((l.getD k 0:Nat):Int))∧w=w':=
 (zf4 A n c l k B w hr hn).mono fun e w' ⟨he,hw⟩=>⟨by rw [he,if_pos (by omega)];simp,hw⟩
set_option maxHeartbeats 1000000 in
theorem zcv (A A':Option Addr) (n c n' c' x y:Nat) (w:World) (ha:NatD w w.heap.size A n c x) (hb:NatD w w.heap.size A' n' c' y) (hn:n≤1099511627776) (hn':n'≤1099511627776) :
  Calls Tryz.prog 215 #[.slice A n c,.slice A' n' c'] w fun e w'=>e = .returned (.int .i64 (Bn.ncmp x y))∧w=w':=by
 have hla:=ha.len
 have hlb:=hb.len
 have hout:∀ j,n≤j→n'≤j→(digs x).getD j 0=(digs y).getD j 0:=fun j hj hj'=>by rw [zbr (by omega),zbr (by omega)]
 have HO:=Lib.hid hout
 obtain ⟨N,hN1,hN2,hN3⟩:∃ N,n≤N∧n'≤N∧N≤1099511627776:=⟨max n n',by omega,by omega,by omega⟩
 clear hla hlb hout
 rcases Decidable.em (n<n') with hle | hle
 all_goals
  go_enter Tryz.func215,Tryz.ntmps215
  go_wp2
  go_loopw [5] (fun s wr=>∃ k:Nat,k≤N∧s = .int .i64 ((k:Int) - 1)∧Hid (∀ j,k≤j→(digs x).getD j 0=(digs y).getD j 0)∧wr=w) (fun s _=>(intOf s+1).toNat)
  case atStart=>first | exact ⟨n',by omega,rfl,fun j hj=>HO.out j (by omega) (by omega),rfl⟩ | exact ⟨n,by omega,rfl,fun j hj=>HO.out j (by omega) (by omega),rfl⟩
  case round=>
   obtain ⟨k,hk,rfl,hz,hwr⟩:=hrel
   obtain rfl:w=wr:=hwr.symm
   clear hwr
   by_cases h0:0<k
   ·obtain ⟨i,rfl⟩:∃ i:Nat,k=i+1:=⟨k - 1,by omega⟩
    have e1:((i+1:Nat):Int) - 1=(i:Int):=by omega
    rw [e1]
    have K1:=Lib.hid (zcE A n c (digs x) i _ w ha.words hn)
    have K2:=Lib.hid (zcE A' n' c' (digs y) i _ w hb.words hn')
    have hx:=zar (zak x) i
    have hy:=zar (zak y) i
    obtain ⟨xk,hgx⟩:∃ xk,(digs x).getD i 0=xk:=⟨_,rfl⟩
    obtain ⟨yk,hgy⟩:∃ yk,(digs y).getD i 0=yk:=⟨_,rfl⟩
    have HX:=Lib.hid hgx
    have HY:=Lib.hid hgy
    rw [hgx] at K1 hx
    rw [hgy] at K2 hy
    clear hgx hgy e1
    rcases Nat.lt_trichotomy xk yk with hlt | heq | hgt
    ·have hr:Bn.ncmp x y = -1:=Bn.ncmp_lt (zhH i (fun j hj=>hz.out j (by omega)) (by rw [HX.out,HY.out];exact hlt))
     have HR:=Lib.hid hr
     have d1:decide (xk<yk)=true:=by simpa using hlt
     clear hr
     go_wp2_with fail
     refine K1.out.mono ?_
     rintro e w1 ⟨rfl,rfl⟩
     go_wp2_with fail
     refine K2.out.mono ?_
     rintro e w1 ⟨rfl,rfl⟩
     go_wp2
     go_ret
     exact ⟨by rw [HR.out];rfl,rfl⟩
    ·subst heq
     have HZ:Hid (∀ j,i≤j→(digs x).getD j 0=(digs y).getD j 0):=fun j hj=>by
      rcases Nat.lt_or_ge i j with h1 | h1
      ·exact hz.out j (by omega)
      ·obtain rfl:j=i:=by omega
       rw [HX.out,HY.out]
     have d1:decide (xk<xk)=false:=by simp
     go_wp2_with fail
     refine K1.out.mono ?_
     rintro e w1 ⟨rfl,rfl⟩
     go_wp2_with fail
     refine K2.out.mono ?_
     rintro e w1 ⟨rfl,rfl⟩
     go_wp2_with fail
     refine K1.out.mono ?_
     rintro e w1 ⟨rfl,rfl⟩
     go_wp2_with fail
     refine K2.out.mono ?_
     rintro e w1 ⟨rfl,rfl⟩
     go_wp2
     go_roundw
     case rel=>exact ⟨i,by omega,rfl,HZ.out,trivial⟩
     case measure=>simp [intOf]<;>omega
    ·have hr:Bn.ncmp x y=1:=Bn.ncmp_gt (zhH i (fun j hj=>(hz.out j (by omega)).symm) (by rw [HX.out,HY.out];exact hgt))
     have HR:=Lib.hid hr
     have d1:decide (xk<yk)=false:=by simp;omega
     have d2:decide (yk<xk)=true:=by simpa using hgt
     clear hr
     go_wp2_with fail
     refine K1.out.mono ?_
     rintro e w1 ⟨rfl,rfl⟩
     go_wp2_with fail
     refine K2.out.mono ?_
     rintro e w1 ⟨rfl,rfl⟩
     go_wp2_with fail
     refine K1.out.mono ?_
     rintro e w1 ⟨rfl,rfl⟩
     go_wp2_with fail
     refine K2.out.mono ?_
     rintro e w1 ⟨rfl,rfl⟩
     go_wp2
     go_ret
     exact ⟨by rw [HR.out];rfl,rfl⟩
   ·obtain rfl:k=0:=by omega
    have hr:Bn.ncmp x y=0:=by rw [zod (fun j=>hz.out j (Nat.zero_le _))];exact Bn.ncmp_eq _
    have HR:=Lib.hid hr
    clear hr
    go_wp2
    go_ret
    exact ⟨by rw [HR.out];rfl,rfl⟩
end
end Go.Proofs.YtmkihdjolnlccaaGreatDoor
