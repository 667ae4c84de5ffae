/- Plain mathematics: words to the base 10^9 and their value. No program. -/
import Derived.Shelf.Strconv.ParseUint10At
import Derived.Lib.AtoiErrMem
import Derived.Test.YtbkgkoenppkhpaaGreatDoorBText
namespace Go.Proofs.YtbkgkoenppkhpaaGreatDoor.Dn
def B:Nat:=1000000000
theorem zdC:B=1000000000:=rfl
theorem zaS:0<B:=by decide
theorem zey:1<B:=by decide
def val:List Nat→Nat
 | []=>0
 | x :: xs=>x+B*val xs
def Wf (l:List Nat):Prop:=∀ x ∈ l,x<B
theorem Wf.nil:Wf []:=fun _ h=>by cases h
theorem Wf.cons {x:Nat} {l:List Nat} (h:x<B) (k:Wf l):Wf (x :: l):=by
 intro y hy
 rcases List.mem_cons.1 hy with rfl | hy
 ·exact h
 ·exact k y hy
theorem Wf.replicate(n:Nat):Wf (List.replicate n 0):=fun _ hy=>by rw[(List.mem_replicate.1 hy).2];exact zaS
theorem Wf.head {x:Nat} {l:List Nat} (h:Wf (x :: l)):x<B:=h x (by simp)
theorem Wf.tail {x:Nat} {l:List Nat} (h:Wf (x :: l)):Wf l:=fun y hy=>h y (by simp[hy])
theorem Wf.append {a b:List Nat} (h:Wf a) (k:Wf b):Wf (a++b):=by
 intro y hy
 rcases List.mem_append.1 hy with hy | hy
 ·exact h y hy
 ·exact k y hy
theorem Wf.take{a:List Nat}(h:Wf a)(n:Nat):Wf (a.take n):=fun y hy=>h y (List.mem_of_mem_take hy)
theorem Wf.drop {a:List Nat} (h:Wf a) (n:Nat):Wf (a.drop n):=fun y hy=>h y (List.mem_of_mem_drop hy)
theorem Wf.get {a:List Nat} (h:Wf a) {i:Nat} (hi:i<a.length):a[i]<B:=h _ (List.getElem_mem hi)
theorem Wf.set {a:List Nat} (h:Wf a) (i:Nat) {x:Nat} (hx:x<B):Wf (a.set i x):=by
 intro y hy
 rcases List.mem_or_eq_of_mem_set hy with hy | rfl
 ·exact h y hy
 ·exact hx
@[simp] theorem val_nil:val []=0:=rfl
@[simp] theorem val_cons (x:Nat) (xs:List Nat):val (x :: xs)=x+B*val xs:=rfl
theorem zaQ(a b:List Nat):val (a++b)=val a+B^a.length*val b:=by
 induction a with
 | nil=>simp
 | cons x a ih=>
  simp only[List.cons_append,val_cons,ih,List.length_cons,Nat.pow_succ]
  rw[Nat.mul_add,←Nat.mul_assoc,Nat.mul_comm B (B^a.length),Nat.add_assoc]
theorem zaX(x:Nat):val [x]=x:=by simp
theorem zbA{l:List Nat}(h:Wf l):val l<B^l.length:=by
 induction l with
 | nil=>simp
 | cons x l ih=>
  have h1:=ih h.tail;have h2:=h.head;simp only[val_cons,List.length_cons,Nat.pow_succ]
  have:B*val l+B≤B*B^l.length:=by
   have:B*(val l+1)≤B*B^l.length:=Nat.mul_le_mul_left B h1
   rwa [Nat.mul_add,Nat.mul_one] at this
  rw[Nat.mul_comm (B^l.length) B];omega
theorem zat(l:List Nat)(k:Nat)(h:k<l.length):val (l.take (k+1))=val (l.take k)+B^k*l[k]:=by
 rw[List.take_succ_eq_append_getElem h,zaQ,zaX,List.length_take,Nat.min_eq_left (by omega)]
theorem zay(l:List Nat)(k:Nat)(h:k≤l.length):val l=val (l.take k)+B^k*val (l.drop k):=by
 have h1:=zaQ (l.take k) (l.drop k);rw[List.take_append_drop,List.length_take,Nat.min_eq_left h] at h1;exact h1
theorem za2(n:Nat):val (List.replicate n 0)=0:=by
 induction n with
 | zero=>rfl
 | succ n ih=>simp[List.replicate_succ,ih]
theorem zgp{l:List Nat}(h:∀ x ∈ l,x=0):val l=0:=by
 induction l with
 | nil=>rfl
 | cons x l ih=>
  have:=h x (by simp);simp[this,ih (fun y hy=>h y (by simp[hy]))]
def digs (n:Nat):List Nat:=if n=0 then[] else(n%B) :: digs (n/B)
termination_by n
decreasing_by
 rename_i h
 exact Nat.div_lt_self (by omega) zey
theorem zal:digs 0=[]:=by rw[digs];rfl
theorem zbm{n:Nat}(h:0<n):digs n=(n%B) :: digs (n/B):=by rw[digs,if_neg (by omega)]
theorem zak(n:Nat):val (digs n)=n:=by
 induction n using Nat.strongRecOn with
 | ind n ih=>
  rcases Nat.eq_zero_or_pos n with rfl | h
  ·rw[zal];rfl
  ·rw[zbm h,val_cons,ih _ (Nat.div_lt_self h zey)]
   exact Nat.mod_add_div n B
theorem zaq(n:Nat):Wf (digs n):=by
 induction n using Nat.strongRecOn with
 | ind n ih=>
  rcases Nat.eq_zero_or_pos n with rfl | h
  ·rw[zal];exact Wf.nil
  ·rw[zbm h]
   exact Wf.cons (Nat.mod_lt _ zaS) (ih _ (Nat.div_lt_self h zey))
theorem zcR{n:Nat}(h:0<n):digs n≠[]:=by rw[zbm h];simp
theorem zeD{n:Nat}:digs n=[]↔n=0:=by
 constructor
 ·intro h
  rcases Nat.eq_zero_or_pos n with h0 | h0
  ·exact h0
  ·exact absurd h (zcR h0)
 ·rintro rfl;exact zal
theorem zap{n:Nat}(h:0<n):0<(digs n).length:=List.length_pos_iff.2 (zcR h)
theorem za4 {n:Nat}:(digs n).length=0↔n=0:=by rw[List.length_eq_zero_iff];exact zeD
def Norm (l:List Nat):Prop:=∀ h:0<l.length,l[l.length-1]≠0
theorem zdc(n:Nat):Norm (digs n):=by
 induction n using Nat.strongRecOn with
 | ind n ih=>
  intro h0
  rcases Nat.eq_zero_or_pos n with rfl | h
  ·simp[zal] at h0
  ·have aA:=ih _ (Nat.div_lt_self h zey)
   have e:=zbm h
   rcases Nat.eq_zero_or_pos (n/B) with hq | hq
   ·have e2:digs n=[n%B]:=by rw[e,hq,zal]
    have:n%B≠0:=by
     have:=Nat.mod_add_div n B;rw[hq] at this;omega
    simp only[e2]
    simpa using this
   ·have hl:=zap hq
    have h2:=aA hl;simp only[e,List.length_cons,Nat.add_sub_cancel]
    rw[List.getElem_cons,dif_neg (by omega)];exact h2
theorem zhM{l:List Nat}(hw:Wf l)(hn:Norm l):digs (val l)=l:=by
 induction l with
 | nil=>exact zal
 | cons x l ih=>
  have hx:=hw.head;have aA:0<x+B*val l:=by
   rcases Nat.eq_zero_or_pos l.length with h0 | h0
   ·have:l=[]:=List.eq_nil_of_length_eq_zero h0
    subst this;have:=hn (by simp);simp at this
    omega
   ·have aC:Norm l:=by
     intro h;have:=hn (by simp);simp only[List.length_cons,Nat.add_sub_cancel] at this
     rw[List.getElem_cons,dif_neg (by omega)] at this;exact this
    have e:=ih hw.tail aC;have:val l≠0:=by
     intro hz;rw[hz,zal] at e;subst e;simp at h0
    have:=Nat.mul_pos zaS (Nat.pos_of_ne_zero this);omega
  rw[val_cons,zbm aA];have h1:(x+B*val l)%B=x:=by rw[Nat.add_mul_mod_self_left,Nat.mod_eq_of_lt hx]
  have h2:(x+B*val l)/B=val l:=by rw[Nat.add_mul_div_left _ _ zaS,Nat.div_eq_of_lt hx,Nat.zero_add]
  rw[h1,h2]
  rcases Nat.eq_zero_or_pos l.length with h0 | h0
  ·have:l=[]:=List.eq_nil_of_length_eq_zero h0
   subst this;simp[zal]
  ·rw[ih hw.tail]
   intro h;have:=hn (by simp);simp only[List.length_cons,Nat.add_sub_cancel] at this
   rw[List.getElem_cons,dif_neg (by omega)] at this;exact this
theorem zeX{l:List Nat}(hw:Wf l)(n:Nat)(hn:n≤l.length)(hz:∀ j (h:j<l.length),n≤j→l[j]=0)
 (ht:∀ h:n-1<l.length,0<n→l[n-1]≠0):l.take n=digs (val l):=by
 have h1:val (l.drop n)=0:=by
  apply zgp
  intro x hx;obtain⟨i,hi,rfl⟩:=List.getElem_of_mem hx;rw[List.getElem_drop];exact hz _ _ (by omega)
 rw[zay l n hn,h1,Nat.mul_zero,Nat.add_zero];refine(zhM (hw.take n) ?_).symm;intro h0;rw[List.length_take,Nat.min_eq_left hn] at h0;simp only[List.length_take,Nat.min_eq_left hn,List.getElem_take]
 exact ht (by omega) h0
theorem zab{n k:Nat}(h:n<B^k):(digs n).length≤k:=by
 rcases Nat.eq_zero_or_pos n with rfl | hp
 ·simp[zal]
 ·rcases Nat.lt_or_ge k (digs n).length with hk | hk
  ·exfalso
   have hn:=zdc n (zap hp);have hs:=zay (digs n) ((digs n).length-1) (by omega);rw[zak] at hs;have hd:(digs n).drop ((digs n).length-1)=[(digs n)[(digs n).length-1]]:=by
    rw[List.drop_eq_getElem_cons (by omega)]
    congr 1
    apply List.drop_eq_nil_of_le
    omega
   rw[hd,zaX] at hs;have:B^k≤B^((digs n).length-1):=Nat.pow_le_pow_right zaS (by omega);have h1:1≤(digs n)[(digs n).length-1]:=Nat.pos_of_ne_zero hn;have:=Nat.le_mul_of_pos_right (B^((digs n).length-1)) h1;omega
  ·exact hk
theorem zac(n:Nat):n<B^(digs n).length:=by
 have:=zbA (zaq n)
 rwa [zak] at this
theorem zaG{n:Nat}(h:0<n):B^((digs n).length-1)≤n:=by
 rcases Nat.lt_or_ge n (B^((digs n).length-1)) with hl | hl
 ·have:=zab hl
  have:=zap h;omega
 ·exact hl
theorem zbD{a b:Nat}(h:(digs a).length<(digs b).length):a<b:=by
 have h1:=zac a;have hb:0<b:=by
  rcases Nat.eq_zero_or_pos b with rfl | hb
  ·simp[zal] at h
  ·exact hb
 have h2:=zaG hb;have:B^(digs a).length≤B^((digs b).length-1):=Nat.pow_le_pow_right zaS (by omega);omega
theorem zaa{a b:Nat}(h:a≤b):(digs a).length≤(digs b).length:=by
 rcases Nat.lt_or_ge (digs b).length (digs a).length with hl | hl
 ·have:=zbD hl;omega
 ·exact hl
theorem zec{x y:List Nat}(hx:Wf x)(hl:x.length=y.length)(i:Nat)(hi:i<x.length)
 (habove:∀ j (h:j<x.length) (h':j<y.length),i<j→x[j]=y[j])(hlt:x[i]<y[i]'(by omega)):val x<val y:=by
 have aA:i<y.length:=by omega
 rw[zay x (i+1) (by omega),zay y (i+1) (by omega)];have e:x.drop (i+1)=y.drop (i+1):=by
  apply List.ext_getElem
  ·simp[hl]
  ·intro j h1 h2
   simp only[List.getElem_drop]
   rw[List.length_drop] at h1;exact habove _ (by omega) (by omega) (by omega)
 rw[e,zat x i hi,zat y i aA];have h1:=zbA (hx.take i);rw[List.length_take,Nat.min_eq_left (by omega)] at h1;have h3:B^i*x[i]+B^i≤B^i*y[i]:=by
  have:=Nat.mul_le_mul_left (B^i) hlt
  rwa [Nat.mul_succ] at this
 omega
theorem zdB{x y:List Nat}(hl:x.length=y.length)(h:∀ j (h:j<x.length) (h':j<y.length),x[j]=y[j]):x=y:=
 List.ext_getElem hl fun j h1 h2=>h j h1 h2
theorem zhL {a b:Nat} (h:digs a=digs b):a=b:=by rw[←zak a,h,zak]
theorem zaH{l:List Nat}(h:Wf l)(k:Nat):l.getD k 0<1000000000:=by
 by_cases hk:k<l.length
 ·have:=h.get hk
  have e:l.getD k 0=l[k]:=by simp[List.getD,hk]
  rw[e];exact this
 ·have e:l.getD k 0=0:=by simp[List.getD,Nat.le_of_not_lt hk]
  rw[e];decide
theorem zbV{l:List Nat}{k:Nat}(h:l.length≤k):l.getD k 0=0:=by simp[List.getD,h]
theorem getD_in{l:List Nat}{k:Nat}(h:k<l.length):l.getD k 0=l[k]:=by simp[List.getD,h]
theorem zag(l:List Nat)(k:Nat):val (l.take (k+1))=val (l.take k)+B^k*l.getD k 0:=by
 by_cases hk:k<l.length
 ·rw[getD_in hk,zat l k hk]
 ·rw[zbV (by omega),List.take_of_length_le (by omega),List.take_of_length_le (by omega)];simp
theorem zdr(l:List Nat)(k x:Nat):(l.set k x).take k=l.take k:=by rw[List.take_set_of_le];omega
theorem zaK(l:List Nat)(k x:Nat)(hk:k<l.length):val ((l.set k x).take (k+1))=val (l.take k)+B^k*x:=by
 have h1:=zat (l.set k x) k (by simpa using hk);rw[List.getElem_set_self] at h1;rw[h1,zdr]
theorem ze8(l a b:List Nat)(k:Nat)(hk:k<l.length)(s c0 c1:Nat)
 (hinv:val (l.take k)+B^k*c0=val (a.take k)+val (b.take k))
 (hs:s+B*c1=a.getD k 0+b.getD k 0+c0):val ((l.set k s).take (k+1))+B^(k+1)*c1=val (a.take (k+1))+val (b.take (k+1)):=by
 rw[zaK l k s hk,zag a,zag b,Nat.pow_succ,Nat.mul_assoc];have h3:B^k*s+B^k*(B*c1)=B^k*a.getD k 0+B^k*b.getD k 0+B^k*c0:=by rw[←Nat.mul_add,hs,Nat.mul_add,Nat.mul_add]
 omega
theorem zgA(l a b:List Nat)(k:Nat)(hk:k<l.length)(d b0 b1:Nat)
 (hinv:val (l.take k)+val (b.take k)=val (a.take k)+B^k*b0)
 (hs:d+b.getD k 0+b0=a.getD k 0+B*b1):val ((l.set k d).take (k+1))+val (b.take (k+1))=val (a.take (k+1))+B^(k+1)*b1:=by
 rw[zaK l k d hk,zag a,zag b,Nat.pow_succ,Nat.mul_assoc];have h3:B^k*d+B^k*b.getD k 0+B^k*b0=B^k*a.getD k 0+B^k*(B*b1):=by rw[←Nat.mul_add,←Nat.mul_add,hs,Nat.mul_add]
 omega
theorem minus_end(d y x p b0:Nat)(h:d+y=x+p*b0)(hd:d<p)(hyx:y≤x)(hb:b0≤1):d=x-y:=by
 have:b0=0∨b0=1:=by omega
 rcases this with rfl | rfl
 ·omega
 ·omega
theorem zeG(l:List Nat)(k x:Nat)(hk:k<l.length):val (l.set k x)+B^k*l.getD k 0=val l+B^k*x:=by
 have h1:=zay (l.set k x) (k+1) (by rw[List.length_set];exact hk);have h2:=zay l (k+1) hk;rw[zaK l k x hk] at h1;rw[zag] at h2;have h3:(l.set k x).drop (k+1)=l.drop (k+1):=by rw[List.drop_set_of_lt];omega
 rw[h3] at h1;omega
theorem zaM(l:List Nat)(k j x:Nat)(h:k≠j):(l.set k x).getD j 0=l.getD j 0:=by
 simp only[List.getD]
 rw[List.getElem?_set_ne h]
theorem zc8(l:List Nat)(k x:Nat)(h:k<l.length):(l.set k x).getD k 0=x:=by
 simp only[List.getD]
 rw[List.getElem?_set_self h];rfl
theorem zcJ(n t:Nat):(List.replicate n 0).getD t 0=0:=by
 by_cases h:t<n
 ·simp[List.getD,h]
 ·simp[List.getD,Nat.le_of_not_lt h]
theorem zeC(l lb:List Nat)(i j p f lo hi c:Nat)(hk:i+j<l.length)
 (hinv:val l+B^(i+j)*c=p+B^i*(f*val (lb.take j)))(hs:lo+B*hi=f*lb.getD j 0+l.getD (i+j) 0+c) :
  val (l.set (i+j) lo)+B^(i+(j+1))*hi=p+B^i*(f*val (lb.take (j+1))):=by
 have h1:=zeG l (i+j) lo hk;rw[zag,Nat.mul_add f,Nat.mul_add (B^i)];have h2:B^(i+j)*lo+B^(i+j)*(B*hi)=B^(i+j)*(f*lb.getD j 0)+B^(i+j)*l.getD (i+j) 0+B^(i+j)*c:=by
  rw[←Nat.mul_add,hs,Nat.mul_add,Nat.mul_add]
 have h3:B^(i+(j+1))*hi=B^(i+j)*(B*hi):=by rw[←Nat.add_assoc,Nat.pow_succ,Nat.mul_assoc]
 have h4:B^i*(f*(B^j*lb.getD j 0))=B^(i+j)*(f*lb.getD j 0):=by
  rw[Nat.pow_add,Nat.mul_left_comm f,Nat.mul_assoc]
 rw[h3,h4];generalize B^(i+j)*lo=a1 at *;generalize B^(i+j)*(B*hi)=a2 at *;generalize B^(i+j)*(f*lb.getD j 0)=a3 at *;generalize B^(i+j)*l.getD (i+j) 0=a4 at *;generalize B^(i+j)*c=a5 at *;generalize B^i*(f*val (lb.take j))=a6 at *;omega
theorem zgl(l la lb:List Nat)(i n' c:Nat)(hk:i+n'<l.length)(hz:l.getD (i+n') 0=0)(hn:lb.length=n')
 (hinv:val l+B^(i+n')*c=val (la.take i)*val lb+B^i*(la.getD i 0*val (lb.take n'))):val (l.set (i+n') c)=val (la.take (i+1))*val lb:=by
 have h1:=zeG l (i+n') c hk;rw[hz,Nat.mul_zero,Nat.add_zero] at h1;rw[h1,hinv,zag,Nat.add_mul,List.take_of_length_le (l:=lb) (by omega),Nat.mul_assoc]
theorem zfu{x y:Nat}(hl:(digs x).length=(digs y).length)(i:Nat)(hi:i<(digs x).length)
 (habove:∀ j (h:j<(digs x).length) (h':j<(digs y).length),i<j→(digs x)[j]=(digs y)[j])(hlt:(digs x).getD i 0<(digs y).getD i 0):x<y:=by
 have aA:i<(digs y).length:=by omega
 have h:=zec (zaq x) hl i hi habove (by simpa[List.getD,hi,aA] using hlt)
 rwa [zak,zak] at h
theorem zg7{x y:Nat}(hl:(digs x).length=(digs y).length)(h:∀ j (h:j<(digs x).length) (h':j<(digs y).length),(digs x)[j]=(digs y)[j]):x=y:=
 zhL (zdB hl h)
def pad (l:List Nat) (N:Nat):List Nat:=l++List.replicate (N-l.length) 0
theorem zfa (l:List Nat) (N:Nat):val (pad l N)=val l:=by unfold pad;rw[zaQ,za2];simp
theorem zhZ{l:List Nat}{N:Nat}(h:l.length≤N):(pad l N).length=N:=by unfold pad;rw[List.length_append,List.length_replicate];omega
theorem zfm(l:List Nat)(N j:Nat)(h:j<(pad l N).length):(pad l N)[j]=l.getD j 0:=by
 have h':j<(l++List.replicate (N-l.length) 0).length:=h;show(l++List.replicate (N-l.length) 0)[j]'h'=_
 by_cases hj:j<l.length
 ·rw[List.getElem_append_left hj,getD_in hj]
 ·rw[List.getElem_append_right (by omega),zbV (by omega)];simp
theorem zr7{l:List Nat}(h:Wf l)(N:Nat):Wf (pad l N):=h.append (Wf.replicate _)
theorem znP {x y:Nat} (i:Nat) (habove:∀ j,i<j→(digs x).getD j 0=(digs y).getD j 0) (hlt:(digs x).getD i 0<(digs y).getD i 0):x<y:=by
 have hi:i<(digs y).length:=by
  rcases Nat.lt_or_ge i (digs y).length with h | h
  ·exact h
  ·rw[zbV h] at hlt;omega
 obtain⟨N,hN⟩:∃ N,N=max (digs x).length (digs y).length:=⟨_,rfl⟩;have h1:=zhZ (l:=digs x) (N:=N) (by omega);have h2:=zhZ (l:=digs y) (N:=N) (by omega);have h:=zec (x:=pad (digs x) N) (y:=pad (digs y) N) (zr7 (zaq x) N) (by omega) i (by omega) (fun j h h' hj=>by rw[zfm,zfm];exact habove j hj) (by rw[zfm,zfm];exact hlt)
 rwa [zfa,zfa,zak,zak] at h
theorem zqF{x y:Nat}(h:∀ j,(digs x).getD j 0=(digs y).getD j 0):x=y:=by
 obtain⟨N,hN⟩:∃ N,N=max (digs x).length (digs y).length:=⟨_,rfl⟩;have h1:=zhZ (l:=digs x) (N:=N) (by omega);have h2:=zhZ (l:=digs y) (N:=N) (by omega);have e:pad (digs x) N=pad (digs y) N:=zdB (by omega) (fun j h3 h4=>by rw[zfm,zfm];exact h j);have:=congrArg val e
 rwa [zfa,zfa,zak,zak] at this
theorem zcP:∀ (k x:Nat),(digs x).getD k 0=x/B^k%B
 | 0,x=>by
  rcases Nat.eq_zero_or_pos x with rfl | h
  ·simp[zal]
  ·rw[zbm h];simp
 | k+1,x=>by
  rcases Nat.eq_zero_or_pos x with rfl | h
  ·simp[zal]
  ·rw[zbm h,List.getD_cons_succ,zcP k (x/B),Nat.div_div_eq_div_mul,Nat.pow_succ,Nat.mul_comm]
theorem zq5 (x k:Nat):x/B^k=(digs x).getD k 0+B*(x/B^(k+1)):=by
 rw[zcP,Nat.pow_succ,←Nat.div_div_eq_div_mul];exact(Nat.mod_add_div _ _).symm
end Go.Proofs.YtbkgkoenppkhpaaGreatDoor.Dn
namespace Go.Proofs.YtbkgkoenppkhpaaGreatDoor
section
open Go.RowKit Dn
theorem zpy(l la lb:List Nat)(i n' c:Nat)(hk:i+n'<l.length)(hv:val (l.set (i+n') c)=val (la.take (i+1))*val lb)(hwa:Wf la)(hb:val lb≤B^n'):c<B:=by
 have h1:=zay (l.set (i+n') c) (i+n'+1) (by rw[List.length_set];exact hk);rw[zaK l (i+n') c hk] at h1;have h2:val (la.take (i+1))<B^(i+1):=Nat.lt_of_lt_of_le (zbA (hwa.take _)) (Nat.pow_le_pow_right zaS (by rw[List.length_take];omega));have h3:val (la.take (i+1))*val lb≤val (la.take (i+1))*B^n':=Nat.mul_le_mul_left _ hb;have h4:val (la.take (i+1))*B^n'<B^(i+1)*B^n':=Nat.mul_lt_mul_of_pos_right h2 (Nat.pow_pos zaS);have e5:B^(i+n')*B=B^(i+1)*B^n':=by
  rw[←Nat.pow_succ,show(i+n').succ=i+1+n' from by omega,Nat.pow_add]
 have h5:B^(i+n')*c<B^(i+n')*B:=by
  rw[e5];omega
 exact Nat.lt_of_mul_lt_mul_left h5
end
section
open Go.RowKit
def natv (d:Nat):Value := .int .i64 (d:Int)
theorem zoP:∀ l:List Nat,∀ u ∈ l.map natv,u.oneCell'=true:=by
 intro l u hu;obtain⟨d,_,rfl⟩:=List.mem_map.1 hu;rfl
theorem zaA.cellM{α:Type}{w:World}{B n:Nat}{A:Option Addr}{l:List α}{f : α→Value}(h:zaA w B 1 A n (l.map f)){k:Nat}(hk:k<n) :
  ∃ (ad:Addr) (hl:k<l.length),A=some ad∧ad.block<B∧w.cell? (ad.add k)=some (f l[k]):=by
 obtain⟨ad,u,hA,hb,hu,hc⟩:=h.at_ hk;have hl:k<l.length:=by have:=h.1;rw[List.length_map] at this;omega
 rw[List.getElem?_map,List.getElem?_eq_getElem hl] at hu;injection hu with hu
 exact⟨ad,hl,hA,hb,by rw[hc,←hu]⟩
theorem zaA.lenM{α:Type}{w:World}{B n:Nat}{A:Option Addr}{l:List α}{f : α→Value}(h:zaA w B 1 A n (l.map f)):l.length=n:=by
 have:=h.1;rw[List.length_map] at this;omega
theorem zaA.later{w w':World}{size n:Nat}{A:Option Addr}{xs:List Value}(h:zaA w w.heap.size size A n xs)(hb:Below w.heap.size w w'):zaA w' w'.heap.size size A n xs:=(h.below hb).more hb.size
section
variable {α:Type} {f : α→Value} {w w':World} {B B' n:Nat} {A:Option Addr} {rows:List (List α)}
end
theorem zsk {a b:World} {B:Nat} (h:a.grownBy b none) (hB:B≤a.heap.size):Below B a b:=(Below.refl _ _).grown h hB (fun k e=>by cases e)
theorem zmH {w:World} {base g n c size:Nat} {e:TypeId} {xs:List Value} (h:w.ownsRow base e size (.slice (some ⟨g,0,none⟩) n c) n xs):base≤g∧g<w.heap.size:=World.ownsRow.lt h g rfl
theorem zdG {w:World} {base g n c:Nat} {e:TypeId} {xs:List Value} (h:w.ownsRow base e 1 (.slice (some ⟨g,0,none⟩) n c) n xs) (k:Nat) (u:Value) :
  (w.setCell ⟨g,k,none⟩ u).ownsRow base e 1 (.slice (some ⟨g,0,none⟩) n c) n (xs.set k u):=(World.ownsRow.stored h k u).1
theorem zee {w:World} {base g n c:Nat} {e:TypeId} {xs:List Value} (h:w.ownsRow base e 1 (.slice (some ⟨g,0,none⟩) n c) n xs) (k:Nat) (hk:k<n):∃ u,w.cell? ⟨g,k,none⟩=some u:=by
 rw[World.ownsRow.cellAt h k (by omega)];have:=h.1;exact⟨_,List.getElem?_eq_getElem (by omega)⟩
theorem zbG{w:World}{base g n c:Nat}{e:TypeId}{xs:List Value}(h:w.ownsRow base e 1 (.slice (some ⟨g,0,none⟩) n c) n xs)(k:Nat):w.frozen? ⟨g,k,none⟩=false:=World.ownsRow.frozenAt h k
def CBlk (w:World) (g:Nat) (c:Array Value) (t:TypeId):Prop:=w.heap[g]? = some (.cells c t (0,0))
section
variable {w w':World} {g B:Nat} {c:Array Value} {t:TypeId}
theorem CBlk.new (w:World) (c:Array Value) (t:TypeId) (g:Nat) (hg:g=w.heap.size):CBlk (w.alloc (.cells c t)) g c t:=by subst hg;exact heap_alloc_new w _
theorem CBlk.below(h:CBlk w g c t)(hb:Below B w w')(hg:g<B):CBlk w' g c t:=(hb.block g hg).trans h
theorem CBlk.grown {row:Option Nat} (h:CBlk w g c t) (hb:w.grownBy w' row) (hg:g<w.heap.size) (hr:row≠some g):CBlk w' g c t:=(hb.block g hg (fun e=>hr e.symm)).trans h
theorem CBlk.cell (h:CBlk w g c t) (i:Nat):w.cell? ⟨g,i,none⟩=c[i]? := cell_of_row w g i _ _ _ h
theorem CBlk.frozen (h:CBlk w g c t) (i:Nat):w.frozen? ⟨g,i,none⟩=false:=by
 unfold CBlk at h;simp[World.frozen?,h]
theorem CBlk.lt(h:CBlk w g c t):g<w.heap.size:=by
 unfold CBlk at h
 rcases Nat.lt_or_ge g w.heap.size with aC | aA
 ·exact aC
 ·rw[Array.getElem?_eq_none aA] at h;cases h
theorem CBlk.set0{v u:Value}(h:CBlk w g #[v] t):CBlk (w.setCell ⟨g,0,none⟩ u) g #[u] t:=heap_setCell_same w g 0 #[v] t u h
end
theorem zcF {w:World} {base size n:Nat} {e:TypeId} {v:Value} {xs:List Value} (h:w.ownsRow base e size v n xs):∃ A c,v = .slice A n c∧n≤c∧c≤maxLen∧zaA w w.heap.size size A n xs:=by
 rcases h.2 with⟨rfl,rfl⟩ | ⟨g,aD,aF,rfl,hb,hg,aC,aE,aG,aA⟩
 ·exact⟨none,0,rfl,Nat.le_refl _,by unfold maxLen;omega,h.1,fun h0=>absurd h0 (by omega)⟩
 ·exact⟨some ⟨g,0,none⟩,aD,rfl,aC,aE,zaA.of_own h⟩
theorem zi1{w:World}{base size n g:Nat}{e:TypeId}{xs:List Value}(h:w.heap[g]? = some (.cells xs.toArray e (0,0)))(hb:base≤g)(hn:n≤maxLen)(hl:xs.length=n*size):w.ownsRow base e size (.slice (some ⟨g,0,none⟩) n n) n xs:=
 ⟨hl,.inr ⟨g,n,xs.toArray,rfl,hb,h,Nat.le_refl _,hn,by simpa using hl,by rw[List.take_of_length_le (by simp;omega)]⟩⟩
end
section
open Go.RowKit Dn
theorem zfx (l:List Nat) (k x:Nat) (hk:k<l.length):val ((l.set k x).drop k)=x+B*val (l.drop (k+1)):=by
 have h1:(l.set k x).drop k=x :: (l.set k x).drop (k+1):=by
  rw[List.drop_eq_getElem_cons (by simpa using hk)];simp
 rw[h1,val_cons,List.drop_set_of_lt (by omega)]
theorem zaA.cellsD{w:World}{B n:Nat}{a:Addr}{xs:List Value}(h:zaA w B 1 (some a) n xs):∀ j u,xs[j]? = some u→w.cell? (a.add j)=some u:=by
 intro j u hu;have hl:=h.1;have hj:j<xs.length:=by
  rcases Nat.lt_or_ge j xs.length with h1 | h1
  ·exact h1
  ·rw[List.getElem?_eq_none h1] at hu;cases hu
 obtain⟨ad,e,_,hc⟩:=h.2 (by omega);injection e with e
 subst e;exact hc j u hu
theorem zkE{w:World}{base size n:Nat}{e:TypeId}{v:Value}{xs:List Value}(h:w.ownsRow base e size v n xs)(hn:0<n):∃ g c,v = .slice (some ⟨g,0,none⟩) n c∧base≤g:=by
 rcases h.2 with⟨rfl,h0⟩ | ⟨g,aA,aC,rfl,hb,_⟩
 ·omega
 ·exact⟨g,aA,rfl,hb⟩
theorem zpN(neg:Bool)(x y:Nat)(hy:0<y):lowQ neg x y=⟨neg && !decide (x/Nat.gcd x y=0),x/Nat.gcd x y,y/Nat.gcd x y⟩:=by
 unfold lowQ;rw[if_neg (by omega)]
 by_cases hx:x=0
 ·subst hx
  rw[if_pos rfl,Nat.gcd_zero_left,Nat.zero_div,Nat.div_self hy];simp
 ·rw[if_neg hx]
  have h1:0<x/Nat.gcd x y:=Nat.div_pos (Nat.gcd_le_left _ (by omega)) (Nat.gcd_pos_of_pos_right _ hy);have h2:decide (x/Nat.gcd x y=0)=false:=decide_eq_false (Nat.ne_of_gt h1);rw[h2];simp
theorem zqc:B=10^9:=by decide
theorem zeq(l:List UInt8)(h:zar l=true)(a b:Nat):zar ((l.drop a).take b)=true:=by
 unfold zar at *;rw[List.all_eq_true] at *;intro x hx;exact h x (List.mem_of_mem_drop (List.mem_of_mem_take hx))
theorem zg2(l:List UInt8)(ws:List Nat)(e d:Nat)(hd:d≤e)(_he:e≤l.length)(hk:l.length-e=9*ws.length)(hv:val ws=zaj (l.drop e)) :
  val (ws++[zaj ((l.drop d).take (e-d))])=zaj (l.drop d):=by
 have h1:l.drop d=(l.drop d).take (e-d)++l.drop e:=by
  have h:=(List.take_append_drop (e-d) (l.drop d)).symm;rw[List.drop_drop] at h;rw[show d+(e-d)=e from by omega] at h;exact h
 have h2:=zcA ((l.drop d).take (e-d)) (l.drop e);rw[←h1,List.length_drop,hk] at h2;rw[zaQ,zaX,hv,h2,zqc,←Nat.pow_mul,Nat.mul_comm (10^(9*ws.length))];omega
theorem zb9(s:ByteArray)(d e:Nat):(s.extract d e).data.toList=(s.data.toList.drop d).take (e-d):=by
 rw[ByteArray.data_extract,Array.toList_extract]
theorem zny{w w':World}{base size n:Nat}{e:TypeId}{v:Value}{xs:List Value}(h:w.ownsRow base e size v n xs)(hb:Below w.heap.size w w'):w'.ownsRow base e size v n xs:=
 h.kept (ze7 hb none) (by cases v.ownBlock<;>simp)
theorem zpx:B=10^9:=by decide
theorem zm2(x q:Nat)(h:0<x/B^(q+1)):Lib.decDigits (x/B^q)=Lib.decDigits (x/B^(q+1))++Dec.pad 9 (x/B^q%B):=by
 have h1:=zq5 x q;rw[zcP] at h1;have h2:x/B^q%B<10^9:=by rw[←zpx];exact Nat.mod_lt _ zaS
 have h3:=Dec.dec_append 9 (x/B^(q+1)) (x/B^q%B) h h2;rw[←zpx,show x/B^(q+1)*B+x/B^q%B=x/B^q by rw[Nat.mul_comm];omega] at h3;exact h3
theorem zkP{x n:Nat}(hn:0<n)(h:x<B^n)(j:Nat):(Lib.decDigits (x/B^j)).length≤9*n:=by
 refine Dec.dec_length_le (by omega) (Nat.lt_of_le_of_lt (Nat.div_le_self _ _) ?_)
 rwa [zpx,←Nat.pow_mul] at h
end
end Go.Proofs.YtbkgkoenppkhpaaGreatDoor
namespace Go.Proofs.YtbkgkoenppkhpaaGreatDoor.Flt
open Ieee
def fin (f:Format) (b:Nat):Bool:=match f.read b with | .number .. => true | _=>false
def key (f:Format) (b:Nat):Int:=match f.read b with | .number s m e=>signed s m (e-f.leastPlace).toNat | _=>0
theorem zhd{f:Format}{b:Nat}{s:Bool}{m:Nat}{e:Int}(h:f.read b = .number s m e):f.leastPlace≤e:=by
 unfold Format.read at h
 dsimp only at h
 split at h
 ·injection h with _ _ h;omega
 ·split at h
  ·injection h with _ _ h;omega
  ·split at h<;>cases h
theorem zho(s:Bool)(m a k:Nat):signed s m (a+k)=signed s m a*((2^k:Nat):Int):=by
 unfold signed;simp only[Nat.shiftLeft_eq,Nat.pow_add]
 split
 ·rw[Int.neg_mul,←Int.natCast_mul,Nat.mul_assoc]
 ·rw[←Int.natCast_mul,Nat.mul_assoc]
theorem zda{a b:Int}(h:a<b):compare a b = .lt:=by unfold compare;simp[instOrdInt,compareOfLessAndEq,h]
theorem zd3(a:Int):compare a a = .eq:=by unfold compare;simp[instOrdInt,compareOfLessAndEq]
theorem zdR{a b:Int}(h:b<a):compare a b = .gt:=by unfold compare;simp[instOrdInt,compareOfLessAndEq,show ¬ a<b from by omega,show ¬ a=b from by omega]
theorem zjE(a b:Int){k:Nat}(hk:0<k):compare (a*(k:Int)) (b*(k:Int))=compare a b:=by
 have aA:(0:Int)<(k:Int):=by omega
 rcases Int.lt_trichotomy a b with h | h | h
 ·have h1:a*(k:Int)<b*(k:Int):=Int.mul_lt_mul_of_pos_right h aA
  rw[zda h,zda h1]
 ·subst h;simp
 ·have h1:b*(k:Int)<a*(k:Int):=Int.mul_lt_mul_of_pos_right h aA
  rw[zdR h,zdR h1]
theorem zba{f:Format}{x y:Nat}(hx:fin f x=true)(hy:fin f y=true):f.order x y=some (compare (key f x) (key f y)):=by
 unfold fin at hx hy;unfold key Format.order
 split at hx
 ·rename_i s m i h1
  split at hy
  ·rename_i t n j h2
   have p1:=zhd h1;have p2:=zhd h2;rw[h1,h2];simp only[Datum.order]
   have e1:(i-f.leastPlace).toNat=(i-min i j).toNat+(min i j-f.leastPlace).toNat:=by omega
   have e2:(j-f.leastPlace).toNat=(j-min i j).toNat+(min i j-f.leastPlace).toNat:=by omega
   rw[e1,e2,zho,zho,zjE _ _ (Nat.two_pow_pos _)]
  ·cases hy
 ·cases hx
section
variable {x y:Nat} (hx:fin single x=true) (hy:fin single y=true)
include hx hy
end
theorem zdQ(n k:Nat)(hn:0<n):(n*2^k).log2=n.log2+k:=by
 have h1:=(Nat.le_log2 (n:=n) (k:=n.log2) (by omega)).1 (Nat.le_refl _);have h2:=(Nat.log2_lt (n:=n) (k:=n.log2+1) (by omega)).1 (by omega);have hp:0<n*2^k:=Nat.mul_pos hn (Nat.two_pow_pos _);have a1:n.log2+k≤(n*2^k).log2:=(Nat.le_log2 (by omega)).2 (by rw[Nat.pow_add];exact Nat.mul_le_mul_right _ h1);have a2:(n*2^k).log2<n.log2+1+k:=(Nat.log2_lt (by omega)).2 (by rw[Nat.pow_add];exact Nat.mul_lt_mul_of_pos_right h2 (Nat.two_pow_pos _));omega
theorem zoj{n k:Nat}(h1:2^k≤n)(h2:n<2^(k+1)):n.log2=k:=by
 have hn:0<n:=Nat.lt_of_lt_of_le (Nat.two_pow_pos _) h1;have a1:=(Nat.le_log2 (n:=n) (k:=k) (by omega)).2 h1;have a2:=(Nat.log2_lt (n:=n) (k:=k+1) (by omega)).2 h2;omega
theorem ziD(s:Bool)(n d:Nat):Toward.even.cut s (n*2^d) d=n:=by
 unfold Toward.cut
 rcases Nat.eq_zero_or_pos n with rfl | hn
 ·simp[Nat.shiftLeft_eq]
 ·have e:min d ((n*2^d).log2+2)=d:=by rw[zdQ n d hn];omega
  have hp:=Nat.two_pow_pos d;simp only[e,Nat.shiftLeft_eq,Nat.one_mul,Nat.mul_mod_left,Nat.mul_div_cancel _ hp]
  have h1:¬ 2^d<2*0:=by omega
  have h2:(2^d==2*0)=false:=by simp;
  simp[h1,h2]
theorem zfA(f:Format)(s:Bool)(m k:Nat)(p:Int)(hm:0<m)(hl:max (p+k+m.log2-f.fractionBits) f.leastPlace=p+k)(hr:(p+k-f.leastPlace).toNat*f.binade+m≤f.infRung) :
  f.nearest s (m*2^k) p=f.word s ((p+k-f.leastPlace).toNat*f.binade+m):=by
 unfold Format.nearest;have hp:0<m*2^k:=Nat.mul_pos hm (Nat.two_pow_pos _);rw[if_neg (by omega)];have e1:max (p+((m*2^k).log2:Nat)-f.fractionBits) f.leastPlace=p+k:=by
  rw[zdQ m k hm,←hl];congr 1;push_cast;omega
 simp only[e1]
 have e2:(p-(p+(k:Int))).toNat=0:=by omega
 have e3:(p+(k:Int)-p).toNat=k:=by omega
 rw[e2,e3,Nat.shiftLeft_zero,ziD,Nat.min_eq_left hr]
theorem zeo(f:Format)(s:Bool)(m k:Nat)(p:Int)(hm:0<m)(hl:max (p+m.log2-f.fractionBits) f.leastPlace=p-k)(hr:(p-k-f.leastPlace).toNat*f.binade+m*2^k≤f.infRung) :
  f.nearest s m p=f.word s ((p-k-f.leastPlace).toNat*f.binade+m*2^k):=by
 unfold Format.nearest;rw[if_neg (by omega)];simp only[hl]
 have e2:(p-(p-(k:Int))).toNat=k:=by omega
 have e3:(p-(k:Int)-p).toNat=0:=by omega
 have e4:=ziD s (m*2^k) 0;rw[Nat.pow_zero,Nat.mul_one] at e4;rw[e2,e3,Nat.shiftLeft_eq,e4,Nat.min_eq_left hr]
theorem zbq:double.leastPlace = -1074:=by decide
theorem zbT:double.binade=4503599627370496:=by decide
theorem ze9:double.infRung=9218868437227405312:=by decide
theorem zhH:double.signWeight=9223372036854775808:=by decide
theorem zaI:single.leastPlace = -149:=by decide
theorem za9:single.binade=8388608:=by decide
theorem zdx:single.infRung=2139095040:=by decide
theorem zeh:single.signWeight=2147483648:=by decide
def dw (s:Bool) (m:Nat) (p:Int):Nat:=double.word s ((p+1074).toNat*4503599627370496+m)
structure Nrm (m:Nat) (p:Int):Prop where
 lo:4503599627370496≤m
 hi:m<9007199254740992
 p0 : -1074≤p
 p1:p≤971
theorem Nrm.log2{m:Nat}{p:Int}(h:Nrm m p):m.log2=52:=by
 have e:(2:Nat)^52=4503599627370496:=by decide
 have e':(2:Nat)^(52+1)=9007199254740992:=by decide
 have h1:=h.lo;have h2:=h.hi;rw[←e] at h1;rw[←e'] at h2;exact zoj h1 h2
theorem Nrm.rung{m:Nat}{p:Int}(h:Nrm m p):(p+1074).toNat*4503599627370496+m<9218868437227405312:=by
 have:=h.hi;have:=h.p0;have:=h.p1;omega
theorem zcK(s:Bool){m:Nat}{p:Int}(h:Nrm m p):double.read (dw s m p) = .number s m p:=by
 have hr:=h.rung;have aC:=h.lo;have aA:=h.hi;have hp:=h.p0;unfold dw Format.word Format.read;rw[zhH,zbT,ze9,zbq];generalize hR:(p+1074).toNat*4503599627370496+m=R at hr;have e1:(if s=true then 9223372036854775808+R else R)%9223372036854775808=R:=by split<;>omega
 have e2:((if s=true then 9223372036854775808+R else R)/9223372036854775808%2==1)=s:=by
  cases s
  ·simp;omega
  ·simp;omega
 simp only[e1,e2]
 rw[if_neg (by omega),if_pos hr]
 congr 1
 ·omega
 ·have:R/4503599627370496-1=(p+1074).toNat:=by omega
  rw[this];omega
theorem zic(s:Bool){m:Nat}(k:Nat){p q:Int}(h:Nrm m q)(hq:p+k=q):double.write (.number s (m*2^k) p)=dw s m q:=by
 have hr:=h.rung;have aA:=h.lo;have hp:=h.p0;subst hq;show double.nearest s (m*2^k) p=_
 rw[zfA double s m k p (by omega) (by rw[h.log2,zbq];show max (p+k+((52:Nat):Int)-((52:Nat):Int)) (-1074)=p+k;omega) (by rw[zbq,zbT,ze9];rw[show p+(k:Int) - -1074=p+k+1074 from by omega];omega)];unfold dw;rw[zbq,zbT,show p+(k:Int) - -1074=p+k+1074 from by omega]
theorem one_mul(s:Bool){m:Nat}{p:Int}(h:Nrm m p):floatBits .mul .f64 4607182418800017408 (dw s m p)=some (dw s m p):=by
 show(((double.read 4607182418800017408).product (double.read (dw s m p))).map double.write)=_
 have e1:double.read 4607182418800017408 = .number false 4503599627370496 (-52):=by decide +kernel
 rw[e1,zcK s h];show some (double.write (.number (false ^^ s) (4503599627370496*m) (-52+p)))=_
 have e2:4503599627370496*m=m*2^52:=by rw[Nat.mul_comm]
 rw[e2,zic (false ^^ s) 52 h (by omega)];simp
theorem zo5{m:Nat}{p:Int}(h:Nrm m p):floatBits .sub .f64 0 (dw false m p)=some (dw true m p):=by
 show(((double.read 0).sum (double.read (dw false m p)).opposite).map double.write)=_
 have e1:double.read 0 = .number false 0 (-1074):=by decide +kernel
 have hp:=h.p0;have aC:=h.lo;rw[e1,zcK false h];have e2:min (-1074) p = -1074:=by omega
 have e3:(Ieee.signed false 0 (-1074 - -1074:Int).toNat+Ieee.signed true m (p - -1074).toNat) = -((m*2^(p+1074).toNat:Nat):Int):=by
  unfold Ieee.signed;rw[Nat.shiftLeft_eq,Nat.shiftLeft_eq,show p - -1074=p+1074 from by omega];simp
 have aA:0<m*2^(p+1074).toNat:=Nat.mul_pos (by omega) (Nat.two_pow_pos _);show(some (double.write _))=_
 simp only[e2,Bool.not_false,e3]
 generalize hM:m*2^(p+1074).toNat=M at aA;have e4:(-(M:Int))≠0:=by omega
 have e5 : -(M:Int)<0:=by omega
 have e6:(-(M:Int)).natAbs=M:=by omega
 rw[if_neg e4,e6,decide_eq_true e5];rw[←hM,zic true _ h (by omega)]
theorem zhO:floatBits .sub .f64 0 0=some 0:=by decide +kernel
def sg (n:Nat):Nat:=n*2^(52-n.log2)
theorem zeY{n:Nat}{e:Int}(h0:0<n)(h1:n<9007199254740992)(he : -1022≤e+n.log2)(he2:e+n.log2≤1023):Nrm (sg n) (e+n.log2-52):=by
 have a1:=(Nat.le_log2 (n:=n) (k:=n.log2) (by omega)).1 (Nat.le_refl _);have a2:=(Nat.log2_lt (n:=n) (k:=n.log2+1) (by omega)).1 (by omega);have aC:(2:Nat)^53=9007199254740992:=by decide
 have a3:n.log2<53:=(Nat.log2_lt (by omega)).2 (by omega);have aA:(2:Nat)^52=4503599627370496:=by decide
 refine⟨?_,?_,by omega,by omega⟩
 ·rw[←aA,show 52=n.log2+(52-n.log2) from by omega,Nat.pow_add]
  exact Nat.mul_le_mul_right _ (by simpa using a1)
 ·rw[←aC,show 53=n.log2+1+(52-n.log2) from by omega,Nat.pow_add]
  exact Nat.mul_lt_mul_of_pos_right a2 (Nat.two_pow_pos _)
def dn (n:Nat) (e:Int):Nat:=dw false (sg n) (e+n.log2-52)
theorem zph{n:Nat}{e:Int}(h0:0<n)(h1:n<9007199254740992)(he : -1022≤e+n.log2)(he2:e+n.log2≤1023):double.write (.number false n e)=dn n e:=by
 have hn:=zeY h0 h1 he he2;have hr:=hn.rung;have aA:(2:Nat)^53=9007199254740992:=by decide
 have a3:n.log2<53:=(Nat.log2_lt (by omega)).2 (by omega);show double.nearest false n e=_
 rw[zeo double false n (52-n.log2) e h0 (by rw[zbq];show max (e+(n.log2:Int)-((52:Nat):Int)) (-1074)=_;omega) (by rw[zbq,zbT,ze9,show e-((52-n.log2:Nat):Int) - -1074=e+n.log2-52+1074 from by omega];exact Nat.le_of_lt hr)];unfold dn dw sg;rw[zbq,zbT,show e-((52-n.log2:Nat):Int) - -1074=e+n.log2-52+1074 from by omega]
theorem zpT{n:Nat}(h0:0<n)(h1:n<9007199254740992):floatOfInt .f64 (n:Int)=dn n 0:=by
 have aA:(2:Nat)^53=9007199254740992:=by decide
 have a3:n.log2<53:=(Nat.log2_lt (by omega)).2 (by omega);rw[←zph h0 h1 (e:=0) (by omega) (by omega)];unfold floatOfInt FloatKind.nearest FloatKind.encode;simp[show ¬ (n:Int)<0 from by omega]
 rfl
theorem zjr {n:Nat} {e:Int} (h0:0<n) (h1:n<9007199254740992) (he : -1022≤e+n.log2) (he2:e+n.log2≤1023):double.read (dn n e) = .number false (sg n) (e+n.log2-52):=
 zcK false (zeY h0 h1 he he2)
end Go.Proofs.YtbkgkoenppkhpaaGreatDoor.Flt
