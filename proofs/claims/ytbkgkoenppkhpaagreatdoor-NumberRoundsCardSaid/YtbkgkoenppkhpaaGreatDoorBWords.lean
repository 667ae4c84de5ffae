/- Plain mathematics: words to the base 2^64 and their value. No program. -/
import Derived.Test.YtbkgkoenppkhpaaGreatDoorBHd
import Derived.WalkSpells
import Derived.WalkLawsBesides
import Derived.Deep.AppendLies
import Derived.BigQuiet
import Derived.Shelf.Spec.BitsCarry
import Derived.Deep.DeepCutAuto
set_option maxHeartbeats 1000000
namespace Go.Proofs.YtbkgkoenppkhpaaGreatDoor.Bn
def B:Nat:=18446744073709551616
theorem zdC:B=18446744073709551616:=rfl
theorem zaS:0<B:=by decide
theorem zey:1<B:=by decide
def val:List Nat→Nat
 | []=>0
 | x :: xs=>x+B*val xs
def Wf (l:List Nat):Prop:=∀ x ∈ l,x<B
theorem Wf.nil:Wf []:=fun _ h=>by cases h
theorem Wf.cons {x:Nat} {l:List Nat} (h:x<B) (k:Wf l):Wf (x :: l):=by
 intro y hy
 rcases List.mem_cons.1 hy with rfl | hy
 ·exact h
 ·exact k y hy
theorem Wf.replicate(n:Nat):Wf (List.replicate n 0):=fun _ hy=>by rw[(List.mem_replicate.1 hy).2];exact zaS
theorem Wf.head {x:Nat} {l:List Nat} (h:Wf (x :: l)):x<B:=h x (by simp)
theorem Wf.tail {x:Nat} {l:List Nat} (h:Wf (x :: l)):Wf l:=fun y hy=>h y (by simp[hy])
theorem Wf.append {a b:List Nat} (h:Wf a) (k:Wf b):Wf (a++b):=by
 intro y hy
 rcases List.mem_append.1 hy with hy | hy
 ·exact h y hy
 ·exact k y hy
theorem Wf.take{a:List Nat}(h:Wf a)(n:Nat):Wf (a.take n):=fun y hy=>h y (List.mem_of_mem_take hy)
theorem Wf.drop {a:List Nat} (h:Wf a) (n:Nat):Wf (a.drop n):=fun y hy=>h y (List.mem_of_mem_drop hy)
theorem Wf.get {a:List Nat} (h:Wf a) {i:Nat} (hi:i<a.length):a[i]<B:=h _ (List.getElem_mem hi)
theorem Wf.set {a:List Nat} (h:Wf a) (i:Nat) {x:Nat} (hx:x<B):Wf (a.set i x):=by
 intro y hy
 rcases List.mem_or_eq_of_mem_set hy with hy | rfl
 ·exact h y hy
 ·exact hx
@[simp] theorem val_nil:val []=0:=rfl
@[simp] theorem val_cons (x:Nat) (xs:List Nat):val (x :: xs)=x+B*val xs:=rfl
theorem zaQ(a b:List Nat):val (a++b)=val a+B^a.length*val b:=by
 induction a with
 | nil=>simp
 | cons x a ih=>
  simp only[List.cons_append,val_cons,ih,List.length_cons,Nat.pow_succ]
  rw[Nat.mul_add,←Nat.mul_assoc,Nat.mul_comm B (B^a.length),Nat.add_assoc]
theorem zaX(x:Nat):val [x]=x:=by simp
theorem zbA{l:List Nat}(h:Wf l):val l<B^l.length:=by
 induction l with
 | nil=>simp
 | cons x l ih=>
  have h1:=ih h.tail;have h2:=h.head;simp only[val_cons,List.length_cons,Nat.pow_succ]
  have:B*val l+B≤B*B^l.length:=by
   have:B*(val l+1)≤B*B^l.length:=Nat.mul_le_mul_left B h1
   rwa [Nat.mul_add,Nat.mul_one] at this
  rw[Nat.mul_comm (B^l.length) B];omega
theorem zat(l:List Nat)(k:Nat)(h:k<l.length):val (l.take (k+1))=val (l.take k)+B^k*l[k]:=by
 rw[List.take_succ_eq_append_getElem h,zaQ,zaX,List.length_take,Nat.min_eq_left (by omega)]
theorem zay(l:List Nat)(k:Nat)(h:k≤l.length):val l=val (l.take k)+B^k*val (l.drop k):=by
 have h1:=zaQ (l.take k) (l.drop k);rw[List.take_append_drop,List.length_take,Nat.min_eq_left h] at h1;exact h1
theorem za2(n:Nat):val (List.replicate n 0)=0:=by
 induction n with
 | zero=>rfl
 | succ n ih=>simp[List.replicate_succ,ih]
theorem zgp{l:List Nat}(h:∀ x ∈ l,x=0):val l=0:=by
 induction l with
 | nil=>rfl
 | cons x l ih=>
  have:=h x (by simp);simp[this,ih (fun y hy=>h y (by simp[hy]))]
def digs (n:Nat):List Nat:=if n=0 then[] else(n%B) :: digs (n/B)
termination_by n
decreasing_by
 rename_i h
 exact Nat.div_lt_self (by omega) zey
theorem zal:digs 0=[]:=by rw[digs];rfl
theorem zbm{n:Nat}(h:0<n):digs n=(n%B) :: digs (n/B):=by rw[digs,if_neg (by omega)]
theorem zak(n:Nat):val (digs n)=n:=by
 induction n using Nat.strongRecOn with
 | ind n ih=>
  rcases Nat.eq_zero_or_pos n with rfl | h
  ·rw[zal];rfl
  ·rw[zbm h,val_cons,ih _ (Nat.div_lt_self h zey)]
   exact Nat.mod_add_div n B
theorem zaq(n:Nat):Wf (digs n):=by
 induction n using Nat.strongRecOn with
 | ind n ih=>
  rcases Nat.eq_zero_or_pos n with rfl | h
  ·rw[zal];exact Wf.nil
  ·rw[zbm h]
   exact Wf.cons (Nat.mod_lt _ zaS) (ih _ (Nat.div_lt_self h zey))
theorem zcR{n:Nat}(h:0<n):digs n≠[]:=by rw[zbm h];simp
theorem zeD{n:Nat}:digs n=[]↔n=0:=by
 constructor
 ·intro h
  rcases Nat.eq_zero_or_pos n with h0 | h0
  ·exact h0
  ·exact absurd h (zcR h0)
 ·rintro rfl;exact zal
theorem zap{n:Nat}(h:0<n):0<(digs n).length:=List.length_pos_iff.2 (zcR h)
theorem za4 {n:Nat}:(digs n).length=0↔n=0:=by rw[List.length_eq_zero_iff];exact zeD
def Norm (l:List Nat):Prop:=∀ h:0<l.length,l[l.length-1]≠0
theorem zdc(n:Nat):Norm (digs n):=by
 induction n using Nat.strongRecOn with
 | ind n ih=>
  intro h0
  rcases Nat.eq_zero_or_pos n with rfl | h
  ·simp[zal] at h0
  ·have aA:=ih _ (Nat.div_lt_self h zey)
   have e:=zbm h
   rcases Nat.eq_zero_or_pos (n/B) with hq | hq
   ·have e2:digs n=[n%B]:=by rw[e,hq,zal]
    have:n%B≠0:=by
     have:=Nat.mod_add_div n B;rw[hq] at this;omega
    simp only[e2]
    simpa using this
   ·have hl:=zap hq
    have h2:=aA hl;simp only[e,List.length_cons,Nat.add_sub_cancel]
    rw[List.getElem_cons,dif_neg (by omega)];exact h2
theorem zhM{l:List Nat}(hw:Wf l)(hn:Norm l):digs (val l)=l:=by
 induction l with
 | nil=>exact zal
 | cons x l ih=>
  have hx:=hw.head;have aA:0<x+B*val l:=by
   rcases Nat.eq_zero_or_pos l.length with h0 | h0
   ·have:l=[]:=List.eq_nil_of_length_eq_zero h0
    subst this;have:=hn (by simp);simp at this
    omega
   ·have aC:Norm l:=by
     intro h;have:=hn (by simp);simp only[List.length_cons,Nat.add_sub_cancel] at this
     rw[List.getElem_cons,dif_neg (by omega)] at this;exact this
    have e:=ih hw.tail aC;have:val l≠0:=by
     intro hz;rw[hz,zal] at e;subst e;simp at h0
    have:=Nat.mul_pos zaS (Nat.pos_of_ne_zero this);omega
  rw[val_cons,zbm aA];have h1:(x+B*val l)%B=x:=by rw[Nat.add_mul_mod_self_left,Nat.mod_eq_of_lt hx]
  have h2:(x+B*val l)/B=val l:=by rw[Nat.add_mul_div_left _ _ zaS,Nat.div_eq_of_lt hx,Nat.zero_add]
  rw[h1,h2]
  rcases Nat.eq_zero_or_pos l.length with h0 | h0
  ·have:l=[]:=List.eq_nil_of_length_eq_zero h0
   subst this;simp[zal]
  ·rw[ih hw.tail]
   intro h;have:=hn (by simp);simp only[List.length_cons,Nat.add_sub_cancel] at this
   rw[List.getElem_cons,dif_neg (by omega)] at this;exact this
theorem zeX{l:List Nat}(hw:Wf l)(n:Nat)(hn:n≤l.length)(hz:∀ j (h:j<l.length),n≤j→l[j]=0)
 (ht:∀ h:n-1<l.length,0<n→l[n-1]≠0):l.take n=digs (val l):=by
 have h1:val (l.drop n)=0:=by
  apply zgp
  intro x hx;obtain⟨i,hi,rfl⟩:=List.getElem_of_mem hx;rw[List.getElem_drop];exact hz _ _ (by omega)
 rw[zay l n hn,h1,Nat.mul_zero,Nat.add_zero];refine(zhM (hw.take n) ?_).symm;intro h0;rw[List.length_take,Nat.min_eq_left hn] at h0;simp only[List.length_take,Nat.min_eq_left hn,List.getElem_take]
 exact ht (by omega) h0
theorem zab{n k:Nat}(h:n<B^k):(digs n).length≤k:=by
 rcases Nat.eq_zero_or_pos n with rfl | hp
 ·simp[zal]
 ·rcases Nat.lt_or_ge k (digs n).length with hk | hk
  ·exfalso
   have hn:=zdc n (zap hp);have hs:=zay (digs n) ((digs n).length-1) (by omega);rw[zak] at hs;have hd:(digs n).drop ((digs n).length-1)=[(digs n)[(digs n).length-1]]:=by
    rw[List.drop_eq_getElem_cons (by omega)]
    congr 1
    apply List.drop_eq_nil_of_le
    omega
   rw[hd,zaX] at hs;have:B^k≤B^((digs n).length-1):=Nat.pow_le_pow_right zaS (by omega);have h1:1≤(digs n)[(digs n).length-1]:=Nat.pos_of_ne_zero hn;have:=Nat.le_mul_of_pos_right (B^((digs n).length-1)) h1;omega
  ·exact hk
theorem zac(n:Nat):n<B^(digs n).length:=by
 have:=zbA (zaq n)
 rwa [zak] at this
theorem zaG{n:Nat}(h:0<n):B^((digs n).length-1)≤n:=by
 rcases Nat.lt_or_ge n (B^((digs n).length-1)) with hl | hl
 ·have:=zab hl
  have:=zap h;omega
 ·exact hl
theorem zbD{a b:Nat}(h:(digs a).length<(digs b).length):a<b:=by
 have h1:=zac a;have hb:0<b:=by
  rcases Nat.eq_zero_or_pos b with rfl | hb
  ·simp[zal] at h
  ·exact hb
 have h2:=zaG hb;have:B^(digs a).length≤B^((digs b).length-1):=Nat.pow_le_pow_right zaS (by omega);omega
theorem zaa{a b:Nat}(h:a≤b):(digs a).length≤(digs b).length:=by
 rcases Nat.lt_or_ge (digs b).length (digs a).length with hl | hl
 ·have:=zbD hl;omega
 ·exact hl
theorem zec{x y:List Nat}(hx:Wf x)(hl:x.length=y.length)(i:Nat)(hi:i<x.length)
 (habove:∀ j (h:j<x.length) (h':j<y.length),i<j→x[j]=y[j])(hlt:x[i]<y[i]'(by omega)):val x<val y:=by
 have aA:i<y.length:=by omega
 rw[zay x (i+1) (by omega),zay y (i+1) (by omega)];have e:x.drop (i+1)=y.drop (i+1):=by
  apply List.ext_getElem
  ·simp[hl]
  ·intro j h1 h2
   simp only[List.getElem_drop]
   rw[List.length_drop] at h1;exact habove _ (by omega) (by omega) (by omega)
 rw[e,zat x i hi,zat y i aA];have h1:=zbA (hx.take i);rw[List.length_take,Nat.min_eq_left (by omega)] at h1;have h3:B^i*x[i]+B^i≤B^i*y[i]:=by
  have:=Nat.mul_le_mul_left (B^i) hlt
  rwa [Nat.mul_succ] at this
 omega
theorem zdB{x y:List Nat}(hl:x.length=y.length)(h:∀ j (h:j<x.length) (h':j<y.length),x[j]=y[j]):x=y:=
 List.ext_getElem hl fun j h1 h2=>h j h1 h2
theorem zhL {a b:Nat} (h:digs a=digs b):a=b:=by rw[←zak a,h,zak]
theorem zaH{l:List Nat}(h:Wf l)(k:Nat):l.getD k 0<18446744073709551616:=by
 by_cases hk:k<l.length
 ·have:=h.get hk
  have e:l.getD k 0=l[k]:=by simp[List.getD,hk]
  rw[e];exact this
 ·have e:l.getD k 0=0:=by simp[List.getD,Nat.le_of_not_lt hk]
  rw[e];decide
theorem zbV{l:List Nat}{k:Nat}(h:l.length≤k):l.getD k 0=0:=by simp[List.getD,h]
theorem getD_in{l:List Nat}{k:Nat}(h:k<l.length):l.getD k 0=l[k]:=by simp[List.getD,h]
theorem zag(l:List Nat)(k:Nat):val (l.take (k+1))=val (l.take k)+B^k*l.getD k 0:=by
 by_cases hk:k<l.length
 ·rw[getD_in hk,zat l k hk]
 ·rw[zbV (by omega),List.take_of_length_le (by omega),List.take_of_length_le (by omega)];simp
theorem zdr(l:List Nat)(k x:Nat):(l.set k x).take k=l.take k:=by rw[List.take_set_of_le];omega
theorem zaK(l:List Nat)(k x:Nat)(hk:k<l.length):val ((l.set k x).take (k+1))=val (l.take k)+B^k*x:=by
 have h1:=zat (l.set k x) k (by simpa using hk);rw[List.getElem_set_self] at h1;rw[h1,zdr]
theorem ze8(l a b:List Nat)(k:Nat)(hk:k<l.length)(s c0 c1:Nat)
 (hinv:val (l.take k)+B^k*c0=val (a.take k)+val (b.take k))
 (hs:s+B*c1=a.getD k 0+b.getD k 0+c0):val ((l.set k s).take (k+1))+B^(k+1)*c1=val (a.take (k+1))+val (b.take (k+1)):=by
 rw[zaK l k s hk,zag a,zag b,Nat.pow_succ,Nat.mul_assoc];have h3:B^k*s+B^k*(B*c1)=B^k*a.getD k 0+B^k*b.getD k 0+B^k*c0:=by rw[←Nat.mul_add,hs,Nat.mul_add,Nat.mul_add]
 omega
theorem zgA(l a b:List Nat)(k:Nat)(hk:k<l.length)(d b0 b1:Nat)
 (hinv:val (l.take k)+val (b.take k)=val (a.take k)+B^k*b0)
 (hs:d+b.getD k 0+b0=a.getD k 0+B*b1):val ((l.set k d).take (k+1))+val (b.take (k+1))=val (a.take (k+1))+B^(k+1)*b1:=by
 rw[zaK l k d hk,zag a,zag b,Nat.pow_succ,Nat.mul_assoc];have h3:B^k*d+B^k*b.getD k 0+B^k*b0=B^k*a.getD k 0+B^k*(B*b1):=by rw[←Nat.mul_add,←Nat.mul_add,hs,Nat.mul_add]
 omega
theorem minus_end(d y x p b0:Nat)(h:d+y=x+p*b0)(hd:d<p)(hyx:y≤x)(hb:b0≤1):d=x-y:=by
 have:b0=0∨b0=1:=by omega
 rcases this with rfl | rfl
 ·omega
 ·omega
theorem zir(a b:Nat)(ha:a<18446744073709551616)(hb:b<18446744073709551616):a*b≤340282366920938463426481119284349108225:=by
 have h1:a*b≤18446744073709551615*18446744073709551615:=Nat.mul_le_mul (by omega) (by omega);omega
theorem zlf(a b:Nat)(ha:a<18446744073709551616)(hb:b<18446744073709551616):a*b<18446744073709551616*18446744073709551616:=by
 have:=zir a b ha hb;omega
theorem zeG(l:List Nat)(k x:Nat)(hk:k<l.length):val (l.set k x)+B^k*l.getD k 0=val l+B^k*x:=by
 have h1:=zay (l.set k x) (k+1) (by rw[List.length_set];exact hk);have h2:=zay l (k+1) hk;rw[zaK l k x hk] at h1;rw[zag] at h2;have h3:(l.set k x).drop (k+1)=l.drop (k+1):=by rw[List.drop_set_of_lt];omega
 rw[h3] at h1;omega
theorem zaM(l:List Nat)(k j x:Nat)(h:k≠j):(l.set k x).getD j 0=l.getD j 0:=by
 simp only[List.getD]
 rw[List.getElem?_set_ne h]
theorem zc8(l:List Nat)(k x:Nat)(h:k<l.length):(l.set k x).getD k 0=x:=by
 simp only[List.getD]
 rw[List.getElem?_set_self h];rfl
theorem zcJ(n t:Nat):(List.replicate n 0).getD t 0=0:=by
 by_cases h:t<n
 ·simp[List.getD,h]
 ·simp[List.getD,Nat.le_of_not_lt h]
theorem zeC(l lb:List Nat)(i j p f lo hi c:Nat)(hk:i+j<l.length)
 (hinv:val l+B^(i+j)*c=p+B^i*(f*val (lb.take j)))(hs:lo+B*hi=f*lb.getD j 0+l.getD (i+j) 0+c) :
  val (l.set (i+j) lo)+B^(i+(j+1))*hi=p+B^i*(f*val (lb.take (j+1))):=by
 have h1:=zeG l (i+j) lo hk;rw[zag,Nat.mul_add f,Nat.mul_add (B^i)];have h2:B^(i+j)*lo+B^(i+j)*(B*hi)=B^(i+j)*(f*lb.getD j 0)+B^(i+j)*l.getD (i+j) 0+B^(i+j)*c:=by
  rw[←Nat.mul_add,hs,Nat.mul_add,Nat.mul_add]
 have h3:B^(i+(j+1))*hi=B^(i+j)*(B*hi):=by rw[←Nat.add_assoc,Nat.pow_succ,Nat.mul_assoc]
 have h4:B^i*(f*(B^j*lb.getD j 0))=B^(i+j)*(f*lb.getD j 0):=by
  rw[Nat.pow_add,Nat.mul_left_comm f,Nat.mul_assoc]
 rw[h3,h4];generalize B^(i+j)*lo=a1 at *;generalize B^(i+j)*(B*hi)=a2 at *;generalize B^(i+j)*(f*lb.getD j 0)=a3 at *;generalize B^(i+j)*l.getD (i+j) 0=a4 at *;generalize B^(i+j)*c=a5 at *;generalize B^i*(f*val (lb.take j))=a6 at *;omega
theorem zgl(l la lb:List Nat)(i n' c:Nat)(hk:i+n'<l.length)(hz:l.getD (i+n') 0=0)(hn:lb.length=n')
 (hinv:val l+B^(i+n')*c=val (la.take i)*val lb+B^i*(la.getD i 0*val (lb.take n'))):val (l.set (i+n') c)=val (la.take (i+1))*val lb:=by
 have h1:=zeG l (i+n') c hk;rw[hz,Nat.mul_zero,Nat.add_zero] at h1;rw[h1,hinv,zag,Nat.add_mul,List.take_of_length_le (l:=lb) (by omega),Nat.mul_assoc]
def ncmp (x y:Nat):Int:=if x<y then -1 else if x=y then 0 else 1
theorem ncmp_lt{x y:Nat}(h:x<y):ncmp x y = -1:=by simp[ncmp,h]
theorem ncmp_eq(x:Nat):ncmp x x=0:=by simp[ncmp]
theorem ncmp_gt{x y:Nat}(h:y<x):ncmp x y=1:=by
 unfold ncmp;rw[if_neg (by omega),if_neg (by omega)]
theorem zfu{x y:Nat}(hl:(digs x).length=(digs y).length)(i:Nat)(hi:i<(digs x).length)
 (habove:∀ j (h:j<(digs x).length) (h':j<(digs y).length),i<j→(digs x)[j]=(digs y)[j])(hlt:(digs x).getD i 0<(digs y).getD i 0):x<y:=by
 have aA:i<(digs y).length:=by omega
 have h:=zec (zaq x) hl i hi habove (by simpa[List.getD,hi,aA] using hlt)
 rwa [zak,zak] at h
theorem zg7{x y:Nat}(hl:(digs x).length=(digs y).length)(h:∀ j (h:j<(digs x).length) (h':j<(digs y).length),(digs x)[j]=(digs y)[j]):x=y:=
 zhL (zdB hl h)
end Go.Proofs.YtbkgkoenppkhpaaGreatDoor.Bn
namespace Go.Proofs.YtbkgkoenppkhpaaGreatDoor
section
open Go.RowKit
theorem zbe (a:Addr) (n:Nat):(a.add n).block=a.block:=by unfold Addr.add;split<;>rfl
theorem zlz(a:Addr)(i j:Nat):(a.add i).add j=a.add (i+j):=by
 unfold Addr.add
 by_cases hi:i=0<;>by_cases hj:j=0<;>simp[hi,hj,Nat.add_assoc]
def zaA (w:World) (B size:Nat) (A:Option Addr) (n:Nat) (xs:List Value):Prop:=
 xs.length=n*size∧(0<n→∃ ad,A=some ad∧ad.block<B∧∀ j u,xs[j]? = some u→w.cell? (ad.add j)=some u)
section
variable {w w':World} {B B' size n:Nat} {A:Option Addr} {xs:List Value}
theorem zaA.none_:zaA w B size A 0 []:=⟨by simp,fun h=>absurd h (by omega)⟩
theorem zaA.at_{k:Nat}(h:zaA w B 1 A n xs)(hk:k<n):∃ ad u,A=some ad∧ad.block<B∧xs[k]? = some u∧w.cell? (ad.add k)=some u:=by
 obtain⟨ad,e,hb,hc⟩:=h.2 (by omega);have hl:k<xs.length:=by have:=h.1;omega
 exact⟨ad,xs[k],e,hb,List.getElem?_eq_getElem hl,hc k _ (List.getElem?_eq_getElem hl)⟩
theorem zaA.keep(h:zaA w B size A n xs)(hk:∀ p:Addr,p.block<B→w'.cell? p=w.cell? p):zaA w' B size A n xs:=
 ⟨h.1,fun hn=>by
  obtain⟨ad,e,hb,hc⟩:=h.2 hn;exact⟨ad,e,hb,fun j u hu=>(hk _ (by rw[zbe];exact hb)).trans (hc j u hu)⟩⟩
theorem zaA.more (h:zaA w B size A n xs) (hB:B≤B'):zaA w B' size A n xs:=
 ⟨h.1,fun hn=>by
  obtain⟨ad,e,hb,hc⟩:=h.2 hn;exact⟨ad,e,by omega,hc⟩⟩
theorem zaA.below (h:zaA w B size A n xs) (hb:Below B w w'):zaA w' B size A n xs:=h.keep fun _ hp=>hb.cell hp
theorem zaA.drew (h:zaA w B size A n xs):zaA w.drew B size A n xs:=h
theorem zaA.drewN (h:zaA w B size A n xs) (k:Nat):zaA (w.drewN k) B size A n xs:=h
theorem zaA.of_own {base:Nat} {e:TypeId} {c:Nat} (h:w.ownsRow base e size (.slice A n c) n xs):zaA w w.heap.size size A n xs:=by
 refine⟨h.1,fun hn => ?_⟩;obtain⟨g,aC,hv,_,aA⟩:=h.form hn;have hA:A=some ⟨g,0,none⟩:=by injection hv
 subst hA;exact⟨_,rfl,aA,h.cells (g:=g) rfl⟩
theorem zaA.take{m:Nat}(h:zaA w B 1 A n xs)(hm:m≤n):zaA w B 1 A m (xs.take m):=
 ⟨by rw[List.length_take,h.1];omega,fun h0=>by
  obtain⟨ad,e,hb,hc⟩:=h.2 (by omega);refine⟨ad,e,hb,fun j u hu=>hc j u ?_⟩;rw[List.getElem?_take] at hu
  split at hu
  ·exact hu
  ·cases hu⟩
end
theorem zad {B:Nat} {a w:World} (h:Below B a w) (n:Nat):Below B a (w.drewN n):=⟨h.os,h.tape,h.output,h.size,h.block⟩
def u64v (d:Nat):Value := .int .u64 (d:Int)
theorem zoC:∀ l:List Nat,∀ u ∈ l.map u64v,u.oneCell'=true:=by
 intro l u hu;obtain⟨d,_,rfl⟩:=List.mem_map.1 hu;rfl
abbrev zbJ (w:World) (B:Nat) (A:Option Addr) (n:Nat) (l:List Nat):Prop:=zaA w B 1 A n (l.map u64v)
theorem zbJ.len{w:World}{B:Nat}{A:Option Addr}{n:Nat}{l:List Nat}(h:zbJ w B A n l):l.length=n:=by
 have:=h.1;rw[List.length_map] at this;omega
theorem zbJ.word{w:World}{B:Nat}{A:Option Addr}{n:Nat}{l:List Nat}(h:zbJ w B A n l){k:Nat}(hk:k<n) :
  ∃ ad,A=some ad∧ad.block<B∧w.cell? (ad.add k)=some (.int .u64 ((l.getD k 0:Nat):Int)):=by
 obtain⟨ad,e,hb,hc⟩:=h.2 (by omega);have hl:k<l.length:=by rw[h.len];exact hk
 refine⟨ad,e,hb,hc k _ ?_⟩;simp[u64v,List.getD,hl]
theorem zbJ.lit(w:World)(l:List Nat)(t:TypeId):zbJ (w.alloc (.cells (l.map u64v).toArray t)) (w.heap.size+1) (some ⟨w.heap.size,0,none⟩) l.length l:=by
 refine⟨by simp,fun _=>⟨_,rfl,Nat.lt_succ_self _,fun j u hu => ?_⟩⟩;have h:=cell_of_row (w.alloc (.cells (l.map u64v).toArray t)) w.heap.size j (l.map u64v).toArray t (0,0) (heap_alloc_new w _);show World.cell? _ ((⟨w.heap.size,0,none⟩:Addr).add j)=some u
 have e:(⟨w.heap.size,0,none⟩:Addr).add j=⟨w.heap.size,j,none⟩:=by
  unfold Addr.add
  by_cases hj:j=0<;>simp[hj]
 rw[e,h]
 simpa using hu
theorem zct:(Tryz.prog.info? 116).map (fun i=>(i.zero,i.size,i.bytes))=some (some (.int .u64 0),1,8):=by kernel_rfl
structure NatS (w:World) (B:Nat) (A:Option Addr) (n c:Nat) (x:Nat):Prop where
 words:zbJ w B A n (Bn.digs x)
 nc:n≤c
 cm:c≤maxLen
section
variable {w w':World} {B B' n c x:Nat} {A:Option Addr}
theorem NatS.len(h:NatS w B A n c x):(Bn.digs x).length=n:=h.words.len
theorem NatS.below (h:NatS w B A n c x) (hb:Below B w w'):NatS w' B A n c x:=⟨h.words.below hb,h.nc,h.cm⟩
theorem NatS.more (h:NatS w B A n c x) (hB:B≤B'):NatS w B' A n c x:=⟨h.words.more hB,h.nc,h.cm⟩
theorem NatS.later (h:NatS w w.heap.size A n c x) (hb:Below w.heap.size w w'):NatS w' w'.heap.size A n c x:=(h.below hb).more hb.size
end
def zcj (w:World) (x:Nat) (e:Ending) (w':World):Prop:=∃ A m c,e = .returned (.slice A m c)∧NatS w' w'.heap.size A m c x∧Below w.heap.size w w'
theorem zb5 (x y c:Nat) (hx:x<18446744073709551616) (hy:y<18446744073709551616) (hc:c≤1) :
  ∃ s d:Nat,s+18446744073709551616*d=x+y+c∧s<18446744073709551616∧d≤1 ∧
   ∀ w:World,(callFunc 203 #[.int .u64 x,.int .u64 y,.int .u64 c]).run Tryz.prog w = .ok (.value (.tuple #[.int .u64 s,.int .u64 d])) w:=by
 refine⟨(x+y+c)%18446744073709551616,(x+y+c)/18446744073709551616,?_,Nat.mod_lt _ (by omega),by omega,fun w => ?_⟩
 ·have:=Nat.mod_add_div (x+y+c) 18446744073709551616;omega
 ·rw[run_callFunc_extern Tryz.func203 (by kernel_rfl) (by kernel_rfl) (by kernel_rfl) (e:=add64Entry) (by kernel_rfl),run_add64 x y c (by omega) (by omega) (by omega) (by omega)]
  simp only[Result.andThen]
  congr 5<;>omega
theorem zqk(x y b:Nat)(hb:b≤1)(w:World) :
  (callFunc 214 #[.int .u64 x,.int .u64 y,.int .u64 b]).run Tryz.prog w =
   .ok (.value (.tuple #[.int .u64 (((x+18446744073709551616-y-b)%18446744073709551616:Nat):Int),.int .u64 ((if x<y+b then 1 else 0:Nat):Int)])) w:=by
 rw[run_callFunc_extern Tryz.func214 (by kernel_rfl) (by kernel_rfl) (by kernel_rfl) (e:=sub64Entry) (by kernel_rfl),run_sub64 x y b hb];rfl
theorem zfo(x y b:Nat)(hx:x<18446744073709551616)(hy:y<18446744073709551616)(hb:b≤1) :
  ∃ s d:Nat,s+y+b=x+18446744073709551616*d∧s<18446744073709551616∧d≤1 ∧
   ∀ w:World,(callFunc 214 #[.int .u64 x,.int .u64 y,.int .u64 b]).run Tryz.prog w = .ok (.value (.tuple #[.int .u64 s,.int .u64 d])) w:=by
 refine⟨(x+18446744073709551616-y-b)%18446744073709551616,if x<y+b then 1 else 0,?_,Nat.mod_lt _ (by omega),by split<;>omega,fun w=>zqk x y b hb w⟩
 split<;>omega
theorem zf6{P:Program}{f:FuncId}{args:Array Value}{w:World}{a n:Nat}{v:Value}
 (h:Calls P f args (w.drewN (a+n)) fun e w'=>e = .returned v∧∃ m,w'=(w.drewN (a+n)).drewN m) :
  Calls P f args (w.drewN (a+n)) fun e w''=>e = .returned v∧∃ m,w''=w.drewN (a+m):=
 h.mono fun _ _ ⟨he,m,hm⟩=>⟨he,n+m,by rw[hm,World.drewN_drewN,Nat.add_assoc]⟩
theorem zgI {P:Program} {f:FuncId} {args:Array Value} {w:World} {n:Nat} {v:Value}
  (h:Calls P f args (w.drewN n) fun e w'=>e = .returned v∧∃ m,w'=(w.drewN n).drewN m) :
  Calls P f args (w.drewN n) fun e w''=>e = .returned v∧∃ m,w''=w.drewN m:=
 h.mono fun _ _ ⟨he,m,hm⟩=>⟨he,n+m,by rw[hm,World.drewN_drewN]⟩
theorem zbL {P:Program} {f:FuncId} {args:Array Value} {w:World} {a n:Nat} {v:Value}
  (h:Calls P f args (w.drewN (a+n)) fun e w'=>e = .returned v∧w.drewN (a+n)=w') :
  Calls P f args (w.drewN (a+n)) fun e w''=>e = .returned v∧∃ m,w''=w.drewN (a+m):=
 h.mono fun _ _ ⟨he,hm⟩=>⟨he,n,hm.symm⟩
theorem zcD {P:Program} {f:FuncId} {args:Array Value} {w:World} {n:Nat} {v:Value}
  (h:Calls P f args (w.drewN n) fun e w'=>e = .returned v∧w.drewN n=w'):Calls P f args (w.drewN n) fun e w''=>e = .returned v∧∃ m,w''=w.drewN m:=
 h.mono fun _ _ ⟨he,hm⟩=>⟨he,n,hm.symm⟩
end
section
open Go.RowKit Bn
theorem zgL (B:Nat) (A:Option Addr) (n c:Nat) (l:List Nat) (w:World) (hr:zbJ w B A n l) (hw:Wf l) (hnc:n≤c) (hc:c≤maxLen) :
  Calls Tryz.prog 153 #[.slice A n c] w fun e w'=>∃ m,e = .returned (.slice A m c)∧m≤n∧l.take m=digs (val l)∧w=w':=by
 unfold maxLen at hc;have hl:=hr.len;go_enter Tryz.func153,Tryz.ntmps153
 go_wp2
 go_loop [3] (fun s=>∃ k:Nat,k≤n∧s = .int .i64 k∧Hid (∀ j (h:j<l.length),k≤j→l[j]=0)) (fun s=>(intOf s).toNat)
 case atStart=>exact⟨n,Nat.le_refl _,rfl,fun j h h'=>by omega⟩
 case round=>
  obtain⟨k,hk,rfl,hz⟩:=hrel
  by_cases h0:0<k
  ·obtain⟨ad,rfl,hb,aA⟩:=hr.word (k:=k-1) (by omega)
   have aD:k-1<l.length:=by omega
   have aC:l.getD (k-1) 0=l[k-1]:=by simp[List.getD,aD]
   by_cases hx:l[k-1]=0
   ·rw[aC,hx] at aA
    have HX:=Aa hx;clear hx aC;go_wp2
    go_round
    case rel=>
     refine⟨k-1,by omega,by go_num,?_⟩;intro j h hj
     rcases Nat.lt_or_ge j k with h1 | h1
     ·obtain rfl:j=k-1:=by omega
      exact HX.out
     ·exact hz.out j h h1
    case measure=>simp[intOf];omega
   ·rw[aC] at aA
    have HX:=Aa hx;clear hx aC;generalize hg:l[k-1]=x at aA;have aE:(((x:Nat):Int)==0)=false:=by
     have:=HX.out;rw[hg] at this
     rw[beq_eq_false_iff_ne];omega
    have HG:=Aa hg;clear hg;go_wp2
    go_ret;refine⟨k,rfl,hk,?_,rfl⟩;refine zeX hw k (by omega) (fun j h hj=>hz.out j h hj) (fun h _=>HX.out)
  ·go_wp2
   go_ret;refine⟨k,rfl,hk,?_,rfl⟩;exact zeX hw k (by omega) (fun j h hj=>hz.out j h hj) (fun h h1=>absurd h1 h0)
theorem zdt(A:Option Addr)(n c:Nat)(l:List Nat)(w:World)(hr:zbJ w w.heap.size A n l)(hw:Wf l)(hnc:n≤c)(hc:c≤maxLen) :
  Calls Tryz.prog 153 #[.slice A n c] w fun e w'=>∃ m,e = .returned (.slice A m c)∧NatS w w.heap.size A m c (val l)∧w=w':=
 (zgL w.heap.size A n c l w hr hw hnc hc).mono fun e w' ⟨m,he,hm,ht,hww⟩=>⟨m,he,⟨by
  have h:=hr.take hm;rw[←List.map_take,ht] at h;exact h,by omega,hc⟩,hww⟩
theorem zai (x:Int) (w:World) (h0:0≤x) (h1:x<18446744073709551616) :
  Calls Tryz.prog 86 #[.int .u64 x] w (zcj w x.toNat):=by
 obtain⟨n,rfl⟩:=Int.eq_ofNat_of_zero_le h0;have hn:n<18446744073709551616:=by omega
 have hl:=zbJ.lit w [n] 116;have hc:=zdt (some ⟨w.heap.size,0,none⟩) 1 1 [n] (w.alloc (.cells #[.int .u64 n] 116)) (by simpa[u64v] using hl) (Wf.cons hn Wf.nil) (Nat.le_refl _) (by unfold maxLen;omega);go_enter Tryz.func86,Tryz.ntmps86
 go_wp2_with fail
 refine hc.mono ?_;rintro e w1 ⟨m,rfl,aA,rfl⟩;go_wp2
 go_ret;exact⟨_,m,1,rfl,by simpa using aA,(Below.refl _ _).alloc (Nat.le_refl _) _⟩
theorem zcC(A:Option Addr)(n c:Nat)(w:World)(_hn:n≤maxLen) :
  Calls Tryz.prog 154 #[.slice A n c] w fun e w'=>e = .returned (.bool ((n:Int)==0))∧w=w':=by
 unfold maxLen at _hn;go_enter Tryz.func154,Tryz.ntmps154
 go_wp2
 go_ret;exact⟨rfl,rfl⟩
theorem zcZ(b:Bool)(w:World) :
  Calls Tryz.prog 146 #[.bool b] w fun e w'=>e = .returned (.int .i64 (if b then 1 else -1))∧w=w':=by
 cases b
 all_goals
  go_enter Tryz.func146,Tryz.ntmps146
  go_wp2
  go_ret;exact⟨rfl,rfl⟩
theorem zbE(A:Option Addr)(n c x:Nat)(w:World)(h:NatS w w.heap.size A n c x) :
  Calls Tryz.prog 128 #[.slice A n c] w fun e w'=>e = .returned (.bool (decide (x=1)))∧w=w':=by
 have aA:=h.len;have aD:=h.cm;have aE:=h.nc;unfold maxLen at aD
 by_cases h1:n=1
 ·subst h1
  obtain⟨ad,rfl,hb,hc⟩:=h.words.word (k:=0) (by omega);have hx:(digs x).getD 0 0=x:=by
   match hd:digs x,aA with
   | [d],_=>
    have:=zak x;rw[hd] at this
    simpa using this
  rw[hx] at hc;have e0:ad.add 0=ad:=by simp[Addr.add]
  rw[e0] at hc;clear hx aA e0
  by_cases hx1:x=1
  ·subst hx1
   go_enter Tryz.func128,Tryz.ntmps128
   go_wp2
   go_ret;exact⟨rfl,rfl⟩
  ·have aC:(((x:Nat):Int)==1)=false:=by rw[beq_eq_false_iff_ne];omega
   go_enter Tryz.func128,Tryz.ntmps128
   go_wp2
   go_ret;exact⟨by simp[hx1],rfl⟩
 ·have aC:(((n:Nat):Int)==1)=false:=by rw[beq_eq_false_iff_ne];omega
  have hx:x≠1:=by
   rintro rfl;rw[zbm (by omega)] at aA;rw[show 1/B=0 from by decide,zal] at aA;simp at aA
   omega
  clear aA;go_enter Tryz.func128,Tryz.ntmps128
  go_wp2
  go_ret;exact⟨by simp[hx],rfl⟩
def zav (w:World) (base g n c:Nat) (l:List Nat):Prop:=w.ownsRow base 116 1 (.slice (some ⟨g,0,none⟩) n c) n (l.map u64v)
section
variable {w w':World} {base g n c:Nat} {l:List Nat}
theorem zav.len(h:zav w base g n c l):l.length=n:=by
 have:=h.1;rw[List.length_map] at this;omega
theorem zav.cell(h:zav w base g n c l)(k:Nat)(hk:k<n):w.cell? ⟨g,k,none⟩=some (.int .u64 ((l.getD k 0:Nat):Int)):=by
 have hl:k<l.length:=by rw[h.len];exact hk
 rw[World.ownsRow.cellAt h k (by omega)];simp[u64v,List.getD,hl]
theorem zav.free(h:zav w base g n c l)(k:Nat):w.frozen? ⟨g,k,none⟩=false:=World.ownsRow.frozenAt h k
theorem zav.set (h:zav w base g n c l) (k x:Nat):zav (w.setCell ⟨g,k,none⟩ (.int .u64 (x:Int))) base g n c (l.set k x):=by
 have:=(World.ownsRow.stored h k (u64v x)).1;unfold zav;rw[List.map_set];exact this
theorem zav.lt(h:zav w base g n c l):base≤g∧g<w.heap.size:=World.ownsRow.lt h g rfl
theorem zav.words (h:zav w base g n c l):zbJ w w.heap.size (some ⟨g,0,none⟩) n l:=zaA.of_own h
theorem zav.kept {row:Option Nat} (h:zav w base g n c l) (hg:w.grownBy w' row) (hr:row≠some g):zav w' base g n c l:=
 World.ownsRow.kept h hg (.inr (by simpa[Value.ownBlock] using fun e=>hr e.symm))
theorem zav.below (h:zav w base g n c l) (hb:Below w.heap.size w w'):zav w' base g n c l:=
 h.kept (World.grownBy.mk hb.os hb.tape hb.output hb.size (fun i hi _=>hb.block i hi):w.grownBy w' none) (by simp)
theorem zav.drewN (h:zav w base g n c l) (q:Nat):zav (w.drewN q) base g n c l:=h
theorem zav.alloc (h:zav w base g n c l) (o:Obj):zav (w.alloc o) base g n c l:=World.ownsRow.alloc h o
theorem zav.caps (h:zav w base g n c l):n≤c∧c≤maxLen:=by
 rcases h.2 with⟨h',_⟩ | ⟨g',aC,aF,h',hb,hg,aD,aE,aG,aA⟩
 ·simp at h'
 ·simp only[Value.slice.injEq] at h'
  obtain⟨_,_,rfl⟩:=h';exact⟨aD,aE⟩
theorem zav.mono{base':Nat}(h:zav w base g n c l)(hb:base'≤base):zav w base' g n c l:=by
 refine⟨h.1,?_⟩
 rcases h.2 with h' | ⟨g',aA,aC,h',aD,r⟩
 ·exact .inl h'
 ·exact .inr ⟨g',aA,aC,h',by omega,r⟩
theorem zav.take{m:Nat}(h:zav w base g n c l)(hm:m≤n):zav w base g m c (l.take m):=by
 refine⟨by rw[List.length_map,List.length_take,h.len];omega,?_⟩
 rcases h.2 with⟨h',_⟩ | ⟨g',aC,aD,h',hb,hg,aG,aE,aF,aA⟩
 ·simp at h'
 ·simp only[Value.slice.injEq,Option.some.injEq,Addr.mk.injEq,and_true,true_and] at h'
  obtain⟨rfl,rfl⟩:=h';refine .inr ⟨g,c,aD,rfl,hb,hg,by omega,aE,aF,?_⟩;rw[List.map_take,←aA,List.take_take]
  congr 1
  omega
theorem zav.nat{x:Nat}(h:zav w base g n c (digs x)):NatS w w.heap.size (some ⟨g,0,none⟩) n c x:=⟨h.words,h.caps.1,h.caps.2⟩
end
theorem zav.made {w1:World} {base g n:Nat} (h:w1.ownsRow base 116 1 (.slice (some ⟨g,0,none⟩) n n) n (madeCells #[Value.int .u64 0] n).toList) :
  zav w1 base g n n (List.replicate n 0):=by
 unfold zav;rw[List.map_replicate]
 rwa [toList_madeCells_one] at h
theorem zb8(base g n c:Nat)(l:List Nat)(w:World)(hr:zav w base g n c l)(hw:Wf l) :
  Calls Tryz.prog 153 #[.slice (some ⟨g,0,none⟩) n c] w fun e w'=>∃ m,e = .returned (.slice (some ⟨g,0,none⟩) m c)∧zav w base g m c (digs (val l))∧w=w':=
 (zgL w.heap.size _ n c l w hr.words hw hr.caps.1 hr.caps.2).mono fun e w' ⟨m,he,hm,ht,hww⟩=>⟨m,he,by
  have h:=hr.take hm
  rwa [ht] at h,hww⟩
theorem zlU {a w:World} {row:Option Nat} (h:a.grownBy w row) (n:Nat):a.grownBy (w.drewN n) row:=⟨h.os,h.tape,h.output,h.size,h.block⟩
theorem znA {a w:World} {row:Option Nat} (h:a.grownBy w row):a.grownBy w.drew row:=⟨h.os,h.tape,h.output,h.size,h.block⟩
theorem zbf {a w:World} {g:Nat} (h:a.grownBy w (some g)) {p:Addr} (hp:p.block=g∨a.heap.size≤p.block) (u:Value):a.grownBy (w.setCell p u) (some g):=
 ⟨h.os,h.tape,h.output,by simpa[World.setCell] using h.size,fun i hi hne=>(Below.heap_setCell w p u i (by
  rintro rfl
  rcases hp with hp | hp
  ·exact hne (by rw[hp])
  ·omega)).trans (h.block i hi hne)⟩
theorem ze7 {a w:World} (h:Below a.heap.size a w) (row:Option Nat):a.grownBy w row:=⟨h.os,h.tape,h.output,h.size,fun i hi _=>h.block i hi⟩
theorem zg8 {a b c:World} {g:Nat} (h:a.grownBy b (some g)) (k:b.grownBy c (some g)):a.grownBy c (some g):=
 ⟨k.os.trans h.os,k.tape.trans h.tape,k.output.trans h.output,Nat.le_trans h.size k.size,fun i hi hne=>(k.block i (Nat.lt_of_lt_of_le hi h.size) hne).trans (h.block i hi hne)⟩
def Off (A:Option Addr) (g:Nat):Prop:=∀ ad,A=some ad→ad.block≠g
theorem zbJ.kept {w w':World} {B n g:Nat} {A:Option Addr} {l:List Nat} (h:zbJ w B A n l) (hg:w.grownBy w' (some g)) (hB:B≤w.heap.size) (ho:0<n→Off A g):zbJ w' B A n l:=
 ⟨h.1,fun hn=>by
  obtain⟨ad,e,hb,hc⟩:=h.2 hn;refine⟨ad,e,hb,fun j u hu => ?_⟩;rw[←hc j u hu];exact World.cell?_of_block (hg.block (ad.add j).block (by rw[zbe];omega) (by rw[zbe];intro e';exact ho hn ad e (by injection e')))⟩
theorem NatS.kept {w w':World} {n c x g:Nat} {A:Option Addr} (h:NatS w w.heap.size A n c x) (hg:w.grownBy w' (some g)) (ho:0<n→Off A g):NatS w' w'.heap.size A n c x:=
 ⟨(h.words.kept hg (Nat.le_refl _) ho).more hg.size,h.nc,h.cm⟩
theorem NatS.off {w:World} {n c x g:Nat} {A:Option Addr} (h:NatS w w.heap.size A n c x) (hg:w.heap.size≤g):0<n→Off A g:=by
 intro h0 ad e he;obtain⟨aA,e',hb,_⟩:=h.words.2 h0;rw[e] at e';injection e' with e'
 subst e';omega
def znI (base x:Nat) (e:Ending) (w':World):Prop:=
 (e = .returned (.slice none 0 0)∧x=0)∨∃ g m c,e = .returned (.slice (some ⟨g,0,none⟩) m c)∧zav w' base g m c (digs x)
theorem NatS.nil(w:World)(B:Nat):NatS w B none 0 0 0:=⟨by rw[zal];exact zaA.none_,Nat.le_refl _,by unfold maxLen;omega⟩
theorem znI.ret {w w':World} {x:Nat} {e:Ending} (h:znI w.heap.size x e w') (hb:Below w.heap.size w w'):zcj w x e w':=by
 rcases h with⟨rfl,rfl⟩ | ⟨g,m,c,rfl,hr⟩
 ·exact⟨none,0,0,rfl,NatS.nil _ _,hb⟩
 ·exact⟨_,m,c,rfl,hr.nat,hb⟩
end
section
open Go.RowKit
def digB (c:Int):Bool:=decide (48≤c) && decide (c≤57)
theorem zgE(c:Int)(w:World) :
  Calls Tryz.prog 181 #[.int .i32 c] w fun e w'=>e = .returned (.bool (digB c))∧w=w':=by
 by_cases h1:48≤c
 ·have d1:decide (48≤c)=true:=by simpa using h1
  obtain⟨b,hb⟩:∃ b,decide (c≤57)=b:=⟨_,rfl⟩;have HV:Hid (digB c=b):=by unfold Hid digB;rw[d1,hb,Bool.true_and]
  go_enter Tryz.func181,Tryz.ntmps181
  go_wp2
  go_ret;exact⟨by rw[HV.out];rfl,rfl⟩
 ·have d1:decide (48≤c)=false:=by simpa using h1
  have HV:Hid (digB c=false):=by unfold Hid digB;rw[d1,Bool.false_and]
  go_enter Tryz.func181,Tryz.ntmps181
  go_wp2
  go_ret;exact⟨by rw[HV.out];rfl,rfl⟩
def zar (l:List UInt8):Bool:=l.all fun c=>digB (c.toNat:Int)
def zaB (l:List UInt8):Bool:=zar l && (decide (l=[48]) || (decide (l≠[]) && decide (l.head? ≠ some 48)))
theorem zsf(s:ByteArray)(pos:Nat)(h:pos<s.size):1≤(Utf8.decode s pos).2:=by
 by_cases ha:(s[pos]'h).toNat<128
 ·rw[decode_ascii s pos h ha]
  exact Nat.le_refl _
 ·exact(decode_high s pos h (by omega)).2
theorem zd0(s:ByteArray)(pos:Nat)(h:pos<s.size):zar (s.data.toList.drop pos)=(digB ((s[pos]'h).toNat:Int) && zar (s.data.toList.drop (pos+1))):=by
 have hl:pos<s.data.toList.length:=by simpa using h
 rw[List.drop_eq_getElem_cons hl];rfl
theorem ziN(c:Int)(h:128≤c):digB c=false:=by
 unfold digB;have:decide (c≤57)=false:=by simp;omega
 rw[this,Bool.and_false]
set_option maxRecDepth 100000 in
theorem zam(s:ByteArray)(w:World) :
  Calls Tryz.prog 125 #[.string s] w fun e w'=>e = .returned (.bool (zaB s.data.toList))∧Below w.heap.size w w':=by
 go_enter Tryz.func125,Tryz.ntmps125
 go_wp2
 go_loopw [] (fun wr=>∃ aC,wr=w.iter s aC∧aC≤s.size∧Hid (zar s.data.toList=zar (s.data.toList.drop aC))) (fun wr=>s.size-wr.iterPos w.heap.size)
 case atStart=>exact⟨0,rfl,Nat.zero_le _,rfl⟩
 case round=>
  obtain⟨aC,rfl,aH,hd⟩:=hrel
  by_cases hp:aC<s.size
  ·have aD:=zd0 s aC hp
   by_cases ha:(s[aC]'hp).toNat<128
   ·have aE:∀ ty,(Instr.next (.pointer (some ⟨w.heap.size,0,none⟩)) true ty).run Tryz.prog (w.iter s aC)=_:=fun ty=>run_next_ascii w s aC ty hp ha
    obtain⟨c,hc⟩:∃ c:Nat,(s[aC]'hp).toNat=c:=⟨_,rfl⟩;rw[hc] at aD ha;simp only[hc] at aE
    have aA:=zgE (c:Int) (w.iter s (aC+1))
    cases hdg:digB (c:Int)
    ·rw[hdg] at aA aD
     have HV:Hid (zaB s.data.toList=false):=by rw[Hid,zaB,hd.out,aD];rfl
     clear aD hc hdg
     go_wp2_with fail
     refine aA.mono ?_;rintro e w1 ⟨rfl,rfl⟩
     go_wp2_with fail
     go_ret;exact⟨by rw[HV.out];rfl,(Below.refl _ _).alloc (Nat.le_refl _) _⟩
    ·rw[hdg] at aA aD
     have HV:Hid (zar s.data.toList=zar (s.data.toList.drop (aC+1))):=by rw[Hid,hd.out,aD];rfl
     clear aD hc hdg
     go_wp2_with fail
     refine aA.mono ?_;rintro e w1 ⟨rfl,rfl⟩
     go_wp2_with fail
     go_roundw
     case rel=>exact⟨aC+1,rfl,hp,HV⟩
     case measure=>simp;omega
   ·have aE:∀ ty,(Instr.next (.pointer (some ⟨w.heap.size,0,none⟩)) true ty).run Tryz.prog (w.iter s aC)=_:=fun ty=>run_next_any w s aC ty hp
    have aG:=(decode_high s aC hp (by omega)).1;obtain⟨c,hc⟩:∃ c,(Utf8.decode s aC).1=c:=⟨_,rfl⟩;obtain⟨p2,aF⟩:∃ p2,aC+(Utf8.decode s aC).2=p2:=⟨_,rfl⟩;simp only[hc,aF] at aE
    rw[hc] at aG;have aA:=zgE (c:Int) (w.iter s p2);rw[ziN (c:Int) (by omega)] at aA;rw[ziN _ (show(128:Int)≤((s[aC]'hp).toNat:Int) by omega)] at aD;have HV:Hid (zaB s.data.toList=false):=by rw[Hid,zaB,hd.out,aD];rfl
    clear aD hc aF ha
    go_wp2_with fail
    refine aA.mono ?_;rintro e w1 ⟨rfl,rfl⟩
    go_wp2_with fail
    go_ret;exact⟨by rw[HV.out];rfl,(Below.refl _ _).alloc (Nat.le_refl _) _⟩
  ·have aE:∀ ty,(Instr.next (.pointer (some ⟨w.heap.size,0,none⟩)) true ty).run Tryz.prog (w.iter s aC)=_:=fun ty=>run_next_end w s aC ty hp
   have HD:Hid (zar s.data.toList=true):=by rw[Hid,hd.out,List.drop_of_length_le (by simpa using hp)];rfl
   by_cases hA:s.toList=[48]
   ·have HV:Hid (zaB s.data.toList=true):=by rw[Hid,zaB,HD.out,←ByteArray.toList_eq,hA];rfl
    go_wp2
    go_ret;exact⟨by rw[HV.out];rfl,(Below.refl _ _).alloc (Nat.le_refl _) _⟩
   ·by_cases hB:s.toList=[]
    ·have HV:Hid (zaB s.data.toList=false):=by rw[Hid,zaB,HD.out,←ByteArray.toList_eq,hB];rfl
     go_wp2
     go_ret;exact⟨by rw[HV.out];rfl,(Below.refl _ _).alloc (Nat.le_refl _) _⟩
    ·have hz:0<s.size:=by
      rcases Nat.eq_zero_or_pos s.size with h | h
      ·exfalso
       apply hB
       rw[ByteArray.toList_eq];exact List.eq_nil_of_length_eq_zero (by simpa using h)
      ·exact h
     have aI:s.toList.isEmpty=false:=by
      cases h:s.toList with
      | nil=>exact absurd h hB
      | cons _ _=>rfl
     have aJ:(s.toList==[48])=false:=by simpa using hA
     obtain⟨b,hb⟩:∃ b,((((s[0]'hz).toNat:Nat):Int) != 48)=b:=⟨_,rfl⟩;have HV:Hid (zaB s.data.toList=b):=by
      rw[Hid,zaB,HD.out,←hb];have e:s.data.toList.head? = some (s[0]'hz):=by
       have hl:0<s.data.toList.length:=by simpa using hz
       rw[List.head?_eq_getElem?,List.getElem?_eq_getElem hl];rfl
      rw[←ByteArray.toList_eq] at e ⊢;rw[e];rw[Bool.eq_iff_iff];simp[hA,hB]
      rw[←UInt8.toNat_inj];simp
      omega
     go_wp2
     go_ret;exact⟨by rw[HV.out];rfl,(Below.refl _ _).alloc (Nat.le_refl _) _⟩
end
end Go.Proofs.YtbkgkoenppkhpaaGreatDoor
