/- Plain facts: how far a number lies from its single; numbers that are singles are their own; differences and doubles of singles. No program. -/
import Derived.Test.YteajibbphcfmeaaGreatDoorTRv1
import Derived.Test.YteajibbphcfmeaaGreatDoorTRb24
import Derived.Test.YteajibbphcfmeaaGreatDoorTEx3
import Derived.Deep.RegionHeld3
import Derived.Test.YteajibbphcfmeaaGreatDoorTDw2
namespace Go.Proofs.YteajibbphcfmeaaGreatDoor
open Go.RowKit Bn Dn
open Flt
theorem near_err {t b:Nat} (hb:0<b):2*(b*near t b)≤2*t+b∧2*t≤2*(b*near t b)+b:=by
 have hd:=Nat.div_add_mod t b
 have hm:=Nat.mod_lt t hb
 unfold near
 generalize t / b=q at *
 generalize t % b=r at *
 split
 ·rename_i h
  rw [Nat.mul_add,Nat.mul_one]
  generalize b*q=X at *
  omega
 ·rename_i h
  generalize b*q=X at *
  omega
theorem flN_err (t b:Nat) (hb:0<b) :
  2*(b*(flN t b*2 ^ (flE t b+149).toNat))≤2*(t*2 ^ 149)+b*2 ^ (flE t b+149).toNat∧2*(t*2 ^ 149)≤2*(b*(flN t b*2 ^ (flE t b+149).toNat))+b*2 ^ (flE t b+149).toNat:=by
 have hp : -149≤flE t b:=(flE_cases t b).2.2
 have he:=near_err (t:=scT t (flE t b)) (scB_pos hb (flE t b))
 unfold flN
 generalize flE t b=e at *
 generalize near (scT t e) (scB b e)=N at *
 unfold scT scB at he
 by_cases h:e<0
 ·rw [if_pos h,if_pos h] at he
  have e1:(2:Nat) ^ 149=2 ^ (-e).toNat*2 ^ (e+149).toNat:=by rw [←Nat.pow_add];congr 1;omega
  rw [e1]
  generalize 2 ^ (-e).toNat=A at *
  generalize 2 ^ (e+149).toNat=P at *
  have m1:=Nat.mul_le_mul_right P he.1
  have m2:=Nat.mul_le_mul_right P he.2
  have i1:2*(b*N)*P=2*(b*(N*P)):=by grind
  have i2:(2*(t*A)+b)*P=2*(t*(A*P))+b*P:=by grind
  have i3:2*(t*A)*P=2*(t*(A*P)):=by grind
  have i4:(2*(b*N)+b)*P=2*(b*(N*P))+b*P:=by grind
  rw [i1,i2] at m1
  rw [i3,i4] at m2
  exact ⟨m1,m2⟩
 ·rw [if_neg h,if_neg h] at he
  have e1:(2:Nat) ^ (e+149).toNat=2 ^ e.toNat*2 ^ 149:=by rw [←Nat.pow_add];congr 1;omega
  rw [e1]
  generalize 2 ^ e.toNat=A at *
  generalize (2:Nat) ^ 149=P at *
  have m1:=Nat.mul_le_mul_right P he.1
  have m2:=Nat.mul_le_mul_right P he.2
  have i1:2*(b*A*N)*P=2*(b*(N*(A*P))):=by grind
  have i2:(2*t+b*A)*P=2*(t*P)+b*(A*P):=by grind
  have i3:2*t*P=2*(t*P):=by grind
  have i4:(2*(b*A*N)+b*A)*P=2*(b*(N*(A*P)))+b*(A*P):=by grind
  rw [i1,i2] at m1
  rw [i3,i4] at m2
  exact ⟨m1,m2⟩
def distU (t b V:Nat):Nat:=(((b*V:Nat):Int) - ((t*2 ^ 149:Nat):Int)).natAbs
def NearU (t b V:Nat):Prop:=(t*2 ^ 126<b→2*distU t b V≤b)∧(b≤t*2 ^ 126→distU t b V*2 ^ 24≤t*2 ^ 149)
theorem step149 (t:Nat):t*2 ^ 149=t*2 ^ 126*8388608:=by
 rw [Nat.mul_assoc]
theorem near_core1 {X Y Z:Nat} (a1:2*X≤2*Y+Z) (a2:2*Y≤2*X+Z):2*((X:Int) - (Y:Int)).natAbs≤Z:=by omega
theorem near_core2 {D b Z Y:Nat} (hs:Y=Z*8388608) (h:2*D≤b):(Z<b→2*D≤b)∧(b≤Z→D*16777216≤Y):=by omega
theorem near_core3 {D b Z Y W:Nat} (hs:Y=Z*8388608) (h:2*D≤W) (h1:W*8388608≤Y) (h2:b≤W) (hb:0<b):(Z<b→2*D≤b)∧(b≤Z→D*16777216≤Y):=by omega
theorem near_own {t b:Nat} (ht:0<t) (hb:0<b):NearU t b (flN t b*2 ^ (flE t b+149).toNat):=by
 obtain ⟨a1,a2⟩:=flN_err t b hb
 have hu:=fun d hd=>(bexp_units ht hb d hd).1
 obtain ⟨c1,c2,c3⟩:=flE_cases t b
 have hs:=step149 t
 have e24:(2:Nat) ^ 24=16777216:=by decide
 unfold NearU distU
 rw [e24]
 have hD:=near_core1 a1 a2
 clear a1 a2
 by_cases hE:flE t b = -149
 ·have h1:(2:Nat) ^ (flE t b+149).toNat=1:=by rw [hE];rfl
  rw [show b*2 ^ (flE t b+149).toNat=b by rw [h1,Nat.mul_one]] at hD
  exact near_core2 hs hD
 ·obtain ⟨j,hj⟩:∃ j:Nat,(j:Int)=flE t b+149:=⟨(flE t b+149).toNat,by omega⟩
  have hb1:=hu (j+23) (by omega)
  have h1:(flE t b+149).toNat=j:=by omega
  rw [h1] at hD
  rw [h1]
  have e23:(2:Nat) ^ (j+23)=2 ^ j*8388608:=by rw [Nat.pow_add]
  rw [e23,←Nat.mul_assoc] at hb1
  exact near_core3 hs hD hb1 (Nat.le_mul_of_pos_right _ (Nat.two_pow_pos _)) hb
theorem nul_key:fin Ieee.single 0=true∧key Ieee.single 0=0:=by decide +kernel
theorem near_zero {b:Nat}:NearU 0 b 0:=by
 unfold NearU distU
 simp
theorem flW_val {p:Q} (hb:0<p.bot) (hx:flX p=0):∃ V:Nat,fin Ieee.single (flW p)=true∧key Ieee.single (flW p)=sgn p.neg V∧NearU p.top p.bot V:=by
 unfold flX at hx
 unfold flW
 by_cases h0:p.top=0
 ·rw [if_pos h0,h0]
  refine ⟨0,nul_key.1,?_,near_zero⟩
  rw [nul_key.2]
  unfold sgn
  split<;>rfl
 ·rw [if_neg h0] at hx ⊢
  have ht:0<p.top:=by omega
  have hn:=near_own ht hb
  have hr:=(flN_rnd ht hb).1
  by_cases h1:flN p.top p.bot=0
  ·rw [if_pos h1]
   refine ⟨0,nul_key.1,?_,?_⟩
   ·rw [nul_key.2]
    unfold sgn
    split<;>rfl
   ·rw [h1,Nat.zero_mul] at hn
    exact hn
  ·rw [if_neg h1] at hx ⊢
   by_cases h2:2139095040≤rung (flN p.top p.bot) (flE p.top p.bot)
   ·rw [if_pos h2] at hx
    omega
   ·rw [if_neg h2]
    obtain ⟨k1,k2⟩:=key_word p.neg hr (by omega)
    exact ⟨_,k1,k2,hn⟩
def topU:Nat:=2 ^ 277
theorem topU_is:8388608*2 ^ 254=topU∧16777216*2 ^ 253=topU:=by decide +kernel
theorem canon24 {n k:Nat} (h0:0<n) (hn:n<16777216) (hlt:n*2 ^ k<topU):∃ (n':Nat) (e':Int),Rnd n' e'∧n'<16777216∧0<n'∧rung n' e'<2139095040∧n'*2 ^ (e'+149).toNat=n*2 ^ k:=by
 have e24:(2:Nat) ^ 24=16777216:=by decide
 have hl:n.log2<24:=(Nat.log2_lt (by omega)).2 (by omega)
 have hm1:2 ^ n.log2≤n:=Nat.log2_self_le (by omega)
 have hm2:n<2 ^ (n.log2+1):=Nat.lt_log2_self
 generalize n.log2=l at *
 obtain ⟨s,hs⟩:∃ s,s=min k (23 - l):=⟨_,rfl⟩
 have hv:n*2 ^ s*2 ^ (k - s)=n*2 ^ k:=by rw [Nat.mul_assoc,←Nat.pow_add];congr 2;omega
 have hx:n*2 ^ s<16777216:=by
  have h1:n*2 ^ s<2 ^ (l+1)*2 ^ s:=Nat.mul_lt_mul_of_pos_right hm2 (Nat.two_pow_pos _)
  have h2:2 ^ (l+1)*2 ^ s≤2 ^ 24:=by rw [←Nat.pow_add];exact Nat.pow_le_pow_right (by omega) (by omega)
  omega
 have hp:0<n*2 ^ s:=Nat.mul_pos h0 (Nat.two_pow_pos _)
 have hc:k - s=0∨8388608≤n*2 ^ s:=by
  by_cases h:k≤23 - l
  ·exact .inl (by omega)
  ·refine .inr ?_
   have e:s=23 - l:=by omega
   have h1:2 ^ l*2 ^ s≤n*2 ^ s:=Nat.mul_le_mul_right _ hm1
   have h2:2 ^ l*2 ^ s=8388608:=by rw [←Nat.pow_add,show l+s=23 by omega]
   omega
 rw [←hv] at hlt ⊢
 clear hv hm1 hm2
 generalize n*2 ^ s=m at *
 generalize k - s=j at *
 have hj:j≤253:=by
  rcases hc with h | h
  ·omega
  ·by_cases h9:j≤253
   ·exact h9
   ·exfalso
    have h1:8388608*2 ^ 254≤m*2 ^ j:=Nat.mul_le_mul h (Nat.pow_le_pow_right (by omega) (by omega))
    have h2:=topU_is.1
    omega
 refine ⟨m,(j:Int) - 149,⟨by omega,by omega,?_⟩,hx,hp,?_,by rw [show ((j:Int) - 149+149).toNat=j by omega]⟩
 ·rcases hc with h | h
  ·exact .inl (by omega)
  ·exact .inr h
 ·unfold rung
  rw [show ((j:Int) - 149+149).toNat=j by omega]
  omega
theorem unit_parts (V:Int):(unitQ V).top*2 ^ 149=V.natAbs*(unitQ V).bot∧(V≠0→(unitQ V).neg=decide (V<0))∧0<(unitQ V).bot:=by
 obtain ⟨h1,_,h3⟩:=unit_val V
 refine ⟨?_,?_,h3⟩
 ·have h:=congrArg Int.natAbs h1
  rw [Int.natAbs_mul,Int.natAbs_mul,sI_abs,Int.natAbs_natCast,Int.natAbs_natCast] at h
  exact h
 ·intro h0
  unfold unitQ
  rw [fracQ_ne (Nat.two_pow_pos _) h0]
theorem flW_exact {V:Int} {n k:Nat} (hn:n<16777216) (hV:V.natAbs=n*2 ^ k) (hlt:V.natAbs<topU):flX (unitQ V)=0∧fin Ieee.single (flW (unitQ V))=true∧key Ieee.single (flW (unitQ V))=V:=by
 obtain ⟨u1,u2,u3⟩:=unit_parts V
 unfold flX flW
 by_cases h0:V=0
 ·subst h0
  have ht:(unitQ 0).top=0:=by
   rw [Int.natAbs_zero,Nat.zero_mul] at u1
   rcases Nat.mul_eq_zero.1 u1 with h | h
   ·exact h
   ·exact absurd h (Nat.ne_of_gt (Nat.two_pow_pos 149))
  rw [if_pos ht,if_pos ht]
  exact ⟨rfl,nul_key.1,nul_key.2⟩
 ·have hA:0<V.natAbs:=by omega
  have hn0:0<n:=by
   rcases Nat.eq_zero_or_pos n with h | h
   ·rw [h,Nat.zero_mul] at hV;omega
   ·exact h
  rw [hV] at hlt
  obtain ⟨n',e',hr,hn2,hn3,hR,hval⟩:=canon24 hn0 hn hlt
  have ht:0<(unitQ V).top:=by
   rcases Nat.eq_zero_or_pos (unitQ V).top with h | h
   ·rw [h,Nat.zero_mul] at u1
    have:=Nat.mul_pos hA u3
    omega
   ·exact h
  have hval2:(unitQ V).bot*(n'*2 ^ (e'+149).toNat)=(unitQ V).top*2 ^ 149:=by rw [hval,←hV,u1,Nat.mul_comm]
  have hu2:=u2 h0
  generalize unitQ V=q at *
  have g1:=rung_le ht u3 hr (Nat.le_of_eq hval2.symm)
  have g2:=rung_ge ht u3 hr (Nat.le_of_eq hval2)
  have hrn:=(flN_rnd ht u3).1
  have hflo:=hrn.lo
  have hlo:=hr.lo
  have hpl:=hrn.place
  have ge:rung (flN q.top q.bot) (flE q.top q.bot)=rung n' e':=by omega
  have hne:flN q.top q.bot≠0:=by
   intro h
   have hpos:0<rung n' e':=by unfold rung;omega
   rw [h] at ge hflo
   have:flE q.top q.bot = -149:=by omega
   rw [this] at ge
   have:rung 0 (-149)=0:=by decide
   omega
  rw [if_neg (by omega),if_neg hne,ge,if_neg (by omega),if_neg (by omega),if_neg hne,if_neg (by omega)]
  obtain ⟨k1,k2⟩:=key_word q.neg hr hR
  refine ⟨rfl,k1,?_⟩
  rw [k2,hu2,hval,←hV]
  by_cases hs:V<0
  ·rw [decide_eq_true hs,if_pos rfl];omega
  ·rw [decide_eq_false hs,if_neg (by decide)];omega
theorem key_form {f:Nat} (h:fin Ieee.single f=true):∃ n k:Nat,n<16777216∧k≤253∧(key Ieee.single f).natAbs=n*2 ^ k:=by
 unfold fin at h
 unfold key
 split at h
 ·rename_i s m e hr
  obtain ⟨h1,h2,h3⟩:=sgl_fin hr
  refine ⟨m,(e - -149).toNat,h1,by omega,?_⟩
  rw [sgl_least]
  unfold Ieee.signed
  rw [Nat.shiftLeft_eq]
  cases s
  ·simp only [Bool.false_eq_true,if_false,Int.natAbs_natCast]
  ·simp only [if_true,Int.natAbs_neg,Int.natAbs_natCast]
 ·cases h
theorem key_lt {f:Nat} (h:fin Ieee.single f=true):(key Ieee.single f).natAbs<topU:=by
 obtain ⟨n,k,h1,h2,h3⟩:=key_form h
 rw [h3]
 have h4:n*2 ^ k<16777216*2 ^ 253:=Nat.mul_lt_mul_of_lt_of_le h1 (Nat.pow_le_pow_right (by omega) h2) (Nat.two_pow_pos _)
 have h5:=topU_is.2
 omega
theorem sterbenz {x y n m j k:Nat} (hx:x=n*2 ^ j) (hy:y=m*2 ^ k) (hn:n<16777216) (hm:m<16777216) (h1:y≤x) (h2:x≤2*y):∃ d i,d<16777216∧x - y=d*2 ^ i:=by
 by_cases hjk:k≤j
 ·obtain ⟨s,rfl⟩:∃ s,j=k+s:=⟨j - k,by omega⟩
  refine ⟨n*2 ^ s - m,k,?_,?_⟩
  ·have hp:=Nat.two_pow_pos k
   have e1:x=n*2 ^ s*2 ^ k:=by rw [hx,Nat.pow_add];grind
   rw [e1,hy] at h2
   have h3:n*2 ^ s≤2*m:=by
    have:n*2 ^ s*2 ^ k≤2*m*2 ^ k:=by rw [Nat.mul_assoc 2];exact h2
    exact Nat.le_of_mul_le_mul_right this hp
   omega
  ·rw [Nat.sub_mul,←hy,hx,Nat.pow_add]
   congr 1
   grind
 ·obtain ⟨s,rfl⟩:∃ s,k=j+s:=⟨k - j,by omega⟩
  refine ⟨n - m*2 ^ s,j,by omega,?_⟩
  rw [Nat.sub_mul,←hx,hy,Nat.pow_add]
  congr 1
  grind
end Go.Proofs.YteajibbphcfmeaaGreatDoor
namespace Go.Proofs.YteajibbphcfmeaaGreatDoor
open Go.RowKit Dn
end Go.Proofs.YteajibbphcfmeaaGreatDoor
namespace Go.Proofs.YteajibbphcfmeaaGreatDoor
open Go.RowKit
theorem cnt_set:∀ (l:List Bool) (i:Nat),l[i]? = some false→(l.set i true).countP (fun b => !b)+1=l.countP (fun b => !b)
 | [],_,h=>by simp at h
 | b :: l,0,h=>by
  simp at h
  subst h
  simp
 | b :: l,i+1,h=>by
  have h2:=cnt_set l i (by simpa using h)
  rw [List.set_cons_succ,List.countP_cons,List.countP_cons]
  omega
theorem cnt_zero:∀ (l:List Bool),l.countP (fun b => !b)=0→∀ (i:Nat) (b:Bool),l[i]? = some b→b=true
 | [],_,i,b,h=>by simp at h
 | c :: l,h0,i,b,h=>by
  rw [List.countP_cons] at h0
  cases i with
  | zero=>
   simp at h
   subst h
   cases c
   ·simp at h0
   ·rfl
  | succ i=>exact cnt_zero l (by omega) i b (by simpa using h)
theorem wpAny_inv {P:Program} {ops:Array Oper} {Q:Exit→Act→World→Prop} (Inv:Array Bool→Act→World→Prop)
  (hstep:∀ (i:Nat) (o:Oper) (listed:Array Bool) (a:Act) (w:World),ops[i]? = some o→Inv listed a w→listed[i]? = some false →
   (∀ e ∈ o.after,Region.binds .any e=true→listed.getD e.on false=true)→wpOp P ops Q i (fun a' w'=>Inv (listed.setIfInBounds i true) a' w') a w)
  (hdone:∀ (listed:Array Bool) (a:Act) (w:World),Inv listed a w→Region.ready .any ops listed=[]→Q .normal a w) :
  ∀ (fuel:Nat) (listed:Array Bool) (a:Act) (w:World),listed.toList.countP (fun b => !b)≤fuel→Inv listed a w→wpAny P .any ops Q fuel listed a w:=by
 have hun:∀ (listed:Array Bool) (i:Nat),listed.getD i true=false→listed[i]? = some false:=by
  intro listed i h
  rw [Array.getD_eq_getD_getElem?] at h
  cases hl:listed[i]? with
  | none=>rw [hl] at h;cases h
  | some b=>rw [hl] at h;simp at h;rw [h]
 intro fuel
 induction fuel with
 | zero=>
  intro listed a w hc hI
  have hr:Region.ready .any ops listed=[]:=by
   cases hq:Region.ready .any ops listed with
   | nil=>rfl
   | cons j l=>
    have hj:j ∈ Region.ready .any ops listed:=by rw [hq];exact List.mem_cons_self
    have h1:=hun listed j (mem_ready.1 hj).1
    have h2:=cnt_zero listed.toList (by omega) j false (by simpa using h1)
    cases h2
  exact ⟨hr,hdone listed a w hI hr⟩
 | succ fuel ih=>
  intro listed a w hc hI
  refine ⟨fun hr=>hdone listed a w hI hr,fun i hi => ?_⟩
  obtain ⟨hu,o,ho,hall⟩:=mem_ready.1 hi
  have h1:=hun listed i hu
  refine wpOp_mono (fun a' w' h=>ih _ a' w' ?_ h) (hstep i o listed a w ho hI h1 hall)
  have h3:=cnt_set listed.toList i (by simpa using h1)
  rw [Array.toList_setIfInBounds]
  omega
theorem all_listed {ops:Array Oper} {listed:Array Bool} (htop:∀ (i:Nat) (o:Oper),ops[i]? = some o→∀ e ∈ o.after,e.on<i) (hr:Region.ready .any ops listed=[]) :
  ∀ (n i:Nat),i<n→i<ops.size→∀ b,listed[i]? = some b→b=true:=by
 intro n
 induction n with
 | zero=>intro i h;omega
 | succ n ih=>
  intro i hi hs b hb
  cases b with
  | true=>rfl
  | false=>
   exfalso
   have hlt:i<listed.size:=(Array.getElem?_eq_some_iff.1 hb).1
   have hm:i ∈ Region.ready .any ops listed:=by
    refine mem_ready.2 ⟨by rw [Array.getD_eq_getD_getElem?,hb];rfl,ops[i],Array.getElem?_eq_getElem hs,fun e he _ => ?_⟩
    have h1:=htop i ops[i] (Array.getElem?_eq_getElem hs) e he
    have h2:listed[e.on]? = some listed[e.on]:=Array.getElem?_eq_getElem (by omega)
    have h3:=ih e.on (by omega) (by omega) _ h2
    rw [Array.getD_eq_getD_getElem?,h2,h3]
    rfl
   rw [hr] at hm
   cases hm
theorem top_of {ops:Array Oper} (h:(List.range ops.size).all (fun i=>((ops[i]?).map (fun o=>o.after.toList.all (fun e=>decide (e.on<i)))).getD true)=true) :
  ∀ (i:Nat) (o:Oper),ops[i]? = some o→∀ e ∈ o.after,e.on<i:=by
 intro i o ho e he
 have hi:i<ops.size:=(Array.getElem?_eq_some_iff.1 ho).1
 have h1:=List.all_eq_true.1 h i (List.mem_range.2 hi)
 rw [ho] at h1
 have h2:=List.all_eq_true.1 h1 e (by simpa using he)
 simpa using h2
theorem wp_region_inv {P:Program} {id:Nat} {ops:Array Oper} {Q:Exit→Act→World→Prop} {a:Act} {w:World} (hm:P.follows .mixedOrders=true) (Inv:Array Bool→Act→World→Prop)
  (htop:(List.range ops.size).all (fun i=>((ops[i]?).map (fun o=>o.after.toList.all (fun e=>decide (e.on<i)))).getD true)=true)
  (h0:Inv (Array.replicate ops.size false) a w.drew)
  (hstep:∀ (i:Nat) (o:Oper) (listed:Array Bool) (a:Act) (w:World),ops[i]? = some o→Inv listed a w→listed[i]? = some false →
   (∀ e ∈ o.after,Region.binds .any e=true→listed.getD e.on false=true)→wpOp P ops Q i (fun a' w'=>Inv (listed.setIfInBounds i true) a' w') a w)
  (hdone:∀ (listed:Array Bool) (a:Act) (w:World),Inv listed a w→(∀ i b,i<ops.size→listed[i]? = some b→b=true)→Q .normal a w) :
  (Code.region id ops true).wp P Q a w:=by
 refine wp_region_any hm (wpAny_inv Inv hstep (fun listed a w hI hr=>hdone listed a w hI fun i b hi hb=>all_listed (top_of htop) hr (i+1) i (by omega) hi b hb) _ _ _ _ ?_ h0)
 rw [Array.toList_replicate]
 exact Nat.le_trans List.countP_le_length (by rw [List.length_replicate];exact Nat.le_refl _)
theorem step_of {P:Program} {ops:Array Oper} {Q:Exit→Act→World→Prop} {Inv:Array Bool→Act→World→Prop} {i:Nat} {o:Oper} {listed:Array Bool} {a:Act} {w:World} (ho:ops[i]? = some o)
  (h:∀ K':Act→World→Prop,Hid (∀ a' w',Inv (listed.setIfInBounds i true) a' w'→K' a' w')→if Region.wanted o (yielded ops a.tmps)=true then Oper.wp P o a w K' Q else K' (a.put o.dst undef) w) :
  wpOp P ops Q i (fun a' w'=>Inv (listed.setIfInBounds i true) a' w') a w:=wpOp_step ho fun K' hK=>h K' (Lib.hid hK)
end Go.Proofs.YteajibbphcfmeaaGreatDoor
namespace Go.Proofs.YteajibbphcfmeaaGreatDoor
open Go.RowKit Dn
def numQ (p:Q):Q:=⟨p.neg,p.top,1⟩
theorem NumQ.top_eq {a:ByteArray} {p:Q} (h:NumQ a p):a.data.toList=sgnT p.neg (Lib.decDigits p.top)++tailT p.bot:=h.num
set_option maxHeartbeats 1000000 in
theorem rNum_q (a:ByteArray) (p:Q) (w:World) (h:NumQ a p) (ha:a.size≤1000000) :
  Calls Tryz.prog 93 #[.string a] w fun e w'=>(∃ s:ByteArray,e = .returned (.string s)∧NumQ s (numQ p)∧s.size≤a.size)∧w=w':=by
 obtain ⟨k,hk⟩:∃ k,k=(sgnT p.neg (Lib.decDigits p.top)).length:=⟨_,rfl⟩
 obtain ⟨p1,p2,p3⟩:=cut_parts (t:=a) (l:=sgnT p.neg (Lib.decDigits p.top)) h.num hk
 have hsv:slashL a.data.toList=k:=by rw [h.top_eq,slashL_tail _ _ (sgnT_slash (digits_dec p.top)),hk]
 have hka:k≤a.size:=by
  have:=slashL_le a.data.toList
  rw [hsv,Array.length_toList] at this
  exact this
 have hsl:=fun W=>rslash_any a W (by omega)
 simp only [hsv] at hsl
 have HSL:=Lib.hid hsl
 have HN:Hid (NumQ (a.extract 0 k) (numQ p)):=by
  refine ⟨?_,Nat.one_pos,Nat.gcd_one_right _,h.2.2.2⟩
  rw [p1,writeS_eq]
  show _=_++(if (1:Nat)=1 then [] else _)
  rw [if_pos rfl,List.append_nil]
  rfl
 have HS:Hid ((a.extract 0 k).size≤a.size):=by show (a.extract 0 k).size≤a.size;rw [ByteArray.size_extract];omega
 clear hsl hsv p1 p2 p3 hk h
 go_enter Tryz.func93,Tryz.ntmps93
 go_wp2_with fail
 refine (HSL.out w).mono ?_
 rintro e w4 ⟨rfl,rfl⟩
 go_wp2
 go_ret
 exact ⟨⟨_,rfl,HN.out,HS.out⟩,rfl⟩
set_option maxHeartbeats 1000000 in
theorem rDen_q (a:ByteArray) (p:Q) (w:World) (h:NumQ a p) (ha:a.size≤1000000) :
  Calls Tryz.prog 94 #[.string a] w fun e w'=>(∃ s:ByteArray,e = .returned (.string s)∧s.size=(Lib.decDigits p.bot).length)∧w=w':=by
 obtain ⟨k,hk⟩:∃ k,k=(sgnT p.neg (Lib.decDigits p.top)).length:=⟨_,rfl⟩
 obtain ⟨p1,p2,p3⟩:=cut_parts (t:=a) (l:=sgnT p.neg (Lib.decDigits p.top)) h.num hk
 have hsv:slashL a.data.toList=k:=by rw [h.top_eq,slashL_tail _ _ (sgnT_slash (digits_dec p.top)),hk]
 have hsl:=fun W=>rslash_any a W (by omega)
 simp only [hsv] at hsl
 have HSL:=Lib.hid hsl
 by_cases hy:p.bot=1
 ·have hak:=p2 hy
  have dk:((k:Int)==(a.size:Int))=true:=by rw [beq_iff_eq];omega
  have HR:Hid ((⟨#[49]⟩:ByteArray).size=(Lib.decDigits p.bot).length):=by show _=_;rw [hy,Dec.dec_lt (by omega)];rfl
  clear hsl hsv p1 p2 p3 hk h hak hy
  go_enter Tryz.func94,Tryz.ntmps94
  go_wp2_with fail
  refine (HSL.out w).mono ?_
  rintro e w4 ⟨rfl,rfl⟩
  go_wp2
  go_ret
  exact ⟨⟨_,rfl,HR.out⟩,rfl⟩
 ·obtain ⟨hka,hext,hsz⟩:=p3 hy
  have dk:((k:Int)==(a.size:Int))=false:=by rw [beq_eq_false_iff_ne];omega
  obtain ⟨kk,hkk⟩:∃ kk,kk=k+1:=⟨_,rfl⟩
  have ew:IntKind.i64.wrap ((k:Int)+1)=(kk:Int):=by rw [IntWalk.i64_in _ (by omega)];omega
  have hk0:(0:Int)≤(kk:Int)∧(kk:Int)≤(a.size:Int):=by omega
  have HR:Hid ((a.extract kk a.size).size=(Lib.decDigits p.bot).length):=by
   show _=_
   rw [hkk,←hext,Array.length_toList]
   rfl
  clear hsl hsv p1 p2 p3 hk h hext hsz hy hkk
  go_enter Tryz.func94,Tryz.ntmps94
  go_wp2_with fail
  refine (HSL.out w).mono ?_
  rintro e w4 ⟨rfl,rfl⟩
  go_wp2
  go_ret
  exact ⟨⟨_,rfl,HR.out⟩,rfl⟩
def FewK (k:Nat) (s:ByteArray):Prop:=readE s.data.toList=0∧Small (readQ s.data.toList) k∧s.size≤2*k+2
def FewKIs (k:Nat) (s:ByteArray) (b:Bool):Prop:=∀ W,Calls Tryz.prog 36 #[.string s,.int .i64 (k:Int)] W fun e w'=>e = .returned (.bool b)∧Below W.heap.size W w'
theorem fewK_wraps {k:Nat} (hk:k≤1000):∃ K2 L:Nat,K2=2*k∧L=2*k+2∧wrap64 (2*(k:Int))=(K2:Int)∧wrap64 ((K2:Int)+2)=(L:Int):=⟨2*k,2*k+2,rfl,rfl,by rw [IntWalk.wrap64_in _ (by omega)];omega,by rw [IntWalk.wrap64_in _ (by omega)];omega⟩
set_option maxHeartbeats 2000000 in
set_option maxRecDepth 100000 in
theorem fewK_valid (k:Nat) (a:ByteArray) (b:Bool) (hk:k≤1000) (h1:a.size≤2*k+2) (h2:readE a.data.toList=0) (hb:b=(decide ((writeS (absQ (numQ (readQ a.data.toList)))).length≤k) && decide ((Lib.decDigits (readQ a.data.toList).bot).length≤k))) :
    FewKIs k a b:=by
  intro w
  obtain ⟨K2,L,_,hL,w1,w2⟩:=fewK_wraps hk
  have d1:decide ((a.size:Int)≤(L:Int))=true:=decide_eq_true (by omega)
  have hq:=num_read h2
  have hC:∀ W,Calls Tryz.prog 10 #[.string a] W (RetC W 0):=fun W=>by
    have h:=rCheck_any a W (by omega)
    rwa [h2] at h
  have HC:=Lib.hid hC
  have HN:=Lib.hid (fun W=>rNum_q a _ W hq (by omega))
  have HA:=Lib.hid (fun (s:ByteArray) (hs:NumQ s (numQ (readQ a.data.toList))) (hz:s.size≤1000000) (W:World)=>rAbs_q s (numQ (readQ a.data.toList)) W hs hz)
  have HD:=Lib.hid (fun W=>rDen_q a _ W hq (by omega))
  clear hC
  generalize readQ a.data.toList=p at *
  obtain ⟨L2,hL2⟩:∃ L2,L2=(Lib.decDigits p.bot).length:=⟨_,rfl⟩
  obtain ⟨L1,hL1⟩:∃ L1,L1=(writeS (absQ (numQ p))).length:=⟨_,rfl⟩
  rw [←hL1,←hL2] at hb
  rw [←hL2] at HD
  have HZ:Hid (∀ t:ByteArray,NumQ t (absQ (numQ p))→t.size=L1):=fun t ht=>by
    have h9:=congrArg List.length ht.1
    rw [←hL1,Array.length_toList] at h9
    exact h9
  clear hq h2 hL1 hL2
  have hcase:(decide (L1≤k)=false∧b=false)∨(decide (L1≤k)=true∧Hid (decide (L2≤k)=b)):=by
    rw [hb]
    by_cases h3:L1≤k
    · refine .inr ⟨decide_eq_true h3,?_⟩
      rw [decide_eq_true h3,Bool.true_and]
      exact rfl
    · exact .inl ⟨decide_eq_false h3,by rw [decide_eq_false h3];rfl⟩
  clear hb
  rcases hcase with ⟨d3,rfl⟩ | ⟨d3,d4⟩
  all_goals
    go_enter Tryz.func36,Tryz.ntmps36
    go_wp2_with fail
    refine (HC.out w).mono ?_
    rintro e w1 ⟨rfl,hb1⟩
    go_wp2_with fail
    refine (HN.out w1).mono ?_
    rintro e w2 ⟨⟨s,rfl,hs1,hs2⟩,rfl⟩
    have HS:=Lib.hid hs1
    clear hs1
    go_wp2_with fail
    refine (HA.out s HS.out (by omega) w1).mono ?_
    rintro e w3 ⟨⟨t,rfl,ht1⟩,hb3⟩
    have hB3:=hb1.trans (hb3.mono hb1.size)
    have hts:=HZ.out t ht1
    rw [←hts] at d3
    clear ht1 hb3 hb1 hts
    go_wp2_with fail
    first
      | (go_ret
         exact ⟨rfl,hB3⟩)
      | (refine (HD.out w3).mono ?_
         rintro e w4 ⟨⟨u,rfl,hu⟩,rfl⟩
         have HU:=Lib.hid hu
         clear hu
         go_wp2
         go_ret
         exact ⟨by rw [←d4.out,←HU.out];rfl,hB3⟩)
set_option maxHeartbeats 1000000 in
theorem fewK_is (k:Nat) (a:ByteArray) (h0:0<k) (hk:k≤1000):∃ b,(b=true→FewK k a)∧FewKIs k a b:=by
 by_cases h1:a.size≤2*k+2
 ·by_cases h2:readE a.data.toList=0
  ·refine ⟨_,fun hb=>⟨h2,?_,h1⟩,fewK_valid k a _ hk h1 h2 rfl⟩
   simp only [Bool.and_eq_true,decide_eq_true_eq] at hb
   have hq:=num_read h2
   generalize readQ a.data.toList=p at *
   have hla:LowQ (numQ p):=⟨Nat.one_pos,Nat.gcd_one_right _,hq.2.2.2⟩
   have ht:NumQ ⟨(writeS (absQ (numQ p))).toArray⟩ (absQ (numQ p)):=⟨by simp,low_abs hla⟩
   have hts:(⟨(writeS (absQ (numQ p))).toArray⟩:ByteArray).size≤k:=by
    show (writeS (absQ (numQ p))).toArray.size≤k
    rw [List.size_toArray]
    exact hb.1
   refine ⟨(ht.small hts h0).1,?_⟩
   have e2:=decVal_lt _ (digits_dec p.bot)
   rw [decVal_dec] at e2
   exact Nat.lt_of_lt_of_le e2 (Nat.pow_le_pow_right (by omega) hb.2)
  ·refine ⟨false,(fun h=>by cases h),fun w => ?_⟩
   obtain ⟨K2,L,_,hL,w1,w2⟩:=fewK_wraps hk
   have d1:decide ((a.size:Int)≤(L:Int))=true:=decide_eq_true (by omega)
   have HC:=Lib.hid (fun W=>rCheck_any a W (by omega))
   have d2:(readE a.data.toList==0)=false:=beq_eq_false_iff_ne.2 h2
   generalize readE a.data.toList=E at *
   clear h2
   go_enter Tryz.func36,Tryz.ntmps36
   go_wp2_with fail
   refine (HC.out w).mono ?_
   rintro e w1 ⟨rfl,hb1⟩
   go_wp2
   go_ret
   exact ⟨rfl,hb1⟩
 ·refine ⟨false,(fun h=>by cases h),fun w => ?_⟩
  obtain ⟨K2,L,_,hL,w1,w2⟩:=fewK_wraps hk
  have d1:decide ((a.size:Int)≤(L:Int))=false:=decide_eq_false (by omega)
  go_enter Tryz.func36,Tryz.ntmps36
  go_wp2
  go_ret
  exact ⟨rfl,Below.refl _ _⟩
end Go.Proofs.YteajibbphcfmeaaGreatDoor
namespace Go.Proofs.YteajibbphcfmeaaGreatDoor
open Go.RowKit Bn Dn
open Flt
set_option maxHeartbeats 2000000 in
set_option maxRecDepth 100000 in
theorem rCheckRow_three (s t u:ByteArray) (ty:TypeId) (g:Nat) (w:World) (hk:CBlk w g #[.string s,.string t,.string u] ty) (hs:readE s.data.toList=0) (ht:readE t.data.toList=0) (hu:readE u.data.toList=0) :
  Calls Tryz.prog 41 #[.slice (some ⟨g,0,none⟩) 3 3] w fun e w'=>e = .returned (.int .i64 0)∧Below w.heap.size w w':=by
 have b1:=size_read hs
 have b2:=size_read ht
 have b3:=size_read hu
 have HS:Hid (∀ W,Calls Tryz.prog 10 #[.string s] W (RetC W 0)):=fun W=>by
  have h:=rCheck_any s W (by omega)
  rwa [hs] at h
 have HT:Hid (∀ W,Calls Tryz.prog 10 #[.string t] W (RetC W 0)):=fun W=>by
  have h:=rCheck_any t W (by omega)
  rwa [ht] at h
 have HU:Hid (∀ W,Calls Tryz.prog 10 #[.string u] W (RetC W 0)):=fun W=>by
  have h:=rCheck_any u W (by omega)
  rwa [hu] at h
 clear hs ht hu b1 b2 b3
 go_enter Tryz.func41,Tryz.ntmps41
 go_wp2
 go_loopg [3] 3 (fun g1 v3 W=>∃ i:Nat,v3 = .int .i64 (i:Int)∧i≤3∧g1+i=3∧Below w.heap.size w W)
 case atStart=>exact ⟨0,rfl,by omega,rfl,Below.refl _ _⟩
 case round=>
  obtain ⟨i,rfl,hi,hgi,hbel⟩:=hrel
  have hkr:=hk.below hbel hk.lt
  have z0:wr.cell? ⟨g,0,none⟩=some (.string s):=hkr.cell 0
  have z1:wr.cell? ⟨g,1,none⟩=some (.string t):=hkr.cell 1
  have z2:wr.cell? ⟨g,2,none⟩=some (.string u):=hkr.cell 2
  clear hkr
  match i,hi,hgi with
  | 0,_,_=>
   go_wp2_with fail
   refine (HS.out wr).mono ?_
   rintro e w1 ⟨rfl,hb1⟩
   go_wp2
   go_roundg 2
   case rel=>exact ⟨1,rfl,by omega,rfl,hbel.trans (hb1.mono hbel.size)⟩
   case measure=>omega
  | 1,_,_=>
   go_wp2_with fail
   refine (HT.out wr).mono ?_
   rintro e w1 ⟨rfl,hb1⟩
   go_wp2
   go_roundg 1
   case rel=>exact ⟨2,rfl,by omega,rfl,hbel.trans (hb1.mono hbel.size)⟩
   case measure=>omega
  | 2,_,_=>
   go_wp2_with fail
   refine (HU.out wr).mono ?_
   rintro e w1 ⟨rfl,hb1⟩
   go_wp2
   go_roundg 0
   case rel=>exact ⟨3,rfl,by omega,rfl,hbel.trans (hb1.mono hbel.size)⟩
   case measure=>omega
  | 3,_,_=>
   go_wp2
   go_ret
   exact ⟨rfl,hbel⟩
  | n+4,h,_=>exact absurd h (by omega)
theorem rMin_q (a b:ByteArray) (p q:Q) (w:World) (h:NumQ a p) (h':NumQ b q) (ha:a.size≤99999) (hb:b.size≤99999) :
  Calls Tryz.prog 44 #[.string a,.string b] w (RetS w (if cmpI p q≤0 then p else q)):=by
 have HC:=Lib.hid (rCmp_q a b p q w h h' ha hb)
 by_cases hc:cmpI p q≤0
 ·rw [if_pos hc]
  have d:decide (cmpI p q≤0)=true:=decide_eq_true hc
  generalize cmpI p q=c at *
  clear hc
  go_enter Tryz.func44,Tryz.ntmps44
  go_wp2_with fail
  refine HC.out.mono ?_
  rintro e w1 ⟨rfl,hb1⟩
  go_wp2
  go_ret
  exact ⟨⟨a,rfl,h⟩,hb1⟩
 ·rw [if_neg hc]
  have d:decide (cmpI p q≤0)=false:=decide_eq_false hc
  generalize cmpI p q=c at *
  clear hc
  go_enter Tryz.func44,Tryz.ntmps44
  go_wp2_with fail
  refine HC.out.mono ?_
  rintro e w1 ⟨rfl,hb1⟩
  go_wp2
  go_ret
  exact ⟨⟨b,rfl,h'⟩,hb1⟩
theorem rMax_q (a b:ByteArray) (p q:Q) (w:World) (h:NumQ a p) (h':NumQ b q) (ha:a.size≤99999) (hb:b.size≤99999) :
  Calls Tryz.prog 45 #[.string a,.string b] w (RetS w (if 0≤cmpI p q then p else q)):=by
 have HC:=Lib.hid (rCmp_q a b p q w h h' ha hb)
 by_cases hc:0≤cmpI p q
 ·rw [if_pos hc]
  have d:decide (0≤cmpI p q)=true:=decide_eq_true hc
  generalize cmpI p q=c at *
  clear hc
  go_enter Tryz.func45,Tryz.ntmps45
  go_wp2_with fail
  refine HC.out.mono ?_
  rintro e w1 ⟨rfl,hb1⟩
  go_wp2
  go_ret
  exact ⟨⟨a,rfl,h⟩,hb1⟩
 ·rw [if_neg hc]
  have d:decide (0≤cmpI p q)=false:=decide_eq_false hc
  generalize cmpI p q=c at *
  clear hc
  go_enter Tryz.func45,Tryz.ntmps45
  go_wp2_with fail
  refine HC.out.mono ?_
  rintro e w1 ⟨rfl,hb1⟩
  go_wp2
  go_ret
  exact ⟨⟨b,rfl,h'⟩,hb1⟩
theorem exQ_unit {f:Nat} (h:fin Ieee.single f=true):exQ f=unitQ (key Ieee.single f)∧writeE (exQ f)=0:=by
 have hk:=h
 unfold fin at h
 split at h
 ·rename_i s m e hr
  obtain ⟨h1,h2,h3⟩:=sgl_fin hr
  have hkey:key Ieee.single f=sgn s (m*2 ^ (e+149).toNat):=by
   unfold key
   rw [hr,sgl_least]
   dsimp only
   rw [show e - -149=e+149 by omega]
   unfold Ieee.signed sgn
   rw [Nat.shiftLeft_eq]
  rcases Nat.eq_zero_or_pos m with rfl | hm
  ·have e1:exQ f=⟨false,0,1⟩:=by
    unfold exQ
    rw [hr]
    exact if_pos rfl
   have e2:key Ieee.single f=0:=by
    rw [hkey,Nat.zero_mul]
    unfold sgn
    split<;>rfl
   rw [e1,e2]
   exact ⟨(fracQ_zero (Nat.two_pow_pos _)).symm,by kernel_rfl⟩
  ·obtain ⟨x1,x2,x3,x4,x5⟩:=exQ_val hr hm h1 h2 h3
   refine ⟨unit_of ⟨?_,Nat.two_pow_pos _,x1.1⟩ x1,?_⟩
   ·rw [hkey]
    have x3':((exQ f).top:Int)*((2 ^ 149:Nat):Int)=((m*2 ^ (e+149).toNat:Nat):Int)*((exQ f).bot:Int):=by rw [←Int.natCast_mul,x3,Int.natCast_mul]
    generalize exQ f=E at *
    generalize m*2 ^ (e+149).toNat=V at *
    generalize (2:Nat) ^ 149=T at *
    unfold sI sgn
    rw [x2]
    cases s
    ·simpa using x3'
    ·simp only [if_true,Int.neg_mul,x3']
   ·unfold writeE
    rw [if_neg (by have:=x1.1;omega),if_neg (by have:=dec_600 x4;have:=dec_600 x5;omega)]
 ·cases h
theorem nExact_fin (f:Nat) (w:World) (hT:Tabs w) (h:fin Ieee.single f=true) :
  Calls Tryz.prog 40 #[.float .f32 f] w fun e w'=>(∃ s:ByteArray,e = .returned (.tuple #[.string s,.int .i64 0])∧NumQ s (unitQ (key Ieee.single f)))∧Below w.heap.size w w':=by
 obtain ⟨h1,h2⟩:=exQ_unit h
 refine (Exact_any f w hT).mono ?_
 rintro e w' ⟨s,rfl,hs,hb⟩
 rw [if_pos h] at hs
 rw [if_pos h,h2]
 unfold writeT at hs
 rw [if_pos h2,h1] at hs
 exact ⟨⟨s,rfl,hs,unit_low _⟩,hb⟩
end Go.Proofs.YteajibbphcfmeaaGreatDoor
