/- Plain: a number times powers of two, as the reference's Float takes it down to 24 bits. No program. -/
import Derived.Test.YtbkgkoenppkhpaaGreatDoorFRws
namespace Go.Proofs.YtbkgkoenppkhpaaGreatDoor
open Go.RowKit Bn Dn
open Flt
theorem zgm{t b:Nat}(ht:0<t)(hb:0<b)(a c:Nat):b*2^c≤t*2^a↔(c:Int)-(a:Int)≤bexp t b:=by
 constructor
 ·intro h
  rcases Int.lt_or_le (bexp t b) ((c:Int)-(a:Int)) with hl | hl
  ·exfalso
   by_cases h0:0≤(a:Int)+bexp t b
   ·obtain⟨c',aA⟩:∃ c':Nat,(c':Int)=(a:Int)+bexp t b:=⟨((a:Int)+bexp t b).toNat,by omega⟩
    have h1:=(zdg ht hb a c' (by omega)).2;have h2:(2:Nat)^(c'+1)≤2^c:=Nat.pow_le_pow_right (by omega) (by omega);have h3:=Nat.mul_le_mul_left b h2;rw[Nat.pow_succ,←Nat.mul_assoc] at h3;omega
   ·obtain⟨s,hs⟩:∃ s:Nat,(s:Int) = -((a:Int)+bexp t b):=⟨(-((a:Int)+bexp t b)).toNat,by omega⟩
    have h1:=(zdg ht hb (a+s) 0 (by omega)).2;have h2:(2:Nat)^(a+1)≤2^(a+s):=Nat.pow_le_pow_right (by omega) (by omega);have h3:=Nat.mul_le_mul_left t h2;rw[Nat.pow_succ,←Nat.mul_assoc] at h3;have h4:b*1≤b*2^c:=Nat.mul_le_mul_left b (Nat.two_pow_pos c);rw[Nat.pow_zero,Nat.mul_one] at h1;omega
  ·exact hl
 ·intro h
  obtain⟨d,hd⟩:∃ d:Nat,(d:Int)=bexp t b-((c:Int)-(a:Int)):=⟨(bexp t b-((c:Int)-(a:Int))).toNat,by omega⟩;have h1:=(zdg ht hb a (c+d) (by omega)).1;have h2:(2:Nat)^c≤2^(c+d):=Nat.pow_le_pow_right (by omega) (by omega);have h3:=Nat.mul_le_mul_left b h2;omega
theorem zrP{t b:Nat}(ht:0<t)(hb:0<b)(k:Int)(j:Nat):scB b k*2^j≤scT t k↔k+j≤bexp t b:=by
 by_cases h:k<0
 ·rw[zgZ t b (2^j) k (-k).toNat 0 (by omega),Nat.pow_zero,Nat.mul_one,zgm ht hb (-k).toNat j]
  omega
 ·rw[zgZ t b (2^j) k 0 k.toNat (by omega),Nat.mul_assoc,←Nat.pow_add,zgm ht hb 0 (k.toNat+j)]
  omega
def scQ (t b:Nat) (k:Int):Q:=zcn ((scT t k:Nat):Int) (scB b k)
section
variable {t b:Nat} (hb:0<b)
include hb
theorem zdL(k:Int):Val (scQ t b k) ((scT t k:Nat):Int) (scB b k):=Val.frac (zdO hb k)
theorem zeE (k:Int):LowQ (scQ t b k):=zbo _ (zdO hb k)
theorem zpP {k:Int} (hk:0≤k):mulQ (scQ t b k) zfH=scQ t b (k+1):=by
 refine((zdL hb k).mul Val.half).eq (zdL hb (k+1)) (zhY _ _ (zeE hb k).1 (by decide)) (zeE hb (k+1)) ?_;unfold scT scB;rw[if_neg (by omega),if_neg (by omega),if_neg (by omega),if_neg (by omega),show(k+1).toNat=k.toNat+1 by omega,Nat.pow_succ,Int.mul_one,←Nat.mul_assoc]
theorem zqn{k:Int}(hk:k≤0):mulQ (scQ t b k) twoQ=scQ t b (k-1):=by
 have a1:scT t (k-1)=scT t k*2:=by
  unfold scT;rw[if_pos (by omega)]
  by_cases h:k<0
  ·rw[if_pos h,show(-(k-1)).toNat=(-k).toNat+1 by omega,Nat.pow_succ,←Nat.mul_assoc]
  ·rw[if_neg h,show(-(k-1)).toNat=1 by omega,Nat.pow_one]
 have a2:scB b (k-1)=scB b k:=by
  unfold scB;rw[if_pos (by omega)]
  by_cases h:k<0
  ·rw[if_pos h]
  ·rw[if_neg h,show k.toNat=0 by omega,Nat.pow_zero,Nat.mul_one]
 refine((zdL hb k).mul zq9).eq (zdL hb (k-1)) (zhY _ _ (zeE hb k).1 (by decide)) (zeE hb (k-1)) ?_;rw[Nat.mul_one,a1,a2,Int.natCast_mul (scT t k) 2];rfl
end
theorem zqp:10^60*2^149<10^106:=by decide +kernel
theorem zm8{t b:Nat}(hb:0<b)(ht6:t<10^60)(hb6:b<10^60){k:Int}(h1 : -149≤k)(h2:k≤105):Small (scQ t b k) 106:=by
 have up:∀ (x:Nat) (j:Nat),x<10^60→j≤149→x*2^j<10^106:=fun x j hx hj=>by
  refine Nat.lt_of_le_of_lt ?_ zqp;exact Nat.mul_le_mul (Nat.le_of_lt hx) (Nat.pow_le_pow_right (by omega) hj)
 have aA:∀ x:Nat,x<10^60→x<10^106:=fun x hx=>by have:=up x 0 hx (by omega);rwa [Nat.pow_zero,Nat.mul_one] at this
 refine zcB ?_ ?_ (zdO hb k)
 ·rw[Int.natAbs_natCast]
  unfold scT
  split
  ·exact up _ _ ht6 (by omega)
  ·exact aA _ ht6
 ·unfold scB
  split
  ·exact aA _ hb6
  ·exact up _ _ hb6 (by omega)
theorem zpp{p:Q}(hl:LowQ p)(hn:p.neg=false):scQ p.top p.bot 0=p:=by
 refine(zdL hl.1 0).eq (zeI hl.1) (zeE hl.1 0) hl ?_;have a1:scT p.top 0=p.top:=rfl;have a2:scB p.bot 0=p.bot:=by
  show p.bot*2^0=p.bot
  rw[Nat.pow_zero,Nat.mul_one]
 rw[a1,a2];unfold sI;rw[hn];rfl
theorem zp1{t b:Nat}(ht:0<t)(hb:0<b)(k:Int)(j M:Nat)(hM:M=2^j):decide (0≤cmpI (scQ t b k) (intQ (M:Int)))=decide (k+j≤bexp t b):=by
 have h:=zj5 (zdL (t:=t) hb k) (Val.int (M:Int));have h2:=zrP ht hb k j;rw[←hM,Nat.mul_comm] at h2;rw[Int.natCast_one,Int.mul_one,←Int.natCast_mul] at h
 by_cases hc:k+j≤bexp t b
 ·rw[decide_eq_true hc,decide_eq_true]
  have h3:=h2.2 hc;have h4:=mt h.1 (by omega);omega
 ·rw[decide_eq_false hc,decide_eq_false]
  have h3:=mt h2.1 hc;have h4:=h.2 (by omega);omega
theorem zrF{t b:Nat}(ht:0<t)(hb:0<b)(k:Int)(j M:Nat)(hM:M=2^j):decide (cmpI (scQ t b k) (intQ (M:Int))<0) = !decide (k+j≤bexp t b):=by
 rw[←zp1 ht hb k j M hM];generalize cmpI (scQ t b k) (intQ (M:Int))=c
 by_cases h:c<0
 ·rw[decide_eq_true h,decide_eq_false (by omega)];rfl
 ·rw[decide_eq_false h,decide_eq_true (by omega)];rfl
theorem zrL{p:Q}(hl:LowQ p)(hn:p.neg=false)(ht:0<p.top):decide (0≤cmpI p (powQ twoQ 128))=decide (128≤bexp p.top p.bot):=by
 have h:=zj5 (zeI hl.1) (Val.pow 128);have h2:=zgm ht hl.1 0 128;have hs:sI p=(p.top:Int):=by unfold sI;rw[hn];rfl
 rw[hs,Int.natCast_one,Int.mul_one,←Int.natCast_mul] at h;rw[Nat.pow_zero,Nat.mul_one,Nat.mul_comm] at h2;generalize 2^128*p.bot=X at *
 by_cases hc:128≤bexp p.top p.bot
 ·rw[decide_eq_true hc,decide_eq_true]
  have h3:=h2.2 (by omega);have h4:=mt h.1 (by omega);omega
 ·rw[decide_eq_false hc,decide_eq_false]
  have h3:=mt h2.1 (by omega);have h4:=h.2 (by omega);omega
theorem zrD{p:Q}(hl:LowQ p)(hn:p.neg=false)(ht:0<p.top):decide (cmpI p (powQ (recQ twoQ) 151)<0)=decide (bexp p.top p.bot < -151):=by
 have h:=zj5 (zeI hl.1) (Val.powN 151);have h2:=zgm ht hl.1 151 0;have hs:sI p=(p.top:Int):=by unfold sI;rw[hn];rfl
 rw[hs,Int.one_mul,←Int.natCast_mul] at h;rw[Nat.pow_zero,Nat.mul_one] at h2;generalize p.top*2^151=X at *
 by_cases hc:bexp p.top p.bot < -151
 ·rw[decide_eq_true hc,decide_eq_true]
  have h3:=mt h2.1 (by omega);exact h.2 (by omega)
 ·rw[decide_eq_false hc,decide_eq_false]
  have h3:=h2.2 (by omega);have h4:=mt h.1 (by omega);omega
theorem zsi{t b W:Nat}(hW:W=2^149)(h:¬ b≤t*2^151):near (t*W) b=0:=by
 have e2:(2:Nat)^151=2^149*4:=by decide +kernel
 rw[e2,←hW,←Nat.mul_assoc] at h;clear e2 hW;generalize t*W=X at *;unfold near;rw[Nat.mod_eq_of_lt (by omega),Nat.div_eq_of_lt (by omega),if_neg (by omega)]
theorem zpd{p:Q}(hl:LowQ p)(ht:0<p.top)(h:bexp p.top p.bot < -151):flX p=0∧flW p=0:=by
 have hE:flE p.top p.bot = -149:=by have:=zcf p.top p.bot;omega
 have h1:=mt (zgm ht hl.1 151 0).1 (by omega);rw[Nat.pow_zero,Nat.mul_one] at h1;have hN:flN p.top p.bot=0:=by
  unfold flN;rw[hE];unfold scT scB;rw[if_pos (by omega),if_pos (by omega)];exact zsi rfl h1
 unfold flX flW;rw[if_neg (by omega),if_pos hN,if_neg (by omega),if_pos hN];exact⟨rfl,rfl⟩
theorem zpe{p:Q}(hl:LowQ p)(ht:0<p.top)(h:128≤bexp p.top p.bot):flX p=4:=by
 have hE:=zcf p.top p.bot;have hr:=(zdD ht hl.1).1;have aA:=hr.lo;unfold flX;rw[if_neg (by omega),if_neg (by omega),if_pos];unfold rung;omega
theorem zqx{p:Q}(hl:LowQ p)(ht:0<p.top)(h1:¬ 128≤bexp p.top p.bot):(flN p.top p.bot=16777216∧flE p.top p.bot=104∧flX p=4)∨(¬ (flN p.top p.bot=16777216∧flE p.top p.bot=104)∧flX p=0):=by
 have hE:=zcf p.top p.bot;have hr:=(zdD ht hl.1).1;have aA:=hr.hi;have aC:=hr.lo;unfold flX;rw[if_neg (by omega)];unfold rung
 by_cases h0:flN p.top p.bot=0
 ·rw[if_pos h0]
  exact .inr ⟨by omega,rfl⟩
 ·rw[if_neg h0]
  by_cases h2:flN p.top p.bot=16777216∧flE p.top p.bot=104
  ·rw[if_pos (by omega)]
   exact .inl ⟨h2.1,h2.2,rfl⟩
  ·rw[if_neg (by omega)]
   exact .inr ⟨h2,rfl⟩
theorem znJ{q:Q}{A C:Nat}(hl:LowQ q)(hv:Val q (A:Int) C):zfG q=((A/C:Nat):Int):=by
 have hC:=hv.2.1;have hn:q.neg=false:=by
  cases h:q.neg
  ·rfl
  ·exfalso
   have h1:=hl.2.2 h;have h2:=hv.1;unfold sI at h2;rw[h] at h2;have h3:0<q.top*C:=Nat.mul_pos h1 hC;simp only[if_true,Int.neg_mul,←Int.natCast_mul] at h2
   omega
 have h2:=hv.1;unfold sI at h2;rw[hn] at h2;simp only[Bool.false_eq_true,if_false,←Int.natCast_mul] at h2
 have h3:q.top*C=A*q.bot:=by omega
 unfold zfG zcL;rw[if_neg (by rw[hn];simp),hn];show((q.top/q.bot:Nat):Int)=_
 have e1:q.top/q.bot=q.top*C/(q.bot*C):=(Nat.mul_div_mul_right _ _ hC).symm;have e2:A/C=A*q.bot/(C*q.bot):=(Nat.mul_div_mul_right _ _ hl.1).symm;rw[e1,e2,h3,Nat.mul_comm C]
theorem zmz{t b:Nat}(hb:0<b)(k:Int):zfG (scQ t b k)=((scT t k/scB b k:Nat):Int):=znJ (zeE hb k) (zdL hb k)
theorem zpl {t b:Nat} (hb:0<b) (k:Int):Val (subQ (scQ t b k) (intQ ((scT t k/scB b k:Nat):Int))) ((scT t k%scB b k:Nat):Int) (scB b k):=by
 have hv:=(zdL (t:=t) hb k).sub (Val.int ((scT t k/scB b k:Nat):Int));have hd:=Nat.div_add_mod (scT t k) (scB b k);generalize scT t k/scB b k=n at *;generalize scT t k%scB b k=r at *;rw[Nat.mul_one,Int.natCast_one,Int.mul_one,←Int.natCast_mul,Nat.mul_comm n] at hv;rw[show((scT t k:Nat):Int)-((scB b k*n:Nat):Int)=(r:Int) by omega] at hv;exact hv
theorem znK{q:Q}{r C:Nat}(hv:Val q (r:Int) C):decide (0<cmpI q zfH)=decide (C<r*2)∧(cmpI q zfH==0)=decide (r*2=C):=by
 have h:=zgK hv Val.half;have e1:(r:Int)*((2:Nat):Int)=((r*2:Nat):Int):=by rw[Int.natCast_mul]
 rw[e1,Int.one_mul] at h
 rcases Nat.lt_trichotomy (r*2) C with h9 | h9 | h9
 ·rw[h.1 (by omega)]
  exact⟨(decide_eq_false (by omega)).symm,(decide_eq_false (by omega)).symm⟩
 ·rw[h.2.1 (by omega)]
  exact⟨(decide_eq_false (by omega)).symm,(decide_eq_true h9).symm⟩
 ·rw[h.2.2 (by omega)]
  exact⟨(decide_eq_true h9).symm,(decide_eq_false (by omega)).symm⟩
theorem znt{f:Nat}(hf:fin Ieee.single f=true)(h0:0<key Ieee.single f):∃ r,floatBits .sub .f32 0 f=some r∧fin Ieee.single r=true∧key Ieee.single r = -key Ieee.single f:=by
 have aA:=hf;unfold fin at aA
 split at aA
 ·rename_i s n e hr
  obtain⟨h1,h2,h3⟩:=zd2 hr;have hc:=zga hr;have hk:key Ieee.single f=sgn s (n*2^(e+149).toNat):=by
   unfold key;rw[hr,zaI]
   dsimp only
   rw[show e - -149=e+149 by omega];unfold Ieee.signed sgn;rw[Nat.shiftLeft_eq]
  rw[hk] at h0 ⊢;have hs:s=false:=by
   cases s
   ·rfl
   ·unfold sgn at h0
    simp only[if_true] at h0
    omega
  subst hs;have hn:0<n:=by
   rcases Nat.eq_zero_or_pos n with rfl | h
   ·unfold sgn at h0
    simp at h0
   ·exact h
  have hR:Rnd n e:=⟨h2,by omega,hc⟩;refine⟨Ieee.single.word true (rung n e),?_,(zfO true hR (zb1 h1 h2 h3)).1,?_⟩
  ·show((Ieee.single.read 0).sum (Ieee.single.read f).opposite).map Ieee.single.write=_
   rw[hr,zhI];obtain⟨k,hk⟩:∃ k:Nat,(e+149).toNat=k:=⟨_,rfl⟩;have hm:min (-149:Int) e = -149:=by omega
   have aD:(e - -149).toNat=k:=by omega
   have aC:0<n*2^k:=Nat.mul_pos (by omega) (Nat.two_pow_pos _);have ht:Ieee.signed false 0 ((-149:Int) - -149).toNat+Ieee.signed (!false) n k = -((n*2^k:Nat):Int):=by
    unfold Ieee.signed;rw[Nat.shiftLeft_eq,Nat.shiftLeft_eq];simp
   show some (Ieee.single.write (.number (if Ieee.signed false 0 ((-149:Int)-min (-149) e).toNat+Ieee.signed (!false) n (e-min (-149) e).toNat=0 then false && !false else decide (Ieee.signed false 0 ((-149:Int)-min (-149) e).toNat+Ieee.signed (!false) n (e-min (-149) e).toNat<0)) (Ieee.signed false 0 ((-149:Int)-min (-149) e).toNat+Ieee.signed (!false) n (e-min (-149) e).toNat).natAbs (min (-149) e)))=_
   rw[hm,aD,ht];have hw:=zfZ true hn h1 (k:=k) (p := -149) (q:=e) hc (by omega) h2 h3;generalize n*2^k=M at *;rw[if_neg (show ¬ -(M:Int)=0 by omega),show decide (-(M:Int)<0)=true from decide_eq_true (by omega),show(-(M:Int)).natAbs=M by omega,hw]
  ·rw[(zfO true hR (zb1 h1 h2 h3)).2]
   rfl
 ·cases aA
end Go.Proofs.YtbkgkoenppkhpaaGreatDoor
