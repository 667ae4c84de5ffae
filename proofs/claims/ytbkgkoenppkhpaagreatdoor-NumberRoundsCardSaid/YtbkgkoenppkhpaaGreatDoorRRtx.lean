/- Plain facts of decimal texts: the text of a number in lowest terms, read again, is the number; the text of what was read is the text. No program. -/
import Derived.Test.YtbkgkoenppkhpaaGreatDoorBSh5
set_option maxRecDepth 100000
set_option maxHeartbeats 2000000
namespace Go.Proofs.YtbkgkoenppkhpaaGreatDoor
section
open Go.RowKit Bn
theorem zqd(n:Nat):Lib.decDigits n≠[]:=by
 have:=Dec.dec_length_pos n;intro h;rw[h] at this;simp at this
theorem zoJ{n:Nat}(h:0<n):(Lib.decDigits n).head? ≠ some 48:=by
 induction n using Nat.strongRecOn with
 | ind n ih=>
  rw[Lib.decDigits]
  split
  ·rename_i h1
   intro e;simp only[List.head?_cons,Option.some.injEq] at e
   have:=congrArg UInt8.toNat e;rw[zep h1] at this;have aC:(48:UInt8).toNat=48:=by decide
   omega
  ·rename_i h1
   have h2:=ih (n/10) (by omega) (by omega);obtain⟨x,t,aA⟩:=List.exists_cons_of_ne_nil (zqd (n/10));rw[aA] at h2 ⊢;exact h2
theorem zgx(n:Nat):zaB (Lib.decDigits n)=true:=by
 unfold zaB;rw[zaF,Bool.true_and]
 rcases Nat.eq_zero_or_pos n with rfl | h
 ·have e:Lib.decDigits 0=[48]:=by rw[Lib.decDigits];rfl
  simp[e]
 ·simp[zqd,zoJ h]
theorem zoK{neg:Bool}{t:List UInt8}(h:zar t=true):Lib.hasPrefix (sgnT neg t) [45]=neg∧Lib.trimPrefix (sgnT neg t) [45]=t:=by
 have h0:∀ neg,Lib.hasPrefix (sgnT neg t) [45]=neg:=by
  intro neg
  cases neg
  ·unfold sgnT Lib.hasPrefix
   cases t with
   | nil=>rfl
   | cons x r=>
    have:=(zd9 h (List.mem_cons_self ..)).1;have hx:((45:UInt8)==x)=false:=by
     rw[beq_eq_false_iff_ne];intro e;rw[←e] at this;exact absurd this (by decide)
    simp[List.isPrefixOf,hx]
  ·rfl
 refine⟨h0 neg,?_⟩;unfold Lib.trimPrefix;rw[h0 neg]
 cases neg<;>rfl
theorem zpg{n:Nat}(h:n≠1):Lib.decDigits n≠[49]:=fun e=>by
 have:=za1 n;rw[e] at this;have h49:zaj [49]=1:=by decide
 omega
theorem zgk(p:Q)(h:LowQ p)(h1:(Lib.decDigits p.top).length≤600)(h2:(Lib.decDigits p.bot).length≤600):zan (zaO p)=0∧zaf (zaO p)=p:=by
 obtain⟨hb,hg,hn⟩:=h;obtain⟨hp,ht⟩:=zoK (neg:=p.neg) (zaF p.top)
 by_cases hb1:p.bot=1
 ·have hc:cutL (zaO p)=(sgnT p.neg (Lib.decDigits p.top),[],false):=by
   rw[zaZ,if_pos hb1,List.append_nil];exact ziR (zb4 (zaF _))
  have e1:topL (zaO p)=Lib.decDigits p.top:=by unfold topL;rw[hc];exact ht
  have e2:negL (zaO p)=p.neg:=by unfold negL;rw[hc];exact hp
  have e3:botL (zaO p)=[]:=by unfold botL;rw[hc]
  have e4:zd4 (zaO p)=false:=by unfold zd4;rw[hc]
  have he:zan (zaO p)=0:=by
   unfold zan zbg;rw[e1,e2,e3,e4,if_neg,if_neg,if_neg,if_neg]
   ·simp
   ·simp;exact h1
   ·simp
   ·rw[zgx]
    rintro(h | ⟨h,h'⟩)
    ·cases h
    ·exact zfX (hn h) h'
  refine⟨he,?_⟩;unfold zaf;rw[if_pos he,e1,e2,e4,za1]
  cases p
  simp_all
 ·have hc:cutL (zaO p)=(sgnT p.neg (Lib.decDigits p.top),Lib.decDigits p.bot,true):=by
   rw[zaZ,if_neg hb1];exact zhn (zb4 (zaF _))
  have e1:topL (zaO p)=Lib.decDigits p.top:=by unfold topL;rw[hc];exact ht
  have e2:negL (zaO p)=p.neg:=by unfold negL;rw[hc];exact hp
  have e3:botL (zaO p)=Lib.decDigits p.bot:=by unfold botL;rw[hc]
  have e4:zd4 (zaO p)=true:=by unfold zd4;rw[hc]
  have he:zan (zaO p)=0:=by
   unfold zan zbg;rw[e1,e2,e3,e4,if_neg,if_neg,if_neg,if_neg]
   ·rw[za1,za1]
    simp[hg]
   ·omega
   ·rw[zgx]
    rintro⟨_,h | h | h⟩
    ·cases h
    ·exact zfX hb h
    ·exact zpg hb1 h
   ·rw[zgx]
    rintro(h | ⟨h,h'⟩)
    ·cases h
    ·exact zfX (hn h) h'
  refine⟨he,?_⟩;unfold zaf;rw[if_pos he,e1,e2,e3,e4,za1,za1];rfl
theorem zsa(t b m:Nat)(e:Int)(a c:Nat)(h:(a:Int)-c = -e):scT t e≤scB b e*m↔t*2^a≤b*2^c*m:=by
 unfold scB scT
 by_cases he:e<0
 ·rw[if_pos he,if_pos he]
  have:a=(-e).toNat+c:=by omega
  subst this;generalize (-e).toNat=s;rw[Nat.pow_add,←Nat.mul_assoc,Nat.mul_right_comm b,Nat.mul_le_mul_right_iff (Nat.two_pow_pos _)]
 ·rw[if_neg he,if_neg he]
  have:c=e.toNat+a:=by omega
  subst this;generalize e.toNat=s;rw[Nat.pow_add,←Nat.mul_assoc,Nat.mul_right_comm _ (2^a),Nat.mul_le_mul_right_iff (Nat.two_pow_pos _)]
theorem zno{t b m:Nat}(hb:0<b)(h:t≤b*m):near t b≤m:=by
 have hd:=Nat.div_add_mod t b;have hm:=Nat.mod_lt t hb;generalize hq:t/b=q at *;generalize hr:t%b=r at *;unfold near;rw[hq,hr]
 rcases Nat.lt_or_ge q m with h1 | h1
 ·split<;>omega
 ·have h2:b*m≤b*q:=Nat.mul_le_mul_left _ h1
  have h3:r=0:=by omega
  subst h3;have h4:q≤m:=by
   rcases Nat.lt_or_ge m q with h5 | h5
   ·have:=Nat.mul_le_mul_left b (show m+1≤q from h5)
    rw[Nat.mul_add,Nat.mul_one] at this;omega
   ·exact h5
  rw[if_neg (by omega)];exact h4
theorem zrz{t b m:Nat}(hb:0<b)(h:b*m≤t):m≤near t b:=by
 have q1:m≤t/b:=(Nat.le_div_iff_mul_le hb).2 (by rw[Nat.mul_comm];exact h);unfold near
 split<;>omega
theorem ziE{a c n n' H:Nat}(h:a+1≤c)(hn:n≤2*H)(hn':H≤n'):a*H+n≤c*H+n':=by
 have:=Nat.mul_le_mul_right H h;rw[Nat.add_mul,Nat.one_mul] at this;omega
theorem znY{a n H:Nat}(hn:n≤H):(a+1)*H+n≤a*H+2*H:=by
 rw[Nat.add_mul,Nat.one_mul];omega
theorem zpf{X Y b Z H:Nat}(h4:Y<b*2)(h7:X≤Y)(h8:b*H≤Z)(hZ:Z≤X)(hH:2≤H):False:=by
 have:=Nat.mul_le_mul_left b hH;omega
theorem zfw{t b:Nat}(ht:0<t)(hb:0<b)(d:Nat)(hd:(d:Int)=bexp t b+149):b*2^d≤t*2^149∧t*2^149<b*2^d*2:=zdg ht hb 149 d (by omega)
theorem zrv {t b n':Nat} {e':Int} (ht:0<t) (hb:0<b) (hr:Flt.Rnd n' e') (h:t*2^149≤b*(n'*2^(e'+149).toNat)):Flt.rung (flN t b) (flE t b)≤Flt.rung n' e':=by
 have hn:=(zdD ht hb).1;have hB:=zdO hb (flE t b);obtain⟨h1,h2,h3⟩:=zcf t b;have hp:=hr.place;have aG:=hr.hi;have aM:=hr.lo;have aL:=hn.hi;unfold Flt.rung
 rcases Int.lt_trichotomy (flE t b) e' with aN | aC | aO
 ·have h4:(flE t b+149).toNat+1≤(e'+149).toNat:=by omega
  have h5:8388608≤n':=by omega
  exact ziE h4 aL h5
 ·have h4:flN t b≤n':=by
   unfold flN;refine zno hB ?_;rw[zsa t b n' (flE t b) 149 ((flE t b+149).toNat) (by omega),aC];rw[Nat.mul_assoc,Nat.mul_comm (2^_)];exact h
  rw[aC];exact Nat.add_le_add_left h4 _
 ·have hk:flE t b=bexp t b-23:=by omega
  obtain⟨d,hd⟩:∃ d:Nat,(d:Int)=bexp t b+149:=⟨(bexp t b+149).toNat,by omega⟩;have h4:=(zfw ht hb d hd).1;have h5:b*2^d≤b*(n'*2^(e'+149).toNat):=Nat.le_trans h4 h;have h6:2^d≤n'*2^(e'+149).toNat:=Nat.le_of_mul_le_mul_left h5 hb;obtain⟨j,hj⟩:∃ j:Nat,d=(e'+149).toNat+24+j:=⟨d-(e'+149).toNat-24,by omega⟩;have aH:(2:Nat)^24=16777216:=by decide
  have h7:n'*2^(e'+149).toNat≤16777216*2^(e'+149).toNat:=Nat.mul_le_mul_right _ aG;have h8:(2:Nat)^d=16777216*2^(e'+149).toNat*2^j:=by
   rw[hj,Nat.pow_add,Nat.pow_add,aH,Nat.mul_comm (2^(e'+149).toNat)]
  have hP:0<2^(e'+149).toNat:=Nat.two_pow_pos _;have aI:j=0:=by
   rcases Nat.eq_zero_or_pos j with h9 | h9
   ·exact h9
   ·exfalso
    have aD:2^1≤2^j:=Nat.pow_le_pow_right (by omega) h9;have aJ:=Nat.mul_le_mul_left (16777216*2^(e'+149).toNat) aD;rw[←h8] at aJ;generalize 2^(e'+149).toNat=P at *;omega
  subst aI;have aA:n'=16777216:=by
   rw[h8,Nat.pow_zero,Nat.mul_one] at h6;have:=Nat.le_of_mul_le_mul_right h6 hP;omega
  have aE:flN t b≤8388608:=by
   unfold flN;refine zno hB ?_;rw[zsa t b 8388608 (flE t b) 149 ((flE t b+149).toNat) (by omega)];have aK:(flE t b+149).toNat=(e'+149).toNat+1:=by omega
   rw[aK,show(2:Nat)^((e'+149).toNat+1)=2^(e'+149).toNat*2 from Nat.pow_succ ..];refine Nat.le_trans h ?_;rw[aA];generalize 2^(e'+149).toNat=P;rw[Nat.mul_assoc b,show P*2*8388608=16777216*P by omega];exact Nat.le_refl _
  have aF:(flE t b+149).toNat=(e'+149).toNat+1:=by omega
  rw[aF,aA];exact znY aE
theorem zq7{t b n':Nat}{e':Int}(ht:0<t)(hb:0<b)(hr:Flt.Rnd n' e')(h:b*(n'*2^(e'+149).toNat)≤t*2^149):Flt.rung n' e'≤Flt.rung (flN t b) (flE t b):=by
 have hn:=(zdD ht hb).1;have hB:=zdO hb (flE t b);obtain⟨h1,h2,h3⟩:=zcf t b;have hp:=hr.place;have aC:=hr.hi;have aH:=hr.lo;have aK:=hn.lo;unfold Flt.rung
 rcases Int.lt_trichotomy (flE t b) e' with aI | aA | aJ
 ·exfalso
  have h5:8388608≤n':=by omega
  rcases Int.lt_or_le (bexp t b+149) 0 with aF | aE
  ·
   obtain⟨s,hs⟩:∃ s:Nat,(s:Int) = -(bexp t b+149):=⟨(-(bexp t b+149)).toNat,by omega⟩;have h4:=(zdg ht hb (149+s) 0 (by omega)).2;rw[Nat.pow_zero,Nat.mul_one,Nat.pow_add,←Nat.mul_assoc] at h4;have h6:b*1≤b*(n'*2^(e'+149).toNat):=Nat.mul_le_mul_left _ (Nat.mul_pos (by omega) (Nat.two_pow_pos _));have h8:b*8388608≤b*(n'*2^(e'+149).toNat):=Nat.mul_le_mul_left _ (Nat.le_trans h5 (Nat.le_mul_of_pos_right _ (Nat.two_pow_pos _)));have h7:t*2^149≤t*2^149*2^s:=Nat.le_mul_of_pos_right _ (Nat.two_pow_pos _);exact zpf h4 h7 h8 h (by decide)
  ·obtain⟨d,hd⟩:∃ d:Nat,(d:Int)=bexp t b+149:=⟨(bexp t b+149).toNat,by omega⟩
   have h4:=(zfw ht hb d hd).2;have h6:b*(n'*2^(e'+149).toNat)<b*2^d*2:=Nat.lt_of_le_of_lt h h4;rw[Nat.mul_assoc] at h6;have h7:n'*2^(e'+149).toNat<2^d*2:=Nat.lt_of_mul_lt_mul_left h6;have h8:d+1≤(e'+149).toNat+23:=by omega
   have h9:2^(d+1)≤2^((e'+149).toNat+23):=Nat.pow_le_pow_right (by omega) h8;have aD:(2:Nat)^23=8388608:=by decide
   rw[show(2:Nat)^(d+1)=2^d*2 from Nat.pow_succ ..,Nat.pow_add,aD,Nat.mul_comm _ 8388608] at h9;have aG:8388608*2^(e'+149).toNat≤n'*2^(e'+149).toNat:=Nat.mul_le_mul_right _ h5;omega
 ·have h4:n'≤flN t b:=by
   unfold flN;refine zrz hB ?_;rw[zgZ t b n' (flE t b) 149 ((flE t b+149).toNat) (by omega),aA];rw[Nat.mul_assoc,Nat.mul_comm (2^_)];exact h
  rw[aA];exact Nat.add_le_add_left h4 _
 ·have h4:(e'+149).toNat+1≤(flE t b+149).toNat:=by omega
  have h5:8388608≤flN t b:=by omega
  exact ziE h4 aC h5
theorem zk8{num:Int}{den:Nat}(hd:0<den):zcy (zcn num den)=num.sign:=by
 by_cases h0:num=0
 ·subst h0
  rw[zen hd];rfl
 ·rw[zfW hd h0]
  unfold zcy;have hg:0<Nat.gcd num.natAbs den:=Nat.gcd_pos_of_pos_right _ hd;have hp:0<num.natAbs/Nat.gcd num.natAbs den:=Nat.div_pos (Nat.gcd_le_left _ (by omega)) hg
  dsimp only
  rw[if_neg (by omega)]
  by_cases hn:num<0
  ·rw[decide_eq_true hn,if_pos rfl,Int.sign_eq_neg_one_of_neg hn]
  ·rw[decide_eq_false hn,if_neg (by decide),Int.sign_eq_one_of_pos (by omega)]
theorem ziX{p q:Q}(hp:0<p.bot)(hq:0<q.bot):cmpI p q=(sI p*(q.bot:Int)-sI q*(p.bot:Int)).sign:=zk8 (Nat.mul_pos hp hq)
end
section
open Go.RowKit Dn
theorem zm7 {p q:Q} {M N:Nat} (hp:Small p M) (hq:Small q N) (p0:0<p.bot) (q0:0<q.bot):Small (mulQ p q) (M+N):=by
 refine zcB ?_ (zdm hp.2 hq.2) (Nat.mul_pos p0 q0);rw[Int.natAbs_mul,zhk,zhk];exact zdm hp.1 hq.1
end
section
open Go.RowKit Bn
open Flt
theorem Val.add{p q:Q}{a b:Int}{x y:Nat}(h:Val p a x)(h':Val q b y):Val (addQ p q) (a*y+b*x) (x*y):=by
 obtain⟨h1,h2,h3⟩:=h;obtain⟨k1,k2,k3⟩:=h';have hv:Val (addQ p q) (sI p*(q.bot:Int)+sI q*(p.bot:Int)) (p.bot*q.bot):=Val.frac (Nat.mul_pos h3 k3);refine hv.trans (Nat.mul_pos h2 k2) ?_;rw[Int.natCast_mul,Int.natCast_mul]
 grind
end
section
open Go.RowKit
open Flt
theorem Val.smallN{q:Q}{a:Int}{x K:Nat}(h:Val q a x)(hl:LowQ q)(ha:a.natAbs<10^K)(hx:x<10^K):Small q K:=by
 have e:q=zcn a x:=h.eq (Val.frac h.2.1) hl (zbo _ h.2.1) rfl;rw[e];exact zcB ha hx h.2.1
end
section
open Go.RowKit Bn Dn
open Flt
theorem zor{t b:Nat}(hb:0<b):2*(b*near t b)≤2*t+b∧2*t≤2*(b*near t b)+b:=by
 have hd:=Nat.div_add_mod t b;have hm:=Nat.mod_lt t hb;unfold near;generalize t/b=q at *;generalize t%b=r at *
 split
 ·rename_i h
  rw[Nat.mul_add,Nat.mul_one];generalize b*q=X at *;omega
 ·rename_i h
  generalize b*q=X at *;omega
theorem zq6(t b:Nat)(hb:0<b) :
  2*(b*(flN t b*2^(flE t b+149).toNat))≤2*(t*2^149)+b*2^(flE t b+149).toNat∧2*(t*2^149)≤2*(b*(flN t b*2^(flE t b+149).toNat))+b*2^(flE t b+149).toNat:=by
 have hp : -149≤flE t b:=(zcf t b).2.2;have he:=zor (t:=scT t (flE t b)) (zdO hb (flE t b));unfold flN;generalize flE t b=e at *;generalize near (scT t e) (scB b e)=N at *;unfold scT scB at he
 by_cases h:e<0
 ·rw[if_pos h,if_pos h] at he
  have e1:(2:Nat)^149=2^(-e).toNat*2^(e+149).toNat:=by rw[←Nat.pow_add];congr 1;omega
  rw[e1];generalize 2^(-e).toNat=A at *;generalize 2^(e+149).toNat=P at *;have m1:=Nat.mul_le_mul_right P he.1;have m2:=Nat.mul_le_mul_right P he.2;have i1:2*(b*N)*P=2*(b*(N*P)):=by grind
  have i2:(2*(t*A)+b)*P=2*(t*(A*P))+b*P:=by grind
  have i3:2*(t*A)*P=2*(t*(A*P)):=by grind
  have i4:(2*(b*N)+b)*P=2*(b*(N*P))+b*P:=by grind
  rw[i1,i2] at m1;rw[i3,i4] at m2;exact⟨m1,m2⟩
 ·rw[if_neg h,if_neg h] at he
  have e1:(2:Nat)^(e+149).toNat=2^e.toNat*2^149:=by rw[←Nat.pow_add];congr 1;omega
  rw[e1];generalize 2^e.toNat=A at *;generalize (2:Nat)^149=P at *;have m1:=Nat.mul_le_mul_right P he.1;have m2:=Nat.mul_le_mul_right P he.2;have i1:2*(b*A*N)*P=2*(b*(N*(A*P))):=by grind
  have i2:(2*t+b*A)*P=2*(t*P)+b*(A*P):=by grind
  have i3:2*t*P=2*(t*P):=by grind
  have i4:(2*(b*A*N)+b*A)*P=2*(b*(N*(A*P)))+b*(A*P):=by grind
  rw[i1,i2] at m1;rw[i3,i4] at m2;exact⟨m1,m2⟩
def topU:Nat:=2^277
theorem zms:8388608*2^254=topU∧16777216*2^253=topU:=by decide +kernel
theorem zqJ{n k:Nat}(h0:0<n)(hn:n<16777216)(hlt:n*2^k<topU):∃ (n':Nat) (e':Int),Rnd n' e'∧n'<16777216∧0<n'∧rung n' e'<2139095040∧n'*2^(e'+149).toNat=n*2^k:=by
 have aD:(2:Nat)^24=16777216:=by decide
 have hl:n.log2<24:=(Nat.log2_lt (by omega)).2 (by omega);have aC:2^n.log2≤n:=Nat.log2_self_le (by omega);have aA:n<2^(n.log2+1):=Nat.lt_log2_self;generalize n.log2=l at *;obtain⟨s,hs⟩:∃ s,s=min k (23-l):=⟨_,rfl⟩;have hv:n*2^s*2^(k-s)=n*2^k:=by rw[Nat.mul_assoc,←Nat.pow_add];congr 2;omega
 have hx:n*2^s<16777216:=by
  have h1:n*2^s<2^(l+1)*2^s:=Nat.mul_lt_mul_of_pos_right aA (Nat.two_pow_pos _);have h2:2^(l+1)*2^s≤2^24:=by rw[←Nat.pow_add];exact Nat.pow_le_pow_right (by omega) (by omega)
  omega
 have hp:0<n*2^s:=Nat.mul_pos h0 (Nat.two_pow_pos _);have hc:k-s=0∨8388608≤n*2^s:=by
  by_cases h:k≤23-l
  ·exact .inl (by omega)
  ·refine .inr ?_
   have e:s=23-l:=by omega
   have h1:2^l*2^s≤n*2^s:=Nat.mul_le_mul_right _ aC;have h2:2^l*2^s=8388608:=by rw[←Nat.pow_add,show l+s=23 by omega]
   omega
 rw[←hv] at hlt ⊢;clear hv aC aA;generalize n*2^s=m at *;generalize k-s=j at *;have hj:j≤253:=by
  rcases hc with h | h
  ·omega
  ·by_cases h9:j≤253
   ·exact h9
   ·exfalso
    have h1:8388608*2^254≤m*2^j:=Nat.mul_le_mul h (Nat.pow_le_pow_right (by omega) (by omega));have h2:=zms.1;omega
 refine⟨m,(j:Int)-149,⟨by omega,by omega,?_⟩,hx,hp,?_,by rw[show((j:Int)-149+149).toNat=j by omega]⟩
 ·rcases hc with h | h
  ·exact .inl (by omega)
  ·exact .inr h
 ·unfold rung
  rw[show((j:Int)-149+149).toNat=j by omega];omega
theorem zlI(V:Int):(za0 V).top*2^149=V.natAbs*(za0 V).bot∧(V≠0→(za0 V).neg=decide (V<0))∧0<(za0 V).bot:=by
 obtain⟨h1,_,h3⟩:=zcv V;refine⟨?_,?_,h3⟩
 ·have h:=congrArg Int.natAbs h1
  rw[Int.natAbs_mul,Int.natAbs_mul,zhk,Int.natAbs_natCast,Int.natAbs_natCast] at h;exact h
 ·intro h0
  unfold za0;rw[zfW (Nat.two_pow_pos _) h0]
theorem znW{V:Int}{n k:Nat}(hn:n<16777216)(hV:V.natAbs=n*2^k)(hlt:V.natAbs<topU):flX (za0 V)=0∧fin Ieee.single (flW (za0 V))=true∧key Ieee.single (flW (za0 V))=V:=by
 obtain⟨u1,u2,u3⟩:=zlI V;unfold flX flW
 by_cases h0:V=0
 ·subst h0
  have ht:(za0 0).top=0:=by
   rw[Int.natAbs_zero,Nat.zero_mul] at u1
   rcases Nat.mul_eq_zero.1 u1 with h | h
   ·exact h
   ·exact absurd h (Nat.ne_of_gt (Nat.two_pow_pos 149))
  rw[if_pos ht,if_pos ht];exact⟨rfl,zbu.1,zbu.2⟩
 ·have hA:0<V.natAbs:=by omega
  have aI:0<n:=by
   rcases Nat.eq_zero_or_pos n with h | h
   ·rw[h,Nat.zero_mul] at hV;omega
   ·exact h
  rw[hV] at hlt;obtain⟨n',e',hr,aM,aK,hR,aC⟩:=zqJ aI hn hlt;have ht:0<(za0 V).top:=by
   rcases Nat.eq_zero_or_pos (za0 V).top with h | h
   ·rw[h,Nat.zero_mul] at u1
    have:=Nat.mul_pos hA u3;omega
   ·exact h
  have aA:(za0 V).bot*(n'*2^(e'+149).toNat)=(za0 V).top*2^149:=by rw[aC,←hV,u1,Nat.mul_comm]
  have aG:=u2 h0;generalize za0 V=q at *;have g1:=zrv ht u3 hr (Nat.le_of_eq aA.symm);have g2:=zq7 ht u3 hr (Nat.le_of_eq aA);have aE:=(zdD ht u3).1;have aD:=aE.lo;have aJ:=hr.lo;have aL:=aE.place;have ge:rung (flN q.top q.bot) (flE q.top q.bot)=rung n' e':=by omega
  have aF:flN q.top q.bot≠0:=by
   intro h;have aH:0<rung n' e':=by unfold rung;omega
   rw[h] at ge aD;have:flE q.top q.bot = -149:=by omega
   rw[this] at ge;have:rung 0 (-149)=0:=by decide
   omega
  rw[if_neg (by omega),if_neg aF,ge,if_neg (by omega),if_neg (by omega),if_neg aF,if_neg (by omega)];obtain⟨k1,k2⟩:=zfO q.neg hr hR;refine⟨rfl,k1,?_⟩;rw[k2,aG,aC,←hV]
  by_cases hs:V<0
  ·rw[decide_eq_true hs,if_pos rfl];omega
  ·rw[decide_eq_false hs,if_neg (by decide)];omega
theorem zh4{f:Nat}(h:fin Ieee.single f=true):∃ n k:Nat,n<16777216∧k≤253∧(key Ieee.single f).natAbs=n*2^k:=by
 unfold fin at h;unfold key
 split at h
 ·rename_i s m e hr
  obtain⟨h1,h2,h3⟩:=zd2 hr;refine⟨m,(e - -149).toNat,h1,by omega,?_⟩;rw[zaI];unfold Ieee.signed;rw[Nat.shiftLeft_eq]
  cases s
  ·simp only[Bool.false_eq_true,if_false,Int.natAbs_natCast]
  ·simp only[if_true,Int.natAbs_neg,Int.natAbs_natCast]
 ·cases h
theorem zop{f:Nat}(h:fin Ieee.single f=true):(key Ieee.single f).natAbs<topU:=by
 obtain⟨n,k,h1,h2,h3⟩:=zh4 h;rw[h3];have h4:n*2^k<16777216*2^253:=Nat.mul_lt_mul_of_lt_of_le h1 (Nat.pow_le_pow_right (by omega) h2) (Nat.two_pow_pos _);have h5:=zms.2;omega
end
section
open Go.RowKit Dn
def FewK (k:Nat) (s:ByteArray):Prop:=zan s.data.toList=0∧Small (zaf s.data.toList) k∧s.size≤2*k+2
def zp0 (k:Nat) (s:ByteArray) (b:Bool):Prop:=∀ W,Calls Tryz.prog 38 #[.string s,.int .i64 (k:Int)] W fun e w'=>e = .returned (.bool b)∧Below W.heap.size W w'
theorem zfh{k:Nat}(hk:k≤1000):∃ K2 L:Nat,K2=2*k∧L=2*k+2∧wrap64 (2*(k:Int))=(K2:Int)∧wrap64 ((K2:Int)+2)=(L:Int):=⟨2*k,2*k+2,rfl,rfl,by rw[IntWalk.wrap64_in _ (by omega)];omega,by rw[IntWalk.wrap64_in _ (by omega)];omega⟩
theorem zlY (k:Nat) (a:ByteArray) (b:Bool) (hk:k≤1000) (h1:a.size≤2*k+2) (h2:zan a.data.toList=0) (hb:b=(decide ((zaO (absQ (numQ (zaf a.data.toList)))).length≤k) && decide ((Lib.decDigits (zaf a.data.toList).bot).length≤k))) :
    zp0 k a b:=by
  intro w;obtain⟨K2,L,_,hL,w1,w2⟩:=zfh hk;have d1:decide ((a.size:Int)≤(L:Int))=true:=decide_eq_true (by omega);have hq:=zfT h2;have hC:∀ W,Calls Tryz.prog 10 #[.string a] W (RetC W 0):=fun W=>by
    have h:=zej a W (by omega)
    rwa [h2] at h
  have HC:=Aa hC;have HN:=Aa (fun W=>zp4 a _ W hq (by omega));have HA:=Aa (fun (s:ByteArray) (hs:NumQ s (numQ (zaf a.data.toList))) (hz:s.size≤1000000) (W:World)=>zmN s (numQ (zaf a.data.toList)) W hs hz);have HD:=Aa (fun W=>zqe a _ W hq (by omega));clear hC;generalize zaf a.data.toList=p at *;obtain⟨L2,aC⟩:∃ L2,L2=(Lib.decDigits p.bot).length:=⟨_,rfl⟩;obtain⟨L1,aE⟩:∃ L1,L1=(zaO (absQ (numQ p))).length:=⟨_,rfl⟩;rw[←aE,←aC] at hb;rw[←aC] at HD;have HZ:Hid (∀ t:ByteArray,NumQ t (absQ (numQ p))→t.size=L1):=fun t ht=>by
    have h9:=congrArg List.length ht.1;rw[←aE,Array.length_toList] at h9;exact h9
  clear hq h2 aE aC;have aA:(decide (L1≤k)=false∧b=false)∨(decide (L1≤k)=true∧Hid (decide (L2≤k)=b)):=by
    rw[hb]
    by_cases h3:L1≤k
    · refine .inr ⟨decide_eq_true h3,?_⟩
      rw[decide_eq_true h3,Bool.true_and];exact rfl
    · exact .inl ⟨decide_eq_false h3,by rw[decide_eq_false h3];rfl⟩
  clear hb
  rcases aA with⟨d3,rfl⟩ | ⟨d3,d4⟩
  all_goals
    go_enter Tryz.func38,Tryz.ntmps38
    go_wp2_with fail
    refine(HC.out w).mono ?_;rintro e w1 ⟨rfl,aD⟩
    go_wp2_with fail
    refine(HN.out w1).mono ?_;rintro e w2 ⟨⟨s,rfl,aF,aK⟩,rfl⟩;have HS:=Aa aF;clear aF
    go_wp2_with fail
    refine(HA.out s HS.out (by omega) w1).mono ?_;rintro e w3 ⟨⟨t,rfl,aH⟩,aI⟩;have aG:=Ad aD aI;have aJ:=HZ.out t aH;rw[←aJ] at d3;clear aH aI aD aJ
    go_wp2_with fail
    first
      | (go_ret
         exact⟨rfl,aG⟩)
      | (refine(HD.out w3).mono ?_
         rintro e w4 ⟨⟨u,rfl,hu⟩,rfl⟩;have HU:=Aa hu;clear hu;go_wp2
         go_ret;exact⟨by rw[←d4.out,←HU.out];rfl,aG⟩)
theorem zmI(k:Nat)(a:ByteArray)(h0:0<k)(hk:k≤1000):∃ b,(b=true→FewK k a)∧zp0 k a b:=by
 by_cases h1:a.size≤2*k+2
 ·by_cases h2:zan a.data.toList=0
  ·refine⟨_,fun hb=>⟨h2,?_,h1⟩,zlY k a _ hk h1 h2 rfl⟩
   simp only[Bool.and_eq_true,decide_eq_true_eq] at hb
   have hq:=zfT h2;generalize zaf a.data.toList=p at *;have aC:LowQ (numQ p):=⟨Nat.one_pos,Nat.gcd_one_right _,hq.2.2.2⟩;have ht:NumQ ⟨(zaO (absQ (numQ p))).toArray⟩ (absQ (numQ p)):=⟨by simp,zhA aC⟩;have aD:(⟨(zaO (absQ (numQ p))).toArray⟩:ByteArray).size≤k:=by
    show(zaO (absQ (numQ p))).toArray.size≤k
    rw[List.size_toArray];exact hb.1
   refine⟨(ht.small aD h0).1,?_⟩;have e2:=zbW _ (zaF p.bot);rw[za1] at e2;exact Nat.lt_of_lt_of_le e2 (Nat.pow_le_pow_right (by omega) hb.2)
  ·refine⟨false,(fun h=>by cases h),fun w => ?_⟩
   obtain⟨K2,L,_,hL,w1,w2⟩:=zfh hk;have d1:decide ((a.size:Int)≤(L:Int))=true:=decide_eq_true (by omega);have HC:=Aa (fun W=>zej a W (by omega));have d2:(zan a.data.toList==0)=false:=beq_eq_false_iff_ne.2 h2;generalize zan a.data.toList=E at *;clear h2;go_enter Tryz.func38,Tryz.ntmps38
   go_wp2_with fail
   refine(HC.out w).mono ?_;rintro e w1 ⟨rfl,aA⟩;go_wp2
   go_ret;exact⟨rfl,aA⟩
 ·refine⟨false,(fun h=>by cases h),fun w => ?_⟩
  obtain⟨K2,L,_,hL,w1,w2⟩:=zfh hk;have d1:decide ((a.size:Int)≤(L:Int))=false:=decide_eq_false (by omega);go_enter Tryz.func38,Tryz.ntmps38
  go_wp2
  go_ret;exact⟨rfl,Below.refl _ _⟩
end
section
open Go.RowKit Bn Dn
open Flt
theorem zns{s:ByteArray}{p:Q}{K:Nat}(h:NumQ s p)(hs:Small p K)(hK:K≤600)(hK0:0<K):zan s.data.toList=0∧zaf s.data.toList=p:=by
 rw[h.1];exact zgk p h.2 (Nat.le_trans (Dec.dec_length_le hK0 hs.1) hK) (Nat.le_trans (Dec.dec_length_le hK0 hs.2) hK)
theorem zrp{p:Q}{a:Int}{x:Nat}(h:Val p a x):Val (absQ p) (a.natAbs:Int) x:=by
 obtain⟨h1,h2,h3⟩:=h;have h4:=congrArg Int.natAbs h1;rw[Int.natAbs_mul,Int.natAbs_mul,zhk,Int.natAbs_natCast,Int.natAbs_natCast] at h4;refine⟨?_,h2,h3⟩;show(p.top:Int)*(x:Int)=(a.natAbs:Int)*(p.bot:Int)
 rw[←Int.natCast_mul,h4,Int.natCast_mul]
theorem zkl{p q:Q}{a b:Int}{x y:Nat}(h:Val p a x)(h':Val q b y):cmpI p q≤0↔a*(y:Int)≤b*(x:Int):=by
 obtain⟨c1,c2,c3⟩:=zgK h h';generalize a*(y:Int)=u at *;generalize b*(x:Int)=v at *
 rcases Int.lt_trichotomy u v with g | g | g
 ·have:=c1 g;omega
 ·have:=c2 g;omega
 ·have:=c3 g;omega
theorem zjx{V:Int}(h:V.natAbs<topU*8):Small (za0 V) 90:=by
 refine(zcv V).smallN (zcX V) (Nat.lt_trans h (by decide +kernel)) (by decide)
end
section
open Go.RowKit Bn Dn
theorem zpO{s:ByteArray}{p:Q}{K:Nat}(h:NumQ s p)(hs:Small p K)(hK:K≤600)(hK0:0<K):zan s.data.toList=0∧zaf s.data.toList=p:=by
 rw[h.1];exact zgk p h.2 (Nat.le_trans (Dec.dec_length_le hK0 hs.1) hK) (Nat.le_trans (Dec.dec_length_le hK0 hs.2) hK)
theorem zjB{p q:Q}{a b:Int}{d:Nat}(h:Val p a d)(h':Val q b d):cmpI p q≤0↔a≤b:=by
 rw[zkl h h'];have hd:(0:Int)<(d:Int):=by have:=h.2.1;omega
 exact⟨fun g=>Int.le_of_mul_le_mul_right g hd,fun g=>Int.mul_le_mul_of_nonneg_right g (by omega)⟩
theorem zkz{p q:Q}(hp:0<p.bot)(hq:0<q.bot):cmpI q p = - cmpI p q:=by
 rw[ziX hp hq,ziX hq hp,←Int.sign_neg]
 congr 1
 omega
theorem Val.inj{p:Q}{a b:Int}{d:Nat}(h:Val p a d)(h':Val p b d):a=b:=by
 have h1:cmpI p p≤0↔a≤b:=zjB h h';have h2:cmpI p p≤0↔b≤a:=zjB h' h;have h3:cmpI p p≤0:=(zjB h h).2 (Int.le_refl _);have:=h1.1 h3;have:=h2.1 h3;omega
theorem Val.scale{p:Q}{a:Int}{d:Nat}(h:Val p a d){k:Nat}(hk:0<k):Val p (a*(k:Int)) (d*k):=by
 refine h.trans (Nat.mul_pos h.2.1 hk) ?_;rw[Int.natCast_mul]
 grind
end
section
open Go.RowKit Bn Dn
open Flt
theorem znL{b P N T:Nat}(h1:2*(b*(N*P))≤2*T+b*P)(h2:2*T≤2*(b*(N*P))+b*P)(c:Int) :
  (((b*(N*P):Nat):Int)-(T:Int)).natAbs≤((b:Int)*(c*(P:Int))-(T:Int)).natAbs:=by
 have i1:((b*(N*P):Nat):Int)=((b*P:Nat):Int)*(N:Int):=by rw[Int.natCast_mul,Int.natCast_mul,Int.natCast_mul];grind
 have i2:(b:Int)*(c*(P:Int))=((b*P:Nat):Int)*c:=by rw[Int.natCast_mul];grind
 rw[i2];generalize b*(N*P)=X at *;generalize b*P=D at *;have hD:(0:Int)≤(D:Int):=Int.natCast_nonneg D
 rcases Int.lt_trichotomy c (N:Int) with h | h | h
 ·have:=Int.mul_le_mul_of_nonneg_left (show c≤(N:Int)-1 by omega) hD
  rw[Int.mul_sub,Int.mul_one] at this;omega
 ·rw[h];omega
 ·have:=Int.mul_le_mul_of_nonneg_left (show(N:Int)+1≤c by omega) hD
  rw[Int.mul_add,Int.mul_one] at this;omega
theorem zjA{n k p:Nat}(hn:n<16777216)(h:k<p):n*2^k≤8388608*2^p:=by
 have h1:(2:Nat)^(k+1)≤2^p:=Nat.pow_le_pow_right (by omega) h;have h2:(2:Nat)^(k+1)=2^k*2:=Nat.pow_succ ..;have h3:n*2^k≤16777216*2^k:=Nat.mul_le_mul_right _ (by omega);have h4:8388608*(2^k*2)≤8388608*2^p:=Nat.mul_le_mul_left _ (by omega);omega
theorem zkQ{t b n k:Nat}{Z:Int}(ht:0<t)(hb:0<b)(hn:n<16777216)(hZ:Z.natAbs=n*2^k) :
  (((b*(flN t b*2^(flE t b+149).toNat):Nat):Int)-((t*2^149:Nat):Int)).natAbs≤((b:Int)*Z-((t*2^149:Nat):Int)).natAbs:=by
 obtain⟨a1,a2⟩:=zq6 t b hb;have hu:=fun d hd=>(zfw ht hb d hd).1
 obtain⟨c1,c2,c3⟩:=zcf t b;have hm:=znL a1 a2;obtain⟨p,hp⟩:∃ p,p=(flE t b+149).toNat:=⟨_,rfl⟩;rw[←hp] at hm ⊢
 by_cases hk:p≤k
 ·have h2:(2:Nat)^k=2^(k-p)*2^p:=by rw[←Nat.pow_add];congr 1;omega
  have h3:Z=(if 0≤Z then((n*2^(k-p):Nat):Int) else -((n*2^(k-p):Nat):Int))*((2^p:Nat):Int):=by
   have h4:n*2^k=n*2^(k-p)*2^p:=by rw[h2,Nat.mul_assoc]
   rw[h4] at hZ
   split
   ·rw[←Int.natCast_mul];omega
   ·rw[Int.neg_mul,←Int.natCast_mul];omega
  rw[h3];exact hm _
 ·have hz:=zjA (k:=k) (p:=p) hn (by omega)
  rw[←hZ] at hz;have aA:=hu (p+23) (by omega);have aC:(2:Nat)^(p+23)=8388608*2^p:=by rw[Nat.pow_add,Nat.mul_comm]
  rw[aC] at aA;refine Nat.le_trans (hm 8388608) ?_;rw[show(8388608:Int)*((2^p:Nat):Int)=((8388608*2^p:Nat):Int) by rw[Int.natCast_mul];rfl];have aD:Z≤((8388608*2^p:Nat):Int):=by omega
  have aE:=Int.mul_le_mul_of_nonneg_left aD (Int.natCast_nonneg b);have aF:(b:Int)*((8388608*2^p:Nat):Int)≤((t*2^149:Nat):Int):=by rw[←Int.natCast_mul];omega
  generalize (b:Int)*((8388608*2^p:Nat):Int)=X at *;generalize ((t*2^149:Nat):Int)=T at *;generalize (b:Int)*Z=Y at *;omega
theorem zfP{p:Q}(hb:0<p.bot)(hx:flX p=0){z:Nat}(hz:fin Ieee.single z=true) :
  (key Ieee.single (flW p)*(p.bot:Int)-sI p*((2^149:Nat):Int)).natAbs≤(key Ieee.single z*(p.bot:Int)-sI p*((2^149:Nat):Int)).natAbs:=by
 rw[(zcN hb hx).2];obtain⟨n,k,hn, -,hk⟩:=zh4 hz;generalize key Ieee.single z=Z at *;unfold sI
 by_cases h0:p.top=0
 ·rw[if_pos h0,h0]
  split<;>simp
 ·rw[if_neg h0]
  have h1:=zkQ (t:=p.top) (b:=p.bot) (Z:=Z) (by omega) hb hn hk;have h2:=zkQ (t:=p.top) (b:=p.bot) (Z := -Z) (by omega) hb hn (by rw[Int.natAbs_neg];exact hk);generalize flN p.top p.bot*2^(flE p.top p.bot+149).toNat=V at *;rw[Int.natCast_mul p.bot V,Int.natCast_mul p.top (2^149)] at h1 h2;generalize ((2^149:Nat):Int)=U at *;unfold sgn
  split
  ·rw[Int.mul_neg] at h2
   rw[Int.neg_mul,Int.neg_mul,Int.mul_comm (V:Int),Int.mul_comm Z];generalize (p.bot:Int)*(V:Int)=A at *;generalize (p.bot:Int)*Z=B at *;generalize (p.top:Int)*U=C at *;omega
  ·rw[Int.mul_comm (V:Int),Int.mul_comm Z]
   exact h1
theorem zj6(p:Q):flX p=0∨flX p=4:=by
 unfold flX
 split
 ·exact .inl rfl
 ·split
  ·exact .inl rfl
  ·split
   ·exact .inr rfl
   ·exact .inl rfl
theorem zpV{p:Q}(hl:LowQ p)(hx:flX p=0){z:Nat}(hz:fin Ieee.single z=true):cmpI (absQ (subQ p (za0 (key Ieee.single (flW p))))) (absQ (subQ p (za0 (key Ieee.single z))))≤0:=by
 have h:=zfP hl.1 hx hz;have v:=fun V=>zrp ((zeI hl.1).sub (zcv V))
 refine(zkl (v _) (v _)).2 ?_;generalize key Ieee.single (flW p)=V at *;generalize key Ieee.single z=Z at *;generalize (2^149:Nat)=U at *;have e:∀ V:Int,(sI p*(U:Int)-V*(p.bot:Int)).natAbs=(V*(p.bot:Int)-sI p*(U:Int)).natAbs:=fun V=>by omega
 rw[e,e];exact Int.mul_le_mul_of_nonneg_right (by omega) (by omega)
theorem zf2{p q:Q}(hp:LowQ p)(hq:LowQ q)(hx:flX p=0)(hy:flX q=0)(h:cmpI p q≤0):key Ieee.single (flW p)≤key Ieee.single (flW q):=by
 rcases Int.lt_or_le (key Ieee.single (flW q)) (key Ieee.single (flW p)) with aC | aH
 ·exfalso
  have h1:=zfP hp.1 hx (zcN hq.1 hy).1;have h2:=zfP hq.1 hy (zcN hp.1 hx).1;have hc:=(zkl (zeI hp.1) (zeI hq.1)).1 h;have aE:p≠q:=fun e=>by rw[e] at aC;omega
  have hb:=hp.1;have hd:=hq.1;have aG:sI p*(q.bot:Int)≠sI q*(p.bot:Int):=fun e=>aE (zea hp hq e)
  clear aE h;generalize key Ieee.single (flW p)=V at *;generalize key Ieee.single (flW q)=W at *;have hU:(0:Int)<((2^149:Nat):Int):=by have:=Nat.two_pow_pos 149;omega
  generalize ((2^149:Nat):Int)=U at *;generalize sI p=s at *;generalize sI q=r at *;have aD:(0:Int)<(p.bot:Int):=by omega
  have aF:(0:Int)<(q.bot:Int):=by omega
  generalize (p.bot:Int)=x at *;generalize (q.bot:Int)=y at *;have k1:W*x<V*x:=Int.mul_lt_mul_of_pos_right aC aD;have k2:W*y<V*y:=Int.mul_lt_mul_of_pos_right aC aF;have g1:V*x+W*x≤2*(s*U):=by omega
  have g2:2*(r*U)≤V*y+W*y:=by omega
  have m1:=Int.mul_le_mul_of_nonneg_right g1 (Int.le_of_lt aF);have m2:=Int.mul_le_mul_of_nonneg_right g2 (Int.le_of_lt aD);have i1:(V*x+W*x)*y=(V*y+W*y)*x:=by grind
  have i2:2*(s*U)*y=2*U*(s*y):=by grind
  have i3:2*(r*U)*x=2*U*(r*x):=by grind
  have aA:s*y<r*x:=by omega
  have m3:=Int.mul_lt_mul_of_pos_left aA (show(0:Int)<2*U by omega);omega
 ·exact aH
theorem zkC(V W:Int):addQ (za0 V) (za0 W)=za0 (V+W):=by
 refine zhN ?_ (zbo _ (Nat.mul_pos (zcX V).1 (zcX W).1));refine((zcv V).add (zcv W)).trans (Nat.two_pow_pos _) ?_;generalize (2^149:Nat)=U;rw[Int.natCast_mul]
 grind
theorem zpt{p:Q}(hl:LowQ p)(hx:flX p=0){z:Nat}(hz:fin Ieee.single z=true)(hlt:key Ieee.single (flW p)<key Ieee.single z):cmpI p (mulQ (addQ (za0 (key Ieee.single (flW p))) (za0 (key Ieee.single z))) zfH)≤0:=by
 have h:=zfP hl.1 hx hz;rw[zkC];refine(zkl (zeI hl.1) ((zcv _).mul Val.half)).2 ?_;have aA:(0:Int)<(p.bot:Int):=by have:=hl.1;omega
 generalize key Ieee.single (flW p)=V at *;generalize key Ieee.single z=Z at *;have k1:=Int.mul_lt_mul_of_pos_right hlt aA;rw[Int.natCast_mul,Int.mul_one,Int.add_mul,←Int.mul_assoc];generalize ((2^149:Nat):Int)=U at *;generalize (p.bot:Int)=x at *;generalize sI p*U=S at *;omega
theorem zo7{z:Nat}(hz:fin Ieee.single z=true):flX (za0 (key Ieee.single z))=0∧fin Ieee.single (flW (za0 (key Ieee.single z)))=true∧key Ieee.single (flW (za0 (key Ieee.single z)))=key Ieee.single z:=by
 obtain⟨n,k,hn, -,hk⟩:=zh4 hz;exact znW hn hk (zop hz)
theorem zqS{x y:Nat}(hx:fin Ieee.single x=true)(hy:fin Ieee.single y=true):(FloatKind.f32.format.order x y==some .gt)=decide (key Ieee.single y<key Ieee.single x):=by
 show(Ieee.single.order x y==some .gt)=_
 rw[zba hx hy];generalize key Ieee.single x=X;generalize key Ieee.single y=Y
 rcases Int.lt_trichotomy X Y with h | h | h
 ·rw[zda h,decide_eq_false (by omega)];rfl
 ·rw[h,zd3,decide_eq_false (by omega)];rfl
 ·rw[zdR h,decide_eq_true h];rfl
theorem zrt{x y:Nat}(hx:fin Ieee.single x=true)(hy:fin Ieee.single y=true):(FloatKind.f32.format.order x y==some .lt)=decide (key Ieee.single x<key Ieee.single y):=by
 show(Ieee.single.order x y==some .lt)=_
 rw[zba hx hy];generalize key Ieee.single x=X;generalize key Ieee.single y=Y
 rcases Int.lt_trichotomy X Y with h | h | h
 ·rw[zda h,decide_eq_true h];rfl
 ·rw[h,zd3,decide_eq_false (by omega)];rfl
 ·rw[zdR h,decide_eq_false (by omega)];rfl
end
end Go.Proofs.YtbkgkoenppkhpaaGreatDoor
