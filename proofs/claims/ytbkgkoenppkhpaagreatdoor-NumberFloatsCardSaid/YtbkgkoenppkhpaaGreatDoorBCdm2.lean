/- Plain facts: a voltage is below an edge, as the program decides it, if it is less than the edge. No program. -/
import Derived.Test.YtbkgkoenppkhpaaGreatDoorBKn8
set_option maxRecDepth 100000
set_option maxHeartbeats 2000000
namespace Go.Proofs.YtbkgkoenppkhpaaGreatDoor
section
open Go.RowKit Bn
open Flt
theorem zgb{l:List UInt8}(h:zan l=0):LowQ (zaf l):=⟨zeS h,zm6 h,znC h⟩
theorem ze3:fin Ieee.single 0=true∧key Ieee.single 0=0:=by decide +kernel
end
section
open Go.RowKit Dn
theorem zfT{a:ByteArray}(h:zan a.data.toList=0):NumQ a (zaf a.data.toList):=⟨(zjF _ h).symm,zgb h⟩
def twoQ:Q:=⟨false,2,1⟩
theorem zd6:NumQ ⟨#[50]⟩ twoQ:=⟨by decide +kernel,by decide,by decide,fun h=>by cases h⟩
theorem zii:recQ twoQ=zfH:=zma zd6.2 rfl (by decide)
end
section
open Go.RowKit Bn
open Flt
def Val (p:Q) (num:Int) (den:Nat):Prop:=sI p*(den:Int)=num*(p.bot:Int)∧0<den∧0<p.bot
theorem Val.frac {num:Int} {den:Nat} (h:0<den):Val (zcn num den) num den:=⟨zmd h,h,(zbo num h).1⟩
theorem Val.trans {p:Q} {a b:Int} {x y:Nat} (h:Val p a x) (hy:0<y) (e:a*(y:Int)=b*(x:Int)):Val p b y:=by
 obtain⟨h1,h2,h3⟩:=h;refine⟨?_,hy,h3⟩;have hx:(x:Int)≠0:=by omega
 apply Int.eq_of_mul_eq_mul_right hx
 grind
theorem Val.eq{p q:Q}{a b:Int}{x y:Nat}(h:Val p a x)(h':Val q b y)(hp:LowQ p)(hq:LowQ q)(e:a*(y:Int)=b*(x:Int)):p=q:=by
 obtain⟨h1,h2,h3⟩:=h;obtain⟨k1,k2,k3⟩:=h';refine zea hp hq ?_;have hx:((x:Int)*(y:Int))≠0:=Int.mul_ne_zero (by omega) (by omega)
 apply Int.eq_of_mul_eq_mul_right hx
 grind
theorem Val.mul{p q:Q}{a b:Int}{x y:Nat}(h:Val p a x)(h':Val q b y):Val (mulQ p q) (a*b) (x*y):=by
 obtain⟨h1,h2,h3⟩:=h;obtain⟨k1,k2,k3⟩:=h';have hv:Val (mulQ p q) (sI p*sI q) (p.bot*q.bot):=Val.frac (Nat.mul_pos h3 k3);refine hv.trans (Nat.mul_pos h2 k2) ?_;rw[Int.natCast_mul,Int.natCast_mul]
 grind
theorem Val.sub{p q:Q}{a b:Int}{x y:Nat}(h:Val p a x)(h':Val q b y):Val (subQ p q) (a*y-b*x) (x*y):=by
 obtain⟨h1,h2,h3⟩:=h;obtain⟨k1,k2,k3⟩:=h';have hv:Val (subQ p q) (sI p*(q.bot:Int)-sI q*(p.bot:Int)) (p.bot*q.bot):=Val.frac (Nat.mul_pos h3 k3);refine hv.trans (Nat.mul_pos h2 k2) ?_;rw[Int.natCast_mul,Int.natCast_mul]
 grind
theorem Val.int(z:Int):Val (intQ z) z 1:=by
 refine⟨?_,Nat.one_pos,Nat.one_pos⟩;show sgn (decide (z<0)) z.natAbs*1=z*1
 unfold sgn
 by_cases h:z<0
 ·rw[decide_eq_true h,if_pos rfl]
  omega
 ·rw[decide_eq_false h,if_neg (by simp)]
  omega
theorem Val.half:Val zfH 1 2:=⟨by decide,by decide,by decide⟩
theorem Val.sign{q:Q}{num:Int}{den:Nat}(h:Val q num den):(num<0→zcy q = -1)∧(num=0→zcy q=0)∧(0<num→zcy q=1):=by
 obtain⟨h1,h2,h3⟩:=h;have hb:(0:Int)<(q.bot:Int):=by omega
 have hd:(0:Int)<(den:Int):=by omega
 have hs:sI q=if q.neg then -(q.top:Int) else(q.top:Int):=rfl
 unfold zcy;refine⟨fun hn => ?_,fun hn => ?_,fun hn => ?_⟩
 ·have aC:sI q*(den:Int)<0:=by rw[h1];exact Int.mul_neg_of_neg_of_pos hn hb
  have aA:sI q<0:=by
   rcases Int.lt_or_le (sI q) 0 with h9 | h9
   ·exact h9
   ·have:=Int.mul_nonneg h9 (Int.le_of_lt hd);omega
  rw[hs] at aA;have ht:q.top≠0:=by intro h9;rw[h9] at aA;simp at aA
  rw[if_neg ht]
  cases hq:q.neg
  ·rw[hq] at aA;simp at aA;omega
  ·simp
 ·rw[hn,Int.zero_mul] at h1
  have h0:=(Int.mul_eq_zero.1 h1).resolve_right (by omega);rw[hs] at h0;have ht:q.top=0:=by split at h0<;>omega
  rw[if_pos ht]
 ·have aC:0<sI q*(den:Int):=by rw[h1];exact Int.mul_pos hn hb
  have aA:0<sI q:=by
   rcases Int.lt_or_le 0 (sI q) with h9 | h9
   ·exact h9
   ·have:=Int.mul_nonpos_of_nonpos_of_nonneg h9 (Int.le_of_lt hd);omega
  rw[hs] at aA;have ht:q.top≠0:=by intro h9;rw[h9] at aA;simp at aA
  rw[if_neg ht]
  cases hq:q.neg
  ·simp
  ·rw[hq] at aA;simp at aA;omega
end
section
open Go.RowKit
open Flt
def zjd (n:Nat) (e:Int) (m:Nat) (k:Int):Prop:=m<16777216 ∧ -149≤k∧k≤104∧m*2^149*2^k.toNat=n*2^(e+149).toNat*2^(-k).toNat
theorem zka{n n2 m j i:Nat}{e e' e2:Int}(h:m<16777216)(hj:e'+j=e)(hj2:j=0∨0≤e')(ht:e≤104)(hi:i≤149)(hij:0<i→j=0)(hw:m*2^149=n2*2^(e2+149).toNat)(hv:n2*2^(e2+149).toNat=n*2^(e'+149).toNat*2^i) :
  zjd n e m ((j:Int)-(i:Int)):=by
 refine⟨h,by omega,?_,?_⟩
 ·rcases hj2 with rfl | h9<;>omega
 ·rw[hw,hv]
  rcases Nat.eq_zero_or_pos j with rfl | h1
  ·have he:e'=e:=by omega
   rw[he,show((0:Nat):Int)-(i:Int) = -(i:Int) by omega,show(-(i:Int)).toNat=0 by omega,show(-(-(i:Int))).toNat=i by omega,Nat.pow_zero,Nat.mul_one]
  ·have h2:i=0:=by
    rcases Nat.eq_zero_or_pos i with h9 | h9
    ·exact h9
    ·have:=hij h9;omega
   subst h2;have h3:0≤e':=by omega
   rw[show((j:Nat):Int)-((0:Nat):Int)=(j:Int) by omega,show((j:Int)).toNat=j by omega,show(-(j:Int)).toNat=0 by omega,Nat.pow_zero,Nat.mul_one,Nat.mul_one,Nat.mul_assoc,←Nat.pow_add,show(e'+149).toNat+j=(e+149).toNat by omega]
theorem zjY(f n:Nat)(e:Int)(w:World)(h:Ps f n e) :
  Calls Tryz.prog 92 #[.float .f32 f] w fun en w'=>(∃ (m:Nat) (k:Int),en = .returned (.tuple #[.int .i64 (m:Int),.int .i64 k])∧zjd n e m k)∧w=w':=by
 have aT:=h.lo;have aF:=h.top;have H0:=Aa h;clear h;go_enter Tryz.func92,Tryz.ntmps92
 go_wp2
 go_loopg [0,4] e.toNat (fun g v0 v4 W=>∃ (f':Nat) (e':Int) (j:Nat),v0 = .float .f32 f'∧v4 = .int .i64 (j:Int)∧g=e'.toNat∧Hid (Ps f' n e')∧e'+j=e∧(j=0∨0≤e')∧W=w)
 case atStart=>exact⟨f,e,0,rfl,rfl,rfl,H0,by omega,.inl rfl,rfl⟩
 case round=>
  obtain⟨f',e',j,rfl,rfl,rfl,hp,hj,aK,rfl⟩:=hrel;have aE:=hp.out.ge24
  by_cases he:1≤e'
  ·rw[decide_eq_true he] at aE
   obtain⟨r,hr,pr⟩:=hp.out.half he;have ha:=fun W=>run_float_arith (P:=Tryz.prog) W .quo 46 .f32 f' 1073741824 r hr
   have aR:j≤104:=by omega
   obtain⟨jj,aW⟩:∃ jj,jj=j+1:=⟨_,rfl⟩;have hw:IntKind.i64.wrap ((j:Int)+1)=(jj:Int):=by rw[IntWalk.i64_in _ (by omega)];omega
   have HP:=Aa pr;clear pr hr;go_wp2
   go_roundg (e'-1).toNat
   case rel=>exact⟨r,e'-1,jj,rfl,(by congr 1;omega),rfl,HP,by omega,.inr (by omega),rfl⟩
   case measure=>omega
  ·rw[decide_eq_false he] at aE
   go_wp2
   go_loopg [0,4] 149 (fun g v0 v4 W=>∃ (f2 n2:Nat) (e2:Int) (i:Nat) (kk:Int),v0 = .float .f32 f2∧v4 = .int .i64 kk∧kk=(j:Int)-(i:Int)∧g+i=149∧Hid (Ps f2 n2 e2)∧e2≤0∧Hid (n2*2^(e2+149).toNat=n*2^(e'+149).toNat*2^i)∧(0<i→j=0)∧W=wr)
   case atStart=>exact⟨f',n,e',0,(j:Int),rfl,rfl,by omega,rfl,hp,by omega,by show _=_;rw[Nat.pow_zero,Nat.mul_one],fun h=>absurd h (by omega),rfl⟩
   case round=>
    obtain⟨f2,n2,e2,i,kk,rfl,rfl,aO,aQ,aC,aD,hv,aM,rfl⟩:=hrel;obtain⟨m,hm⟩:∃ m,m=n2/2^(-e2).toNat:=⟨_,rfl⟩;have aJ:=aC.out.whole aD m hm;have aA:=aC.out.int aD;rw[←hm] at aA;have aU:=fun W=>run_convert_float_int (P:=Tryz.prog) W 46 3 .f32 .i64 f2 (m:Int) (by kernel_rfl) Tryz.underlying3 aA
    have aN:m<16777216:=by
     have h1:n2/2^(-e2).toNat≤n2:=Nat.div_le_self _ _;have h2:=aC.out.hi;omega
    by_cases hz:m*2^149=n2*2^(e2+149).toNat
    ·rw[decide_eq_true hz,Bool.not_true] at aJ
     have HR:Hid (zjd n e m kk):=by
      show zjd n e m kk
      rw[aO];exact zka aN hj aK aF (by omega) aM hz hv.out
     clear hz hv hm aA aM aE;go_wp2
     go_ret2
     exact⟨⟨m,kk,rfl,HR.out⟩,rfl⟩
    ·rw[decide_eq_false hz,Bool.not_false] at aJ
     rw[hm] at hz;obtain⟨n0,e0,aG⟩:=aC.out.not_whole aD hz;have aL:i<149:=by
      rcases Nat.lt_or_ge i 149 with h9 | h9
      ·exact h9
      ·exfalso
       refine aG ?_;rw[hv.out];exact Nat.dvd_trans (Nat.pow_dvd_pow 2 h9) (Nat.dvd_mul_left _ _)
     have aP:j=0:=by
      rcases aK with h9 | h9
      ·exact h9
      ·exfalso
       refine aG ?_;rw[hv.out,show e'=0 by omega,Nat.mul_right_comm];exact Nat.dvd_mul_left _ _
     obtain⟨r,n',aH,hr,pr,aI,aV⟩:=aC.out.twice n0 aD;have ha:=fun W=>run_float_arith (P:=Tryz.prog) W .mul 46 .f32 f2 1073741824 r hr
     obtain⟨k2,aS⟩:∃ k2,k2=kk-1:=⟨_,rfl⟩;have hw:IntKind.i64.wrap (kk-1)=k2:=by rw[IntWalk.i64_in _ (by omega)];omega
     have HP:=Aa pr;have HV:Hid (n'*2^(aH+149).toNat=n*2^(e'+149).toNat*2^(i+1)):=by
      show _=_
      rw[aI,hv.out,Nat.pow_succ,Nat.mul_comm 2,Nat.mul_assoc]
     clear pr hr hv aI hz aG hm aA aE;go_wp2
     go_roundg (149-(i+1))
     case rel=>exact⟨r,n',aH,i+1,k2,rfl,(by congr 1;omega),by omega,by omega,HP,by omega,HV,fun _=>aP,rfl⟩
     case measure=>omega
theorem Val.pow(k:Nat):Val (powQ twoQ k) ((2^k:Nat):Int) 1:=by
 refine⟨?_,Nat.one_pos,Nat.pow_pos (by decide)⟩;show((2^k:Nat):Int)*1=((2^k:Nat):Int)*((1^k:Nat):Int)
 rw[Nat.one_pow];rfl
theorem Val.powN(k:Nat):Val (powQ (recQ twoQ) k) 1 (2^k):=by
 rw[zii];refine⟨?_,Nat.two_pow_pos k,Nat.pow_pos (by decide)⟩;show((1^k:Nat):Int)*((2^k:Nat):Int)=1*((2^k:Nat):Int)
 rw[Nat.one_pow];rfl
theorem zgK{p q:Q}{a b:Int}{x y:Nat}(h:Val p a x)(h':Val q b y):(a*y<b*x→cmpI p q = -1)∧(a*y=b*x→cmpI p q=0)∧(b*x<a*y→cmpI p q=1):=by
 have h9:=(h.sub h').sign;unfold cmpI;exact⟨fun e=>h9.1 (by omega),fun e=>h9.2.1 (by omega),fun e=>h9.2.2 (by omega)⟩
theorem zgn(a:ByteArray)(p:Q)(k N:Nat)(w:World)(h:NumQ a p)(hn:p.neg=false)(hs:Small p N)(hk:k≤200)(hN:N≤20) :
  Calls Tryz.prog 94 #[.string a,.int .i64 (k:Int)] w (RetS w (powQ p k)):=by
 have aL:NumQ a (powQ p 1):=by
  have e:powQ p 1=p:=by
   obtain⟨n,t,b⟩:=p
   dsimp only at hn
   subst hn;unfold powQ;simp
  rw[e];exact h
 have aJ:∀ (s:ByteArray) (e:Nat),NumQ s (powQ p e)→e≤401→s.size≤20000:=fun s e h9 he=>by
  have h1:=h9.size (zog hs e) (by omega);have h2:N*e≤20*401:=Nat.mul_le_mul hN he;omega
 have aE:∀ (s t:ByteArray) (i j:Nat),NumQ s (powQ p i)→NumQ t (powQ p j)→i≤401→j≤401→∀ W:World,Calls Tryz.prog 48 #[.string s,.string t] W (RetS W (powQ p (i+j))):=fun s t i j h1 h2 hi hj W=>by
  have h9:=zko s t _ _ W h1 h2 (by have:=aJ s i h1 hi;omega) (by have:=aJ t j h2 hj;omega)
  rwa [zpi h.2] at h9
 have HM:=Aa aE;have d0:decide ((k:Int)<0)=false:=by simp
 have H1:Hid (zkY p k k a ⟨#[49]⟩):=⟨1,0,aL,zqw,by omega,by omega,by omega⟩;clear aJ aE aL h hn hs;go_enter Tryz.func94,Tryz.ntmps94
 go_wp2
 go_loopg [0,1,5] k (fun g v0 v1 v5 W=>∃ (i:Nat) (t s:ByteArray),v0 = .string t∧v1 = .int .i64 (i:Int)∧v5 = .string s∧i≤g∧i≤k∧Hid (zkY p k i t s)∧Below w.heap.size w W)
 case atStart=>exact⟨k,a,_,rfl,rfl,rfl,Nat.le_refl _,Nat.le_refl _,H1.out,Below.refl _ _⟩
 case round=>
  obtain⟨i,t,s,rfl,rfl,rfl,hg,aR,aD,aC⟩:=hrel;obtain⟨e,r,ht,hs,aH,he,hr⟩:=aD.out
  by_cases h0:i=0
  ·subst h0
   have hR:NumQ s (powQ p k):=by
    rw[Nat.mul_zero,Nat.add_zero] at aH;rw[←aH];exact hs
   have HR:=Aa hR;clear hR aH ht hs aD;go_wp2
   go_ret;exact⟨⟨s,rfl,HR.out⟩,aC⟩
  ·have aQ:e≤k:=by
    have:e*1≤e*i:=Nat.mul_le_mul_left e (by omega);omega
   have d1:decide (0<i)=true:=by simp;omega
   obtain⟨i2,aP⟩:∃ i2,i2=i/2:=⟨_,rfl⟩;have ed:(i:Int)/2=(i2:Int):=by omega
   have aN:=Aa (HM.out t t e e ht ht (by omega) (by omega))
   by_cases hodd:i%2=1
   ·have eo:(i:Int)%2=1:=by omega
    have aI:e*i=e+(e+e)*i2:=by
     have:i=1+2*i2:=by omega
     rw[this,Nat.mul_add,Nat.mul_one,Nat.add_mul,←Nat.mul_assoc,Nat.mul_comm e 2,Nat.two_mul,Nat.add_mul]
    have HO:=Aa (HM.out s t r e hs ht (by omega) (by omega));have HI:Hid (∀ t2 s2:ByteArray,NumQ t2 (powQ p (e+e))→NumQ s2 (powQ p (r+e))→zkY p k i2 t2 s2):=fun t2 s2 h1 h2=>⟨e+e,r+e,h1,h2,by omega,by omega,by omega⟩
    have aA:i2≤k∧i2<i:=by omega
    have aG:=Aa aA;clear aP hodd aI aH ht hs aD aA
    go_wp2_with fail
    refine(HO.out wr).mono ?_;rintro e1 w1 ⟨⟨s2,rfl,aM⟩,aO⟩
    go_wp2_with fail
    refine(aN.out w1).mono ?_;rintro e2 w2 ⟨⟨t2,rfl,aF⟩,aK⟩;have HN:=Aa (HI.out t2 s2 aF aM);clear aM aF;go_wp2
    go_roundg i2
    case measure=>have:=aG.out;omega
    case rel=>exact⟨i2,t2,s2,rfl,rfl,rfl,Nat.le_refl _,aG.out.1,HN.out,aC.trans ((aO.trans (aK.mono aO.size)).mono aC.size)⟩
   ·have eo:(i:Int)%2=0:=by omega
    have aI:e*i=(e+e)*i2:=by
     have:i=2*i2:=by omega
     rw[this,←Nat.mul_assoc,Nat.mul_comm e 2,Nat.two_mul]
    have HI:Hid (∀ t2:ByteArray,NumQ t2 (powQ p (e+e))→zkY p k i2 t2 s):=fun t2 h1=>⟨e+e,r,h1,hs,by omega,by omega,by omega⟩
    have aA:i2≤k∧i2<i:=by omega
    have aG:=Aa aA;clear aP hodd aI aH ht hs aD aA
    go_wp2_with fail
    refine(aN.out wr).mono ?_;rintro e2 w2 ⟨⟨t2,rfl,aF⟩,aK⟩;have HN:=Aa (HI.out t2 aF);clear aF;go_wp2
    go_roundg i2
    case measure=>have:=aG.out;omega
    case rel=>exact⟨i2,t2,s,rfl,rfl,rfl,Nat.le_refl _,aG.out.1,HN.out,aC.trans (aK.mono aC.size)⟩
theorem zip(a:ByteArray)(p:Q)(m N:Nat)(w:World)(h:NumQ a p)(hn:p.neg=false)(ht:0<p.top)(hs:Small p N)(hm:0<m)(hk:m≤200)(hN:N≤20)(ha:a.size≤100000) :
  Calls Tryz.prog 94 #[.string a,.int .i64 (-(m:Int))] w (RetS w (powQ (recQ p) m)):=by
 have aC:(recQ p).neg=false:=by rw[zma h.2 hn ht]
 have HR:=Aa (zrR a p w h hn ht ha);have HP:=Aa (fun (s:ByteArray) (h9:NumQ s (recQ p)) (W:World)=>zgn s (recQ p) m N W h9 aC (zpk hs ht) hk hN);have d0:decide (-(m:Int)<0)=true:=by simp only[decide_eq_true_eq];omega
 have aE : -(m:Int)<0:=by omega
 obtain⟨z,hz⟩:∃ z:Int, -(m:Int)=z:=⟨_,rfl⟩;have ez:0-z=(m:Int):=by omega
 have aF : -z=(m:Int):=by omega
 have aG : -200≤z:=by omega
 rw[hz] at d0 aE ⊢;clear hz h hn hs aC;go_enter Tryz.func94,Tryz.ntmps94
 go_wp2_with fail
 refine HR.out.mono ?_;rintro e w1 ⟨⟨s,rfl,h9⟩,aA⟩
 go_wp2_with fail
 refine(HP.out s h9 w1).mono ?_;rintro e w2 ⟨⟨t,rfl,h8⟩,aD⟩;go_wp2
 go_ret;exact⟨⟨t,rfl,h8⟩,aA.trans (aD.mono aA.size)⟩
theorem zjD(n:Nat)(h:n<16777216):Small (intQ (n:Int)) 20:=⟨by show(n:Int).natAbs<10^20;rw[Int.natAbs_natCast];exact Nat.lt_trans h (by decide),by show 1<10^20;decide⟩
end
section
open Go.RowKit Dn
open Flt
def za0 (V:Int):Q:=zcn V (2^149)
theorem zcX (V:Int):LowQ (za0 V):=zbo _ (Nat.two_pow_pos _)
theorem zcv (V:Int):Val (za0 V) V (2^149):=Val.frac (Nat.two_pow_pos _)
theorem zhN {q:Q} {V:Int} (h:Val q V (2^149)) (hl:LowQ q):q=za0 V:=h.eq (zcv V) hl (zcX V) rfl
def twoK (k:Int):Q:=if 0≤k then powQ twoQ k.toNat else powQ (recQ twoQ) (-k).toNat
theorem zpb (k:Int):LowQ (twoK k):=by
 unfold twoK
 split
 ·exact zeM zd6.2 _
 ·rw[zii]
  exact zeM zfU.2 _
theorem zk4{k:Int}(h : -149≤k∧k≤104):Small (twoK k) 50:=by
 have hp:∀ j,j≤149→2^j<10^50:=fun j hj=>Nat.lt_of_le_of_lt (Nat.pow_le_pow_right (by omega) hj) (by decide)
 unfold twoK
 split
 ·exact⟨hp _ (by omega),by show 1^_<_;rw[Nat.one_pow];decide⟩
 ·rw[zii]
  exact⟨by show 1^_<_;rw[Nat.one_pow];decide,hp _ (by omega)⟩
theorem zmW(k:Int)(w:World)(h : -149≤k∧k≤104):Calls Tryz.prog 94 #[.string ⟨#[50]⟩,.int .i64 k] w (RetS w (twoK k)):=by
 have aA:Small twoQ 1:=⟨by decide,by decide⟩;unfold twoK
 split
 ·have h:=zgn ⟨#[50]⟩ twoQ k.toNat 1 w zd6 rfl aA (by omega) (by omega)
  rwa [Int.toNat_of_nonneg (by assumption)] at h
 ·have h:=zip ⟨#[50]⟩ twoQ (-k).toNat 1 w zd6 rfl (by decide) aA (by omega) (by omega) (by omega) (by decide)
  rwa [Int.toNat_of_nonneg (by omega),Int.neg_neg] at h
theorem zku{n m:Nat}{e k:Int}(h:zjd n e m k):mulQ (intQ (m:Int)) (twoK k)=za0 ((n*2^(e+149).toNat:Nat):Int):=by
 obtain⟨_,_,_,h4⟩:=h;have hT:0<(2:Nat)^149:=Nat.two_pow_pos _;refine zhN ?_ (zbo _ (Nat.mul_pos Nat.one_pos (zpb k).1));unfold twoK;generalize n*2^(e+149).toNat=V at *;generalize (2:Nat)^149=T at *
 split
 ·rw[show(-k).toNat=0 by omega,Nat.pow_zero,Nat.mul_one] at h4
  refine((Val.int (m:Int)).mul (Val.pow k.toNat)).trans hT ?_;have:(V:Int)=(m:Int)*(T:Int)*((2^k.toNat:Nat):Int):=by rw[←h4];push_cast;rfl
  rw[this];generalize ((2^k.toNat:Nat):Int)=P
  push_cast
  grind
 ·rw[show k.toNat=0 by omega,Nat.pow_zero,Nat.mul_one] at h4
  refine((Val.int (m:Int)).mul (Val.powN (-k).toNat)).trans hT ?_;have:(m:Int)*(T:Int)=(V:Int)*((2^(-k).toNat:Nat):Int):=by exact_mod_cast h4
  rw[Int.natCast_mul,Int.mul_one,this]
  push_cast
  grind
def zde (f:Nat) (V:Int):Prop:=∀ W,Calls Tryz.prog 92 #[.float .f32 f] W fun en w'=>(∃ (m:Nat) (k:Int),en = .returned (.tuple #[.int .i64 (m:Int),.int .i64 k])∧m<16777216 ∧ -149≤k∧k≤104∧mulQ (intQ (m:Int)) (twoK k)=za0 V)∧W=w'
theorem zeO{f n:Nat}{e:Int}(h:Ps f n e):zde f ((n*2^(e+149).toNat:Nat):Int):=fun W=>
 (zjY f n e W h).mono fun _ _ ⟨⟨m,k,he,hp⟩,hw⟩=>⟨⟨m,k,he,hp.1,hp.2.1,hp.2.2.1,zku hp⟩,hw⟩
theorem zhe {f:Nat} {e:Int} (h:Ieee.single.read f = .number true 0 e) (hf:fin Ieee.single f=true) (hk:key Ieee.single f=0):zde f 0:=by
 intro w;have aC:fin Ieee.single 1266679808=true∧0<key Ieee.single 1266679808:=⟨by decide +kernel,by decide +kernel⟩;have z0:=zi4 0 (by omega);have hz:((0:Nat):Int)=0:=rfl;rw[hz] at z0;have t1:(FloatKind.f32.format.order f 1266679808==some .gt || FloatKind.f32.format.order f 1266679808==some .eq)=false:=by
  show(Ieee.single.order f 1266679808==some .gt || Ieee.single.order f 1266679808==some .eq)=false
  rw[zba hf aC.1,hk,zda aC.2];rfl
 have t2:(FloatKind.f32.format.order f (floatOfInt .f32 0) != some .eq)=false:=by
  show(Ieee.single.order f (floatOfInt .f32 0) != some .eq)=false
  rw[zba hf z0.1,hk,z0.2,zd3];rfl
 have aA:floatToIntVal .f32 f .i64=some 0:=by
  have hd:FloatKind.f32.decode f = .number true 0 e:=h;unfold floatToIntVal;rw[hd];have e1:(Ieee.Datum.number true 0 e).toInt .zero=some 0:=by
   show some (Ieee.signed true (Ieee.Toward.cut .zero true (0 <<< e.toNat) (-e).toNat) 0)=_
   have e2:Ieee.Toward.cut .zero true (0 <<< e.toNat) (-e).toNat=0:=by
    show(0 <<< e.toNat)/(1 <<< min (-e).toNat ((0 <<< e.toNat).log2+2))+0=0
    rw[Nat.zero_shiftLeft,Nat.zero_div]
   rw[e2];rfl
  rw[e1];rfl
 have aD:=fun W=>run_convert_float_int (P:=Tryz.prog) W 46 3 .f32 .i64 f 0 (by kernel_rfl) Tryz.underlying3 aA
 clear aA h hf hk z0 aC hz;have HR:Hid (mulQ (intQ ((0:Nat):Int)) (twoK 0)=za0 0):=by
  have h:=zku (n:=0) (e:=0) (m:=0) (k:=0) ⟨by omega,by omega,by omega,by simp⟩;rw[Nat.zero_mul] at h;exact h
 go_enter Tryz.func92,Tryz.ntmps92
 go_wp2
 go_loopg [0,4] 0 (fun g v0 v4 W=>g=0∧v0 = .float .f32 f∧v4 = .int .i64 0∧W=w)
 case atStart=>exact⟨rfl,rfl,rfl,rfl⟩
 case round=>
  obtain⟨rfl,rfl,rfl,rfl⟩:=hrel;go_wp2
  go_loopg [0,4] 0 (fun g v0 v4 W=>g=0∧v0 = .float .f32 f∧v4 = .int .i64 0∧W=wr)
  case atStart=>exact⟨rfl,rfl,rfl,rfl⟩
  case round=>
   obtain⟨rfl,rfl,rfl,rfl⟩:=hrel;go_wp2
   go_ret2
   exact⟨⟨0,0,rfl,by omega,by omega,by omega,HR.out⟩,rfl⟩
theorem zge(f:Nat)(V:Int)(w:World)(h0:(FloatKind.f32.format.order f 0==some .lt)=false)(hP:zde f V) :
  Calls Tryz.prog 33 #[.float .f32 f] w (RetS w (za0 V)):=by
 have HP:=Aa hP;clear hP;go_enter Tryz.func33,Tryz.ntmps33
 go_wp2_with fail
 refine(HP.out w).mono ?_;rintro e w1 ⟨⟨m,k,rfl,hm,aD,aG,hq⟩,rfl⟩;have HQ:=Aa hq;have aA:∀ s:ByteArray,NumQ s (intQ (m:Int))→s.size≤42:=fun s hs=>hs.size (zjD m hm) (by omega)
 have aC:∀ s:ByteArray,NumQ s (twoK k)→s.size≤102:=fun s hs=>hs.size (zk4 ⟨aD,aG⟩) (by omega)
 have HF:=Aa (fun W=>zfy (m:Int) W (by omega) (by omega));have HK:=Aa (fun W=>zmW k W ⟨aD,aG⟩);have HM:Hid (∀ (s t:ByteArray) W,NumQ s (intQ (m:Int))→NumQ t (twoK k)→Calls Tryz.prog 48 #[.string s,.string t] W (RetS W (za0 V))):=fun s t W hs ht=>by
  rw[←HQ.out];exact zko s t _ _ W hs ht (by have:=aA s hs;omega) (by have:=aC t ht;omega)
 clear hq aA aC
 go_wp2_with fail
 refine(HF.out w).mono ?_;rintro e w2 ⟨⟨s,rfl,hs⟩,aF⟩
 go_wp2_with fail
 refine(HK.out w2).mono ?_;rintro e w3 ⟨⟨t,rfl,ht⟩,aH⟩;have aE:=Ad aF aH
 go_wp2_with fail
 refine(HM.out s t w3 hs ht).mono ?_;rintro e w4 ⟨⟨u,rfl,hu⟩,aI⟩;go_wp2
 go_ret;exact⟨⟨u,rfl,hu⟩,aE.trans (aI.mono aE.size)⟩
theorem zfZ(s:Bool){n k:Nat}{p q:Int}(h0:0<n)(h:n<16777216)(hc:q = -149∨8388608≤n)(hq:p+k=q)(he : -149≤q)(he2:q≤104):Ieee.single.write (.number s (n*2^k) p)=Ieee.single.word s (rung n q):=by
 have aC:(2:Nat)^24=16777216:=by decide
 have hl:n.log2<24:=(Nat.log2_lt (by omega)).2 (by omega);have aA:8388608≤n→n.log2=23:=fun h9=>zpw h9 h
 refine(zeb s h0 rfl hq ?_ ?_).trans rfl
 ·rcases hc with h9 | h9
  ·omega
  ·have:=aA h9;omega
 ·have:=zb1 h he he2
  unfold rung at this;omega
theorem znm{f n:Nat}{e:Int}(h:Ieee.single.read f = .number true n e)(h0:0<n):∃ r,floatBits .sub .f32 0 f=some r∧Ps r n e:=by
 obtain⟨h1,h2,h3⟩:=zd2 h;have hc:=zga h;refine⟨Ieee.single.word false (rung n e),?_,Ps.wd ⟨h2,by omega,hc⟩ h1 h3⟩;show((Ieee.single.read 0).sum (Ieee.single.read f).opposite).map Ieee.single.write=_
 rw[h,zhI];obtain⟨k,hk⟩:∃ k:Nat,(e+149).toNat=k:=⟨_,rfl⟩;have hm:min (-149:Int) e = -149:=by omega
 have aC:(e - -149).toNat=k:=by omega
 have aA:0<n*2^k:=Nat.mul_pos (by omega) (Nat.two_pow_pos _);have ht:Ieee.signed false 0 ((-149:Int) - -149).toNat+Ieee.signed (!true) n k=((n*2^k:Nat):Int):=by
  unfold Ieee.signed;rw[Nat.shiftLeft_eq,Nat.shiftLeft_eq];simp
 show some (Ieee.single.write (.number (if Ieee.signed false 0 ((-149:Int)-min (-149) e).toNat+Ieee.signed (!true) n (e-min (-149) e).toNat=0 then false && !true else decide (Ieee.signed false 0 ((-149:Int)-min (-149) e).toNat+Ieee.signed (!true) n (e-min (-149) e).toNat<0)) (Ieee.signed false 0 ((-149:Int)-min (-149) e).toNat+Ieee.signed (!true) n (e-min (-149) e).toNat).natAbs (min (-149) e)))=_
 rw[hm,aC,ht];have hw:=zfZ false h0 h1 (k:=k) (p := -149) (q:=e) hc (by omega) h2 h3;generalize n*2^k=M at *;rw[if_neg (show ¬ (M:Int)=0 by omega),show decide ((M:Int)<0)=false from decide_eq_false (by omega),show(M:Int).natAbs=M by omega,hw]
theorem zdH{f:Nat}(hf:fin Ieee.single f=true):(FloatKind.f32.format.order f 0==some .lt)=decide (key Ieee.single f<0):=by
 show(Ieee.single.order f 0==some .lt)=_
 rw[zba hf ze3.1,ze3.2];generalize key Ieee.single f=K
 rcases Int.lt_trichotomy K 0 with h | h | h
 ·rw[zda h,decide_eq_true h];rfl
 ·rw[h,zd3];rfl
 ·rw[zdR h,decide_eq_false (by omega)];rfl
theorem zkw{q:Q}{V:Int}(h:q=za0 V):negQ q=za0 (-V):=by
 subst h;refine zhN ?_ (zig (zcX V));obtain⟨h1,h2,h3⟩:=zcv V;refine⟨?_,h2,h3⟩;rw[zqa,Int.neg_mul,h1,Int.neg_mul];rfl
theorem zdb{f:Nat}(hf:fin Ieee.single f=true):Small (za0 (key Ieee.single f)) 90:=by
 have hT:(2:Nat)^149<10^90:=by decide
 refine zcB ?_ hT (Nat.two_pow_pos _);unfold fin at hf
 split at hf
 ·rename_i s n e h
  obtain⟨h1,h2,h3⟩:=zd2 h;have hk:(key Ieee.single f).natAbs=n*2^(e+149).toNat:=by
   unfold Flt.key;rw[h,zaI];simp only[Ieee.signed,Nat.shiftLeft_eq]
   rw[show(e - -149).toNat=(e+149).toNat from by omega]
   cases s
   ·simp only[Bool.false_eq_true,if_false]
    exact Int.natAbs_natCast _
   ·simp only[if_true]
    rw[Int.natAbs_neg];exact Int.natAbs_natCast _
  rw[hk];have h4:n*2^(e+149).toNat≤16777216*2^253:=Nat.mul_le_mul (by omega) (Nat.pow_le_pow_right (by omega) (by omega));have h5:16777216*2^253<10^90:=by decide
  omega
 ·cases hf
theorem zli(f:Nat)(w:World)(hf:fin Ieee.single f=true) :
  Calls Tryz.prog 33 #[.float .f32 f] w (RetS w (za0 (key Ieee.single f))):=by
 have aA:=zdH hf;have aD:=zdb hf;have aC:=hf;unfold fin at aC
 split at aC
 ·rename_i s n e h
  cases s
  ·have hp:=Ps.of h
   have hk:=hp.key.2;rw[hk] at aA ⊢;exact zge f _ w (by rw[aA];exact decide_eq_false (by omega)) (zeO hp)
  ·have hk:key Ieee.single f = -((n*2^(e+149).toNat:Nat):Int):=by
    unfold Flt.key;rw[h,zaI];simp only[Ieee.signed,Nat.shiftLeft_eq]
    rw[show(e - -149).toNat=(e+149).toNat from by omega];rfl
   rcases Nat.eq_zero_or_pos n with rfl | h0
   ·have aI:key Ieee.single f=0:=by rw[hk,Nat.zero_mul];rfl
    rw[aI] at aA ⊢;exact zge f 0 w (by rw[aA];rfl) (zhe h hf aI)
   ·obtain⟨r,hr,pr⟩:=znm h h0
    have aF:=pr.key;have aE:=zdH aF.1;rw[aF.2] at aE;have HX:=Aa (fun W=>zge r _ W (by rw[aE];exact decide_eq_false (by omega)) (zeO pr));have hV:0<n*2^(e+149).toNat:=Nat.mul_pos h0 (Nat.two_pow_pos _);rw[hk] at aA aD ⊢;generalize n*2^(e+149).toNat=V at *;rw[decide_eq_true (by omega)] at aA;have aH:∀ t:ByteArray,NumQ t (za0 (V:Int))→t.size≤182:=fun t ht=>by
     have e1:=zkw (V := -(V:Int)) rfl;rw[Int.neg_neg] at e1;rw[←e1] at ht;exact ht.size (zeT aD) (by omega)
    have HN:Hid (∀ (t:ByteArray) W,NumQ t (za0 (V:Int))→Calls Tryz.prog 42 #[.string t] W (RetS W (za0 (-(V:Int))))):=fun t W ht=>by
     have h9:=znk t _ W ht (by have:=aH t ht;omega)
     rwa [zkw rfl] at h9
    have ha:=fun W=>run_float_arith (P:=Tryz.prog) W .sub 46 .f32 0 f r hr
    clear hf aC h h0 pr hr aF aE aD hk hV aH;go_enter Tryz.func33,Tryz.ntmps33
    go_wp2_with fail
    refine(HX.out w).mono ?_;rintro e1 w1 ⟨⟨t,rfl,ht⟩,aG⟩
    go_wp2_with fail
    refine(HN.out t w1 ht).mono ?_;rintro e2 w2 ⟨⟨u,rfl,hu⟩,aJ⟩;go_wp2
    go_ret;exact⟨⟨u,rfl,hu⟩,aG.trans (aJ.mono aG.size)⟩
 ·cases aC
end
section
open Go.RowKit Bn Dn
open Flt
theorem zbu:fin Ieee.single 0=true∧key Ieee.single 0=0:=by decide +kernel
theorem zkI{f:Nat}(h:fin Ieee.single f=true):exQ f=za0 (key Ieee.single f)∧zau (exQ f)=0:=by
 have hk:=h;unfold fin at h
 split at h
 ·rename_i s m e hr
  obtain⟨h1,h2,h3⟩:=zd2 hr;have aA:key Ieee.single f=sgn s (m*2^(e+149).toNat):=by
   unfold key;rw[hr,zaI]
   dsimp only
   rw[show e - -149=e+149 by omega];unfold Ieee.signed sgn;rw[Nat.shiftLeft_eq]
  rcases Nat.eq_zero_or_pos m with rfl | hm
  ·have e1:exQ f=⟨false,0,1⟩:=by
    unfold exQ;rw[hr];exact if_pos rfl
   have e2:key Ieee.single f=0:=by
    rw[aA,Nat.zero_mul];unfold sgn
    split<;>rfl
   rw[e1,e2];exact⟨(zen (Nat.two_pow_pos _)).symm,by kernel_rfl⟩
  ·obtain⟨x1,x2,x3,x4,x5⟩:=zqm hr hm h1 h2 h3
   refine⟨zhN ⟨?_,Nat.two_pow_pos _,x1.1⟩ x1,?_⟩
   ·rw[aA]
    have aC:((exQ f).top:Int)*((2^149:Nat):Int)=((m*2^(e+149).toNat:Nat):Int)*((exQ f).bot:Int):=by rw[←Int.natCast_mul,x3,Int.natCast_mul]
    generalize exQ f=E at *;generalize m*2^(e+149).toNat=V at *;generalize (2:Nat)^149=T at *;unfold sI sgn;rw[x2]
    cases s
    ·simpa using aC
    ·simp only[if_true,Int.neg_mul,aC]
   ·unfold zau
    rw[if_neg (by have:=x1.1;omega),if_neg (by have:=zmv x4;have:=zmv x5;omega)]
 ·cases h
theorem zk3(f:Nat)(w:World)(hT:Tabs w)(h:fin Ieee.single f=true) :
  Calls Tryz.prog 30 #[.float .f32 f] w fun e w'=>(∃ s:ByteArray,e = .returned (.tuple #[.string s,.int .i64 0])∧NumQ s (za0 (key Ieee.single f)))∧Below w.heap.size w w':=by
 obtain⟨h1,h2⟩:=zkI h;refine(zgC f w hT).mono ?_;rintro e w' ⟨s,rfl,hs,hb⟩;rw[if_pos h] at hs;rw[if_pos h,h2];unfold zbr at hs;rw[if_pos h2,h1] at hs;exact⟨⟨s,rfl,hs,zcX _⟩,hb⟩
theorem zeI {p:Q} (hb:0<p.bot):Val p (sI p) p.bot:=⟨rfl,hb,hb⟩
theorem zhJ (p q:Q) (hp:0<p.bot) (hq:0<q.bot):LowQ (subQ p q):=zbo _ (Nat.mul_pos hp hq)
theorem zhY (p q:Q) (hp:0<p.bot) (hq:0<q.bot):LowQ (mulQ p q):=zbo _ (Nat.mul_pos hp hq)
end
end Go.Proofs.YtbkgkoenppkhpaaGreatDoor
