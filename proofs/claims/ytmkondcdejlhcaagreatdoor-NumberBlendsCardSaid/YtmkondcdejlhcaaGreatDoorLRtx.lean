/- Plain facts of decimal texts: the text of a number in lowest terms, read again, is the number; the text of what was read is the text. No program. -/
import Derived.Test.YtmkondcdejlhcaaGreatDoorBText
import Derived.Test.YtmkondcdejlhcaaGreatDoorBRat2
import Derived.Test.YtmkondcdejlhcaaGreatDoorBEx3
import Derived.Test.YtmkondcdejlhcaaGreatDoorBRb20
import Derived.Test.YtmkondcdejlhcaaGreatDoorBRb17
import Derived.Test.YtmkondcdejlhcaaGreatDoorBRb24
import Derived.Test.YtmkondcdejlhcaaGreatDoorBDw
import Derived.Laws.Cover2
import Derived.Test.YtmkondcdejlhcaaGreatDoorBSp2
import Derived.Test.YtmkondcdejlhcaaGreatDoorBKn5
import Derived.Deep.LoopGhost
import Derived.Test.YtmkondcdejlhcaaGreatDoorBSh5
import Derived.Test.YtmkondcdejlhcaaGreatDoorBLdx2
import Derived.Test.YtmkondcdejlhcaaGreatDoorBFloat
import Derived.Test.YtmkondcdejlhcaaGreatDoorBShelf
import Derived.Deep.RegionHeld3
import Derived.Test.YtmkondcdejlhcaaGreatDoorBWords
import Derived.Shelf.SlSorted.Search
import Derived.Test.YtmkondcdejlhcaaGreatDoorBRb3
import Derived.Test.YtmkondcdejlhcaaGreatDoorBKn8
import Derived.Test.YtmkondcdejlhcaaGreatDoorBSp8
import Derived.Test.YtmkondcdejlhcaaGreatDoorBFl3
import Derived.Laws.FloatArith
import Derived.Laws.StructEq
set_option maxRecDepth 100000
set_option maxHeartbeats 2000000
namespace Go.Proofs.YtmkondcdejlhcaaGreatDoor
section
open Go.RowKit Bn
theorem ziN (n:Nat):Lib.decDigits n≠[]:=by
 have:=Dec.dec_length_pos n;intro h;rw [h] at this;simp at this
theorem ziD {n:Nat} (h:0<n):(Lib.decDigits n).head? ≠ some 48:=by
 induction n using Nat.strongRecOn with
 | ind n ih=>
  rw [Lib.decDigits]
  split
  ·rename_i h1
   intro e;simp only [List.head?_cons,Option.some.injEq] at e
   have:=congrArg UInt8.toNat e;rw [zds h1] at this;have aC:(48:UInt8).toNat=48:=by decide
   omega
  ·rename_i h1
   have h2:=ih (n / 10) (by omega) (by omega);obtain ⟨x,t,aA⟩:=List.exists_cons_of_ne_nil (ziN (n / 10));rw [aA] at h2 ⊢;exact h2
theorem zcS (n:Nat):zaF (Lib.decDigits n)=true:=by
 unfold zaF;rw [zaA,Bool.true_and]
 rcases Nat.eq_zero_or_pos n with rfl | h
 ·have e:Lib.decDigits 0=[48]:=by rw [Lib.decDigits];rfl
  simp [e]
 ·simp [ziN,ziD h]
theorem zis {neg:Bool} {t:List UInt8} (h:zau t=true):Lib.hasPrefix (sgnT neg t) [45]=neg∧Lib.trimPrefix (sgnT neg t) [45]=t:=by
 have h0:∀ neg,Lib.hasPrefix (sgnT neg t) [45]=neg:=by
  intro neg
  cases neg
  ·unfold sgnT Lib.hasPrefix
   cases t with
   | nil=>rfl
   | cons x r=>
    have:=(zdm h (List.mem_cons_self ..)).1;have hx:((45:UInt8)==x)=false:=by
     rw [beq_eq_false_iff_ne];intro e;rw [←e] at this;exact absurd this (by decide)
    simp [List.isPrefixOf,hx]
  ·rfl
 refine ⟨h0 neg,?_⟩;unfold Lib.trimPrefix;rw [h0 neg]
 cases neg<;>rfl
theorem ziw {n:Nat} (h:n≠1):Lib.decDigits n≠[49]:=fun e=>by
 have:=zaG n;rw [e] at this;have h49:zaj [49]=1:=by decide
 omega
theorem zcY (p:Q) (h:LowQ p) (h1:(Lib.decDigits p.top).length≤600) (h2:(Lib.decDigits p.bot).length≤600):zad (zaq p)=0∧zab (zaq p)=p:=by
 obtain ⟨hb,hg,hn⟩:=h;obtain ⟨hp,ht⟩:=zis (neg:=p.neg) (zaA p.top)
 by_cases hb1:p.bot=1
 ·have hc:cutL (zaq p)=(sgnT p.neg (Lib.decDigits p.top),[],false):=by
   rw [zaP,if_pos hb1,List.append_nil];exact zgv (zb8 (zaA _))
  have e1:topL (zaq p)=Lib.decDigits p.top:=by unfold topL;rw [hc];exact ht
  have e2:negL (zaq p)=p.neg:=by unfold negL;rw [hc];exact hp
  have e3:botL (zaq p)=[]:=by unfold botL;rw [hc]
  have e4:zc3 (zaq p)=false:=by unfold zc3;rw [hc]
  have he:zad (zaq p)=0:=by
   unfold zad zbe;rw [e1,e2,e3,e4,if_neg,if_neg,if_neg,if_neg]
   ·simp
   ·simp;exact h1
   ·simp
   ·rw [zcS]
    rintro (h | ⟨h,h'⟩)
    ·cases h
    ·exact zdV (hn h) h'
  refine ⟨he,?_⟩;unfold zab;rw [if_pos he,e1,e2,e4,zaG]
  cases p
  simp_all
 ·have hc:cutL (zaq p)=(sgnT p.neg (Lib.decDigits p.top),Lib.decDigits p.bot,true):=by
   rw [zaP,if_neg hb1];exact zfy (zb8 (zaA _))
  have e1:topL (zaq p)=Lib.decDigits p.top:=by unfold topL;rw [hc];exact ht
  have e2:negL (zaq p)=p.neg:=by unfold negL;rw [hc];exact hp
  have e3:botL (zaq p)=Lib.decDigits p.bot:=by unfold botL;rw [hc]
  have e4:zc3 (zaq p)=true:=by unfold zc3;rw [hc]
  have he:zad (zaq p)=0:=by
   unfold zad zbe;rw [e1,e2,e3,e4,if_neg,if_neg,if_neg,if_neg]
   ·rw [zaG,zaG]
    simp [hg]
   ·omega
   ·rw [zcS]
    rintro ⟨_,h | h | h⟩
    ·cases h
    ·exact zdV hb h
    ·exact ziw hb1 h
   ·rw [zcS]
    rintro (h | ⟨h,h'⟩)
    ·cases h
    ·exact zdV (hn h) h'
  refine ⟨he,?_⟩;unfold zab;rw [if_pos he,e1,e2,e3,e4,zaG,zaG];rfl
theorem zdz {p q:Q} (hp:0<p.bot) (hq:0<q.bot):cmpI p q=(sI p*(q.bot:Int) - sI q*(p.bot:Int)).sign:=zfs (Nat.mul_pos hp hq)
end
section
open Go.RowKit Dn
theorem Small.more {p:Q} {N M:Nat} (h:Small p N) (hM:N≤M):Small p M:=
 ⟨Nat.lt_of_lt_of_le h.1 (Nat.pow_le_pow_right (by omega) hM),Nat.lt_of_lt_of_le h.2 (Nat.pow_le_pow_right (by omega) hM)⟩
def zdx:Q:=⟨false,1,2⟩
theorem ziz:NumQ ⟨#[49,47,50]⟩ zdx:=⟨by decide +kernel,by decide,by decide,fun h=>by cases h⟩
theorem zqj (a:ByteArray) (p:Q) (w:World) (h:NumQ a p) (ha:a.size≤100000) :
  Calls Tryz.prog 42 #[.string a] w (RetS w (mulQ p zdx)):=by
 have HM:=Aa (zhv a ⟨#[49,47,50]⟩ p zdx w h ziz ha (by decide));go_enter Tryz.func42,Tryz.ntmps42
 go_wp2_with fail
 refine HM.out.mono ?_;rintro e w1 ⟨⟨s,rfl,hs⟩,aA⟩;go_wp2
 go_ret;exact ⟨⟨s,rfl,hs⟩,aA⟩
theorem zoi:NumQ ⟨#[49]⟩ ⟨false,1,1⟩:=⟨by decide +kernel,by decide,by decide,fun h=>by cases h⟩
def recS (p:Q):Q:=⟨p.neg,p.bot,p.top⟩
theorem ze7 {p:Q} (h:LowQ p) (h0:0<p.top):LowQ (recS p):=⟨h0,by have:=h.2.1;rwa [Nat.gcd_comm] at this,fun _=>h.1⟩
theorem zex {p:Q} {N:Nat} (h:Small p N):Small (recS p) N:=⟨h.2,h.1⟩
end
section
open Go.RowKit Bn
def addR (p q:Q):Q:=zcd p q
def subR (p q:Q):Q:=za5 p q
def mulR (p q:Q):Q:=lowQ (p.neg != q.neg) (p.top*q.top) (p.bot*q.bot)
def divR (p q:Q):Q:=lowQ (p.neg != q.neg) (p.top*q.bot) (p.bot*q.top)
theorem PtsR.later {w w':World} {A:Option Addr} {n:Nat} {C:List (ByteArray × ByteArray)} (h:PtsR w w.heap.size A n C) (hb:Below w.heap.size w w'):PtsR w' w'.heap.size A n C:=by
 have h1:=h.below hb;refine ⟨h1.1,fun h0 => ?_⟩;obtain ⟨ad,e,aA,hc⟩:=h1.2 h0;exact ⟨ad,e,Nat.lt_of_lt_of_le aA hb.size,hc⟩
end
section
open Go.RowKit Dn
theorem zfu {l:List UInt8} {N:Nat} (h:zad l=0) (hN:N=600):Small (zab l) N:=by
 obtain ⟨h1,h2,_,hf⟩:=zct h;rw [←hN] at h2 hf;have aA:1≤N:=by omega
 clear hN;unfold zab Small;rw [if_pos h];refine ⟨Nat.lt_of_lt_of_le (zbo _ (zas h1)) (Nat.pow_le_pow_right (by omega) h2),?_⟩
 cases hb:zc3 l
 ·simp only [Bool.false_eq_true,if_false]
  have h9:10 ^ 1≤10 ^ N:=Nat.pow_le_pow_right (by omega) aA;omega
 ·obtain ⟨h3,_,_,h4,_⟩:=hf hb
  simp only [if_true]
  exact Nat.lt_of_lt_of_le (zbo _ (zas h3)) (Nat.pow_le_pow_right (by omega) h4)
theorem zeh {a:ByteArray} (h:zad a.data.toList=0):a.size≤1202:=by
 obtain ⟨N,hN⟩:∃ N:Nat,N=600:=⟨_,rfl⟩;have:=(zbA h).size (zfu h hN) (by omega);omega
theorem zhD:Small zdx 1:=⟨by decide,by decide⟩
end
section
open Go.RowKit Bn
open Flt
theorem zdE (b:Bool) (t d:Nat):lowQ b t d=zbg (sgn b t) d:=by
 unfold zbg;rw [zc1,zbT];unfold lowQ
 by_cases hd:d=0
 ·rw [if_pos hd,if_pos hd]
 ·rw [if_neg hd,if_neg hd]
  by_cases ht:t=0
  ·rw [if_pos ht,if_pos ht]
  ·rw [if_neg ht,if_neg ht,decide_eq_true (Nat.pos_of_ne_zero ht),Bool.and_true]
theorem ze9 (p:Q):sI p=sgn p.neg p.top:=rfl
theorem zdn (p q:Q):lowQ (p.neg != q.neg) (p.top*q.top) (p.bot*q.bot)=mulQ p q:=by
 rw [zdE];unfold mulQ;rw [ze9,ze9,←ziC]
 cases p.neg<;>cases q.neg<;>rfl
theorem zem (p q:Q):zcd p q=addQ p q:=by
 unfold zcd addQ;rw [ze9,ze9];have e1:∀ b x y,sgn b x*(y:Nat)=sgn b (x*y):=by
  intro b x y;unfold sgn
  cases b<;>simp [Int.natCast_mul,Int.neg_mul]
 rw [e1,e1];generalize p.top*q.bot=u;generalize q.top*p.bot=v;generalize p.bot*q.bot=d
 split
 ·rename_i h
  rw [h,zdE]
  congr 1
  unfold sgn
  cases q.neg<;>simp<;>omega
 ·rename_i h
  split
  ·rename_i h2
   rw [zdE]
   congr 1
   unfold sgn
   cases hp:p.neg<;>cases hq:q.neg<;>rw [hp,hq] at h<;>simp at h ⊢ <;> omega
  ·rename_i h2
   rw [zdE]
   congr 1
   unfold sgn
   cases hp:p.neg<;>cases hq:q.neg<;>rw [hp,hq] at h<;>simp at h ⊢ <;> omega
theorem zdk {p:Q} {N:Nat} (h:Small p N) (hN:N≤600) (hN0:0<N) (hb:0<p.bot):zao p=0∧zaJ p=zaq p:=by
 have h1:=Dec.dec_length_le hN0 h.1;have h2:=Dec.dec_length_le hN0 h.2;have h0:zao p=0:=by
  unfold zao;rw [if_neg (by omega),if_neg (by omega)]
 exact ⟨h0,by unfold zaJ;rw [if_pos h0]⟩
end
section
open Go.RowKit Bn Dn
theorem zid (q:Q):zca q=negQ q:=by
 unfold zca negQ
 congr 1
 rcases Nat.eq_zero_or_pos q.top with h | h
 ·rw [decide_eq_true h,decide_eq_false (by omega)];rfl
 ·rw [decide_eq_false (by omega),decide_eq_true h];rfl
theorem zcK (p q:Q):subR p q=subQ p q:=by
 unfold subR za5;rw [zem,zid,zga]
theorem zfj (p q:Q):addR p q=addQ p q:=zem p q
theorem zfm (p q:Q):mulR p q=mulQ p q:=zdn p q
theorem zf5 (p q:Q):divR p q=mulQ p (recS q):=zdn p (recS q)
theorem zcg {p q:Q} (hp:LowQ p) (hq:LowQ q):rcmp p q=cmpI p q:=by
 rw [zdz hp.1 hq.1];obtain ⟨pn,pt,pb⟩:=p;obtain ⟨qn,qt,qb⟩:=q;obtain ⟨p1,_,p3⟩:=hp;obtain ⟨q1,_,q3⟩:=hq
 dsimp only at *
 unfold rcmp sI ncmp
 dsimp only
 have e1:(pt:Int)*(qb:Int)=((pt*qb:Nat):Int):=by rw [Int.natCast_mul]
 have e2:(qt:Int)*(pb:Int)=((qt*pb:Nat):Int):=by rw [Int.natCast_mul]
 cases pn<;>cases qn
 ·simp only [Bool.false_eq_true,if_false,if_true,e1,e2]
  generalize pt*qb=x;generalize qt*pb=y
  split
  ·rw [Int.sign_eq_neg_one_of_neg (by omega)]
  ·split
   ·rename_i h;rw [h,Int.sub_self];rfl
   ·rw [Int.sign_eq_one_of_pos (by omega)]
 ·have hy:0<qt*pb:=Nat.mul_pos (q3 rfl) p1
  simp only [Bool.false_eq_true,if_false,if_true,Int.neg_mul,e1,e2,reduceCtorEq]
  rw [Int.sign_eq_one_of_pos (by omega)]
 ·have hx:0<pt*qb:=Nat.mul_pos (p3 rfl) q1
  simp only [Bool.false_eq_true,if_false,if_true,Int.neg_mul,e1,e2,reduceCtorEq]
  rw [Int.sign_eq_neg_one_of_neg (by omega)]
 ·simp only [if_true,Int.neg_mul,e1,e2]
  generalize pt*qb=x;generalize qt*pb=y
  split
  ·rw [Int.sign_eq_one_of_pos (by omega)];rfl
  ·split
   ·rename_i h;rw [h];simp
   ·rw [Int.sign_eq_neg_one_of_neg (by omega)]
end
section
open Go.RowKit Bn
open Flt
def Val (p:Q) (num:Int) (den:Nat):Prop:=sI p*(den:Int)=num*(p.bot:Int)∧0<den∧0<p.bot
theorem Val.frac {num:Int} {den:Nat} (h:0<den):Val (zbg num den) num den:=⟨zld h,h,(zaQ num h).1⟩
theorem Val.trans {p:Q} {a b:Int} {x y:Nat} (h:Val p a x) (hy:0<y) (e:a*(y:Int)=b*(x:Int)):Val p b y:=by
 obtain ⟨h1,h2,h3⟩:=h;refine ⟨?_,hy,h3⟩;have hx:(x:Int)≠0:=by omega
 apply Int.eq_of_mul_eq_mul_right hx
 grind
theorem Val.eq {p q:Q} {a b:Int} {x y:Nat} (h:Val p a x) (h':Val q b y) (hp:LowQ p) (hq:LowQ q) (e:a*(y:Int)=b*(x:Int)):p=q:=by
 obtain ⟨h1,h2,h3⟩:=h;obtain ⟨k1,k2,k3⟩:=h';refine zeq hp hq ?_;have hx:((x:Int)*(y:Int))≠0:=Int.mul_ne_zero (by omega) (by omega)
 apply Int.eq_of_mul_eq_mul_right hx
 grind
theorem Val.mul {p q:Q} {a b:Int} {x y:Nat} (h:Val p a x) (h':Val q b y):Val (mulQ p q) (a*b) (x*y):=by
 obtain ⟨h1,h2,h3⟩:=h;obtain ⟨k1,k2,k3⟩:=h';have hv:Val (mulQ p q) (sI p*sI q) (p.bot*q.bot):=Val.frac (Nat.mul_pos h3 k3);refine hv.trans (Nat.mul_pos h2 k2) ?_;rw [Int.natCast_mul,Int.natCast_mul]
 grind
theorem Val.add {p q:Q} {a b:Int} {x y:Nat} (h:Val p a x) (h':Val q b y):Val (addQ p q) (a*y+b*x) (x*y):=by
 obtain ⟨h1,h2,h3⟩:=h;obtain ⟨k1,k2,k3⟩:=h';have hv:Val (addQ p q) (sI p*(q.bot:Int)+sI q*(p.bot:Int)) (p.bot*q.bot):=Val.frac (Nat.mul_pos h3 k3);refine hv.trans (Nat.mul_pos h2 k2) ?_;rw [Int.natCast_mul,Int.natCast_mul]
 grind
theorem Val.sub {p q:Q} {a b:Int} {x y:Nat} (h:Val p a x) (h':Val q b y):Val (subQ p q) (a*y - b*x) (x*y):=by
 obtain ⟨h1,h2,h3⟩:=h;obtain ⟨k1,k2,k3⟩:=h';have hv:Val (subQ p q) (sI p*(q.bot:Int) - sI q*(p.bot:Int)) (p.bot*q.bot):=Val.frac (Nat.mul_pos h3 k3);refine hv.trans (Nat.mul_pos h2 k2) ?_;rw [Int.natCast_mul,Int.natCast_mul]
 grind
theorem Val.half:Val zdx 1 2:=⟨by decide,by decide,by decide⟩
theorem Val.sign {q:Q} {num:Int} {den:Nat} (h:Val q num den):(num<0→zcm q = -1)∧(num=0→zcm q=0)∧(0<num→zcm q=1):=by
 obtain ⟨h1,h2,h3⟩:=h;have hb:(0:Int)<(q.bot:Int):=by omega
 have hd:(0:Int)<(den:Int):=by omega
 have hs:sI q=if q.neg then -(q.top:Int) else (q.top:Int):=rfl
 unfold zcm;refine ⟨fun hn => ?_,fun hn => ?_,fun hn => ?_⟩
 ·have aC:sI q*(den:Int)<0:=by rw [h1];exact Int.mul_neg_of_neg_of_pos hn hb
  have aA:sI q<0:=by
   rcases Int.lt_or_le (sI q) 0 with h9 | h9
   ·exact h9
   ·have:=Int.mul_nonneg h9 (Int.le_of_lt hd);omega
  rw [hs] at aA;have ht:q.top≠0:=by intro h9;rw [h9] at aA;simp at aA
  rw [if_neg ht]
  cases hq:q.neg
  ·rw [hq] at aA;simp at aA;omega
  ·simp
 ·rw [hn,Int.zero_mul] at h1
  have h0:=(Int.mul_eq_zero.1 h1).resolve_right (by omega);rw [hs] at h0;have ht:q.top=0:=by split at h0<;>omega
  rw [if_pos ht]
 ·have aC:0<sI q*(den:Int):=by rw [h1];exact Int.mul_pos hn hb
  have aA:0<sI q:=by
   rcases Int.lt_or_le 0 (sI q) with h9 | h9
   ·exact h9
   ·have:=Int.mul_nonpos_of_nonpos_of_nonneg h9 (Int.le_of_lt hd);omega
  rw [hs] at aA;have ht:q.top≠0:=by intro h9;rw [h9] at aA;simp at aA
  rw [if_neg ht]
  cases hq:q.neg
  ·simp
  ·rw [hq] at aA;simp at aA;omega
end
section
open Go.RowKit
open Flt
theorem zgX {p q:Q} {a b:Int} {x y:Nat} (h:Val p a x) (h':Val q b y):(a*y<b*x→cmpI p q = -1)∧(a*y=b*x→cmpI p q=0)∧(b*x<a*y→cmpI p q=1):=by
 have h9:=(h.sub h').sign;unfold cmpI;exact ⟨fun e=>h9.1 (by omega),fun e=>h9.2.1 (by omega),fun e=>h9.2.2 (by omega)⟩
end
section
open Go.RowKit Dn
def FewK (k:Nat) (s:ByteArray):Prop:=zad s.data.toList=0∧Small (zab s.data.toList) k∧s.size≤2*k+2
def zja (k:Nat) (s:ByteArray) (b:Bool):Prop:=∀ W,Calls Tryz.prog 35 #[.string s,.int .i64 (k:Int)] W fun e w'=>e = .returned (.bool b)∧Below W.heap.size W w'
theorem zcr {k:Nat} (hk:k≤1000):∃ K2 L:Nat,K2=2*k∧L=2*k+2∧wrap64 (2*(k:Int))=(K2:Int)∧wrap64 ((K2:Int)+2)=(L:Int):=⟨2*k,2*k+2,rfl,rfl,by rw [IntWalk.wrap64_in _ (by omega)];omega,by rw [IntWalk.wrap64_in _ (by omega)];omega⟩
theorem zfP (k:Nat) (a:ByteArray) (b:Bool) (hk:k≤1000) (h1:a.size≤2*k+2) (h2:zad a.data.toList=0) (hb:b=(decide ((zaq (absQ (numQ (zab a.data.toList)))).length≤k) && decide ((Lib.decDigits (zab a.data.toList).bot).length≤k))) :
    zja k a b:=by
  intro w;obtain ⟨K2,L,_,hL,w1,w2⟩:=zcr hk;have d1:decide ((a.size:Int)≤(L:Int))=true:=decide_eq_true (by omega);have hq:=zbA h2;have hC:∀ W,Calls Tryz.prog 11 #[.string a] W (RetC W 0):=fun W=>by
    have h:=za3 a W (by omega)
    rwa [h2] at h
  have HC:=Aa hC;have HN:=Aa (fun W=>zni a _ W hq (by omega));have HA:=Aa (fun (s:ByteArray) (hs:NumQ s (numQ (zab a.data.toList))) (hz:s.size≤1000000) (W:World)=>zlb s (numQ (zab a.data.toList)) W hs hz);have HD:=Aa (fun W=>zm1 a _ W hq (by omega));clear hC;generalize zab a.data.toList=p at *;obtain ⟨L2,aD⟩:∃ L2,L2=(Lib.decDigits p.bot).length:=⟨_,rfl⟩;obtain ⟨L1,aE⟩:∃ L1,L1=(zaq (absQ (numQ p))).length:=⟨_,rfl⟩;rw [←aE,←aD] at hb;rw [←aD] at HD;have HZ:Hid (∀ t:ByteArray,NumQ t (absQ (numQ p))→t.size=L1):=fun t ht=>by
    have h9:=congrArg List.length ht.1;rw [←aE,Array.length_toList] at h9;exact h9
  clear hq h2 aE aD;have aA:(decide (L1≤k)=false∧b=false)∨(decide (L1≤k)=true∧Hid (decide (L2≤k)=b)):=by
    rw [hb]
    by_cases h3:L1≤k
    · refine .inr ⟨decide_eq_true h3,?_⟩
      rw [decide_eq_true h3,Bool.true_and];exact rfl
    · exact .inl ⟨decide_eq_false h3,by rw [decide_eq_false h3];rfl⟩
  clear hb
  rcases aA with ⟨d3,rfl⟩ | ⟨d3,d4⟩
  all_goals
    go_enter Tryz.func35,Tryz.ntmps35
    go_wp2_with fail
    refine (HC.out w).mono ?_;rintro e w1 ⟨rfl,aC⟩
    go_wp2_with fail
    refine (HN.out w1).mono ?_;rintro e w2 ⟨⟨s,rfl,aI,aK⟩,rfl⟩;have HS:=Aa aI;clear aI
    go_wp2_with fail
    refine (HA.out s HS.out (by omega) w1).mono ?_;rintro e w3 ⟨⟨t,rfl,aJ⟩,aG⟩;have aF:=Ad aC aG;have aH:=HZ.out t aJ;rw [←aH] at d3;clear aJ aG aC aH
    go_wp2_with fail
    first
      | (go_ret
         exact ⟨rfl,aF⟩)
      | (refine (HD.out w3).mono ?_
         rintro e w4 ⟨⟨u,rfl,hu⟩,rfl⟩;have HU:=Aa hu;clear hu;go_wp2
         go_ret;exact ⟨by rw [←d4.out,←HU.out];rfl,aF⟩)
theorem zg5 (k:Nat) (a:ByteArray) (h0:0<k) (hk:k≤1000):∃ b,(b=true→FewK k a)∧zja k a b:=by
 by_cases h1:a.size≤2*k+2
 ·by_cases h2:zad a.data.toList=0
  ·refine ⟨_,fun hb=>⟨h2,?_,h1⟩,zfP k a _ hk h1 h2 rfl⟩
   simp only [Bool.and_eq_true,decide_eq_true_eq] at hb
   have hq:=zbA h2;generalize zab a.data.toList=p at *;have aA:LowQ (numQ p):=⟨Nat.one_pos,Nat.gcd_one_right _,hq.2.2.2⟩;have ht:NumQ ⟨(zaq (absQ (numQ p))).toArray⟩ (absQ (numQ p)):=⟨by simp,zj6 aA⟩;have aD:(⟨(zaq (absQ (numQ p))).toArray⟩:ByteArray).size≤k:=by
    show (zaq (absQ (numQ p))).toArray.size≤k
    rw [List.size_toArray];exact hb.1
   refine ⟨(ht.small aD h0).1,?_⟩;have e2:=zbo _ (zaA p.bot);rw [zaG] at e2;exact Nat.lt_of_lt_of_le e2 (Nat.pow_le_pow_right (by omega) hb.2)
  ·refine ⟨false,(fun h=>by cases h),fun w => ?_⟩
   obtain ⟨K2,L,_,hL,w1,w2⟩:=zcr hk;have d1:decide ((a.size:Int)≤(L:Int))=true:=decide_eq_true (by omega);have HC:=Aa (fun W=>za3 a W (by omega));have d2:(zad a.data.toList==0)=false:=beq_eq_false_iff_ne.2 h2;generalize zad a.data.toList=E at *;clear h2;go_enter Tryz.func35,Tryz.ntmps35
   go_wp2_with fail
   refine (HC.out w).mono ?_;rintro e w1 ⟨rfl,aC⟩;go_wp2
   go_ret;exact ⟨rfl,aC⟩
 ·refine ⟨false,(fun h=>by cases h),fun w => ?_⟩
  obtain ⟨K2,L,_,hL,w1,w2⟩:=zcr hk;have d1:decide ((a.size:Int)≤(L:Int))=false:=decide_eq_false (by omega);go_enter Tryz.func35,Tryz.ntmps35
  go_wp2
  go_ret;exact ⟨rfl,Below.refl _ _⟩
end
section
open Go.RowKit Bn Dn
open Flt
theorem zgl {s:ByteArray} {p:Q} {K:Nat} (h:NumQ s p) (hs:Small p K) (hK:K≤600) (hK0:0<K):zad s.data.toList=0∧zab s.data.toList=p:=by
 rw [h.1];exact zcY p h.2 (Nat.le_trans (Dec.dec_length_le hK0 hs.1) hK) (Nat.le_trans (Dec.dec_length_le hK0 hs.2) hK)
theorem zcB {p:Q} (hb:0<p.bot):Val p (sI p) p.bot:=⟨rfl,hb,hb⟩
theorem zf2 {p q:Q} {a b:Int} {x y:Nat} (h:Val p a x) (h':Val q b y):cmpI p q≤0↔a*(y:Int)≤b*(x:Int):=by
 obtain ⟨c1,c2,c3⟩:=zgX h h';generalize a*(y:Int)=u at *;generalize b*(x:Int)=v at *
 rcases Int.lt_trichotomy u v with g | g | g
 ·have:=c1 g;omega
 ·have:=c2 g;omega
 ·have:=c3 g;omega
theorem zqo {p q:Q} {a b:Int} {x y:Nat} (h:Val p a x) (h':Val q b y):cmpI p q<0↔a*(y:Int)<b*(x:Int):=by
 obtain ⟨c1,c2,c3⟩:=zgX h h';generalize a*(y:Int)=u at *;generalize b*(x:Int)=v at *
 rcases Int.lt_trichotomy u v with g | g | g
 ·have:=c1 g;omega
 ·have:=c2 g;omega
 ·have:=c3 g;omega
theorem zci (p q:Q) (hp:0<p.bot) (hq:0<q.bot):LowQ (subQ p q):=zaQ _ (Nat.mul_pos hp hq)
theorem zbB (p q:Q) (hp:0<p.bot) (hq:0<q.bot):LowQ (mulQ p q):=zaQ _ (Nat.mul_pos hp hq)
end
section
open Go.RowKit Bn Dn
theorem zfo {s:ByteArray} {p:Q} {K:Nat} (h:NumQ s p) (hs:Small p K) (hK:K≤600) (hK0:0<K):zad s.data.toList=0∧zab s.data.toList=p:=by
 rw [h.1];exact zcY p h.2 (Nat.le_trans (Dec.dec_length_le hK0 hs.1) hK) (Nat.le_trans (Dec.dec_length_le hK0 hs.2) hK)
theorem CBlk.via {w w':World} {g:Nat} {c:Array Value} {t:TypeId} (h:CBlk w g c t) (hb:Below w.heap.size w w'):CBlk w' g c t:=h.below hb h.lt
theorem bvia {w w1 w2:World} (h:Below w.heap.size w w1) (hb:Below w1.heap.size w1 w2):Below w.heap.size w w2:=Ad h hb
def txt (q:Q):ByteArray:=⟨(zaq q).toArray⟩
theorem zba {q:Q} (h:LowQ q):NumQ (txt q) q:=⟨by simp [txt],h⟩
theorem zcZ {a:ByteArray} {q:Q} (h:NumQ a q):a=txt q:=by
 obtain ⟨d⟩:=a;have h1:d.toList=zaq q:=h.1;unfold txt
 congr 1
 rw [←h1,Array.toArray_toList]
theorem zfk {a:ByteArray} (h:zad a.data.toList=0):a=txt (zab a.data.toList):=zcZ (zbA h)
theorem za9 {q:Q} {N:Nat} (h:LowQ q) (hs:Small q N) (hN:0<N):(txt q).size≤2*N+2:=(zba h).size hs hN
def zaS (f:FuncId) (args:Array Value) (v:Value):Prop:=∀ W,Calls Tryz.prog f args W fun e w'=>e = .returned v∧Below W.heap.size W w'
theorem zdS {f:FuncId} {args:Array Value} {q:Q} {w:World} (h:Calls Tryz.prog f args w (RetS w q)):Calls Tryz.prog f args w fun e w'=>e = .returned (.string (txt q))∧Below w.heap.size w w':=
 h.mono fun _ _ ⟨⟨s,he,hs⟩,hb⟩=>⟨by rw [he,zcZ hs],hb⟩
theorem tMul {p q:Q} (hp:LowQ p) (hq:LowQ q) {N:Nat} (sp:Small p N) (sq:Small q N) (h0:0<N) (hN:N≤300):zaS 22 #[.string (txt p),.string (txt q)] (.string (txt (mulQ p q))):=fun W=>
 zdS (zhv _ _ _ _ W (zba hp) (zba hq) (by have:=za9 hp sp h0;omega) (by have:=za9 hq sq h0;omega))
theorem tAdd {p q:Q} (hp:LowQ p) (hq:LowQ q) {N:Nat} (sp:Small p N) (sq:Small q N) (h0:0<N) (hN:N≤300):zaS 20 #[.string (txt p),.string (txt q)] (.string (txt (addQ p q))):=fun W=>
 zdS (zk0 _ _ _ _ W (zba hp) (zba hq) (by have:=za9 hp sp h0;omega) (by have:=za9 hq sq h0;omega))
theorem tSub {p q:Q} (hp:LowQ p) (hq:LowQ q) {N:Nat} (sp:Small p N) (sq:Small q N) (h0:0<N) (hN:N≤300):zaS 21 #[.string (txt p),.string (txt q)] (.string (txt (subQ p q))):=fun W=>
 zdS (ziW _ _ _ _ W (zba hp) (zba hq) (by have:=za9 hp sp h0;omega) (by have:=za9 hq sq h0;omega))
theorem zri {p:Q} (hp:LowQ p) {N:Nat} (sp:Small p N) (h0:0<N) (hN:N≤300):zaS 42 #[.string (txt p)] (.string (txt (mulQ p zdx))):=fun W=>
 zdS (zqj _ _ W (zba hp) (by have:=za9 hp sp h0;omega))
theorem zrJ {p:Q} (hp:LowQ p) {N:Nat} (sp:Small p N) (h0:0<N) (hN:N≤300):zaS 11 #[.string (txt p)] (.int .i64 0):=fun W=>by
 have h:=za3 (txt p) W (by have:=za9 hp sp h0;omega);rw [(zgl (zba hp) sp (by omega) h0).1] at h;exact h
theorem zf7 (s t:ByteArray) (w:World):Calls Tryz.prog 37 #[.string s,.string t] w fun e w'=>e = .returned (.agg #[.string s,.string t])∧Below w.heap.size w w':=by
 have hb:Below w.heap.size w (w.alloc (.cells #[.string ⟨#[]⟩,.string ⟨#[]⟩] 39)):=Ac;have q:CBlk (w.alloc (.cells #[.string ⟨#[]⟩,.string ⟨#[]⟩] 39)) w.heap.size #[.string ⟨#[]⟩,.string ⟨#[]⟩] 39:=CBlk.new _ _ _ _ rfl;have y0:=q.cell 0;have y1:=q.cell 1;have f0:=q.frozen 0;have f1:=q.frozen 1;have aA:=zbH hb (g:=w.heap.size) (Nat.le_refl _) (.string s) (.string t);go_enter Tryz.func37,Tryz.ntmps37
 go_upto_region 1 with (fail)
 generalize w.alloc (.cells #[.string ⟨#[]⟩,.string ⟨#[]⟩] 39)=W at *;go_wp2
 refine bodyPost_ret (v := .agg #[.string s,.string t]) (by simp [results,Tryz.results37,go_sem,y0,y1]) rfl ⟨rfl,aA⟩
theorem zgB {p q:Q} {a b:Int} {d:Nat} (h:Val p a d) (h':Val q b d):cmpI p q≤0↔a≤b:=by
 rw [zf2 h h'];have hd:(0:Int)<(d:Int):=by have:=h.2.1;omega
 exact ⟨fun g=>Int.le_of_mul_le_mul_right g hd,fun g=>Int.mul_le_mul_of_nonneg_right g (by omega)⟩
theorem zbW {p q:Q} {a b:Int} {d:Nat} (h:Val p a d) (h':Val q b d):cmpI p q<0↔a<b:=by
 rw [zqo h h'];have hd:(0:Int)<(d:Int):=by have:=h.2.1;omega
 exact ⟨fun g=>Int.lt_of_mul_lt_mul_right g (by omega),fun g=>Int.mul_lt_mul_of_pos_right g hd⟩
theorem zgf {p q:Q} (hp:0<p.bot) (hq:0<q.bot):cmpI q p = - cmpI p q:=by
 rw [zdz hp hq,zdz hq hp,←Int.sign_neg]
 congr 1
 omega
theorem Val.scale {p:Q} {a:Int} {d:Nat} (h:Val p a d) {k:Nat} (hk:0<k):Val p (a*(k:Int)) (d*k):=by
 refine h.trans (Nat.mul_pos h.2.1 hk) ?_;rw [Int.natCast_mul]
 grind
theorem Val.add1 {p q:Q} {a b:Int} {d:Nat} (h:Val p a d) (h':Val q b d):Val (addQ p q) (a+b) d:=by
 refine (h.add h').trans h.2.1 ?_;rw [Int.natCast_mul]
 grind
theorem Val.sub1 {p q:Q} {a b:Int} {d:Nat} (h:Val p a d) (h':Val q b d):Val (subQ p q) (a - b) d:=by
 refine (h.sub h').trans h.2.1 ?_;rw [Int.natCast_mul]
 grind
theorem zdU {p q:Q} (hp:0<p.bot) (hq:0<q.bot):∃ (P R:Int) (D:Nat),Val p P D∧Val q R D:=
 ⟨sI p*(q.bot:Int),sI q*(p.bot:Int),p.bot*q.bot,(zcB hp).scale hq,by
  have h:=(zcB hq).scale hp
  rwa [Nat.mul_comm] at h⟩
def zh5 (p q tq:Q):Q:=addQ p (mulQ tq (subQ q p))
structure Mid (p q x:Q) (P R X:Int) (E:Nat):Prop where
 v1:Val p P E
 v2:Val q R E
 vx:Val x X E
 le1:P≤X
 le2:X≤R
theorem zlI {p q tq:Q} (hp:0<p.bot) (hq:0<q.bot) (hle:cmpI p q≤0) {A:Nat} (hA:A≤255) (ht:Val tq (A:Int) 255):∃ (P R X:Int) (E:Nat),Mid p q (zh5 p q tq) P R X E:=by
 obtain ⟨P,R,D,h1,h2⟩:=zdU hp hq;have h3:=(zgB h1 h2).1 hle;have h4:=ht.mul (h2.sub1 h1);have h5:=h1.scale (k:=255) (by omega);rw [Nat.mul_comm] at h5;have h6:=h2.scale (k:=255) (by omega);rw [Nat.mul_comm] at h6;have h7:=h5.add1 h4;refine ⟨_,_,_,_,⟨h5,h6,h7,?_,?_⟩⟩
 ·have:=Int.mul_nonneg (show (0:Int)≤(A:Int) by omega) (show 0≤R - P by omega)
  omega
 ·have:=Int.mul_le_mul_of_nonneg_right (show (A:Int)≤255 by omega) (show 0≤R - P by omega)
  omega
theorem zp9 {y:Q} {Y R:Int} {E N:Nat} (h:Val y Y E) (hy:y.top≠0) (hN:0<N) (e:R*Y=(E:Int)*(N:Int)):Val (recS y) R N:=by
 obtain ⟨h1,h2,h3⟩:=h;refine ⟨?_,hN,by show 0<y.top;omega⟩;have hs:sI (recS y)*sI y=(y.bot:Int)*(y.top:Int):=by
  unfold sI recS
  dsimp only
  cases y.neg
  ·simp
  ·simp [Int.neg_mul_neg]
 have aA:sI y≠0:=by
  unfold sI
  split<;>omega
 have hc:sI y*(E:Int)≠0:=Int.mul_ne_zero aA (by omega)
 apply Int.eq_of_mul_eq_mul_right hc
 show sI (recS y)*(N:Int)*(sI y*(E:Int))=R*(y.top:Int)*(sI y*(E:Int))
 generalize sI (recS y)=s at *;generalize sI y=t at *;generalize (y.bot:Int)=b at *;generalize (y.top:Int)=c at *;have k1:s*(N:Int)*(t*(E:Int))=(s*t)*((E:Int)*(N:Int)):=by grind
 have k2:R*c*(t*(E:Int))=R*c*(Y*b):=by rw [h1]
 have k3:R*c*(Y*b)=(R*Y)*(b*c):=by grind
 rw [k1,k2,k3,e,hs]
 grind
theorem znY {y:Q} {Y:Int} {E:Nat} (h:Val y Y E) (hY:Y≠0):y.top≠0:=by
 intro h0;obtain ⟨h1,h2,h3⟩:=h;have:sI y=0:=by unfold sI;rw [h0];split<;>rfl
 rw [this,Int.zero_mul] at h1;have:=Int.mul_ne_zero hY (show (y.bot:Int)≠0 by omega);omega
end
end Go.Proofs.YtmkondcdejlhcaaGreatDoor
