/- NumberSums: plain facts; the law's first and integer; IsZero. -/
import Derived.Test.YtmkondcdejlhcaaGreatDoorFKn8
import Derived.Test.YtmkondcdejlhcaaGreatDoorFSh5
set_option maxRecDepth 100000
set_option maxHeartbeats 4000000
namespace Go.Proofs.YtmkondcdejlhcaaGreatDoor
section
open Go.RowKit Bn Dn
theorem znP(q:Q):zbH q=negQ q:=by
 unfold zbH negQ
 congr 1
 rcases Nat.eq_zero_or_pos q.top with h | h
 ·rw[decide_eq_true h,decide_eq_false (by omega)];rfl
 ·rw[decide_eq_false (by omega),decide_eq_true h];rfl
theorem zjv(p q:Q):subR p q=subQ p q:=by
 unfold subR zaU;rw[zfT,znP,zhx]
theorem zfk(p q:Q):mulR p q=mulQ p q:=zgL p q
theorem zft (p q:Q):divR p q=mulQ p (recS q):=zgL p (recS q)
theorem zen {p q:Q} (hp:LowQ p) (hq:LowQ q):rcmp p q=cmpI p q:=by
 rw[zeH hp.1 hq.1];obtain⟨pn,pt,pb⟩:=p;obtain⟨qn,qt,qb⟩:=q;obtain⟨p1,_,p3⟩:=hp;obtain⟨q1,_,q3⟩:=hq
 dsimp only at *
 unfold rcmp sI ncmp
 dsimp only
 have e1:(pt:Int)*(qb:Int)=((pt*qb:Nat):Int):=by rw[Int.natCast_mul]
 have e2:(qt:Int)*(pb:Int)=((qt*pb:Nat):Int):=by rw[Int.natCast_mul]
 cases pn<;>cases qn
 ·simp only[Bool.false_eq_true,if_false,if_true,e1,e2]
  generalize pt*qb=x;generalize qt*pb=y
  split
  ·rw[Int.sign_eq_neg_one_of_neg (by omega)]
  ·split
   ·rename_i h;rw[h,Int.sub_self];rfl
   ·rw[Int.sign_eq_one_of_pos (by omega)]
 ·have hy:0<qt*pb:=Nat.mul_pos (q3 rfl) p1
  simp only[Bool.false_eq_true,if_false,if_true,Int.neg_mul,e1,e2,reduceCtorEq]
  rw[Int.sign_eq_one_of_pos (by omega)]
 ·have hx:0<pt*qb:=Nat.mul_pos (p3 rfl) q1
  simp only[Bool.false_eq_true,if_false,if_true,Int.neg_mul,e1,e2,reduceCtorEq]
  rw[Int.sign_eq_neg_one_of_neg (by omega)]
 ·simp only[if_true,Int.neg_mul,e1,e2]
  generalize pt*qb=x;generalize qt*pb=y
  split
  ·rw[Int.sign_eq_one_of_pos (by omega)];rfl
  ·split
   ·rename_i h;rw[h];simp
   ·rw[Int.sign_eq_neg_one_of_neg (by omega)]
end
section
open Go.RowKit Bn
open Flt
def Val (p:Q) (num:Int) (den:Nat):Prop:=sI p*(den:Int)=num*(p.bot:Int)∧0<den∧0<p.bot
theorem Val.frac{num:Int}{den:Nat}(h:0<den):Val (zbw num den) num den:=⟨zl0 h,h,(za4 num h).1⟩
theorem Val.trans {p:Q} {a b:Int} {x y:Nat} (h:Val p a x) (hy:0<y) (e:a*(y:Int)=b*(x:Int)):Val p b y:=by
 obtain⟨h1,h2,h3⟩:=h;refine⟨?_,hy,h3⟩;have hx:(x:Int)≠0:=by omega
 apply Int.eq_of_mul_eq_mul_right hx
 grind
theorem Val.mul{p q:Q}{a b:Int}{x y:Nat}(h:Val p a x)(h':Val q b y):Val (mulQ p q) (a*b) (x*y):=by
 obtain⟨h1,h2,h3⟩:=h;obtain⟨k1,k2,k3⟩:=h';have hv:Val (mulQ p q) (sI p*sI q) (p.bot*q.bot):=Val.frac (Nat.mul_pos h3 k3);refine hv.trans (Nat.mul_pos h2 k2) ?_;rw[Int.natCast_mul,Int.natCast_mul]
 grind
theorem Val.add{p q:Q}{a b:Int}{x y:Nat}(h:Val p a x)(h':Val q b y):Val (addQ p q) (a*y+b*x) (x*y):=by
 obtain⟨h1,h2,h3⟩:=h;obtain⟨k1,k2,k3⟩:=h';have hv:Val (addQ p q) (sI p*(q.bot:Int)+sI q*(p.bot:Int)) (p.bot*q.bot):=Val.frac (Nat.mul_pos h3 k3);refine hv.trans (Nat.mul_pos h2 k2) ?_;rw[Int.natCast_mul,Int.natCast_mul]
 grind
theorem Val.sub{p q:Q}{a b:Int}{x y:Nat}(h:Val p a x)(h':Val q b y):Val (subQ p q) (a*y-b*x) (x*y):=by
 obtain⟨h1,h2,h3⟩:=h;obtain⟨k1,k2,k3⟩:=h';have hv:Val (subQ p q) (sI p*(q.bot:Int)-sI q*(p.bot:Int)) (p.bot*q.bot):=Val.frac (Nat.mul_pos h3 k3);refine hv.trans (Nat.mul_pos h2 k2) ?_;rw[Int.natCast_mul,Int.natCast_mul]
 grind
theorem Val.sign{q:Q}{num:Int}{den:Nat}(h:Val q num den):(num<0→zdd q = -1)∧(num=0→zdd q=0)∧(0<num→zdd q=1):=by
 obtain⟨h1,h2,h3⟩:=h;have hb:(0:Int)<(q.bot:Int):=by omega
 have hd:(0:Int)<(den:Int):=by omega
 have hs:sI q=if q.neg then -(q.top:Int) else(q.top:Int):=rfl
 unfold zdd;refine⟨fun hn => ?_,fun hn => ?_,fun hn => ?_⟩
 ·have aC:sI q*(den:Int)<0:=by rw[h1];exact Int.mul_neg_of_neg_of_pos hn hb
  have aA:sI q<0:=by
   rcases Int.lt_or_le (sI q) 0 with h9 | h9
   ·exact h9
   ·have:=Int.mul_nonneg h9 (Int.le_of_lt hd);omega
  rw[hs] at aA;have ht:q.top≠0:=by intro h9;rw[h9] at aA;simp at aA
  rw[if_neg ht]
  cases hq:q.neg
  ·rw[hq] at aA;simp at aA;omega
  ·simp
 ·rw[hn,Int.zero_mul] at h1
  have h0:=(Int.mul_eq_zero.1 h1).resolve_right (by omega);rw[hs] at h0;have ht:q.top=0:=by split at h0<;>omega
  rw[if_pos ht]
 ·have aC:0<sI q*(den:Int):=by rw[h1];exact Int.mul_pos hn hb
  have aA:0<sI q:=by
   rcases Int.lt_or_le 0 (sI q) with h9 | h9
   ·exact h9
   ·have:=Int.mul_nonpos_of_nonpos_of_nonneg h9 (Int.le_of_lt hd);omega
  rw[hs] at aA;have ht:q.top≠0:=by intro h9;rw[h9] at aA;simp at aA
  rw[if_neg ht]
  cases hq:q.neg
  ·simp
  ·rw[hq] at aA;simp at aA;omega
end
section
open Go.RowKit
open Flt
theorem zlL{p q:Q}{a b:Int}{x y:Nat}(h:Val p a x)(h':Val q b y):(a*y<b*x→cmpI p q = -1)∧(a*y=b*x→cmpI p q=0)∧(b*x<a*y→cmpI p q=1):=by
 have h9:=(h.sub h').sign;unfold cmpI;exact⟨fun e=>h9.1 (by omega),fun e=>h9.2.1 (by omega),fun e=>h9.2.2 (by omega)⟩
end
section
open Go.RowKit Dn
def FewK (k:Nat) (s:ByteArray):Prop:=zap s.data.toList=0∧Small (zaf s.data.toList) k∧s.size≤2*k+2
def zoq (k:Nat) (s:ByteArray) (b:Bool):Prop:=∀ W,Calls Tryz.prog 35 #[.string s,.int .i64 (k:Int)] W fun e w'=>e = .returned (.bool b)∧Below W.heap.size W w'
theorem zeZ{k:Nat}(hk:k≤1000):∃ K2 L:Nat,K2=2*k∧L=2*k+2∧wrap64 (2*(k:Int))=(K2:Int)∧wrap64 ((K2:Int)+2)=(L:Int):=⟨2*k,2*k+2,rfl,rfl,by rw[IntWalk.wrap64_in _ (by omega)];omega,by rw[IntWalk.wrap64_in _ (by omega)];omega⟩
theorem zkp (k:Nat) (a:ByteArray) (b:Bool) (hk:k≤1000) (h1:a.size≤2*k+2) (h2:zap a.data.toList=0) (hb:b=(decide ((zaE (absQ (numQ (zaf a.data.toList)))).length≤k) && decide ((Lib.decDigits (zaf a.data.toList).bot).length≤k))) :
    zoq k a b:=by
  intro w;obtain⟨K2,L,_,hL,w1,w2⟩:=zeZ hk;have d1:decide ((a.size:Int)≤(L:Int))=true:=decide_eq_true (by omega);have hq:=zcJ h2;have hC:∀ W,Calls Tryz.prog 11 #[.string a] W (RetC W 0):=fun W=>by
    have h:=zd1 a W (by omega)
    rwa [h2] at h
  have HC:=Aa hC;have HN:=Aa (fun W=>zpQ a _ W hq (by omega));have HA:=Aa (fun (s:ByteArray) (hs:NumQ s (numQ (zaf a.data.toList))) (hz:s.size≤1000000) (W:World)=>zp7 s (numQ (zaf a.data.toList)) W hs hz);have HD:=Aa (fun W=>zqf a _ W hq (by omega));clear hC;generalize zaf a.data.toList=p at *;obtain⟨L2,aC⟩:∃ L2,L2=(Lib.decDigits p.bot).length:=⟨_,rfl⟩;obtain⟨L1,aD⟩:∃ L1,L1=(zaE (absQ (numQ p))).length:=⟨_,rfl⟩;rw[←aD,←aC] at hb;rw[←aC] at HD;have HZ:Hid (∀ t:ByteArray,NumQ t (absQ (numQ p))→t.size=L1):=fun t ht=>by
    have h9:=congrArg List.length ht.1;rw[←aD,Array.length_toList] at h9;exact h9
  clear hq h2 aD aC;have aA:(decide (L1≤k)=false∧b=false)∨(decide (L1≤k)=true∧Hid (decide (L2≤k)=b)):=by
    rw[hb]
    by_cases h3:L1≤k
    · refine .inr ⟨decide_eq_true h3,?_⟩
      rw[decide_eq_true h3,Bool.true_and];exact rfl
    · exact .inl ⟨decide_eq_false h3,by rw[decide_eq_false h3];rfl⟩
  clear hb
  rcases aA with⟨d3,rfl⟩ | ⟨d3,d4⟩
  all_goals
    go_enter Tryz.func35,Tryz.ntmps35
    go_wp2_with fail
    refine(HC.out w).mono ?_;rintro e w1 ⟨rfl,aE⟩
    go_wp2_with fail
    refine(HN.out w1).mono ?_;rintro e w2 ⟨⟨s,rfl,aF,aK⟩,rfl⟩;have HS:=Aa aF;clear aF
    go_wp2_with fail
    refine(HA.out s HS.out (by omega) w1).mono ?_;rintro e w3 ⟨⟨t,rfl,aI⟩,aG⟩;have aJ:=Ad aE aG;have aH:=HZ.out t aI;rw[←aH] at d3;clear aI aG aE aH
    go_wp2_with fail
    first
      | (go_ret
         exact⟨rfl,aJ⟩)
      | (refine(HD.out w3).mono ?_
         rintro e w4 ⟨⟨u,rfl,hu⟩,rfl⟩;have HU:=Aa hu;clear hu;go_wp2
         go_ret;exact⟨by rw[←d4.out,←HU.out];rfl,aJ⟩)
theorem zmt(k:Nat)(a:ByteArray)(h0:0<k)(hk:k≤1000):∃ b,(b=true→FewK k a)∧zoq k a b:=by
 by_cases h1:a.size≤2*k+2
 ·by_cases h2:zap a.data.toList=0
  ·refine⟨_,fun hb=>⟨h2,?_,h1⟩,zkp k a _ hk h1 h2 rfl⟩
   simp only[Bool.and_eq_true,decide_eq_true_eq] at hb
   have hq:=zcJ h2;generalize zaf a.data.toList=p at *;have aA:LowQ (numQ p):=⟨Nat.one_pos,Nat.gcd_one_right _,hq.2.2.2⟩;have ht:NumQ ⟨(zaE (absQ (numQ p))).toArray⟩ (absQ (numQ p)):=⟨by simp,zmv aA⟩;have aD:(⟨(zaE (absQ (numQ p))).toArray⟩:ByteArray).size≤k:=by
    show(zaE (absQ (numQ p))).toArray.size≤k
    rw[List.size_toArray];exact hb.1
   refine⟨(ht.small aD h0).1,?_⟩;have e2:=zbB _ (zaH p.bot);rw[za0] at e2;exact Nat.lt_of_lt_of_le e2 (Nat.pow_le_pow_right (by omega) hb.2)
  ·refine⟨false,(fun h=>by cases h),fun w => ?_⟩
   obtain⟨K2,L,_,hL,w1,w2⟩:=zeZ hk;have d1:decide ((a.size:Int)≤(L:Int))=true:=decide_eq_true (by omega);have HC:=Aa (fun W=>zd1 a W (by omega));have d2:(zap a.data.toList==0)=false:=beq_eq_false_iff_ne.2 h2;generalize zap a.data.toList=E at *;clear h2;go_enter Tryz.func35,Tryz.ntmps35
   go_wp2_with fail
   refine(HC.out w).mono ?_;rintro e w1 ⟨rfl,aC⟩;go_wp2
   go_ret;exact⟨rfl,aC⟩
 ·refine⟨false,(fun h=>by cases h),fun w => ?_⟩
  obtain⟨K2,L,_,hL,w1,w2⟩:=zeZ hk;have d1:decide ((a.size:Int)≤(L:Int))=false:=decide_eq_false (by omega);go_enter Tryz.func35,Tryz.ntmps35
  go_wp2
  go_ret;exact⟨rfl,Below.refl _ _⟩
end
section
open Go.RowKit Bn Dn
open Flt
theorem zhA{p:Q}(hb:0<p.bot):Val p (sI p) p.bot:=⟨rfl,hb,hb⟩
theorem zlK {p q:Q} {a b:Int} {x y:Nat} (h:Val p a x) (h':Val q b y):cmpI p q≤0↔a*(y:Int)≤b*(x:Int):=by
 obtain⟨c1,c2,c3⟩:=zlL h h';generalize a*(y:Int)=u at *;generalize b*(x:Int)=v at *
 rcases Int.lt_trichotomy u v with g | g | g
 ·have:=c1 g;omega
 ·have:=c2 g;omega
 ·have:=c3 g;omega
theorem zpt{p q:Q}{a b:Int}{x y:Nat}(h:Val p a x)(h':Val q b y):cmpI p q<0↔a*(y:Int)<b*(x:Int):=by
 obtain⟨c1,c2,c3⟩:=zlL h h';generalize a*(y:Int)=u at *;generalize b*(x:Int)=v at *
 rcases Int.lt_trichotomy u v with g | g | g
 ·have:=c1 g;omega
 ·have:=c2 g;omega
 ·have:=c3 g;omega
theorem zjS(p q:Q)(hp:0<p.bot)(hq:0<q.bot):LowQ (subQ p q):=za4 _ (Nat.mul_pos hp hq)
theorem zes (p q:Q) (hp:0<p.bot) (hq:0<q.bot):LowQ (mulQ p q):=za4 _ (Nat.mul_pos hp hq)
end
section
open Go.RowKit Bn Dn
theorem zcd {s:ByteArray} {p:Q} {K:Nat} (h:NumQ s p) (hs:Small p K) (hK:K≤600) (hK0:0<K):zap s.data.toList=0∧zaf s.data.toList=p:=by
 rw[h.1];exact ziN p h.2 (Nat.le_trans (Dec.dec_length_le hK0 hs.1) hK) (Nat.le_trans (Dec.dec_length_le hK0 hs.2) hK)
theorem zek(s t:ByteArray)(ty:TypeId)(g:Nat)(w:World)(hk:CBlk w g #[.string s,.string t] ty)(hs:zap s.data.toList=0)(ht:zap t.data.toList=0) :
  Calls Tryz.prog 83 #[.slice (some ⟨g,0,none⟩) 2 2] w fun e w'=>e = .returned (.int .i64 0)∧Below w.heap.size w w':=by
 have b1:=zh3 hs;have b2:=zh3 ht;have HS:Hid (∀ W,Calls Tryz.prog 11 #[.string s] W (RetC W 0)):=fun W=>by
  have h:=zd1 s W (by omega)
  rwa [hs] at h
 have HT:Hid (∀ W,Calls Tryz.prog 11 #[.string t] W (RetC W 0)):=fun W=>by
  have h:=zd1 t W (by omega)
  rwa [ht] at h
 clear hs ht b1 b2;go_enter Tryz.func83,Tryz.ntmps83
 go_wp2
 go_loopg [3] 2 (fun g1 v3 W=>∃ i:Nat,v3 = .int .i64 (i:Int)∧i≤2∧g1+i=2∧Below w.heap.size w W)
 case atStart=>exact⟨0,rfl,by omega,rfl,Below.refl _ _⟩
 case round=>
  obtain⟨i,rfl,hi,aE,aA⟩:=hrel;have aD:=hk.below aA hk.lt;have z0:wr.cell? ⟨g,0,none⟩=some (.string s):=aD.cell 0;have z1:wr.cell? ⟨g,1,none⟩=some (.string t):=aD.cell 1;clear aD
  match i,hi,aE with
  | 0,_,_=>
   go_wp2_with fail
   refine(HS.out wr).mono ?_;rintro e w1 ⟨rfl,aC⟩;go_wp2
   go_roundg 1
   case rel=>exact⟨1,rfl,by omega,rfl,aA.trans (aC.mono aA.size)⟩
   case measure=>omega
  | 1,_,_=>
   go_wp2_with fail
   refine(HT.out wr).mono ?_;rintro e w1 ⟨rfl,aC⟩;go_wp2
   go_roundg 0
   case rel=>exact⟨2,rfl,by omega,rfl,aA.trans (aC.mono aA.size)⟩
   case measure=>omega
  | 2,_,_=>
   go_wp2
   go_ret;exact⟨rfl,aA⟩
  | n+3,h,_=>exact absurd h (by omega)
theorem zd5(s t:ByteArray)(p q:Q)(w:World)(hs:NumQ s p)(ht:NumQ t q)(sp:Small p 300)(sq:Small q 300)(hle:cmpI p q≤0) :
  Calls Tryz.prog 31 #[.agg #[.string s,.string t]] w fun e w'=>e = .returned (.int .i64 0)∧Below w.heap.size w w':=by
 have aD:Below w.heap.size w (w.alloc (.cells #[.string s,.string t] 39)):=Ac;have q0:CBlk (w.alloc (.cells #[.string s,.string t] 39)) w.heap.size #[.string s,.string t] 39:=CBlk.new w _ _ _ rfl;obtain⟨e1,_⟩:=zcd hs sp (by omega) (by omega);obtain⟨e2,_⟩:=zcd ht sq (by omega) (by omega);have b1:=hs.size sp (by omega);have b2:=ht.size sq (by omega);have HR:=Aa (fun (W:World) (g:Nat) (ty:TypeId) (hk:CBlk W g #[.string s,.string t] ty)=>zek s t ty g W hk e1 e2);have HC:=Aa (fun W=>zid s t p q W hs ht (by omega) (by omega));have d1:decide (0<cmpI p q)=false:=decide_eq_false (by omega);have x0:=q0.cell 0;have x1:=q0.cell 1;generalize cmpI p q=C at *;clear hs ht sp sq hle e1 e2 b1 b2;go_enter Tryz.func31,Tryz.ntmps31
 go_wp2_with fail
 have l1:CBlk ((w.alloc (.cells #[.string s,.string t] 39)).alloc (.cells #[.string s,.string t] 22)) (w.heap.size+1) #[.string s,.string t] 22:=CBlk.new _ _ _ _ (by simp);have q1:=q0.below ((Below.refl _ _).alloc (Nat.le_refl _) (.cells #[.string s,.string t] 22)) q0.lt;have aC:Below w.heap.size w ((w.alloc (.cells #[.string s,.string t] 39)).alloc (.cells #[.string s,.string t] 22)):=aD.alloc (by simp) _;generalize (w.alloc (.cells #[.string s,.string t] 39)).alloc (.cells #[.string s,.string t] 22)=w1 at *;refine(HR.out w1 (w.heap.size+1) 22 l1).mono ?_;rintro e w2 ⟨rfl,aA⟩;have q2:=q1.below aA q1.lt;have aE:=Ad aC aA;clear x0 x1 aA q1 l1 aD aC;have x0:=q2.cell 0;have x1:=q2.cell 1
 go_wp2_with fail
 refine(HC.out w2).mono ?_;rintro e w3 ⟨rfl,aF⟩
 go_wp2_with fail
 go_ret;exact⟨rfl,aE.trans (aF.mono aE.size)⟩
theorem zoE(s t v:ByteArray)(p q x:Q)(w:World)(hs:NumQ s p)(ht:NumQ t q)(hv:NumQ v x)(bs:s.size≤5000)(bt:t.size≤5000)(bv:v.size≤5000)(h1:cmpI p x≤0)(h2:cmpI x q≤0) :
  Calls Tryz.prog 32 #[.agg #[.string s,.string t],.string v] w fun e w'=>e = .returned (.bool true)∧Below w.heap.size w w':=by
 have aD:Below w.heap.size w (w.alloc (.cells #[.string s,.string t] 39)):=Ac;have q0:CBlk (w.alloc (.cells #[.string s,.string t] 39)) w.heap.size #[.string s,.string t] 39:=CBlk.new w _ _ _ rfl;have H1:=Aa (fun W=>zid s v p x W hs hv (by omega) (by omega));have H2:=Aa (fun W=>zid v t x q W hv ht (by omega) (by omega));have d1:decide (cmpI p x≤0)=true:=decide_eq_true h1;have d2:decide (cmpI x q≤0)=true:=decide_eq_true h2;have x0:=q0.cell 0;have x1:=q0.cell 1;generalize cmpI p x=C1 at *;generalize cmpI x q=C2 at *;clear hs ht hv bs bt bv h1 h2;go_enter Tryz.func32,Tryz.ntmps32
 go_wp2_with fail
 generalize w.alloc (.cells #[.string s,.string t] 39)=w1 at *;refine(H1.out w1).mono ?_;rintro e w2 ⟨rfl,aA⟩;have q2:=q0.below aA q0.lt;have aC:=Ad aD aA;clear x0 x1 aA;have x0:=q2.cell 0;have x1:=q2.cell 1
 go_wp2_with fail
 refine(H2.out w2).mono ?_;rintro e w3 ⟨rfl,aE⟩
 go_wp2_with fail
 go_ret;exact⟨rfl,aC.trans (aE.mono aC.size)⟩
def zol (w:World) (p q:Q) (e:Ending) (w':World):Prop:=∃ s t:ByteArray,e = .returned (.tuple #[.agg #[.string s,.string t],.int .i64 0])∧NumQ s p∧NumQ t q∧Below w.heap.size w w'
theorem zfq{w w':World}{e:Ending}{p q:Q}{N:Nat}(hp:LowQ p)(hq:LowQ q)(sp:Small p N)(sq:Small q N)(hN:N≤600)(h0:0<N)(h:zcT w (zc0 p q) (zcZ p q) (zbY p q) e w'):zol w p q e w':=by
 obtain⟨s,t,he,h1,h2,hb⟩:=h;have w1:=zgM sp hN h0 hp.1;have w2:=zgM sq hN h0 hq.1;have hE:zbY p q=0:=by unfold zbY;rw[w1.1,w2.1];rfl
 rw[hE] at he;unfold zc0 at h1;unfold zcZ at h2;rw[if_pos hE] at h1 h2;exact⟨s,t,he,⟨h1,hp⟩,⟨h2,hq⟩,hb⟩
theorem CBlk.via{w w':World}{g:Nat}{c:Array Value}{t:TypeId}(h:CBlk w g c t)(hb:Below w.heap.size w w'):CBlk w' g c t:=h.below hb h.lt
theorem bvia {w w1 w2:World} (h:Below w.heap.size w w1) (hb:Below w1.heap.size w1 w2):Below w.heap.size w w2:=Ad h hb
def txt (q:Q):ByteArray:=⟨(zaE q).toArray⟩
theorem za8 {q:Q} (h:LowQ q):NumQ (txt q) q:=⟨by simp[txt],h⟩
theorem zg2 {a:ByteArray} {q:Q} (h:NumQ a q):a=txt q:=by
 obtain⟨d⟩:=a;have h1:d.toList=zaE q:=h.1;unfold txt
 congr 1
 rw[←h1,Array.toArray_toList]
theorem zjw{a:ByteArray}(h:zap a.data.toList=0):a=txt (zaf a.data.toList):=zg2 (zcJ h)
theorem zbc {q:Q} {N:Nat} (h:LowQ q) (hs:Small q N) (hN:0<N):(txt q).size≤2*N+2:=(za8 h).size hs hN
def zbl (f:FuncId) (args:Array Value) (v:Value):Prop:=∀ W,Calls Tryz.prog f args W fun e w'=>e = .returned v∧Below W.heap.size W w'
def zdy (f:FuncId) (args:Array Value) (v:Value):Prop:=∀ W,Tabs W→Calls Tryz.prog f args W fun e w'=>e = .returned v∧Below W.heap.size W w'
theorem zfM {f:FuncId} {args:Array Value} {q:Q} {w:World} (h:Calls Tryz.prog f args w (RetS w q)):Calls Tryz.prog f args w fun e w'=>e = .returned (.string (txt q))∧Below w.heap.size w w':=
 h.mono fun _ _ ⟨⟨s,he,hs⟩,hb⟩=>⟨by rw[he,zg2 hs],hb⟩
theorem zfj {f:FuncId} {args:Array Value} {p q:Q} {w:World} (h:Calls Tryz.prog f args w (zol w p q)):Calls Tryz.prog f args w fun e w'=>e = .returned (.tuple #[.agg #[.string (txt p),.string (txt q)],.int .i64 0])∧Below w.heap.size w w':=
 h.mono fun _ _ ⟨s,t,he,hs,ht,hb⟩=>⟨by rw[he,zg2 hs,zg2 ht],hb⟩
theorem tMul {p q:Q} (hp:LowQ p) (hq:LowQ q) {N:Nat} (sp:Small p N) (sq:Small q N) (h0:0<N) (hN:N≤300):zbl 22 #[.string (txt p),.string (txt q)] (.string (txt (mulQ p q))):=fun W=>
 zfM (zom _ _ _ _ W (za8 hp) (za8 hq) (by have:=zbc hp sp h0;omega) (by have:=zbc hq sq h0;omega))
theorem tAdd {p q:Q} (hp:LowQ p) (hq:LowQ q) {N:Nat} (sp:Small p N) (sq:Small q N) (h0:0<N) (hN:N≤300):zbl 20 #[.string (txt p),.string (txt q)] (.string (txt (addQ p q))):=fun W=>
 zfM (zov _ _ _ _ W (za8 hp) (za8 hq) (by have:=zbc hp sp h0;omega) (by have:=zbc hq sq h0;omega))
theorem tSub {p q:Q} (hp:LowQ p) (hq:LowQ q) {N:Nat} (sp:Small p N) (sq:Small q N) (h0:0<N) (hN:N≤300):zbl 21 #[.string (txt p),.string (txt q)] (.string (txt (subQ p q))):=fun W=>
 zfM (zos _ _ _ _ W (za8 hp) (za8 hq) (by have:=zbc hp sp h0;omega) (by have:=zbc hq sq h0;omega))
theorem tDiv {p q:Q} (hp:LowQ p) (hq:LowQ q) {N:Nat} (sp:Small p N) (sq:Small q N) (h0:0<N) (hN:N≤300) (ht:q.top≠0):zbl 25 #[.string (txt p),.string (txt q)] (.string (txt (mulQ p (recS q)))):=fun W=>
 zfM (zoJ _ _ _ _ W (za8 hp) (za8 hq) (by omega) (by have:=zbc hp sp h0;omega) (by have:=zbc hq sq h0;omega))
theorem tCmp {p q:Q} (hp:LowQ p) (hq:LowQ q) {N:Nat} (sp:Small p N) (sq:Small q N) (h0:0<N) (hN:N≤300):zbl 23 #[.string (txt p),.string (txt q)] (.int .i64 (cmpI p q)):=fun W=>
 zid _ _ _ _ W (za8 hp) (za8 hq) (by have:=zbc hp sp h0;omega) (by have:=zbc hq sq h0;omega)
theorem zj3 {p q:Q} (hp:LowQ p) (hq:LowQ q) {N:Nat} (sp:Small p N) (sq:Small q N) (hN:N≤300) (hle:cmpI p q≤0):zbl 31 #[.agg #[.string (txt p),.string (txt q)]] (.int .i64 0):=fun W=>
 zd5 _ _ p q W (za8 hp) (za8 hq) (sp.more hN) (sq.more hN) hle
theorem tHas {p q x:Q} (hp:LowQ p) (hq:LowQ q) (hx:LowQ x) {N:Nat} (sp:Small p N) (sq:Small q N) (sx:Small x N) (h0:0<N) (hN:N≤300) (h1:cmpI p x≤0) (h2:cmpI x q≤0):zbl 32 #[.agg #[.string (txt p),.string (txt q)],.string (txt x)] (.bool true):=fun W=>
 zoE _ _ _ p q x W (za8 hp) (za8 hq) (za8 hx) (by have:=zbc hp sp h0;omega) (by have:=zbc hq sq h0;omega) (by have:=zbc hx sx h0;omega) h1 h2
theorem zbh {p q:Q} {a b:Int} {d:Nat} (h:Val p a d) (h':Val q b d):cmpI p q≤0↔a≤b:=by
 rw[zlK h h'];have hd:(0:Int)<(d:Int):=by have:=h.2.1;omega
 exact⟨fun g=>Int.le_of_mul_le_mul_right g hd,fun g=>Int.mul_le_mul_of_nonneg_right g (by omega)⟩
theorem zeq{p q:Q}{a b:Int}{d:Nat}(h:Val p a d)(h':Val q b d):cmpI p q<0↔a<b:=by
 rw[zpt h h'];have hd:(0:Int)<(d:Int):=by have:=h.2.1;omega
 exact⟨fun g=>Int.lt_of_mul_lt_mul_right g (by omega),fun g=>Int.mul_lt_mul_of_pos_right g hd⟩
theorem zpy{p q:Q}(hp:0<p.bot)(hq:0<q.bot):cmpI p q = -1∨cmpI p q=0∨cmpI p q=1:=by
 rw[zeH hp hq]
 rcases Int.lt_trichotomy (sI p*(q.bot:Int)-sI q*(p.bot:Int)) 0 with h | h | h
 ·exact .inl (Int.sign_eq_neg_one_of_neg h)
 ·rw[h];exact .inr (.inl rfl)
 ·exact .inr (.inr (Int.sign_eq_one_of_pos h))
theorem zn9{p q:Q}(hp:0<p.bot)(hq:0<q.bot):cmpI q p = - cmpI p q:=by
 rw[zeH hp hq,zeH hq hp,←Int.sign_neg]
 congr 1
 omega
theorem Val.inj{p:Q}{a b:Int}{d:Nat}(h:Val p a d)(h':Val p b d):a=b:=by
 have h1:cmpI p p≤0↔a≤b:=zbh h h';have h2:cmpI p p≤0↔b≤a:=zbh h' h;have h3:cmpI p p≤0:=(zbh h h).2 (Int.le_refl _);have:=h1.1 h3;have:=h2.1 h3;omega
theorem Val.scale{p:Q}{a:Int}{d:Nat}(h:Val p a d){k:Nat}(hk:0<k):Val p (a*(k:Int)) (d*k):=by
 refine h.trans (Nat.mul_pos h.2.1 hk) ?_;rw[Int.natCast_mul]
 grind
theorem Val.add1{p q:Q}{a b:Int}{d:Nat}(h:Val p a d)(h':Val q b d):Val (addQ p q) (a+b) d:=by
 refine(h.add h').trans h.2.1 ?_;rw[Int.natCast_mul]
 grind
theorem Val.sub1{p q:Q}{a b:Int}{d:Nat}(h:Val p a d)(h':Val q b d):Val (subQ p q) (a-b) d:=by
 refine(h.sub h').trans h.2.1 ?_;rw[Int.natCast_mul]
 grind
theorem znJ{p q:Q}(hp:0<p.bot)(hq:0<q.bot):∃ (P R:Int) (D:Nat),Val p P D∧Val q R D:=
 ⟨sI p*(q.bot:Int),sI q*(p.bot:Int),p.bot*q.bot,(zhA hp).scale hq,by
  have h:=(zhA hq).scale hp
  rwa [Nat.mul_comm] at h⟩
def ziQ (p q tq:Q):Q:=addQ p (mulQ tq (subQ q p))
structure Mid (p q x:Q) (P R X:Int) (E:Nat):Prop where
 v1:Val p P E
 v2:Val q R E
 vx:Val x X E
 le1:P≤X
 le2:X≤R
theorem zjX {p q tq:Q} (hp:0<p.bot) (hq:0<q.bot) (hle:cmpI p q≤0) {A:Nat} (hA:A≤255) (ht:Val tq (A:Int) 255):∃ (P R X:Int) (E:Nat),Mid p q (ziQ p q tq) P R X E:=by
 obtain⟨P,R,D,h1,h2⟩:=znJ hp hq;have h3:=(zbh h1 h2).1 hle;have h4:=ht.mul (h2.sub1 h1);have h5:=h1.scale (k:=255) (by omega);rw[Nat.mul_comm] at h5;have h6:=h2.scale (k:=255) (by omega);rw[Nat.mul_comm] at h6;have h7:=h5.add1 h4;refine⟨_,_,_,_,⟨h5,h6,h7,?_,?_⟩⟩
 ·have:=Int.mul_nonneg (show(0:Int)≤(A:Int) by omega) (show 0≤R-P by omega)
  omega
 ·have:=Int.mul_le_mul_of_nonneg_right (show(A:Int)≤255 by omega) (show 0≤R-P by omega)
  omega
theorem ze6{P R X P' R' Y:Int}(h1:P≤X)(h2:X≤R)(h3:P'≤Y)(h4:Y≤R'):P*P'≤X*Y∨P*R'≤X*Y∨R*P'≤X*Y∨R*R'≤X*Y:=by
 rcases Int.le_total 0 Y with hy | hy
 ·have a:=Int.mul_le_mul_of_nonneg_right h1 hy
  rcases Int.le_total 0 P with hp | hp
  ·exact .inl (Int.le_trans (Int.mul_le_mul_of_nonneg_left h3 hp) a)
  ·exact .inr (.inl (Int.le_trans (Int.mul_le_mul_of_nonpos_left hp h4) a))
 ·have a:=Int.mul_le_mul_of_nonpos_right h2 hy
  rcases Int.le_total 0 R with hp | hp
  ·exact .inr (.inr (.inl (Int.le_trans (Int.mul_le_mul_of_nonneg_left h3 hp) a)))
  ·exact .inr (.inr (.inr (Int.le_trans (Int.mul_le_mul_of_nonpos_left hp h4) a)))
theorem zfC{P R X P' R' Y:Int}(h1:P≤X)(h2:X≤R)(h3:P'≤Y)(h4:Y≤R'):X*Y≤P*P'∨X*Y≤P*R'∨X*Y≤R*P'∨X*Y≤R*R':=by
 have h:=ze6 (P := -R) (R := -P) (X := -X) (P':=P') (R':=R') (Y:=Y) (by omega) (by omega) h3 h4;simp only[Int.neg_mul] at h
 omega
structure HullQ (h:Q × Q) (m M:Int) (D:Nat):Prop where
 v1:Val h.1 m D
 v2:Val h.2 M D
 l1:LowQ h.1
 l2:LowQ h.2
theorem zfV{h:Q × Q}{m M:Int}{D:Nat}(H:HullQ h m M D){x:Q}{X:Int}(hx:Val x X D)(lx:LowQ x):HullQ (if rcmp x h.1<0 then x else h.1,if 0<rcmp x h.2 then x else h.2) (min m X) (max M X) D:=by
 rw[zen lx H.l1,zen lx H.l2];have a1:=zeq hx H.v1;have a2:=zbh hx H.v2;refine⟨?_,?_,?_,?_⟩
 ·show Val (if cmpI x h.1<0 then x else h.1) _ _
  split
  ·rename_i g;rw[Int.min_eq_right (Int.le_of_lt (a1.1 g))];exact hx
  ·rename_i g;rw[Int.min_eq_left (by have:=mt a1.2 g;omega)];exact H.v1
 ·show Val (if 0<cmpI x h.2 then x else h.2) _ _
  split
  ·rename_i g;rw[Int.max_eq_right (by have:=mt a2.2 (by omega);omega)];exact hx
  ·rename_i g;rw[Int.max_eq_left (a2.1 (by omega))];exact H.v2
 ·show LowQ (if cmpI x h.1<0 then x else h.1)
  split
  ·exact lx
  ·exact H.l1
 ·show LowQ (if 0<cmpI x h.2 then x else h.2)
  split
  ·exact lx
  ·exact H.l2
theorem zik{a b c d:Q}{A B C D:Int}{E:Nat}(ha:Val a A E)(hb:Val b B E)(hc:Val c C E)(hd:Val d D E)(la:LowQ a)(lb:LowQ b)(lc:LowQ c)(ld:LowQ d):HullQ (encQ a [b,c,d]) (min (min (min A B) C) D) (max (max (max A B) C) D) E:=
 zfV (zfV (zfV (h:=(a,a)) ⟨ha,ha,la,la⟩ hb lb) hc lc) hd ld
structure Encl (a b x:Q) (N:Nat):Prop where
 l1:LowQ a
 l2:LowQ b
 s1:Small a N
 s2:Small b N
 le:cmpI a b≤0
 in1:cmpI a x≤0
 in2:cmpI x b≤0
theorem zkJ {p q x p' q' y:Q} {P R X P' R' Y:Int} {E E':Nat} (h:Mid p q x P R X E) (h':Mid p' q' y P' R' Y E') (sp:Small p 6) (sq:Small q 6) (sp':Small p' 6) (sq':Small q' 6):Encl (zcC p q p' q').1 (zcC p q p' q').2 (mulQ x y) 30:=by
 have e:zcC p q p' q'=encQ (mulR p p') [mulR p q',mulR q p',mulR q q']:=rfl;rw[e,zfk,zfk,zfk,zfk];have lw:∀ u v:Q,0<u.bot→0<v.bot→LowQ (mulQ u v):=fun u v hu hv=>zes u v hu hv
 have b1:=h.v1.2.2;have b2:=h.v2.2.2;have b3:=h'.v1.2.2;have b4:=h'.v2.2.2
 have H:=zik (h.v1.mul h'.v1) (h.v1.mul h'.v2) (h.v2.mul h'.v1) (h.v2.mul h'.v2) (lw _ _ b1 b3) (lw _ _ b1 b4) (lw _ _ b2 b3) (lw _ _ b2 b4);have hx:=h.vx.mul h'.vx;have c1:=ze6 h.le1 h.le2 h'.le1 h'.le2;have c2:=zfC h.le1 h.le2 h'.le1 h'.le2;have sm:=zhw (fun u=>Small u 12) [mulQ p q',mulQ q p',mulQ q q'] (mulQ p p',mulQ p p') (zbo sp sp' b1 b3) (zbo sp sp' b1 b3) (by
  intro u hu;simp only[List.mem_cons,List.not_mem_nil,or_false] at hu
  rcases hu with rfl | rfl | rfl
  ·exact zbo sp sq' b1 b4
  ·exact zbo sq sp' b2 b3
  ·exact zbo sq sq' b2 b4)
 refine⟨H.l1,H.l2,Small.more sm.1 (by omega),Small.more sm.2 (by omega),?_,?_,?_⟩
 ·rw[zbh H.v1 H.v2];omega
 ·rw[zbh H.v1 hx];omega
 ·rw[zbh hx H.v2];omega
theorem zlT{p q x p' q' y:Q}{P R X P' R' Y:Int}{E E':Nat}(h:Mid p q x P R X E)(h':Mid p' q' y P' R' Y E')(sp:Small p 6)(sq:Small q 6)(sp':Small p' 6)(sq':Small q' 6):Encl (zeW p q p' q').1 (zeW p q p' q').2 (addQ x y) 30:=by
 have e:zeW p q p' q'=(addQ p p',addQ q q'):=by unfold zeW;rw[zfT,zfT]
 rw[e];have b1:=h.v1.2.2;have b2:=h.v2.2.2;have b3:=h'.v1.2.2;have b4:=h'.v2.2.2
 have hE:=h.v1.2.1;have aA:=h'.v1.2.1
 have t:∀ {u:Q} {a:Int},Val u a E'→Val u (a*(E:Int)) (E*E'):=fun g=>by have:=g.scale hE;rwa [Nat.mul_comm] at this
 have v1:=(h.v1.scale aA).add1 (t h'.v1);have v2:=(h.v2.scale aA).add1 (t h'.v2);have vx:=(h.vx.scale aA).add1 (t h'.vx);have m1:=Int.mul_le_mul_of_nonneg_right h.le1 (show(0:Int)≤(E':Int) by omega);have m2:=Int.mul_le_mul_of_nonneg_right h.le2 (show(0:Int)≤(E':Int) by omega);have m3:=Int.mul_le_mul_of_nonneg_right h'.le1 (show(0:Int)≤(E:Int) by omega);have m4:=Int.mul_le_mul_of_nonneg_right h'.le2 (show(0:Int)≤(E:Int) by omega);refine⟨za4 _ (Nat.mul_pos b1 b3),za4 _ (Nat.mul_pos b2 b4),(zdB sp sp' b1 b3).more (by omega),(zdB sq sq' b2 b4).more (by omega),?_,?_,?_⟩
 ·show cmpI (addQ p p') (addQ q q')≤0
  rw[zbh v1 v2];omega
 ·show cmpI (addQ p p') (addQ x y)≤0
  rw[zbh v1 vx];omega
 ·show cmpI (addQ x y) (addQ q q')≤0
  rw[zbh vx v2];omega
theorem zkf{p q x p' q' y:Q}{P R X P' R' Y:Int}{E E':Nat}(h:Mid p q x P R X E)(h':Mid p' q' y P' R' Y E')(sp:Small p 6)(sq:Small q 6)(sp':Small p' 6)(sq':Small q' 6):Encl (zdx p q p' q').1 (zdx p q p' q').2 (subQ x y) 30:=by
 have e:zdx p q p' q'=(subQ p q',subQ q p'):=by
  show(subR p q',subR q p')=_
  rw[zjv,zjv]
 rw[e];have b1:=h.v1.2.2;have b2:=h.v2.2.2;have b3:=h'.v1.2.2;have b4:=h'.v2.2.2
 have hE:=h.v1.2.1;have aA:=h'.v1.2.1
 have t:∀ {u:Q} {a:Int},Val u a E'→Val u (a*(E:Int)) (E*E'):=fun g=>by have:=g.scale hE;rwa [Nat.mul_comm] at this
 have v1:=(h.v1.scale aA).sub1 (t h'.v2);have v2:=(h.v2.scale aA).sub1 (t h'.v1);have vx:=(h.vx.scale aA).sub1 (t h'.vx);have m1:=Int.mul_le_mul_of_nonneg_right h.le1 (show(0:Int)≤(E':Int) by omega);have m2:=Int.mul_le_mul_of_nonneg_right h.le2 (show(0:Int)≤(E':Int) by omega);have m3:=Int.mul_le_mul_of_nonneg_right h'.le1 (show(0:Int)≤(E:Int) by omega);have m4:=Int.mul_le_mul_of_nonneg_right h'.le2 (show(0:Int)≤(E:Int) by omega);refine⟨za4 _ (Nat.mul_pos b1 b4),za4 _ (Nat.mul_pos b2 b3),(zdJ sp sq' b1 b4).more (by omega),(zdJ sq sp' b2 b3).more (by omega),?_,?_,?_⟩
 ·show cmpI (subQ p q') (subQ q p')≤0
  rw[zbh v1 v2];omega
 ·show cmpI (subQ p q') (subQ x y)≤0
  rw[zbh v1 vx];omega
 ·show cmpI (subQ x y) (subQ q p')≤0
  rw[zbh vx v2];omega
theorem ze2{y:Q}{Y R:Int}{E N:Nat}(h:Val y Y E)(hy:y.top≠0)(hN:0<N)(e:R*Y=(E:Int)*(N:Int)):Val (recS y) R N:=by
 obtain⟨h1,h2,h3⟩:=h;refine⟨?_,hN,by show 0<y.top;omega⟩;have hs:sI (recS y)*sI y=(y.bot:Int)*(y.top:Int):=by
  unfold sI recS
  dsimp only
  cases y.neg
  ·simp
  ·simp[Int.neg_mul_neg]
 have aA:sI y≠0:=by
  unfold sI
  split<;>omega
 have hc:sI y*(E:Int)≠0:=Int.mul_ne_zero aA (by omega)
 apply Int.eq_of_mul_eq_mul_right hc
 show sI (recS y)*(N:Int)*(sI y*(E:Int))=R*(y.top:Int)*(sI y*(E:Int))
 generalize sI (recS y)=s at *;generalize sI y=t at *;generalize (y.bot:Int)=b at *;generalize (y.top:Int)=c at *;have k1:s*(N:Int)*(t*(E:Int))=(s*t)*((E:Int)*(N:Int)):=by grind
 have k2:R*c*(t*(E:Int))=R*c*(Y*b):=by rw[h1]
 have k3:R*c*(Y*b)=(R*Y)*(b*c):=by grind
 rw[k1,k2,k3,e,hs]
 grind
theorem zde{y:Q}{Y:Int}{E:Nat}(h:Val y Y E)(hY:Y≠0):y.top≠0:=by
 intro h0;obtain⟨h1,h2,h3⟩:=h;have:sI y=0:=by unfold sI;rw[h0];split<;>rfl
 rw[this,Int.zero_mul] at h1;have:=Int.mul_ne_zero hY (show(y.bot:Int)≠0 by omega);omega
theorem zpe{p q y:Q}{P R Y:Int}{E:Nat}(h:Mid p q y P R Y E)(h0:0<P∨R<0):∃ (P' R' Y':Int) (N:Nat),Mid (recS q) (recS p) (recS y) P' R' Y' N:=by
 have hE:(0:Int)≤(E:Int):=by omega
 obtain⟨v1,v2,vx,l1,l2⟩:=h
 rcases h0 with h0 | h0
 ·have n1:0<P*Y:=Int.mul_pos h0 (by omega)
  have n2:0<P*Y*R:=Int.mul_pos n1 (by omega);have hN:(((P*Y*R).toNat:Nat):Int)=P*Y*R:=Int.toNat_of_nonneg (by omega);have aA:0<(P*Y*R).toNat:=by omega
  refine⟨P*Y*(E:Int),Y*R*(E:Int),P*R*(E:Int),(P*Y*R).toNat,⟨?_,?_,?_,?_,?_⟩⟩
  ·exact ze2 v2 (zde v2 (by omega)) aA (by rw[hN];grind)
  ·exact ze2 v1 (zde v1 (by omega)) aA (by rw[hN];grind)
  ·exact ze2 vx (zde vx (by omega)) aA (by rw[hN];grind)
  ·exact Int.mul_le_mul_of_nonneg_right (Int.mul_le_mul_of_nonneg_left l2 (by omega)) hE
  ·exact Int.mul_le_mul_of_nonneg_right (Int.mul_le_mul_of_nonneg_right l1 (by omega)) hE
 ·have n1:0<P*Y:=Int.mul_pos_of_neg_of_neg (by omega) (by omega)
  have n2:P*Y*R<0:=Int.mul_neg_of_pos_of_neg n1 h0;have hN:(((-(P*Y*R)).toNat:Nat):Int) = -(P*Y*R):=Int.toNat_of_nonneg (by omega);have aA:0<(-(P*Y*R)).toNat:=by omega
  refine⟨-(P*Y)*(E:Int), -(Y*R)*(E:Int), -(P*R)*(E:Int),(-(P*Y*R)).toNat,⟨?_,?_,?_,?_,?_⟩⟩
  ·exact ze2 v2 (zde v2 (by omega)) aA (by rw[hN];grind)
  ·exact ze2 v1 (zde v1 (by omega)) aA (by rw[hN];grind)
  ·exact ze2 vx (zde vx (by omega)) aA (by rw[hN];grind)
  ·refine Int.mul_le_mul_of_nonneg_right ?_ hE
   have:=Int.mul_le_mul_of_nonpos_left (show P≤0 by omega) l2;omega
  ·refine Int.mul_le_mul_of_nonneg_right ?_ hE
   have:=Int.mul_le_mul_of_nonpos_right l1 (show R≤0 by omega);omega
theorem zmL{p q x p' q' y:Q}{P R X P' R' Y:Int}{E E':Nat}(h:Mid p q x P R X E)(h':Mid p' q' y P' R' Y E')(h0:0<P'∨R'<0)(hp:LowQ p')(hq:LowQ q')(sp:Small p 6)(sq:Small q 6)(sp':Small p' 6)(sq':Small q' 6):Encl (zcH p q p' q').1 (zcH p q p' q').2 (mulQ x (recS y)) 30:=by
 obtain⟨A,B,C,N,g⟩:=zpe h' h0;have t1:p'.top≠0:=zde h'.v1 (by have:=h'.le1;have:=h'.le2;omega);have t2:q'.top≠0:=zde h'.v2 (by have:=h'.le1;have:=h'.le2;omega);have aA:p'.neg=q'.neg:=by
  have e1:=h'.v1.1;have e2:=h'.v2.1;have i1:=h'.le1;have i2:=h'.le2;have aD:=h'.v1.2.2;have aC:=h'.v2.2.2;have hE:=h'.v1.2.1;have sg:∀ (u:Q) (a:Int),sI u*(E':Int)=a*(u.bot:Int)→0<u.bot→u.top≠0→(0<a→u.neg=false)∧(a<0→u.neg=true):=by
   intro u a hu aF aE;unfold sI at hu
   constructor
   ·intro ha
    have hm:=Int.mul_pos ha (show(0:Int)<(u.bot:Int) by omega)
    cases hn:u.neg
    ·rfl
    ·rw[hn,if_pos rfl,Int.neg_mul] at hu
     have:=Int.mul_pos (show(0:Int)<(u.top:Int) by omega) (show(0:Int)<(E':Int) by omega);omega
   ·intro ha
    have hm:=Int.mul_neg_of_neg_of_pos ha (show(0:Int)<(u.bot:Int) by omega)
    cases hn:u.neg
    ·rw[hn,if_neg (by simp)] at hu
     have:=Int.mul_pos (show(0:Int)<(u.top:Int) by omega) (show(0:Int)<(E':Int) by omega);omega
    ·rfl
  rcases h0 with h0 | h0
  ·rw[(sg p' P' e1 aD t1).1 h0,(sg q' R' e2 aC t2).1 (by omega)]
  ·rw[(sg p' P' e1 aD t1).2 (by omega),(sg q' R' e2 aC t2).2 h0]
 have e:zcH p q p' q'=encQ (divR p p') [divR p q',divR q p',divR q q']:=by
  unfold zcH;rw[if_neg (by rintro(k | k);exact t1 k;exact k aA)]
  rfl
 rw[e,zft,zft,zft,zft];have lw:∀ u v:Q,0<u.bot→0<v.bot→LowQ (mulQ u v):=fun u v hu hv=>zes u v hu hv
 have b1:=h.v1.2.2;have b2:=h.v2.2.2;have b3:=g.v2.2.2;have b4:=g.v1.2.2
 have H:=zik (h.v1.mul g.v2) (h.v1.mul g.v1) (h.v2.mul g.v2) (h.v2.mul g.v1) (lw _ _ b1 b3) (lw _ _ b1 b4) (lw _ _ b2 b3) (lw _ _ b2 b4);have hx:=h.vx.mul g.vx;have c1:=ze6 h.le1 h.le2 g.le1 g.le2;have c2:=zfC h.le1 h.le2 g.le1 g.le2;have r1:=zdQ sp';have r2:=zdQ sq';have sm:=zhw (fun u=>Small u 12) [mulQ p (recS q'),mulQ q (recS p'),mulQ q (recS q')] (mulQ p (recS p'),mulQ p (recS p')) (zbo sp r1 b1 b3) (zbo sp r1 b1 b3) (by
  intro u hu;simp only[List.mem_cons,List.not_mem_nil,or_false] at hu
  rcases hu with rfl | rfl | rfl
  ·exact zbo sp r2 b1 b4
  ·exact zbo sq r1 b2 b3
  ·exact zbo sq r2 b2 b4)
 refine⟨H.l1,H.l2,Small.more sm.1 (by omega),Small.more sm.2 (by omega),?_,?_,?_⟩
 ·rw[zbh H.v1 H.v2];omega
 ·rw[zbh H.v1 hx];omega
 ·rw[zbh hx H.v2];omega
theorem zlG{p q p' q':Q}(hp:LowQ p')(hq:LowQ q')(h1:cmpI p' ⟨false,0,1⟩≤0)(h2:cmpI ⟨false,0,1⟩ q'≤0):zcH p q p' q'=(zb6,zb6):=by
 have vz:Val ⟨false,0,1⟩ 0 1:=⟨by decide,by omega,by decide⟩;rw[zlK (zhA hp.1) vz] at h1;rw[zlK vz (zhA hq.1)] at h2;unfold zcH
 by_cases ht:p'.top=0
 ·rw[if_pos (.inl ht)]
 ·have a1:p'.neg=true:=by
   unfold sI at h1
   cases hn:p'.neg
   ·rw[hn,if_neg (by simp)] at h1;omega
   ·rfl
  have a2:q'.neg=false:=by
   unfold sI at h2
   cases hn:q'.neg
   ·rfl
   ·have:=hq.2.2 hn
    rw[hn,if_pos rfl] at h2;omega
  rw[if_pos (.inr (by rw[a1,a2];decide))]
end
end Go.Proofs.YtmkondcdejlhcaaGreatDoor
