/- The reference of chapter 2: power, Top, CheckCode, CheckAdc of any converter. -/
import Derived.Test.YtmkondcdejlhcaaGreatDoorBSh5
import Derived.Test.YtmkondcdejlhcaaGreatDoorQRtx
import Derived.Test.YtmkondcdejlhcaaGreatDoorBRb24
import Derived.Test.YtmkondcdejlhcaaGreatDoorBRat2
import Derived.Test.YtmkondcdejlhcaaGreatDoorBLdx2
import Derived.Test.YtmkondcdejlhcaaGreatDoorBEx3
import Derived.Test.YtmkondcdejlhcaaGreatDoorBFloat
import Derived.Test.YtmkondcdejlhcaaGreatDoorBShelf
import Derived.Deep.RegionHeld3
import Derived.Test.YtmkondcdejlhcaaGreatDoorBWords
import Derived.Deep.LoopGhost
import Derived.Shelf.SlSorted.Search
import Derived.Test.YtmkondcdejlhcaaGreatDoorBDw
import Derived.Laws.Cover2
import Derived.Test.YtmkondcdejlhcaaGreatDoorBRb3
import Derived.Test.YtmkondcdejlhcaaGreatDoorBFl3
import Derived.Laws.FloatArith
import Derived.Test.YtmkondcdejlhcaaGreatDoorQSp8
import Derived.Test.YtmkondcdejlhcaaGreatDoorBSp8
import Derived.Test.YtmkondcdejlhcaaGreatDoorBKn8
set_option maxRecDepth 100000
set_option maxHeartbeats 4000000
namespace Go.Proofs.YtmkondcdejlhcaaGreatDoor
section
open Go.RowKit Dn
theorem zfu {l:List UInt8} {N:Nat} (h:zad l=0) (hN:N=600):Small (zab l) N:=by
 obtain ⟨h1,h2,_,hf⟩:=zct h;rw [←hN] at h2 hf;have aA:1≤N:=by omega
 clear hN;unfold zab Small;rw [if_pos h];refine ⟨Nat.lt_of_lt_of_le (zbo _ (zas h1)) (Nat.pow_le_pow_right (by omega) h2),?_⟩
 cases hb:zc3 l
 ·simp only [Bool.false_eq_true,if_false]
  have h9:10 ^ 1≤10 ^ N:=Nat.pow_le_pow_right (by omega) aA;omega
 ·obtain ⟨h3,_,_,h4,_⟩:=hf hb
  simp only [if_true]
  exact Nat.lt_of_lt_of_le (zbo _ (zas h3)) (Nat.pow_le_pow_right (by omega) h4)
theorem zeh {a:ByteArray} (h:zad a.data.toList=0):a.size≤1202:=by
 obtain ⟨N,hN⟩:∃ N:Nat,N=600:=⟨_,rfl⟩;have:=(zbA h).size (zfu h hN) (by omega);omega
end
section
open Go.RowKit Bn
open Flt
theorem zdk {p:Q} {N:Nat} (h:Small p N) (hN:N≤600) (hN0:0<N) (hb:0<p.bot):zao p=0∧zaJ p=zaq p:=by
 have h1:=Dec.dec_length_le hN0 h.1;have h2:=Dec.dec_length_le hN0 h.2;have h0:zao p=0:=by
  unfold zao;rw [if_neg (by omega),if_neg (by omega)]
 exact ⟨h0,by unfold zaJ;rw [if_pos h0]⟩
def Val (p:Q) (num:Int) (den:Nat):Prop:=sI p*(den:Int)=num*(p.bot:Int)∧0<den∧0<p.bot
theorem Val.frac {num:Int} {den:Nat} (h:0<den):Val (zbg num den) num den:=⟨zld h,h,(zaQ num h).1⟩
theorem Val.trans {p:Q} {a b:Int} {x y:Nat} (h:Val p a x) (hy:0<y) (e:a*(y:Int)=b*(x:Int)):Val p b y:=by
 obtain ⟨h1,h2,h3⟩:=h;refine ⟨?_,hy,h3⟩;have hx:(x:Int)≠0:=by omega
 apply Int.eq_of_mul_eq_mul_right hx
 grind
theorem Val.eq {p q:Q} {a b:Int} {x y:Nat} (h:Val p a x) (h':Val q b y) (hp:LowQ p) (hq:LowQ q) (e:a*(y:Int)=b*(x:Int)):p=q:=by
 obtain ⟨h1,h2,h3⟩:=h;obtain ⟨k1,k2,k3⟩:=h';refine zeq hp hq ?_;have hx:((x:Int)*(y:Int))≠0:=Int.mul_ne_zero (by omega) (by omega)
 apply Int.eq_of_mul_eq_mul_right hx
 grind
theorem Val.mul {p q:Q} {a b:Int} {x y:Nat} (h:Val p a x) (h':Val q b y):Val (mulQ p q) (a*b) (x*y):=by
 obtain ⟨h1,h2,h3⟩:=h;obtain ⟨k1,k2,k3⟩:=h';have hv:Val (mulQ p q) (sI p*sI q) (p.bot*q.bot):=Val.frac (Nat.mul_pos h3 k3);refine hv.trans (Nat.mul_pos h2 k2) ?_;rw [Int.natCast_mul,Int.natCast_mul]
 grind
theorem Val.sub {p q:Q} {a b:Int} {x y:Nat} (h:Val p a x) (h':Val q b y):Val (subQ p q) (a*y - b*x) (x*y):=by
 obtain ⟨h1,h2,h3⟩:=h;obtain ⟨k1,k2,k3⟩:=h';have hv:Val (subQ p q) (sI p*(q.bot:Int) - sI q*(p.bot:Int)) (p.bot*q.bot):=Val.frac (Nat.mul_pos h3 k3);refine hv.trans (Nat.mul_pos h2 k2) ?_;rw [Int.natCast_mul,Int.natCast_mul]
 grind
theorem Val.sign {q:Q} {num:Int} {den:Nat} (h:Val q num den):(num<0→zcm q = -1)∧(num=0→zcm q=0)∧(0<num→zcm q=1):=by
 obtain ⟨h1,h2,h3⟩:=h;have hb:(0:Int)<(q.bot:Int):=by omega
 have hd:(0:Int)<(den:Int):=by omega
 have hs:sI q=if q.neg then -(q.top:Int) else (q.top:Int):=rfl
 unfold zcm;refine ⟨fun hn => ?_,fun hn => ?_,fun hn => ?_⟩
 ·have aC:sI q*(den:Int)<0:=by rw [h1];exact Int.mul_neg_of_neg_of_pos hn hb
  have aA:sI q<0:=by
   rcases Int.lt_or_le (sI q) 0 with h9 | h9
   ·exact h9
   ·have:=Int.mul_nonneg h9 (Int.le_of_lt hd);omega
  rw [hs] at aA;have ht:q.top≠0:=by intro h9;rw [h9] at aA;simp at aA
  rw [if_neg ht]
  cases hq:q.neg
  ·rw [hq] at aA;simp at aA;omega
  ·simp
 ·rw [hn,Int.zero_mul] at h1
  have h0:=(Int.mul_eq_zero.1 h1).resolve_right (by omega);rw [hs] at h0;have ht:q.top=0:=by split at h0<;>omega
  rw [if_pos ht]
 ·have aC:0<sI q*(den:Int):=by rw [h1];exact Int.mul_pos hn hb
  have aA:0<sI q:=by
   rcases Int.lt_or_le 0 (sI q) with h9 | h9
   ·exact h9
   ·have:=Int.mul_nonpos_of_nonpos_of_nonneg h9 (Int.le_of_lt hd);omega
  rw [hs] at aA;have ht:q.top≠0:=by intro h9;rw [h9] at aA;simp at aA
  rw [if_neg ht]
  cases hq:q.neg
  ·simp
  ·rw [hq] at aA;simp at aA;omega
end
section
open Go.RowKit
open Flt
theorem zgX {p q:Q} {a b:Int} {x y:Nat} (h:Val p a x) (h':Val q b y):(a*y<b*x→cmpI p q = -1)∧(a*y=b*x→cmpI p q=0)∧(b*x<a*y→cmpI p q=1):=by
 have h9:=(h.sub h').sign;unfold cmpI;exact ⟨fun e=>h9.1 (by omega),fun e=>h9.2.1 (by omega),fun e=>h9.2.2 (by omega)⟩
end
section
open Go.RowKit Dn
def FewK (k:Nat) (s:ByteArray):Prop:=zad s.data.toList=0∧Small (zab s.data.toList) k∧s.size≤2*k+2
def zja (k:Nat) (s:ByteArray) (b:Bool):Prop:=∀ W,Calls Tryz.prog 35 #[.string s,.int .i64 (k:Int)] W fun e w'=>e = .returned (.bool b)∧Below W.heap.size W w'
theorem zcr {k:Nat} (hk:k≤1000):∃ K2 L:Nat,K2=2*k∧L=2*k+2∧wrap64 (2*(k:Int))=(K2:Int)∧wrap64 ((K2:Int)+2)=(L:Int):=⟨2*k,2*k+2,rfl,rfl,by rw [IntWalk.wrap64_in _ (by omega)];omega,by rw [IntWalk.wrap64_in _ (by omega)];omega⟩
theorem zfP (k:Nat) (a:ByteArray) (b:Bool) (hk:k≤1000) (h1:a.size≤2*k+2) (h2:zad a.data.toList=0) (hb:b=(decide ((zaq (absQ (numQ (zab a.data.toList)))).length≤k) && decide ((Lib.decDigits (zab a.data.toList).bot).length≤k))) :
    zja k a b:=by
  intro w;obtain ⟨K2,L,_,hL,w1,w2⟩:=zcr hk;have d1:decide ((a.size:Int)≤(L:Int))=true:=decide_eq_true (by omega);have hq:=zbA h2;have hC:∀ W,Calls Tryz.prog 11 #[.string a] W (RetC W 0):=fun W=>by
    have h:=za3 a W (by omega)
    rwa [h2] at h
  have HC:=Aa hC;have HN:=Aa (fun W=>zni a _ W hq (by omega));have HA:=Aa (fun (s:ByteArray) (hs:NumQ s (numQ (zab a.data.toList))) (hz:s.size≤1000000) (W:World)=>zlb s (numQ (zab a.data.toList)) W hs hz);have HD:=Aa (fun W=>zm1 a _ W hq (by omega));clear hC;generalize zab a.data.toList=p at *;obtain ⟨L2,aD⟩:∃ L2,L2=(Lib.decDigits p.bot).length:=⟨_,rfl⟩;obtain ⟨L1,aE⟩:∃ L1,L1=(zaq (absQ (numQ p))).length:=⟨_,rfl⟩;rw [←aE,←aD] at hb;rw [←aD] at HD;have HZ:Hid (∀ t:ByteArray,NumQ t (absQ (numQ p))→t.size=L1):=fun t ht=>by
    have h9:=congrArg List.length ht.1;rw [←aE,Array.length_toList] at h9;exact h9
  clear hq h2 aE aD;have aA:(decide (L1≤k)=false∧b=false)∨(decide (L1≤k)=true∧Hid (decide (L2≤k)=b)):=by
    rw [hb]
    by_cases h3:L1≤k
    · refine .inr ⟨decide_eq_true h3,?_⟩
      rw [decide_eq_true h3,Bool.true_and];exact rfl
    · exact .inl ⟨decide_eq_false h3,by rw [decide_eq_false h3];rfl⟩
  clear hb
  rcases aA with ⟨d3,rfl⟩ | ⟨d3,d4⟩
  all_goals
    go_enter Tryz.func35,Tryz.ntmps35
    go_wp2_with fail
    refine (HC.out w).mono ?_;rintro e w1 ⟨rfl,aC⟩
    go_wp2_with fail
    refine (HN.out w1).mono ?_;rintro e w2 ⟨⟨s,rfl,aI,aK⟩,rfl⟩;have HS:=Aa aI;clear aI
    go_wp2_with fail
    refine (HA.out s HS.out (by omega) w1).mono ?_;rintro e w3 ⟨⟨t,rfl,aJ⟩,aG⟩;have aF:=Ad aC aG;have aH:=HZ.out t aJ;rw [←aH] at d3;clear aJ aG aC aH
    go_wp2_with fail
    first
      | (go_ret
         exact ⟨rfl,aF⟩)
      | (refine (HD.out w3).mono ?_
         rintro e w4 ⟨⟨u,rfl,hu⟩,rfl⟩;have HU:=Aa hu;clear hu;go_wp2
         go_ret;exact ⟨by rw [←d4.out,←HU.out];rfl,aF⟩)
theorem zg5 (k:Nat) (a:ByteArray) (h0:0<k) (hk:k≤1000):∃ b,(b=true→FewK k a)∧zja k a b:=by
 by_cases h1:a.size≤2*k+2
 ·by_cases h2:zad a.data.toList=0
  ·refine ⟨_,fun hb=>⟨h2,?_,h1⟩,zfP k a _ hk h1 h2 rfl⟩
   simp only [Bool.and_eq_true,decide_eq_true_eq] at hb
   have hq:=zbA h2;generalize zab a.data.toList=p at *;have aA:LowQ (numQ p):=⟨Nat.one_pos,Nat.gcd_one_right _,hq.2.2.2⟩;have ht:NumQ ⟨(zaq (absQ (numQ p))).toArray⟩ (absQ (numQ p)):=⟨by simp,zj6 aA⟩;have aD:(⟨(zaq (absQ (numQ p))).toArray⟩:ByteArray).size≤k:=by
    show (zaq (absQ (numQ p))).toArray.size≤k
    rw [List.size_toArray];exact hb.1
   refine ⟨(ht.small aD h0).1,?_⟩;have e2:=zbo _ (zaA p.bot);rw [zaG] at e2;exact Nat.lt_of_lt_of_le e2 (Nat.pow_le_pow_right (by omega) hb.2)
  ·refine ⟨false,(fun h=>by cases h),fun w => ?_⟩
   obtain ⟨K2,L,_,hL,w1,w2⟩:=zcr hk;have d1:decide ((a.size:Int)≤(L:Int))=true:=decide_eq_true (by omega);have HC:=Aa (fun W=>za3 a W (by omega));have d2:(zad a.data.toList==0)=false:=beq_eq_false_iff_ne.2 h2;generalize zad a.data.toList=E at *;clear h2;go_enter Tryz.func35,Tryz.ntmps35
   go_wp2_with fail
   refine (HC.out w).mono ?_;rintro e w1 ⟨rfl,aC⟩;go_wp2
   go_ret;exact ⟨rfl,aC⟩
 ·refine ⟨false,(fun h=>by cases h),fun w => ?_⟩
  obtain ⟨K2,L,_,hL,w1,w2⟩:=zcr hk;have d1:decide ((a.size:Int)≤(L:Int))=false:=decide_eq_false (by omega);go_enter Tryz.func35,Tryz.ntmps35
  go_wp2
  go_ret;exact ⟨rfl,Below.refl _ _⟩
end
section
open Go.RowKit Bn Dn
open Flt
theorem zgl {s:ByteArray} {p:Q} {K:Nat} (h:NumQ s p) (hs:Small p K) (hK:K≤600) (hK0:0<K):zad s.data.toList=0∧zab s.data.toList=p:=by
 rw [h.1];exact zcY p h.2 (Nat.le_trans (Dec.dec_length_le hK0 hs.1) hK) (Nat.le_trans (Dec.dec_length_le hK0 hs.2) hK)
theorem zcB {p:Q} (hb:0<p.bot):Val p (sI p) p.bot:=⟨rfl,hb,hb⟩
theorem zf2 {p q:Q} {a b:Int} {x y:Nat} (h:Val p a x) (h':Val q b y):cmpI p q≤0↔a*(y:Int)≤b*(x:Int):=by
 obtain ⟨c1,c2,c3⟩:=zgX h h';generalize a*(y:Int)=u at *;generalize b*(x:Int)=v at *
 rcases Int.lt_trichotomy u v with g | g | g
 ·have:=c1 g;omega
 ·have:=c2 g;omega
 ·have:=c3 g;omega
theorem zci (p q:Q) (hp:0<p.bot) (hq:0<q.bot):LowQ (subQ p q):=zaQ _ (Nat.mul_pos hp hq)
theorem zbB (p q:Q) (hp:0<p.bot) (hq:0<q.bot):LowQ (mulQ p q):=zaQ _ (Nat.mul_pos hp hq)
end
section
open Go.RowKit Bn Dn
theorem zfo {s:ByteArray} {p:Q} {K:Nat} (h:NumQ s p) (hs:Small p K) (hK:K≤600) (hK0:0<K):zad s.data.toList=0∧zab s.data.toList=p:=by
 rw [h.1];exact zcY p h.2 (Nat.le_trans (Dec.dec_length_le hK0 hs.1) hK) (Nat.le_trans (Dec.dec_length_le hK0 hs.2) hK)
theorem zh9 (s t:ByteArray) (ty:TypeId) (g:Nat) (w:World) (hk:CBlk w g #[.string s,.string t] ty) (hs:zad s.data.toList=0) (ht:zad t.data.toList=0) :
  Calls Tryz.prog 83 #[.slice (some ⟨g,0,none⟩) 2 2] w fun e w'=>e = .returned (.int .i64 0)∧Below w.heap.size w w':=by
 have b1:=zeh hs;have b2:=zeh ht;have HS:Hid (∀ W,Calls Tryz.prog 11 #[.string s] W (RetC W 0)):=fun W=>by
  have h:=za3 s W (by omega)
  rwa [hs] at h
 have HT:Hid (∀ W,Calls Tryz.prog 11 #[.string t] W (RetC W 0)):=fun W=>by
  have h:=za3 t W (by omega)
  rwa [ht] at h
 clear hs ht b1 b2;go_enter Tryz.func83,Tryz.ntmps83
 go_wp2
 go_loopg [3] 2 (fun g1 v3 W=>∃ i:Nat,v3 = .int .i64 (i:Int)∧i≤2∧g1+i=2∧Below w.heap.size w W)
 case atStart=>exact ⟨0,rfl,by omega,rfl,Below.refl _ _⟩
 case round=>
  obtain ⟨i,rfl,hi,aE,aA⟩:=hrel;have aC:=hk.below aA hk.lt;have z0:wr.cell? ⟨g,0,none⟩=some (.string s):=aC.cell 0;have z1:wr.cell? ⟨g,1,none⟩=some (.string t):=aC.cell 1;clear aC
  match i,hi,aE with
  | 0,_,_=>
   go_wp2_with fail
   refine (HS.out wr).mono ?_;rintro e w1 ⟨rfl,aD⟩;go_wp2
   go_roundg 1
   case rel=>exact ⟨1,rfl,by omega,rfl,aA.trans (aD.mono aA.size)⟩
   case measure=>omega
  | 1,_,_=>
   go_wp2_with fail
   refine (HT.out wr).mono ?_;rintro e w1 ⟨rfl,aD⟩;go_wp2
   go_roundg 0
   case rel=>exact ⟨2,rfl,by omega,rfl,aA.trans (aD.mono aA.size)⟩
   case measure=>omega
  | 2,_,_=>
   go_wp2
   go_ret;exact ⟨rfl,aA⟩
  | n+3,h,_=>exact absurd h (by omega)
theorem zg7 (s t:ByteArray) (p q:Q) (w:World) (hs:NumQ s p) (ht:NumQ t q) (sp:Small p 300) (sq:Small q 300) (hle:cmpI p q≤0) :
  Calls Tryz.prog 31 #[.agg #[.string s,.string t]] w fun e w'=>e = .returned (.int .i64 0)∧Below w.heap.size w w':=by
 have aD:Below w.heap.size w (w.alloc (.cells #[.string s,.string t] 39)):=Ac;have q0:CBlk (w.alloc (.cells #[.string s,.string t] 39)) w.heap.size #[.string s,.string t] 39:=CBlk.new w _ _ _ rfl;obtain ⟨e1,_⟩:=zfo hs sp (by omega) (by omega);obtain ⟨e2,_⟩:=zfo ht sq (by omega) (by omega);have b1:=hs.size sp (by omega);have b2:=ht.size sq (by omega);have HR:=Aa (fun (W:World) (g:Nat) (ty:TypeId) (hk:CBlk W g #[.string s,.string t] ty)=>zh9 s t ty g W hk e1 e2);have HC:=Aa (fun W=>ziJ s t p q W hs ht (by omega) (by omega));have d1:decide (0<cmpI p q)=false:=decide_eq_false (by omega);have x0:=q0.cell 0;have x1:=q0.cell 1;generalize cmpI p q=C at *;clear hs ht sp sq hle e1 e2 b1 b2;go_enter Tryz.func31,Tryz.ntmps31
 go_wp2_with fail
 have l1:CBlk ((w.alloc (.cells #[.string s,.string t] 39)).alloc (.cells #[.string s,.string t] 22)) (w.heap.size+1) #[.string s,.string t] 22:=CBlk.new _ _ _ _ (by simp);have q1:=q0.below ((Below.refl _ _).alloc (Nat.le_refl _) (.cells #[.string s,.string t] 22)) q0.lt;have aA:Below w.heap.size w ((w.alloc (.cells #[.string s,.string t] 39)).alloc (.cells #[.string s,.string t] 22)):=aD.alloc (by simp) _;generalize (w.alloc (.cells #[.string s,.string t] 39)).alloc (.cells #[.string s,.string t] 22)=w1 at *;refine (HR.out w1 (w.heap.size+1) 22 l1).mono ?_;rintro e w2 ⟨rfl,aC⟩;have q2:=q1.below aC q1.lt;have aE:=Ad aA aC;clear x0 x1 aC q1 l1 aD aA;have x0:=q2.cell 0;have x1:=q2.cell 1
 go_wp2_with fail
 refine (HC.out w2).mono ?_;rintro e w3 ⟨rfl,aF⟩
 go_wp2_with fail
 go_ret;exact ⟨rfl,aE.trans (aF.mono aE.size)⟩
def zjf:Q:=⟨false,1,1000⟩
theorem zjs:NumQ ⟨#[49,47,49,48,48,48]⟩ zjf:=⟨by decide +kernel,by decide,by decide,by decide⟩
theorem zi8:Val zjf 1 1000:=⟨by decide,by decide,by decide⟩
theorem zp7 {p q:Q} {a b:Int} {x y:Nat} (h:Val p a x) (h':Val q b y):0≤cmpI p q↔b*(x:Int)≤a*(y:Int):=by
 obtain ⟨c1,c2,c3⟩:=zgX h h';generalize a*(y:Int)=u at *;generalize b*(x:Int)=v at *
 rcases Int.lt_trichotomy u v with g | g | g
 ·have:=c1 g;omega
 ·have:=c2 g;omega
 ·have:=c3 g;omega
theorem zlX {p:Q} {N K:Nat} (h:Small p N) (hN:N≤K):LenQ p K:=by
 have hB:10 ^ K≤Bn.B ^ K:=Nat.pow_le_pow_left (by rw [Bn.B_def];omega) _;have hM:10 ^ N≤10 ^ K:=Nat.pow_le_pow_right (by omega) hN;exact ⟨Bn.digs_length_le (Nat.lt_of_lt_of_le h.1 (Nat.le_trans hM hB)),Bn.digs_length_le (Nat.lt_of_lt_of_le h.2 (Nat.le_trans hM hB))⟩
theorem zfB {p:Q} {N:Nat} (h:Small p N) (hN:N≤600):LenQ p 600:=zlX h hN
structure RootOk (p a b:Q):Prop where
 low1:LowQ a
 low2:LowQ b
 sm1:Small a 70
 sm2:Small b 70
 le:cmpI a b≤0
 sg:0≤zcm a
 c1:cmpI (mulQ a a) p≤0
 c2:0≤cmpI (mulQ b b) p
 c3:cmpI (subQ b a) zjf≤0
theorem zk4 (k d:Nat):lowQ false k d=zbg (k:Int) d:=by
 unfold zbg;rw [decide_eq_false (by omega),Int.natAbs_natCast]
theorem ziv {p:Q} (hn:p.neg=false) (hb:0<p.bot) (hs:Small p 60) {k:Nat} (hk:zbK (p.top*1000000 / p.bot) k):RootOk p (lowQ false k 1000) (lowQ false (k+1) 1000):=by
 obtain ⟨h1,h2⟩:=hk;have aA:sI p=(p.top:Int):=by unfold sI;rw [hn];rfl
 have vp:Val p (p.top:Int) p.bot:=by rw [←aA];exact zcB hb
 rw [zk4,zk4];have v1:Val (zbg (k:Int) 1000) k 1000:=Val.frac (by omega);have v2:Val (zbg ((k+1:Nat):Int) 1000) ((k+1:Nat):Int) 1000:=Val.frac (by omega);have e1:k*k*p.bot≤p.top*1000000:=Nat.le_trans (Nat.mul_le_mul_right _ h1) (Nat.div_mul_le_self _ _);have e2:p.top*1000000≤(k+1)*(k+1)*p.bot:=by
  have h3:=Nat.mul_le_mul_right p.bot (Nat.succ_le_of_lt h2);have h4:p.top*1000000<p.bot*(p.top*1000000 / p.bot+1):=Nat.lt_mul_div_succ _ hb;rw [Nat.mul_comm p.bot] at h4;exact Nat.le_of_lt (Nat.lt_of_lt_of_le h4 (by simpa using h3))
 have aC:k<10 ^ 69:=by
  have h3:k≤p.top*1000000:=by
   rcases Nat.eq_zero_or_pos k with h | h
   ·omega
   ·exact Nat.le_trans (Nat.le_mul_of_pos_left k h) (Nat.le_trans h1 (Nat.div_le_self _ _))
  have h4:=hs.1;have h5:(10:Nat) ^ 69=10 ^ 60*1000000000:=by decide
  omega
 refine ⟨zaQ _ (by omega),zaQ _ (by omega),zdA ?_ (by decide) (by omega),zdA ?_ (by decide) (by omega),?_,?_,?_,?_,?_⟩
 ·rw [Int.natAbs_natCast];exact Nat.lt_of_lt_of_le aC (by decide)
 ·rw [Int.natAbs_natCast]
  have:(10:Nat) ^ 70=10 ^ 69*10:=by decide
  omega
 ·rw [zf2 v1 v2];omega
 ·rw [zfs (by omega)]
  rcases Nat.eq_zero_or_pos k with h | h
  ·subst h;decide
  ·rw [Int.sign_eq_one_of_pos (by omega)];omega
 ·rw [zf2 (v1.mul v1) vp]
  have e:((k*k*p.bot:Nat):Int)≤((p.top*(1000*1000):Nat):Int):=by exact_mod_cast e1
  simpa only [Int.natCast_mul] using e
 ·rw [zp7 (v2.mul v2) vp]
  have e:((p.top*(1000*1000):Nat):Int)≤(((k+1)*(k+1)*p.bot:Nat):Int):=by exact_mod_cast e2
  simpa only [Int.natCast_mul] using e
 ·rw [zf2 (v2.sub v1) zi8]
  omega
theorem zg8 {p:Q} (hn:p.neg=false) (hl:LowQ p) (hs:Small p 60) {s t:Nat} (h1:s*s=p.top) (h2:t*t=p.bot):RootOk p ⟨false,s,t⟩ ⟨false,s,t⟩:=by
 have ht:0<t:=by
  rcases Nat.eq_zero_or_pos t with h | h
  ·subst h;have:=hl.1;omega
  ·exact h
 have hg:Nat.gcd s t=1:=by
  have g1:Nat.gcd s t ∣ p.top:=by rw [←h1];exact Nat.dvd_trans (Nat.gcd_dvd_left s t) (Nat.dvd_mul_right s s)
  have g2:Nat.gcd s t ∣ p.bot:=by rw [←h2];exact Nat.dvd_trans (Nat.gcd_dvd_right s t) (Nat.dvd_mul_right t t)
  have g3:=Nat.dvd_gcd g1 g2;rw [hl.2.1] at g3;exact Nat.dvd_one.1 g3
 have low:LowQ ⟨false,s,t⟩:=⟨ht,hg,fun h=>by cases h⟩;have aA:sI p=(p.top:Int):=by unfold sI;rw [hn];rfl
 have vp:Val p (p.top:Int) p.bot:=by rw [←aA];exact zcB hl.1
 have v:Val ⟨false,s,t⟩ (s:Int) t:=zcB (p:=⟨false,s,t⟩) ht;have sm:Small ⟨false,s,t⟩ 70:=by
  have a1:s≤p.top:=by
   rcases Nat.eq_zero_or_pos s with h | h
   ·omega
   ·rw [←h1];exact Nat.le_mul_of_pos_left s h
  have a2:t≤p.bot:=by rw [←h2];exact Nat.le_mul_of_pos_left t ht
  have h3:=hs.more (show 60≤70 by omega);exact ⟨Nat.lt_of_le_of_lt a1 h3.1,Nat.lt_of_le_of_lt a2 h3.2⟩
 refine ⟨low,low,sm,sm,?_,?_,?_,?_,?_⟩
 ·rw [zf2 v v];exact Int.le_refl _
 ·unfold zcm
  dsimp only
  split
  ·omega
  ·simp
 ·rw [zf2 (v.mul v) vp,←h1,←h2,Int.natCast_mul,Int.natCast_mul];exact Int.le_refl _
 ·rw [zp7 (v.mul v) vp,←h1,←h2,Int.natCast_mul,Int.natCast_mul];exact Int.le_refl _
 ·rw [zf2 (v.sub v) zi8,Int.sub_self,Int.zero_mul];omega
def zi2 (w:World) (p q:Q) (e:Ending) (w':World):Prop:=∃ s t:ByteArray,e = .returned (.tuple #[.agg #[.string s,.string t],.int .i64 0])∧NumQ s p∧NumQ t q∧Below w.heap.size w w'
theorem zpG {w w':World} {e:Ending} {p q:Q} {N:Nat} (hp:LowQ p) (hq:LowQ q) (sp:Small p N) (sq:Small q N) (hN:N≤600) (h0:0<N) (h:zde w (zd6 p q) (zd5 p q) (zcj p q) e w'):zi2 w p q e w':=by
 obtain ⟨s,t,he,h1,h2,hb⟩:=h;have w1:=zdk sp hN h0 hp.1;have w2:=zdk sq hN h0 hq.1;have hE:zcj p q=0:=by unfold zcj;rw [w1.1,w2.1];rfl
 rw [hE] at he;unfold zd6 at h1;unfold zd5 at h2;rw [if_pos hE] at h1 h2;exact ⟨s,t,he,⟨h1,hp⟩,⟨h2,hq⟩,hb⟩
theorem zi1 {p:Q} (hl:LowQ p) (hs:Small p 60) (hn:p.neg=false) (s t k:Nat) (i3:zbK (p.top*1000000 / p.bot) k) (R:Q × Q)
  (hR:R=if s*s=p.top∧t*t=p.bot then (⟨false,s,t⟩,⟨false,s,t⟩) else (lowQ false k 1000,lowQ false (k+1) 1000)):RootOk p R.1 R.2:=by
 rw [hR]
 split
 ·rename_i hh;exact zg8 hn hl hs hh.1 hh.2
 ·exact ziv hn hl.1 hs i3
theorem zkL (a:ByteArray) (p:Q) (w:World) (hT:Tabs w) (h:NumQ a p) (hs:Small p 60) (hn:p.neg=false) (s t k:Nat) (i1:zbK p.top s) (i2:zbK p.bot t) (i3:zbK (p.top*1000000 / p.bot) k) (R:Q × Q)
  (hR:R=if s*s=p.top∧t*t=p.bot then (⟨false,s,t⟩,⟨false,s,t⟩) else (lowQ false k 1000,lowQ false (k+1) 1000)) :
  Calls Tryz.prog 36 #[.string a] w (zi2 w R.1 R.2):=by
 have hO:=zi1 h.2 hs hn s t k i3 R hR;have hr:=zgl h hs (by omega) (by omega);have hz:a.size≤4294967296:=by have:=h.size hs (by omega);omega
 have l0:=(zfB hs (by omega)).mono (show 600≤1048576 by omega);have l1:=(zfB hO.sm1 (by omega)).mono (show 600≤268435456 by omega);have l2:=(zfB hO.sm2 (by omega)).mono (show 600≤268435456 by omega);refine (znW 0 p R.1 R.2 a w hT (Aa rfl) hn l1 l2 (Aa (fun W hT=>by
  have h9:=zbn a W hT hz
  rwa [hr.1,hr.2] at h9)) (Aa (fun v W hT hv=>zls p s t k v W hT hv l0 i1 i2 h.2.1 i3 R hR))).mono fun e w' h9=>zpG hO.low1 hO.low2 hO.sm1 hO.sm2 (by omega) (by omega) h9
theorem zfh (x:Nat):zbK (x*x) x:=⟨Nat.le_refl _,Nat.mul_lt_mul'' (by omega) (by omega)⟩
theorem zpx {q:Q} (h:LowQ q):mulQ q q=⟨false,q.top*q.top,q.bot*q.bot⟩:=by
 have hb:=Nat.mul_pos h.1 h.1;have hg:Nat.gcd (q.top*q.top) (q.bot*q.bot)=1:=Nat.Coprime.mul_left (Nat.Coprime.mul_right h.2.1 h.2.1) (Nat.Coprime.mul_right h.2.1 h.2.1);refine Val.eq ((zcB h.1).mul (zcB h.1)) (zcB (p:=⟨false,q.top*q.top,q.bot*q.bot⟩) hb) (zaQ _ hb) ⟨hb,hg,fun h=>by cases h⟩ ?_;show sI q*sI q*((q.bot*q.bot:Nat):Int)=((q.top*q.top:Nat):Int)*((q.bot*q.bot:Nat):Int)
 congr 1
 unfold sI
 cases q.neg
 ·simp
 ·simp [Int.neg_mul_neg]
theorem zhl (m:ByteArray) (q:Q) (w:World) (hT:Tabs w) (hq:LowQ q) (hs:Small q 30) (h:NumQ m (mulQ q q)):Calls Tryz.prog 36 #[.string m] w (zi2 w (absQ q) (absQ q)):=by
 rw [zpx hq] at h;obtain ⟨k,hk⟩:=zdQ (q.top*q.top*1000000 / (q.bot*q.bot));have sm:Small ⟨false,q.top*q.top,q.bot*q.bot⟩ 60:=⟨zcl (M:=30) (N:=30) hs.1 hs.1,zcl (M:=30) (N:=30) hs.2 hs.2⟩;exact (zkL m ⟨false,q.top*q.top,q.bot*q.bot⟩ w hT h sm rfl q.top q.bot k (zfh _) (zfh _) hk (absQ q,absQ q) (by rw [if_pos ⟨rfl,rfl⟩];rfl))
theorem zpa (a:ByteArray) (hf:FewK 30 a) (hn:(zab a.data.toList).neg=false):∃ p q,RootOk (zab a.data.toList) p q∧∀ W,Tabs W→Calls Tryz.prog 36 #[.string a] W (zi2 W p q):=by
 obtain ⟨f1,f2,f3⟩:=hf;have h:=zbA f1;generalize zab a.data.toList=p at *;obtain ⟨s,hs⟩:=zdQ p.top;obtain ⟨t,ht⟩:=zdQ p.bot;obtain ⟨k,hk⟩:=zdQ (p.top*1000000 / p.bot);have sm:=f2.more (show 30≤60 by omega);obtain ⟨R,hR⟩:∃ R:Q × Q,R=if s*s=p.top∧t*t=p.bot then (⟨false,s,t⟩,⟨false,s,t⟩) else (lowQ false k 1000,lowQ false (k+1) 1000):=⟨_,rfl⟩
 exact ⟨R.1,R.2,zi1 h.2 sm hn s t k hk R hR,fun W hT=>zkL a p W hT h sm hn s t k hs ht hk R hR⟩
theorem zlz (a:ByteArray) (hf:FewK 30 a) (hn:(zab a.data.toList).neg=true) (w:World) (hT:Tabs w):Calls Tryz.prog 36 #[.string a] w fun e w'=>e = .returned (.tuple #[.agg #[.string ⟨#[]⟩,.string ⟨#[]⟩],.int .i64 3])∧Below w.heap.size w w':=by
 have h:=zoP 0 _ a w hT (Aa rfl) hn (Aa (fun W hT=>by
  have h9:=zbn a W hT (by have:=hf.2.2;omega)
  rwa [hf.1] at h9))
 exact zeM #[] #[] h rfl rfl
theorem CBlk.via {w w':World} {g:Nat} {c:Array Value} {t:TypeId} (h:CBlk w g c t) (hb:Below w.heap.size w w'):CBlk w' g c t:=h.below hb h.lt
theorem bvia {w w1 w2:World} (h:Below w.heap.size w w1) (hb:Below w1.heap.size w1 w2):Below w.heap.size w w2:=Ad h hb
def txt (q:Q):ByteArray:=⟨(zaq q).toArray⟩
theorem zba {q:Q} (h:LowQ q):NumQ (txt q) q:=⟨by simp [txt],h⟩
theorem zcZ {a:ByteArray} {q:Q} (h:NumQ a q):a=txt q:=by
 obtain ⟨d⟩:=a;have h1:d.toList=zaq q:=h.1;unfold txt
 congr 1
 rw [←h1,Array.toArray_toList]
theorem zfk {a:ByteArray} (h:zad a.data.toList=0):a=txt (zab a.data.toList):=zcZ (zbA h)
theorem za9 {q:Q} {N:Nat} (h:LowQ q) (hs:Small q N) (hN:0<N):(txt q).size≤2*N+2:=(zba h).size hs hN
def zaS (f:FuncId) (args:Array Value) (v:Value):Prop:=∀ W,Calls Tryz.prog f args W fun e w'=>e = .returned v∧Below W.heap.size W w'
def zjD (f:FuncId) (args:Array Value) (v:Value):Prop:=∀ W,Tabs W→Calls Tryz.prog f args W fun e w'=>e = .returned v∧Below W.heap.size W w'
theorem zdS {f:FuncId} {args:Array Value} {q:Q} {w:World} (h:Calls Tryz.prog f args w (RetS w q)):Calls Tryz.prog f args w fun e w'=>e = .returned (.string (txt q))∧Below w.heap.size w w':=
 h.mono fun _ _ ⟨⟨s,he,hs⟩,hb⟩=>⟨by rw [he,zcZ hs],hb⟩
theorem zkW {f:FuncId} {args:Array Value} {p q:Q} {w:World} (h:Calls Tryz.prog f args w (zi2 w p q)):Calls Tryz.prog f args w fun e w'=>e = .returned (.tuple #[.agg #[.string (txt p),.string (txt q)],.int .i64 0])∧Below w.heap.size w w':=
 h.mono fun _ _ ⟨s,t,he,hs,ht,hb⟩=>⟨by rw [he,zcZ hs,zcZ ht],hb⟩
theorem tMul {p q:Q} (hp:LowQ p) (hq:LowQ q) {N:Nat} (sp:Small p N) (sq:Small q N) (h0:0<N) (hN:N≤300):zaS 22 #[.string (txt p),.string (txt q)] (.string (txt (mulQ p q))):=fun W=>
 zdS (zhv _ _ _ _ W (zba hp) (zba hq) (by have:=za9 hp sp h0;omega) (by have:=za9 hq sq h0;omega))
theorem tSub {p q:Q} (hp:LowQ p) (hq:LowQ q) {N:Nat} (sp:Small p N) (sq:Small q N) (h0:0<N) (hN:N≤300):zaS 21 #[.string (txt p),.string (txt q)] (.string (txt (subQ p q))):=fun W=>
 zdS (ziW _ _ _ _ W (zba hp) (zba hq) (by have:=za9 hp sp h0;omega) (by have:=za9 hq sq h0;omega))
theorem tAbs {p:Q} (hp:LowQ p) {N:Nat} (sp:Small p N) (h0:0<N) (hN:N≤300):zaS 38 #[.string (txt p)] (.string (txt (absQ p))):=fun W=>
 zdS (zlb _ _ W (zba hp) (by have:=za9 hp sp h0;omega))
theorem tCmp {p q:Q} (hp:LowQ p) (hq:LowQ q) {N:Nat} (sp:Small p N) (sq:Small q N) (h0:0<N) (hN:N≤300):zaS 23 #[.string (txt p),.string (txt q)] (.int .i64 (cmpI p q)):=fun W=>
 ziJ _ _ _ _ W (zba hp) (zba hq) (by have:=za9 hp sp h0;omega) (by have:=za9 hq sq h0;omega)
theorem zrc {p:Q} (hp:LowQ p) {N:Nat} (sp:Small p N) (h0:0<N) (hN:N≤300):zaS 39 #[.string (txt p)] (.int .i64 (zcm p)):=fun W=>
 (zh1 _ _ W (zba hp) (by have:=za9 hp sp h0;omega)).mono fun _ _ ⟨he,hw⟩=>⟨he,by rw [hw];exact Below.refl _ _⟩
theorem zlP {p q:Q} (hp:LowQ p) (hq:LowQ q) {N:Nat} (sp:Small p N) (sq:Small q N) (hN:N≤300) (hle:cmpI p q≤0):zaS 31 #[.agg #[.string (txt p),.string (txt q)]] (.int .i64 0):=fun W=>
 zg7 _ _ p q W (zba hp) (zba hq) (sp.more hN) (sq.more hN) hle
end
end Go.Proofs.YtmkondcdejlhcaaGreatDoor
