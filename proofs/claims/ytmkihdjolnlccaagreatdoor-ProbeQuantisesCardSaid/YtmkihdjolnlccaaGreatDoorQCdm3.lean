/- Plain facts: belowB says that a valid voltage is less than the edge d * 2 ^ e. No program. -/
import Derived.Test.YtmkihdjolnlccaaGreatDoorQCdm2
import Derived.Test.YtmkihdjolnlccaaGreatDoorQRv1
import Derived.Test.YtmkihdjolnlccaaGreatDoorQRb30
import Derived.Test.YtmkihdjolnlccaaGreatDoorQRb24
import Derived.Deep.RegionHeld3
import Derived.Laws.StructEq
namespace Go.Proofs.YtmkihdjolnlccaaGreatDoor
open Go.RowKit Bn
open Flt
theorem zjp (a b:Int):(some (compare a b)==some Ordering.lt)=decide (a<b):=by
 rcases Int.lt_trichotomy a b with h | h | h
 ·rw [zc8 h,decide_eq_true h];rfl
 ·subst h;rw [zdH,decide_eq_false (Int.lt_irrefl _)];rfl
 ·rw [zdG h,decide_eq_false (by omega)];rfl
theorem zj0 (a b:Int):(some (compare a b) != some Ordering.eq)=decide (a≠b):=by
 rcases Int.lt_trichotomy a b with h | h | h
 ·rw [zc8 h,decide_eq_true (by omega)];rfl
 ·subst h;rw [zdH,decide_eq_false (by simp)];rfl
 ·rw [zdG h,decide_eq_true (by omega)];rfl
theorem ze0 {v:List UInt8} {n e:Nat} (hn:fin Ieee.single n=true) (he:fin Ieee.single e=true) :
  zba v n e=if key Ieee.single n=key Ieee.single e then decide (ordO v (exT e)<0) else decide (key Ieee.single n<key Ieee.single e):=by
 unfold zba
 have ho:FloatKind.f32.format.order n e=some (compare (key Ieee.single n) (key Ieee.single e)):=za4 hn he
 rw [ho,zj0,zjp]
 by_cases h:key Ieee.single n=key Ieee.single e
 ·rw [if_pos h,if_neg (by simp [h])]
 ·rw [if_neg h,if_pos (by simp [h])]
theorem zl6 {v:List UInt8} {n e:Nat} {s:Bool} (hn:Ieee.single.read n = .infinity s) (he:fin Ieee.single e=true):zba v n e=s:=by
 unfold zba
 have ho:FloatKind.f32.format.order n e=some (if s then .lt else .gt):=znm hn he
 rw [ho]
 cases s<;>rfl
theorem zjW {d:Int} {P X:Nat} (hd:d≠0) (hX:X=d.natAbs*P):(if decide (d<0)=true then -(X:Int) else (X:Int))=d*(P:Int):=by
 subst hX
 rw [Int.natCast_mul]
 by_cases h:d<0
 ·rw [decide_eq_true h,if_pos rfl,show ((d.natAbs:Nat):Int) = -d by omega,Int.neg_mul,Int.neg_neg]
 ·rw [decide_eq_false h,if_neg (by decide),show ((d.natAbs:Nat):Int)=d by omega]
theorem zlB (v:List UInt8) (hv:zam v=0) {d e:Int} (hd:d≠0) (hd2:d.natAbs<16777216) (he : -149≤e) (he2:e+d.natAbs.log2≤127) :
  zba v (zbU v) (nomW d e)=decide (sI (zad v)*((2 ^ 149:Nat):Int)<d*((2 ^ (e+149).toNat:Nat):Int)*((zad v).bot:Int)):=by
 obtain ⟨n',e',hw,hr',hn',hR',hval,hn24,he104⟩:=zh9 hd hd2 he he2
 obtain ⟨hef,hek⟩:=zhk (decide (d<0)) hr' hR'
 have herd:=zb2 (decide (d<0)) hr' hn24 hR'
 have hsE:=zjW hd hval
 rw [←hw] at hef hek herd
 rw [hsE] at hek
 obtain ⟨hb,hg,hneg⟩:=zga hv
 have hne:=zo8 hv
 have hbx:d*((2 ^ (e+149).toNat:Nat):Int)*((zad v).bot:Int)=if decide (d<0)=true then -(((zad v).bot*(n'*2 ^ (e'+149).toNat):Nat):Int) else (((zad v).bot*(n'*2 ^ (e'+149).toNat):Nat):Int):=by
  rw [←hsE]
  by_cases h:decide (d<0)=true
  ·rw [if_pos h,if_pos h,Int.neg_mul,←Int.natCast_mul,Nat.mul_comm]
  ·rw [if_neg h,if_neg h,←Int.natCast_mul,Nat.mul_comm]
 have hex:decide (ordO v (exT (nomW d e))<0)=decide (sI (zad v)*((2 ^ 149:Nat):Int)<d*((2 ^ (e+149).toNat:Nat):Int)*((zad v).bot:Int)):=by
  obtain ⟨hx1,hx2⟩:=zoO herd hn' hn24 hr'.place he104
  obtain ⟨hl,hs,hvv,_,_⟩:=zj4 herd hn' hn24 hr'.place he104
  unfold ordO
  rw [if_neg (by simp [hv]),if_neg (by simp [hx1]),hx2]
  apply decide_eq_decide.2
  rw [zrz hb hl.1 hneg hl.2.2]
  have hsi:sI (exQ (nomW d e))*((2 ^ 149:Nat):Int)=d*((2 ^ (e+149).toNat:Nat):Int)*((exQ (nomW d e)).bot:Int):=by
   rw [←hsE]
   unfold sI
   rw [hs]
   by_cases h:decide (d<0)=true
   ·rw [if_pos h,if_pos h,Int.neg_mul,Int.neg_mul,←Int.natCast_mul,←Int.natCast_mul,hvv]
   ·rw [if_neg h,if_neg h,←Int.natCast_mul,←Int.natCast_mul,hvv]
  have hWp:(0:Int)<((2 ^ 149:Nat):Int):=by
   have:=Nat.two_pow_pos 149
   omega
  have hbp:(0:Int)<((exQ (nomW d e)).bot:Int):=by have:=hl.1;omega
  generalize ((2 ^ 149:Nat):Int)=W at *
  generalize d*((2 ^ (e+149).toNat:Nat):Int)=D at *
  generalize sI (zad v)=S at *
  generalize ((zad v).bot:Int)=b at *
  generalize sI (exQ (nomW d e))=T at *
  generalize ((exQ (nomW d e)).bot:Int)=c at *
  have k1:=Int.mul_lt_mul_right (b:=S*c) (c:=T*b) hWp
  rw [←k1]
  have e1:S*c*W=S*W*c:=Int.mul_right_comm ..
  have e2:T*b*W=D*b*c:=by rw [Int.mul_right_comm,hsi,Int.mul_right_comm]
  rw [e1,e2]
  exact Int.mul_lt_mul_right hbp
 have hA:sI (zad v)*((2 ^ 149:Nat):Int)=if (zad v).neg=true then -(((zad v).top*2 ^ 149:Nat):Int) else (((zad v).top*2 ^ 149:Nat):Int):=by
  unfold sI
  by_cases h:(zad v).neg=true
  ·rw [if_pos h,if_pos h,Int.neg_mul,←Int.natCast_mul]
  ·rw [if_neg h,if_neg h,←Int.natCast_mul]
 have hXp:0<(zad v).bot*(n'*2 ^ (e'+149).toNat):=Nat.mul_pos hb (Nat.mul_pos hn' (Nat.two_pow_pos _))
 have hX0:0<n'*2 ^ (e'+149).toNat:=Nat.mul_pos hn' (Nat.two_pow_pos _)
 have hke:key Ieee.single (nomW d e)=if decide (d<0)=true then -((n'*2 ^ (e'+149).toNat:Nat):Int) else ((n'*2 ^ (e'+149).toNat:Nat):Int):=by rw [hek,←hsE]
 by_cases ht:(zad v).top=0
 ·
  have hnf:zbU v=0:=by
   rw [hne]
   unfold flX flW
   rw [if_pos ht,if_pos rfl,if_pos ht]
  obtain ⟨z1,z2⟩:=zbv
  have hng:(zad v).neg=false:=by
   cases h:(zad v).neg
   ·rfl
   ·have:=hneg h
    omega
  rw [hnf,ze0 z1 hef,z2,hke,hA,hbx,hng,ht,Nat.zero_mul]
  generalize n'*2 ^ (e'+149).toNat=X at *
  generalize (zad v).bot*X=Y at *
  by_cases h:decide (d<0)=true
  ·simp only [h,if_true,Bool.false_eq_true,if_false]
   rw [if_neg (by omega)]
   apply decide_eq_decide.2
   omega
  ·simp only [h,Bool.false_eq_true,if_false]
   rw [if_neg (by omega)]
   apply decide_eq_decide.2
   omega
 ·have htp:0<(zad v).top:=by omega
  obtain ⟨s0,s1,s2,s3⟩:=ztX htp hb hr' hn' hR'
  by_cases h0:flN (zad v).top (zad v).bot=0
  ·
   have hnf:zbU v=0:=by
    rw [hne]
    unfold flX flW
    rw [if_neg ht,if_pos h0,if_pos rfl,if_neg ht,if_pos h0]
   obtain ⟨z1,z2⟩:=zbv
   have hs:=s0 h0
   rw [hnf,ze0 z1 hef,z2,hke,hA,hbx]
   generalize (zad v).top*2 ^ 149=A at *
   generalize n'*2 ^ (e'+149).toNat=X at *
   generalize (zad v).bot*X=Y at *
   by_cases h:decide (d<0)=true<;>by_cases hn:(zad v).neg=true
   all_goals
    simp only [h,hn,Bool.false_eq_true,if_true,if_false]
    rw [if_neg (by omega)]
    apply decide_eq_decide.2
    omega
  ·by_cases hinf:2139095040≤rung (flN (zad v).top (zad v).bot) (flE (zad v).top (zad v).bot)
   ·
    have hs:=s1 hinf
    have hnf:zbU v=if (zad v).neg=true then 4286578688 else 2139095040:=by
     rw [hne]
     unfold flX
     rw [if_neg ht,if_neg h0,if_pos hinf,if_neg (by decide)]
    have hrd:Ieee.single.read (zbU v) = .infinity (zad v).neg:=by
     rw [hnf]
     cases (zad v).neg
     ·exact zm0
     ·exact zpn
    rw [zl6 hrd hef,hA,hbx]
    generalize (zad v).top*2 ^ 149=A at *
    generalize n'*2 ^ (e'+149).toNat=X at *
    generalize (zad v).bot*X=Y at *
    by_cases h:decide (d<0)=true<;>cases hn:(zad v).neg
    all_goals
     simp only [h,Bool.false_eq_true,if_true,if_false]
     symm
     first
      |(apply decide_eq_true;omega)
      |(apply decide_eq_false;omega)
   ·
    have hnr:=(zeU htp hb).1
    have hnf:zbU v=Ieee.single.word (zad v).neg (rung (flN (zad v).top (zad v).bot) (flE (zad v).top (zad v).bot)):=by
     rw [hne]
     unfold flX flW
     rw [if_neg ht,if_neg h0,if_neg hinf,if_pos rfl,if_neg ht,if_neg h0,if_neg hinf]
    obtain ⟨k1,k2⟩:=zhk (zad v).neg hnr (by omega)
    rw [←hnf] at k1 k2
    rw [ze0 k1 hef,hex]
    by_cases hkk:key Ieee.single (zbU v)=key Ieee.single (nomW d e)
    ·rw [if_pos hkk]
    ·rw [if_neg hkk]
     rw [k2,hke] at hkk ⊢
     rw [hA,hbx]
     have hYp:0<flN (zad v).top (zad v).bot*2 ^ (flE (zad v).top (zad v).bot+149).toNat:=Nat.mul_pos (by omega) (Nat.two_pow_pos _)
     have hAp:0<(zad v).top*2 ^ 149:=Nat.mul_pos htp (Nat.two_pow_pos _)
     generalize flN (zad v).top (zad v).bot*2 ^ (flE (zad v).top (zad v).bot+149).toNat=Y at *
     generalize (zad v).top*2 ^ 149=A at *
     generalize n'*2 ^ (e'+149).toNat=X at *
     generalize (zad v).bot*X=Z at *
     clear hex hA hbx hek herd hsE hval
     by_cases h:decide (d<0)=true<;>by_cases hn:(zad v).neg=true
     all_goals
      simp only [h,hn,Bool.false_eq_true,if_true,if_false] at hkk ⊢
      apply decide_eq_decide.2
      rcases Nat.lt_trichotomy X Y with h9 | h9 | h9
      ·have:=s3 h9
       omega
      ·omega
      ·have:=s2 h9
       omega
theorem zgP (p:Nat→Bool):∀ (N:Nat),(∀ t t',t≤t'→t'<N→p t=true→p t'=true)→∃ k,k≤N∧(∀ t,t<k→p t=false)∧(∀ t,k≤t→t<N→p t=true)
 | 0,_=>⟨0,Nat.le_refl _,fun t h=>absurd h (Nat.not_lt_zero _),fun t _ h=>absurd h (Nat.not_lt_zero _)⟩
 | N+1,h=>by
  obtain ⟨k,hk,h1,h2⟩:=zgP p N (fun t t' ht ht'=>h t t' ht (by omega))
  cases hp:p N
  ·refine ⟨N+1,Nat.le_refl _,fun t ht => ?_,fun t h3 h4=>absurd h4 (by omega)⟩
   cases hq:p t
   ·rfl
   ·rw [h t N (by omega) (by omega) hq] at hp
    cases hp
  ·refine ⟨k,by omega,h1,fun t h3 h4 => ?_⟩
   rcases Nat.lt_or_ge t N with h5 | h5
   ·exact h2 t h3 h5
   ·obtain rfl:t=N:=by omega
    exact hp
def zdb (q:Q) (z e:Int) (t:Nat):Int:=(2*((t:Int) - z) - 1)*((2 ^ (e+149).toNat:Nat):Int)*(q.bot:Int)
theorem zlZ {t:Nat} {z e:Int} (ht:t≤4097) (hz:0≤z∧z≤8192) (he2:e≤100):(2*((t:Int) - z) - 1)≠0∧(2*((t:Int) - z) - 1).natAbs<16777216∧e+((2*((t:Int) - z) - 1).natAbs.log2:Nat)≤127:=by
 refine ⟨by omega,by omega,?_⟩
 have h:(2*((t:Int) - z) - 1).natAbs<2 ^ 15:=by
  have e15:(2:Nat) ^ 15=32768:=by decide
  omega
 have:=(Nat.log2_lt (n:=(2*((t:Int) - z) - 1).natAbs) (k:=15) (by omega)).2 h
 omega
theorem zlm (q:Q) (z e:Int) {t t':Nat} (h:t≤t'):zdb q z e t≤zdb q z e t':=by
 unfold zdb
 refine Int.mul_le_mul_of_nonneg_right (Int.mul_le_mul_of_nonneg_right (by omega) (Int.natCast_nonneg _)) (Int.natCast_nonneg _)
theorem zgI (v:List UInt8) (hv:zam v=0) (a:Nat) (z e:Int) (ha:a≤12) (hz:0≤z∧z≤8192) (he : -149≤e) (he2:e≤100) :
  ∃ k,k≤2 ^ a+1∧(∀ t:Nat,t<k→zba v (zbU v) (nomW (2*((t:Int) - z) - 1) e)=false)∧(∀ t:Nat,k≤t→t<2 ^ a+1→zba v (zbU v) (nomW (2*((t:Int) - z) - 1) e)=true) ∧
   (∀ t:Nat,t<2 ^ a+1→(t<k↔zdb (zad v) z e t≤sI (zad v)*((2 ^ 149:Nat):Int))):=by
 have hp:2 ^ a≤4096:=by
  have:=Nat.pow_le_pow_right (show 0<2 by omega) ha
  have e:(2:Nat) ^ 12=4096:=by decide
  omega
 have hb:∀ t:Nat,t<2 ^ a+1→zba v (zbU v) (nomW (2*((t:Int) - z) - 1) e)=decide (sI (zad v)*((2 ^ 149:Nat):Int)<zdb (zad v) z e t):=fun t ht=>by
  obtain ⟨h1,h2,h3⟩:=zlZ (t:=t) (by omega) hz he2
  exact zlB v hv h1 h2 he h3
 obtain ⟨k,hk,h1,h2⟩:=zgP (fun t=>decide (sI (zad v)*((2 ^ 149:Nat):Int)<zdb (zad v) z e t)) (2 ^ a+1) (fun t t' h _ ht=>by
  have h3:=of_decide_eq_true ht
  exact decide_eq_true (Int.lt_of_lt_of_le h3 (zlm _ _ _ h)))
 refine ⟨k,hk,fun t ht=>by rw [hb t (by omega)];exact h1 t ht,fun t h3 h4=>by rw [hb t h4];exact h2 t h3 h4,fun t ht => ?_⟩
 constructor
 ·intro h3
  have:=of_decide_eq_false (h1 t h3)
  exact Int.not_lt.1 this
 ·intro h3
  rcases Nat.lt_or_ge t k with h4 | h4
  ·exact h4
  ·have:=of_decide_eq_true (h2 t h4 ht)
   exact absurd this (Int.not_lt.2 h3)
def zgF (q:Q) (e:Int):Int:=((2 ^ (e+149).toNat:Nat):Int)*(q.bot:Int)
theorem zpR (q:Q) (z e:Int) (t:Nat):zdb q z e t=2*((t:Int) - z)*zgF q e - zgF q e:=by
 unfold zdb zgF
 rw [Int.mul_assoc,Int.sub_mul,Int.one_mul]
theorem zfZ {q:Q} {z e V:Int} {t:Nat} (h1:zdb q z e t≤V) (h2:V<zdb q z e (t+1)):2*((t:Int) - z)*zgF q e - zgF q e≤V∧V<2*((t:Int) - z)*zgF q e+zgF q e:=by
 rw [zpR] at h1 h2
 have e1:2*(((t+1:Nat):Int) - z)*zgF q e=2*((t:Int) - z)*zgF q e+2*zgF q e:=by
  rw [show 2*(((t+1:Nat):Int) - z)=2*((t:Int) - z)+2 by omega,Int.add_mul]
 rw [e1] at h2
 omega
theorem zhM (p:Q) (h:0<p.bot):Val p (sI p) p.bot:=⟨rfl,h,h⟩
theorem zhW {s:ByteArray} {p:Q} {K:Nat} (h:NumQ s p) (hs:Small p K) (hK:K≤600) (hK0:0<K):zam s.data.toList=0∧zad s.data.toList=p:=by
 rw [h.1]
 exact zdZ p h.2 (Nat.le_trans (Dec.dec_length_le hK0 hs.1) hK) (Nat.le_trans (Dec.dec_length_le hK0 hs.2) hK)
theorem zk5 {c a b:Int} (h1:a≤c) (h2:c≤b):zax c a b=0:=zeb c a b h1 h2
end Go.Proofs.YtmkihdjolnlccaaGreatDoor
namespace Go.Proofs.YtmkihdjolnlccaaGreatDoor
open Go.RowKit Dn
set_option maxHeartbeats 2000000 in
set_option maxRecDepth 100000 in
theorem zia (s t:ByteArray) (ty:TypeId) (g:Nat) (w:World) (hk:CBlk w g #[.string s,.string t] ty) (hs:zam s.data.toList=0) (ht:zam t.data.toList=0) :
  Calls Tryz.prog 75 #[.slice (some ⟨g,0,none⟩) 2 2] w fun e w'=>e = .returned (.int .i64 0)∧Below w.heap.size w w':=by
 have b1:=zgj hs
 have b2:=zgj ht
 have HS:Hid (∀ W,Calls Tryz.prog 51 #[.string s] W (RetC W 0)):=fun W=>by
  have h:=zca s W (by omega)
  rwa [hs] at h
 have HT:Hid (∀ W,Calls Tryz.prog 51 #[.string t] W (RetC W 0)):=fun W=>by
  have h:=zca t W (by omega)
  rwa [ht] at h
 clear hs ht b1 b2
 go_enter Tryz.func75,Tryz.ntmps75
 go_wp2
 go_loopg [3] 2 (fun g1 v3 W=>∃ i:Nat,v3 = .int .i64 (i:Int)∧i≤2∧g1+i=2∧Below w.heap.size w W)
 case atStart=>exact ⟨0,rfl,by omega,rfl,Below.refl _ _⟩
 case round=>
  obtain ⟨i,rfl,hi,hgi,hbel⟩:=hrel
  have hkr:=hk.below hbel hk.lt
  have z0:wr.cell? ⟨g,0,none⟩=some (.string s):=hkr.cell 0
  have z1:wr.cell? ⟨g,1,none⟩=some (.string t):=hkr.cell 1
  clear hkr
  match i,hi,hgi with
  | 0,_,_=>
   go_wp2_with fail
   refine (HS.out wr).mono ?_
   rintro e w1 ⟨rfl,hb1⟩
   go_wp2
   go_roundg 1
   case rel=>exact ⟨1,rfl,by omega,rfl,hbel.trans (hb1.mono hbel.size)⟩
   case measure=>omega
  | 1,_,_=>
   go_wp2_with fail
   refine (HT.out wr).mono ?_
   rintro e w1 ⟨rfl,hb1⟩
   go_wp2
   go_roundg 0
   case rel=>exact ⟨2,rfl,by omega,rfl,hbel.trans (hb1.mono hbel.size)⟩
   case measure=>omega
  | 2,_,_=>
   go_wp2
   go_ret
   exact ⟨rfl,hbel⟩
  | n+3,h,_=>exact absurd h (by omega)
set_option maxHeartbeats 4000000 in
set_option maxRecDepth 100000 in
theorem zdE (s t:ByteArray) (p q:Q) (w:World) (hs:NumQ s p) (ht:NumQ t q) (sp:Small p 300) (sq:Small q 300) (hle:cmpI p q≤0) :
  Calls Tryz.prog 28 #[.agg #[.string s,.string t]] w fun e w'=>e = .returned (.int .i64 0)∧Below w.heap.size w w':=by
 have hb0:Below w.heap.size w (w.alloc (.cells #[.string s,.string t] 55)):=(Below.refl _ _).alloc (Nat.le_refl _) _
 have q0:CBlk (w.alloc (.cells #[.string s,.string t] 55)) w.heap.size #[.string s,.string t] 55:=CBlk.new w _ _ _ rfl
 obtain ⟨e1,_⟩:=zhW hs sp (by omega) (by omega)
 obtain ⟨e2,_⟩:=zhW ht sq (by omega) (by omega)
 have b1:=hs.size sp (by omega)
 have b2:=ht.size sq (by omega)
 have HR:=Lib.hid (fun (W:World) (g:Nat) (ty:TypeId) (hk:CBlk W g #[.string s,.string t] ty)=>zia s t ty g W hk e1 e2)
 have HC:=Lib.hid (fun W=>zgb s t p q W hs ht (by omega) (by omega))
 have d1:decide (0<cmpI p q)=false:=decide_eq_false (by omega)
 have x0:=q0.cell 0
 have x1:=q0.cell 1
 generalize cmpI p q=C at *
 clear hs ht sp sq hle e1 e2 b1 b2
 go_enter Tryz.func28,Tryz.ntmps28
 go_wp2_with fail
 have l1:CBlk ((w.alloc (.cells #[.string s,.string t] 55)).alloc (.cells #[.string s,.string t] 22)) (w.heap.size+1) #[.string s,.string t] 22:=CBlk.new _ _ _ _ (by simp)
 have q1:=q0.alloc (.cells #[.string s,.string t] 22)
 have hb1:Below w.heap.size w ((w.alloc (.cells #[.string s,.string t] 55)).alloc (.cells #[.string s,.string t] 22)):=hb0.alloc (by simp) _
 generalize (w.alloc (.cells #[.string s,.string t] 55)).alloc (.cells #[.string s,.string t] 22)=w1 at *
 refine (HR.out w1 (w.heap.size+1) 22 l1).mono ?_
 rintro e w2 ⟨rfl,hb2⟩
 have q2:=q1.below hb2 q1.lt
 have hB2:=hb1.trans (hb2.mono hb1.size)
 clear x0 x1 hb2 q1 l1 hb0 hb1
 have x0:=q2.cell 0
 have x1:=q2.cell 1
 go_wp2_with fail
 refine (HC.out w2).mono ?_
 rintro e w3 ⟨rfl,hb3⟩
 go_wp2_with fail
 go_ret
 exact ⟨rfl,hB2.trans (hb3.mono hB2.size)⟩
end Go.Proofs.YtmkihdjolnlccaaGreatDoor
namespace Go.Proofs.YtmkihdjolnlccaaGreatDoor
open Go.RowKit Bn
open Flt
end Go.Proofs.YtmkihdjolnlccaaGreatDoor
