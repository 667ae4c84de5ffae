/- Plain facts of tables: where a table's value is none, a knot's, between two knots; the slope; the middle. -/
import Derived.Test.YtmkondcdejlhcaaGreatDoorLRtx
import Derived.Test.YtmkondcdejlhcaaGreatDoorBKn8
import Derived.Test.YtmkondcdejlhcaaGreatDoorBRb13
import Derived.Test.YtmkondcdejlhcaaGreatDoorBRb24
import Derived.Test.YtmkondcdejlhcaaGreatDoorBSh5
import Derived.Laws.StructEq
set_option maxRecDepth 100000
set_option maxHeartbeats 8000000
namespace Go.Proofs.YtmkondcdejlhcaaGreatDoor
open Go.RowKit Bn Dn
theorem zjo {p q r:Q} (hp:0<p.bot) (hq:0<q.bot) (hr:0<r.bot):∃ (P R S:Int) (D:Nat),Val p P D∧Val q R D∧Val r S D:=by
 obtain ⟨P,R,D,h1,h2⟩:=zdU hp hq;have h:=(zcB hr).scale h1.2.1;rw [Nat.mul_comm] at h;exact ⟨_,_,_,_,h1.scale hr,h2.scale hr,h⟩
theorem zlp {p q:Q} (hp:LowQ p) (hq:LowQ q) (h:cmpI p q=0):p=q:=by
 obtain ⟨P,R,D,h1,h2⟩:=zdU hp.1 hq.1;have a:=(zgB h1 h2).1 (by omega);have b:=mt (zbW h1 h2).2 (by omega);have e:P=R:=by omega
 subst e;exact Val.eq h1 h2 hp hq rfl
theorem zoL {p:Q} (hp:LowQ p):cmpI p p=0:=by
 rw [zdz hp.1 hp.1,Int.sub_self];rfl
theorem zgp {p q r:Q} (hp:0<p.bot) (hq:0<q.bot) (hr:0<r.bot) (h1:cmpI p q<0) (h2:cmpI q r≤0):cmpI p r<0:=by
 obtain ⟨P,R,S,D,v1,v2,v3⟩:=zjo hp hq hr;rw [zbW v1 v2] at h1;rw [zgB v2 v3] at h2;rw [zbW v1 v3];omega
structure TabQ (ks:List (Q × Q)):Prop where
 low1:∀ i (h:i<ks.length),LowQ ks[i].1
 low2:∀ i (h:i<ks.length),LowQ ks[i].2
 inc:∀ i j (h:i<ks.length) (h':j<ks.length),i<j→cmpI ks[i].1 ks[j].1<0
theorem zk2:∀ (l:List (ByteArray × ByteArray)) (o:Option Q),zbV o l=0→(∀ q,o=some q→LowQ q)→TabQ (l.map rdP)∧(∀ p ∈ l,zad p.1.data.toList=0∧zad p.2.data.toList=0)∧(∀ q,o=some q→∀ i (h:i<(l.map rdP).length),cmpI q (l.map rdP)[i].1<0)
 | [],o,_,_=>⟨⟨fun i h=>by simp at h,fun i h=>by simp at h,fun i j h=>by simp at h⟩,fun p hp=>by simp at hp,fun q _ i h=>by simp at h⟩
 | p :: t,o,he,ho=>by
  have he2:rowE o p.1.data.toList p.2.data.toList=0∧zbV (some (zab p.1.data.toList)) t=0:=by
   have aC:(if rowE o p.1.data.toList p.2.data.toList≠0 then rowE o p.1.data.toList p.2.data.toList else zbV (some (zab p.1.data.toList)) t)=0:=by
    cases o<;>exact he
   by_cases h:rowE o p.1.data.toList p.2.data.toList=0
   ·rw [if_neg (by omega)] at aC;exact ⟨h,aC⟩
   ·rw [if_pos h] at aC;exact absurd aC h
  obtain ⟨h1,h2⟩:=he2;have hx:zad p.1.data.toList=0:=by
   unfold rowE at h1
   by_cases h:zad p.1.data.toList=0
   ·exact h
   ·rw [if_pos h] at h1;exact h1
  have hy:zad p.2.data.toList=0:=by
   unfold rowE at h1;rw [if_neg (by omega)] at h1
   by_cases h:zad p.2.data.toList=0
   ·exact h
   ·rw [if_pos h] at h1;exact h1
  have lx:=zei hx;have ly:=zei hy;have aD:∀ q,o=some q→cmpI q (zab p.1.data.toList)<0:=by
   intro q hq;subst hq;unfold rowE at h1;rw [if_neg (by omega),if_neg (by omega)] at h1
   dsimp only at h1
   split at h1
   ·omega
   ·rename_i h
    rw [zcg lx (ho q rfl)] at h;rw [zgf lx.1 (ho q rfl).1];omega
  obtain ⟨T,hE,hI⟩:=zk2 t _ h2 (fun q hq=>by cases hq;exact lx);have hI:=hI _ rfl;refine ⟨⟨?_,?_,?_⟩,?_,?_⟩
  ·intro i h
   match i,h with
   | 0,_=>exact lx
   | i+1,h=>exact T.low1 i (by simpa using h)
  ·intro i h
   match i,h with
   | 0,_=>exact ly
   | i+1,h=>exact T.low2 i (by simpa using h)
  ·intro i j h h' aA
   match i,j,h,h',aA with
   | 0,j+1,_,h',_=>exact hI j (by simpa using h')
   | i+1,j+1,h,h',aA=>exact T.inc i j (by simpa using h) (by simpa using h') (by omega)
   | i,0,_,_,aA=>exact absurd aA (by omega)
  ·intro q hq
   rcases List.mem_cons.1 hq with rfl | h
   ·exact ⟨hx,hy⟩
   ·exact hE q h
  ·intro q hq i h
   match i,h with
   | 0,_=>exact aD q hq
   | i+1,h=>exact zgp (ho q hq).1 lx.1 (T.low1 i (by simpa using h)).1 (aD q hq) (Int.le_of_lt (hI i (by simpa using h)))
theorem zpX {l:List (ByteArray × ByteArray)} (h:tabE l=0):1≤l.length∧l.length≤64∧TabQ (l.map rdP)∧∀ p ∈ l,zad p.1.data.toList=0∧zad p.2.data.toList=0:=by
 unfold tabE at h
 split at h
 ·omega
 ·split at h
  ·omega
  ·obtain ⟨a,b,_⟩:=zk2 l none h (fun q hq=>by cases hq)
   exact ⟨by omega,by omega,a,b⟩
theorem zdH {x:Q} {ks:List (Q × Q)} (T:TabQ ks):∀ k,k≤ks.length→(∀ i (h:i<ks.length),i<k→0<rcmp x ks[i].1)→zbw x none ks=zbw x (zeP ks k) (ks.drop k)
 | 0,_,_=>rfl
 | k+1,hk,h=>by
  have hkl:k<ks.length:=by omega
  have ih:=zdH T k (by omega) (fun i hi aA=>h i hi (by omega));exact (zcn (by rw [List.getElem?_eq_getElem hkl]) ih).2.2 (h k hkl (by omega))
theorem zj5 {x:Q} {ks:List (Q × Q)} (T:TabQ ks) (hx:LowQ x) (h0:0<ks.length) (h:cmpI x ks[0].1<0):zbw x none ks=none:=by
 have h1:=(zcn (x:=x) (ks:=ks) (k:=0) (kk:=ks[0]) (by rw [List.getElem?_eq_getElem h0]) rfl).2.1 (by rw [zcg hx (T.low1 0 h0)];exact h);rw [h1];rfl
theorem zj9 {x:Q} {ks:List (Q × Q)} (T:TabQ ks) (hx:LowQ x) (h0:0<ks.length) (h:cmpI ks[ks.length - 1].1 x<0):zbw x none ks=none:=by
 rw [zdH T ks.length (Nat.le_refl _) (fun i hi _ => ?_),List.drop_length]
 ·cases zeP ks ks.length<;>rfl
 ·rw [zcg hx (T.low1 i hi),zgf (T.low1 i hi).1 hx.1]
  have:cmpI ks[i].1 x<0:=by
   by_cases e:i=ks.length - 1
   ·subst e;exact h
   ·exact zgp (T.low1 i hi).1 (T.low1 _ (by omega)).1 hx.1 (T.inc i (ks.length - 1) hi (by omega) (by omega)) (Int.le_of_lt h)
  omega
theorem zfG {ks:List (Q × Q)} (T:TabQ ks) {i:Nat} (hi:i<ks.length):zbw ks[i].1 none ks=some ks[i].2:=by
 have h:=zdH (x:=ks[i].1) T i (by omega) (fun j hj aA=>by
  rw [zcg (T.low1 i hi) (T.low1 j hj),zgf (T.low1 j hj).1 (T.low1 i hi).1];have:=T.inc j i hj hi aA;omega)
 exact (zcn (by rw [List.getElem?_eq_getElem hi]) h).1 (by rw [zcg (T.low1 i hi) (T.low1 i hi),zoL (T.low1 i hi)])
theorem zjn {x:Q} {ks:List (Q × Q)} (T:TabQ ks) (hx:LowQ x) {i:Nat} (hi:i+1<ks.length) (h1:cmpI ks[i].1 x<0) (h2:cmpI x ks[i+1].1<0):zbw x none ks=some (zbk ks[i].1 ks[i].2 ks[i+1].1 ks[i+1].2 x):=by
 have h:=zdH (x:=x) T (i+1) (by omega) (fun j hj aA=>by
  rw [zcg hx (T.low1 j hj),zgf (T.low1 j hj).1 hx.1];have:cmpI ks[j].1 x<0:=by
   by_cases e:j=i
   ·subst e;exact h1
   ·exact zgp (T.low1 j hj).1 (T.low1 i (by omega)).1 hx.1 (T.inc j i hj (by omega) (by omega)) (Int.le_of_lt h1)
  omega)
 have h3:=(zcn (by rw [List.getElem?_eq_getElem hi]) h).2.1 (by rw [zcg hx (T.low1 _ hi)];exact h2);rw [h3];unfold zeP;rw [if_neg (by omega),Nat.add_sub_cancel,List.getElem?_eq_getElem (by omega)];rfl
theorem zeU {a b c d x:Q} {A C X B G:Int} {D F:Nat} (va:Val a A D) (vc:Val c C D) (vx:Val x X D) (vb:Val b B F) (vd:Val d G F) (h:A<C) :
  Val (zbk a b c d x) (B*(C - A)+(G - B)*(X - A)) (F*(C - A).toNat)∧LowQ (zbk a b c d x):=by
 have e:zbk a b c d x=addQ b (mulQ (mulQ (subQ d b) (recS (subQ c a))) (subQ x a)):=by
  show addR b (mulR (divR (subR d b) (subR c a)) (subR x a))=_
  rw [zfj,zfm,zf5,zcK,zcK,zcK]
 rw [e];have hK:(((C - A).toNat:Nat):Int)=C - A:=Int.toNat_of_nonneg (by omega);have aA:0<(C - A).toNat:=by omega
 have v1:=vc.sub1 va;have v2:Val (recS (subQ c a)) (D:Int) (C - A).toNat:=zp9 v1 (znY v1 (by omega)) aA (by rw [hK]);have v3:=((vd.sub1 vb).mul v2).mul (vx.sub1 va);have v4:=vb.add v3;have hF:=vb.2.1;have hD:=va.2.1;refine ⟨v4.trans (Nat.mul_pos hF aA) ?_,zaQ _ (Nat.mul_pos vb.2.2 v3.2.2)⟩;simp only [Int.natCast_mul,hK]
 grind
theorem zil {a b c d x:Q} {A C X B G:Int} {D F:Nat} (va:Val a A D) (vc:Val c C D) (vx:Val x X D) (vb:Val b B F) (vd:Val d G F) (h:A<C) :
  mulQ (subQ (zbk a b c d x) b) (subQ c a)=mulQ (subQ d b) (subQ x a):=by
 obtain ⟨v,lv⟩:=zeU va vc vx vb vd h;have hK:(((C - A).toNat:Nat):Int)=C - A:=Int.toNat_of_nonneg (by omega);have s1:=vc.sub1 va;have s2:=vx.sub1 va;have s3:=vd.sub1 vb;have s4:=v.sub vb;refine Val.eq (s4.mul s1) (s3.mul s2) (zbB _ _ s4.2.2 s1.2.2) (zbB _ _ s3.2.2 s2.2.2) ?_;simp only [Int.natCast_mul,hK]
 grind
theorem zjG {a b c d:Q} {A C B G:Int} {D F:Nat} (va:Val a A D) (vc:Val c C D) (vb:Val b B F) (vd:Val d G F) (h:A<C) :
  zbk a b c d (mulQ (addQ a c) zdx)=mulQ (addQ b d) zdx:=by
 have aC:=va.scale (k:=2) (by omega);have aA:=vc.scale (k:=2) (by omega);have vx:Val (mulQ (addQ a c) zdx) (A+C) (D*2):=((va.add1 vc).mul Val.half).trans (Nat.mul_pos va.2.1 (by omega)) (by rw [Int.natCast_mul];grind);obtain ⟨v,lv⟩:=zeU aC aA vx vb vd (by omega);have hK:(((C*((2:Nat):Int) - A*((2:Nat):Int)).toNat:Nat):Int)=C*((2:Nat):Int) - A*((2:Nat):Int):=Int.toNat_of_nonneg (by omega);have s1:=(vb.add1 vd).mul Val.half;refine Val.eq v s1 lv (zbB _ _ (vb.add1 vd).2.2 (by decide)) ?_;simp only [Int.natCast_mul,hK]
 grind
theorem zip {a b c d x:Q} (ha:LowQ a) (hb:LowQ b) (hc:LowQ c) (hd:LowQ d) (hx:LowQ x) (sa:Small a 6) (sb:Small b 6) (sc:Small c 6) (sd:Small d 6) (sx:Small x 30) (h:(subQ c a).top≠0):Small (zbk a b c d x) 80:=by
 have e:zbk a b c d x=addQ b (mulQ (mulQ (subQ d b) (recS (subQ c a))) (subQ x a)):=by
  show addR b (mulR (divR (subR d b) (subR c a)) (subR x a))=_
  rw [zfj,zfm,zf5,zcK,zcK,zcK]
 rw [e];have l1:=zci d b hd.1 hb.1;have l2:=ze7 (zci c a hc.1 ha.1) (by omega);have l3:=zci x a hx.1 ha.1;have s1:=zbE sd sb hd.1 hb.1;have s2:=zex (zbE sc sa hc.1 ha.1);have s3:=zbE sx sa hx.1 ha.1;have s4:=zbZ s1 s2 l1.1 l2.1;have l4:=zbB _ _ l1.1 l2.1;have s5:=zbZ s4 s3 l4.1 l3.1;have l5:=zbB _ _ l4.1 l3.1;exact (zcz sb s5 hb.1 l5.1).more (by omega)
theorem zqc {a c:Q} (ha:LowQ a) (hc:LowQ c) (h:cmpI a c<0):(subQ c a).top≠0:=by
 obtain ⟨A,C,D,va,vc⟩:=zdU ha.1 hc.1;exact znY (vc.sub1 va) (by have:=(zbW va vc).1 h;omega)
theorem zmG {x:Q} {ks:List (Q × Q)} (T:TabQ ks) (S:∀ i (h:i<ks.length),Small ks[i].1 6∧Small ks[i].2 6) (hx:LowQ x) (sx:Small x 30) {i:Nat} (hi:i+1<ks.length) (h1:cmpI ks[i].1 x≤0) (h2:cmpI x ks[i+1].1≤0) :
  ∃ v,zbw x none ks=some v∧LowQ v∧Small v 80∧mulQ (subQ v ks[i].2) (subQ ks[i+1].1 ks[i].1)=mulQ (subQ ks[i+1].2 ks[i].2) (subQ x ks[i].1):=by
 have aA:i<ks.length:=by omega
 have la:=T.low1 i aA;have lb:=T.low2 i aA;have lc:=T.low1 _ hi;have ld:=T.low2 _ hi
 have aD:=T.inc i (i+1) aA hi (by omega);obtain ⟨A,C,X,D,va,vc,vx⟩:=zjo la.1 lc.1 hx.1;obtain ⟨B,G,F,vb,vd⟩:=zdU lb.1 ld.1;have aC:=(zbW va vc).1 aD
 by_cases e1:cmpI ks[i].1 x=0
 ·have ex:=zlp la hx e1
  refine ⟨_,by rw [←ex];exact zfG T aA,lb,(S i aA).2.more (by omega),?_⟩;rw [←ex];refine Val.eq ((vb.sub1 vb).mul (vc.sub1 va)) ((vd.sub1 vb).mul (va.sub1 va)) (zbB _ _ (vb.sub1 vb).2.2 (vc.sub1 va).2.2) (zbB _ _ (vd.sub1 vb).2.2 (va.sub1 va).2.2) ?_;rw [Int.sub_self,Int.sub_self];simp
 ·by_cases e2:cmpI x ks[i+1].1=0
  ·have ex:=zlp hx lc e2
   subst ex;exact ⟨_,zfG T hi,ld,(S _ hi).2.more (by omega),rfl⟩
  ·exact ⟨_,zjn T hx hi (by omega) (by omega),(zeU va vc vx vb vd aC).2,zip la lb lc ld hx (S i aA).1 (S i aA).2 (S _ hi).1 (S _ hi).2 sx (zqc la lc aD),zil va vc vx vb vd aC⟩
theorem ziy {ks:List (Q × Q)} (T:TabQ ks) {i:Nat} (hi:i+1<ks.length):zbw (mulQ (addQ (ks[i]'(by omega)).1 ks[i+1].1) zdx) none ks=some (mulQ (addQ (ks[i]'(by omega)).2 ks[i+1].2) zdx):=by
 have aA:i<ks.length:=by omega
 have la:=T.low1 i aA;have lb:=T.low2 i aA;have lc:=T.low1 _ hi;have ld:=T.low2 _ hi
 have aE:=T.inc i (i+1) aA hi (by omega);obtain ⟨A,C,D,va,vc⟩:=zdU la.1 lc.1;obtain ⟨B,G,F,vb,vd⟩:=zdU lb.1 ld.1;have aC:=(zbW va vc).1 aE;have vx:Val (mulQ (addQ ks[i].1 ks[i+1].1) zdx) (A+C) (D*2):=((va.add1 vc).mul Val.half).trans (Nat.mul_pos va.2.1 (by omega)) (by rw [Int.natCast_mul];grind);have aF:=va.scale (k:=2) (by omega);have aD:=vc.scale (k:=2) (by omega);have lx:LowQ (mulQ (addQ ks[i].1 ks[i+1].1) zdx):=zbB _ _ (va.add1 vc).2.2 (by decide);rw [zjn T lx hi ((zbW aF vx).2 (by omega)) ((zbW vx aD).2 (by omega)),zjG va vc vb vd aC]
theorem zig (s t:ByteArray) (ty:TypeId) (g:Nat) (w:World) (hk:CBlk w g #[.string s,.string t] ty) (bs:s.size≤9223372036854775807) (bt:t.size≤9223372036854775807) :
  Calls Tryz.prog 83 #[.slice (some ⟨g,0,none⟩) 2 2] w fun e w'=>e = .returned (.int .i64 (err2 (zad s.data.toList) (zad t.data.toList)))∧Below w.heap.size w w':=by
 have HS:Hid (∀ W,Calls Tryz.prog 11 #[.string s] W (RetC W (zad s.data.toList))):=fun W=>za3 s W bs
 have HT:Hid (∀ W,Calls Tryz.prog 11 #[.string t] W (RetC W (zad t.data.toList))):=fun W=>za3 t W bt
 generalize zad s.data.toList=x at *;generalize zad t.data.toList=y at *;obtain ⟨E,hE⟩:∃ E,E=err2 x y:=⟨_,rfl⟩;rw [←hE];unfold err2 at hE
 by_cases hx:x=0
 ·rw [if_neg (by omega)] at hE
  subst hE;have dx:(x != 0)=false:=by simpa using hx
  have HX:=Aa hx;clear hx bs bt
  by_cases hy:E=0
  ·have dy:(E != 0)=false:=by simpa using hy
   have HY:=Aa hy;clear hy;go_enter Tryz.func83,Tryz.ntmps83
   go_wp2
   go_loopg [3] 2 (fun g1 v3 W=>∃ i:Nat,v3 = .int .i64 (i:Int)∧i≤2∧g1+i=2∧Below w.heap.size w W)
   case atStart=>exact ⟨0,rfl,by omega,rfl,Below.refl _ _⟩
   case round=>
    obtain ⟨i,rfl,hi,aE,aA⟩:=hrel;have aD:=hk.below aA hk.lt;have z0:wr.cell? ⟨g,0,none⟩=some (.string s):=aD.cell 0;have z1:wr.cell? ⟨g,1,none⟩=some (.string t):=aD.cell 1;clear aD
    match i,hi,aE with
    | 0,_,_=>
     go_wp2_with fail
     refine (HS.out wr).mono ?_;rintro e w1 ⟨rfl,aC⟩;go_wp2
     go_roundg 1
     case rel=>exact ⟨1,rfl,by omega,rfl,aA.trans (aC.mono aA.size)⟩
     case measure=>omega
    | 1,_,_=>
     go_wp2_with fail
     refine (HT.out wr).mono ?_;rintro e w1 ⟨rfl,aC⟩;go_wp2
     go_roundg 0
     case rel=>exact ⟨2,rfl,by omega,rfl,aA.trans (aC.mono aA.size)⟩
     case measure=>omega
    | 2,_,_=>
     go_wp2
     go_ret;exact ⟨by rw [HY.out];rfl,aA⟩
    | n+3,h,_=>exact absurd h (by omega)
  ·have dy:(E != 0)=true:=by simpa using hy
   clear hy;go_enter Tryz.func83,Tryz.ntmps83
   go_wp2
   go_loopg [3] 2 (fun g1 v3 W=>∃ i:Nat,v3 = .int .i64 (i:Int)∧i≤1∧g1+i=2∧Below w.heap.size w W)
   case atStart=>exact ⟨0,rfl,by omega,rfl,Below.refl _ _⟩
   case round=>
    obtain ⟨i,rfl,hi,aE,aA⟩:=hrel;have aD:=hk.below aA hk.lt;have z0:wr.cell? ⟨g,0,none⟩=some (.string s):=aD.cell 0;have z1:wr.cell? ⟨g,1,none⟩=some (.string t):=aD.cell 1;clear aD
    match i,hi,aE with
    | 0,_,_=>
     go_wp2_with fail
     refine (HS.out wr).mono ?_;rintro e w1 ⟨rfl,aC⟩;go_wp2
     go_roundg 1
     case rel=>exact ⟨1,rfl,by omega,rfl,aA.trans (aC.mono aA.size)⟩
     case measure=>omega
    | 1,_,_=>
     go_wp2_with fail
     refine (HT.out wr).mono ?_;rintro e w1 ⟨rfl,aC⟩;go_wp2
     go_ret;exact ⟨rfl,aA.trans (aC.mono aA.size)⟩
    | n+2,h,_=>exact absurd h (by omega)
 ·rw [if_pos hx] at hE
  subst hE;have dx:(E != 0)=true:=by simpa using hx
  clear hx bs bt;go_enter Tryz.func83,Tryz.ntmps83
  go_wp2
  go_loopg [3] 2 (fun g1 v3 W=>v3 = .int .i64 0∧W=w)
  case atStart=>exact ⟨rfl,rfl⟩
  case round=>
   obtain ⟨rfl,rfl⟩:=hrel;have z0:wr.cell? ⟨g,0,none⟩=some (.string s):=hk.cell 0;have z1:wr.cell? ⟨g,1,none⟩=some (.string t):=hk.cell 1
   go_wp2_with fail
   refine (HS.out wr).mono ?_;rintro e w1 ⟨rfl,aC⟩;go_wp2
   go_ret;exact ⟨rfl,aC⟩
def ordN (o:Option Q) (x:Q):Int:=match o with | none=>0 | some q=>if rcmp x q≤0 then 11 else 0
theorem znI {x q:Q} (hx:LowQ x) (hq:LowQ q):ordN (some q) x=if cmpI x q≤0 then 11 else 0:=by
 show (if rcmp x q≤0 then (11:Int) else 0)=_
 rw [zcg hx hq]
theorem zoI {o:Option Q} {X Y:List UInt8}:rowE o X Y=if err2 (zad X) (zad Y)≠0 then err2 (zad X) (zad Y) else ordN o (zab X):=by
 unfold rowE err2 ordN
 by_cases h:zad X=0
 ·simp only [ne_eq,h,not_true_eq_false,if_false]
  cases o<;>rfl
 ·rw [if_pos h,if_pos h,if_pos h]
theorem zfr (A:Option Addr) (n c:Nat) (w:World) (E:Int) (h:(n<1∧E=12)∨(64<n∧E=5)) :
  Calls Tryz.prog 40 #[.slice A n c] w fun e w'=>e = .returned (.int .i64 E)∧Below w.heap.size w w':=by
 rcases h with ⟨h,rfl⟩ | ⟨h,rfl⟩
 ·obtain rfl:n=0:=by omega
  go_enter Tryz.func40,Tryz.ntmps40
  go_wp2
  go_ret;exact ⟨rfl,Below.refl _ _⟩
 ·have d1:((n:Int)==0)=false:=by rw [beq_eq_false_iff_ne];omega
  have d2:decide ((64:Int)<(n:Int))=true:=decide_eq_true (by omega);clear h;go_enter Tryz.func40,Tryz.ntmps40
  go_wp2
  go_ret;exact ⟨rfl,Below.refl _ _⟩
theorem zjq (A:Option Addr) (n c:Nat) (l:List (ByteArray × ByteArray)) (w:World) (h:PtsR w w.heap.size A n l) (hsz:∀ p ∈ l,p.1.size≤9223372036854775807∧p.2.size≤9223372036854775807) (h1:1≤n) (h64:n≤64) :
  Calls Tryz.prog 40 #[.slice A n c] w fun e w'=>e = .returned (.int .i64 (zbV none l))∧Below w.heap.size w w':=by
 have aJ:l.length=n:=h.1;obtain ⟨ad,rfl,bO,bG⟩:=h.2 (by omega);have d1:((n:Int)==0)=false:=by rw [beq_eq_false_iff_ne];omega
 have d2:decide ((64:Int)<(n:Int))=false:=decide_eq_false (by omega);obtain ⟨R,hR⟩:∃ R,R=zbV none l:=⟨_,rfl⟩;have bW:=Aa (show R=zbV (zcb l 0) (l.drop 0) from hR);have aW:=Aa hR;have bD:=Aa bG;have bN:=Aa hsz;have bE:=Aa aJ;rw [←hR];clear hR h bG hsz aJ;go_enter Tryz.func40,Tryz.ntmps40
 go_wp2
 go_loopg [3] n (fun m s W=>∃ k:Nat,k≤n∧s = .int .i64 k∧n - k≤m∧Below w.heap.size w W∧Hid (zbV none l=zbV (zcb l k) (l.drop k))∧Hid (0<k→∀ p,l[k - 1]? = some p→zad p.1.data.toList=0))
 case atStart=>exact ⟨0,Nat.zero_le _,rfl,by omega,Below.refl _ _,Aa rfl,Aa (fun h=>absurd h (by omega))⟩
 case round=>
  obtain ⟨k,hk,rfl,hm,aC,bJ,bR⟩:=hrel
  by_cases h0:k<n
  ·have aP:k<l.length:=by have:=bE.out;omega
   obtain ⟨aI,aO⟩:=bD.out k aP;have aA:=zhp aP bJ.out;rw [zoI] at aA;have hs:=bN.out l[k] (List.getElem_mem aP);have bH:l[k]? = some l[k]:=List.getElem?_eq_getElem aP;have bA:err2 (zad l[k].1.data.toList) (zad l[k].2.data.toList)=0→zad l[k].1.data.toList=0:=fun h=>by
    unfold err2 at h
    by_cases h9:zad l[k].1.data.toList=0
    ·exact h9
    ·rw [if_pos h9] at h;exact h
   generalize bU:l[k]=pt at *;obtain ⟨X,Y⟩:=pt
   dsimp only at aI aO aA hs bA
   have hX:∀ p q:Nat,((ad.add p).add q).block<w.heap.size:=fun p q=>by rw [zaN,zaN];exact bO
   have x0:wr.drew.cell? (ad.add (k*2))=some (.string X):=(aC.cell (hX _ _)).trans aI;have x1:wr.drew.cell? ⟨(ad.add (k*2)).block,(ad.add (k*2)).off+1,none⟩=some (.string Y):=(aC.cell (hX _ _)).trans aO;have bV:(k:Int)<(n:Int):=by omega
   have aN:Below w.heap.size w (wr.alloc (.cells #[.string X,.string Y] 22)).drew:=(aC.alloc aC.size _).drew;have y0:(wr.alloc (.cells #[.string X,.string Y] 22)).drew.cell? (ad.add (k*2))=some (.string X):=(aN.cell (hX _ _)).trans aI;have y1:(wr.alloc (.cells #[.string X,.string Y] 22)).drew.cell? ⟨(ad.add (k*2)).block,(ad.add (k*2)).off+1,none⟩=some (.string Y):=(aN.cell (hX _ _)).trans aO;have bF:CBlk (wr.alloc (.cells #[.string X,.string Y] 22)).drew wr.heap.size #[.string X,.string Y] 22:=(show CBlk (wr.alloc (.cells #[.string X,.string Y] 22)) wr.heap.size #[.string X,.string Y] 22 from CBlk.new wr _ _ _ rfl).drew;have bS:=Aa (zig X Y 22 wr.heap.size _ bF hs.1 hs.2);generalize hE:err2 (zad X.data.toList) (zad Y.data.toList)=E at *;have bP:=Aa bH;have bK:=Aa bA;have aD:=Aa aA;have aR:=Aa aN;have aK:=Aa hX;have bT:=Aa aI;clear bH bA aA aI aO bF hs aN hX hE
   go_wp2_with fail
   go_region_held3 (fun w'=>w'.cell? (ad.add (k*2))=some (.string X)∧w'.cell? ⟨(ad.add (k*2)).block,(ad.add (k*2)).off+1,none⟩=some (.string Y))
    (first | with_reducible exact ⟨x0,x1⟩ | with_reducible exact ⟨y0,y1⟩ | with_reducible exact ⟨z0,z1⟩)
    (first | (go_at_call 83;refine bS.out.mono ?_;rintro e w7 ⟨rfl,bB⟩;have aE:=aR.out.trans (bB.mono aR.out.size);have z0:w7.cell? (ad.add (k*2))=some (.string X):=(bB.cell (p:=ad.add (k*2)) (Nat.lt_of_lt_of_le (aK.out (k*2) 0) aR.out.size)).trans y0;have z1:w7.cell? ⟨(ad.add (k*2)).block,(ad.add (k*2)).off+1,none⟩=some (.string Y):=(bB.cell (p:=⟨(ad.add (k*2)).block,(ad.add (k*2)).off+1,none⟩) (Nat.lt_of_lt_of_le (aK.out (k*2) 1) aR.out.size)).trans y1))
   by_cases hE0:E=0
   ·subst hE0
    have bI:Hid (ordN (zcb l k) (zab X.data.toList)≠0→zbV none l=ordN (zcb l k) (zab X.data.toList)):=fun h=>by
     have h9:=aD.out.1;rw [if_neg (by simp)] at h9;exact h9 h
    have aG:Hid (ordN (zcb l k) (zab X.data.toList)=0→zbV none l=zbV (zcb l (k+1)) (l.drop (k+1))):=fun h=>by
     have h9:=aD.out.2;rw [if_neg (by simp)] at h9;exact (h9 h).1
    have aQ:=bK.out rfl;have aF:=Aa (show 0<k+1→∀ p,l[k+1 - 1]? = some p→zad p.1.data.toList=0 from fun _ p hp=>by
     rw [Nat.add_sub_cancel,bP.out] at hp;injection hp with hp
     subst hp;exact aQ)
    rcases Nat.eq_zero_or_pos k with aS | aS
    ·subst aS
     have bQ:zcb l 0=none:=rfl;have HZ:=Aa (aG.out (by rw [bQ];rfl))
     go_wp2_with fail
     go_region
     go_wp2_with fail
     go_roundg (n - (0+1))
     case measure=>omega
     case rel=>exact ⟨0+1,by omega,by go_num,Nat.le_refl _,aE.drew,HZ,aF⟩
    ·have aZ:k - 1<l.length:=by omega
     have bC:l[k - 1]? = some l[k - 1]:=List.getElem?_eq_getElem aZ;have aT:=bR.out aS _ bC;have aU:=(bD.out (k - 1) aZ).1;have aV:zcb l k=some (zab l[k - 1].1.data.toList):=by unfold zcb;rw [if_neg (by omega),bC];rfl
     generalize bL:l[k - 1]=pp at *;obtain ⟨X9,Y9⟩:=pp
     dsimp only at aT aU aV
     have s1:=zeh aQ;have s2:=zeh aT;have n1:=zbA aQ;have n2:=zbA aT;have bM:=Aa (fun W=>ziJ X X9 _ _ W n1 n2 (by omega) (by omega));rw [aV,znI n1.2 n2.2] at bI aG;generalize cmpI (zab X.data.toList) (zab X9.data.toList)=C at *;have x9:w7.drew.cell? (ad.add ((k - 1)*2))=some (.string X9):=(aE.cell (p:=ad.add ((k - 1)*2)) (aK.out ((k - 1)*2) 0)).trans aU;have z9:w7.drew.cell? (ad.add (k*2))=some (.string X):=z0;have i1:IntKind.i64.wrap ((k:Int) - 1)=((k - 1:Nat):Int):=by rw [IntWalk.i64_in _ (by omega)];omega
     have j1:(0:Int)≤((k - 1:Nat):Int):=by omega
     have j2:((k - 1:Nat):Int)<(n:Int):=by omega
     have j3:k - 1<n:=by omega
     have j4:(0:Int)<(k:Int):=by omega
     have j5:decide (0<k)=true:=decide_eq_true aS;have j6:decide ((0:Int)<(k:Int))=true:=decide_eq_true j4;clear bC aU aT aQ s1 s2 n1 n2 aV bL aZ;generalize k - 1=K1 at *
     go_wp2_with fail
     go_region_held3 (fun w'=>w'.cell? (ad.add (k*2))=some (.string X)∧w'.cell? (ad.add (K1*2))=some (.string X9))
      (first | with_reducible exact ⟨z9,x9⟩ | with_reducible exact ⟨u0,u1⟩)
      (first | (go_at_call 23;refine (bM.out w7.drew).mono ?_;rintro e w8 ⟨rfl,aM⟩;have u0:w8.cell? (ad.add (k*2))=some (.string X):=(aM.cell (p:=ad.add (k*2)) (Nat.lt_of_lt_of_le (aK.out (k*2) 0) aE.size)).trans z9;have u1:w8.cell? (ad.add (K1*2))=some (.string X9):=(aM.cell (p:=ad.add (K1*2)) (Nat.lt_of_lt_of_le (aK.out (K1*2) 0) aE.size)).trans x9))
     by_cases hC:C≤0
     ·have dC:decide (C≤0)=true:=decide_eq_true hC
      have aL:=Aa (show R=11 from by
       have h9:=bI.out;rw [if_pos hC] at h9;exact aW.out.trans (h9 (by omega)))
      go_wp2_with fail
      go_ret;exact ⟨by rw [aL.out];rfl,(aE.drew).trans (aM.mono aE.size)⟩
     ·have dC:decide (C≤0)=false:=decide_eq_false hC
      have HZ:=Aa (aG.out (if_neg hC))
      go_wp2_with fail
      go_roundg (n - (k+1))
      case measure=>omega
      case rel=>exact ⟨k+1,by omega,by go_num,Nat.le_refl _,(aE.drew).trans (aM.mono aE.size),HZ,aF⟩
   ·have dE:(E != 0)=true:=by simpa using hE0
    have aL:=Aa (show R=E from by
     have h9:=aD.out.1;rw [if_pos hE0] at h9;exact aW.out.trans (h9 hE0))
    clear hE0
    go_wp2_with fail
    go_ret;exact ⟨by rw [aL.out];rfl,aE⟩
  ·obtain rfl:n=k:=by omega
   have aH:zbV none l=0:=by
    have h9:=bJ.out;rw [List.drop_of_length_le (by have:=bE.out;omega)] at h9;rw [h9]
    cases zcb l n<;>rfl
   have aL:=Aa (show R=0 from aW.out.trans aH);clear aH
   go_wp2_with fail
   go_ret;exact ⟨by rw [aL.out];rfl,aC⟩
theorem zqC (zn yn:Int) (b:Bool) (x y:Nat) (w:World) (hzn:zn = -(sgn b x)) (hyn:yn = -(y:Int)) (hx:x≤4000000000000000000) (hy:y≤4000000000000000000) (hy0:0<y) :
  Calls Tryz.prog 49 #[.int .i64 zn,.int .i64 yn] w fun e w'=>(∃ s:ByteArray,e = .returned (.string s)∧s.data.toList=zaq (zbg (sgn b x) y))∧Below w.heap.size w w':=by
 rw [zhU b x y hy0];obtain ⟨g,hg⟩:∃ g,g=Nat.gcd x y:=⟨_,rfl⟩;have bG:0<g:=by rw [hg];exact Nat.gcd_pos_of_pos_right _ hy0
 have aM:g≤y:=by rw [hg];exact Nat.gcd_le_right _ hy0
 have HC:=zkT x y w hx hy;rw [←hg] at HC ⊢;obtain ⟨X,hX⟩:∃ X,X=x / g:=⟨_,rfl⟩;obtain ⟨Y,hY⟩:∃ Y,Y=y / g:=⟨_,rfl⟩;obtain ⟨z,hz⟩:∃ z,z=sgn b x:=⟨_,rfl⟩;obtain ⟨z1,aC⟩:∃ z1,z1=sgn b X:=⟨_,rfl⟩;have bO:X≤x:=by rw [hX];exact Nat.div_le_self _ _
 have bJ:Y≤y:=by rw [hY];exact Nat.div_le_self _ _
 have bN:0<Y:=by rw [hY];exact Nat.div_pos aM bG
 have bB:z=(x:Int)∨z = -(x:Int):=by rw [hz];unfold sgn;cases b<;>simp
 have aG:z1=(X:Int)∨z1 = -(X:Int):=by rw [aC];unfold sgn;cases b<;>simp
 have f1:Int.tdiv z (g:Int)=z1:=by
  have h9:Int.tdiv (x:Int) (g:Int)=(X:Int):=by rw [Int.tdiv_eq_ediv_of_nonneg (by omega),←Int.natCast_ediv,←hX]
  rw [hz,aC];unfold sgn
  cases b
  ·simp [h9]
  ·simp [Int.neg_tdiv,h9]
 have f2:Int.tdiv (y:Int) (g:Int)=(Y:Int):=by rw [Int.tdiv_eq_ediv_of_nonneg (by omega),←Int.natCast_ediv,←hY]
 have f3:IntKind.i64.wrap z1=z1:=IntWalk.i64_in _ (by omega);have f4:IntKind.i64.wrap (Y:Int)=(Y:Int):=IntWalk.i64_in _ (by omega);have f5:((g:Int)==0)=false:=by rw [beq_eq_false_iff_ne];omega
 rw [←hX,←hY];rw [←hz] at hzn;rw [←aC];have em:max z (-z)=(x:Int):=by omega
 have aU:max z1 (-z1)=(X:Int):=by omega
 have d1:decide (zn < -4000000000000000000)=false:=by simp<;>omega
 have d2:decide (4000000000000000000<zn)=false:=by simp<;>omega
 have d3:decide (yn < -4000000000000000000)=false:=by simp only [decide_eq_false_iff_not];omega
 have d4:decide ((4000000000000000000:Int)<yn)=false:=by simp only [decide_eq_false_iff_not];omega
 have d5:decide (yn<0)=true:=decide_eq_true (by omega);have f6:wrap64 (-zn)=z:=by rw [IntWalk.wrap64_in _ (by omega)];omega
 have f7:wrap64 (-yn)=(y:Int):=by rw [IntWalk.wrap64_in _ (by omega)];omega
 have f8:wrap64 (0 - zn)=z:=by rw [IntWalk.wrap64_in _ (by omega)];omega
 have f9:wrap64 (0 - yn)=(y:Int):=by rw [IntWalk.wrap64_in _ (by omega)];omega
 have aT : -4000000000000000000≤z:=by omega
 have bC:z≤4000000000000000000:=by omega
 have aQ : -4000000000000000000≤z1:=by omega
 have aS:z1≤4000000000000000000:=by omega
 have bK:X≤4000000000000000000:=by omega
 have bL:Y≤4000000000000000000:=by omega
 have bD:=Aa HC;clear HC hg hX hY hz aC bB aG aM hzn hyn;have aW:=Aa (fun W=>zb3 X 1 W (by omega) (by omega));have aV:=Aa (fun W=>zb3 Y 1 W (by omega) (by omega));have aJ:(Lib.decDigits X).length≤19:=Dec.dec_length_le (by omega) (by have e:(10:Nat) ^ 19=10000000000000000000:=(by decide);omega);have aO:(Lib.decDigits Y).length≤19:=Dec.dec_length_le (by omega) (by have e:(10:Nat) ^ 19=10000000000000000000:=(by decide);omega);have bA:=Aa aJ;have aZ:=Aa aO;clear aJ aO;go_enter Tryz.func49,Tryz.ntmps49
 go_wp2_with fail
 refine bD.out.mono ?_;rintro e w1 ⟨rfl,aR⟩;clear em d1 d2 d3 d4 d5;go_upto_region 6 with (fail)
 go_quiet (fail)
 clear f1 f2 f3 f4 f6 f7 f8 f9;have aL:=zac aR;generalize aN:w1.drewN _=w2 at *;have aP:Below w.heap.size w w2:=by rw [←aN];exact aL _
 clear aL aN aR;have aK:∀ s:ByteArray,s.data.toList=Lib.decDigits X→s.size≤19:=fun s hs=>by
  have h9:s.data.toList.length=s.size:=Array.length_toList;rw [hs] at h9;have:=bA.out;omega
 have aI:∀ s:ByteArray,s.data.toList=Lib.decDigits Y→s.size≤19:=fun s hs=>by
  have h9:s.data.toList.length=s.size:=Array.length_toList;rw [hs] at h9;have:=aZ.out;omega
 have bH:=Aa aK;have bF:=Aa aI;have bI:=Aa aU;clear aK aI
 by_cases hneg:z1<0
 case' pos=>have dn:decide (z1<0)=true:=by simpa using hneg
 case' neg=>have dn:decide (z1<0)=false:=by simpa using hneg
 case' pos=>obtain ⟨pr,aA⟩:∃ pr:List UInt8,pr=[45]:=⟨_,rfl⟩
 case' neg=>obtain ⟨pr,aA⟩:∃ pr:List UInt8,pr=[]:=⟨_,rfl⟩
 case' pos=>have aF:Hid (∀ l,sgnT (decide (z1<0)) l=[45]++l):=fun l=>by rw [dn];rfl
 case' neg=>have aF:Hid (∀ l,sgnT (decide (z1<0)) l=[]++l):=fun l=>by rw [dn];rfl
 all_goals
  go_wp2_with fail
  refine (aW.out w2).mono ?_;rintro e w3 ⟨⟨s,rfl,hs⟩,hw⟩;obtain rfl:w2=w3:=hw;rw [zfe] at hs;have bM:=bH.out s hs;have HS:=Aa hs;clear hs
  by_cases hY1:Y=1
  ·have dy:decide ((1:Int)<(Y:Int))=false:=by simp only [decide_eq_false_iff_not];omega
   have aH:=Aa hY1;clear hY1;have HR:Hid (∀ t:ByteArray,t.data.toList=pr++s.data.toList→t.data.toList=zaq ⟨decide (z1<0),X,Y⟩):=fun t ht=>by
    rw [zaP,if_pos aH.out,aF.out,List.append_nil,ht,aA,HS.out]
   have aE:=Aa aA;clear aA;go_wp2
   go_ret;exact ⟨⟨_,rfl,HR.out _ (by rw [aE.out];first | rfl | (rw [ByteArray.data_append,Array.toList_append];rfl))⟩,aP⟩
  ·have dy:decide ((1:Int)<(Y:Int))=true:=by simp only [decide_eq_true_eq];omega
   have aH:=Aa hY1;clear hY1;have aE:=Aa aA;clear aA
   go_wp2_with fail
   refine (aV.out w2).mono ?_;rintro e w3 ⟨⟨s2,rfl,aD⟩,hw⟩;obtain rfl:w2=w3:=hw;rw [zfe] at aD;have bE:=bF.out s2 aD;have HR:Hid (∀ t:ByteArray,t.data.toList=(pr++s.data.toList)++[47]++s2.data.toList→t.data.toList=zaq ⟨decide (z1<0),X,Y⟩):=fun t ht=>by
    rw [zaP,if_neg aH.out,aF.out,ht,aE.out,HS.out,aD,List.append_assoc];rfl
   clear aD;go_wp2
   go_ret;exact ⟨⟨_,rfl,HR.out _ (by rw [aE.out];simp only [ByteArray.data_append,Array.toList_append])⟩,aP⟩
def ofQ (a b:Int):Q:=lowQ (decide (a<0) != decide (b<0)) (a.natAbs*1) (1*b.natAbs)
theorem znO (a:Int) {b:Int} (hb:0<b):ofQ a b=zbg a b.natAbs:=by
 unfold ofQ zbg;rw [decide_eq_false (show ¬ b<0 by omega),Nat.mul_one,Nat.one_mul,Bool.bne_false]
theorem zq1 (a:Int) {b:Int} (hb:b<0):ofQ a b=zbg (-a) b.natAbs:=by
 unfold ofQ zbg;rw [decide_eq_true hb,Nat.mul_one,Nat.one_mul,Int.natAbs_neg]
 rcases Int.lt_trichotomy a 0 with h | h | h
 ·rw [decide_eq_true h,decide_eq_false (show ¬ -a<0 by omega)];rfl
 ·subst h
  unfold lowQ;have aA:b.natAbs≠0:=by omega
  rw [if_neg aA,if_neg aA,if_pos (show (0:Int).natAbs=0 from rfl),if_pos (show (0:Int).natAbs=0 from rfl)]
 ·rw [decide_eq_false (show ¬ a<0 by omega),decide_eq_true (show -a<0 by omega)];rfl
theorem zrn (a b:Int) (w:World) (ha : -999999999≤a∧a≤999999999) (hb : -999999999≤b∧b≤999999999) (h0:b≠0):Calls Tryz.prog 49 #[.int .i64 a,.int .i64 b] w (RetS w (ofQ a b)):=by
 rcases Int.lt_trichotomy b 0 with h | h | h
 ·have h9:=zqC a b (decide (-a<0)) (-a).natAbs b.natAbs w (by rw [zfX];omega) (by omega) (by omega) (by omega) (by omega)
  rw [zfX] at h9;rw [zq1 a h];exact h9.mono fun _ _ ⟨⟨s,e,hs⟩,hb⟩=>⟨⟨s,e,hs,zaQ _ (by omega)⟩,hb⟩
 ·exact absurd h h0
 ·have h9:=zkD (decide (a<0)) a.natAbs b.natAbs w (by omega) (by omega) (by omega)
  rw [zfX,show ((b.natAbs:Nat):Int)=b by omega] at h9;rw [znO a h];exact h9.mono fun _ _ ⟨⟨s,e,hs⟩,hb⟩=>⟨⟨s,e,hs,zaQ _ (by omega)⟩,hb⟩
theorem zm8 (s t u1 u2 u3 x:ByteArray) (A:Int) (hA:0≤A∧A≤255) (K1:zaS 49 #[.int .i64 A,.int .i64 255] (.string u1)) (K2:zaS 21 #[.string t,.string s] (.string u2)) (K3:zaS 22 #[.string u1,.string u2] (.string u3)) (K4:zaS 20 #[.string s,.string u3] (.string x)) :
  zaS 27 #[.agg #[.string s,.string t],.int .u8 A] (.string x):=by
 intro w;have e1:IntKind.i64.wrap A=A:=IntWalk.i64_in _ (by omega);have J1:Hid (zaS 49 #[.int .i64 (IntKind.i64.wrap A),.int .i64 255] (.string u1)):=by rw [e1];exact K1
 have J2:=Aa K2;have J3:=Aa K3;have J4:=Aa K4;clear e1;clear K1 K2 K3 K4;have aU:Below w.heap.size w (w.alloc (.cells #[.string s,.string t] 39)):=((Below.refl _ _).alloc (by simp<;>omega) _);have aO:CBlk (w.alloc (.cells #[.string s,.string t] 39)) (w.heap.size) #[.string s,.string t] 39:=(CBlk.new _ _ _ _ (by simp));go_enter Tryz.func27,Tryz.ntmps27
 go_upto_region 1 with (fail)
 generalize (w.alloc (.cells #[.string s,.string t] 39))=w1 at *;have aJ:w1.drew.cell? ⟨w.heap.size,0,none⟩=some (.string s):=aO.cell 0;have aF:w1.drew.cell? ⟨w.heap.size,1,none⟩=some (.string t):=aO.cell 1
 go_region_held3 (fun w'=>w'.cell? ⟨w.heap.size,0,none⟩=some (.string s)∧w'.cell? ⟨w.heap.size,1,none⟩=some (.string t))
  (first | with_reducible exact ⟨aJ,aF⟩ | with_reducible exact ⟨aC,aE⟩ | with_reducible exact ⟨aK,aI⟩ | with_reducible exact ⟨aH,aD⟩ | with_reducible exact ⟨aA,aG⟩)
  (first
   |(have _:=aM;go_at_call 20;refine (J4.out w4).mono ?_;rintro e w5 ⟨rfl,aS⟩;have aT:=aR.via aS;have aA:w5.cell? ⟨w.heap.size,0,none⟩=some (.string s):=aT.cell 0;have aG:w5.cell? ⟨w.heap.size,1,none⟩=some (.string t):=aT.cell 1)
   |(have _:=aL;go_at_call 22;refine (J3.out w3).mono ?_;rintro e w4 ⟨rfl,aM⟩;have aR:=aP.via aM;have aH:w4.cell? ⟨w.heap.size,0,none⟩=some (.string s):=aR.cell 0;have aD:w4.cell? ⟨w.heap.size,1,none⟩=some (.string t):=aR.cell 1)
   |(have _:=aN;go_at_call 21;refine (J2.out w2).mono ?_;rintro e w3 ⟨rfl,aL⟩;have aP:=aQ.via aL;have aK:w3.cell? ⟨w.heap.size,0,none⟩=some (.string s):=aP.cell 0;have aI:w3.cell? ⟨w.heap.size,1,none⟩=some (.string t):=aP.cell 1)
   |(go_at_call 49;refine (J1.out w1.drew).mono ?_;rintro e w2 ⟨rfl,aN⟩;have aQ:=aO.drew.via aN;have aC:w2.cell? ⟨w.heap.size,0,none⟩=some (.string s):=aQ.cell 0;have aE:w2.cell? ⟨w.heap.size,1,none⟩=some (.string t):=aQ.cell 1))
 clear aJ aF aC aE aK aI aH aD aA aG;have aV:=(bvia (bvia (bvia (bvia aU.drew aN) aL) aM) aS);go_wp2
 go_ret;exact ⟨rfl,aV⟩
end Go.Proofs.YtmkondcdejlhcaaGreatDoor
