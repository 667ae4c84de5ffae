/- Growing slices of points: three of them apart from one another; the appends. -/
import Derived.Test.YtbkgkoenppkhpaaGreatDoorGTx
import Derived.Test.YtbkgkoenppkhpaaGreatDoorGNa1
import Derived.Maps.AppendAt
import Derived.Test.YtbkgkoenppkhpaaGreatDoorGRb13
import Derived.Test.YtbkgkoenppkhpaaGreatDoorGStr1
import Derived.Test.YtbkgkoenppkhpaaGreatDoorGRb24
import Derived.Test.YtbkgkoenppkhpaaGreatDoorGKn8
import Derived.Test.YtbkgkoenppkhpaaGreatDoorGCoa
import Derived.Laws.StructEq
import Derived.Deep.LoopGhost
import Derived.Test.YtbkgkoenppkhpaaGreatDoorGEx2
import Derived.Test.YtbkgkoenppkhpaaGreatDoorGRead2
import Derived.Test.YtbkgkoenppkhpaaGreatDoorGSp2
set_option maxRecDepth 100000
set_option maxHeartbeats 4000000
namespace Go.Proofs.YtbkgkoenppkhpaaGreatDoor
section
open Go.RowKit Bn Dn
def zeH (M:List (ByteArray × ByteArray)):List Value:=M.flatMap fun p=>[.string p.1,.string p.2]
def PRow (W:World) (B:Nat) (v:Value) (M:List (ByteArray × ByteArray)):Prop:=W.ownsRow B 70 2 v M.length (zeH M)
def zfj (x y:Value):Prop:=x.ownBlock=none∨x.ownBlock≠y.ownBlock
theorem zhw (M:List (ByteArray × ByteArray)) (p:ByteArray × ByteArray):zeH (M++[p])=zeH M++[.string p.1,.string p.2]:=by
 unfold zeH;rw [List.flatMap_append];simp
theorem zeO (M:List (ByteArray × ByteArray)) (p:ByteArray × ByteArray):zeH (p :: M)=[.string p.1,.string p.2]++zeH M:=by
 unfold zeH;rw [List.flatMap_cons]
theorem zh6:∀ (M:List (ByteArray × ByteArray)) (i:Nat) (h:i<M.length),(zeH M)[i*2]? = some (.string M[i].1)∧(zeH M)[i*2+1]? = some (.string M[i].2)
 | a :: t,0,_=>by rw [zeO];exact ⟨rfl,rfl⟩
 | a :: t,i+1,h=>by
  have ih:=zh6 t i (by simpa using h);rw [zeO,show (i+1)*2=[Value.string a.1,.string a.2].length+i*2 by simp;omega,show [Value.string a.1,.string a.2].length+i*2+1=[Value.string a.1,.string a.2].length+(i*2+1) by omega,List.getElem?_append_right (by omega),List.getElem?_append_right (by omega)];simp only [Nat.add_sub_cancel_left,List.getElem_cons_succ]
  exact ih
theorem PRow.nil (W:World) (B:Nat):PRow W B (.slice none 0 0) []:=⟨rfl,.inl ⟨rfl,rfl⟩⟩
theorem PRow.pts {W:World} {B:Nat} {v:Value} {M:List (ByteArray × ByteArray)} (h:PRow W B v M):∃ A c,v = .slice A M.length c∧PtsR W W.heap.size A M.length M:=by
 obtain ⟨A,c,rfl,h1,h2,h3⟩:=zcs h;refine ⟨A,c,rfl,rfl,fun h0 => ?_⟩;obtain ⟨ad,rfl,hb,hc⟩:=h3.2 h0;refine ⟨ad,rfl,hb,fun i hi => ?_⟩;obtain ⟨e0,e1⟩:=zh6 M i hi;rw [zgy,zgy];exact ⟨hc _ _ e0,hc _ _ e1⟩
theorem zid:(Tryz.prog.info? 70).map (fun i=>(i.zero,i.size,i.bytes))=some (some (.agg #[.string ⟨#[]⟩,.string ⟨#[]⟩]),2,32):=by kernel_rfl
theorem zk5 (M:List (ByteArray × ByteArray)):∀ u ∈ zeH M,u.oneCell'=true:=by
 intro u hu;unfold zeH at hu;obtain ⟨p,_,hp⟩:=List.mem_flatMap.1 hu;simp only [List.mem_cons,List.not_mem_nil,or_false] at hp
 rcases hp with rfl | rfl<;>rfl
structure Three (w W:World) (v1 v2 v3:Value) (M1 M2 M3:List (ByteArray × ByteArray)):Prop where
 hb:Below w.heap.size w W
 r1:PRow W w.heap.size v1 M1
 r2:PRow W w.heap.size v2 M2
 r3:PRow W w.heap.size v3 M3
 a12:zfj v1 v2
 a13:zfj v1 v3
 a23:zfj v2 v3
theorem zfy {w w':World} {base size n:Nat} {e:TypeId} {v:Value} {xs:List Value} (h:w.ownsRow base e size v n xs) (hb:Below w.heap.size w w'):w'.ownsRow base e size v n xs:=by
 refine h.kept (row:=none) ⟨hb.os,hb.tape,hb.output,hb.size,fun i hi _=>hb.block i hi⟩ ?_
 cases v.ownBlock<;>simp
theorem Three.later {w W W':World} {v1 v2 v3:Value} {M1 M2 M3:List (ByteArray × ByteArray)} (h:Three w W v1 v2 v3 M1 M2 M3) (hb:Below W.heap.size W W'):Three w W' v1 v2 v3 M1 M2 M3:=
 ⟨h.hb.trans (hb.mono h.hb.size),zfy h.r1 hb,zfy h.r2 hb,zfy h.r3 hb,h.a12,h.a13,h.a23⟩
theorem zfj.symm {x y:Value} (h:zfj x y):zfj y x:=by
 rcases h with h | h
 ·cases hy:y.ownBlock
  ·exact .inl hy
  ·right;rw [hy,h];simp
 ·exact .inr (Ne.symm h)
theorem zfj.app {x y x':Value} {g:Nat} (h:zfj x y) (hl:∀ k,y.ownBlock=some k→k<g) (hat:x'.ownBlock=x.ownBlock∨x'.ownBlock=some g):zfj x' y:=by
 rcases hat with e | e
 ·unfold zfj;rw [e];exact h
 ·right
  rw [e];intro k;exact Nat.lt_irrefl _ (hl g k.symm)
theorem PRow.lt {W:World} {B:Nat} {v:Value} {M:List (ByteArray × ByteArray)} (h:PRow W B v M):∀ k,v.ownBlock=some k→k<W.heap.size:=fun k hk=>(World.ownsRow.lt h k hk).2
theorem Three.app1 {w W W':World} {v1 v2 v3 v':Value} {M1 M2 M3:List (ByteArray × ByteArray)} {p:ByteArray × ByteArray} (h:Three w W v1 v2 v3 M1 M2 M3) (ho:W'.ownsRow w.heap.size 70 2 v' (M1.length+1) (zeH M1++[.string p.1,.string p.2])) (hg:W.grownBy W' v1.ownBlock) (hat:v'.ownBlock=v1.ownBlock∨v'.ownBlock=some W.heap.size):Three w W' v' v2 v3 (M1++[p]) M2 M3:=
 ⟨h.hb.grown hg h.hb.size (fun z hz=>(World.ownsRow.lt h.r1 z hz).1),by
  unfold PRow;rw [zhw,List.length_append];exact ho,h.r2.kept hg h.a12.symm,h.r3.kept hg h.a13.symm,h.a12.app h.r2.lt hat,h.a13.app h.r3.lt hat,h.a23⟩
theorem Three.app2 {w W W':World} {v1 v2 v3 v':Value} {M1 M2 M3:List (ByteArray × ByteArray)} {p:ByteArray × ByteArray} (h:Three w W v1 v2 v3 M1 M2 M3) (ho:W'.ownsRow w.heap.size 70 2 v' (M2.length+1) (zeH M2++[.string p.1,.string p.2])) (hg:W.grownBy W' v2.ownBlock) (hat:v'.ownBlock=v2.ownBlock∨v'.ownBlock=some W.heap.size):Three w W' v1 v' v3 M1 (M2++[p]) M3:=
 ⟨h.hb.grown hg h.hb.size (fun z hz=>(World.ownsRow.lt h.r2 z hz).1),h.r1.kept hg h.a12,by
  unfold PRow;rw [zhw,List.length_append];exact ho,h.r3.kept hg h.a23.symm,(h.a12.symm.app h.r1.lt hat).symm,h.a13,h.a23.app h.r3.lt hat⟩
theorem Three.rep3 {w W W':World} {v1 v2 v3 v' u:Value} {M1 M2 M3 M':List (ByteArray × ByteArray)} {j:Nat} (h:Three w W v1 v2 v3 M1 M2 M3) (ho:PRow W' w.heap.size v' M') (hu:u.ownBlock=some j) (hj:w.heap.size≤j) (hg:W.grownBy W' u.ownBlock) (h1:v1.ownBlock≠some j) (h2:v2.ownBlock≠some j) (hat:v'.ownBlock=u.ownBlock∨v'.ownBlock=some W.heap.size):Three w W' v1 v2 v' M1 M2 M':=by
 have a1:zfj u v1 := .inr (by rw [hu];exact Ne.symm h1);have a2:zfj u v2 := .inr (by rw [hu];exact Ne.symm h2);exact ⟨h.hb.grown hg h.hb.size (fun z hz=>by rw [hu] at hz;injection hz with hz;omega),h.r1.kept hg a1.symm,h.r2.kept hg a2.symm,ho,h.a12,(a1.app h.r1.lt hat).symm,(a2.app h.r2.lt hat).symm⟩
theorem zep (W:World) (B:Nat) (s t:ByteArray) (hB:B≤W.heap.size):(W.alloc (.cells #[.string s,.string t] 70)).ownsRow B 70 2 (.slice (some ⟨W.heap.size,0,none⟩) 1 1) 1 [.string s,.string t]:=
 zfe (heap_alloc_new W _) hB (by unfold maxLen;omega) rfl
theorem zox (zn yn:Int) (b:Bool) (x y:Nat) (w:World) (hzn:zn = -(sgn b x)) (hyn:yn = -(y:Int)) (hx:x≤4000000000000000000) (hy:y≤4000000000000000000) (hy0:0<y) :
  Calls Tryz.prog 49 #[.int .i64 zn,.int .i64 yn] w fun e w'=>(∃ s:ByteArray,e = .returned (.string s)∧s.data.toList=zaE (zbn (sgn b x) y))∧Below w.heap.size w w':=by
 rw [zin b x y hy0];obtain ⟨g,hg⟩:∃ g,g=Nat.gcd x y:=⟨_,rfl⟩;have aZ:0<g:=by rw [hg];exact Nat.gcd_pos_of_pos_right _ hy0
 have aK:g≤y:=by rw [hg];exact Nat.gcd_le_right _ hy0
 have HC:=zjk x y w hx hy;rw [←hg] at HC ⊢;obtain ⟨X,hX⟩:∃ X,X=x / g:=⟨_,rfl⟩;obtain ⟨Y,hY⟩:∃ Y,Y=y / g:=⟨_,rfl⟩;obtain ⟨z,hz⟩:∃ z,z=sgn b x:=⟨_,rfl⟩;obtain ⟨z1,aC⟩:∃ z1,z1=sgn b X:=⟨_,rfl⟩;have bJ:X≤x:=by rw [hX];exact Nat.div_le_self _ _
 have bI:Y≤y:=by rw [hY];exact Nat.div_le_self _ _
 have bK:0<Y:=by rw [hY];exact Nat.div_pos aK aZ
 have bA:z=(x:Int)∨z = -(x:Int):=by rw [hz];unfold sgn;cases b<;>simp
 have aF:z1=(X:Int)∨z1 = -(X:Int):=by rw [aC];unfold sgn;cases b<;>simp
 have f1:Int.tdiv z (g:Int)=z1:=by
  have h9:Int.tdiv (x:Int) (g:Int)=(X:Int):=by rw [Int.tdiv_eq_ediv_of_nonneg (by omega),←Int.natCast_ediv,←hX]
  rw [hz,aC];unfold sgn
  cases b
  ·simp [h9]
  ·simp [Int.neg_tdiv,h9]
 have f2:Int.tdiv (y:Int) (g:Int)=(Y:Int):=by rw [Int.tdiv_eq_ediv_of_nonneg (by omega),←Int.natCast_ediv,←hY]
 have f3:IntKind.i64.wrap z1=z1:=IntWalk.i64_in _ (by omega);have f4:IntKind.i64.wrap (Y:Int)=(Y:Int):=IntWalk.i64_in _ (by omega);have f5:((g:Int)==0)=false:=by rw [beq_eq_false_iff_ne];omega
 rw [←hX,←hY];rw [←hz] at hzn;rw [←aC];have em:max z (-z)=(x:Int):=by omega
 have bC:max z1 (-z1)=(X:Int):=by omega
 have d1:decide (zn < -4000000000000000000)=false:=by simp<;>omega
 have d2:decide (4000000000000000000<zn)=false:=by simp<;>omega
 have d3:decide (yn < -4000000000000000000)=false:=by simp only [decide_eq_false_iff_not];omega
 have d4:decide ((4000000000000000000:Int)<yn)=false:=by simp only [decide_eq_false_iff_not];omega
 have d5:decide (yn<0)=true:=decide_eq_true (by omega);have f6:wrap64 (-zn)=z:=by rw [IntWalk.wrap64_in _ (by omega)];omega
 have f7:wrap64 (-yn)=(y:Int):=by rw [IntWalk.wrap64_in _ (by omega)];omega
 have f8:wrap64 (0 - zn)=z:=by rw [IntWalk.wrap64_in _ (by omega)];omega
 have f9:wrap64 (0 - yn)=(y:Int):=by rw [IntWalk.wrap64_in _ (by omega)];omega
 have bD : -4000000000000000000≤z:=by omega
 have aX:z≤4000000000000000000:=by omega
 have aJ : -4000000000000000000≤z1:=by omega
 have aL:z1≤4000000000000000000:=by omega
 have bM:X≤4000000000000000000:=by omega
 have bL:Y≤4000000000000000000:=by omega
 have bF:=Aa HC;clear HC hg hX hY hz aC bA aF aK hzn hyn;have aV:=Aa (fun W=>zbL X 1 W (by omega) (by omega));have bE:=Aa (fun W=>zbL Y 1 W (by omega) (by omega));have aQ:(Lib.decDigits X).length≤19:=Dec.dec_length_le (by omega) (by have e:(10:Nat) ^ 19=10000000000000000000:=(by decide);omega);have aO:(Lib.decDigits Y).length≤19:=Dec.dec_length_le (by omega) (by have e:(10:Nat) ^ 19=10000000000000000000:=(by decide);omega);have aY:=Aa aQ;have aW:=Aa aO;clear aQ aO;go_enter Tryz.func49,Tryz.ntmps49
 go_wp2_with fail
 refine bF.out.mono ?_;rintro e w1 ⟨rfl,aS⟩;clear em d1 d2 d3 d4 d5;go_upto_region 6 with (fail)
 go_quiet (fail)
 clear f1 f2 f3 f4 f6 f7 f8 f9;have aI:=zac aS;generalize aR:w1.drewN _=w2 at *;have aM:Below w.heap.size w w2:=by rw [←aR];exact aI _
 clear aI aR aS;have aN:∀ s:ByteArray,s.data.toList=Lib.decDigits X→s.size≤19:=fun s hs=>by
  have h9:s.data.toList.length=s.size:=Array.length_toList;rw [hs] at h9;have:=aY.out;omega
 have aP:∀ s:ByteArray,s.data.toList=Lib.decDigits Y→s.size≤19:=fun s hs=>by
  have h9:s.data.toList.length=s.size:=Array.length_toList;rw [hs] at h9;have:=aW.out;omega
 have aU:=Aa aN;have bB:=Aa aP;have bG:=Aa bC;clear aN aP
 by_cases hneg:z1<0
 case' pos=>have dn:decide (z1<0)=true:=by simpa using hneg
 case' neg=>have dn:decide (z1<0)=false:=by simpa using hneg
 case' pos=>obtain ⟨pr,aA⟩:∃ pr:List UInt8,pr=[45]:=⟨_,rfl⟩
 case' neg=>obtain ⟨pr,aA⟩:∃ pr:List UInt8,pr=[]:=⟨_,rfl⟩
 case' pos=>have aG:Hid (∀ l,sgnT (decide (z1<0)) l=[45]++l):=fun l=>by rw [dn];rfl
 case' neg=>have aG:Hid (∀ l,sgnT (decide (z1<0)) l=[]++l):=fun l=>by rw [dn];rfl
 all_goals
  go_wp2_with fail
  refine (aV.out w2).mono ?_;rintro e w3 ⟨⟨s,rfl,hs⟩,hw⟩;obtain rfl:w2=w3:=hw;rw [zeL] at hs;have bH:=aU.out s hs;have HS:=Aa hs;clear hs
  by_cases hY1:Y=1
  ·have dy:decide ((1:Int)<(Y:Int))=false:=by simp only [decide_eq_false_iff_not];omega
   have aH:=Aa hY1;clear hY1;have HR:Hid (∀ t:ByteArray,t.data.toList=pr++s.data.toList→t.data.toList=zaE ⟨decide (z1<0),X,Y⟩):=fun t ht=>by
    rw [zaV,if_pos aH.out,aG.out,List.append_nil,ht,aA,HS.out]
   have aE:=Aa aA;clear aA;go_wp2
   go_ret;exact ⟨⟨_,rfl,HR.out _ (by rw [aE.out];first | rfl | (rw [ByteArray.data_append,Array.toList_append];rfl))⟩,aM⟩
  ·have dy:decide ((1:Int)<(Y:Int))=true:=by simp only [decide_eq_true_eq];omega
   have aH:=Aa hY1;clear hY1;have aE:=Aa aA;clear aA
   go_wp2_with fail
   refine (bE.out w2).mono ?_;rintro e w3 ⟨⟨s2,rfl,aD⟩,hw⟩;obtain rfl:w2=w3:=hw;rw [zeL] at aD;have aT:=bB.out s2 aD;have HR:Hid (∀ t:ByteArray,t.data.toList=(pr++s.data.toList)++[47]++s2.data.toList→t.data.toList=zaE ⟨decide (z1<0),X,Y⟩):=fun t ht=>by
    rw [zaV,if_neg aH.out,aG.out,ht,aE.out,HS.out,aD,List.append_assoc];rfl
   clear aD;go_wp2
   go_ret;exact ⟨⟨_,rfl,HR.out _ (by rw [aE.out];simp only [ByteArray.data_append,Array.toList_append])⟩,aM⟩
def ofQ (a b:Int):Q:=lowQ (decide (a<0) != decide (b<0)) (a.natAbs*1) (1*b.natAbs)
theorem zmw (a:Int) {b:Int} (hb:0<b):ofQ a b=zbn a b.natAbs:=by
 unfold ofQ zbn;rw [decide_eq_false (show ¬ b<0 by omega),Nat.mul_one,Nat.one_mul,Bool.bne_false]
theorem zop (a:Int) {b:Int} (hb:b<0):ofQ a b=zbn (-a) b.natAbs:=by
 unfold ofQ zbn;rw [decide_eq_true hb,Nat.mul_one,Nat.one_mul,Int.natAbs_neg]
 rcases Int.lt_trichotomy a 0 with h | h | h
 ·rw [decide_eq_true h,decide_eq_false (show ¬ -a<0 by omega)];rfl
 ·subst h
  unfold lowQ;have aA:b.natAbs≠0:=by omega
  rw [if_neg aA,if_neg aA,if_pos (show (0:Int).natAbs=0 from rfl),if_pos (show (0:Int).natAbs=0 from rfl)]
 ·rw [decide_eq_false (show ¬ a<0 by omega),decide_eq_true (show -a<0 by omega)];rfl
theorem zoP (a b:Int) (w:World) (ha : -999999999≤a∧a≤999999999) (hb : -999999999≤b∧b≤999999999) (h0:b≠0):Calls Tryz.prog 49 #[.int .i64 a,.int .i64 b] w (RetS w (ofQ a b)):=by
 rcases Int.lt_trichotomy b 0 with h | h | h
 ·have h9:=zox a b (decide (-a<0)) (-a).natAbs b.natAbs w (by rw [zfN];omega) (by omega) (by omega) (by omega) (by omega)
  rw [zfN] at h9;rw [zop a h];exact h9.mono fun _ _ ⟨⟨s,e,hs⟩,hb⟩=>⟨⟨s,e,hs,zbH _ (by omega)⟩,hb⟩
 ·exact absurd h h0
 ·have h9:=ziI (decide (a<0)) a.natAbs b.natAbs w (by omega) (by omega) (by omega)
  rw [zfN,show ((b.natAbs:Nat):Int)=b by omega] at h9;rw [zmw a h];exact h9.mono fun _ _ ⟨⟨s,e,hs⟩,hb⟩=>⟨⟨s,e,hs,zbH _ (by omega)⟩,hb⟩
structure TabF (l:List (ByteArray × ByteArray)):Prop where
 e:tabE l=0
 len:l.length≤6
 few:∀ i (h:i<l.length),FewK 6 l[i].1∧FewK 6 l[i].2
theorem TabF.tab {l:List (ByteArray × ByteArray)} (h:TabF l):TabQ (l.map rdP):=(zpj h.e).2.2.1
theorem TabF.small {l:List (ByteArray × ByteArray)} (h:TabF l):∀ i (hi:i<(l.map rdP).length),Small (l.map rdP)[i].1 6∧Small (l.map rdP)[i].2 6:=fun i hi=>by
 have h1:i<l.length:=by simpa using hi
 rw [List.getElem_map];exact ⟨(h.few i h1).1.2.1,(h.few i h1).2.2.1⟩
theorem TabF.txt {l:List (ByteArray × ByteArray)} (h:TabF l) (i:Nat) (h1:i<l.length) (h2:i<(l.map rdP).length):l[i].1=txt (l.map rdP)[i].1∧l[i].2=txt (l.map rdP)[i].2:=by
 rw [List.getElem_map];exact ⟨zjD (h.few i h1).1.1,zjD (h.few i h1).2.1⟩
theorem TabF.size {l:List (ByteArray × ByteArray)} (h:TabF l):∀ p ∈ l,p.1.size≤4294967296∧p.2.size≤4294967296:=fun p hp=>by
 obtain ⟨i,hi,rfl⟩:=List.mem_iff_getElem.1 hp;have a:=(h.few i hi).1.2.2;have b:=(h.few i hi).2.2.2;omega
def zhf (A:Option Addr) (n c:Nat) (w:World) (s:ByteArray) (v:ByteArray) (E:Int):Prop:=∀ W,Tabs W→Below w.heap.size w W→Calls Tryz.prog 50 #[.slice A n c,.string s] W fun e w'=>e = .returned (.tuple #[.string v,.int .i64 E])∧Below W.heap.size W w'
section
variable {l:List (ByteArray × ByteArray)} {A:Option Addr} {n c:Nat} {w:World} (h:TabF l) (hp:PtsR w w.heap.size A n l)
include h hp
theorem zmR {x v:Q} (lx:LowQ x) (sx:Small x 30) (hv:zaU x none (l.map rdP)=some v) (lv:LowQ v) (sv:Small v 80):zhf A n c w (txt x) (txt v) 0:=fun W hT hb=>by
 have hz:=zbg lx sx (by omega);have g:=zh4 A n c l (txt x) W hT (hp.later hb) h.size (by omega);have hr:=zfq (zbA lx) sx (by omega) (by omega);have e1:blE l (txt x).data.toList=0:=by
  unfold blE zfC;rw [if_neg (show ¬ tabE l≠0 from fun k=>k h.e),hr.1,hr.2,if_neg (by simp),hv];exact (zdR sv (by omega) (by omega) lv.1).1
 have e2:blT l (txt x).data.toList=zaE v:=by
  unfold blT zfC;rw [if_neg (show ¬ tabE l≠0 from fun k=>k h.e),hr.1,hr.2,if_neg (by simp),hv];exact (zdR sv (by omega) (by omega) lv.1).2
 rw [e1,e2] at g;exact g.mono fun _ _ ⟨s,he,hs,hb⟩=>⟨by rw [he,zeZ ⟨hs,lv⟩],hb⟩
end
theorem ziK (A:Option Addr) (n c:Nat) (l:List (ByteArray × ByteArray)) (w:World) (h:PtsR w w.heap.size A n l) (hsz:∀ p ∈ l,p.1.size≤9223372036854775807∧p.2.size≤9223372036854775807) :
  Calls Tryz.prog 46 #[.slice A n c] w fun e w'=>e = .returned (.int .i64 (tabE l))∧Below w.heap.size w w':=by
 have hl:l.length=n:=h.1;unfold tabE
 by_cases h1:n<1
 ·rw [if_pos (by omega)]
  exact zer A n c w 12 (.inl ⟨h1,rfl⟩)
 ·rw [if_neg (by omega)]
  by_cases h2:64<n
  ·rw [if_pos (by omega)]
   exact zer A n c w 5 (.inr ⟨h2,rfl⟩)
  ·rw [if_neg (by omega)]
   exact zh0 A n c l w h hsz (by omega) (by omega)
end
section
open Go.RowKit Bn
theorem zoc (w:World) (hT:Tabs w):Calls Tryz.prog 36 #[.string ⟨#[49,47,52]⟩] w fun e w'=>e = .returned (.tuple #[.float .f32 1048576000,.int .i64 0])∧Below w.heap.size w w':=by
 have h:=zhR ⟨#[49,47,52]⟩ w hT (by decide);rw [show zam ((⟨#[49,47,52]⟩:ByteArray).data.toList)=0 from by kernel_rfl,if_neg (by omega),if_neg (by omega),show flW (zak ((⟨#[49,47,52]⟩:ByteArray).data.toList))=1048576000 from by decide +kernel,show flX (zak ((⟨#[49,47,52]⟩:ByteArray).data.toList))=0 from by decide +kernel] at h;exact h
theorem zkM (s:ByteArray) (w:World):Calls Tryz.prog 71 #[.string s] w fun e w'=>e = .returned (.agg #[.string s,.string s])∧Below w.heap.size w w':=by
 have hb:Below w.heap.size w (w.alloc (.cells #[.string ⟨#[]⟩,.string ⟨#[]⟩] 24)):=Ac;have q:CBlk (w.alloc (.cells #[.string ⟨#[]⟩,.string ⟨#[]⟩] 24)) w.heap.size #[.string ⟨#[]⟩,.string ⟨#[]⟩] 24:=CBlk.new _ _ _ _ rfl;have y0:=q.cell 0;have y1:=q.cell 1;have f0:=q.frozen 0;have f1:=q.frozen 1;have aA:=zcK hb (g:=w.heap.size) (Nat.le_refl _) (.string s) (.string s);go_enter Tryz.func71,Tryz.ntmps71
 go_upto_region 1 with (fail)
 generalize w.alloc (.cells #[.string ⟨#[]⟩,.string ⟨#[]⟩] 24)=W at *;go_wp2
 refine bodyPost_ret (v := .agg #[.string s,.string s]) (by simp [results,Tryz.results71,go_sem,y0,y1]) rfl ⟨rfl,aA⟩
theorem ziE (w:World) (hT:Tabs w):Calls Tryz.prog 47 #[] w fun e w'=>e = .returned (.bool true)∧Below w.heap.size w w':=by
 have H1:=Aa (fun W hT=>zio #[49,47,50] #[49,47,50] (zpn W hT) rfl rfl);have H2:=Aa (fun W hT=>zio #[56,48,57,47,49,48,48,48] #[56,49,47,49,48,48] (zoC W hT) rfl rfl);have H3:=Aa zoI;have H4:=Aa zlt;have H5:=Aa zoc;have H6:=Aa (zkM ⟨#[49,47,50]⟩);go_enter Tryz.func47,Tryz.ntmps47
 go_wp2_with fail
 refine (H1.out w hT).mono ?_;rintro e w2 ⟨rfl,aP⟩;have aA:Below w2.heap.size w2 (w2.alloc (.cells #[.string ⟨#[49,47,50]⟩,.string ⟨#[49,47,50]⟩] 24)):=Ac;have aF:=Ad aP aA;have q1:CBlk (w2.alloc (.cells #[.string ⟨#[49,47,50]⟩,.string ⟨#[49,47,50]⟩] 24)) w2.heap.size #[.string ⟨#[49,47,50]⟩,.string ⟨#[49,47,50]⟩] 24:=CBlk.new _ _ _ _ rfl;go_upto_region 2 with (fail)
 generalize w2.alloc (.cells #[.string ⟨#[49,47,50]⟩,.string ⟨#[49,47,50]⟩] 24)=w3 at *;generalize w2.heap.size=g1 at *;clear aP aA
 go_wp2_with fail
 refine (H2.out w3 (hT.later aF)).mono ?_;rintro e w4 ⟨rfl,aQ⟩;have aA:Below w4.heap.size w4 (w4.alloc (.cells #[.string ⟨#[56,48,57,47,49,48,48,48]⟩,.string ⟨#[56,49,47,49,48,48]⟩] 24)):=Ac;have aO:=Ad aF aQ;have aK:=Ad aO aA;have aM:=(q1.below aQ q1.lt).alloc (.cells #[.string ⟨#[56,48,57,47,49,48,48,48]⟩,.string ⟨#[56,49,47,49,48,48]⟩] 24);have q3:CBlk (w4.alloc (.cells #[.string ⟨#[56,48,57,47,49,48,48,48]⟩,.string ⟨#[56,49,47,49,48,48]⟩] 24)) w4.heap.size #[.string ⟨#[56,48,57,47,49,48,48,48]⟩,.string ⟨#[56,49,47,49,48,48]⟩] 24:=CBlk.new _ _ _ _ rfl;go_upto_region 3 with (fail)
 generalize w4.alloc (.cells #[.string ⟨#[56,48,57,47,49,48,48,48]⟩,.string ⟨#[56,49,47,49,48,48]⟩] 24)=w5 at *;generalize w4.heap.size=g3 at *;clear aQ aA aO aF q1
 go_wp2_with fail
 refine (H3.out w5 (hT.later aK)).mono ?_;rintro e w6 ⟨rfl,aG⟩;have aD:=Ad aK aG;have aL:=aM.below aG aM.lt;have aN:=q3.below aG q3.lt
 go_wp2_with fail
 refine (H4.out w6 (hT.later aD)).mono ?_;rintro e w7 ⟨rfl,aH⟩;have aE:=Ad aD aH;have aT:=aL.below aH aL.lt;have aR:=aN.below aH aN.lt
 go_wp2_with fail
 refine (H5.out w7 (hT.later aE)).mono ?_;rintro e w8 ⟨rfl,aI⟩;have aW:=Ad aE aI;have aC:=aT.below aI aT.lt;have aJ:=aR.below aI aR.lt;clear aM q3 aL aN aT aR aG aH aI aK aD aE H1 H2 H3 H4 H5;go_upto_region 6 with (fail)
 have aX:w8.drew.cell? ⟨g1,0,none⟩=some (.string ⟨#[49,47,50]⟩):=aC.cell 0;have aZ:w8.drew.cell? ⟨g1,1,none⟩=some (.string ⟨#[49,47,50]⟩):=aC.cell 1;have bB:w8.drew.cell? ⟨g3,0,none⟩=some (.string ⟨#[56,48,57,47,49,48,48,48]⟩):=aJ.cell 0;have aY:w8.drew.cell? ⟨g3,1,none⟩=some (.string ⟨#[56,49,47,49,48,48]⟩):=aJ.cell 1
 go_region_held3 (fun w'=>w'.cell? ⟨g1,0,none⟩=some (.string ⟨#[49,47,50]⟩)∧w'.cell? ⟨g1,1,none⟩=some (.string ⟨#[49,47,50]⟩)∧w'.cell? ⟨g3,0,none⟩=some (.string ⟨#[56,48,57,47,49,48,48,48]⟩)∧w'.cell? ⟨g3,1,none⟩=some (.string ⟨#[56,49,47,49,48,48]⟩))
  (first | with_reducible exact ⟨aX,aZ,bB,aY⟩ | with_reducible exact ⟨bF,bC,bA,bE⟩)
  (first | (go_at_call 71;refine (H6.out _).mono ?_;rintro e w9 ⟨rfl,aS⟩;have aU:=aC.drew.below aS aC.lt;have aV:=aJ.drew.below aS aJ.lt;have bF:w9.cell? ⟨g1,0,none⟩=some (.string ⟨#[49,47,50]⟩):=aU.cell 0;have bC:w9.cell? ⟨g1,1,none⟩=some (.string ⟨#[49,47,50]⟩):=aU.cell 1;have bA:w9.cell? ⟨g3,0,none⟩=some (.string ⟨#[56,48,57,47,49,48,48,48]⟩):=aV.cell 0;have bE:w9.cell? ⟨g3,1,none⟩=some (.string ⟨#[56,49,47,49,48,48]⟩):=aV.cell 1))
 have bD:=aW.drew.trans (aS.mono aW.drew.size)
 go_wp2_with fail
 go_ret;exact ⟨rfl,bD⟩
end
section
open Go.RowKit Bn Dn
def zfp:Prop:=∀ W,Tabs W→Calls Tryz.prog 47 #[] W fun e w'=>e = .returned (.bool true)∧Below W.heap.size W w'
def insL (l:List (ByteArray × ByteArray)) (c:Nat→Bool) (pt:ByteArray × ByteArray):Nat→List (ByteArray × ByteArray)
 | 0=>[]
 | k+1=>(if c k then insL l c pt k++[pt] else insL l c pt k)++[l.getD k pt]
theorem zhu {l:List (ByteArray × ByteArray)} {c:Nat→Bool} {pt:ByteArray × ByteArray} (h:∀ k,k<l.length→c k=false):∀ k,k≤l.length→insL l c pt k=l.take k
 | 0,_=>rfl
 | k+1,hk=>by
  unfold insL;rw [h k (by omega),zhu h k (by omega),List.take_succ_eq_append_getElem (by omega),List.getD,List.getElem?_eq_getElem (by omega)];rfl
theorem zgb {l:List (ByteArray × ByteArray)} {c:Nat→Bool} {pt:ByteArray × ByteArray} {i:Nat} (h:∀ k,k<l.length→c k=decide (k=i+1)):∀ k,k≤i+1→k≤l.length→insL l c pt k=l.take k
 | 0,_,_=>rfl
 | k+1,hi,hk=>by
  unfold insL;rw [h k (by omega),decide_eq_false (by omega),zgb h k (by omega) (by omega),List.take_succ_eq_append_getElem (by omega),List.getD,List.getElem?_eq_getElem (by omega)];rfl
theorem zgq {l:List (ByteArray × ByteArray)} {c:Nat→Bool} {pt:ByteArray × ByteArray} {i:Nat} (hi:i+1<l.length) (h:∀ k,k<l.length→c k=decide (k=i+1)):∀ m,i+1+m+1≤l.length→insL l c pt (i+1+m+1)=l.take (i+1)++pt :: (l.drop (i+1)).take (m+1)
 | 0,hm=>by
  show insL l c pt (i+1+1)=_
  unfold insL;rw [h (i+1) (by omega),decide_eq_true rfl,if_pos rfl,zgb h (i+1) (by omega) (by omega),List.getD,List.getElem?_eq_getElem (by omega),List.append_assoc,List.drop_eq_getElem_cons (by omega)];rfl
 | m+1,hm=>by
  have ih:=zgq (pt:=pt) hi h m (by omega);have e:insL l c pt (i+1+(m+1)+1)=(if c (i+1+(m+1)) then insL l c pt (i+1+(m+1))++[pt] else insL l c pt (i+1+(m+1)))++[l.getD (i+1+(m+1)) pt]:=rfl
  rw [e,h _ (by omega),decide_eq_false (by omega),show i+1+(m+1)=i+1+m+1 by omega,ih,List.getD,List.getElem?_eq_getElem (by omega)];have e2:(l.drop (i+1)).take (m+1+1)=(l.drop (i+1)).take (m+1)++[l[i+1+m+1]]:=by
   rw [List.take_succ_eq_append_getElem (by rw [List.length_drop];omega),List.getElem_drop]
   congr 1
  rw [e2];simp
theorem zlC {ks:List (Q × Q)} {c:Nat→Bool} {p:Q × Q} {i:Nat} (hi:i+1<ks.length) (h:∀ k,k<ks.length→c k=decide (k=i+1)):insL (ks.map ptT) c (ptT p) ks.length=(zel ks i p).map ptT:=by
 have hl:(ks.map ptT).length=ks.length:=by simp
 obtain ⟨m,hm⟩:∃ m,ks.length=i+1+m+1:=⟨ks.length - (i+1) - 1,by omega⟩;have e:=zgq (l:=ks.map ptT) (pt:=ptT p) (by omega) (fun k hk=>h k (by omega)) m (by omega);have e3:((ks.map ptT).drop (i+1)).take (m+1)=(ks.map ptT).drop (i+1):=List.take_of_length_le (by rw [List.length_drop];omega);rw [hm,e,e3];unfold zel;rw [List.map_append,List.map_cons,List.map_take,List.map_drop]
def zcp (ks:List (Q × Q)) (c:Q) (k:Nat):List (ByteArray × ByteArray):=((zbE c ks).take k).map ptT
def zeb (ks:List (Q × Q)) (k:Nat):List (ByteArray × ByteArray):=(zdz (ks.take k)).map ptT
theorem ziH {ks:List (Q × Q)} {c:Q} {k:Nat} (h:k<ks.length):zcp ks c (k+1)=zcp ks c k++[(txt ks[k].1,txt (mulQ c ks[k].2))]:=by
 unfold zcp zbE;rw [List.take_succ_eq_append_getElem (by simpa using h),List.map_append,List.getElem_map];rfl
theorem zkj {ks:List (Q × Q)} {k:Nat} (h:k<ks.length):zeb ks (k+1)=(txt (negQ ks[k].1),txt ks[k].2) :: zeb ks k:=by
 unfold zeb zdz;rw [List.take_succ_eq_append_getElem h,List.map_append,List.reverse_append];rfl
theorem zlQ (ks:List (Q × Q)):zeb ks ks.length=(zdz ks).map ptT:=by unfold zeb;rw [List.take_length]
theorem zkm (ks:List (Q × Q)) (c:Q):zcp ks c ks.length=(zbE c ks).map ptT:=by unfold zcp;rw [List.take_of_length_le (by simp [zbE])]
theorem zkt (A:Option Addr) (n c:Nat) (a0 a1:Int) (w:World) (KV:zfp) (hT:Tabs w) (hn:n<2∨5<n) :
  Calls Tryz.prog 6 #[.slice A n c,.agg #[.int .u8 a0,.int .u8 a1]] w fun e w'=>e = .returned (.bool true)∧Below w.heap.size w w':=by
 have HK:=Aa KV;have aC:Below w.heap.size w (w.alloc (.cells #[.int .u8 a0,.int .u8 a1] 67)):=Ac;have aA:decide ((n:Int)<2)=true∨(decide ((n:Int)<2)=false∧decide ((5:Int)<(n:Int))=true):=by
  rcases hn with h | h
  ·exact .inl (decide_eq_true (by omega))
  ·exact .inr ⟨decide_eq_false (by omega),decide_eq_true (by omega)⟩
 clear KV hn
 rcases aA with d1 | ⟨d1,d2⟩
 all_goals
  go_enter Tryz.func6,Tryz.ntmps6
  go_wp2_with fail
  refine (HK.out _ (hT.later aC)).mono ?_;rintro e w3 ⟨rfl,aD⟩;go_wp2
  go_ret;exact ⟨rfl,bvia aC aD⟩
theorem zkK (A:Option Addr) (n c:Nat) (a0 a1 E:Int) (w:World) (KV:zfp) (hT:Tabs w) (hn:2≤n∧n≤5) (hE:E≠0) (hC:∀ W,Below w.heap.size w W→Calls Tryz.prog 46 #[.slice A n c] W fun e w'=>e = .returned (.int .i64 E)∧Below W.heap.size W w') :
  Calls Tryz.prog 6 #[.slice A n c,.agg #[.int .u8 a0,.int .u8 a1]] w fun e w'=>e = .returned (.bool true)∧Below w.heap.size w w':=by
 have HK:=Aa KV;have HC:=Aa hC;have aC:Below w.heap.size w (w.alloc (.cells #[.int .u8 a0,.int .u8 a1] 67)):=Ac;have d1:decide ((n:Int)<2)=false:=decide_eq_false (by omega);have d2:decide ((5:Int)<(n:Int))=false:=decide_eq_false (by omega);have d3:(E != 0)=true:=by simpa using hE
 clear KV hn hC hE;go_enter Tryz.func6,Tryz.ntmps6
 go_wp2_with fail
 generalize w.alloc (.cells #[.int .u8 a0,.int .u8 a1] 67)=w1 at *;refine (HC.out w1 aC).mono ?_;rintro e w2 ⟨rfl,aE⟩;have aA:=bvia aC aE
 go_wp2_with fail
 refine (HK.out w2 (hT.later aA)).mono ?_;rintro e w3 ⟨rfl,aD⟩;go_wp2
 go_ret;exact ⟨rfl,bvia aA aD⟩
theorem zkP (p q:Q):mulQ p q=mulQ q p:=by unfold mulQ;rw [Int.mul_comm,Nat.mul_comm]
def m3:Q:=⟨true,3,1⟩
theorem zew:NumQ ⟨#[45,51]⟩ m3:=⟨by decide +kernel,by decide,by decide,by decide⟩
theorem zfo:Small m3 1:=⟨by decide,by decide⟩
structure TabHead (A:Option Addr) (n c:Nat) (w:World) (a0 a1:Int) (X0 XL sl f0 f1 m0 m1 x y v u:ByteArray):Prop where
 g1:zbC 41 #[.string XL,.string X0] (.string sl)
 o0:zbC 49 #[.int .i64 a0,.int .i64 255] (.string f0)
 o1:zbC 49 #[.int .i64 a1,.int .i64 255] (.string f1)
 p0:zbC 48 #[.string sl,.string f0] (.string m0)
 p1:zbC 48 #[.string sl,.string f1] (.string m1)
 d0:zbC 45 #[.string X0,.string m0] (.string x)
 d1:zbC 45 #[.string X0,.string m1] (.string y)
 b0:zhf A n c w x v 0
 b1:zhf A n c w y u 0
 c0:zbC 10 #[.string v] (.int .i64 0)
 c1:zbC 10 #[.string u] (.int .i64 0)
structure TabNum (ks:List (Q × Q)) (x y v u:Q):Prop where
 lx:LowQ x
 ly:LowQ y
 sx:Small x 30
 sy:Small y 30
 lv:LowQ v
 lu:LowQ u
 sv:Small v 80
 su:Small u 80
 ev:zaU x none ks=some v
 eu:zaU y none ks=some u
 bx:∃ i,Between ks x i
 yb:∃ j,Between ks y j
theorem zl5 {l:List (ByteArray × ByteArray)} (F:TabF l) (h2:2≤l.length) {A:Option Addr} {n c:Nat} {w:World} (hp:PtsR w w.heap.size A n l) (a:Int) (ha:0≤a∧a≤255) (X0 XL:Q) (hX0:X0=((l.map rdP)[0]'(by simp;omega)).1) (hXL:XL=((l.map rdP)[l.length - 1]'(by simp;omega)).1) :
  ∃ f m x v:Q,zbC 49 #[.int .i64 a,.int .i64 255] (.string (txt f))∧zbC 48 #[.string (txt (subQ XL X0)),.string (txt f)] (.string (txt m))∧zbC 45 #[.string (txt X0),.string (txt m)] (.string (txt x))∧zhf A n c w (txt x) (txt v) 0∧zbC 10 #[.string (txt v)] (.int .i64 0)∧LowQ x∧Small x 30∧LowQ v∧Small v 80∧zaU x none (l.map rdP)=some v∧∃ i,Between (l.map rdP) x i:=by
 have hl:(l.map rdP).length=l.length:=by simp
 have T:=F.tab;have S:=F.small;have k0:0<(l.map rdP).length:=by omega
 have kL:l.length - 1<(l.map rdP).length:=by omega
 have la:=T.low1 0 k0;have lc:=T.low1 _ kL;have sa:=(S 0 k0).1;have sc:=(S _ kL).1;have aA:=T.inc 0 (l.length - 1) k0 kL (by omega);have aE:((a.toNat:Nat):Int)=a:=Int.toNat_of_nonneg ha.1;have vt:Val (zbn a 255) ((a.toNat:Nat):Int) 255:=by rw [aE];exact Val.frac (by omega)
 have lt:LowQ (zbn a 255):=zbH _ (by omega);have st:Small (zbn a 255) 3:=zeR (by omega) (by omega) (by omega);rw [←hX0] at la sa aA;rw [←hXL] at lc sc aA;obtain ⟨P,R,X,E,hm⟩:=zjG la.1 lc.1 (Int.le_of_lt aA) (A:=a.toNat) (by omega) vt;have l1:=zfr XL X0 lc.1 la.1;have s1:=zdE sc sa lc.1 la.1;have l2:=zbK _ _ l1.1 lt.1;have s2:=zdB s1 st l1.1 lt.1;have ex:ziD X0 XL (zbn a 255)=addQ X0 (mulQ (subQ XL X0) (zbn a 255)):=by unfold ziD;rw [zkP]
 rw [ex] at hm;have l3:LowQ (addQ X0 (mulQ (subQ XL X0) (zbn a 255))):=zbH _ (Nat.mul_pos la.1 l2.1);have s3:Small (addQ X0 (mulQ (subQ XL X0) (zbn a 255))) 30:=(zfw sa s2 la.1 l2.1).more (by omega);have aC:=(zdu hm.v1 hm.vx).2 hm.le1;have aF:=(zdu hm.vx hm.v2).2 hm.le2;have aD:=zjd T l3 (by omega) (by rw [←hX0];exact aC) (l.length - 2) (by omega) (by
  have e:∀ j (hj:j<(l.map rdP).length),j=l.length - 1→cmpI (addQ X0 (mulQ (subQ XL X0) (zbn a 255))) (l.map rdP)[j].1≤0:=by
   intro j hj e;subst e;rw [←hXL];exact aF
  exact e _ _ (by omega))
 obtain ⟨i,hi,b1,b2⟩:=aD;obtain ⟨v,hv,lv,sv,_⟩:=zk4 T S l3 s3 hi b1 b2;refine ⟨_,_,_,v,fun W => ?_,tMul l1 lt s1 (st.more (show 3≤6+6+1 by omega)) (by omega) (by omega),tAdd la l2 (sa.more (show 6≤6+6+1+3 by omega)) s2 (by omega) (by omega),zmR F hp l3 s3 hv lv sv,zo8 lv sv (by omega) (by omega),l3,s3,lv,sv,hv,i,hi,b1,b2⟩;have g:=zoP a 255 W (by omega) (by omega) (by omega);rw [zmw a (by omega)] at g;exact ze4 g
theorem znB {l:List (ByteArray × ByteArray)} (F:TabF l) (h2:2≤l.length) {A:Option Addr} {n c:Nat} {w:World} (hp:PtsR w w.heap.size A n l) (a0 a1:Int) (ha:0≤a0∧a0≤255) (hb:0≤a1∧a1≤255) :
  ∃ sl f0 f1 m0 m1,∃ x y v u:Q,TabHead A n c w a0 a1 (l[0]'(by omega)).1 (l[l.length - 1]'(by omega)).1 sl f0 f1 m0 m1 (txt x) (txt y) (txt v) (txt u)∧TabNum (l.map rdP) x y v u:=by
 have hl:(l.map rdP).length=l.length:=by simp
 have k0:0<(l.map rdP).length:=by omega
 have kL:l.length - 1<(l.map rdP).length:=by omega
 obtain ⟨t0,_⟩:=F.txt 0 (by omega) k0;obtain ⟨tL,_⟩:=F.txt (l.length - 1) (by omega) kL;rw [t0,tL];obtain ⟨f0,m0,x,v,q1,q2,q3,q4,q5,q6,q7,q8,q9,aC,aA⟩:=zl5 F h2 hp a0 ha _ _ rfl rfl;obtain ⟨f1,m1,y,u,r1,r2,r3,r4,r5,r6,r7,r8,r9,aD,aE⟩:=zl5 F h2 hp a1 hb _ _ rfl rfl;have la:=F.tab.low1 0 k0;have lc:=F.tab.low1 _ kL;exact ⟨_,_,_,_,_,x,y,v,u,⟨tSub lc la (F.small _ kL).1 (F.small 0 k0).1 (by omega) (by omega),q1,r1,q2,r2,q3,r3,q4,r4,q5,r5⟩,⟨q6,r6,q7,r7,q8,r8,q9,r9,aC,aD,aA,aE⟩⟩
end
end Go.Proofs.YtbkgkoenppkhpaaGreatDoor
