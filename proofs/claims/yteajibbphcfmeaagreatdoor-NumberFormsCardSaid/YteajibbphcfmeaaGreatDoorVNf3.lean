/- NumberForms: plain facts; the law for every input. -/
import Derived.Test.YteajibbphcfmeaaGreatDoorVNf1
import Derived.Test.YteajibbphcfmeaaGreatDoorVCdm2
import Derived.Test.YteajibbphcfmeaaGreatDoorVAwk
import Derived.Test.YteajibbphcfmeaaGreatDoorVDra
import Derived.Test.YteajibbphcfmeaaGreatDoorVRat2
import Derived.Test.YteajibbphcfmeaaGreatDoorVSp2
namespace Go.Proofs.YteajibbphcfmeaaGreatDoor
open Go.RowKit Bn Dn
theorem zfX {q:Q} (h:LowQ q):zaY q=intQ (zbI q):=by
 obtain ⟨n,t,b⟩:=q
 obtain ⟨h1,h2,h3⟩:=h
 unfold zaY zbI zce intQ
 dsimp only at *
 cases n
 ·rw [if_neg (by simp),if_neg (by simp)]
  unfold sgn
  generalize t / b=x at *
  simp only [Bool.false_eq_true,if_false]
  rw [decide_eq_false (by omega)]
  congr 1
 ·have ht:0<t:=h3 rfl
  by_cases hm:t % b=0
  ·rw [if_neg (by simp [hm]),if_neg (by simp [hm])]
   have hq:0<t / b:=Nat.div_pos (Nat.le_of_dvd ht (Nat.dvd_of_mod_eq_zero hm)) h1
   unfold sgn
   generalize t / b=x at *
   simp only [if_true]
   rw [decide_eq_true (by omega)]
   congr 1
   omega
  ·rw [if_pos ⟨rfl,hm⟩,if_pos ⟨rfl,by omega⟩]
   generalize t / b=x at *
   rw [decide_eq_true (by omega)]
   congr 1
   omega
theorem zeS {q:Q} {N:Nat} (h:Small q N):Small (intQ (zbI q)) (N+1):=by
 have h1:=zfY q.neg q.top q.bot
 refine ⟨?_,Nat.one_lt_pow (by omega) (by omega)⟩
 show (zbI q).natAbs<_
 have h2:10 ^ (N+1)=10 ^ N*10:=Nat.pow_succ ..
 have h3:=h.1
 unfold zbI
 omega
def ofQ (a b:Int):Q:=lowQ (decide (a<0) != decide (b<0)) (a.natAbs*1) (1*b.natAbs)
theorem ziz (a:Int):zao (ofQ a 0)=6∧za0 (ofQ a 0)=[]:=by
 have:zao (ofQ a 0)=6:=by unfold ofQ lowQ zao;rfl
 refine ⟨this,?_⟩
 unfold za0
 rw [this]
 rfl
theorem zh7 (a:Int) {b:Int} (hb:0<b):ofQ a b=zd2 a b.natAbs:=by
 unfold ofQ zd2
 rw [decide_eq_false (show ¬ b<0 by omega),Nat.mul_one,Nat.one_mul,Bool.bne_false]
theorem zhQ (a:Int) {b:Int} (hb:b<0):ofQ a b=zd2 (-a) b.natAbs:=by
 unfold ofQ zd2
 rw [decide_eq_true hb,Nat.mul_one,Nat.one_mul,Int.natAbs_neg]
 rcases Int.lt_trichotomy a 0 with h | h | h
 ·rw [decide_eq_true h,decide_eq_false (show ¬ -a<0 by omega)];rfl
 ·subst h
  unfold lowQ
  have aA:b.natAbs≠0:=by omega
  rw [if_neg aA,if_neg aA,if_pos (show (0:Int).natAbs=0 from rfl),if_pos (show (0:Int).natAbs=0 from rfl)]
 ·rw [decide_eq_false (show ¬ a<0 by omega),decide_eq_true (show -a<0 by omega)];rfl
theorem zmU (a b:Int) (w:World) (ha : -999999999≤a∧a≤999999999) (hb : -999999999≤b∧b≤999999999) (h0:b≠0):Calls Tryz.prog 29 #[.int .i64 a,.int .i64 b] w (RetS w (ofQ a b)):=by
 rcases Int.lt_trichotomy b 0 with h | h | h
 ·have h9:=zm9 a b (decide (-a<0)) (-a).natAbs b.natAbs w (by rw [zj0];omega) (by omega) (by omega) (by omega) (by omega)
  rw [zj0] at h9
  rw [zhQ a h]
  exact h9.mono fun _ _ ⟨⟨s,e,hs⟩,hb⟩=>⟨⟨s,e,hs,zg6 _ (by omega)⟩,hb⟩
 ·exact absurd h h0
 ·have h9:=znK (decide (a<0)) a.natAbs b.natAbs w (by omega) (by omega) (by omega)
  rw [zj0,show ((b.natAbs:Nat):Int)=b by omega] at h9
  rw [zh7 a h]
  exact h9.mono fun _ _ ⟨⟨s,e,hs⟩,hb⟩=>⟨⟨s,e,hs,zg6 _ (by omega)⟩,hb⟩
set_option maxHeartbeats 8000000 in
set_option maxRecDepth 100000 in
theorem zhp (s a:ByteArray) (n0 n1:Int) (w:World) (KV:zfS) (hT:Tabs w) (hg:((1300:Int)<(s.size:Int))∨((1300:Int)<(a.size:Int))∨(n0 < -999999999)∨(999999999<n0)∨(n1 < -999999999)∨(999999999<n1)) :
  Calls Tryz.prog 4 #[.string s,.agg #[.int .i64 n0,.int .i64 n1],.string a] w fun e w'=>e = .returned (.bool true)∧Below w.heap.size w w':=by
 have HK:=Lib.hid KV
 clear KV
 have aC:Below w.heap.size w (w.alloc (.cells #[.int .i64 n0,.int .i64 n1] 38)):=(Below.refl _ _).alloc (Nat.le_refl _) _
 have q1:CBlk (w.alloc (.cells #[.int .i64 n0,.int .i64 n1] 38)) w.heap.size #[.int .i64 n0,.int .i64 n1] 38:=CBlk.new _ _ _ _ rfl
 have aA:(decide ((1300:Int)<(s.size:Int))=true)∨(decide ((1300:Int)<(s.size:Int))=false∧decide ((1300:Int)<(a.size:Int))=true)∨(decide ((1300:Int)<(s.size:Int))=false∧decide ((1300:Int)<(a.size:Int))=false∧decide (n0 < -999999999)=true)∨(decide ((1300:Int)<(s.size:Int))=false∧decide ((1300:Int)<(a.size:Int))=false∧decide (n0 < -999999999)=false∧decide (999999999<n0)=true)
   ∨ (decide ((1300:Int)<(s.size:Int))=false∧decide ((1300:Int)<(a.size:Int))=false∧decide (n0 < -999999999)=false∧decide (999999999<n0)=false∧decide (n1 < -999999999)=true)∨(decide ((1300:Int)<(s.size:Int))=false∧decide ((1300:Int)<(a.size:Int))=false∧decide (n0 < -999999999)=false∧decide (999999999<n0)=false∧decide (n1 < -999999999)=false∧decide (999999999<n1)=true):=by
  simp only [decide_eq_true_eq,decide_eq_false_iff_not]
  omega
 clear hg
 rcases aA with d1 | ⟨d1,d2⟩ | ⟨d1,d2,d3⟩ | ⟨d1,d2,d3,d4⟩ | ⟨d1,d2,d3,d4,d5⟩ | ⟨d1,d2,d3,d4,d5,d6⟩
 all_goals
  go_enter Tryz.func4,Tryz.ntmps4
  go_wp2_with fail
  generalize (w.alloc (.cells #[.int .i64 n0,.int .i64 n1] 38))=w1 at *
  refine (HK.out w1 (hT.later aC)).mono ?_
  rintro e w2 ⟨rfl,aD⟩
  have aE:=aC.trans (aD.mono aC.size)
  have q2:=q1.below aD q1.lt
  have x0:w2.cell? ⟨w.heap.size,0,none⟩=some (.int .i64 n0):=q2.cell 0
  have x1:w2.cell? ⟨w.heap.size,1,none⟩=some (.int .i64 n1):=q2.cell 1
  clear q1 aD aC
  go_wp2_with fail
  refine (HK.out w2 (hT.later aE)).mono ?_
  rintro e w3 ⟨rfl,aF⟩
  go_wp2
  go_ret
  exact ⟨rfl,aE.trans (aF.mono aE.size)⟩
set_option maxHeartbeats 8000000 in
set_option maxRecDepth 100000 in
theorem zlU (s a:ByteArray) (n0 n1:Int) (w:World) (KV:zfS) (hT:Tabs w) (hs:s.size≤1300) (ha:a.size≤1300) (h0 : -999999999≤n0∧n0≤999999999) (h1 : -999999999≤n1∧n1≤999999999) (hz:n1=0) (hx:zam a.data.toList≠0) :
  Calls Tryz.prog 4 #[.string s,.agg #[.int .i64 n0,.int .i64 n1],.string a] w fun e w'=>e = .returned (.bool true)∧Below w.heap.size w w':=by
 have HK:=Lib.hid KV
 have d1:decide ((1300:Int)<(s.size:Int))=false:=decide_eq_false (by omega)
 have d2:decide ((1300:Int)<(a.size:Int))=false:=decide_eq_false (by omega)
 have d3:decide (n0 < -999999999)=false:=decide_eq_false (by omega)
 have d4:decide (999999999<n0)=false:=decide_eq_false (by omega)
 have d5:decide (n1 < -999999999)=false:=decide_eq_false (by omega)
 have d6:decide (999999999<n1)=false:=decide_eq_false (by omega)
 have d7:(n1==0)=true:=by simpa using hz
 have aS:Hid (∀ W,Tabs W→Calls Tryz.prog 25 #[.int .i64 n0,.int .i64 n1] W fun e w'=>e = .returned (.tuple #[.string ⟨#[]⟩,.int .i64 6])∧Below W.heap.size W w'):=fun W hT=>by
  have h:=zhb n0 n1 W hT (by omega) (by omega)
  have e:=ziz n0
  subst hz
  unfold ofQ at e
  rw [e.1,e.2] at h
  exact zdb #[] h rfl
 have aN:=Lib.hid (fun W=>zgs ⟨#[]⟩ 6 W (by omega))
 have aP:Hid (∀ W,Tabs W→Calls Tryz.prog 26 #[.string a] W fun e w'=>e = .returned (.tuple #[.string ⟨#[]⟩,.int .i64 (zam a.data.toList)])∧Below W.heap.size W w'):=fun W hT=>zdb #[] (zg1 a W hT (by omega) hx) rfl
 have aR:=Lib.hid (fun W=>zgs ⟨#[]⟩ (zam a.data.toList) W hx)
 have aO:Hid (∀ W,Calls Tryz.prog 10 #[.string a] W fun e w'=>e = .returned (.int .i64 (zam a.data.toList))∧Below W.heap.size W w'):=fun W=>zdq a W (by omega)
 have d8:(zam a.data.toList != 0)=true:=by simpa using hx
 generalize zam a.data.toList=E at *
 have aQ:=Lib.hid (fun W=>zdu s W)
 have aL:=Lib.hid (fun W=>zcU s W (by omega))
 generalize zc7 s.data.toList=bn at *
 have aU:(bn==bn)=true:=by cases bn<;>rfl
 have aT:(bn != bn)=false:=by cases bn<;>rfl
 clear KV hs ha h0 h1 hz hx
 have aA:Below w.heap.size w (w.alloc (.cells #[.int .i64 n0,.int .i64 n1] 38)):=(Below.refl _ _).alloc (Nat.le_refl _) _
 have q1:CBlk (w.alloc (.cells #[.int .i64 n0,.int .i64 n1] 38)) w.heap.size #[.int .i64 n0,.int .i64 n1] 38:=CBlk.new _ _ _ _ rfl
 go_enter Tryz.func4,Tryz.ntmps4
 go_wp2_with fail
 generalize (w.alloc (.cells #[.int .i64 n0,.int .i64 n1] 38))=w1 at *
 refine (HK.out w1 (hT.later aA)).mono ?_
 rintro e w2 ⟨rfl,aH⟩
 have aC:=aA.trans (aH.mono aA.size)
 have q2:=q1.below aH q1.lt
 have x0:w2.cell? ⟨w.heap.size,0,none⟩=some (.int .i64 n0):=q2.cell 0
 have x1:w2.cell? ⟨w.heap.size,1,none⟩=some (.int .i64 n1):=q2.cell 1
 clear q1 aH aA
 go_wp2_with fail
 refine (aS.out w2 (hT.later aC)).mono ?_
 rintro e w3 ⟨rfl,aF⟩
 have aG:=aC.trans (aF.mono aC.size)
 have q3:=q2.below aF q2.lt
 clear x0 x1 aF q2
 have x0:w3.cell? ⟨w.heap.size,0,none⟩=some (.int .i64 n0):=q3.cell 0
 have x1:w3.cell? ⟨w.heap.size,1,none⟩=some (.int .i64 n1):=q3.cell 1
 go_wp2_with fail
 refine (aP.out w3 (hT.later aG)).mono ?_
 rintro e w4 ⟨rfl,aE⟩
 have aK:=aG.trans (aE.mono aG.size)
 have q4:=q3.below aE q3.lt
 clear x0 x1 aE q3
 have x0:w4.cell? ⟨w.heap.size,0,none⟩=some (.int .i64 n0):=q4.cell 0
 have x1:w4.cell? ⟨w.heap.size,1,none⟩=some (.int .i64 n1):=q4.cell 1
 go_wp2_with fail
 refine (aQ.out w4).mono ?_
 rintro e w5 ⟨rfl,aI⟩
 have aJ:=aK.trans (aI.mono aK.size)
 have q5:=q4.below aI q4.lt
 clear x0 x1 aI q4
 have x0:w5.cell? ⟨w.heap.size,0,none⟩=some (.int .i64 n0):=q5.cell 0
 have x1:w5.cell? ⟨w.heap.size,1,none⟩=some (.int .i64 n1):=q5.cell 1
 go_wp2_with fail
 refine (aL.out w5).mono ?_
 rintro e w6 ⟨rfl,rfl⟩
 go_wp2_with fail
 refine (aN.out w5).mono ?_
 rintro e w6 ⟨rfl,rfl⟩
 go_wp2_with fail
 refine (aO.out w5).mono ?_
 rintro e w6 ⟨rfl,aD⟩
 have aM:=aJ.trans (aD.mono aJ.size)
 have q6:=q5.below aD q5.lt
 clear x0 x1 aD q5
 have x0:w6.cell? ⟨w.heap.size,0,none⟩=some (.int .i64 n0):=q6.cell 0
 have x1:w6.cell? ⟨w.heap.size,1,none⟩=some (.int .i64 n1):=q6.cell 1
 go_wp2_with fail
 refine (aR.out w6).mono ?_
 rintro e w7 ⟨rfl,rfl⟩
 go_wp2
 go_ret
 exact ⟨rfl,aM⟩
set_option maxHeartbeats 8000000 in
set_option maxRecDepth 100000 in
theorem zl7 (s a:ByteArray) (n0 n1:Int) (w:World) (KV:zfS) (hT:Tabs w) (hs:s.size≤1300) (ha:a.size≤1300) (h0 : -999999999≤n0∧n0≤999999999) (h1 : -999999999≤n1∧n1≤999999999) (hz:n1=0) (hx:zam a.data.toList=0) :
  Calls Tryz.prog 4 #[.string s,.agg #[.int .i64 n0,.int .i64 n1],.string a] w fun e w'=>e = .returned (.bool true)∧Below w.heap.size w w':=by
 have HK:=Lib.hid KV
 have d1:decide ((1300:Int)<(s.size:Int))=false:=decide_eq_false (by omega)
 have d2:decide ((1300:Int)<(a.size:Int))=false:=decide_eq_false (by omega)
 have d3:decide (n0 < -999999999)=false:=decide_eq_false (by omega)
 have d4:decide (999999999<n0)=false:=decide_eq_false (by omega)
 have d5:decide (n1 < -999999999)=false:=decide_eq_false (by omega)
 have d6:decide (999999999<n1)=false:=decide_eq_false (by omega)
 have d7:(n1==0)=true:=by simpa using hz
 have bA:Hid (∀ W,Tabs W→Calls Tryz.prog 25 #[.int .i64 n0,.int .i64 n1] W fun e w'=>e = .returned (.tuple #[.string ⟨#[]⟩,.int .i64 6])∧Below W.heap.size W w'):=fun W hT=>by
  have h:=zhb n0 n1 W hT (by omega) (by omega)
  have e:=ziz n0
  subst hz
  unfold ofQ at e
  rw [e.1,e.2] at h
  exact zdb #[] h rfl
 have aU:=Lib.hid (fun W=>zgs ⟨#[]⟩ 6 W (by omega))
 have hq:=zie hx
 have aX:Hid (∀ W,Tabs W→Calls Tryz.prog 26 #[.string a] W (zbj W (za0 (intQ (zbI (zag a.data.toList)))) (zao (intQ (zbI (zag a.data.toList)))))):=fun W hT=>by
  have h:=zgg a W hT (by omega) hx
  rwa [zfX hq.2] at h
 have aV:=Lib.hid (fun W=>zim a _ W hq (by omega))
 have aP:=zeS (hq.small ha (by omega))
 have aZ:=Lib.hid (fun (s t:ByteArray) (W:World) hs (ht:NumQ t (intQ (zbI (zag a.data.toList))))=>zib s t _ W hs ht (by have:=ht.size aP (by omega);omega))
 have aW:Hid (∀ W,Calls Tryz.prog 10 #[.string a] W fun e w'=>e = .returned (.int .i64 0)∧Below W.heap.size W w'):=fun W=>by
  have h:=zdq a W (by omega)
  rwa [hx] at h
 generalize intQ (zbI (zag a.data.toList))=fq at *
 have aY:=Lib.hid (fun W=>zdu s W)
 have aS:=Lib.hid (fun W=>zcU s W (by omega))
 generalize zc7 s.data.toList=bn at *
 have bE:(bn==bn)=true:=by cases bn<;>rfl
 have bD:(bn != bn)=false:=by cases bn<;>rfl
 clear KV hs ha h0 h1 hz hx hq aP
 have aA:Below w.heap.size w (w.alloc (.cells #[.int .i64 n0,.int .i64 n1] 38)):=(Below.refl _ _).alloc (Nat.le_refl _) _
 have q1:CBlk (w.alloc (.cells #[.int .i64 n0,.int .i64 n1] 38)) w.heap.size #[.int .i64 n0,.int .i64 n1] 38:=CBlk.new _ _ _ _ rfl
 go_enter Tryz.func4,Tryz.ntmps4
 go_wp2_with fail
 generalize (w.alloc (.cells #[.int .i64 n0,.int .i64 n1] 38))=w1 at *
 refine (HK.out w1 (hT.later aA)).mono ?_
 rintro e w2 ⟨rfl,aJ⟩
 have aC:=aA.trans (aJ.mono aA.size)
 have q2:=q1.below aJ q1.lt
 have x0:w2.cell? ⟨w.heap.size,0,none⟩=some (.int .i64 n0):=q2.cell 0
 have x1:w2.cell? ⟨w.heap.size,1,none⟩=some (.int .i64 n1):=q2.cell 1
 clear q1 aJ aA
 go_wp2_with fail
 refine (bA.out w2 (hT.later aC)).mono ?_
 rintro e w3 ⟨rfl,aH⟩
 have aI:=aC.trans (aH.mono aC.size)
 have q3:=q2.below aH q2.lt
 clear x0 x1 aH q2
 have x0:w3.cell? ⟨w.heap.size,0,none⟩=some (.int .i64 n0):=q3.cell 0
 have x1:w3.cell? ⟨w.heap.size,1,none⟩=some (.int .i64 n1):=q3.cell 1
 go_wp2_with fail
 refine (aX.out w3 (hT.later aI)).mono ?_
 rintro e w4 ⟨t2,rfl,aR,aF⟩
 have aQ:=aI.trans (aF.mono aI.size)
 have q4:=q3.below aF q3.lt
 clear x0 x1 aF q3
 have x0:w4.cell? ⟨w.heap.size,0,none⟩=some (.int .i64 n0):=q4.cell 0
 have x1:w4.cell? ⟨w.heap.size,1,none⟩=some (.int .i64 n1):=q4.cell 1
 have aT:=Lib.hid aR
 clear aR
 go_wp2_with fail
 refine (aY.out w4).mono ?_
 rintro e w5 ⟨rfl,aK⟩
 have aL:=aQ.trans (aK.mono aQ.size)
 have q5:=q4.below aK q4.lt
 clear x0 x1 aK q4
 have x0:w5.cell? ⟨w.heap.size,0,none⟩=some (.int .i64 n0):=q5.cell 0
 have x1:w5.cell? ⟨w.heap.size,1,none⟩=some (.int .i64 n1):=q5.cell 1
 go_wp2_with fail
 refine (aS.out w5).mono ?_
 rintro e w6 ⟨rfl,rfl⟩
 go_wp2_with fail
 refine (aU.out w5).mono ?_
 rintro e w6 ⟨rfl,rfl⟩
 go_wp2_with fail
 refine (aW.out w5).mono ?_
 rintro e w6 ⟨rfl,aE⟩
 have aM:=aL.trans (aE.mono aL.size)
 have q6:=q5.below aE q5.lt
 clear x0 x1 aE q5
 have x0:w6.cell? ⟨w.heap.size,0,none⟩=some (.int .i64 n0):=q6.cell 0
 have x1:w6.cell? ⟨w.heap.size,1,none⟩=some (.int .i64 n1):=q6.cell 1
 go_wp2_with fail
 refine (aV.out w6).mono ?_
 rintro e w7 ⟨⟨t4,rfl,aN⟩,aD⟩
 have aO:=aM.trans (aD.mono aM.size)
 have q7:=q6.below aD q6.lt
 clear x0 x1 aD q6
 have x0:w7.cell? ⟨w.heap.size,0,none⟩=some (.int .i64 n0):=q7.cell 0
 have x1:w7.cell? ⟨w.heap.size,1,none⟩=some (.int .i64 n1):=q7.cell 1
 have bB:=Lib.hid aN
 clear aN
 go_wp2_with fail
 refine (aZ.out t2 t4 w7 aT.out bB.out).mono ?_
 rintro e w8 ⟨rfl,aG⟩
 have bC:=aO.trans (aG.mono aO.size)
 have q8:=q7.below aG q7.lt
 clear x0 x1 aG q7
 have x0:w8.cell? ⟨w.heap.size,0,none⟩=some (.int .i64 n0):=q8.cell 0
 have x1:w8.cell? ⟨w.heap.size,1,none⟩=some (.int .i64 n1):=q8.cell 1
 go_wp2
 go_ret
 exact ⟨rfl,bC⟩
set_option maxHeartbeats 8000000 in
set_option maxRecDepth 100000 in
theorem zmy (s a:ByteArray) (n0 n1:Int) (w:World) (KV:zfS) (hT:Tabs w) (hs:s.size≤1300) (ha:a.size≤1300) (h0 : -999999999≤n0∧n0≤999999999) (h1 : -999999999≤n1∧n1≤999999999) (hz:n1≠0) (hx:zam a.data.toList≠0) :
  Calls Tryz.prog 4 #[.string s,.agg #[.int .i64 n0,.int .i64 n1],.string a] w fun e w'=>e = .returned (.bool true)∧Below w.heap.size w w':=by
 have HK:=Lib.hid KV
 have d1:decide ((1300:Int)<(s.size:Int))=false:=decide_eq_false (by omega)
 have d2:decide ((1300:Int)<(a.size:Int))=false:=decide_eq_false (by omega)
 have d3:decide (n0 < -999999999)=false:=decide_eq_false (by omega)
 have d4:decide (999999999<n0)=false:=decide_eq_false (by omega)
 have d5:decide (n1 < -999999999)=false:=decide_eq_false (by omega)
 have d6:decide (999999999<n1)=false:=decide_eq_false (by omega)
 have d7:(n1==0)=false:=by rw [beq_eq_false_iff_ne];exact hz
 have bB:Hid (∀ W,Tabs W→Calls Tryz.prog 25 #[.int .i64 n0,.int .i64 n1] W (zbj W (za0 (ofQ n0 n1)) (zao (ofQ n0 n1)))):=fun W hT=>zhb n0 n1 W hT (by omega) (by omega)
 have aT:=Lib.hid (fun W=>zmU n0 n1 W h0 h1 hz)
 have aO:Small (ofQ n0 n1) 10:=by
  rcases Int.lt_trichotomy n1 0 with h | h | h
  ·rw [zhQ n0 h];exact zdn (by omega) (by omega) (by omega)
  ·exact absurd h hz
  ·rw [zh7 n0 h];exact zdn (by omega) (by omega) (by omega)
 have aU:=Lib.hid (fun (s t:ByteArray) (W:World) hs (ht:NumQ t (ofQ n0 n1))=>zib s t (ofQ n0 n1) W hs ht (by have:=ht.size aO (by omega);omega))
 have aX:Hid (∀ W,Tabs W→Calls Tryz.prog 26 #[.string a] W fun e w'=>e = .returned (.tuple #[.string ⟨#[]⟩,.int .i64 (zam a.data.toList)])∧Below W.heap.size W w'):=fun W hT=>zdb #[] (zg1 a W hT (by omega) hx) rfl
 have aZ:=Lib.hid (fun W=>zgs ⟨#[]⟩ (zam a.data.toList) W hx)
 have aV:Hid (∀ W,Calls Tryz.prog 10 #[.string a] W fun e w'=>e = .returned (.int .i64 (zam a.data.toList))∧Below W.heap.size W w'):=fun W=>zdq a W (by omega)
 have d8:(zam a.data.toList != 0)=true:=by simpa using hx
 generalize zam a.data.toList=E at *
 have aY:=Lib.hid (fun W=>zdu s W)
 have aS:=Lib.hid (fun W=>zcU s W (by omega))
 generalize zc7 s.data.toList=bn at *
 have bE:(bn==bn)=true:=by cases bn<;>rfl
 have bD:(bn != bn)=false:=by cases bn<;>rfl
 clear KV hs ha h0 h1 hz hx aO
 have aA:Below w.heap.size w (w.alloc (.cells #[.int .i64 n0,.int .i64 n1] 38)):=(Below.refl _ _).alloc (Nat.le_refl _) _
 have q1:CBlk (w.alloc (.cells #[.int .i64 n0,.int .i64 n1] 38)) w.heap.size #[.int .i64 n0,.int .i64 n1] 38:=CBlk.new _ _ _ _ rfl
 go_enter Tryz.func4,Tryz.ntmps4
 go_wp2_with fail
 generalize (w.alloc (.cells #[.int .i64 n0,.int .i64 n1] 38))=w1 at *
 refine (HK.out w1 (hT.later aA)).mono ?_
 rintro e w2 ⟨rfl,aJ⟩
 have aC:=aA.trans (aJ.mono aA.size)
 have q2:=q1.below aJ q1.lt
 have x0:w2.cell? ⟨w.heap.size,0,none⟩=some (.int .i64 n0):=q2.cell 0
 have x1:w2.cell? ⟨w.heap.size,1,none⟩=some (.int .i64 n1):=q2.cell 1
 clear q1 aJ aA
 go_wp2_with fail
 refine (bB.out w2 (hT.later aC)).mono ?_
 rintro e w3 ⟨t1,rfl,aN,aH⟩
 have aI:=aC.trans (aH.mono aC.size)
 have q3:=q2.below aH q2.lt
 clear x0 x1 aH q2
 have x0:w3.cell? ⟨w.heap.size,0,none⟩=some (.int .i64 n0):=q3.cell 0
 have x1:w3.cell? ⟨w.heap.size,1,none⟩=some (.int .i64 n1):=q3.cell 1
 have bA:=Lib.hid aN
 clear aN
 go_wp2_with fail
 refine (aX.out w3 (hT.later aI)).mono ?_
 rintro e w4 ⟨rfl,aF⟩
 have aQ:=aI.trans (aF.mono aI.size)
 have q4:=q3.below aF q3.lt
 clear x0 x1 aF q3
 have x0:w4.cell? ⟨w.heap.size,0,none⟩=some (.int .i64 n0):=q4.cell 0
 have x1:w4.cell? ⟨w.heap.size,1,none⟩=some (.int .i64 n1):=q4.cell 1
 go_wp2_with fail
 refine (aY.out w4).mono ?_
 rintro e w5 ⟨rfl,aK⟩
 have aL:=aQ.trans (aK.mono aQ.size)
 have q5:=q4.below aK q4.lt
 clear x0 x1 aK q4
 have x0:w5.cell? ⟨w.heap.size,0,none⟩=some (.int .i64 n0):=q5.cell 0
 have x1:w5.cell? ⟨w.heap.size,1,none⟩=some (.int .i64 n1):=q5.cell 1
 go_wp2_with fail
 refine (aS.out w5).mono ?_
 rintro e w6 ⟨rfl,rfl⟩
 go_wp2_with fail
 refine (aT.out w5).mono ?_
 rintro e w6 ⟨⟨t3,rfl,aR⟩,aE⟩
 have aM:=aL.trans (aE.mono aL.size)
 have q6:=q5.below aE q5.lt
 clear x0 x1 aE q5
 have x0:w6.cell? ⟨w.heap.size,0,none⟩=some (.int .i64 n0):=q6.cell 0
 have x1:w6.cell? ⟨w.heap.size,1,none⟩=some (.int .i64 n1):=q6.cell 1
 have aW:=Lib.hid aR
 clear aR
 go_wp2_with fail
 refine (aU.out t1 t3 w6 bA.out aW.out).mono ?_
 rintro e w7 ⟨rfl,aD⟩
 have aP:=aM.trans (aD.mono aM.size)
 have q7:=q6.below aD q6.lt
 clear x0 x1 aD q6
 have x0:w7.cell? ⟨w.heap.size,0,none⟩=some (.int .i64 n0):=q7.cell 0
 have x1:w7.cell? ⟨w.heap.size,1,none⟩=some (.int .i64 n1):=q7.cell 1
 go_wp2_with fail
 refine (aV.out w7).mono ?_
 rintro e w8 ⟨rfl,aG⟩
 have bC:=aP.trans (aG.mono aP.size)
 have q8:=q7.below aG q7.lt
 clear x0 x1 aG q7
 have x0:w8.cell? ⟨w.heap.size,0,none⟩=some (.int .i64 n0):=q8.cell 0
 have x1:w8.cell? ⟨w.heap.size,1,none⟩=some (.int .i64 n1):=q8.cell 1
 go_wp2_with fail
 refine (aZ.out w8).mono ?_
 rintro e w9 ⟨rfl,rfl⟩
 go_wp2
 go_ret
 exact ⟨rfl,bC⟩
set_option maxHeartbeats 8000000 in
set_option maxRecDepth 100000 in
theorem zmD (s a:ByteArray) (n0 n1:Int) (w:World) (KV:zfS) (hT:Tabs w) (hs:s.size≤1300) (ha:a.size≤1300) (h0 : -999999999≤n0∧n0≤999999999) (h1 : -999999999≤n1∧n1≤999999999) (hz:n1≠0) (hx:zam a.data.toList=0) :
  Calls Tryz.prog 4 #[.string s,.agg #[.int .i64 n0,.int .i64 n1],.string a] w fun e w'=>e = .returned (.bool true)∧Below w.heap.size w w':=by
 have HK:=Lib.hid KV
 have d1:decide ((1300:Int)<(s.size:Int))=false:=decide_eq_false (by omega)
 have d2:decide ((1300:Int)<(a.size:Int))=false:=decide_eq_false (by omega)
 have d3:decide (n0 < -999999999)=false:=decide_eq_false (by omega)
 have d4:decide (999999999<n0)=false:=decide_eq_false (by omega)
 have d5:decide (n1 < -999999999)=false:=decide_eq_false (by omega)
 have d6:decide (999999999<n1)=false:=decide_eq_false (by omega)
 have d7:(n1==0)=false:=by rw [beq_eq_false_iff_ne];exact hz
 have bN:Hid (∀ W,Tabs W→Calls Tryz.prog 25 #[.int .i64 n0,.int .i64 n1] W (zbj W (za0 (ofQ n0 n1)) (zao (ofQ n0 n1)))):=fun W hT=>zhb n0 n1 W hT (by omega) (by omega)
 have bE:=Lib.hid (fun W=>zmU n0 n1 W h0 h1 hz)
 have aS:Small (ofQ n0 n1) 10:=by
  rcases Int.lt_trichotomy n1 0 with h | h | h
  ·rw [zhQ n0 h];exact zdn (by omega) (by omega) (by omega)
  ·exact absurd h hz
  ·rw [zh7 n0 h];exact zdn (by omega) (by omega) (by omega)
 have bF:=Lib.hid (fun (s t:ByteArray) (W:World) hs (ht:NumQ t (ofQ n0 n1))=>zib s t (ofQ n0 n1) W hs ht (by have:=ht.size aS (by omega);omega))
 have hq:=zie hx
 have bJ:Hid (∀ W,Tabs W→Calls Tryz.prog 26 #[.string a] W (zbj W (za0 (intQ (zbI (zag a.data.toList)))) (zao (intQ (zbI (zag a.data.toList)))))):=fun W hT=>by
  have h:=zgg a W hT (by omega) hx
  rwa [zfX hq.2] at h
 have bG:=Lib.hid (fun W=>zim a _ W hq (by omega))
 have aV:=zeS (hq.small ha (by omega))
 have bL:=Lib.hid (fun (s t:ByteArray) (W:World) hs (ht:NumQ t (intQ (zbI (zag a.data.toList))))=>zib s t _ W hs ht (by have:=ht.size aV (by omega);omega))
 have bH:Hid (∀ W,Calls Tryz.prog 10 #[.string a] W fun e w'=>e = .returned (.int .i64 0)∧Below W.heap.size W w'):=fun W=>by
  have h:=zdq a W (by omega)
  rwa [hx] at h
 generalize intQ (zbI (zag a.data.toList))=fq at *
 have bK:=Lib.hid (fun W=>zdu s W)
 have bC:=Lib.hid (fun W=>zcU s W (by omega))
 generalize zc7 s.data.toList=bn at *
 have bQ:(bn==bn)=true:=by cases bn<;>rfl
 have bP:(bn != bn)=false:=by cases bn<;>rfl
 clear KV hs ha h0 h1 hz hx aS hq aV
 have aC:Below w.heap.size w (w.alloc (.cells #[.int .i64 n0,.int .i64 n1] 38)):=(Below.refl _ _).alloc (Nat.le_refl _) _
 have q1:CBlk (w.alloc (.cells #[.int .i64 n0,.int .i64 n1] 38)) w.heap.size #[.int .i64 n0,.int .i64 n1] 38:=CBlk.new _ _ _ _ rfl
 go_enter Tryz.func4,Tryz.ntmps4
 go_wp2_with fail
 generalize (w.alloc (.cells #[.int .i64 n0,.int .i64 n1] 38))=w1 at *
 refine (HK.out w1 (hT.later aC)).mono ?_
 rintro e w2 ⟨rfl,aM⟩
 have aD:=aC.trans (aM.mono aC.size)
 have q2:=q1.below aM q1.lt
 have x0:w2.cell? ⟨w.heap.size,0,none⟩=some (.int .i64 n0):=q2.cell 0
 have x1:w2.cell? ⟨w.heap.size,1,none⟩=some (.int .i64 n1):=q2.cell 1
 clear q1 aM aC
 go_wp2_with fail
 refine (bN.out w2 (hT.later aD)).mono ?_
 rintro e w3 ⟨t1,rfl,aR,aI⟩
 have aJ:=aD.trans (aI.mono aD.size)
 have q3:=q2.below aI q2.lt
 clear x0 x1 aI q2
 have x0:w3.cell? ⟨w.heap.size,0,none⟩=some (.int .i64 n0):=q3.cell 0
 have x1:w3.cell? ⟨w.heap.size,1,none⟩=some (.int .i64 n1):=q3.cell 1
 have bM:=Lib.hid aR
 clear aR
 go_wp2_with fail
 refine (bJ.out w3 (hT.later aJ)).mono ?_
 rintro e w4 ⟨t2,rfl,aY,aG⟩
 have aX:=aJ.trans (aG.mono aJ.size)
 have q4:=q3.below aG q3.lt
 clear x0 x1 aG q3
 have x0:w4.cell? ⟨w.heap.size,0,none⟩=some (.int .i64 n0):=q4.cell 0
 have x1:w4.cell? ⟨w.heap.size,1,none⟩=some (.int .i64 n1):=q4.cell 1
 have bD:=Lib.hid aY
 clear aY
 go_wp2_with fail
 refine (bK.out w4).mono ?_
 rintro e w5 ⟨rfl,aN⟩
 have aO:=aX.trans (aN.mono aX.size)
 have q5:=q4.below aN q4.lt
 clear x0 x1 aN q4
 have x0:w5.cell? ⟨w.heap.size,0,none⟩=some (.int .i64 n0):=q5.cell 0
 have x1:w5.cell? ⟨w.heap.size,1,none⟩=some (.int .i64 n1):=q5.cell 1
 go_wp2_with fail
 refine (bC.out w5).mono ?_
 rintro e w6 ⟨rfl,rfl⟩
 go_wp2_with fail
 refine (bE.out w5).mono ?_
 rintro e w6 ⟨⟨t3,rfl,aZ⟩,aF⟩
 have aP:=aO.trans (aF.mono aO.size)
 have q6:=q5.below aF q5.lt
 clear x0 x1 aF q5
 have x0:w6.cell? ⟨w.heap.size,0,none⟩=some (.int .i64 n0):=q6.cell 0
 have x1:w6.cell? ⟨w.heap.size,1,none⟩=some (.int .i64 n1):=q6.cell 1
 have bI:=Lib.hid aZ
 clear aZ
 go_wp2_with fail
 refine (bF.out t1 t3 w6 bM.out bI.out).mono ?_
 rintro e w7 ⟨rfl,aE⟩
 have aU:=aP.trans (aE.mono aP.size)
 have q7:=q6.below aE q6.lt
 clear x0 x1 aE q6
 have x0:w7.cell? ⟨w.heap.size,0,none⟩=some (.int .i64 n0):=q7.cell 0
 have x1:w7.cell? ⟨w.heap.size,1,none⟩=some (.int .i64 n1):=q7.cell 1
 go_wp2_with fail
 refine (bH.out w7).mono ?_
 rintro e w8 ⟨rfl,aH⟩
 have bB:=aU.trans (aH.mono aU.size)
 have q8:=q7.below aH q7.lt
 clear x0 x1 aH q7
 have x0:w8.cell? ⟨w.heap.size,0,none⟩=some (.int .i64 n0):=q8.cell 0
 have x1:w8.cell? ⟨w.heap.size,1,none⟩=some (.int .i64 n1):=q8.cell 1
 go_wp2_with fail
 refine (bG.out w8).mono ?_
 rintro e w9 ⟨⟨t4,rfl,aT⟩,aK⟩
 have bA:=bB.trans (aK.mono bB.size)
 have q9:=q8.below aK q8.lt
 clear x0 x1 aK q8
 have x0:w9.cell? ⟨w.heap.size,0,none⟩=some (.int .i64 n0):=q9.cell 0
 have x1:w9.cell? ⟨w.heap.size,1,none⟩=some (.int .i64 n1):=q9.cell 1
 have bO:=Lib.hid aT
 clear aT
 go_wp2_with fail
 refine (bL.out t2 t4 w9 bD.out bO.out).mono ?_
 rintro e aQ ⟨rfl,aA⟩
 have aL:=bA.trans (aA.mono bA.size)
 have aW:=q9.below aA q9.lt
 clear x0 x1 aA q9
 have x0:aQ.cell? ⟨w.heap.size,0,none⟩=some (.int .i64 n0):=aW.cell 0
 have x1:aQ.cell? ⟨w.heap.size,1,none⟩=some (.int .i64 n1):=aW.cell 1
 go_wp2
 go_ret
 exact ⟨rfl,aL⟩
theorem zjS (s a:ByteArray) (n0 n1:Int) (w:World) (KV:zfS) (hT:Tabs w) :
  Calls Tryz.prog 4 #[.string s,.agg #[.int .i64 n0,.int .i64 n1],.string a] w fun e w'=>e = .returned (.bool true)∧Below w.heap.size w w':=by
 by_cases hg:((1300:Int)<(s.size:Int))∨((1300:Int)<(a.size:Int))∨(n0 < -999999999)∨(999999999<n0)∨(n1 < -999999999)∨(999999999<n1)
 ·exact zhp s a n0 n1 w KV hT hg
 ·by_cases hz:n1=0
  ·by_cases hx:zam a.data.toList=0
   ·exact zl7 s a n0 n1 w KV hT (by omega) (by omega) (by omega) (by omega) hz hx
   ·exact zlU s a n0 n1 w KV hT (by omega) (by omega) (by omega) (by omega) hz hx
  ·by_cases hx:zam a.data.toList=0
   ·exact zmD s a n0 n1 w KV hT (by omega) (by omega) (by omega) (by omega) hz hx
   ·exact zmy s a n0 n1 w KV hT (by omega) (by omega) (by omega) (by omega) hz hx
end Go.Proofs.YteajibbphcfmeaaGreatDoor
namespace Go.Proofs.YteajibbphcfmeaaGreatDoor
open Go.RowKit Bn
set_option maxHeartbeats 1000000 in
set_option maxRecDepth 100000 in
theorem zgr (A A':Option Addr) (n c c':Nat) (xs:List Value) (hxs:∀ x ∈ xs,∃ i:Int,x = .int .i64 i) (w:World) (B:Nat) (h:zat w B 1 A n xs) (h':zat w B 1 A' n xs) (hn:n≤4096) :
  Calls Tryz.prog 58 #[.slice A n c,.slice A' n c'] w fun e w'=>e = .returned (.bool true)∧∃ m,w'=w.drewN m:=by
 have aE:xs.length=n:=by have:=h.1;omega
 have HX:=Lib.hid hxs
 clear hxs
 go_enter Tryz.func58,Tryz.ntmps58
 go_wp2_with fail
 go_loopg [5] n (fun m s W=>∃ k:Nat,k≤n∧s = .int .i64 k∧n - k≤m∧∃ q,W=w.drewN q)
 case atStart=>exact ⟨0,Nat.zero_le _,rfl,by omega,0,rfl⟩
 case round=>
  obtain ⟨k,hk,rfl,hm,q,rfl⟩:=hrel
  by_cases h0:k<n
  ·obtain ⟨ad,u,rfl,aG,hu,aD⟩:=h.at_ h0
   obtain ⟨aH,u2,rfl,aF,aA,aC⟩:=h'.at_ h0
   obtain rfl:u=u2:=by rw [hu] at aA;exact Option.some.inj aA
   obtain ⟨i,rfl⟩:=HX.out u (List.mem_of_getElem? hu)
   clear hu aA
   go_wp2_with fail
   go_region
   go_wp2_with fail
   go_roundg (n - (k+1))
   case measure=>omega
   case rel=>exact ⟨k+1,by omega,by go_num,Nat.le_refl _,_,rfl⟩
  ·obtain rfl:n=k:=by omega
   go_wp2_with fail
   go_ret
   exact ⟨rfl,q,rfl⟩
set_option maxHeartbeats 1000000 in
set_option maxRecDepth 100000 in
theorem zlJ (s t:ByteArray) (w:World):Calls Tryz.prog 52 #[.string s,.string t] w fun e w'=>e = .returned (.agg #[.string s,.string t])∧Below w.heap.size w w':=by
 have hb:Below w.heap.size w (w.alloc (.cells #[.string { data:=#[] },.string { data:=#[] }] 74)):=(Below.refl _ _).alloc (Nat.le_refl _) _
 have q:CBlk (w.alloc (.cells #[.string { data:=#[] },.string { data:=#[] }] 74)) w.heap.size #[.string { data:=#[] },.string { data:=#[] }] 74:=CBlk.new _ _ _ _ rfl
 have y0:=q.cell 0
 have y1:=q.cell 1
 have f0:=q.frozen 0
 have f1:=q.frozen 1
 have aA:=zbH hb (g:=w.heap.size) (Nat.le_refl _) (.string s) (.string t)
 go_enter Tryz.func52,Tryz.ntmps52
 go_upto_region 1 with (fail)
 generalize w.alloc (.cells #[.string { data:=#[] },.string { data:=#[] }] 74)=W at *
 go_wp2
 refine bodyPost_ret (v := .agg #[.string s,.string t]) (by simp [results,Tryz.results52,go_sem,y0,y1]) rfl ⟨rfl,aA⟩
end Go.Proofs.YteajibbphcfmeaaGreatDoor
