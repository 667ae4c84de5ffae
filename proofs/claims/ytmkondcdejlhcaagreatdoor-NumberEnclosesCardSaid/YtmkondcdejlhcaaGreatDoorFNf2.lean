/- The reference's Of with a negative denominator. -/
import Derived.Test.YtmkondcdejlhcaaGreatDoorFNs1
set_option maxRecDepth 100000
set_option maxHeartbeats 8000000
namespace Go.Proofs.YtmkondcdejlhcaaGreatDoor
open Go.RowKit Bn Dn
theorem zpn(zn yn:Int)(b:Bool)(x y:Nat)(w:World)(hzn:zn = -(sgn b x))(hyn:yn = -(y:Int))(hx:x≤4000000000000000000)(hy:y≤4000000000000000000)(hy0:0<y) :
  Calls Tryz.prog 49 #[.int .i64 zn,.int .i64 yn] w fun e w'=>(∃ s:ByteArray,e = .returned (.string s)∧s.data.toList=zaE (zbw (sgn b x) y))∧Below w.heap.size w w':=by
 rw[zg3 b x y hy0];obtain⟨g,hg⟩:∃ g,g=Nat.gcd x y:=⟨_,rfl⟩;have aW:0<g:=by rw[hg];exact Nat.gcd_pos_of_pos_right _ hy0
 have aJ:g≤y:=by rw[hg];exact Nat.gcd_le_right _ hy0
 have HC:=zjC x y w hx hy;rw[←hg] at HC ⊢;obtain⟨X,hX⟩:∃ X,X=x/g:=⟨_,rfl⟩;obtain⟨Y,hY⟩:∃ Y,Y=y/g:=⟨_,rfl⟩;obtain⟨z,hz⟩:∃ z,z=sgn b x:=⟨_,rfl⟩;obtain⟨z1,aE⟩:∃ z1,z1=sgn b X:=⟨_,rfl⟩;have bG:X≤x:=by rw[hX];exact Nat.div_le_self _ _
 have bK:Y≤y:=by rw[hY];exact Nat.div_le_self _ _
 have bH:0<Y:=by rw[hY];exact Nat.div_pos aJ aW
 have bF:z=(x:Int)∨z = -(x:Int):=by rw[hz];unfold sgn;cases b<;>simp
 have aH:z1=(X:Int)∨z1 = -(X:Int):=by rw[aE];unfold sgn;cases b<;>simp
 have f1:Int.tdiv z (g:Int)=z1:=by
  have h9:Int.tdiv (x:Int) (g:Int)=(X:Int):=by rw[Int.tdiv_eq_ediv_of_nonneg (by omega),←Int.natCast_ediv,←hX]
  rw[hz,aE];unfold sgn
  cases b
  ·simp[h9]
  ·simp[Int.neg_tdiv,h9]
 have f2:Int.tdiv (y:Int) (g:Int)=(Y:Int):=by rw[Int.tdiv_eq_ediv_of_nonneg (by omega),←Int.natCast_ediv,←hY]
 have f3:IntKind.i64.wrap z1=z1:=IntWalk.i64_in _ (by omega);have f4:IntKind.i64.wrap (Y:Int)=(Y:Int):=IntWalk.i64_in _ (by omega);have f5:((g:Int)==0)=false:=by rw[beq_eq_false_iff_ne];omega
 rw[←hX,←hY];rw[←hz] at hzn;rw[←aE];have em:max z (-z)=(x:Int):=by omega
 have aV:max z1 (-z1)=(X:Int):=by omega
 have d1:decide (zn < -4000000000000000000)=false:=by simp<;>omega
 have d2:decide (4000000000000000000<zn)=false:=by simp<;>omega
 have d3:decide (yn < -4000000000000000000)=false:=by simp only[decide_eq_false_iff_not];omega
 have d4:decide ((4000000000000000000:Int)<yn)=false:=by simp only[decide_eq_false_iff_not];omega
 have d5:decide (yn<0)=true:=decide_eq_true (by omega);have f6:wrap64 (-zn)=z:=by rw[IntWalk.wrap64_in _ (by omega)];omega
 have f7:wrap64 (-yn)=(y:Int):=by rw[IntWalk.wrap64_in _ (by omega)];omega
 have f8:wrap64 (0-zn)=z:=by rw[IntWalk.wrap64_in _ (by omega)];omega
 have f9:wrap64 (0-yn)=(y:Int):=by rw[IntWalk.wrap64_in _ (by omega)];omega
 have aU : -4000000000000000000≤z:=by omega
 have aX:z≤4000000000000000000:=by omega
 have aM : -4000000000000000000≤z1:=by omega
 have aP:z1≤4000000000000000000:=by omega
 have bM:X≤4000000000000000000:=by omega
 have bJ:Y≤4000000000000000000:=by omega
 have aY:=Aa HC;clear HC hg hX hY hz aE bF aH aJ hzn hyn;have aT:=Aa (fun W=>zbX X 1 W (by omega) (by omega));have bE:=Aa (fun W=>zbX Y 1 W (by omega) (by omega));have aL:(Lib.decDigits X).length≤19:=Dec.dec_length_le (by omega) (by have e:(10:Nat)^19=10000000000000000000:=(by decide);omega);have aR:(Lib.decDigits Y).length≤19:=Dec.dec_length_le (by omega) (by have e:(10:Nat)^19=10000000000000000000:=(by decide);omega);have bD:=Aa aL;have bB:=Aa aR;clear aL aR;go_enter Tryz.func49,Tryz.ntmps49
 go_wp2_with fail
 refine aY.out.mono ?_;rintro e w1 ⟨rfl,aK⟩;clear em d1 d2 d3 d4 d5;go_upto_region 6 with(fail)
 go_quiet (fail)
 clear f1 f2 f3 f4 f6 f7 f8 f9;have aN:=zac aK;generalize aO:w1.drewN _=w2 at *;have aS:Below w.heap.size w w2:=by rw[←aO];exact aN _
 clear aN aO aK;have aI:∀ s:ByteArray,s.data.toList=Lib.decDigits X→s.size≤19:=fun s hs=>by
  have h9:s.data.toList.length=s.size:=Array.length_toList;rw[hs] at h9;have:=bD.out;omega
 have aQ:∀ s:ByteArray,s.data.toList=Lib.decDigits Y→s.size≤19:=fun s hs=>by
  have h9:s.data.toList.length=s.size:=Array.length_toList;rw[hs] at h9;have:=bB.out;omega
 have aZ:=Aa aI;have bA:=Aa aQ;have bL:=Aa aV;clear aI aQ
 by_cases hneg:z1<0
 case' pos=>have dn:decide (z1<0)=true:=by simpa using hneg
 case' neg=>have dn:decide (z1<0)=false:=by simpa using hneg
 case' pos=>obtain⟨pr,aA⟩:∃ pr:List UInt8,pr=[45]:=⟨_,rfl⟩
 case' neg=>obtain⟨pr,aA⟩:∃ pr:List UInt8,pr=[]:=⟨_,rfl⟩
 case' pos=>have aG:Hid (∀ l,sgnT (decide (z1<0)) l=[45]++l):=fun l=>by rw[dn];rfl
 case' neg=>have aG:Hid (∀ l,sgnT (decide (z1<0)) l=[]++l):=fun l=>by rw[dn];rfl
 all_goals
  go_wp2_with fail
  refine(aT.out w2).mono ?_;rintro e w3 ⟨⟨s,rfl,hs⟩,hw⟩;obtain rfl:w2=w3:=hw;rw[zeC] at hs;have bI:=aZ.out s hs;have HS:=Aa hs;clear hs
  by_cases hY1:Y=1
  ·have dy:decide ((1:Int)<(Y:Int))=false:=by simp only[decide_eq_false_iff_not];omega
   have aF:=Aa hY1;clear hY1;have HR:Hid (∀ t:ByteArray,t.data.toList=pr++s.data.toList→t.data.toList=zaE ⟨decide (z1<0),X,Y⟩):=fun t ht=>by
    rw[zaR,if_pos aF.out,aG.out,List.append_nil,ht,aA,HS.out]
   have aD:=Aa aA;clear aA;go_wp2
   go_ret;exact⟨⟨_,rfl,HR.out _ (by rw[aD.out];first | rfl | (rw[ByteArray.data_append,Array.toList_append];rfl))⟩,aS⟩
  ·have dy:decide ((1:Int)<(Y:Int))=true:=by simp only[decide_eq_true_eq];omega
   have aF:=Aa hY1;clear hY1;have aD:=Aa aA;clear aA
   go_wp2_with fail
   refine(bE.out w2).mono ?_;rintro e w3 ⟨⟨s2,rfl,aC⟩,hw⟩;obtain rfl:w2=w3:=hw;rw[zeC] at aC;have bC:=bA.out s2 aC;have HR:Hid (∀ t:ByteArray,t.data.toList=(pr++s.data.toList)++[47]++s2.data.toList→t.data.toList=zaE ⟨decide (z1<0),X,Y⟩):=fun t ht=>by
    rw[zaR,if_neg aF.out,aG.out,ht,aD.out,HS.out,aC,List.append_assoc];rfl
   clear aC;go_wp2
   go_ret;exact⟨⟨_,rfl,HR.out _ (by rw[aD.out];simp only[ByteArray.data_append,Array.toList_append])⟩,aS⟩
def ofQ (a b:Int):Q:=lowQ (decide (a<0) != decide (b<0)) (a.natAbs*1) (1*b.natAbs)
theorem zmK(a:Int){b:Int}(hb:0<b):ofQ a b=zbw a b.natAbs:=by
 unfold ofQ zbw;rw[decide_eq_false (show ¬ b<0 by omega),Nat.mul_one,Nat.one_mul,Bool.bne_false]
theorem zoR(a:Int){b:Int}(hb:b<0):ofQ a b=zbw (-a) b.natAbs:=by
 unfold ofQ zbw;rw[decide_eq_true hb,Nat.mul_one,Nat.one_mul,Int.natAbs_neg]
 rcases Int.lt_trichotomy a 0 with h | h | h
 ·rw[decide_eq_true h,decide_eq_false (show ¬ -a<0 by omega)];rfl
 ·subst h
  unfold lowQ;have aA:b.natAbs≠0:=by omega
  rw[if_neg aA,if_neg aA,if_pos (show(0:Int).natAbs=0 from rfl),if_pos (show(0:Int).natAbs=0 from rfl)]
 ·rw[decide_eq_false (show ¬ a<0 by omega),decide_eq_true (show -a<0 by omega)];rfl
theorem zpT(a b:Int)(w:World)(ha : -999999999≤a∧a≤999999999)(hb : -999999999≤b∧b≤999999999)(h0:b≠0):Calls Tryz.prog 49 #[.int .i64 a,.int .i64 b] w (RetS w (ofQ a b)):=by
 rcases Int.lt_trichotomy b 0 with h | h | h
 ·have h9:=zpn a b (decide (-a<0)) (-a).natAbs b.natAbs w (by rw[zfc];omega) (by omega) (by omega) (by omega) (by omega)
  rw[zfc] at h9;rw[zoR a h];exact h9.mono fun _ _ ⟨⟨s,e,hs⟩,hb⟩=>⟨⟨s,e,hs,za4 _ (by omega)⟩,hb⟩
 ·exact absurd h h0
 ·have h9:=ziV (decide (a<0)) a.natAbs b.natAbs w (by omega) (by omega) (by omega)
  rw[zfc,show((b.natAbs:Nat):Int)=b by omega] at h9;rw[zmK a h];exact h9.mono fun _ _ ⟨⟨s,e,hs⟩,hb⟩=>⟨⟨s,e,hs,za4 _ (by omega)⟩,hb⟩
theorem zgo(s t:ByteArray)(p q:Q)(w:World)(hs:NumQ s p)(ht:NumQ t q)(sp:Small p 300)(sq:Small q 300)(hle:0<cmpI p q) :
  Calls Tryz.prog 31 #[.agg #[.string s,.string t]] w fun e w'=>e = .returned (.int .i64 11)∧Below w.heap.size w w':=by
 have aD:Below w.heap.size w (w.alloc (.cells #[.string s,.string t] 39)):=Ac;have q0:CBlk (w.alloc (.cells #[.string s,.string t] 39)) w.heap.size #[.string s,.string t] 39:=CBlk.new w _ _ _ rfl;obtain⟨e1,_⟩:=zcd hs sp (by omega) (by omega);obtain⟨e2,_⟩:=zcd ht sq (by omega) (by omega);have b1:=hs.size sp (by omega);have b2:=ht.size sq (by omega);have HR:=Aa (fun (W:World) (g:Nat) (ty:TypeId) (hk:CBlk W g #[.string s,.string t] ty)=>zek s t ty g W hk e1 e2);have HC:=Aa (fun W=>zid s t p q W hs ht (by omega) (by omega));have d1:decide (0<cmpI p q)=true:=decide_eq_true hle;have x0:=q0.cell 0;have x1:=q0.cell 1;generalize cmpI p q=C at *;clear hs ht sp sq hle e1 e2 b1 b2;go_enter Tryz.func31,Tryz.ntmps31
 go_wp2_with fail
 have l1:CBlk ((w.alloc (.cells #[.string s,.string t] 39)).alloc (.cells #[.string s,.string t] 22)) (w.heap.size+1) #[.string s,.string t] 22:=CBlk.new _ _ _ _ (by simp);have q1:=q0.below ((Below.refl _ _).alloc (Nat.le_refl _) (.cells #[.string s,.string t] 22)) q0.lt;have aC:Below w.heap.size w ((w.alloc (.cells #[.string s,.string t] 39)).alloc (.cells #[.string s,.string t] 22)):=aD.alloc (by simp) _;generalize (w.alloc (.cells #[.string s,.string t] 39)).alloc (.cells #[.string s,.string t] 22)=w1 at *;refine(HR.out w1 (w.heap.size+1) 22 l1).mono ?_;rintro e w2 ⟨rfl,aA⟩;have q2:=q1.below aA q1.lt;have aE:=Ad aC aA;clear x0 x1 aA q1 l1 aD aC;have x0:=q2.cell 0;have x1:=q2.cell 1
 go_wp2_with fail
 refine(HC.out w2).mono ?_;rintro e w3 ⟨rfl,aF⟩
 go_wp2_with fail
 go_ret;exact⟨rfl,aE.trans (aF.mono aE.size)⟩
def zpz (k:Nat) (s t:ByteArray):Prop:=FewK k s∧FewK k t∧cmpI (zaf s.data.toList) (zaf t.data.toList)≤0
def zo6 (k:Nat) (s t:ByteArray) (b:Bool):Prop:=∀ W,Calls Tryz.prog 26 #[.agg #[.string s,.string t],.int .i64 (k:Int)] W fun e w'=>e = .returned (.bool b)∧Below W.heap.size W w'
theorem zjA(k:Nat)(s t:ByteArray)(h0:0<k)(hk:k≤300):∃ b,(b=true→zpz k s t)∧zo6 k s t b:=by
 obtain⟨b1,f1,c1⟩:=zmt k s h0 (by omega);obtain⟨b2,f2,c2⟩:=zmt k t h0 (by omega);have H1:=Aa (show ∀ W,Calls Tryz.prog 35 #[.string s,.int .i64 (k:Int)] W fun e w'=>e = .returned (.bool b1)∧Below W.heap.size W w' from c1);have H2:=Aa (show ∀ W,Calls Tryz.prog 35 #[.string t,.int .i64 (k:Int)] W fun e w'=>e = .returned (.bool b2)∧Below W.heap.size W w' from c2)
 by_cases hb:b1=true∧b2=true
 ·obtain⟨rfl,rfl⟩:=hb
  have g1:=f1 rfl;have g2:=f2 rfl;obtain⟨E,hE,aG⟩:∃ E:Int,(E=0→cmpI (zaf s.data.toList) (zaf t.data.toList)≤0)∧∀ W,Calls Tryz.prog 31 #[.agg #[.string s,.string t]] W fun e w'=>e = .returned (.int .i64 E)∧Below W.heap.size W w':=by
   by_cases hc:cmpI (zaf s.data.toList) (zaf t.data.toList)≤0
   ·exact⟨0,fun _=>hc,fun W=>zd5 s t _ _ W (zcJ g1.1) (zcJ g2.1) (g1.2.1.more hk) (g2.2.1.more hk) hc⟩
   ·exact⟨11,fun h=>by omega,fun W=>zgo s t _ _ W (zcJ g1.1) (zcJ g2.1) (g1.2.1.more hk) (g2.2.1.more hk) (by omega)⟩
  have H3:=Aa aG;refine⟨E==0,fun h=>⟨g1,g2,hE (by simpa using h)⟩,fun w => ?_⟩;clear f1 f2 c1 c2 hE aG g1 g2;have aA:Below w.heap.size w (w.alloc (.cells #[.string s,.string t] 39)):=Ac;have q0:CBlk (w.alloc (.cells #[.string s,.string t] 39)) w.heap.size #[.string s,.string t] 39:=CBlk.new w _ _ _ rfl;go_enter Tryz.func26,Tryz.ntmps26
  go_wp2_with fail
  generalize (w.alloc (.cells #[.string s,.string t] 39))=w1 at *;refine(H1.out w1).mono ?_;rintro e w2 ⟨rfl,aC⟩;have aE:=Ad aA aC;have q2:=q0.below aC q0.lt;have x0:w2.cell? ⟨w.heap.size,0,none⟩=some (.string s):=q2.cell 0;have x1:w2.cell? ⟨w.heap.size,1,none⟩=some (.string t):=q2.cell 1;clear q0 aA aC
  go_wp2_with fail
  refine(H2.out w2).mono ?_;rintro e w3 ⟨rfl,aF⟩;have aH:=Ad aE aF;have q3:=q2.below aF q2.lt;clear x0 x1;have x0:w3.cell? ⟨w.heap.size,0,none⟩=some (.string s):=q3.cell 0;have x1:w3.cell? ⟨w.heap.size,1,none⟩=some (.string t):=q3.cell 1
  go_wp2_with fail
  refine(H3.out w3).mono ?_;rintro e w4 ⟨rfl,aI⟩;go_wp2
  go_ret;exact⟨rfl,aH.trans (aI.mono aH.size)⟩
 ·refine⟨false,(fun h=>by cases h),fun w => ?_⟩
  have aD:b1=false∨(b1=true∧b2=false):=by
   cases b1
   ·exact .inl rfl
   ·cases b2
    ·exact .inr ⟨rfl,rfl⟩
    ·exact absurd ⟨rfl,rfl⟩ hb
  clear hb f1 f2 c1 c2;have aA:Below w.heap.size w (w.alloc (.cells #[.string s,.string t] 39)):=Ac;have q0:CBlk (w.alloc (.cells #[.string s,.string t] 39)) w.heap.size #[.string s,.string t] 39:=CBlk.new w _ _ _ rfl
  rcases aD with rfl | ⟨rfl,rfl⟩
  ·go_enter Tryz.func26,Tryz.ntmps26
   go_wp2_with fail
   generalize (w.alloc (.cells #[.string s,.string t] 39))=w1 at *;refine(H1.out w1).mono ?_;rintro e w2 ⟨rfl,aC⟩;go_wp2
   go_ret;exact⟨rfl,aA.trans (aC.mono aA.size)⟩
  ·go_enter Tryz.func26,Tryz.ntmps26
   go_wp2_with fail
   generalize (w.alloc (.cells #[.string s,.string t] 39))=w1 at *;refine(H1.out w1).mono ?_;rintro e w2 ⟨rfl,aC⟩;have aE:=Ad aA aC;have q2:=q0.below aC q0.lt;have x0:w2.cell? ⟨w.heap.size,0,none⟩=some (.string s):=q2.cell 0;have x1:w2.cell? ⟨w.heap.size,1,none⟩=some (.string t):=q2.cell 1
   go_wp2_with fail
   refine(H2.out w2).mono ?_;rintro e w3 ⟨rfl,aF⟩;go_wp2
   go_ret;exact⟨rfl,aE.trans (aF.mono aE.size)⟩
theorem znG(s t v:ByteArray)(C1 C2:Int)(w:World)(K1:zbl 23 #[.string s,.string v] (.int .i64 C1))(K2:zbl 23 #[.string v,.string t] (.int .i64 C2))(h:¬ (C1≤0∧C2≤0)) :
  Calls Tryz.prog 32 #[.agg #[.string s,.string t],.string v] w fun e w'=>e = .returned (.bool false)∧Below w.heap.size w w':=by
 have J1:=Aa K1;have J2:=Aa K2;clear K1 K2;have aA:decide (C1≤0)=false∨(decide (C1≤0)=true∧decide (C2≤0)=false):=by
  by_cases h1:C1≤0
  ·exact .inr ⟨decide_eq_true h1,decide_eq_false (fun h2=>h ⟨h1,h2⟩)⟩
  ·exact .inl (decide_eq_false h1)
 clear h
 rcases aA with d1 | ⟨d1,d2⟩
 ·have x0:(w.alloc (.cells #[.string s,.string t] 39)).cell? ⟨w.heap.size,0,none⟩=some (.string s):=(CBlk.new w _ _ _ rfl).cell 0
  have aD:Below w.heap.size w (w.alloc (.cells #[.string s,.string t] 39)):=((Below.refl _ _).alloc (by simp<;>omega) _);have aE:CBlk (w.alloc (.cells #[.string s,.string t] 39)) (w.heap.size) #[.string s,.string t] 39:=(CBlk.new _ _ _ _ (by simp));go_enter Tryz.func32,Tryz.ntmps32
  go_wp2_with fail
  generalize (w.alloc (.cells #[.string s,.string t] 39))=w1 at *;refine(J1.out w1).mono ?_;rintro e w2 ⟨rfl,aC⟩;clear x0;have aJ:=(bvia aD aC);go_wp2
  go_ret;exact⟨rfl,aJ⟩
 ·have x0:(w.alloc (.cells #[.string s,.string t] 39)).cell? ⟨w.heap.size,0,none⟩=some (.string s):=(CBlk.new w _ _ _ rfl).cell 0
  have aD:Below w.heap.size w (w.alloc (.cells #[.string s,.string t] 39)):=((Below.refl _ _).alloc (by simp<;>omega) _);have aE:CBlk (w.alloc (.cells #[.string s,.string t] 39)) (w.heap.size) #[.string s,.string t] 39:=(CBlk.new _ _ _ _ (by simp));go_enter Tryz.func32,Tryz.ntmps32
  go_wp2_with fail
  generalize (w.alloc (.cells #[.string s,.string t] 39))=w1 at *;refine(J1.out w1).mono ?_;rintro e w2 ⟨rfl,aC⟩;clear x0;have aF:=(aE.via aC);have aK:w2.cell? ⟨w.heap.size,0,none⟩=some (.string s):=aF.cell 0;have aI:w2.cell? ⟨w.heap.size,1,none⟩=some (.string t):=aF.cell 1
  go_wp2_with fail
  refine(J2.out w2).mono ?_;rintro e w4 ⟨rfl,aG⟩;clear aK aI;have aH:=(bvia (bvia aD aC) aG);go_wp2
  go_ret;exact⟨rfl,aH⟩
theorem zl6(s t u1 u2 u3 x:ByteArray)(A:Int)(hA:0≤A∧A≤255)(K1:zbl 49 #[.int .i64 A,.int .i64 255] (.string u1))(K2:zbl 21 #[.string t,.string s] (.string u2))(K3:zbl 22 #[.string u1,.string u2] (.string u3))(K4:zbl 20 #[.string s,.string u3] (.string x)) :
  zbl 27 #[.agg #[.string s,.string t],.int .u8 A] (.string x):=by
 intro w;have e1:IntKind.i64.wrap A=A:=IntWalk.i64_in _ (by omega);have J1:Hid (zbl 49 #[.int .i64 (IntKind.i64.wrap A),.int .i64 255] (.string u1)):=by rw[e1];exact K1
 have J2:=Aa K2;have J3:=Aa K3;have J4:=Aa K4;clear e1;clear K1 K2 K3 K4;have aV:Below w.heap.size w (w.alloc (.cells #[.string s,.string t] 39)):=((Below.refl _ _).alloc (by simp<;>omega) _);have aM:CBlk (w.alloc (.cells #[.string s,.string t] 39)) (w.heap.size) #[.string s,.string t] 39:=(CBlk.new _ _ _ _ (by simp));go_enter Tryz.func27,Tryz.ntmps27
 go_upto_region 1 with(fail)
 generalize (w.alloc (.cells #[.string s,.string t] 39))=w1 at *;have aI:w1.drew.cell? ⟨w.heap.size,0,none⟩=some (.string s):=aM.cell 0;have aG:w1.drew.cell? ⟨w.heap.size,1,none⟩=some (.string t):=aM.cell 1
 go_region_held3 (fun w'=>w'.cell? ⟨w.heap.size,0,none⟩=some (.string s)∧w'.cell? ⟨w.heap.size,1,none⟩=some (.string t))
  (first | with_reducible exact⟨aI,aG⟩ | with_reducible exact⟨aC,aK⟩ | with_reducible exact⟨aH,aF⟩ | with_reducible exact⟨aD,aA⟩ | with_reducible exact⟨aE,aJ⟩)
  (first
   |(have _:=aO;go_at_call 20;refine(J4.out w4).mono ?_;rintro e w5 ⟨rfl,aS⟩;have aT:=aQ.via aS;have aE:w5.cell? ⟨w.heap.size,0,none⟩=some (.string s):=aT.cell 0;have aJ:w5.cell? ⟨w.heap.size,1,none⟩=some (.string t):=aT.cell 1)
   |(have _:=aP;go_at_call 22;refine(J3.out w3).mono ?_;rintro e w4 ⟨rfl,aO⟩;have aQ:=aL.via aO;have aD:w4.cell? ⟨w.heap.size,0,none⟩=some (.string s):=aQ.cell 0;have aA:w4.cell? ⟨w.heap.size,1,none⟩=some (.string t):=aQ.cell 1)
   |(have _:=aR;go_at_call 21;refine(J2.out w2).mono ?_;rintro e w3 ⟨rfl,aP⟩;have aL:=aN.via aP;have aH:w3.cell? ⟨w.heap.size,0,none⟩=some (.string s):=aL.cell 0;have aF:w3.cell? ⟨w.heap.size,1,none⟩=some (.string t):=aL.cell 1)
   |(go_at_call 49;refine(J1.out w1.drew).mono ?_;rintro e w2 ⟨rfl,aR⟩;have aN:=aM.drew.via aR;have aC:w2.cell? ⟨w.heap.size,0,none⟩=some (.string s):=aN.cell 0;have aK:w2.cell? ⟨w.heap.size,1,none⟩=some (.string t):=aN.cell 1))
 clear aI aG aC aK aH aF aD aA aE aJ;have aU:=(bvia (bvia (bvia (bvia aV.drew aR) aP) aO) aS);go_wp2
 go_ret;exact⟨rfl,aU⟩
theorem zlD(s t s2 t2:ByteArray)(A B:Int)(w:World)(KV:zjJ)(hT:Tabs w)(H1:zbl 26 #[.agg #[.string s,.string t],.int .i64 6] (.bool false)) :
  Calls Tryz.prog 4 #[.agg #[.string s,.string t],.agg #[.string s2,.string t2],.agg #[.int .u8 A,.int .u8 B]] w fun e w'=>e = .returned (.bool true)∧Below w.heap.size w w':=by
 have HK:=Aa KV;have h1:=Aa H1;clear KV H1;have aC:Below w.heap.size w (((w.alloc (.cells #[.string s,.string t] 39)).alloc (.cells #[.string s2,.string t2] 39)).alloc (.cells #[.int .u8 A,.int .u8 B] 41)):=((((Below.refl _ _).alloc (by simp<;>omega) _).alloc (by simp<;>omega) _).alloc (by simp<;>omega) _);have aF:CBlk (((w.alloc (.cells #[.string s,.string t] 39)).alloc (.cells #[.string s2,.string t2] 39)).alloc (.cells #[.int .u8 A,.int .u8 B] 41)) (w.heap.size) #[.string s,.string t] 39:=(((CBlk.new _ _ _ _ (by simp)).alloc _).alloc _);have aL:CBlk (((w.alloc (.cells #[.string s,.string t] 39)).alloc (.cells #[.string s2,.string t2] 39)).alloc (.cells #[.int .u8 A,.int .u8 B] 41)) (w.heap.size+1) #[.string s2,.string t2] 39:=((CBlk.new _ _ _ _ (by simp)).alloc _);have aM:CBlk (((w.alloc (.cells #[.string s,.string t] 39)).alloc (.cells #[.string s2,.string t2] 39)).alloc (.cells #[.int .u8 A,.int .u8 B] 41)) (w.heap.size+2) #[.int .u8 A,.int .u8 B] 41:=(CBlk.new _ _ _ _ (by simp));go_enter Tryz.func4,Tryz.ntmps4
 go_wp2_with fail
 generalize (((w.alloc (.cells #[.string s,.string t] 39)).alloc (.cells #[.string s2,.string t2] 39)).alloc (.cells #[.int .u8 A,.int .u8 B] 41))=w1 at *;refine(HK.out w1 (hT.later aC)).mono ?_;rintro e w2 ⟨rfl,aE⟩;have aA:=(aF.via aE);have aK:w2.cell? ⟨w.heap.size,0,none⟩=some (.string s):=aA.cell 0;have aJ:w2.cell? ⟨w.heap.size,1,none⟩=some (.string t):=aA.cell 1
 go_wp2_with fail
 refine(h1.out w2).mono ?_;rintro e w4 ⟨rfl,aH⟩;clear aK aJ;have aD:=(bvia (bvia aC aE) aH)
 go_wp2_with fail
 refine(HK.out w4 (hT.later aD)).mono ?_;rintro e w6 ⟨rfl,aI⟩;have aG:=(bvia aD aI);go_wp2
 go_ret;exact⟨rfl,aG⟩
theorem zlH(s t s2 t2:ByteArray)(A B:Int)(w:World)(KV:zjJ)(hT:Tabs w)(H1:zbl 26 #[.agg #[.string s,.string t],.int .i64 6] (.bool true))(H2:zbl 26 #[.agg #[.string s2,.string t2],.int .i64 6] (.bool false)) :
  Calls Tryz.prog 4 #[.agg #[.string s,.string t],.agg #[.string s2,.string t2],.agg #[.int .u8 A,.int .u8 B]] w fun e w'=>e = .returned (.bool true)∧Below w.heap.size w w':=by
 have HK:=Aa KV;have h1:=Aa H1;have h2:=Aa H2;clear KV H1 H2;have aF:Below w.heap.size w (((w.alloc (.cells #[.string s,.string t] 39)).alloc (.cells #[.string s2,.string t2] 39)).alloc (.cells #[.int .u8 A,.int .u8 B] 41)):=((((Below.refl _ _).alloc (by simp<;>omega) _).alloc (by simp<;>omega) _).alloc (by simp<;>omega) _);have aH:CBlk (((w.alloc (.cells #[.string s,.string t] 39)).alloc (.cells #[.string s2,.string t2] 39)).alloc (.cells #[.int .u8 A,.int .u8 B] 41)) (w.heap.size) #[.string s,.string t] 39:=(((CBlk.new _ _ _ _ (by simp)).alloc _).alloc _);have aK:CBlk (((w.alloc (.cells #[.string s,.string t] 39)).alloc (.cells #[.string s2,.string t2] 39)).alloc (.cells #[.int .u8 A,.int .u8 B] 41)) (w.heap.size+1) #[.string s2,.string t2] 39:=((CBlk.new _ _ _ _ (by simp)).alloc _);have aQ:CBlk (((w.alloc (.cells #[.string s,.string t] 39)).alloc (.cells #[.string s2,.string t2] 39)).alloc (.cells #[.int .u8 A,.int .u8 B] 41)) (w.heap.size+2) #[.int .u8 A,.int .u8 B] 41:=(CBlk.new _ _ _ _ (by simp));go_enter Tryz.func4,Tryz.ntmps4
 go_wp2_with fail
 generalize (((w.alloc (.cells #[.string s,.string t] 39)).alloc (.cells #[.string s2,.string t2] 39)).alloc (.cells #[.int .u8 A,.int .u8 B] 41))=w1 at *;refine(HK.out w1 (hT.later aF)).mono ?_;rintro e w2 ⟨rfl,aA⟩;have aC:=(aH.via aA);have aM:w2.cell? ⟨w.heap.size,0,none⟩=some (.string s):=aC.cell 0;have aN:w2.cell? ⟨w.heap.size,1,none⟩=some (.string t):=aC.cell 1
 go_wp2_with fail
 refine(h1.out w2).mono ?_;rintro e w4 ⟨rfl,aE⟩;clear aM aN;have aG:=((aK.via aA).via aE);have aP:w4.cell? ⟨w.heap.size+1,0,none⟩=some (.string s2):=aG.cell 0;have aJ:w4.cell? ⟨w.heap.size+1,1,none⟩=some (.string t2):=aG.cell 1
 go_wp2_with fail
 refine(h2.out w4).mono ?_;rintro e w6 ⟨rfl,aO⟩;clear aP aJ;have aD:=(bvia (bvia (bvia aF aA) aE) aO)
 go_wp2_with fail
 refine(HK.out w6 (hT.later aD)).mono ?_;rintro e w8 ⟨rfl,aI⟩;have aL:=(bvia aD aI);go_wp2
 go_ret;exact⟨rfl,aL⟩
end Go.Proofs.YtmkondcdejlhcaaGreatDoor
