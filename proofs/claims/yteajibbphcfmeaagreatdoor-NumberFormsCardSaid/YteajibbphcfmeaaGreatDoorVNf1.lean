/- The reference's IsName and Large, the law's num; Of with a negative denominator. -/
import Derived.Test.YteajibbphcfmeaaGreatDoorVStr1
import Derived.Test.YteajibbphcfmeaaGreatDoorVRb24
import Derived.Test.YteajibbphcfmeaaGreatDoorVKn7
import Derived.Test.YteajibbphcfmeaaGreatDoorVRb11
namespace Go.Proofs.YteajibbphcfmeaaGreatDoor
open Go.RowKit Bn Dn
set_option maxHeartbeats 4000000 in
set_option maxRecDepth 100000 in
theorem zcU (s:ByteArray) (w:World) (hs:s.size≤9223372036854775807) :
  Calls Tryz.prog 28 #[.string s] w fun e w'=>e = .returned (.bool (zc7 s.data.toList))∧w=w':=by
 have aE:s.data.toList.length=s.size:=by simp
 obtain ⟨R,hR⟩:∃ R,R=zc7 s.data.toList:=⟨_,rfl⟩
 rw [←hR]
 by_cases h0:s.size<1
 ·have d1:decide ((s.size:Int)<1)=true:=decide_eq_true (by omega)
  have HV:Hid (R=false):=by
   have:s.data.toList=[]:=List.eq_nil_of_length_eq_zero (by omega)
   show R=false
   rw [hR,this];rfl
  clear h0 hR aE
  go_enter Tryz.func28,Tryz.ntmps28
  go_wp2
  go_ret
  exact ⟨by rw [HV.out];rfl,rfl⟩
 have d1:decide ((s.size:Int)<1)=false:=decide_eq_false (by omega)
 by_cases h24:24<s.size
 ·have d2:decide ((24:Int)<(s.size:Int))=true:=decide_eq_true (by omega)
  have HV:Hid (R=false):=by
   show R=false
   rw [hR]
   unfold zc7
   rw [decide_eq_false (show ¬ s.data.toList.length≤24 by omega)]
   simp
  clear h0 h24 hR aE
  go_enter Tryz.func28,Tryz.ntmps28
  go_wp2
  go_ret
  exact ⟨by rw [HV.out];rfl,rfl⟩
 have d2:decide ((24:Int)<(s.size:Int))=false:=decide_eq_false (by omega)
 have aD:Hid (R=zda true s.data.toList):=by
  show R=zda true s.data.toList
  rw [hR]
  unfold zc7
  rw [decide_eq_true (show s.data.toList.length≤24 by omega),decide_eq_true (show s.data.toList≠[] from fun e=>by rw [e] at aE;simp at aE;omega)]
  rfl
 have aI:=Lib.hid aE
 have aF:=Lib.hid h24
 clear hR aE h0 h24
 go_enter Tryz.func28,Tryz.ntmps28
 go_wp2
 go_loop [3] (fun v=>∃ k:Nat,k≤s.size∧v = .int .i64 k∧Hid (zda true s.data.toList=zda (decide (k=0)) (s.data.toList.drop k))) (fun v=>s.size - (intOf v).toNat)
 case atStart=>exact ⟨0,Nat.zero_le _,rfl,rfl⟩
 case round=>
  obtain ⟨k,hk,rfl,hv⟩:=hrel
  by_cases hlt:k<s.size
  ·have aG:=zfU (decide (k=0)) s k hlt
   have aC:0≤((s[k]'hlt).toNat:Int)∧((s[k]'hlt).toNat:Int)≤255:=by have:=(s[k]'hlt).toNat_lt;omega
   have aH:=hv.out.trans aG
   generalize aJ:((s[k]'hlt).toNat:Int)=c at *
   have HX:=Lib.hid aH
   have aL:=Lib.hid aJ
   have aK:wrap64 ((k:Int)+1)=((k+1:Nat):Int):=by rw [IntWalk.wrap64_in _ (by have:=aF.out;omega)];omega
   clear aG aH hv
   rcases (show c<48∨(48≤c∧c≤57)∨(58≤c∧c≤64)∨(65≤c∧c≤90)∨(91≤c∧c≤94)∨c=95∨c=96∨(97≤c∧c≤122)∨123≤c by omega) with hr | hr | hr | hr | hr | hr | hr | hr | hr
   ·have e0:decide (97≤c)=false:=decide_eq_false (by omega);have e1:decide (c≤122)=true:=decide_eq_true (by omega);have e2:decide (65≤c)=false:=decide_eq_false (by omega);have e3:decide (c≤90)=true:=decide_eq_true (by omega);have e4:decide (48≤c)=false:=decide_eq_false (by omega);have e5:decide (c≤57)=true:=decide_eq_true (by omega)
    have e6:(c==95)=false:=by rw [beq_eq_false_iff_ne];omega
    have e7:decide (c=95)=false:=decide_eq_false (by omega)
    have HN:Hid (∀ f:Bool,zbM f c=false):=fun f=>by unfold zbM letB digB;rw [e0,e1,e2,e3,e4,e5,e7];cases f<;>rfl
    clear hr aC
    have HV:Hid (R=false):=by show R=false;rw [aD.out,HX.out,HN.out];rfl
    rcases Nat.eq_zero_or_pos k with aA | aA
    case' inl=>have e8:((k:Int)==0)=true:=by rw [aA];rfl
    case' inr=>have e8:((k:Int)==0)=false:=by rw [beq_eq_false_iff_ne];omega
    all_goals
     clear aA
     go_wp2
     go_ret
     exact ⟨by rw [HV.out];rfl,rfl⟩
   ·have e0:decide (97≤c)=false:=decide_eq_false (by omega);have e1:decide (c≤122)=true:=decide_eq_true (by omega);have e2:decide (65≤c)=false:=decide_eq_false (by omega);have e3:decide (c≤90)=true:=decide_eq_true (by omega);have e4:decide (48≤c)=true:=decide_eq_true (by omega);have e5:decide (c≤57)=true:=decide_eq_true (by omega)
    have e6:(c==95)=false:=by rw [beq_eq_false_iff_ne];omega
    have e7:decide (c=95)=false:=decide_eq_false (by omega)
    have HN:Hid (∀ f:Bool,zbM f c = !f):=fun f=>by unfold zbM letB digB;rw [e0,e1,e2,e3,e4,e5,e7];cases f<;>rfl
    clear hr aC
    rcases Nat.eq_zero_or_pos k with aA | aA
    ·have e8:((k:Int)==0)=true:=by rw [aA];rfl
     have HV:Hid (R=false):=by show R=false;rw [aD.out,HX.out,HN.out,decide_eq_true aA];rfl
     clear aA
     go_wp2
     go_ret
     exact ⟨by rw [HV.out];rfl,rfl⟩
    ·have e8:((k:Int)==0)=false:=by rw [beq_eq_false_iff_ne];omega
     have HK:=Lib.hid aA
     clear aA
     go_wp2
     go_round
     case rel=>exact ⟨k+1,by omega,by go_num,by show _=_;rw [HX.out,HN.out,decide_eq_false (show ¬ (k=0) by have:=HK.out;omega),decide_eq_false (show ¬ (k+1=0) by omega)];rfl⟩
     case measure=>simp [intOf];omega
   ·have e0:decide (97≤c)=false:=decide_eq_false (by omega);have e1:decide (c≤122)=true:=decide_eq_true (by omega);have e2:decide (65≤c)=false:=decide_eq_false (by omega);have e3:decide (c≤90)=true:=decide_eq_true (by omega);have e4:decide (48≤c)=true:=decide_eq_true (by omega);have e5:decide (c≤57)=false:=decide_eq_false (by omega)
    have e6:(c==95)=false:=by rw [beq_eq_false_iff_ne];omega
    have e7:decide (c=95)=false:=decide_eq_false (by omega)
    have HN:Hid (∀ f:Bool,zbM f c=false):=fun f=>by unfold zbM letB digB;rw [e0,e1,e2,e3,e4,e5,e7];cases f<;>rfl
    clear hr aC
    have HV:Hid (R=false):=by show R=false;rw [aD.out,HX.out,HN.out];rfl
    rcases Nat.eq_zero_or_pos k with aA | aA
    case' inl=>have e8:((k:Int)==0)=true:=by rw [aA];rfl
    case' inr=>have e8:((k:Int)==0)=false:=by rw [beq_eq_false_iff_ne];omega
    all_goals
     clear aA
     go_wp2
     go_ret
     exact ⟨by rw [HV.out];rfl,rfl⟩
   ·have e0:decide (97≤c)=false:=decide_eq_false (by omega);have e1:decide (c≤122)=true:=decide_eq_true (by omega);have e2:decide (65≤c)=true:=decide_eq_true (by omega);have e3:decide (c≤90)=true:=decide_eq_true (by omega);have e4:decide (48≤c)=true:=decide_eq_true (by omega);have e5:decide (c≤57)=false:=decide_eq_false (by omega)
    have e6:(c==95)=false:=by rw [beq_eq_false_iff_ne];omega
    have e7:decide (c=95)=false:=decide_eq_false (by omega)
    have HN:Hid (∀ f:Bool,zbM f c=true):=fun f=>by unfold zbM letB digB;rw [e0,e1,e2,e3,e4,e5,e7];cases f<;>rfl
    clear hr aC
    go_wp2
    go_round
    case rel=>exact ⟨k+1,by omega,by go_num,by show _=_;rw [HX.out,HN.out,Bool.true_and,decide_eq_false (show ¬ (k+1=0) by omega)]⟩
    case measure=>simp [intOf];omega
   ·have e0:decide (97≤c)=false:=decide_eq_false (by omega);have e1:decide (c≤122)=true:=decide_eq_true (by omega);have e2:decide (65≤c)=true:=decide_eq_true (by omega);have e3:decide (c≤90)=false:=decide_eq_false (by omega);have e4:decide (48≤c)=true:=decide_eq_true (by omega);have e5:decide (c≤57)=false:=decide_eq_false (by omega)
    have e6:(c==95)=false:=by rw [beq_eq_false_iff_ne];omega
    have e7:decide (c=95)=false:=decide_eq_false (by omega)
    have HN:Hid (∀ f:Bool,zbM f c=false):=fun f=>by unfold zbM letB digB;rw [e0,e1,e2,e3,e4,e5,e7];cases f<;>rfl
    clear hr aC
    have HV:Hid (R=false):=by show R=false;rw [aD.out,HX.out,HN.out];rfl
    rcases Nat.eq_zero_or_pos k with aA | aA
    case' inl=>have e8:((k:Int)==0)=true:=by rw [aA];rfl
    case' inr=>have e8:((k:Int)==0)=false:=by rw [beq_eq_false_iff_ne];omega
    all_goals
     clear aA
     go_wp2
     go_ret
     exact ⟨by rw [HV.out];rfl,rfl⟩
   ·have e0:decide (97≤c)=false:=decide_eq_false (by omega);have e1:decide (c≤122)=true:=decide_eq_true (by omega);have e2:decide (65≤c)=true:=decide_eq_true (by omega);have e3:decide (c≤90)=false:=decide_eq_false (by omega);have e4:decide (48≤c)=true:=decide_eq_true (by omega);have e5:decide (c≤57)=false:=decide_eq_false (by omega)
    have e6:(c==95)=true:=by simp [hr]
    have e7:decide (c=95)=true:=decide_eq_true (by omega)
    have HN:Hid (∀ f:Bool,zbM f c = !f):=fun f=>by unfold zbM letB digB;rw [e0,e1,e2,e3,e4,e5,e7];cases f<;>rfl
    clear hr aC
    rcases Nat.eq_zero_or_pos k with aA | aA
    ·have e8:((k:Int)==0)=true:=by rw [aA];rfl
     have HV:Hid (R=false):=by show R=false;rw [aD.out,HX.out,HN.out,decide_eq_true aA];rfl
     clear aA
     go_wp2
     go_ret
     exact ⟨by rw [HV.out];rfl,rfl⟩
    ·have e8:((k:Int)==0)=false:=by rw [beq_eq_false_iff_ne];omega
     have HK:=Lib.hid aA
     clear aA
     go_wp2
     go_round
     case rel=>exact ⟨k+1,by omega,by go_num,by show _=_;rw [HX.out,HN.out,decide_eq_false (show ¬ (k=0) by have:=HK.out;omega),decide_eq_false (show ¬ (k+1=0) by omega)];rfl⟩
     case measure=>simp [intOf];omega
   ·have e0:decide (97≤c)=false:=decide_eq_false (by omega);have e1:decide (c≤122)=true:=decide_eq_true (by omega);have e2:decide (65≤c)=true:=decide_eq_true (by omega);have e3:decide (c≤90)=false:=decide_eq_false (by omega);have e4:decide (48≤c)=true:=decide_eq_true (by omega);have e5:decide (c≤57)=false:=decide_eq_false (by omega)
    have e6:(c==95)=false:=by rw [beq_eq_false_iff_ne];omega
    have e7:decide (c=95)=false:=decide_eq_false (by omega)
    have HN:Hid (∀ f:Bool,zbM f c=false):=fun f=>by unfold zbM letB digB;rw [e0,e1,e2,e3,e4,e5,e7];cases f<;>rfl
    clear hr aC
    have HV:Hid (R=false):=by show R=false;rw [aD.out,HX.out,HN.out];rfl
    rcases Nat.eq_zero_or_pos k with aA | aA
    case' inl=>have e8:((k:Int)==0)=true:=by rw [aA];rfl
    case' inr=>have e8:((k:Int)==0)=false:=by rw [beq_eq_false_iff_ne];omega
    all_goals
     clear aA
     go_wp2
     go_ret
     exact ⟨by rw [HV.out];rfl,rfl⟩
   ·have e0:decide (97≤c)=true:=decide_eq_true (by omega);have e1:decide (c≤122)=true:=decide_eq_true (by omega);have e2:decide (65≤c)=true:=decide_eq_true (by omega);have e3:decide (c≤90)=false:=decide_eq_false (by omega);have e4:decide (48≤c)=true:=decide_eq_true (by omega);have e5:decide (c≤57)=false:=decide_eq_false (by omega)
    have e6:(c==95)=false:=by rw [beq_eq_false_iff_ne];omega
    have e7:decide (c=95)=false:=decide_eq_false (by omega)
    have HN:Hid (∀ f:Bool,zbM f c=true):=fun f=>by unfold zbM letB digB;rw [e0,e1,e2,e3,e4,e5,e7];cases f<;>rfl
    clear hr aC
    go_wp2
    go_round
    case rel=>exact ⟨k+1,by omega,by go_num,by show _=_;rw [HX.out,HN.out,Bool.true_and,decide_eq_false (show ¬ (k+1=0) by omega)]⟩
    case measure=>simp [intOf];omega
   ·have e0:decide (97≤c)=true:=decide_eq_true (by omega);have e1:decide (c≤122)=false:=decide_eq_false (by omega);have e2:decide (65≤c)=true:=decide_eq_true (by omega);have e3:decide (c≤90)=false:=decide_eq_false (by omega);have e4:decide (48≤c)=true:=decide_eq_true (by omega);have e5:decide (c≤57)=false:=decide_eq_false (by omega)
    have e6:(c==95)=false:=by rw [beq_eq_false_iff_ne];omega
    have e7:decide (c=95)=false:=decide_eq_false (by omega)
    have HN:Hid (∀ f:Bool,zbM f c=false):=fun f=>by unfold zbM letB digB;rw [e0,e1,e2,e3,e4,e5,e7];cases f<;>rfl
    clear hr aC
    have HV:Hid (R=false):=by show R=false;rw [aD.out,HX.out,HN.out];rfl
    rcases Nat.eq_zero_or_pos k with aA | aA
    case' inl=>have e8:((k:Int)==0)=true:=by rw [aA];rfl
    case' inr=>have e8:((k:Int)==0)=false:=by rw [beq_eq_false_iff_ne];omega
    all_goals
     clear aA
     go_wp2
     go_ret
     exact ⟨by rw [HV.out];rfl,rfl⟩
  ·obtain rfl:k=s.size:=by omega
   have HV:Hid (R=true):=by
    show R=true
    rw [aD.out,hv.out,List.drop_eq_nil_of_le (by rw [aI.out];exact Nat.le_refl _)]
    rfl
   clear hv
   go_wp2
   go_ret
   exact ⟨by rw [HV.out];rfl,rfl⟩
set_option maxHeartbeats 4000000 in
set_option maxRecDepth 100000 in
theorem zjt (a:ByteArray) (p:Q) (w:World) (h:NumQ a p) (ha:a.size≤1000000) :
    Calls Tryz.prog 72 #[.string a] w fun e w'=>e = .returned (.int .i64 (zao p))∧Below w.heap.size w w':=by
  have hW:zao p=if 600<(Lib.decDigits p.top).length∨600<(Lib.decDigits p.bot).length then 4 else 0:=by
    unfold zao
    rw [if_neg (by have:=h.2.1;omega)]
  have aK:LowQ (numQ p):=⟨Nat.one_pos,Nat.gcd_one_right _,h.2.2.2⟩
  have aC:∀ t:ByteArray,NumQ t (absQ (numQ p))→t.size=(Lib.decDigits p.top).length:=fun t ht=>by
    have h9:=congrArg List.length ht.1
    rw [Array.length_toList] at h9
    rw [show t.size=t.data.size from rfl,h9]
    unfold zbU absQ numQ
    simp
  have HN:=Lib.hid (fun W=>zn6 a p W h (by omega))
  have HA:=Lib.hid (fun (s:ByteArray) (hs:NumQ s (numQ p)) (hz:s.size≤1000000) (W:World)=>zoi s (numQ p) W hs hz)
  have HD:=Lib.hid (fun W=>zot a p W h (by omega))
  have aA:=Lib.hid aC
  obtain ⟨L1,aF⟩:∃ L1,L1=(Lib.decDigits p.top).length:=⟨_,rfl⟩
  obtain ⟨L2,aE⟩:∃ L2,L2=(Lib.decDigits p.bot).length:=⟨_,rfl⟩
  obtain ⟨E,hE⟩:∃ E,E=zao p:=⟨_,rfl⟩
  rw [←aF] at aA
  rw [←aE] at HD
  rw [←hE]
  have aD:(600<L1∧E=4)∨(¬ 600<L1∧600<L2∧E=4)∨(¬ 600<L1∧¬ 600<L2∧E=0):=by
    rw [hE,hW,←aF,←aE]
    by_cases h1:600<L1
    · exact .inl ⟨h1,if_pos (.inl h1)⟩
    · by_cases h2:600<L2
      · exact .inr (.inl ⟨h1,h2,if_pos (.inr h2)⟩)
      · exact .inr (.inr ⟨h1,h2,if_neg (fun h=>by omega)⟩)
  clear hW aK aC aF aE hE h
  rcases aD with ⟨h1,rfl⟩ | ⟨h1,h2,rfl⟩ | ⟨h1,h2,rfl⟩
  case' inl=>have d1:decide ((600:Int)<(L1:Int))=true:=decide_eq_true (by omega)
  case' inr.inl=>have d1:decide ((600:Int)<(L1:Int))=false:=decide_eq_false (by omega)
  case' inr.inl=>have d2:decide ((600:Int)<(L2:Int))=true:=decide_eq_true (by omega)
  case' inr.inr=>have d1:decide ((600:Int)<(L1:Int))=false:=decide_eq_false (by omega)
  case' inr.inr=>have d2:decide ((600:Int)<(L2:Int))=false:=decide_eq_false (by omega)
  all_goals
    go_enter Tryz.func72,Tryz.ntmps72
    go_wp2_with fail
    refine (HN.out w).mono ?_
    rintro e w1 ⟨⟨s,rfl,aH,aL⟩,rfl⟩
    have HS:=Lib.hid aH
    clear aH
    go_wp2_with fail
    refine (HA.out s HS.out (by omega) w).mono ?_
    rintro e w3 ⟨⟨t,rfl,aG⟩,aJ⟩
    have aI:=aA.out t aG
    rw [←aI] at d1
    clear aG aI
    go_wp2_with fail
    first
      | (go_ret
         exact ⟨rfl,aJ⟩)
      | (refine (HD.out w3).mono ?_
         rintro e w4 ⟨⟨u,rfl,hu⟩,rfl⟩
         rw [←hu] at d2
         clear hu
         go_wp2
         go_ret
         exact ⟨rfl,aJ⟩)
theorem zgR (q:Q):zao q=0∨zao q=4∨zao q=6:=by
 unfold zao
 split
 ·exact .inr (.inr rfl)
 ·split
  ·exact .inr (.inl rfl)
  ·exact .inl rfl
set_option maxHeartbeats 4000000 in
set_option maxRecDepth 100000 in
theorem zib (s t:ByteArray) (q:Q) (w:World) (hs:s.data.toList=za0 q) (ht:NumQ t q) (hz:t.size≤1000000) :
  Calls Tryz.prog 17 #[.string s,.int .i64 (zao q),.int .i64 0,.string t] w fun e w'=>e = .returned (.bool true)∧Below w.heap.size w w':=by
 have HL:=Lib.hid (zjt t q w ht hz)
 have hc:zao q=0∨zao q=4:=by
  rcases zgR q with h | h | h
  ·exact .inl h
  ·exact .inr h
  ·exfalso
   unfold zao at h
   rw [if_neg (by have:=ht.2.1;omega)] at h
   split at h<;>omega
 unfold za0 at hs
 rcases hc with h | h
 ·rw [if_pos h] at hs
  rw [h] at HL ⊢
  obtain rfl:s=t:=by
   obtain ⟨⟨x⟩⟩:=s
   obtain ⟨⟨y⟩⟩:=t
   have e:x=y:=hs.trans ht.1.symm
   rw [e]
  clear hs h
  go_enter Tryz.func17,Tryz.ntmps17
  go_wp2_with fail
  refine HL.out.mono ?_
  rintro e w1 ⟨rfl,hb⟩
  go_wp2
  go_ret
  exact ⟨rfl,hb⟩
 ·rw [if_neg (by omega)] at hs
  rw [h] at HL ⊢
  obtain rfl:s=⟨#[]⟩:=by
   obtain ⟨⟨x⟩⟩:=s
   have e:x=[]:=hs
   rw [e]
  clear hs h
  go_enter Tryz.func17,Tryz.ntmps17
  go_wp2_with fail
  refine HL.out.mono ?_
  rintro e w1 ⟨rfl,hb⟩
  go_wp2
  go_ret
  exact ⟨rfl,hb⟩
set_option maxHeartbeats 4000000 in
set_option maxRecDepth 100000 in
theorem zgs (t:ByteArray) (E:Int) (w:World) (hE:E≠0) :
  Calls Tryz.prog 17 #[.string ⟨#[]⟩,.int .i64 E,.int .i64 E,.string t] w fun e w'=>e = .returned (.bool true)∧w=w':=by
 have d1:(E==0)=false:=by simpa using hE
 have d2:(E != 0)=true:=by simpa using hE
 have HE:=Lib.hid hE
 clear hE
 go_enter Tryz.func17,Tryz.ntmps17
 go_wp2
 go_ret
 exact ⟨by simp [go_sem],rfl⟩
end Go.Proofs.YteajibbphcfmeaaGreatDoor
namespace Go.Proofs.YteajibbphcfmeaaGreatDoor
open Go.RowKit
def zfS:Prop:=∀ W,Tabs W→Calls Tryz.prog 8 #[] W fun e w'=>e = .returned (.bool true)∧Below W.heap.size W w'
end Go.Proofs.YteajibbphcfmeaaGreatDoor
namespace Go.Proofs.YteajibbphcfmeaaGreatDoor
open Go.RowKit Bn Dn
set_option maxHeartbeats 4000000 in
set_option maxRecDepth 100000 in
theorem zm9 (zn yn:Int) (b:Bool) (x y:Nat) (w:World) (hzn:zn = -(sgn b x)) (hyn:yn = -(y:Int)) (hx:x≤4000000000000000000) (hy:y≤4000000000000000000) (hy0:0<y) :
  Calls Tryz.prog 29 #[.int .i64 zn,.int .i64 yn] w fun e w'=>(∃ s:ByteArray,e = .returned (.string s)∧s.data.toList=zbU (zd2 (sgn b x) y))∧Below w.heap.size w w':=by
 rw [zlB b x y hy0]
 obtain ⟨g,hg⟩:∃ g,g=Nat.gcd x y:=⟨_,rfl⟩
 have aU:0<g:=by rw [hg];exact Nat.gcd_pos_of_pos_right _ hy0
 have aR:g≤y:=by rw [hg];exact Nat.gcd_le_right _ hy0
 have HC:=ziC x y w hx hy
 rw [←hg] at HC ⊢
 obtain ⟨X,hX⟩:∃ X,X=x / g:=⟨_,rfl⟩
 obtain ⟨Y,hY⟩:∃ Y,Y=y / g:=⟨_,rfl⟩
 obtain ⟨z,hz⟩:∃ z,z=sgn b x:=⟨_,rfl⟩
 obtain ⟨z1,aD⟩:∃ z1,z1=sgn b X:=⟨_,rfl⟩
 have bI:X≤x:=by rw [hX];exact Nat.div_le_self _ _
 have bJ:Y≤y:=by rw [hY];exact Nat.div_le_self _ _
 have bM:0<Y:=by rw [hY];exact Nat.div_pos aR aU
 have aW:z=(x:Int)∨z = -(x:Int):=by rw [hz];unfold sgn;cases b<;>simp
 have aG:z1=(X:Int)∨z1 = -(X:Int):=by rw [aD];unfold sgn;cases b<;>simp
 have f1:Int.tdiv z (g:Int)=z1:=by
  have h9:Int.tdiv (x:Int) (g:Int)=(X:Int):=by rw [Int.tdiv_eq_ediv_of_nonneg (by omega),←Int.natCast_ediv,←hX]
  rw [hz,aD]
  unfold sgn
  cases b
  ·simp [h9]
  ·simp [Int.neg_tdiv,h9]
 have f2:Int.tdiv (y:Int) (g:Int)=(Y:Int):=by rw [Int.tdiv_eq_ediv_of_nonneg (by omega),←Int.natCast_ediv,←hY]
 have f3:IntKind.i64.wrap z1=z1:=IntWalk.i64_in _ (by omega)
 have f4:IntKind.i64.wrap (Y:Int)=(Y:Int):=IntWalk.i64_in _ (by omega)
 have f5:((g:Int)==0)=false:=by rw [beq_eq_false_iff_ne];omega
 rw [←hX,←hY]
 rw [←hz] at hzn
 rw [←aD]
 have em:max z (-z)=(x:Int):=by omega
 have bD:max z1 (-z1)=(X:Int):=by omega
 have d1:decide (zn < -4000000000000000000)=false:=by simp<;>omega
 have d2:decide (4000000000000000000<zn)=false:=by simp<;>omega
 have d3:decide (yn < -4000000000000000000)=false:=by simp only [decide_eq_false_iff_not];omega
 have d4:decide ((4000000000000000000:Int)<yn)=false:=by simp only [decide_eq_false_iff_not];omega
 have d5:decide (yn<0)=true:=decide_eq_true (by omega)
 have f6:wrap64 (-zn)=z:=by rw [IntWalk.wrap64_in _ (by omega)];omega
 have f7:wrap64 (-yn)=(y:Int):=by rw [IntWalk.wrap64_in _ (by omega)];omega
 have f8:wrap64 (0 - zn)=z:=by rw [IntWalk.wrap64_in _ (by omega)];omega
 have f9:wrap64 (0 - yn)=(y:Int):=by rw [IntWalk.wrap64_in _ (by omega)];omega
 have aV : -4000000000000000000≤z:=by omega
 have aY:z≤4000000000000000000:=by omega
 have aN : -4000000000000000000≤z1:=by omega
 have aS:z1≤4000000000000000000:=by omega
 have bL:X≤4000000000000000000:=by omega
 have bK:Y≤4000000000000000000:=by omega
 have bB:=Lib.hid HC
 clear HC hg hX hY hz aD aW aG aR hzn hyn
 have bA:=Lib.hid (fun W=>zbA X 1 W (by omega) (by omega))
 have aX:=Lib.hid (fun W=>zbA Y 1 W (by omega) (by omega))
 have aO:(Lib.decDigits X).length≤19:=Dec.dec_length_le (by omega) (by have e:(10:Nat) ^ 19=10000000000000000000:=(by decide);omega)
 have aK:(Lib.decDigits Y).length≤19:=Dec.dec_length_le (by omega) (by have e:(10:Nat) ^ 19=10000000000000000000:=(by decide);omega)
 have bC:=Lib.hid aO
 have bE:=Lib.hid aK
 clear aO aK
 go_enter Tryz.func29,Tryz.ntmps29
 go_wp2_with fail
 refine bB.out.mono ?_
 rintro e w1 ⟨rfl,aM⟩
 clear em d1 d2 d3 d4 d5
 go_upto_region 6 with (fail)
 go_quiet (fail)
 clear f1 f2 f3 f4 f6 f7 f8 f9
 have aJ:=zab aM
 generalize aQ:w1.drewN _=w2 at *
 have aP:Below w.heap.size w w2:=by rw [←aQ];exact aJ _
 clear aJ aQ aM
 have aI:∀ s:ByteArray,s.data.toList=Lib.decDigits X→s.size≤19:=fun s hs=>by
  have h9:s.data.toList.length=s.size:=Array.length_toList
  rw [hs] at h9
  have:=bC.out
  omega
 have aL:∀ s:ByteArray,s.data.toList=Lib.decDigits Y→s.size≤19:=fun s hs=>by
  have h9:s.data.toList.length=s.size:=Array.length_toList
  rw [hs] at h9
  have:=bE.out
  omega
 have bF:=Lib.hid aI
 have aT:=Lib.hid aL
 have bH:=Lib.hid bD
 clear aI aL
 by_cases hneg:z1<0
 case' pos=>have dn:decide (z1<0)=true:=by simpa using hneg
 case' neg=>have dn:decide (z1<0)=false:=by simpa using hneg
 case' pos=>obtain ⟨pr,aA⟩:∃ pr:List UInt8,pr=[45]:=⟨_,rfl⟩
 case' neg=>obtain ⟨pr,aA⟩:∃ pr:List UInt8,pr=[]:=⟨_,rfl⟩
 case' pos=>have aF:Hid (∀ l,sgnT (decide (z1<0)) l=[45]++l):=fun l=>by rw [dn];rfl
 case' neg=>have aF:Hid (∀ l,sgnT (decide (z1<0)) l=[]++l):=fun l=>by rw [dn];rfl
 all_goals
  go_wp2_with fail
  refine (bA.out w2).mono ?_
  rintro e w3 ⟨⟨s,rfl,hs⟩,hw⟩
  obtain rfl:w2=w3:=hw
  rw [zdV] at hs
  have bG:=bF.out s hs
  have HS:=Lib.hid hs
  clear hs
  by_cases hY1:Y=1
  ·have dy:decide ((1:Int)<(Y:Int))=false:=by simp only [decide_eq_false_iff_not];omega
   have aH:=Lib.hid hY1
   clear hY1
   have HR:Hid (∀ t:ByteArray,t.data.toList=pr++s.data.toList→t.data.toList=zbU ⟨decide (z1<0),X,Y⟩):=fun t ht=>by
    rw [za9,if_pos aH.out,aF.out,List.append_nil,ht,aA,HS.out]
   have aC:=Lib.hid aA
   clear aA
   go_wp2
   go_ret
   exact ⟨⟨_,rfl,HR.out _ (by rw [aC.out];first | rfl | (rw [ByteArray.data_append,Array.toList_append];rfl))⟩,aP⟩
  ·have dy:decide ((1:Int)<(Y:Int))=true:=by simp only [decide_eq_true_eq];omega
   have aH:=Lib.hid hY1
   clear hY1
   have aC:=Lib.hid aA
   clear aA
   go_wp2_with fail
   refine (aX.out w2).mono ?_
   rintro e w3 ⟨⟨s2,rfl,aE⟩,hw⟩
   obtain rfl:w2=w3:=hw
   rw [zdV] at aE
   have aZ:=aT.out s2 aE
   have HR:Hid (∀ t:ByteArray,t.data.toList=(pr++s.data.toList)++[47]++s2.data.toList→t.data.toList=zbU ⟨decide (z1<0),X,Y⟩):=fun t ht=>by
    rw [za9,if_neg aH.out,aF.out,ht,aC.out,HS.out,aE,List.append_assoc]
    rfl
   clear aE
   go_wp2
   go_ret
   exact ⟨⟨_,rfl,HR.out _ (by rw [aC.out];simp only [ByteArray.data_append,Array.toList_append])⟩,aP⟩
end Go.Proofs.YteajibbphcfmeaaGreatDoor
namespace Go.Proofs.YteajibbphcfmeaaGreatDoor
open Go.RowKit Dn
set_option maxHeartbeats 1000000 in
theorem zjs (a:ByteArray) (p:Q) (w:World) (h:NumQ a p) (ha:a.size≤1000000) :
  Calls Tryz.prog 85 #[.string a] w fun e w'=>e = .returned (.bool (decide (p.bot=1)))∧w=w':=by
 obtain ⟨k,hk⟩:∃ k,k=(sgnT p.neg (Lib.decDigits p.top)).length:=⟨_,rfl⟩
 obtain ⟨p1,p2,p3⟩:=zd8 (t:=a) (l:=sgnT p.neg (Lib.decDigits p.top)) h.num hk
 have aC:zbp a.data.toList=k:=by rw [show a.data.toList=sgnT p.neg (Lib.decDigits p.top)++zcm p.bot from h.num,zcT _ _ (zdp (za8 p.top)),hk]
 have aA:=zbL a w (by omega)
 rw [aC] at aA
 have aD:=Lib.hid aA
 have hd:((k:Int)==(a.size:Int))=decide (p.bot=1):=by
  by_cases hy:p.bot=1
  ·rw [decide_eq_true hy,beq_iff_eq]
   have:=p2 hy
   omega
  ·rw [decide_eq_false hy,beq_eq_false_iff_ne]
   have:=(p3 hy).1
   omega
 generalize decide (p.bot=1)=v at *
 clear h hk p1 p2 p3 aC aA
 go_enter Tryz.func85,Tryz.ntmps85
 go_wp2_with fail
 refine aD.out.mono ?_
 rintro e w1 ⟨rfl,rfl⟩
 go_wp2
 go_ret
 exact ⟨rfl,rfl⟩
def zce (b:Bool) (x y:Nat):Int:=if b=true∧0<x % y then -((x / y:Nat):Int) - 1 else sgn b (x / y)
set_option maxHeartbeats 4000000 in
set_option maxRecDepth 100000 in
theorem zgC (b:Bool) (x y:Nat) (A1 A2:Option Addr) (n1 c1 n2 c2:Nat) (w:World) (h1:DigI w A1 n1 c1 (digs x)) (h2:DigI w A2 n2 c2 (digs y)) (hy:0<y) (k1:n1≤500000) (k2:n2≤500000) :
  Calls Tryz.prog 87 #[.agg #[.bool b,.slice A1 n1 c1],.agg #[.bool false,.slice A2 n2 c2]] w (RetZ w (zce b x y)):=by
 have aD:Below w.heap.size w (((w.alloc (.cells #[.bool b,.slice A1 n1 c1] 84)).alloc (.cells #[.bool false,.slice A2 n2 c2] 84)).alloc (.cells #[.bool false,.slice none 0 0] 84)):=(((Below.refl _ _).alloc (Nat.le_refl _) _).alloc (by simp) _).alloc (by simp;omega) _
 have q0:CBlk (((w.alloc (.cells #[.bool b,.slice A1 n1 c1] 84)).alloc (.cells #[.bool false,.slice A2 n2 c2] 84)).alloc (.cells #[.bool false,.slice none 0 0] 84)) w.heap.size #[.bool b,.slice A1 n1 c1] 84:=((CBlk.new w _ _ _ rfl).below ((Below.refl _ _).alloc (Nat.le_refl _) _) (by simp)).below ((Below.refl _ _).alloc (Nat.le_refl _) _) (by simp;omega)
 have q1:CBlk (((w.alloc (.cells #[.bool b,.slice A1 n1 c1] 84)).alloc (.cells #[.bool false,.slice A2 n2 c2] 84)).alloc (.cells #[.bool false,.slice none 0 0] 84)) (w.heap.size+1) #[.bool false,.slice A2 n2 c2] 84:=(CBlk.new (w.alloc (.cells #[.bool b,.slice A1 n1 c1] 84)) _ _ (w.heap.size+1) (by simp)).below ((Below.refl _ _).alloc (Nat.le_refl _) _) (by simp)
 have q2:CBlk (((w.alloc (.cells #[.bool b,.slice A1 n1 c1] 84)).alloc (.cells #[.bool false,.slice A2 n2 c2] 84)).alloc (.cells #[.bool false,.slice none 0 0] 84)) (w.heap.size+1+1) #[.bool false,.slice none 0 0] 84:=CBlk.new ((w.alloc (.cells #[.bool b,.slice A1 n1 c1] 84)).alloc (.cells #[.bool false,.slice A2 n2 c2] 84)) _ _ (w.heap.size+1+1) (by simp)
 have d1:=h1.later aD
 have d2:=h2.later aD
 have aS:=Lib.hid (zdA A1 A2 n1 c1 n2 c2 x y (((w.alloc (.cells #[.bool b,.slice A1 n1 c1] 84)).alloc (.cells #[.bool false,.slice A2 n2 c2] 84)).alloc (.cells #[.bool false,.slice none 0 0] 84)) d1 d2 hy (by omega) (by omega))
 have x0:=q0.cell 0
 have x1:=q0.cell 1
 have y0:=q1.cell 0
 have y1:=q1.cell 1
 have bD:=h1.len
 have bB:=zaa (Nat.div_le_self x y)
 have aM:Hid ((digs (x / y)).length≤500000):=by show _≤_;omega
 clear d1 d2 h1 h2 bD bB
 obtain ⟨r,hr⟩:∃ r,r=x % y:=⟨_,rfl⟩
 obtain ⟨qq,aN⟩:∃ qq,qq=x / y:=⟨_,rfl⟩
 have HF:Hid (zce b x y=if b=true∧0<r then -(qq:Int) - 1 else sgn b qq):=by show _=_;unfold zce;rw [hr,aN]
 have aQ:=Lib.hid hr
 have aP:=Lib.hid aN
 rw [←aN] at aM
 clear hr aN
 have aJ:b=false∨(b=true∧r=0)∨(b=true∧0<r):=by cases b<;>simp<;>omega
 rcases aJ with rfl | ⟨rfl,aR⟩ | ⟨rfl,aR⟩
 ·have HZ:Hid (zce false x y=sgn false qq):=by show zce _ x y=_;rw [HF.out];simp
  rw [HZ.out]
  go_enter Tryz.func87,Tryz.ntmps87
  go_wp2_with fail
  generalize (((w.alloc (.cells #[.bool false,.slice A1 n1 c1] 84)).alloc (.cells #[.bool false,.slice A2 n2 c2] 84)).alloc (.cells #[.bool false,.slice none 0 0] 84))=w3 at *
  refine aS.out.mono ?_
  rintro e w4 ⟨A3,n3,c3,A4,n4,c4,rfl,hq,aE,aA⟩
  rw [←aP.out] at hq
  rw [←aQ.out] at aE
  have p0:=q0.below aA q0.lt
  have p2:=q2.below aA q2.lt
  have aG:=aD.trans (aA.mono aD.size)
  have aW:n3≤500000:=by rw [←hq.len];exact aM.out
  have aO:=aE.len
  have aX:=p2
  have g0:=p0.cell 0
  clear x0 x1 y0 y1
  have aC:=zcl false A3 n3 c3 (digs qq) w4 hq (by omega)
  rw [zal] at aC
  generalize sgn false qq=z at *
  go_wp2_with fail
  refine aC.mono ?_
  rintro e w9 ⟨A9,n9,c9,rfl,aH,aF⟩
  have k9:=p2.below aF p2.lt
  have e0:=k9.cell 0
  have e1:=k9.cell 1
  have f0:=k9.frozen 0
  have f1:=k9.frozen 1
  have aK:=aG.trans (aF.mono aG.size)
  go_wp2_with fail
  refine bodyPost_ret (v := .agg #[.bool (decide (z<0)),.slice A9 n9 c9]) (by simp [results,Tryz.results87,go_sem,e0,e1]) rfl ?_
  exact ⟨A9,n9,c9,rfl,aH.box k9 _ _,zcy aK (by omega) _ _⟩
 ·have HZ:Hid (zce true x y=sgn true qq):=by show zce _ x y=_;rw [HF.out];rw [if_neg (by omega)]
  rw [HZ.out]
  go_enter Tryz.func87,Tryz.ntmps87
  go_wp2_with fail
  generalize (((w.alloc (.cells #[.bool false,.slice A1 n1 c1] 84)).alloc (.cells #[.bool false,.slice A2 n2 c2] 84)).alloc (.cells #[.bool false,.slice none 0 0] 84))=w3 at *
  refine aS.out.mono ?_
  rintro e w4 ⟨A3,n3,c3,A4,n4,c4,rfl,hq,aE,aA⟩
  rw [←aP.out] at hq
  rw [←aQ.out] at aE
  have p0:=q0.below aA q0.lt
  have p2:=q2.below aA q2.lt
  have aG:=aD.trans (aA.mono aD.size)
  have aW:n3≤500000:=by rw [←hq.len];exact aM.out
  have aO:=aE.len
  have aX:=p2
  have g0:=p0.cell 0
  clear x0 x1 y0 y1
  have aI:n4=0:=by rw [←aO,aR,digs_zero];rfl
  subst aI
  have d0:decide ((0:Int)<((0:Nat):Int))=false:=by decide
  have aC:=zcl true A3 n3 c3 (digs qq) w4 hq (by omega)
  rw [zal] at aC
  generalize sgn true qq=z at *
  go_wp2_with fail
  refine aC.mono ?_
  rintro e w9 ⟨A9,n9,c9,rfl,aH,aF⟩
  have k9:=p2.below aF p2.lt
  have e0:=k9.cell 0
  have e1:=k9.cell 1
  have f0:=k9.frozen 0
  have f1:=k9.frozen 1
  have aK:=aG.trans (aF.mono aG.size)
  go_wp2_with fail
  refine bodyPost_ret (v := .agg #[.bool (decide (z<0)),.slice A9 n9 c9]) (by simp [results,Tryz.results87,go_sem,e0,e1]) rfl ?_
  exact ⟨A9,n9,c9,rfl,aH.box k9 _ _,zcy aK (by omega) _ _⟩
 ·have HZ:Hid (zce true x y = -(qq:Int) - 1):=by show zce _ x y=_;rw [HF.out];simp;omega
  rw [HZ.out]
  go_enter Tryz.func87,Tryz.ntmps87
  go_wp2_with fail
  generalize (((w.alloc (.cells #[.bool false,.slice A1 n1 c1] 84)).alloc (.cells #[.bool false,.slice A2 n2 c2] 84)).alloc (.cells #[.bool false,.slice none 0 0] 84))=w3 at *
  refine aS.out.mono ?_
  rintro e w4 ⟨A3,n3,c3,A4,n4,c4,rfl,hq,aE,aA⟩
  rw [←aP.out] at hq
  rw [←aQ.out] at aE
  have p0:=q0.below aA q0.lt
  have p2:=q2.below aA q2.lt
  have aG:=aD.trans (aA.mono aD.size)
  have aW:n3≤500000:=by rw [←hq.len];exact aM.out
  have aO:=aE.len
  have aX:=p2
  have g0:=p0.cell 0
  clear x0 x1 y0 y1
  have aI:0<n4:=by rw [←aO];exact zan aR
  have d0:decide (0<(n4:Int))=true:=decide_eq_true (by omega)
  have aL:Below w4.heap.size w4 (w4.alloc (.cells #[.int .i64 1] 3)):=(Below.refl _ _).alloc (Nat.le_refl _) _
  have bC:=Lib.hid (zfy A3 (some ⟨w4.heap.size,0,none⟩) n3 c3 1 1 (digs qq) [1] (w4.alloc (.cells #[.int .i64 1] 3)) (hq.later aL) (DigI.one (CBlk.new w4 _ _ _ rfl) (by decide)) (by omega) (by omega))
  have pA:=p2.below aL p2.lt
  have pB:=p0.below aL p0.lt
  have aV:=aG.trans (aL.mono aG.size)
  go_wp2_with fail
  refine bC.out.mono ?_
  rintro e w5 ⟨A5,n5,c5,ls,rfl,aZ,bE,aY,aT⟩
  have pC:=pA.below aT pA.lt
  have pD:=pB.below aT pB.lt
  have aU:=aV.trans (aT.mono aV.size)
  clear g0
  have g0:=pD.cell 0
  have aC:=zcl true A5 n5 c5 ls w5 aZ (by omega)
  have bA:sgn true (val ls) = -(qq:Int) - 1:=by rw [aY,zal];unfold sgn;simp;omega
  rw [bA] at aC
  generalize -(qq:Int) - 1=z at *
  go_wp2_with fail
  refine aC.mono ?_
  rintro e w9 ⟨A9,n9,c9,rfl,aH,aF⟩
  have k9:=pC.below aF pC.lt
  have e0:=k9.cell 0
  have e1:=k9.cell 1
  have f0:=k9.frozen 0
  have f1:=k9.frozen 1
  have aK:=aU.trans (aF.mono aU.size)
  go_wp2_with fail
  refine bodyPost_ret (v := .agg #[.bool (decide (z<0)),.slice A9 n9 c9]) (by simp [results,Tryz.results87,go_sem,e0,e1]) rfl ?_
  exact ⟨A9,n9,c9,rfl,aH.box k9 _ _,zcy aK (by omega) _ _⟩
def zbI (p:Q):Int:=zce p.neg p.top p.bot
theorem zfY (b:Bool) (x y:Nat):(zce b x y).natAbs≤x+1:=by
 have h:=Nat.div_le_self x y
 unfold zce
 generalize x / y=t at *
 split
 ·omega
 ·rw [zec];omega
theorem zjP (x:Nat):(digs (x+1)).length≤(digs x).length+1:=by
 refine digs_length_le ?_
 have h:=zac x
 rw [Nat.pow_succ]
 have hB:2≤B:=by decide
 have:B ^ (digs x).length*2≤B ^ (digs x).length*B:=Nat.mul_le_mul_left _ hB
 omega
theorem zhx {p:Q} (h:LowQ p) (h1:p.bot=1):p=intQ (zbI p):=by
 obtain ⟨n,t,b⟩:=p
 dsimp only at h1
 subst h1
 unfold zbI zce
 dsimp only
 rw [Nat.mod_one,if_neg (by simp),Nat.div_one]
 unfold intQ
 rw [zec,zem]
 cases n
 ·rfl
 ·have:=h.2.2 rfl
  dsimp only at this
  rw [decide_eq_true this]
  rfl
set_option maxHeartbeats 2000000 in
set_option maxRecDepth 100000 in
theorem zim (a:ByteArray) (p:Q) (w:World) (h:NumQ a p) (ha:a.size≤100000) :
  Calls Tryz.prog 30 #[.string a] w (RetS w (intQ (zbI p))):=by
 have HW:=Lib.hid (zjs a p w h (by omega))
 by_cases h1:p.bot=1
 ·rw [decide_eq_true h1] at HW
  have HR:Hid (NumQ a (intQ (zbI p))):=by show NumQ a _;rw [←zhx h.2 h1];exact h
  clear h h1
  go_enter Tryz.func30,Tryz.ntmps30
  go_wp2_with fail
  refine HW.out.mono ?_
  rintro e w1 ⟨rfl,rfl⟩
  go_wp2
  go_ret
  exact ⟨⟨_,rfl,HR.out⟩,Below.refl _ _⟩
 ·rw [decide_eq_false h1] at HW
  have hp:=zet a p.neg p.top p.bot w h.num h.2.2.2 h.2.1 (by omega)
  have HP:=Lib.hid hp
  have hl:=h.num.lens2 ha
  have HL:=Lib.hid hl
  have HY:Hid (0<p.bot):=h.2.1
  obtain ⟨z,hz⟩:∃ z,z=zbI p:=⟨_,rfl⟩
  have HZ:Hid (zce p.neg p.top p.bot=z):=by show _=_;rw [hz];rfl
  have aH:Hid ((digs z.natAbs).length≤(digs p.top).length+1):=by
   show _≤_
   rw [hz]
   exact Nat.le_trans (zaa (zfY _ _ _)) (zjP _)
  have HR:Hid (∀ s:ByteArray,s.data.toList=sgnT (decide (z<0)) (Lib.decDigits z.natAbs)→NumQ s (intQ z)):=fun s hs=>⟨by rw [zkq];exact hs,zne z⟩
  have HN:Hid (decide (z<0)=true→0<z.natAbs):=fun h9=>by have h8:z<0:=of_decide_eq_true h9;show 0<z.natAbs;omega
  rw [←hz]
  clear hp hl h h1 hz
  go_enter Tryz.func30,Tryz.ntmps30
  go_wp2_with fail
  refine HW.out.mono ?_
  rintro e aI ⟨rfl,rfl⟩
  go_wp2_with fail
  refine HP.out.mono ?_
  rintro e w1 ⟨A1,n1,c1,A2,n2,c2,rfl,aE,aC,aA⟩
  have hB:Below w1.heap.size w1 ((w1.alloc (.cells #[.bool p.neg,.slice A1 n1 c1] 84)).alloc (.cells #[.bool false,.slice A2 n2 c2] 84)):=((Below.refl _ _).alloc (Nat.le_refl _) _).alloc (by simp) _
  have e1:n1≤100000:=by rw [←aE.len];exact HL.out.1
  have e2:n2≤100001:=by rw [←aC.len];exact HL.out.2
  have HF:=zgC p.neg p.top p.bot A1 A2 n1 c1 n2 c2 _ (aE.later hB) (aC.later hB) HY.out (by omega) (by omega)
  rw [HZ.out] at HF
  have HB:=Lib.hid (aA.trans (hB.mono aA.size))
  clear aE aC hB aA
  go_wp2_with fail
  refine HF.mono ?_
  rintro e w2 ⟨A5,n5,c5,rfl,aD,aF⟩
  have e5:n5≤100001:=by rw [←aD.len];exact Nat.le_trans aH.out (Nat.succ_le_succ HL.out.1)
  have HT:=Lib.hid (zk4 _ _ A5 n5 c5 w2 aD HN.out (by omega))
  clear aD
  go_wp2_with fail
  refine HT.out.mono ?_
  rintro e w3 ⟨⟨s,rfl,hs⟩,aG⟩
  go_wp2
  go_ret
  exact ⟨⟨s,rfl,HR.out s hs⟩,HB.out.trans ((aF.trans (aG.mono aF.size)).mono HB.out.size)⟩
end Go.Proofs.YteajibbphcfmeaaGreatDoor
