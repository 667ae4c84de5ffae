/- Plain facts: a voltage is below an edge, as the program decides it, if it is less than the edge. No program. -/
import Derived.Test.YtmkihdjolnlccaaGreatDoorQPr4
import Derived.Test.YtmkihdjolnlccaaGreatDoorQFloat
import Derived.Test.YtmkihdjolnlccaaGreatDoorQRb24
import Derived.Test.YtmkihdjolnlccaaGreatDoorQRat4
import Derived.Test.YtmkihdjolnlccaaGreatDoorQAd2
import Derived.Deep.RegionHeld3
namespace Go.Proofs.YtmkihdjolnlccaaGreatDoor
open Go.RowKit Bn
open Flt
theorem zhT {l:List UInt8} (h:zam l=0):Lib.hasPrefix l [45]=negL l:=by
 obtain ⟨h1,_,_,_⟩:=zbC h
 have ej:=ziG l
 unfold negL
 unfold topL at h1
 generalize (cutL l).1=a at *
 generalize (if (cutL l).2.2=true then 47 :: (cutL l).2.1 else [])=r at *
 cases a with
 | nil=>exact absurd h1 (by decide)
 | cons x t=>
  rw [ej]
  unfold Lib.hasPrefix
  simp [List.isPrefixOf]
theorem zga {l:List UInt8} (h:zam l=0):LowQ (zad l):=⟨zgk h,zok h,zoo h⟩
theorem zlw {l:List UInt8} (h:zam l=0):(zad l).neg=negL l:=by unfold zad;rw [if_pos h]
theorem zo8 {v:List UInt8} (hv:zam v=0):zbU v=if flX (zad v)=0 then flW (zad v) else if (zad v).neg=true then 4286578688 else 2139095040:=by
 have e1:floX v=flX (zad v):=by unfold floX;rw [if_neg (by simp [hv])]
 have e2:floW v=flW (zad v):=by unfold floW;rw [if_neg (by simp [hv])]
 unfold zbU
 rw [e1,e2,zhT hv,zlw hv]
theorem zpn:Ieee.single.read 4286578688 = .infinity true:=by decide +kernel
theorem zm0:Ieee.single.read 2139095040 = .infinity false:=by decide +kernel
theorem zbv:fin Ieee.single 0=true∧key Ieee.single 0=0:=by decide +kernel
theorem znm {x y:Nat} {s:Bool} (hx:Ieee.single.read x = .infinity s) (hy:fin Ieee.single y=true):Ieee.single.order x y=some (if s then .lt else .gt):=by
 unfold Ieee.Format.order
 rw [hx]
 unfold fin at hy
 cases h:Ieee.single.read y with
 | number a b c=>rfl
 | infinity a=>rw [h] at hy;cases hy
 | nan=>rw [h] at hy;cases hy
theorem ztX {t b n':Nat} {e':Int} (ht:0<t) (hb:0<b) (hr:Rnd n' e') (hn:0<n') (hR:rung n' e'<2139095040) :
  (flN t b=0→t*2 ^ 149<b*(n'*2 ^ (e'+149).toNat))∧(2139095040≤rung (flN t b) (flE t b)→b*(n'*2 ^ (e'+149).toNat)<t*2 ^ 149) ∧
   (flN t b*2 ^ (flE t b+149).toNat<n'*2 ^ (e'+149).toNat→t*2 ^ 149<b*(n'*2 ^ (e'+149).toNat)) ∧
   (n'*2 ^ (e'+149).toNat<flN t b*2 ^ (flE t b+149).toNat→b*(n'*2 ^ (e'+149).toNat)<t*2 ^ 149):=by
 have hle:=fun h=>zr7 ht hb hr (e':=e') h
 have hge:=fun h=>zr2 ht hb hr (e':=e') h
 have hn1:=(zeU ht hb).1
 have hv1:=fun h=>zkw hn1 hr h
 have hv2:=fun h=>zkw hr hn1 h
 have hlo:=hn1.lo
 generalize hx:b*(n'*2 ^ (e'+149).toNat)=X at *
 generalize hA:t*2 ^ 149=A at *
 refine ⟨fun h0 => ?_,fun h0 => ?_,fun h0 => ?_,fun h0 => ?_⟩
 ·rcases Nat.lt_or_ge A X with h | h
  ·exact h
  ·exfalso
   have h2:=hge h
   have h3:rung (flN t b) (flE t b)=0:=by
    rw [h0] at hlo ⊢
    unfold rung
    rcases hlo with hlo | hlo
    ·rw [hlo];rfl
    ·exact absurd hlo (by decide)
   have h4:n'≤rung n' e':=Nat.le_add_left _ _
   rw [h3] at h2
   omega
 ·rcases Nat.lt_or_ge X A with h | h
  ·exact h
  ·exfalso
   have h2:=hle h
   omega
 ·rcases Nat.lt_or_ge A X with h | h
  ·exact h
  ·exfalso
   have h2:=hv2 (hge h)
   omega
 ·rcases Nat.lt_or_ge X A with h | h
  ·exact h
  ·exfalso
   have h2:=hv1 (hle h)
   omega
end Go.Proofs.YtmkihdjolnlccaaGreatDoor
namespace Go.Proofs.YtmkihdjolnlccaaGreatDoor
open Go.RowKit Dn
set_option maxHeartbeats 1000000 in
theorem znO (n:Nat) (w:World) (hn:n≤60) :
  Calls Tryz.prog 154 #[.int .i64 (n:Int)] w fun e w'=>e = .returned (.int .i64 ((2 ^ n:Nat):Int))∧w=w':=by
 obtain ⟨P,hP⟩:∃ P,P=2 ^ n:=⟨_,rfl⟩
 have HP:=Lib.hid hP
 rw [←hP]
 clear hP
 go_enter Tryz.func154,Tryz.ntmps154
 go_wp2
 go_loop [3,4] (fun v i=>∃ p k:Nat,k≤n∧v = .int .i64 (p:Int)∧i = .int .i64 (k:Int)∧Hid (p=2 ^ k)) (fun _ i=>n - (intOf i).toNat)
 case atStart=>exact ⟨1,0,Nat.zero_le _,rfl,rfl,rfl⟩
 case round=>
  obtain ⟨p,k,hk,rfl,rfl,hv⟩:=hrel
  by_cases hlt:k<n
  ·have hp:=hv.out
   have hb:2 ^ k≤2 ^ 60:=Nat.pow_le_pow_right (by omega) (by omega)
   have e60:(2:Nat) ^ 60=1152921504606846976:=by decide
   rw [e60] at hb
   obtain ⟨pp,hpp⟩:∃ pp,pp=2*p:=⟨_,rfl⟩
   obtain ⟨kk,hkk⟩:∃ kk,kk=k+1:=⟨_,rfl⟩
   have f1:IntKind.i64.wrap (2*(p:Int))=(pp:Int):=by rw [IntWalk.i64_in _ (by omega)];omega
   have f2:IntKind.i64.wrap ((k:Int)+1)=(kk:Int):=by rw [IntWalk.i64_in _ (by omega)];omega
   have HV:Hid (pp=2 ^ kk):=by show pp=2 ^ kk;rw [hpp,hkk,hp,Nat.pow_succ,Nat.mul_comm]
   have hkn:kk≤n:=by omega
   have hdec:n - kk<n - k:=by omega
   have d1:decide (k<n)=true:=decide_eq_true hlt
   clear hp hb e60 hpp hkk hlt
   go_wp2
   go_round
   case rel=>exact ⟨pp,kk,hkn,rfl,rfl,HV.out⟩
   case measure=>simpa [intOf] using hdec
  ·have he:k=n:=by omega
   have HF:Hid (p=P):=by show p=P;rw [hv.out,HP.out,he]
   have d1:decide (k<n)=false:=decide_eq_false hlt
   clear he hv
   go_wp2
   go_ret
   exact ⟨by rw [HF.out];rfl,rfl⟩
set_option maxHeartbeats 1000000 in
theorem zpN (a:Nat) (st z:Int) (g o:Value) (w:World) (ha:a≤32) :
  Calls Tryz.prog 78 #[.agg #[.int .i64 a,.int .i64 st,.int .i64 z,g,o]] w fun e w'=>e = .returned (.int .i64 ((2 ^ a - 1:Nat):Int))∧Below w.heap.size w w':=by
 have hb:Below w.heap.size w (w.alloc (.cells #[.int .i64 a,.int .i64 st,.int .i64 z,g,o] 24)):=(Below.refl _ _).alloc (Nat.le_refl _) _
 have hp:2 ^ a≤2 ^ 32:=Nat.pow_le_pow_right (by omega) ha
 have e32:(2:Nat) ^ 32=4294967296:=by decide
 have hp0:=Nat.two_pow_pos a
 rw [e32] at hp
 have HPW:=Lib.hid (fun W=>znO a W (by omega))
 obtain ⟨P,hP⟩:∃ P,P=2 ^ a:=⟨_,rfl⟩
 obtain ⟨T,hT⟩:∃ T:Nat,T=2 ^ a - 1:=⟨_,rfl⟩
 have f1:IntKind.i64.wrap ((P:Int) - 1)=(T:Int):=by rw [IntWalk.i64_in _ (by omega)];omega
 rw [←hT]
 rw [←hP] at HPW
 clear hP hT hp hp0 e32
 go_enter Tryz.func78,Tryz.ntmps78
 go_wp2_with fail
 refine (HPW.out _).mono ?_
 rintro e w1 ⟨rfl,rfl⟩
 go_wp2
 go_ret
 exact ⟨rfl,hb⟩
set_option maxHeartbeats 1000000 in
theorem zgt (a:Nat) (st z c:Int) (g o:Value) (w:World) (ha:a≤32) :
  Calls Tryz.prog 73 #[.agg #[.int .i64 a,.int .i64 st,.int .i64 z,g,o],.int .i64 c] w fun e w'=>e = .returned (.int .i64 (zax c 0 ((2 ^ a - 1:Nat):Int)))∧Below w.heap.size w w':=by
 have hb:Below w.heap.size w (w.alloc (.cells #[.int .i64 a,.int .i64 st,.int .i64 z,g,o] 24)):=(Below.refl _ _).alloc (Nat.le_refl _) _
 have HT:=Lib.hid (zpN a st z g o (w.alloc (.cells #[.int .i64 a,.int .i64 st,.int .i64 z,g,o] 24)) ha)
 generalize ((2 ^ a - 1:Nat):Int)=T at *
 by_cases h0:c<0
 ·have hr:zax c 0 T=3:=by unfold zax;rw [if_pos (.inl h0)]
  rw [hr]
  have d0:decide (c<0)=true:=decide_eq_true h0
  clear hr h0
  go_enter Tryz.func73,Tryz.ntmps73
  go_wp2
  go_ret
  exact ⟨rfl,hb⟩
 ·have d0:decide (c<0)=false:=decide_eq_false h0
  have hcase:(decide (T<c)=true∧zax c 0 T=3)∨(decide (T<c)=false∧zax c 0 T=0):=by
   by_cases h1:T<c
   ·exact .inl ⟨decide_eq_true h1,by unfold zax;rw [if_pos (.inr h1)]⟩
   ·exact .inr ⟨decide_eq_false h1,by unfold zax;rw [if_neg (by omega)]⟩
  rcases hcase with ⟨d1,hr⟩ | ⟨d1,hr⟩
  all_goals
   rw [hr]
   clear hr h0
   go_enter Tryz.func73,Tryz.ntmps73
   go_wp2_with fail
   refine HT.out.mono ?_
   rintro e w1 ⟨rfl,hb1⟩
   have hB:=hb.trans (hb1.mono hb.size)
   go_wp2
   go_ret
   exact ⟨rfl,hB⟩
def adcE (a st z:Int) (g o:List UInt8):Int:=
 if zax a 8 12≠0 then 3 else if zax st (-20) 4≠0 then 3 else if zax z 0 ((2 ^ a.toNat - 1:Nat):Int)≠0 then 3
 else if zam g≠0 then zam g else if zbs (zad g)≤0 then 3 else zam o
theorem zmk {l:List UInt8} {N:Nat} (h:zam l=0) (hN:N=600):Small (zad l) N:=by
 obtain ⟨h1,h2,_,hf⟩:=zbC h
 rw [←hN] at h2 hf
 have hN1:1≤N:=by omega
 clear hN
 unfold zad Small
 rw [if_pos h]
 refine ⟨Nat.lt_of_lt_of_le (za6 _ (zaq h1)) (Nat.pow_le_pow_right (by omega) h2),?_⟩
 cases hb:zcF l
 ·simp only [Bool.false_eq_true,if_false]
  have h9:10 ^ 1≤10 ^ N:=Nat.pow_le_pow_right (by omega) hN1
  omega
 ·obtain ⟨h3,_,_,h4,_⟩:=hf hb
  simp only [if_true]
  exact Nat.lt_of_lt_of_le (za6 _ (zaq h3)) (Nat.pow_le_pow_right (by omega) h4)
theorem zdr {a:ByteArray} (h:zam a.data.toList=0):NumQ a (zad a.data.toList):=⟨(zjC _ h).symm,zga h⟩
theorem zgj {a:ByteArray} (h:zam a.data.toList=0):a.size≤1202:=by
 obtain ⟨N,hN⟩:∃ N:Nat,N=600:=⟨_,rfl⟩
 have:=(zdr h).size (zmk h hN) (by omega)
 omega
theorem zaX (n a b:Int):(zax n a b=3∧(n<a∨b<n))∨(zax n a b=0∧a≤n∧n≤b):=by
 unfold zax
 split
 ·exact .inl ⟨rfl,by assumption⟩
 ·exact .inr ⟨rfl,by omega,by omega⟩
set_option maxHeartbeats 4000000 in
set_option maxRecDepth 100000 in
theorem zh4 (a st z:Int) (g o:ByteArray) (w:World) (hg:g.size≤9223372036854775807) (ho:o.size≤9223372036854775807) :
  Calls Tryz.prog 16 #[.agg #[.int .i64 a,.int .i64 st,.int .i64 z,.string g,.string o]] w fun e w'=>e = .returned (.int .i64 (adcE a st z g.data.toList o.data.toList))∧Below w.heap.size w w':=by
 have hb0:Below w.heap.size w (w.alloc (.cells #[.int .i64 a,.int .i64 st,.int .i64 z,.string g,.string o] 24)):=(Below.refl _ _).alloc (Nat.le_refl _) _
 have q0:CBlk (w.alloc (.cells #[.int .i64 a,.int .i64 st,.int .i64 z,.string g,.string o] 24)) w.heap.size #[.int .i64 a,.int .i64 st,.int .i64 z,.string g,.string o] 24:=CBlk.new w _ _ _ rfl
 obtain ⟨X,hX⟩:∃ X,X=adcE a st z g.data.toList o.data.toList:=⟨_,rfl⟩
 rw [←hX]
 rcases zaX a 8 12 with ⟨hr1,ha⟩ | ⟨hr1,ha1,ha2⟩
 ·have hx:X=3:=by rw [hX];unfold adcE;rw [hr1];rfl
  subst hx
  have hc:decide (a<8)=true∨(decide (a<8)=false∧decide (12<a)=true):=by
   simp only [decide_eq_true_eq,decide_eq_false_iff_not]
   omega
  clear hX hr1 ha q0
  rcases hc with d1 | ⟨d1,d2⟩
  all_goals
   go_enter Tryz.func16,Tryz.ntmps16
   go_wp2
   go_ret
   exact ⟨rfl,hb0⟩
 ·have d1:decide (a<8)=false:=decide_eq_false (by omega)
  have d2:decide (12<a)=false:=decide_eq_false (by omega)
  rcases zaX st (-20) 4 with ⟨hr2,hs⟩ | ⟨hr2,hs1,hs2⟩
  ·have hx:X=3:=by rw [hX];unfold adcE;rw [hr1,hr2];rfl
   subst hx
   have hc:decide (st < -20)=true∨(decide (st < -20)=false∧decide (4<st)=true):=by
    simp only [decide_eq_true_eq,decide_eq_false_iff_not]
    omega
   clear hX hr1 hr2 hs q0 ha1 ha2
   rcases hc with d3 | ⟨d3,d4⟩
   all_goals
    go_enter Tryz.func16,Tryz.ntmps16
    go_wp2
    go_ret
    exact ⟨rfl,hb0⟩
  ·have d3:decide (st < -20)=false:=decide_eq_false (by omega)
   have d4:decide (4<st)=false:=decide_eq_false (by omega)
   obtain ⟨n,rfl⟩:∃ n:Nat,a=n:=⟨a.toNat,by omega⟩
   have hX2:X=if zax z 0 ((2 ^ n - 1:Nat):Int)≠0 then 3 else if zam g.data.toList≠0 then zam g.data.toList else if zbs (zad g.data.toList)≤0 then 3 else zam o.data.toList:=by
    rw [hX]
    unfold adcE
    rw [hr1,hr2,Int.toNat_natCast]
    rfl
   have HX2:=Lib.hid hX2
   have HC:=Lib.hid (fun W=>zgt n st z z (.string g) (.string o) W (by omega))
   obtain ⟨rz,hrz⟩:∃ rz,rz=zax z 0 ((2 ^ n - 1:Nat):Int):=⟨_,rfl⟩
   have hzc:=zaX z 0 ((2 ^ n - 1:Nat):Int)
   rw [←hrz] at hzc hX2 HC HX2
   have hzz:rz=3∨rz=0:=by rcases hzc with h | h;(· exact .inl h.1);(· exact .inr h.1)
   have x0:=q0.cell 0
   have x1:=q0.cell 1
   have x2:=q0.cell 2
   have x3:=q0.cell 3
   have x4:=q0.cell 4
   clear hX hX2 hr1 hr2 hs1 hs2 ha1 ha2 hrz hzc
   go_enter Tryz.func16,Tryz.ntmps16
   go_wp2_with fail
   generalize w.alloc (.cells #[.int .i64 n,.int .i64 st,.int .i64 z,.string g,.string o] 24)=w1 at *
   refine (HC.out w1).mono ?_
   rintro e w2 ⟨rfl,hb2⟩
   have q2:=q0.below hb2 q0.lt
   clear x0 x1 x2 x3 x4
   have x3:=q2.cell 3
   have x4:=q2.cell 4
   have hB2:=hb0.trans (hb2.mono hb0.size)
   rcases hzz with rfl | rfl
   ·have hx:X=3:=HX2.out
    subst hx
    clear HX2
    go_wp2
    go_ret
    exact ⟨rfl,hB2⟩
   ·have HG:=Lib.hid (zca g w2 hg)
    obtain ⟨E,hE⟩:∃ E,E=zam g.data.toList:=⟨_,rfl⟩
    rw [←hE] at HG HX2
    go_wp2_with fail
    refine HG.out.mono ?_
    rintro e w3 ⟨rfl,hb3⟩
    have q3:=q2.below hb3 q2.lt
    clear x3 x4
    have x3:=q3.cell 3
    have x4:=q3.cell 4
    have hB3:=hB2.trans (hb3.mono hB2.size)
    by_cases hE0:E=0
    ·have hEE:E=zam g.data.toList:=hE
     rw [hE0] at hEE
     have HS:=Lib.hid (zhz g _ w3 (zdr hEE.symm) (by have:=zgj hEE.symm;omega))
     have hX3:X=if zbs (zad g.data.toList)≤0 then 3 else zam o.data.toList:=by
      rw [HX2.out,hE0]
      rfl
     generalize zbs (zad g.data.toList)=sg at *
     have d5:(E==0)=true:=by rw [hE0];rfl
     have HX3:=Lib.hid hX3
     subst hE0
     clear hX3 hEE hE HG HX2
     go_wp2_with fail
     refine HS.out.mono ?_
     rintro e w4 ⟨rfl,rfl⟩
     by_cases hsg:sg≤0
     ·have hx:X=3:=by rw [HX3.out,if_pos hsg]
      subst hx
      have d6:decide (sg≤0)=true:=decide_eq_true hsg
      clear HX3 hsg HS
      go_wp2
      go_ret
      exact ⟨rfl,hB3⟩
     ·have hx:X=zam o.data.toList:=by rw [HX3.out,if_neg hsg]
      have d6:decide (sg≤0)=false:=decide_eq_false hsg
      have HO:=Lib.hid (zca o w3 ho)
      rw [←hx] at HO
      clear HX3 hsg HS hx
      go_wp2_with fail
      refine HO.out.mono ?_
      rintro e w4 ⟨rfl,hb4⟩
      have hB4:=hB3.trans (hb4.mono hB3.size)
      go_wp2
      go_ret
      exact ⟨rfl,hB4⟩
    ·have hx:X=E:=by rw [HX2.out];simp [hE0]
     subst hx
     have d5:(X==0)=false:=beq_eq_false_iff_ne.2 hE0
     clear HX2 hE0 hE
     go_wp2
     go_ret
     exact ⟨rfl,hB3⟩
def FewT (s:ByteArray):Prop:=zam s.data.toList=0∧Small (zad s.data.toList) 12∧s.size≤26
def zoz (s:ByteArray) (b:Bool):Prop:=∀ W,Calls Tryz.prog 39 #[.string s,.int .i64 12] W fun e w'=>e = .returned (.bool b)∧Below W.heap.size W w'
set_option maxHeartbeats 2000000 in
set_option maxRecDepth 100000 in
theorem znd (a:ByteArray) (b:Bool) (h1:a.size≤26) (h2:zam a.data.toList=0) (hb:b=(decide ((zay (absQ (numQ (zad a.data.toList)))).length≤12) && decide ((Lib.decDigits (zad a.data.toList).bot).length≤12))) :
    zoz a b:=by
  intro w
  have d1:decide ((a.size:Int)≤26)=true:=decide_eq_true (by omega)
  have hq:=zdr h2
  have hC:∀ W,Calls Tryz.prog 51 #[.string a] W (RetC W 0):=fun W=>by
    have h:=zca a W (by omega)
    rwa [h2] at h
  have HC:=Lib.hid hC
  have HN:=Lib.hid (fun W=>zsQ a _ W hq (by omega))
  have HA:=Lib.hid (fun (s:ByteArray) (hs:NumQ s (numQ (zad a.data.toList))) (hz:s.size≤1000000) (W:World)=>zq2 s (numQ (zad a.data.toList)) W hs hz)
  have HD:=Lib.hid (fun W=>ztg a _ W hq (by omega))
  clear hC
  generalize zad a.data.toList=p at *
  obtain ⟨L2,hL2⟩:∃ L2,L2=(Lib.decDigits p.bot).length:=⟨_,rfl⟩
  obtain ⟨L1,hL1⟩:∃ L1,L1=(zay (absQ (numQ p))).length:=⟨_,rfl⟩
  rw [←hL1,←hL2] at hb
  rw [←hL2] at HD
  have HZ:Hid (∀ t:ByteArray,NumQ t (absQ (numQ p))→t.size=L1):=fun t ht=>by
    have h9:=congrArg List.length ht.1
    rw [←hL1,Array.length_toList] at h9
    exact h9
  clear hq h2 hL1 hL2
  have hcase:(decide ((L1:Int)≤12)=false∧b=false)∨(decide ((L1:Int)≤12)=true∧decide ((L2:Int)≤12)=b):=by
    rw [hb]
    by_cases h3:L1≤12
    · refine .inr ⟨decide_eq_true (by omega),?_⟩
      rw [decide_eq_true h3,Bool.true_and]
      by_cases h4:L2≤12
      · rw [decide_eq_true (show (L2:Int)≤12 by omega),decide_eq_true h4]
      · rw [decide_eq_false (show ¬ (L2:Int)≤12 by omega),decide_eq_false h4]
    · exact .inl ⟨decide_eq_false (by omega),by rw [decide_eq_false h3];rfl⟩
  clear hb
  rcases hcase with ⟨d3,rfl⟩ | ⟨d3,d4⟩
  all_goals
    go_enter Tryz.func39,Tryz.ntmps39
    go_wp2_with fail
    refine (HC.out w).mono ?_
    rintro e w1 ⟨rfl,hb1⟩
    go_wp2_with fail
    refine (HN.out w1).mono ?_
    rintro e w2 ⟨⟨s,rfl,hs1,hs2⟩,rfl⟩
    have HS:=Lib.hid hs1
    clear hs1
    go_wp2_with fail
    refine (HA.out s HS.out (by omega) w1).mono ?_
    rintro e w3 ⟨⟨t,rfl,ht1⟩,hb3⟩
    have hB3:=hb1.trans (hb3.mono hb1.size)
    have hts:=HZ.out t ht1
    rw [←hts] at d3
    clear ht1 hb3 hb1 hts
    go_wp2_with fail
    first
      | (go_ret
         exact ⟨rfl,hB3⟩)
      | (refine (HD.out w3).mono ?_
         rintro e w4 ⟨⟨u,rfl,hu⟩,rfl⟩
         rw [←hu] at d4
         clear hu
         go_wp2
         go_ret
         exact ⟨rfl,hB3⟩)
set_option maxHeartbeats 1000000 in
theorem zni (a:ByteArray):∃ b,(b=true→FewT a)∧zoz a b:=by
 by_cases h1:a.size≤26
 ·by_cases h2:zam a.data.toList=0
  ·refine ⟨_,fun hb=>⟨h2,?_,h1⟩,znd a _ h1 h2 rfl⟩
   simp only [Bool.and_eq_true,decide_eq_true_eq] at hb
   have hq:=zdr h2
   generalize zad a.data.toList=p at *
   have hla:LowQ (numQ p):=⟨Nat.one_pos,Nat.gcd_one_right _,hq.2.2.2⟩
   have ht:NumQ ⟨(zay (absQ (numQ p))).toArray⟩ (absQ (numQ p)):=⟨by simp,zmM hla⟩
   have hts:(⟨(zay (absQ (numQ p))).toArray⟩:ByteArray).size≤12:=by
    show (zay (absQ (numQ p))).toArray.size≤12
    rw [List.size_toArray]
    exact hb.1
   refine ⟨(ht.small hts (by omega)).1,?_⟩
   have e2:=za6 _ (zaC p.bot)
   rw [zaR] at e2
   exact Nat.lt_of_lt_of_le e2 (Nat.pow_le_pow_right (by omega) hb.2)
  ·refine ⟨false,(fun h=>by cases h),fun w => ?_⟩
   have d1:decide ((a.size:Int)≤26)=true:=decide_eq_true (by omega)
   have HC:=Lib.hid (fun W=>zca a W (by omega))
   have d2:(zam a.data.toList==0)=false:=beq_eq_false_iff_ne.2 h2
   generalize zam a.data.toList=E at *
   clear h2
   go_enter Tryz.func39,Tryz.ntmps39
   go_wp2_with fail
   refine (HC.out w).mono ?_
   rintro e w1 ⟨rfl,hb1⟩
   go_wp2
   go_ret
   exact ⟨rfl,hb1⟩
 ·refine ⟨false,(fun h=>by cases h),fun w => ?_⟩
  have d1:decide ((a.size:Int)≤26)=false:=decide_eq_false (by omega)
  go_enter Tryz.func39,Tryz.ntmps39
  go_wp2
  go_ret
  exact ⟨rfl,Below.refl _ _⟩
end Go.Proofs.YtmkihdjolnlccaaGreatDoor
namespace Go.Proofs.YtmkihdjolnlccaaGreatDoor
open Go.RowKit Bn
open Flt
theorem zi4 (x y z:Int):zaW [x,y,z]=if x≠0 then x else if y≠0 then y else z:=by
 unfold zaW
 split
 ·rfl
 ·unfold zaW
  split
  ·rfl
  ·unfold zaW
   split
   ·rfl
   ·rename_i h
    simp only [zaW]
    exact (Classical.not_not.1 h).symm
theorem zhK (x y z:Int) (w:World) (t:TypeId) (g:Nat) (hg:w.heap.size=g) :
  Calls Tryz.prog 64 #[.slice (some ⟨g,0,none⟩) 3 3] (w.alloc (.cells #[.int .i64 x,.int .i64 y,.int .i64 z] t)) fun e w'=>e = .returned (.int .i64 (if x≠0 then x else if y≠0 then y else z))∧w.alloc (.cells #[.int .i64 x,.int .i64 y,.int .i64 z] t)=w':=by
 subst hg
 have h:=zcb (some ⟨w.heap.size,0,none⟩) 3 3 [x,y,z] (w.alloc (.cells #[.int .i64 x,.int .i64 y,.int .i64 z] t)) (zae.lit w [.int .i64 x,.int .i64 y,.int .i64 z] t) (by unfold maxLen;omega)
 rwa [zi4] at h
def zi9 (l:List UInt8):Int:=if zam l≠0 then zam l else if zbs (zad l)≤0 then 3 else 0
theorem ziK {p:Q} (h:LowQ p):rcmp p (zad [48])=zbs p:=by
 have hw:zay ⟨false,0,1⟩=[48]:=by decide +kernel
 have hq:zad [48]=⟨false,0,1⟩:=by
  rw [←hw]
  exact (zdZ ⟨false,0,1⟩ ⟨by decide,by decide,fun h=>by cases h⟩ (by show (Lib.decDigits 0).length≤600;rw [Dec.dec_lt (by omega)];simp) (by show (Lib.decDigits 1).length≤600;rw [Dec.dec_lt (by omega)];simp)).2
 rw [hq]
 unfold rcmp zbs
 have hz:∀ n,ncmp (n*1) (0*p.bot)=if n=0 then 0 else 1:=by
  intro n
  rw [Nat.mul_one,Nat.zero_mul]
  rcases Nat.eq_zero_or_pos n with rfl | h
  ·rfl
  ·rw [ncmp_gt h,if_neg (by omega)]
 rw [hz]
 cases hn:p.neg
 ·simp
 ·have:=h.2.2 hn
  rw [if_neg (by simp),if_neg (by simp),if_neg (by omega)]
  rfl
theorem zqx (l:List UInt8):(if ordE l [48]=0∧ordO l [48]≤0 then 3 else ordE l [48])=zi9 l:=by
 have e0:zam [48]=0:=by decide +kernel
 unfold zi9 ordE ordO
 by_cases h:zam l=0
 ·rw [h,e0,ziK (zga h)]
  simp
 ·simp [h]
set_option maxHeartbeats 4000000 in
set_option maxRecDepth 100000 in
theorem zjb (a st z:Int) (g o:ByteArray) (w:World) (hr:zax a 8 12≠0∨zax st (-20) 4≠0) :
  Calls Tryz.prog 65 #[.agg #[.int .i64 a,.int .i64 st,.int .i64 z,.string g,.string o]] w fun e w'=>e = .returned (.int .i64 3)∧Below w.heap.size w w':=by
 have hb0:Below w.heap.size w (w.alloc (.cells #[.int .i64 a,.int .i64 st,.int .i64 z,.string g,.string o] 33)).drew:=((Below.refl _ _).alloc (Nat.le_refl _) _).drew
 have q0:CBlk (w.alloc (.cells #[.int .i64 a,.int .i64 st,.int .i64 z,.string g,.string o] 33)).drew w.heap.size #[.int .i64 a,.int .i64 st,.int .i64 z,.string g,.string o] 33:=CBlk.new w _ _ _ rfl
 have x0:=q0.cell 0
 have x1:=q0.cell 1
 have k0:=q0.lt
 obtain ⟨ea,hea⟩:∃ ea,zax a 8 12=ea:=⟨_,rfl⟩
 obtain ⟨es,hes⟩:∃ es,zax st (-20) 4=es:=⟨_,rfl⟩
 have hv:(if ea≠0 then ea else es)=3:=by
  rcases zaX a 8 12 with h | h<;>rcases zaX st (-20) 4 with h' | h'<;>rw [hea] at h hr<;>rw [hes] at h' hr<;>simp_all
 have HV:=Lib.hid hv
 have HR1:=Lib.hid hea
 have HR2:=Lib.hid hes
 clear hv hr hea hes
 go_enter Tryz.func65,Tryz.ntmps65
 go_wp2_with fail
 generalize w.alloc (.cells #[.int .i64 a,.int .i64 st,.int .i64 z,.string g,.string o] 33)=w1 at *
 go_region_held3 (fun w'=>w'.cell? ⟨w.heap.size,0,none⟩=some (.int .i64 a)∧w'.cell? ⟨w.heap.size,1,none⟩=some (.int .i64 st))
  ((first | exact ⟨x0,x1⟩ | exact ⟨(World.cell?_alloc_lt _ _ _ k0).trans x0,(World.cell?_alloc_lt _ _ _ k0).trans x1⟩))
  (first
   |(go_at_call 144;refine (zbb _ _ _ _).mono ?_;rintro e w4 ⟨he,rfl⟩;(first | rw [HR1.out] at he | rw [HR2.out] at he);subst he)
   |(go_at_call 64;refine (za7 ea es w1.drew _ _ rfl).mono ?_;rintro e w6 ⟨he,rfl⟩;rw [HV.out] at he;subst he))
 have hb2:Below w1.heap.size w1 (w1.alloc (.cells #[.int .i64 ea,.int .i64 es] 30)).drew:=((Below.refl _ _).alloc (Nat.le_refl _) _).drew
 have q1:CBlk w1 w.heap.size #[.int .i64 a,.int .i64 st,.int .i64 z,.string g,.string o] 33:=q0
 have q2:=q1.below hb2 k0
 have hb1:Below w.heap.size w w1:=⟨hb0.os,hb0.tape,hb0.output,hb0.size,hb0.block⟩
 have hB2:Below w.heap.size w (w1.alloc (.cells #[.int .i64 ea,.int .i64 es] 30)).drew:=hb1.trans (hb2.mono hb1.size)
 generalize (w1.alloc (.cells #[.int .i64 ea,.int .i64 es] 30)).drew=w2 at *
 go_wp2
 go_ret
 exact ⟨rfl,hB2⟩
set_option maxHeartbeats 4000000 in
set_option maxRecDepth 100000 in
theorem zhB (n:Nat) (st z:Int) (g o:ByteArray) (w:World) (hT:Tabs w) (hg:g.size≤4294967296) (ho:o.size≤4294967296) (hr1:zax (n:Int) 8 12=0) (hr2:zax st (-20) 4=0) (hn:n≤32) :
  Calls Tryz.prog 65 #[.agg #[.int .i64 (n:Int),.int .i64 st,.int .i64 z,.string g,.string o]] w fun e w'=>e = .returned (.int .i64 (if zax z 0 ((2 ^ n - 1:Nat):Int)≠0 then zax z 0 ((2 ^ n - 1:Nat):Int) else if zi9 g.data.toList≠0 then zi9 g.data.toList else zam o.data.toList))∧Below w.heap.size w w':=by
 have hb0:Below w.heap.size w (w.alloc (.cells #[.int .i64 (n:Int),.int .i64 st,.int .i64 z,.string g,.string o] 33)).drew:=((Below.refl _ _).alloc (Nat.le_refl _) _).drew
 have q0:CBlk (w.alloc (.cells #[.int .i64 (n:Int),.int .i64 st,.int .i64 z,.string g,.string o] 33)).drew w.heap.size #[.int .i64 (n:Int),.int .i64 st,.int .i64 z,.string g,.string o] 33:=CBlk.new w _ _ _ rfl
 have x0:=q0.cell 0
 have x1:=q0.cell 1
 have k0:=q0.lt
 have HR1:=Lib.hid hr1
 have HR2:=Lib.hid hr2
 have HTP:=Lib.hid (fun W=>zdh n st z (.string g) (.string o) W hn)
 have HG:=Lib.hid (fun W hT=>zhy g W hT hg)
 rw [zqx] at HG
 have HO:=Lib.hid (fun W hT=>zcL o W hT ho)
 generalize ((2 ^ n - 1:Nat):Int)=T at *
 obtain ⟨rz,hrz⟩:∃ rz,zax z 0 T=rz:=⟨_,rfl⟩
 have HR3:=Lib.hid hrz
 rw [hrz]
 generalize zi9 g.data.toList=ge at *
 generalize zam o.data.toList=oe at *
 obtain ⟨r9,hr9⟩:∃ r9,(if rz≠0 then rz else if ge≠0 then ge else oe)=r9:=⟨_,rfl⟩
 rw [hr9]
 have HR9:=Lib.hid hr9
 clear hr1 hr2 hrz hn hr9
 go_enter Tryz.func65,Tryz.ntmps65
 go_wp2_with fail
 generalize w.alloc (.cells #[.int .i64 (n:Int),.int .i64 st,.int .i64 z,.string g,.string o] 33)=w1 at *
 go_region_held3 (fun w'=>w'.cell? ⟨w.heap.size,0,none⟩=some (.int .i64 (n:Int))∧w'.cell? ⟨w.heap.size,1,none⟩=some (.int .i64 st))
  ((first | exact ⟨x0,x1⟩ | exact ⟨(World.cell?_alloc_lt _ _ _ k0).trans x0,(World.cell?_alloc_lt _ _ _ k0).trans x1⟩))
  (first
   |(go_at_call 144;refine (zbb _ _ _ _).mono ?_;rintro e w4 ⟨he,rfl⟩;(first | rw [HR1.out] at he | rw [HR2.out] at he);subst he)
   |(go_at_call 64;refine (za7 0 0 w1.drew _ _ rfl).mono ?_;rintro e w6 ⟨rfl,rfl⟩))
 have hb2:Below w1.heap.size w1 (w1.alloc (.cells #[.int .i64 0,.int .i64 0] 30)).drew:=((Below.refl _ _).alloc (Nat.le_refl _) _).drew
 have q1:CBlk w1 w.heap.size #[.int .i64 (n:Int),.int .i64 st,.int .i64 z,.string g,.string o] 33:=q0
 have q2:=q1.below hb2 k0
 have hb1:Below w.heap.size w w1:=⟨hb0.os,hb0.tape,hb0.output,hb0.size,hb0.block⟩
 have hB2:Below w.heap.size w (w1.alloc (.cells #[.int .i64 0,.int .i64 0] 30)).drew:=hb1.trans (hb2.mono hb1.size)
 generalize (w1.alloc (.cells #[.int .i64 0,.int .i64 0] 30)).drew=w2 at *
 clear x0 x1
 have x0:=q2.cell 0
 have x1:=q2.cell 1
 have x2:=q2.cell 2
 have x3:=q2.cell 3
 have x4:=q2.cell 4
 have hT2:Tabs w2:=hT.later hB2
 go_wp2_with fail
 go_region_held3 (fun w'=>w'.cell? ⟨w.heap.size,0,none⟩=some (.int .i64 (n:Int))∧w'.cell? ⟨w.heap.size,1,none⟩=some (.int .i64 st)∧w'.cell? ⟨w.heap.size,2,none⟩=some (.int .i64 z)∧w'.cell? ⟨w.heap.size,3,none⟩=some (.string g)∧w'.cell? ⟨w.heap.size,4,none⟩=some (.string o))
  ((first | exact ⟨x0,x1,x2,x3,x4⟩ | exact ⟨y0,y1,y2,y3,y4⟩ | exact ⟨z0,z1,z2,z3,z4⟩ | exact ⟨u0,u1,u2,u3,u4⟩ | exact ⟨(World.cell?_alloc_lt _ _ _ k5).trans u0,(World.cell?_alloc_lt _ _ _ k5).trans u1,(World.cell?_alloc_lt _ _ _ k5).trans u2,(World.cell?_alloc_lt _ _ _ k5).trans u3,(World.cell?_alloc_lt _ _ _ k5).trans u4⟩))
  (first
   |(go_at_call 81;refine (HTP.out w2.drew).mono ?_;rintro e w3 ⟨rfl,hb3'⟩;have hb3:Below w2.heap.size w2 w3:=⟨hb3'.os,hb3'.tape,hb3'.output,hb3'.size,hb3'.block⟩;clear hb3';have q3:=q2.below hb3 q2.lt;have y0:=q3.cell 0;have y1:=q3.cell 1;have y2:=q3.cell 2;have y3:=q3.cell 3;have y4:=q3.cell 4;have hT3:=hT2.later hb3)
   |(go_at_call 144;refine (zbb _ _ _ _).mono ?_;rintro e w4 ⟨he,rfl⟩;rw [HR3.out] at he;subst he)
   |(go_at_call 145;refine (HG.out w3 hT3).mono ?_;rintro e w4 ⟨rfl,hb4⟩;have q4:=q3.below hb4 q3.lt;have z0:=q4.cell 0;have z1:=q4.cell 1;have z2:=q4.cell 2;have z3:=q4.cell 3;have z4:=q4.cell 4;have hT4:=hT3.later hb4)
   |(go_at_call 82;refine (HO.out w4 hT4).mono ?_;rintro e w5 ⟨rfl,hb5⟩;have q5:=q4.below hb5 q4.lt;have u0:=q5.cell 0;have u1:=q5.cell 1;have u2:=q5.cell 2;have u3:=q5.cell 3;have u4:=q5.cell 4;have k5:=q5.lt)
   |(go_at_call 64;refine (zhK rz ge oe w5 _ _ rfl).mono ?_;rintro e w6 ⟨he,rfl⟩;rw [HR9.out] at he;subst he))
 go_wp2_with fail
 go_ret
 have c3:=hB2.trans (hb3.mono hB2.size)
 have c4:=c3.trans (hb4.mono c3.size)
 have c5:=c4.trans (hb5.mono c4.size)
 exact ⟨rfl,c5.alloc c5.size _⟩
theorem zi3 (a st z:Int) (g o:ByteArray) (w:World) (hT:Tabs w) (hg:g.size≤4294967296) (ho:o.size≤4294967296) :
  Calls Tryz.prog 65 #[.agg #[.int .i64 a,.int .i64 st,.int .i64 z,.string g,.string o]] w fun e w'=>e = .returned (.int .i64 (adcE a st z g.data.toList o.data.toList))∧Below w.heap.size w w':=by
 by_cases hr:zax a 8 12≠0∨zax st (-20) 4≠0
 ·have hx:adcE a st z g.data.toList o.data.toList=3:=by
   unfold adcE
   by_cases h1:zax a 8 12≠0
   ·rw [if_pos h1]
   ·rw [if_neg h1,if_pos (by rcases hr with h | h;(· exact absurd h h1);(· exact h))]
  rw [hx]
  exact zjb a st z g o w hr
 ·have hr1:zax a 8 12=0:=Classical.not_not.1 fun h=>hr (.inl h)
  have hr2:zax st (-20) 4=0:=Classical.not_not.1 fun h=>hr (.inr h)
  have ha:8≤a∧a≤12:=by
   rcases zaX a 8 12 with h | h
   ·rw [hr1] at h
    omega
   ·exact h.2
  obtain ⟨n,rfl⟩:∃ n:Nat,a=n:=⟨a.toNat,by omega⟩
  have hx:(if zax z 0 ((2 ^ n - 1:Nat):Int)≠0 then zax z 0 ((2 ^ n - 1:Nat):Int) else if zi9 g.data.toList≠0 then zi9 g.data.toList else zam o.data.toList)=adcE n st z g.data.toList o.data.toList:=by
   unfold adcE
   rw [hr1,hr2,Int.toNat_natCast,if_neg (c:=(0:Int)≠0) (by simp),if_neg (c:=(0:Int)≠0) (by simp)]
   rcases zaX z 0 ((2 ^ n - 1:Nat):Int) with h | h
   ·rw [h.1]
    rfl
   ·rw [h.1,if_neg (c:=(0:Int)≠0) (by simp),if_neg (c:=(0:Int)≠0) (by simp)]
    unfold zi9
    by_cases h1:zam g.data.toList=0
    ·rw [h1]
     by_cases h2:zbs (zad g.data.toList)≤0<;>simp [h2]
    ·simp [h1]
  rw [←hx]
  exact zhB n st z g o w hT hg ho hr1 hr2 (by omega)
end Go.Proofs.YtmkihdjolnlccaaGreatDoor
namespace Go.Proofs.YtmkihdjolnlccaaGreatDoor
open Go.RowKit Dn
def twoQ:Q:=⟨false,2,1⟩
theorem zdN:NumQ ⟨#[50]⟩ twoQ:=⟨by decide +kernel,by decide,by decide,fun h=>by cases h⟩
def lsbQ (st:Int):Q:=if 0≤st then powQ twoQ st.toNat else powQ (recQ twoQ) (-st).toNat
theorem zeB:recQ twoQ=zgx:=zjX zdN.2 rfl (by decide)
theorem zhi (st:Int):LowQ (lsbQ st):=by
 unfold lsbQ
 split
 ·exact zd1 zdN.2 _
 ·rw [zeB]
  exact zd1 zhL.2 _
theorem zf3 {st:Int} (h : -20≤st∧st≤4):Small (lsbQ st) 10:=by
 have hp:∀ k,k≤20→2 ^ k<10 ^ 10:=fun k hk=>Nat.lt_of_le_of_lt (Nat.pow_le_pow_right (by omega) hk) (by decide)
 unfold lsbQ
 split
 ·exact ⟨hp _ (by omega),by show 1 ^ _<_;rw [Nat.one_pow];decide⟩
 ·rw [zeB]
  exact ⟨by show 1 ^ _<_;rw [Nat.one_pow];decide,hp _ (by omega)⟩
theorem zlN {z:Int} (h : -10000≤z∧z≤10000):Small (intQ z) 10:=
 ⟨Nat.lt_of_le_of_lt (show z.natAbs≤10000 by omega) (by decide),by show 1<_;decide⟩
set_option maxHeartbeats 1000000 in
theorem zpy (a st z:Int) (g o:ByteArray) (w:World) (hst : -20≤st∧st≤4) :
  Calls Tryz.prog 30 #[.agg #[.int .i64 a,.int .i64 st,.int .i64 z,.string g,.string o]] w (RetS w (lsbQ st)):=by
 have hb0:Below w.heap.size w (w.alloc (.cells #[.int .i64 a,.int .i64 st,.int .i64 z,.string g,.string o] 24)):=(Below.refl _ _).alloc (Nat.le_refl _) _
 have hs2:Small twoQ 1:=⟨by decide,by decide⟩
 have HP:Hid (∀ W,Calls Tryz.prog 49 #[.string ⟨#[50]⟩,.int .i64 st] W (RetS W (lsbQ st))):=by
  intro W
  unfold lsbQ
  split
  ·have h:=zkg ⟨#[50]⟩ twoQ st.toNat 1 W zdN rfl hs2 (by omega) (by omega)
   rwa [Int.toNat_of_nonneg (by assumption)] at h
  ·have h:=zqE ⟨#[50]⟩ twoQ (-st).toNat 1 W zdN rfl (by decide) hs2 (by omega) (by omega) (by omega) (by decide)
   rwa [Int.toNat_of_nonneg (by omega),Int.neg_neg] at h
 generalize lsbQ st=L at *
 clear hs2 hst
 go_enter Tryz.func30,Tryz.ntmps30
 go_wp2_with fail
 refine (HP.out _).mono ?_
 rintro e w1 ⟨⟨s,rfl,hs⟩,hb1⟩
 go_wp2
 go_ret
 exact ⟨⟨s,rfl,hs⟩,hb0.trans (hb1.mono hb0.size)⟩
def nomQ (st z c:Int):Q:=mulQ (lsbQ st) (intQ (c - z))
def zhS (st:Int):Q:=mulQ (lsbQ st) zgx
def lowE (st z c:Int):Q:=subQ (nomQ st z c) (zhS st)
def zfK (st z c:Int):Q:=addQ (nomQ st z c) (zhS st)
def zr3 (w:World) (p q:Q) (e:Ending) (w':World):Prop:=(∃ s t:ByteArray,e = .returned (.agg #[.string s,.string t])∧NumQ s p∧NumQ t q)∧Below w.heap.size w w'
theorem zmz:Small zgx 1:=⟨by decide,by decide⟩
theorem zdP {st:Int} (h : -20≤st∧st≤4):Small (zhS st) 11:=ziS (zf3 h) zmz (zhi st).1 (by decide)
theorem zdz {st z c:Int} (h : -20≤st∧st≤4) (hd : -10000≤c - z∧c - z≤10000):Small (nomQ st z c) 20:=ziS (zf3 h) (zlN hd) (zhi st).1 Nat.one_pos
theorem zej (st:Int):LowQ (zhS st):=zbf _ (Nat.mul_pos (zhi st).1 (by decide))
theorem zbx (st z c:Int):LowQ (nomQ st z c):=zbf _ (Nat.mul_pos (zhi st).1 Nat.one_pos)
theorem zgU {st z c:Int} (h : -20≤st∧st≤4) (hd : -10000≤c - z∧c - z≤10000):Small (lowE st z c) 32:=zfv (zdz h hd) (zdP h) (zbx st z c).1 (zej st).1
theorem zfu {st z c:Int} (h : -20≤st∧st≤4) (hd : -10000≤c - z∧c - z≤10000):Small (zfK st z c) 32:=zic (zdz h hd) (zdP h) (zbx st z c).1 (zej st).1
end Go.Proofs.YtmkihdjolnlccaaGreatDoor
