/- Plain facts: a voltage is below an edge, as the program decides it, if it is less than the edge. No program. -/
import Derived.Test.YtjhgadajpliclaaGreatDoorIEx2
import Derived.Test.YtjhgadajpliclaaGreatDoorIFloat
import Derived.Test.YtjhgadajpliclaaGreatDoorIRb23
import Derived.Test.YtjhgadajpliclaaGreatDoorIRat2
import Derived.Test.YtjhgadajpliclaaGreatDoorIAd2
import Derived.Deep.RegionHeld3
namespace Go.Proofs.YtjhgadajpliclaaGreatDoor
open Go.RowKit Bn
open Flt
theorem readQ_low {l:List UInt8} (h:readE l=0):LowQ (readQ l):=⟨readQ_bot h,readQ_gcd h,readQ_neg h⟩
end Go.Proofs.YtjhgadajpliclaaGreatDoor
namespace Go.Proofs.YtjhgadajpliclaaGreatDoor
open Go.RowKit Dn
set_option maxHeartbeats 1000000 in
theorem rpow2_any (n:Nat) (w:World) (hn:n≤60) :
  Calls Tryz.prog 107 #[.int .i64 (n:Int)] w fun e w'=>e = .returned (.int .i64 ((2 ^ n:Nat):Int))∧w=w':=by
 obtain ⟨P,hP⟩:∃ P,P=2 ^ n:=⟨_,rfl⟩
 have HP:=Lib.hid hP
 rw [←hP]
 clear hP
 go_enter Tryz.func107,Tryz.ntmps107
 go_wp2
 go_loop [3,4] (fun v i=>∃ p k:Nat,k≤n∧v = .int .i64 (p:Int)∧i = .int .i64 (k:Int)∧Hid (p=2 ^ k)) (fun _ i=>n - (intOf i).toNat)
 case atStart=>exact ⟨1,0,Nat.zero_le _,rfl,rfl,rfl⟩
 case round=>
  obtain ⟨p,k,hk,rfl,rfl,hv⟩:=hrel
  by_cases hlt:k<n
  ·have hp:=hv.out
   have hb:2 ^ k≤2 ^ 60:=Nat.pow_le_pow_right (by omega) (by omega)
   have e60:(2:Nat) ^ 60=1152921504606846976:=by decide
   rw [e60] at hb
   obtain ⟨pp,hpp⟩:∃ pp,pp=2*p:=⟨_,rfl⟩
   obtain ⟨kk,hkk⟩:∃ kk,kk=k+1:=⟨_,rfl⟩
   have f1:IntKind.i64.wrap (2*(p:Int))=(pp:Int):=by rw [IntWalk.i64_in _ (by omega)];omega
   have f2:IntKind.i64.wrap ((k:Int)+1)=(kk:Int):=by rw [IntWalk.i64_in _ (by omega)];omega
   have HV:Hid (pp=2 ^ kk):=by show pp=2 ^ kk;rw [hpp,hkk,hp,Nat.pow_succ,Nat.mul_comm]
   have hkn:kk≤n:=by omega
   have hdec:n - kk<n - k:=by omega
   have d1:decide (k<n)=true:=decide_eq_true hlt
   clear hp hb e60 hpp hkk hlt
   go_wp2
   go_round
   case rel=>exact ⟨pp,kk,hkn,rfl,rfl,HV.out⟩
   case measure=>simpa [intOf] using hdec
  ·have he:k=n:=by omega
   have HF:Hid (p=P):=by show p=P;rw [hv.out,HP.out,he]
   have d1:decide (k<n)=false:=decide_eq_false hlt
   clear he hv
   go_wp2
   go_ret
   exact ⟨by rw [HF.out];rfl,rfl⟩
set_option maxHeartbeats 1000000 in
theorem rTop_any (a:Nat) (st z:Int) (g o:Value) (w:World) (ha:a≤32) :
  Calls Tryz.prog 50 #[.agg #[.int .i64 a,.int .i64 st,.int .i64 z,g,o]] w fun e w'=>e = .returned (.int .i64 ((2 ^ a - 1:Nat):Int))∧Below w.heap.size w w':=by
 have hb:Below w.heap.size w (w.alloc (.cells #[.int .i64 a,.int .i64 st,.int .i64 z,g,o] 24)):=(Below.refl _ _).alloc (Nat.le_refl _) _
 have hp:2 ^ a≤2 ^ 32:=Nat.pow_le_pow_right (by omega) ha
 have e32:(2:Nat) ^ 32=4294967296:=by decide
 have hp0:=Nat.two_pow_pos a
 rw [e32] at hp
 have HPW:=Lib.hid (fun W=>rpow2_any a W (by omega))
 obtain ⟨P,hP⟩:∃ P,P=2 ^ a:=⟨_,rfl⟩
 obtain ⟨T,hT⟩:∃ T:Nat,T=2 ^ a - 1:=⟨_,rfl⟩
 have f1:IntKind.i64.wrap ((P:Int) - 1)=(T:Int):=by rw [IntWalk.i64_in _ (by omega)];omega
 rw [←hT]
 rw [←hP] at HPW
 clear hP hT hp hp0 e32
 go_enter Tryz.func50,Tryz.ntmps50
 go_wp2_with fail
 refine (HPW.out _).mono ?_
 rintro e w1 ⟨rfl,rfl⟩
 go_wp2
 go_ret
 exact ⟨rfl,hb⟩
set_option maxHeartbeats 1000000 in
theorem rCheckCode_any (a:Nat) (st z c:Int) (g o:Value) (w:World) (ha:a≤32) :
  Calls Tryz.prog 16 #[.agg #[.int .i64 a,.int .i64 st,.int .i64 z,g,o],.int .i64 c] w fun e w'=>e = .returned (.int .i64 (rangeE c 0 ((2 ^ a - 1:Nat):Int)))∧Below w.heap.size w w':=by
 have hb:Below w.heap.size w (w.alloc (.cells #[.int .i64 a,.int .i64 st,.int .i64 z,g,o] 24)):=(Below.refl _ _).alloc (Nat.le_refl _) _
 have HT:=Lib.hid (rTop_any a st z g o (w.alloc (.cells #[.int .i64 a,.int .i64 st,.int .i64 z,g,o] 24)) ha)
 generalize ((2 ^ a - 1:Nat):Int)=T at *
 by_cases h0:c<0
 ·have hr:rangeE c 0 T=3:=by unfold rangeE;rw [if_pos (.inl h0)]
  rw [hr]
  have d0:decide (c<0)=true:=decide_eq_true h0
  clear hr h0
  go_enter Tryz.func16,Tryz.ntmps16
  go_wp2
  go_ret
  exact ⟨rfl,hb⟩
 ·have d0:decide (c<0)=false:=decide_eq_false h0
  have hcase:(decide (T<c)=true∧rangeE c 0 T=3)∨(decide (T<c)=false∧rangeE c 0 T=0):=by
   by_cases h1:T<c
   ·exact .inl ⟨decide_eq_true h1,by unfold rangeE;rw [if_pos (.inr h1)]⟩
   ·exact .inr ⟨decide_eq_false h1,by unfold rangeE;rw [if_neg (by omega)]⟩
  rcases hcase with ⟨d1,hr⟩ | ⟨d1,hr⟩
  all_goals
   rw [hr]
   clear hr h0
   go_enter Tryz.func16,Tryz.ntmps16
   go_wp2_with fail
   refine HT.out.mono ?_
   rintro e w1 ⟨rfl,hb1⟩
   have hB:=hb.trans (hb1.mono hb.size)
   go_wp2
   go_ret
   exact ⟨rfl,hB⟩
def adcE (a st z:Int) (g o:List UInt8):Int:=
 if rangeE a 8 12≠0 then 3 else if rangeE st (-20) 4≠0 then 3 else if rangeE z 0 ((2 ^ a.toNat - 1:Nat):Int)≠0 then 3
 else if readE g≠0 then readE g else if signI (readQ g)≤0 then 3 else readE o
theorem small_read {l:List UInt8} {N:Nat} (h:readE l=0) (hN:N=600):Small (readQ l) N:=by
 obtain ⟨h1,h2,_,hf⟩:=readE_zero h
 rw [←hN] at h2 hf
 have hN1:1≤N:=by omega
 clear hN
 unfold readQ Small
 rw [if_pos h]
 refine ⟨Nat.lt_of_lt_of_le (decVal_lt _ (isDec_digits h1)) (Nat.pow_le_pow_right (by omega) h2),?_⟩
 cases hb:fracL l
 ·simp only [Bool.false_eq_true,if_false]
  have h9:10 ^ 1≤10 ^ N:=Nat.pow_le_pow_right (by omega) hN1
  omega
 ·obtain ⟨h3,_,_,h4,_⟩:=hf hb
  simp only [if_true]
  exact Nat.lt_of_lt_of_le (decVal_lt _ (isDec_digits h3)) (Nat.pow_le_pow_right (by omega) h4)
theorem num_read {a:ByteArray} (h:readE a.data.toList=0):NumQ a (readQ a.data.toList):=⟨(write_readQ _ h).symm,readQ_low h⟩
theorem size_read {a:ByteArray} (h:readE a.data.toList=0):a.size≤1202:=by
 obtain ⟨N,hN⟩:∃ N:Nat,N=600:=⟨_,rfl⟩
 have:=(num_read h).size (small_read h hN) (by omega)
 omega
theorem range_cases (n a b:Int):(rangeE n a b=3∧(n<a∨b<n))∨(rangeE n a b=0∧a≤n∧n≤b):=by
 unfold rangeE
 split
 ·exact .inl ⟨rfl,by assumption⟩
 ·exact .inr ⟨rfl,by omega,by omega⟩
set_option maxHeartbeats 4000000 in
set_option maxRecDepth 100000 in
theorem rCheckAdc_any (a st z:Int) (g o:ByteArray) (w:World) (hg:g.size≤4294967296) (ho:o.size≤4294967296) :
  Calls Tryz.prog 11 #[.agg #[.int .i64 a,.int .i64 st,.int .i64 z,.string g,.string o]] w fun e w'=>e = .returned (.int .i64 (adcE a st z g.data.toList o.data.toList))∧Below w.heap.size w w':=by
 have hb0:Below w.heap.size w (w.alloc (.cells #[.int .i64 a,.int .i64 st,.int .i64 z,.string g,.string o] 24)):=(Below.refl _ _).alloc (Nat.le_refl _) _
 have q0:CBlk (w.alloc (.cells #[.int .i64 a,.int .i64 st,.int .i64 z,.string g,.string o] 24)) w.heap.size #[.int .i64 a,.int .i64 st,.int .i64 z,.string g,.string o] 24:=CBlk.new w _ _ _ rfl
 obtain ⟨X,hX⟩:∃ X,X=adcE a st z g.data.toList o.data.toList:=⟨_,rfl⟩
 rw [←hX]
 rcases range_cases a 8 12 with ⟨hr1,ha⟩ | ⟨hr1,ha1,ha2⟩
 ·have hx:X=3:=by rw [hX];unfold adcE;rw [hr1];rfl
  subst hx
  have hc:decide (a<8)=true∨(decide (a<8)=false∧decide (12<a)=true):=by
   simp only [decide_eq_true_eq,decide_eq_false_iff_not]
   omega
  clear hX hr1 ha q0
  rcases hc with d1 | ⟨d1,d2⟩
  all_goals
   go_enter Tryz.func11,Tryz.ntmps11
   go_wp2
   go_ret
   exact ⟨rfl,hb0⟩
 ·have d1:decide (a<8)=false:=decide_eq_false (by omega)
  have d2:decide (12<a)=false:=decide_eq_false (by omega)
  rcases range_cases st (-20) 4 with ⟨hr2,hs⟩ | ⟨hr2,hs1,hs2⟩
  ·have hx:X=3:=by rw [hX];unfold adcE;rw [hr1,hr2];rfl
   subst hx
   have hc:decide (st < -20)=true∨(decide (st < -20)=false∧decide (4<st)=true):=by
    simp only [decide_eq_true_eq,decide_eq_false_iff_not]
    omega
   clear hX hr1 hr2 hs q0 ha1 ha2
   rcases hc with d3 | ⟨d3,d4⟩
   all_goals
    go_enter Tryz.func11,Tryz.ntmps11
    go_wp2
    go_ret
    exact ⟨rfl,hb0⟩
  ·have d3:decide (st < -20)=false:=decide_eq_false (by omega)
   have d4:decide (4<st)=false:=decide_eq_false (by omega)
   obtain ⟨n,rfl⟩:∃ n:Nat,a=n:=⟨a.toNat,by omega⟩
   have hX2:X=if rangeE z 0 ((2 ^ n - 1:Nat):Int)≠0 then 3 else if readE g.data.toList≠0 then readE g.data.toList else if signI (readQ g.data.toList)≤0 then 3 else readE o.data.toList:=by
    rw [hX]
    unfold adcE
    rw [hr1,hr2,Int.toNat_natCast]
    rfl
   have HX2:=Lib.hid hX2
   have HC:=Lib.hid (fun W=>rCheckCode_any n st z z (.string g) (.string o) W (by omega))
   obtain ⟨rz,hrz⟩:∃ rz,rz=rangeE z 0 ((2 ^ n - 1:Nat):Int):=⟨_,rfl⟩
   have hzc:=range_cases z 0 ((2 ^ n - 1:Nat):Int)
   rw [←hrz] at hzc hX2 HC HX2
   have hzz:rz=3∨rz=0:=by rcases hzc with h | h;(· exact .inl h.1);(· exact .inr h.1)
   have x0:=q0.cell 0
   have x1:=q0.cell 1
   have x2:=q0.cell 2
   have x3:=q0.cell 3
   have x4:=q0.cell 4
   clear hX hX2 hr1 hr2 hs1 hs2 ha1 ha2 hrz hzc
   go_enter Tryz.func11,Tryz.ntmps11
   go_wp2_with fail
   generalize w.alloc (.cells #[.int .i64 n,.int .i64 st,.int .i64 z,.string g,.string o] 24)=w1 at *
   refine (HC.out w1).mono ?_
   rintro e w2 ⟨rfl,hb2⟩
   have q2:=q0.below hb2 q0.lt
   clear x0 x1 x2 x3 x4
   have x3:=q2.cell 3
   have x4:=q2.cell 4
   have hB2:=hb0.trans (hb2.mono hb0.size)
   rcases hzz with rfl | rfl
   ·have hx:X=3:=HX2.out
    subst hx
    clear HX2
    go_wp2
    go_ret
    exact ⟨rfl,hB2⟩
   ·have HG:=Lib.hid (rCheck_any g w2 hg)
    obtain ⟨E,hE⟩:∃ E,E=readE g.data.toList:=⟨_,rfl⟩
    rw [←hE] at HG HX2
    go_wp2_with fail
    refine HG.out.mono ?_
    rintro e w3 ⟨rfl,hb3⟩
    have q3:=q2.below hb3 q2.lt
    clear x3 x4
    have x3:=q3.cell 3
    have x4:=q3.cell 4
    have hB3:=hB2.trans (hb3.mono hB2.size)
    by_cases hE0:E=0
    ·have hEE:E=readE g.data.toList:=hE
     rw [hE0] at hEE
     have HS:=Lib.hid (rSign_q g _ w3 (num_read hEE.symm) (by have:=size_read hEE.symm;omega))
     have hX3:X=if signI (readQ g.data.toList)≤0 then 3 else readE o.data.toList:=by
      rw [HX2.out,hE0]
      rfl
     generalize signI (readQ g.data.toList)=sg at *
     have d5:(E==0)=true:=by rw [hE0];rfl
     have HX3:=Lib.hid hX3
     subst hE0
     clear hX3 hEE hE HG HX2
     go_wp2_with fail
     refine HS.out.mono ?_
     rintro e w4 ⟨rfl,rfl⟩
     by_cases hsg:sg≤0
     ·have hx:X=3:=by rw [HX3.out,if_pos hsg]
      subst hx
      have d6:decide (sg≤0)=true:=decide_eq_true hsg
      clear HX3 hsg HS
      go_wp2
      go_ret
      exact ⟨rfl,hB3⟩
     ·have hx:X=readE o.data.toList:=by rw [HX3.out,if_neg hsg]
      have d6:decide (sg≤0)=false:=decide_eq_false hsg
      have HO:=Lib.hid (rCheck_any o w3 ho)
      rw [←hx] at HO
      clear HX3 hsg HS hx
      go_wp2_with fail
      refine HO.out.mono ?_
      rintro e w4 ⟨rfl,hb4⟩
      have hB4:=hB3.trans (hb4.mono hB3.size)
      go_wp2
      go_ret
      exact ⟨rfl,hB4⟩
    ·have hx:X=E:=by rw [HX2.out];simp [hE0]
     subst hx
     have d5:(X==0)=false:=beq_eq_false_iff_ne.2 hE0
     clear HX2 hE0 hE
     go_wp2
     go_ret
     exact ⟨rfl,hB3⟩
end Go.Proofs.YtjhgadajpliclaaGreatDoor
namespace Go.Proofs.YtjhgadajpliclaaGreatDoor
open Go.RowKit Bn
open Flt
theorem firstE_three (x y z:Int):firstE [x,y,z]=if x≠0 then x else if y≠0 then y else z:=by
 unfold firstE
 split
 ·rfl
 ·unfold firstE
  split
  ·rfl
  ·unfold firstE
   split
   ·rfl
   ·rename_i h
    simp only [firstE]
    exact (Classical.not_not.1 h).symm
theorem cfirst_threeA (x y z:Int) (w:World) (t:TypeId) (g:Nat) (hg:w.heap.size=g) :
  Calls Tryz.prog 42 #[.slice (some ⟨g,0,none⟩) 3 3] (w.alloc (.cells #[.int .i64 x,.int .i64 y,.int .i64 z] t)) fun e w'=>e = .returned (.int .i64 (if x≠0 then x else if y≠0 then y else z))∧w.alloc (.cells #[.int .i64 x,.int .i64 y,.int .i64 z] t)=w':=by
 subst hg
 have h:=cfirst_any (some ⟨w.heap.size,0,none⟩) 3 3 [x,y,z] (w.alloc (.cells #[.int .i64 x,.int .i64 y,.int .i64 z] t)) (Reads.lit w [.int .i64 x,.int .i64 y,.int .i64 z] t) (by unfold maxLen;omega)
 rwa [firstE_three] at h
def gainE (l:List UInt8):Int:=if readE l≠0 then readE l else if signI (readQ l)≤0 then 3 else 0
theorem rcmp_zero {p:Q} (h:LowQ p):rcmp p (readQ [48])=signI p:=by
 have hw:writeS ⟨false,0,1⟩=[48]:=by decide +kernel
 have hq:readQ [48]=⟨false,0,1⟩:=by
  rw [←hw]
  exact (read_writeS ⟨false,0,1⟩ ⟨by decide,by decide,fun h=>by cases h⟩ (by show (Lib.decDigits 0).length≤600;rw [Dec.dec_lt (by omega)];simp) (by show (Lib.decDigits 1).length≤600;rw [Dec.dec_lt (by omega)];simp)).2
 rw [hq]
 unfold rcmp signI
 have hz:∀ n,ncmp (n*1) (0*p.bot)=if n=0 then 0 else 1:=by
  intro n
  rw [Nat.mul_one,Nat.zero_mul]
  rcases Nat.eq_zero_or_pos n with rfl | h
  ·rfl
  ·rw [ncmp_gt h,if_neg (by omega)]
 rw [hz]
 cases hn:p.neg
 ·simp
 ·have:=h.2.2 hn
  rw [if_neg (by simp),if_neg (by simp),if_neg (by omega)]
  rfl
theorem gain_ord (l:List UInt8):(if ordE l [48]=0∧ordO l [48]≤0 then 3 else ordE l [48])=gainE l:=by
 have e0:readE [48]=0:=by decide +kernel
 unfold gainE ordE ordO
 by_cases h:readE l=0
 ·rw [h,e0,rcmp_zero (readQ_low h)]
  simp
 ·simp [h]
set_option maxHeartbeats 4000000 in
set_option maxRecDepth 100000 in
theorem checkAdc_bad (a st z:Int) (g o:ByteArray) (w:World) (hr:rangeE a 8 12≠0∨rangeE st (-20) 4≠0) :
  Calls Tryz.prog 12 #[.agg #[.int .i64 a,.int .i64 st,.int .i64 z,.string g,.string o]] w fun e w'=>e = .returned (.int .i64 3)∧Below w.heap.size w w':=by
 have hb0:Below w.heap.size w (w.alloc (.cells #[.int .i64 a,.int .i64 st,.int .i64 z,.string g,.string o] 32)).drew:=((Below.refl _ _).alloc (Nat.le_refl _) _).drew
 have q0:CBlk (w.alloc (.cells #[.int .i64 a,.int .i64 st,.int .i64 z,.string g,.string o] 32)).drew w.heap.size #[.int .i64 a,.int .i64 st,.int .i64 z,.string g,.string o] 32:=CBlk.new w _ _ _ rfl
 have x0:=q0.cell 0
 have x1:=q0.cell 1
 have k0:=q0.lt
 obtain ⟨ea,hea⟩:∃ ea,rangeE a 8 12=ea:=⟨_,rfl⟩
 obtain ⟨es,hes⟩:∃ es,rangeE st (-20) 4=es:=⟨_,rfl⟩
 have hv:(if ea≠0 then ea else es)=3:=by
  rcases range_cases a 8 12 with h | h<;>rcases range_cases st (-20) 4 with h' | h'<;>rw [hea] at h hr<;>rw [hes] at h' hr<;>simp_all
 have HV:=Lib.hid hv
 have HR1:=Lib.hid hea
 have HR2:=Lib.hid hes
 clear hv hr hea hes
 go_enter Tryz.func12,Tryz.ntmps12
 go_wp2_with fail
 generalize w.alloc (.cells #[.int .i64 a,.int .i64 st,.int .i64 z,.string g,.string o] 32)=w1 at *
 go_region_held3 (fun w'=>w'.cell? ⟨w.heap.size,0,none⟩=some (.int .i64 a)∧w'.cell? ⟨w.heap.size,1,none⟩=some (.int .i64 st))
  ((first | exact ⟨x0,x1⟩ | exact ⟨(World.cell?_alloc_lt _ _ _ k0).trans x0,(World.cell?_alloc_lt _ _ _ k0).trans x1⟩))
  (first
   |(go_at_call 47;refine (cinRange_any _ _ _ _).mono ?_;rintro e w4 ⟨he,rfl⟩;(first | rw [HR1.out] at he | rw [HR2.out] at he);subst he)
   |(go_at_call 42;refine (cfirst_two ea es w1.drew _ _ rfl).mono ?_;rintro e w6 ⟨he,rfl⟩;rw [HV.out] at he;subst he))
 have hb2:Below w1.heap.size w1 (w1.alloc (.cells #[.int .i64 ea,.int .i64 es] 29)).drew:=((Below.refl _ _).alloc (Nat.le_refl _) _).drew
 have q1:CBlk w1 w.heap.size #[.int .i64 a,.int .i64 st,.int .i64 z,.string g,.string o] 32:=q0
 have q2:=q1.below hb2 k0
 have hb1:Below w.heap.size w w1:=⟨hb0.os,hb0.tape,hb0.output,hb0.size,hb0.block⟩
 have hB2:Below w.heap.size w (w1.alloc (.cells #[.int .i64 ea,.int .i64 es] 29)).drew:=hb1.trans (hb2.mono hb1.size)
 generalize (w1.alloc (.cells #[.int .i64 ea,.int .i64 es] 29)).drew=w2 at *
 go_wp2
 go_ret
 exact ⟨rfl,hB2⟩
set_option maxHeartbeats 4000000 in
set_option maxRecDepth 100000 in
theorem checkAdc_good (n:Nat) (st z:Int) (g o:ByteArray) (w:World) (hT:Tabs w) (hg:g.size≤4294967296) (ho:o.size≤4294967296) (hr1:rangeE (n:Int) 8 12=0) (hr2:rangeE st (-20) 4=0) (hn:n≤32) :
  Calls Tryz.prog 12 #[.agg #[.int .i64 (n:Int),.int .i64 st,.int .i64 z,.string g,.string o]] w fun e w'=>e = .returned (.int .i64 (if rangeE z 0 ((2 ^ n - 1:Nat):Int)≠0 then rangeE z 0 ((2 ^ n - 1:Nat):Int) else if gainE g.data.toList≠0 then gainE g.data.toList else readE o.data.toList))∧Below w.heap.size w w':=by
 have hb0:Below w.heap.size w (w.alloc (.cells #[.int .i64 (n:Int),.int .i64 st,.int .i64 z,.string g,.string o] 32)).drew:=((Below.refl _ _).alloc (Nat.le_refl _) _).drew
 have q0:CBlk (w.alloc (.cells #[.int .i64 (n:Int),.int .i64 st,.int .i64 z,.string g,.string o] 32)).drew w.heap.size #[.int .i64 (n:Int),.int .i64 st,.int .i64 z,.string g,.string o] 32:=CBlk.new w _ _ _ rfl
 have x0:=q0.cell 0
 have x1:=q0.cell 1
 have k0:=q0.lt
 have HR1:=Lib.hid hr1
 have HR2:=Lib.hid hr2
 have HTP:=Lib.hid (fun W=>top_any n st z (.string g) (.string o) W hn)
 have HG:=Lib.hid (fun W hT=>checkGain_any g W hT hg)
 rw [gain_ord] at HG
 have HO:=Lib.hid (fun W hT=>check_any o W hT ho)
 generalize ((2 ^ n - 1:Nat):Int)=T at *
 obtain ⟨rz,hrz⟩:∃ rz,rangeE z 0 T=rz:=⟨_,rfl⟩
 have HR3:=Lib.hid hrz
 rw [hrz]
 generalize gainE g.data.toList=ge at *
 generalize readE o.data.toList=oe at *
 obtain ⟨r9,hr9⟩:∃ r9,(if rz≠0 then rz else if ge≠0 then ge else oe)=r9:=⟨_,rfl⟩
 rw [hr9]
 have HR9:=Lib.hid hr9
 clear hr1 hr2 hrz hn hr9
 go_enter Tryz.func12,Tryz.ntmps12
 go_wp2_with fail
 generalize w.alloc (.cells #[.int .i64 (n:Int),.int .i64 st,.int .i64 z,.string g,.string o] 32)=w1 at *
 go_region_held3 (fun w'=>w'.cell? ⟨w.heap.size,0,none⟩=some (.int .i64 (n:Int))∧w'.cell? ⟨w.heap.size,1,none⟩=some (.int .i64 st))
  ((first | exact ⟨x0,x1⟩ | exact ⟨(World.cell?_alloc_lt _ _ _ k0).trans x0,(World.cell?_alloc_lt _ _ _ k0).trans x1⟩))
  (first
   |(go_at_call 47;refine (cinRange_any _ _ _ _).mono ?_;rintro e w4 ⟨he,rfl⟩;(first | rw [HR1.out] at he | rw [HR2.out] at he);subst he)
   |(go_at_call 42;refine (cfirst_two 0 0 w1.drew _ _ rfl).mono ?_;rintro e w6 ⟨rfl,rfl⟩))
 have hb2:Below w1.heap.size w1 (w1.alloc (.cells #[.int .i64 0,.int .i64 0] 29)).drew:=((Below.refl _ _).alloc (Nat.le_refl _) _).drew
 have q1:CBlk w1 w.heap.size #[.int .i64 (n:Int),.int .i64 st,.int .i64 z,.string g,.string o] 32:=q0
 have q2:=q1.below hb2 k0
 have hb1:Below w.heap.size w w1:=⟨hb0.os,hb0.tape,hb0.output,hb0.size,hb0.block⟩
 have hB2:Below w.heap.size w (w1.alloc (.cells #[.int .i64 0,.int .i64 0] 29)).drew:=hb1.trans (hb2.mono hb1.size)
 generalize (w1.alloc (.cells #[.int .i64 0,.int .i64 0] 29)).drew=w2 at *
 clear x0 x1
 have x0:=q2.cell 0
 have x1:=q2.cell 1
 have x2:=q2.cell 2
 have x3:=q2.cell 3
 have x4:=q2.cell 4
 have hT2:Tabs w2:=hT.later hB2
 go_wp2_with fail
 go_region_held3 (fun w'=>w'.cell? ⟨w.heap.size,0,none⟩=some (.int .i64 (n:Int))∧w'.cell? ⟨w.heap.size,1,none⟩=some (.int .i64 st)∧w'.cell? ⟨w.heap.size,2,none⟩=some (.int .i64 z)∧w'.cell? ⟨w.heap.size,3,none⟩=some (.string g)∧w'.cell? ⟨w.heap.size,4,none⟩=some (.string o))
  ((first | exact ⟨x0,x1,x2,x3,x4⟩ | exact ⟨y0,y1,y2,y3,y4⟩ | exact ⟨z0,z1,z2,z3,z4⟩ | exact ⟨u0,u1,u2,u3,u4⟩ | exact ⟨(World.cell?_alloc_lt _ _ _ k5).trans u0,(World.cell?_alloc_lt _ _ _ k5).trans u1,(World.cell?_alloc_lt _ _ _ k5).trans u2,(World.cell?_alloc_lt _ _ _ k5).trans u3,(World.cell?_alloc_lt _ _ _ k5).trans u4⟩))
  (first
   |(go_at_call 41;refine (HTP.out w2.drew).mono ?_;rintro e w3 ⟨rfl,hb3'⟩;have hb3:Below w2.heap.size w2 w3:=⟨hb3'.os,hb3'.tape,hb3'.output,hb3'.size,hb3'.block⟩;clear hb3';have q3:=q2.below hb3 q2.lt;have y0:=q3.cell 0;have y1:=q3.cell 1;have y2:=q3.cell 2;have y3:=q3.cell 3;have y4:=q3.cell 4;have hT3:=hT2.later hb3)
   |(go_at_call 47;refine (cinRange_any _ _ _ _).mono ?_;rintro e w4 ⟨he,rfl⟩;rw [HR3.out] at he;subst he)
   |(go_at_call 48;refine (HG.out w3 hT3).mono ?_;rintro e w4 ⟨rfl,hb4⟩;have q4:=q3.below hb4 q3.lt;have z0:=q4.cell 0;have z1:=q4.cell 1;have z2:=q4.cell 2;have z3:=q4.cell 3;have z4:=q4.cell 4;have hT4:=hT3.later hb4)
   |(go_at_call 43;refine (HO.out w4 hT4).mono ?_;rintro e w5 ⟨rfl,hb5⟩;have q5:=q4.below hb5 q4.lt;have u0:=q5.cell 0;have u1:=q5.cell 1;have u2:=q5.cell 2;have u3:=q5.cell 3;have u4:=q5.cell 4;have k5:=q5.lt)
   |(go_at_call 42;refine (cfirst_threeA rz ge oe w5 _ _ rfl).mono ?_;rintro e w6 ⟨he,rfl⟩;rw [HR9.out] at he;subst he))
 go_wp2_with fail
 go_ret
 have c3:=hB2.trans (hb3.mono hB2.size)
 have c4:=c3.trans (hb4.mono c3.size)
 have c5:=c4.trans (hb5.mono c4.size)
 exact ⟨rfl,c5.alloc c5.size _⟩
theorem checkAdc_any (a st z:Int) (g o:ByteArray) (w:World) (hT:Tabs w) (hg:g.size≤4294967296) (ho:o.size≤4294967296) :
  Calls Tryz.prog 12 #[.agg #[.int .i64 a,.int .i64 st,.int .i64 z,.string g,.string o]] w fun e w'=>e = .returned (.int .i64 (adcE a st z g.data.toList o.data.toList))∧Below w.heap.size w w':=by
 by_cases hr:rangeE a 8 12≠0∨rangeE st (-20) 4≠0
 ·have hx:adcE a st z g.data.toList o.data.toList=3:=by
   unfold adcE
   by_cases h1:rangeE a 8 12≠0
   ·rw [if_pos h1]
   ·rw [if_neg h1,if_pos (by rcases hr with h | h;(· exact absurd h h1);(· exact h))]
  rw [hx]
  exact checkAdc_bad a st z g o w hr
 ·have hr1:rangeE a 8 12=0:=Classical.not_not.1 fun h=>hr (.inl h)
  have hr2:rangeE st (-20) 4=0:=Classical.not_not.1 fun h=>hr (.inr h)
  have ha:8≤a∧a≤12:=by
   rcases range_cases a 8 12 with h | h
   ·rw [hr1] at h
    omega
   ·exact h.2
  obtain ⟨n,rfl⟩:∃ n:Nat,a=n:=⟨a.toNat,by omega⟩
  have hx:(if rangeE z 0 ((2 ^ n - 1:Nat):Int)≠0 then rangeE z 0 ((2 ^ n - 1:Nat):Int) else if gainE g.data.toList≠0 then gainE g.data.toList else readE o.data.toList)=adcE n st z g.data.toList o.data.toList:=by
   unfold adcE
   rw [hr1,hr2,Int.toNat_natCast,if_neg (c:=(0:Int)≠0) (by simp),if_neg (c:=(0:Int)≠0) (by simp)]
   rcases range_cases z 0 ((2 ^ n - 1:Nat):Int) with h | h
   ·rw [h.1]
    rfl
   ·rw [h.1,if_neg (c:=(0:Int)≠0) (by simp),if_neg (c:=(0:Int)≠0) (by simp)]
    unfold gainE
    by_cases h1:readE g.data.toList=0
    ·rw [h1]
     by_cases h2:signI (readQ g.data.toList)≤0<;>simp [h2]
    ·simp [h1]
  rw [←hx]
  exact checkAdc_good n st z g o w hT hg ho hr1 hr2 (by omega)
end Go.Proofs.YtjhgadajpliclaaGreatDoor
namespace Go.Proofs.YtjhgadajpliclaaGreatDoor
open Go.RowKit Dn
def twoQ:Q:=⟨false,2,1⟩
theorem two_num:NumQ ⟨#[50]⟩ twoQ:=⟨by decide +kernel,by decide,by decide,fun h=>by cases h⟩
def lsbQ (st:Int):Q:=if 0≤st then powQ twoQ st.toNat else powQ (recQ twoQ) (-st).toNat
theorem rec_two:recQ twoQ=halfQ:=rec_pos two_num.2 rfl (by decide)
theorem lsb_low (st:Int):LowQ (lsbQ st):=by
 unfold lsbQ
 split
 ·exact low_pow two_num.2 _
 ·rw [rec_two]
  exact low_pow half_num.2 _
theorem lsb_small {st:Int} (h : -20≤st∧st≤4):Small (lsbQ st) 10:=by
 have hp:∀ k,k≤20→2 ^ k<10 ^ 10:=fun k hk=>Nat.lt_of_le_of_lt (Nat.pow_le_pow_right (by omega) hk) (by decide)
 unfold lsbQ
 split
 ·exact ⟨hp _ (by omega),by show 1 ^ _<_;rw [Nat.one_pow];decide⟩
 ·rw [rec_two]
  exact ⟨by show 1 ^ _<_;rw [Nat.one_pow];decide,hp _ (by omega)⟩
theorem small_intQ {z:Int} (h : -10000≤z∧z≤10000):Small (intQ z) 10:=
 ⟨Nat.lt_of_le_of_lt (show z.natAbs≤10000 by omega) (by decide),by show 1<_;decide⟩
set_option maxHeartbeats 1000000 in
theorem rLsb_any (a st z:Int) (g o:ByteArray) (w:World) (hst : -20≤st∧st≤4) :
  Calls Tryz.prog 58 #[.agg #[.int .i64 a,.int .i64 st,.int .i64 z,.string g,.string o]] w (RetS w (lsbQ st)):=by
 have hb0:Below w.heap.size w (w.alloc (.cells #[.int .i64 a,.int .i64 st,.int .i64 z,.string g,.string o] 24)):=(Below.refl _ _).alloc (Nat.le_refl _) _
 have hs2:Small twoQ 1:=⟨by decide,by decide⟩
 have HP:Hid (∀ W,Calls Tryz.prog 121 #[.string ⟨#[50]⟩,.int .i64 st] W (RetS W (lsbQ st))):=by
  intro W
  unfold lsbQ
  split
  ·have h:=rPow_pos ⟨#[50]⟩ twoQ st.toNat 1 W two_num rfl hs2 (by omega) (by omega)
   rwa [Int.toNat_of_nonneg (by assumption)] at h
  ·have h:=rPow_neg ⟨#[50]⟩ twoQ (-st).toNat 1 W two_num rfl (by decide) hs2 (by omega) (by omega) (by omega) (by decide)
   rwa [Int.toNat_of_nonneg (by omega),Int.neg_neg] at h
 generalize lsbQ st=L at *
 clear hs2 hst
 go_enter Tryz.func58,Tryz.ntmps58
 go_wp2_with fail
 refine (HP.out _).mono ?_
 rintro e w1 ⟨⟨s,rfl,hs⟩,hb1⟩
 go_wp2
 go_ret
 exact ⟨⟨s,rfl,hs⟩,hb0.trans (hb1.mono hb0.size)⟩
def nomQ (st z c:Int):Q:=mulQ (lsbQ st) (intQ (c - z))
set_option maxHeartbeats 2000000 in
set_option maxRecDepth 100000 in
theorem rNominal_any (a st z c:Int) (g o:ByteArray) (w:World) (hst : -20≤st∧st≤4) (hz:0≤z∧z≤4096) (hc:0≤c∧c≤4096) :
  Calls Tryz.prog 49 #[.agg #[.int .i64 a,.int .i64 st,.int .i64 z,.string g,.string o],.int .i64 c] w (RetS w (nomQ st z c)):=by
 have hb0:Below w.heap.size w (w.alloc (.cells #[.int .i64 a,.int .i64 st,.int .i64 z,.string g,.string o] 24)).drew:=((Below.refl _ _).alloc (Nat.le_refl _) _).drew
 have q0:CBlk (w.alloc (.cells #[.int .i64 a,.int .i64 st,.int .i64 z,.string g,.string o] 24)).drew w.heap.size #[.int .i64 a,.int .i64 st,.int .i64 z,.string g,.string o] 24:=CBlk.new w _ _ _ rfl
 have x0:=q0.cell 0
 have x1:=q0.cell 1
 have x2:=q0.cell 2
 have x3:=q0.cell 3
 have x4:=q0.cell 4
 have k0:=q0.lt
 have HL:=Lib.hid (fun W=>rLsb_any a st z g o W hst)
 obtain ⟨d,hd⟩:∃ d,d=c - z:=⟨_,rfl⟩
 have fw:IntKind.i64.wrap (c - z)=d:=by rw [IntWalk.i64_in _ (by omega),hd]
 have HF:=Lib.hid (fun W=>rFromInt_any d W (by omega) (by omega))
 have HLS:=Lib.hid (lsb_small hst)
 have HIS:=Lib.hid (small_intQ (z:=d) (by omega))
 have HM:Hid (∀ (s t:ByteArray) W,NumQ s (lsbQ st)→NumQ t (intQ d)→Calls Tryz.prog 78 #[.string s,.string t] W (RetS W (nomQ st z c))):=fun s t W hs ht=>by
  subst hd
  exact rMul_q s t _ _ W hs ht (by have:=hs.size HLS.out (by omega);omega) (by have:=ht.size HIS.out (by omega);omega)
 generalize lsbQ st=L at *
 generalize intQ d=I at *
 generalize nomQ st z c=R at *
 clear hst hz hc HLS HIS hd
 go_enter Tryz.func49,Tryz.ntmps49
 go_wp2_with fail
 generalize w.alloc (.cells #[.int .i64 a,.int .i64 st,.int .i64 z,.string g,.string o] 24)=w1 at *
 have hdr:Below w1.drew.heap.size w1.drew w1.drew:=Below.refl _ _
 go_region_held3 (fun w'=>w'.cell? ⟨w.heap.size,0,none⟩=some (.int .i64 a)∧w'.cell? ⟨w.heap.size,1,none⟩=some (.int .i64 st)∧w'.cell? ⟨w.heap.size,2,none⟩=some (.int .i64 z)∧w'.cell? ⟨w.heap.size,3,none⟩=some (.string g)∧w'.cell? ⟨w.heap.size,4,none⟩=some (.string o))
  (first | exact ⟨x0,x1,x2,x3,x4⟩ | exact ⟨(hc1.cell (p:=⟨w.heap.size,0,none⟩) k0).trans x0,(hc1.cell (p:=⟨w.heap.size,1,none⟩) k0).trans x1,(hc1.cell (p:=⟨w.heap.size,2,none⟩) k0).trans x2,(hc1.cell (p:=⟨w.heap.size,3,none⟩) k0).trans x3,(hc1.cell (p:=⟨w.heap.size,4,none⟩) k0).trans x4⟩ | exact ⟨(hc2.cell (p:=⟨w.heap.size,0,none⟩) k0).trans x0,(hc2.cell (p:=⟨w.heap.size,1,none⟩) k0).trans x1,(hc2.cell (p:=⟨w.heap.size,2,none⟩) k0).trans x2,(hc2.cell (p:=⟨w.heap.size,3,none⟩) k0).trans x3,(hc2.cell (p:=⟨w.heap.size,4,none⟩) k0).trans x4⟩ | exact ⟨(hc3.cell (p:=⟨w.heap.size,0,none⟩) k0).trans x0,(hc3.cell (p:=⟨w.heap.size,1,none⟩) k0).trans x1,(hc3.cell (p:=⟨w.heap.size,2,none⟩) k0).trans x2,(hc3.cell (p:=⟨w.heap.size,3,none⟩) k0).trans x3,(hc3.cell (p:=⟨w.heap.size,4,none⟩) k0).trans x4⟩)
  (first
   |(go_at_call 58;refine (HL.out w1.drew).mono ?_;rintro e v1 ⟨⟨s,rfl,hs⟩,f1⟩;have hc1:=hdr.trans f1)
   |(go_at_call 59;refine (HF.out v1).mono ?_;rintro e v2 ⟨⟨t,rfl,ht⟩,f2⟩;have hc2:=hc1.trans (f2.mono hc1.size))
   |(go_at_call 78;refine (HM.out s t v2 hs ht).mono ?_;rintro e v3 ⟨⟨r,rfl,hr⟩,f3⟩;have hc3:=hc2.trans (f3.mono hc2.size)))
 go_wp2
 go_ret
 exact ⟨⟨r,rfl,hr⟩,hb0.trans (hc3.mono hb0.size)⟩
set_option maxHeartbeats 2000000 in
set_option maxRecDepth 100000 in
theorem rReal_any (a st z:Int) (g o v:ByteArray) (p q r:Q) (w:World) (hg:NumQ g p) (ho:NumQ o q) (hv:NumQ v r) (hgs:g.size≤2000) (hos:o.size≤2000) (hvs:v.size≤2000) :
  Calls Tryz.prog 69 #[.agg #[.int .i64 a,.int .i64 st,.int .i64 z,.string g,.string o],.string v] w (RetS w (addQ (mulQ p r) q)):=by
 have hb0:Below w.heap.size w (w.alloc (.cells #[.int .i64 a,.int .i64 st,.int .i64 z,.string g,.string o] 24)).drew:=((Below.refl _ _).alloc (Nat.le_refl _) _).drew
 have q0:CBlk (w.alloc (.cells #[.int .i64 a,.int .i64 st,.int .i64 z,.string g,.string o] 24)).drew w.heap.size #[.int .i64 a,.int .i64 st,.int .i64 z,.string g,.string o] 24:=CBlk.new w _ _ _ rfl
 have x0:=q0.cell 0
 have x1:=q0.cell 1
 have x2:=q0.cell 2
 have x3:=q0.cell 3
 have x4:=q0.cell 4
 have k0:=q0.lt
 have HM:=Lib.hid (fun W=>rMul_q g v p r W hg hv (by omega) (by omega))
 have hsz:∀ s:ByteArray,NumQ s (mulQ p r)→s.size≤100000:=fun s hs=>by
  obtain ⟨N,hN⟩:∃ N,N=2000:=⟨_,rfl⟩
  have s1:Small p N:=hg.small (by omega) (by omega)
  have s2:Small r N:=hv.small (by omega) (by omega)
  have:=hs.size (small_mul s1 s2 hg.2.1 hv.2.1) (by omega)
  omega
 have HA:=Lib.hid (fun (s:ByteArray) (hs:NumQ s (mulQ p r)) (W:World)=>rAdd_q s o (mulQ p r) q W hs ho (hsz s hs) (by omega))
 generalize addQ (mulQ p r) q=R at *
 generalize mulQ p r=M at *
 clear hsz
 go_enter Tryz.func69,Tryz.ntmps69
 go_wp2_with fail
 generalize w.alloc (.cells #[.int .i64 a,.int .i64 st,.int .i64 z,.string g,.string o] 24)=w1 at *
 have hdr:Below w1.drew.heap.size w1.drew w1.drew:=Below.refl _ _
 go_region_held3 (fun w'=>w'.cell? ⟨w.heap.size,0,none⟩=some (.int .i64 a)∧w'.cell? ⟨w.heap.size,1,none⟩=some (.int .i64 st)∧w'.cell? ⟨w.heap.size,2,none⟩=some (.int .i64 z)∧w'.cell? ⟨w.heap.size,3,none⟩=some (.string g)∧w'.cell? ⟨w.heap.size,4,none⟩=some (.string o))
  (first | exact ⟨x0,x1,x2,x3,x4⟩ | exact ⟨(hc1.cell (p:=⟨w.heap.size,0,none⟩) k0).trans x0,(hc1.cell (p:=⟨w.heap.size,1,none⟩) k0).trans x1,(hc1.cell (p:=⟨w.heap.size,2,none⟩) k0).trans x2,(hc1.cell (p:=⟨w.heap.size,3,none⟩) k0).trans x3,(hc1.cell (p:=⟨w.heap.size,4,none⟩) k0).trans x4⟩ | exact ⟨(hc2.cell (p:=⟨w.heap.size,0,none⟩) k0).trans x0,(hc2.cell (p:=⟨w.heap.size,1,none⟩) k0).trans x1,(hc2.cell (p:=⟨w.heap.size,2,none⟩) k0).trans x2,(hc2.cell (p:=⟨w.heap.size,3,none⟩) k0).trans x3,(hc2.cell (p:=⟨w.heap.size,4,none⟩) k0).trans x4⟩)
  (first
   |(go_at_call 78;refine (HM.out w1.drew).mono ?_;rintro e v1 ⟨⟨s,rfl,hs⟩,f1⟩;have hc1:=hdr.trans f1)
   |(go_at_call 56;refine (HA.out s hs v1).mono ?_;rintro e v2 ⟨⟨t,rfl,ht⟩,f2⟩;have hc2:=hc1.trans (f2.mono hc1.size)))
 go_wp2
 go_ret
 exact ⟨⟨t,rfl,ht⟩,hb0.trans (hc2.mono hb0.size)⟩
end Go.Proofs.YtjhgadajpliclaaGreatDoor
