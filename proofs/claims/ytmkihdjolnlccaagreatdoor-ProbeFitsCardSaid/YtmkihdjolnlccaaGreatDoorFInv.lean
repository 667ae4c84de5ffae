/- A law for regions that draw their order: what is kept by each operation that may come next holds at the end, whatever the order was. -/
import Derived.Deep.RegionHeld3
import Derived.Test.YtmkihdjolnlccaaGreatDoorFDp
import Derived.Test.YtmkihdjolnlccaaGreatDoorFRb23
import Derived.Test.YtmkihdjolnlccaaGreatDoorFRng2
import Derived.Test.YtmkihdjolnlccaaGreatDoorFFloat
import Derived.Test.YtmkihdjolnlccaaGreatDoorFRat4
namespace Go.Proofs.YtmkihdjolnlccaaGreatDoor
open Go.RowKit
theorem cnt_set:∀ (l:List Bool) (i:Nat),l[i]? = some false→(l.set i true).countP (fun b => !b)+1=l.countP (fun b => !b)
 | [],_,h=>by simp at h
 | b :: l,0,h=>by
  simp at h
  subst h
  simp
 | b :: l,i+1,h=>by
  have h2:=cnt_set l i (by simpa using h)
  rw [List.set_cons_succ,List.countP_cons,List.countP_cons]
  omega
theorem cnt_zero:∀ (l:List Bool),l.countP (fun b => !b)=0→∀ (i:Nat) (b:Bool),l[i]? = some b→b=true
 | [],_,i,b,h=>by simp at h
 | c :: l,h0,i,b,h=>by
  rw [List.countP_cons] at h0
  cases i with
  | zero=>
   simp at h
   subst h
   cases c
   ·simp at h0
   ·rfl
  | succ i=>exact cnt_zero l (by omega) i b (by simpa using h)
theorem wpAny_inv {P:Program} {ops:Array Oper} {Q:Exit→Act→World→Prop} (Inv:Array Bool→Act→World→Prop)
  (hstep:∀ (i:Nat) (o:Oper) (listed:Array Bool) (a:Act) (w:World),ops[i]? = some o→Inv listed a w→listed[i]? = some false →
   (∀ e ∈ o.after,Region.binds .any e=true→listed.getD e.on false=true)→wpOp P ops Q i (fun a' w'=>Inv (listed.setIfInBounds i true) a' w') a w)
  (hdone:∀ (listed:Array Bool) (a:Act) (w:World),Inv listed a w→Region.ready .any ops listed=[]→Q .normal a w) :
  ∀ (fuel:Nat) (listed:Array Bool) (a:Act) (w:World),listed.toList.countP (fun b => !b)≤fuel→Inv listed a w→wpAny P .any ops Q fuel listed a w:=by
 have hun:∀ (listed:Array Bool) (i:Nat),listed.getD i true=false→listed[i]? = some false:=by
  intro listed i h
  rw [Array.getD_eq_getD_getElem?] at h
  cases hl:listed[i]? with
  | none=>rw [hl] at h;cases h
  | some b=>rw [hl] at h;simp at h;rw [h]
 intro fuel
 induction fuel with
 | zero=>
  intro listed a w hc hI
  have hr:Region.ready .any ops listed=[]:=by
   cases hq:Region.ready .any ops listed with
   | nil=>rfl
   | cons j l=>
    have hj:j ∈ Region.ready .any ops listed:=by rw [hq];exact List.mem_cons_self
    have h1:=hun listed j (mem_ready.1 hj).1
    have h2:=cnt_zero listed.toList (by omega) j false (by simpa using h1)
    cases h2
  exact ⟨hr,hdone listed a w hI hr⟩
 | succ fuel ih=>
  intro listed a w hc hI
  refine ⟨fun hr=>hdone listed a w hI hr,fun i hi => ?_⟩
  obtain ⟨hu,o,ho,hall⟩:=mem_ready.1 hi
  have h1:=hun listed i hu
  refine wpOp_mono (fun a' w' h=>ih _ a' w' ?_ h) (hstep i o listed a w ho hI h1 hall)
  have h3:=cnt_set listed.toList i (by simpa using h1)
  rw [Array.toList_setIfInBounds]
  omega
theorem all_listed {ops:Array Oper} {listed:Array Bool} (htop:∀ (i:Nat) (o:Oper),ops[i]? = some o→∀ e ∈ o.after,e.on<i) (hr:Region.ready .any ops listed=[]) :
  ∀ (n i:Nat),i<n→i<ops.size→∀ b,listed[i]? = some b→b=true:=by
 intro n
 induction n with
 | zero=>intro i h;omega
 | succ n ih=>
  intro i hi hs b hb
  cases b with
  | true=>rfl
  | false=>
   exfalso
   have hlt:i<listed.size:=(Array.getElem?_eq_some_iff.1 hb).1
   have hm:i ∈ Region.ready .any ops listed:=by
    refine mem_ready.2 ⟨by rw [Array.getD_eq_getD_getElem?,hb];rfl,ops[i],Array.getElem?_eq_getElem hs,fun e he _ => ?_⟩
    have h1:=htop i ops[i] (Array.getElem?_eq_getElem hs) e he
    have h2:listed[e.on]? = some listed[e.on]:=Array.getElem?_eq_getElem (by omega)
    have h3:=ih e.on (by omega) (by omega) _ h2
    rw [Array.getD_eq_getD_getElem?,h2,h3]
    rfl
   rw [hr] at hm
   cases hm
theorem top_of {ops:Array Oper} (h:(List.range ops.size).all (fun i=>((ops[i]?).map (fun o=>o.after.toList.all (fun e=>decide (e.on<i)))).getD true)=true) :
  ∀ (i:Nat) (o:Oper),ops[i]? = some o→∀ e ∈ o.after,e.on<i:=by
 intro i o ho e he
 have hi:i<ops.size:=(Array.getElem?_eq_some_iff.1 ho).1
 have h1:=List.all_eq_true.1 h i (List.mem_range.2 hi)
 rw [ho] at h1
 have h2:=List.all_eq_true.1 h1 e (by simpa using he)
 simpa using h2
theorem wp_region_inv {P:Program} {id:Nat} {ops:Array Oper} {Q:Exit→Act→World→Prop} {a:Act} {w:World} (hm:P.follows .mixedOrders=true) (Inv:Array Bool→Act→World→Prop)
  (htop:(List.range ops.size).all (fun i=>((ops[i]?).map (fun o=>o.after.toList.all (fun e=>decide (e.on<i)))).getD true)=true)
  (h0:Inv (Array.replicate ops.size false) a w.drew)
  (hstep:∀ (i:Nat) (o:Oper) (listed:Array Bool) (a:Act) (w:World),ops[i]? = some o→Inv listed a w→listed[i]? = some false →
   (∀ e ∈ o.after,Region.binds .any e=true→listed.getD e.on false=true)→wpOp P ops Q i (fun a' w'=>Inv (listed.setIfInBounds i true) a' w') a w)
  (hdone:∀ (listed:Array Bool) (a:Act) (w:World),Inv listed a w→(∀ i b,i<ops.size→listed[i]? = some b→b=true)→Q .normal a w) :
  (Code.region id ops true).wp P Q a w:=by
 refine wp_region_any hm (wpAny_inv Inv hstep (fun listed a w hI hr=>hdone listed a w hI fun i b hi hb=>all_listed (top_of htop) hr (i+1) i (by omega) hi b hb) _ _ _ _ ?_ h0)
 rw [Array.toList_replicate]
 exact Nat.le_trans List.countP_le_length (by rw [List.length_replicate];exact Nat.le_refl _)
theorem step_of {P:Program} {ops:Array Oper} {Q:Exit→Act→World→Prop} {Inv:Array Bool→Act→World→Prop} {i:Nat} {o:Oper} {listed:Array Bool} {a:Act} {w:World} (ho:ops[i]? = some o)
  (h:∀ K':Act→World→Prop,Hid (∀ a' w',Inv (listed.setIfInBounds i true) a' w'→K' a' w')→if Region.wanted o (yielded ops a.tmps)=true then Oper.wp P o a w K' Q else K' (a.put o.dst undef) w) :
  wpOp P ops Q i (fun a' w'=>Inv (listed.setIfInBounds i true) a' w') a w:=wpOp_step ho fun K' hK=>h K' (Lib.hid hK)
end Go.Proofs.YtmkihdjolnlccaaGreatDoor
namespace Go.Proofs.YtmkihdjolnlccaaGreatDoor
open Go.RowKit Dn
def numQ (p:Q):Q:=⟨p.neg,p.top,1⟩
theorem NumQ.top_eq {a:ByteArray} {p:Q} (h:NumQ a p):a.data.toList=sgnT p.neg (Lib.decDigits p.top)++tailT p.bot:=h.num
set_option maxHeartbeats 1000000 in
theorem rNum_q (a:ByteArray) (p:Q) (w:World) (h:NumQ a p) (ha:a.size≤1000000) :
  Calls Tryz.prog 88 #[.string a] w fun e w'=>(∃ s:ByteArray,e = .returned (.string s)∧NumQ s (numQ p)∧s.size≤a.size)∧w=w':=by
 obtain ⟨k,hk⟩:∃ k,k=(sgnT p.neg (Lib.decDigits p.top)).length:=⟨_,rfl⟩
 obtain ⟨p1,p2,p3⟩:=cut_parts (t:=a) (l:=sgnT p.neg (Lib.decDigits p.top)) h.num hk
 have hsv:slashL a.data.toList=k:=by rw [h.top_eq,slashL_tail _ _ (sgnT_slash (digits_dec p.top)),hk]
 have hka:k≤a.size:=by
  have:=slashL_le a.data.toList
  rw [hsv,Array.length_toList] at this
  exact this
 have hsl:=fun W=>rslash_any a W (by omega)
 simp only [hsv] at hsl
 have HSL:=Lib.hid hsl
 have HN:Hid (NumQ (a.extract 0 k) (numQ p)):=by
  refine ⟨?_,Nat.one_pos,Nat.gcd_one_right _,h.2.2.2⟩
  rw [p1,writeS_eq]
  show _=_++(if (1:Nat)=1 then [] else _)
  rw [if_pos rfl,List.append_nil]
  rfl
 have HS:Hid ((a.extract 0 k).size≤a.size):=by show (a.extract 0 k).size≤a.size;rw [ByteArray.size_extract];omega
 clear hsl hsv p1 p2 p3 hk h
 go_enter Tryz.func88,Tryz.ntmps88
 go_wp2_with fail
 refine (HSL.out w).mono ?_
 rintro e w4 ⟨rfl,rfl⟩
 go_wp2
 go_ret
 exact ⟨⟨_,rfl,HN.out,HS.out⟩,rfl⟩
set_option maxHeartbeats 1000000 in
theorem rDen_q (a:ByteArray) (p:Q) (w:World) (h:NumQ a p) (ha:a.size≤1000000) :
  Calls Tryz.prog 89 #[.string a] w fun e w'=>(∃ s:ByteArray,e = .returned (.string s)∧s.size=(Lib.decDigits p.bot).length)∧w=w':=by
 obtain ⟨k,hk⟩:∃ k,k=(sgnT p.neg (Lib.decDigits p.top)).length:=⟨_,rfl⟩
 obtain ⟨p1,p2,p3⟩:=cut_parts (t:=a) (l:=sgnT p.neg (Lib.decDigits p.top)) h.num hk
 have hsv:slashL a.data.toList=k:=by rw [h.top_eq,slashL_tail _ _ (sgnT_slash (digits_dec p.top)),hk]
 have hsl:=fun W=>rslash_any a W (by omega)
 simp only [hsv] at hsl
 have HSL:=Lib.hid hsl
 by_cases hy:p.bot=1
 ·have hak:=p2 hy
  have dk:((k:Int)==(a.size:Int))=true:=by rw [beq_iff_eq];omega
  have HR:Hid ((⟨#[49]⟩:ByteArray).size=(Lib.decDigits p.bot).length):=by show _=_;rw [hy,Dec.dec_lt (by omega)];rfl
  clear hsl hsv p1 p2 p3 hk h hak hy
  go_enter Tryz.func89,Tryz.ntmps89
  go_wp2_with fail
  refine (HSL.out w).mono ?_
  rintro e w4 ⟨rfl,rfl⟩
  go_wp2
  go_ret
  exact ⟨⟨_,rfl,HR.out⟩,rfl⟩
 ·obtain ⟨hka,hext,hsz⟩:=p3 hy
  have dk:((k:Int)==(a.size:Int))=false:=by rw [beq_eq_false_iff_ne];omega
  obtain ⟨kk,hkk⟩:∃ kk,kk=k+1:=⟨_,rfl⟩
  have ew:IntKind.i64.wrap ((k:Int)+1)=(kk:Int):=by rw [IntWalk.i64_in _ (by omega)];omega
  have hk0:(0:Int)≤(kk:Int)∧(kk:Int)≤(a.size:Int):=by omega
  have HR:Hid ((a.extract kk a.size).size=(Lib.decDigits p.bot).length):=by
   show _=_
   rw [hkk,←hext,Array.length_toList]
   rfl
  clear hsl hsv p1 p2 p3 hk h hext hsz hy hkk
  go_enter Tryz.func89,Tryz.ntmps89
  go_wp2_with fail
  refine (HSL.out w).mono ?_
  rintro e w4 ⟨rfl,rfl⟩
  go_wp2
  go_ret
  exact ⟨⟨_,rfl,HR.out⟩,rfl⟩
end Go.Proofs.YtmkihdjolnlccaaGreatDoor
namespace Go.Proofs.YtmkihdjolnlccaaGreatDoor
open Go.RowKit Bn
open Flt
theorem readQ_low {l:List UInt8} (h:readE l=0):LowQ (readQ l):=⟨readQ_bot h,readQ_gcd h,readQ_neg h⟩
end Go.Proofs.YtmkihdjolnlccaaGreatDoor
namespace Go.Proofs.YtmkihdjolnlccaaGreatDoor
open Go.RowKit Dn
set_option maxHeartbeats 1000000 in
theorem rpow2_any (n:Nat) (w:World) (hn:n≤60) :
  Calls Tryz.prog 154 #[.int .i64 (n:Int)] w fun e w'=>e = .returned (.int .i64 ((2 ^ n:Nat):Int))∧w=w':=by
 obtain ⟨P,hP⟩:∃ P,P=2 ^ n:=⟨_,rfl⟩
 have HP:=Lib.hid hP
 rw [←hP]
 clear hP
 go_enter Tryz.func154,Tryz.ntmps154
 go_wp2
 go_loop [3,4] (fun v i=>∃ p k:Nat,k≤n∧v = .int .i64 (p:Int)∧i = .int .i64 (k:Int)∧Hid (p=2 ^ k)) (fun _ i=>n - (intOf i).toNat)
 case atStart=>exact ⟨1,0,Nat.zero_le _,rfl,rfl,rfl⟩
 case round=>
  obtain ⟨p,k,hk,rfl,rfl,hv⟩:=hrel
  by_cases hlt:k<n
  ·have hp:=hv.out
   have hb:2 ^ k≤2 ^ 60:=Nat.pow_le_pow_right (by omega) (by omega)
   have e60:(2:Nat) ^ 60=1152921504606846976:=by decide
   rw [e60] at hb
   obtain ⟨pp,hpp⟩:∃ pp,pp=2*p:=⟨_,rfl⟩
   obtain ⟨kk,hkk⟩:∃ kk,kk=k+1:=⟨_,rfl⟩
   have f1:IntKind.i64.wrap (2*(p:Int))=(pp:Int):=by rw [IntWalk.i64_in _ (by omega)];omega
   have f2:IntKind.i64.wrap ((k:Int)+1)=(kk:Int):=by rw [IntWalk.i64_in _ (by omega)];omega
   have HV:Hid (pp=2 ^ kk):=by show pp=2 ^ kk;rw [hpp,hkk,hp,Nat.pow_succ,Nat.mul_comm]
   have hkn:kk≤n:=by omega
   have hdec:n - kk<n - k:=by omega
   have d1:decide (k<n)=true:=decide_eq_true hlt
   clear hp hb e60 hpp hkk hlt
   go_wp2
   go_round
   case rel=>exact ⟨pp,kk,hkn,rfl,rfl,HV.out⟩
   case measure=>simpa [intOf] using hdec
  ·have he:k=n:=by omega
   have HF:Hid (p=P):=by show p=P;rw [hv.out,HP.out,he]
   have d1:decide (k<n)=false:=decide_eq_false hlt
   clear he hv
   go_wp2
   go_ret
   exact ⟨by rw [HF.out];rfl,rfl⟩
set_option maxHeartbeats 1000000 in
theorem rTop_any (a:Nat) (st z:Int) (g o:Value) (w:World) (ha:a≤32) :
  Calls Tryz.prog 78 #[.agg #[.int .i64 a,.int .i64 st,.int .i64 z,g,o]] w fun e w'=>e = .returned (.int .i64 ((2 ^ a - 1:Nat):Int))∧Below w.heap.size w w':=by
 have hb:Below w.heap.size w (w.alloc (.cells #[.int .i64 a,.int .i64 st,.int .i64 z,g,o] 24)):=(Below.refl _ _).alloc (Nat.le_refl _) _
 have hp:2 ^ a≤2 ^ 32:=Nat.pow_le_pow_right (by omega) ha
 have e32:(2:Nat) ^ 32=4294967296:=by decide
 have hp0:=Nat.two_pow_pos a
 rw [e32] at hp
 have HPW:=Lib.hid (fun W=>rpow2_any a W (by omega))
 obtain ⟨P,hP⟩:∃ P,P=2 ^ a:=⟨_,rfl⟩
 obtain ⟨T,hT⟩:∃ T:Nat,T=2 ^ a - 1:=⟨_,rfl⟩
 have f1:IntKind.i64.wrap ((P:Int) - 1)=(T:Int):=by rw [IntWalk.i64_in _ (by omega)];omega
 rw [←hT]
 rw [←hP] at HPW
 clear hP hT hp hp0 e32
 go_enter Tryz.func78,Tryz.ntmps78
 go_wp2_with fail
 refine (HPW.out _).mono ?_
 rintro e w1 ⟨rfl,rfl⟩
 go_wp2
 go_ret
 exact ⟨rfl,hb⟩
set_option maxHeartbeats 1000000 in
theorem rCheckCode_any (a:Nat) (st z c:Int) (g o:Value) (w:World) (ha:a≤32) :
  Calls Tryz.prog 73 #[.agg #[.int .i64 a,.int .i64 st,.int .i64 z,g,o],.int .i64 c] w fun e w'=>e = .returned (.int .i64 (rangeE c 0 ((2 ^ a - 1:Nat):Int)))∧Below w.heap.size w w':=by
 have hb:Below w.heap.size w (w.alloc (.cells #[.int .i64 a,.int .i64 st,.int .i64 z,g,o] 24)):=(Below.refl _ _).alloc (Nat.le_refl _) _
 have HT:=Lib.hid (rTop_any a st z g o (w.alloc (.cells #[.int .i64 a,.int .i64 st,.int .i64 z,g,o] 24)) ha)
 generalize ((2 ^ a - 1:Nat):Int)=T at *
 by_cases h0:c<0
 ·have hr:rangeE c 0 T=3:=by unfold rangeE;rw [if_pos (.inl h0)]
  rw [hr]
  have d0:decide (c<0)=true:=decide_eq_true h0
  clear hr h0
  go_enter Tryz.func73,Tryz.ntmps73
  go_wp2
  go_ret
  exact ⟨rfl,hb⟩
 ·have d0:decide (c<0)=false:=decide_eq_false h0
  have hcase:(decide (T<c)=true∧rangeE c 0 T=3)∨(decide (T<c)=false∧rangeE c 0 T=0):=by
   by_cases h1:T<c
   ·exact .inl ⟨decide_eq_true h1,by unfold rangeE;rw [if_pos (.inr h1)]⟩
   ·exact .inr ⟨decide_eq_false h1,by unfold rangeE;rw [if_neg (by omega)]⟩
  rcases hcase with ⟨d1,hr⟩ | ⟨d1,hr⟩
  all_goals
   rw [hr]
   clear hr h0
   go_enter Tryz.func73,Tryz.ntmps73
   go_wp2_with fail
   refine HT.out.mono ?_
   rintro e w1 ⟨rfl,hb1⟩
   have hB:=hb.trans (hb1.mono hb.size)
   go_wp2
   go_ret
   exact ⟨rfl,hB⟩
def adcE (a st z:Int) (g o:List UInt8):Int:=
 if rangeE a 8 12≠0 then 3 else if rangeE st (-20) 4≠0 then 3 else if rangeE z 0 ((2 ^ a.toNat - 1:Nat):Int)≠0 then 3
 else if readE g≠0 then readE g else if signI (readQ g)≤0 then 3 else readE o
theorem small_read {l:List UInt8} {N:Nat} (h:readE l=0) (hN:N=600):Small (readQ l) N:=by
 obtain ⟨h1,h2,_,hf⟩:=readE_zero h
 rw [←hN] at h2 hf
 have hN1:1≤N:=by omega
 clear hN
 unfold readQ Small
 rw [if_pos h]
 refine ⟨Nat.lt_of_lt_of_le (decVal_lt _ (isDec_digits h1)) (Nat.pow_le_pow_right (by omega) h2),?_⟩
 cases hb:fracL l
 ·simp only [Bool.false_eq_true,if_false]
  have h9:10 ^ 1≤10 ^ N:=Nat.pow_le_pow_right (by omega) hN1
  omega
 ·obtain ⟨h3,_,_,h4,_⟩:=hf hb
  simp only [if_true]
  exact Nat.lt_of_lt_of_le (decVal_lt _ (isDec_digits h3)) (Nat.pow_le_pow_right (by omega) h4)
theorem num_read {a:ByteArray} (h:readE a.data.toList=0):NumQ a (readQ a.data.toList):=⟨(write_readQ _ h).symm,readQ_low h⟩
theorem size_read {a:ByteArray} (h:readE a.data.toList=0):a.size≤1202:=by
 obtain ⟨N,hN⟩:∃ N:Nat,N=600:=⟨_,rfl⟩
 have:=(num_read h).size (small_read h hN) (by omega)
 omega
theorem range_cases (n a b:Int):(rangeE n a b=3∧(n<a∨b<n))∨(rangeE n a b=0∧a≤n∧n≤b):=by
 unfold rangeE
 split
 ·exact .inl ⟨rfl,by assumption⟩
 ·exact .inr ⟨rfl,by omega,by omega⟩
set_option maxHeartbeats 4000000 in
set_option maxRecDepth 100000 in
theorem rCheckAdc_any (a st z:Int) (g o:ByteArray) (w:World) (hg:g.size≤9223372036854775807) (ho:o.size≤9223372036854775807) :
  Calls Tryz.prog 16 #[.agg #[.int .i64 a,.int .i64 st,.int .i64 z,.string g,.string o]] w fun e w'=>e = .returned (.int .i64 (adcE a st z g.data.toList o.data.toList))∧Below w.heap.size w w':=by
 have hb0:Below w.heap.size w (w.alloc (.cells #[.int .i64 a,.int .i64 st,.int .i64 z,.string g,.string o] 24)):=(Below.refl _ _).alloc (Nat.le_refl _) _
 have q0:CBlk (w.alloc (.cells #[.int .i64 a,.int .i64 st,.int .i64 z,.string g,.string o] 24)) w.heap.size #[.int .i64 a,.int .i64 st,.int .i64 z,.string g,.string o] 24:=CBlk.new w _ _ _ rfl
 obtain ⟨X,hX⟩:∃ X,X=adcE a st z g.data.toList o.data.toList:=⟨_,rfl⟩
 rw [←hX]
 rcases range_cases a 8 12 with ⟨hr1,ha⟩ | ⟨hr1,ha1,ha2⟩
 ·have hx:X=3:=by rw [hX];unfold adcE;rw [hr1];rfl
  subst hx
  have hc:decide (a<8)=true∨(decide (a<8)=false∧decide (12<a)=true):=by
   simp only [decide_eq_true_eq,decide_eq_false_iff_not]
   omega
  clear hX hr1 ha q0
  rcases hc with d1 | ⟨d1,d2⟩
  all_goals
   go_enter Tryz.func16,Tryz.ntmps16
   go_wp2
   go_ret
   exact ⟨rfl,hb0⟩
 ·have d1:decide (a<8)=false:=decide_eq_false (by omega)
  have d2:decide (12<a)=false:=decide_eq_false (by omega)
  rcases range_cases st (-20) 4 with ⟨hr2,hs⟩ | ⟨hr2,hs1,hs2⟩
  ·have hx:X=3:=by rw [hX];unfold adcE;rw [hr1,hr2];rfl
   subst hx
   have hc:decide (st < -20)=true∨(decide (st < -20)=false∧decide (4<st)=true):=by
    simp only [decide_eq_true_eq,decide_eq_false_iff_not]
    omega
   clear hX hr1 hr2 hs q0 ha1 ha2
   rcases hc with d3 | ⟨d3,d4⟩
   all_goals
    go_enter Tryz.func16,Tryz.ntmps16
    go_wp2
    go_ret
    exact ⟨rfl,hb0⟩
  ·have d3:decide (st < -20)=false:=decide_eq_false (by omega)
   have d4:decide (4<st)=false:=decide_eq_false (by omega)
   obtain ⟨n,rfl⟩:∃ n:Nat,a=n:=⟨a.toNat,by omega⟩
   have hX2:X=if rangeE z 0 ((2 ^ n - 1:Nat):Int)≠0 then 3 else if readE g.data.toList≠0 then readE g.data.toList else if signI (readQ g.data.toList)≤0 then 3 else readE o.data.toList:=by
    rw [hX]
    unfold adcE
    rw [hr1,hr2,Int.toNat_natCast]
    rfl
   have HX2:=Lib.hid hX2
   have HC:=Lib.hid (fun W=>rCheckCode_any n st z z (.string g) (.string o) W (by omega))
   obtain ⟨rz,hrz⟩:∃ rz,rz=rangeE z 0 ((2 ^ n - 1:Nat):Int):=⟨_,rfl⟩
   have hzc:=range_cases z 0 ((2 ^ n - 1:Nat):Int)
   rw [←hrz] at hzc hX2 HC HX2
   have hzz:rz=3∨rz=0:=by rcases hzc with h | h;(· exact .inl h.1);(· exact .inr h.1)
   have x0:=q0.cell 0
   have x1:=q0.cell 1
   have x2:=q0.cell 2
   have x3:=q0.cell 3
   have x4:=q0.cell 4
   clear hX hX2 hr1 hr2 hs1 hs2 ha1 ha2 hrz hzc
   go_enter Tryz.func16,Tryz.ntmps16
   go_wp2_with fail
   generalize w.alloc (.cells #[.int .i64 n,.int .i64 st,.int .i64 z,.string g,.string o] 24)=w1 at *
   refine (HC.out w1).mono ?_
   rintro e w2 ⟨rfl,hb2⟩
   have q2:=q0.below hb2 q0.lt
   clear x0 x1 x2 x3 x4
   have x3:=q2.cell 3
   have x4:=q2.cell 4
   have hB2:=hb0.trans (hb2.mono hb0.size)
   rcases hzz with rfl | rfl
   ·have hx:X=3:=HX2.out
    subst hx
    clear HX2
    go_wp2
    go_ret
    exact ⟨rfl,hB2⟩
   ·have HG:=Lib.hid (rCheck_any g w2 hg)
    obtain ⟨E,hE⟩:∃ E,E=readE g.data.toList:=⟨_,rfl⟩
    rw [←hE] at HG HX2
    go_wp2_with fail
    refine HG.out.mono ?_
    rintro e w3 ⟨rfl,hb3⟩
    have q3:=q2.below hb3 q2.lt
    clear x3 x4
    have x3:=q3.cell 3
    have x4:=q3.cell 4
    have hB3:=hB2.trans (hb3.mono hB2.size)
    by_cases hE0:E=0
    ·have hEE:E=readE g.data.toList:=hE
     rw [hE0] at hEE
     have HS:=Lib.hid (rSign_q g _ w3 (num_read hEE.symm) (by have:=size_read hEE.symm;omega))
     have hX3:X=if signI (readQ g.data.toList)≤0 then 3 else readE o.data.toList:=by
      rw [HX2.out,hE0]
      rfl
     generalize signI (readQ g.data.toList)=sg at *
     have d5:(E==0)=true:=by rw [hE0];rfl
     have HX3:=Lib.hid hX3
     subst hE0
     clear hX3 hEE hE HG HX2
     go_wp2_with fail
     refine HS.out.mono ?_
     rintro e w4 ⟨rfl,rfl⟩
     by_cases hsg:sg≤0
     ·have hx:X=3:=by rw [HX3.out,if_pos hsg]
      subst hx
      have d6:decide (sg≤0)=true:=decide_eq_true hsg
      clear HX3 hsg HS
      go_wp2
      go_ret
      exact ⟨rfl,hB3⟩
     ·have hx:X=readE o.data.toList:=by rw [HX3.out,if_neg hsg]
      have d6:decide (sg≤0)=false:=decide_eq_false hsg
      have HO:=Lib.hid (rCheck_any o w3 ho)
      rw [←hx] at HO
      clear HX3 hsg HS hx
      go_wp2_with fail
      refine HO.out.mono ?_
      rintro e w4 ⟨rfl,hb4⟩
      have hB4:=hB3.trans (hb4.mono hB3.size)
      go_wp2
      go_ret
      exact ⟨rfl,hB4⟩
    ·have hx:X=E:=by rw [HX2.out];simp [hE0]
     subst hx
     have d5:(X==0)=false:=beq_eq_false_iff_ne.2 hE0
     clear HX2 hE0 hE
     go_wp2
     go_ret
     exact ⟨rfl,hB3⟩
def FewT (s:ByteArray):Prop:=readE s.data.toList=0∧Small (readQ s.data.toList) 12∧s.size≤26
def FewIs (s:ByteArray) (b:Bool):Prop:=∀ W,Calls Tryz.prog 39 #[.string s,.int .i64 12] W fun e w'=>e = .returned (.bool b)∧Below W.heap.size W w'
set_option maxHeartbeats 2000000 in
set_option maxRecDepth 100000 in
theorem few_valid (a:ByteArray) (b:Bool) (h1:a.size≤26) (h2:readE a.data.toList=0) (hb:b=(decide ((writeS (absQ (numQ (readQ a.data.toList)))).length≤12) && decide ((Lib.decDigits (readQ a.data.toList).bot).length≤12))) :
    FewIs a b:=by
  intro w
  have d1:decide ((a.size:Int)≤26)=true:=decide_eq_true (by omega)
  have hq:=num_read h2
  have hC:∀ W,Calls Tryz.prog 51 #[.string a] W (RetC W 0):=fun W=>by
    have h:=rCheck_any a W (by omega)
    rwa [h2] at h
  have HC:=Lib.hid hC
  have HN:=Lib.hid (fun W=>rNum_q a _ W hq (by omega))
  have HA:=Lib.hid (fun (s:ByteArray) (hs:NumQ s (numQ (readQ a.data.toList))) (hz:s.size≤1000000) (W:World)=>rAbs_q s (numQ (readQ a.data.toList)) W hs hz)
  have HD:=Lib.hid (fun W=>rDen_q a _ W hq (by omega))
  clear hC
  generalize readQ a.data.toList=p at *
  obtain ⟨L2,hL2⟩:∃ L2,L2=(Lib.decDigits p.bot).length:=⟨_,rfl⟩
  obtain ⟨L1,hL1⟩:∃ L1,L1=(writeS (absQ (numQ p))).length:=⟨_,rfl⟩
  rw [←hL1,←hL2] at hb
  rw [←hL2] at HD
  have HZ:Hid (∀ t:ByteArray,NumQ t (absQ (numQ p))→t.size=L1):=fun t ht=>by
    have h9:=congrArg List.length ht.1
    rw [←hL1,Array.length_toList] at h9
    exact h9
  clear hq h2 hL1 hL2
  have hcase:(decide ((L1:Int)≤12)=false∧b=false)∨(decide ((L1:Int)≤12)=true∧decide ((L2:Int)≤12)=b):=by
    rw [hb]
    by_cases h3:L1≤12
    · refine .inr ⟨decide_eq_true (by omega),?_⟩
      rw [decide_eq_true h3,Bool.true_and]
      by_cases h4:L2≤12
      · rw [decide_eq_true (show (L2:Int)≤12 by omega),decide_eq_true h4]
      · rw [decide_eq_false (show ¬ (L2:Int)≤12 by omega),decide_eq_false h4]
    · exact .inl ⟨decide_eq_false (by omega),by rw [decide_eq_false h3];rfl⟩
  clear hb
  rcases hcase with ⟨d3,rfl⟩ | ⟨d3,d4⟩
  all_goals
    go_enter Tryz.func39,Tryz.ntmps39
    go_wp2_with fail
    refine (HC.out w).mono ?_
    rintro e w1 ⟨rfl,hb1⟩
    go_wp2_with fail
    refine (HN.out w1).mono ?_
    rintro e w2 ⟨⟨s,rfl,hs1,hs2⟩,rfl⟩
    have HS:=Lib.hid hs1
    clear hs1
    go_wp2_with fail
    refine (HA.out s HS.out (by omega) w1).mono ?_
    rintro e w3 ⟨⟨t,rfl,ht1⟩,hb3⟩
    have hB3:=hb1.trans (hb3.mono hb1.size)
    have hts:=HZ.out t ht1
    rw [←hts] at d3
    clear ht1 hb3 hb1 hts
    go_wp2_with fail
    first
      | (go_ret
         exact ⟨rfl,hB3⟩)
      | (refine (HD.out w3).mono ?_
         rintro e w4 ⟨⟨u,rfl,hu⟩,rfl⟩
         rw [←hu] at d4
         clear hu
         go_wp2
         go_ret
         exact ⟨rfl,hB3⟩)
set_option maxHeartbeats 1000000 in
theorem few_is (a:ByteArray):∃ b,(b=true→FewT a)∧FewIs a b:=by
 by_cases h1:a.size≤26
 ·by_cases h2:readE a.data.toList=0
  ·refine ⟨_,fun hb=>⟨h2,?_,h1⟩,few_valid a _ h1 h2 rfl⟩
   simp only [Bool.and_eq_true,decide_eq_true_eq] at hb
   have hq:=num_read h2
   generalize readQ a.data.toList=p at *
   have hla:LowQ (numQ p):=⟨Nat.one_pos,Nat.gcd_one_right _,hq.2.2.2⟩
   have ht:NumQ ⟨(writeS (absQ (numQ p))).toArray⟩ (absQ (numQ p)):=⟨by simp,low_abs hla⟩
   have hts:(⟨(writeS (absQ (numQ p))).toArray⟩:ByteArray).size≤12:=by
    show (writeS (absQ (numQ p))).toArray.size≤12
    rw [List.size_toArray]
    exact hb.1
   refine ⟨(ht.small hts (by omega)).1,?_⟩
   have e2:=decVal_lt _ (digits_dec p.bot)
   rw [decVal_dec] at e2
   exact Nat.lt_of_lt_of_le e2 (Nat.pow_le_pow_right (by omega) hb.2)
  ·refine ⟨false,(fun h=>by cases h),fun w => ?_⟩
   have d1:decide ((a.size:Int)≤26)=true:=decide_eq_true (by omega)
   have HC:=Lib.hid (fun W=>rCheck_any a W (by omega))
   have d2:(readE a.data.toList==0)=false:=beq_eq_false_iff_ne.2 h2
   generalize readE a.data.toList=E at *
   clear h2
   go_enter Tryz.func39,Tryz.ntmps39
   go_wp2_with fail
   refine (HC.out w).mono ?_
   rintro e w1 ⟨rfl,hb1⟩
   go_wp2
   go_ret
   exact ⟨rfl,hb1⟩
 ·refine ⟨false,(fun h=>by cases h),fun w => ?_⟩
  have d1:decide ((a.size:Int)≤26)=false:=decide_eq_false (by omega)
  go_enter Tryz.func39,Tryz.ntmps39
  go_wp2
  go_ret
  exact ⟨rfl,Below.refl _ _⟩
end Go.Proofs.YtmkihdjolnlccaaGreatDoor
