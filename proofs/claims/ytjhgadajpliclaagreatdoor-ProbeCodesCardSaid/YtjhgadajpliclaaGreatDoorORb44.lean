/- The reference's Float of a positive number that is a whole number of units of its place, below 2^24. -/
import Derived.Test.YtjhgadajpliclaaGreatDoorORv1
import Derived.Test.YtjhgadajpliclaaGreatDoorORb40
import Derived.Test.YtjhgadajpliclaaGreatDoorOPr2
import Derived.Test.YtjhgadajpliclaaGreatDoorOPr4
namespace Go.Proofs.YtjhgadajpliclaaGreatDoor
open Go.RowKit
open Flt
theorem c24_num:NumQ ⟨#[49,54,55,55,55,50,49,54]⟩ (intQ 16777216):=⟨by decide +kernel,low_int _⟩
theorem c23_num:NumQ ⟨#[56,51,56,56,54,48,56]⟩ (intQ 8388608):=⟨by decide +kernel,low_int _⟩
theorem Val.pow (k:Nat):Val (powQ twoQ k) ((2 ^ k:Nat):Int) 1:=by
 refine ⟨?_,Nat.one_pos,Nat.pow_pos (by decide)⟩
 show ((2 ^ k:Nat):Int)*1=((2 ^ k:Nat):Int)*((1 ^ k:Nat):Int)
 rw [Nat.one_pow]
 rfl
theorem Val.powN (k:Nat):Val (powQ (recQ twoQ) k) 1 (2 ^ k):=by
 rw [rec_two]
 refine ⟨?_,Nat.two_pow_pos k,Nat.pow_pos (by decide)⟩
 show ((1 ^ k:Nat):Int)*((2 ^ k:Nat):Int)=1*((2 ^ k:Nat):Int)
 rw [Nat.one_pow]
 rfl
theorem cmp_val {p q:Q} {a b:Int} {x y:Nat} (h:Val p a x) (h':Val q b y):(a*y<b*x→cmpI p q = -1)∧(a*y=b*x→cmpI p q=0)∧(b*x<a*y→cmpI p q=1):=by
 have h9:=(h.sub h').sign
 unfold cmpI
 exact ⟨fun e=>h9.1 (by omega),fun e=>h9.2.1 (by omega),fun e=>h9.2.2 (by omega)⟩
set_option maxHeartbeats 2000000 in
set_option maxRecDepth 100000 in
theorem rPow_posB (a:ByteArray) (p:Q) (k N:Nat) (w:World) (h:NumQ a p) (hn:p.neg=false) (hs:Small p N) (hk:k≤200) (hN:N≤20) :
  Calls Tryz.prog 121 #[.string a,.int .i64 (k:Int)] w (RetS w (powQ p k)):=by
 have hp1:NumQ a (powQ p 1):=by
  have e:powQ p 1=p:=by
   obtain ⟨n,t,b⟩:=p
   dsimp only at hn
   subst hn
   unfold powQ
   simp
  rw [e];exact h
 have hsz:∀ (s:ByteArray) (e:Nat),NumQ s (powQ p e)→e≤401→s.size≤20000:=fun s e h9 he=>by
  have h1:=h9.size (small_pow hs e) (by omega)
  have h2:N*e≤20*401:=Nat.mul_le_mul hN he
  omega
 have hmul:∀ (s t:ByteArray) (i j:Nat),NumQ s (powQ p i)→NumQ t (powQ p j)→i≤401→j≤401→∀ W:World,Calls Tryz.prog 78 #[.string s,.string t] W (RetS W (powQ p (i+j))):=fun s t i j h1 h2 hi hj W=>by
  have h9:=rMul_q s t _ _ W h1 h2 (by have:=hsz s i h1 hi;omega) (by have:=hsz t j h2 hj;omega)
  rwa [mul_powQ h.2] at h9
 have HM:=Lib.hid hmul
 have d0:decide ((k:Int)<0)=false:=by simp
 have H1:Hid (PowInv p k k a ⟨#[49]⟩):=⟨1,0,hp1,one_num,by omega,by omega,by omega⟩
 clear hsz hmul hp1 h hn hs
 go_enter Tryz.func121,Tryz.ntmps121
 go_wp2
 go_loopg [0,1,5] k (fun g v0 v1 v5 W=>∃ (i:Nat) (t s:ByteArray),v0 = .string t∧v1 = .int .i64 (i:Int)∧v5 = .string s∧i≤g∧i≤k∧Hid (PowInv p k i t s)∧Below w.heap.size w W)
 case atStart=>exact ⟨k,a,_,rfl,rfl,rfl,Nat.le_refl _,Nat.le_refl _,H1.out,Below.refl _ _⟩
 case round=>
  obtain ⟨i,t,s,rfl,rfl,rfl,hg,hik,hinv,hbel⟩:=hrel
  obtain ⟨e,r,ht,hs,hre,he,hr⟩:=hinv.out
  by_cases h0:i=0
  ·subst h0
   have hR:NumQ s (powQ p k):=by
    rw [Nat.mul_zero,Nat.add_zero] at hre
    rw [←hre];exact hs
   have HR:=Lib.hid hR
   clear hR hre ht hs hinv
   go_wp2
   go_ret
   exact ⟨⟨s,rfl,HR.out⟩,hbel⟩
  ·have hek:e≤k:=by
    have:e*1≤e*i:=Nat.mul_le_mul_left e (by omega)
    omega
   have d1:decide (0<i)=true:=by simp;omega
   obtain ⟨i2,hi2⟩:∃ i2,i2=i / 2:=⟨_,rfl⟩
   have ed:(i:Int) / 2=(i2:Int):=by omega
   have HSQ:=Lib.hid (HM.out t t e e ht ht (by omega) (by omega))
   by_cases hodd:i % 2=1
   ·have eo:(i:Int) % 2=1:=by omega
    have hee:e*i=e+(e+e)*i2:=by
     have:i=1+2*i2:=by omega
     rw [this,Nat.mul_add,Nat.mul_one,Nat.add_mul,←Nat.mul_assoc,Nat.mul_comm e 2,Nat.two_mul,Nat.add_mul]
    have HO:=Lib.hid (HM.out s t r e hs ht (by omega) (by omega))
    have HI:Hid (∀ t2 s2:ByteArray,NumQ t2 (powQ p (e+e))→NumQ s2 (powQ p (r+e))→PowInv p k i2 t2 s2):=fun t2 s2 h1 h2=>⟨e+e,r+e,h1,h2,by omega,by omega,by omega⟩
    have hi2k:i2≤k∧i2<i:=by omega
    have HIK:=Lib.hid hi2k
    clear hi2 hodd hee hre ht hs hinv hi2k
    go_wp2_with fail
    refine (HO.out wr).mono ?_
    rintro e1 w1 ⟨⟨s2,rfl,hs2⟩,hb1⟩
    go_wp2_with fail
    refine (HSQ.out w1).mono ?_
    rintro e2 w2 ⟨⟨t2,rfl,ht2⟩,hb2⟩
    have HN:=Lib.hid (HI.out t2 s2 ht2 hs2)
    clear hs2 ht2
    go_wp2
    go_roundg i2
    case measure=>have:=HIK.out;omega
    case rel=>exact ⟨i2,t2,s2,rfl,rfl,rfl,Nat.le_refl _,HIK.out.1,HN.out,hbel.trans ((hb1.trans (hb2.mono hb1.size)).mono hbel.size)⟩
   ·have eo:(i:Int) % 2=0:=by omega
    have hee:e*i=(e+e)*i2:=by
     have:i=2*i2:=by omega
     rw [this,←Nat.mul_assoc,Nat.mul_comm e 2,Nat.two_mul]
    have HI:Hid (∀ t2:ByteArray,NumQ t2 (powQ p (e+e))→PowInv p k i2 t2 s):=fun t2 h1=>⟨e+e,r,h1,hs,by omega,by omega,by omega⟩
    have hi2k:i2≤k∧i2<i:=by omega
    have HIK:=Lib.hid hi2k
    clear hi2 hodd hee hre ht hs hinv hi2k
    go_wp2_with fail
    refine (HSQ.out wr).mono ?_
    rintro e2 w2 ⟨⟨t2,rfl,ht2⟩,hb2⟩
    have HN:=Lib.hid (HI.out t2 ht2)
    clear ht2
    go_wp2
    go_roundg i2
    case measure=>have:=HIK.out;omega
    case rel=>exact ⟨i2,t2,s,rfl,rfl,rfl,Nat.le_refl _,HIK.out.1,HN.out,hbel.trans (hb2.mono hbel.size)⟩
set_option maxHeartbeats 2000000 in
set_option maxRecDepth 100000 in
theorem rPow_negB (a:ByteArray) (p:Q) (m N:Nat) (w:World) (h:NumQ a p) (hn:p.neg=false) (ht:0<p.top) (hs:Small p N) (hm:0<m) (hk:m≤200) (hN:N≤20) (ha:a.size≤100000) :
  Calls Tryz.prog 121 #[.string a,.int .i64 (-(m:Int))] w (RetS w (powQ (recQ p) m)):=by
 have hrn:(recQ p).neg=false:=by rw [rec_pos h.2 hn ht]
 have HR:=Lib.hid (rRec_q a p w h hn ht ha)
 have HP:=Lib.hid (fun (s:ByteArray) (h9:NumQ s (recQ p)) (W:World)=>rPow_posB s (recQ p) m N W h9 hrn (rec_size hs ht) hk hN)
 have d0:decide (-(m:Int)<0)=true:=by simp only [decide_eq_true_eq];omega
 have hm1 : -(m:Int)<0:=by omega
 obtain ⟨z,hz⟩:∃ z:Int, -(m:Int)=z:=⟨_,rfl⟩
 have ez:0 - z=(m:Int):=by omega
 have ez2 : -z=(m:Int):=by omega
 have hzb : -200≤z:=by omega
 rw [hz] at d0 hm1 ⊢
 clear hz h hn hs hrn
 go_enter Tryz.func121,Tryz.ntmps121
 go_wp2_with fail
 refine HR.out.mono ?_
 rintro e w1 ⟨⟨s,rfl,h9⟩,hb1⟩
 go_wp2_with fail
 refine (HP.out s h9 w1).mono ?_
 rintro e w2 ⟨⟨t,rfl,h8⟩,hb2⟩
 go_wp2
 go_ret
 exact ⟨⟨t,rfl,h8⟩,hb1.trans (hb2.mono hb1.size)⟩
theorem small_frac' (n:Nat) (h:n<16777216):Small (intQ (n:Int)) 20:=⟨by show (n:Int).natAbs<10 ^ 20;rw [Int.natAbs_natCast];exact Nat.lt_trans h (by decide),by show 1<10 ^ 20;decide⟩
theorem Val.smallN {q:Q} {a:Int} {x K:Nat} (h:Val q a x) (hl:LowQ q) (ha:a.natAbs<10 ^ K) (hx:x<10 ^ K):Small q K:=by
 have e:q=fracQ a x:=h.eq (Val.frac h.2.1) hl (fracQ_low _ h.2.1) rfl
 rw [e]
 exact small_frac ha hx h.2.1
theorem floor_int (n:Nat):floorZ (intQ (n:Int))=n:=by
 unfold floorZ floorI intQ
 dsimp only
 rw [Nat.mod_one,if_neg (by simp),Nat.div_one,sgn_of]
theorem NumQ.sizeN {s:ByteArray} {q:Q} {K:Nat} (h:NumQ s q) (hq:Small q K) (hK:0<K) (hK2:K≤300):s.size≤602:=by have:=h.size hq hK;omega
set_option maxHeartbeats 4000000 in
set_option maxRecDepth 100000 in
theorem rFloat_pos (a:ByteArray) (p:Q) (M D n J K:Nat) (w:World) (h:NumQ a p) (hv:Val p (M:Int) (2 ^ D)) (hn:M*2 ^ J=n*2 ^ D) (h1:8388608≤n) (h2:n<16777216) (hJ:J≤149)
  (hK0:0<K) (hK:K≤300) (hMK:M*2 ^ J<10 ^ K) (hDK:2 ^ D<10 ^ K) (hlo:2 ^ D≤M*2 ^ 151) (hhi:M<2 ^ 128*2 ^ D) :
  Calls Tryz.prog 62 #[.string a] w fun e w'=>e = .returned (.tuple #[.float .f32 (Ieee.single.word false (rung n (-(J:Int)))),.bool true])∧Below w.heap.size w w':=by
 have hD0:0<2 ^ D:=Nat.two_pow_pos D
 have hM0:0<M:=by
  rcases Nat.eq_zero_or_pos M with h0 | h0
  ·rw [h0,Nat.zero_mul] at hn
   have:=Nat.mul_pos (show 0<n by omega) hD0
   omega
  ·exact h0
 have hs2:Small twoQ 1:=⟨by decide,by decide⟩
 have hJ0:0<2 ^ J:=Nat.two_pow_pos J
 have hMJ:M≤M*2 ^ J:=Nat.le_mul_of_pos_right _ hJ0
 have sp:Small p K:=hv.smallN h.2 (by rw [Int.natAbs_natCast];omega) hDK
 have hsg:signI p=1:=hv.sign.2.2 (by omega)
 have HSG:=rSign_q a p w h (by have:=h.sizeN sp hK0 hK;omega)
 rw [hsg] at HSG
 have h128:Val (powQ twoQ 128) ((2 ^ 128:Nat):Int) 1:=Val.pow 128
 have h151:Val (powQ (recQ twoQ) 151) 1 (2 ^ 151):=Val.powN 151
 have P128:=Lib.hid (fun W=>rPow_posB ⟨#[50]⟩ twoQ 128 1 W two_num rfl hs2 (by omega) (by omega))
 have P151:=Lib.hid (fun W=>rPow_negB ⟨#[50]⟩ twoQ 151 1 W two_num rfl (by decide) hs2 (by omega) (by omega) (by omega) (by decide))
 have c128:cmpI p (powQ twoQ 128) = -1:=(cmp_val hv h128).1 (by rw [←Int.natCast_mul,←Int.natCast_mul];omega)
 have c151:decide (cmpI p (powQ (recQ twoQ) 151)<0)=false:=by
  rcases Nat.lt_or_eq_of_le hlo with h9 | h9
  ·rw [(cmp_val hv h151).2.2 (by rw [Int.one_mul,←Int.natCast_mul];omega)];decide
  ·rw [(cmp_val hv h151).2.1 (by rw [Int.one_mul,←Int.natCast_mul];omega)];decide
 have sz128:Small (powQ twoQ 128) 100:=⟨by decide,by decide⟩
 have sz151:Small (powQ (recQ twoQ) 151) 100:=by rw [rec_two];exact ⟨by decide,by decide⟩
 have C128:=Lib.hid (fun s (hs:NumQ s (powQ twoQ 128)) W=>rCmp_q a s _ _ W h hs (by have:=h.sizeN sp hK0 hK;omega) (by have:=hs.sizeN sz128 (by omega) (by omega);omega))
 have C151:=Lib.hid (fun s (hs:NumQ s (powQ (recQ twoQ) 151)) W=>rCmp_q a s _ _ W h hs (by have:=h.sizeN sp hK0 hK;omega) (by have:=hs.sizeN sz151 (by omega) (by omega);omega))
 rw [c128] at C128
 generalize cmpI p (powQ (recQ twoQ) 151)=x151 at *
 have v24:Val (intQ 16777216) 16777216 1:=Val.int _
 have v23:Val (intQ 8388608) 8388608 1:=Val.int _
 have c24:cmpI p (intQ 16777216) = -1:=(cmp_val hv v24).1 (by
  have e:M*2 ^ J<16777216*2 ^ D:=by rw [hn];exact Nat.mul_lt_mul_of_pos_right h2 hD0
  rw [Int.natCast_one,Int.mul_one,show (16777216:Int)*((2 ^ D:Nat):Int)=((16777216*2 ^ D:Nat):Int) by rw [Int.natCast_mul];rfl]
  omega)
 have C24:=rCmp_q a _ _ _ w h c24_num (by have:=h.sizeN sp hK0 hK;omega) (by decide)
 have C24':=Lib.hid (fun W=>rCmp_q a _ _ _ W h c24_num (by have:=h.sizeN sp hK0 hK;omega) (by decide))
 rw [c24] at C24'
 clear C24
 have HR:Hid (∀ (i:Nat) (s:ByteArray) (q:Q),i≤J→NumQ s q→Val q ((M*2 ^ i:Nat):Int) (2 ^ D) →
   (∀ W,Calls Tryz.prog 60 #[.string s,.string ⟨#[56,51,56,56,54,48,56]⟩] W fun e w'=>e = .returned (.int .i64 (cmpI q (intQ 8388608)))∧Below W.heap.size W w') ∧
   (i<J→cmpI q (intQ 8388608) = -1)∧(i=J→decide (cmpI q (intQ 8388608)<0)=false) ∧
   (∀ W,Calls Tryz.prog 78 #[.string s,.string ⟨#[50]⟩] W (RetS W (mulQ q twoQ)))∧(i<J→Val (mulQ q twoQ) ((M*2 ^ (i+1):Nat):Int) (2 ^ D))):=by
  intro i s q hi hs hq
  have hpi:M*2 ^ i≤M*2 ^ J:=Nat.mul_le_mul_left M (Nat.pow_le_pow_right (by omega) hi)
  have sq:Small q K:=hq.smallN hs.2 (by rw [Int.natAbs_natCast];omega) hDK
  have hsz:=hs.sizeN sq hK0 hK
  refine ⟨fun W=>rCmp_q s _ _ _ W hs c23_num (by omega) (by decide),fun hlt => ?_,fun he => ?_,fun W=>rMul_q s _ _ _ W hs two_num (by omega) (by decide),fun hlt => ?_⟩
  ·refine (cmp_val hq v23).1 ?_
   have e1:M*2 ^ (i+1)≤M*2 ^ J:=Nat.mul_le_mul_left M (Nat.pow_le_pow_right (by omega) hlt)
   have e2:M*2 ^ J<16777216*2 ^ D:=by rw [hn];exact Nat.mul_lt_mul_of_pos_right h2 hD0
   rw [Nat.pow_succ,←Nat.mul_assoc] at e1
   rw [Int.natCast_one,Int.mul_one,show (8388608:Int)*((2 ^ D:Nat):Int)=((8388608*2 ^ D:Nat):Int) by rw [Int.natCast_mul];rfl]
   omega
  ·subst he
   have e2:8388608*2 ^ D≤M*2 ^ i:=by rw [hn];exact Nat.mul_le_mul_right _ h1
   have ec:(8388608:Int)*((2 ^ D:Nat):Int)=((8388608*2 ^ D:Nat):Int):=by rw [Int.natCast_mul];rfl
   rcases Nat.lt_or_eq_of_le e2 with h9 | h9
   ·rw [(cmp_val hq v23).2.2 (by rw [Int.natCast_one,Int.mul_one,ec];omega)];decide
   ·rw [(cmp_val hq v23).2.1 (by rw [Int.natCast_one,Int.mul_one,ec];omega)];decide
  ·have h9:=hq.mul (show Val twoQ 2 1 from ⟨rfl,Nat.one_pos,by decide⟩)
   rw [Nat.mul_one] at h9
   rw [Nat.pow_succ,←Nat.mul_assoc,Int.natCast_mul (M*2 ^ i) 2]
   exact h9
 have HL:Hid (∀ (s:ByteArray) (q:Q),NumQ s q→LowQ q):=fun s q h=>h.2
 have HE:Hid (∀ (s:ByteArray) (q:Q),NumQ s q→Val q ((M*2 ^ J:Nat):Int) (2 ^ D)→NumQ s (intQ (n:Int))):=fun s q hs hq=>by
  have e:q=intQ (n:Int):=hq.eq (Val.int _) hs.2 (low_int _) (by rw [hn,Int.natCast_mul,Int.natCast_one,Int.mul_one])
  rwa [←e]
 have HF:=Lib.hid (fun (s:ByteArray) (hs:NumQ s (intQ (n:Int))) W=>rFloor_q s _ W hs (by have:=hs.sizeN (small_frac' n h2) (by omega) (by omega);omega))
 rw [floor_int] at HF
 have HI:=Lib.hid (fun (s:ByteArray) (hs:NumQ s (intQ (n:Int))) W=>rToInt_small s n W hs (by omega))
 have HFI:=Lib.hid (fun W=>rFromInt_any (n:Int) W (by omega) (by omega))
 have HSU:=Lib.hid (fun (s t:ByteArray) (hs:NumQ s (intQ (n:Int))) (ht:NumQ t (intQ (n:Int))) W=>rSub_q s t _ _ W hs ht (by have:=hs.sizeN (small_frac' n h2) (by omega) (by omega);omega) (by have:=ht.sizeN (small_frac' n h2) (by omega) (by omega);omega))
 have v0:Val (subQ (intQ (n:Int)) (intQ (n:Int))) 0 1:=by have h9:=(Val.int (n:Int)).sub (Val.int (n:Int));rw [Int.sub_self] at h9;exact h9
 have ch:cmpI (subQ (intQ (n:Int)) (intQ (n:Int))) halfQ = -1:=(cmp_val v0 Val.half).1 (by decide)
 have HCH:=Lib.hid (fun (s:ByteArray) (hs:NumQ s (subQ (intQ (n:Int)) (intQ (n:Int)))) W=>rCmp_q s _ _ _ W hs half_num (by have:=hs.sizeN (K:=20) (v0.smallN hs.2 (by decide) (by decide)) (by omega) (by omega);omega) (by decide))
 rw [ch] at HCH
 have HBU:=Lib.hid (fun W=>rbuilt_down n J W h1 h2 hJ)
 generalize subQ (intQ (n:Int)) (intQ (n:Int))=SUB at *
 generalize Ieee.single.word false (rung n (-(J:Int)))=FW at *
 have dn:((n:Int)==16777216)=false:=by rw [beq_eq_false_iff_ne];omega
 have hv0:Val p ((M*2 ^ 0:Nat):Int) (2 ^ D):=by rw [Nat.pow_zero,Nat.mul_one];exact hv
 have HV0:=Lib.hid hv0
 have HA:=Lib.hid h
 have HSG':=Lib.hid HSG
 generalize cmpI p (powQ twoQ 128)=x128 at *
 clear hv hn h1 h2 hK0 hK hMK hDK hlo hhi hD0 hM0 hs2 hJ0 hMJ sp hsg HSG h128 h151 c128 sz128 sz151 v24 v23 c24 v0 ch hv0 h
 go_enter Tryz.func62,Tryz.ntmps62
 go_wp2_with fail
 refine HSG'.out.mono ?_
 rintro e w1 ⟨rfl,rfl⟩
 go_wp2_with fail
 refine (P128.out w).mono ?_
 rintro e w1 ⟨⟨s1,rfl,i1⟩,hb1⟩
 go_wp2_with fail
 refine (C128.out s1 i1 w1).mono ?_
 rintro e w2 ⟨rfl,hb2⟩
 have hB2:=hb1.trans (hb2.mono hb1.size)
 go_wp2_with fail
 refine (P151.out w2).mono ?_
 rintro e w3 ⟨⟨s3,rfl,i3⟩,hb3⟩
 have hB3:=hB2.trans (hb3.mono hB2.size)
 go_wp2_with fail
 refine (C151.out s3 i3 w3).mono ?_
 rintro e w4 ⟨rfl,hb4⟩
 have hB4:=hB3.trans (hb4.mono hB3.size)
 clear i1 i3 hb1 hb2 hb3 hb4 hB2 hB3 P128 P151 C128 C151
 go_wp2
 go_loopg [0,6] 0 (fun g v0 v6 W=>g=0∧v0 = .string a∧v6 = .int .i64 0∧Below w.heap.size w W)
 case atStart=>exact ⟨rfl,rfl,rfl,hB4⟩
 case round=>
  obtain ⟨rfl,rfl,rfl,hB5⟩:=hrel
  go_wp2_with fail
  refine (C24'.out wr).mono ?_
  rintro e w5 ⟨rfl,hb5⟩
  have hB6:=hB5.trans (hb5.mono hB5.size)
  go_wp2
  go_loopg [0,6] J (fun g v0 v6 W=>∃ (i:Nat) (s:ByteArray),v0 = .string s∧v6 = .int .i64 (-(i:Int))∧i≤J∧g+i=J∧Hid (∃ q,NumQ s q∧Val q ((M*2 ^ i:Nat):Int) (2 ^ D))∧Below w.heap.size w W)
  case atStart=>exact ⟨0,a,rfl,rfl,Nat.zero_le _,rfl,⟨p,HA.out,HV0.out⟩,hB6⟩
  case round=>
   obtain ⟨i,s,rfl,rfl,hi,hg,hq,hB7⟩:=hrel
   obtain ⟨q,hs,hvq⟩:=hq.out
   obtain ⟨r1,r2,r3,r4,r5⟩:=HR.out i s q hi hs hvq
   have R1:=Lib.hid r1
   have R4:=Lib.hid r4
   by_cases hlt:i<J
   ·have d1:decide (-149 < -(i:Int))=true:=decide_eq_true (by omega)
    obtain ⟨ii,hii⟩:∃ ii,ii=i+1:=⟨_,rfl⟩
    have hq2:=r5 hlt
    rw [←hii] at hq2
    have HQ2:=Lib.hid hq2
    have e1:=r2 hlt
    generalize cmpI q (intQ 8388608)=x at *
    subst e1
    clear r1 r2 r3 r4 r5 hs hvq hq hq2
    go_wp2_with fail
    refine (R1.out _).mono ?_
    rintro e w8 ⟨rfl,hb8⟩
    have hB8:=hB7.trans (hb8.mono hB7.size)
    go_wp2_with fail
    refine (R4.out w8).mono ?_
    rintro e w9 ⟨⟨s9,rfl,i9⟩,hb9⟩
    have hB9:=hB8.trans (hb9.mono hB8.size)
    have HN9:=Lib.hid i9
    clear i9
    go_wp2
    go_roundg (J - ii)
    case rel=>exact ⟨ii,s9,rfl,by congr 1;omega,by omega,by omega,⟨_,HN9.out,HQ2.out⟩,hB9⟩
    case measure=>omega
   ·obtain rfl:i=J:=by omega
    have e1:=r3 rfl
    have hsn:=HE.out s q hs hvq
    have HSN:=Lib.hid hsn
    generalize cmpI q (intQ 8388608)=x at *
    clear r1 r2 r3 r4 r5 hs hvq hq hsn
    go_wp2_with fail
    refine (R1.out _).mono ?_
    rintro e w8 ⟨rfl,hb8⟩
    have hB8:=hB7.trans (hb8.mono hB7.size)
    go_wp2_with fail
    refine (HF.out s HSN.out w8).mono ?_
    rintro e w9 ⟨⟨s9,rfl,i9⟩,hb9⟩
    have hB9:=hB8.trans (hb9.mono hB8.size)
    go_wp2_with fail
    refine (HI.out s9 i9 w9).mono ?_
    rintro e w10 ⟨rfl,hb10⟩
    have hB10:=hB9.trans (hb10.mono hB9.size)
    go_wp2_with fail
    refine (HFI.out w10).mono ?_
    rintro e w11 ⟨⟨s11,rfl,i11⟩,hb11⟩
    have hB11:=hB10.trans (hb11.mono hB10.size)
    go_wp2_with fail
    refine (HSU.out s s11 HSN.out i11 w11).mono ?_
    rintro e w12 ⟨⟨s12,rfl,i12⟩,hb12⟩
    have hB12:=hB11.trans (hb12.mono hB11.size)
    go_wp2_with fail
    refine (HCH.out s12 i12 w12).mono ?_
    rintro e w13 ⟨rfl,hb13⟩
    have hB13:=hB12.trans (hb13.mono hB12.size)
    go_wp2_with fail
    refine (HBU.out w13).mono ?_
    rintro e w14 ⟨rfl,rfl⟩
    go_wp2
    go_ret2
    exact ⟨rfl,hB13⟩
end Go.Proofs.YtjhgadajpliclaaGreatDoor
namespace Go.Proofs.YtjhgadajpliclaaGreatDoor
open Go.RowKit Bn
open Flt
theorem cmp_some_lt (a b:Int):(some (compare a b)==some Ordering.lt)=decide (a<b):=by
 rcases Int.lt_trichotomy a b with h | h | h
 ·rw [cmp_lt h,decide_eq_true h];rfl
 ·subst h;rw [cmp_eq,decide_eq_false (Int.lt_irrefl _)];rfl
 ·rw [cmp_gt h,decide_eq_false (by omega)];rfl
theorem cmp_some_ne (a b:Int):(some (compare a b) != some Ordering.eq)=decide (a≠b):=by
 rcases Int.lt_trichotomy a b with h | h | h
 ·rw [cmp_lt h,decide_eq_true (by omega)];rfl
 ·subst h;rw [cmp_eq,decide_eq_false (by simp)];rfl
 ·rw [cmp_gt h,decide_eq_true (by omega)];rfl
theorem belowB_fin {v:List UInt8} {n e:Nat} (hn:fin Ieee.single n=true) (he:fin Ieee.single e=true) :
  belowB v n e=if key Ieee.single n=key Ieee.single e then decide (ordO v (exT e)<0) else decide (key Ieee.single n<key Ieee.single e):=by
 unfold belowB
 have ho:FloatKind.f32.format.order n e=some (compare (key Ieee.single n) (key Ieee.single e)):=order_fin hn he
 rw [ho,cmp_some_ne,cmp_some_lt]
 by_cases h:key Ieee.single n=key Ieee.single e
 ·rw [if_pos h,if_neg (by simp [h])]
 ·rw [if_neg h,if_pos (by simp [h])]
theorem belowB_inf {v:List UInt8} {n e:Nat} {s:Bool} (hn:Ieee.single.read n = .infinity s) (he:fin Ieee.single e=true):belowB v n e=s:=by
 unfold belowB
 have ho:FloatKind.f32.format.order n e=some (if s then .lt else .gt):=order_inf hn he
 rw [ho]
 cases s<;>rfl
theorem signed_edge {d:Int} {P X:Nat} (hd:d≠0) (hX:X=d.natAbs*P):(if decide (d<0)=true then -(X:Int) else (X:Int))=d*(P:Int):=by
 subst hX
 rw [Int.natCast_mul]
 by_cases h:d<0
 ·rw [decide_eq_true h,if_pos rfl,show ((d.natAbs:Nat):Int) = -d by omega,Int.neg_mul,Int.neg_neg]
 ·rw [decide_eq_false h,if_neg (by decide),show ((d.natAbs:Nat):Int)=d by omega]
theorem belowB_iff (v:List UInt8) (hv:readE v=0) {d e:Int} (hd:d≠0) (hd2:d.natAbs<16777216) (he : -149≤e) (he2:e+d.natAbs.log2≤127) :
  belowB v (nearF v) (nomW d e)=decide (sI (readQ v)*((2 ^ 149:Nat):Int)<d*((2 ^ (e+149).toNat:Nat):Int)*((readQ v).bot:Int)):=by
 obtain ⟨n',e',hw,hr',hn',hR',hval,hn24,he104⟩:=nom_word hd hd2 he he2
 obtain ⟨hef,hek⟩:=key_word (decide (d<0)) hr' hR'
 have herd:=word_read (decide (d<0)) hr' hn24 hR'
 have hsE:=signed_edge hd hval
 rw [←hw] at hef hek herd
 rw [hsE] at hek
 obtain ⟨hb,hg,hneg⟩:=readQ_low hv
 have hne:=nearF_eq hv
 have hbx:d*((2 ^ (e+149).toNat:Nat):Int)*((readQ v).bot:Int)=if decide (d<0)=true then -(((readQ v).bot*(n'*2 ^ (e'+149).toNat):Nat):Int) else (((readQ v).bot*(n'*2 ^ (e'+149).toNat):Nat):Int):=by
  rw [←hsE]
  by_cases h:decide (d<0)=true
  ·rw [if_pos h,if_pos h,Int.neg_mul,←Int.natCast_mul,Nat.mul_comm]
  ·rw [if_neg h,if_neg h,←Int.natCast_mul,Nat.mul_comm]
 have hex:decide (ordO v (exT (nomW d e))<0)=decide (sI (readQ v)*((2 ^ 149:Nat):Int)<d*((2 ^ (e+149).toNat:Nat):Int)*((readQ v).bot:Int)):=by
  obtain ⟨hx1,hx2⟩:=exT_reads herd hn' hn24 hr'.place he104
  obtain ⟨hl,hs,hvv,_,_⟩:=exQ_val herd hn' hn24 hr'.place he104
  unfold ordO
  rw [if_neg (by simp [hv]),if_neg (by simp [hx1]),hx2]
  apply decide_eq_decide.2
  rw [rcmp_lt hb hl.1 hneg hl.2.2]
  have hsi:sI (exQ (nomW d e))*((2 ^ 149:Nat):Int)=d*((2 ^ (e+149).toNat:Nat):Int)*((exQ (nomW d e)).bot:Int):=by
   rw [←hsE]
   unfold sI
   rw [hs]
   by_cases h:decide (d<0)=true
   ·rw [if_pos h,if_pos h,Int.neg_mul,Int.neg_mul,←Int.natCast_mul,←Int.natCast_mul,hvv]
   ·rw [if_neg h,if_neg h,←Int.natCast_mul,←Int.natCast_mul,hvv]
  have hWp:(0:Int)<((2 ^ 149:Nat):Int):=by
   have:=Nat.two_pow_pos 149
   omega
  have hbp:(0:Int)<((exQ (nomW d e)).bot:Int):=by have:=hl.1;omega
  generalize ((2 ^ 149:Nat):Int)=W at *
  generalize d*((2 ^ (e+149).toNat:Nat):Int)=D at *
  generalize sI (readQ v)=S at *
  generalize ((readQ v).bot:Int)=b at *
  generalize sI (exQ (nomW d e))=T at *
  generalize ((exQ (nomW d e)).bot:Int)=c at *
  have k1:=Int.mul_lt_mul_right (b:=S*c) (c:=T*b) hWp
  rw [←k1]
  have e1:S*c*W=S*W*c:=Int.mul_right_comm ..
  have e2:T*b*W=D*b*c:=by rw [Int.mul_right_comm,hsi,Int.mul_right_comm]
  rw [e1,e2]
  exact Int.mul_lt_mul_right hbp
 have hA:sI (readQ v)*((2 ^ 149:Nat):Int)=if (readQ v).neg=true then -(((readQ v).top*2 ^ 149:Nat):Int) else (((readQ v).top*2 ^ 149:Nat):Int):=by
  unfold sI
  by_cases h:(readQ v).neg=true
  ·rw [if_pos h,if_pos h,Int.neg_mul,←Int.natCast_mul]
  ·rw [if_neg h,if_neg h,←Int.natCast_mul]
 have hXp:0<(readQ v).bot*(n'*2 ^ (e'+149).toNat):=Nat.mul_pos hb (Nat.mul_pos hn' (Nat.two_pow_pos _))
 have hX0:0<n'*2 ^ (e'+149).toNat:=Nat.mul_pos hn' (Nat.two_pow_pos _)
 have hke:key Ieee.single (nomW d e)=if decide (d<0)=true then -((n'*2 ^ (e'+149).toNat:Nat):Int) else ((n'*2 ^ (e'+149).toNat:Nat):Int):=by rw [hek,←hsE]
 by_cases ht:(readQ v).top=0
 ·
  have hnf:nearF v=0:=by
   rw [hne]
   unfold flX flW
   rw [if_pos ht,if_pos rfl,if_pos ht]
  obtain ⟨z1,z2⟩:=sgl_zero_read
  have hng:(readQ v).neg=false:=by
   cases h:(readQ v).neg
   ·rfl
   ·have:=hneg h
    omega
  rw [hnf,belowB_fin z1 hef,z2,hke,hA,hbx,hng,ht,Nat.zero_mul]
  generalize n'*2 ^ (e'+149).toNat=X at *
  generalize (readQ v).bot*X=Y at *
  by_cases h:decide (d<0)=true
  ·simp only [h,if_true,Bool.false_eq_true,if_false]
   rw [if_neg (by omega)]
   apply decide_eq_decide.2
   omega
  ·simp only [h,Bool.false_eq_true,if_false]
   rw [if_neg (by omega)]
   apply decide_eq_decide.2
   omega
 ·have htp:0<(readQ v).top:=by omega
  obtain ⟨s0,s1,s2,s3⟩:=stand htp hb hr' hn' hR'
  by_cases h0:flN (readQ v).top (readQ v).bot=0
  ·
   have hnf:nearF v=0:=by
    rw [hne]
    unfold flX flW
    rw [if_neg ht,if_pos h0,if_pos rfl,if_neg ht,if_pos h0]
   obtain ⟨z1,z2⟩:=sgl_zero_read
   have hs:=s0 h0
   rw [hnf,belowB_fin z1 hef,z2,hke,hA,hbx]
   generalize (readQ v).top*2 ^ 149=A at *
   generalize n'*2 ^ (e'+149).toNat=X at *
   generalize (readQ v).bot*X=Y at *
   by_cases h:decide (d<0)=true<;>by_cases hn:(readQ v).neg=true
   all_goals
    simp only [h,hn,Bool.false_eq_true,if_true,if_false]
    rw [if_neg (by omega)]
    apply decide_eq_decide.2
    omega
  ·by_cases hinf:2139095040≤rung (flN (readQ v).top (readQ v).bot) (flE (readQ v).top (readQ v).bot)
   ·
    have hs:=s1 hinf
    have hnf:nearF v=if (readQ v).neg=true then 4286578688 else 2139095040:=by
     rw [hne]
     unfold flX
     rw [if_neg ht,if_neg h0,if_pos hinf,if_neg (by decide)]
    have hrd:Ieee.single.read (nearF v) = .infinity (readQ v).neg:=by
     rw [hnf]
     cases (readQ v).neg
     ·exact inf_false
     ·exact inf_true
    rw [belowB_inf hrd hef,hA,hbx]
    generalize (readQ v).top*2 ^ 149=A at *
    generalize n'*2 ^ (e'+149).toNat=X at *
    generalize (readQ v).bot*X=Y at *
    by_cases h:decide (d<0)=true<;>cases hn:(readQ v).neg
    all_goals
     simp only [h,Bool.false_eq_true,if_true,if_false]
     symm
     first
      |(apply decide_eq_true;omega)
      |(apply decide_eq_false;omega)
   ·
    have hnr:=(flN_rnd htp hb).1
    have hnf:nearF v=Ieee.single.word (readQ v).neg (rung (flN (readQ v).top (readQ v).bot) (flE (readQ v).top (readQ v).bot)):=by
     rw [hne]
     unfold flX flW
     rw [if_neg ht,if_neg h0,if_neg hinf,if_pos rfl,if_neg ht,if_neg h0,if_neg hinf]
    obtain ⟨k1,k2⟩:=key_word (readQ v).neg hnr (by omega)
    rw [←hnf] at k1 k2
    rw [belowB_fin k1 hef,hex]
    by_cases hkk:key Ieee.single (nearF v)=key Ieee.single (nomW d e)
    ·rw [if_pos hkk]
    ·rw [if_neg hkk]
     rw [k2,hke] at hkk ⊢
     rw [hA,hbx]
     have hYp:0<flN (readQ v).top (readQ v).bot*2 ^ (flE (readQ v).top (readQ v).bot+149).toNat:=Nat.mul_pos (by omega) (Nat.two_pow_pos _)
     have hAp:0<(readQ v).top*2 ^ 149:=Nat.mul_pos htp (Nat.two_pow_pos _)
     generalize flN (readQ v).top (readQ v).bot*2 ^ (flE (readQ v).top (readQ v).bot+149).toNat=Y at *
     generalize (readQ v).top*2 ^ 149=A at *
     generalize n'*2 ^ (e'+149).toNat=X at *
     generalize (readQ v).bot*X=Z at *
     clear hex hA hbx hek herd hsE hval
     by_cases h:decide (d<0)=true<;>by_cases hn:(readQ v).neg=true
     all_goals
      simp only [h,hn,Bool.false_eq_true,if_true,if_false] at hkk ⊢
      apply decide_eq_decide.2
      rcases Nat.lt_trichotomy X Y with h9 | h9 | h9
      ·have:=s3 h9
       omega
      ·omega
      ·have:=s2 h9
       omega
theorem mono_split (p:Nat→Bool):∀ (N:Nat),(∀ t t',t≤t'→t'<N→p t=true→p t'=true)→∃ k,k≤N∧(∀ t,t<k→p t=false)∧(∀ t,k≤t→t<N→p t=true)
 | 0,_=>⟨0,Nat.le_refl _,fun t h=>absurd h (Nat.not_lt_zero _),fun t _ h=>absurd h (Nat.not_lt_zero _)⟩
 | N+1,h=>by
  obtain ⟨k,hk,h1,h2⟩:=mono_split p N (fun t t' ht ht'=>h t t' ht (by omega))
  cases hp:p N
  ·refine ⟨N+1,Nat.le_refl _,fun t ht => ?_,fun t h3 h4=>absurd h4 (by omega)⟩
   cases hq:p t
   ·rfl
   ·rw [h t N (by omega) (by omega) hq] at hp
    cases hp
  ·refine ⟨k,by omega,h1,fun t h3 h4 => ?_⟩
   rcases Nat.lt_or_ge t N with h5 | h5
   ·exact h2 t h3 h5
   ·obtain rfl:t=N:=by omega
    exact hp
def edgeI (q:Q) (z e:Int) (t:Nat):Int:=(2*((t:Int) - z) - 1)*((2 ^ (e+149).toNat:Nat):Int)*(q.bot:Int)
theorem edge_small {t:Nat} {z e:Int} (ht:t≤4097) (hz:0≤z∧z≤8192) (he2:e≤100):(2*((t:Int) - z) - 1)≠0∧(2*((t:Int) - z) - 1).natAbs<16777216∧e+((2*((t:Int) - z) - 1).natAbs.log2:Nat)≤127:=by
 refine ⟨by omega,by omega,?_⟩
 have h:(2*((t:Int) - z) - 1).natAbs<2 ^ 15:=by
  have e15:(2:Nat) ^ 15=32768:=by decide
  omega
 have:=(Nat.log2_lt (n:=(2*((t:Int) - z) - 1).natAbs) (k:=15) (by omega)).2 h
 omega
theorem edgeI_mono (q:Q) (z e:Int) {t t':Nat} (h:t≤t'):edgeI q z e t≤edgeI q z e t':=by
 unfold edgeI
 refine Int.mul_le_mul_of_nonneg_right (Int.mul_le_mul_of_nonneg_right (by omega) (Int.natCast_nonneg _)) (Int.natCast_nonneg _)
theorem code_bound (v:List UInt8) (hv:readE v=0) (a:Nat) (z e:Int) (ha:a≤12) (hz:0≤z∧z≤8192) (he : -149≤e) (he2:e≤100) :
  ∃ k,k≤2 ^ a+1∧(∀ t:Nat,t<k→belowB v (nearF v) (nomW (2*((t:Int) - z) - 1) e)=false)∧(∀ t:Nat,k≤t→t<2 ^ a+1→belowB v (nearF v) (nomW (2*((t:Int) - z) - 1) e)=true) ∧
   (∀ t:Nat,t<2 ^ a+1→(t<k↔edgeI (readQ v) z e t≤sI (readQ v)*((2 ^ 149:Nat):Int))):=by
 have hp:2 ^ a≤4096:=by
  have:=Nat.pow_le_pow_right (show 0<2 by omega) ha
  have e:(2:Nat) ^ 12=4096:=by decide
  omega
 have hb:∀ t:Nat,t<2 ^ a+1→belowB v (nearF v) (nomW (2*((t:Int) - z) - 1) e)=decide (sI (readQ v)*((2 ^ 149:Nat):Int)<edgeI (readQ v) z e t):=fun t ht=>by
  obtain ⟨h1,h2,h3⟩:=edge_small (t:=t) (by omega) hz he2
  exact belowB_iff v hv h1 h2 he h3
 obtain ⟨k,hk,h1,h2⟩:=mono_split (fun t=>decide (sI (readQ v)*((2 ^ 149:Nat):Int)<edgeI (readQ v) z e t)) (2 ^ a+1) (fun t t' h _ ht=>by
  have h3:=of_decide_eq_true ht
  exact decide_eq_true (Int.lt_of_lt_of_le h3 (edgeI_mono _ _ _ h)))
 refine ⟨k,hk,fun t ht=>by rw [hb t (by omega)];exact h1 t ht,fun t h3 h4=>by rw [hb t h4];exact h2 t h3 h4,fun t ht => ?_⟩
 constructor
 ·intro h3
  have:=of_decide_eq_false (h1 t h3)
  exact Int.not_lt.1 this
 ·intro h3
  rcases Nat.lt_or_ge t k with h4 | h4
  ·exact h4
  ·have:=of_decide_eq_true (h2 t h4 ht)
   exact absurd this (Int.not_lt.2 h3)
def stepI (q:Q) (e:Int):Int:=((2 ^ (e+149).toNat:Nat):Int)*(q.bot:Int)
theorem edgeI_eq (q:Q) (z e:Int) (t:Nat):edgeI q z e t=2*((t:Int) - z)*stepI q e - stepI q e:=by
 unfold edgeI stepI
 rw [Int.mul_assoc,Int.sub_mul,Int.one_mul]
theorem half_step {q:Q} {z e V:Int} {t:Nat} (h1:edgeI q z e t≤V) (h2:V<edgeI q z e (t+1)):2*((t:Int) - z)*stepI q e - stepI q e≤V∧V<2*((t:Int) - z)*stepI q e+stepI q e:=by
 rw [edgeI_eq] at h1 h2
 have e1:2*(((t+1:Nat):Int) - z)*stepI q e=2*((t:Int) - z)*stepI q e+2*stepI q e:=by
  rw [show 2*(((t+1:Nat):Int) - z)=2*((t:Int) - z)+2 by omega,Int.add_mul]
 rw [e1] at h2
 omega
theorem nom_exact {d e:Int} (hd:d≠0) (hd2:d.natAbs<16777216) (he : -149≤e) (he2:e+d.natAbs.log2≤127) {p:Q} (hp:LowQ p) (hv:Val p (d*((2 ^ (e+149).toNat:Nat):Int)) (2 ^ 149)) :
  exT (nomW d e)=writeS p:=by
 obtain ⟨n',e',hw,hr,hn0,hR,hval,hn2,he3⟩:=nom_word hd hd2 he he2
 have hread:=word_read (decide (d<0)) hr hn2 hR
 have hplace:=hr.place
 rw [←hw] at hread
 obtain ⟨x1,x2,x3,x4,x5⟩:=exQ_val hread hn0 hn2 (by omega) he3
 rw [hval] at x3
 have hq:exQ (nomW d e)=p:=by
  have hq1:Val (exQ (nomW d e)) (d*((2 ^ (e+149).toNat:Nat):Int)) (2 ^ 149):=by
   refine ⟨?_,Nat.two_pow_pos _,x1.1⟩
   generalize exQ (nomW d e)=E at *
   generalize 2 ^ (e+149).toNat=u at *
   generalize (2:Nat) ^ 149=T at *
   unfold sI
   rw [x2]
   have x3':(E.top:Int)*(T:Int)=((d.natAbs*u:Nat):Int)*(E.bot:Int):=by rw [←Int.natCast_mul,x3,Int.natCast_mul]
   rw [Int.natCast_mul] at x3'
   by_cases h:d<0
   ·rw [decide_eq_true h,if_pos rfl,Int.neg_mul,x3',show (d.natAbs:Int) = -d by omega]
    grind
   ·rw [decide_eq_false h,if_neg (by simp),x3',show (d.natAbs:Int)=d by omega]
  exact hq1.eq hv x1 hp rfl
 have hf:=fin_of_read hread
 have hE:writeE (exQ (nomW d e))=0:=by
  unfold writeE
  rw [if_neg (by have:=x1.1;omega),if_neg (by have:=dec_600 x4;have:=dec_600 x5;omega)]
 unfold exT
 rw [if_pos hf]
 unfold writeT
 rw [if_pos hE,hq]
theorem Val.below {L:Q} {u:Int} {T:Nat} (h:Val L (u*2) T) (d:Int):Val (subQ (mulQ L (intQ d)) (mulQ L halfQ)) ((2*d - 1)*u) T:=by
 have hT:=h.2.1
 refine Val.trans ((h.mul (Val.int d)).sub (h.mul Val.half)) hT ?_
 simp only [Int.natCast_mul]
 clear h
 generalize (T:Int)=t
 grind
theorem Val.above {L:Q} {u:Int} {T:Nat} (h:Val L (u*2) T) (d:Int):Val (addQ (mulQ L (intQ d)) (mulQ L halfQ)) ((2*(d+1) - 1)*u) T:=by
 have hT:=h.2.1
 refine Val.trans ((h.mul (Val.int d)).add (h.mul Val.half)) hT ?_
 simp only [Int.natCast_mul]
 clear h
 generalize (T:Int)=t
 grind
theorem lsb_two {st:Int} (h : -20≤st∧st≤4):Val (lsbQ st) (((2 ^ (st - 1+149).toNat:Nat):Int)*2) (2 ^ 149):=by
 have h1:=Val.lsb h
 rw [show (st+149).toNat=(st - 1+149).toNat+1 by omega,Nat.pow_succ,Int.natCast_mul] at h1
 exact h1
theorem log_small {d:Int} (h:d.natAbs<65536):d.natAbs.log2≤16:=by
 rcases Nat.eq_zero_or_pos d.natAbs with h0 | h0
 ·rw [h0]
  decide
 ·have e16:(2:Nat) ^ 16=65536:=by decide
  have h9:d.natAbs.log2<16:=(Nat.log2_lt (Nat.ne_of_gt h0)).2 (by rw [e16];exact h)
  omega
end Go.Proofs.YtjhgadajpliclaaGreatDoor
