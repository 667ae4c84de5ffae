/- The reference's Floor of any number. -/
import Derived.Test.YtjhgadajpliclaaGreatDoorORb24
import Derived.Test.YtjhgadajpliclaaGreatDoorOPr4
import Derived.Test.YtjhgadajpliclaaGreatDoorOFloat
import Derived.Test.YtjhgadajpliclaaGreatDoorORat4
import Derived.Test.YtjhgadajpliclaaGreatDoorOAd2
import Derived.Deep.RegionHeld3
namespace Go.Proofs.YtjhgadajpliclaaGreatDoor
open Go.RowKit Dn
def floorZ (p:Q):Int:=floorI p.neg p.top p.bot
theorem floorI_abs (b:Bool) (x y:Nat):(floorI b x y).natAbs≤x+1:=by
 have h:=Nat.div_le_self x y
 unfold floorI
 generalize x / y=t at *
 split
 ·omega
 ·rw [sgn_abs];omega
theorem digs_succ (x:Nat):(digs (x+1)).length≤(digs x).length+1:=by
 refine digs_length_le ?_
 have h:=lt_of_digs_length x
 rw [Nat.pow_succ]
 have hB:2≤B:=by decide
 have:B ^ (digs x).length*2≤B ^ (digs x).length*B:=Nat.mul_le_mul_left _ hB
 omega
theorem whole_floor {p:Q} (h:LowQ p) (h1:p.bot=1):p=intQ (floorZ p):=by
 obtain ⟨n,t,b⟩:=p
 dsimp only at h1
 subst h1
 unfold floorZ floorI
 dsimp only
 rw [Nat.mod_one,if_neg (by simp),Nat.div_one]
 unfold intQ
 rw [sgn_abs,sgn_neg]
 cases n
 ·rfl
 ·have:=h.2.2 rfl
  dsimp only at this
  rw [decide_eq_true this]
  rfl
set_option maxHeartbeats 2000000 in
set_option maxRecDepth 100000 in
theorem rFloor_q (a:ByteArray) (p:Q) (w:World) (h:NumQ a p) (ha:a.size≤100000) :
  Calls Tryz.prog 55 #[.string a] w (RetS w (intQ (floorZ p))):=by
 have HW:=Lib.hid (rIsWhole_q a p w h (by omega))
 by_cases h1:p.bot=1
 ·rw [decide_eq_true h1] at HW
  have HR:Hid (NumQ a (intQ (floorZ p))):=by show NumQ a _;rw [←whole_floor h.2 h1];exact h
  clear h h1
  go_enter Tryz.func55,Tryz.ntmps55
  go_wp2_with fail
  refine HW.out.mono ?_
  rintro e w1 ⟨rfl,rfl⟩
  go_wp2
  go_ret
  exact ⟨⟨_,rfl,HR.out⟩,Below.refl _ _⟩
 ·rw [decide_eq_false h1] at HW
  have hp:=rparts_any a p.neg p.top p.bot w h.num h.2.2.2 h.2.1 (by omega)
  have HP:=Lib.hid hp
  have hl:=h.num.lens2 ha
  have HL:=Lib.hid hl
  have HY:Hid (0<p.bot):=h.2.1
  obtain ⟨z,hz⟩:∃ z,z=floorZ p:=⟨_,rfl⟩
  have HZ:Hid (floorI p.neg p.top p.bot=z):=by show _=_;rw [hz];rfl
  have HZA:Hid ((digs z.natAbs).length≤(digs p.top).length+1):=by
   show _≤_
   rw [hz]
   exact Nat.le_trans (digs_length_mono (floorI_abs _ _ _)) (digs_succ _)
  have HR:Hid (∀ s:ByteArray,s.data.toList=sgnT (decide (z<0)) (Lib.decDigits z.natAbs)→NumQ s (intQ z)):=fun s hs=>⟨by rw [write_int];exact hs,low_int z⟩
  have HN:Hid (decide (z<0)=true→0<z.natAbs):=fun h9=>by have h8:z<0:=of_decide_eq_true h9;show 0<z.natAbs;omega
  rw [←hz]
  clear hp hl h h1 hz
  go_enter Tryz.func55,Tryz.ntmps55
  go_wp2_with fail
  refine HW.out.mono ?_
  rintro e w1' ⟨rfl,rfl⟩
  go_wp2_with fail
  refine HP.out.mono ?_
  rintro e w1 ⟨A1,n1,c1,A2,n2,c2,rfl,hd1,hd2,hb1⟩
  have hB:Below w1.heap.size w1 ((w1.alloc (.cells #[.bool p.neg,.slice A1 n1 c1] 107)).alloc (.cells #[.bool false,.slice A2 n2 c2] 107)):=((Below.refl _ _).alloc (Nat.le_refl _) _).alloc (by simp) _
  have e1:n1≤100000:=by rw [←hd1.len];exact HL.out.1
  have e2:n2≤100001:=by rw [←hd2.len];exact HL.out.2
  have HF:=rfloorDiv_any p.neg p.top p.bot A1 A2 n1 c1 n2 c2 _ (hd1.later hB) (hd2.later hB) HY.out (by omega) (by omega)
  rw [HZ.out] at HF
  have HB:=Lib.hid (hb1.trans (hB.mono hb1.size))
  clear hd1 hd2 hB hb1
  go_wp2_with fail
  refine HF.mono ?_
  rintro e w2 ⟨A5,n5,c5,rfl,hd5,hb2⟩
  have e5:n5≤100001:=by rw [←hd5.len];exact Nat.le_trans HZA.out (Nat.succ_le_succ HL.out.1)
  have HT:=Lib.hid (rtext_any _ _ A5 n5 c5 w2 hd5 HN.out (by omega))
  clear hd5
  go_wp2_with fail
  refine HT.out.mono ?_
  rintro e w3 ⟨⟨s,rfl,hs⟩,hb3⟩
  go_wp2
  go_ret
  exact ⟨⟨s,rfl,HR.out s hs⟩,HB.out.trans ((hb2.trans (hb3.mono hb2.size)).mono HB.out.size)⟩
set_option maxHeartbeats 4000000 in
set_option maxRecDepth 100000 in
theorem rToInt_small (a:ByteArray) (z:Nat) (w:World) (h:NumQ a (intQ (z:Int))) (hz:z<1000000000) :
  Calls Tryz.prog 61 #[.string a] w fun e w'=>e = .returned (.tuple #[.int .i64 (z:Int),.bool true])∧Below w.heap.size w w':=by
 have e1:intQ (z:Int)=⟨false,z,1⟩:=by unfold intQ;rw [show decide ((z:Int)<0)=false by simp,Int.natAbs_natCast]
 rw [e1] at h
 have hs:Small ⟨false,z,1⟩ 9:=⟨hz,by show 1<10 ^ 9;decide⟩
 have ha:a.size≤20:=h.size hs (by omega)
 have HW:=Lib.hid (rIsWhole_q a _ w h (by omega))
 have hpa:=rparse_any a false z w (by have h9:=h.1;rw [writeS_eq] at h9;simpa using h9) (by omega)
 have hsz:(sgn false z).natAbs=z:=sgn_abs false z
 have hsn:decide (sgn false z<0)=false:=by rw [sgn_neg];rfl
 unfold RetZ at hpa
 rw [hsz,hsn] at hpa
 have HP:=Lib.hid hpa
 have d0:decide (20<(a.size:Int))=false:=decide_eq_false (by omega)
 clear e1 h hs ha hpa hsz hsn
 go_enter Tryz.func61,Tryz.ntmps61
 go_wp2_with fail
 refine HW.out.mono ?_
 rintro e w1 ⟨rfl,rfl⟩
 go_wp2_with fail
 refine HP.out.mono ?_
 rintro e w1 ⟨A,n,c,rfl,hd,hb1⟩
 have hb2:Below w1.heap.size w1 (w1.alloc (.cells #[.bool false,.slice A n c] 107)):=(Below.refl _ _).alloc (Nat.le_refl _) _
 have q0:CBlk (w1.alloc (.cells #[.bool false,.slice A n c] 107)) w1.heap.size #[.bool false,.slice A n c] 107:=CBlk.new _ _ _ _ rfl
 have hd2:=hd.later hb2
 have hB:=hb1.trans (hb2.mono hb1.size)
 have x0:=q0.cell 0
 have x1:=q0.cell 1
 clear hd hb1 hb2 q0
 rcases Nat.eq_zero_or_pos z with h0 | h0
 ·subst h0
  have hn:n=0:=by rw [←hd2.len,digs_zero];rfl
  subst hn
  clear hd2
  go_wp2
  go_loopg [5,6,7] 0 (fun g v5 v6 v7 W=>g=0∧v5 = .int .i64 0∧v6 = .int .i64 (-1)∧W=w1.alloc (.cells #[.bool false,.slice A 0 c] 107))
  case atStart=>exact ⟨rfl,rfl,rfl,rfl⟩
  case round=>
   obtain ⟨rfl,rfl,rfl,rfl⟩:=hrel
   go_wp2
   go_ret2
   exact ⟨rfl,hB⟩
 ·have hdg:digs z=[z]:=digs_single h0 hz
  have hn:n=1:=by rw [←hd2.len,hdg];rfl
  subst hn
  obtain ⟨ad,hkl,rfl,hbb,hcell⟩:=hd2.rd.cellM (k:=0) (by omega)
  have hc:(w1.alloc (.cells #[.bool false,.slice (some ad) 1 c] 107)).cell? ad=some (.int .i64 (z:Int)):=by
   have h9:(digs z)[0]=z:=by simp [hdg]
   unfold natv at hcell
   rw [h9] at hcell
   exact hcell
  clear hd2 hcell hkl hbb hdg
  go_wp2
  go_loopg [5,6,7] 1 (fun g v5 v6 v7 W=>((g=1∧v5 = .int .i64 0∧v6 = .int .i64 0)∨(g=0∧v5 = .int .i64 (z:Int)∧v6 = .int .i64 (-1)))∧W=w1.alloc (.cells #[.bool false,.slice (some ad) 1 c] 107))
  case atStart=>exact ⟨.inl ⟨rfl,rfl,rfl⟩,rfl⟩
  case round=>
   obtain ⟨h9,rfl⟩:=hrel
   rcases h9 with ⟨rfl,rfl,rfl⟩ | ⟨rfl,rfl,rfl⟩
   ·go_wp2
    go_roundg 0
    case rel=>exact ⟨.inr ⟨rfl,rfl,rfl⟩,rfl⟩
    case measure=>omega
   ·go_wp2
    go_ret2
    exact ⟨rfl,hB⟩
end Go.Proofs.YtjhgadajpliclaaGreatDoor
namespace Go.Proofs.YtjhgadajpliclaaGreatDoor
open Go.RowKit Bn
open Flt
theorem hasPrefix_neg {l:List UInt8} (h:readE l=0):Lib.hasPrefix l [45]=negL l:=by
 obtain ⟨h1,_,_,_⟩:=readE_zero h
 have ej:=cutL_join l
 unfold negL
 unfold topL at h1
 generalize (cutL l).1=a at *
 generalize (if (cutL l).2.2=true then 47 :: (cutL l).2.1 else [])=r at *
 cases a with
 | nil=>exact absurd h1 (by decide)
 | cons x t=>
  rw [ej]
  unfold Lib.hasPrefix
  simp [List.isPrefixOf]
theorem readQ_low {l:List UInt8} (h:readE l=0):LowQ (readQ l):=⟨readQ_bot h,readQ_gcd h,readQ_neg h⟩
theorem readQ_negL {l:List UInt8} (h:readE l=0):(readQ l).neg=negL l:=by unfold readQ;rw [if_pos h]
theorem nearF_eq {v:List UInt8} (hv:readE v=0):nearF v=if flX (readQ v)=0 then flW (readQ v) else if (readQ v).neg=true then 4286578688 else 2139095040:=by
 have e1:floX v=flX (readQ v):=by unfold floX;rw [if_neg (by simp [hv])]
 have e2:floW v=flW (readQ v):=by unfold floW;rw [if_neg (by simp [hv])]
 unfold nearF
 rw [e1,e2,hasPrefix_neg hv,readQ_negL hv]
theorem inf_true:Ieee.single.read 4286578688 = .infinity true:=by decide +kernel
theorem inf_false:Ieee.single.read 2139095040 = .infinity false:=by decide +kernel
theorem sgl_zero_read:fin Ieee.single 0=true∧key Ieee.single 0=0:=by decide +kernel
theorem order_inf {x y:Nat} {s:Bool} (hx:Ieee.single.read x = .infinity s) (hy:fin Ieee.single y=true):Ieee.single.order x y=some (if s then .lt else .gt):=by
 unfold Ieee.Format.order
 rw [hx]
 unfold fin at hy
 cases h:Ieee.single.read y with
 | number a b c=>rfl
 | infinity a=>rw [h] at hy;cases hy
 | nan=>rw [h] at hy;cases hy
theorem stand {t b n':Nat} {e':Int} (ht:0<t) (hb:0<b) (hr:Rnd n' e') (hn:0<n') (hR:rung n' e'<2139095040) :
  (flN t b=0→t*2 ^ 149<b*(n'*2 ^ (e'+149).toNat))∧(2139095040≤rung (flN t b) (flE t b)→b*(n'*2 ^ (e'+149).toNat)<t*2 ^ 149) ∧
   (flN t b*2 ^ (flE t b+149).toNat<n'*2 ^ (e'+149).toNat→t*2 ^ 149<b*(n'*2 ^ (e'+149).toNat)) ∧
   (n'*2 ^ (e'+149).toNat<flN t b*2 ^ (flE t b+149).toNat→b*(n'*2 ^ (e'+149).toNat)<t*2 ^ 149):=by
 have hle:=fun h=>rung_le ht hb hr (e':=e') h
 have hge:=fun h=>rung_ge ht hb hr (e':=e') h
 have hn1:=(flN_rnd ht hb).1
 have hv1:=fun h=>rung_val hn1 hr h
 have hv2:=fun h=>rung_val hr hn1 h
 have hlo:=hn1.lo
 generalize hx:b*(n'*2 ^ (e'+149).toNat)=X at *
 generalize hA:t*2 ^ 149=A at *
 refine ⟨fun h0 => ?_,fun h0 => ?_,fun h0 => ?_,fun h0 => ?_⟩
 ·rcases Nat.lt_or_ge A X with h | h
  ·exact h
  ·exfalso
   have h2:=hge h
   have h3:rung (flN t b) (flE t b)=0:=by
    rw [h0] at hlo ⊢
    unfold rung
    rcases hlo with hlo | hlo
    ·rw [hlo];rfl
    ·exact absurd hlo (by decide)
   have h4:n'≤rung n' e':=Nat.le_add_left _ _
   rw [h3] at h2
   omega
 ·rcases Nat.lt_or_ge X A with h | h
  ·exact h
  ·exfalso
   have h2:=hle h
   omega
 ·rcases Nat.lt_or_ge A X with h | h
  ·exact h
  ·exfalso
   have h2:=hv2 (hge h)
   omega
 ·rcases Nat.lt_or_ge X A with h | h
  ·exact h
  ·exfalso
   have h2:=hv1 (hle h)
   omega
end Go.Proofs.YtjhgadajpliclaaGreatDoor
namespace Go.Proofs.YtjhgadajpliclaaGreatDoor
open Go.RowKit Dn
set_option maxHeartbeats 1000000 in
theorem rpow2_any (n:Nat) (w:World) (hn:n≤60) :
  Calls Tryz.prog 107 #[.int .i64 (n:Int)] w fun e w'=>e = .returned (.int .i64 ((2 ^ n:Nat):Int))∧w=w':=by
 obtain ⟨P,hP⟩:∃ P,P=2 ^ n:=⟨_,rfl⟩
 have HP:=Lib.hid hP
 rw [←hP]
 clear hP
 go_enter Tryz.func107,Tryz.ntmps107
 go_wp2
 go_loop [3,4] (fun v i=>∃ p k:Nat,k≤n∧v = .int .i64 (p:Int)∧i = .int .i64 (k:Int)∧Hid (p=2 ^ k)) (fun _ i=>n - (intOf i).toNat)
 case atStart=>exact ⟨1,0,Nat.zero_le _,rfl,rfl,rfl⟩
 case round=>
  obtain ⟨p,k,hk,rfl,rfl,hv⟩:=hrel
  by_cases hlt:k<n
  ·have hp:=hv.out
   have hb:2 ^ k≤2 ^ 60:=Nat.pow_le_pow_right (by omega) (by omega)
   have e60:(2:Nat) ^ 60=1152921504606846976:=by decide
   rw [e60] at hb
   obtain ⟨pp,hpp⟩:∃ pp,pp=2*p:=⟨_,rfl⟩
   obtain ⟨kk,hkk⟩:∃ kk,kk=k+1:=⟨_,rfl⟩
   have f1:IntKind.i64.wrap (2*(p:Int))=(pp:Int):=by rw [IntWalk.i64_in _ (by omega)];omega
   have f2:IntKind.i64.wrap ((k:Int)+1)=(kk:Int):=by rw [IntWalk.i64_in _ (by omega)];omega
   have HV:Hid (pp=2 ^ kk):=by show pp=2 ^ kk;rw [hpp,hkk,hp,Nat.pow_succ,Nat.mul_comm]
   have hkn:kk≤n:=by omega
   have hdec:n - kk<n - k:=by omega
   have d1:decide (k<n)=true:=decide_eq_true hlt
   clear hp hb e60 hpp hkk hlt
   go_wp2
   go_round
   case rel=>exact ⟨pp,kk,hkn,rfl,rfl,HV.out⟩
   case measure=>simpa [intOf] using hdec
  ·have he:k=n:=by omega
   have HF:Hid (p=P):=by show p=P;rw [hv.out,HP.out,he]
   have d1:decide (k<n)=false:=decide_eq_false hlt
   clear he hv
   go_wp2
   go_ret
   exact ⟨by rw [HF.out];rfl,rfl⟩
set_option maxHeartbeats 1000000 in
theorem rTop_any (a:Nat) (st z:Int) (g o:Value) (w:World) (ha:a≤32) :
  Calls Tryz.prog 50 #[.agg #[.int .i64 a,.int .i64 st,.int .i64 z,g,o]] w fun e w'=>e = .returned (.int .i64 ((2 ^ a - 1:Nat):Int))∧Below w.heap.size w w':=by
 have hb:Below w.heap.size w (w.alloc (.cells #[.int .i64 a,.int .i64 st,.int .i64 z,g,o] 24)):=(Below.refl _ _).alloc (Nat.le_refl _) _
 have hp:2 ^ a≤2 ^ 32:=Nat.pow_le_pow_right (by omega) ha
 have e32:(2:Nat) ^ 32=4294967296:=by decide
 have hp0:=Nat.two_pow_pos a
 rw [e32] at hp
 have HPW:=Lib.hid (fun W=>rpow2_any a W (by omega))
 obtain ⟨P,hP⟩:∃ P,P=2 ^ a:=⟨_,rfl⟩
 obtain ⟨T,hT⟩:∃ T:Nat,T=2 ^ a - 1:=⟨_,rfl⟩
 have f1:IntKind.i64.wrap ((P:Int) - 1)=(T:Int):=by rw [IntWalk.i64_in _ (by omega)];omega
 rw [←hT]
 rw [←hP] at HPW
 clear hP hT hp hp0 e32
 go_enter Tryz.func50,Tryz.ntmps50
 go_wp2_with fail
 refine (HPW.out _).mono ?_
 rintro e w1 ⟨rfl,rfl⟩
 go_wp2
 go_ret
 exact ⟨rfl,hb⟩
set_option maxHeartbeats 1000000 in
theorem rCheckCode_any (a:Nat) (st z c:Int) (g o:Value) (w:World) (ha:a≤32) :
  Calls Tryz.prog 16 #[.agg #[.int .i64 a,.int .i64 st,.int .i64 z,g,o],.int .i64 c] w fun e w'=>e = .returned (.int .i64 (rangeE c 0 ((2 ^ a - 1:Nat):Int)))∧Below w.heap.size w w':=by
 have hb:Below w.heap.size w (w.alloc (.cells #[.int .i64 a,.int .i64 st,.int .i64 z,g,o] 24)):=(Below.refl _ _).alloc (Nat.le_refl _) _
 have HT:=Lib.hid (rTop_any a st z g o (w.alloc (.cells #[.int .i64 a,.int .i64 st,.int .i64 z,g,o] 24)) ha)
 generalize ((2 ^ a - 1:Nat):Int)=T at *
 by_cases h0:c<0
 ·have hr:rangeE c 0 T=3:=by unfold rangeE;rw [if_pos (.inl h0)]
  rw [hr]
  have d0:decide (c<0)=true:=decide_eq_true h0
  clear hr h0
  go_enter Tryz.func16,Tryz.ntmps16
  go_wp2
  go_ret
  exact ⟨rfl,hb⟩
 ·have d0:decide (c<0)=false:=decide_eq_false h0
  have hcase:(decide (T<c)=true∧rangeE c 0 T=3)∨(decide (T<c)=false∧rangeE c 0 T=0):=by
   by_cases h1:T<c
   ·exact .inl ⟨decide_eq_true h1,by unfold rangeE;rw [if_pos (.inr h1)]⟩
   ·exact .inr ⟨decide_eq_false h1,by unfold rangeE;rw [if_neg (by omega)]⟩
  rcases hcase with ⟨d1,hr⟩ | ⟨d1,hr⟩
  all_goals
   rw [hr]
   clear hr h0
   go_enter Tryz.func16,Tryz.ntmps16
   go_wp2_with fail
   refine HT.out.mono ?_
   rintro e w1 ⟨rfl,hb1⟩
   have hB:=hb.trans (hb1.mono hb.size)
   go_wp2
   go_ret
   exact ⟨rfl,hB⟩
def adcE (a st z:Int) (g o:List UInt8):Int:=
 if rangeE a 8 12≠0 then 3 else if rangeE st (-20) 4≠0 then 3 else if rangeE z 0 ((2 ^ a.toNat - 1:Nat):Int)≠0 then 3
 else if readE g≠0 then readE g else if signI (readQ g)≤0 then 3 else readE o
theorem small_read {l:List UInt8} {N:Nat} (h:readE l=0) (hN:N=600):Small (readQ l) N:=by
 obtain ⟨h1,h2,_,hf⟩:=readE_zero h
 rw [←hN] at h2 hf
 have hN1:1≤N:=by omega
 clear hN
 unfold readQ Small
 rw [if_pos h]
 refine ⟨Nat.lt_of_lt_of_le (decVal_lt _ (isDec_digits h1)) (Nat.pow_le_pow_right (by omega) h2),?_⟩
 cases hb:fracL l
 ·simp only [Bool.false_eq_true,if_false]
  have h9:10 ^ 1≤10 ^ N:=Nat.pow_le_pow_right (by omega) hN1
  omega
 ·obtain ⟨h3,_,_,h4,_⟩:=hf hb
  simp only [if_true]
  exact Nat.lt_of_lt_of_le (decVal_lt _ (isDec_digits h3)) (Nat.pow_le_pow_right (by omega) h4)
theorem num_read {a:ByteArray} (h:readE a.data.toList=0):NumQ a (readQ a.data.toList):=⟨(write_readQ _ h).symm,readQ_low h⟩
theorem size_read {a:ByteArray} (h:readE a.data.toList=0):a.size≤1202:=by
 obtain ⟨N,hN⟩:∃ N:Nat,N=600:=⟨_,rfl⟩
 have:=(num_read h).size (small_read h hN) (by omega)
 omega
theorem range_cases (n a b:Int):(rangeE n a b=3∧(n<a∨b<n))∨(rangeE n a b=0∧a≤n∧n≤b):=by
 unfold rangeE
 split
 ·exact .inl ⟨rfl,by assumption⟩
 ·exact .inr ⟨rfl,by omega,by omega⟩
set_option maxHeartbeats 4000000 in
set_option maxRecDepth 100000 in
theorem rCheckAdc_any (a st z:Int) (g o:ByteArray) (w:World) (hg:g.size≤4294967296) (ho:o.size≤4294967296) :
  Calls Tryz.prog 11 #[.agg #[.int .i64 a,.int .i64 st,.int .i64 z,.string g,.string o]] w fun e w'=>e = .returned (.int .i64 (adcE a st z g.data.toList o.data.toList))∧Below w.heap.size w w':=by
 have hb0:Below w.heap.size w (w.alloc (.cells #[.int .i64 a,.int .i64 st,.int .i64 z,.string g,.string o] 24)):=(Below.refl _ _).alloc (Nat.le_refl _) _
 have q0:CBlk (w.alloc (.cells #[.int .i64 a,.int .i64 st,.int .i64 z,.string g,.string o] 24)) w.heap.size #[.int .i64 a,.int .i64 st,.int .i64 z,.string g,.string o] 24:=CBlk.new w _ _ _ rfl
 obtain ⟨X,hX⟩:∃ X,X=adcE a st z g.data.toList o.data.toList:=⟨_,rfl⟩
 rw [←hX]
 rcases range_cases a 8 12 with ⟨hr1,ha⟩ | ⟨hr1,ha1,ha2⟩
 ·have hx:X=3:=by rw [hX];unfold adcE;rw [hr1];rfl
  subst hx
  have hc:decide (a<8)=true∨(decide (a<8)=false∧decide (12<a)=true):=by
   simp only [decide_eq_true_eq,decide_eq_false_iff_not]
   omega
  clear hX hr1 ha q0
  rcases hc with d1 | ⟨d1,d2⟩
  all_goals
   go_enter Tryz.func11,Tryz.ntmps11
   go_wp2
   go_ret
   exact ⟨rfl,hb0⟩
 ·have d1:decide (a<8)=false:=decide_eq_false (by omega)
  have d2:decide (12<a)=false:=decide_eq_false (by omega)
  rcases range_cases st (-20) 4 with ⟨hr2,hs⟩ | ⟨hr2,hs1,hs2⟩
  ·have hx:X=3:=by rw [hX];unfold adcE;rw [hr1,hr2];rfl
   subst hx
   have hc:decide (st < -20)=true∨(decide (st < -20)=false∧decide (4<st)=true):=by
    simp only [decide_eq_true_eq,decide_eq_false_iff_not]
    omega
   clear hX hr1 hr2 hs q0 ha1 ha2
   rcases hc with d3 | ⟨d3,d4⟩
   all_goals
    go_enter Tryz.func11,Tryz.ntmps11
    go_wp2
    go_ret
    exact ⟨rfl,hb0⟩
  ·have d3:decide (st < -20)=false:=decide_eq_false (by omega)
   have d4:decide (4<st)=false:=decide_eq_false (by omega)
   obtain ⟨n,rfl⟩:∃ n:Nat,a=n:=⟨a.toNat,by omega⟩
   have hX2:X=if rangeE z 0 ((2 ^ n - 1:Nat):Int)≠0 then 3 else if readE g.data.toList≠0 then readE g.data.toList else if signI (readQ g.data.toList)≤0 then 3 else readE o.data.toList:=by
    rw [hX]
    unfold adcE
    rw [hr1,hr2,Int.toNat_natCast]
    rfl
   have HX2:=Lib.hid hX2
   have HC:=Lib.hid (fun W=>rCheckCode_any n st z z (.string g) (.string o) W (by omega))
   obtain ⟨rz,hrz⟩:∃ rz,rz=rangeE z 0 ((2 ^ n - 1:Nat):Int):=⟨_,rfl⟩
   have hzc:=range_cases z 0 ((2 ^ n - 1:Nat):Int)
   rw [←hrz] at hzc hX2 HC HX2
   have hzz:rz=3∨rz=0:=by rcases hzc with h | h;(· exact .inl h.1);(· exact .inr h.1)
   have x0:=q0.cell 0
   have x1:=q0.cell 1
   have x2:=q0.cell 2
   have x3:=q0.cell 3
   have x4:=q0.cell 4
   clear hX hX2 hr1 hr2 hs1 hs2 ha1 ha2 hrz hzc
   go_enter Tryz.func11,Tryz.ntmps11
   go_wp2_with fail
   generalize w.alloc (.cells #[.int .i64 n,.int .i64 st,.int .i64 z,.string g,.string o] 24)=w1 at *
   refine (HC.out w1).mono ?_
   rintro e w2 ⟨rfl,hb2⟩
   have q2:=q0.below hb2 q0.lt
   clear x0 x1 x2 x3 x4
   have x3:=q2.cell 3
   have x4:=q2.cell 4
   have hB2:=hb0.trans (hb2.mono hb0.size)
   rcases hzz with rfl | rfl
   ·have hx:X=3:=HX2.out
    subst hx
    clear HX2
    go_wp2
    go_ret
    exact ⟨rfl,hB2⟩
   ·have HG:=Lib.hid (rCheck_any g w2 hg)
    obtain ⟨E,hE⟩:∃ E,E=readE g.data.toList:=⟨_,rfl⟩
    rw [←hE] at HG HX2
    go_wp2_with fail
    refine HG.out.mono ?_
    rintro e w3 ⟨rfl,hb3⟩
    have q3:=q2.below hb3 q2.lt
    clear x3 x4
    have x3:=q3.cell 3
    have x4:=q3.cell 4
    have hB3:=hB2.trans (hb3.mono hB2.size)
    by_cases hE0:E=0
    ·have hEE:E=readE g.data.toList:=hE
     rw [hE0] at hEE
     have HS:=Lib.hid (rSign_q g _ w3 (num_read hEE.symm) (by have:=size_read hEE.symm;omega))
     have hX3:X=if signI (readQ g.data.toList)≤0 then 3 else readE o.data.toList:=by
      rw [HX2.out,hE0]
      rfl
     generalize signI (readQ g.data.toList)=sg at *
     have d5:(E==0)=true:=by rw [hE0];rfl
     have HX3:=Lib.hid hX3
     subst hE0
     clear hX3 hEE hE HG HX2
     go_wp2_with fail
     refine HS.out.mono ?_
     rintro e w4 ⟨rfl,rfl⟩
     by_cases hsg:sg≤0
     ·have hx:X=3:=by rw [HX3.out,if_pos hsg]
      subst hx
      have d6:decide (sg≤0)=true:=decide_eq_true hsg
      clear HX3 hsg HS
      go_wp2
      go_ret
      exact ⟨rfl,hB3⟩
     ·have hx:X=readE o.data.toList:=by rw [HX3.out,if_neg hsg]
      have d6:decide (sg≤0)=false:=decide_eq_false hsg
      have HO:=Lib.hid (rCheck_any o w3 ho)
      rw [←hx] at HO
      clear HX3 hsg HS hx
      go_wp2_with fail
      refine HO.out.mono ?_
      rintro e w4 ⟨rfl,hb4⟩
      have hB4:=hB3.trans (hb4.mono hB3.size)
      go_wp2
      go_ret
      exact ⟨rfl,hB4⟩
    ·have hx:X=E:=by rw [HX2.out];simp [hE0]
     subst hx
     have d5:(X==0)=false:=beq_eq_false_iff_ne.2 hE0
     clear HX2 hE0 hE
     go_wp2
     go_ret
     exact ⟨rfl,hB3⟩
end Go.Proofs.YtjhgadajpliclaaGreatDoor
namespace Go.Proofs.YtjhgadajpliclaaGreatDoor
open Go.RowKit Bn
open Flt
theorem firstE_three (x y z:Int):firstE [x,y,z]=if x≠0 then x else if y≠0 then y else z:=by
 unfold firstE
 split
 ·rfl
 ·unfold firstE
  split
  ·rfl
  ·unfold firstE
   split
   ·rfl
   ·rename_i h
    simp only [firstE]
    exact (Classical.not_not.1 h).symm
theorem cfirst_threeA (x y z:Int) (w:World) (t:TypeId) (g:Nat) (hg:w.heap.size=g) :
  Calls Tryz.prog 42 #[.slice (some ⟨g,0,none⟩) 3 3] (w.alloc (.cells #[.int .i64 x,.int .i64 y,.int .i64 z] t)) fun e w'=>e = .returned (.int .i64 (if x≠0 then x else if y≠0 then y else z))∧w.alloc (.cells #[.int .i64 x,.int .i64 y,.int .i64 z] t)=w':=by
 subst hg
 have h:=cfirst_any (some ⟨w.heap.size,0,none⟩) 3 3 [x,y,z] (w.alloc (.cells #[.int .i64 x,.int .i64 y,.int .i64 z] t)) (Reads.lit w [.int .i64 x,.int .i64 y,.int .i64 z] t) (by unfold maxLen;omega)
 rwa [firstE_three] at h
def gainE (l:List UInt8):Int:=if readE l≠0 then readE l else if signI (readQ l)≤0 then 3 else 0
theorem rcmp_zero {p:Q} (h:LowQ p):rcmp p (readQ [48])=signI p:=by
 have hw:writeS ⟨false,0,1⟩=[48]:=by decide +kernel
 have hq:readQ [48]=⟨false,0,1⟩:=by
  rw [←hw]
  exact (read_writeS ⟨false,0,1⟩ ⟨by decide,by decide,fun h=>by cases h⟩ (by show (Lib.decDigits 0).length≤600;rw [Dec.dec_lt (by omega)];simp) (by show (Lib.decDigits 1).length≤600;rw [Dec.dec_lt (by omega)];simp)).2
 rw [hq]
 unfold rcmp signI
 have hz:∀ n,ncmp (n*1) (0*p.bot)=if n=0 then 0 else 1:=by
  intro n
  rw [Nat.mul_one,Nat.zero_mul]
  rcases Nat.eq_zero_or_pos n with rfl | h
  ·rfl
  ·rw [ncmp_gt h,if_neg (by omega)]
 rw [hz]
 cases hn:p.neg
 ·simp
 ·have:=h.2.2 hn
  rw [if_neg (by simp),if_neg (by simp),if_neg (by omega)]
  rfl
theorem gain_ord (l:List UInt8):(if ordE l [48]=0∧ordO l [48]≤0 then 3 else ordE l [48])=gainE l:=by
 have e0:readE [48]=0:=by decide +kernel
 unfold gainE ordE ordO
 by_cases h:readE l=0
 ·rw [h,e0,rcmp_zero (readQ_low h)]
  simp
 ·simp [h]
set_option maxHeartbeats 4000000 in
set_option maxRecDepth 100000 in
theorem checkAdc_bad (a st z:Int) (g o:ByteArray) (w:World) (hr:rangeE a 8 12≠0∨rangeE st (-20) 4≠0) :
  Calls Tryz.prog 12 #[.agg #[.int .i64 a,.int .i64 st,.int .i64 z,.string g,.string o]] w fun e w'=>e = .returned (.int .i64 3)∧Below w.heap.size w w':=by
 have hb0:Below w.heap.size w (w.alloc (.cells #[.int .i64 a,.int .i64 st,.int .i64 z,.string g,.string o] 32)).drew:=((Below.refl _ _).alloc (Nat.le_refl _) _).drew
 have q0:CBlk (w.alloc (.cells #[.int .i64 a,.int .i64 st,.int .i64 z,.string g,.string o] 32)).drew w.heap.size #[.int .i64 a,.int .i64 st,.int .i64 z,.string g,.string o] 32:=CBlk.new w _ _ _ rfl
 have x0:=q0.cell 0
 have x1:=q0.cell 1
 have k0:=q0.lt
 obtain ⟨ea,hea⟩:∃ ea,rangeE a 8 12=ea:=⟨_,rfl⟩
 obtain ⟨es,hes⟩:∃ es,rangeE st (-20) 4=es:=⟨_,rfl⟩
 have hv:(if ea≠0 then ea else es)=3:=by
  rcases range_cases a 8 12 with h | h<;>rcases range_cases st (-20) 4 with h' | h'<;>rw [hea] at h hr<;>rw [hes] at h' hr<;>simp_all
 have HV:=Lib.hid hv
 have HR1:=Lib.hid hea
 have HR2:=Lib.hid hes
 clear hv hr hea hes
 go_enter Tryz.func12,Tryz.ntmps12
 go_wp2_with fail
 generalize w.alloc (.cells #[.int .i64 a,.int .i64 st,.int .i64 z,.string g,.string o] 32)=w1 at *
 go_region_held3 (fun w'=>w'.cell? ⟨w.heap.size,0,none⟩=some (.int .i64 a)∧w'.cell? ⟨w.heap.size,1,none⟩=some (.int .i64 st))
  ((first | exact ⟨x0,x1⟩ | exact ⟨(World.cell?_alloc_lt _ _ _ k0).trans x0,(World.cell?_alloc_lt _ _ _ k0).trans x1⟩))
  (first
   |(go_at_call 47;refine (cinRange_any _ _ _ _).mono ?_;rintro e w4 ⟨he,rfl⟩;(first | rw [HR1.out] at he | rw [HR2.out] at he);subst he)
   |(go_at_call 42;refine (cfirst_two ea es w1.drew _ _ rfl).mono ?_;rintro e w6 ⟨he,rfl⟩;rw [HV.out] at he;subst he))
 have hb2:Below w1.heap.size w1 (w1.alloc (.cells #[.int .i64 ea,.int .i64 es] 29)).drew:=((Below.refl _ _).alloc (Nat.le_refl _) _).drew
 have q1:CBlk w1 w.heap.size #[.int .i64 a,.int .i64 st,.int .i64 z,.string g,.string o] 32:=q0
 have q2:=q1.below hb2 k0
 have hb1:Below w.heap.size w w1:=⟨hb0.os,hb0.tape,hb0.output,hb0.size,hb0.block⟩
 have hB2:Below w.heap.size w (w1.alloc (.cells #[.int .i64 ea,.int .i64 es] 29)).drew:=hb1.trans (hb2.mono hb1.size)
 generalize (w1.alloc (.cells #[.int .i64 ea,.int .i64 es] 29)).drew=w2 at *
 go_wp2
 go_ret
 exact ⟨rfl,hB2⟩
set_option maxHeartbeats 4000000 in
set_option maxRecDepth 100000 in
theorem checkAdc_good (n:Nat) (st z:Int) (g o:ByteArray) (w:World) (hT:Tabs w) (hg:g.size≤4294967296) (ho:o.size≤4294967296) (hr1:rangeE (n:Int) 8 12=0) (hr2:rangeE st (-20) 4=0) (hn:n≤32) :
  Calls Tryz.prog 12 #[.agg #[.int .i64 (n:Int),.int .i64 st,.int .i64 z,.string g,.string o]] w fun e w'=>e = .returned (.int .i64 (if rangeE z 0 ((2 ^ n - 1:Nat):Int)≠0 then rangeE z 0 ((2 ^ n - 1:Nat):Int) else if gainE g.data.toList≠0 then gainE g.data.toList else readE o.data.toList))∧Below w.heap.size w w':=by
 have hb0:Below w.heap.size w (w.alloc (.cells #[.int .i64 (n:Int),.int .i64 st,.int .i64 z,.string g,.string o] 32)).drew:=((Below.refl _ _).alloc (Nat.le_refl _) _).drew
 have q0:CBlk (w.alloc (.cells #[.int .i64 (n:Int),.int .i64 st,.int .i64 z,.string g,.string o] 32)).drew w.heap.size #[.int .i64 (n:Int),.int .i64 st,.int .i64 z,.string g,.string o] 32:=CBlk.new w _ _ _ rfl
 have x0:=q0.cell 0
 have x1:=q0.cell 1
 have k0:=q0.lt
 have HR1:=Lib.hid hr1
 have HR2:=Lib.hid hr2
 have HTP:=Lib.hid (fun W=>top_any n st z (.string g) (.string o) W hn)
 have HG:=Lib.hid (fun W hT=>checkGain_any g W hT hg)
 rw [gain_ord] at HG
 have HO:=Lib.hid (fun W hT=>check_any o W hT ho)
 generalize ((2 ^ n - 1:Nat):Int)=T at *
 obtain ⟨rz,hrz⟩:∃ rz,rangeE z 0 T=rz:=⟨_,rfl⟩
 have HR3:=Lib.hid hrz
 rw [hrz]
 generalize gainE g.data.toList=ge at *
 generalize readE o.data.toList=oe at *
 obtain ⟨r9,hr9⟩:∃ r9,(if rz≠0 then rz else if ge≠0 then ge else oe)=r9:=⟨_,rfl⟩
 rw [hr9]
 have HR9:=Lib.hid hr9
 clear hr1 hr2 hrz hn hr9
 go_enter Tryz.func12,Tryz.ntmps12
 go_wp2_with fail
 generalize w.alloc (.cells #[.int .i64 (n:Int),.int .i64 st,.int .i64 z,.string g,.string o] 32)=w1 at *
 go_region_held3 (fun w'=>w'.cell? ⟨w.heap.size,0,none⟩=some (.int .i64 (n:Int))∧w'.cell? ⟨w.heap.size,1,none⟩=some (.int .i64 st))
  ((first | exact ⟨x0,x1⟩ | exact ⟨(World.cell?_alloc_lt _ _ _ k0).trans x0,(World.cell?_alloc_lt _ _ _ k0).trans x1⟩))
  (first
   |(go_at_call 47;refine (cinRange_any _ _ _ _).mono ?_;rintro e w4 ⟨he,rfl⟩;(first | rw [HR1.out] at he | rw [HR2.out] at he);subst he)
   |(go_at_call 42;refine (cfirst_two 0 0 w1.drew _ _ rfl).mono ?_;rintro e w6 ⟨rfl,rfl⟩))
 have hb2:Below w1.heap.size w1 (w1.alloc (.cells #[.int .i64 0,.int .i64 0] 29)).drew:=((Below.refl _ _).alloc (Nat.le_refl _) _).drew
 have q1:CBlk w1 w.heap.size #[.int .i64 (n:Int),.int .i64 st,.int .i64 z,.string g,.string o] 32:=q0
 have q2:=q1.below hb2 k0
 have hb1:Below w.heap.size w w1:=⟨hb0.os,hb0.tape,hb0.output,hb0.size,hb0.block⟩
 have hB2:Below w.heap.size w (w1.alloc (.cells #[.int .i64 0,.int .i64 0] 29)).drew:=hb1.trans (hb2.mono hb1.size)
 generalize (w1.alloc (.cells #[.int .i64 0,.int .i64 0] 29)).drew=w2 at *
 clear x0 x1
 have x0:=q2.cell 0
 have x1:=q2.cell 1
 have x2:=q2.cell 2
 have x3:=q2.cell 3
 have x4:=q2.cell 4
 have hT2:Tabs w2:=hT.later hB2
 go_wp2_with fail
 go_region_held3 (fun w'=>w'.cell? ⟨w.heap.size,0,none⟩=some (.int .i64 (n:Int))∧w'.cell? ⟨w.heap.size,1,none⟩=some (.int .i64 st)∧w'.cell? ⟨w.heap.size,2,none⟩=some (.int .i64 z)∧w'.cell? ⟨w.heap.size,3,none⟩=some (.string g)∧w'.cell? ⟨w.heap.size,4,none⟩=some (.string o))
  ((first | exact ⟨x0,x1,x2,x3,x4⟩ | exact ⟨y0,y1,y2,y3,y4⟩ | exact ⟨z0,z1,z2,z3,z4⟩ | exact ⟨u0,u1,u2,u3,u4⟩ | exact ⟨(World.cell?_alloc_lt _ _ _ k5).trans u0,(World.cell?_alloc_lt _ _ _ k5).trans u1,(World.cell?_alloc_lt _ _ _ k5).trans u2,(World.cell?_alloc_lt _ _ _ k5).trans u3,(World.cell?_alloc_lt _ _ _ k5).trans u4⟩))
  (first
   |(go_at_call 41;refine (HTP.out w2.drew).mono ?_;rintro e w3 ⟨rfl,hb3'⟩;have hb3:Below w2.heap.size w2 w3:=⟨hb3'.os,hb3'.tape,hb3'.output,hb3'.size,hb3'.block⟩;clear hb3';have q3:=q2.below hb3 q2.lt;have y0:=q3.cell 0;have y1:=q3.cell 1;have y2:=q3.cell 2;have y3:=q3.cell 3;have y4:=q3.cell 4;have hT3:=hT2.later hb3)
   |(go_at_call 47;refine (cinRange_any _ _ _ _).mono ?_;rintro e w4 ⟨he,rfl⟩;rw [HR3.out] at he;subst he)
   |(go_at_call 48;refine (HG.out w3 hT3).mono ?_;rintro e w4 ⟨rfl,hb4⟩;have q4:=q3.below hb4 q3.lt;have z0:=q4.cell 0;have z1:=q4.cell 1;have z2:=q4.cell 2;have z3:=q4.cell 3;have z4:=q4.cell 4;have hT4:=hT3.later hb4)
   |(go_at_call 43;refine (HO.out w4 hT4).mono ?_;rintro e w5 ⟨rfl,hb5⟩;have q5:=q4.below hb5 q4.lt;have u0:=q5.cell 0;have u1:=q5.cell 1;have u2:=q5.cell 2;have u3:=q5.cell 3;have u4:=q5.cell 4;have k5:=q5.lt)
   |(go_at_call 42;refine (cfirst_threeA rz ge oe w5 _ _ rfl).mono ?_;rintro e w6 ⟨he,rfl⟩;rw [HR9.out] at he;subst he))
 go_wp2_with fail
 go_ret
 have c3:=hB2.trans (hb3.mono hB2.size)
 have c4:=c3.trans (hb4.mono c3.size)
 have c5:=c4.trans (hb5.mono c4.size)
 exact ⟨rfl,c5.alloc c5.size _⟩
theorem checkAdc_any (a st z:Int) (g o:ByteArray) (w:World) (hT:Tabs w) (hg:g.size≤4294967296) (ho:o.size≤4294967296) :
  Calls Tryz.prog 12 #[.agg #[.int .i64 a,.int .i64 st,.int .i64 z,.string g,.string o]] w fun e w'=>e = .returned (.int .i64 (adcE a st z g.data.toList o.data.toList))∧Below w.heap.size w w':=by
 by_cases hr:rangeE a 8 12≠0∨rangeE st (-20) 4≠0
 ·have hx:adcE a st z g.data.toList o.data.toList=3:=by
   unfold adcE
   by_cases h1:rangeE a 8 12≠0
   ·rw [if_pos h1]
   ·rw [if_neg h1,if_pos (by rcases hr with h | h;(· exact absurd h h1);(· exact h))]
  rw [hx]
  exact checkAdc_bad a st z g o w hr
 ·have hr1:rangeE a 8 12=0:=Classical.not_not.1 fun h=>hr (.inl h)
  have hr2:rangeE st (-20) 4=0:=Classical.not_not.1 fun h=>hr (.inr h)
  have ha:8≤a∧a≤12:=by
   rcases range_cases a 8 12 with h | h
   ·rw [hr1] at h
    omega
   ·exact h.2
  obtain ⟨n,rfl⟩:∃ n:Nat,a=n:=⟨a.toNat,by omega⟩
  have hx:(if rangeE z 0 ((2 ^ n - 1:Nat):Int)≠0 then rangeE z 0 ((2 ^ n - 1:Nat):Int) else if gainE g.data.toList≠0 then gainE g.data.toList else readE o.data.toList)=adcE n st z g.data.toList o.data.toList:=by
   unfold adcE
   rw [hr1,hr2,Int.toNat_natCast,if_neg (c:=(0:Int)≠0) (by simp),if_neg (c:=(0:Int)≠0) (by simp)]
   rcases range_cases z 0 ((2 ^ n - 1:Nat):Int) with h | h
   ·rw [h.1]
    rfl
   ·rw [h.1,if_neg (c:=(0:Int)≠0) (by simp),if_neg (c:=(0:Int)≠0) (by simp)]
    unfold gainE
    by_cases h1:readE g.data.toList=0
    ·rw [h1]
     by_cases h2:signI (readQ g.data.toList)≤0<;>simp [h2]
    ·simp [h1]
  rw [←hx]
  exact checkAdc_good n st z g o w hT hg ho hr1 hr2 (by omega)
end Go.Proofs.YtjhgadajpliclaaGreatDoor
