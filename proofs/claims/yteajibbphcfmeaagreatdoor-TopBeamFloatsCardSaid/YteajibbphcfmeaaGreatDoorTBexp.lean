/- Contracts of binaryExponent and rounded of rational numbers. -/
import Derived.Test.YteajibbphcfmeaaGreatDoorTRat2
import Derived.Test.YteajibbphcfmeaaGreatDoorTFlt
import Derived.Test.YteajibbphcfmeaaGreatDoorTRow
import Derived.Laws.Cover2
import Derived.Laws.BitsAllLaws
import Derived.Laws.FloatArith
namespace Go.Proofs.YteajibbphcfmeaaGreatDoor
open Go.RowKit Bn
def bexp (t b:Nat):Int:=
 if scT t ((nbits t:Int) - (nbits b:Int))<scB b ((nbits t:Int) - (nbits b:Int)) then (nbits t:Int) - (nbits b:Int) - 1 else (nbits t:Int) - (nbits b:Int)
theorem nbits_bound {x n:Nat} (h:(digs x).length≤n):nbits x≤64*n:=by
 rcases Nat.eq_zero_or_pos x with rfl | hx
 ·simp [nbits]
 ·have h1:=nbits_le hx
  have h2:=lt_of_digs_length x
  have h3:B ^ (digs x).length≤B ^ n:=Nat.pow_le_pow_right B_pos h
  have h4:B ^ n=2 ^ (64*n):=by rw [Nat.pow_mul];rfl
  have h5:2 ^ (nbits x - 1)<2 ^ (64*n):=by omega
  have h6:=(Nat.pow_lt_pow_iff_right (by omega:1<2)).1 h5
  omega
theorem ncmp_lt {x y:Nat} (h:x<y):ncmp x y = -1:=by unfold ncmp;rw [if_pos h]
theorem ncmp_ge {x y:Nat} (h:¬ x<y):0≤ncmp x y:=by unfold ncmp;rw [if_neg h];split<;>omega
set_option maxHeartbeats 4000000 in
set_option maxRecDepth 100000 in
theorem binaryExponent_any (b:Bool) (x1 x2:Nat) (A1 A2:Option Addr) (n1 c1 n2 c2:Nat) (w:World) (h1:NatS w w.heap.size A1 n1 c1 x1) (h2:NatS w w.heap.size A2 n2 c2 x2) (k1:n1≤134217728) (k2:n2≤134217728) :
  Calls Tryz.prog 97 #[.agg #[.bool b,.slice A1 n1 c1,.slice A2 n2 c2]] w fun e w'=>e = .returned (.int .i64 (bexp x1 x2))∧Below w.heap.size w w':=by
 have hb1:Below w.heap.size w (w.alloc (.cells #[.bool b,.slice A1 n1 c1,.slice A2 n2 c2] 91)):=(Below.refl _ _).alloc (Nat.le_refl _) _
 have hx0:ResBlk (w.alloc (.cells #[.bool b,.slice A1 n1 c1,.slice A2 n2 c2] 91)) w.heap.size b (.slice A1 n1 c1) (.slice A2 n2 c2):=ResBlk.new w _ _ _
 have hn1:=nbits_bound (Nat.le_of_eq h1.len)
 have hn2:=nbits_bound (Nat.le_of_eq h2.len)
 have HV0:Hid (bexp x1 x2=if scT x1 ((nbits x1:Int) - (nbits x2:Int))<scB x2 ((nbits x1:Int) - (nbits x2:Int)) then (nbits x1:Int) - (nbits x2:Int) - 1 else (nbits x1:Int) - (nbits x2:Int)):=rfl
 go_enter Tryz.func97,Tryz.ntmps97
 go_wp2_with fail
 generalize (w.alloc (.cells #[.bool b,.slice A1 n1 c1,.slice A2 n2 c2] 91))=w3 at *
 obtain ⟨a0,a1,a2,_,_,_,al⟩:=hx0.cells
 have q1:=h1.later hb1
 have q2:=h2.later hb1
 have HB1:∀ q,Calls Tryz.prog 147 #[.slice A1 n1 c1] (w3.drewN q) fun e w'=>e = .returned (.int .i64 (nbits x1))∧w3.drewN q=w':=fun q=>bitLength_any A1 n1 c1 x1 (w3.drewN q) (q1.later (below_drewN (Below.refl _ _) q)) (by omega)
 have HB2:∀ q,Calls Tryz.prog 147 #[.slice A2 n2 c2] (w3.drewN q) fun e w'=>e = .returned (.int .i64 (nbits x2))∧w3.drewN q=w':=fun q=>bitLength_any A2 n2 c2 x2 (w3.drewN q) (q2.later (below_drewN (Below.refl _ _) q)) (by omega)
 have hws:IntKind.i64.wrap ((nbits x1:Int) - (nbits x2:Int))=(nbits x1:Int) - (nbits x2:Int):=IntWalk.i64_in _ (by omega)
 have H1:=Lib.hid HB1
 have H2:=Lib.hid HB2
 clear HB1 HB2
 go_quiet ((first | (go_at_call_of 147 (Value.slice A1 n1 c1);first | exact quiet_add_left (H1.out _) | exact quiet_left (H1.out _)) | (go_at_call_of 147 (Value.slice A2 n2 c2);first | exact quiet_add_left (H2.out _) | exact quiet_left (H2.out _))))
 have hbq:Below w3.heap.size w3 (w3.drewN nq):=below_drewN (Below.refl _ _) nq
 have hsc:=scaled_any b x1 x2 ((nbits x1:Int) - (nbits x2:Int)) A1 A2 n1 c1 n2 c2 (w3.drewN nq) (q1.later hbq) (q2.later hbq) k1 k2 (by omega)
 have HSC:=Lib.hid hsc
 have hib1 : -8589934592≤(nbits x1:Int) - (nbits x2:Int):=by omega
 have hib2:(nbits x1:Int) - (nbits x2:Int)≤8589934592:=by omega
 generalize (nbits x1:Int) - (nbits x2:Int)=i at *
 clear hsc hws H1 H2
 go_wp2_with fail
 refine HSC.out.mono ?_
 rintro e w5 ⟨A5,m5,c5,A6,m6,c6,rfl,h5,h6,hb5⟩
 have hB5:Below w.heap.size w w5:=(hb1.trans (hbq.mono hb1.size)).trans (hb5.mono hb1.size)
 have hcm:=compare_any A5 A6 m5 c5 m6 c6 _ _ w5 h5 h6
 by_cases hlt:scT x1 i<scB x2 i
 ·rw [ncmp_lt hlt] at hcm
  have HV:Hid (bexp x1 x2=i - 1):=by unfold Hid;rw [HV0.out,if_pos hlt]
  clear hlt
  go_wp2_with fail
  refine hcm.mono ?_
  rintro e w6 ⟨rfl,k,rfl⟩
  go_wp2
  go_ret
  exact ⟨by rw [HV.out];rfl,below_drewN hB5 k⟩
 ·have hg:=ncmp_ge hlt
  have HV:Hid (bexp x1 x2=i):=by unfold Hid;rw [HV0.out,if_neg hlt]
  generalize ncmp (scT x1 i) (scB x2 i)=cv at hcm hg
  have hd:decide (cv<0)=false:=by simp;omega
  clear hlt
  go_wp2_with fail
  refine hcm.mono ?_
  rintro e w6 ⟨rfl,k,rfl⟩
  go_wp2
  go_ret
  exact ⟨by rw [HV.out];rfl,below_drewN hB5 k⟩
theorem len_shift {x n s:Nat} (h:(digs x).length≤n):(digs (x*2 ^ s)).length≤n+s / 64+1:=by
 refine digs_length_le ?_
 have h1:=lt_of_digs_length x
 have h2:B ^ (digs x).length≤B ^ n:=Nat.pow_le_pow_right B_pos h
 have h3:2 ^ s<2 ^ (64*(s / 64+1)):=Nat.pow_lt_pow_right (by omega) (by omega)
 have h4:2 ^ (64*(s / 64+1))=B ^ (s / 64+1):=by rw [Nat.pow_mul];rfl
 rw [h4] at h3
 rw [Nat.add_assoc,Nat.pow_add]
 exact Nat.mul_lt_mul'' (Nat.lt_of_lt_of_le h1 h2) h3
def near (t b:Nat):Nat:=if b<t % b*2∨(t % b*2=b∧t / b % 2=1) then t / b+1 else t / b
set_option maxHeartbeats 4000000 in
set_option maxRecDepth 100000 in
theorem rounded_any (b:Bool) (x1 x2:Nat) (i:Int) (A1 A2:Option Addr) (n1 c1 n2 c2:Nat) (w:World) (h1:NatS w w.heap.size A1 n1 c1 x1) (h2:NatS w w.heap.size A2 n2 c2 x2) (k1:n1≤134217728) (k2:n2≤134217728) (hs : -1073741824≤i∧i≤1073741824)
  (hp:0<scB x2 i) (hq:scT x1 i / scB x2 i<9223372036854775808) :
  Calls Tryz.prog 99 #[.agg #[.bool b,.slice A1 n1 c1,.slice A2 n2 c2],.int .i64 i] w fun e w'=>e = .returned (.int .u64 (near (scT x1 i) (scB x2 i):Int))∧Below w.heap.size w w':=by
 have hb1:Below w.heap.size w (w.alloc (.cells #[.bool b,.slice A1 n1 c1,.slice A2 n2 c2] 91)):=(Below.refl _ _).alloc (Nat.le_refl _) _
 have hsc:=scaled_any b x1 x2 i A1 A2 n1 c1 n2 c2 _ (h1.later hb1) (h2.later hb1) k1 k2 (by omega)
 have hlT:(digs (scT x1 i)).length≤151000000:=by
  unfold scT;split
  ·have:=len_shift (s:=(-i).toNat) (Nat.le_of_eq h1.len);omega
  ·rw [h1.len];omega
 have hlB:(digs (scB x2 i)).length≤151000000:=by
  unfold scB;split
  ·rw [h2.len];omega
  ·have:=len_shift (s:=i.toNat) (Nat.le_of_eq h2.len);omega
 generalize scT x1 i=t at *
 generalize scB x2 i=u at *
 go_enter Tryz.func99,Tryz.ntmps99
 go_wp2_with fail
 refine hsc.mono ?_
 rintro e w3 ⟨A3,n3,c3,A4,n4,c4,rfl,h3,h4,hb3⟩
 have hB3:Below w.heap.size w w3:=hb1.trans (hb3.mono hb1.size)
 rw [h3.len] at hlT
 rw [h4.len] at hlB
 go_wp2_with fail
 refine (over_any A3 A4 n3 c3 n4 c4 t u w3 h3 h4 hp (by omega)).mono ?_
 rintro e w5 ⟨A5,n5,c5,A6,n6,c6,rfl,h5,h6,hb5⟩
 have hB5:Below w.heap.size w w5:=hB3.trans (hb5.mono hB3.size)
 have h4':=h4.later hb5
 have l6:n6≤n4:=by
  rw [←h6.len,←h4.len];exact digs_length_mono (Nat.le_of_lt (Nat.mod_lt _ hp))
 have hz:=isZero_val A5 n5 c5 (t / u) w5 h5
 obtain ⟨z,hzv,hcellz⟩:∃ z:Bool,decide (t / u=0)=z∧(z=false→∃ ad,A5=some ad∧0<n5∧w5.cell? (ad.add 0)=some (.int .u64 ((t / u:Nat):Int))):=by
  refine ⟨_,rfl,fun hz0 => ?_⟩
  have hne:t / u≠0:=by simpa using hz0
  have hlen:0<n5:=by rw [←h5.len];exact digs_length_pos (Nat.pos_of_ne_zero hne)
  obtain ⟨ad,e,_,hc⟩:=h5.words.word (k:=0) hlen
  refine ⟨ad,e,hlen,?_⟩
  rw [hc,digs_pos (Nat.pos_of_ne_zero hne)]
  simp only [List.getD_cons_zero]
  rw [Nat.mod_eq_of_lt (by rw [B_def];omega)]
 rw [hzv] at hz
 have h2m:∀ W:World,Below w5.heap.size w5 W→Calls Tryz.prog 103 #[.slice A6 n6 c6,.int .i64 1] W (RetNat W (t % u*2)):=fun W hb=>by
  have h:=shiftedLeft_any A6 n6 c6 (t % u) 1 W (h6.later hb) (by omega) (by omega)
  rw [Nat.pow_one] at h
  exact h
 have HN:Hid (near t u=if u<t % u*2∨(t % u*2=u∧t / u % 2=1) then t / u+1 else t / u):=rfl
 have hz0:z=true→t / u=0:=by intro h;rw [h] at hzv;simpa using hzv
 have HZ0:=Lib.hid hz0
 generalize t / u=q at hq hcellz HN HZ0 hz
 generalize t % u=r at HN h2m
 have H2M:=Lib.hid h2m
 clear h2m hzv hz0 h5 h3 h4 hlT hp
 have hc1:ncmp (r*2) u = -1∧r*2<u∨ncmp (r*2) u=0∧r*2=u∨ncmp (r*2) u=1∧u<r*2:=by
  rcases Nat.lt_trichotomy (r*2) u with h | h | h
  ·exact .inl ⟨ncmp_lt h,h⟩
  ·exact .inr (.inl ⟨by unfold ncmp;rw [if_neg (by omega)];rw [if_pos h],h⟩)
  ·exact .inr (.inr ⟨by unfold ncmp;rw [if_neg (by omega),if_neg (by omega)],h⟩)
 have HC1:=Lib.hid hc1
 clear hc1
 cases z
 ·obtain ⟨ad,rfl,hn5,hcell⟩:=hcellz rfl
  have e0:ad.add 0=ad:=by simp [Addr.add]
  rw [e0] at hcell
  clear e0
  clear hcellz HZ0
  go_wp2_with fail
  refine hz.mono ?_
  rintro e w6 ⟨rfl,rfl⟩
  clear hz
  go_wp2_with fail
  refine (H2M.out w5 (Below.refl _ _)).mono ?_
  rintro e w7 ⟨A7,n7,c7,rfl,h7,hb7⟩
  have hcm:=compare_any A7 A4 n7 c7 n4 c4 _ _ w7 h7 (h4'.later hb7)
  have hB7:=hB5.trans (hb7.mono hB5.size)
  rcases HC1.out with ⟨e1,h1⟩ | ⟨e1,h1⟩ | ⟨e1,h1⟩
  ·have HV:Hid (near t u=q):=by unfold Hid;rw [HN.out,if_neg (by omega)]
   rw [e1] at hcm
   clear e1 h1
   go_wp2_with fail
   refine hcm.mono ?_
   rintro e w8 ⟨rfl,k,rfl⟩
   go_wp2
   go_ret
   exact ⟨by rw [HV.out];rfl,below_drewN hB7 k⟩
  ·by_cases hm:q % 2=1
   ·have HV:Hid (near t u=q+1):=by unfold Hid;rw [HN.out,if_pos (.inr ⟨h1,hm⟩)]
    rw [e1] at hcm
    have hm2:((q:Int) % 2==1)=true:=by simp;omega
    clear e1 h1 hm
    go_wp2_with fail
    refine hcm.mono ?_
    rintro e w8 ⟨rfl,k,rfl⟩
    go_wp2
    go_ret
    exact ⟨by rw [HV.out];rfl,below_drewN hB7 k⟩
   ·have HV:Hid (near t u=q):=by unfold Hid;rw [HN.out,if_neg (by omega)]
    rw [e1] at hcm
    have hm2:((q:Int) % 2==1)=false:=by simp;omega
    clear e1 h1 hm
    go_wp2_with fail
    refine hcm.mono ?_
    rintro e w8 ⟨rfl,k,rfl⟩
    go_wp2
    go_ret
    exact ⟨by rw [HV.out];rfl,below_drewN hB7 k⟩
  ·have HV:Hid (near t u=q+1):=by unfold Hid;rw [HN.out,if_pos (.inl h1)]
   rw [e1] at hcm
   clear e1 h1
   go_wp2_with fail
   refine hcm.mono ?_
   rintro e w8 ⟨rfl,k,rfl⟩
   go_wp2
   go_ret
   exact ⟨by rw [HV.out];rfl,below_drewN hB7 k⟩
 ·have hq0:=HZ0.out rfl
  subst hq0
  clear hcellz HZ0
  go_wp2_with fail
  refine hz.mono ?_
  rintro e w6 ⟨rfl,rfl⟩
  clear hz
  go_wp2_with fail
  refine (H2M.out w5 (Below.refl _ _)).mono ?_
  rintro e w7 ⟨A7,n7,c7,rfl,h7,hb7⟩
  have hcm:=compare_any A7 A4 n7 c7 n4 c4 _ _ w7 h7 (h4'.later hb7)
  have hB7:=hB5.trans (hb7.mono hB5.size)
  rcases HC1.out with ⟨e1,h1⟩ | ⟨e1,h1⟩ | ⟨e1,h1⟩
  ·have HV:Hid (near t u=0):=by unfold Hid;rw [HN.out,if_neg (by omega)]
   rw [e1] at hcm
   clear e1 h1
   go_wp2_with fail
   refine hcm.mono ?_
   rintro e w8 ⟨rfl,k,rfl⟩
   go_wp2
   go_ret
   exact ⟨by rw [HV.out];rfl,below_drewN hB7 k⟩
  ·have HV:Hid (near t u=0):=by unfold Hid;rw [HN.out,if_neg (by omega)]
   rw [e1] at hcm
   clear e1 h1
   go_wp2_with fail
   refine hcm.mono ?_
   rintro e w8 ⟨rfl,k,rfl⟩
   go_wp2
   go_ret
   exact ⟨by rw [HV.out];rfl,below_drewN hB7 k⟩
  ·have HV:Hid (near t u=1):=by unfold Hid;rw [HN.out,if_pos (.inl h1)]
   rw [e1] at hcm
   clear e1 h1
   go_wp2_with fail
   refine hcm.mono ?_
   rintro e w8 ⟨rfl,k,rfl⟩
   go_wp2
   go_ret
   exact ⟨by rw [HV.out];rfl,below_drewN hB7 k⟩
theorem sc_cmp (t b m:Nat) (e:Int) (a c:Nat) (h:(a:Int) - c = -e):scB b e*m≤scT t e↔b*2 ^ c*m≤t*2 ^ a:=by
 unfold scB scT
 by_cases he:e<0
 ·rw [if_pos he,if_pos he]
  have:a=(-e).toNat+c:=by omega
  subst this
  generalize (-e).toNat=s
  rw [Nat.pow_add,←Nat.mul_assoc,Nat.mul_right_comm,Nat.mul_le_mul_right_iff (Nat.two_pow_pos _)]
 ·rw [if_neg he,if_neg he]
  have:c=e.toNat+a:=by omega
  subst this
  generalize e.toNat=s
  rw [Nat.pow_add,←Nat.mul_assoc,Nat.mul_right_comm _ (2 ^ a),Nat.mul_le_mul_right_iff (Nat.two_pow_pos _)]
theorem sc_lt (t b m:Nat) (e:Int) (a c:Nat) (h:(a:Int) - c = -e):scT t e<scB b e*m↔t*2 ^ a<b*2 ^ c*m:=by
 have:=sc_cmp t b m e a c h
 omega
theorem scB_pos {b:Nat} (hb:0<b) (e:Int):0<scB b e:=by
 unfold scB;split
 ·exact hb
 ·exact Nat.mul_pos hb (Nat.two_pow_pos _)
theorem bexp_spec {t b:Nat} (ht:0<t) (hb:0<b) (a c:Nat) (h:(a:Int) - c = -(bexp t b)):b*2 ^ c≤t*2 ^ a∧t*2 ^ a<b*2 ^ c*2:=by
 have t1:=nbits_le ht
 have t2:=lt_nbits t
 have b1:=nbits_le hb
 have b2:=lt_nbits b
 have tp:=nbits_pos ht
 have bp:=nbits_pos hb
 generalize hnt:nbits t=nt at *
 generalize hnb:nbits b=nb at *
 unfold bexp at h
 rw [hnt,hnb] at h
 have low:∀ a c:Nat,(a:Int) - c = -((nt:Int) - nb - 1)→b*2 ^ c≤t*2 ^ a:=by
  intro a c hac
  have h1:b*2 ^ c≤2 ^ (nb+c):=by rw [Nat.pow_add];exact Nat.mul_le_mul_right _ (Nat.le_of_lt b2)
  have h2:2 ^ (nt - 1+a)≤t*2 ^ a:=by rw [Nat.pow_add];exact Nat.mul_le_mul_right _ t1
  have h3:nb+c=nt - 1+a:=by omega
  rw [h3] at h1
  exact Nat.le_trans h1 h2
 have high:∀ a c:Nat,(a:Int) - c = -((nt:Int) - nb)→t*2 ^ a<b*2 ^ c*2:=by
  intro a c hac
  have h1:t*2 ^ a<2 ^ (nt+a):=by rw [Nat.pow_add];exact Nat.mul_lt_mul_of_pos_right t2 (Nat.two_pow_pos _)
  have h2:2 ^ (nb - 1+(c+1))≤b*2 ^ (c+1):=by rw [Nat.pow_add];exact Nat.mul_le_mul_right _ b1
  have h3:nt+a=nb - 1+(c+1):=by omega
  rw [h3] at h1
  rw [Nat.pow_succ,←Nat.mul_assoc] at h2
  exact Nat.lt_of_lt_of_le h1 h2
 split at h
 ·rename_i hlt
  have hlt':scT t ((nt:Int) - nb)<scB b ((nt:Int) - nb)*1:=by rw [Nat.mul_one];exact hlt
  have h4:=(sc_lt t b 1 ((nt:Int) - nb) a (c+1) (by omega)).1 hlt'
  rw [Nat.mul_one,Nat.pow_succ,←Nat.mul_assoc] at h4
  exact ⟨low a c (by omega),h4⟩
 ·rename_i hlt
  have hle:scB b ((nt:Int) - nb)*1≤scT t ((nt:Int) - nb):=by omega
  have h4:=(sc_cmp t b 1 ((nt:Int) - nb) a c (by omega)).1 hle
  rw [Nat.mul_one] at h4
  exact ⟨h4,high a c (by omega)⟩
def flE (t b:Nat):Int:=max (bexp t b+1 - 24) (-149)
def flN (t b:Nat):Nat:=near (scT t (flE t b)) (scB b (flE t b))
theorem near_bounds {t b lo hi:Nat} (hb:0<b) (h1:b*lo≤t) (h2:t<b*hi):lo≤near t b∧near t b≤hi:=by
 have q1:lo≤t / b:=(Nat.le_div_iff_mul_le hb).2 (by rw [Nat.mul_comm];exact h1)
 have q2:t / b<hi:=(Nat.div_lt_iff_lt_mul hb).2 (by rw [Nat.mul_comm];exact h2)
 unfold near
 split<;>omega
theorem flN_rnd {t b:Nat} (ht:0<t) (hb:0<b):Flt.Rnd (flN t b) (flE t b)∧scT t (flE t b) / scB b (flE t b)<16777216:=by
 have e24:(2:Nat) ^ 24=16777216:=by decide
 have e23:(2:Nat) ^ 23=8388608:=by decide
 have hs:=@bexp_spec t b ht hb
 have hB:=scB_pos hb (flE t b)
 have hle:flE t b = -149∨flE t b=bexp t b - 23:=by unfold flE;omega
 have hge:bexp t b - 23≤flE t b:=by unfold flE;omega
 have hpl : -149≤flE t b:=by unfold flE;omega
 unfold flN
 generalize flE t b=e at *
 generalize bexp t b=k at *
 obtain ⟨c,hc⟩:∃ c:Nat,0≤(c:Int) - e:=⟨e.toNat,by omega⟩
 obtain ⟨a,ha⟩:∃ a:Nat,(a:Int)=c - e:=⟨((c:Int) - e).toNat,by omega⟩
 have hhi:scT t e<scB b e*16777216:=by
  rw [sc_lt t b _ e a c (by omega)]
  obtain ⟨d,hd⟩:∃ d:Nat,(d:Int)=e - (k - 23):=⟨(e - (k - 23)).toNat,by omega⟩
  have h1:=(hs (a+d) (c+23) (by omega)).2
  have h2:t*2 ^ a≤t*2 ^ (a+d):=Nat.mul_le_mul_left _ (Nat.pow_le_pow_right (by omega) (by omega))
  have h3:b*2 ^ (c+23)*2=b*2 ^ c*16777216:=by
   rw [Nat.mul_assoc,←Nat.pow_succ,show (c+23).succ=c+24 from rfl,Nat.pow_add,e24,Nat.mul_assoc]
  omega
 have hq:scT t e / scB b e<16777216:=(Nat.div_lt_iff_lt_mul hB).2 (by rw [Nat.mul_comm];exact hhi)
 have hn:=near_bounds (lo:=0) hB (by omega) hhi
 refine ⟨⟨hpl,hn.2,?_⟩,hq⟩
 rcases hle with h | h
 ·exact Or.inl h
 ·refine Or.inr ?_
  have hlo:scB b e*8388608≤scT t e:=by
   rw [sc_cmp t b _ e a c (by omega),←e23,Nat.mul_assoc,←Nat.pow_add]
   exact (hs a (c+23) (by omega)).1
  exact (near_bounds hB hlo hhi).1
theorem bexp_bound {t b N:Nat} (h1:nbits t≤N) (h2:nbits b≤N) : -(N:Int) - 1≤bexp t b∧bexp t b≤N:=by
 unfold bexp;split<;>omega
def flW (q:Q):Nat:=if q.top=0 then 0 else if flN q.top q.bot=0 then 0 else if 2139095040≤Flt.rung (flN q.top q.bot) (flE q.top q.bot) then 0 else Ieee.single.word q.neg (Flt.rung (flN q.top q.bot) (flE q.top q.bot))
def flX (q:Q):Int:=if q.top=0 then 0 else if flN q.top q.bot=0 then 0 else if 2139095040≤Flt.rung (flN q.top q.bot) (flE q.top q.bot) then 4 else 0
theorem sc_le (t b m:Nat) (e:Int) (a c:Nat) (h:(a:Int) - c = -e):scT t e≤scB b e*m↔t*2 ^ a≤b*2 ^ c*m:=by
 unfold scB scT
 by_cases he:e<0
 ·rw [if_pos he,if_pos he]
  have:a=(-e).toNat+c:=by omega
  subst this
  generalize (-e).toNat=s
  rw [Nat.pow_add,←Nat.mul_assoc,Nat.mul_right_comm b,Nat.mul_le_mul_right_iff (Nat.two_pow_pos _)]
 ·rw [if_neg he,if_neg he]
  have:c=e.toNat+a:=by omega
  subst this
  generalize e.toNat=s
  rw [Nat.pow_add,←Nat.mul_assoc,Nat.mul_right_comm _ (2 ^ a),Nat.mul_le_mul_right_iff (Nat.two_pow_pos _)]
theorem near_le {t b m:Nat} (hb:0<b) (h:t≤b*m):near t b≤m:=by
 have hd:=Nat.div_add_mod t b
 have hm:=Nat.mod_lt t hb
 generalize hq:t / b=q at *
 generalize hr:t % b=r at *
 unfold near
 rw [hq,hr]
 rcases Nat.lt_or_ge q m with h1 | h1
 ·split<;>omega
 ·have h2:b*m≤b*q:=Nat.mul_le_mul_left _ h1
  have h3:r=0:=by omega
  subst h3
  have h4:q≤m:=by
   rcases Nat.lt_or_ge m q with h5 | h5
   ·have:=Nat.mul_le_mul_left b (show m+1≤q from h5)
    rw [Nat.mul_add,Nat.mul_one] at this
    omega
   ·exact h5
  rw [if_neg (by omega)]
  exact h4
theorem near_ge {t b m:Nat} (hb:0<b) (h:b*m≤t):m≤near t b:=by
 have q1:m≤t / b:=(Nat.le_div_iff_mul_le hb).2 (by rw [Nat.mul_comm];exact h)
 unfold near
 split<;>omega
theorem rung_step {a c n n' H:Nat} (h:a+1≤c) (hn:n≤2*H) (hn':H≤n'):a*H+n≤c*H+n':=by
 have:=Nat.mul_le_mul_right H h
 rw [Nat.add_mul,Nat.one_mul] at this
 omega
theorem rung_edge {a n H:Nat} (hn:n≤H):(a+1)*H+n≤a*H+2*H:=by
 rw [Nat.add_mul,Nat.one_mul]
 omega
theorem small_no {X Y b Z H:Nat} (h4:Y<b*2) (h7:X≤Y) (h8:b*H≤Z) (hZ:Z≤X) (hH:2≤H):False:=by
 have:=Nat.mul_le_mul_left b hH
 omega
theorem bexp_units {t b:Nat} (ht:0<t) (hb:0<b) (d:Nat) (hd:(d:Int)=bexp t b+149):b*2 ^ d≤t*2 ^ 149∧t*2 ^ 149<b*2 ^ d*2:=bexp_spec ht hb 149 d (by omega)
theorem flE_cases (t b:Nat):(flE t b = -149∨flE t b=bexp t b - 23)∧bexp t b - 23≤flE t b ∧ -149≤flE t b:=by unfold flE;omega
set_option maxRecDepth 100000 in
theorem rung_le {t b n':Nat} {e':Int} (ht:0<t) (hb:0<b) (hr:Flt.Rnd n' e') (h:t*2 ^ 149≤b*(n'*2 ^ (e'+149).toNat)):Flt.rung (flN t b) (flE t b)≤Flt.rung n' e':=by
 have hn:=(flN_rnd ht hb).1
 have hB:=scB_pos hb (flE t b)
 obtain ⟨h1,h2,h3⟩:=flE_cases t b
 have hp:=hr.place
 have hhi:=hr.hi
 have hlo:=hr.lo
 have nhi:=hn.hi
 unfold Flt.rung
 rcases Int.lt_trichotomy (flE t b) e' with hlt | heq | hgt
 ·have h4:(flE t b+149).toNat+1≤(e'+149).toNat:=by omega
  have h5:8388608≤n':=by omega
  exact rung_step h4 nhi h5
 ·have h4:flN t b≤n':=by
   unfold flN
   refine near_le hB ?_
   rw [sc_le t b n' (flE t b) 149 ((flE t b+149).toNat) (by omega),heq]
   rw [Nat.mul_assoc,Nat.mul_comm (2 ^ _)]
   exact h
  rw [heq]
  exact Nat.add_le_add_left h4 _
 ·have hk:flE t b=bexp t b - 23:=by omega
  obtain ⟨d,hd⟩:∃ d:Nat,(d:Int)=bexp t b+149:=⟨(bexp t b+149).toNat,by omega⟩
  have h4:=(bexp_units ht hb d hd).1
  have h5:b*2 ^ d≤b*(n'*2 ^ (e'+149).toNat):=Nat.le_trans h4 h
  have h6:2 ^ d≤n'*2 ^ (e'+149).toNat:=Nat.le_of_mul_le_mul_left h5 hb
  obtain ⟨j,hj⟩:∃ j:Nat,d=(e'+149).toNat+24+j:=⟨d - (e'+149).toNat - 24,by omega⟩
  have e24:(2:Nat) ^ 24=16777216:=by decide
  have h7:n'*2 ^ (e'+149).toNat≤16777216*2 ^ (e'+149).toNat:=Nat.mul_le_mul_right _ hhi
  have h8:(2:Nat) ^ d=16777216*2 ^ (e'+149).toNat*2 ^ j:=by
   rw [hj,Nat.pow_add,Nat.pow_add,e24,Nat.mul_comm (2 ^ (e'+149).toNat)]
  have hP:0<2 ^ (e'+149).toNat:=Nat.two_pow_pos _
  have hj0:j=0:=by
   rcases Nat.eq_zero_or_pos j with h9 | h9
   ·exact h9
   ·exfalso
    have h10:2 ^ 1≤2 ^ j:=Nat.pow_le_pow_right (by omega) h9
    have h11:=Nat.mul_le_mul_left (16777216*2 ^ (e'+149).toNat) h10
    rw [←h8] at h11
    generalize 2 ^ (e'+149).toNat=P at *
    omega
  subst hj0
  have hn16:n'=16777216:=by
   rw [h8,Nat.pow_zero,Nat.mul_one] at h6
   have:=Nat.le_of_mul_le_mul_right h6 hP
   omega
  have h12:flN t b≤8388608:=by
   unfold flN
   refine near_le hB ?_
   rw [sc_le t b 8388608 (flE t b) 149 ((flE t b+149).toNat) (by omega)]
   have h13:(flE t b+149).toNat=(e'+149).toNat+1:=by omega
   rw [h13,show (2:Nat) ^ ((e'+149).toNat+1)=2 ^ (e'+149).toNat*2 from Nat.pow_succ ..]
   refine Nat.le_trans h ?_
   rw [hn16]
   generalize 2 ^ (e'+149).toNat=P
   rw [Nat.mul_assoc b,show P*2*8388608=16777216*P by omega]
   exact Nat.le_refl _
  have h14:(flE t b+149).toNat=(e'+149).toNat+1:=by omega
  rw [h14,hn16]
  exact rung_edge h12
set_option maxRecDepth 100000 in
theorem rung_ge {t b n':Nat} {e':Int} (ht:0<t) (hb:0<b) (hr:Flt.Rnd n' e') (h:b*(n'*2 ^ (e'+149).toNat)≤t*2 ^ 149):Flt.rung n' e'≤Flt.rung (flN t b) (flE t b):=by
 have hn:=(flN_rnd ht hb).1
 have hB:=scB_pos hb (flE t b)
 obtain ⟨h1,h2,h3⟩:=flE_cases t b
 have hp:=hr.place
 have hhi:=hr.hi
 have hlo:=hr.lo
 have nlo:=hn.lo
 unfold Flt.rung
 rcases Int.lt_trichotomy (flE t b) e' with hlt | heq | hgt
 ·exfalso
  have h5:8388608≤n':=by omega
  rcases Int.lt_or_le (bexp t b+149) 0 with hneg | hpos
  ·
   obtain ⟨s,hs⟩:∃ s:Nat,(s:Int) = -(bexp t b+149):=⟨(-(bexp t b+149)).toNat,by omega⟩
   have h4:=(bexp_spec ht hb (149+s) 0 (by omega)).2
   rw [Nat.pow_zero,Nat.mul_one,Nat.pow_add,←Nat.mul_assoc] at h4
   have h6:b*1≤b*(n'*2 ^ (e'+149).toNat):=Nat.mul_le_mul_left _ (Nat.mul_pos (by omega) (Nat.two_pow_pos _))
   have h8:b*8388608≤b*(n'*2 ^ (e'+149).toNat):=Nat.mul_le_mul_left _ (Nat.le_trans h5 (Nat.le_mul_of_pos_right _ (Nat.two_pow_pos _)))
   have h7:t*2 ^ 149≤t*2 ^ 149*2 ^ s:=Nat.le_mul_of_pos_right _ (Nat.two_pow_pos _)
   exact small_no h4 h7 h8 h (by decide)
  ·obtain ⟨d,hd⟩:∃ d:Nat,(d:Int)=bexp t b+149:=⟨(bexp t b+149).toNat,by omega⟩
   have h4:=(bexp_units ht hb d hd).2
   have h6:b*(n'*2 ^ (e'+149).toNat)<b*2 ^ d*2:=Nat.lt_of_le_of_lt h h4
   rw [Nat.mul_assoc] at h6
   have h7:n'*2 ^ (e'+149).toNat<2 ^ d*2:=Nat.lt_of_mul_lt_mul_left h6
   have h8:d+1≤(e'+149).toNat+23:=by omega
   have h9:2 ^ (d+1)≤2 ^ ((e'+149).toNat+23):=Nat.pow_le_pow_right (by omega) h8
   have e23:(2:Nat) ^ 23=8388608:=by decide
   rw [show (2:Nat) ^ (d+1)=2 ^ d*2 from Nat.pow_succ ..,Nat.pow_add,e23,Nat.mul_comm _ 8388608] at h9
   have h10:8388608*2 ^ (e'+149).toNat≤n'*2 ^ (e'+149).toNat:=Nat.mul_le_mul_right _ h5
   omega
 ·have h4:n'≤flN t b:=by
   unfold flN
   refine near_ge hB ?_
   rw [sc_cmp t b n' (flE t b) 149 ((flE t b+149).toNat) (by omega),heq]
   rw [Nat.mul_assoc,Nat.mul_comm (2 ^ _)]
   exact h
  rw [heq]
  exact Nat.add_le_add_left h4 _
 ·have h4:(e'+149).toNat+1≤(flE t b+149).toNat:=by omega
  have h5:8388608≤flN t b:=by omega
  exact rung_step h4 hhi h5
end Go.Proofs.YteajibbphcfmeaaGreatDoor
namespace Go.Proofs.YteajibbphcfmeaaGreatDoor
open Go.RowKit
theorem call_bits (x:Nat) (w:World):(callFunc 189 #[.float .f64 x]).run Tryz.prog w = .ok (.value (.int .u64 x)) w:=by
 rw [run_callFunc_extern Tryz.func189 (by kernel_rfl) (by kernel_rfl) (by kernel_rfl) (e:=Extern.MathFloatBits.float64bits) (by kernel_rfl)]
 rfl
theorem call_frombits (x:Nat) (w:World):(callFunc 192 #[.int .u64 x]).run Tryz.prog w = .ok (.value (.float .f64 x)) w:=by
 rw [run_callFunc_extern Tryz.func192 (by kernel_rfl) (by kernel_rfl) (by kernel_rfl) (e:=Extern.MathFloatBits.float64frombits) (by kernel_rfl)]
 rfl
def absB (x:Nat):Nat:=x % 9223372036854775808
theorem andNot_abs (x:Nat) (hx:x<18446744073709551616):bits BinOp.andNot IntKind.u64 (x:Int) 9223372036854775808=((absB x:Nat):Int):=by
 have h:=u64_andNot_nat x 9223372036854775808 hx (by omega)
 have e:x &&& (18446744073709551615 - 9223372036854775808)=absB x:=by
  rw [show 18446744073709551615 - 9223372036854775808=2 ^ 63 - 1 from by decide,Nat.and_two_pow_sub_one_eq_mod];rfl
 rw [e] at h
 exact h
theorem isNaN_any (x:Nat) (w:World):Calls Tryz.prog 151 #[.float .f64 x] w fun e w'=>e = .returned (.bool (FloatKind.f64.format.order x x != some .eq))∧w=w':=by
 go_enter Tryz.func151,Tryz.ntmps151
 go_wp2
 go_ret
 exact ⟨rfl,rfl⟩
theorem abs_any (x:Nat) (w:World) (hx:x<18446744073709551616):Calls Tryz.prog 193 #[.float .f64 x] w fun e w'=>e = .returned (.float .f64 (absB x))∧w=w':=by
 have h1:=andNot_abs x hx
 have hb:=call_bits x
 have hf:=call_frombits (absB x)
 go_enter Tryz.func193,Tryz.ntmps193
 go_wp2
 go_ret
 exact ⟨rfl,rfl⟩
theorem isInf_any (x:Nat) (w:World) (hx:x<18446744073709551616):Calls Tryz.prog 152 #[.float .f64 x,.int .i64 0] w fun e w'=>e = .returned (.bool (FloatKind.f64.format.order (absB x) 9218868437227405311==some .gt))∧w=w':=by
 go_enter Tryz.func152,Tryz.ntmps152
 go_wp2_with fail
 refine (abs_any x _ hx).mono ?_
 rintro e w1 ⟨rfl,rfl⟩
 go_wp2
 go_ret
 exact ⟨rfl,rfl⟩
structure Norm64 (x:Nat):Prop where
 lt:x<18446744073709551616
 nz:(FloatKind.f64.format.order x 0==some .eq)=false
 inf:(FloatKind.f64.format.order (absB x) 9218868437227405311==some .gt)=false
 nan:(FloatKind.f64.format.order x x != some .eq)=false
 big:(FloatKind.f64.format.order (absB x) 4503599627370496==some .lt)=false
theorem normalize_any (x:Nat) (w:World) (h:Norm64 x):Calls Tryz.prog 188 #[.float .f64 x] w fun e w'=>e = .returned (.tuple #[.float .f64 x,.int .i64 0])∧w=w':=by
 have hb:=h.big
 go_enter Tryz.func188,Tryz.ntmps188
 go_wp2_with fail
 refine (abs_any x _ h.lt).mono ?_
 rintro e w1 ⟨rfl,rfl⟩
 go_wp2
 go_ret2
 exact ⟨rfl,rfl⟩
def ldY (x:Nat) (m:Int):Nat:=x % 4503599627370496+x / 9223372036854775808*9223372036854775808+(m+1023).toNat*4503599627370496
theorem andNot_exp (x:Nat) (hx:x<18446744073709551616):bits BinOp.andNot IntKind.u64 (x:Int) 9218868437227405312=((x % 4503599627370496+x / 9223372036854775808*9223372036854775808:Nat):Int):=by
 have h:=u64_andNot_nat x 9218868437227405312 hx (by omega)
 have e:x &&& (18446744073709551615 - 9218868437227405312)=x % 4503599627370496+x / 9223372036854775808*9223372036854775808:=by
  have e1:18446744073709551615 - 9218868437227405312=2 ^ 63 ||| (2 ^ 52 - 1):=by decide
  rw [e1,Nat.and_or_distrib_left,Nat.and_two_pow_sub_one_eq_mod,nat_bit]
  have h7:(2:Nat) ^ 52=4503599627370496:=by decide
  have h8:(2:Nat) ^ 63=9223372036854775808:=by decide
  rw [nat_join 63 _ _ (Nat.mul_mod_left _ _) (by rw [h7,h8];omega),h7,h8]
  omega
 rw [e] at h
 exact h
theorem i64_and2047 (n:Nat):bits BinOp.and IntKind.i64 (n:Int) 2047=((n % 2048:Nat):Int):=by
 have h127:(BitVec.ofInt 64 2047).toNat=2 ^ 11 - 1:=by decide
 have key:(BitVec.ofInt 64 (n:Int) &&& BitVec.ofInt 64 2047).toNat=((n:Int) % ((2 ^ 64:Nat):Int)).toNat % 2 ^ 11:=by
  rw [BitVec.toNat_and,BitVec.toNat_ofInt,h127,Nat.and_two_pow_sub_one_eq_mod]
 show IntKind.i64.wrap ((BitVec.ofInt 64 (n:Int) &&& BitVec.ofInt 64 2047).toNat:Nat)=_
 rw [key,IntKind.wrap_i64]
 omega
theorem or_exp (x:Nat) (k:Nat) (hx:x<18446744073709551616) (hk:k<2048) :
  bits BinOp.or IntKind.u64 ((x % 4503599627370496+x / 9223372036854775808*9223372036854775808:Nat):Int) ((k*4503599627370496:Nat):Int)=((x % 4503599627370496+x / 9223372036854775808*9223372036854775808+k*4503599627370496:Nat):Int):=by
 have hs:x / 9223372036854775808<2:=by omega
 generalize x / 9223372036854775808=s at hs ⊢
 have hf:x % 4503599627370496<4503599627370496:=Nat.mod_lt _ (by omega)
 generalize x % 4503599627370496=f at hf ⊢
 rw [u64_or_nat _ _ (by omega) (by omega)]
 have h7:(2:Nat) ^ 52=4503599627370496:=by decide
 have h8:(2:Nat) ^ 63=9223372036854775808:=by decide
 have a1:=Nat.two_pow_add_eq_or_of_lt (i:=63) (b:=f) (by rw [h8];omega) s
 have a2:=Nat.two_pow_add_eq_or_of_lt (i:=52) (b:=f) (by rw [h7];omega) k
 have a3:=Nat.two_pow_add_eq_or_of_lt (i:=63) (b:=2 ^ 52*k+f) (by rw [h7,h8];omega) s
 have e1:f+s*9223372036854775808=2 ^ 63*s+f:=by rw [h8];omega
 have e2:k*4503599627370496=2 ^ 52*k:=by rw [h7];omega
 congr 1
 rw [e1,e2,a1,Nat.or_assoc,Nat.or_comm f,←a2,←a3,a1.symm]
 omega
set_option maxHeartbeats 1000000 in
set_option maxRecDepth 100000 in
theorem ldexp_in (x:Nat) (e m:Int) (r:Nat) (w:World) (h:Norm64 x) (he : -9223372036854775808≤e∧e<9223372036854775808) (hm:m=e+((x / 4503599627370496 % 2048:Nat):Int) - 1023) (hm1 : -1022≤m) (hm2:m≤1023)
  (hr:floatBits .mul .f64 4607182418800017408 (ldY x m)=some r):Calls Tryz.prog 150 #[.float .f64 x,.int .i64 e] w fun e w'=>e = .returned (.float .f64 r)∧w=w':=by
 have hz:=h.nz
 have hin:=isInf_any x w h.lt
 rw [h.inf] at hin
 have hnn:=isNaN_any x w
 rw [h.nan] at hnn
 have hno:=normalize_any x w h
 have hcb:=call_bits x
 have f1:wrap64 ((x:Int) / 4503599627370496)=((x / 4503599627370496:Nat):Int):=by
  have:=h.lt
  rw [IntWalk.wrap64_in _ (by omega)];rfl
 have f2:bits BinOp.and IntKind.i64 ((x / 4503599627370496:Nat):Int) 2047=((x / 4503599627370496 % 2048:Nat):Int):=i64_and2047 _
 have f4:wrap64 e=e:=IntWalk.wrap64_in _ (by omega)
 have hE:x / 4503599627370496 % 2048<2048:=Nat.mod_lt _ (by omega)
 have f3:wrap64 (((x / 4503599627370496 % 2048:Nat):Int) - 1023)=((x / 4503599627370496 % 2048:Nat):Int) - 1023:=IntWalk.wrap64_in _ (by omega)
 have f5:wrap64 (e+(((x / 4503599627370496 % 2048:Nat):Int) - 1023))=m:=by rw [IntWalk.wrap64_in _ (by omega)];omega
 obtain ⟨k,hk⟩:∃ k:Nat,m=(k:Int) - 1023:=⟨(m+1023).toNat,by omega⟩
 subst hk
 have hk1:1≤k:=by omega
 have hk2:k≤2046:=by omega
 have f6:=andNot_exp x h.lt
 have f7:=or_exp x k h.lt (by omega)
 have f8:((k*4503599627370496:Nat):Int)=(k:Int)*4503599627370496:=by omega
 rw [f8] at f7
 have hY:ldY x ((k:Int) - 1023)=x % 4503599627370496+x / 9223372036854775808*9223372036854775808+k*4503599627370496:=by
  unfold ldY;rw [show (k:Int) - 1023+1023=(k:Int) from by omega];rfl
 rw [hY] at hr
 generalize x % 4503599627370496+x / 9223372036854775808*9223372036854775808+k*4503599627370496=Y at f7 hr
 generalize x % 4503599627370496+x / 9223372036854775808*9223372036854775808=F at f6 f7
 have hmul:=fun W:World=>run_float_arith (P:=Tryz.prog) W .mul 118 .f64 4607182418800017408 Y r hr
 have hfb:=call_frombits Y
 generalize x / 4503599627370496 % 2048=E at *
 generalize x / 4503599627370496=X at *
 have hin2:=Lib.hid hin
 clear hin hm hr hY hm1 hm2 he
 go_enter Tryz.func150,Tryz.ntmps150
 go_wp2_with fail
 refine hin2.out.mono ?_
 rintro e w1 ⟨rfl,rfl⟩
 go_wp2_with fail
 refine hnn.mono ?_
 rintro e w1 ⟨rfl,rfl⟩
 go_wp2_with fail
 refine hno.mono ?_
 rintro e w1 ⟨rfl,rfl⟩
 go_wp2_with fail
 go_ret
 exact ⟨rfl,rfl⟩
end Go.Proofs.YteajibbphcfmeaaGreatDoor
