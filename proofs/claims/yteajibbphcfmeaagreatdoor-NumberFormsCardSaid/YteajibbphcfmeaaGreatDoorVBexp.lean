/- Contracts of binaryExponent and rounded of rational numbers. -/
import Derived.Test.YteajibbphcfmeaaGreatDoorVDl
import Derived.Test.YteajibbphcfmeaaGreatDoorVWords
import Derived.Laws.Cover2
import Derived.Laws.BitsAllLaws
import Derived.Laws.FloatArith
namespace Go.Proofs.YteajibbphcfmeaaGreatDoor
open Go.RowKit Bn
def bexp (t b:Nat):Int:=
 if scT t ((zaJ t:Int) - (zaJ b:Int))<scB b ((zaJ t:Int) - (zaJ b:Int)) then (zaJ t:Int) - (zaJ b:Int) - 1 else (zaJ t:Int) - (zaJ b:Int)
theorem zbJ {x n:Nat} (h:(digs x).length≤n):zaJ x≤64*n:=by
 rcases Nat.eq_zero_or_pos x with rfl | hx
 ·simp [zaJ]
 ·have h1:=zeO hx
  have h2:=zac x
  have h3:B ^ (digs x).length≤B ^ n:=Nat.pow_le_pow_right zaL h
  have h4:B ^ n=2 ^ (64*n):=by rw [Nat.pow_mul];rfl
  have h5:2 ^ (zaJ x - 1)<2 ^ (64*n):=by omega
  have h6:=(Nat.pow_lt_pow_iff_right (by omega:1<2)).1 h5
  omega
theorem ncmp_lt {x y:Nat} (h:x<y):ncmp x y = -1:=by unfold ncmp;rw [if_pos h]
theorem znh {x y:Nat} (h:¬ x<y):0≤ncmp x y:=by unfold ncmp;rw [if_neg h];split<;>omega
set_option maxHeartbeats 4000000 in
set_option maxRecDepth 100000 in
theorem zd6 (b:Bool) (x1 x2:Nat) (A1 A2:Option Addr) (n1 c1 n2 c2:Nat) (w:World) (h1:NatS w w.heap.size A1 n1 c1 x1) (h2:NatS w w.heap.size A2 n2 c2 x2) (k1:n1≤134217728) (k2:n2≤134217728) :
  Calls Tryz.prog 97 #[.agg #[.bool b,.slice A1 n1 c1,.slice A2 n2 c2]] w fun e w'=>e = .returned (.int .i64 (bexp x1 x2))∧Below w.heap.size w w':=by
 have aA:Below w.heap.size w (w.alloc (.cells #[.bool b,.slice A1 n1 c1,.slice A2 n2 c2] 91)):=(Below.refl _ _).alloc (Nat.le_refl _) _
 have aK:zad (w.alloc (.cells #[.bool b,.slice A1 n1 c1,.slice A2 n2 c2] 91)) w.heap.size b (.slice A1 n1 c1) (.slice A2 n2 c2):=zad.new w _ _ _
 have aQ:=zbJ (Nat.le_of_eq h1.len)
 have aP:=zbJ (Nat.le_of_eq h2.len)
 have aG:Hid (bexp x1 x2=if scT x1 ((zaJ x1:Int) - (zaJ x2:Int))<scB x2 ((zaJ x1:Int) - (zaJ x2:Int)) then (zaJ x1:Int) - (zaJ x2:Int) - 1 else (zaJ x1:Int) - (zaJ x2:Int)):=rfl
 go_enter Tryz.func97,Tryz.ntmps97
 go_wp2_with fail
 generalize (w.alloc (.cells #[.bool b,.slice A1 n1 c1,.slice A2 n2 c2] 91))=w3 at *
 obtain ⟨a0,a1,a2,_,_,_,al⟩:=aK.cells
 have q1:=h1.later aA
 have q2:=h2.later aA
 have aE:∀ q,Calls Tryz.prog 147 #[.slice A1 n1 c1] (w3.drewN q) fun e w'=>e = .returned (.int .i64 (zaJ x1))∧w3.drewN q=w':=fun q=>zcQ A1 n1 c1 x1 (w3.drewN q) (q1.later (zab (Below.refl _ _) q)) (by omega)
 have aI:∀ q,Calls Tryz.prog 147 #[.slice A2 n2 c2] (w3.drewN q) fun e w'=>e = .returned (.int .i64 (zaJ x2))∧w3.drewN q=w':=fun q=>zcQ A2 n2 c2 x2 (w3.drewN q) (q2.later (zab (Below.refl _ _) q)) (by omega)
 have aJ:IntKind.i64.wrap ((zaJ x1:Int) - (zaJ x2:Int))=(zaJ x1:Int) - (zaJ x2:Int):=IntWalk.i64_in _ (by omega)
 have H1:=Lib.hid aE
 have H2:=Lib.hid aI
 clear aE aI
 go_quiet ((first | (go_at_call_of 147 (Value.slice A1 n1 c1);first | exact zbt (H1.out _) | exact zcD (H1.out _)) | (go_at_call_of 147 (Value.slice A2 n2 c2);first | exact zbt (H2.out _) | exact zcD (H2.out _))))
 have aD:Below w3.heap.size w3 (w3.drewN nq):=zab (Below.refl _ _) nq
 have aH:=zf6 b x1 x2 ((zaJ x1:Int) - (zaJ x2:Int)) A1 A2 n1 c1 n2 c2 (w3.drewN nq) (q1.later aD) (q2.later aD) k1 k2 (by omega)
 have aL:=Lib.hid aH
 have aO : -8589934592≤(zaJ x1:Int) - (zaJ x2:Int):=by omega
 have aN:(zaJ x1:Int) - (zaJ x2:Int)≤8589934592:=by omega
 generalize (zaJ x1:Int) - (zaJ x2:Int)=i at *
 clear aH aJ H1 H2
 go_wp2_with fail
 refine aL.out.mono ?_
 rintro e w5 ⟨A5,m5,c5,A6,m6,c6,rfl,h5,h6,aM⟩
 have aF:Below w.heap.size w w5:=(aA.trans (aD.mono aA.size)).trans (aM.mono aA.size)
 have aC:=zaM A5 A6 m5 c5 m6 c6 _ _ w5 h5 h6
 by_cases hlt:scT x1 i<scB x2 i
 ·rw [ncmp_lt hlt] at aC
  have HV:Hid (bexp x1 x2=i - 1):=by unfold Hid;rw [aG.out,if_pos hlt]
  clear hlt
  go_wp2_with fail
  refine aC.mono ?_
  rintro e w6 ⟨rfl,k,rfl⟩
  go_wp2
  go_ret
  exact ⟨by rw [HV.out];rfl,zab aF k⟩
 ·have hg:=znh hlt
  have HV:Hid (bexp x1 x2=i):=by unfold Hid;rw [aG.out,if_neg hlt]
  generalize ncmp (scT x1 i) (scB x2 i)=cv at aC hg
  have hd:decide (cv<0)=false:=by simp;omega
  clear hlt
  go_wp2_with fail
  refine aC.mono ?_
  rintro e w6 ⟨rfl,k,rfl⟩
  go_wp2
  go_ret
  exact ⟨by rw [HV.out];rfl,zab aF k⟩
theorem zgK {x n s:Nat} (h:(digs x).length≤n):(digs (x*2 ^ s)).length≤n+s / 64+1:=by
 refine digs_length_le ?_
 have h1:=zac x
 have h2:B ^ (digs x).length≤B ^ n:=Nat.pow_le_pow_right zaL h
 have h3:2 ^ s<2 ^ (64*(s / 64+1)):=Nat.pow_lt_pow_right (by omega) (by omega)
 have h4:2 ^ (64*(s / 64+1))=B ^ (s / 64+1):=by rw [Nat.pow_mul];rfl
 rw [h4] at h3
 rw [Nat.add_assoc,Nat.pow_add]
 exact Nat.mul_lt_mul'' (Nat.lt_of_lt_of_le h1 h2) h3
def near (t b:Nat):Nat:=if b<t % b*2∨(t % b*2=b∧t / b % 2=1) then t / b+1 else t / b
set_option maxHeartbeats 4000000 in
set_option maxRecDepth 100000 in
theorem zht (b:Bool) (x1 x2:Nat) (i:Int) (A1 A2:Option Addr) (n1 c1 n2 c2:Nat) (w:World) (h1:NatS w w.heap.size A1 n1 c1 x1) (h2:NatS w w.heap.size A2 n2 c2 x2) (k1:n1≤134217728) (k2:n2≤134217728) (hs : -1073741824≤i∧i≤1073741824)
  (hp:0<scB x2 i) (hq:scT x1 i / scB x2 i<9223372036854775808) :
  Calls Tryz.prog 99 #[.agg #[.bool b,.slice A1 n1 c1,.slice A2 n2 c2],.int .i64 i] w fun e w'=>e = .returned (.int .u64 (near (scT x1 i) (scB x2 i):Int))∧Below w.heap.size w w':=by
 have aJ:Below w.heap.size w (w.alloc (.cells #[.bool b,.slice A1 n1 c1,.slice A2 n2 c2] 91)):=(Below.refl _ _).alloc (Nat.le_refl _) _
 have aV:=zf6 b x1 x2 i A1 A2 n1 c1 n2 c2 _ (h1.later aJ) (h2.later aJ) k1 k2 (by omega)
 have aT:(digs (scT x1 i)).length≤151000000:=by
  unfold scT;split
  ·have:=zgK (s:=(-i).toNat) (Nat.le_of_eq h1.len);omega
  ·rw [h1.len];omega
 have aY:(digs (scB x2 i)).length≤151000000:=by
  unfold scB;split
  ·rw [h2.len];omega
  ·have:=zgK (s:=i.toNat) (Nat.le_of_eq h2.len);omega
 generalize scT x1 i=t at *
 generalize scB x2 i=u at *
 go_enter Tryz.func99,Tryz.ntmps99
 go_wp2_with fail
 refine aV.mono ?_
 rintro e w3 ⟨A3,n3,c3,A4,n4,c4,rfl,h3,h4,aX⟩
 have aS:Below w.heap.size w w3:=aJ.trans (aX.mono aJ.size)
 rw [h3.len] at aT
 rw [h4.len] at aY
 go_wp2_with fail
 refine (zcs A3 A4 n3 c3 n4 c4 t u w3 h3 h4 hp (by omega)).mono ?_
 rintro e w5 ⟨A5,n5,c5,A6,n6,c6,rfl,h5,h6,aU⟩
 have aH:Below w.heap.size w w5:=aS.trans (aU.mono aS.size)
 have aQ:=h4.later aU
 have l6:n6≤n4:=by
  rw [←h6.len,←h4.len];exact zaa (Nat.le_of_lt (Nat.mod_lt _ hp))
 have hz:=zaK A5 n5 c5 (t / u) w5 h5
 obtain ⟨z,aK,aA⟩:∃ z:Bool,decide (t / u=0)=z∧(z=false→∃ ad,A5=some ad∧0<n5∧w5.cell? (ad.add 0)=some (.int .u64 ((t / u:Nat):Int))):=by
  refine ⟨_,rfl,fun aL => ?_⟩
  have aR:t / u≠0:=by simpa using aL
  have aG:0<n5:=by rw [←h5.len];exact zan (Nat.pos_of_ne_zero aR)
  obtain ⟨ad,e,_,hc⟩:=h5.words.word (k:=0) aG
  refine ⟨ad,e,aG,?_⟩
  rw [hc,za7 (Nat.pos_of_ne_zero aR)]
  simp only [List.getD_cons_zero]
  rw [Nat.mod_eq_of_lt (by rw [zcN];omega)]
 rw [aK] at hz
 have aM:∀ W:World,Below w5.heap.size w5 W→Calls Tryz.prog 103 #[.slice A6 n6 c6,.int .i64 1] W (zbX W (t % u*2)):=fun W hb=>by
  have h:=zau A6 n6 c6 (t % u) 1 W (h6.later hb) (by omega) (by omega)
  rw [Nat.pow_one] at h
  exact h
 have HN:Hid (near t u=if u<t % u*2∨(t % u*2=u∧t / u % 2=1) then t / u+1 else t / u):=rfl
 have aL:z=true→t / u=0:=by intro h;rw [h] at aK;simpa using aK
 have aI:=Lib.hid aL
 generalize t / u=q at hq aA HN aI hz
 generalize t % u=r at HN aM
 have aP:=Lib.hid aM
 clear aM aK aL h5 h3 h4 aT hp
 have aO:ncmp (r*2) u = -1∧r*2<u∨ncmp (r*2) u=0∧r*2=u∨ncmp (r*2) u=1∧u<r*2:=by
  rcases Nat.lt_trichotomy (r*2) u with h | h | h
  ·exact .inl ⟨ncmp_lt h,h⟩
  ·exact .inr (.inl ⟨by unfold ncmp;rw [if_neg (by omega)];rw [if_pos h],h⟩)
  ·exact .inr (.inr ⟨by unfold ncmp;rw [if_neg (by omega),if_neg (by omega)],h⟩)
 have aN:=Lib.hid aO
 clear aO
 cases z
 ·obtain ⟨ad,rfl,bA,aE⟩:=aA rfl
  have e0:ad.add 0=ad:=by simp [Addr.add]
  rw [e0] at aE
  clear e0
  clear aA aI
  go_wp2_with fail
  refine hz.mono ?_
  rintro e w6 ⟨rfl,rfl⟩
  clear hz
  go_wp2_with fail
  refine (aP.out w5 (Below.refl _ _)).mono ?_
  rintro e w7 ⟨A7,n7,c7,rfl,h7,aF⟩
  have aC:=zaM A7 A4 n7 c7 n4 c4 _ _ w7 h7 (aQ.later aF)
  have aD:=aH.trans (aF.mono aH.size)
  rcases aN.out with ⟨e1,h1⟩ | ⟨e1,h1⟩ | ⟨e1,h1⟩
  ·have HV:Hid (near t u=q):=by unfold Hid;rw [HN.out,if_neg (by omega)]
   rw [e1] at aC
   clear e1 h1
   go_wp2_with fail
   refine aC.mono ?_
   rintro e w8 ⟨rfl,k,rfl⟩
   go_wp2
   go_ret
   exact ⟨by rw [HV.out];rfl,zab aD k⟩
  ·by_cases hm:q % 2=1
   ·have HV:Hid (near t u=q+1):=by unfold Hid;rw [HN.out,if_pos (.inr ⟨h1,hm⟩)]
    rw [e1] at aC
    have aZ:((q:Int) % 2==1)=true:=by simp;omega
    clear e1 h1 hm
    go_wp2_with fail
    refine aC.mono ?_
    rintro e w8 ⟨rfl,k,rfl⟩
    go_wp2
    go_ret
    exact ⟨by rw [HV.out];rfl,zab aD k⟩
   ·have HV:Hid (near t u=q):=by unfold Hid;rw [HN.out,if_neg (by omega)]
    rw [e1] at aC
    have aZ:((q:Int) % 2==1)=false:=by simp;omega
    clear e1 h1 hm
    go_wp2_with fail
    refine aC.mono ?_
    rintro e w8 ⟨rfl,k,rfl⟩
    go_wp2
    go_ret
    exact ⟨by rw [HV.out];rfl,zab aD k⟩
  ·have HV:Hid (near t u=q+1):=by unfold Hid;rw [HN.out,if_pos (.inl h1)]
   rw [e1] at aC
   clear e1 h1
   go_wp2_with fail
   refine aC.mono ?_
   rintro e w8 ⟨rfl,k,rfl⟩
   go_wp2
   go_ret
   exact ⟨by rw [HV.out];rfl,zab aD k⟩
 ·have aW:=aI.out rfl
  subst aW
  clear aA aI
  go_wp2_with fail
  refine hz.mono ?_
  rintro e w6 ⟨rfl,rfl⟩
  clear hz
  go_wp2_with fail
  refine (aP.out w5 (Below.refl _ _)).mono ?_
  rintro e w7 ⟨A7,n7,c7,rfl,h7,aF⟩
  have aC:=zaM A7 A4 n7 c7 n4 c4 _ _ w7 h7 (aQ.later aF)
  have aD:=aH.trans (aF.mono aH.size)
  rcases aN.out with ⟨e1,h1⟩ | ⟨e1,h1⟩ | ⟨e1,h1⟩
  ·have HV:Hid (near t u=0):=by unfold Hid;rw [HN.out,if_neg (by omega)]
   rw [e1] at aC
   clear e1 h1
   go_wp2_with fail
   refine aC.mono ?_
   rintro e w8 ⟨rfl,k,rfl⟩
   go_wp2
   go_ret
   exact ⟨by rw [HV.out];rfl,zab aD k⟩
  ·have HV:Hid (near t u=0):=by unfold Hid;rw [HN.out,if_neg (by omega)]
   rw [e1] at aC
   clear e1 h1
   go_wp2_with fail
   refine aC.mono ?_
   rintro e w8 ⟨rfl,k,rfl⟩
   go_wp2
   go_ret
   exact ⟨by rw [HV.out];rfl,zab aD k⟩
  ·have HV:Hid (near t u=1):=by unfold Hid;rw [HN.out,if_pos (.inl h1)]
   rw [e1] at aC
   clear e1 h1
   go_wp2_with fail
   refine aC.mono ?_
   rintro e w8 ⟨rfl,k,rfl⟩
   go_wp2
   go_ret
   exact ⟨by rw [HV.out];rfl,zab aD k⟩
theorem zly (t b m:Nat) (e:Int) (a c:Nat) (h:(a:Int) - c = -e):scB b e*m≤scT t e↔b*2 ^ c*m≤t*2 ^ a:=by
 unfold scB scT
 by_cases he:e<0
 ·rw [if_pos he,if_pos he]
  have:a=(-e).toNat+c:=by omega
  subst this
  generalize (-e).toNat=s
  rw [Nat.pow_add,←Nat.mul_assoc,Nat.mul_right_comm,Nat.mul_le_mul_right_iff (Nat.two_pow_pos _)]
 ·rw [if_neg he,if_neg he]
  have:c=e.toNat+a:=by omega
  subst this
  generalize e.toNat=s
  rw [Nat.pow_add,←Nat.mul_assoc,Nat.mul_right_comm _ (2 ^ a),Nat.mul_le_mul_right_iff (Nat.two_pow_pos _)]
theorem zon (t b m:Nat) (e:Int) (a c:Nat) (h:(a:Int) - c = -e):scT t e<scB b e*m↔t*2 ^ a<b*2 ^ c*m:=by
 have:=zly t b m e a c h
 omega
theorem zjX {b:Nat} (hb:0<b) (e:Int):0<scB b e:=by
 unfold scB;split
 ·exact hb
 ·exact Nat.mul_pos hb (Nat.two_pow_pos _)
theorem zjR {t b:Nat} (ht:0<t) (hb:0<b) (a c:Nat) (h:(a:Int) - c = -(bexp t b)):b*2 ^ c≤t*2 ^ a∧t*2 ^ a<b*2 ^ c*2:=by
 have t1:=zeO ht
 have t2:=zeN t
 have b1:=zeO hb
 have b2:=zeN b
 have tp:=zgL ht
 have bp:=zgL hb
 generalize aC:zaJ t=nt at *
 generalize aE:zaJ b=nb at *
 unfold bexp at h
 rw [aC,aE] at h
 have low:∀ a c:Nat,(a:Int) - c = -((nt:Int) - nb - 1)→b*2 ^ c≤t*2 ^ a:=by
  intro a c aD
  have h1:b*2 ^ c≤2 ^ (nb+c):=by rw [Nat.pow_add];exact Nat.mul_le_mul_right _ (Nat.le_of_lt b2)
  have h2:2 ^ (nt - 1+a)≤t*2 ^ a:=by rw [Nat.pow_add];exact Nat.mul_le_mul_right _ t1
  have h3:nb+c=nt - 1+a:=by omega
  rw [h3] at h1
  exact Nat.le_trans h1 h2
 have high:∀ a c:Nat,(a:Int) - c = -((nt:Int) - nb)→t*2 ^ a<b*2 ^ c*2:=by
  intro a c aD
  have h1:t*2 ^ a<2 ^ (nt+a):=by rw [Nat.pow_add];exact Nat.mul_lt_mul_of_pos_right t2 (Nat.two_pow_pos _)
  have h2:2 ^ (nb - 1+(c+1))≤b*2 ^ (c+1):=by rw [Nat.pow_add];exact Nat.mul_le_mul_right _ b1
  have h3:nt+a=nb - 1+(c+1):=by omega
  rw [h3] at h1
  rw [Nat.pow_succ,←Nat.mul_assoc] at h2
  exact Nat.lt_of_lt_of_le h1 h2
 split at h
 ·rename_i hlt
  have aA:scT t ((nt:Int) - nb)<scB b ((nt:Int) - nb)*1:=by rw [Nat.mul_one];exact hlt
  have h4:=(zon t b 1 ((nt:Int) - nb) a (c+1) (by omega)).1 aA
  rw [Nat.mul_one,Nat.pow_succ,←Nat.mul_assoc] at h4
  exact ⟨low a c (by omega),h4⟩
 ·rename_i hlt
  have aF:scB b ((nt:Int) - nb)*1≤scT t ((nt:Int) - nb):=by omega
  have h4:=(zly t b 1 ((nt:Int) - nb) a c (by omega)).1 aF
  rw [Nat.mul_one] at h4
  exact ⟨h4,high a c (by omega)⟩
def flE (t b:Nat):Int:=max (bexp t b+1 - 24) (-149)
def flN (t b:Nat):Nat:=near (scT t (flE t b)) (scB b (flE t b))
theorem zeR {t b lo hi:Nat} (hb:0<b) (h1:b*lo≤t) (h2:t<b*hi):lo≤near t b∧near t b≤hi:=by
 have q1:lo≤t / b:=(Nat.le_div_iff_mul_le hb).2 (by rw [Nat.mul_comm];exact h1)
 have q2:t / b<hi:=(Nat.div_lt_iff_lt_mul hb).2 (by rw [Nat.mul_comm];exact h2)
 unfold near
 split<;>omega
theorem zkN {t b:Nat} (ht:0<t) (hb:0<b):Flt.Rnd (flN t b) (flE t b)∧scT t (flE t b) / scB b (flE t b)<16777216:=by
 have aF:(2:Nat) ^ 24=16777216:=by decide
 have aE:(2:Nat) ^ 23=8388608:=by decide
 have hs:=@zjR t b ht hb
 have hB:=zjX hb (flE t b)
 have aG:flE t b = -149∨flE t b=bexp t b - 23:=by unfold flE;omega
 have aH:bexp t b - 23≤flE t b:=by unfold flE;omega
 have aC : -149≤flE t b:=by unfold flE;omega
 unfold flN
 generalize flE t b=e at *
 generalize bexp t b=k at *
 obtain ⟨c,hc⟩:∃ c:Nat,0≤(c:Int) - e:=⟨e.toNat,by omega⟩
 obtain ⟨a,ha⟩:∃ a:Nat,(a:Int)=c - e:=⟨((c:Int) - e).toNat,by omega⟩
 have aA:scT t e<scB b e*16777216:=by
  rw [zon t b _ e a c (by omega)]
  obtain ⟨d,hd⟩:∃ d:Nat,(d:Int)=e - (k - 23):=⟨(e - (k - 23)).toNat,by omega⟩
  have h1:=(hs (a+d) (c+23) (by omega)).2
  have h2:t*2 ^ a≤t*2 ^ (a+d):=Nat.mul_le_mul_left _ (Nat.pow_le_pow_right (by omega) (by omega))
  have h3:b*2 ^ (c+23)*2=b*2 ^ c*16777216:=by
   rw [Nat.mul_assoc,←Nat.pow_succ,show (c+23).succ=c+24 from rfl,Nat.pow_add,aF,Nat.mul_assoc]
  omega
 have hq:scT t e / scB b e<16777216:=(Nat.div_lt_iff_lt_mul hB).2 (by rw [Nat.mul_comm];exact aA)
 have hn:=zeR (lo:=0) hB (by omega) aA
 refine ⟨⟨aC,hn.2,?_⟩,hq⟩
 rcases aG with h | h
 ·exact Or.inl h
 ·refine Or.inr ?_
  have aD:scB b e*8388608≤scT t e:=by
   rw [zly t b _ e a c (by omega),←aE,Nat.mul_assoc,←Nat.pow_add]
   exact (hs a (c+23) (by omega)).1
  exact (zeR hB aD aA).1
theorem zf4 {t b N:Nat} (h1:zaJ t≤N) (h2:zaJ b≤N) : -(N:Int) - 1≤bexp t b∧bexp t b≤N:=by
 unfold bexp;split<;>omega
def flW (q:Q):Nat:=if q.top=0 then 0 else if flN q.top q.bot=0 then 0 else if 2139095040≤Flt.rung (flN q.top q.bot) (flE q.top q.bot) then 0 else Ieee.single.word q.neg (Flt.rung (flN q.top q.bot) (flE q.top q.bot))
def flX (q:Q):Int:=if q.top=0 then 0 else if flN q.top q.bot=0 then 0 else if 2139095040≤Flt.rung (flN q.top q.bot) (flE q.top q.bot) then 4 else 0
end Go.Proofs.YteajibbphcfmeaaGreatDoor
namespace Go.Proofs.YteajibbphcfmeaaGreatDoor
open Go.RowKit
theorem zdZ (x:Nat) (w:World):(callFunc 189 #[.float .f64 x]).run Tryz.prog w = .ok (.value (.int .u64 x)) w:=by
 rw [run_callFunc_extern Tryz.func189 (by kernel_rfl) (by kernel_rfl) (by kernel_rfl) (e:=Extern.MathFloatBits.float64bits) (by kernel_rfl)]
 rfl
theorem zb7 (x:Nat) (w:World):(callFunc 192 #[.int .u64 x]).run Tryz.prog w = .ok (.value (.float .f64 x)) w:=by
 rw [run_callFunc_extern Tryz.func192 (by kernel_rfl) (by kernel_rfl) (by kernel_rfl) (e:=Extern.MathFloatBits.float64frombits) (by kernel_rfl)]
 rfl
def absB (x:Nat):Nat:=x % 9223372036854775808
theorem zjz (x:Nat) (hx:x<18446744073709551616):bits BinOp.andNot IntKind.u64 (x:Int) 9223372036854775808=((absB x:Nat):Int):=by
 have h:=u64_andNot_nat x 9223372036854775808 hx (by omega)
 have e:x &&& (18446744073709551615 - 9223372036854775808)=absB x:=by
  rw [show 18446744073709551615 - 9223372036854775808=2 ^ 63 - 1 from by decide,Nat.and_two_pow_sub_one_eq_mod];rfl
 rw [e] at h
 exact h
theorem zcA (x:Nat) (w:World):Calls Tryz.prog 151 #[.float .f64 x] w fun e w'=>e = .returned (.bool (FloatKind.f64.format.order x x != some .eq))∧w=w':=by
 go_enter Tryz.func151,Tryz.ntmps151
 go_wp2
 go_ret
 exact ⟨rfl,rfl⟩
theorem zlz (x:Nat) (w:World) (hx:x<18446744073709551616):Calls Tryz.prog 193 #[.float .f64 x] w fun e w'=>e = .returned (.float .f64 (absB x))∧w=w':=by
 have h1:=zjz x hx
 have hb:=zdZ x
 have hf:=zb7 (absB x)
 go_enter Tryz.func193,Tryz.ntmps193
 go_wp2
 go_ret
 exact ⟨rfl,rfl⟩
theorem zdi (x:Nat) (w:World) (hx:x<18446744073709551616):Calls Tryz.prog 152 #[.float .f64 x,.int .i64 0] w fun e w'=>e = .returned (.bool (FloatKind.f64.format.order (absB x) 9218868437227405311==some .gt))∧w=w':=by
 go_enter Tryz.func152,Tryz.ntmps152
 go_wp2_with fail
 refine (zlz x _ hx).mono ?_
 rintro e w1 ⟨rfl,rfl⟩
 go_wp2
 go_ret
 exact ⟨rfl,rfl⟩
structure Norm64 (x:Nat):Prop where
 lt:x<18446744073709551616
 nz:(FloatKind.f64.format.order x 0==some .eq)=false
 inf:(FloatKind.f64.format.order (absB x) 9218868437227405311==some .gt)=false
 nan:(FloatKind.f64.format.order x x != some .eq)=false
 big:(FloatKind.f64.format.order (absB x) 4503599627370496==some .lt)=false
theorem zcR (x:Nat) (w:World) (h:Norm64 x):Calls Tryz.prog 188 #[.float .f64 x] w fun e w'=>e = .returned (.tuple #[.float .f64 x,.int .i64 0])∧w=w':=by
 have hb:=h.big
 go_enter Tryz.func188,Tryz.ntmps188
 go_wp2_with fail
 refine (zlz x _ h.lt).mono ?_
 rintro e w1 ⟨rfl,rfl⟩
 go_wp2
 go_ret2
 exact ⟨rfl,rfl⟩
def ldY (x:Nat) (m:Int):Nat:=x % 4503599627370496+x / 9223372036854775808*9223372036854775808+(m+1023).toNat*4503599627370496
theorem zf3 (x:Nat) (hx:x<18446744073709551616):bits BinOp.andNot IntKind.u64 (x:Int) 9218868437227405312=((x % 4503599627370496+x / 9223372036854775808*9223372036854775808:Nat):Int):=by
 have h:=u64_andNot_nat x 9218868437227405312 hx (by omega)
 have e:x &&& (18446744073709551615 - 9218868437227405312)=x % 4503599627370496+x / 9223372036854775808*9223372036854775808:=by
  have e1:18446744073709551615 - 9218868437227405312=2 ^ 63 ||| (2 ^ 52 - 1):=by decide
  rw [e1,Nat.and_or_distrib_left,Nat.and_two_pow_sub_one_eq_mod,nat_bit]
  have h7:(2:Nat) ^ 52=4503599627370496:=by decide
  have h8:(2:Nat) ^ 63=9223372036854775808:=by decide
  rw [nat_join 63 _ _ (Nat.mul_mod_left _ _) (by rw [h7,h8];omega),h7,h8]
  omega
 rw [e] at h
 exact h
theorem zfi (n:Nat):bits BinOp.and IntKind.i64 (n:Int) 2047=((n % 2048:Nat):Int):=by
 have aA:(BitVec.ofInt 64 2047).toNat=2 ^ 11 - 1:=by decide
 have key:(BitVec.ofInt 64 (n:Int) &&& BitVec.ofInt 64 2047).toNat=((n:Int) % ((2 ^ 64:Nat):Int)).toNat % 2 ^ 11:=by
  rw [BitVec.toNat_and,BitVec.toNat_ofInt,aA,Nat.and_two_pow_sub_one_eq_mod]
 show IntKind.i64.wrap ((BitVec.ofInt 64 (n:Int) &&& BitVec.ofInt 64 2047).toNat:Nat)=_
 rw [key,IntKind.wrap_i64]
 omega
theorem zmW (x:Nat) (k:Nat) (hx:x<18446744073709551616) (hk:k<2048) :
  bits BinOp.or IntKind.u64 ((x % 4503599627370496+x / 9223372036854775808*9223372036854775808:Nat):Int) ((k*4503599627370496:Nat):Int)=((x % 4503599627370496+x / 9223372036854775808*9223372036854775808+k*4503599627370496:Nat):Int):=by
 have hs:x / 9223372036854775808<2:=by omega
 generalize x / 9223372036854775808=s at hs ⊢
 have hf:x % 4503599627370496<4503599627370496:=Nat.mod_lt _ (by omega)
 generalize x % 4503599627370496=f at hf ⊢
 rw [u64_or_nat _ _ (by omega) (by omega)]
 have h7:(2:Nat) ^ 52=4503599627370496:=by decide
 have h8:(2:Nat) ^ 63=9223372036854775808:=by decide
 have a1:=Nat.two_pow_add_eq_or_of_lt (i:=63) (b:=f) (by rw [h8];omega) s
 have a2:=Nat.two_pow_add_eq_or_of_lt (i:=52) (b:=f) (by rw [h7];omega) k
 have a3:=Nat.two_pow_add_eq_or_of_lt (i:=63) (b:=2 ^ 52*k+f) (by rw [h7,h8];omega) s
 have e1:f+s*9223372036854775808=2 ^ 63*s+f:=by rw [h8];omega
 have e2:k*4503599627370496=2 ^ 52*k:=by rw [h7];omega
 congr 1
 rw [e1,e2,a1,Nat.or_assoc,Nat.or_comm f,←a2,←a3,a1.symm]
 omega
set_option maxHeartbeats 1000000 in
set_option maxRecDepth 100000 in
theorem zl8 (x:Nat) (e m:Int) (r:Nat) (w:World) (h:Norm64 x) (he : -9223372036854775808≤e∧e<9223372036854775808) (hm:m=e+((x / 4503599627370496 % 2048:Nat):Int) - 1023) (hm1 : -1022≤m) (hm2:m≤1023)
  (hr:floatBits .mul .f64 4607182418800017408 (ldY x m)=some r):Calls Tryz.prog 150 #[.float .f64 x,.int .i64 e] w fun e w'=>e = .returned (.float .f64 r)∧w=w':=by
 have hz:=h.nz
 have aA:=zdi x w h.lt
 rw [h.inf] at aA
 have aD:=zcA x w
 rw [h.nan] at aD
 have aE:=zcR x w h
 have aJ:=zdZ x
 have f1:wrap64 ((x:Int) / 4503599627370496)=((x / 4503599627370496:Nat):Int):=by
  have:=h.lt
  rw [IntWalk.wrap64_in _ (by omega)];rfl
 have f2:bits BinOp.and IntKind.i64 ((x / 4503599627370496:Nat):Int) 2047=((x / 4503599627370496 % 2048:Nat):Int):=zfi _
 have f4:wrap64 e=e:=IntWalk.wrap64_in _ (by omega)
 have hE:x / 4503599627370496 % 2048<2048:=Nat.mod_lt _ (by omega)
 have f3:wrap64 (((x / 4503599627370496 % 2048:Nat):Int) - 1023)=((x / 4503599627370496 % 2048:Nat):Int) - 1023:=IntWalk.wrap64_in _ (by omega)
 have f5:wrap64 (e+(((x / 4503599627370496 % 2048:Nat):Int) - 1023))=m:=by rw [IntWalk.wrap64_in _ (by omega)];omega
 obtain ⟨k,hk⟩:∃ k:Nat,m=(k:Int) - 1023:=⟨(m+1023).toNat,by omega⟩
 subst hk
 have aH:1≤k:=by omega
 have aG:k≤2046:=by omega
 have f6:=zf3 x h.lt
 have f7:=zmW x k h.lt (by omega)
 have f8:((k*4503599627370496:Nat):Int)=(k:Int)*4503599627370496:=by omega
 rw [f8] at f7
 have hY:ldY x ((k:Int) - 1023)=x % 4503599627370496+x / 9223372036854775808*9223372036854775808+k*4503599627370496:=by
  unfold ldY;rw [show (k:Int) - 1023+1023=(k:Int) from by omega];rfl
 rw [hY] at hr
 generalize x % 4503599627370496+x / 9223372036854775808*9223372036854775808+k*4503599627370496=Y at f7 hr
 generalize x % 4503599627370496+x / 9223372036854775808*9223372036854775808=F at f6 f7
 have aF:=fun W:World=>run_float_arith (P:=Tryz.prog) W .mul 118 .f64 4607182418800017408 Y r hr
 have aI:=zb7 Y
 generalize x / 4503599627370496 % 2048=E at *
 generalize x / 4503599627370496=X at *
 have aC:=Lib.hid aA
 clear aA hm hr hY hm1 hm2 he
 go_enter Tryz.func150,Tryz.ntmps150
 go_wp2_with fail
 refine aC.out.mono ?_
 rintro e w1 ⟨rfl,rfl⟩
 go_wp2_with fail
 refine aD.mono ?_
 rintro e w1 ⟨rfl,rfl⟩
 go_wp2_with fail
 refine aE.mono ?_
 rintro e w1 ⟨rfl,rfl⟩
 go_wp2_with fail
 go_ret
 exact ⟨rfl,rfl⟩
end Go.Proofs.YteajibbphcfmeaaGreatDoor
namespace Go.Proofs.YteajibbphcfmeaaGreatDoor
open Go.RowKit
open Flt
theorem zfP {x y:Nat} (hx:fin Ieee.double x=true) (hy:fin Ieee.double y=true) (h:key Ieee.double x≤key Ieee.double y):(FloatKind.f64.format.order x y==some .gt)=false:=by
 show (Ieee.double.order x y==some .gt)=false
 rw [zcI hx hy]
 generalize key Ieee.double x=a at h
 generalize key Ieee.double y=b at h
 rcases Int.lt_trichotomy a b with h1 | h1 | h1
 ·rw [zfH h1];rfl
 ·subst h1;rw [ziy];rfl
 ·omega
theorem zeb {x y:Nat} (hx:fin Ieee.double x=true) (hy:fin Ieee.double y=true) (h:key Ieee.double y≤key Ieee.double x):(FloatKind.f64.format.order x y==some .lt)=false:=by
 show (Ieee.double.order x y==some .lt)=false
 rw [zcI hx hy]
 generalize key Ieee.double x=a at h
 generalize key Ieee.double y=b at h
 rcases Int.lt_trichotomy a b with h1 | h1 | h1
 ·omega
 ·subst h1;rw [ziy];rfl
 ·rw [zg7 h1];rfl
theorem zfQ {x y:Nat} (hx:fin Ieee.double x=true) (hy:fin Ieee.double y=true) (h:key Ieee.double x≠key Ieee.double y):(FloatKind.f64.format.order x y==some .eq)=false:=by
 show (Ieee.double.order x y==some .eq)=false
 rw [zcI hx hy]
 generalize key Ieee.double x=a at h
 generalize key Ieee.double y=b at h
 rcases Int.lt_trichotomy a b with h1 | h1 | h1
 ·rw [zfH h1];rfl
 ·exact absurd h1 h
 ·rw [zg7 h1];rfl
theorem zis {x:Nat} (hx:fin Ieee.double x=true):(FloatKind.f64.format.order x x != some .eq)=false:=by
 show (Ieee.double.order x x != some .eq)=false
 rw [zcI hx hx,ziy];rfl
theorem zeK:Ieee.double.read 9218868437227405311 = .number false 9007199254740991 971:=by decide +kernel
theorem zeL:Ieee.double.read 4503599627370496 = .number false 4503599627370496 (-1074):=by decide +kernel
theorem zbW:Ieee.double.read 0 = .number false 0 (-1074):=by decide +kernel
theorem zhy {n:Nat} {e:Int} (h0:0<n) (h1:n<9007199254740992) (he : -1022≤e+n.log2) (he2:e+n.log2≤1023) :
  ∃ F:Nat,F<4503599627370496∧dn n e=(e+n.log2+1023).toNat*4503599627370496+F∧F=sg n - 4503599627370496:=by
 have hn:=zdX h0 h1 he he2
 have:=hn.lo
 have:=hn.hi
 refine ⟨sg n - 4503599627370496,by omega,?_,rfl⟩
 unfold dn dw Ieee.Format.word
 rw [if_neg (by decide)]
 omega
theorem zk3 {n:Nat} (h0:0<n) (h1:n<9007199254740992):Norm64 (dn n 0)∧dn n 0 / 9223372036854775808=0∧dn n 0 / 4503599627370496 % 2048=n.log2+1023:=by
 have aF:(2:Nat) ^ 53=9007199254740992:=by decide
 have a3:n.log2<53:=(Nat.log2_lt (by omega)).2 (by omega)
 obtain ⟨F,hF,hw,_⟩:=zhy (e:=0) h0 h1 (by omega) (by omega)
 have aD:dn n 0<9223372036854775808:=by omega
 have aA:absB (dn n 0)=dn n 0:=Nat.mod_eq_of_lt aD
 have f1:=zip (e:=0) h0 h1 (by omega) (by omega)
 have k1:=zih (e:=0) h0 h1 (by omega) (by omega) (by omega)
 have f2:=zaV zeK
 have k2:=za4 zeK
 have f3:=zaV zeL
 have k3:=za4 zeL
 have f4:=zaV zbW
 have k4:=za4 zbW
 rw [zba] at k2 k3 k4
 have hp:∀ k:Nat,0<2 ^ k:=fun k=>Nat.two_pow_pos k
 refine ⟨⟨by omega,zfQ f1 f4 ?_,?_,zis f1,?_⟩,by omega,by omega⟩
 ·rw [k1,k4,Nat.zero_mul]
  have:=Nat.mul_pos h0 (hp (0+1074:Int).toNat)
  generalize n*2 ^ (0+1074:Int).toNat=A at this
  omega
 ·rw [aA]
  refine zfP f1 f2 ?_
  rw [k1,k2]
  obtain ⟨a,ha⟩:∃ a:Nat,(0+1074:Int).toNat=a∧(a:Int)=1074:=⟨_,rfl,by decide⟩
  obtain ⟨b,hb⟩:∃ b:Nat,(971 - -1074:Int).toNat=b∧(b:Int)=2045:=⟨_,rfl,by decide⟩
  rw [ha.1,hb.1]
  have:=Nat.mul_le_mul (show n≤9007199254740991 by omega) (Nat.pow_le_pow_right (show 0<2 by decide) (show a≤b by omega))
  exact Int.ofNat_le.2 this
 ·rw [aA]
  refine zeb f1 f3 ?_
  rw [k1,k3]
  obtain ⟨a,ha⟩:∃ a:Nat,(0+1074:Int).toNat=a∧(a:Int)=1074:=⟨_,rfl,by decide⟩
  obtain ⟨b,hb⟩:∃ b:Nat,(-1074 - -1074:Int).toNat=b∧(b:Int)=0:=⟨_,rfl,by decide⟩
  rw [ha.1,hb.1]
  have aC:b=0:=by omega
  have aE:(2:Nat) ^ 52=4503599627370496:=by decide
  subst aC
  rw [←aE,Nat.pow_zero,Nat.mul_one]
  have:=Nat.mul_le_mul (show 1≤n from h0) (Nat.pow_le_pow_right (show 0<2 by decide) (show 52≤a by omega))
  rw [Nat.one_mul] at this
  exact Int.ofNat_le.2 this
theorem zii {n:Nat} {e:Int} (w:World) (h0:0<n) (h1:n<9007199254740992) (he : -1022≤e+n.log2) (he2:e+n.log2≤1023) :
  Calls Tryz.prog 150 #[.float .f64 (dn n 0),.int .i64 e] w fun e' w'=>e' = .returned (.float .f64 (dn n e))∧w=w':=by
 have aC:(2:Nat) ^ 53=9007199254740992:=by decide
 have a3:n.log2<53:=(Nat.log2_lt (by omega)).2 (by omega)
 obtain ⟨hN,hs,hE⟩:=zk3 h0 h1
 obtain ⟨F,hF,hw,aA⟩:=zhy (e:=0) h0 h1 (by omega) (by omega)
 obtain ⟨G,hG,hv,aD⟩:=zhy (e:=e) h0 h1 he he2
 have hY:ldY (dn n 0) (e+n.log2)=dn n e:=by
  unfold ldY
  rw [hs,hv]
  omega
 refine zl8 (dn n 0) e (e+n.log2) (dn n e) w hN (by omega) (by rw [hE];omega) he he2 ?_
 rw [hY]
 exact one_mul false (zdX h0 h1 he he2)
set_option maxRecDepth 100000 in
theorem znT (w:World):Calls Tryz.prog 191 #[.int .i64 1] w fun e w'=>e = .returned (.float .f64 9218868437227405312)∧w=w':=by
 have hf:∀ W:World,(callFunc 192 #[.int .u64 (9218868437227405312:Int)]).run Tryz.prog W = .ok (.value (.float .f64 9218868437227405312)) W:=fun W=>zb7 9218868437227405312 W
 go_enter Tryz.func191,Tryz.ntmps191
 go_wp2
 go_ret
 exact ⟨rfl,rfl⟩
set_option maxHeartbeats 1000000 in
set_option maxRecDepth 100000 in
theorem zjn (x:Nat) (e m:Int) (w:World) (h:Norm64 x) (he : -9223372036854775808≤e∧e<9223372036854770000) (hm:m=e+((x / 4503599627370496 % 2048:Nat):Int) - 1023) (hm1:1023<m) (hp:(FloatKind.f64.format.order x 0==some .lt)=false) :
  Calls Tryz.prog 150 #[.float .f64 x,.int .i64 e] w fun e w'=>e = .returned (.float .f64 9218868437227405312)∧w=w':=by
 have hz:=h.nz
 have aA:=zdi x w h.lt
 rw [h.inf] at aA
 have aD:=zcA x w
 rw [h.nan] at aD
 have aE:=zcR x w h
 have aF:=zdZ x
 have f1:wrap64 ((x:Int) / 4503599627370496)=((x / 4503599627370496:Nat):Int):=by
  have:=h.lt
  rw [IntWalk.wrap64_in _ (by omega)];rfl
 have f2:bits BinOp.and IntKind.i64 ((x / 4503599627370496:Nat):Int) 2047=((x / 4503599627370496 % 2048:Nat):Int):=zfi _
 have hE:x / 4503599627370496 % 2048<2048:=Nat.mod_lt _ (by omega)
 have f4:wrap64 e=e:=IntWalk.wrap64_in _ (by omega)
 have f3:wrap64 (((x / 4503599627370496 % 2048:Nat):Int) - 1023)=((x / 4503599627370496 % 2048:Nat):Int) - 1023:=IntWalk.wrap64_in _ (by omega)
 have f5:wrap64 (e+(((x / 4503599627370496 % 2048:Nat):Int) - 1023))=m:=by rw [IntWalk.wrap64_in _ (by omega)];omega
 generalize x / 4503599627370496 % 2048=E at *
 generalize x / 4503599627370496=X at *
 have aC:=Lib.hid aA
 clear aA hm he
 go_enter Tryz.func150,Tryz.ntmps150
 go_wp2_with fail
 refine aC.out.mono ?_
 rintro e w1 ⟨rfl,rfl⟩
 go_wp2_with fail
 refine aD.mono ?_
 rintro e w1 ⟨rfl,rfl⟩
 go_wp2_with fail
 refine aE.mono ?_
 rintro e w1 ⟨rfl,rfl⟩
 go_wp2_with fail
 refine (znT _).mono ?_
 rintro e w1 ⟨rfl,rfl⟩
 go_wp2_with fail
 go_ret
 exact ⟨rfl,rfl⟩
theorem zkk {n:Nat} {e:Int} (w:World) (h0:0<n) (h1:n<9007199254740992) (he2:1023<e+n.log2) (he3:e<9223372036854770000) :
  Calls Tryz.prog 150 #[.float .f64 (dn n 0),.int .i64 e] w fun e' w'=>e' = .returned (.float .f64 9218868437227405312)∧w=w':=by
 have aA:(2:Nat) ^ 53=9007199254740992:=by decide
 have a3:n.log2<53:=(Nat.log2_lt (by omega)).2 (by omega)
 obtain ⟨hN,hs,hE⟩:=zk3 h0 h1
 refine zjn (dn n 0) e (e+n.log2) w hN (by omega) (by rw [hE];omega) he2 ?_
 have f1:=zip (e:=0) h0 h1 (by omega) (by omega)
 have k1:=zih (e:=0) h0 h1 (by omega) (by omega) (by omega)
 have f4:=zaV zbW
 have k4:=za4 zbW
 refine zeb f1 f4 ?_
 rw [k1,k4,Nat.zero_mul]
 generalize n*2 ^ (0+1074:Int).toNat=A
 omega
theorem znS:(FloatKind.f64.format.order 0 0==some .eq)=true:=by decide +kernel
theorem zi7 {e:Int} (w:World):Calls Tryz.prog 150 #[.float .f64 0,.int .i64 e] w fun e' w'=>e' = .returned (.float .f64 0)∧w=w':=by
 have hz:=znS
 go_enter Tryz.func150,Tryz.ntmps150
 go_wp2
 go_ret
 exact ⟨rfl,rfl⟩
theorem zdW {x r:Nat} {e:Int} (w:World) (h:Calls Tryz.prog 150 #[.float .f64 x,.int .i64 e] w fun e' w'=>e' = .returned (.float .f64 r)∧w=w') :
  Calls Tryz.prog 98 #[.float .f64 x,.int .i64 e] w fun e' w'=>e' = .returned (.float .f64 r)∧w=w':=by
 have h2:=Lib.hid h
 clear h
 go_enter Tryz.func98,Tryz.ntmps98
 go_wp2_with fail
 refine h2.out.mono ?_
 rintro e w1 ⟨rfl,rfl⟩
 go_wp2_with fail
 go_ret
 exact ⟨rfl,rfl⟩
end Go.Proofs.YteajibbphcfmeaaGreatDoor
