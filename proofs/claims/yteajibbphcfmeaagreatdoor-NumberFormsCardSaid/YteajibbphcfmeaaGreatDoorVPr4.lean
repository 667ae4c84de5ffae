/- Contracts of package probe: exact, checkGain, nearestFloat's and isBelow's parts. -/
import Derived.Test.YteajibbphcfmeaaGreatDoorVFrx
import Derived.Test.YteajibbphcfmeaaGreatDoorVRat2
import Derived.Test.YteajibbphcfmeaaGreatDoorVRtx
import Derived.Test.YteajibbphcfmeaaGreatDoorVDl
import Derived.Deep.LoopGhost
import Derived.IntWalk
import Derived.Test.YteajibbphcfmeaaGreatDoorVWords
import Derived.Laws.Cover2
import Derived.Maps.AppendAt
namespace Go.Proofs.YteajibbphcfmeaaGreatDoor
open Go.RowKit Bn
open Flt
theorem zmd (neg:Bool) (t b:Nat) (hb:0<b):LowQ (lowQ neg t b):=by
 unfold lowQ
 rw [if_neg (by omega)]
 split
 ·exact ⟨by decide,by decide,fun h=>by cases h⟩
 ·rename_i ht
  have hg:0<Nat.gcd t b:=Nat.gcd_pos_of_pos_right _ hb
  refine ⟨Nat.div_pos (Nat.gcd_le_right _ hb) hg,(Nat.gcd_div (Nat.gcd_dvd_left t b) (Nat.gcd_dvd_right t b)).trans (Nat.div_self hg),fun _=>Nat.div_pos (Nat.gcd_le_left _ (by omega)) hg⟩
end Go.Proofs.YteajibbphcfmeaaGreatDoor
namespace Go.Proofs.YteajibbphcfmeaaGreatDoor
open Go.RowKit Bn
def zd2 (num:Int) (den:Nat):Q:=lowQ (decide (num<0)) num.natAbs den
def negQ (p:Q):Q:=⟨!p.neg && decide (0<p.top),p.top,p.bot⟩
def absQ (p:Q):Q:=⟨false,p.top,p.bot⟩
def zeI (p:Q):Int:=if p.top=0 then 0 else if p.neg then -1 else 1
theorem zjk {den:Nat} (hd:0<den):zd2 0 den=⟨false,0,1⟩:=by
 unfold zd2 lowQ
 rw [if_neg (by omega)]
 rfl
theorem zmu {num:Int} {den:Nat} (hd:0<den) (h0:num≠0):zd2 num den=⟨decide (num<0),num.natAbs / Nat.gcd num.natAbs den,den / Nat.gcd num.natAbs den⟩:=by
 unfold zd2 lowQ
 rw [if_neg (by omega),if_neg (by omega)]
theorem zg6 (num:Int) {den:Nat} (hd:0<den):LowQ (zd2 num den):=zmd _ _ _ hd
end Go.Proofs.YteajibbphcfmeaaGreatDoor
namespace Go.Proofs.YteajibbphcfmeaaGreatDoor
open Go.RowKit
theorem zmG (k r:Nat):Dec.pad (k+1) r=Dec.dgt (r / 10 ^ k % 10) :: Dec.pad k r:=by
 induction k generalizing r with
 | zero=>simp [Dec.pad]
 | succ k ih=>
  rw [Dec.pad,ih (r / 10),Nat.div_div_eq_div_mul,Nat.pow_succ,Nat.mul_comm (10 ^ k) 10,List.cons_append]
  rfl
def decK (n least:Nat):Nat:=max least (if n=0 then 0 else (Lib.decDigits n).length)
theorem zew {n:Nat} (h:0<n):10 ^ ((Lib.decDigits n).length - 1)≤n∧n<10 ^ (Lib.decDigits n).length:=by
 induction n using Nat.strongRecOn with
 | ind n ih=>
  by_cases h1:n<10
  ·rw [Dec.dec_lt h1]
   simp
   omega
  ·rw [Dec.dec_ge h1]
   obtain ⟨h2,h3⟩:=ih (n / 10) (by omega) (by omega)
   have hp:=Dec.dec_length_pos (n / 10)
   rw [List.length_append,List.length_singleton,Nat.add_sub_cancel,Nat.pow_succ]
   obtain ⟨k,hk⟩:∃ k,(Lib.decDigits (n / 10)).length=k+1:=⟨_,(Nat.succ_pred_eq_of_pos hp).symm⟩
   rw [hk,Nat.add_sub_cancel] at h2
   rw [hk] at h3 ⊢
   rw [Nat.pow_succ] at h3 ⊢
   omega
theorem zkg {n least k:Nat} (h:0<n / 10 ^ k∨k<least):k+1≤decK n least:=by
 unfold decK
 rcases h with h | h
 ·have hn:0<n:=by
   rcases Nat.eq_zero_or_pos n with h0 | h0
   ·rw [h0,Nat.zero_div] at h;omega
   ·exact h0
  rw [if_neg (by omega)]
  have h1:=(zew hn).2
  have h2:10 ^ k≤n:=by
   rcases Nat.lt_or_ge n (10 ^ k) with h3 | h3
   ·rw [Nat.div_eq_of_lt h3] at h;omega
   ·exact h3
  have h3:k<(Lib.decDigits n).length:=by
   rcases Nat.lt_or_ge k (Lib.decDigits n).length with h4 | h4
   ·exact h4
   ·have:=Nat.pow_le_pow_right (n:=10) (by omega) h4
    omega
  omega
 ·omega
theorem zmM {n least k:Nat} (h1:n / 10 ^ k=0) (h2:least≤k) (h3:k≤decK n least):k=decK n least:=by
 have h4:n<10 ^ k:=by
  rcases Nat.lt_or_ge n (10 ^ k) with h4 | h4
  ·exact h4
  ·have:=Nat.div_pos h4 (Nat.pow_pos (by omega))
   omega
 unfold decK at *
 by_cases h0:n=0
 ·rw [if_pos h0] at *
  omega
 ·rw [if_neg h0] at *
  have h5:=(zew (n:=n) (by omega)).1
  have h6:(Lib.decDigits n).length - 1<k:=by
   rcases Nat.lt_or_ge ((Lib.decDigits n).length - 1) k with h6 | h6
   ·exact h6
   ·have:=Nat.pow_le_pow_right (n:=10) (by omega) h6
    omega
  omega
theorem zdV (n:Nat):Dec.pad (decK n 1) n=Lib.decDigits n:=by
 unfold decK
 have hp:=Dec.dec_length_pos n
 by_cases h0:n=0
 ·subst h0
  rw [if_pos rfl,Dec.dec_lt (by omega)]
  rfl
 ·rw [if_neg h0,Nat.max_eq_right (by omega),Dec.pad_dec _ _ hp (zew (by omega)).2,Nat.sub_self]
  rfl
theorem zkp {n:Nat} (h:n<Dn.B):decK n 9=9:=by
 have h1:n<10 ^ 9:=by rw [←zma];exact h
 unfold decK
 have h2:=Dec.dec_length_le (k:=9) (by omega) h1
 split<;>omega
theorem zni {n least:Nat} (h:n<10000000000000000000) (hl:least≤19):decK n least≤19:=by
 have h1:=Dec.dec_length_le (k:=19) (r:=n) (by omega) (by have e:(10:Nat) ^ 19=10000000000000000000:=(by decide);omega)
 unfold decK
 split<;>omega
def zbp (l:List UInt8):Nat:=l.findIdx (· == 47)
theorem zbO {l:List UInt8} (h:∀ c ∈ l,c≠47):zbp l=l.length:=by
 unfold zbp
 rw [List.findIdx_eq_length]
 intro c hc
 simpa using h c hc
theorem zcg {l r:List UInt8} (h:∀ c ∈ l,c≠47):zbp (l++47 :: r)=l.length:=by
 unfold zbp
 rw [List.findIdx_append,if_neg,List.findIdx_cons]
 ·simp
 ·rw [Nat.not_lt,Nat.le_iff_lt_or_eq]
  refine .inr ?_
  exact (zbO h).symm
theorem zlo (l:List UInt8):zbp l≤l.length:=List.findIdx_le_length
end Go.Proofs.YteajibbphcfmeaaGreatDoor
namespace Go.Proofs.YteajibbphcfmeaaGreatDoor
open Go.RowKit Dn
structure DigI (w:World) (A:Option Addr) (n c:Nat) (l:List Nat):Prop where
 rd:zat w w.heap.size 1 A n (l.map natv)
 nc:n≤c
 cm:c≤maxLen
 wf:Wf l
theorem DigI.later {w w':World} {A:Option Addr} {n c:Nat} {l:List Nat} (h:DigI w A n c l) (hb:Below w.heap.size w w'):DigI w' A n c l:=⟨h.rd.later hb,h.nc,h.cm,h.wf⟩
theorem DigI.len {w:World} {A:Option Addr} {n c:Nat} {l:List Nat} (h:DigI w A n c l):l.length=n:=h.rd.lenM
set_option maxHeartbeats 1000000 in
theorem zcJ (A:Option Addr) (n c:Nat) (l:List Nat) (w:World) (h:DigI w A n c l) (hn:n≤1099511627776) :
  Calls Tryz.prog 168 #[.slice A n c] w fun e w'=>∃ m,e = .returned (.slice A m c)∧DigI w' A m c (digs (val l))∧Below w.heap.size w w':=by
 obtain ⟨hr,aI,aF,hw⟩:=h
 have hl:=hr.lenM
 have aH:=Lib.hid aF
 have aG:=Lib.hid aI
 clear aF
 go_enter Tryz.func168,Tryz.ntmps168
 go_wp2
 go_loopg [0] n (fun q s W=>∃ k:Nat,k≤n∧s = .slice A k c∧k≤q∧Hid (∀ j (h:j<l.length),k≤j→l[j]=0)∧Below w.heap.size w W)
 case atStart=>exact ⟨n,Nat.le_refl _,rfl,Nat.le_refl _,fun j h h'=>by omega,Below.refl _ _⟩
 case round=>
  obtain ⟨k,hk,rfl,hq,hz,aC⟩:=hrel
  have aE:∀ (hx:∀ h:k - 1<l.length,0<k→l[k - 1]≠0) (W:World),Below w.heap.size w W→DigI W A k c (digs (val l)):=fun hx W hb=>by
   have ht:=zdR hw k (by omega) (fun j h hj=>hz.out j h hj) hx
   have h2:=((hr.below hb).more hb.size).take (m:=k) hk
   rw [←List.map_take,ht] at h2
   exact ⟨h2,by have:=aG.out;omega,aH.out,zap _⟩
  have aD:=Lib.hid aE
  clear aE
  by_cases h0:0<k
  ·obtain ⟨ad,aL,rfl,aK,aA⟩:=(hr.below aC).cellM (k:=k - 1) (by omega)
   have aM:c≠0:=by omega
   by_cases hx:l[k - 1]=0
   ·rw [hx] at aA
    replace aA:wr.cell? (ad.add (k - 1))=some (.int .i64 0):=aA
    have HX:=Lib.hid hx
    clear hx
    go_wp2
    go_roundg (k - 1)
    case measure=>omega
    case rel=>
     refine ⟨k - 1,by omega,rfl,Nat.le_refl _,?_,aC⟩
     intro j h hj
     rcases Nat.lt_or_ge j k with h1 | h1
     ·obtain rfl:j=k - 1:=by omega
      exact HX.out
     ·exact hz.out j h h1
   ·have HX:=Lib.hid hx
    unfold natv at aA
    generalize hg:l[k - 1]=x at *
    have aJ:(((x:Nat):Int)==0)=false:=by
     rw [beq_eq_false_iff_ne];omega
    have HG:=Lib.hid hg
    clear hg hx
    go_wp2
    go_ret
    exact ⟨k,rfl,aD.out (fun h _=>by rw [HG.out];exact HX.out) _ aC,aC⟩
  ·go_wp2
   go_ret
   exact ⟨k,rfl,aD.out (fun h h1=>absurd h1 h0) _ aC,aC⟩
set_option maxHeartbeats 400000 in
theorem zfO (A:Option Addr) (n c:Nat) (l:List Nat) (k:Nat) (w:World) (h:zat w w.heap.size 1 A n (l.map natv)) (_hn:n≤1099511627776) :
  Calls Tryz.prog 183 #[.slice A n c,.int .i64 (k:Int)] w fun e w'=>e = .returned (.int .i64 ((l.getD k 0:Nat):Int))∧w=w':=by
 have hl:=h.lenM
 by_cases h0:k<n
 ·obtain ⟨ad,aC,rfl,aD,aA⟩:=h.cellM h0
  have hv:l.getD k 0=l[k]:=by simp [List.getD,aC]
  have HV:=Lib.hid hv
  unfold natv at aA
  clear hv
  generalize l[k]=x at *
  go_enter Tryz.func183,Tryz.ntmps183
  go_wp2
  go_ret
  exact ⟨by rw [HV.out];rfl,rfl⟩
 ·have hv:Hid (l.getD k 0=0):=by
   show l.getD k 0=0
   simp [List.getD,List.getElem?_eq_none (show l.length≤k by omega)]
  clear hl
  go_enter Tryz.func183,Tryz.ntmps183
  go_wp2
  go_ret
  exact ⟨by rw [hv.out];rfl,rfl⟩
set_option maxHeartbeats 1000000 in
theorem zdf (A A':Option Addr) (n c n' c' x y:Nat) (w:World) (h:zat w w.heap.size 1 A n ((digs x).map natv)) (h':zat w w.heap.size 1 A' n' ((digs y).map natv)) (hn:n≤1099511627776) (hn':n'≤1099511627776) :
  Calls Tryz.prog 139 #[.slice A n c,.slice A' n' c'] w fun e w'=>e = .returned (.int .i64 (Bn.ncmp x y))∧Below w.heap.size w w':=by
 have hl:=h.lenM
 have aG:=h'.lenM
 by_cases hne:n=n'
 ·subst hne
  have HL:=Lib.hid hl
  have aM:=Lib.hid aG
  clear hl aG
  have aL:((n:Int) != (n:Int))=false:=by simp
  go_enter Tryz.func139,Tryz.ntmps139
  go_wp2
  go_loopg [5] n (fun q s W=>∃ k:Nat,k≤n∧s = .int .i64 ((k:Int) - 1)∧k≤q∧Hid (∀ j,k≤j→(digs x).getD j 0=(digs y).getD j 0)∧Below w.heap.size w W)
  case atStart=>exact ⟨n,Nat.le_refl _,rfl,Nat.le_refl _,(fun j hj=>by rw [zbG (by rw [HL.out];omega),zbG (by rw [aM.out];omega)]),Below.refl _ _⟩
  case round=>
   obtain ⟨k,hk,rfl,hq,hz,aA⟩:=hrel
   by_cases h0:0<k
   ·obtain ⟨i,rfl⟩:∃ i:Nat,k=i+1:=⟨k - 1,by omega⟩
    have e1:((i+1:Nat):Int) - 1=(i:Int):=by omega
    rw [e1]
    obtain ⟨ad,aK,rfl,aP,aD⟩:=(h.below aA).cellM (k:=i) (by omega)
    obtain ⟨aQ,aF,rfl,aO,aC⟩:=(h'.below aA).cellM (k:=i) (by omega)
    have aI:(digs x).getD i 0=(digs x)[i]:=by simp [List.getD,aK]
    have aJ:(digs y).getD i 0=(digs y)[i]:=by simp [List.getD,aF]
    have HX:=Lib.hid aI
    have HY:=Lib.hid aJ
    have aR:=zap x _ (List.getElem_mem aK)
    have aS:=zap y _ (List.getElem_mem aF)
    unfold natv at aD aC
    clear aI aJ e1
    generalize (digs x)[i]=xk at *
    generalize (digs y)[i]=yk at *
    have q1:(0:Int)≤(i:Int):=by omega
    have q2:(i:Int)<(n:Int):=by omega
    rcases Nat.lt_trichotomy xk yk with aE | aN | aH
    ·have HR:Hid (Bn.ncmp x y = -1):=Bn.ncmp_lt (zjQ i (fun j hj=>hz.out j (by omega)) (by rw [HX.out,HY.out];exact aE))
     have d1:decide (xk<yk)=true:=by simpa using aE
     go_upto_region 8 with (fail)
     go_quiet (fail)
     go_wp2
     go_ret
     exact ⟨by rw [HR.out];rfl,by first | exact zab aA _ | exact zab (zab aA _) _⟩
    ·subst aN
     have HZ:Hid (∀ j,i≤j→(digs x).getD j 0=(digs y).getD j 0):=fun j hj=>by
      rcases Nat.lt_or_ge i j with h1 | h1
      ·exact hz.out j (by omega)
      ·obtain rfl:j=i:=by omega
       rw [HX.out,HY.out]
     have d1:decide (xk<xk)=false:=by simp
     go_upto_region 8 with (fail)
     go_quiet (fail)
     go_upto_region 10 with (fail)
     go_quiet (fail)
     go_wp2
     go_roundg i
     case measure=>omega
     case rel=>exact ⟨i,by omega,rfl,Nat.le_refl _,HZ.out,by first | exact zab aA _ | exact zab (zab aA _) _⟩
    ·have HR:Hid (Bn.ncmp x y=1):=Bn.ncmp_gt (zjQ i (fun j hj=>(hz.out j (by omega)).symm) (by rw [HX.out,HY.out];exact aH))
     have d1:decide (xk<yk)=false:=by simp;omega
     have d2:decide (yk<xk)=true:=by simpa using aH
     go_upto_region 8 with (fail)
     go_quiet (fail)
     go_upto_region 10 with (fail)
     go_quiet (fail)
     go_wp2
     go_ret
     exact ⟨by rw [HR.out];rfl,by first | exact zab aA _ | exact zab (zab aA _) _⟩
   ·obtain rfl:k=0:=by omega
    have HR:Hid (Bn.ncmp x y=0):=by
     have:x=y:=znJ (fun j=>hz.out j (Nat.zero_le _))
     subst this
     exact Bn.ncmp_eq x
    go_wp2
    go_ret
    exact ⟨by rw [HR.out];rfl,aA⟩
 ·have aL:((n:Int) != (n':Int))=true:=by rw [bne_iff_ne];omega
  by_cases aE:n<n'
  ·have HR:Hid (Bn.ncmp x y = -1):=Bn.ncmp_lt (by
    rcases Nat.lt_or_ge x y with h1 | h1
    ·exact h1
    ·have:=zaa h1
     omega)
   have d1:decide (n<n')=true:=by simpa using aE
   clear hl aG
   go_enter Tryz.func139,Tryz.ntmps139
   go_wp2
   go_ret
   exact ⟨by rw [HR.out];rfl,Below.refl _ _⟩
  ·have HR:Hid (Bn.ncmp x y=1):=Bn.ncmp_gt (by
    rcases Nat.lt_or_ge y x with h1 | h1
    ·exact h1
    ·have:=zaa h1
     omega)
   have d1:decide (n<n')=false:=by simpa using aE
   clear hl aG
   go_enter Tryz.func139,Tryz.ntmps139
   go_wp2
   go_ret
   exact ⟨by rw [HR.out];rfl,Below.refl _ _⟩
end Go.Proofs.YteajibbphcfmeaaGreatDoor
namespace Go.Proofs.YteajibbphcfmeaaGreatDoor
open Go.RowKit
theorem zeM {α:Type} (f : α→Value) (ys:List α) (z:Value) (n k:Nat) (hk:k<ys.length) (hy:ys.length=n) :
  ((ys.take k).map f++List.replicate (n - k) z).set k (f ys[k])=(ys.take (k+1)).map f++List.replicate (n - (k+1)) z:=by
 have hl:((ys.take k).map f).length=k:=by rw [List.length_map,List.length_take];omega
 rw [List.set_append_right _ _ (by omega),hl,Nat.sub_self,show n - k=(n - (k+1))+1 from by omega,List.replicate_succ,List.set_cons_zero,List.take_succ_eq_append_getElem hk,List.map_append,List.append_assoc]
 rfl
theorem zkA {α:Type} (f : α→Value) (ys:List α) (z:Value) (n:Nat):(ys.take 0).map f++List.replicate (n - 0) z=List.replicate n z:=by simp
theorem zeJ {α:Type} (f : α→Value) (ys:List α) (z:Value) (n:Nat) (hy:ys.length=n):(ys.take n).map f++List.replicate (n - n) z=ys.map f:=by
 rw [List.take_of_length_le (by omega)];simp
end Go.Proofs.YteajibbphcfmeaaGreatDoor
namespace Go.Proofs.YteajibbphcfmeaaGreatDoor
open Flt Bn
def wd:List (List Bool)→Nat→Nat
 | [],_=>0
 | l :: t,i=>(if l.getD i false then 1 else 0)+2*wd t i
end Go.Proofs.YteajibbphcfmeaaGreatDoor
namespace Go.Proofs.YteajibbphcfmeaaGreatDoor
open Go.RowKit
theorem zcq:(Tryz.prog.info? 3).map (fun i=>(i.zero,i.size,i.bytes))=some (some (.int .i64 0),1,8):=by kernel_rfl
end Go.Proofs.YteajibbphcfmeaaGreatDoor
namespace Go.Proofs.YteajibbphcfmeaaGreatDoor
open Go.RowKit Dn
def RetI (w:World) (N:Nat) (P:List Nat→Prop) (e:Ending) (w':World):Prop:=∃ A m c ls,e = .returned (.slice A m c)∧DigI w' A m c ls∧m≤N∧P ls∧Below w.heap.size w w'
theorem RetI.of_own {w w':World} {B N m:Nat} {P:List Nat→Prop} {v:Value} {ls:List Nat} (h:w'.ownsRow B 3 1 v m (ls.map natv)) (hw:Wf ls) (hm:m≤N) (hp:P ls) (hb:Below w.heap.size w w'):RetI w N P (.returned v) w':=by
 obtain ⟨A,c,rfl,h1,h2,h3⟩:=zcE h
 exact ⟨A,m,c,ls,rfl,⟨h3,h1,h2,hw⟩,hm,hp,hb⟩
def znb (w:World) (x:Nat) (e:Ending) (w':World):Prop:=∃ A m c,e = .returned (.slice A m c)∧DigI w' A m c (digs x)∧Below w.heap.size w w'
theorem zmv (ls a b:List Nat) (k s c0 c1:Nat) (hk:ls.length=k) (hinv:val ls+B ^ k*c0=val (a.take k)+val (b.take k)) (hs:s+B*c1=a.getD k 0+b.getD k 0+c0) :
  val (ls++[s])+B ^ (k+1)*c1=val (a.take (k+1))+val (b.take (k+1)):=by
 rw [zaN,zaS,hk,zae a,zae b,Nat.pow_succ,Nat.mul_assoc]
 have h3:B ^ k*s+B ^ k*(B*c1)=B ^ k*a.getD k 0+B ^ k*b.getD k 0+B ^ k*c0:=by rw [←Nat.mul_add,hs,Nat.mul_add,Nat.mul_add]
 omega
theorem zg9 (la lb ls:List Nat) (i c0:Nat) (hwa:Wf la) (hwb:Wf lb) (ha:la.length+1≤i) (hb:lb.length+1≤i) (h:val ls+B ^ i*c0=val (la.take i)+val (lb.take i)):c0=0:=by
 have h1:=zbk (hwa.take i)
 have h2:=zbk (hwb.take i)
 rw [List.length_take] at h1 h2
 have h3:B ^ min i la.length≤B ^ (i - 1):=Nat.pow_le_pow_right zaL (by omega)
 have h4:B ^ min i lb.length≤B ^ (i - 1):=Nat.pow_le_pow_right zaL (by omega)
 have h5:B ^ (i - 1)*2≤B ^ (i - 1)*B:=Nat.mul_le_mul_left _ zd0
 rw [←Nat.pow_succ,show (i - 1).succ=i from by omega] at h5
 rcases Nat.eq_zero_or_pos c0 with h0 | h0
 ·exact h0
 ·exfalso
  have:=Nat.le_mul_of_pos_right (B ^ i) h0
  omega
set_option maxHeartbeats 2000000 in
set_option maxRecDepth 100000 in
theorem zfy (A A':Option Addr) (n c n' c':Nat) (la lb:List Nat) (w:World) (h:DigI w A n c la) (h':DigI w A' n' c' lb) (hn:n≤1048576) (hn':n'≤1048576) :
  Calls Tryz.prog 138 #[.slice A n c,.slice A' n' c'] w (RetI w (max n n'+1) fun ls=>val ls=val la+val lb):=by
 obtain ⟨i0,aU,bA,aS,aT⟩:=info_parts zcq
 obtain ⟨N,hN⟩:∃ N,N=max n n':=⟨_,rfl⟩
 rw [←hN]
 have aQ:=h.len
 have aP:=h'.len
 have aJ:=Lib.hid aQ
 have aR:=Lib.hid aP
 have aK:=Lib.hid h.wf
 have aM:=Lib.hid h'.wf
 have bD:n≤N:=by omega
 have bG:n'≤N:=by omega
 have bF:N≤1048576:=by omega
 clear aQ aP hN
 go_enter Tryz.func138,Tryz.ntmps138
 go_wp2
 go_loopg [5,6,7] (N+1) (fun q v5 v6 v7 W=>∃ (i c0:Nat) (ls:List Nat),i≤N+1∧c0≤1∧v7 = .int .i64 i∧v6 = .int .i64 c0∧N+1 - i≤q∧W.ownsRow w.heap.size 3 1 v5 i (ls.map natv) ∧
  Hid (Wf ls∧ls.length=i∧val ls+B ^ i*c0=val (la.take i)+val (lb.take i))∧Below w.heap.size w W)
 case atStart=>exact ⟨0,0,[],by omega,by omega,rfl,rfl,by omega,World.ownsRow_nil _ _ _ _,⟨Wf.nil,rfl,by simp⟩,Below.refl _ _⟩
 case round=>
  obtain ⟨i,c0,ls,hi,bE,rfl,rfl,hq,aC,hv,aA⟩:=hrel
  by_cases hend:¬ i<n∧¬ i<n'∧c0=0
  ·obtain ⟨e1,e2,rfl⟩:=hend
   have d1:decide (i<n)=false:=by simpa using e1
   have d2:decide (i<n')=false:=by simpa using e2
   obtain ⟨hw,hl,hs⟩:=hv.out
   rw [List.take_of_length_le (by have:=aJ.out;omega),List.take_of_length_le (by have:=aR.out;omega),Nat.mul_zero,Nat.add_zero] at hs
   obtain ⟨A9,c9,rfl,aL,aO,aN⟩:=zcE aC
   have HR:Hid (RetI w (N+1) (fun ls=>val ls=val la+val lb) (.returned (.slice A9 i c9)) wr):=⟨A9,i,c9,ls,rfl,⟨aN,aL,aO,hw⟩,hi,hs,aA⟩
   clear hs hw hl aC hv aL aO aN
   go_wp2
   go_ret
   exact HR.out
  ·have bC:i≤N:=by
    obtain ⟨hw,hl,hs⟩:=hv.out
    rcases Nat.lt_or_ge N i with h9 | h9
    ·exfalso
     have:=zg9 la lb ls i c0 aK.out aM.out (by have:=aJ.out;omega) (by have:=aR.out;omega) hs
     exact hend ⟨by omega,by omega,this⟩
    ·exact h9
   have K1:=Lib.hid (zfO A n c la i wr (h.rd.later aA) (by omega))
   have K2:=Lib.hid (zfO A' n' c' lb i wr (h'.rd.later aA) (by omega))
   have aY:=zaD aK.out i
   have bB:=zaD aM.out i
   obtain ⟨xk,aG⟩:∃ xk,la.getD i 0=xk:=⟨_,rfl⟩
   obtain ⟨yk,aI⟩:∃ yk,lb.getD i 0=yk:=⟨_,rfl⟩
   rw [aG] at K1 aY
   rw [aI] at K2 bB
   obtain ⟨t,ht⟩:∃ t,t=xk+yk+c0:=⟨_,rfl⟩
   obtain ⟨s,hs⟩:∃ s,s=t % B:=⟨_,rfl⟩
   obtain ⟨d,hd⟩:∃ d,d=t / B:=⟨_,rfl⟩
   have aW:s<B:=by rw [hs];exact Nat.mod_lt _ zaL
   have aV:d≤1:=by rw [hd];unfold B;omega
   have bH:t<4000000000:=by omega
   have HP:Hid (Wf (ls++[s])∧(ls++[s]).length=i+1∧val (ls++[s])+B ^ (i+1)*d=val (la.take (i+1))+val (lb.take (i+1))):=by
    obtain ⟨hw,hl,aX⟩:=hv.out
    exact ⟨hw.append (Wf.cons aW Wf.nil),by simp [hl],zmv ls la lb i s c0 d hl aX (by rw [aG,aI,hs,hd,Nat.mod_add_div,ht])⟩
   have es:((t:Nat):Int) % 1000000000=(s:Int):=by rw [hs];unfold B;omega
   have ed:((t:Nat):Int) / 1000000000=(d:Int):=by rw [hd];unfold B;omega
   have et:(xk:Int)+(yk:Int)+(c0:Int)=(t:Int):=by omega
   have aE:(decide (i<n)=true)∨(decide (i<n)=false∧decide (i<n')=true)∨(decide (i<n)=false∧decide (i<n')=false∧decide (0<c0)=true):=by
    simp only [decide_eq_true_eq,decide_eq_false_iff_not]
    omega
   clear aG aI hs hd ht hv hend
   rcases aE with d1 | ⟨d1,d2⟩ | ⟨d1,d2,d3⟩
   all_goals
    go_wp2_with fail
    refine K1.out.mono ?_
    rintro e w1 ⟨rfl,aH⟩
    obtain rfl:wr=w1:=aH
    go_wp2_with fail
    refine K2.out.mono ?_
    rintro e w1 ⟨rfl,aH⟩
    obtain rfl:wr=w1:=aH
    go_wp2_with (at_builtin;refine wpList_append_own _ rfl _ _ 45 rfl w.heap.size 3 i0 (.int .i64 0) 1 8 Tryz.underlying45 aU bA aS aT rfl (by decide) _ _ _ rfl (aC.alloc _) ⟨wr.heap.size,0,none⟩ 1 1 [.int .i64 s] rfl rfl ?c1 ?c2 ?c3 ?c4 ?c5 ?_)
    case c1=>exact cell_one_new _ _ _
    case c2=>intro u hu;simp at hu;subst hu;rfl
    case c3=>unfold maxLen;omega
    case c4=>omega
    case c5=>have:=aA.size;simp;omega
    intro v' w2 aF aD _
    have aZ:Below w.heap.size w w2:=(aA.alloc aA.size _).grown aD (by have:=aA.size;simp;omega) (fun g hg=>(World.ownsRow.lt aC g hg).1)
    clear aD aC
    go_wp2
    go_roundg (N+1 - (i+1))
    case measure=>omega
    case rel=>exact ⟨i+1,d,ls++[s],by omega,aV,by go_num,rfl,Nat.le_refl _,by rw [List.map_append];exact aF,HP.out,aZ⟩
end Go.Proofs.YteajibbphcfmeaaGreatDoor
