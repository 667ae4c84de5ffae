/- Plain facts for the reference's texts: digits laid from the end, the length of a text, the place of the slash. No program. -/
import Derived.Test.YtmkihdjolnlccaaGreatDoorFText
import Derived.Test.YtmkihdjolnlccaaGreatDoorFDpu
import Derived.Test.YtmkihdjolnlccaaGreatDoorFRng2
import Derived.Test.YtmkihdjolnlccaaGreatDoorFDp
import Derived.Test.YtmkihdjolnlccaaGreatDoorFDw
import Derived.Deep.LoopGhost
import Derived.IntWalk
import Derived.Test.YtmkihdjolnlccaaGreatDoorFWords
namespace Go.Proofs.YtmkihdjolnlccaaGreatDoor
open Go.RowKit
theorem pad_cons (k r:Nat):Dec.pad (k+1) r=Dec.dgt (r / 10 ^ k % 10) :: Dec.pad k r:=by
 induction k generalizing r with
 | zero=>simp [Dec.pad]
 | succ k ih=>
  rw [Dec.pad,ih (r / 10),Nat.div_div_eq_div_mul,Nat.pow_succ,Nat.mul_comm (10 ^ k) 10,List.cons_append]
  rfl
def decK (n least:Nat):Nat:=max least (if n=0 then 0 else (Lib.decDigits n).length)
theorem dec_bounds {n:Nat} (h:0<n):10 ^ ((Lib.decDigits n).length - 1)≤n∧n<10 ^ (Lib.decDigits n).length:=by
 induction n using Nat.strongRecOn with
 | ind n ih=>
  by_cases h1:n<10
  ·rw [Dec.dec_lt h1]
   simp
   omega
  ·rw [Dec.dec_ge h1]
   obtain ⟨h2,h3⟩:=ih (n / 10) (by omega) (by omega)
   have hp:=Dec.dec_length_pos (n / 10)
   rw [List.length_append,List.length_singleton,Nat.add_sub_cancel,Nat.pow_succ]
   obtain ⟨k,hk⟩:∃ k,(Lib.decDigits (n / 10)).length=k+1:=⟨_,(Nat.succ_pred_eq_of_pos hp).symm⟩
   rw [hk,Nat.add_sub_cancel] at h2
   rw [hk] at h3 ⊢
   rw [Nat.pow_succ] at h3 ⊢
   omega
theorem decK_more {n least k:Nat} (h:0<n / 10 ^ k∨k<least):k+1≤decK n least:=by
 unfold decK
 rcases h with h | h
 ·have hn:0<n:=by
   rcases Nat.eq_zero_or_pos n with h0 | h0
   ·rw [h0,Nat.zero_div] at h;omega
   ·exact h0
  rw [if_neg (by omega)]
  have h1:=(dec_bounds hn).2
  have h2:10 ^ k≤n:=by
   rcases Nat.lt_or_ge n (10 ^ k) with h3 | h3
   ·rw [Nat.div_eq_of_lt h3] at h;omega
   ·exact h3
  have h3:k<(Lib.decDigits n).length:=by
   rcases Nat.lt_or_ge k (Lib.decDigits n).length with h4 | h4
   ·exact h4
   ·have:=Nat.pow_le_pow_right (n:=10) (by omega) h4
    omega
  omega
 ·omega
theorem decK_end {n least k:Nat} (h1:n / 10 ^ k=0) (h2:least≤k) (h3:k≤decK n least):k=decK n least:=by
 have h4:n<10 ^ k:=by
  rcases Nat.lt_or_ge n (10 ^ k) with h4 | h4
  ·exact h4
  ·have:=Nat.div_pos h4 (Nat.pow_pos (by omega))
   omega
 unfold decK at *
 by_cases h0:n=0
 ·rw [if_pos h0] at *
  omega
 ·rw [if_neg h0] at *
  have h5:=(dec_bounds (n:=n) (by omega)).1
  have h6:(Lib.decDigits n).length - 1<k:=by
   rcases Nat.lt_or_ge ((Lib.decDigits n).length - 1) k with h6 | h6
   ·exact h6
   ·have:=Nat.pow_le_pow_right (n:=10) (by omega) h6
    omega
  omega
theorem decK_one (n:Nat):Dec.pad (decK n 1) n=Lib.decDigits n:=by
 unfold decK
 have hp:=Dec.dec_length_pos n
 by_cases h0:n=0
 ·subst h0
  rw [if_pos rfl,Dec.dec_lt (by omega)]
  rfl
 ·rw [if_neg h0,Nat.max_eq_right (by omega),Dec.pad_dec _ _ hp (dec_bounds (by omega)).2,Nat.sub_self]
  rfl
theorem decK_nine {n:Nat} (h:n<Dn.B):decK n 9=9:=by
 have h1:n<10 ^ 9:=by rw [←B_dec];exact h
 unfold decK
 have h2:=Dec.dec_length_le (k:=9) (by omega) h1
 split<;>omega
theorem decK_le {n least:Nat} (h:n<10000000000000000000) (hl:least≤19):decK n least≤19:=by
 have h1:=Dec.dec_length_le (k:=19) (r:=n) (by omega) (by have e:(10:Nat) ^ 19=10000000000000000000:=(by decide);omega)
 unfold decK
 split<;>omega
def slashL (l:List UInt8):Nat:=l.findIdx (· == 47)
theorem slashL_none {l:List UInt8} (h:∀ c ∈ l,c≠47):slashL l=l.length:=by
 unfold slashL
 rw [List.findIdx_eq_length]
 intro c hc
 simpa using h c hc
theorem slashL_some {l r:List UInt8} (h:∀ c ∈ l,c≠47):slashL (l++47 :: r)=l.length:=by
 unfold slashL
 rw [List.findIdx_append,if_neg,List.findIdx_cons]
 ·simp
 ·rw [Nat.not_lt,Nat.le_iff_lt_or_eq]
  refine .inr ?_
  exact (slashL_none h).symm
theorem slashL_le (l:List UInt8):slashL l≤l.length:=List.findIdx_le_length
end Go.Proofs.YtmkihdjolnlccaaGreatDoor
namespace Go.Proofs.YtmkihdjolnlccaaGreatDoor
open Go.RowKit Dn
structure DigI (w:World) (A:Option Addr) (n c:Nat) (l:List Nat):Prop where
 rd:Reads w w.heap.size 1 A n (l.map natv)
 nc:n≤c
 cm:c≤maxLen
 wf:Wf l
theorem DigI.later {w w':World} {A:Option Addr} {n c:Nat} {l:List Nat} (h:DigI w A n c l) (hb:Below w.heap.size w w'):DigI w' A n c l:=⟨h.rd.later hb,h.nc,h.cm,h.wf⟩
theorem DigI.len {w:World} {A:Option Addr} {n c:Nat} {l:List Nat} (h:DigI w A n c l):l.length=n:=h.rd.lenM
set_option maxHeartbeats 1000000 in
theorem rtrim_any (A:Option Addr) (n c:Nat) (l:List Nat) (w:World) (h:DigI w A n c l) (hn:n≤1099511627776) :
  Calls Tryz.prog 224 #[.slice A n c] w fun e w'=>∃ m,e = .returned (.slice A m c)∧DigI w' A m c (digs (val l))∧Below w.heap.size w w':=by
 obtain ⟨hr,hnc,hcm,hw⟩:=h
 have hl:=hr.lenM
 have HCM:=Lib.hid hcm
 have HNC:=Lib.hid hnc
 clear hcm
 go_enter Tryz.func224,Tryz.ntmps224
 go_wp2
 go_loopg [0] n (fun q s W=>∃ k:Nat,k≤n∧s = .slice A k c∧k≤q∧Hid (∀ j (h:j<l.length),k≤j→l[j]=0)∧Below w.heap.size w W)
 case atStart=>exact ⟨n,Nat.le_refl _,rfl,Nat.le_refl _,fun j h h'=>by omega,Below.refl _ _⟩
 case round=>
  obtain ⟨k,hk,rfl,hq,hz,hbel⟩:=hrel
  have hfin:∀ (hx:∀ h:k - 1<l.length,0<k→l[k - 1]≠0) (W:World),Below w.heap.size w W→DigI W A k c (digs (val l)):=fun hx W hb=>by
   have ht:=take_trim hw k (by omega) (fun j h hj=>hz.out j h hj) hx
   have h2:=((hr.below hb).more hb.size).take (m:=k) hk
   rw [←List.map_take,ht] at h2
   exact ⟨h2,by have:=HNC.out;omega,HCM.out,wf_digs _⟩
  have HFIN:=Lib.hid hfin
  clear hfin
  by_cases h0:0<k
  ·obtain ⟨ad,hkl,rfl,hbb,hcell⟩:=(hr.below hbel).cellM (k:=k - 1) (by omega)
   have hc0:c≠0:=by omega
   by_cases hx:l[k - 1]=0
   ·rw [hx] at hcell
    replace hcell:wr.cell? (ad.add (k - 1))=some (.int .i64 0):=hcell
    have HX:=Lib.hid hx
    clear hx
    go_wp2
    go_roundg (k - 1)
    case measure=>omega
    case rel=>
     refine ⟨k - 1,by omega,rfl,Nat.le_refl _,?_,hbel⟩
     intro j h hj
     rcases Nat.lt_or_ge j k with h1 | h1
     ·obtain rfl:j=k - 1:=by omega
      exact HX.out
     ·exact hz.out j h h1
   ·have HX:=Lib.hid hx
    unfold natv at hcell
    generalize hg:l[k - 1]=x at *
    have hx0:(((x:Nat):Int)==0)=false:=by
     rw [beq_eq_false_iff_ne];omega
    have HG:=Lib.hid hg
    clear hg hx
    go_wp2
    go_ret
    exact ⟨k,rfl,HFIN.out (fun h _=>by rw [HG.out];exact HX.out) _ hbel,hbel⟩
  ·go_wp2
   go_ret
   exact ⟨k,rfl,HFIN.out (fun h h1=>absurd h1 h0) _ hbel,hbel⟩
set_option maxHeartbeats 400000 in
theorem rdigit_any (A:Option Addr) (n c:Nat) (l:List Nat) (k:Nat) (w:World) (h:Reads w w.heap.size 1 A n (l.map natv)) (_hn:n≤1099511627776) :
  Calls Tryz.prog 226 #[.slice A n c,.int .i64 (k:Int)] w fun e w'=>e = .returned (.int .i64 ((l.getD k 0:Nat):Int))∧w=w':=by
 have hl:=h.lenM
 by_cases h0:k<n
 ·obtain ⟨ad,hkl,rfl,hbb,hcell⟩:=h.cellM h0
  have hv:l.getD k 0=l[k]:=by simp [List.getD,hkl]
  have HV:=Lib.hid hv
  unfold natv at hcell
  clear hv
  generalize l[k]=x at *
  go_enter Tryz.func226,Tryz.ntmps226
  go_wp2
  go_ret
  exact ⟨by rw [HV.out];rfl,rfl⟩
 ·have hv:Hid (l.getD k 0=0):=by
   show l.getD k 0=0
   simp [List.getD,List.getElem?_eq_none (show l.length≤k by omega)]
  clear hl
  go_enter Tryz.func226,Tryz.ntmps226
  go_wp2
  go_ret
  exact ⟨by rw [hv.out];rfl,rfl⟩
set_option maxHeartbeats 1000000 in
theorem rcompare_any (A A':Option Addr) (n c n' c' x y:Nat) (w:World) (h:Reads w w.heap.size 1 A n ((digs x).map natv)) (h':Reads w w.heap.size 1 A' n' ((digs y).map natv)) (hn:n≤1099511627776) (hn':n'≤1099511627776) :
  Calls Tryz.prog 174 #[.slice A n c,.slice A' n' c'] w fun e w'=>e = .returned (.int .i64 (Bn.ncmp x y))∧Below w.heap.size w w':=by
 have hl:=h.lenM
 have hl':=h'.lenM
 by_cases hne:n=n'
 ·subst hne
  have HL:=Lib.hid hl
  have HL':=Lib.hid hl'
  clear hl hl'
  have hnn:((n:Int) != (n:Int))=false:=by simp
  go_enter Tryz.func174,Tryz.ntmps174
  go_wp2
  go_loopg [5] n (fun q s W=>∃ k:Nat,k≤n∧s = .int .i64 ((k:Int) - 1)∧k≤q∧Hid (∀ j,k≤j→(digs x).getD j 0=(digs y).getD j 0)∧Below w.heap.size w W)
  case atStart=>exact ⟨n,Nat.le_refl _,rfl,Nat.le_refl _,(fun j hj=>by rw [getD_out (by rw [HL.out];omega),getD_out (by rw [HL'.out];omega)]),Below.refl _ _⟩
  case round=>
   obtain ⟨k,hk,rfl,hq,hz,hbel⟩:=hrel
   by_cases h0:0<k
   ·obtain ⟨i,rfl⟩:∃ i:Nat,k=i+1:=⟨k - 1,by omega⟩
    have e1:((i+1:Nat):Int) - 1=(i:Int):=by omega
    rw [e1]
    obtain ⟨ad,hkl,rfl,hbb,hcell⟩:=(h.below hbel).cellM (k:=i) (by omega)
    obtain ⟨ad',hkl',rfl,hbb',hcell'⟩:=(h'.below hbel).cellM (k:=i) (by omega)
    have hgx:(digs x).getD i 0=(digs x)[i]:=by simp [List.getD,hkl]
    have hgy:(digs y).getD i 0=(digs y)[i]:=by simp [List.getD,hkl']
    have HX:=Lib.hid hgx
    have HY:=Lib.hid hgy
    have hxB:=wf_digs x _ (List.getElem_mem hkl)
    have hyB:=wf_digs y _ (List.getElem_mem hkl')
    unfold natv at hcell hcell'
    clear hgx hgy e1
    generalize (digs x)[i]=xk at *
    generalize (digs y)[i]=yk at *
    have q1:(0:Int)≤(i:Int):=by omega
    have q2:(i:Int)<(n:Int):=by omega
    rcases Nat.lt_trichotomy xk yk with hlt | heq | hgt
    ·have HR:Hid (Bn.ncmp x y = -1):=Bn.ncmp_lt (lt_getD i (fun j hj=>hz.out j (by omega)) (by rw [HX.out,HY.out];exact hlt))
     have d1:decide (xk<yk)=true:=by simpa using hlt
     go_upto_region 8 with (fail)
     go_quiet (fail)
     go_wp2
     go_ret
     exact ⟨by rw [HR.out];rfl,by first | exact below_drewN hbel _ | exact below_drewN (below_drewN hbel _) _⟩
    ·subst heq
     have HZ:Hid (∀ j,i≤j→(digs x).getD j 0=(digs y).getD j 0):=fun j hj=>by
      rcases Nat.lt_or_ge i j with h1 | h1
      ·exact hz.out j (by omega)
      ·obtain rfl:j=i:=by omega
       rw [HX.out,HY.out]
     have d1:decide (xk<xk)=false:=by simp
     go_upto_region 8 with (fail)
     go_quiet (fail)
     go_upto_region 10 with (fail)
     go_quiet (fail)
     go_wp2
     go_roundg i
     case measure=>omega
     case rel=>exact ⟨i,by omega,rfl,Nat.le_refl _,HZ.out,by first | exact below_drewN hbel _ | exact below_drewN (below_drewN hbel _) _⟩
    ·have HR:Hid (Bn.ncmp x y=1):=Bn.ncmp_gt (lt_getD i (fun j hj=>(hz.out j (by omega)).symm) (by rw [HX.out,HY.out];exact hgt))
     have d1:decide (xk<yk)=false:=by simp;omega
     have d2:decide (yk<xk)=true:=by simpa using hgt
     go_upto_region 8 with (fail)
     go_quiet (fail)
     go_upto_region 10 with (fail)
     go_quiet (fail)
     go_wp2
     go_ret
     exact ⟨by rw [HR.out];rfl,by first | exact below_drewN hbel _ | exact below_drewN (below_drewN hbel _) _⟩
   ·obtain rfl:k=0:=by omega
    have HR:Hid (Bn.ncmp x y=0):=by
     have:x=y:=eq_getD (fun j=>hz.out j (Nat.zero_le _))
     subst this
     exact Bn.ncmp_eq x
    go_wp2
    go_ret
    exact ⟨by rw [HR.out];rfl,hbel⟩
 ·have hnn:((n:Int) != (n':Int))=true:=by rw [bne_iff_ne];omega
  by_cases hlt:n<n'
  ·have HR:Hid (Bn.ncmp x y = -1):=Bn.ncmp_lt (by
    rcases Nat.lt_or_ge x y with h1 | h1
    ·exact h1
    ·have:=digs_length_mono h1
     omega)
   have d1:decide (n<n')=true:=by simpa using hlt
   clear hl hl'
   go_enter Tryz.func174,Tryz.ntmps174
   go_wp2
   go_ret
   exact ⟨by rw [HR.out];rfl,Below.refl _ _⟩
  ·have HR:Hid (Bn.ncmp x y=1):=Bn.ncmp_gt (by
    rcases Nat.lt_or_ge y x with h1 | h1
    ·exact h1
    ·have:=digs_length_mono h1
     omega)
   have d1:decide (n<n')=false:=by simpa using hlt
   clear hl hl'
   go_enter Tryz.func174,Tryz.ntmps174
   go_wp2
   go_ret
   exact ⟨by rw [HR.out];rfl,Below.refl _ _⟩
end Go.Proofs.YtmkihdjolnlccaaGreatDoor
namespace Go.Proofs.YtmkihdjolnlccaaGreatDoor
open Go.RowKit
theorem set_step {α:Type} (f : α→Value) (ys:List α) (z:Value) (n k:Nat) (hk:k<ys.length) (hy:ys.length=n) :
  ((ys.take k).map f++List.replicate (n - k) z).set k (f ys[k])=(ys.take (k+1)).map f++List.replicate (n - (k+1)) z:=by
 have hl:((ys.take k).map f).length=k:=by rw [List.length_map,List.length_take];omega
 rw [List.set_append_right _ _ (by omega),hl,Nat.sub_self,show n - k=(n - (k+1))+1 from by omega,List.replicate_succ,List.set_cons_zero,List.take_succ_eq_append_getElem hk,List.map_append,List.append_assoc]
 rfl
theorem Reads.keptRow {w w':World} {size n:Nat} {A:Option Addr} {xs:List Value} {row:Option Nat} (h:Reads w w.heap.size size A n xs) (hg:w.grownBy w' row) (ho:∀ b,row=some b→0<n→Off A b):Reads w' w.heap.size size A n xs:=
 ⟨h.1,fun hn=>by
  obtain ⟨ad,e,hb,hc⟩:=h.2 hn
  refine ⟨ad,e,hb,fun j u hu => ?_⟩
  rw [←hc j u hu]
  exact World.cell?_of_block (hg.block (ad.add j).block (by rw [block_of_add];omega) (by rw [block_of_add];intro e';exact ho _ e'.symm hn ad e rfl))⟩
theorem set_start {α:Type} (f : α→Value) (ys:List α) (z:Value) (n:Nat):(ys.take 0).map f++List.replicate (n - 0) z=List.replicate n z:=by simp
theorem set_stop {α:Type} (f : α→Value) (ys:List α) (z:Value) (n:Nat) (hy:ys.length=n):(ys.take n).map f++List.replicate (n - n) z=ys.map f:=by
 rw [List.take_of_length_le (by omega)];simp
theorem info_f32:(Tryz.prog.info? 64).map (fun i=>(i.zero,i.size,i.bytes))=some (some (.float .f32 0),1,4):=by kernel_rfl
theorem info_bool:(Tryz.prog.info? 4).map (fun i=>(i.zero,i.size,i.bytes))=some (some (.bool false),1,1):=by kernel_rfl
theorem info_err:(Tryz.prog.info? 30).map (fun i=>(i.zero,i.size,i.bytes))=some (some (.int .i64 0),1,8):=by kernel_rfl
set_option maxHeartbeats 2000000 in
set_option maxRecDepth 100000 in
theorem trn_ff (g:FuncId) (cb:Array Value) (row:Option Nat) (J:Nat→World→Prop) (A:Option Addr) (n c:Nat) (xs:List Value) (ys:List Nat) (w:World)
  (eg:∀ args w,(callFunc g args).run Tryz.prog w = .ok (.enter g args) w) (hn:n≤4096) (hx:Reads w w.heap.size 1 A n xs) (hy:ys.length=n)
  (hrow:∀ b,row=some b→b<w.heap.size∧(0<n→Off A b)) (hJ0:J 0 w)
  (hJ:∀ i W W',J i W→(∀ b,row=some b→W'.heap[b]? = W.heap[b]?)→J i W')
  (hf:∀ (W:World) (i:Nat) (x:Value) (y:Nat),i<n→w.grownBy W row→J i W→xs[i]? = some x→ys[i]? = some y →
   Calls Tryz.prog g (#[x]++cb) W fun e W'=>e = .returned (f32v y)∧W.grownBy W' row∧J (i+1) W') :
  Calls Tryz.prog 142 #[.slice A n c,.func (.func g) #[] cb] w fun e w'=>
   e = .returned (.slice (some ⟨w.heap.size,0,none⟩) n n)∧w'.ownsRow w.heap.size 64 1 (.slice (some ⟨w.heap.size,0,none⟩) n n) n (ys.map f32v)∧w.grownBy w' row∧J n w':=by
 obtain ⟨i0,hi0,hz0,hz1,hz2⟩:=info_parts info_f32
 have HF:=Lib.hid hf
 have HY:=Lib.hid hy
 have HJ:=Lib.hid hJ
 have HROW:=Lib.hid hrow
 clear hf hy hJ hrow
 go_enter Tryz.func142,Tryz.ntmps142
 go_wp2_with (at_make;refine wpList_make_full _ rfl _ _ 26 rfl w.heap.size 64 i0 (.float .f32 0) 1 Tryz.underlying26 hi0 hz0 hz1 _ _ _ _ n rfl rfl (by omega) (by omega) ?b2 ?b3 (Nat.le_refl _) ?_)
 case b2=>rw [hz2];omega
 case b3=>unfold maxLen;omega
 intro w0 hown0 hgrow0
 rw [toList_madeCells_one] at hown0
 have hr0:w.grownBy w0 row:=⟨hgrow0.os,hgrow0.tape,hgrow0.output,hgrow0.size,fun i hi _=>hgrow0.block i hi (by simp)⟩
 have hJ1:J 0 w0:=HJ.out 0 w w0 hJ0 (fun b hb=>hgrow0.block b (HROW.out b hb).1 (by simp))
 go_wp2
 go_loopg [13] n (fun m s W=>∃ k:Nat,k≤n∧s = .int .i64 k∧n - k≤m∧W.ownsRow w.heap.size 64 1 (.slice (some ⟨w.heap.size,0,none⟩) n n) n ((ys.take k).map f32v++List.replicate (n - k) (.float .f32 0))∧w.grownBy W row∧J k W)
 case atStart=>exact ⟨0,Nat.zero_le _,rfl,by omega,by rw [set_start];simpa using hown0,hr0,hJ1⟩
 case round=>
  obtain ⟨k,hk,rfl,hm,hown,hg,hJk⟩:=hrel
  by_cases h0:k<n
  ·obtain ⟨ad,u,rfl,hbb,hu,hcell⟩:=(hx.keptRow hg (fun b hb=>(HROW.out b hb).2)).at_ h0
   have hkl:k<ys.length:=by have:=HY.out;omega
   have hc:=HF.out wr k u ys[k] h0 hg hJk hu (List.getElem?_eq_getElem hkl)
   have hss:=set_step f32v ys (.float .f32 0) n k hkl HY.out
   simp only [f32v] at hc
   have HC:=Lib.hid hc
   have HS:=Lib.hid hss
   have hne:row≠some w.heap.size:=fun e=>Nat.lt_irrefl _ (HROW.out _ e).1
   have hns:∀ b,row=some b→b≠w.heap.size:=fun b e=>Nat.ne_of_lt (HROW.out _ e).1
   have hst:=fun (W:World) (a:Addr) (m:_)=>run_store Tryz.prog W a (.float .f32 ys[k]) m rfl
   clear hc hss hu
   go_wp2_with (go_at_fn g;refine HC.out.mono ?_;rintro e w1 ⟨rfl,hg1,hJ1⟩;have hr1:=own_kept hown hg1 hne;obtain ⟨v1,hc1⟩:=own_cell hr1 k h0;have hf1:=own_free hr1 k)
   go_roundg (n - (k+1))
   case measure=>omega
   case rel=>exact ⟨k+1,by omega,by go_num,Nat.le_refl _,by have h9:=own_set hr1 k (f32v ys[k]);rw [HS.out] at h9;exact h9,gset (gtrans hg hg1) (p:=⟨w.heap.size,k,none⟩) (Nat.le_refl _) _,HJ.out (k+1) w1 _ hJ1 (fun b hb=>Below.heap_setCell w1 ⟨w.heap.size,k,none⟩ _ b (hns b hb))⟩
  ·obtain rfl:k=n:=by omega
   have hss:=set_stop f32v ys (.float .f32 0) k HY.out
   have HS:=Lib.hid hss
   clear hss
   go_wp2
   go_ret
   exact ⟨rfl,by rw [HS.out] at hown;exact hown,hg,hJk⟩
set_option maxHeartbeats 2000000 in
set_option maxRecDepth 100000 in
theorem trn_fb (g:FuncId) (cb:Array Value) (row:Option Nat) (J:Nat→World→Prop) (A:Option Addr) (n c:Nat) (xs:List Value) (ys:List Bool) (w:World)
  (eg:∀ args w,(callFunc g args).run Tryz.prog w = .ok (.enter g args) w) (hn:n≤4096) (hx:Reads w w.heap.size 1 A n xs) (hy:ys.length=n)
  (hrow:∀ b,row=some b→b<w.heap.size∧(0<n→Off A b)) (hJ0:J 0 w)
  (hJ:∀ i W W',J i W→(∀ b,row=some b→W'.heap[b]? = W.heap[b]?)→J i W')
  (hf:∀ (W:World) (i:Nat) (x:Value) (y:Bool),i<n→w.grownBy W row→J i W→xs[i]? = some x→ys[i]? = some y →
   Calls Tryz.prog g (#[x]++cb) W fun e W'=>e = .returned (boolv y)∧W.grownBy W' row∧J (i+1) W') :
  Calls Tryz.prog 133 #[.slice A n c,.func (.func g) #[] cb] w fun e w'=>
   e = .returned (.slice (some ⟨w.heap.size,0,none⟩) n n)∧w'.ownsRow w.heap.size 4 1 (.slice (some ⟨w.heap.size,0,none⟩) n n) n (ys.map boolv)∧w.grownBy w' row∧J n w':=by
 obtain ⟨i0,hi0,hz0,hz1,hz2⟩:=info_parts info_bool
 have HF:=Lib.hid hf
 have HY:=Lib.hid hy
 have HJ:=Lib.hid hJ
 have HROW:=Lib.hid hrow
 clear hf hy hJ hrow
 go_enter Tryz.func133,Tryz.ntmps133
 go_wp2_with (at_make;refine wpList_make_full _ rfl _ _ 95 rfl w.heap.size 4 i0 (.bool false) 1 Tryz.underlying95 hi0 hz0 hz1 _ _ _ _ n rfl rfl (by omega) (by omega) ?b2 ?b3 (Nat.le_refl _) ?_)
 case b2=>rw [hz2];omega
 case b3=>unfold maxLen;omega
 intro w0 hown0 hgrow0
 rw [toList_madeCells_one] at hown0
 have hr0:w.grownBy w0 row:=⟨hgrow0.os,hgrow0.tape,hgrow0.output,hgrow0.size,fun i hi _=>hgrow0.block i hi (by simp)⟩
 have hJ1:J 0 w0:=HJ.out 0 w w0 hJ0 (fun b hb=>hgrow0.block b (HROW.out b hb).1 (by simp))
 go_wp2
 go_loopg [13] n (fun m s W=>∃ k:Nat,k≤n∧s = .int .i64 k∧n - k≤m∧W.ownsRow w.heap.size 4 1 (.slice (some ⟨w.heap.size,0,none⟩) n n) n ((ys.take k).map boolv++List.replicate (n - k) (.bool false))∧w.grownBy W row∧J k W)
 case atStart=>exact ⟨0,Nat.zero_le _,rfl,by omega,by rw [set_start];simpa using hown0,hr0,hJ1⟩
 case round=>
  obtain ⟨k,hk,rfl,hm,hown,hg,hJk⟩:=hrel
  by_cases h0:k<n
  ·obtain ⟨ad,u,rfl,hbb,hu,hcell⟩:=(hx.keptRow hg (fun b hb=>(HROW.out b hb).2)).at_ h0
   have hkl:k<ys.length:=by have:=HY.out;omega
   have hc:=HF.out wr k u ys[k] h0 hg hJk hu (List.getElem?_eq_getElem hkl)
   have hss:=set_step boolv ys (.bool false) n k hkl HY.out
   simp only [boolv] at hc
   have HC:=Lib.hid hc
   have HS:=Lib.hid hss
   have hne:row≠some w.heap.size:=fun e=>Nat.lt_irrefl _ (HROW.out _ e).1
   have hns:∀ b,row=some b→b≠w.heap.size:=fun b e=>Nat.ne_of_lt (HROW.out _ e).1
   have hst:=fun (W:World) (a:Addr) (m:_)=>run_store Tryz.prog W a (.bool ys[k]) m rfl
   clear hc hss hu
   go_wp2_with (go_at_fn g;refine HC.out.mono ?_;rintro e w1 ⟨rfl,hg1,hJ1⟩;have hr1:=own_kept hown hg1 hne;obtain ⟨v1,hc1⟩:=own_cell hr1 k h0;have hf1:=own_free hr1 k)
   go_roundg (n - (k+1))
   case measure=>omega
   case rel=>exact ⟨k+1,by omega,by go_num,Nat.le_refl _,by have h9:=own_set hr1 k (boolv ys[k]);rw [HS.out] at h9;exact h9,gset (gtrans hg hg1) (p:=⟨w.heap.size,k,none⟩) (Nat.le_refl _) _,HJ.out (k+1) w1 _ hJ1 (fun b hb=>Below.heap_setCell w1 ⟨w.heap.size,k,none⟩ _ b (hns b hb))⟩
  ·obtain rfl:k=n:=by omega
   have hss:=set_stop boolv ys (.bool false) k HY.out
   have HS:=Lib.hid hss
   clear hss
   go_wp2
   go_ret
   exact ⟨rfl,by rw [HS.out] at hown;exact hown,hg,hJk⟩
set_option maxHeartbeats 2000000 in
set_option maxRecDepth 100000 in
theorem trn_se (g:FuncId) (cb:Array Value) (row:Option Nat) (J:Nat→World→Prop) (A:Option Addr) (n c:Nat) (xs:List Value) (ys:List Int) (w:World)
  (eg:∀ args w,(callFunc g args).run Tryz.prog w = .ok (.enter g args) w) (hn:n≤4096) (hx:Reads w w.heap.size 1 A n xs) (hy:ys.length=n)
  (hrow:∀ b,row=some b→b<w.heap.size∧(0<n→Off A b)) (hJ0:J 0 w)
  (hJ:∀ i W W',J i W→(∀ b,row=some b→W'.heap[b]? = W.heap[b]?)→J i W')
  (hf:∀ (W:World) (i:Nat) (x:Value) (y:Int),i<n→w.grownBy W row→J i W→xs[i]? = some x→ys[i]? = some y →
   Calls Tryz.prog g (#[x]++cb) W fun e W'=>e = .returned (i64v y)∧W.grownBy W' row∧J (i+1) W') :
  Calls Tryz.prog 205 #[.slice A n c,.func (.func g) #[] cb] w fun e w'=>
   e = .returned (.slice (some ⟨w.heap.size,0,none⟩) n n)∧w'.ownsRow w.heap.size 30 1 (.slice (some ⟨w.heap.size,0,none⟩) n n) n (ys.map i64v)∧w.grownBy w' row∧J n w':=by
 obtain ⟨i0,hi0,hz0,hz1,hz2⟩:=info_parts info_err
 have HF:=Lib.hid hf
 have HY:=Lib.hid hy
 have HJ:=Lib.hid hJ
 have HROW:=Lib.hid hrow
 clear hf hy hJ hrow
 go_enter Tryz.func205,Tryz.ntmps205
 go_wp2_with (at_make;refine wpList_make_full _ rfl _ _ 198 rfl w.heap.size 30 i0 (.int .i64 0) 1 Tryz.underlying198 hi0 hz0 hz1 _ _ _ _ n rfl rfl (by omega) (by omega) ?b2 ?b3 (Nat.le_refl _) ?_)
 case b2=>rw [hz2];omega
 case b3=>unfold maxLen;omega
 intro w0 hown0 hgrow0
 rw [toList_madeCells_one] at hown0
 have hr0:w.grownBy w0 row:=⟨hgrow0.os,hgrow0.tape,hgrow0.output,hgrow0.size,fun i hi _=>hgrow0.block i hi (by simp)⟩
 have hJ1:J 0 w0:=HJ.out 0 w w0 hJ0 (fun b hb=>hgrow0.block b (HROW.out b hb).1 (by simp))
 go_wp2
 go_loopg [13] n (fun m s W=>∃ k:Nat,k≤n∧s = .int .i64 k∧n - k≤m∧W.ownsRow w.heap.size 30 1 (.slice (some ⟨w.heap.size,0,none⟩) n n) n ((ys.take k).map i64v++List.replicate (n - k) (.int .i64 0))∧w.grownBy W row∧J k W)
 case atStart=>exact ⟨0,Nat.zero_le _,rfl,by omega,by rw [set_start];simpa using hown0,hr0,hJ1⟩
 case round=>
  obtain ⟨k,hk,rfl,hm,hown,hg,hJk⟩:=hrel
  by_cases h0:k<n
  ·obtain ⟨ad,u,rfl,hbb,hu,hcell⟩:=(hx.keptRow hg (fun b hb=>(HROW.out b hb).2)).at_ h0
   have hkl:k<ys.length:=by have:=HY.out;omega
   have hc:=HF.out wr k u ys[k] h0 hg hJk hu (List.getElem?_eq_getElem hkl)
   have hss:=set_step i64v ys (.int .i64 0) n k hkl HY.out
   simp only [i64v] at hc
   have HC:=Lib.hid hc
   have HS:=Lib.hid hss
   have hne:row≠some w.heap.size:=fun e=>Nat.lt_irrefl _ (HROW.out _ e).1
   have hns:∀ b,row=some b→b≠w.heap.size:=fun b e=>Nat.ne_of_lt (HROW.out _ e).1
   have hst:=fun (W:World) (a:Addr) (m:_)=>run_store Tryz.prog W a (.int .i64 ys[k]) m rfl
   clear hc hss hu
   go_wp2_with (go_at_fn g;refine HC.out.mono ?_;rintro e w1 ⟨rfl,hg1,hJ1⟩;have hr1:=own_kept hown hg1 hne;obtain ⟨v1,hc1⟩:=own_cell hr1 k h0;have hf1:=own_free hr1 k)
   go_roundg (n - (k+1))
   case measure=>omega
   case rel=>exact ⟨k+1,by omega,by go_num,Nat.le_refl _,by have h9:=own_set hr1 k (i64v ys[k]);rw [HS.out] at h9;exact h9,gset (gtrans hg hg1) (p:=⟨w.heap.size,k,none⟩) (Nat.le_refl _) _,HJ.out (k+1) w1 _ hJ1 (fun b hb=>Below.heap_setCell w1 ⟨w.heap.size,k,none⟩ _ b (hns b hb))⟩
  ·obtain rfl:k=n:=by omega
   have hss:=set_stop i64v ys (.int .i64 0) k HY.out
   have HS:=Lib.hid hss
   clear hss
   go_wp2
   go_ret
   exact ⟨rfl,by rw [HS.out] at hown;exact hown,hg,hJk⟩
set_option maxHeartbeats 2000000 in
set_option maxRecDepth 100000 in
theorem trn_ie (g:FuncId) (cb:Array Value) (row:Option Nat) (J:Nat→World→Prop) (A:Option Addr) (n c:Nat) (xs:List Value) (ys:List Int) (w:World)
  (eg:∀ args w,(callFunc g args).run Tryz.prog w = .ok (.enter g args) w) (hn:n≤4096) (hx:Reads w w.heap.size 1 A n xs) (hy:ys.length=n)
  (hrow:∀ b,row=some b→b<w.heap.size∧(0<n→Off A b)) (hJ0:J 0 w)
  (hJ:∀ i W W',J i W→(∀ b,row=some b→W'.heap[b]? = W.heap[b]?)→J i W')
  (hf:∀ (W:World) (i:Nat) (x:Value) (y:Int),i<n→w.grownBy W row→J i W→xs[i]? = some x→ys[i]? = some y →
   Calls Tryz.prog g (#[x]++cb) W fun e W'=>e = .returned (i64v y)∧W.grownBy W' row∧J (i+1) W') :
  Calls Tryz.prog 206 #[.slice A n c,.func (.func g) #[] cb] w fun e w'=>
   e = .returned (.slice (some ⟨w.heap.size,0,none⟩) n n)∧w'.ownsRow w.heap.size 30 1 (.slice (some ⟨w.heap.size,0,none⟩) n n) n (ys.map i64v)∧w.grownBy w' row∧J n w':=by
 obtain ⟨i0,hi0,hz0,hz1,hz2⟩:=info_parts info_err
 have HF:=Lib.hid hf
 have HY:=Lib.hid hy
 have HJ:=Lib.hid hJ
 have HROW:=Lib.hid hrow
 clear hf hy hJ hrow
 go_enter Tryz.func206,Tryz.ntmps206
 go_wp2_with (at_make;refine wpList_make_full _ rfl _ _ 198 rfl w.heap.size 30 i0 (.int .i64 0) 1 Tryz.underlying198 hi0 hz0 hz1 _ _ _ _ n rfl rfl (by omega) (by omega) ?b2 ?b3 (Nat.le_refl _) ?_)
 case b2=>rw [hz2];omega
 case b3=>unfold maxLen;omega
 intro w0 hown0 hgrow0
 rw [toList_madeCells_one] at hown0
 have hr0:w.grownBy w0 row:=⟨hgrow0.os,hgrow0.tape,hgrow0.output,hgrow0.size,fun i hi _=>hgrow0.block i hi (by simp)⟩
 have hJ1:J 0 w0:=HJ.out 0 w w0 hJ0 (fun b hb=>hgrow0.block b (HROW.out b hb).1 (by simp))
 go_wp2
 go_loopg [13] n (fun m s W=>∃ k:Nat,k≤n∧s = .int .i64 k∧n - k≤m∧W.ownsRow w.heap.size 30 1 (.slice (some ⟨w.heap.size,0,none⟩) n n) n ((ys.take k).map i64v++List.replicate (n - k) (.int .i64 0))∧w.grownBy W row∧J k W)
 case atStart=>exact ⟨0,Nat.zero_le _,rfl,by omega,by rw [set_start];simpa using hown0,hr0,hJ1⟩
 case round=>
  obtain ⟨k,hk,rfl,hm,hown,hg,hJk⟩:=hrel
  by_cases h0:k<n
  ·obtain ⟨ad,u,rfl,hbb,hu,hcell⟩:=(hx.keptRow hg (fun b hb=>(HROW.out b hb).2)).at_ h0
   have hkl:k<ys.length:=by have:=HY.out;omega
   have hc:=HF.out wr k u ys[k] h0 hg hJk hu (List.getElem?_eq_getElem hkl)
   have hss:=set_step i64v ys (.int .i64 0) n k hkl HY.out
   simp only [i64v] at hc
   have HC:=Lib.hid hc
   have HS:=Lib.hid hss
   have hne:row≠some w.heap.size:=fun e=>Nat.lt_irrefl _ (HROW.out _ e).1
   have hns:∀ b,row=some b→b≠w.heap.size:=fun b e=>Nat.ne_of_lt (HROW.out _ e).1
   have hst:=fun (W:World) (a:Addr) (m:_)=>run_store Tryz.prog W a (.int .i64 ys[k]) m rfl
   clear hc hss hu
   go_wp2_with (go_at_fn g;refine HC.out.mono ?_;rintro e w1 ⟨rfl,hg1,hJ1⟩;have hr1:=own_kept hown hg1 hne;obtain ⟨v1,hc1⟩:=own_cell hr1 k h0;have hf1:=own_free hr1 k)
   go_roundg (n - (k+1))
   case measure=>omega
   case rel=>exact ⟨k+1,by omega,by go_num,Nat.le_refl _,by have h9:=own_set hr1 k (i64v ys[k]);rw [HS.out] at h9;exact h9,gset (gtrans hg hg1) (p:=⟨w.heap.size,k,none⟩) (Nat.le_refl _) _,HJ.out (k+1) w1 _ hJ1 (fun b hb=>Below.heap_setCell w1 ⟨w.heap.size,k,none⟩ _ b (hns b hb))⟩
  ·obtain rfl:k=n:=by omega
   have hss:=set_stop i64v ys (.int .i64 0) k HY.out
   have HS:=Lib.hid hss
   clear hss
   go_wp2
   go_ret
   exact ⟨rfl,by rw [HS.out] at hown;exact hown,hg,hJk⟩
end Go.Proofs.YtmkihdjolnlccaaGreatDoor
namespace Go.Proofs.YtmkihdjolnlccaaGreatDoor
open Flt Bn
def digV (lo hi:Nat) (v:Bool) (x:Nat):Bool:=fge x hi || (v && fgt x lo)
def digS (lo hi:Nat) (v:Bool) (l:List Nat):Bool:=l.foldl (digV lo hi) v
def digL (lo hi:Nat) (v:Bool) (l:List Nat):List Bool:=(List.range l.length).map fun i=>digS lo hi v (l.take (i+1))
theorem digS_succ (lo hi:Nat) (v:Bool) (l:List Nat) (k:Nat) (h:k<l.length):digS lo hi v (l.take (k+1))=digV lo hi (digS lo hi v (l.take k)) l[k]:=by
 unfold digS
 rw [List.take_succ_eq_append_getElem h,List.foldl_append]
 rfl
theorem digL_len (lo hi:Nat) (v:Bool) (l:List Nat):(digL lo hi v l).length=l.length:=by simp [digL]
theorem digL_at (lo hi:Nat) (v:Bool) (l:List Nat) (k:Nat) (h:k<l.length):(digL lo hi v l)[k]? = some (digS lo hi v (l.take (k+1))):=by
 simp [digL,h]
def posz (x:Nat):Nat:=if FloatKind.f32.format.order x 0==some .eq then 0 else x
def wd:List (List Bool)→Nat→Nat
 | [],_=>0
 | l :: t,i=>(if l.getD i false then 1 else 0)+2*wd t i
theorem wd_snoc (ls:List (List Bool)) (l:List Bool) (i:Nat):wd (ls++[l]) i=wd ls i+(if l.getD i false then 2 ^ ls.length else 0):=by
 induction ls with
 | nil=>simp [wd]
 | cons a t ih=>
  rw [List.cons_append]
  unfold wd
  rw [ih,List.length_cons,Nat.pow_succ]
  by_cases h:l.getD i false=true
  ·rw [if_pos h,if_pos h];omega
  ·rw [if_neg h,if_neg h];omega
theorem wd_lt (ls:List (List Bool)) (i:Nat):wd ls i<2 ^ ls.length:=by
 induction ls with
 | nil=>simp [wd]
 | cons a t ih=>
  unfold wd
  rw [List.length_cons,Nat.pow_succ]
  split<;>omega
def chgB (b:Bool) (l:List Bool) (i:Nat):Bool:=l.getD i false != (if i=0 then b else l.getD (i - 1) false)
def chg (b:Bool) (l:List Bool) (k:Nat):List Nat:=(List.range k).filter (chgB b l)
theorem chg_succ (b:Bool) (l:List Bool) (k:Nat):chg b l (k+1)=chg b l k++(if chgB b l k then [k] else []):=by
 unfold chg
 rw [List.range_succ,List.filter_append]
 congr 1
 cases h:chgB b l k<;>simp [h]
theorem chg_len (b:Bool) (l:List Bool) (k:Nat):(chg b l k).length≤k:=by
 have:=List.length_filter_le (chgB b l) (List.range k)
 rwa [List.length_range] at this
end Go.Proofs.YtmkihdjolnlccaaGreatDoor
