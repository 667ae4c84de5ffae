/- Contracts of the reference's digits to the base 10^9: addDigits, subDigits. -/
import Derived.Test.YteajibbphcfmeaaGreatDoorTEx3
import Derived.Test.YteajibbphcfmeaaGreatDoorTDw2
import Derived.Maps.AppendAt
import Derived.IntWalk
import Derived.Test.YteajibbphcfmeaaGreatDoorTText
import Derived.Deep.RegionHeld3
import Derived.Test.YteajibbphcfmeaaGreatDoorTErr0
namespace Go.Proofs.YteajibbphcfmeaaGreatDoor
open Go.RowKit Dn
def RetI (w:World) (N:Nat) (P:List Nat→Prop) (e:Ending) (w':World):Prop:=∃ A m c ls,e = .returned (.slice A m c)∧DigI w' A m c ls∧m≤N∧P ls∧Below w.heap.size w w'
theorem RetI.of_own {w w':World} {B N m:Nat} {P:List Nat→Prop} {v:Value} {ls:List Nat} (h:w'.ownsRow B 3 1 v m (ls.map natv)) (hw:Wf ls) (hm:m≤N) (hp:P ls) (hb:Below w.heap.size w w'):RetI w N P (.returned v) w':=by
 obtain ⟨A,c,rfl,h1,h2,h3⟩:=own_slice h
 exact ⟨A,m,c,ls,rfl,⟨h3,h1,h2,hw⟩,hm,hp,hb⟩
def RetNr (w:World) (x:Nat) (e:Ending) (w':World):Prop:=∃ A m c,e = .returned (.slice A m c)∧DigI w' A m c (digs x)∧Below w.heap.size w w'
theorem one_new (w:World) (v:Value) (t:TypeId):∀ (j:Nat) (u:Value),[v][j]? = some u→(w.alloc (.cells #[v] t)).cell? { block:=w.heap.size,off:=j }=some u:=by
 intro j u hu
 have h:=cell_one_new w v t j u hu
 have e:(⟨w.heap.size,0,none⟩:Addr).add j=⟨w.heap.size,j,none⟩:=by
  unfold Addr.add
  by_cases hj:j=0<;>simp [hj]
 rwa [e] at h
theorem add_snoc (ls a b:List Nat) (k s c0 c1:Nat) (hk:ls.length=k) (hinv:val ls+B ^ k*c0=val (a.take k)+val (b.take k)) (hs:s+B*c1=a.getD k 0+b.getD k 0+c0) :
  val (ls++[s])+B ^ (k+1)*c1=val (a.take (k+1))+val (b.take (k+1)):=by
 rw [val_append,val_single,hk,val_take_getD a,val_take_getD b,Nat.pow_succ,Nat.mul_assoc]
 have h3:B ^ k*s+B ^ k*(B*c1)=B ^ k*a.getD k 0+B ^ k*b.getD k 0+B ^ k*c0:=by rw [←Nat.mul_add,hs,Nat.mul_add,Nat.mul_add]
 omega
theorem sub_snoc (ls a b:List Nat) (k d b0 b1:Nat) (hk:ls.length=k) (hinv:val ls+val (b.take k)=val (a.take k)+B ^ k*b0) (hs:d+b.getD k 0+b0=a.getD k 0+B*b1) :
  val (ls++[d])+val (b.take (k+1))=val (a.take (k+1))+B ^ (k+1)*b1:=by
 rw [val_append,val_single,hk,val_take_getD a,val_take_getD b,Nat.pow_succ,Nat.mul_assoc]
 have h3:B ^ k*d+B ^ k*b.getD k 0+B ^ k*b0=B ^ k*a.getD k 0+B ^ k*(B*b1):=by rw [←Nat.mul_add,←Nat.mul_add,hs,Nat.mul_add]
 omega
theorem no_carry_end (la lb ls:List Nat) (i c0:Nat) (hwa:Wf la) (hwb:Wf lb) (ha:la.length+1≤i) (hb:lb.length+1≤i) (h:val ls+B ^ i*c0=val (la.take i)+val (lb.take i)):c0=0:=by
 have h1:=val_lt (hwa.take i)
 have h2:=val_lt (hwb.take i)
 rw [List.length_take] at h1 h2
 have h3:B ^ min i la.length≤B ^ (i - 1):=Nat.pow_le_pow_right B_pos (by omega)
 have h4:B ^ min i lb.length≤B ^ (i - 1):=Nat.pow_le_pow_right B_pos (by omega)
 have h5:B ^ (i - 1)*2≤B ^ (i - 1)*B:=Nat.mul_le_mul_left _ B_gt1
 rw [←Nat.pow_succ,show (i - 1).succ=i from by omega] at h5
 rcases Nat.eq_zero_or_pos c0 with h0 | h0
 ·exact h0
 ·exfalso
  have:=Nat.le_mul_of_pos_right (B ^ i) h0
  omega
set_option maxHeartbeats 2000000 in
set_option maxRecDepth 100000 in
theorem raddDigits_any (A A':Option Addr) (n c n' c':Nat) (la lb:List Nat) (w:World) (h:DigI w A n c la) (h':DigI w A' n' c' lb) (hn:n≤1048576) (hn':n'≤1048576) :
  Calls Tryz.prog 138 #[.slice A n c,.slice A' n' c'] w (RetI w (max n n'+1) fun ls=>val ls=val la+val lb):=by
 obtain ⟨i0,hi0,hz0,hz1,hz2⟩:=info_parts info_int
 obtain ⟨N,hN⟩:∃ N,N=max n n':=⟨_,rfl⟩
 rw [←hN]
 have hla:=h.len
 have hlb:=h'.len
 have HLA:=Lib.hid hla
 have HLB:=Lib.hid hlb
 have HWA:=Lib.hid h.wf
 have HWB:=Lib.hid h'.wf
 have hN1:n≤N:=by omega
 have hN2:n'≤N:=by omega
 have hNb:N≤1048576:=by omega
 clear hla hlb hN
 go_enter Tryz.func138,Tryz.ntmps138
 go_wp2
 go_loopg [5,6,7] (N+1) (fun q v5 v6 v7 W=>∃ (i c0:Nat) (ls:List Nat),i≤N+1∧c0≤1∧v7 = .int .i64 i∧v6 = .int .i64 c0∧N+1 - i≤q∧W.ownsRow w.heap.size 3 1 v5 i (ls.map natv) ∧
  Hid (Wf ls∧ls.length=i∧val ls+B ^ i*c0=val (la.take i)+val (lb.take i))∧Below w.heap.size w W)
 case atStart=>exact ⟨0,0,[],by omega,by omega,rfl,rfl,by omega,World.ownsRow_nil _ _ _ _,⟨Wf.nil,rfl,by simp⟩,Below.refl _ _⟩
 case round=>
  obtain ⟨i,c0,ls,hi,hc0,rfl,rfl,hq,hown,hv,hbel⟩:=hrel
  by_cases hend:¬ i<n∧¬ i<n'∧c0=0
  ·obtain ⟨e1,e2,rfl⟩:=hend
   have d1:decide (i<n)=false:=by simpa using e1
   have d2:decide (i<n')=false:=by simpa using e2
   obtain ⟨hw,hl,hs⟩:=hv.out
   rw [List.take_of_length_le (by have:=HLA.out;omega),List.take_of_length_le (by have:=HLB.out;omega),Nat.mul_zero,Nat.add_zero] at hs
   obtain ⟨A9,c9,rfl,h91,h92,h93⟩:=own_slice hown
   have HR:Hid (RetI w (N+1) (fun ls=>val ls=val la+val lb) (.returned (.slice A9 i c9)) wr):=⟨A9,i,c9,ls,rfl,⟨h93,h91,h92,hw⟩,hi,hs,hbel⟩
   clear hs hw hl hown hv h91 h92 h93
   go_wp2
   go_ret
   exact HR.out
  ·have hiN:i≤N:=by
    obtain ⟨hw,hl,hs⟩:=hv.out
    rcases Nat.lt_or_ge N i with h9 | h9
    ·exfalso
     have:=no_carry_end la lb ls i c0 HWA.out HWB.out (by have:=HLA.out;omega) (by have:=HLB.out;omega) hs
     exact hend ⟨by omega,by omega,this⟩
    ·exact h9
   have K1:=Lib.hid (rdigit_any A n c la i wr (h.rd.later hbel) (by omega))
   have K2:=Lib.hid (rdigit_any A' n' c' lb i wr (h'.rd.later hbel) (by omega))
   have hxB:=getD_lt HWA.out i
   have hyB:=getD_lt HWB.out i
   obtain ⟨xk,hgx⟩:∃ xk,la.getD i 0=xk:=⟨_,rfl⟩
   obtain ⟨yk,hgy⟩:∃ yk,lb.getD i 0=yk:=⟨_,rfl⟩
   rw [hgx] at K1 hxB
   rw [hgy] at K2 hyB
   obtain ⟨t,ht⟩:∃ t,t=xk+yk+c0:=⟨_,rfl⟩
   obtain ⟨s,hs⟩:∃ s,s=t % B:=⟨_,rfl⟩
   obtain ⟨d,hd⟩:∃ d,d=t / B:=⟨_,rfl⟩
   have hsB:s<B:=by rw [hs];exact Nat.mod_lt _ B_pos
   have hd1:d≤1:=by rw [hd];unfold B;omega
   have ht2:t<4000000000:=by omega
   have HP:Hid (Wf (ls++[s])∧(ls++[s]).length=i+1∧val (ls++[s])+B ^ (i+1)*d=val (la.take (i+1))+val (lb.take (i+1))):=by
    obtain ⟨hw,hl,hs9⟩:=hv.out
    exact ⟨hw.append (Wf.cons hsB Wf.nil),by simp [hl],add_snoc ls la lb i s c0 d hl hs9 (by rw [hgx,hgy,hs,hd,Nat.mod_add_div,ht])⟩
   have es:((t:Nat):Int) % 1000000000=(s:Int):=by rw [hs];unfold B;omega
   have ed:((t:Nat):Int) / 1000000000=(d:Int):=by rw [hd];unfold B;omega
   have et:(xk:Int)+(yk:Int)+(c0:Int)=(t:Int):=by omega
   have hcase:(decide (i<n)=true)∨(decide (i<n)=false∧decide (i<n')=true)∨(decide (i<n)=false∧decide (i<n')=false∧decide (0<c0)=true):=by
    simp only [decide_eq_true_eq,decide_eq_false_iff_not]
    omega
   clear hgx hgy hs hd ht hv hend
   rcases hcase with d1 | ⟨d1,d2⟩ | ⟨d1,d2,d3⟩
   all_goals
    go_wp2_with fail
    refine K1.out.mono ?_
    rintro e w1 ⟨rfl,hw1⟩
    obtain rfl:wr=w1:=hw1
    go_wp2_with fail
    refine K2.out.mono ?_
    rintro e w1 ⟨rfl,hw1⟩
    obtain rfl:wr=w1:=hw1
    go_wp2_with (at_builtin;refine wpList_append_own _ rfl _ _ 45 rfl w.heap.size 3 i0 (.int .i64 0) 1 8 Tryz.underlying45 hi0 hz0 hz1 hz2 rfl (by decide) _ _ _ rfl (hown.alloc _) ⟨wr.heap.size,0,none⟩ 1 1 [.int .i64 s] rfl rfl ?c1 ?c2 ?c3 ?c4 ?c5 ?_)
    case c1=>exact cell_one_new _ _ _
    case c2=>intro u hu;simp at hu;subst hu;rfl
    case c3=>unfold maxLen;omega
    case c4=>omega
    case c5=>have:=hbel.size;simp;omega
    intro v' w2 hown' hgrow _
    have hb2:Below w.heap.size w w2:=(hbel.alloc hbel.size _).grown hgrow (by have:=hbel.size;simp;omega) (fun g hg=>(World.ownsRow.lt hown g hg).1)
    clear hgrow hown
    go_wp2
    go_roundg (N+1 - (i+1))
    case measure=>omega
    case rel=>exact ⟨i+1,d,ls++[s],by omega,hd1,by go_num,rfl,Nat.le_refl _,by rw [List.map_append];exact hown',HP.out,hb2⟩
set_option maxHeartbeats 2000000 in
set_option maxRecDepth 100000 in
theorem rsubDigits_any (A A':Option Addr) (n c n' c' x y:Nat) (w:World) (h:DigI w A n c (digs x)) (h':DigI w A' n' c' (digs y)) (hyx:y≤x) (hn:n≤1048576) (hn':n'≤1048576) :
  Calls Tryz.prog 140 #[.slice A n c,.slice A' n' c'] w (RetNr w (x - y)):=by
 obtain ⟨i0,hi0,hz0,hz1,hz2⟩:=info_parts info_int
 have HLA:=Lib.hid h.len
 have HLB:=Lib.hid h'.len
 have hle:n'≤n:=by rw [←h.len,←h'.len];exact digs_length_mono hyx
 have HYX:=Lib.hid hyx
 clear hyx
 go_enter Tryz.func140,Tryz.ntmps140
 go_wp2
 go_loopg [5,6,7] n (fun q v5 v6 v7 W=>∃ (i b0:Nat) (ls:List Nat),i≤n∧b0≤1∧v7 = .int .i64 i∧v6 = .int .i64 b0∧n - i≤q∧W.ownsRow w.heap.size 3 1 v5 i (ls.map natv) ∧
  Hid (Wf ls∧ls.length=i∧val ls+val ((digs y).take i)=val ((digs x).take i)+B ^ i*b0)∧Below w.heap.size w W)
 case atStart=>exact ⟨0,0,[],by omega,by omega,rfl,rfl,by omega,World.ownsRow_nil _ _ _ _,⟨Wf.nil,rfl,by simp⟩,Below.refl _ _⟩
 case round=>
  obtain ⟨i,b0,ls,hi,hb0,rfl,rfl,hq,hown,hv,hbel⟩:=hrel
  by_cases hin:i<n
  ·obtain ⟨ad,hkl,rfl,hbb,hcell⟩:=(h.rd.later hbel).cellM hin
   have K2:=Lib.hid (fun q=>rdigit_any A' n' c' (digs y) i (wr.drewN q) ((h'.rd.later hbel).drewN q) (by omega))
   have hxB:=wf_digs x _ (List.getElem_mem hkl)
   have hyB:=getD_lt (wf_digs y) i
   have hgx:(digs x).getD i 0=(digs x)[i]:=by simp [List.getD,hkl]
   unfold natv at hcell
   obtain ⟨xk,hgx2⟩:∃ xk,(digs x)[i]=xk:=⟨_,rfl⟩
   rw [hgx2] at hcell hxB hgx
   obtain ⟨yk,hgy⟩:∃ yk,(digs y).getD i 0=yk:=⟨_,rfl⟩
   rw [hgy] at K2 hyB
   have HX:=Lib.hid hgx
   have HY:=Lib.hid hgy
   have hxB':xk<1000000000:=hxB
   have e1:IntKind.i64.wrap ((xk:Int) - (yk:Int))=(xk:Int) - (yk:Int):=IntWalk.i64_in _ (by omega)
   obtain ⟨z,hz⟩:∃ z:Int,z=(xk:Int) - (yk:Int) - (b0:Int):=⟨_,rfl⟩
   have e2:IntKind.i64.wrap ((xk:Int) - (yk:Int) - (b0:Int))=z:=by rw [IntWalk.i64_in _ (by omega)];exact hz.symm
   have hp1:(0:Int)≤(i:Int):=by omega
   have hp2:(i:Int)<(n:Int):=by omega
   have hownq:∀ q,(wr.drewN q).ownsRow w.heap.size 3 1 _ i (ls.map natv):=fun q=>hown
   have hbelq:=fun q=>below_drewN hbel q
   have HOWN:=Lib.hid hownq
   have HBEL:=Lib.hid hbelq
   have HZ:=Lib.hid hz
   have hsz:=hbel.size
   clear hgx hgx2 hgy hownq hbelq hown
   by_cases hneg:z<0
   case' pos=>obtain ⟨dd,hdd⟩:∃ dd:Nat,z+1000000000=(dd:Int):=⟨(z+1000000000).toNat,by omega⟩
   case' neg=>obtain ⟨dd,hdd⟩:∃ dd:Nat,z=(dd:Int):=⟨z.toNat,by omega⟩
   case' pos=>have hb1:∃ b1:Nat,b1=1:=⟨_,rfl⟩
   case' neg=>have hb1:∃ b1:Nat,b1=0:=⟨_,rfl⟩
   case' pos=>have dz:decide (z<0)=true:=by simpa using hneg
   case' neg=>have dz:decide (z<0)=false:=by simpa using hneg
   all_goals
    obtain ⟨b1,hb1⟩:=hb1
    have hddB:dd<B:=by unfold B;omega
    have HP:Hid (Wf (ls++[dd])∧(ls++[dd]).length=i+1∧val (ls++[dd])+val ((digs y).take (i+1))=val ((digs x).take (i+1))+B ^ (i+1)*b1):=by
     obtain ⟨hw,hl,hs9⟩:=hv.out
     exact ⟨hw.append (Wf.cons hddB Wf.nil),by simp [hl],sub_snoc ls _ _ i dd b0 b1 hl hs9 (by rw [HX.out,HY.out];unfold B;omega)⟩
    have HB1:=Lib.hid hb1
    clear hz hb1 hv
    go_upto_region 6 with (fail)
    go_quiet ((go_at_call 183;exact quiet_left (K2.out _)))
    clear e1 e2
    go_wp2_with (at_builtin;refine wpList_append_own _ rfl _ _ 45 rfl w.heap.size 3 i0 (.int .i64 0) 1 8 Tryz.underlying45 hi0 hz0 hz1 hz2 rfl (by decide) _ _ _ rfl ((HOWN.out _).alloc _) ⟨wr.heap.size,0,none⟩ 1 1 [.int .i64 (dd:Int)] rfl rfl ?c1 ?c2 ?c3 ?c4 ?c5 ?_)
    case c1=>first | exact cell_one_new _ _ _ | exact one_new (wr.drewN _) _ _
    case c2=>first | (intro u hu;simp at hu;subst hu;rfl) | rfl
    case c3=>unfold maxLen;omega
    case c4=>omega
    case c5=>first | (simp;omega) | omega
    intro v' w2 hown' hgrow _
    have hb2:Below w.heap.size w w2:=((HBEL.out _).alloc hsz _).grown hgrow (by simp;omega) (fun g hg=>(World.ownsRow.lt (HOWN.out 0) g hg).1)
    clear hgrow
    go_wp2
    go_roundg (n - (i+1))
    case measure=>omega
    case rel=>exact ⟨i+1,b1,ls++[dd],by omega,by have:=HB1.out;omega,by go_num,by rw [HB1.out];rfl,Nat.le_refl _,by rw [List.map_append];exact hown',HP.out,hb2⟩
  ·obtain rfl:i=n:=by omega
   obtain ⟨hw,hl,hs⟩:=hv.out
   rw [List.take_of_length_le (l:=digs y) (by rw [HLB.out];exact hle),List.take_of_length_le (l:=digs x) (by rw [HLA.out];exact Nat.le_refl _),val_digs,val_digs] at hs
   have h2:val ls<B ^ i:=by have:=val_lt hw;rwa [hl] at this
   have hvv:val ls=x - y:=Bn.minus_end _ _ _ _ _ hs h2 HYX.out hb0
   obtain ⟨A9,c9,rfl,h91,h92,h93⟩:=own_slice hown
   have ht:=rtrim_any A9 i c9 ls wr ⟨h93,h91,h92,hw⟩ (by omega)
   rw [hvv] at ht
   have HT:=Lib.hid ht
   clear ht hvv h2 hs hl hw hv hown h93
   go_wp2_with fail
   refine HT.out.mono ?_
   rintro e w1 ⟨m,rfl,hd,hb1⟩
   go_wp2
   go_ret
   exact ⟨A9,m,c9,rfl,hd,hbel.trans (hb1.mono hbel.size)⟩
def RowI (w:World) (base g n c:Nat) (l:List Nat):Prop:=w.ownsRow base 3 1 (.slice (some ⟨g,0,none⟩) n c) n (l.map natv)
section
variable {w w':World} {base g n c:Nat} {l:List Nat}
theorem RowI.len (h:RowI w base g n c l):l.length=n:=by
 have:=h.1;rw [List.length_map] at this;omega
theorem RowI.cell (h:RowI w base g n c l) (k:Nat) (hk:k<n):w.cell? ⟨g,k,none⟩=some (.int .i64 ((l.getD k 0:Nat):Int)):=by
 have hl:k<l.length:=by rw [h.len];exact hk
 rw [World.ownsRow.cellAt h k (by omega)]
 simp [natv,List.getD,hl]
theorem RowI.free (h:RowI w base g n c l) (k:Nat):w.frozen? ⟨g,k,none⟩=false:=World.ownsRow.frozenAt h k
theorem RowI.set (h:RowI w base g n c l) (k x:Nat):RowI (w.setCell ⟨g,k,none⟩ (.int .i64 (x:Int))) base g n c (l.set k x):=by
 have:=(World.ownsRow.stored h k (natv x)).1
 unfold RowI
 rw [List.map_set]
 exact this
theorem RowI.lt (h:RowI w base g n c l):base≤g∧g<w.heap.size:=World.ownsRow.lt h g rfl
theorem RowI.reads (h:RowI w base g n c l):Reads w w.heap.size 1 (some ⟨g,0,none⟩) n (l.map natv):=Reads.of_own h
theorem RowI.kept {row:Option Nat} (h:RowI w base g n c l) (hg:w.grownBy w' row) (hr:row≠some g):RowI w' base g n c l:=
 World.ownsRow.kept h hg (.inr (by simpa [Value.ownBlock] using fun e=>hr e.symm))
theorem RowI.below (h:RowI w base g n c l) (hb:Below w.heap.size w w'):RowI w' base g n c l:=
 h.kept (World.grownBy.mk hb.os hb.tape hb.output hb.size (fun i hi _=>hb.block i hi):w.grownBy w' none) (by simp)
theorem RowI.drewN (h:RowI w base g n c l) (q:Nat):RowI (w.drewN q) base g n c l:=h
theorem RowI.caps (h:RowI w base g n c l):n≤c∧c≤maxLen:=by
 rcases h.2 with ⟨h',_⟩ | ⟨g',cap',cur,h',hb,hg,hnc,hcm,hcs,htake⟩
 ·simp at h'
 ·simp only [Value.slice.injEq] at h'
  obtain ⟨_,_,rfl⟩:=h'
  exact ⟨hnc,hcm⟩
theorem RowI.dig (h:RowI w base g n c l) (hw:Wf l):DigI w (some ⟨g,0,none⟩) n c l:=⟨h.reads,h.caps.1,h.caps.2,hw⟩
end
theorem RowI.made {w1:World} {base g n:Nat} (h:w1.ownsRow base 3 1 (.slice (some ⟨g,0,none⟩) n n) n (madeCells #[Value.int .i64 0] n).toList) :
  RowI w1 base g n n (List.replicate n 0):=by
 unfold RowI
 rw [List.map_replicate]
 rwa [toList_madeCells_one] at h
def RMulInv (w wr:World) (n n':Nat) (la lb:List Nat) (i:Nat):Prop:=
 ∃ ls,RowI wr w.heap.size w.heap.size (n+n') (n+n') ls∧Wf ls∧val ls=val (la.take i)*val lb∧(∀ t,i+n'≤t→ls.getD t 0=0)∧Below w.heap.size w wr
def RMulIn (w wr:World) (n n':Nat) (la lb:List Nat) (i j c:Nat):Prop:=
 ∃ ls,RowI wr w.heap.size w.heap.size (n+n') (n+n') ls∧Wf ls∧val ls+B ^ (i+j)*c=val (la.take i)*val lb+B ^ i*(la.getD i 0*val (lb.take j))∧(∀ t,i+n'≤t→ls.getD t 0=0)∧Below w.heap.size w wr
set_option maxHeartbeats 4000000 in
set_option maxRecDepth 100000 in
theorem rmulDigits_any (A A':Option Addr) (n c n' c' x y:Nat) (w:World) (ha:DigI w A n c (digs x)) (hb:DigI w A' n' c' (digs y)) (hn:n≤1048576) (hn':n'≤1048576) :
  Calls Tryz.prog 141 #[.slice A n c,.slice A' n' c'] w fun e w'=>RetNr w (x*y) e w':=by
 obtain ⟨i0,hi0,hz0,hz1,hz2⟩:=info_parts info_int
 have hla:=ha.len
 have hlb:=hb.len
 have hvb:val (digs y)≤B ^ n':=by have:=val_lt (wf_digs y);rw [hlb] at this;omega
 have HA:=Lib.hid hla
 have HB:=Lib.hid hlb
 have HVB:=Lib.hid hvb
 clear hla hlb hvb
 go_enter Tryz.func141,Tryz.ntmps141
 go_wp2_with (at_make;refine wpList_make_full _ rfl _ _ 45 rfl w.heap.size 3 i0 (.int .i64 0) 1 Tryz.underlying45 hi0 hz0 hz1 _ _ _ _ (n+n') rfl rfl (by omega) (by omega) ?b2 ?b3 (Nat.le_refl _) ?_)
 case b2=>rw [hz2];omega
 case b3=>unfold maxLen;omega
 intro w0 hown0 hgrow0
 have hbel0:Below w.heap.size w w0:=(Below.refl _ _).grown hgrow0 (Nat.le_refl _) (fun k h=>by cases h)
 have hrow0:=RowI.made hown0
 clear hown0 hgrow0
 go_wp2
 go_loopw [6] (fun s wr=>∃ i:Nat,i≤n∧s = .int .i64 i∧RMulInv w wr n n' (digs x) (digs y) i) (fun s _=>n - (intOf s).toNat)
 case atStart=>exact ⟨0,by omega,rfl,_,hrow0,Wf.replicate _,by simp [val_replicate_zero],fun t _=>lgetD_zeros _ _,hbel0⟩
 case round=>
  obtain ⟨i,hi,rfl,ls,hrow,hwf,hval,hz,hbel⟩:=hrel
  obtain ⟨wo,rfl⟩:∃ wo:World,wo=wr:=⟨_,rfl⟩
  have HV:=Lib.hid hval
  have HZ:=Lib.hid hz
  clear hval hz
  by_cases hin:i<n
  ·obtain ⟨ad,hkl,rfl,hba,hca⟩:=(ha.rd.below hbel).cellM (k:=i) hin
   have hxB:=wf_digs x _ (List.getElem_mem hkl)
   have hgx:(digs x).getD i 0=(digs x)[i]:=by simp [List.getD,hkl]
   unfold natv at hca
   obtain ⟨f,hgf⟩:∃ f,(digs x)[i]=f:=⟨_,rfl⟩
   rw [hgf] at hca hxB hgx
   have HF:=Lib.hid hgx
   clear hgx hgf
   have hxB':f<1000000000:=hxB
   go_wp2_with fail
   go_loopw [7,8] (fun cy s wr=>∃ j c0:Nat,j≤n'∧c0≤1000000000∧s = .int .i64 j∧cy = .int .i64 c0∧RMulIn w wr n n' (digs x) (digs y) i j c0) (fun _ s _=>n' - (intOf s).toNat)
   case atStart=>exact ⟨0,0,by omega,by omega,rfl,rfl,ls,hrow,hwf,by rw [HV.out];simp,HZ.out,hbel⟩
   case round=>
    obtain ⟨j,c0,hj,hc0,rfl,rfl,l2,hrow2,hwf2,hval2,hz2',hbel2⟩:=hrel
    have HV2:=Lib.hid hval2
    have HZ2:=Lib.hid hz2'
    clear hval2 hz2'
    have hca2:=(hbel2.cell (p:=ad.add i) (by rw [block_of_add];exact hba)).trans (((hbel.cell (p:=ad.add i) (by rw [block_of_add];exact hba)).symm).trans hca)
    by_cases hjn:j<n'
    ·obtain ⟨ad',hkl',rfl,hbb,hcb⟩:=(hb.rd.below hbel2).cellM (k:=j) hjn
     have hyB:=wf_digs y _ (List.getElem_mem hkl')
     have hgy:(digs y).getD j 0=(digs y)[j]:=by simp [List.getD,hkl']
     unfold natv at hcb
     obtain ⟨yk,hgk⟩:∃ yk,(digs y)[j]=yk:=⟨_,rfl⟩
     rw [hgk] at hcb hyB hgy
     have hyB':yk<1000000000:=hyB
     have hcs:=hrow2.cell (i+j) (by omega)
     have hfs:=hrow2.free (i+j)
     have hoB:=getD_lt hwf2 (i+j)
     obtain ⟨o,hgo⟩:∃ o,l2.getD (i+j) 0=o:=⟨_,rfl⟩
     rw [hgo] at hcs hoB
     obtain ⟨p,hp⟩:∃ p,p=f*yk:=⟨_,rfl⟩
     have hpB:p≤999999999000000000:=by
      rw [hp];exact Nat.le_trans (Nat.mul_le_mul (show f≤999999999 by omega) (show yk≤1000000000 by omega)) (by decide)
     have em:(f:Int)*(yk:Int)=(p:Int):=by rw [hp];exact (Int.natCast_mul f yk).symm
     obtain ⟨t,ht⟩:∃ t,t=o+p+c0:=⟨_,rfl⟩
     obtain ⟨lo,hlo⟩:∃ lo,lo=t % B:=⟨_,rfl⟩
     obtain ⟨hi',hhi⟩:∃ hi',hi'=t / B:=⟨_,rfl⟩
     have hloB:lo<B:=by rw [hlo];exact Nat.mod_lt _ B_pos
     have ht2:t≤1000000000999999999:=by omega
     have hhiB:hi'≤1000000000:=by rw [hhi];unfold B;omega
     have e1:lo+B*hi'=f*yk+o+c0:=by rw [hlo,hhi,Nat.mod_add_div,←hp,ht];omega
     have HP:Hid (val (l2.set (i+j) lo)+B ^ (i+(j+1))*hi'=val ((digs x).take i)*val (digs y)+B ^ i*((digs x).getD i 0*val ((digs y).take (j+1)))):=
      times_round l2 (digs y) i j _ _ lo hi' c0 (by rw [hrow2.len];omega) HV2.out (by rw [hgy,hgo,HF.out];exact e1)
     have HZ3:Hid (∀ t,i+n'≤t→(l2.set (i+j) lo).getD t 0=0):=fun t ht=>by rw [lgetD_set_ne _ _ _ _ (by omega)];exact HZ2.out t ht
     have es:((t:Nat):Int) % 1000000000=(lo:Int):=by rw [hlo];unfold B;omega
     have ed:((t:Nat):Int) / 1000000000=(hi':Int):=by rw [hhi];unfold B;omega
     have ew1:IntKind.i64.wrap ((i:Int)+(j:Int))=((i+j:Nat):Int):=by rw [IntWalk.i64_in _ (by omega)];omega
     have ew2:IntKind.i64.wrap ((f:Int)*(yk:Int))=(p:Int):=by rw [em,IntWalk.i64_in _ (by omega)]
     obtain ⟨op,hop⟩:∃ op:Nat,op=o+p:=⟨_,rfl⟩
     have ew3:IntKind.i64.wrap ((o:Int)+(p:Int))=(op:Int):=by rw [IntWalk.i64_in _ (by omega)];omega
     have ew4:IntKind.i64.wrap ((op:Int)+(c0:Int))=(t:Int):=by rw [IntWalk.i64_in _ (by omega)];omega
     have q1:(0:Int)≤((i+j:Nat):Int):=by omega
     have q2:((i+j:Nat):Int)<((n+n':Nat):Int):=by omega
     have q3:(0:Int)≤(i:Int):=by omega
     have q4:(i:Int)<(n:Int):=by omega
     have q5:(0:Int)≤(j:Int):=by omega
     have q6:(j:Int)<(n':Int):=by omega
     clear e1 hgy hgo hp ht hlo hhi hgk em hop
     have hrow3:=Lib.hid (fun q=>(hrow2.drewN q).set (i+j) lo)
     have hwf3:=Lib.hid (hwf2.set (i+j) hloB)
     have hbel3:=Lib.hid (fun q=>below_drewN hbel2 q)
     go_upto_region 9 with (fail)
     go_quiet (fail)
     clear ew1 ew2 ew3 ew4 q1 q2 q3 q4 q5 q6
     go_wp2
     go_roundw
     case rel=>exact ⟨j+1,hi',by omega,hhiB,by go_num,rfl,_,hrow3.out _,hwf3.out,HP.out,HZ3.out,(hbel3.out _).setCell (Nat.le_refl _) _⟩
     case measure=>simp [intOf]<;>omega
    ·obtain rfl:j=n':=by omega
     have hcs:=hrow2.cell (i+j) (by omega)
     have hfs:=hrow2.free (i+j)
     have hlen:i+j<l2.length:=by rw [hrow2.len];omega
     have HP:Hid (val (l2.set (i+j) c0)=val ((digs x).take (i+1))*val (digs y)):=
      times_row l2 (digs x) (digs y) i j c0 hlen (HZ2.out _ (Nat.le_refl _)) HB.out HV2.out
     have hcB:Hid (c0<B):=carry_lt l2 (digs x) (digs y) i j c0 hlen HP.out (wf_digs x) HVB.out
     have HZ3:Hid (∀ t,i+1+j≤t→(l2.set (i+j) c0).getD t 0=0):=fun t ht=>by rw [lgetD_set_ne _ _ _ _ (by omega)];exact HZ2.out t (by omega)
     rw [HZ2.out _ (Nat.le_refl _)] at hcs
     replace hcs:wr.cell? ⟨w.heap.size,i+j,none⟩=some (.int .i64 0):=hcs
     clear hlen
     go_wp2
     go_roundw
     case rel=>exact ⟨i+1,by omega,by go_num,_,hrow2.set (i+j) c0,hwf2.set _ hcB.out,HP.out,HZ3.out,hbel2.setCell (Nat.le_refl _) _⟩
     case measure=>simp [intOf]<;>omega
  ·obtain rfl:i=n:=by omega
   have hv:val ls=x*y:=by rw [HV.out,List.take_of_length_le (by rw [HA.out];exact Nat.le_refl _),val_digs,val_digs]
   have ht:=rtrim_any (some ⟨w.heap.size,0,none⟩) (i+n') (i+n') ls wo (hrow.dig hwf) (by omega)
   rw [hv] at ht
   have HC:=Lib.hid ht
   clear ht hv
   go_wp2_with fail
   refine HC.out.mono ?_
   rintro e w1 ⟨m,rfl,hn1,hb1⟩
   go_wp2
   go_ret
   exact ⟨_,m,_,rfl,hn1,hbel.trans (hb1.mono hbel.size)⟩
theorem div_digit (a X d:Nat) (hd:0<d):(a+B*X) / d=(B*(X % d)+a) / d+B*(X / d)∧(a+B*X) % d=(B*(X % d)+a) % d:=by
 have hX:=Nat.mod_add_div X d
 have e:a+B*X=B*(X % d)+a+d*(B*(X / d)):=by
  conv=>lhs;rw [←hX]
  rw [Nat.mul_add,Nat.mul_left_comm B d]
  omega
 constructor
 ·rw [e,Nat.add_mul_div_left _ _ hd]
 ·rw [e,Nat.add_mul_mod_self_left]
set_option maxHeartbeats 2000000 in
set_option maxRecDepth 100000 in
theorem rdivDigit_any (A:Option Addr) (n c d:Nat) (la:List Nat) (w:World) (h:DigI w A n c la) (hd:0<d) (hdB:d<B) (hn:n≤1048576) :
  Calls Tryz.prog 167 #[.slice A n c,.int .i64 (d:Int)] w fun e w'=>∃ A' m c',e = .returned (.tuple #[.slice A' m c',.int .i64 ((val la % d:Nat):Int)])∧DigI w' A' m c' (digs (val la / d))∧Below w.heap.size w w':=by
 obtain ⟨i0,hi0,hz0,hz1,hz2⟩:=info_parts info_int
 have hla:=h.len
 have HLA:=Lib.hid hla
 have HWA:=Lib.hid h.wf
 have hdB':d<1000000000:=hdB
 clear hla hdB
 go_enter Tryz.func167,Tryz.ntmps167
 go_wp2_with (at_make;refine wpList_make_full _ rfl _ _ 45 rfl w.heap.size 3 i0 (.int .i64 0) 1 Tryz.underlying45 hi0 hz0 hz1 _ _ _ _ n rfl rfl (by omega) (by omega) ?b2 ?b3 (Nat.le_refl _) ?_)
 case b2=>rw [hz2];omega
 case b3=>unfold maxLen;omega
 intro w0 hown0 hgrow0
 have hbel0:Below w.heap.size w w0:=(Below.refl _ _).grown hgrow0 (Nat.le_refl _) (fun k h=>by cases h)
 have hrow0:=RowI.made hown0
 clear hown0 hgrow0
 go_wp2
 go_loopg [7,8] n (fun q r s W=>∃ (k rs:Nat) (ls:List Nat),k≤n∧s = .int .i64 ((k:Int) - 1)∧r = .int .i64 (rs:Int)∧rs<d∧k≤q∧RowI W w.heap.size w.heap.size n n ls∧Hid (Wf ls∧val (ls.drop k)=val (la.drop k) / d∧rs=val (la.drop k) % d)∧Below w.heap.size w W)
 case atStart=>exact ⟨n,0,_,Nat.le_refl _,rfl,rfl,hd,Nat.le_refl _,hrow0,⟨Wf.replicate _,by rw [List.drop_of_length_le (by simp),List.drop_of_length_le (by rw [HLA.out];exact Nat.le_refl _)];simp,by rw [List.drop_of_length_le (by rw [HLA.out];exact Nat.le_refl _)];simp⟩,hbel0⟩
 case round=>
  obtain ⟨k,rs,ls,hk,rfl,rfl,hrs,hq,hrow,hv,hbel⟩:=hrel
  by_cases h0:0<k
  ·obtain ⟨i,rfl⟩:∃ i:Nat,k=i+1:=⟨k - 1,by omega⟩
   have e1:((i+1:Nat):Int) - 1=(i:Int):=by omega
   rw [e1]
   obtain ⟨ad,hkl,rfl,hbb,hcell⟩:=(h.rd.below hbel).cellM (k:=i) (by omega)
   have hxB:=HWA.out _ (List.getElem_mem hkl)
   have hdr:la.drop i=la[i] :: la.drop (i+1):=List.drop_eq_getElem_cons hkl
   unfold natv at hcell
   obtain ⟨a,hga⟩:∃ a,la[i]=a:=⟨_,rfl⟩
   rw [hga] at hcell hxB hdr
   have hxB':a<1000000000:=hxB
   obtain ⟨t,ht⟩:∃ t,t=rs*1000000000+a:=⟨_,rfl⟩
   have ht2:t<1000000000*d:=by
    have:(rs+1)*1000000000≤d*1000000000:=Nat.mul_le_mul_right _ hrs
    rw [ht];omega
   have ht3:t<1000000000000000000:=by omega
   obtain ⟨q1,hq1⟩:∃ q1,q1=t / d:=⟨_,rfl⟩
   obtain ⟨r1,hr1⟩:∃ r1,r1=t % d:=⟨_,rfl⟩
   have hr1d:r1<d:=by rw [hr1];exact Nat.mod_lt _ hd
   have hq1B:q1<B:=by rw [hq1];exact (Nat.div_lt_iff_lt_mul hd).2 ht2
   have HP:Hid (Wf (ls.set i q1)∧val ((ls.set i q1).drop i)=val (la.drop i) / d∧r1=val (la.drop i) % d):=by
    obtain ⟨hw,h1,h2⟩:=hv.out
    obtain ⟨s1,s2⟩:=div_digit a (val (la.drop (i+1))) d hd
    refine ⟨hw.set _ hq1B,?_,?_⟩
    ·rw [val_drop_set _ _ _ (by rw [hrow.len];omega),h1,hdr,val_cons,s1,hq1,ht,h2]
     rw [Nat.mul_comm (val (la.drop (i+1)) % d) 1000000000]
     rfl
    ·rw [hdr,val_cons,s2,hr1,ht,h2,Nat.mul_comm (val (la.drop (i+1)) % d) 1000000000]
     rfl
   have et:(rs:Int)*1000000000+(a:Int)=(t:Int):=by omega
   have ed:(t:Int) / (d:Int)=(q1:Int):=by rw [hq1];exact (Int.natCast_ediv t d).symm
   have em:(t:Int) % (d:Int)=(r1:Int):=by rw [hr1];exact (Int.natCast_emod t d).symm
   have hd0:((d:Int)==0)=false:=by rw [beq_eq_false_iff_ne];omega
   have hfs:=hrow.free i
   have hcs:=hrow.cell i (by omega)
   generalize ls.getD i 0=old at hcs
   have HR:=Lib.hid (hrow.set i q1)
   have HEM:=Lib.hid em
   have hq1B':q1<1000000000:=hq1B
   clear hga hdr ht hq1 hr1 hv e1
   go_wp2
   go_roundg i
   case measure=>omega
   case rel=>exact ⟨i,r1,_,by omega,rfl,by first | rfl | rw [HEM.out],hr1d,Nat.le_refl _,HR.out,HP.out,hbel.setCell (Nat.le_refl _) _⟩
  ·obtain rfl:k=0:=by omega
   obtain ⟨hw,h1,h2⟩:=hv.out
   rw [List.drop_zero,List.drop_zero] at h1
   rw [List.drop_zero] at h2
   have ht:=rtrim_any (some ⟨w.heap.size,0,none⟩) n n ls wr (hrow.dig hw) (by omega)
   rw [h1] at ht
   have HC:=Lib.hid ht
   have H2:=Lib.hid h2
   clear ht h1 h2 hv
   go_wp2_with fail
   refine HC.out.mono ?_
   rintro e w1 ⟨m,rfl,hn1,hb1⟩
   go_wp2
   go_ret2
   exact ⟨_,m,_,by rw [H2.out];rfl,hn1,hbel.trans (hb1.mono hbel.size)⟩
theorem RatD.zero (w:World) (B:Nat):RatD w B (.agg #[.bool false,.slice none 0 0,.slice none 0 0]) ⟨false,0,0⟩:=⟨none,0,0,none,0,0,rfl,NatD.zero _ _,NatD.zero _ _⟩
end Go.Proofs.YteajibbphcfmeaaGreatDoor
