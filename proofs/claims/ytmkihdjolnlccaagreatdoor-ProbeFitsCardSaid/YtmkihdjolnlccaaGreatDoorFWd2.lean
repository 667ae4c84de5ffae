/- Contract of probe's Words, of valid lines. -/
import Derived.Test.YtmkihdjolnlccaaGreatDoorFAw6
import Derived.Laws.BitsAllLaws
import Derived.Test.YtmkihdjolnlccaaGreatDoorFWords
import Derived.Laws.CopyOwn
import Derived.StillTailTactics
import Derived.IntWalk
import Derived.Test.YtmkihdjolnlccaaGreatDoorFAlg
import Derived.Deep.RegionHeld3
import Derived.Deep.MidRow
import Derived.Maps.AppendAt
import Derived.Test.YtmkihdjolnlccaaGreatDoorFCSm
import Derived.Test.YtmkihdjolnlccaaGreatDoorFInv
namespace Go.Proofs.YtmkihdjolnlccaaGreatDoor
open Go.RowKit
theorem info_u16:(Tryz.prog.info? 111).map (fun i=>(i.zero,i.size,i.bytes))=some (some (.int .u16 0),1,2):=by kernel_rfl
theorem u16_mod (z:Int):IntKind.u16.wrap z=z % 65536:=by
 first | rfl | (unfold IntKind.wrap;rfl) | (unfold IntKind.wrap IntKind.signed IntKind.bits;simp)
theorem or16 (x b:Nat) (hb:b<16) (hx:x<2 ^ b):bits BinOp.or IntKind.u16 (x:Int) (IntKind.u16.wrap (2 ^ b))=((x+2 ^ b:Nat):Int):=by
 have h1:2 ^ b≤2 ^ 15:=Nat.pow_le_pow_right (by omega) (by omega)
 have e15:(2:Nat) ^ 15=32768:=by decide
 have hc:(2:Int) ^ b=((2 ^ b:Nat):Int):=by rw [Int.natCast_pow];rfl
 have e1:IntKind.u16.wrap ((2:Int) ^ b)=((2 ^ b:Nat):Int):=by rw [hc,u16_mod];omega
 have h2:=Nat.two_pow_add_eq_or_of_lt hx 1
 rw [Nat.mul_one] at h2
 rw [e1,u16_or_nat x _ (by omega) (by omega),Nat.or_comm,←h2,Nat.add_comm]
set_option maxHeartbeats 4000000 in
set_option maxRecDepth 100000 in
theorem words_ok (A:Option Addr) (n c m:Nat) (rows:List (List Bool)) (w:World) (h:RowsR boolv w w.heap.size A n rows) (h0:1≤n) (hn:n≤16) (hm:∀ r ∈ rows,r.length=m) (hm2:m≤4096) :
  Calls Tryz.prog 59 #[.slice A n c] w fun e w'=>∃ g,e = .returned (.tuple #[.slice (some ⟨g,0,none⟩) m m,.int .i64 0])∧w'.ownsRow w.heap.size 111 1 (.slice (some ⟨g,0,none⟩) m m) m (((List.range m).map (wd rows)).map u16v)∧Below w.heap.size w w':=by
 obtain ⟨i0,hi0,hz0,hz1,hz2⟩:=info_parts info_u16
 have HCL:=Lib.hid (checkLines_ok A n c m rows w h h0 hn hm hm2)
 have hrl:=h.1
 have HM:=Lib.hid hm
 have HRL:=Lib.hid hrl
 clear hm hrl
 have hp0:(0:Int)<(n:Int):=by omega
 have hp1:0<n:=by omega
 go_enter Tryz.func59,Tryz.ntmps59
 go_wp2_with fail
 refine HCL.out.mono ?_
 rintro e w1 ⟨rfl,hb1⟩
 obtain ⟨ad,hr0,A0,c0,rfl,hb0,hc0,_,_,_⟩:=(h.later hb1).row (k:=0) hp1
 have hz:Addr.add ad 0=ad:=rfl
 rw [hz,HM.out rows[0] (List.getElem_mem hr0)] at hc0
 clear hz
 go_wp2_with (at_make;refine wpList_make_full _ rfl _ _ 101 rfl w1.heap.size 111 i0 (.int .u16 0) 1 Tryz.underlying101 hi0 hz0 hz1 _ _ _ _ m rfl rfl (by omega) (by omega) ?b2 ?b3 (Nat.le_refl _) ?_)
 case b2=>rw [hz2];omega
 case b3=>unfold maxLen;omega
 intro w2 hown0 hgrow0
 rw [toList_madeCells_one] at hown0
 have hb2:Below w1.heap.size w1 w2:=gnone hgrow0 (Nat.le_refl _)
 have hB2:Below w.heap.size w w2:=hb1.trans (hb2.mono hb1.size)
 have hle:=hb1.size
 have hown1:w2.ownsRow w1.heap.size 111 1 (.slice (some ⟨w1.heap.size,0,none⟩) m m) m ((wdRow rows m 0 0).map u16v):=by
  rw [wdRow_zero,List.map_replicate]
  simpa [u16v] using hown0
 clear hown0 hgrow0 hc0
 generalize w1.heap.size=G at *
 go_wp2
 go_loopg [21] n (fun q s W=>∃ b:Nat,b≤n∧s = .int .i64 b∧n - b≤q∧W.ownsRow G 111 1 (.slice (some ⟨G,0,none⟩) m m) m ((wdRow rows m b 0).map u16v)∧Below w.heap.size w W)
 case atStart=>exact ⟨0,Nat.zero_le _,rfl,by omega,hown1,hB2⟩
 case round=>
  obtain ⟨b,hb,rfl,hq,hown,hbel⟩:=hrel
  by_cases hbn:b<n
  ·obtain ⟨ad',hbl,A',c',he,hbb,hcl,_,_,hrd⟩:=(h.below hbel).row hbn
   injection he with he
   subst he
   have hlen:=HM.out rows[b] (List.getElem_mem hbl)
   rw [hlen] at hcl hrd
   have HLEN:=Lib.hid hlen
   clear hlen
   go_wp2
   obtain ⟨wo,hwo⟩:∃ wo:World,wo=wr:=⟨_,rfl⟩
   subst hwo
   go_loopg [29] m (fun q s W=>∃ i:Nat,i≤m∧s = .int .i64 i∧m - i≤q∧W.ownsRow G 111 1 (.slice (some ⟨G,0,none⟩) m m) m ((wdRow rows m b i).map u16v)∧Below w.heap.size w W∧Reads W w.heap.size 1 A' m (rows[b].map boolv))
   case atStart=>exact ⟨0,Nat.zero_le _,rfl,by omega,hown,hbel,hrd⟩
   case round=>
    obtain ⟨i,hi,rfl,hq2,hown,hbel,hrd⟩:=hrel
    by_cases him:i<m
    ·obtain ⟨ad2,hil,rfl,hb2',hcell⟩:=hrd.cellM him
     have hwt:=wd_take rows b i hbl
     have hlt:=wd_lt (rows.take b) i
     have hgd:rows[b].getD i false=rows[b][i]:=by simp [List.getD,hil]
     rw [hgd] at hwt
     unfold boolv at hcell
     generalize rows[b][i]=x at *
     cases x
     ·have hsk:=wdRow_skip rows m b i him (by simpa using hwt)
      have HSK:=Lib.hid hsk
      clear hsk hwt hlt hgd
      go_wp2
      go_roundg (m - (i+1))
      case measure=>omega
      case rel=>exact ⟨i+1,by omega,by go_num,Nat.le_refl _,by rw [←HSK.out];exact hown,hbel,hrd⟩
     ·have hcw:=World.ownsRow.cellAt hown i (by omega)
      rw [List.getElem?_map,wdRow_at _ _ _ _ _ him,if_neg (Nat.lt_irrefl _)] at hcw
      have hfw:=own_free hown i
      unfold u16v at hcw
      simp only [Option.map_some] at hcw
      have HV:Hid (bits BinOp.or IntKind.u16 ((wd (rows.take b) i:Nat):Int) (IntKind.u16.wrap (2 ^ b))=((wd (rows.take (b+1)) i:Nat):Int)):=by
       rw [List.length_take,Nat.min_eq_left (by omega)] at hlt
       unfold Hid
       rw [or16 _ b (by omega) hlt,hwt,if_pos rfl]
      clear hwt hlt hgd
      go_wp2
      go_region
      go_wp2
      go_roundg (m - (i+1))
      case measure=>omega
      case rel=>
       refine ⟨i+1,by omega,by go_num,Nat.le_refl _,?_,?_,?_⟩
       ·rw [HV.out]
        have h9:=own_set hown i (u16v (wd (rows.take (b+1)) i))
        rw [←List.map_set,wdRow_set rows m b i _ him rfl] at h9
        exact h9
       ·exact (hbel.setCell (p:=⟨G,i,none⟩) hle _).drew
       ·exact hrd.setCell (p:=⟨G,i,none⟩) hle _
    ·obtain rfl:i=m:=by omega
     rw [wdRow_next] at hown
     go_wp2
     go_roundg (n - (b+1))
     case measure=>omega
     case rel=>exact ⟨b+1,by omega,by go_num,Nat.le_refl _,hown,hbel⟩
  ·obtain rfl:b=n:=by omega
   rw [wdRow_end rows m b HRL.out] at hown
   go_wp2
   go_ret2
   exact ⟨_,rfl,own_mono hown hle,hbel⟩
end Go.Proofs.YtmkihdjolnlccaaGreatDoor
namespace Go.Proofs.YtmkihdjolnlccaaGreatDoor
def flatB {α:Type} (z : α) (ws:List α) (k i:Nat):List α:=ws.take (16*i)++List.replicate (16*k - min (16*i) ws.length) z
theorem flatB_zero {α:Type} (z : α) (ws:List α) (k:Nat):flatB z ws k 0=List.replicate (16*k) z:=by simp [flatB]
theorem flatB_len {α:Type} (z : α) (ws:List α) (k i:Nat) (h:i≤k):(flatB z ws k i).length=16*k:=by
 unfold flatB
 rw [List.length_append,List.length_take,List.length_replicate]
 omega
theorem flatB_step {α:Type} (z : α) (ws:List α) (k i:Nat) (hi:16*i<ws.length) (hk:ws.length≤16*k):splice (flatB z ws k i) (16*i) ((ws.drop (16*i)).take 16)=flatB z ws k (i+1):=by
 unfold splice flatB
 have hl:(ws.take (16*i)).length=16*i:=by rw [List.length_take];omega
 have e1:(ws.take (16*i)++List.replicate (16*k - min (16*i) ws.length) z).take (16*i)=ws.take (16*i):=by
  rw [List.take_append_of_le_length (by omega),List.take_of_length_le (by omega)]
 have hc:((ws.drop (16*i)).take 16).length=min 16 (ws.length - 16*i):=by rw [List.length_take,List.length_drop]
 have e2:(ws.take (16*i)++List.replicate (16*k - min (16*i) ws.length) z).drop (16*i+((ws.drop (16*i)).take 16).length)=List.replicate (16*k - min (16*(i+1)) ws.length) z:=by
  rw [hc,List.drop_append,List.drop_eq_nil_of_le (by omega),List.nil_append,List.drop_replicate,hl]
  congr 1
  omega
 rw [e1,e2,←List.append_assoc]
 congr 1
 rw [show 16*(i+1)=16*i+16 from by omega,List.take_add]
theorem flatB_end {α:Type} (z : α) (ws:List α) (k:Nat) (hk:ws.length≤16*k):flatB z ws k k=ws++List.replicate (16*k - ws.length) z:=by
 unfold flatB
 rw [List.take_of_length_le hk,Nat.min_eq_right hk]
end Go.Proofs.YtmkihdjolnlccaaGreatDoor
namespace Go.Proofs.YtmkihdjolnlccaaGreatDoor
open Go.RowKit
theorem info_blk:(Tryz.prog.info? 112).map (fun i=>(i.zero,i.size,i.bytes))=some (some (.agg #[.int .u16 0,.int .u16 0,.int .u16 0,.int .u16 0,.int .u16 0,.int .u16 0,.int .u16 0,.int .u16 0,.int .u16 0,.int .u16 0,.int .u16 0,.int .u16 0,.int .u16 0,.int .u16 0,.int .u16 0,.int .u16 0]),16,32):=by kernel_rfl
theorem made_blk (k:Nat):(madeCells #[Value.int .u16 0,.int .u16 0,.int .u16 0,.int .u16 0,.int .u16 0,.int .u16 0,.int .u16 0,.int .u16 0,.int .u16 0,.int .u16 0,.int .u16 0,.int .u16 0,.int .u16 0,.int .u16 0,.int .u16 0,.int .u16 0] k).toList=List.replicate k (u16v 0):=by
 apply List.ext_getElem?
 intro j
 by_cases hj:j<k
 ·have h16:j % 16<16:=Nat.mod_lt _ (by omega)
  rw [List.getElem?_replicate,if_pos hj]
  simp [madeCells,hj]
  generalize j % 16=q at *
  rcases (show q=0∨q=1∨q=2∨q=3∨q=4∨q=5∨q=6∨q=7∨q=8∨q=9∨q=10∨q=11∨q=12∨q=13∨q=14∨q=15 from by omega) with rfl | rfl | rfl | rfl | rfl | rfl | rfl | rfl | rfl | rfl | rfl | rfl | rfl | rfl | rfl | rfl<;>rfl
 ·simp [madeCells,hj]
theorem blocksFor_any (n:Nat) (w:World) (hn:n≤4096):Calls Tryz.prog 138 #[.int .i64 n] w fun e w'=>e = .returned (.int .i64 ((n+15) / 16:Nat))∧w=w':=by
 have e1:((n:Int)+16 - 1) / 16=(((n+15) / 16:Nat):Int):=by omega
 have HE:=Lib.hid e1
 clear e1
 go_enter Tryz.func138,Tryz.ntmps138
 go_wp2
 go_ret
 exact ⟨by rw [←HE.out];rfl,rfl⟩
set_option maxHeartbeats 600000 in
set_option maxRecDepth 100000 in
theorem blocks_ok (A:Option Addr) (n c:Nat) (ws:List Nat) (w:World) (h:Reads w w.heap.size 1 A n (ws.map u16v)) (hn:n≤4096) (hnc:n≤c) (_hc:c≤maxLen) :
  Calls Tryz.prog 60 #[.slice A n c] w fun e w'=>∃ g,e = .returned (.tuple #[.slice (some ⟨g,0,none⟩) ((n+15) / 16) ((n+15) / 16),.int .i64 0]) ∧
   w'.ownsRow w.heap.size 112 16 (.slice (some ⟨g,0,none⟩) ((n+15) / 16) ((n+15) / 16)) ((n+15) / 16) (ws.map u16v++List.replicate (16*((n+15) / 16) - n) (u16v 0))∧Below w.heap.size w w':=by
 obtain ⟨i0,hi0,hz0,hz1,hz2⟩:=info_parts info_blk
 have e1:(if (4096:Int)<(n:Int) then (5:Int) else 0)=0:=if_neg (by omega)
 have H1:=catMost_u16 A n c 4096 w
 rw [e1] at H1
 have K1:=Lib.hid H1
 have K2:=Lib.hid (blocksFor_any n w hn)
 have hk1:n≤16*((n+15) / 16):=by omega
 have hk2:∀ i,i<(n+15) / 16→16*i<n:=fun i hi=>by omega
 have hk3:(n+15) / 16≤4096:=by omega
 have hwl:=h.lenM
 have HK2:=Lib.hid hk2
 have HWL:=Lib.hid hwl
 clear H1 e1 hk2 hwl
 unfold maxLen at _hc
 generalize (n+15) / 16=k at *
 go_enter Tryz.func60,Tryz.ntmps60
 go_wp2_with fail
 refine K1.out.mono ?_
 rintro e w1 ⟨rfl,rfl⟩
 go_wp2_with fail
 refine K2.out.mono ?_
 rintro e w1 ⟨rfl,rfl⟩
 go_wp2_with (at_make;refine wpList_make_full _ rfl _ _ 105 rfl w.heap.size 112 i0 _ 16 Tryz.underlying105 hi0 hz0 hz1 _ _ _ _ k rfl rfl (by omega) (by omega) ?b2 ?b3 (Nat.le_refl _) ?_)
 case b2=>rw [hz2];omega
 case b3=>unfold maxLen;omega
 intro w2 hown0 hgrow0
 have hB2:Below w.heap.size w w2:=gnone hgrow0 (Nat.le_refl _)
 have hown1:w2.ownsRow w.heap.size 112 16 (.slice (some ⟨w.heap.size,0,none⟩) k k) k (flatB (u16v 0) (ws.map u16v) k 0):=by
  rw [flatB_zero,Nat.mul_comm 16 k,←made_blk]
  exact hown0
 clear hown0 hgrow0
 go_wp2
 go_loopg [18] k (fun q s W=>∃ i:Nat,i≤k∧s = .int .i64 i∧k - i≤q∧W.ownsRow w.heap.size 112 16 (.slice (some ⟨w.heap.size,0,none⟩) k k) k (flatB (u16v 0) (ws.map u16v) k i)∧Below w.heap.size w W)
 case atStart=>exact ⟨0,Nat.zero_le _,rfl,by omega,hown1,hB2⟩
 case round=>
  obtain ⟨i,hi,rfl,hq,hown,hbel⟩:=hrel
  by_cases h0:i<k
  ·have hin:=HK2.out i h0
   obtain ⟨ad,e,hb,hcell⟩:=(h.below hbel).2 (by omega)
   subst e
   have b1:(0:Int)≤(i:Int)*16:=by omega
   have b2:(i:Int)*16≤(n:Int):=by omega
   have b3:((i:Int)*16).toNat=i*16:=by omega
   have b4:c≠i*16:=by omega
   have b5:IntKind.i64.wrap ((i:Int)*16)=(i:Int)*16:=IntWalk.i64_in _ (by omega)
   have hblk:=own_block hown
   have hWl:(ws.map u16v).length=n:=by rw [List.length_map];exact HWL.out
   have hst:=flatB_step (u16v 0) (ws.map u16v) k i (by rw [hWl];exact hin) (by rw [hWl];exact hk1)
   have hfl:=flatB_len (u16v 0) (ws.map u16v) k i (by omega)
   have hfl2:=flatB_len (u16v 0) (ws.map u16v) k (i+1) (by omega)
   have hcl:(((ws.map u16v).drop (16*i)).take 16).length=min 16 (n - 16*i):=by rw [List.length_take,List.length_drop,hWl]
   have hsrc:∀ j v,(((ws.map u16v).drop (16*i)).take 16)[j]? = some v→wr.cell? ((ad.add (i*16)).add j)=some v:=by
    intro j v hj
    rw [add_of_add,Nat.mul_comm]
    refine hcell _ v ?_
    rw [List.getElem?_take] at hj
    split at hj
    ·rw [List.getElem?_drop] at hj;exact hj
    ·cases hj
   have hone:∀ v ∈ ((ws.map u16v).drop (16*i)).take 16,v.oneCell'=true:=fun v hv=>u16v_one ws v (List.mem_of_mem_drop (List.mem_of_mem_take hv))
   generalize flatB (u16v 0) (ws.map u16v) k i=F0 at *
   generalize hF1:flatB (u16v 0) (ws.map u16v) k (i+1)=F1 at *
   have HE1:=Lib.hid hF1
   clear hF1
   generalize ((ws.map u16v).drop (16*i)).take 16=cs at *
   rw [Nat.mul_comm 16 i] at hst
   have HST:=Lib.hid hst
   have HF0:=Lib.hid hfl
   have HF1:=Lib.hid hfl2
   have HCL:=Lib.hid hcl
   have HSRC:=Lib.hid hsrc
   have HBLK:=Lib.hid hblk
   have HN:Hid (cs.length=Nat.min (n - i*16) 16):=by
    unfold Hid
    rw [hcl,Nat.mul_comm 16 i]
    exact Nat.min_comm _ _
   have HFIT:Hid (i*16+cs.length≤F0.length):=by
    unfold Hid
    rw [hcl,hfl]
    omega
   have info63:(Tryz.prog.info? 111).map (·.size)=some 1:=by kernel_rfl
   clear hst hfl hfl2 hcl hsrc hblk hcell hWl hown
   go_wp2
   go_still_tail 8,(by kernel_rfl)
   change wpList _ _ _ _ _ wr.drew
   refine wpList_copy_splice rfl (.tmp 24) (.tmp 28) 101 101 rfl 111 Tryz.underlying101 info63 (some ⟨w.heap.size,i*16,none⟩) (some (ad.add (i*16))) 16 16 (n - i*16) (c - i*16) rfl rfl w.heap.size (i*16) F0 112 HBLK.out cs HN.out (fun _=>⟨rfl,_,rfl,HSRC.out⟩) HFIT.out hone w.heap.size w hbel.drew (Nat.le_refl _) ?_
   intro w4 hg4 hb4
   rw [HST.out] at hg4
   go_wp2
   go_roundg (k - (i+1))
   case measure=>omega
   case rel=>exact ⟨i+1,by omega,by go_num,Nat.le_refl _,by rw [HE1.out];exact own_of_block hg4.out (Nat.le_refl _) (by unfold maxLen;omega) (by rw [HF1.out,Nat.mul_comm]),hb4⟩
  ·obtain rfl:i=k:=by omega
   rw [flatB_end _ _ _ (by rw [List.length_map,HWL.out];exact hk1),List.length_map,HWL.out] at hown
   go_wp2
   go_ret2
   exact ⟨_,rfl,hown,hbel⟩
end Go.Proofs.YtmkihdjolnlccaaGreatDoor
namespace Go.Proofs.YtmkihdjolnlccaaGreatDoor
open Go.RowKit
open Flt
theorem info_fls:(Tryz.prog.info? 26).map (fun i=>(i.zero,i.size,i.bytes))=some (some (.slice none 0 0),1,24):=by kernel_rfl
theorem cpz_enter (args:Array Value) (w:World):(callFunc 143 args).run Tryz.prog w = .ok (.enter 143 args) w:=by kernel_rfl
theorem trn_posz (A:Option Addr) (n c:Nat) (l:List Nat) (w:World) (h:Reads w w.heap.size 1 A n (l.map f32v)) (hn:n≤4096) :
  Calls Tryz.prog 142 #[.slice A n c,.func (.func 143) #[] #[]] w fun e w'=>
   e = .returned (.slice (some ⟨w.heap.size,0,none⟩) n n)∧w'.ownsRow w.heap.size 64 1 (.slice (some ⟨w.heap.size,0,none⟩) n n) n ((l.map posz).map f32v)∧Below w.heap.size w w':=by
 have hl:=h.lenM
 have HT:=trn_ff 143 #[] none (fun _ _=>True) A n c (l.map f32v) (l.map posz) w cpz_enter hn h (by rw [List.length_map];exact hl) (fun b hb=>by cases hb) trivial (fun _ _ _ _ _=>trivial) (by
  intro W i x y hi hg _ hx hy
  have hil:i<l.length:=by omega
  rw [List.getElem?_map,List.getElem?_eq_getElem hil] at hx hy
  injection hx with hx
  injection hy with hy
  subst hx
  subst hy
  refine (cposZero_any l[i] W).mono ?_
  rintro e w' ⟨rfl,rfl⟩
  exact ⟨rfl,grown_self _ _,trivial⟩)
 refine HT.mono ?_
 rintro e w' ⟨he,ho,hg,_⟩
 exact ⟨he,ho,gnone hg (Nat.le_refl _)⟩
def Laid (W:World) (B G m:Nat) (gs:List Nat) (rows:List (List Nat)):Prop:=
 gs.length=rows.length∧∀ i (h:i<rows.length) (h2:i<gs.length),G<gs[i]∧rows[i].length=m∧W.ownsRow B 64 1 (.slice (some ⟨gs[i],0,none⟩) m m) m (rows[i].map f32v)
def sl1 (m g:Nat):Value := .slice (some ⟨g,0,none⟩) m m
theorem Laid.below {W W':World} {B G m:Nat} {gs:List Nat} {rows:List (List Nat)} (h:Laid W B G m gs rows) (hb:Below W.heap.size W W'):Laid W' B G m gs rows:=
 ⟨h.1,fun i hi h2=>by
  obtain ⟨h3,h4,h5⟩:=h.2 i hi h2
  exact ⟨h3,h4,own_kept h5 (only_of_below hb none) (by simp)⟩⟩
theorem Laid.set {W:World} {B G m:Nat} {gs:List Nat} {rows:List (List Nat)} (h:Laid W B G m gs rows) (k:Nat) (u:Value):Laid (W.setCell ⟨G,k,none⟩ u) B G m gs rows:=
 ⟨h.1,fun i hi h2=>by
  obtain ⟨h3,h4,h5⟩:=h.2 i hi h2
  exact ⟨h3,h4,own_kept h5 (only_setCell (g:=G) (only_of_below (Below.refl _ _) _) (p:=⟨G,k,none⟩) (.inl rfl) u) (by intro e;injection e with e;omega)⟩⟩
theorem Laid.snoc {W:World} {B G m g:Nat} {gs:List Nat} {rows:List (List Nat)} {r:List Nat} (h:Laid W B G m gs rows) (hg:G<g) (hr:r.length=m) (ho:W.ownsRow B 64 1 (.slice (some ⟨g,0,none⟩) m m) m (r.map f32v)):Laid W B G m (gs++[g]) (rows++[r]):=by
 refine ⟨by rw [List.length_append,List.length_append,h.1];rfl,fun i hi h2 => ?_⟩
 have hl:=h.1
 by_cases hlt:i<rows.length
 ·rw [List.getElem_append_left (by omega),List.getElem_append_left hlt]
  exact h.2 i hlt (by omega)
 ·have e:i=rows.length:=by rw [List.length_append] at hi;simp at hi;omega
  subst e
  rw [List.getElem_append_right (by omega),List.getElem_append_right (Nat.le_refl _)]
  simp only [hl,Nat.sub_self,List.getElem_singleton]
  exact ⟨hg,hr,ho⟩
end Go.Proofs.YtmkihdjolnlccaaGreatDoor
namespace Go.Proofs.YtmkihdjolnlccaaGreatDoor
open Go.RowKit
theorem Reads.dropN {w:World} {B n k:Nat} {ad:Addr} {xs:List Value} (h:Reads w B 1 (some ad) n xs) (hk:k≤n):Reads w B 1 (some (ad.add k)) (n - k) (xs.drop k):=by
 refine ⟨by rw [List.length_drop,h.1];omega,fun h0 => ?_⟩
 obtain ⟨ad',e,hb,hc⟩:=h.2 (by omega)
 injection e with e
 subst e
 refine ⟨_,rfl,by rw [block_of_add];exact hb,fun j u hu => ?_⟩
 rw [add_of_add]
 rw [List.getElem?_drop] at hu
 exact hc _ u hu
end Go.Proofs.YtmkihdjolnlccaaGreatDoor
namespace Go.Proofs.YtmkihdjolnlccaaGreatDoor
open Go.RowKit
open Flt
theorem set_gs (m:Nat) (gs:List Nat) (z:Value) (n k g:Nat) (hk:k<n) (hy:gs.length=k) :
  (gs.map (sl1 m)++List.replicate (n - k) z).set k (sl1 m g)=(gs++[g]).map (sl1 m)++List.replicate (n - (k+1)) z:=by
 rw [List.set_append_right _ _ (by rw [List.length_map];omega),List.length_map,hy,Nat.sub_self,show n - k=(n - (k+1))+1 from by omega,List.replicate_succ,List.set_cons_zero,List.map_append,List.append_assoc]
 rfl
theorem algR_succ (rows:List (List Nat)) (sk:List Int) (k:Nat) (h:k<rows.length) (h2:k<sk.length):(algR rows sk).take (k+1)=(algR rows sk).take k++[alg1 (frT sk) (toT rows sk) rows[k] sk[k]]:=by
 have hl:k<(algR rows sk).length:=by unfold algR;rw [List.length_zipWith];omega
 unfold algR at hl ⊢
 rw [List.take_succ_eq_append_getElem hl,List.getElem_zipWith]
set_option maxHeartbeats 2000000 in
set_option maxRecDepth 100000 in
theorem aligned_ok (A A':Option Addr) (n c c' m:Nat) (rows:List (List Nat)) (sk:List Int) (w:World) (h:RowsR f32v w w.heap.size A n rows) (h':Reads w w.heap.size 1 A' n (sk.map i64v)) (hv:Valid rows sk) (hlt:frT sk<toT rows sk) (hm:(m:Int)=toT rows sk - frT sk) :
  Calls Tryz.prog 61 #[.slice A n c,.slice A' n c'] w fun e w'=>∃ G gs,e = .returned (.tuple #[.slice (some ⟨G,0,none⟩) n n,.int .i64 0])∧Laid w' w.heap.size G m gs (algR rows sk)∧w'.ownsRow w.heap.size 26 1 (.slice (some ⟨G,0,none⟩) n n) n (gs.map (sl1 m))∧Below w.heap.size w w':=by
 obtain ⟨i0,hi0,hz0,hz1,hz2⟩:=info_parts info_fls
 have hl:=h.1
 have hl':=hv.same
 have h1:=hv.some_
 have h8:=hv.few
 have K1:=Lib.hid (checkRecords_ok A n c rows w h (by omega) (by omega) hv.len hv.fin)
 have K2:=Lib.hid (fun (W:World) (hb:Below w.heap.size w W)=>checkSkews_ok A' n c' sk W (h'.later hb) (by omega) hv.small)
 have K3:=Lib.hid (fun (W:World) (hb:Below w.heap.size w W)=>commonTimes_ok A A' n c c' rows sk W (h.later hb) (h'.later hb) (by omega) hv.len hv.small)
 have HGE:=Lib.hid (frT_ge sk)
 have HLE:=Lib.hid (toT_le rows sk hl')
 have HSU:=Lib.hid (algR_succ rows sk)
 have hal:(algR rows sk).length=n:=by unfold algR;rw [List.length_zipWith];omega
 have hbd:=frT_bd sk hv.small
 have hbt:=toT_bd rows sk
 have HLEN:=Lib.hid hv.len
 have HS:=Lib.hid hv.small
 generalize algR rows sk=R at *
 generalize toT rows sk=tt at *
 generalize frT sk=fr at *
 have hd:decide (tt≤fr)=false:=by simpa using hlt
 have hn8:n≤8:=by omega
 have hn1:1≤n:=by omega
 have HL:=Lib.hid hl
 have HL':=Lib.hid hl'
 have HAL:=Lib.hid hal
 have HM:=Lib.hid hm
 clear hl hl' h1 h8 hv hal hm
 go_enter Tryz.func61,Tryz.ntmps61
 go_wp2_with fail
 refine K1.out.mono ?_
 rintro e w1 ⟨rfl,hb1⟩
 go_wp2_with fail
 refine (K2.out w1 hb1).mono ?_
 rintro e w2 ⟨rfl,hb2⟩
 have hB2:=hb1.trans (hb2.mono hb1.size)
 go_wp2_with fail
 refine (cfirst_two 0 0 w2 30 w2.heap.size rfl).mono ?_
 rintro e w3 ⟨rfl,rfl⟩
 have hB3:Below w.heap.size w (w2.alloc (.cells #[.int .i64 0,.int .i64 0] 30)):=hB2.alloc hB2.size _
 generalize w2.alloc (.cells #[.int .i64 0,.int .i64 0] 30)=w3 at *
 go_wp2_with fail
 refine (K3.out w3 hB3).mono ?_
 rintro e w4 ⟨rfl,rfl⟩
 go_wp2_with (at_make;refine wpList_make_full _ rfl _ _ 108 rfl w3.heap.size 26 i0 (.slice none 0 0) 1 Tryz.underlying108 hi0 hz0 hz1 _ _ _ _ n rfl rfl (by omega) (by omega) ?b2 ?b3 (Nat.le_refl _) ?_)
 case b2=>rw [hz2];omega
 case b3=>unfold maxLen;omega
 intro w5 hown0 hgrow0
 rw [toList_madeCells_one] at hown0
 have hB5:Below w.heap.size w w5:=hB3.trans ((gnone hgrow0 (Nat.le_refl _)).mono hB3.size)
 have hle:=hB3.size
 have hG5:=(own_lt hown0).2
 have hown1:=own_mono hown0 hle
 clear hgrow0 hown0
 generalize w3.heap.size=G at *
 go_wp2
 go_loopg [37] n (fun q s W=>∃ k:Nat,k≤n∧s = .int .i64 k∧n - k≤q∧(∃ gs:List Nat,Hid (gs.length=k)∧Laid W w.heap.size G m gs (R.take k)∧W.ownsRow w.heap.size 26 1 (.slice (some ⟨G,0,none⟩) n n) n (gs.map (sl1 m)++List.replicate (n - k) (.slice none 0 0)))∧Below w.heap.size w W∧G<W.heap.size)
 case atStart=>exact ⟨0,Nat.zero_le _,rfl,by omega,⟨[],rfl,⟨by simp,fun i hi _=>by simp at hi⟩,by simpa using hown1⟩,hB5,hG5⟩
 case round=>
  obtain ⟨k,hk,rfl,hq,⟨gs,hgs,hlaid,hown⟩,hbel,hGr⟩:=hrel
  by_cases h0:k<n
  ·obtain ⟨ad,hkl,A1,c1,rfl,hbb,hcell,hlc,hcm,hrd⟩:=(h.below hbel).row h0
   obtain ⟨ad',hkl',rfl,hbb',hcell'⟩:=(h'.below hbel).cellM h0
   have hL:=HLEN.out rows[k] (List.getElem_mem hkl)
   have hS:=HS.out sk[k] (List.getElem_mem hkl')
   have hge:=HGE.out sk[k] (List.getElem_mem hkl')
   have hle2:=HLE.out k hkl hkl'
   have hsu:=HSU.out k hkl hkl'
   unfold i64v at hcell'
   obtain ⟨lo,hlo⟩:∃ lo:Nat,(lo:Int)=fr+sk[k]:=⟨(fr+sk[k]).toNat,by omega⟩
   obtain ⟨hi,hhi⟩:∃ hi:Nat,(hi:Int)=tt+sk[k]:=⟨(tt+sk[k]).toNat,by omega⟩
   have hm2:=HM.out
   have hml:hi - lo=m:=by omega
   have hb1':lo<hi:=by omega
   have hb2':hi≤rows[k].length:=by omega
   obtain ⟨a1,rfl,ha1,_⟩:=hrd.2 (by omega)
   have hcut:=(hrd.dropN (k:=lo) (by omega)).take (m:=m) (by omega)
   rw [←List.map_drop,←List.map_take] at hcut
   have he1:((rows[k].drop lo).take m).map posz=alg1 fr tt rows[k] sk[k]:=by
    unfold alg1
    rw [←hlo,←hm2];rfl
   have hT:=trn_posz (some (a1.add lo)) m (c1 - lo) ((rows[k].drop lo).take m) wr.drew (hcut.more hbel.size) (by omega)
   rw [he1] at hT
   rw [←he1] at hsu
   have hrl:(((rows[k].drop lo).take m).map posz).length=m:=by rw [List.length_map];exact hcut.lenM
   rw [he1] at hsu hrl
   generalize alg1 fr tt rows[k] sk[k]=r at *
   generalize rows[k].length=L at *
   have hx1:IntKind.i64.wrap (fr+sk[k])=(lo:Int):=by rw [←hlo];exact IntWalk.i64_in _ (by omega)
   have hx2:IntKind.i64.wrap (tt+sk[k])=(hi:Int):=by rw [←hhi];exact IntWalk.i64_in _ (by omega)
   generalize sk[k]=s at *
   have HT:=Lib.hid hT
   have HSU2:=Lib.hid hsu
   have HRL:=Lib.hid hrl
   have hy1:(0:Int)≤(lo:Int):=by omega
   have hy2:(lo:Int)≤(hi:Int):=by omega
   have hy3:(hi:Int)≤(c1:Int):=by omega
   have hy4:c1≠lo:=by omega
   have hy5:(0:Int)≤(k:Int):=by omega
   have hy6:(k:Int)<(n:Int):=by omega
   have hne:(⟨G,k,none⟩:Addr)≠ad'.add k:=fun e=>by
    have:=congrArg Addr.block e
    rw [block_of_add] at this
    have:G=ad'.block:=this
    omega
   clear hT hsu hrl hlo hhi hm2 he1 hcut
   go_wp2_with fail
   go_region_held3 (fun w'=>w'.cell? (ad'.add k)=some (.int .i64 s))
    ((first | exact hcell' | exact y6 | exact (World.cell?_setCell_other _ _ _ _ hne).trans y6))
    ((go_at_call 142;refine (HT.out).mono ?_;rintro e w6 ⟨rfl,ho6,hb6'⟩;have hb6:Below wr.heap.size wr w6:=⟨hb6'.os,hb6'.tape,hb6'.output,hb6'.size,hb6'.block⟩;clear hb6';have hr6:=own_kept hown (only_of_below hb6 none) (by simp);obtain ⟨v6,hc6⟩:=own_cell hr6 k h0;have hf6:=own_free hr6 k;have y6:=(hb6.cell (by rw [block_of_add];exact Nat.lt_of_lt_of_le hbb' hbel.size)).trans hcell'))
   go_wp2
   go_roundg (n - (k+1))
   case measure=>omega
   case rel=>
    have hlw:w.heap.size≤wr.heap.size:=hbel.size
    refine ⟨k+1,by omega,by go_num,Nat.le_refl _,⟨gs++[wr.heap.size],?_,?_,?_⟩,?_,?_⟩
    ·show (gs++[wr.heap.size]).length=k+1
     rw [List.length_append,hgs.out];rfl
    ·rw [HSU2.out]
     exact ((hlaid.below hb6).snoc hGr HRL.out (own_mono ho6 hlw)).set k _
    ·have hq1:=own_set hr6 k (sl1 m wr.heap.size)
     rw [set_gs m gs _ n k wr.heap.size h0 hgs.out] at hq1
     exact hq1
    ·exact (hbel.trans (hb6.mono hlw)).setCell (p:=⟨G,k,none⟩) hle _
    ·rw [show ∀ (p:Addr) (u:Value),(w6.setCell p u).heap.size=w6.heap.size from fun p u=>by simp [World.setCell]]
     exact Nat.lt_of_lt_of_le hGr hb6.size
  ·obtain rfl:k=n:=by omega
   have e1:R.take k=R:=List.take_of_length_le (by rw [HAL.out];exact Nat.le_refl _)
   rw [e1] at hlaid
   rw [Nat.sub_self,List.replicate_zero,List.append_nil] at hown
   go_wp2
   go_ret2
   exact ⟨_,gs,rfl,hlaid,hown,hbel⟩
end Go.Proofs.YtmkihdjolnlccaaGreatDoor
namespace Go.Proofs.YtmkihdjolnlccaaGreatDoor
open Go.RowKit Bn
open Flt
theorem Reads.blk {w:World} {g:Nat} {xs:List Value} {t:TypeId} (h:CBlk w g xs.toArray t) (hn:xs.length≤maxLen):Reads w w.heap.size 1 (some ⟨g,0,none⟩) xs.length xs:=
 Reads.of_own (own_of_block (base:=0) (size:=1) h (Nat.zero_le _) hn (by omega))
theorem RowsR.blk2 {α:Type} {f : α→Value} {w:World} {g g1 g2 m1 m2:Nat} {r1 r2:List α} {t:TypeId} (h:CBlk w g #[.slice (some ⟨g1,0,none⟩) m1 m1,.slice (some ⟨g2,0,none⟩) m2 m2] t)
  (h1:Reads w w.heap.size 1 (some ⟨g1,0,none⟩) m1 (r1.map f)) (h2:Reads w w.heap.size 1 (some ⟨g2,0,none⟩) m2 (r2.map f)) (hm1:m1≤maxLen) (hm2:m2≤maxLen) :
  RowsR f w w.heap.size (some ⟨g,0,none⟩) 2 [r1,r2]:=by
 have l1:=h1.lenM
 have l2:=h2.lenM
 refine ⟨rfl,_,Reads.blk (xs:=[.slice (some ⟨g1,0,none⟩) m1 m1,.slice (some ⟨g2,0,none⟩) m2 m2]) h (by show 2≤maxLen;unfold maxLen;omega),fun i hi => ?_⟩
 have hi2:i<2:=hi
 rcases (show i=0∨i=1 from by omega) with rfl | rfl
 ·refine ⟨some ⟨g1,0,none⟩,m1,?_,?_,hm1,?_⟩
  ·show some _=some (Value.slice _ r1.length m1);rw [l1]
  ·show r1.length≤m1;omega
  ·show Reads _ _ 1 _ r1.length (r1.map f);rw [l1];exact h1
 ·refine ⟨some ⟨g2,0,none⟩,m2,?_,?_,hm2,?_⟩
  ·show some _=some (Value.slice _ r2.length m2);rw [l2]
  ·show r2.length≤m2;omega
  ·show Reads _ _ 1 _ r2.length (r2.map f);rw [l2];exact h2
theorem aw_dfin:∀ x ∈ [0,1065353216,1056964608,0,1056964608,1065353216],fin Ieee.single x=true:=by decide +kernel
theorem aw_dig:digL 0 1065353216 false [0,1065353216,1056964608,0,1056964608,1065353216]=[false,true,true,false,false,true]:=by decide +kernel
theorem aw_digital (g:Nat) (t:TypeId) (w:World) (h:CBlk w g #[.float .f32 0,.float .f32 1065353216,.float .f32 1056964608,.float .f32 0,.float .f32 1056964608,.float .f32 1065353216] t) :
  Calls Tryz.prog 57 #[.slice (some ⟨g,0,none⟩) 6 6,.agg #[.float .f32 0,.float .f32 1065353216],.bool false] w fun e w'=>
   ∃ g,e = .returned (.tuple #[.slice (some ⟨g,0,none⟩) 6 6,.int .i64 0])∧Reads w' w'.heap.size 1 (some ⟨g,0,none⟩) 6 ([false,true,true,false,false,true].map boolv)∧Below w.heap.size w w':=by
 have hr:Reads w w.heap.size 1 (some ⟨g,0,none⟩) 6 ([0,1065353216,1056964608,0,1056964608,1065353216].map f32v):=Reads.blk (xs:=[.float .f32 0,.float .f32 1065353216,.float .f32 1056964608,.float .f32 0,.float .f32 1056964608,.float .f32 1065353216]) h (by show 6≤maxLen;unfold maxLen;omega)
 refine (digital_ok (some ⟨g,0,none⟩) 6 6 0 1065353216 false [0,1065353216,1056964608,0,1056964608,1065353216] w hr aw_dfin (by omega) (by decide +kernel) (by decide +kernel) (by decide +kernel)).mono ?_
 rintro e w' ⟨g',rfl,ho,hb⟩
 rw [aw_dig] at ho
 exact ⟨g',rfl,Reads.of_own ho,hb⟩
theorem aw_chg:chg false [false,true,true,false,false,true] 6=[1,3,5]:=by decide +kernel
theorem aw_changes (g:Nat) (w:World) (h:Reads w w.heap.size 1 (some ⟨g,0,none⟩) 6 ([false,true,true,false,false,true].map boolv)) :
  Calls Tryz.prog 58 #[.slice (some ⟨g,0,none⟩) 6 6,.bool false] w fun e w'=>
   ∃ A' c',e = .returned (.tuple #[.slice A' 3 c',.int .i64 0])∧Reads w' w'.heap.size 1 A' 3 ([1,3,5].map i64v)∧Below w.heap.size w w':=by
 refine (changes_ok (some ⟨g,0,none⟩) 6 6 false [false,true,true,false,false,true] w h (by omega)).mono ?_
 rintro e w' ⟨A',c',rfl,hr,hb⟩
 rw [aw_chg] at hr ⊢
 exact ⟨A',c',rfl,hr,hb⟩
theorem aw_wd:(List.range 3).map (wd [[true,false,true],[true,true,false]])=[3,2,1]:=by decide +kernel
theorem aw_words (g g1 g2:Nat) (t1 t2 t3:TypeId) (w:World) (h1:CBlk w g1 #[.bool true,.bool false,.bool true] t1) (h2:CBlk w g2 #[.bool true,.bool true,.bool false] t2) (h:CBlk w g #[.slice (some ⟨g1,0,none⟩) 3 3,.slice (some ⟨g2,0,none⟩) 3 3] t3) :
  Calls Tryz.prog 59 #[.slice (some ⟨g,0,none⟩) 2 2] w fun e w'=>
   ∃ g,e = .returned (.tuple #[.slice (some ⟨g,0,none⟩) 3 3,.int .i64 0])∧Reads w' w'.heap.size 1 (some ⟨g,0,none⟩) 3 ([3,2,1].map u16v)∧Below w.heap.size w w':=by
 have r1:Reads w w.heap.size 1 (some ⟨g1,0,none⟩) 3 ([true,false,true].map boolv):=Reads.blk (xs:=[.bool true,.bool false,.bool true]) h1 (by show 3≤maxLen;unfold maxLen;omega)
 have r2:Reads w w.heap.size 1 (some ⟨g2,0,none⟩) 3 ([true,true,false].map boolv):=Reads.blk (xs:=[.bool true,.bool true,.bool false]) h2 (by show 3≤maxLen;unfold maxLen;omega)
 have hR:=RowsR.blk2 h r1 r2 (by unfold maxLen;omega) (by unfold maxLen;omega)
 refine (words_ok (some ⟨g,0,none⟩) 2 2 3 [[true,false,true],[true,true,false]] w hR (by omega) (by omega) (by intro r hr;simp at hr;rcases hr with rfl | rfl<;>rfl) (by omega)).mono ?_
 rintro e w' ⟨g',rfl,ho,hb⟩
 rw [aw_wd] at ho
 exact ⟨g',rfl,Reads.of_own ho,hb⟩
theorem aw_blocks (g:Nat) (w:World) (h:Reads w w.heap.size 1 (some ⟨g,0,none⟩) 3 ([3,2,1].map u16v)) :
  Calls Tryz.prog 60 #[.slice (some ⟨g,0,none⟩) 3 3] w fun e w'=>
   ∃ g,e = .returned (.tuple #[.slice (some ⟨g,0,none⟩) 1 1,.int .i64 0])∧CBlk w' g #[.int .u16 3,.int .u16 2,.int .u16 1,.int .u16 0,.int .u16 0,.int .u16 0,.int .u16 0,.int .u16 0,.int .u16 0,.int .u16 0,.int .u16 0,.int .u16 0,.int .u16 0,.int .u16 0,.int .u16 0,.int .u16 0] 112∧Below w.heap.size w w':=by
 refine (blocks_ok (some ⟨g,0,none⟩) 3 3 [3,2,1] w h (by omega) (Nat.le_refl _) (by unfold maxLen;omega)).mono ?_
 rintro e w' ⟨g',rfl,ho,hb⟩
 exact ⟨g',rfl,own_block ho,hb⟩
theorem aw_valid:Valid [[1065353216,1073741824,1077936128,1082130432],[1073741824,1077936128,1082130432]] [1,0] where
 some_:=by decide
 few:=by decide
 len:=by decide
 fin:=by decide +kernel
 same:=by decide
 small:=by decide
theorem aw_alg:algR [[1065353216,1073741824,1077936128,1082130432],[1073741824,1077936128,1082130432]] [1,0]=[[1073741824,1077936128,1082130432],[1073741824,1077936128,1082130432]]:=by decide +kernel
theorem aw_aligned (g g1 g2 gk:Nat) (t1 t2 t3 t4:TypeId) (w:World) (h1:CBlk w g1 #[.float .f32 1065353216,.float .f32 1073741824,.float .f32 1077936128,.float .f32 1082130432] t1) (h2:CBlk w g2 #[.float .f32 1073741824,.float .f32 1077936128,.float .f32 1082130432] t2) (h:CBlk w g #[.slice (some ⟨g1,0,none⟩) 4 4,.slice (some ⟨g2,0,none⟩) 3 3] t3) (hk:CBlk w gk #[.int .i64 1,.int .i64 0] t4) :
  Calls Tryz.prog 61 #[.slice (some ⟨g,0,none⟩) 2 2,.slice (some ⟨gk,0,none⟩) 2 2] w fun e w'=>
   ∃ G a b,e = .returned (.tuple #[.slice (some ⟨G,0,none⟩) 2 2,.int .i64 0])∧CBlk w' G #[.slice (some ⟨a,0,none⟩) 3 3,.slice (some ⟨b,0,none⟩) 3 3] 26 ∧
    Reads w' w'.heap.size 1 (some ⟨a,0,none⟩) 3 ([1073741824,1077936128,1082130432].map f32v)∧Reads w' w'.heap.size 1 (some ⟨b,0,none⟩) 3 ([1073741824,1077936128,1082130432].map f32v)∧Below w.heap.size w w':=by
 have r1:Reads w w.heap.size 1 (some ⟨g1,0,none⟩) 4 ([1065353216,1073741824,1077936128,1082130432].map f32v):=Reads.blk (xs:=[.float .f32 1065353216,.float .f32 1073741824,.float .f32 1077936128,.float .f32 1082130432]) h1 (by show 4≤maxLen;unfold maxLen;omega)
 have r2:Reads w w.heap.size 1 (some ⟨g2,0,none⟩) 3 ([1073741824,1077936128,1082130432].map f32v):=Reads.blk (xs:=[.float .f32 1073741824,.float .f32 1077936128,.float .f32 1082130432]) h2 (by show 3≤maxLen;unfold maxLen;omega)
 have rk:Reads w w.heap.size 1 (some ⟨gk,0,none⟩) 2 (([1,0]:List Int).map i64v):=Reads.blk (xs:=[.int .i64 1,.int .i64 0]) hk (by show 2≤maxLen;unfold maxLen;omega)
 have hR:=RowsR.blk2 h r1 r2 (by unfold maxLen;omega) (by unfold maxLen;omega)
 refine (aligned_ok (some ⟨g,0,none⟩) (some ⟨gk,0,none⟩) 2 2 2 3 [[1065353216,1073741824,1077936128,1082130432],[1073741824,1077936128,1082130432]] [1,0] w hR rk aw_valid (by decide) (by decide)).mono ?_
 rintro e w' ⟨G,gs,rfl,hl,ho,hb⟩
 rw [aw_alg] at hl
 obtain ⟨hgl,hl⟩:=hl
 match gs,hgl with
 | [a,b],_=>
  have ha:=(hl 0 (by decide) (by simp)).2.2
  have hb2:=(hl 1 (by decide) (by simp)).2.2
  exact ⟨G,a,b,rfl,own_block ho,Reads.of_own ha,Reads.of_own hb2,hb⟩
end Go.Proofs.YtmkihdjolnlccaaGreatDoor
