/- The contract of probe's Codes of valid samples. -/
import Derived.Test.YtmkihdjolnlccaaGreatDoorFRc8
import Derived.Test.YtmkihdjolnlccaaGreatDoorFCSm
import Derived.Test.YtmkihdjolnlccaaGreatDoorFAw0
import Derived.Test.YtmkihdjolnlccaaGreatDoorFAlg
import Derived.Maps.AppendAt
import Derived.Deep.LoopGhost
import Derived.Test.YtmkihdjolnlccaaGreatDoorFRb26
import Derived.Test.YtmkihdjolnlccaaGreatDoorFRc2
import Derived.Test.YtmkihdjolnlccaaGreatDoorFRng2
import Derived.Test.YtmkihdjolnlccaaGreatDoorFDp
import Derived.Laws.FloatArith
namespace Go.Proofs.YtmkihdjolnlccaaGreatDoor
open Go.RowKit Bn
open Flt
set_option maxHeartbeats 4000000 in
set_option maxRecDepth 100000 in
theorem Codes_ok (a:Nat) (st z:Int) (g o:ByteArray) (A:Option Addr) (n c:Nat) (l cs:List Nat) (w:World) (hT:Tabs w) (h:Conv a st z g o) (T:Nat) (hTa:2 ^ a=T+1)
  (hd:∀ n c:Nat,n≤T→c<n→Op.floatEq .f32 (nomF st z n) (nomF st z c)=false)
  (hA:Reads w w.heap.size 1 A n (l.map f32v)) (hn:n≤4096) (hf:∀ x ∈ l,fin Ieee.single x=true) (hcl:cs.length=n)
  (hc:∀ (i y k:Nat),l[i]? = some y→cs[i]? = some k→k≤T∧Op.floatEq .f32 y (nomF st z k)=true∧∀ d,d<k→Op.floatEq .f32 y (nomF st z d)=false) :
  Calls Tryz.prog 13 #[.agg #[.int .i64 a,.int .i64 st,.int .i64 z,.string g,.string o],.slice A n c] w fun e w'=>
   ∃ b,e = .returned (.tuple #[.slice (some ⟨b,0,none⟩) n n,.int .i64 0])∧w.heap.size≤b∧w'.ownsRow b 3 1 (.slice (some ⟨b,0,none⟩) n n) n (cs.map natv)∧Below w.heap.size w w':=by
 obtain ⟨i0,hi0,hz0,hz1,hz2⟩:=info_parts info_int
 have hb0:Below w.heap.size w (w.alloc (.cells #[.int .i64 a,.int .i64 st,.int .i64 z,.string g,.string o] 33)):=(Below.refl _ _).alloc (Nat.le_refl _) _
 have q0:CBlk (w.alloc (.cells #[.int .i64 a,.int .i64 st,.int .i64 z,.string g,.string o] 33)) w.heap.size #[.int .i64 a,.int .i64 st,.int .i64 z,.string g,.string o] 33:=CBlk.new w _ _ _ rfl
 have x0:=q0.cell 0
 have x1:=q0.cell 1
 have x2:=q0.cell 2
 have x3:=q0.cell 3
 have x4:=q0.cell 4
 have HC:=Lib.hid (checkAdc_ok a st z g o _ (hT.later hb0) h)
 have HK:=Lib.hid (fun W hA=>ncheckSamples_ok A n c l W hA hf hn)
 have HM:=Lib.hid (fun W=>codesOfSamples_ok a st z g o W h T hTa hd)
 have HA:=Lib.hid hA
 have HCS:=Lib.hid hc
 have HCL:=Lib.hid hcl
 have HN:=Lib.hid hn
 have HL:=Lib.hid hA.lenM
 clear h hA hf hc hcl hd hTa
 go_enter Tryz.func13,Tryz.ntmps13
 go_wp2_with fail
 generalize w.alloc (.cells #[.int .i64 a,.int .i64 st,.int .i64 z,.string g,.string o] 33)=w1 at *
 have hT1:=hT.later hb0
 refine HC.out.mono ?_
 rintro e w2 ⟨rfl,hb2⟩
 have q2:=q0.below hb2 q0.lt
 clear x0 x1 x2 x3 x4
 have hB2:=hb0.trans (hb2.mono hb0.size)
 go_wp2_with fail
 refine (HK.out w2 (HA.out.later hB2)).mono ?_
 rintro e w3 ⟨rfl,rfl⟩
 go_wp2_with fail
 refine (cfirst_two 0 0 w2 _ _ rfl).mono ?_
 rintro e w4 ⟨rfl,rfl⟩
 have hb4:Below w2.heap.size w2 (w2.alloc (.cells #[.int .i64 0,.int .i64 0] 30)):=(Below.refl _ _).alloc (Nat.le_refl _) _
 generalize w2.alloc (.cells #[.int .i64 0,.int .i64 0] 30)=w4 at *
 have q4:=q2.below hb4 q2.lt
 have hB4:=hB2.trans (hb4.mono hB2.size)
 have x0:=q4.cell 0
 have x1:=q4.cell 1
 have x2:=q4.cell 2
 have x3:=q4.cell 3
 have x4:=q4.cell 4
 clear HC HK hb0 hb2 hb4 q0 q2 hT1 hB2
 go_wp2_with fail
 refine (HM.out w4).mono ?_
 rintro e w5 ⟨b,rfl,hb5l,hb5s,hm5,hb5⟩
 have hB5:=hB4.trans (hb5.mono hB4.size)
 have hbw:w.heap.size≤b:=Nat.le_trans hB4.size hb5l
 clear x0 x1 x2 x3 x4 HM hb5 hb5l q4 hB4
 go_wp2_with (at_make;refine wpList_make_full _ rfl _ _ 35 rfl w5.heap.size 3 i0 (.int .i64 0) 1 Tryz.underlying35 hi0 hz0 hz1 _ _ _ _ n rfl rfl (by omega) (by omega) ?b2 ?b3 (Nat.le_refl _) ?_)
 case b2=>rw [hz2];omega
 case b3=>unfold maxLen;omega
 intro w6 hown6 hgrow6
 rw [toList_madeCells_one] at hown6
 have hb6:Below w5.heap.size w5 w6:=gnone hgrow6 (Nat.le_refl _)
 have hm6:=(hb6.block b hb5s).trans hm5
 have hB6:=hB5.trans (hb6.mono hB5.size)
 have hl6:w.heap.size≤w5.heap.size:=hB5.size
 generalize w5.heap.size=G at *
 clear hm5 hB5 hgrow6 hb6
 go_wp2_with fail
 go_loopg [29] n (fun m s W=>∃ k:Nat,k≤n∧s = .int .i64 k∧n - k≤m∧W.ownsRow G 3 1 (.slice (some ⟨G,0,none⟩) n n) n ((cs.take k).map natv++List.replicate (n - k) (.int .i64 0))∧W.heap[b]? = some (.map (fents (nomF st z) (T+1)) (T+1))∧Below w.heap.size w W)
 case atStart=>exact ⟨0,Nat.zero_le _,rfl,by omega,by rw [set_start];simpa using hown6,hm6,hB6⟩
 case round=>
  obtain ⟨k,hk,rfl,hm,hown,hmr,hbel⟩:=hrel
  by_cases h0:k<n
  ·obtain ⟨ad,hkl,rfl,hbb,hcell⟩:=(HA.out.below hbel).cellM h0
   have hkc:k<cs.length:=by have:=HCL.out;omega
   obtain ⟨e1,e2,e3⟩:=HCS.out k l[k] cs[k] (List.getElem?_eq_getElem hkl) (List.getElem?_eq_getElem hkc)
   have HS:=Lib.hid (set_step natv cs (.int .i64 0) n k hkc HCL.out)
   obtain ⟨v1,hc1⟩:=own_cell hown k h0
   have hf1:=own_free hown k
   unfold f32v at hcell
   generalize l[k]=x at *
   have hst:=fun (W:World) (a:Addr) (m:_)=>run_store Tryz.prog W a (.int .i64 (cs[k]:Int)) m rfl
   have HE1:=Lib.hid (show cs[k]<T+1 from by omega)
   have HE2:=Lib.hid e2
   have HE3:=Lib.hid e3
   clear e1 e2 e3
   go_wp2_with (at_lookup;refine wpList_lookup_f32 _ rfl _ _ _ rfl _ _ und_map und_f32 b (T+1) (nomF st z) rfl hmr x rfl cs[k] HE1.out HE2.out HE3.out ?_)
   go_roundg (n - (k+1))
   case measure=>omega
   case rel=>exact ⟨k+1,by omega,by go_num,Nat.le_refl _,by have h9:=own_set hown k (natv cs[k]);rw [HS.out] at h9;exact h9,(Below.heap_setCell wr ⟨G,k,none⟩ _ b (Nat.ne_of_lt hb5s)).trans hmr,hbel.setCell (p:=⟨G,k,none⟩) hl6 _⟩
  ·obtain rfl:k=n:=by omega
   have HS:=Lib.hid (set_stop natv cs (.int .i64 0) k HCL.out)
   go_wp2_with fail
   go_ret2
   exact ⟨G,rfl,hl6,by rw [HS.out] at hown;exact hown,hbel⟩
theorem info_pair:(Tryz.prog.info? 94).map (fun i=>(i.zero,i.size,i.bytes))=some (some (.agg #[.int .i64 0,.int .i64 0]),2,16):=by kernel_rfl
theorem cell_two_new (w:World) (x y:Value) (t:TypeId):∀ j u,[x,y][j]? = some u→(w.alloc (.cells #[x,y] t)).cell? ((⟨w.heap.size,0,none⟩:Addr).add j)=some u:=by
 intro j u hu
 have h:=(Reads.lit w [x,y] t).2 (by simp)
 obtain ⟨ad,e,_,hc⟩:=h
 cases e
 exact hc j u hu
theorem aw_isEnd (c:Int) (b:Bool) (hb:decide (c=0∨c=((2 ^ 8 - 1:Nat):Int))=b) (W:World) :
  Calls Tryz.prog 72 #[.agg #[.int .i64 8,.int .i64 (-3),.int .i64 128,.string { data:=#[49] },.string { data:=#[48] }],.int .i64 c] W fun e w'=>e = .returned (.bool b)∧Below W.heap.size W w':=by
 rw [←hb]
 exact isEnd_any 8 (-3) 128 c (.string { data:=#[49] }) (.string { data:=#[48] }) W (by decide)
set_option maxHeartbeats 4000000 in
set_option maxRecDepth 100000 in
theorem aw_ranges (b c:Nat) (w:World) (h:Reads w w.heap.size 1 (some ⟨b,0,none⟩) 5 ([0,128,129,255,255].map natv)) :
  Calls Tryz.prog 71 #[.slice (some ⟨b,0,none⟩) 5 c,.func (.func 72) #[.agg #[.int .i64 8,.int .i64 (-3),.int .i64 128,.string { data:=#[49] },.string { data:=#[48] }]] #[]] w fun e w'=>
   ∃ v,e = .returned v∧w'.ownsRow w.heap.size 94 2 v 2 [.int .i64 0,.int .i64 1,.int .i64 3,.int .i64 5]∧Below w.heap.size w w':=by
 obtain ⟨i0,hi0,hz0,hz1,hz2⟩:=info_parts info_pair
 obtain ⟨ad,had,hbd,hce⟩:=h.2 (by omega)
 cases had
 have c0:w.cell? ⟨b,0,none⟩=some (.int .i64 0):=hce 0 (.int .i64 0) rfl
 have c1:w.cell? ⟨b,1,none⟩=some (.int .i64 128):=hce 1 (.int .i64 128) rfl
 have c2:w.cell? ⟨b,2,none⟩=some (.int .i64 129):=hce 2 (.int .i64 129) rfl
 have c3:w.cell? ⟨b,3,none⟩=some (.int .i64 255):=hce 3 (.int .i64 255) rfl
 have c4:w.cell? ⟨b,4,none⟩=some (.int .i64 255):=hce 4 (.int .i64 255) rfl
 have eg:∀ args w,(callFunc 72 args).run Tryz.prog w = .ok (.enter 72 args) w:=fun _ _=>by kernel_rfl
 have E0:=Lib.hid (aw_isEnd 0 true (by decide))
 have E1:=Lib.hid (aw_isEnd 128 false (by decide))
 have E2:=Lib.hid (aw_isEnd 129 false (by decide))
 have E3:=Lib.hid (aw_isEnd 255 true (by decide))
 clear h
 go_enter Tryz.func71,Tryz.ntmps71
 go_wp2
 go_step3
 go_wp2
 go_step3
 go_wp2
 go_loopg [6,5] 3 (fun m f v W=>Below w.heap.size w W∧((f = .int .i64 0∧v = .slice none 0 0∧3≤m)∨(f = .int .i64 2∧W.ownsRow w.heap.size 94 2 v 1 [.int .i64 0,.int .i64 1]∧2≤m)∨(f = .int .i64 3∧W.ownsRow w.heap.size 94 2 v 1 [.int .i64 0,.int .i64 1]∧1≤m)))
 case atStart=>exact ⟨Below.refl _ _,Or.inl ⟨rfl,rfl,Nat.le_refl _⟩⟩
 case round=>
  obtain ⟨hbel,(⟨rfl,rfl,hm⟩ | ⟨rfl,hown,hm⟩ | ⟨rfl,hown,hm⟩)⟩:=hrel
  ·have d0:=(hbel.cell (p:=⟨b,0,none⟩) hbd).trans c0
   go_wp2_with (go_at_fn 72;refine (E0.out _).mono ?_;rintro e w1 ⟨rfl,hb1⟩)
   have hB1:=hbel.trans (hb1.mono hbel.size)
   clear d0 hb1
   go_loopg [6,7,5] 1 (fun m' f s v W=>f = .int .i64 0∧s = .int .i64 1∧v = .slice none 0 0∧Below w.heap.size w W)
   case atStart=>exact ⟨rfl,rfl,rfl,hB1⟩
   case round=>
    obtain ⟨rfl,rfl,rfl,hbel2⟩:=hrel
    have d1:=(hbel2.cell (p:=⟨b,1,none⟩) hbd).trans c1
    go_wp2_with (first
     |(go_at_fn 72;refine (E1.out _).mono ?_;rintro e w2 ⟨rfl,hb2⟩)
     |(at_builtin;refine wpList_append_own _ rfl _ _ 39 rfl w.heap.size 94 i0 (.agg #[.int .i64 0,.int .i64 0]) 2 16 Tryz.underlying39 hi0 hz0 hz1 hz2 rfl (by decide) _ _ _ rfl (World.ownsRow_nil _ _ _ _) ⟨w2.heap.size,0,none⟩ 1 1 [.int .i64 0,.int .i64 1] rfl rfl ?a1 ?a2 ?a3 ?a4 ?a5 ?_))
    case a1=>exact cell_two_new _ _ _ _
    case a2=>intro u hu;simp at hu;rcases hu with rfl | rfl<;>rfl
    case a3=>unfold maxLen;omega
    case a4=>omega
    case a5=>have:=(hbel2.trans (hb2.mono hbel2.size)).size;simp;omega
    intro v3 w3 hown3 hgrow3 _
    have hB2:=hbel2.trans (hb2.mono hbel2.size)
    have hB3:Below w.heap.size w w3:=(hB2.alloc hB2.size _).grown hgrow3 (by have:=hB2.size;simp;omega) (fun g hg=>by simp [Value.ownBlock] at hg)
    go_wp2
    go_roundg 2
    case measure=>omega
    case rel=>exact ⟨hB3,Or.inr (Or.inl ⟨rfl,hown3,Nat.le_refl _⟩)⟩
  ·have d2:=(hbel.cell (p:=⟨b,2,none⟩) hbd).trans c2
   go_wp2_with (go_at_fn 72;refine (E2.out _).mono ?_;rintro e w2 ⟨rfl,hb2⟩)
   have hB2:=hbel.trans (hb2.mono hbel.size)
   have hown2:=own_belw hown hb2
   go_roundg 1
   case measure=>omega
   case rel=>exact ⟨hB2,Or.inr (Or.inr ⟨rfl,hown2,Nat.le_refl _⟩)⟩
  ·have d3:=(hbel.cell (p:=⟨b,3,none⟩) hbd).trans c3
   go_wp2_with (go_at_fn 72;refine (E3.out _).mono ?_;rintro e w2 ⟨rfl,hb2⟩)
   have hB2:=hbel.trans (hb2.mono hbel.size)
   have hown2:=own_belw hown hb2
   clear d3 hb2 hown
   go_loopg [6,7,5] 2 (fun m' f s v W=>f = .int .i64 3∧((s = .int .i64 4∧1≤m')∨s = .int .i64 5)∧W.ownsRow w.heap.size 94 2 v 1 [.int .i64 0,.int .i64 1]∧Below w.heap.size w W)
   case atStart=>exact ⟨rfl,Or.inl ⟨rfl,by omega⟩,hown2,hB2⟩
   case round=>
    obtain ⟨rfl,(⟨rfl,hm'⟩ | rfl),hown3,hbel3⟩:=hrel
    ·have d4:=(hbel3.cell (p:=⟨b,4,none⟩) hbd).trans c4
     go_wp2_with (go_at_fn 72;refine (E3.out _).mono ?_;rintro e w4 ⟨rfl,hb4⟩)
     have hB4:=hbel3.trans (hb4.mono hbel3.size)
     have hown4:=own_belw hown3 hb4
     go_roundg 0
     case measure=>omega
     case rel=>exact ⟨rfl,Or.inr rfl,hown4,hB4⟩
    ·go_wp2_with (at_builtin;refine wpList_append_own _ rfl _ _ 39 rfl w.heap.size 94 i0 (.agg #[.int .i64 0,.int .i64 0]) 2 16 Tryz.underlying39 hi0 hz0 hz1 hz2 rfl (by decide) _ _ _ rfl (hown3.alloc _) ⟨wr.heap.size,0,none⟩ 1 1 [.int .i64 3,.int .i64 5] rfl rfl ?b1 ?b2 ?b3 ?b4 ?b5 ?_)
     case b1=>exact cell_two_new _ _ _ _
     case b2=>intro u hu;simp at hu;rcases hu with rfl | rfl<;>rfl
     case b3=>unfold maxLen;omega
     case b4=>omega
     case b5=>have:=hbel3.size;simp;omega
     intro v5 w5 hown5 hgrow5 _
     have hB5:Below w.heap.size w w5:=(hbel3.alloc hbel3.size _).grown hgrow5 (by have:=hbel3.size;simp;omega) (fun g hg=>(World.ownsRow.lt hown3 g hg).1)
     go_wp2
     try rw [Exit.noGoto_ret]
     go_ret
     exact ⟨_,rfl,hown5,hB5⟩
theorem own_slice0 {w:World} {base size n:Nat} {e:TypeId} {v:Value} {xs:List Value} (h:w.ownsRow base e size v n xs) (hn:0<n):∃ g c,v = .slice (some ⟨g,0,none⟩) n c∧Reads w w.heap.size size (some ⟨g,0,none⟩) n xs:=by
 rcases h.2 with ⟨rfl,rfl⟩ | ⟨g,cap,cur,rfl,hb,hg,hnc,hcm,hcs,htake⟩
 ·omega
 ·exact ⟨g,cap,rfl,Reads.of_own h⟩
theorem aw_fin:∀ c:Nat,c<256→fin Ieee.single (nomF (-3) 128 c)=true:=by decide +kernel
theorem aw_step:∀ c:Nat,c<255→key Ieee.single (nomF (-3) 128 c)<key Ieee.single (nomF (-3) 128 (c+1)):=by decide +kernel
theorem aw_mono (c:Nat):∀ n:Nat,n≤255→c<n→key Ieee.single (nomF (-3) 128 c)<key Ieee.single (nomF (-3) 128 n)
 | 0,_,h=>absurd h (Nat.not_lt_zero _)
 | n+1,hn,h=>by
  have h1:=aw_step n (by omega)
  rcases Nat.lt_or_ge c n with hc | hc
  ·exact Int.lt_trans (aw_mono c n (by omega) hc) h1
  ·obtain rfl:c=n:=by omega
   exact h1
theorem aw_dist (n c:Nat) (hn:n≤255) (hc:c<n):Op.floatEq .f32 (nomF (-3) 128 n) (nomF (-3) 128 c)=false:=by
 have h:=feq_key (aw_fin n (by omega)) (aw_fin c (by omega))
 have hm:=aw_mono c n hn hc
 have h2:decide (key Ieee.single (nomF (-3) 128 n)=key Ieee.single (nomF (-3) 128 c))=false:=by simpa using (show ¬ (key Ieee.single (nomF (-3) 128 n)=key Ieee.single (nomF (-3) 128 c)) from by omega)
 rw [h2] at h
 exact h
theorem aw_self (n:Nat) (hn:n≤255):Op.floatEq .f32 (nomF (-3) 128 n) (nomF (-3) 128 n)=true:=by
 have h:=feq_key (aw_fin n (by omega)) (aw_fin n (by omega))
 have h2:decide (key Ieee.single (nomF (-3) 128 n)=key Ieee.single (nomF (-3) 128 n))=true:=by simp
 rw [h2] at h
 exact h
theorem aw_smp:[3246391296,0,1040187392,1098776576,1098776576]=[0,128,129,255,255].map (nomF (-3) 128):=by decide +kernel
theorem aw_smpfin:∀ x ∈ [3246391296,0,1040187392,1098776576,1098776576],fin Ieee.single x=true:=by decide +kernel
theorem aw_s20m (w:World) (hT:Tabs w):Calls Tryz.prog 68 #[.agg #[.int .i64 8,.int .i64 (-3),.int .i64 128,.string { data:=#[49] },.string { data:=#[48] }],.string { data:=#[45,50,48] }] w fun e w'=>e = .returned (.float .f32 3246391296)∧Below w.heap.size w w':=by
 refine sample_ok { data:=#[45,50,48] } 8 0 (-3) 128 { data:=#[49] } { data:=#[48] } w hT aw_conv (by decide) 0 (-1) 3246391296 (by decide) ?_ ?_ (by decide) (by decide) (by decide) aw_nomlo
 ·intro t ht
  have e:({ data:=#[45,50,48] }:ByteArray).data.toList=[45,50,48]:=rfl
  rw [e,aw_n20m]
  omega
 ·intro t h1 h2
  have e:({ data:=#[45,50,48] }:ByteArray).data.toList=[45,50,48]:=rfl
  have e2:(2:Nat) ^ 8=256:=by decide
  rw [e,aw_n20m]
  exact aw_b20m t (by omega)
theorem aw_s0 (w:World) (hT:Tabs w):Calls Tryz.prog 68 #[.agg #[.int .i64 8,.int .i64 (-3),.int .i64 128,.string { data:=#[49] },.string { data:=#[48] }],.string { data:=#[48] }] w fun e w'=>e = .returned (.float .f32 0)∧Below w.heap.size w w':=by
 refine sample_ok { data:=#[48] } 8 129 (-3) 128 { data:=#[49] } { data:=#[48] } w hT aw_conv (by decide) 128 0 0 (by decide) ?_ ?_ (by decide) (by decide) (by decide) aw_nom0
 ·intro t ht
  have e:({ data:=#[48] }:ByteArray).data.toList=[48]:=rfl
  rw [e,aw_n0]
  exact aw_l0 t ht
 ·intro t h1 h2
  have e:({ data:=#[48] }:ByteArray).data.toList=[48]:=rfl
  have e2:(2:Nat) ^ 8=256:=by decide
  rw [e,aw_n0]
  have h3:=aw_h0 (t - 129) (by omega)
  rw [show 129+(t - 129)=t from by omega] at h3
  exact h3
theorem aw_s01 (w:World) (hT:Tabs w):Calls Tryz.prog 68 #[.agg #[.int .i64 8,.int .i64 (-3),.int .i64 128,.string { data:=#[49] },.string { data:=#[48] }],.string { data:=#[49,47,49,48] }] w fun e w'=>e = .returned (.float .f32 1040187392)∧Below w.heap.size w w':=by
 refine sample_ok { data:=#[49,47,49,48] } 8 130 (-3) 128 { data:=#[49] } { data:=#[48] } w hT aw_conv (by decide) 129 0 1040187392 (by decide) ?_ ?_ (by decide) (by decide) (by decide) aw_nom1
 ·intro t ht
  have e:({ data:=#[49,47,49,48] }:ByteArray).data.toList=[49,47,49,48]:=rfl
  rw [e,aw_n01]
  exact aw_l01 t ht
 ·intro t h1 h2
  have e:({ data:=#[49,47,49,48] }:ByteArray).data.toList=[49,47,49,48]:=rfl
  have e2:(2:Nat) ^ 8=256:=by decide
  rw [e,aw_n01]
  have h3:=aw_h01 (t - 130) (by omega)
  rw [show 130+(t - 130)=t from by omega] at h3
  exact h3
theorem aw_s20 (w:World) (hT:Tabs w):Calls Tryz.prog 68 #[.agg #[.int .i64 8,.int .i64 (-3),.int .i64 128,.string { data:=#[49] },.string { data:=#[48] }],.string { data:=#[50,48] }] w fun e w'=>e = .returned (.float .f32 1098776576)∧Below w.heap.size w w':=by
 refine sample_ok { data:=#[50,48] } 8 257 (-3) 128 { data:=#[49] } { data:=#[48] } w hT aw_conv (by decide) 255 1 1098776576 (by decide) ?_ ?_ (by decide) (by decide) (by decide) aw_nomhi
 ·intro t ht
  have e:({ data:=#[50,48] }:ByteArray).data.toList=[50,48]:=rfl
  rw [e,aw_n20]
  exact aw_l20 t ht
 ·intro t h1 h2
  have e:({ data:=#[50,48] }:ByteArray).data.toList=[50,48]:=rfl
  have e2:(2:Nat) ^ 8=256:=by decide
  rw [e,aw_n20]
  omega
theorem aw_s30 (w:World) (hT:Tabs w):Calls Tryz.prog 68 #[.agg #[.int .i64 8,.int .i64 (-3),.int .i64 128,.string { data:=#[49] },.string { data:=#[48] }],.string { data:=#[51,48] }] w fun e w'=>e = .returned (.float .f32 1098776576)∧Below w.heap.size w w':=by
 refine sample_ok { data:=#[51,48] } 8 257 (-3) 128 { data:=#[49] } { data:=#[48] } w hT aw_conv (by decide) 255 1 1098776576 (by decide) ?_ ?_ (by decide) (by decide) (by decide) aw_nomhi
 ·intro t ht
  have e:({ data:=#[51,48] }:ByteArray).data.toList=[51,48]:=rfl
  rw [e,aw_n30]
  exact aw_l30 t ht
 ·intro t h1 h2
  have e:({ data:=#[51,48] }:ByteArray).data.toList=[51,48]:=rfl
  have e2:(2:Nat) ^ 8=256:=by decide
  rw [e,aw_n30]
  omega
theorem aw_sampled (w:World) (hT:Tabs w) (g:Nat) (t:TypeId) (hg:g=w.heap.size) :
  Calls Tryz.prog 11 #[.agg #[.int .i64 8,.int .i64 (-3),.int .i64 128,.string { data:=#[49] },.string { data:=#[48] }],.slice (some ⟨g,0,none⟩) 5 5] (w.alloc (.cells #[.string { data:=#[45,50,48] },.string { data:=#[48] },.string { data:=#[49,47,49,48] },.string { data:=#[50,48] },.string { data:=#[51,48] }] t)) fun e w'=>
   ∃ b,e = .returned (.tuple #[.slice (some ⟨b,0,none⟩) 5 5,.int .i64 0])∧w.heap.size≤b∧Reads w' w'.heap.size 1 (some ⟨b,0,none⟩) 5 ([3246391296,0,1040187392,1098776576,1098776576].map f32v)∧Below w.heap.size w w':=by
 subst hg
 have hb:Below w.heap.size w (w.alloc (.cells #[.string { data:=#[45,50,48] },.string { data:=#[48] },.string { data:=#[49,47,49,48] },.string { data:=#[50,48] },.string { data:=#[51,48] }] t)):=(Below.refl _ _).alloc (Nat.le_refl _) _
 refine (Sampled_ok 8 (-3) 128 { data:=#[49] } { data:=#[48] } (some ⟨w.heap.size,0,none⟩) 5 5 [{ data:=#[45,50,48] },{ data:=#[48] },{ data:=#[49,47,49,48] },{ data:=#[50,48] },{ data:=#[51,48] }] [3246391296,0,1040187392,1098776576,1098776576] (w.alloc (.cells #[.string { data:=#[45,50,48] },.string { data:=#[48] },.string { data:=#[49,47,49,48] },.string { data:=#[50,48] },.string { data:=#[51,48] }] t)) (hT.later hb) aw_conv (Reads.lit w [.string { data:=#[45,50,48] },.string { data:=#[48] },.string { data:=#[49,47,49,48] },.string { data:=#[50,48] },.string { data:=#[51,48] }] t) (by decide) ?_ rfl ?_).mono ?_
 ·intro s hs
  simp only [List.mem_cons,List.not_mem_nil,or_false] at hs
  rcases hs with rfl | rfl | rfl | rfl | rfl
  ·exact ⟨by decide,aw_r20m⟩
  ·exact ⟨by decide,aw_r0⟩
  ·exact ⟨by decide,aw_r01⟩
  ·exact ⟨by decide,aw_r20⟩
  ·exact ⟨by decide,aw_r30⟩
 ·intro i s y W hTW hs hy
  match i,hs,hy with
  | 0,hs,hy=>cases hs;cases hy;exact aw_s20m W hTW
  | 1,hs,hy=>cases hs;cases hy;exact aw_s0 W hTW
  | 2,hs,hy=>cases hs;cases hy;exact aw_s01 W hTW
  | 3,hs,hy=>cases hs;cases hy;exact aw_s20 W hTW
  | 4,hs,hy=>cases hs;cases hy;exact aw_s30 W hTW
 ·rintro e w' ⟨b,rfl,hbb,ho,hb'⟩
  exact ⟨b,rfl,Nat.le_trans hb.size hbb,Reads.of_own ho,hb.trans (hb'.mono hb.size)⟩
theorem aw_codes (w:World) (hT:Tabs w) (A:Option Addr) (h:Reads w w.heap.size 1 A 5 ([3246391296,0,1040187392,1098776576,1098776576].map f32v)) :
  Calls Tryz.prog 13 #[.agg #[.int .i64 8,.int .i64 (-3),.int .i64 128,.string { data:=#[49] },.string { data:=#[48] }],.slice A 5 5] w fun e w'=>
   ∃ b,e = .returned (.tuple #[.slice (some ⟨b,0,none⟩) 5 5,.int .i64 0])∧w.heap.size≤b∧Reads w' w'.heap.size 1 (some ⟨b,0,none⟩) 5 ([0,128,129,255,255].map natv)∧Below w.heap.size w w':=by
 refine (Codes_ok 8 (-3) 128 { data:=#[49] } { data:=#[48] } A 5 5 [3246391296,0,1040187392,1098776576,1098776576] [0,128,129,255,255] w hT aw_conv 255 (by decide) (fun n c=>aw_dist n c) h (by decide) aw_smpfin rfl ?_).mono ?_
 ·intro i y k hy hk
  have hk2:k≤255:=by
   have hm:=List.mem_of_getElem? hk
   simp only [List.mem_cons,List.not_mem_nil,or_false] at hm
   omega
  rw [aw_smp,List.getElem?_map,hk] at hy
  obtain rfl:nomF (-3) 128 k=y:=Option.some.inj hy
  exact ⟨hk2,aw_self k hk2,fun d hd=>aw_dist k d hk2 hd⟩
 ·rintro e w' ⟨b,rfl,hbb,ho,hb'⟩
  exact ⟨b,rfl,hbb,Reads.of_own ho,hb'⟩
set_option maxHeartbeats 2000000 in
set_option maxRecDepth 100000 in
theorem aw_clipped (w:World) (hT:Tabs w) (A:Option Addr) (h:Reads w w.heap.size 1 A 5 ([3246391296,0,1040187392,1098776576,1098776576].map f32v)) :
  Calls Tryz.prog 15 #[.agg #[.int .i64 8,.int .i64 (-3),.int .i64 128,.string { data:=#[49] },.string { data:=#[48] }],.slice A 5 5] w fun e w'=>
   ∃ g c,e = .returned (.tuple #[.slice (some ⟨g,0,none⟩) 2 c,.int .i64 0])∧Reads w' w'.heap.size 2 (some ⟨g,0,none⟩) 2 [.int .i64 0,.int .i64 1,.int .i64 3,.int .i64 5]∧Below w.heap.size w w':=by
 have hb0:Below w.heap.size w (w.alloc (.cells #[.int .i64 8,.int .i64 (-3),.int .i64 128,.string { data:=#[49] },.string { data:=#[48] }] 33)):=(Below.refl _ _).alloc (Nat.le_refl _) _
 have q0:CBlk (w.alloc (.cells #[.int .i64 8,.int .i64 (-3),.int .i64 128,.string { data:=#[49] },.string { data:=#[48] }] 33)) w.heap.size #[.int .i64 8,.int .i64 (-3),.int .i64 128,.string { data:=#[49] },.string { data:=#[48] }] 33:=CBlk.new w _ _ _ rfl
 have x0:=q0.cell 0
 have x1:=q0.cell 1
 have x2:=q0.cell 2
 have x3:=q0.cell 3
 have x4:=q0.cell 4
 have HC:=Lib.hid (aw_codes _ (hT.later hb0) A (h.later hb0))
 have hmf:∀ (fn:Fn) (first cap:Array Value) (w:World),(Instr.makeFunc fn first cap).run Tryz.prog w = .ok (.func fn first cap) w:=fun _ _ _ _=>rfl
 clear h
 go_enter Tryz.func15,Tryz.ntmps15
 go_wp2_with fail
 generalize w.alloc (.cells #[.int .i64 8,.int .i64 (-3),.int .i64 128,.string { data:=#[49] },.string { data:=#[48] }] 33)=w1 at *
 refine HC.out.mono ?_
 rintro e w2 ⟨b,rfl,hbb,hr,hb2⟩
 have q2:=q0.below hb2 q0.lt
 have hB2:=hb0.trans (hb2.mono hb0.size)
 clear x0 x1 x2 x3 x4 HC
 have x0:=q2.cell 0
 have x1:=q2.cell 1
 have x2:=q2.cell 2
 have x3:=q2.cell 3
 have x4:=q2.cell 4
 have HR:=Lib.hid (aw_ranges b 5 w2 hr)
 clear hr
 go_wp2_with fail
 refine HR.out.mono ?_
 rintro e w3 ⟨v,rfl,ho,hb3⟩
 have hB3:=hB2.trans (hb3.mono hB2.size)
 obtain ⟨g,c,rfl,hr⟩:=own_slice0 ho (by decide)
 clear x0 x1 x2 x3 x4 HR
 go_wp2_with fail
 go_ret2
 exact ⟨g,c,rfl,hr,hB3⟩
theorem aw_calibrated (w:World) (hT:Tabs w) :
  Calls Tryz.prog 40 #[.agg #[.int .i64 8,.int .i64 (-3),.int .i64 128,.string { data:=#[49] },.string { data:=#[48] }],.agg #[.int .i64 128,.string { data:=#[49,47,50] }],.agg #[.int .i64 136,.string { data:=#[53,47,50] }]] w fun e w'=>
   e = .returned (.tuple #[.agg #[.int .i64 8,.int .i64 (-3),.int .i64 128,.string { data:=#[50] },.string { data:=#[49,47,50] }],.int .i64 0])∧Below w.heap.size w w':=
 calib_main 8 (-3) 128 128 136 1 { data:=#[49] } { data:=#[48] } { data:=#[49,47,50] } { data:=#[53,47,50] } { data:=#[48] } { data:=#[49] } { data:=#[50] } { data:=#[49,47,50] } 0 1065353216
  ⟨false,0,1⟩ ⟨false,1,1⟩ ⟨false,1,2⟩ ⟨false,5,2⟩ ⟨false,1,1⟩ ⟨false,2,1⟩ ⟨false,2,1⟩ ⟨false,0,1⟩ ⟨false,1,2⟩ _ w hT
  (aw_ccode 128 (by decide)) (aw_ccode 136 (by decide)) (aw_check { data:=#[49,47,50] } (by decide) aw_rh) (aw_check { data:=#[53,47,50] } (by decide) aw_r5h) (by decide)
  (aw_nominal 128 0 (by decide) aw_nom0) (aw_nominal 136 1065353216 (by decide) aw_nom8) (fun W hT=>exact_eq 0 [48] W hT aw_tx0) (fun W hT=>exact_eq 1065353216 [49] W hT aw_tx1)
  (aw_read { data:=#[48] } false 0 1 (by decide) aw_q0) (aw_read { data:=#[49,47,50] } false 1 2 (by decide) aw_qh) (aw_read { data:=#[49] } false 1 1 (by decide) aw_q1) (aw_read { data:=#[53,47,50] } false 5 2 (by decide) aw_q5h)
  (aw_minus ⟨false,1,1⟩ ⟨false,0,1⟩ false 1 1 aw_run (by decide) (by decide)) (aw_minus ⟨false,5,2⟩ ⟨false,1,2⟩ false 2 1 aw_dv (by decide) (by decide)) (aw_over ⟨false,2,1⟩ ⟨false,1,1⟩ false 2 1 aw_sl (by decide) (by decide))
  (fun v W hv=>aw_sign ⟨false,2,1⟩ 1 (by decide) v W hv) (fun v W hT hv=>aw_write ⟨false,2,1⟩ [50] aw_wg (by decide) v W hT hv) (aw_times ⟨false,2,1⟩ ⟨false,0,1⟩ false 0 1 aw_st (by decide) (by decide))
  (aw_minus ⟨false,1,2⟩ ⟨false,0,1⟩ false 1 2 aw_of (by decide) (by decide)) (fun v W hT hv=>aw_write ⟨false,1,2⟩ [49,47,50] aw_wo (by decide) v W hT hv) (fun h=>absurd h (by decide)) (fun _=>rfl)
end Go.Proofs.YtmkihdjolnlccaaGreatDoor
namespace Go.Proofs.YtmkihdjolnlccaaGreatDoor
open Go.RowKit
open Flt
theorem signed_opp (s:Bool) (m k:Nat):Ieee.signed s m k+Ieee.signed (!s) m k=0:=by
 unfold Ieee.signed
 cases s<;>simp<;>omega
theorem sub_self {b:Nat} (h:fin Ieee.single b=true):floatBits .sub .f32 b b=some 0:=by
 unfold fin at h
 show ((Ieee.single.read b).sum (Ieee.single.read b).opposite).map Ieee.single.write=some 0
 rcases hr:Ieee.single.read b with ⟨s,m,p⟩ | s | ⟨s,f⟩
 ·have e1:(Ieee.Datum.number s m p).opposite = .number (!s) m p:=rfl
  rw [e1]
  unfold Ieee.Datum.sum
  simp only [Int.min_self,signed_opp]
  have e2:(s && !s)=false:=by cases s<;>rfl
  simp only [if_true,e2,Int.natAbs_zero,Option.map_some]
  congr 1
 ·rw [hr] at h;cases h
 ·rw [hr] at h;cases h
set_option maxHeartbeats 1000000 in
theorem sameWords_eq (A A':Option Addr) (n c c':Nat) (l:List Nat) (w:World) (h:Reads w w.heap.size 1 A n (l.map u16v)) (h':Reads w w.heap.size 1 A' n (l.map u16v)) (hn:n≤maxLen) :
  Calls Tryz.prog 63 #[.slice A n c,.slice A' n c'] w fun e w'=>e = .returned (.bool true)∧Below w.heap.size w w':=by
 unfold maxLen at hn
 go_enter Tryz.func63,Tryz.ntmps63
 go_wp2
 go_loopg [5] n (fun m s W=>∃ k:Nat,k≤n∧s = .int .i64 k∧n - k≤m∧Below w.heap.size w W)
 case atStart=>exact ⟨0,Nat.zero_le _,rfl,by omega,Below.refl _ _⟩
 case round=>
  obtain ⟨k,hk,rfl,hm,hbel⟩:=hrel
  by_cases h0:k<n
  ·obtain ⟨ad,hkl,rfl,hbb,hcell⟩:=(h.below hbel).cellM h0
   obtain ⟨ad',hkl',rfl,hbb',hcell'⟩:=(h'.below hbel).cellM h0
   unfold u16v at hcell hcell'
   generalize l[k]=x at *
   go_wp2
   go_region
   go_wp2
   go_roundg (n - (k+1))
   case measure=>omega
   case rel=>exact ⟨k+1,by omega,by go_num,Nat.le_refl _,hbel.drew⟩
  ·go_wp2
   go_ret
   exact ⟨rfl,hbel⟩
end Go.Proofs.YtmkihdjolnlccaaGreatDoor
namespace Go.Proofs.YtmkihdjolnlccaaGreatDoor
open Go.RowKit Bn
open Flt
set_option maxHeartbeats 2000000 in
set_option maxRecDepth 100000 in
theorem aw_ranges_eq (g g' c c':Nat) (w:World) (h:Reads w w.heap.size 2 (some ⟨g,0,none⟩) 2 [.int .i64 0,.int .i64 1,.int .i64 3,.int .i64 5]) (h':Reads w w.heap.size 2 (some ⟨g',0,none⟩) 2 [.int .i64 0,.int .i64 1,.int .i64 3,.int .i64 5]) :
  Calls Tryz.prog 24 #[.slice (some ⟨g,0,none⟩) 2 c,.slice (some ⟨g',0,none⟩) 2 c'] w fun e w'=>e = .returned (.bool true)∧Below w.heap.size w w':=by
 obtain ⟨ad,had,hb,hce⟩:=h.2 (by omega)
 cases had
 obtain ⟨ad',had',hb',hce'⟩:=h'.2 (by omega)
 cases had'
 have y0:w.cell? ⟨g,0,none⟩=some (.int .i64 0):=hce 0 (.int .i64 0) rfl
 have z0:w.cell? ⟨g',0,none⟩=some (.int .i64 0):=hce' 0 (.int .i64 0) rfl
 have y1:w.cell? ⟨g,1,none⟩=some (.int .i64 1):=hce 1 (.int .i64 1) rfl
 have z1:w.cell? ⟨g',1,none⟩=some (.int .i64 1):=hce' 1 (.int .i64 1) rfl
 have y2:w.cell? ⟨g,2,none⟩=some (.int .i64 3):=hce 2 (.int .i64 3) rfl
 have z2:w.cell? ⟨g',2,none⟩=some (.int .i64 3):=hce' 2 (.int .i64 3) rfl
 have y3:w.cell? ⟨g,3,none⟩=some (.int .i64 5):=hce 3 (.int .i64 5) rfl
 have z3:w.cell? ⟨g',3,none⟩=some (.int .i64 5):=hce' 3 (.int .i64 5) rfl
 clear hce hce' h h'
 have q0:∀ W:World,(Op.equalIn 10000 94 (.agg #[.int .i64 0,.int .i64 1]) (.agg #[.int .i64 0,.int .i64 1])).run Tryz.prog W = .ok true W:=fun W=>by kernel_rfl
 have q1:∀ W:World,(Op.equalIn 10000 94 (.agg #[.int .i64 3,.int .i64 5]) (.agg #[.int .i64 3,.int .i64 5])).run Tryz.prog W = .ok true W:=fun W=>by kernel_rfl
 go_enter Tryz.func24,Tryz.ntmps24
 go_wp2
 go_loopg [5] 2 (fun m s W=>Below w.heap.size w W∧((s = .int .i64 0∧2≤m)∨(s = .int .i64 1∧1≤m)∨s = .int .i64 2))
 case atStart=>exact ⟨Below.refl _ _,Or.inl ⟨rfl,Nat.le_refl _⟩⟩
 case round=>
  obtain ⟨hbel,(⟨rfl,hm⟩ | ⟨rfl,hm⟩ | rfl)⟩:=hrel
  ·have c0:=(hbel.cell (p:=⟨g,0,none⟩) hb).trans y0
   have c1:=(hbel.cell (p:=⟨g,1,none⟩) hb).trans y1
   have d0:=(hbel.cell (p:=⟨g',0,none⟩) hb').trans z0
   have d1:=(hbel.cell (p:=⟨g',1,none⟩) hb').trans z1
   go_wp2
   go_region
   go_wp2
   go_roundg 1
   case measure=>omega
   case rel=>exact ⟨hbel.drew,Or.inr (Or.inl ⟨rfl,Nat.le_refl _⟩)⟩
  ·have c2:=(hbel.cell (p:=⟨g,2,none⟩) hb).trans y2
   have c3:=(hbel.cell (p:=⟨g,3,none⟩) hb).trans y3
   have d2:=(hbel.cell (p:=⟨g',2,none⟩) hb').trans z2
   have d3:=(hbel.cell (p:=⟨g',3,none⟩) hb').trans z3
   go_wp2
   go_region
   go_wp2
   go_roundg 0
   case measure=>omega
   case rel=>exact ⟨hbel.drew,Or.inr (Or.inr rfl)⟩
  ·go_wp2
   go_ret
   exact ⟨rfl,hbel⟩
set_option maxHeartbeats 1000000 in
theorem aw_block (A:Option Addr) (c:Nat) (w:World) :
  Calls Tryz.prog 62 #[.slice A 3 c] w fun e w'=>e = .returned (.tuple #[.agg #[.int .u16 0,.int .u16 0,.int .u16 0,.int .u16 0,.int .u16 0,.int .u16 0,.int .u16 0,.int .u16 0,.int .u16 0,.int .u16 0,.int .u16 0,.int .u16 0,.int .u16 0,.int .u16 0,.int .u16 0,.int .u16 0],.int .i64 2])∧Below w.heap.size w w':=by
 have HM:=Lib.hid (fun W=>catMost_u16 A 3 c 4096 W)
 go_enter Tryz.func62,Tryz.ntmps62
 go_wp2_with fail
 refine (HM.out _).mono ?_
 rintro e w1 ⟨rfl,rfl⟩
 go_wp2_with fail
 refine bodyPost_ret (v := .tuple #[.agg #[.int .u16 0,.int .u16 0,.int .u16 0,.int .u16 0,.int .u16 0,.int .u16 0,.int .u16 0,.int .u16 0,.int .u16 0,.int .u16 0,.int .u16 0,.int .u16 0,.int .u16 0,.int .u16 0,.int .u16 0,.int .u16 0],.int .i64 2]) (by simp [results,Tryz.results62,go_sem]) rfl ⟨rfl,(Below.refl _ _).alloc (Nat.le_refl _) _⟩
end Go.Proofs.YtmkihdjolnlccaaGreatDoor
