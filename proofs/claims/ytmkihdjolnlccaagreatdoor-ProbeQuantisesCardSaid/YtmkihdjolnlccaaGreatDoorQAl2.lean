/- Contract of probe's Aligned, of valid records and skews. -/
import Derived.Test.YtmkihdjolnlccaaGreatDoorQAlg
import Derived.Deep.RegionHeld3
import Derived.Test.YtmkihdjolnlccaaGreatDoorQSms
import Derived.Deep.MidRow
import Derived.Maps.AppendAt
import Derived.Test.YtmkihdjolnlccaaGreatDoorQTrn
import Derived.Test.YtmkihdjolnlccaaGreatDoorQRb24
namespace Go.Proofs.YtmkihdjolnlccaaGreatDoor
open Go.RowKit
open Flt
theorem zqn:(Tryz.prog.info? 26).map (fun i=>(i.zero,i.size,i.bytes))=some (some (.slice none 0 0),1,24):=by kernel_rfl
theorem zmG (args:Array Value) (w:World):(callFunc 143 args).run Tryz.prog w = .ok (.enter 143 args) w:=by kernel_rfl
theorem zpA (A:Option Addr) (n c:Nat) (l:List Nat) (w:World) (h:zae w w.heap.size 1 A n (l.map f32v)) (hn:n≤4096) :
  Calls Tryz.prog 142 #[.slice A n c,.func (.func 143) #[] #[]] w fun e w'=>
   e = .returned (.slice (some ⟨w.heap.size,0,none⟩) n n)∧w'.ownsRow w.heap.size 64 1 (.slice (some ⟨w.heap.size,0,none⟩) n n) n ((l.map posz).map f32v)∧Below w.heap.size w w':=by
 have hl:=h.lenM
 have HT:=zsF 143 #[] none (fun _ _=>True) A n c (l.map f32v) (l.map posz) w zmG hn h (by rw [List.length_map];exact hl) (fun b hb=>by cases hb) trivial (fun _ _ _ _ _=>trivial) (by
  intro W i x y hi hg _ hx hy
  have hil:i<l.length:=by omega
  rw [List.getElem?_map,List.getElem?_eq_getElem hil] at hx hy
  injection hx with hx
  injection hy with hy
  subst hx
  subst hy
  refine (zil l[i] W).mono ?_
  rintro e w' ⟨rfl,rfl⟩
  exact ⟨rfl,zeM _ _,trivial⟩)
 refine HT.mono ?_
 rintro e w' ⟨he,ho,hg,_⟩
 exact ⟨he,ho,zgr hg (Nat.le_refl _)⟩
def Laid (W:World) (B G m:Nat) (gs:List Nat) (rows:List (List Nat)):Prop:=
 gs.length=rows.length∧∀ i (h:i<rows.length) (h2:i<gs.length),G<gs[i]∧rows[i].length=m∧W.ownsRow B 64 1 (.slice (some ⟨gs[i],0,none⟩) m m) m (rows[i].map f32v)
def sl1 (m g:Nat):Value := .slice (some ⟨g,0,none⟩) m m
theorem Laid.below {W W':World} {B G m:Nat} {gs:List Nat} {rows:List (List Nat)} (h:Laid W B G m gs rows) (hb:Below W.heap.size W W'):Laid W' B G m gs rows:=
 ⟨h.1,fun i hi h2=>by
  obtain ⟨h3,h4,h5⟩:=h.2 i hi h2
  exact ⟨h3,h4,zcn h5 (za0 hb none) (by simp)⟩⟩
theorem Laid.set {W:World} {B G m:Nat} {gs:List Nat} {rows:List (List Nat)} (h:Laid W B G m gs rows) (k:Nat) (u:Value):Laid (W.setCell ⟨G,k,none⟩ u) B G m gs rows:=
 ⟨h.1,fun i hi h2=>by
  obtain ⟨h3,h4,h5⟩:=h.2 i hi h2
  exact ⟨h3,h4,zcn h5 (zaN (g:=G) (za0 (Below.refl _ _) _) (p:=⟨G,k,none⟩) (.inl rfl) u) (by intro e;injection e with e;omega)⟩⟩
theorem Laid.snoc {W:World} {B G m g:Nat} {gs:List Nat} {rows:List (List Nat)} {r:List Nat} (h:Laid W B G m gs rows) (hg:G<g) (hr:r.length=m) (ho:W.ownsRow B 64 1 (.slice (some ⟨g,0,none⟩) m m) m (r.map f32v)):Laid W B G m (gs++[g]) (rows++[r]):=by
 refine ⟨by rw [List.length_append,List.length_append,h.1];rfl,fun i hi h2 => ?_⟩
 have hl:=h.1
 by_cases hlt:i<rows.length
 ·rw [List.getElem_append_left (by omega),List.getElem_append_left hlt]
  exact h.2 i hlt (by omega)
 ·have e:i=rows.length:=by rw [List.length_append] at hi;simp at hi;omega
  subst e
  rw [List.getElem_append_right (by omega),List.getElem_append_right (Nat.le_refl _)]
  simp only [hl,Nat.sub_self,List.getElem_singleton]
  exact ⟨hg,hr,ho⟩
end Go.Proofs.YtmkihdjolnlccaaGreatDoor
namespace Go.Proofs.YtmkihdjolnlccaaGreatDoor
open Go.RowKit
theorem zae.dropN {w:World} {B n k:Nat} {ad:Addr} {xs:List Value} (h:zae w B 1 (some ad) n xs) (hk:k≤n):zae w B 1 (some (ad.add k)) (n - k) (xs.drop k):=by
 refine ⟨by rw [List.length_drop,h.1];omega,fun h0 => ?_⟩
 obtain ⟨ad',e,hb,hc⟩:=h.2 (by omega)
 injection e with e
 subst e
 refine ⟨_,rfl,by rw [zaI];exact hb,fun j u hu => ?_⟩
 rw [zeP]
 rw [List.getElem?_drop] at hu
 exact hc _ u hu
end Go.Proofs.YtmkihdjolnlccaaGreatDoor
namespace Go.Proofs.YtmkihdjolnlccaaGreatDoor
open Go.RowKit
open Flt
theorem zto (m:Nat) (gs:List Nat) (z:Value) (n k g:Nat) (hk:k<n) (hy:gs.length=k) :
  (gs.map (sl1 m)++List.replicate (n - k) z).set k (sl1 m g)=(gs++[g]).map (sl1 m)++List.replicate (n - (k+1)) z:=by
 rw [List.set_append_right _ _ (by rw [List.length_map];omega),List.length_map,hy,Nat.sub_self,show n - k=(n - (k+1))+1 from by omega,List.replicate_succ,List.set_cons_zero,List.map_append,List.append_assoc]
 rfl
theorem znZ (rows:List (List Nat)) (sk:List Int) (k:Nat) (h:k<rows.length) (h2:k<sk.length):(algR rows sk).take (k+1)=(algR rows sk).take k++[alg1 (frT sk) (toT rows sk) rows[k] sk[k]]:=by
 have hl:k<(algR rows sk).length:=by unfold algR;rw [List.length_zipWith];omega
 unfold algR at hl ⊢
 rw [List.take_succ_eq_append_getElem hl,List.getElem_zipWith]
set_option maxHeartbeats 2000000 in
set_option maxRecDepth 100000 in
theorem zlu (A A':Option Addr) (n c c' m:Nat) (rows:List (List Nat)) (sk:List Int) (w:World) (h:zcG f32v w w.heap.size A n rows) (h':zae w w.heap.size 1 A' n (sk.map i64v)) (hv:Valid rows sk) (hlt:frT sk<toT rows sk) (hm:(m:Int)=toT rows sk - frT sk) :
  Calls Tryz.prog 61 #[.slice A n c,.slice A' n c'] w fun e w'=>∃ G gs,e = .returned (.tuple #[.slice (some ⟨G,0,none⟩) n n,.int .i64 0])∧Laid w' w.heap.size G m gs (algR rows sk)∧w'.ownsRow w.heap.size 26 1 (.slice (some ⟨G,0,none⟩) n n) n (gs.map (sl1 m))∧Below w.heap.size w w':=by
 obtain ⟨i0,hi0,hz0,hz1,hz2⟩:=info_parts zqn
 have hl:=h.1
 have hl':=hv.same
 have h1:=hv.some_
 have h8:=hv.few
 have K1:=Lib.hid (zfA A n c rows w h (by omega) (by omega) hv.len hv.fin)
 have K2:=Lib.hid (fun (W:World) (hb:Below w.heap.size w W)=>zhN A' n c' sk W (h'.later hb) (by omega) hv.small)
 have K3:=Lib.hid (fun (W:World) (hb:Below w.heap.size w W)=>zgw A A' n c c' rows sk W (h.later hb) (h'.later hb) (by omega) hv.len hv.small)
 have HGE:=Lib.hid (ztn sk)
 have HLE:=Lib.hid (zs8 rows sk hl')
 have HSU:=Lib.hid (znZ rows sk)
 have hal:(algR rows sk).length=n:=by unfold algR;rw [List.length_zipWith];omega
 have hbd:=zsP sk hv.small
 have hbt:=zsZ rows sk
 have HLEN:=Lib.hid hv.len
 have HS:=Lib.hid hv.small
 generalize algR rows sk=R at *
 generalize toT rows sk=tt at *
 generalize frT sk=fr at *
 have hd:decide (tt≤fr)=false:=by simpa using hlt
 have hn8:n≤8:=by omega
 have hn1:1≤n:=by omega
 have HL:=Lib.hid hl
 have HL':=Lib.hid hl'
 have HAL:=Lib.hid hal
 have HM:=Lib.hid hm
 clear hl hl' h1 h8 hv hal hm
 go_enter Tryz.func61,Tryz.ntmps61
 go_wp2_with fail
 refine K1.out.mono ?_
 rintro e w1 ⟨rfl,hb1⟩
 go_wp2_with fail
 refine (K2.out w1 hb1).mono ?_
 rintro e w2 ⟨rfl,hb2⟩
 have hB2:=hb1.trans (hb2.mono hb1.size)
 go_wp2_with fail
 refine (za7 0 0 w2 30 w2.heap.size rfl).mono ?_
 rintro e w3 ⟨rfl,rfl⟩
 have hB3:Below w.heap.size w (w2.alloc (.cells #[.int .i64 0,.int .i64 0] 30)):=hB2.alloc hB2.size _
 generalize w2.alloc (.cells #[.int .i64 0,.int .i64 0] 30)=w3 at *
 go_wp2_with fail
 refine (K3.out w3 hB3).mono ?_
 rintro e w4 ⟨rfl,rfl⟩
 go_wp2_with (at_make;refine wpList_make_full _ rfl _ _ 108 rfl w3.heap.size 26 i0 (.slice none 0 0) 1 Tryz.underlying108 hi0 hz0 hz1 _ _ _ _ n rfl rfl (by omega) (by omega) ?b2 ?b3 (Nat.le_refl _) ?_)
 case b2=>rw [hz2];omega
 case b3=>unfold maxLen;omega
 intro w5 hown0 hgrow0
 rw [toList_madeCells_one] at hown0
 have hB5:Below w.heap.size w w5:=hB3.trans ((zgr hgrow0 (Nat.le_refl _)).mono hB3.size)
 have hle:=hB3.size
 have hG5:=(zkV hown0).2
 have hown1:=zep hown0 hle
 clear hgrow0 hown0
 generalize w3.heap.size=G at *
 go_wp2
 go_loopg [37] n (fun q s W=>∃ k:Nat,k≤n∧s = .int .i64 k∧n - k≤q∧(∃ gs:List Nat,Hid (gs.length=k)∧Laid W w.heap.size G m gs (R.take k)∧W.ownsRow w.heap.size 26 1 (.slice (some ⟨G,0,none⟩) n n) n (gs.map (sl1 m)++List.replicate (n - k) (.slice none 0 0)))∧Below w.heap.size w W∧G<W.heap.size)
 case atStart=>exact ⟨0,Nat.zero_le _,rfl,by omega,⟨[],rfl,⟨by simp,fun i hi _=>by simp at hi⟩,by simpa using hown1⟩,hB5,hG5⟩
 case round=>
  obtain ⟨k,hk,rfl,hq,⟨gs,hgs,hlaid,hown⟩,hbel,hGr⟩:=hrel
  by_cases h0:k<n
  ·obtain ⟨ad,hkl,A1,c1,rfl,hbb,hcell,hlc,hcm,hrd⟩:=(h.below hbel).row h0
   obtain ⟨ad',hkl',rfl,hbb',hcell'⟩:=(h'.below hbel).cellM h0
   have hL:=HLEN.out rows[k] (List.getElem_mem hkl)
   have hS:=HS.out sk[k] (List.getElem_mem hkl')
   have hge:=HGE.out sk[k] (List.getElem_mem hkl')
   have hle2:=HLE.out k hkl hkl'
   have hsu:=HSU.out k hkl hkl'
   unfold i64v at hcell'
   obtain ⟨lo,hlo⟩:∃ lo:Nat,(lo:Int)=fr+sk[k]:=⟨(fr+sk[k]).toNat,by omega⟩
   obtain ⟨hi,hhi⟩:∃ hi:Nat,(hi:Int)=tt+sk[k]:=⟨(tt+sk[k]).toNat,by omega⟩
   have hm2:=HM.out
   have hml:hi - lo=m:=by omega
   have hb1':lo<hi:=by omega
   have hb2':hi≤rows[k].length:=by omega
   obtain ⟨a1,rfl,ha1,_⟩:=hrd.2 (by omega)
   have hcut:=(hrd.dropN (k:=lo) (by omega)).take (m:=m) (by omega)
   rw [←List.map_drop,←List.map_take] at hcut
   have he1:((rows[k].drop lo).take m).map posz=alg1 fr tt rows[k] sk[k]:=by
    unfold alg1
    rw [←hlo,←hm2];rfl
   have hT:=zpA (some (a1.add lo)) m (c1 - lo) ((rows[k].drop lo).take m) wr.drew (hcut.more hbel.size) (by omega)
   rw [he1] at hT
   rw [←he1] at hsu
   have hrl:(((rows[k].drop lo).take m).map posz).length=m:=by rw [List.length_map];exact hcut.lenM
   rw [he1] at hsu hrl
   generalize alg1 fr tt rows[k] sk[k]=r at *
   generalize rows[k].length=L at *
   have hx1:IntKind.i64.wrap (fr+sk[k])=(lo:Int):=by rw [←hlo];exact IntWalk.i64_in _ (by omega)
   have hx2:IntKind.i64.wrap (tt+sk[k])=(hi:Int):=by rw [←hhi];exact IntWalk.i64_in _ (by omega)
   generalize sk[k]=s at *
   have HT:=Lib.hid hT
   have HSU2:=Lib.hid hsu
   have HRL:=Lib.hid hrl
   have hy1:(0:Int)≤(lo:Int):=by omega
   have hy2:(lo:Int)≤(hi:Int):=by omega
   have hy3:(hi:Int)≤(c1:Int):=by omega
   have hy4:c1≠lo:=by omega
   have hy5:(0:Int)≤(k:Int):=by omega
   have hy6:(k:Int)<(n:Int):=by omega
   have hne:(⟨G,k,none⟩:Addr)≠ad'.add k:=fun e=>by
    have:=congrArg Addr.block e
    rw [zaI] at this
    have:G=ad'.block:=this
    omega
   clear hT hsu hrl hlo hhi hm2 he1 hcut
   go_wp2_with fail
   go_region_held3 (fun w'=>w'.cell? (ad'.add k)=some (.int .i64 s))
    ((first | exact hcell' | exact y6 | exact (World.cell?_setCell_other _ _ _ _ hne).trans y6))
    ((go_at_call 142;refine (HT.out).mono ?_;rintro e w6 ⟨rfl,ho6,hb6'⟩;have hb6:Below wr.heap.size wr w6:=⟨hb6'.os,hb6'.tape,hb6'.output,hb6'.size,hb6'.block⟩;clear hb6';have hr6:=zcn hown (za0 hb6 none) (by simp);obtain ⟨v6,hc6⟩:=zc0 hr6 k h0;have hf6:=zbw hr6 k;have y6:=(hb6.cell (by rw [zaI];exact Nat.lt_of_lt_of_le hbb' hbel.size)).trans hcell'))
   go_wp2
   go_roundg (n - (k+1))
   case measure=>omega
   case rel=>
    have hlw:w.heap.size≤wr.heap.size:=hbel.size
    refine ⟨k+1,by omega,by go_num,Nat.le_refl _,⟨gs++[wr.heap.size],?_,?_,?_⟩,?_,?_⟩
    ·show (gs++[wr.heap.size]).length=k+1
     rw [List.length_append,hgs.out];rfl
    ·rw [HSU2.out]
     exact ((hlaid.below hb6).snoc hGr HRL.out (zep ho6 hlw)).set k _
    ·have hq1:=zda hr6 k (sl1 m wr.heap.size)
     rw [zto m gs _ n k wr.heap.size h0 hgs.out] at hq1
     exact hq1
    ·exact (hbel.trans (hb6.mono hlw)).setCell (p:=⟨G,k,none⟩) hle _
    ·rw [show ∀ (p:Addr) (u:Value),(w6.setCell p u).heap.size=w6.heap.size from fun p u=>by simp [World.setCell]]
     exact Nat.lt_of_lt_of_le hGr hb6.size
  ·obtain rfl:k=n:=by omega
   have e1:R.take k=R:=List.take_of_length_le (by rw [HAL.out];exact Nat.le_refl _)
   rw [e1] at hlaid
   rw [Nat.sub_self,List.replicate_zero,List.append_nil] at hown
   go_wp2
   go_ret2
   exact ⟨_,gs,rfl,hlaid,hown,hbel⟩
end Go.Proofs.YtmkihdjolnlccaaGreatDoor
namespace Go.Proofs.YtmkihdjolnlccaaGreatDoor
open Go.RowKit Bn
open Flt
theorem zae.blk {w:World} {g:Nat} {xs:List Value} {t:TypeId} (h:CBlk w g xs.toArray t) (hn:xs.length≤maxLen):zae w w.heap.size 1 (some ⟨g,0,none⟩) xs.length xs:=
 zae.of_own (zb1 (base:=0) (size:=1) h (Nat.zero_le _) hn (by omega))
theorem zcG.blk2 {α:Type} {f : α→Value} {w:World} {g g1 g2 m1 m2:Nat} {r1 r2:List α} {t:TypeId} (h:CBlk w g #[.slice (some ⟨g1,0,none⟩) m1 m1,.slice (some ⟨g2,0,none⟩) m2 m2] t)
  (h1:zae w w.heap.size 1 (some ⟨g1,0,none⟩) m1 (r1.map f)) (h2:zae w w.heap.size 1 (some ⟨g2,0,none⟩) m2 (r2.map f)) (hm1:m1≤maxLen) (hm2:m2≤maxLen) :
  zcG f w w.heap.size (some ⟨g,0,none⟩) 2 [r1,r2]:=by
 have l1:=h1.lenM
 have l2:=h2.lenM
 refine ⟨rfl,_,zae.blk (xs:=[.slice (some ⟨g1,0,none⟩) m1 m1,.slice (some ⟨g2,0,none⟩) m2 m2]) h (by show 2≤maxLen;unfold maxLen;omega),fun i hi => ?_⟩
 have hi2:i<2:=hi
 rcases (show i=0∨i=1 from by omega) with rfl | rfl
 ·refine ⟨some ⟨g1,0,none⟩,m1,?_,?_,hm1,?_⟩
  ·show some _=some (Value.slice _ r1.length m1);rw [l1]
  ·show r1.length≤m1;omega
  ·show zae _ _ 1 _ r1.length (r1.map f);rw [l1];exact h1
 ·refine ⟨some ⟨g2,0,none⟩,m2,?_,?_,hm2,?_⟩
  ·show some _=some (Value.slice _ r2.length m2);rw [l2]
  ·show r2.length≤m2;omega
  ·show zae _ _ 1 _ r2.length (r2.map f);rw [l2];exact h2
theorem zrC:∀ x ∈ [0,1065353216,1056964608,0,1056964608,1065353216],fin Ieee.single x=true:=by decide +kernel
theorem ztB:digL 0 1065353216 false [0,1065353216,1056964608,0,1056964608,1065353216]=[false,true,true,false,false,true]:=by decide +kernel
theorem zlh (g:Nat) (t:TypeId) (w:World) (h:CBlk w g #[.float .f32 0,.float .f32 1065353216,.float .f32 1056964608,.float .f32 0,.float .f32 1056964608,.float .f32 1065353216] t) :
  Calls Tryz.prog 57 #[.slice (some ⟨g,0,none⟩) 6 6,.agg #[.float .f32 0,.float .f32 1065353216],.bool false] w fun e w'=>
   ∃ g,e = .returned (.tuple #[.slice (some ⟨g,0,none⟩) 6 6,.int .i64 0])∧zae w' w'.heap.size 1 (some ⟨g,0,none⟩) 6 ([false,true,true,false,false,true].map zcR)∧Below w.heap.size w w':=by
 have hr:zae w w.heap.size 1 (some ⟨g,0,none⟩) 6 ([0,1065353216,1056964608,0,1056964608,1065353216].map f32v):=zae.blk (xs:=[.float .f32 0,.float .f32 1065353216,.float .f32 1056964608,.float .f32 0,.float .f32 1056964608,.float .f32 1065353216]) h (by show 6≤maxLen;unfold maxLen;omega)
 refine (zlI (some ⟨g,0,none⟩) 6 6 0 1065353216 false [0,1065353216,1056964608,0,1056964608,1065353216] w hr zrC (by omega) (by decide +kernel) (by decide +kernel) (by decide +kernel)).mono ?_
 rintro e w' ⟨g',rfl,ho,hb⟩
 rw [ztB] at ho
 exact ⟨g',rfl,zae.of_own ho,hb⟩
theorem ztj:chg false [false,true,true,false,false,true] 6=[1,3,5]:=by decide +kernel
theorem zmm (g:Nat) (w:World) (h:zae w w.heap.size 1 (some ⟨g,0,none⟩) 6 ([false,true,true,false,false,true].map zcR)) :
  Calls Tryz.prog 58 #[.slice (some ⟨g,0,none⟩) 6 6,.bool false] w fun e w'=>
   ∃ A' c',e = .returned (.tuple #[.slice A' 3 c',.int .i64 0])∧zae w' w'.heap.size 1 A' 3 ([1,3,5].map i64v)∧Below w.heap.size w w':=by
 refine (zmn (some ⟨g,0,none⟩) 6 6 false [false,true,true,false,false,true] w h (by omega)).mono ?_
 rintro e w' ⟨A',c',rfl,hr,hb⟩
 rw [ztj] at hr ⊢
 exact ⟨A',c',rfl,hr,hb⟩
theorem ztM:(List.range 3).map (wd [[true,false,true],[true,true,false]])=[3,2,1]:=by decide +kernel
theorem zo4 (g g1 g2:Nat) (t1 t2 t3:TypeId) (w:World) (h1:CBlk w g1 #[.bool true,.bool false,.bool true] t1) (h2:CBlk w g2 #[.bool true,.bool true,.bool false] t2) (h:CBlk w g #[.slice (some ⟨g1,0,none⟩) 3 3,.slice (some ⟨g2,0,none⟩) 3 3] t3) :
  Calls Tryz.prog 59 #[.slice (some ⟨g,0,none⟩) 2 2] w fun e w'=>
   ∃ g,e = .returned (.tuple #[.slice (some ⟨g,0,none⟩) 3 3,.int .i64 0])∧zae w' w'.heap.size 1 (some ⟨g,0,none⟩) 3 ([3,2,1].map u16v)∧Below w.heap.size w w':=by
 have r1:zae w w.heap.size 1 (some ⟨g1,0,none⟩) 3 ([true,false,true].map zcR):=zae.blk (xs:=[.bool true,.bool false,.bool true]) h1 (by show 3≤maxLen;unfold maxLen;omega)
 have r2:zae w w.heap.size 1 (some ⟨g2,0,none⟩) 3 ([true,true,false].map zcR):=zae.blk (xs:=[.bool true,.bool true,.bool false]) h2 (by show 3≤maxLen;unfold maxLen;omega)
 have hR:=zcG.blk2 h r1 r2 (by unfold maxLen;omega) (by unfold maxLen;omega)
 refine (zpQ (some ⟨g,0,none⟩) 2 2 3 [[true,false,true],[true,true,false]] w hR (by omega) (by omega) (by intro r hr;simp at hr;rcases hr with rfl | rfl<;>rfl) (by omega)).mono ?_
 rintro e w' ⟨g',rfl,ho,hb⟩
 rw [ztM] at ho
 exact ⟨g',rfl,zae.of_own ho,hb⟩
theorem zmF (g:Nat) (w:World) (h:zae w w.heap.size 1 (some ⟨g,0,none⟩) 3 ([3,2,1].map u16v)) :
  Calls Tryz.prog 60 #[.slice (some ⟨g,0,none⟩) 3 3] w fun e w'=>
   ∃ g,e = .returned (.tuple #[.slice (some ⟨g,0,none⟩) 1 1,.int .i64 0])∧CBlk w' g #[.int .u16 3,.int .u16 2,.int .u16 1,.int .u16 0,.int .u16 0,.int .u16 0,.int .u16 0,.int .u16 0,.int .u16 0,.int .u16 0,.int .u16 0,.int .u16 0,.int .u16 0,.int .u16 0,.int .u16 0,.int .u16 0] 112∧Below w.heap.size w w':=by
 refine (zoy (some ⟨g,0,none⟩) 3 3 [3,2,1] w h (by omega) (Nat.le_refl _) (by unfold maxLen;omega)).mono ?_
 rintro e w' ⟨g',rfl,ho,hb⟩
 exact ⟨g',rfl,zfG ho,hb⟩
theorem zpC:Valid [[1065353216,1073741824,1077936128,1082130432],[1073741824,1077936128,1082130432]] [1,0] where
 some_:=by decide
 few:=by decide
 len:=by decide
 fin:=by decide +kernel
 same:=by decide
 small:=by decide
theorem zsY:algR [[1065353216,1073741824,1077936128,1082130432],[1073741824,1077936128,1082130432]] [1,0]=[[1073741824,1077936128,1082130432],[1073741824,1077936128,1082130432]]:=by decide +kernel
theorem zln (g g1 g2 gk:Nat) (t1 t2 t3 t4:TypeId) (w:World) (h1:CBlk w g1 #[.float .f32 1065353216,.float .f32 1073741824,.float .f32 1077936128,.float .f32 1082130432] t1) (h2:CBlk w g2 #[.float .f32 1073741824,.float .f32 1077936128,.float .f32 1082130432] t2) (h:CBlk w g #[.slice (some ⟨g1,0,none⟩) 4 4,.slice (some ⟨g2,0,none⟩) 3 3] t3) (hk:CBlk w gk #[.int .i64 1,.int .i64 0] t4) :
  Calls Tryz.prog 61 #[.slice (some ⟨g,0,none⟩) 2 2,.slice (some ⟨gk,0,none⟩) 2 2] w fun e w'=>
   ∃ G a b,e = .returned (.tuple #[.slice (some ⟨G,0,none⟩) 2 2,.int .i64 0])∧CBlk w' G #[.slice (some ⟨a,0,none⟩) 3 3,.slice (some ⟨b,0,none⟩) 3 3] 26 ∧
    zae w' w'.heap.size 1 (some ⟨a,0,none⟩) 3 ([1073741824,1077936128,1082130432].map f32v)∧zae w' w'.heap.size 1 (some ⟨b,0,none⟩) 3 ([1073741824,1077936128,1082130432].map f32v)∧Below w.heap.size w w':=by
 have r1:zae w w.heap.size 1 (some ⟨g1,0,none⟩) 4 ([1065353216,1073741824,1077936128,1082130432].map f32v):=zae.blk (xs:=[.float .f32 1065353216,.float .f32 1073741824,.float .f32 1077936128,.float .f32 1082130432]) h1 (by show 4≤maxLen;unfold maxLen;omega)
 have r2:zae w w.heap.size 1 (some ⟨g2,0,none⟩) 3 ([1073741824,1077936128,1082130432].map f32v):=zae.blk (xs:=[.float .f32 1073741824,.float .f32 1077936128,.float .f32 1082130432]) h2 (by show 3≤maxLen;unfold maxLen;omega)
 have rk:zae w w.heap.size 1 (some ⟨gk,0,none⟩) 2 (([1,0]:List Int).map i64v):=zae.blk (xs:=[.int .i64 1,.int .i64 0]) hk (by show 2≤maxLen;unfold maxLen;omega)
 have hR:=zcG.blk2 h r1 r2 (by unfold maxLen;omega) (by unfold maxLen;omega)
 refine (zlu (some ⟨g,0,none⟩) (some ⟨gk,0,none⟩) 2 2 2 3 [[1065353216,1073741824,1077936128,1082130432],[1073741824,1077936128,1082130432]] [1,0] w hR rk zpC (by decide) (by decide)).mono ?_
 rintro e w' ⟨G,gs,rfl,hl,ho,hb⟩
 rw [zsY] at hl
 obtain ⟨hgl,hl⟩:=hl
 match gs,hgl with
 | [a,b],_=>
  have ha:=(hl 0 (by decide) (by simp)).2.2
  have hb2:=(hl 1 (by decide) (by simp)).2.2
  exact ⟨G,a,b,rfl,zfG ho,zae.of_own ha,zae.of_own hb2,hb⟩
end Go.Proofs.YtmkihdjolnlccaaGreatDoor
