/- Chapter 2's examples: the samples, their codes and clipped ranges. -/
import Derived.Test.YtmkihdjolnlccaaGreatDoorQRb30
import Derived.Test.YtmkihdjolnlccaaGreatDoorQRc8
import Derived.Test.YtmkihdjolnlccaaGreatDoorQRc2
import Derived.Test.YtmkihdjolnlccaaGreatDoorQPr2
import Derived.Test.YtmkihdjolnlccaaGreatDoorQDp
import Derived.Laws.FloatArith
import Derived.Deep.LoopGhost
import Derived.Test.YtmkihdjolnlccaaGreatDoorQTrn
import Derived.Test.YtmkihdjolnlccaaGreatDoorQAd2
namespace Go.Proofs.YtmkihdjolnlccaaGreatDoor
open Go.RowKit Bn
open Flt
theorem zlF {w:World} {base size n:Nat} {e:TypeId} {v:Value} {xs:List Value} (h:w.ownsRow base e size v n xs) (hn:0<n):∃ g c,v = .slice (some ⟨g,0,none⟩) n c∧zae w w.heap.size size (some ⟨g,0,none⟩) n xs:=by
 rcases h.2 with ⟨rfl,rfl⟩ | ⟨g,cap,cur,rfl,hb,hg,hnc,hcm,hcs,htake⟩
 ·omega
 ·exact ⟨g,cap,rfl,zae.of_own h⟩
theorem zku:∀ c:Nat,c<256→fin Ieee.single (nomF (-3) 128 c)=true:=by decide +kernel
theorem zrP:∀ c:Nat,c<255→key Ieee.single (nomF (-3) 128 c)<key Ieee.single (nomF (-3) 128 (c+1)):=by decide +kernel
theorem zn1 (c:Nat):∀ n:Nat,n≤255→c<n→key Ieee.single (nomF (-3) 128 c)<key Ieee.single (nomF (-3) 128 n)
 | 0,_,h=>absurd h (Nat.not_lt_zero _)
 | n+1,hn,h=>by
  have h1:=zrP n (by omega)
  rcases Nat.lt_or_ge c n with hc | hc
  ·exact Int.lt_trans (zn1 c n (by omega) hc) h1
  ·obtain rfl:c=n:=by omega
   exact h1
theorem zmV (n c:Nat) (hn:n≤255) (hc:c<n):Op.floatEq .f32 (nomF (-3) 128 n) (nomF (-3) 128 c)=false:=by
 have h:=zhl (zku n (by omega)) (zku c (by omega))
 have hm:=zn1 c n hn hc
 have h2:decide (key Ieee.single (nomF (-3) 128 n)=key Ieee.single (nomF (-3) 128 c))=false:=by simpa using (show ¬ (key Ieee.single (nomF (-3) 128 n)=key Ieee.single (nomF (-3) 128 c)) from by omega)
 rw [h2] at h
 exact h
theorem zsf (n:Nat) (hn:n≤255):Op.floatEq .f32 (nomF (-3) 128 n) (nomF (-3) 128 n)=true:=by
 have h:=zhl (zku n (by omega)) (zku n (by omega))
 have h2:decide (key Ieee.single (nomF (-3) 128 n)=key Ieee.single (nomF (-3) 128 n))=true:=by simp
 rw [h2] at h
 exact h
theorem ztr:[3246391296,0,1040187392,1098776576,1098776576]=[0,128,129,255,255].map (nomF (-3) 128):=by decide +kernel
theorem znT:∀ x ∈ [3246391296,0,1040187392,1098776576,1098776576],fin Ieee.single x=true:=by decide +kernel
theorem zru (w:World) (hT:Tabs w):Calls Tryz.prog 68 #[.agg #[.int .i64 8,.int .i64 (-3),.int .i64 128,.string { data:=#[49] },.string { data:=#[48] }],.string { data:=#[45,50,48] }] w fun e w'=>e = .returned (.float .f32 3246391296)∧Below w.heap.size w w':=by
 refine zcJ { data:=#[45,50,48] } 8 0 (-3) 128 { data:=#[49] } { data:=#[48] } w hT zch (by decide) 0 (-1) 3246391296 (by decide) ?_ ?_ (by decide) (by decide) (by decide) zk2
 ·intro t ht
  have e:({ data:=#[45,50,48] }:ByteArray).data.toList=[45,50,48]:=rfl
  rw [e,zmN]
  omega
 ·intro t h1 h2
  have e:({ data:=#[45,50,48] }:ByteArray).data.toList=[45,50,48]:=rfl
  have e2:(2:Nat) ^ 8=256:=by decide
  rw [e,zmN]
  exact zrp t (by omega)
theorem ztY (w:World) (hT:Tabs w):Calls Tryz.prog 68 #[.agg #[.int .i64 8,.int .i64 (-3),.int .i64 128,.string { data:=#[49] },.string { data:=#[48] }],.string { data:=#[48] }] w fun e w'=>e = .returned (.float .f32 0)∧Below w.heap.size w w':=by
 refine zcJ { data:=#[48] } 8 129 (-3) 128 { data:=#[49] } { data:=#[48] } w hT zch (by decide) 128 0 0 (by decide) ?_ ?_ (by decide) (by decide) (by decide) zoN
 ·intro t ht
  have e:({ data:=#[48] }:ByteArray).data.toList=[48]:=rfl
  rw [e,zsA]
  exact ztV t ht
 ·intro t h1 h2
  have e:({ data:=#[48] }:ByteArray).data.toList=[48]:=rfl
  have e2:(2:Nat) ^ 8=256:=by decide
  rw [e,zsA]
  have h3:=ztI (t - 129) (by omega)
  rw [show 129+(t - 129)=t from by omega] at h3
  exact h3
theorem zsB (w:World) (hT:Tabs w):Calls Tryz.prog 68 #[.agg #[.int .i64 8,.int .i64 (-3),.int .i64 128,.string { data:=#[49] },.string { data:=#[48] }],.string { data:=#[49,47,49,48] }] w fun e w'=>e = .returned (.float .f32 1040187392)∧Below w.heap.size w w':=by
 refine zcJ { data:=#[49,47,49,48] } 8 130 (-3) 128 { data:=#[49] } { data:=#[48] } w hT zch (by decide) 129 0 1040187392 (by decide) ?_ ?_ (by decide) (by decide) (by decide) zrA
 ·intro t ht
  have e:({ data:=#[49,47,49,48] }:ByteArray).data.toList=[49,47,49,48]:=rfl
  rw [e,zq5]
  exact zs7 t ht
 ·intro t h1 h2
  have e:({ data:=#[49,47,49,48] }:ByteArray).data.toList=[49,47,49,48]:=rfl
  have e2:(2:Nat) ^ 8=256:=by decide
  rw [e,zq5]
  have h3:=ztd (t - 130) (by omega)
  rw [show 130+(t - 130)=t from by omega] at h3
  exact h3
theorem zs5 (w:World) (hT:Tabs w):Calls Tryz.prog 68 #[.agg #[.int .i64 8,.int .i64 (-3),.int .i64 128,.string { data:=#[49] },.string { data:=#[48] }],.string { data:=#[50,48] }] w fun e w'=>e = .returned (.float .f32 1098776576)∧Below w.heap.size w w':=by
 refine zcJ { data:=#[50,48] } 8 257 (-3) 128 { data:=#[49] } { data:=#[48] } w hT zch (by decide) 255 1 1098776576 (by decide) ?_ ?_ (by decide) (by decide) (by decide) zhO
 ·intro t ht
  have e:({ data:=#[50,48] }:ByteArray).data.toList=[50,48]:=rfl
  rw [e,zqR]
  exact zs9 t ht
 ·intro t h1 h2
  have e:({ data:=#[50,48] }:ByteArray).data.toList=[50,48]:=rfl
  have e2:(2:Nat) ^ 8=256:=by decide
  rw [e,zqR]
  omega
theorem zs1 (w:World) (hT:Tabs w):Calls Tryz.prog 68 #[.agg #[.int .i64 8,.int .i64 (-3),.int .i64 128,.string { data:=#[49] },.string { data:=#[48] }],.string { data:=#[51,48] }] w fun e w'=>e = .returned (.float .f32 1098776576)∧Below w.heap.size w w':=by
 refine zcJ { data:=#[51,48] } 8 257 (-3) 128 { data:=#[49] } { data:=#[48] } w hT zch (by decide) 255 1 1098776576 (by decide) ?_ ?_ (by decide) (by decide) (by decide) zhO
 ·intro t ht
  have e:({ data:=#[51,48] }:ByteArray).data.toList=[51,48]:=rfl
  rw [e,zq0]
  exact zty t ht
 ·intro t h1 h2
  have e:({ data:=#[51,48] }:ByteArray).data.toList=[51,48]:=rfl
  have e2:(2:Nat) ^ 8=256:=by decide
  rw [e,zq0]
  omega
theorem zli (w:World) (hT:Tabs w) (g:Nat) (t:TypeId) (hg:g=w.heap.size) :
  Calls Tryz.prog 11 #[.agg #[.int .i64 8,.int .i64 (-3),.int .i64 128,.string { data:=#[49] },.string { data:=#[48] }],.slice (some ⟨g,0,none⟩) 5 5] (w.alloc (.cells #[.string { data:=#[45,50,48] },.string { data:=#[48] },.string { data:=#[49,47,49,48] },.string { data:=#[50,48] },.string { data:=#[51,48] }] t)) fun e w'=>
   ∃ b,e = .returned (.tuple #[.slice (some ⟨b,0,none⟩) 5 5,.int .i64 0])∧w.heap.size≤b∧zae w' w'.heap.size 1 (some ⟨b,0,none⟩) 5 ([3246391296,0,1040187392,1098776576,1098776576].map f32v)∧Below w.heap.size w w':=by
 subst hg
 have hb:Below w.heap.size w (w.alloc (.cells #[.string { data:=#[45,50,48] },.string { data:=#[48] },.string { data:=#[49,47,49,48] },.string { data:=#[50,48] },.string { data:=#[51,48] }] t)):=(Below.refl _ _).alloc (Nat.le_refl _) _
 refine (zg5 8 (-3) 128 { data:=#[49] } { data:=#[48] } (some ⟨w.heap.size,0,none⟩) 5 5 [{ data:=#[45,50,48] },{ data:=#[48] },{ data:=#[49,47,49,48] },{ data:=#[50,48] },{ data:=#[51,48] }] [3246391296,0,1040187392,1098776576,1098776576] (w.alloc (.cells #[.string { data:=#[45,50,48] },.string { data:=#[48] },.string { data:=#[49,47,49,48] },.string { data:=#[50,48] },.string { data:=#[51,48] }] t)) (hT.later hb) zch (zae.lit w [.string { data:=#[45,50,48] },.string { data:=#[48] },.string { data:=#[49,47,49,48] },.string { data:=#[50,48] },.string { data:=#[51,48] }] t) (by decide) ?_ rfl ?_).mono ?_
 ·intro s hs
  simp only [List.mem_cons,List.not_mem_nil,or_false] at hs
  rcases hs with rfl | rfl | rfl | rfl | rfl
  ·exact ⟨by decide,zri⟩
  ·exact ⟨by decide,ztQ⟩
  ·exact ⟨by decide,ztf⟩
  ·exact ⟨by decide,ztD⟩
  ·exact ⟨by decide,zta⟩
 ·intro i s y W hTW hs hy
  match i,hs,hy with
  | 0,hs,hy=>cases hs;cases hy;exact zru W hTW
  | 1,hs,hy=>cases hs;cases hy;exact ztY W hTW
  | 2,hs,hy=>cases hs;cases hy;exact zsB W hTW
  | 3,hs,hy=>cases hs;cases hy;exact zs5 W hTW
  | 4,hs,hy=>cases hs;cases hy;exact zs1 W hTW
 ·rintro e w' ⟨b,rfl,hbb,ho,hb'⟩
  exact ⟨b,rfl,Nat.le_trans hb.size hbb,zae.of_own ho,hb.trans (hb'.mono hb.size)⟩
theorem zkP (w:World) (hT:Tabs w) (A:Option Addr) (h:zae w w.heap.size 1 A 5 ([3246391296,0,1040187392,1098776576,1098776576].map f32v)) :
  Calls Tryz.prog 13 #[.agg #[.int .i64 8,.int .i64 (-3),.int .i64 128,.string { data:=#[49] },.string { data:=#[48] }],.slice A 5 5] w fun e w'=>
   ∃ b,e = .returned (.tuple #[.slice (some ⟨b,0,none⟩) 5 5,.int .i64 0])∧w.heap.size≤b∧zae w' w'.heap.size 1 (some ⟨b,0,none⟩) 5 ([0,128,129,255,255].map natv)∧Below w.heap.size w w':=by
 refine (zkS 8 (-3) 128 { data:=#[49] } { data:=#[48] } A 5 5 [3246391296,0,1040187392,1098776576,1098776576] [0,128,129,255,255] w hT zch 255 (by decide) (fun n c=>zmV n c) h (by decide) znT rfl ?_).mono ?_
 ·intro i y k hy hk
  have hk2:k≤255:=by
   have hm:=List.mem_of_getElem? hk
   simp only [List.mem_cons,List.not_mem_nil,or_false] at hm
   omega
  rw [ztr,List.getElem?_map,hk] at hy
  obtain rfl:nomF (-3) 128 k=y:=Option.some.inj hy
  exact ⟨hk2,zsf k hk2,fun d hd=>zmV k d hk2 hd⟩
 ·rintro e w' ⟨b,rfl,hbb,ho,hb'⟩
  exact ⟨b,rfl,hbb,zae.of_own ho,hb'⟩
set_option maxHeartbeats 2000000 in
set_option maxRecDepth 100000 in
theorem zlx (w:World) (hT:Tabs w) (A:Option Addr) (h:zae w w.heap.size 1 A 5 ([3246391296,0,1040187392,1098776576,1098776576].map f32v)) :
  Calls Tryz.prog 15 #[.agg #[.int .i64 8,.int .i64 (-3),.int .i64 128,.string { data:=#[49] },.string { data:=#[48] }],.slice A 5 5] w fun e w'=>
   ∃ g c,e = .returned (.tuple #[.slice (some ⟨g,0,none⟩) 2 c,.int .i64 0])∧zae w' w'.heap.size 2 (some ⟨g,0,none⟩) 2 [.int .i64 0,.int .i64 1,.int .i64 3,.int .i64 5]∧Below w.heap.size w w':=by
 have hb0:Below w.heap.size w (w.alloc (.cells #[.int .i64 8,.int .i64 (-3),.int .i64 128,.string { data:=#[49] },.string { data:=#[48] }] 33)):=(Below.refl _ _).alloc (Nat.le_refl _) _
 have q0:CBlk (w.alloc (.cells #[.int .i64 8,.int .i64 (-3),.int .i64 128,.string { data:=#[49] },.string { data:=#[48] }] 33)) w.heap.size #[.int .i64 8,.int .i64 (-3),.int .i64 128,.string { data:=#[49] },.string { data:=#[48] }] 33:=CBlk.new w _ _ _ rfl
 have x0:=q0.cell 0
 have x1:=q0.cell 1
 have x2:=q0.cell 2
 have x3:=q0.cell 3
 have x4:=q0.cell 4
 have HC:=Lib.hid (zkP _ (hT.later hb0) A (h.later hb0))
 have hmf:∀ (fn:Fn) (first cap:Array Value) (w:World),(Instr.makeFunc fn first cap).run Tryz.prog w = .ok (.func fn first cap) w:=fun _ _ _ _=>rfl
 clear h
 go_enter Tryz.func15,Tryz.ntmps15
 go_wp2_with fail
 generalize w.alloc (.cells #[.int .i64 8,.int .i64 (-3),.int .i64 128,.string { data:=#[49] },.string { data:=#[48] }] 33)=w1 at *
 refine HC.out.mono ?_
 rintro e w2 ⟨b,rfl,hbb,hr,hb2⟩
 have q2:=q0.below hb2 q0.lt
 have hB2:=hb0.trans (hb2.mono hb0.size)
 clear x0 x1 x2 x3 x4 HC
 have x0:=q2.cell 0
 have x1:=q2.cell 1
 have x2:=q2.cell 2
 have x3:=q2.cell 3
 have x4:=q2.cell 4
 have HR:=Lib.hid (zoX b 5 w2 hr)
 clear hr
 go_wp2_with fail
 refine HR.out.mono ?_
 rintro e w3 ⟨v,rfl,ho,hb3⟩
 have hB3:=hB2.trans (hb3.mono hB2.size)
 obtain ⟨g,c,rfl,hr⟩:=zlF ho (by decide)
 clear x0 x1 x2 x3 x4 HR
 go_wp2_with fail
 go_ret2
 exact ⟨g,c,rfl,hr,hB3⟩
theorem zho (w:World) (hT:Tabs w) :
  Calls Tryz.prog 40 #[.agg #[.int .i64 8,.int .i64 (-3),.int .i64 128,.string { data:=#[49] },.string { data:=#[48] }],.agg #[.int .i64 128,.string { data:=#[49,47,50] }],.agg #[.int .i64 136,.string { data:=#[53,47,50] }]] w fun e w'=>
   e = .returned (.tuple #[.agg #[.int .i64 8,.int .i64 (-3),.int .i64 128,.string { data:=#[50] },.string { data:=#[49,47,50] }],.int .i64 0])∧Below w.heap.size w w':=
 zmo 8 (-3) 128 128 136 1 { data:=#[49] } { data:=#[48] } { data:=#[49,47,50] } { data:=#[53,47,50] } { data:=#[48] } { data:=#[49] } { data:=#[50] } { data:=#[49,47,50] } 0 1065353216
  ⟨false,0,1⟩ ⟨false,1,1⟩ ⟨false,1,2⟩ ⟨false,5,2⟩ ⟨false,1,1⟩ ⟨false,2,1⟩ ⟨false,2,1⟩ ⟨false,0,1⟩ ⟨false,1,2⟩ _ w hT
  (zk8 128 (by decide)) (zk8 136 (by decide)) (zld { data:=#[49,47,50] } (by decide) ztO) (zld { data:=#[53,47,50] } (by decide) ztz) (by decide)
  (zgH 128 0 (by decide) zoN) (zgH 136 1065353216 (by decide) zr9) (fun W hT=>zfl 0 [48] W hT ztA) (fun W hT=>zfl 1065353216 [49] W hT zsJ)
  (zfy { data:=#[48] } false 0 1 (by decide) ztU) (zfy { data:=#[49,47,50] } false 1 2 (by decide) ztG) (zfy { data:=#[49] } false 1 1 (by decide) zsn) (zfy { data:=#[53,47,50] } false 5 2 (by decide) zsE)
  (zhj ⟨false,1,1⟩ ⟨false,0,1⟩ false 1 1 zte (by decide) (by decide)) (zhj ⟨false,5,2⟩ ⟨false,1,2⟩ false 2 1 ztK (by decide) (by decide)) (zrn ⟨false,2,1⟩ ⟨false,1,1⟩ false 2 1 ztP (by decide) (by decide))
  (fun v W hv=>zrX ⟨false,2,1⟩ 1 (by decide) v W hv) (fun v W hT hv=>zki ⟨false,2,1⟩ [50] ztW (by decide) v W hT hv) (zpx ⟨false,2,1⟩ ⟨false,0,1⟩ false 0 1 ztR (by decide) (by decide))
  (zhj ⟨false,1,2⟩ ⟨false,0,1⟩ false 1 2 ztT (by decide) (by decide)) (fun v W hT hv=>zki ⟨false,1,2⟩ [49,47,50] ztH (by decide) v W hT hv) (fun h=>absurd h (by decide)) (fun _=>rfl)
end Go.Proofs.YtmkihdjolnlccaaGreatDoor
namespace Go.Proofs.YtmkihdjolnlccaaGreatDoor
open Go.RowKit
open Flt
theorem zmx (s:Bool) (m k:Nat):Ieee.signed s m k+Ieee.signed (!s) m k=0:=by
 unfold Ieee.signed
 cases s<;>simp<;>omega
theorem sub_self {b:Nat} (h:fin Ieee.single b=true):floatBits .sub .f32 b b=some 0:=by
 unfold fin at h
 show ((Ieee.single.read b).sum (Ieee.single.read b).opposite).map Ieee.single.write=some 0
 rcases hr:Ieee.single.read b with ⟨s,m,p⟩ | s | ⟨s,f⟩
 ·have e1:(Ieee.Datum.number s m p).opposite = .number (!s) m p:=rfl
  rw [e1]
  unfold Ieee.Datum.sum
  simp only [Int.min_self,zmx]
  have e2:(s && !s)=false:=by cases s<;>rfl
  simp only [if_true,e2,Int.natAbs_zero,Option.map_some]
  congr 1
 ·rw [hr] at h;cases h
 ·rw [hr] at h;cases h
theorem zpe {b:Nat} (h:fin Ieee.single b=false):FloatKind.f32.format.sub b b=none:=by
 unfold fin at h
 show ((Ieee.single.read b).sum (Ieee.single.read b).opposite).map Ieee.single.write=none
 rcases hr:Ieee.single.read b with ⟨s,m,p⟩ | s | ⟨s,f⟩
 ·rw [hr] at h;cases h
 ·cases s<;>rfl
 ·rfl
def nanX (x y:Nat) (W:World):Nat:=(Question.nanBits .f32 x y).cut (W.tape W.drawn (Question.nanBits .f32 x y))
theorem znu (x y:Nat) (W:World):∃ s f,Ieee.single.read (nanX x y W) = .nan s f:=by
 unfold nanX Question.cut
 generalize W.tape W.drawn (Question.nanBits .f32 x y)=t
 dsimp only
 have e31:(2:Nat) ^ 31=2147483648:=by decide
 have e23:(2:Nat) ^ 23=8388608:=by decide
 rw [e31,e23]
 have h1:t % 2<2:=Nat.mod_lt _ (by omega)
 have h2:t / 2 % (8388608 - 1)<8388607:=Nat.mod_lt _ (by omega)
 generalize t % 2=s at h1
 generalize t / 2 % (8388608 - 1)=f at h2
 unfold Ieee.Format.read
 rw [zek,zbt,zdW]
 have e1:(s*2147483648+2139095040+1+f) % 2147483648=2139095040+1+f:=by omega
 dsimp only
 rw [e1,if_neg (by omega),if_neg (by omega),if_neg (by omega)]
 exact ⟨_,_,rfl⟩
theorem znv (x y:Nat) (W:World):(FloatKind.f32.format.order (nanX x y W) 0==some .eq)=false:=by
 obtain ⟨s,f,h⟩:=znu x y W
 have:FloatKind.f32.format.order (nanX x y W) 0=none:=by
  show (Ieee.single.read _).order (Ieee.single.read _)=_
  rw [h];rfl
 rw [this];rfl
theorem zjI {P:Program} (t:TypeId) {b:Nat} (h:fin Ieee.single b=false) (W:World):(binOp .sub t (.float .f32 b) (.float .f32 b)).run P W = .ok (.float .f32 (nanX b b W)) W.drew:=by
 have hs:=zpe h
 have hf:(Question.nanBits .f32 b b).forced=false:=rfl
 simp [binOp,Op.floatArith,hs,hf,nanX]
theorem zmf (b:Nat) (w:World):Calls Tryz.prog 32 #[.float .f32 b] w fun e w'=>e = .returned (.bool (fin Ieee.single b))∧Below w.heap.size w w':=by
 by_cases h:fin Ieee.single b=true
 ·have ha:=fun W:World=>run_float_arith (P:=Tryz.prog) W .sub 64 .f32 b b 0 (sub_self h)
  have hz:(FloatKind.f32.format.order 0 0==some .eq)=true:=by decide +kernel
  have hb:Below w.heap.size w w:=Below.refl _ _
  rw [h]
  clear h
  go_enter Tryz.func32,Tryz.ntmps32
  go_wp2
  go_ret
  exact ⟨rfl,hb⟩
 ·have h':fin Ieee.single b=false:=by simpa using h
  have ha:=fun W:World=>zjI (P:=Tryz.prog) 64 h' W
  have hz:=znv b b w
  have hb:Below w.heap.size w w.drew:=(Below.refl _ _).drew
  rw [h']
  clear h h'
  go_enter Tryz.func32,Tryz.ntmps32
  go_wp2
  go_ret
  exact ⟨rfl,hb⟩
set_option maxHeartbeats 1000000 in
theorem ziz (A A':Option Addr) (n c c':Nat) (l:List Nat) (w:World) (h:zae w w.heap.size 1 A n (l.map u16v)) (h':zae w w.heap.size 1 A' n (l.map u16v)) (hn:n≤maxLen) :
  Calls Tryz.prog 63 #[.slice A n c,.slice A' n c'] w fun e w'=>e = .returned (.bool true)∧Below w.heap.size w w':=by
 unfold maxLen at hn
 go_enter Tryz.func63,Tryz.ntmps63
 go_wp2
 go_loopg [5] n (fun m s W=>∃ k:Nat,k≤n∧s = .int .i64 k∧n - k≤m∧Below w.heap.size w W)
 case atStart=>exact ⟨0,Nat.zero_le _,rfl,by omega,Below.refl _ _⟩
 case round=>
  obtain ⟨k,hk,rfl,hm,hbel⟩:=hrel
  by_cases h0:k<n
  ·obtain ⟨ad,hkl,rfl,hbb,hcell⟩:=(h.below hbel).cellM h0
   obtain ⟨ad',hkl',rfl,hbb',hcell'⟩:=(h'.below hbel).cellM h0
   unfold u16v at hcell hcell'
   generalize l[k]=x at *
   go_wp2
   go_region
   go_wp2
   go_roundg (n - (k+1))
   case measure=>omega
   case rel=>exact ⟨k+1,by omega,by go_num,Nat.le_refl _,hbel.drew⟩
  ·go_wp2
   go_ret
   exact ⟨rfl,hbel⟩
end Go.Proofs.YtmkihdjolnlccaaGreatDoor
namespace Go.Proofs.YtmkihdjolnlccaaGreatDoor
open Go.RowKit Bn
open Flt
set_option maxHeartbeats 2000000 in
set_option maxRecDepth 100000 in
theorem zjl (g g' c c':Nat) (w:World) (h:zae w w.heap.size 2 (some ⟨g,0,none⟩) 2 [.int .i64 0,.int .i64 1,.int .i64 3,.int .i64 5]) (h':zae w w.heap.size 2 (some ⟨g',0,none⟩) 2 [.int .i64 0,.int .i64 1,.int .i64 3,.int .i64 5]) :
  Calls Tryz.prog 24 #[.slice (some ⟨g,0,none⟩) 2 c,.slice (some ⟨g',0,none⟩) 2 c'] w fun e w'=>e = .returned (.bool true)∧Below w.heap.size w w':=by
 obtain ⟨ad,had,hb,hce⟩:=h.2 (by omega)
 cases had
 obtain ⟨ad',had',hb',hce'⟩:=h'.2 (by omega)
 cases had'
 have y0:w.cell? ⟨g,0,none⟩=some (.int .i64 0):=hce 0 (.int .i64 0) rfl
 have z0:w.cell? ⟨g',0,none⟩=some (.int .i64 0):=hce' 0 (.int .i64 0) rfl
 have y1:w.cell? ⟨g,1,none⟩=some (.int .i64 1):=hce 1 (.int .i64 1) rfl
 have z1:w.cell? ⟨g',1,none⟩=some (.int .i64 1):=hce' 1 (.int .i64 1) rfl
 have y2:w.cell? ⟨g,2,none⟩=some (.int .i64 3):=hce 2 (.int .i64 3) rfl
 have z2:w.cell? ⟨g',2,none⟩=some (.int .i64 3):=hce' 2 (.int .i64 3) rfl
 have y3:w.cell? ⟨g,3,none⟩=some (.int .i64 5):=hce 3 (.int .i64 5) rfl
 have z3:w.cell? ⟨g',3,none⟩=some (.int .i64 5):=hce' 3 (.int .i64 5) rfl
 clear hce hce' h h'
 have q0:∀ W:World,(Op.equalIn 10000 94 (.agg #[.int .i64 0,.int .i64 1]) (.agg #[.int .i64 0,.int .i64 1])).run Tryz.prog W = .ok true W:=fun W=>by kernel_rfl
 have q1:∀ W:World,(Op.equalIn 10000 94 (.agg #[.int .i64 3,.int .i64 5]) (.agg #[.int .i64 3,.int .i64 5])).run Tryz.prog W = .ok true W:=fun W=>by kernel_rfl
 go_enter Tryz.func24,Tryz.ntmps24
 go_wp2
 go_loopg [5] 2 (fun m s W=>Below w.heap.size w W∧((s = .int .i64 0∧2≤m)∨(s = .int .i64 1∧1≤m)∨s = .int .i64 2))
 case atStart=>exact ⟨Below.refl _ _,Or.inl ⟨rfl,Nat.le_refl _⟩⟩
 case round=>
  obtain ⟨hbel,(⟨rfl,hm⟩ | ⟨rfl,hm⟩ | rfl)⟩:=hrel
  ·have c0:=(hbel.cell (p:=⟨g,0,none⟩) hb).trans y0
   have c1:=(hbel.cell (p:=⟨g,1,none⟩) hb).trans y1
   have d0:=(hbel.cell (p:=⟨g',0,none⟩) hb').trans z0
   have d1:=(hbel.cell (p:=⟨g',1,none⟩) hb').trans z1
   go_wp2
   go_region
   go_wp2
   go_roundg 1
   case measure=>omega
   case rel=>exact ⟨hbel.drew,Or.inr (Or.inl ⟨rfl,Nat.le_refl _⟩)⟩
  ·have c2:=(hbel.cell (p:=⟨g,2,none⟩) hb).trans y2
   have c3:=(hbel.cell (p:=⟨g,3,none⟩) hb).trans y3
   have d2:=(hbel.cell (p:=⟨g',2,none⟩) hb').trans z2
   have d3:=(hbel.cell (p:=⟨g',3,none⟩) hb').trans z3
   go_wp2
   go_region
   go_wp2
   go_roundg 0
   case measure=>omega
   case rel=>exact ⟨hbel.drew,Or.inr (Or.inr rfl)⟩
  ·go_wp2
   go_ret
   exact ⟨rfl,hbel⟩
set_option maxHeartbeats 1000000 in
theorem zqr (A:Option Addr) (c:Nat) (w:World) :
  Calls Tryz.prog 62 #[.slice A 3 c] w fun e w'=>e = .returned (.tuple #[.agg #[.int .u16 0,.int .u16 0,.int .u16 0,.int .u16 0,.int .u16 0,.int .u16 0,.int .u16 0,.int .u16 0,.int .u16 0,.int .u16 0,.int .u16 0,.int .u16 0,.int .u16 0,.int .u16 0,.int .u16 0,.int .u16 0],.int .i64 2])∧Below w.heap.size w w':=by
 have HM:=Lib.hid (fun W=>zfY A 3 c 4096 W)
 go_enter Tryz.func62,Tryz.ntmps62
 go_wp2_with fail
 refine (HM.out _).mono ?_
 rintro e w1 ⟨rfl,rfl⟩
 go_wp2_with fail
 refine bodyPost_ret (v := .tuple #[.agg #[.int .u16 0,.int .u16 0,.int .u16 0,.int .u16 0,.int .u16 0,.int .u16 0,.int .u16 0,.int .u16 0,.int .u16 0,.int .u16 0,.int .u16 0,.int .u16 0,.int .u16 0,.int .u16 0,.int .u16 0,.int .u16 0],.int .i64 2]) (by simp [results,Tryz.results62,go_sem]) rfl ⟨rfl,(Below.refl _ _).alloc (Nat.le_refl _) _⟩
set_option maxHeartbeats 2000000 in
set_option maxRecDepth 100000 in
theorem znp (a:Nat) (st z:Int) (g o:ByteArray) (x y:Nat) (l m:List UInt8) (w:World) (hT:Tabs w) (h:Conv a st z g o) (hx:nomW (0 - z) st=x) (hy:nomW (((2 ^ a - 1:Nat):Int) - z) st=y) (hl:exT x=l) (hm:exT y=m) :
  Calls Tryz.prog 27 #[.agg #[.int .i64 a,.int .i64 st,.int .i64 z,.string g,.string o]] w fun e w'=>e = .returned (.tuple #[.agg #[.string ⟨l.toArray⟩,.string ⟨m.toArray⟩],.int .i64 0])∧Below w.heap.size w w':=by
 have hp:2 ^ a≤2 ^ 12:=Nat.pow_le_pow_right (by omega) h.bits.2
 have hz:=h.zero
 have hb0:Below w.heap.size w ((w.alloc (.cells #[.int .i64 a,.int .i64 st,.int .i64 z,.string g,.string o] 33)).alloc (.cells #[.string { data:=#[] },.string { data:=#[] }] 55)):=((Below.refl _ _).alloc (Nat.le_refl _) _).alloc (by simp) _
 have q0:CBlk ((w.alloc (.cells #[.int .i64 a,.int .i64 st,.int .i64 z,.string g,.string o] 33)).alloc (.cells #[.string { data:=#[] },.string { data:=#[] }] 55)) w.heap.size #[.int .i64 a,.int .i64 st,.int .i64 z,.string g,.string o] 33:=(CBlk.new w _ _ _ rfl).below ((Below.refl _ _).alloc (Nat.le_refl _) _) (by simp)
 have s0:CBlk ((w.alloc (.cells #[.int .i64 a,.int .i64 st,.int .i64 z,.string g,.string o] 33)).alloc (.cells #[.string { data:=#[] },.string { data:=#[] }] 55)) (w.heap.size+1) #[.string { data:=#[] },.string { data:=#[] }] 55:=CBlk.new _ _ _ _ (by simp)
 have HC:=Lib.hid (zcf a st z g o _ (hT.later hb0) h)
 have HTP:=Lib.hid (fun W=>zdh a st z (.string g) (.string o) W (by have:=h.bits;omega))
 have HN0:=Lib.hid (fun W=>zbR a st z 0 (.string g) (.string o) W (by omega) (by omega) (by have:=h.step;omega) (by have:=h.step;omega))
 have HNT:=Lib.hid (fun W=>zbR a st z ((2 ^ a - 1:Nat):Int) (.string g) (.string o) W (by omega) (by omega) (by have:=h.step;omega) (by have:=h.step;omega))
 have HSP:=Lib.hid (fun W hT=>ziI x y l m W hT hl hm)
 rw [hx] at HN0
 rw [hy] at HNT
 generalize ((2 ^ a - 1:Nat):Int)=T at *
 generalize l.toArray=la at *
 generalize m.toArray=ma at *
 clear h hz hp hl hm hx hy
 go_enter Tryz.func27,Tryz.ntmps27
 have x0:=q0.cell 0
 have x1:=q0.cell 1
 have x2:=q0.cell 2
 have x3:=q0.cell 3
 have x4:=q0.cell 4
 go_wp2_with fail
 generalize ((w.alloc (.cells #[.int .i64 a,.int .i64 st,.int .i64 z,.string g,.string o] 33)).alloc (.cells #[.string { data:=#[] },.string { data:=#[] }] 55))=w1 at *
 have hT1:=hT.later hb0
 refine HC.out.mono ?_
 rintro e w2 ⟨rfl,hb2⟩
 have q2:=q0.below hb2 q0.lt
 have s2:=s0.below hb2 s0.lt
 have hT2:=hT1.later hb2
 have hB2:=hb0.trans (hb2.mono hb0.size)
 clear x0 x1 x2 x3 x4
 have x0:=q2.cell 0
 have x1:=q2.cell 1
 have x2:=q2.cell 2
 have x3:=q2.cell 3
 have x4:=q2.cell 4
 go_wp2_with fail
 go_region_held3 (fun w'=>w'.cell? ⟨w.heap.size,0,none⟩=some (.int .i64 a)∧w'.cell? ⟨w.heap.size,1,none⟩=some (.int .i64 st)∧w'.cell? ⟨w.heap.size,2,none⟩=some (.int .i64 z)∧w'.cell? ⟨w.heap.size,3,none⟩=some (.string g)∧w'.cell? ⟨w.heap.size,4,none⟩=some (.string o))
  ((refine ⟨?_,?_,?_,?_,?_⟩<;>first | exact q6.cell _ | exact q5.cell _ | exact q4.cell _ | exact q3.cell _ | exact q2.cell _ | exact (q6.far2 (Nat.succ_ne_self _) _ _).cell _))
  (first
   |(go_at_call 79;refine (HSP.out w5 hT5).mono ?_;rintro e w6 ⟨rfl,hb6⟩;have q6:=q5.below hb6 q5.lt;have s6:=s5.below hb6 s5.lt;have r0:=s6.cell 0;have r1:=s6.cell 1;have f0:=s6.frozen 0;have f1:=s6.frozen 1)
   |(go_at_call 80;refine (HNT.out w4).mono ?_;rintro e w5 ⟨rfl,hb5⟩;have q5:=q4.below hb5 q4.lt;have s5:=s4.below hb5 s4.lt;have hT5:=hT4.later hb5)
   |(go_at_call 81;refine (HTP.out w3).mono ?_;rintro e w4 ⟨rfl,hb4⟩;have q4:=q3.below hb4 q3.lt;have s4:=s3.below hb4 s3.lt;have hT4:=hT3.later hb4)
   |(go_at_call 80;refine (HN0.out w2.drew).mono ?_;rintro e w3 ⟨rfl,hb3'⟩;have hb3:Below w2.heap.size w2 w3:=⟨hb3'.os,hb3'.tape,hb3'.output,hb3'.size,hb3'.block⟩;clear hb3';have q3:=q2.below hb3 q2.lt;have s3:=s2.below hb3 s2.lt;have hT3:=hT2.later hb3))
 have hB3:=hB2.trans (hb3.mono hB2.size)
 have hB4:=hB3.trans (hb4.mono hB3.size)
 have hB5:=hB4.trans (hb5.mono hB4.size)
 have hB6:=hB5.trans (hb6.mono hB5.size)
 have hset:=zbc hB6 (g:=w.heap.size+1) (by omega) (.string ⟨la⟩) (.string ⟨ma⟩)
 clear HC HTP HN0 HNT HSP
 go_wp2_with fail
 refine bodyPost_ret (v := .tuple #[.agg #[.string ⟨la⟩,.string ⟨ma⟩],.int .i64 0]) (by simp [results,Tryz.results27,go_sem,r0,r1]) rfl ⟨rfl,hset⟩
theorem zpS (w:World) (hT:Tabs w):Calls Tryz.prog 86 #[.agg #[.int .i64 8,.int .i64 (-3),.int .i64 128,.string { data:=#[50] },.string { data:=#[49] }],.int .i64 129] w fun e w'=>e = .returned (.int .i64 0)∧Below w.heap.size w w':=
 zeh 8 (-3) 128 129 0 { data:=#[50] } { data:=#[49] } w hT zk6 (by decide) (by decide)
theorem zjE (w:World) (hT:Tabs w):Calls Tryz.prog 87 #[.agg #[.int .i64 8,.int .i64 (-3),.int .i64 128,.string { data:=#[50] },.string { data:=#[49] }],.int .i64 129] w fun e w'=>e = .returned (.agg #[.string { data:=#[49,47,49,54] },.string { data:=#[51,47,49,54] }])∧Below w.heap.size w w':=
 zfU 8 (-3) 128 129 { data:=#[50] } { data:=#[49] } 1031798784 1044381696 [49,47,49,54] [51,47,49,54] w hT (by decide) (by decide) (by decide) zrO zrU zo2 zql
theorem zp6 (w:World) (hT:Tabs w):Calls Tryz.prog 99 #[.agg #[.int .i64 8,.int .i64 (-3),.int .i64 128,.string { data:=#[50] },.string { data:=#[49] }],.string { data:=#[49,47,49,54] }] w fun e w'=>e = .returned (.tuple #[.string { data:=#[57,47,56] },.int .i64 0])∧Below w.heap.size w w':=
 ze4 8 (-3) 128 { data:=#[50] } { data:=#[49] } { data:=#[49,47,49,54] } ⟨false,2,1⟩ ⟨false,1,16⟩ ⟨false,1,1⟩ ⟨false,1,8⟩ ⟨false,9,8⟩ [57,47,56] w hT (by decide) (by decide) (by decide) zsO zpG zsn zr1 zra znj.1 znj.2 (by decide) (by decide) (by decide) (by decide) (by decide)
theorem zo5 (w:World) (hT:Tabs w):Calls Tryz.prog 99 #[.agg #[.int .i64 8,.int .i64 (-3),.int .i64 128,.string { data:=#[50] },.string { data:=#[49] }],.string { data:=#[51,47,49,54] }] w fun e w'=>e = .returned (.tuple #[.string { data:=#[49,49,47,56] },.int .i64 0])∧Below w.heap.size w w':=
 ze4 8 (-3) 128 { data:=#[50] } { data:=#[49] } { data:=#[51,47,49,54] } ⟨false,2,1⟩ ⟨false,3,16⟩ ⟨false,1,1⟩ ⟨false,3,8⟩ ⟨false,11,8⟩ [49,49,47,56] w hT (by decide) (by decide) (by decide) zsO zpp zsn zrR zr6 znF.1 znF.2 (by decide) (by decide) (by decide) (by decide) (by decide)
set_option maxHeartbeats 2000000 in
set_option maxRecDepth 100000 in
theorem zrQ (w:World) (hT:Tabs w) :
  Calls Tryz.prog 41 #[.agg #[.int .i64 8,.int .i64 (-3),.int .i64 128,.string { data:=#[50] },.string { data:=#[49] }],.int .i64 129] w fun e w'=>e = .returned (.tuple #[.agg #[.string { data:=#[57,47,56] },.string { data:=#[49,49,47,56] }],.int .i64 0])∧Below w.heap.size w w':=by
 have hb0:Below w.heap.size w ((w.alloc (.cells #[.int .i64 8,.int .i64 (-3),.int .i64 128,.string { data:=#[50] },.string { data:=#[49] }] 33)).alloc (.cells #[.string { data:=#[] },.string { data:=#[] }] 55)):=((Below.refl _ _).alloc (Nat.le_refl _) _).alloc (by simp) _
 have q0:CBlk ((w.alloc (.cells #[.int .i64 8,.int .i64 (-3),.int .i64 128,.string { data:=#[50] },.string { data:=#[49] }] 33)).alloc (.cells #[.string { data:=#[] },.string { data:=#[] }] 55)) w.heap.size #[.int .i64 8,.int .i64 (-3),.int .i64 128,.string { data:=#[50] },.string { data:=#[49] }] 33:=(CBlk.new w _ _ _ rfl).below ((Below.refl _ _).alloc (Nat.le_refl _) _) (by simp)
 have s0:CBlk ((w.alloc (.cells #[.int .i64 8,.int .i64 (-3),.int .i64 128,.string { data:=#[50] },.string { data:=#[49] }] 33)).alloc (.cells #[.string { data:=#[] },.string { data:=#[] }] 55)) (w.heap.size+1) #[.string { data:=#[] },.string { data:=#[] }] 55:=CBlk.new _ _ _ _ (by simp)
 have x0:=q0.cell 0
 have x1:=q0.cell 1
 have x2:=q0.cell 2
 have x3:=q0.cell 3
 have x4:=q0.cell 4
 go_enter Tryz.func41,Tryz.ntmps41
 go_wp2_with fail
 generalize ((w.alloc (.cells #[.int .i64 8,.int .i64 (-3),.int .i64 128,.string { data:=#[50] },.string { data:=#[49] }] 33)).alloc (.cells #[.string { data:=#[] },.string { data:=#[] }] 55))=w1 at *
 have hT1:=hT.later hb0
 refine (zpS w1 hT1).mono ?_
 rintro e w2 ⟨rfl,hb2⟩
 have q2:=q0.below hb2 q0.lt
 have s2:=s0.below hb2 s0.lt
 have hT2:=hT1.later hb2
 have hB2:=hb0.trans (hb2.mono hb0.size)
 clear x0 x1 x2 x3 x4
 have x0:=q2.cell 0
 have x1:=q2.cell 1
 have x2:=q2.cell 2
 have x3:=q2.cell 3
 have x4:=q2.cell 4
 go_wp2_with fail
 refine (zjE w2 hT2).mono ?_
 rintro e w3 ⟨rfl,hb3⟩
 have hb4:Below w3.heap.size w3 (w3.alloc (.cells #[.string { data:=#[49,47,49,54] },.string { data:=#[51,47,49,54] }] 55)):=(Below.refl _ _).alloc (Nat.le_refl _) _
 have q4:=(q2.below hb3 q2.lt).below hb4 (q2.below hb3 q2.lt).lt
 have s4:=(s2.below hb3 s2.lt).below hb4 (s2.below hb3 s2.lt).lt
 have i4:CBlk (w3.alloc (.cells #[.string { data:=#[49,47,49,54] },.string { data:=#[51,47,49,54] }] 55)) w3.heap.size #[.string { data:=#[49,47,49,54] },.string { data:=#[51,47,49,54] }] 55:=CBlk.new _ _ _ _ rfl
 have hB3:=hB2.trans (hb3.mono hB2.size)
 have hB4:=hB3.trans (hb4.mono hB3.size)
 have hT4:=hT.later hB4
 clear x0 x1 x2 x3 x4 hb2 hb3 hb4
 go_wp2_with fail
 generalize w3.heap.size=j at *
 generalize w3.alloc (.cells #[.string { data:=#[49,47,49,54] },.string { data:=#[51,47,49,54] }] 55)=w4 at *
 have HCAL:=Lib.hid (fun W=>zdF 8 (-3) 128 { data:=#[50] } { data:=#[49] } { data:=#[49] } { data:=#[48] } W)
 go_region_held3 (fun w'=>w'.cell? ⟨w.heap.size,0,none⟩=some (.int .i64 8)∧w'.cell? ⟨w.heap.size,1,none⟩=some (.int .i64 (-3))∧w'.cell? ⟨w.heap.size,2,none⟩=some (.int .i64 128)∧w'.cell? ⟨w.heap.size,3,none⟩=some (.string { data:=#[50] })∧w'.cell? ⟨w.heap.size,4,none⟩=some (.string { data:=#[49] }))
  ((refine ⟨?_,?_,?_,?_,?_⟩<;>first | exact q5.cell _ | exact q4.cell _))
  (first
   |(go_at_call 98;refine (HCAL.out w4.drew).mono ?_;rintro e w5 ⟨rfl,hb5'⟩;have hb5:Below w4.heap.size w4 w5:=⟨hb5'.os,hb5'.tape,hb5'.output,hb5'.size,hb5'.block⟩;clear hb5';have q5:=q4.below hb5 q4.lt))
 have hB5:=hB4.trans (hb5.mono hB4.size)
 have s5:=s4.below hb5 s4.lt
 have i5:=i4.below hb5 i4.lt
 have hT5:=hT4.later hb5
 have x0:=q5.cell 0
 have x1:=q5.cell 1
 have x2:=q5.cell 2
 have x3:=q5.cell 3
 have x4:=q5.cell 4
 have y0:=i5.cell 0
 have y1:=i5.cell 1
 clear hb5 q4 s4 i4 hT4 hB4 HCAL
 go_wp2_with fail
 refine (zp6 w5 hT5).mono ?_
 rintro e w6 ⟨rfl,hb6⟩
 have q6:=q5.below hb6 q5.lt
 have s6:=s5.below hb6 s5.lt
 have i6:=i5.below hb6 i5.lt
 have hT6:=hT5.later hb6
 have hB6:=hB5.trans (hb6.mono hB5.size)
 clear x0 x1 x2 x3 x4 y0 y1
 have x0:=q6.cell 0
 have x1:=q6.cell 1
 have x2:=q6.cell 2
 have x3:=q6.cell 3
 have x4:=q6.cell 4
 have y0:=i6.cell 0
 have y1:=i6.cell 1
 clear hb6 q5 s5 i5 hT5 hB5
 go_wp2_with fail
 refine (zo5 w6 hT6).mono ?_
 rintro e w7 ⟨rfl,hb7⟩
 have s7:=s6.below hb7 s6.lt
 have hB7:=hB6.trans (hb7.mono hB6.size)
 clear x0 x1 x2 x3 x4 y0 y1 hb7 q6 s6 i6 hT6 hB6
 go_wp2_with fail
 refine (za7 0 0 w7 _ _ rfl).mono ?_
 rintro e w8 ⟨rfl,rfl⟩
 have hb8:Below w7.heap.size w7 (w7.alloc (.cells #[.int .i64 0,.int .i64 0] 30)):=(Below.refl _ _).alloc (Nat.le_refl _) _
 have s8:=s7.below hb8 s7.lt
 have hB8:=hB7.trans (hb8.mono hB7.size)
 generalize w7.alloc (.cells #[.int .i64 0,.int .i64 0] 30)=w8 at *
 have r0:=s8.cell 0
 have r1:=s8.cell 1
 have f0:=s8.frozen 0
 have f1:=s8.frozen 1
 have hset:=zbc hB8 (g:=w.heap.size+1) (by omega) (.string { data:=#[57,47,56] }) (.string { data:=#[49,49,47,56] })
 clear hb8 s7 hB7
 go_wp2_with fail
 refine bodyPost_ret (v := .tuple #[.agg #[.string { data:=#[57,47,56] },.string { data:=#[49,49,47,56] }],.int .i64 0]) (by simp [results,Tryz.results41,go_sem,r0,r1]) rfl ⟨rfl,hset⟩
end Go.Proofs.YtmkihdjolnlccaaGreatDoor
