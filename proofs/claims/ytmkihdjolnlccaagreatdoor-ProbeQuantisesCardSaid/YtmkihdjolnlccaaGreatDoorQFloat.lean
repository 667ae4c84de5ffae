/- The contract of Float. -/
import Derived.Test.YtmkihdjolnlccaaGreatDoorQScal
import Derived.Test.YtmkihdjolnlccaaGreatDoorQLdx
import Derived.Test.YtmkihdjolnlccaaGreatDoorQRat4
import Derived.Test.YtmkihdjolnlccaaGreatDoorQPr4
import Derived.Test.YtmkihdjolnlccaaGreatDoorQShelf
import Derived.Deep.RegionHeld3
import Derived.Test.YtmkihdjolnlccaaGreatDoorQWords
import Derived.Deep.LoopGhost
import Derived.Shelf.SlSorted.Search
import Derived.Test.YtmkihdjolnlccaaGreatDoorQTrn
import Derived.Test.YtmkihdjolnlccaaGreatDoorQDp
namespace Go.Proofs.YtmkihdjolnlccaaGreatDoor
open Go.RowKit Bn
open Flt
theorem ztk:dn 1 0=4607182418800017408:=by decide +kernel
theorem zh7 (W:World):Calls Tryz.prog 119 #[.float .f64 4607182418800017408,.int .i64 128] W fun e' w'=>e' = .returned (.float .f64 (dn 1 128))∧W=w':=by
 rw [←ztk]
 have b1:(1:Nat).log2=0:=by decide
 exact zcQ W (zk1 W (by omega) (by omega) (by rw [b1];omega) (by rw [b1];omega))
theorem zqu:Ieee.double.read 9218868437227405312 = .infinity false:=by decide +kernel
theorem zsD {x m:Nat} {p:Int} (h:Ieee.double.read x = .number false m p):(FloatKind.f64.format.order 9218868437227405312 x==some .gt || FloatKind.f64.format.order 9218868437227405312 x==some .eq)=true:=by
 have:FloatKind.f64.format.order 9218868437227405312 x=some .gt:=by
  show (Ieee.double.read 9218868437227405312).order (Ieee.double.read x)=_
  rw [zqu,h];rfl
 rw [this];rfl
theorem zq8 {n:Nat} {e:Int} (h:Rnd n e) (h0:0<n) (he:e≤1099511627776) :
  ∃ r:Nat,(∀ W:World,Calls Tryz.prog 119 #[.float .f64 (dn n 0),.int .i64 e] W fun e' w'=>e' = .returned (.float .f64 r)∧W=w') ∧
   (FloatKind.f64.format.order r (dn 1 128)==some .gt || FloatKind.f64.format.order r (dn 1 128)==some .eq)=decide (2139095040≤rung n e) ∧
   (rung n e<2139095040→r=dn n e∧Nrm (sg n) (e+n.log2 - 52)):=by
 have hp:=h.place
 have hh:=h.hi
 have hl:=h.log2 h0
 by_cases hc:e+n.log2≤1023
 ·exact ⟨dn n e,fun W=>zcQ W (zk1 W h0 (by omega) (by omega) hc),zts h h0 hc rfl,fun _=>⟨rfl,zc9 h0 (by omega) (by omega) hc⟩⟩
 ·have hr:2139095040≤rung n e:=by unfold rung;omega
  refine ⟨9218868437227405312,fun W=>zcQ W (znJ W h0 (by omega) (by omega) (by omega)),?_,fun hx=>absurd hr (by omega)⟩
  have b1:(1:Nat).log2=0:=by decide
  rw [zsD (zjT (n:=1) (e:=128) (by omega) (by omega) (by rw [b1];omega) (by rw [b1];omega)),decide_eq_true hr]
set_option maxHeartbeats 2000000 in
set_option maxRecDepth 100000 in
theorem zn7 (s:ByteArray) (w:World) (hT:Tabs w) (hs:s.size≤4294967296) (hx:zam s.data.toList≠0) :
  Calls Tryz.prog 48 #[.string s] w fun e w'=>e = .returned (.tuple #[.float .f32 0,.int .i64 (zam s.data.toList)])∧Below w.heap.size w w':=by
 have hr:=zdu s w hT hs
 generalize zam s.data.toList=x at hr hx ⊢
 generalize zad s.data.toList=q at hr
 have hxb:(x != 0)=true:=by simpa using hx
 go_enter Tryz.func48,Tryz.ntmps48
 go_wp2_with fail
 refine hr.mono ?_
 rintro e w1 ⟨v,rfl,⟨A,n,c,A',n',c',rfl,h1,h2⟩,hb⟩
 go_wp2
 go_ret2
 exact ⟨rfl,hb.alloc hb.size _⟩
set_option maxHeartbeats 2000000 in
set_option maxRecDepth 100000 in
theorem zmr (s:ByteArray) (w:World) (hT:Tabs w) (hs:s.size≤4294967296) (hx:zam s.data.toList=0) (hz:(zad s.data.toList).top=0) :
  Calls Tryz.prog 48 #[.string s] w fun e w'=>e = .returned (.tuple #[.float .f32 0,.int .i64 0])∧Below w.heap.size w w':=by
 have hr:=zdu s w hT hs
 rw [hx] at hr
 generalize zad s.data.toList=q at hr hz
 go_enter Tryz.func48,Tryz.ntmps48
 go_wp2_with fail
 refine hr.mono ?_
 rintro e w1 ⟨v,rfl,⟨A,n,c,A',n',c',rfl,h1,h2⟩,hb⟩
 have hb2:Below w1.heap.size w1 (w1.alloc (.cells #[.bool q.neg,.slice A n c,.slice A' n' c'] 159)):=(Below.refl _ _).alloc (Nat.le_refl _) _
 have hiz:=zd4 q.neg q.top A A' n c n' c' _ (h1.later hb2)
 rw [decide_eq_true hz] at hiz
 have HIZ:=Lib.hid hiz
 clear hiz hr
 go_wp2_with fail
 refine HIZ.out.mono ?_
 rintro e w3 ⟨rfl,hb3⟩
 go_wp2
 go_ret2
 exact ⟨rfl,(hb.trans (hb2.mono hb.size)).trans (hb3.mono (by have:=hb.size;simp;omega))⟩
set_option maxHeartbeats 4000000 in
set_option maxRecDepth 100000 in
theorem zeA (s:ByteArray) (w:World) (X r r2 R E:Nat) (g:Bool) (hT:Tabs w) (hs:s.size≤4294967296) (hx:zam s.data.toList=0) (hz:0<(zad s.data.toList).top)
  (hX:floatOfInt .f64 ((flN (zad s.data.toList).top (zad s.data.toList).bot:Nat):Int)=X)
  (hL:∀ W:World,Calls Tryz.prog 119 #[.float .f64 X,.int .i64 (flE (zad s.data.toList).top (zad s.data.toList).bot)] W fun e' w'=>e' = .returned (.float .f64 r)∧W=w')
  (hE:∀ W:World,Calls Tryz.prog 119 #[.float .f64 4607182418800017408,.int .i64 128] W fun e' w'=>e' = .returned (.float .f64 E)∧W=w')
  (hG:(FloatKind.f64.format.order r E==some .gt || FloatKind.f64.format.order r E==some .eq)=g)
  (hN:g=false→(zad s.data.toList).neg=true→floatBits .sub .f64 0 r=some r2)
  (hR:g=false→floatToFloatBits .f64 (if (zad s.data.toList).neg then r2 else r) .f32=some R) :
  Calls Tryz.prog 48 #[.string s] w fun e w'=>e = .returned (.tuple #[.float .f32 (if g then 0 else R),.int .i64 (if g then 4 else 0)])∧Below w.heap.size w w':=by
 have hr:=zdu s w hT hs
 have hl:=@zed s.data.toList hx
 have hbot:=@zgk s.data.toList hx
 rw [hx] at hr
 generalize zad s.data.toList=q at hr hz hX hL hN hR hl hbot
 obtain ⟨hrnd,hq⟩:=zeU hz hbot
 have nb:=zhc (zbW hl.1) (zbW hl.2)
 have hE1:flE q.top q.bot≤1073741824:=by unfold flE;omega
 have hE2 : -1073741824≤flE q.top q.bot:=by unfold flE;omega
 have hsp:=zhX hbot (flE q.top q.bot)
 have w1:wrap64 (bexp q.top q.bot+1)=bexp q.top q.bot+1:=IntWalk.wrap64_in _ (by omega)
 have w2:wrap64 (bexp q.top q.bot+1 - 24)=bexp q.top q.bot+1 - 24:=IntWalk.wrap64_in _ (by omega)
 have hmx:max (bexp q.top q.bot+1 - 24) (-149)=flE q.top q.bot:=rfl
 obtain ⟨l1,l2⟩:=hl
 have HZ:=Lib.hid hz
 have HL:=Lib.hid hL
 have HE:=Lib.hid hE
 have HN:=Lib.hid hN
 have HR:=Lib.hid hR
 have HG:=Lib.hid hG
 clear hz hL hE hN hR hG
 go_enter Tryz.func48,Tryz.ntmps48
 go_wp2_with fail
 refine hr.mono ?_
 rintro e w1 ⟨v,rfl,⟨A,n,c,A',n',c',rfl,h1,h2⟩,hb⟩
 rw [h1.len] at l1
 rw [h2.len] at l2
 have hb2:Below w1.heap.size w1 (w1.alloc (.cells #[.bool q.neg,.slice A n c,.slice A' n' c'] 159)):=(Below.refl _ _).alloc (Nat.le_refl _) _
 have hiz:=zd4 q.neg q.top A A' n c n' c' _ (h1.later hb2)
 rw [decide_eq_false (show ¬ q.top=0 by have:=HZ.out;omega)] at hiz
 have HIZ:=Lib.hid hiz
 clear hiz hr
 go_wp2_with fail
 refine HIZ.out.mono ?_
 rintro e w3 ⟨rfl,hb3⟩
 clear HIZ
 have hx3:zaj w3 w1.heap.size q.neg (.slice A n c) (.slice A' n' c'):=(zaj.new w1 _ _ _).below hb3 (by simp)
 have hB3:Below w.heap.size w w3:=(hb.trans (hb2.mono hb.size)).trans (hb3.mono (by have:=hb.size;simp;omega))
 have hs3:w1.heap.size<w3.heap.size:=by have:=hb3.size;simp at this;omega
 have g1:=(h1.later hb2).later hb3
 have g2:=(h2.later hb2).later hb3
 have hbe:=zea q.neg q.top q.bot A A' n c n' c' w3 g1 g2 (by omega) (by omega)
 obtain ⟨x0,x1,x2,_,_,_,xl⟩:=hx3.cells
 have HBE:=Lib.hid hbe
 clear hbe
 go_wp2_with fail
 refine HBE.out.mono ?_
 rintro e w4 ⟨rfl,hb4⟩
 clear HBE x0 x1 x2 xl
 have hx4:=hx3.below hb4 hs3
 have hs4:w1.heap.size<w4.heap.size:=by have:=hb4.size;omega
 have hro:=zjR q.neg q.top q.bot (flE q.top q.bot) A A' n c n' c' w4 (g1.later hb4) (g2.later hb4) (by omega) (by omega) ⟨hE2,hE1⟩ hsp (by omega)
 have hfn:near (scT q.top (flE q.top q.bot)) (scB q.bot (flE q.top q.bot))=flN q.top q.bot:=rfl
 rw [hfn] at hro
 obtain ⟨x0,x1,x2,_,_,_,xl⟩:=hx4.cells
 have HRO:=Lib.hid hro
 clear hro
 go_wp2_with fail
 refine HRO.out.mono ?_
 rintro e w5 ⟨rfl,hb5⟩
 clear HRO x0 x1 x2 xl
 have hx5:=hx4.below hb5 hs4
 obtain ⟨x0,x1,x2,_,_,_,xl⟩:=hx5.cells
 have hB5:Below w.heap.size w w5:=(hB3.trans (hb4.mono hB3.size)).trans (hb5.mono (by have:=hB3.size;have:=hb4.size;omega))
 generalize flN q.top q.bot=N at *
 generalize flE q.top q.bot=e at *
 go_wp2_with fail
 refine (HL.out _).mono ?_
 rintro e6 w6 ⟨rfl,rfl⟩
 go_wp2_with fail
 refine (HE.out _).mono ?_
 rintro e7 w7 ⟨rfl,rfl⟩
 have hG:=HG.out
 cases hg:g
 ·subst hg
  have hR:=HR.out rfl
  cases hn:q.neg
  ·rw [hn,if_neg (by decide)] at hR
   rw [hn] at x0
   have hcv:=fun W:World=>run_convert_float_float (P:=Tryz.prog) W 163 64 .f64 .f32 r R (by kernel_rfl) (by kernel_rfl) hR
   go_wp2
   go_ret2
   exact ⟨rfl,hB5⟩
  ·have hN:=HN.out rfl hn
   rw [hn,if_pos rfl] at hR
   rw [hn] at x0
   have hsb:=fun W:World=>run_float_arith (P:=Tryz.prog) W .sub 163 .f64 0 r r2 hN
   have hcv:=fun W:World=>run_convert_float_float (P:=Tryz.prog) W 163 64 .f64 .f32 r2 R (by kernel_rfl) (by kernel_rfl) hR
   go_wp2
   go_ret2
   exact ⟨rfl,hB5⟩
 ·subst hg
  go_wp2
  go_ret2
  exact ⟨rfl,hB5⟩
theorem zmh:floatOfInt .f64 ((0:Nat):Int)=0:=by decide +kernel
theorem zjP:(FloatKind.f64.format.order 0 (dn 1 128)==some .gt || FloatKind.f64.format.order 0 (dn 1 128)==some .eq)=false:=by
 have b1:(1:Nat).log2=0:=by decide
 have f2:=zoC (e:=128) (by omega) (by omega)
 have k2:=zn3 (e:=128) (u:=1178) (by omega) (by omega) (by omega)
 have f4:=zaH zb0
 have k4:=za2 zb0
 rw [Nat.zero_mul] at k4
 show (Ieee.double.order _ _==some .gt || Ieee.double.order _ _==some .eq)=false
 rw [za4 f4 f2,k4,k2]
 have:=Nat.two_pow_pos (24+1178)
 generalize 2 ^ (24+1178)=A at this
 rw [zc8 (by omega)];rfl
theorem zoi:floatToFloatBits .f64 0 .f32=some 0:=by decide +kernel
theorem zow (s:ByteArray) (w:World) (hT:Tabs w) (hs:s.size≤4294967296) :
  Calls Tryz.prog 48 #[.string s] w fun e w'=>
   e = .returned (.tuple #[.float .f32 (if zam s.data.toList≠0 then 0 else flW (zad s.data.toList)),.int .i64 (if zam s.data.toList≠0 then zam s.data.toList else flX (zad s.data.toList))])∧Below w.heap.size w w':=by
 by_cases hx:zam s.data.toList=0
 ·rw [if_neg (by simpa using hx),if_neg (by simpa using hx)]
  by_cases hz:(zad s.data.toList).top=0
  ·have:=zmr s w hT hs hx hz
   unfold flW flX
   rw [if_pos hz,if_pos hz]
   exact this
  ·have hz':0<(zad s.data.toList).top:=by omega
   obtain ⟨hrnd,hq⟩:=zeU hz' (zgk hx)
   have hl:=zed hx
   have nb:=zhc (zbW hl.1) (zbW hl.2)
   have hE1:flE (zad s.data.toList).top (zad s.data.toList).bot≤1073741824:=by unfold flE;omega
   unfold flW flX
   rw [if_neg hz,if_neg hz]
   by_cases hN:flN (zad s.data.toList).top (zad s.data.toList).bot=0
   ·rw [if_pos hN,if_pos hN]
    exact zeA s w 0 0 0 0 (dn 1 128) false hT hs hx hz' (by rw [hN];exact zmh) (fun W=>zcQ W (zgL W)) zh7 zjP (fun _ _=>zib) (fun _=>by rw [ite_self];exact zoi)
   ·rw [if_neg hN,if_neg hN]
    have h0:0<flN (zad s.data.toList).top (zad s.data.toList).bot:=by omega
    obtain ⟨r,hL,hG,hD⟩:=zq8 hrnd h0 (by omega)
    have hX:=zqt (n:=flN (zad s.data.toList).top (zad s.data.toList).bot) h0 (by have:=hrnd.hi;omega)
    by_cases hR:2139095040≤rung (flN (zad s.data.toList).top (zad s.data.toList).bot) (flE (zad s.data.toList).top (zad s.data.toList).bot)
    ·rw [if_pos hR,if_pos hR]
     rw [decide_eq_true hR] at hG
     exact zeA s w _ r 0 0 (dn 1 128) true hT hs hx hz' hX hL zh7 hG (fun h=>by cases h) (fun h=>by cases h)
    ·rw [if_neg hR,if_neg hR]
     rw [decide_eq_false hR] at hG
     obtain ⟨hr,hn⟩:=hD (by omega)
     refine zeA s w _ r (dw true (sg (flN (zad s.data.toList).top (zad s.data.toList).bot)) (flE (zad s.data.toList).top (zad s.data.toList).bot+(flN (zad s.data.toList).top (zad s.data.toList).bot).log2 - 52)) _ (dn 1 128) false hT hs hx hz' hX hL zh7 hG (fun _ _ => ?_) (fun _ => ?_)
     ·rw [hr];exact zpK hn
     ·rw [hr]
      have hc:=fun b=>zrT b hrnd h0 (by omega)
      cases (zad s.data.toList).neg
      ·exact hc false
      ·exact hc true
 ·rw [if_pos (by simpa using hx),if_pos (by simpa using hx)]
  exact zn7 s w hT hs hx
theorem zrg (w:World):Calls Tryz.prog 212 #[.int .i64 (-1)] w fun e w'=>e = .returned (.float .f64 18442240474082181120)∧w=w':=by
 have hf:∀ W:World,(callFunc 237 #[.int .u64 (18442240474082181120:Int)]).run Tryz.prog W = .ok (.value (.float .f64 18442240474082181120)) W:=fun W=>zbL 18442240474082181120 W
 go_enter Tryz.func212,Tryz.ntmps212
 go_wp2
 go_ret
 exact ⟨rfl,rfl⟩
def floW (l:List UInt8):Nat:=if zam l≠0 then 0 else flW (zad l)
def floX (l:List UInt8):Int:=if zam l≠0 then zam l else flX (zad l)
def zbU (l:List UInt8):Nat:=if floX l=0 then floW l else if Lib.hasPrefix l [45]=true then 4286578688 else 2139095040
theorem zfj (s:ByteArray) (w:World) (hT:Tabs w) (hs:s.size≤4294967296) :
  Calls Tryz.prog 155 #[.string s] w fun e w'=>e = .returned (.float .f32 (zbU s.data.toList))∧Below w.heap.size w w':=by
 have h:=zow s w hT hs
 have e1:(if zam s.data.toList≠0 then 0 else flW (zad s.data.toList))=floW s.data.toList:=rfl
 have e2:(if zam s.data.toList≠0 then zam s.data.toList else flX (zad s.data.toList))=floX s.data.toList:=rfl
 rw [e1,e2] at h
 clear e1 e2
 have hp:=fun W:World=>Tryz.strings_HasPrefix s ⟨#[45]⟩ W
 have e45:(⟨#[45]⟩:ByteArray).data.toList=[45]:=rfl
 rw [e45] at hp
 unfold zbU
 generalize floW s.data.toList=f at *
 generalize floX s.data.toList=x at *
 generalize Lib.hasPrefix s.data.toList [45]=g at *
 have c1:floatToFloatBits .f64 18442240474082181120 .f32=some 4286578688:=by decide +kernel
 have c2:floatToFloatBits .f64 9218868437227405312 .f32=some 2139095040:=by decide +kernel
 have hc1:=fun W:World=>run_convert_float_float (P:=Tryz.prog) W 163 64 .f64 .f32 18442240474082181120 4286578688 (by kernel_rfl) (by kernel_rfl) c1
 have hc2:=fun W:World=>run_convert_float_float (P:=Tryz.prog) W 163 64 .f64 .f32 9218868437227405312 2139095040 (by kernel_rfl) (by kernel_rfl) c2
 have H:=Lib.hid h
 have HP:=Lib.hid hp
 clear h hp c1 c2 e45
 by_cases hx:x=0
 ·subst hx
  rw [if_pos rfl]
  go_enter Tryz.func155,Tryz.ntmps155
  go_wp2_with fail
  refine H.out.mono ?_
  rintro e w1 ⟨rfl,hb⟩
  go_wp2_with fail
  go_ret
  exact ⟨rfl,hb⟩
 ·have hd:(x==0)=false:=by simpa using hx
  rw [if_neg hx]
  cases hg:g
  ·subst hg
   rw [if_neg (by decide)]
   go_enter Tryz.func155,Tryz.ntmps155
   go_wp2_with fail
   refine H.out.mono ?_
   rintro e w1 ⟨rfl,hb⟩
   go_wp2_with fail
   refine (HP.out _).mono ?_
   rintro e w2 ⟨rfl,rfl⟩
   go_wp2_with fail
   refine (zoR _).mono ?_
   rintro e w3 ⟨rfl,rfl⟩
   go_wp2_with fail
   go_ret
   exact ⟨rfl,hb⟩
  ·subst hg
   rw [if_pos rfl]
   go_enter Tryz.func155,Tryz.ntmps155
   go_wp2_with fail
   refine H.out.mono ?_
   rintro e w1 ⟨rfl,hb⟩
   go_wp2_with fail
   refine (HP.out _).mono ?_
   rintro e w2 ⟨rfl,rfl⟩
   go_wp2_with fail
   refine (zrg _).mono ?_
   rintro e w3 ⟨rfl,rfl⟩
   go_wp2_with fail
   go_ret
   exact ⟨rfl,hb⟩
set_option maxHeartbeats 4000000 in
set_option maxRecDepth 100000 in
theorem zna (s:ByteArray) (n b1 b2 b3:Nat) (a st z c:Int) (g o:Value) (w:World) (hT:Tabs w) (hs:s.size≤4294967296)
  (hd : -4194304<2*(c - z) - 1) (hd2:2*(c - z) - 1<4194304) (he : -149≤st - 1) (he2:st - 1≤100)
  (x0:w.cell? ⟨b1,0,none⟩=some (.string s)) (y0:w.cell? ⟨b2,0,none⟩=some (.float .f32 n))
  (z0:w.cell? ⟨b3,0,none⟩=some (.int .i64 a)) (z1:w.cell? ⟨b3,1,none⟩=some (.int .i64 st)) (z2:w.cell? ⟨b3,2,none⟩=some (.int .i64 z)) (z3:w.cell? ⟨b3,3,none⟩=some g) (z4:w.cell? ⟨b3,4,none⟩=some o)
  (l1:b1<w.heap.size) (l2:b2<w.heap.size) (l3:b3<w.heap.size) :
  Calls Tryz.prog 157 #[.int .i64 c,.pointer (some ⟨b1,0,none⟩),.pointer (some ⟨b2,0,none⟩),.pointer (some ⟨b3,0,none⟩)] w fun e w'=>e = .returned (.bool (zba s.data.toList n (nomW (2*(c - z) - 1) (st - 1))))∧Below w.heap.size w w':=by
 have hE:=zh5 a st z c g o w.drew hd hd2 he he2
 have hTd:Tabs w.drew:=hT.later (Below.refl _ _).drew
 have hb3:Below w.heap.size w w.drew:=(Below.refl _ _).drew
 generalize nomW (2*(c - z) - 1) (st - 1)=ed at *
 have HE:=Lib.hid hE
 clear hE
 go_enter Tryz.func157,Tryz.ntmps157
 go_wp2_with fail
 go_region_held3 (fun w'=>w'.cell? ⟨b1,0,none⟩=some (.string s)∧w'.cell? ⟨b2,0,none⟩=some (.float .f32 n)∧w'.cell? ⟨b3,0,none⟩=some (.int .i64 a)∧w'.cell? ⟨b3,1,none⟩=some (.int .i64 st)∧w'.cell? ⟨b3,2,none⟩=some (.int .i64 z)∧w'.cell? ⟨b3,3,none⟩=some (g)∧w'.cell? ⟨b3,4,none⟩=some (o))
  ((first | exact ⟨x0,y0,z0,z1,z2,z3,z4⟩ | exact ⟨((hb4.cell (p:=⟨b1,0,none⟩) l1).trans x0),((hb4.cell (p:=⟨b2,0,none⟩) l2).trans y0),((hb4.cell (p:=⟨b3,0,none⟩) l3).trans z0),((hb4.cell (p:=⟨b3,1,none⟩) l3).trans z1),((hb4.cell (p:=⟨b3,2,none⟩) l3).trans z2),((hb4.cell (p:=⟨b3,3,none⟩) l3).trans z3),((hb4.cell (p:=⟨b3,4,none⟩) l3).trans z4)⟩ | exact ⟨((hb5.cell (p:=⟨b1,0,none⟩) k1).trans ((hb4.cell (p:=⟨b1,0,none⟩) l1).trans x0)),((hb5.cell (p:=⟨b2,0,none⟩) k2).trans ((hb4.cell (p:=⟨b2,0,none⟩) l2).trans y0)),((hb5.cell (p:=⟨b3,0,none⟩) k3).trans ((hb4.cell (p:=⟨b3,0,none⟩) l3).trans z0)),((hb5.cell (p:=⟨b3,1,none⟩) k3).trans ((hb4.cell (p:=⟨b3,1,none⟩) l3).trans z1)),((hb5.cell (p:=⟨b3,2,none⟩) k3).trans ((hb4.cell (p:=⟨b3,2,none⟩) l3).trans z2)),((hb5.cell (p:=⟨b3,3,none⟩) k3).trans ((hb4.cell (p:=⟨b3,3,none⟩) l3).trans z3)),((hb5.cell (p:=⟨b3,4,none⟩) k3).trans ((hb4.cell (p:=⟨b3,4,none⟩) l3).trans z4))⟩))
  (first
   |(go_at_call 159;refine (HE.out).mono ?_;rintro e w4 ⟨rfl,hb4⟩;have k1:=Nat.lt_of_lt_of_le l1 hb4.size;have k2:=Nat.lt_of_lt_of_le l2 hb4.size;have k3:=Nat.lt_of_lt_of_le l3 hb4.size)
   |(go_at_call 158;refine (zjm s n ed w4 (hTd.later hb4) hs).mono ?_;rintro e w5 ⟨rfl,hb5⟩))
 go_wp2_with fail
 go_ret
 exact ⟨rfl,(hb3.trans (hb4.mono hb3.size)).trans (hb5.mono (by have:=hb4.size;have:=hb3.size;omega))⟩
end Go.Proofs.YtmkihdjolnlccaaGreatDoor
namespace Go.Proofs.YtmkihdjolnlccaaGreatDoor
open Go.RowKit
set_option maxHeartbeats 2000000 in
set_option maxRecDepth 100000 in
theorem zly (g:Nat) (cb:Array Value) (n k:Nat) (p:Nat→Bool) (w:World) (eg:∀ args w,(callFunc g args).run Tryz.prog w = .ok (.enter g args) w) (hsz:n<4611686018427387904)
  (hk:k≤n) (hlo:∀ t,t<k→p t=false) (hhi:∀ t,k≤t→t<n→p t=true)
  (hf:∀ (W:World) (i:Nat),Below w.heap.size w W→i<n→Calls Tryz.prog g (#[.int .i64 i]++cb) W fun e w'=>e = .returned (.bool (p i))∧Below w.heap.size W w') :
  Calls Tryz.prog 156 #[.int .i64 n,.func (.func g) #[] cb] w fun e w'=>e = .returned (.int .i64 k)∧Below w.heap.size w w':=by
 have HF:=Lib.hid hf
 have HL:=Lib.hid hlo
 have HH:=Lib.hid hhi
 clear hf hlo hhi
 go_enter Tryz.func156,Tryz.ntmps156
 go_wp2
 go_loopg [5,6] n (fun m s5 s6 W=>∃ lo hi:Nat,s5 = .int .i64 lo∧s6 = .int .i64 hi∧lo≤k∧k≤hi∧hi≤n∧hi - lo≤m∧Below w.heap.size w W)
 case atStart=>exact ⟨0,n,rfl,rfl,Nat.zero_le _,hk,Nat.le_refl _,by omega,Below.refl _ _⟩
 case round=>
  obtain ⟨lo,hi,rfl,rfl,h1,h2,h3,h4,hb⟩:=hrel
  by_cases hlt:lo<hi
  ·obtain ⟨mid,hm,hm1,hm2⟩:∃ mid:Nat,((lo:Int)+(hi:Int)) / 2=(mid:Int)∧lo≤mid∧mid<hi:=⟨(lo+hi) / 2,by omega,by omega,by omega⟩
   have hc:=HF.out wr mid hb (by omega)
   have hsz2:=hb.size
   by_cases hp:p mid=true
   ·have hkm:k≤mid:=by
     rcases Nat.lt_or_ge mid k with h | h
     ·have:=HL.out mid h;rw [hp] at this;cases this
     ·exact h
    rw [hp] at hc
    have HC:=Lib.hid hc
    clear hc hp
    go_wp2_with (go_at_fn g;refine HC.out.mono ?_;rintro e w' ⟨rfl,hb2⟩)
    go_roundg (mid - lo)
    case measure=>omega
    case rel=>exact ⟨lo,mid,rfl,rfl,h1,hkm,by omega,Nat.le_refl _,hb.trans hb2⟩
   ·have hpf:p mid=false:=by simpa using hp
    have hkm:mid<k:=by
     rcases Nat.lt_or_ge mid k with h | h
     ·exact h
     ·exact absurd (HH.out mid h (by omega)) hp
    rw [hpf] at hc
    have HC:=Lib.hid hc
    clear hc hp hpf
    go_wp2_with (go_at_fn g;refine HC.out.mono ?_;rintro e w' ⟨rfl,hb2⟩)
    go_roundg (hi - (mid+1))
    case measure=>omega
    case rel=>exact ⟨mid+1,hi,by rw [Int.natCast_add];rfl,rfl,hkm,h2,h3,Nat.le_refl _,hb.trans hb2⟩
  ·obtain rfl:lo=k:=by omega
   obtain rfl:hi=lo:=by omega
   go_wp2
   go_ret
   exact ⟨rfl,hb⟩
end Go.Proofs.YtmkihdjolnlccaaGreatDoor
namespace Go.Proofs.YtmkihdjolnlccaaGreatDoor
open Go.RowKit Bn
open Flt
theorem zjV (args:Array Value) (w:World):(callFunc 157 args).run Tryz.prog w = .ok (.enter 157 args) w:=by kernel_rfl
def zdM (w:World) (g:Nat) (c:Array Value) (t:TypeId):Prop:=w.heap[g]? = some (.cells c t (0,0))
theorem zdM.new (w:World) (c:Array Value) (t:TypeId) (g:Nat) (hg:g=w.heap.size):zdM (w.alloc (.cells c t)) g c t:=by subst hg;exact heap_alloc_new w _
theorem zdM.below {w w':World} {g B:Nat} {c:Array Value} {t:TypeId} (h:zdM w g c t) (hb:Below B w w') (hg:g<B):zdM w' g c t:=(hb.block g hg).trans h
theorem zdM.cell {w:World} {g:Nat} {c:Array Value} {t:TypeId} (h:zdM w g c t) (i:Nat):w.cell? ⟨g,i,none⟩=c[i]? := cell_of_row w g i _ _ _ h
theorem zdM.lt {w:World} {g:Nat} {c:Array Value} {t:TypeId} (h:zdM w g c t):g<w.heap.size:=by
 unfold zdM at h
 rcases Nat.lt_or_ge g w.heap.size with hlt | hge
 ·exact hlt
 ·rw [Array.getElem?_eq_none hge] at h;cases h
set_option maxHeartbeats 4000000 in
set_option maxRecDepth 100000 in
theorem zkE (s:ByteArray) (a k:Nat) (st z:Int) (g o:Value) (w:World) (hT:Tabs w) (hs:s.size≤4294967296) (ha:a≤12) (hz:0≤z∧z≤8192) (he : -149≤st - 1) (he2:st - 1≤100)
  (hk:k≤2 ^ a+1) (hlo:∀ t:Nat,t<k→zba s.data.toList (zbU s.data.toList) (nomW (2*((t:Int) - z) - 1) (st - 1))=false)
  (hhi:∀ t:Nat,k≤t→t<2 ^ a+1→zba s.data.toList (zbU s.data.toList) (nomW (2*((t:Int) - z) - 1) (st - 1))=true) :
  Calls Tryz.prog 83 #[.agg #[.int .i64 a,.int .i64 st,.int .i64 z,g,o],.string s] w fun e w'=>
   e = .returned (.tuple #[.int .i64 (if k=0 then 0 else if k=2 ^ a+1 then ((2 ^ a - 1:Nat):Int) else (k:Int) - 1),.int .i64 (if k=0 then -1 else if k=2 ^ a+1 then 1 else 0)])∧Below w.heap.size w w':=by
 have hp:2 ^ a≤4096:=by
  have:=Nat.pow_le_pow_right (show 0<2 by omega) ha
  have e:(2:Nat) ^ 12=4096:=by decide
  omega
 have hp0:=Nat.two_pow_pos a
 have htop:=fun W:World=>zdh a st z g o W (by omega)
 have hT1:2 ^ a+1=(2 ^ a - 1)+2:=by omega
 rw [hT1] at hk hhi ⊢
 generalize hTT:2 ^ a - 1=T at *
 have hTb:T≤4096:=by omega
 clear hTT hp hp0 hT1
 have HTOP:=Lib.hid htop
 clear htop
 generalize hC:(if k=0 then (0:Int) else if k=T+2 then (T:Int) else (k:Int) - 1)=C
 generalize hD:(if k=0 then (-1:Int) else if k=T+2 then 1 else 0)=D
 have HC:=Lib.hid hC
 have HD:=Lib.hid hD
 clear hC hD
 have hb0:Below w.heap.size w ((w.alloc (.cells #[.int .i64 a,.int .i64 st,.int .i64 z,g,o] 33)).alloc (.cells #[.string s] 22)):=((Below.refl _ _).alloc (Nat.le_refl _) _).alloc (by simp) _
 have hnf:=zfj s _ (hT.later hb0) hs
 generalize zbU s.data.toList=nf at *
 have HNF:=Lib.hid hnf
 have HL:=Lib.hid hlo
 have HH:=Lib.hid hhi
 clear hnf hlo hhi
 go_enter Tryz.func83,Tryz.ntmps83
 go_wp2_with fail
 refine HNF.out.mono ?_
 rintro e w1 ⟨rfl,hb1⟩
 have hB1:Below w.heap.size w w1:=hb0.trans (hb1.mono (by simp;omega))
 have q1:zdM w1 w.heap.size #[.int .i64 a,.int .i64 st,.int .i64 z,g,o] 33:=((zdM.new w _ _ _ rfl).below ((Below.refl _ _).alloc (Nat.le_refl _) _) (by simp)).below hb1 (by simp;omega)
 have r1:zdM w1 (w.heap.size+1) #[.string s] 22:=(zdM.new _ _ _ _ (by simp)).below hb1 (by simp)
 have hb2:Below w1.heap.size w1 (w1.alloc (.cells #[.float .f32 nf] 64)):=(Below.refl _ _).alloc (Nat.le_refl _) _
 have q2:=q1.below hb2 q1.lt
 have r2:=r1.below hb2 r1.lt
 have f2:=zdM.new w1 #[.float .f32 nf] 64 w1.heap.size rfl
 have hB2:Below w.heap.size w (w1.alloc (.cells #[.float .f32 nf] 64)):=hB1.trans (hb2.mono hB1.size)
 have y0:=q1.cell 0
 have y1:=q1.cell 1
 have y2:=q1.cell 2
 have y3:=q1.cell 3
 have y4:=q1.cell 4
 have hmf:∀ (fn:Fn) (first cap:Array Value) (w:World),(Instr.makeFunc fn first cap).run Tryz.prog w = .ok (.func fn first cap) w:=fun _ _ _ _=>rfl
 have hql:=q1.lt
 have hst:=fun (W:World) (a:Addr) (x:Nat) (m:_)=>run_store Tryz.prog W a (.float .f32 x) m rfl
 go_wp2_with fail
 refine (HTOP.out _).mono ?_
 rintro e w3 ⟨rfl,hb3⟩
 have q3:=q2.below hb3 q2.lt
 have r3:=r2.below hb3 r2.lt
 have f3:=f2.below hb3 f2.lt
 have hB3:Below w.heap.size w w3:=hB2.trans (hb3.mono hB2.size)
 have hT3:Tabs w3:=hT.later hB3
 have w2':wrap64 ((T:Int)+2)=((T+2:Nat):Int):=by rw [IntWalk.wrap64_in _ (by omega)];omega
 have w3':wrap64 ((k:Int) - 1)=(k:Int) - 1:=IntWalk.wrap64_in _ (by omega)
 have hse:=zly 157 #[.pointer (some ⟨w.heap.size+1,0,none⟩),.pointer (some ⟨w1.heap.size,0,none⟩),.pointer (some ⟨w.heap.size,0,none⟩)] (T+2) k (fun t=>zba s.data.toList nf (nomW (2*((t:Int) - z) - 1) (st - 1))) w3 zjV (by omega) hk HL.out HH.out (by
  intro W i hW hi
  have q4:=q3.below hW q3.lt
  have r4:=r3.below hW r3.lt
  have f4:=f3.below hW f3.lt
  have:=zna s nf (w.heap.size+1) w1.heap.size w.heap.size a st z i g o W (hT3.later hW) hs (by omega) (by omega) he he2 (r4.cell 0) (f4.cell 0) (q4.cell 0) (q4.cell 1) (q4.cell 2) (q4.cell 3) (q4.cell 4) r4.lt f4.lt q4.lt
  exact this.mono fun e w' ⟨h1,h2⟩=>⟨h1,h2.mono hW.size⟩)
 have HS:=Lib.hid hse
 clear hse
 clear y0 y1 y2 y3 y4
 go_wp2_with fail
 refine HS.out.mono ?_
 rintro e w4 ⟨rfl,hb4⟩
 have q4:=q3.below hb4 q3.lt
 have hB4:Below w.heap.size w w4:=hB3.trans (hb4.mono hB3.size)
 have y0:=q4.cell 0
 have y1:=q4.cell 1
 have y2:=q4.cell 2
 have y3:=q4.cell 3
 have y4:=q4.cell 4
 clear HS HNF HL HH
 by_cases hk0:k=0
 ·subst hk0
  have hC:C=0:=by have:=HC.out;rw [if_pos rfl] at this;exact this.symm
  have hD:D = -1:=by have:=HD.out;rw [if_pos rfl] at this;exact this.symm
  have HC2:=Lib.hid hC
  have HD2:=Lib.hid hD
  clear hC hD HC HD
  go_wp2_with fail
  go_ret2
  exact ⟨by rw [HC2.out,HD2.out];rfl,hB4⟩
 ·have hd0:decide ((k:Int) - 1<0)=false:=by simpa using (show ¬ ((k:Int) - 1<0) from by omega)
  by_cases hkT:k=T+2
  ·have hd1:decide ((T:Int)<(k:Int) - 1)=true:=by simpa using (show (T:Int)<(k:Int) - 1 from by omega)
   have hC:C=T:=by have:=HC.out;rw [if_neg hk0,if_pos hkT] at this;exact this.symm
   have hD:D=1:=by have:=HD.out;rw [if_neg hk0,if_pos hkT] at this;exact this.symm
   have HC2:=Lib.hid hC
   have HD2:=Lib.hid hD
   clear hC hD HC HD
   go_wp2_with fail
   refine (HTOP.out _).mono ?_
   rintro e w5 ⟨rfl,hb5⟩
   have q5:=q4.below hb5 q4.lt
   have hB5:Below w.heap.size w w5:=hB4.trans (hb5.mono hB4.size)
   have y0:=q5.cell 0
   have y1:=q5.cell 1
   have y2:=q5.cell 2
   have y3:=q5.cell 3
   have y4:=q5.cell 4
   go_wp2_with fail
   refine (HTOP.out _).mono ?_
   rintro e w6 ⟨rfl,hb6⟩
   go_wp2_with fail
   go_ret2
   exact ⟨by rw [HC2.out,HD2.out];rfl,hB5.trans (hb6.mono hB5.size)⟩
  ·have hd1:decide ((T:Int)<(k:Int) - 1)=false:=by simpa using (show ¬ ((T:Int)<(k:Int) - 1) from by omega)
   have hC:C=(k:Int) - 1:=by have:=HC.out;rw [if_neg hk0,if_neg hkT] at this;exact this.symm
   have hD:D=0:=by have:=HD.out;rw [if_neg hk0,if_neg hkT] at this;exact this.symm
   have HC2:=Lib.hid hC
   have HD2:=Lib.hid hD
   clear hC hD HC HD
   go_wp2_with fail
   refine (HTOP.out _).mono ?_
   rintro e w5 ⟨rfl,hb5⟩
   go_wp2_with fail
   go_ret2
   exact ⟨by rw [HC2.out,HD2.out];rfl,hB4.trans (hb5.mono hB4.size)⟩
set_option maxHeartbeats 1000000 in
theorem zis (s:ByteArray) (w:World) (hT:Tabs w) (hs:s.size≤4294967296) (h0:zam s.data.toList=0) (h1:rcmp (zad s.data.toList) (zad [48])=1) :
  Calls Tryz.prog 145 #[.string s] w fun e w'=>e = .returned (.int .i64 0)∧Below w.heap.size w w':=by
 have e0:zam [48]=0:=by decide +kernel
 have ho:Calls Tryz.prog 46 #[.string s,.string { data:=#[48] }] w fun e w'=>e = .returned (.tuple #[.int .i64 1,.int .i64 0])∧Below w.heap.size w w':=by
  refine (zft s { data:=#[48] } w hT hs (by decide)).mono ?_
  rintro e w' ⟨rfl,hb⟩
  refine ⟨?_,hb⟩
  have e1:({ data:=#[48] }:ByteArray).data.toList=[48]:=rfl
  rw [e1,h0,e0,h1]
  rfl
 have HO:=Lib.hid ho
 clear ho h1 h0
 go_enter Tryz.func145,Tryz.ntmps145
 go_wp2_with fail
 refine HO.out.mono ?_
 rintro e w1 ⟨rfl,hb1⟩
 go_wp2_with fail
 go_ret
 exact ⟨rfl,hb1⟩
structure Conv (a:Nat) (st z:Int) (g o:ByteArray):Prop where
 bits:8≤a∧a≤12
 step : -20≤st∧st≤4
 zero:0≤z∧z≤((2 ^ a - 1:Nat):Int)
 gsize:g.size≤4294967296
 osize:o.size≤4294967296
 gain:zam g.data.toList=0
 plus:rcmp (zad g.data.toList) (zad [48])=1
 offs:zam o.data.toList=0
theorem zeb (n a b:Int) (h1:a≤n) (h2:n≤b):zax n a b=0:=by
 unfold zax
 rw [if_neg (by omega)]
set_option maxHeartbeats 2000000 in
set_option maxRecDepth 100000 in
theorem zcf (a:Nat) (st z:Int) (g o:ByteArray) (w:World) (hT:Tabs w) (h:Conv a st z g o) :
  Calls Tryz.prog 65 #[.agg #[.int .i64 a,.int .i64 st,.int .i64 z,.string g,.string o]] w fun e w'=>e = .returned (.int .i64 0)∧Below w.heap.size w w':=by
 have hb0:Below w.heap.size w (w.alloc (.cells #[.int .i64 a,.int .i64 st,.int .i64 z,.string g,.string o] 33)).drew:=((Below.refl _ _).alloc (Nat.le_refl _) _).drew
 have q0:CBlk (w.alloc (.cells #[.int .i64 a,.int .i64 st,.int .i64 z,.string g,.string o] 33)).drew w.heap.size #[.int .i64 a,.int .i64 st,.int .i64 z,.string g,.string o] 33:=CBlk.new w _ _ _ rfl
 have x0:=q0.cell 0
 have x1:=q0.cell 1
 have k0:=q0.lt
 have HR1:=Lib.hid (zeb a 8 12 (by have:=h.bits;omega) (by have:=h.bits;omega))
 have HR2:=Lib.hid (zeb st (-20) 4 h.step.1 h.step.2)
 have HR3:=Lib.hid (zeb z 0 ((2 ^ a - 1:Nat):Int) h.zero.1 h.zero.2)
 have HTP:=Lib.hid (fun W=>zdh a st z (.string g) (.string o) W (by have:=h.bits;omega))
 have HG:=Lib.hid (fun W hT=>zis g W hT h.gsize h.gain h.plus)
 have HO:=Lib.hid (fun W hT=>zcL o W hT h.osize)
 have HE:=Lib.hid h.offs
 generalize ((2 ^ a - 1:Nat):Int)=T at *
 clear h
 go_enter Tryz.func65,Tryz.ntmps65
 go_wp2_with fail
 generalize w.alloc (.cells #[.int .i64 a,.int .i64 st,.int .i64 z,.string g,.string o] 33)=w1 at *
 go_region_held3 (fun w'=>w'.cell? ⟨w.heap.size,0,none⟩=some (.int .i64 a)∧w'.cell? ⟨w.heap.size,1,none⟩=some (.int .i64 st))
  ((first | exact ⟨x0,x1⟩ | exact ⟨(World.cell?_alloc_lt _ _ _ k0).trans x0,(World.cell?_alloc_lt _ _ _ k0).trans x1⟩))
  (first
   |(go_at_call 144;refine (zbb _ _ _ _).mono ?_;rintro e w4 ⟨he,rfl⟩;(first | rw [HR1.out] at he | rw [HR2.out] at he);subst he)
   |(go_at_call 64;refine (za7 0 0 w1.drew _ _ rfl).mono ?_;rintro e w6 ⟨rfl,rfl⟩))
 have hb2:Below w1.heap.size w1 (w1.alloc (.cells #[.int .i64 0,.int .i64 0] 30)).drew:=((Below.refl _ _).alloc (Nat.le_refl _) _).drew
 have q1:CBlk w1 w.heap.size #[.int .i64 a,.int .i64 st,.int .i64 z,.string g,.string o] 33:=q0
 have q2:=q1.below hb2 k0
 have hb1:Below w.heap.size w w1:=⟨hb0.os,hb0.tape,hb0.output,hb0.size,hb0.block⟩
 have hB2:Below w.heap.size w (w1.alloc (.cells #[.int .i64 0,.int .i64 0] 30)).drew:=hb1.trans (hb2.mono hb1.size)
 generalize (w1.alloc (.cells #[.int .i64 0,.int .i64 0] 30)).drew=w2 at *
 clear x0 x1
 have x0:=q2.cell 0
 have x1:=q2.cell 1
 have x2:=q2.cell 2
 have x3:=q2.cell 3
 have x4:=q2.cell 4
 have hT2:Tabs w2:=hT.later hB2
 go_wp2_with fail
 go_region_held3 (fun w'=>w'.cell? ⟨w.heap.size,0,none⟩=some (.int .i64 a)∧w'.cell? ⟨w.heap.size,1,none⟩=some (.int .i64 st)∧w'.cell? ⟨w.heap.size,2,none⟩=some (.int .i64 z)∧w'.cell? ⟨w.heap.size,3,none⟩=some (.string g)∧w'.cell? ⟨w.heap.size,4,none⟩=some (.string o))
  ((first | exact ⟨x0,x1,x2,x3,x4⟩ | exact ⟨y0,y1,y2,y3,y4⟩ | exact ⟨z0,z1,z2,z3,z4⟩ | exact ⟨u0,u1,u2,u3,u4⟩ | exact ⟨(World.cell?_alloc_lt _ _ _ k5).trans u0,(World.cell?_alloc_lt _ _ _ k5).trans u1,(World.cell?_alloc_lt _ _ _ k5).trans u2,(World.cell?_alloc_lt _ _ _ k5).trans u3,(World.cell?_alloc_lt _ _ _ k5).trans u4⟩))
  (first
   |(go_at_call 81;refine (HTP.out w2.drew).mono ?_;rintro e w3 ⟨rfl,hb3'⟩;have hb3:Below w2.heap.size w2 w3:=⟨hb3'.os,hb3'.tape,hb3'.output,hb3'.size,hb3'.block⟩;clear hb3';have q3:=q2.below hb3 q2.lt;have y0:=q3.cell 0;have y1:=q3.cell 1;have y2:=q3.cell 2;have y3:=q3.cell 3;have y4:=q3.cell 4;have hT3:=hT2.later hb3)
   |(go_at_call 144;refine (zbb _ _ _ _).mono ?_;rintro e w4 ⟨he,rfl⟩;rw [HR3.out] at he;subst he)
   |(go_at_call 145;refine (HG.out w3 hT3).mono ?_;rintro e w4 ⟨rfl,hb4⟩;have q4:=q3.below hb4 q3.lt;have z0:=q4.cell 0;have z1:=q4.cell 1;have z2:=q4.cell 2;have z3:=q4.cell 3;have z4:=q4.cell 4;have hT4:=hT3.later hb4)
   |(go_at_call 82;refine (HO.out w4 hT4).mono ?_;rintro e w5 ⟨he,hb5⟩;rw [HE.out] at he;subst he;have q5:=q4.below hb5 q4.lt;have u0:=q5.cell 0;have u1:=q5.cell 1;have u2:=q5.cell 2;have u3:=q5.cell 3;have u4:=q5.cell 4;have k5:=q5.lt)
   |(go_at_call 64;refine (zi0 w5 _ _ rfl).mono ?_;rintro e w6 ⟨rfl,rfl⟩))
 go_wp2_with fail
 go_ret
 have c3:=hB2.trans (hb3.mono hB2.size)
 have c4:=c3.trans (hb4.mono c3.size)
 have c5:=c4.trans (hb5.mono c4.size)
 exact ⟨rfl,c5.alloc c5.size _⟩
end Go.Proofs.YtmkihdjolnlccaaGreatDoor
