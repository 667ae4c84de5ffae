/- The contract of Float. -/
import Derived.Test.YteajibbphcfmeaaGreatDoorTBexp
import Derived.Test.YteajibbphcfmeaaGreatDoorTLdx2
import Derived.Test.YteajibbphcfmeaaGreatDoorTErr0
import Derived.Test.YteajibbphcfmeaaGreatDoorTEx3
import Derived.Test.YteajibbphcfmeaaGreatDoorTShelf
import Derived.Deep.RegionHeld3
import Derived.Test.YteajibbphcfmeaaGreatDoorTRow
import Derived.Deep.LoopGhost
import Derived.Shelf.SlSorted.Search
import Derived.Test.YteajibbphcfmeaaGreatDoorTDw2
import Derived.Test.YteajibbphcfmeaaGreatDoorTRat8
import Derived.Test.YteajibbphcfmeaaGreatDoorTRb2
namespace Go.Proofs.YteajibbphcfmeaaGreatDoor
open Go.RowKit Bn
open Flt
theorem one_is:dn 1 0=4607182418800017408:=by decide +kernel
theorem end_call (W:World):Calls Tryz.prog 98 #[.float .f64 4607182418800017408,.int .i64 128] W fun e' w'=>e' = .returned (.float .f64 (dn 1 128))∧W=w':=by
 rw [←one_is]
 have b1:(1:Nat).log2=0:=by decide
 exact Ldexp_any W (ldexp_dn W (by omega) (by omega) (by rw [b1];omega) (by rw [b1];omega))
theorem inf_read:Ieee.double.read 9218868437227405312 = .infinity false:=by decide +kernel
theorem inf_ge {x m:Nat} {p:Int} (h:Ieee.double.read x = .number false m p):(FloatKind.f64.format.order 9218868437227405312 x==some .gt || FloatKind.f64.format.order 9218868437227405312 x==some .eq)=true:=by
 have:FloatKind.f64.format.order 9218868437227405312 x=some .gt:=by
  show (Ieee.double.read 9218868437227405312).order (Ieee.double.read x)=_
  rw [inf_read,h];rfl
 rw [this];rfl
theorem fl_ways {n:Nat} {e:Int} (h:Rnd n e) (h0:0<n) (he:e≤1099511627776) :
  ∃ r:Nat,(∀ W:World,Calls Tryz.prog 98 #[.float .f64 (dn n 0),.int .i64 e] W fun e' w'=>e' = .returned (.float .f64 r)∧W=w') ∧
   (FloatKind.f64.format.order r (dn 1 128)==some .gt || FloatKind.f64.format.order r (dn 1 128)==some .eq)=decide (2139095040≤rung n e) ∧
   (rung n e<2139095040→r=dn n e∧Nrm (sg n) (e+n.log2 - 52)):=by
 have hp:=h.place
 have hh:=h.hi
 have hl:=h.log2 h0
 by_cases hc:e+n.log2≤1023
 ·exact ⟨dn n e,fun W=>Ldexp_any W (ldexp_dn W h0 (by omega) (by omega) hc),ge_end h h0 hc rfl,fun _=>⟨rfl,sg_nrm h0 (by omega) (by omega) hc⟩⟩
 ·have hr:2139095040≤rung n e:=by unfold rung;omega
  refine ⟨9218868437227405312,fun W=>Ldexp_any W (ldexp_big W h0 (by omega) (by omega) (by omega)),?_,fun hx=>absurd hr (by omega)⟩
  have b1:(1:Nat).log2=0:=by decide
  rw [inf_ge (read_dn (n:=1) (e:=128) (by omega) (by omega) (by rw [b1];omega) (by rw [b1];omega)),decide_eq_true hr]
set_option maxHeartbeats 2000000 in
set_option maxRecDepth 100000 in
theorem Float_bad (s:ByteArray) (w:World) (hT:Tabs w) (hs:s.size≤4294967296) (hx:readE s.data.toList≠0) :
  Calls Tryz.prog 39 #[.string s] w fun e w'=>e = .returned (.tuple #[.float .f32 0,.int .i64 (readE s.data.toList)])∧Below w.heap.size w w':=by
 have hr:=read_any s w hT hs
 generalize readE s.data.toList=x at hr hx ⊢
 generalize readQ s.data.toList=q at hr
 have hxb:(x != 0)=true:=by simpa using hx
 go_enter Tryz.func39,Tryz.ntmps39
 go_wp2_with fail
 refine hr.mono ?_
 rintro e w1 ⟨v,rfl,⟨A,n,c,A',n',c',rfl,h1,h2⟩,hb⟩
 go_wp2
 go_ret2
 exact ⟨rfl,hb.alloc hb.size _⟩
set_option maxHeartbeats 2000000 in
set_option maxRecDepth 100000 in
theorem Float_zero (s:ByteArray) (w:World) (hT:Tabs w) (hs:s.size≤4294967296) (hx:readE s.data.toList=0) (hz:(readQ s.data.toList).top=0) :
  Calls Tryz.prog 39 #[.string s] w fun e w'=>e = .returned (.tuple #[.float .f32 0,.int .i64 0])∧Below w.heap.size w w':=by
 have hr:=read_any s w hT hs
 rw [hx] at hr
 generalize readQ s.data.toList=q at hr hz
 go_enter Tryz.func39,Tryz.ntmps39
 go_wp2_with fail
 refine hr.mono ?_
 rintro e w1 ⟨v,rfl,⟨A,n,c,A',n',c',rfl,h1,h2⟩,hb⟩
 have hb2:Below w1.heap.size w1 (w1.alloc (.cells #[.bool q.neg,.slice A n c,.slice A' n' c'] 91)):=(Below.refl _ _).alloc (Nat.le_refl _) _
 have hiz:=ratIsZero_any q.neg q.top A A' n c n' c' _ (h1.later hb2)
 rw [decide_eq_true hz] at hiz
 have HIZ:=Lib.hid hiz
 clear hiz hr
 go_wp2_with fail
 refine HIZ.out.mono ?_
 rintro e w3 ⟨rfl,hb3⟩
 go_wp2
 go_ret2
 exact ⟨rfl,(hb.trans (hb2.mono hb.size)).trans (hb3.mono (by have:=hb.size;simp;omega))⟩
set_option maxHeartbeats 4000000 in
set_option maxRecDepth 100000 in
theorem Float_walk (s:ByteArray) (w:World) (X r r2 R E:Nat) (g:Bool) (hT:Tabs w) (hs:s.size≤4294967296) (hx:readE s.data.toList=0) (hz:0<(readQ s.data.toList).top)
  (hX:floatOfInt .f64 ((flN (readQ s.data.toList).top (readQ s.data.toList).bot:Nat):Int)=X)
  (hL:∀ W:World,Calls Tryz.prog 98 #[.float .f64 X,.int .i64 (flE (readQ s.data.toList).top (readQ s.data.toList).bot)] W fun e' w'=>e' = .returned (.float .f64 r)∧W=w')
  (hE:∀ W:World,Calls Tryz.prog 98 #[.float .f64 4607182418800017408,.int .i64 128] W fun e' w'=>e' = .returned (.float .f64 E)∧W=w')
  (hG:(FloatKind.f64.format.order r E==some .gt || FloatKind.f64.format.order r E==some .eq)=g)
  (hN:g=false→(readQ s.data.toList).neg=true→floatBits .sub .f64 0 r=some r2)
  (hR:g=false→floatToFloatBits .f64 (if (readQ s.data.toList).neg then r2 else r) .f32=some R) :
  Calls Tryz.prog 39 #[.string s] w fun e w'=>e = .returned (.tuple #[.float .f32 (if g then 0 else R),.int .i64 (if g then 4 else 0)])∧Below w.heap.size w w':=by
 have hr:=read_any s w hT hs
 have hl:=@readQ_len s.data.toList hx
 have hbot:=@readQ_bot s.data.toList hx
 rw [hx] at hr
 generalize readQ s.data.toList=q at hr hz hX hL hN hR hl hbot
 obtain ⟨hrnd,hq⟩:=flN_rnd hz hbot
 have nb:=bexp_bound (nbits_bound hl.1) (nbits_bound hl.2)
 have hE1:flE q.top q.bot≤1073741824:=by unfold flE;omega
 have hE2 : -1073741824≤flE q.top q.bot:=by unfold flE;omega
 have hsp:=scB_pos hbot (flE q.top q.bot)
 have w1:wrap64 (bexp q.top q.bot+1)=bexp q.top q.bot+1:=IntWalk.wrap64_in _ (by omega)
 have w2:wrap64 (bexp q.top q.bot+1 - 24)=bexp q.top q.bot+1 - 24:=IntWalk.wrap64_in _ (by omega)
 have hmx:max (bexp q.top q.bot+1 - 24) (-149)=flE q.top q.bot:=rfl
 obtain ⟨l1,l2⟩:=hl
 have HZ:=Lib.hid hz
 have HL:=Lib.hid hL
 have HE:=Lib.hid hE
 have HN:=Lib.hid hN
 have HR:=Lib.hid hR
 have HG:=Lib.hid hG
 clear hz hL hE hN hR hG
 go_enter Tryz.func39,Tryz.ntmps39
 go_wp2_with fail
 refine hr.mono ?_
 rintro e w1 ⟨v,rfl,⟨A,n,c,A',n',c',rfl,h1,h2⟩,hb⟩
 rw [h1.len] at l1
 rw [h2.len] at l2
 have hb2:Below w1.heap.size w1 (w1.alloc (.cells #[.bool q.neg,.slice A n c,.slice A' n' c'] 91)):=(Below.refl _ _).alloc (Nat.le_refl _) _
 have hiz:=ratIsZero_any q.neg q.top A A' n c n' c' _ (h1.later hb2)
 rw [decide_eq_false (show ¬ q.top=0 by have:=HZ.out;omega)] at hiz
 have HIZ:=Lib.hid hiz
 clear hiz hr
 go_wp2_with fail
 refine HIZ.out.mono ?_
 rintro e w3 ⟨rfl,hb3⟩
 clear HIZ
 have hx3:ResBlk w3 w1.heap.size q.neg (.slice A n c) (.slice A' n' c'):=(ResBlk.new w1 _ _ _).below hb3 (by simp)
 have hB3:Below w.heap.size w w3:=(hb.trans (hb2.mono hb.size)).trans (hb3.mono (by have:=hb.size;simp;omega))
 have hs3:w1.heap.size<w3.heap.size:=by have:=hb3.size;simp at this;omega
 have g1:=(h1.later hb2).later hb3
 have g2:=(h2.later hb2).later hb3
 have hbe:=binaryExponent_any q.neg q.top q.bot A A' n c n' c' w3 g1 g2 (by omega) (by omega)
 obtain ⟨x0,x1,x2,_,_,_,xl⟩:=hx3.cells
 have HBE:=Lib.hid hbe
 clear hbe
 go_wp2_with fail
 refine HBE.out.mono ?_
 rintro e w4 ⟨rfl,hb4⟩
 clear HBE x0 x1 x2 xl
 have hx4:=hx3.below hb4 hs3
 have hs4:w1.heap.size<w4.heap.size:=by have:=hb4.size;omega
 have hro:=rounded_any q.neg q.top q.bot (flE q.top q.bot) A A' n c n' c' w4 (g1.later hb4) (g2.later hb4) (by omega) (by omega) ⟨hE2,hE1⟩ hsp (by omega)
 have hfn:near (scT q.top (flE q.top q.bot)) (scB q.bot (flE q.top q.bot))=flN q.top q.bot:=rfl
 rw [hfn] at hro
 obtain ⟨x0,x1,x2,_,_,_,xl⟩:=hx4.cells
 have HRO:=Lib.hid hro
 clear hro
 go_wp2_with fail
 refine HRO.out.mono ?_
 rintro e w5 ⟨rfl,hb5⟩
 clear HRO x0 x1 x2 xl
 have hx5:=hx4.below hb5 hs4
 obtain ⟨x0,x1,x2,_,_,_,xl⟩:=hx5.cells
 have hB5:Below w.heap.size w w5:=(hB3.trans (hb4.mono hB3.size)).trans (hb5.mono (by have:=hB3.size;have:=hb4.size;omega))
 generalize flN q.top q.bot=N at *
 generalize flE q.top q.bot=e at *
 go_wp2_with fail
 refine (HL.out _).mono ?_
 rintro e6 w6 ⟨rfl,rfl⟩
 go_wp2_with fail
 refine (HE.out _).mono ?_
 rintro e7 w7 ⟨rfl,rfl⟩
 have hG:=HG.out
 cases hg:g
 ·subst hg
  have hR:=HR.out rfl
  cases hn:q.neg
  ·rw [hn,if_neg (by decide)] at hR
   rw [hn] at x0
   have hcv:=fun W:World=>run_convert_float_float (P:=Tryz.prog) W 118 55 .f64 .f32 r R (by kernel_rfl) (by kernel_rfl) hR
   go_wp2
   go_ret2
   exact ⟨rfl,hB5⟩
  ·have hN:=HN.out rfl hn
   rw [hn,if_pos rfl] at hR
   rw [hn] at x0
   have hsb:=fun W:World=>run_float_arith (P:=Tryz.prog) W .sub 118 .f64 0 r r2 hN
   have hcv:=fun W:World=>run_convert_float_float (P:=Tryz.prog) W 118 55 .f64 .f32 r2 R (by kernel_rfl) (by kernel_rfl) hR
   go_wp2
   go_ret2
   exact ⟨rfl,hB5⟩
 ·subst hg
  go_wp2
  go_ret2
  exact ⟨rfl,hB5⟩
theorem ofInt_zero:floatOfInt .f64 ((0:Nat):Int)=0:=by decide +kernel
theorem zero_lt_end:(FloatKind.f64.format.order 0 (dn 1 128)==some .gt || FloatKind.f64.format.order 0 (dn 1 128)==some .eq)=false:=by
 have b1:(1:Nat).log2=0:=by decide
 have f2:=fin_one (e:=128) (by omega) (by omega)
 have k2:=key_one (e:=128) (u:=1178) (by omega) (by omega) (by omega)
 have f4:=fin_of_read zero_read
 have k4:=key_of_read zero_read
 rw [Nat.zero_mul] at k4
 show (Ieee.double.order _ _==some .gt || Ieee.double.order _ _==some .eq)=false
 rw [order_fin f4 f2,k4,k2]
 have:=Nat.two_pow_pos (24+1178)
 generalize 2 ^ (24+1178)=A at this
 rw [cmp_lt (by omega)];rfl
theorem cast_zero:floatToFloatBits .f64 0 .f32=some 0:=by decide +kernel
theorem Float_any (s:ByteArray) (w:World) (hT:Tabs w) (hs:s.size≤4294967296) :
  Calls Tryz.prog 39 #[.string s] w fun e w'=>
   e = .returned (.tuple #[.float .f32 (if readE s.data.toList≠0 then 0 else flW (readQ s.data.toList)),.int .i64 (if readE s.data.toList≠0 then readE s.data.toList else flX (readQ s.data.toList))])∧Below w.heap.size w w':=by
 by_cases hx:readE s.data.toList=0
 ·rw [if_neg (by simpa using hx),if_neg (by simpa using hx)]
  by_cases hz:(readQ s.data.toList).top=0
  ·have:=Float_zero s w hT hs hx hz
   unfold flW flX
   rw [if_pos hz,if_pos hz]
   exact this
  ·have hz':0<(readQ s.data.toList).top:=by omega
   obtain ⟨hrnd,hq⟩:=flN_rnd hz' (readQ_bot hx)
   have hl:=readQ_len hx
   have nb:=bexp_bound (nbits_bound hl.1) (nbits_bound hl.2)
   have hE1:flE (readQ s.data.toList).top (readQ s.data.toList).bot≤1073741824:=by unfold flE;omega
   unfold flW flX
   rw [if_neg hz,if_neg hz]
   by_cases hN:flN (readQ s.data.toList).top (readQ s.data.toList).bot=0
   ·rw [if_pos hN,if_pos hN]
    exact Float_walk s w 0 0 0 0 (dn 1 128) false hT hs hx hz' (by rw [hN];exact ofInt_zero) (fun W=>Ldexp_any W (ldexp_zero W)) end_call zero_lt_end (fun _ _=>zero_sub_zero) (fun _=>by rw [ite_self];exact cast_zero)
   ·rw [if_neg hN,if_neg hN]
    have h0:0<flN (readQ s.data.toList).top (readQ s.data.toList).bot:=by omega
    obtain ⟨r,hL,hG,hD⟩:=fl_ways hrnd h0 (by omega)
    have hX:=ofInt_dn (n:=flN (readQ s.data.toList).top (readQ s.data.toList).bot) h0 (by have:=hrnd.hi;omega)
    by_cases hR:2139095040≤rung (flN (readQ s.data.toList).top (readQ s.data.toList).bot) (flE (readQ s.data.toList).top (readQ s.data.toList).bot)
    ·rw [if_pos hR,if_pos hR]
     rw [decide_eq_true hR] at hG
     exact Float_walk s w _ r 0 0 (dn 1 128) true hT hs hx hz' hX hL end_call hG (fun h=>by cases h) (fun h=>by cases h)
    ·rw [if_neg hR,if_neg hR]
     rw [decide_eq_false hR] at hG
     obtain ⟨hr,hn⟩:=hD (by omega)
     refine Float_walk s w _ r (dw true (sg (flN (readQ s.data.toList).top (readQ s.data.toList).bot)) (flE (readQ s.data.toList).top (readQ s.data.toList).bot+(flN (readQ s.data.toList).top (readQ s.data.toList).bot).log2 - 52)) _ (dn 1 128) false hT hs hx hz' hX hL end_call hG (fun _ _ => ?_) (fun _ => ?_)
     ·rw [hr];exact zero_sub hn
     ·rw [hr]
      have hc:=fun b=>cast_dw b hrnd h0 (by omega)
      cases (readQ s.data.toList).neg
      ·exact hc false
      ·exact hc true
 ·rw [if_pos (by simpa using hx),if_pos (by simpa using hx)]
  exact Float_bad s w hT hs hx
end Go.Proofs.YteajibbphcfmeaaGreatDoor
namespace Go.Proofs.YteajibbphcfmeaaGreatDoor
open Go.RowKit
end Go.Proofs.YteajibbphcfmeaaGreatDoor
namespace Go.Proofs.YteajibbphcfmeaaGreatDoor
open Go.RowKit Bn
open Flt
def BlkAt (w:World) (g:Nat) (c:Array Value) (t:TypeId):Prop:=w.heap[g]? = some (.cells c t (0,0))
theorem BlkAt.new (w:World) (c:Array Value) (t:TypeId) (g:Nat) (hg:g=w.heap.size):BlkAt (w.alloc (.cells c t)) g c t:=by subst hg;exact heap_alloc_new w _
theorem BlkAt.below {w w':World} {g B:Nat} {c:Array Value} {t:TypeId} (h:BlkAt w g c t) (hb:Below B w w') (hg:g<B):BlkAt w' g c t:=(hb.block g hg).trans h
theorem BlkAt.cell {w:World} {g:Nat} {c:Array Value} {t:TypeId} (h:BlkAt w g c t) (i:Nat):w.cell? ⟨g,i,none⟩=c[i]? := cell_of_row w g i _ _ _ h
theorem BlkAt.lt {w:World} {g:Nat} {c:Array Value} {t:TypeId} (h:BlkAt w g c t):g<w.heap.size:=by
 unfold BlkAt at h
 rcases Nat.lt_or_ge g w.heap.size with hlt | hge
 ·exact hlt
 ·rw [Array.getElem?_eq_none hge] at h;cases h
theorem two_set {a w:World} {B g:Nat} (h:Below B a w) (hg:B≤g) (u v:Value):Below B a ((w.setCell ⟨g,0,none⟩ u).setCell ⟨g,1,none⟩ v):=
 (h.setCell (p:=⟨g,0,none⟩) hg _).setCell (p:=⟨g,1,none⟩) hg _
theorem CBlk.far2 {w:World} {g g':Nat} {c:Array Value} {t:TypeId} (h:CBlk w g c t) (hne:g'≠g) (u v:Value):CBlk ((w.setCell ⟨g',0,none⟩ u).setCell ⟨g',1,none⟩ v) g c t:=
 (Below.heap_setCell _ ⟨g',1,none⟩ v g (fun e=>hne e.symm)).trans ((Below.heap_setCell w ⟨g',0,none⟩ u g (fun e=>hne e.symm)).trans h)
end Go.Proofs.YteajibbphcfmeaaGreatDoor
namespace Go.Proofs.YteajibbphcfmeaaGreatDoor
open Go.RowKit Dn
def sgn (b:Bool) (x:Nat):Int:=if b then -(x:Int) else (x:Int)
theorem sgn_abs (b:Bool) (x:Nat):(sgn b x).natAbs=x:=by unfold sgn;cases b<;>simp
theorem sgn_neg (b:Bool) (x:Nat):decide (sgn b x<0)=(b && decide (0<x)):=by
 unfold sgn
 cases b
 ·simp
 ·simp
theorem sgn_of (z:Int):sgn (decide (z<0)) z.natAbs=z:=by
 unfold sgn
 by_cases h:z<0
 ·rw [decide_eq_true h,if_pos rfl];omega
 ·rw [decide_eq_false h,if_neg (by decide)];omega
def RetZ (w:World) (z:Int) (e:Ending) (w':World):Prop:=∃ A n c,e = .returned (.agg #[.bool (decide (z<0)),.slice A n c])∧DigI w' A n c (digs z.natAbs)∧Below w.heap.size w w'
theorem DigI.box {w:World} {A A1:Option Addr} {n c n1 c1 g:Nat} {b:Bool} {l:List Nat} {t:TypeId} (h:DigI w A n c l) (hk:CBlk w g #[.bool b,.slice A1 n1 c1] t) (u v:Value) :
  DigI ((w.setCell ⟨g,0,none⟩ u).setCell ⟨g,1,none⟩ v) A n c l:=by
 have k0:w.cell? ⟨g,0,none⟩=some (.bool b):=hk.cell 0
 have k1:w.cell? ⟨g,1,none⟩=some (.slice A1 n1 c1):=hk.cell 1
 refine ⟨⟨h.rd.1,fun hn => ?_⟩,h.nc,h.cm,h.wf⟩
 obtain ⟨ad,e,hb,hc⟩:=h.rd.2 hn
 refine ⟨ad,e,by simpa [World.setCell] using hb,fun j z hz => ?_⟩
 have hcell:=hc j z hz
 have hint:∃ d:Nat,z = .int .i64 (d:Int):=by
  rw [List.getElem?_map] at hz
  cases hd:l[j]? with
  | none=>rw [hd] at hz;cases hz
  | some d=>rw [hd] at hz;injection hz with hz;exact ⟨d,hz.symm⟩
 obtain ⟨d,rfl⟩:=hint
 have n0:ad.add j≠⟨g,0,none⟩:=fun e0=>by rw [e0,k0] at hcell;injection hcell with hcell;cases hcell
 have n1':ad.add j≠⟨g,1,none⟩:=fun e0=>by rw [e0,k1] at hcell;injection hcell with hcell;cases hcell
 rw [World.cell?_setCell_other _ _ _ _ n1'.symm,World.cell?_setCell_other _ _ _ _ n0.symm]
 exact hcell
theorem digs_len_pos {w:World} {A:Option Addr} {n c x:Nat} (h:DigI w A n c (digs x)):decide (0<(n:Int))=decide (0<x):=by
 rw [←h.len]
 rcases Nat.eq_zero_or_pos x with rfl | hx
 ·simp [digs_zero]
 ·have:=digs_length_pos hx
  simp [hx]
  omega
set_option maxHeartbeats 1000000 in
theorem rsigned_any (b:Bool) (A:Option Addr) (n c:Nat) (l:List Nat) (w:World) (h:DigI w A n c l) (hn:n≤1099511627776) :
  Calls Tryz.prog 137 #[.bool b,.slice A n c] w (RetZ w (sgn b (val l))):=by
 have hb0:Below w.heap.size w (w.alloc (.cells #[.bool false,.slice none 0 0] 84)):=(Below.refl _ _).alloc (Nat.le_refl _) _
 have hk:=CBlk.new w #[.bool false,.slice none 0 0] 84 _ rfl
 have K1:=Lib.hid (rtrim_any A n c l _ (h.later hb0) hn)
 have HA:=Lib.hid (sgn_abs b (val l))
 have HN:=Lib.hid (sgn_neg b (val l))
 generalize val l=x at *
 generalize sgn b x=z at *
 clear h
 go_enter Tryz.func137,Tryz.ntmps137
 go_wp2_with fail
 refine K1.out.mono ?_
 rintro e w1 ⟨m,rfl,hd,hb1⟩
 have hk1:=hk.below hb1 (by simp)
 have hB:=hb0.trans (hb1.mono hb0.size)
 have k0:w1.cell? ⟨w.heap.size,0,none⟩=some (.bool false):=hk1.cell 0
 have k1:w1.cell? ⟨w.heap.size,1,none⟩=some (.slice none 0 0):=hk1.cell 1
 have f0:w1.frozen? ⟨w.heap.size,0,none⟩=false:=hk1.frozen 0
 have f1:w1.frozen? ⟨w.heap.size,1,none⟩=false:=hk1.frozen 1
 have hp:=digs_len_pos hd
 have hset:=two_set hB (g:=w.heap.size) (Nat.le_refl _) (.bool (b && decide (0<x))) (.slice A m c)
 have hbox:=hd.box hk1 (.bool (b && decide (0<x))) (.slice A m c)
 have HS:=Lib.hid hset
 have HX:=Lib.hid hbox
 clear hset hbox hb0 hb1 hB K1
 have hret:∀ bb:Bool,bb=(b && decide (0<x))→RetZ w z (.returned (.agg #[.bool bb,.slice A m c])) ((w1.setCell ⟨w.heap.size,0,none⟩ (.bool bb)).setCell ⟨w.heap.size,1,none⟩ (.slice A m c)):=fun bb hbb=>by
  subst hbb
  exact ⟨A,m,c,by rw [HN.out],by rw [HA.out];exact HX.out,HS.out⟩
 have hcase:b=false∨(b=true∧0<x)∨(b=true∧x=0):=by
  cases b
  ·exact .inl rfl
  ·rcases Nat.eq_zero_or_pos x with h0 | h0
   ·exact .inr (.inr ⟨rfl,h0⟩)
   ·exact .inr (.inl ⟨rfl,h0⟩)
 rcases hcase with rfl | ⟨rfl,hx⟩ | ⟨rfl,hx⟩
 ·have HR:=Lib.hid (hret false (by simp))
  clear hp hret HS HX
  go_wp2
  refine bodyPost_ret (v := .agg #[.bool false,.slice A m c]) (by simp [results,Tryz.results137,go_sem,k0,k1]) rfl ?_
  exact HR.out
 ·have HR:=Lib.hid (hret true (by simp [hx]))
  have dx:decide (0<(m:Int))=true:=by rw [hp];simpa using hx
  have dy:decide (0<m)=true:=by simpa using dx
  clear hp hret HS HX dx
  go_wp2
  refine bodyPost_ret (v := .agg #[.bool true,.slice A m c]) (by simp [results,Tryz.results137,go_sem,k0,k1]) rfl ?_
  exact HR.out
 ·have HR:=Lib.hid (hret false (by simp [hx]))
  have dx:decide (0<(m:Int))=false:=by rw [hp];simpa using hx
  obtain rfl:m=0:=by simp at dx;omega
  clear hp hret HS HX dx
  go_wp2
  refine bodyPost_ret (v := .agg #[.bool false,.slice A 0 c]) (by simp [results,Tryz.results137,go_sem,k0,k1]) rfl ?_
  exact HR.out
set_option maxHeartbeats 1000000 in
theorem rvalue_any (s:ByteArray) (w:World) (hd:digits s.data.toList=true) (hs:s.size≤18) :
  Calls Tryz.prog 135 #[.string s] w fun e w'=>e = .returned (.int .i64 ((decVal s.data.toList:Nat):Int))∧w=w':=by
 have hsz:s.data.toList.length=s.size:=by simp
 have HSZ:=Lib.hid hsz
 have HD:=Lib.hid hd
 clear hsz hd
 go_enter Tryz.func135,Tryz.ntmps135
 go_wp2
 go_loop [3,4] (fun n i=>∃ k v:Nat,k≤s.size∧i = .int .i64 k∧n = .int .i64 (v:Int)∧Hid (v=decVal (s.data.toList.take k))) (fun _ i=>s.size - (intOf i).toNat)
 case atStart=>exact ⟨0,0,Nat.zero_le _,rfl,rfl,rfl⟩
 case round=>
  obtain ⟨k,v,hk,rfl,rfl,hv⟩:=hrel
  by_cases hlt:k<s.size
  ·have htk:=digits_sub s.data.toList HD.out 0 k
   rw [List.drop_zero] at htk
   have hvb:=decVal_lt _ htk
   rw [←hv.out] at hvb
   have hp:10 ^ (s.data.toList.take k).length≤10 ^ 17:=Nat.pow_le_pow_right (by omega) (by rw [List.length_take];omega)
   have e17:(10:Nat) ^ 17=100000000000000000:=by decide
   have hv17:v<100000000000000000:=by omega
   have hcm:(s[k]'hlt) ∈ s.data.toList:=by
    have:(s[k]'hlt)=s.data.toList[k]'(by rw [HSZ.out];exact hlt):=rfl
    rw [this]
    exact List.getElem_mem _
   have hc:=digit_mem HD.out hcm
   have hts:s.data.toList.take (k+1)=s.data.toList.take k++[s[k]'hlt]:=by
    rw [List.take_succ_eq_append_getElem (by rw [HSZ.out];exact hlt)]
    rfl
   have hv':v*10+((s[k]'hlt).toNat - 48)=decVal (s.data.toList.take (k+1)):=by rw [hts,decVal_snoc,hv.out]
   obtain ⟨c,hcd⟩:∃ c:Nat,(s[k]'hlt).toNat=c:=⟨_,rfl⟩
   rw [hcd] at hc hv'
   obtain ⟨v',hvd⟩:∃ v',v'=v*10+(c - 48):=⟨_,rfl⟩
   rw [←hvd] at hv'
   have ev:10*(v:Int)+(c:Int) - 48=(v':Int):=by omega
   have HV:=Lib.hid hv'
   clear htk hvb hp e17 hcm hts hv' hvd hv
   go_wp2
   go_round
   case rel=>exact ⟨k+1,v',by omega,by go_num,rfl,HV.out⟩
   case measure=>simp [intOf];omega
  ·obtain rfl:k=s.size:=by omega
   have hfin:v=decVal s.data.toList:=by rw [hv.out,List.take_of_length_le (by rw [HSZ.out];exact Nat.le_refl _)]
   have HF:=Lib.hid hfin
   clear hfin hv
   go_wp2
   go_ret
   exact ⟨by rw [HF.out];rfl,rfl⟩
set_option maxHeartbeats 1000000 in
theorem rslash_any (s:ByteArray) (w:World) (hs:s.size≤9223372036854775807) :
  Calls Tryz.prog 59 #[.string s] w fun e w'=>e = .returned (.int .i64 ((slashL s.data.toList:Nat):Int))∧w=w':=by
 have hsz:s.data.toList.length=s.size:=by simp
 have HSZ:=Lib.hid hsz
 clear hsz
 go_enter Tryz.func59,Tryz.ntmps59
 go_wp2
 go_loop [3] (fun i=>∃ k:Nat,k≤s.size∧i = .int .i64 k∧Hid (∀ c ∈ s.data.toList.take k,c≠47)) (fun i=>s.size - (intOf i).toNat)
 case atStart=>exact ⟨0,Nat.zero_le _,rfl,by intro c hc;simp at hc⟩
 case round=>
  obtain ⟨k,hk,rfl,hv⟩:=hrel
  by_cases hlt:k<s.size
  ·have hgl:k<s.data.toList.length:=by rw [HSZ.out];exact hlt
   have hge:s.data.toList[k]=s[k]'hlt:=rfl
   by_cases h47:(s[k]'hlt).toNat=47
   ·have hb:s[k]'hlt=47:=UInt8.toNat_inj.1 h47
    have hsl:slashL s.data.toList=k:=by
     have e:s.data.toList=s.data.toList.take k++47 :: s.data.toList.drop (k+1):=by
      conv=>lhs;rw [←List.take_append_drop k s.data.toList,List.drop_eq_getElem_cons hgl,hge,hb]
     rw [e,slashL_some hv.out,List.length_take]
     omega
    have HS:=Lib.hid hsl
    clear hsl hb hge
    go_wp2
    go_ret
    exact ⟨by rw [HS.out];rfl,rfl⟩
   ·have hb:s[k]'hlt≠47:=fun h=>h47 (by rw [h];decide)
    have HV:Hid (∀ c ∈ s.data.toList.take (k+1),c≠47):=by
     show ∀ c ∈ s.data.toList.take (k+1),c≠47
     rw [List.take_succ_eq_append_getElem hgl,hge]
     intro c hc
     rcases List.mem_append.1 hc with hc | hc
     ·exact hv.out c hc
     ·rw [List.mem_singleton.1 hc];exact hb
    clear hge hb
    obtain ⟨c,hcd⟩:∃ c:Nat,(s[k]'hlt).toNat=c:=⟨_,rfl⟩
    rw [hcd] at h47
    have d1:((c:Int)==47)=false:=by rw [beq_eq_false_iff_ne];omega
    clear h47
    go_wp2
    go_round
    case rel=>exact ⟨k+1,by omega,by go_num,HV.out⟩
    case measure=>simp [intOf];omega
  ·obtain rfl:k=s.size:=by omega
   have hfin:slashL s.data.toList=s.size:=by
    have h1:=hv.out
    rw [List.take_of_length_le (by rw [HSZ.out];exact Nat.le_refl _)] at h1
    rw [slashL_none h1,HSZ.out]
   have HF:=Lib.hid hfin
   clear hfin hv
   go_wp2
   go_ret
   exact ⟨by rw [HF.out];rfl,rfl⟩
theorem digit_text:∀ d:Nat,d<10→((⟨#[48,49,50,51,52,53,54,55,56,57]⟩:ByteArray).extract d (d+1))=⟨#[Dec.dgt d]⟩:=by
 intro d hd
 have:d=0∨d=1∨d=2∨d=3∨d=4∨d=5∨d=6∨d=7∨d=8∨d=9:=by omega
 rcases this with rfl | rfl | rfl | rfl | rfl | rfl | rfl | rfl | rfl | rfl<;>decide
set_option maxHeartbeats 1000000 in
theorem rdecimal_any (n least:Nat) (w:World) (hn:n≤9223372036854775807) (hl:least≤19) :
  Calls Tryz.prog 84 #[.int .i64 (n:Int),.int .i64 (least:Int)] w fun e w'=>(∃ s:ByteArray,e = .returned (.string s)∧s.data.toList=Dec.pad (decK n least) n)∧w=w':=by
 have hK:=decK_le (n:=n) (least:=least) (by omega) hl
 obtain ⟨K,hKd⟩:∃ K,decK n least=K:=⟨_,rfl⟩
 rw [hKd] at hK ⊢
 have HK:=Lib.hid hKd
 clear hKd
 go_enter Tryz.func84,Tryz.ntmps84
 go_wp2
 go_loop [0,5] (fun v0 v5=>∃ (k q:Nat) (s:ByteArray),k≤K∧v0 = .int .i64 (q:Int)∧v5 = .string s∧q≤9223372036854775807∧s.size=k∧Hid (q=n / 10 ^ k∧s.data.toList=Dec.pad k n)) (fun _ v5=>K - strSz v5)
 case atStart=>exact ⟨0,n,⟨#[]⟩,Nat.zero_le _,rfl,rfl,hn,rfl,by simp,rfl⟩
 case round=>
  obtain ⟨k,q,s,hk,rfl,rfl,hq,hsz,hv⟩:=hrel
  have HSZ:=Lib.hid hsz
  have hss:s.size≤19:=by omega
  by_cases hgo:0<q∨s.size<least
  ·have hk1:k+1≤K:=by
    rw [←HK.out]
    refine decK_more ?_
    rw [←hv.out.1,←hsz]
    exact hgo
   obtain ⟨d,hd⟩:∃ d,d=q % 10:=⟨_,rfl⟩
   obtain ⟨q',hq'⟩:∃ q',q'=q / 10:=⟨_,rfl⟩
   have hd10:d<10:=by omega
   have ed:(q:Int) % 10=(d:Int):=by omega
   have eq:(q:Int) / 10=(q':Int):=by omega
   have hx:=digit_text d hd10
   have HI:Hid (q'=n / 10 ^ (k+1)∧((⟨#[Dec.dgt d]⟩:ByteArray)++s).data.toList=Dec.pad (k+1) n):=by
    refine ⟨by rw [hq',hv.out.1,Nat.div_div_eq_div_mul,Nat.pow_succ],?_⟩
    rw [pad_cons,ByteArray.data_append,Array.toList_append,hv.out.2,hd,hv.out.1]
    rfl
   have HS1:Hid (((⟨#[Dec.dgt d]⟩:ByteArray)++s).size=k+1):=by
    show ((⟨#[Dec.dgt d]⟩:ByteArray)++s).size=k+1
    rw [ByteArray.size_append,HSZ.out]
    show 1+k=k+1
    omega
   have hcase:(decide (0<q)=true)∨(decide (0<q)=false∧decide (s.size<least)=true):=by
    simp only [decide_eq_true_eq,decide_eq_false_iff_not]
    omega
   have HX:=Lib.hid hx
   clear hd hq' hgo hv hsz hx
   rcases hcase with d1 | ⟨d1,d2⟩
   all_goals
    have hx:=HX.out
    go_wp2
    go_round
    case rel=>exact ⟨k+1,q',_,hk1,rfl,rfl,by omega,HS1.out,HI.out⟩
    case measure=>have:=HS1.out;have:=HSZ.out;simp [strSz] at *; omega
  ·have hkK:k=K:=by
    rw [←HK.out]
    exact decK_end (by rw [←hv.out.1];omega) (by omega) (by rw [HK.out];exact hk)
   have d1:decide (0<q)=false:=by simp;omega
   have d2:decide (s.size<least)=false:=by simp;omega
   have HF:Hid (s.data.toList=Dec.pad K n):=by
    show s.data.toList=Dec.pad K n
    rw [←hkK];exact hv.out.2
   clear hv hkK hgo hsz
   go_wp2
   go_ret
   exact ⟨⟨s,rfl,HF.out⟩,rfl⟩
end Go.Proofs.YteajibbphcfmeaaGreatDoor
namespace Go.Proofs.YteajibbphcfmeaaGreatDoor.Dn
theorem kd_gt {t r top v1 v2 u2 P rest vr:Nat} (h:t*v1+r=top) (hc:r*B+u2<t*v2) (hr:rest<P):(top*B+u2)*P+rest<t*((v1*B+v2)*P+vr):=by
 have e:t*(v1*B+v2)=t*v1*B+t*v2:=by rw [Nat.mul_add,Nat.mul_assoc]
 have h1:top*B+u2+1≤t*(v1*B+v2):=by
  rw [e,←h,Nat.add_mul]
  omega
 have h2:=Nat.mul_le_mul_right P h1
 have h3:t*((v1*B+v2)*P+vr)=t*(v1*B+v2)*P+t*vr:=by rw [Nat.mul_add,Nat.mul_assoc]
 rw [h3]
 rw [Nat.add_mul,Nat.one_mul] at h2
 omega
theorem kd_le {t r top v1 v2 u2 P rest vr:Nat} (h:t*v1+r=top) (ht:t<B) (hv2:v2<B) (hv1:1≤v1) (hvr:vr<P) (hc:B≤r∨t*v2≤r*B+u2) :
  t*((v1*B+v2)*P+vr)<(top*B+u2)*P+rest+((v1*B+v2)*P+vr):=by
 have hc2:t*v2≤r*B+u2:=by
  rcases hc with hc | hc
  ·have h1:t*v2≤B*B:=Nat.mul_le_mul (Nat.le_of_lt ht) (Nat.le_of_lt hv2)
   have h2:B*B≤r*B:=Nat.mul_le_mul_right _ hc
   omega
  ·exact hc
 have e:t*(v1*B+v2)=t*v1*B+t*v2:=by rw [Nat.mul_add,Nat.mul_assoc]
 have h1:t*(v1*B+v2)≤top*B+u2:=by
  rw [e,←h,Nat.add_mul]
  omega
 have h2:=Nat.mul_le_mul_right P h1
 have h3:t*((v1*B+v2)*P+vr)=t*(v1*B+v2)*P+t*vr:=by rw [Nat.mul_add,Nat.mul_assoc]
 have h4:t*vr≤t*P:=Nat.mul_le_mul_left _ (Nat.le_of_lt hvr)
 have hP:0<P:=Nat.lt_of_le_of_lt (Nat.zero_le _) hvr
 have h5:t*P<B*P:=Nat.mul_lt_mul_of_pos_right ht hP
 have h6:B*P≤v1*B*P:=by
  rw [Nat.mul_assoc]
  exact Nat.le_mul_of_pos_left _ hv1
 have h7:(v1*B+v2)*P=v1*B*P+v2*P:=Nat.add_mul _ _ _
 rw [h3]
 omega
theorem kd_digit {t U V:Nat} (hV:0<V) (h1:U / V≤t) (h2:t*V<U+V):t=U / V∨t=U / V+1:=by
 have h3:t≤U / V+1:=by
  rcases Nat.lt_or_ge t (U / V+2) with h | h
  ·omega
  ·exfalso
   have h4:(U / V+2)*V≤t*V:=Nat.mul_le_mul_right _ h
   have h5:=Nat.div_add_mod U V
   have h6:=Nat.mod_lt U hV
   rw [Nat.mul_comm V] at h5
   rw [Nat.add_mul] at h4
   omega
 omega
theorem kd_pred {t U V:Nat} (hV:0<V) (h:U<t*V):U / V≤t - 1:=by
 have:=(Nat.div_lt_iff_lt_mul hV).2 h
 omega
theorem ms_digit {u p:Nat} (hu:u<B):(p % B≤u→u - p % B<B∧u - p % B+p=u+B*(p / B))∧(u<p % B→u+B - p % B<B∧u+B - p % B+p=u+B*(p / B+1)):=by
 have h1:=Nat.mod_add_div p B
 have h2:=Nat.mod_lt p B_pos
 refine ⟨fun h=>⟨by omega,by omega⟩,fun h=>⟨by omega,?_⟩⟩
 rw [Nat.mul_add,Nat.mul_one]
 omega
theorem ms_done {W W' V P t ut b:Nat} (h:W'+t*V=W+P*b) (hW':W'<P) (hVP:V<P) (hV:0<V) (ht:t=(W+P*ut) / V∨t=(W+P*ut) / V+1) :
  (b≤ut→ut=b∧t=(W+P*ut) / V∧W'=(W+P*ut) % V)∧(ut<b→b=ut+1∧t=(W+P*ut) / V+1∧W'+V=P+(W+P*ut) % V):=by
 generalize hU:W+P*ut=U at *
 have hdm:=Nat.div_add_mod U V
 have hml:=Nat.mod_lt U hV
 rw [Nat.mul_comm V] at hdm
 generalize hq:U / V=q at *
 generalize hr:U % V=r at *
 constructor
 ·intro hb
  obtain ⟨k,rfl⟩:∃ k,ut=b+k:=⟨ut - b,by omega⟩
  rw [Nat.mul_add] at hU
  rcases ht with rfl | rfl
  ·have h1:W'+P*k=r:=by omega
   rcases Nat.eq_zero_or_pos k with rfl | hk
   ·exact ⟨by omega,rfl,by simpa using h1⟩
   ·exfalso
    have:=Nat.le_mul_of_pos_right P hk
    omega
  ·exfalso
   rw [Nat.add_mul,Nat.one_mul] at h
   omega
 ·intro hb
  obtain ⟨k,rfl⟩:∃ k,b=ut+1+k:=⟨b - ut - 1,by omega⟩
  rw [Nat.mul_add,Nat.mul_add,Nat.mul_one] at h
  rcases ht with rfl | rfl
  ·exfalso
   omega
  ·rw [Nat.add_mul,Nat.one_mul] at h
   rcases Nat.eq_zero_or_pos k with rfl | hk
   ·exact ⟨by omega,rfl,by simp at h;omega⟩
   ·exfalso
    have:=Nat.le_mul_of_pos_right P hk
    omega
end Go.Proofs.YteajibbphcfmeaaGreatDoor.Dn
