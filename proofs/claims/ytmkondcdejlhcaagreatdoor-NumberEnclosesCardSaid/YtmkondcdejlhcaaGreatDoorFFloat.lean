/- The contract of Float. -/
import Derived.Test.YtmkondcdejlhcaaGreatDoorFRb3
import Derived.Shelf.SlSorted.Search
set_option maxRecDepth 100000
set_option maxHeartbeats 4000000
namespace Go.Proofs.YtmkondcdejlhcaaGreatDoor
section
open Go.RowKit Bn
open Flt
theorem zpV:dn 1 0=4607182418800017408:=by decide +kernel
theorem zgW(W:World):Calls Tryz.prog 106 #[.float .f64 4607182418800017408,.int .i64 128] W fun e' w'=>e' = .returned (.float .f64 (dn 1 128))∧W=w':=by
 rw[←zpV];have b1:(1:Nat).log2=0:=by decide
 exact zer W (zjP W (by omega) (by omega) (by rw[b1];omega) (by rw[b1];omega))
theorem zm0:Ieee.double.read 9218868437227405312 = .infinity false:=by decide +kernel
theorem zp9{x m:Nat}{p:Int}(h:Ieee.double.read x = .number false m p):(FloatKind.f64.format.order 9218868437227405312 x==some .gt || FloatKind.f64.format.order 9218868437227405312 x==some .eq)=true:=by
 have:FloatKind.f64.format.order 9218868437227405312 x=some .gt:=by
  show(Ieee.double.read 9218868437227405312).order (Ieee.double.read x)=_
  rw[zm0,h];rfl
 rw[this];rfl
theorem zoD{n:Nat}{e:Int}(h:Rnd n e)(h0:0<n)(he:e≤1099511627776) :
  ∃ r:Nat,(∀ W:World,Calls Tryz.prog 106 #[.float .f64 (dn n 0),.int .i64 e] W fun e' w'=>e' = .returned (.float .f64 r)∧W=w') ∧
   (FloatKind.f64.format.order r (dn 1 128)==some .gt || FloatKind.f64.format.order r (dn 1 128)==some .eq)=decide (2139095040≤rung n e) ∧
   (rung n e<2139095040→r=dn n e∧Nrm (sg n) (e+n.log2-52)):=by
 have hp:=h.place;have hh:=h.hi;have hl:=h.log2 h0
 by_cases hc:e+n.log2≤1023
 ·exact⟨dn n e,fun W=>zer W (zjP W h0 (by omega) (by omega) hc),zpC h h0 hc rfl,fun _=>⟨rfl,zeB h0 (by omega) (by omega) hc⟩⟩
 ·have hr:2139095040≤rung n e:=by unfold rung;omega
  refine⟨9218868437227405312,fun W=>zer W (zmo W h0 (by omega) (by omega) (by omega)),?_,fun hx=>absurd hr (by omega)⟩;have b1:(1:Nat).log2=0:=by decide
  rw[zp9 (zi7 (n:=1) (e:=128) (by omega) (by omega) (by rw[b1];omega) (by rw[b1];omega)),decide_eq_true hr]
theorem zlb(s:ByteArray)(w:World)(hT:Tabs w)(hs:s.size≤4294967296)(hx:zap s.data.toList≠0) :
  Calls Tryz.prog 55 #[.string s] w fun e w'=>e = .returned (.tuple #[.float .f32 0,.int .i64 (zap s.data.toList)])∧Below w.heap.size w w':=by
 have hr:=zcf s w hT hs;generalize zap s.data.toList=x at hr hx ⊢;generalize zaf s.data.toList=q at hr;have aA:(x != 0)=true:=by simpa using hx
 go_enter Tryz.func55,Tryz.ntmps55
 go_wp2_with fail
 refine hr.mono ?_;rintro e w1 ⟨v,rfl,⟨A,n,c,A',n',c',rfl,h1,h2⟩,hb⟩;go_wp2
 go_ret2
 exact⟨rfl,hb.alloc hb.size _⟩
theorem zkl(s:ByteArray)(w:World)(hT:Tabs w)(hs:s.size≤4294967296)(hx:zap s.data.toList=0)(hz:(zaf s.data.toList).top=0) :
  Calls Tryz.prog 55 #[.string s] w fun e w'=>e = .returned (.tuple #[.float .f32 0,.int .i64 0])∧Below w.heap.size w w':=by
 have hr:=zcf s w hT hs;rw[hx] at hr;generalize zaf s.data.toList=q at hr hz;go_enter Tryz.func55,Tryz.ntmps55
 go_wp2_with fail
 refine hr.mono ?_;rintro e w1 ⟨v,rfl,⟨A,n,c,A',n',c',rfl,h1,h2⟩,hb⟩;have aC:Below w1.heap.size w1 (w1.alloc (.cells #[.bool q.neg,.slice A n c,.slice A' n' c'] 91)):=Ac;have aA:=zcp q.neg q.top A A' n c n' c' _ (h1.later aC);rw[decide_eq_true hz] at aA;have aD:=Aa aA;clear aA hr
 go_wp2_with fail
 refine aD.out.mono ?_;rintro e w3 ⟨rfl,aE⟩;go_wp2
 go_ret2
 exact⟨rfl,(hb.trans (aC.mono hb.size)).trans (aE.mono (by have:=hb.size;simp;omega))⟩
theorem zeT(s:ByteArray)(w:World)(X r r2 R E:Nat)(g:Bool)(hT:Tabs w)(hs:s.size≤4294967296)(hx:zap s.data.toList=0)(hz:0<(zaf s.data.toList).top)
 (hX:floatOfInt .f64 ((flN (zaf s.data.toList).top (zaf s.data.toList).bot:Nat):Int)=X)
 (hL:∀ W:World,Calls Tryz.prog 106 #[.float .f64 X,.int .i64 (flE (zaf s.data.toList).top (zaf s.data.toList).bot)] W fun e' w'=>e' = .returned (.float .f64 r)∧W=w')
 (hE:∀ W:World,Calls Tryz.prog 106 #[.float .f64 4607182418800017408,.int .i64 128] W fun e' w'=>e' = .returned (.float .f64 E)∧W=w')
 (hG:(FloatKind.f64.format.order r E==some .gt || FloatKind.f64.format.order r E==some .eq)=g)
 (hN:g=false→(zaf s.data.toList).neg=true→floatBits .sub .f64 0 r=some r2)
 (hR:g=false→floatToFloatBits .f64 (if (zaf s.data.toList).neg then r2 else r) .f32=some R) :
  Calls Tryz.prog 55 #[.string s] w fun e w'=>e = .returned (.tuple #[.float .f32 (if g then 0 else R),.int .i64 (if g then 4 else 0)])∧Below w.heap.size w w':=by
 have hr:=zcf s w hT hs;have hl:=@zaD s.data.toList hx;have aA:=@zeG s.data.toList hx;rw[hx] at hr;generalize zaf s.data.toList=q at hr hz hX hL hN hR hl aA;obtain⟨aV,hq⟩:=zk6 hz aA;have nb:=zgT (zb8 hl.1) (zb8 hl.2);have aS:flE q.top q.bot≤1073741824:=by unfold flE;omega
 have aR : -1073741824≤flE q.top q.bot:=by unfold flE;omega
 have aU:=zmA aA (flE q.top q.bot);have w1:wrap64 (bexp q.top q.bot+1)=bexp q.top q.bot+1:=IntWalk.wrap64_in _ (by omega);have w2:wrap64 (bexp q.top q.bot+1-24)=bexp q.top q.bot+1-24:=IntWalk.wrap64_in _ (by omega);have aZ:max (bexp q.top q.bot+1-24) (-149)=flE q.top q.bot:=rfl;obtain⟨l1,l2⟩:=hl;have HZ:=Aa hz;have HL:=Aa hL;have HE:=Aa hE;have HN:=Aa hN;have HR:=Aa hR;have HG:=Aa hG;clear hz hL hE hN hR hG;go_enter Tryz.func55,Tryz.ntmps55
 go_wp2_with fail
 refine hr.mono ?_;rintro e w1 ⟨v,rfl,⟨A,n,c,A',n',c',rfl,h1,h2⟩,hb⟩;rw[h1.len] at l1;rw[h2.len] at l2;have aE:Below w1.heap.size w1 (w1.alloc (.cells #[.bool q.neg,.slice A n c,.slice A' n' c'] 91)):=Ac;have aF:=zcp q.neg q.top A A' n c n' c' _ (h1.later aE);rw[decide_eq_false (show ¬ q.top=0 by have:=HZ.out;omega)] at aF;have aO:=Aa aF;clear aF hr
 go_wp2_with fail
 refine aO.out.mono ?_;rintro e w3 ⟨rfl,aD⟩;clear aO;have aM:zae w3 w1.heap.size q.neg (.slice A n c) (.slice A' n' c'):=(zae.new w1 _ _ _).below aD (by simp);have aH:Below w.heap.size w w3:=(hb.trans (aE.mono hb.size)).trans (aD.mono (by have:=hb.size;simp;omega));have aT:w1.heap.size<w3.heap.size:=by have:=aD.size;simp at this;omega
 have g1:=(h1.later aE).later aD;have g2:=(h2.later aE).later aD;have aN:=zex q.neg q.top q.bot A A' n c n' c' w3 g1 g2 (by omega) (by omega);obtain⟨x0,x1,x2,_,_,_,xl⟩:=aM.cells;have aJ:=Aa aN;clear aN
 go_wp2_with fail
 refine aJ.out.mono ?_;rintro e w4 ⟨rfl,aC⟩;clear aJ x0 x1 x2 xl;have aL:=aM.below aC aT;have aQ:w1.heap.size<w4.heap.size:=by have:=aC.size;omega
 have aI:=ziM q.neg q.top q.bot (flE q.top q.bot) A A' n c n' c' w4 (g1.later aC) (g2.later aC) (by omega) (by omega) ⟨aR,aS⟩ aU (by omega);have aX:near (scT q.top (flE q.top q.bot)) (scB q.bot (flE q.top q.bot))=flN q.top q.bot:=rfl;rw[aX] at aI;obtain⟨x0,x1,x2,_,_,_,xl⟩:=aL.cells;have aP:=Aa aI;clear aI
 go_wp2_with fail
 refine aP.out.mono ?_;rintro e w5 ⟨rfl,aK⟩;clear aP x0 x1 x2 xl;have aY:=aL.below aK aQ;obtain⟨x0,x1,x2,_,_,_,xl⟩:=aY.cells;have aG:Below w.heap.size w w5:=(aH.trans (aC.mono aH.size)).trans (aK.mono (by have:=aH.size;have:=aC.size;omega));generalize flN q.top q.bot=N at *;generalize flE q.top q.bot=e at *
 go_wp2_with fail
 refine(HL.out _).mono ?_;rintro e6 w6 ⟨rfl,rfl⟩
 go_wp2_with fail
 refine(HE.out _).mono ?_;rintro e7 w7 ⟨rfl,rfl⟩;have hG:=HG.out
 cases hg:g
 ·subst hg
  have hR:=HR.out rfl
  cases hn:q.neg
  ·rw[hn,if_neg (by decide)] at hR
   rw[hn] at x0;have aW:=fun W:World=>run_convert_float_float (P:=Tryz.prog) W 138 76 .f64 .f32 r R (by kernel_rfl) (by kernel_rfl) hR
   go_wp2
   go_ret2
   exact⟨rfl,aG⟩
  ·have hN:=HN.out rfl hn
   rw[hn,if_pos rfl] at hR;rw[hn] at x0;have bA:=fun W:World=>run_float_arith (P:=Tryz.prog) W .sub 138 .f64 0 r r2 hN
   have aW:=fun W:World=>run_convert_float_float (P:=Tryz.prog) W 138 76 .f64 .f32 r2 R (by kernel_rfl) (by kernel_rfl) hR
   go_wp2
   go_ret2
   exact⟨rfl,aG⟩
 ·subst hg
  go_wp2
  go_ret2
  exact⟨rfl,aG⟩
theorem zko:floatOfInt .f64 ((0:Nat):Int)=0:=by decide +kernel
theorem ziX:(FloatKind.f64.format.order 0 (dn 1 128)==some .gt || FloatKind.f64.format.order 0 (dn 1 128)==some .eq)=false:=by
 have b1:(1:Nat).log2=0:=by decide
 have f2:=zlf (e:=128) (by omega) (by omega);have k2:=zk7 (e:=128) (u:=1178) (by omega) (by omega) (by omega);have f4:=za5 zcg;have k4:=zbk zcg;rw[Nat.zero_mul] at k4;show(Ieee.double.order _ _==some .gt || Ieee.double.order _ _==some .eq)=false
 rw[zdb f4 f2,k4,k2];have:=Nat.two_pow_pos (24+1178);generalize 2^(24+1178)=A at this;rw[zgH (by omega)];rfl
theorem zmO:floatToFloatBits .f64 0 .f32=some 0:=by decide +kernel
theorem zf5(s:ByteArray)(w:World)(hT:Tabs w)(hs:s.size≤4294967296) :
  Calls Tryz.prog 55 #[.string s] w fun e w'=>
   e = .returned (.tuple #[.float .f32 (if zap s.data.toList≠0 then 0 else flW (zaf s.data.toList)),.int .i64 (if zap s.data.toList≠0 then zap s.data.toList else flX (zaf s.data.toList))])∧Below w.heap.size w w':=by
 by_cases hx:zap s.data.toList=0
 ·rw[if_neg (by simpa using hx),if_neg (by simpa using hx)]
  by_cases hz:(zaf s.data.toList).top=0
  ·have:=zkl s w hT hs hx hz
   unfold flW flX;rw[if_pos hz,if_pos hz];exact this
  ·have aC:0<(zaf s.data.toList).top:=by omega
   obtain⟨aA,hq⟩:=zk6 aC (zeG hx);have hl:=zaD hx;have nb:=zgT (zb8 hl.1) (zb8 hl.2);have aD:flE (zaf s.data.toList).top (zaf s.data.toList).bot≤1073741824:=by unfold flE;omega
   unfold flW flX;rw[if_neg hz,if_neg hz]
   by_cases hN:flN (zaf s.data.toList).top (zaf s.data.toList).bot=0
   ·rw[if_pos hN,if_pos hN]
    exact zeT s w 0 0 0 0 (dn 1 128) false hT hs hx aC (by rw[hN];exact zko) (fun W=>zer W (zjT W)) zgW ziX (fun _ _=>zhz) (fun _=>by rw[ite_self];exact zmO)
   ·rw[if_neg hN,if_neg hN]
    have h0:0<flN (zaf s.data.toList).top (zaf s.data.toList).bot:=by omega
    obtain⟨r,hL,hG,hD⟩:=zoD aA h0 (by omega);have hX:=znB (n:=flN (zaf s.data.toList).top (zaf s.data.toList).bot) h0 (by have:=aA.hi;omega)
    by_cases hR:2139095040≤rung (flN (zaf s.data.toList).top (zaf s.data.toList).bot) (flE (zaf s.data.toList).top (zaf s.data.toList).bot)
    ·rw[if_pos hR,if_pos hR]
     rw[decide_eq_true hR] at hG;exact zeT s w _ r 0 0 (dn 1 128) true hT hs hx aC hX hL zgW hG (fun h=>by cases h) (fun h=>by cases h)
    ·rw[if_neg hR,if_neg hR]
     rw[decide_eq_false hR] at hG;obtain⟨hr,hn⟩:=hD (by omega);refine zeT s w _ r (dw true (sg (flN (zaf s.data.toList).top (zaf s.data.toList).bot)) (flE (zaf s.data.toList).top (zaf s.data.toList).bot+(flN (zaf s.data.toList).top (zaf s.data.toList).bot).log2-52)) _ (dn 1 128) false hT hs hx aC hX hL zgW hG (fun _ _ => ?_) (fun _ => ?_)
     ·rw[hr];exact znh hn
     ·rw[hr]
      have hc:=fun b=>zpq b aA h0 (by omega)
      cases (zaf s.data.toList).neg
      ·exact hc false
      ·exact hc true
 ·rw[if_pos (by simpa using hx),if_pos (by simpa using hx)]
  exact zlb s w hT hs hx
theorem zbZ{a w:World}{B g:Nat}(h:Below B a w)(hg:B≤g)(u v:Value):Below B a ((w.setCell ⟨g,0,none⟩ u).setCell ⟨g,1,none⟩ v):=
 (h.setCell (p:=⟨g,0,none⟩) hg _).setCell (p:=⟨g,1,none⟩) hg _
theorem CBlk.far2 {w:World} {g g':Nat} {c:Array Value} {t:TypeId} (h:CBlk w g c t) (hne:g'≠g) (u v:Value):CBlk ((w.setCell ⟨g',0,none⟩ u).setCell ⟨g',1,none⟩ v) g c t:=
 (Below.heap_setCell _ ⟨g',1,none⟩ v g (fun e=>hne e.symm)).trans ((Below.heap_setCell w ⟨g',0,none⟩ u g (fun e=>hne e.symm)).trans h)
end
section
open Go.RowKit Dn
def sgn (b:Bool) (x:Nat):Int:=if b then -(x:Int) else(x:Int)
theorem zbR (b:Bool) (x:Nat):(sgn b x).natAbs=x:=by unfold sgn;cases b<;>simp
theorem zcU(b:Bool)(x:Nat):decide (sgn b x<0)=(b && decide (0<x)):=by
 unfold sgn
 cases b
 ·simp
 ·simp
theorem zfc(z:Int):sgn (decide (z<0)) z.natAbs=z:=by
 unfold sgn
 by_cases h:z<0
 ·rw[decide_eq_true h,if_pos rfl];omega
 ·rw[decide_eq_false h,if_neg (by decide)];omega
def RetZ (w:World) (z:Int) (e:Ending) (w':World):Prop:=∃ A n c,e = .returned (.agg #[.bool (decide (z<0)),.slice A n c])∧DigI w' A n c (digs z.natAbs)∧Below w.heap.size w w'
theorem DigI.box{w:World}{A A1:Option Addr}{n c n1 c1 g:Nat}{b:Bool}{l:List Nat}{t:TypeId}(h:DigI w A n c l)(hk:CBlk w g #[.bool b,.slice A1 n1 c1] t)(u v:Value) :
  DigI ((w.setCell ⟨g,0,none⟩ u).setCell ⟨g,1,none⟩ v) A n c l:=by
 have k0:w.cell? ⟨g,0,none⟩=some (.bool b):=hk.cell 0;have k1:w.cell? ⟨g,1,none⟩=some (.slice A1 n1 c1):=hk.cell 1;refine⟨⟨h.rd.1,fun hn => ?_⟩,h.nc,h.cm,h.wf⟩;obtain⟨ad,e,hb,hc⟩:=h.rd.2 hn;refine⟨ad,e,by simpa[World.setCell] using hb,fun j z hz => ?_⟩;have aA:=hc j z hz;have aC:∃ d:Nat,z = .int .i64 (d:Int):=by
  rw[List.getElem?_map] at hz
  cases hd:l[j]? with
  | none=>rw[hd] at hz;cases hz
  | some d=>rw[hd] at hz;injection hz with hz;exact⟨d,hz.symm⟩
 obtain⟨d,rfl⟩:=aC;have n0:ad.add j≠⟨g,0,none⟩:=fun e0=>by rw[e0,k0] at aA;injection aA with aA;cases aA
 have aD:ad.add j≠⟨g,1,none⟩:=fun e0=>by rw[e0,k1] at aA;injection aA with aA;cases aA
 rw[World.cell?_setCell_other _ _ _ _ aD.symm,World.cell?_setCell_other _ _ _ _ n0.symm];exact aA
theorem zih{w:World}{A:Option Addr}{n c x:Nat}(h:DigI w A n c (digs x)):decide (0<(n:Int))=decide (0<x):=by
 rw[←h.len]
 rcases Nat.eq_zero_or_pos x with rfl | hx
 ·simp[zam]
 ·have:=zas hx
  simp[hx]
  omega
theorem za6(b:Bool)(A:Option Addr)(n c:Nat)(l:List Nat)(w:World)(h:DigI w A n c l)(hn:n≤1099511627776) :
  Calls Tryz.prog 133 #[.bool b,.slice A n c] w (RetZ w (sgn b (val l))):=by
 have aG:Below w.heap.size w (w.alloc (.cells #[.bool false,.slice none 0 0] 84)):=Ac;have hk:=CBlk.new w #[.bool false,.slice none 0 0] 84 _ rfl;have K1:=Aa (zcz A n c l _ (h.later aG) hn);have HA:=Aa (zbR b (val l));have HN:=Aa (zcU b (val l));generalize val l=x at *;generalize sgn b x=z at *;clear h;go_enter Tryz.func133,Tryz.ntmps133
 go_wp2_with fail
 refine K1.out.mono ?_;rintro e w1 ⟨m,rfl,hd,aH⟩;have aF:=hk.below aH (by simp);have hB:=Ad aG aH;have k0:w1.cell? ⟨w.heap.size,0,none⟩=some (.bool false):=aF.cell 0;have k1:w1.cell? ⟨w.heap.size,1,none⟩=some (.slice none 0 0):=aF.cell 1;have f0:w1.frozen? ⟨w.heap.size,0,none⟩=false:=aF.frozen 0;have f1:w1.frozen? ⟨w.heap.size,1,none⟩=false:=aF.frozen 1;have hp:=zih hd;have aE:=zbZ hB (g:=w.heap.size) (Nat.le_refl _) (.bool (b && decide (0<x))) (.slice A m c);have aD:=hd.box aF (.bool (b && decide (0<x))) (.slice A m c);have HS:=Aa aE;have HX:=Aa aD;clear aE aD aG aH hB K1;have aA:∀ bb:Bool,bb=(b && decide (0<x))→RetZ w z (.returned (.agg #[.bool bb,.slice A m c])) ((w1.setCell ⟨w.heap.size,0,none⟩ (.bool bb)).setCell ⟨w.heap.size,1,none⟩ (.slice A m c)):=fun bb aI=>by
  subst aI;exact⟨A,m,c,by rw[HN.out],by rw[HA.out];exact HX.out,HS.out⟩
 have aC:b=false∨(b=true∧0<x)∨(b=true∧x=0):=by
  cases b
  ·exact .inl rfl
  ·rcases Nat.eq_zero_or_pos x with h0 | h0
   ·exact .inr (.inr ⟨rfl,h0⟩)
   ·exact .inr (.inl ⟨rfl,h0⟩)
 rcases aC with rfl | ⟨rfl,hx⟩ | ⟨rfl,hx⟩
 ·have HR:=Aa (aA false (by simp))
  clear hp aA HS HX;go_wp2
  refine bodyPost_ret (v := .agg #[.bool false,.slice A m c]) (by simp[results,Tryz.results133,go_sem,k0,k1]) rfl ?_;exact HR.out
 ·have HR:=Aa (aA true (by simp[hx]))
  have dx:decide (0<(m:Int))=true:=by rw[hp];simpa using hx
  have dy:decide (0<m)=true:=by simpa using dx
  clear hp aA HS HX dx;go_wp2
  refine bodyPost_ret (v := .agg #[.bool true,.slice A m c]) (by simp[results,Tryz.results133,go_sem,k0,k1]) rfl ?_;exact HR.out
 ·have HR:=Aa (aA false (by simp[hx]))
  have dx:decide (0<(m:Int))=false:=by rw[hp];simpa using hx
  obtain rfl:m=0:=by simp at dx;omega
  clear hp aA HS HX dx;go_wp2
  refine bodyPost_ret (v := .agg #[.bool false,.slice A 0 c]) (by simp[results,Tryz.results133,go_sem,k0,k1]) rfl ?_;exact HR.out
theorem zdU(s:ByteArray)(w:World)(hd:zar s.data.toList=true)(hs:s.size≤18) :
  Calls Tryz.prog 130 #[.string s] w fun e w'=>e = .returned (.int .i64 ((zaj s.data.toList:Nat):Int))∧w=w':=by
 have aJ:s.data.toList.length=s.size:=by simp
 have aE:=Aa aJ;have HD:=Aa hd;clear aJ hd;go_enter Tryz.func130,Tryz.ntmps130
 go_wp2
 go_loop [3,4] (fun n i=>∃ k v:Nat,k≤s.size∧i = .int .i64 k∧n = .int .i64 (v:Int)∧Hid (v=zaj (s.data.toList.take k))) (fun _ i=>s.size-(intOf i).toNat)
 case atStart=>exact⟨0,0,Nat.zero_le _,rfl,rfl,rfl⟩
 case round=>
  obtain⟨k,v,hk,rfl,rfl,hv⟩:=hrel
  by_cases hlt:k<s.size
  ·have aD:=zdW s.data.toList HD.out 0 k
   rw[List.drop_zero] at aD;have aF:=zbB _ aD;rw[←hv.out] at aF;have hp:10^(s.data.toList.take k).length≤10^17:=Nat.pow_le_pow_right (by omega) (by rw[List.length_take];omega);have aL:(10:Nat)^17=100000000000000000:=by decide
   have aM:v<100000000000000000:=by omega
   have aI:(s[k]'hlt) ∈ s.data.toList:=by
    have:(s[k]'hlt)=s.data.toList[k]'(by rw[aE.out];exact hlt):=rfl;rw[this];exact List.getElem_mem _
   have hc:=zdC HD.out aI;have aG:s.data.toList.take (k+1)=s.data.toList.take k++[s[k]'hlt]:=by
    rw[List.take_succ_eq_append_getElem (by rw[aE.out];exact hlt)];rfl
   have aC:v*10+((s[k]'hlt).toNat-48)=zaj (s.data.toList.take (k+1)):=by rw[aG,zdn,hv.out]
   obtain⟨c,aK⟩:∃ c:Nat,(s[k]'hlt).toNat=c:=⟨_,rfl⟩;rw[aK] at hc aC;obtain⟨v',aH⟩:∃ v',v'=v*10+(c-48):=⟨_,rfl⟩;rw[←aH] at aC;have ev:10*(v:Int)+(c:Int)-48=(v':Int):=by omega
   have HV:=Aa aC;clear aD aF hp aL aI aG aC aH hv;go_wp2
   go_round
   case rel=>exact⟨k+1,v',by omega,by go_num,rfl,HV.out⟩
   case measure=>simp[intOf];omega
  ·obtain rfl:k=s.size:=by omega
   have aA:v=zaj s.data.toList:=by rw[hv.out,List.take_of_length_le (by rw[aE.out];exact Nat.le_refl _)]
   have HF:=Aa aA;clear aA hv;go_wp2
   go_ret;exact⟨by rw[HF.out];rfl,rfl⟩
theorem zb9(s:ByteArray)(w:World)(hs:s.size≤9223372036854775807) :
  Calls Tryz.prog 58 #[.string s] w fun e w'=>e = .returned (.int .i64 ((zbE s.data.toList:Nat):Int))∧w=w':=by
 have aG:s.data.toList.length=s.size:=by simp
 have aD:=Aa aG;clear aG;go_enter Tryz.func58,Tryz.ntmps58
 go_wp2
 go_loop [3] (fun i=>∃ k:Nat,k≤s.size∧i = .int .i64 k∧Hid (∀ c ∈ s.data.toList.take k,c≠47)) (fun i=>s.size-(intOf i).toNat)
 case atStart=>exact⟨0,Nat.zero_le _,rfl,by intro c hc;simp at hc⟩
 case round=>
  obtain⟨k,hk,rfl,hv⟩:=hrel
  by_cases hlt:k<s.size
  ·have aE:k<s.data.toList.length:=by rw[aD.out];exact hlt
   have aC:s.data.toList[k]=s[k]'hlt:=rfl
   by_cases h47:(s[k]'hlt).toNat=47
   ·have hb:s[k]'hlt=47:=UInt8.toNat_inj.1 h47
    have aF:zbE s.data.toList=k:=by
     have e:s.data.toList=s.data.toList.take k++47 :: s.data.toList.drop (k+1):=by
      conv=>lhs;rw[←List.take_append_drop k s.data.toList,List.drop_eq_getElem_cons aE,aC,hb]
     rw[e,zcE hv.out,List.length_take];omega
    have HS:=Aa aF;clear aF hb aC;go_wp2
    go_ret;exact⟨by rw[HS.out];rfl,rfl⟩
   ·have hb:s[k]'hlt≠47:=fun h=>h47 (by rw[h];decide)
    have HV:Hid (∀ c ∈ s.data.toList.take (k+1),c≠47):=by
     show ∀ c ∈ s.data.toList.take (k+1),c≠47
     rw[List.take_succ_eq_append_getElem aE,aC];intro c hc
     rcases List.mem_append.1 hc with hc | hc
     ·exact hv.out c hc
     ·rw[List.mem_singleton.1 hc];exact hb
    clear aC hb;obtain⟨c,aH⟩:∃ c:Nat,(s[k]'hlt).toNat=c:=⟨_,rfl⟩;rw[aH] at h47;have d1:((c:Int)==47)=false:=by rw[beq_eq_false_iff_ne];omega
    clear h47;go_wp2
    go_round
    case rel=>exact⟨k+1,by omega,by go_num,HV.out⟩
    case measure=>simp[intOf];omega
  ·obtain rfl:k=s.size:=by omega
   have aA:zbE s.data.toList=s.size:=by
    have h1:=hv.out;rw[List.take_of_length_le (by rw[aD.out];exact Nat.le_refl _)] at h1;rw[zb7 h1,aD.out]
   have HF:=Aa aA;clear aA hv;go_wp2
   go_ret;exact⟨by rw[HF.out];rfl,rfl⟩
theorem zkA:∀ d:Nat,d<10→((⟨#[48,49,50,51,52,53,54,55,56,57]⟩:ByteArray).extract d (d+1))=⟨#[Dec.dgt d]⟩:=by
 intro d hd;have:d=0∨d=1∨d=2∨d=3∨d=4∨d=5∨d=6∨d=7∨d=8∨d=9:=by omega
 rcases this with rfl | rfl | rfl | rfl | rfl | rfl | rfl | rfl | rfl | rfl<;>decide
theorem zbX(n least:Nat)(w:World)(hn:n≤9223372036854775807)(hl:least≤19) :
  Calls Tryz.prog 98 #[.int .i64 (n:Int),.int .i64 (least:Int)] w fun e w'=>(∃ s:ByteArray,e = .returned (.string s)∧s.data.toList=Dec.pad (decK n least) n)∧w=w':=by
 have hK:=zoz (n:=n) (least:=least) (by omega) hl;obtain⟨K,aE⟩:∃ K,decK n least=K:=⟨_,rfl⟩;rw[aE] at hK ⊢;have HK:=Aa aE;clear aE;go_enter Tryz.func98,Tryz.ntmps98
 go_wp2
 go_loop [0,5] (fun v0 v5=>∃ (k q:Nat) (s:ByteArray),k≤K∧v0 = .int .i64 (q:Int)∧v5 = .string s∧q≤9223372036854775807∧s.size=k∧Hid (q=n/10^k∧s.data.toList=Dec.pad k n)) (fun _ v5=>K-znU v5)
 case atStart=>exact⟨0,n,⟨#[]⟩,Nat.zero_le _,rfl,rfl,hn,rfl,by simp,rfl⟩
 case round=>
  obtain⟨k,q,s,hk,rfl,rfl,hq,aC,hv⟩:=hrel;have aH:=Aa aC;have aK:s.size≤19:=by omega
  by_cases hgo:0<q∨s.size<least
  ·have aJ:k+1≤K:=by
    rw[←HK.out];refine zmH ?_;rw[←hv.out.1,←aC];exact hgo
   obtain⟨d,hd⟩:∃ d,d=q%10:=⟨_,rfl⟩;obtain⟨q',aF⟩:∃ q',q'=q/10:=⟨_,rfl⟩;have aD:d<10:=by omega
   have ed:(q:Int)%10=(d:Int):=by omega
   have eq:(q:Int)/10=(q':Int):=by omega
   have hx:=zkA d aD;have HI:Hid (q'=n/10^(k+1)∧((⟨#[Dec.dgt d]⟩:ByteArray)++s).data.toList=Dec.pad (k+1) n):=by
    refine⟨by rw[aF,hv.out.1,Nat.div_div_eq_div_mul,Nat.pow_succ],?_⟩;rw[zof,ByteArray.data_append,Array.toList_append,hv.out.2,hd,hv.out.1];rfl
   have aI:Hid (((⟨#[Dec.dgt d]⟩:ByteArray)++s).size=k+1):=by
    show((⟨#[Dec.dgt d]⟩:ByteArray)++s).size=k+1
    rw[ByteArray.size_append,aH.out];show 1+k=k+1
    omega
   have aA:(decide (0<q)=true)∨(decide (0<q)=false∧decide (s.size<least)=true):=by
    simp only[decide_eq_true_eq,decide_eq_false_iff_not]
    omega
   have HX:=Aa hx;clear hd aF hgo hv aC hx
   rcases aA with d1 | ⟨d1,d2⟩
   all_goals
    have hx:=HX.out;go_wp2
    go_round
    case rel=>exact⟨k+1,q',_,aJ,rfl,rfl,by omega,aI.out,HI.out⟩
    case measure=>have:=aI.out;have:=aH.out;simp[znU] at *; omega
  ·have aG:k=K:=by
    rw[←HK.out];exact znK (by rw[←hv.out.1];omega) (by omega) (by rw[HK.out];exact hk)
   have d1:decide (0<q)=false:=by simp;omega
   have d2:decide (s.size<least)=false:=by simp;omega
   have HF:Hid (s.data.toList=Dec.pad K n):=by
    show s.data.toList=Dec.pad K n
    rw[←aG];exact hv.out.2
   clear hv aG hgo aC;go_wp2
   go_ret;exact⟨⟨s,rfl,HF.out⟩,rfl⟩
end
end Go.Proofs.YtmkondcdejlhcaaGreatDoor
namespace Go.Proofs.YtmkondcdejlhcaaGreatDoor.Dn
theorem zqh{t r top v1 v2 u2 P rest vr:Nat}(h:t*v1+r=top)(hc:r*B+u2<t*v2)(hr:rest<P):(top*B+u2)*P+rest<t*((v1*B+v2)*P+vr):=by
 have e:t*(v1*B+v2)=t*v1*B+t*v2:=by rw[Nat.mul_add,Nat.mul_assoc]
 have h1:top*B+u2+1≤t*(v1*B+v2):=by
  rw[e,←h,Nat.add_mul];omega
 have h2:=Nat.mul_le_mul_right P h1;have h3:t*((v1*B+v2)*P+vr)=t*(v1*B+v2)*P+t*vr:=by rw[Nat.mul_add,Nat.mul_assoc]
 rw[h3];rw[Nat.add_mul,Nat.one_mul] at h2;omega
theorem zqj{t r top v1 v2 u2 P rest vr:Nat}(h:t*v1+r=top)(ht:t<B)(hv2:v2<B)(hv1:1≤v1)(hvr:vr<P)(hc:B≤r∨t*v2≤r*B+u2) :
  t*((v1*B+v2)*P+vr)<(top*B+u2)*P+rest+((v1*B+v2)*P+vr):=by
 have aA:t*v2≤r*B+u2:=by
  rcases hc with hc | hc
  ·have h1:t*v2≤B*B:=Nat.mul_le_mul (Nat.le_of_lt ht) (Nat.le_of_lt hv2)
   have h2:B*B≤r*B:=Nat.mul_le_mul_right _ hc;omega
  ·exact hc
 have e:t*(v1*B+v2)=t*v1*B+t*v2:=by rw[Nat.mul_add,Nat.mul_assoc]
 have h1:t*(v1*B+v2)≤top*B+u2:=by
  rw[e,←h,Nat.add_mul];omega
 have h2:=Nat.mul_le_mul_right P h1;have h3:t*((v1*B+v2)*P+vr)=t*(v1*B+v2)*P+t*vr:=by rw[Nat.mul_add,Nat.mul_assoc]
 have h4:t*vr≤t*P:=Nat.mul_le_mul_left _ (Nat.le_of_lt hvr);have hP:0<P:=Nat.lt_of_le_of_lt (Nat.zero_le _) hvr;have h5:t*P<B*P:=Nat.mul_lt_mul_of_pos_right ht hP;have h6:B*P≤v1*B*P:=by
  rw[Nat.mul_assoc];exact Nat.le_mul_of_pos_left _ hv1
 have h7:(v1*B+v2)*P=v1*B*P+v2*P:=Nat.add_mul _ _ _;rw[h3];omega
theorem zm9{t U V:Nat}(hV:0<V)(h1:U/V≤t)(h2:t*V<U+V):t=U/V∨t=U/V+1:=by
 have h3:t≤U/V+1:=by
  rcases Nat.lt_or_ge t (U/V+2) with h | h
  ·omega
  ·exfalso
   have h4:(U/V+2)*V≤t*V:=Nat.mul_le_mul_right _ h;have h5:=Nat.div_add_mod U V;have h6:=Nat.mod_lt U hV;rw[Nat.mul_comm V] at h5;rw[Nat.add_mul] at h4;omega
 omega
theorem zoQ{t U V:Nat}(hV:0<V)(h:U<t*V):U/V≤t-1:=by
 have:=(Nat.div_lt_iff_lt_mul hV).2 h;omega
theorem znm{u p:Nat}(hu:u<B):(p%B≤u→u-p%B<B∧u-p%B+p=u+B*(p/B))∧(u<p%B→u+B-p%B<B∧u+B-p%B+p=u+B*(p/B+1)):=by
 have h1:=Nat.mod_add_div p B;have h2:=Nat.mod_lt p zaQ;refine⟨fun h=>⟨by omega,by omega⟩,fun h=>⟨by omega,?_⟩⟩;rw[Nat.mul_add,Nat.mul_one];omega
theorem zpu{W W' V P t ut b:Nat}(h:W'+t*V=W+P*b)(hW':W'<P)(hVP:V<P)(hV:0<V)(ht:t=(W+P*ut)/V∨t=(W+P*ut)/V+1) :
  (b≤ut→ut=b∧t=(W+P*ut)/V∧W'=(W+P*ut)%V)∧(ut<b→b=ut+1∧t=(W+P*ut)/V+1∧W'+V=P+(W+P*ut)%V):=by
 generalize hU:W+P*ut=U at *;have aA:=Nat.div_add_mod U V;have aC:=Nat.mod_lt U hV;rw[Nat.mul_comm V] at aA;generalize hq:U/V=q at *;generalize hr:U%V=r at *
 constructor
 ·intro hb
  obtain⟨k,rfl⟩:∃ k,ut=b+k:=⟨ut-b,by omega⟩;rw[Nat.mul_add] at hU
  rcases ht with rfl | rfl
  ·have h1:W'+P*k=r:=by omega
   rcases Nat.eq_zero_or_pos k with rfl | hk
   ·exact⟨by omega,rfl,by simpa using h1⟩
   ·exfalso
    have:=Nat.le_mul_of_pos_right P hk;omega
  ·exfalso
   rw[Nat.add_mul,Nat.one_mul] at h;omega
 ·intro hb
  obtain⟨k,rfl⟩:∃ k,b=ut+1+k:=⟨b-ut-1,by omega⟩;rw[Nat.mul_add,Nat.mul_add,Nat.mul_one] at h
  rcases ht with rfl | rfl
  ·exfalso
   omega
  ·rw[Nat.add_mul,Nat.one_mul] at h
   rcases Nat.eq_zero_or_pos k with rfl | hk
   ·exact⟨by omega,rfl,by simp at h;omega⟩
   ·exfalso
    have:=Nat.le_mul_of_pos_right P hk;omega
theorem zhy(w:List Nat)(k:Nat)(hl:k+2<w.length)(hz:val (w.drop (k+3))=0):val w=((w[k+2]*B+w[k+1])*B+w[k])*B^k+val (w.take k):=by
 rw[zax w (k+3) (by omega),hz,zat w (k+2) hl,zat w (k+1) (by omega),zat w k (by omega)];rw[Nat.mul_zero,Nat.add_zero];simp only[Nat.add_mul,Nat.pow_succ]
 have e1:w[k+2]*B*B*B^k=B^k*B*B*w[k+2]:=by
  rw[Nat.mul_comm (w[k+2]*B*B),Nat.mul_comm (w[k+2]*B),Nat.mul_comm w[k+2]];simp only[Nat.mul_assoc]
 have e2:w[k+1]*B*B^k=B^k*B*w[k+1]:=by
  rw[Nat.mul_comm (w[k+1]*B),Nat.mul_comm w[k+1]];simp only[Nat.mul_assoc]
 have e3:w[k]*B^k=B^k*w[k]:=Nat.mul_comm _ _;omega
theorem zhp(w:List Nat)(k:Nat)(hl:w.length=k+2):val w=(w[k+1]*B+w[k])*B^k+val (w.take k):=by
 have h1:=zat w (k+1) (by omega);have h2:=zat w k (by omega);rw[List.take_of_length_le (by omega)] at h1;rw[h1,h2,Nat.pow_succ,Nat.add_mul];have e2:w[k+1]*B*B^k=B^k*B*w[k+1]:=by
  rw[Nat.mul_comm (w[k+1]*B),Nat.mul_comm w[k+1]];simp only[Nat.mul_assoc]
 have e3:w[k]*B^k=B^k*w[k]:=Nat.mul_comm _ _;omega
theorem zkk(u:List Nat)(j n V:Nat)(h:val (u.drop (j+1))<V)(hV:V<B^n):val ((u.drop j).drop (n+1))=0:=by
 rw[List.drop_drop]
 rcases Nat.lt_or_ge (u.drop (j+1)).length n with hl | hl
 ·rw[List.drop_eq_nil_of_le (by rw[List.length_drop] at hl;omega)]
  rfl
 ·have hs:=zax (u.drop (j+1)) n hl
  rw[List.drop_drop,show j+1+n=j+(n+1) by omega] at hs;generalize val (u.drop (j+(n+1)))=z at *
  rcases Nat.eq_zero_or_pos z with h0 | h0
  ·exact h0
  ·exfalso
   have:=Nat.le_mul_of_pos_right (B^n) h0;omega
theorem zm7{top v1 v2 u2 P rest vr:Nat}(hv1:1≤v1)(hr:rest<P)(hu2:u2<B):((top*B+u2)*P+rest)/((v1*B+v2)*P+vr)≤top/v1:=by
 have hP:0<P:=Nat.lt_of_le_of_lt (Nat.zero_le _) hr;have aA:0<(v1*B+v2)*P+vr:=by
  have h1:1*1≤v1*B:=Nat.mul_le_mul hv1 (Nat.le_of_lt zd9);have h2:1*1≤(v1*B+v2)*P:=Nat.mul_le_mul (by omega) hP;omega
 refine Nat.le_of_lt_succ ((Nat.div_lt_iff_lt_mul aA).2 ?_);have h1:top+1≤(top/v1+1)*v1:=by
  have:=Nat.div_add_mod top v1;have:=Nat.mod_lt top hv1;rw[Nat.add_mul,Nat.one_mul,Nat.mul_comm];omega
 generalize top/v1=t at *;have h2:(top+1)*(B*P)≤(t+1)*v1*(B*P):=Nat.mul_le_mul_right _ h1;have e1:(t+1)*v1*(B*P)=(t+1)*(v1*B*P):=by simp only[Nat.mul_assoc]
 have e2:(t+1)*(v1*B*P)≤(t+1)*((v1*B+v2)*P+vr):=by
  apply Nat.mul_le_mul_left
  rw[Nat.add_mul];omega
 have e3:(top+1)*(B*P)=top*B*P+B*P:=by rw[Nat.add_mul,Nat.one_mul];simp only[Nat.mul_assoc]
 have e4:(u2+1)*P≤B*P:=Nat.mul_le_mul_right _ hu2;rw[Nat.add_mul,Nat.one_mul] at e4;show(top*B+u2)*P+rest<(t+1)*_
 rw[Nat.add_mul];omega
theorem zoo{top v1 v2 u2 P rest vr:Nat}(hvr:vr<P)(hv2:v2<B)(hU:(top*B+u2)*P+rest<B*((v1*B+v2)*P+vr)):top≤B*v1+(B-1):=by
 rcases Nat.lt_or_ge top (B*v1+B) with h | h
 ·omega
 ·exfalso
  have hP:0<P:=Nat.lt_of_le_of_lt (Nat.zero_le _) hvr;have h1:(B*v1+B)*(B*P)≤top*(B*P):=Nat.mul_le_mul_right _ h;have e0:top*(B*P)=top*B*P:=by simp only[Nat.mul_assoc]
  have h2:(v2+1)*P≤B*P:=Nat.mul_le_mul_right _ hv2;rw[Nat.add_mul,Nat.one_mul] at h2;have h3:(v1*B+v2)*P+vr<v1*B*P+B*P:=by rw[Nat.add_mul];omega
  have h4:B*((v1*B+v2)*P+vr)<B*(v1*B*P+B*P):=Nat.mul_lt_mul_of_pos_left h3 zaQ;have e1:B*(v1*B*P+B*P)=(B*v1+B)*(B*P):=by
   rw[Nat.mul_add,Nat.add_mul];simp only[Nat.mul_assoc]
  have e2:(top*B+u2)*P=top*B*P+u2*P:=Nat.add_mul _ _ _;omega
theorem znp{t r top v1:Nat}(h:t*v1+r=top)(hr:B≤r)(ht:top≤B*v1+(B-1)):t<B:=by
 rcases Nat.lt_or_ge t B with h1 | h1
 ·exact h1
 ·exfalso
  have h2:B*v1≤t*v1:=Nat.mul_le_mul_right _ h1;have:=zaQ;omega
theorem zk8{X V Q P lo U:Nat}(h:X=V*Q*(P*B)+(lo+P*U)):X=V*(U/V+B*Q)*P+(lo+P*(U%V)):=by
 have aA:=Nat.div_add_mod U V;generalize U/V=q at *;generalize U%V=r at *;subst aA;rw[h,Nat.mul_add,Nat.mul_add,Nat.add_mul];have e1:V*Q*(P*B)=V*(B*Q)*P:=by
  rw[Nat.mul_assoc,Nat.mul_assoc V (B*Q)]
  congr 1
  rw[Nat.mul_comm B Q,Nat.mul_assoc,Nat.mul_comm P B]
 have e2:P*(V*q)=V*q*P:=Nat.mul_comm _ _;omega
theorem zoM{a b f Q R:Nat}(hb:0<b)(hf:0<f)(h:a*f=b*f*Q+R)(hR:R<b*f):Q=a/b∧R=a%b*f:=by
 have aA:0<b*f:=Nat.mul_pos hb hf;have h1:a*f/(b*f)=Q:=by
  rw[h,Nat.mul_add_div aA,Nat.div_eq_of_lt hR,Nat.add_zero]
 have h2:a*f%(b*f)=R:=by
  rw[h,Nat.mul_add_mod,Nat.mod_eq_of_lt hR]
 rw[Nat.mul_div_mul_right _ _ hf] at h1;rw[Nat.mul_mod_mul_right] at h2;exact⟨h1.symm,h2.symm⟩
theorem zlO{b n f v1:Nat}(hb:b<B^(n+1))(h1:B^n≤b)(hf:f=B/(b/B^n+1))(hv:v1=b*f/B^n):b*f<B^(n+1)∧B≤2*v1+1:=by
 have hP:0<B^n:=Nat.pow_pos zaQ;have hd:=Nat.div_add_mod b (B^n);have hm:=Nat.mod_lt b hP;have aH:1≤b/B^n:=(Nat.le_div_iff_mul_le hP).2 (by omega);have aG:b/B^n<B:=(Nat.div_lt_iff_lt_mul hP).2 (by rw[Nat.mul_comm,←Nat.pow_succ];exact hb);obtain⟨d,aE⟩:∃ d,d=b/B^n:=⟨_,rfl⟩;rw[←aE] at hd aH aG hf;generalize b%B^n=bm at hd hm;have aA:=Nat.div_add_mod B (d+1);have aI:=Nat.mod_lt B (show 0<d+1 by omega);rw[←hf] at aA;generalize B%(d+1)=Bm at aA aI;have aC:(d+1)*f≤B:=by omega
 constructor
 ·have h2:b<(d+1)*B^n:=by rw[Nat.add_mul,Nat.one_mul,Nat.mul_comm d];omega
  have aD:0<f:=by
   rw[hf];exact Nat.div_pos (by omega) (by omega)
  have h3:b*f<(d+1)*B^n*f:=Nat.mul_lt_mul_of_pos_right h2 aD;have e:(d+1)*B^n*f=(d+1)*f*B^n:=by rw[Nat.mul_right_comm]
  have h4:(d+1)*f*B^n≤B*B^n:=Nat.mul_le_mul_right _ aC;rw[Nat.pow_succ,Nat.mul_comm (B^n)];omega
 ·have h2:d*f≤v1:=by
   rw[hv];refine(Nat.le_div_iff_mul_le hP).2 ?_;have h5:B^n*d*f≤b*f:=Nat.mul_le_mul_right _ (by omega);have e:d*f*B^n=B^n*d*f:=by rw[Nat.mul_comm,Nat.mul_assoc]
   omega
  have aD:0<f:=by
   rw[hf];exact Nat.div_pos (by omega) (by omega)
  obtain⟨d',rfl⟩:∃ d',d=d'+1:=⟨d-1,by omega⟩;obtain⟨f',aF⟩:∃ f',f=f'+1:=⟨f-1,by omega⟩;rw[aF] at aA h2;have h8:(d'+1)*(f'+1)=d'*f'+d'+f'+1:=by
   rw[Nat.add_mul,Nat.mul_add,Nat.mul_one,Nat.one_mul];omega
  rw[Nat.add_mul (d'+1) 1,Nat.one_mul,h8] at aA;rw[h8] at h2;omega
end Go.Proofs.YtmkondcdejlhcaaGreatDoor.Dn
