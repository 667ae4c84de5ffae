/- The contract of Exact. -/
import Derived.Test.YtbkgkoenppkhpaaGreatDoorBLdx2
set_option maxRecDepth 100000
set_option maxHeartbeats 4000000
namespace Go.Proofs.YtbkgkoenppkhpaaGreatDoor
section
open Go.RowKit Bn
open Flt
structure Parts (b x y y2:Nat) (i z:Int):Prop where
 fine:Fine b x
 frx:∀ W:World,Calls Tryz.prog 84 #[.float .f64 x] W fun e w'=>e = .returned (.tuple #[.float .f64 y,.int .i64 i])∧W=w'
 mul:floatBits .mul .f64 y 4715268809856909312=some y2
 int:floatToIntVal .f64 y2 .i64=some z
 z0 : -16777216<z
 z1:z<16777216
 i0 : -1000≤i
 i1:i≤1000
theorem zjJ(g:Bool)(t b:Nat):(lowQ g t b).top≤t:=by
 unfold lowQ;split
 ·exact Nat.zero_le _
 ·split
  ·exact Nat.zero_le _
  ·exact Nat.div_le_self _ _
theorem zjG(g:Bool)(t b:Nat):(lowQ g t b).bot≤b+1:=by
 unfold lowQ;split
 ·exact Nat.zero_le _
 ·split
  ·show 1≤_;omega
  ·exact Nat.le_trans (Nat.div_le_self _ _) (Nat.le_succ _)
theorem zeH{x s k:Nat}(h:x≤2^s)(hk:s<64*k):(digs x).length≤k:=by
 refine zab ?_;have e:B^k=2^(64*k):=by rw[Nat.pow_mul];rfl
 rw[e];exact Nat.lt_of_le_of_lt h (Nat.pow_lt_pow_right (by omega) hk)
theorem zbR{x:Nat}(h:x≤16777216):(digs x).length≤1:=zab (k:=1) (by rw[zdC];omega)
theorem zhl {b x y y2:Nat} {i z:Int} (w:World) (hT:Tabs w) (h:Parts b x y y2 i z) (hi:i<24) :
  Calls Tryz.prog 30 #[.float .f32 b] w (zb7 w (zbr (lowQ (decide (z<0)) z.natAbs (2^(24-i).toNat))) (zau (lowQ (decide (z<0)) z.natAbs (2^(24-i).toNat)))):=by
 have aW:=fun W:World=>run_convert_float_float (P:=Tryz.prog) W 46 111 .f32 .f64 b x (by kernel_rfl) (by kernel_rfl) h.fine.conv
 have aJ:=zds w h.fine;have aU:=fun W:World=>run_float_arith (P:=Tryz.prog) W .mul 111 .f64 y 4715268809856909312 y2 h.mul
 have aS:=fun W:World=>run_convert_float_int (P:=Tryz.prog) W 111 3 .f64 .i64 y2 z (by kernel_rfl) (by kernel_rfl) h.int
 obtain⟨_,aH,_,_,z0,z1,i0,i1⟩:=h;have w1:wrap64 (i-24)=i-24:=IntWalk.wrap64_in _ (by omega);have w2:wrap64 (-(i-24)) = -(i-24):=IntWalk.wrap64_in _ (by omega);obtain⟨s,hs⟩:∃ s:Nat,(24-i).toNat=s∧i=24-(s:Int):=⟨(24-i).toNat,rfl,by omega⟩;have aT:s≤2000:=by omega
 have aV:max (i-24) (-(i-24))=(s:Int):=by omega
 rw[hs.1];have HI:=Aa aJ;have aR:=Aa aH;have HS:=Aa hs;clear aJ aH hs;go_enter Tryz.func30,Tryz.ntmps30
 go_wp2_with fail
 refine HI.out.mono ?_;rintro e w0 ⟨rfl,rfl⟩
 go_wp2_with fail
 refine(aR.out _).mono ?_;rintro e w0 ⟨rfl,rfl⟩
 go_wp2_with fail
 refine(zcG z _ (by omega) (by omega)).mono ?_;rintro e wa ⟨v,rfl,⟨A,n,c,A',n',c',rfl,h1,h2⟩,hb⟩;have aF:Below wa.heap.size wa (wa.alloc (.cells #[.bool (decide (z<0)),.slice A n c,.slice A' n' c'] 87)):=Ac
 go_wp2_with fail
 refine(zai 1 _ (by omega) (by omega)).mono ?_;rintro e wc ⟨A3,n3,c3,rfl,h3,aA⟩
 go_wp2_with fail
 have aL:NatS wc wc.heap.size A3 n3 c3 1:=h3;have l3:n3≤1:=by rw[←aL.len];exact zbR (by omega)
 have lz:z.natAbs≤16777216:=by omega
 have l1:n≤1:=by rw[←h1.len];exact zbR lz
 refine(zaw A3 n3 c3 1 s wc aL (by omega) (by omega)).mono ?_;rintro e wd ⟨A4,n4,c4,rfl,h4,aC⟩;rw[Nat.one_mul] at h4;have l4:n4≤64:=by rw[←h4.len];exact zeH (Nat.le_refl _) (by omega)
 have aQ:wa.heap.size<wc.heap.size:=by have:=aA.size;simp at this;omega
 have aP:zae wd wa.heap.size (decide (z<0)) (.slice A n c) (.slice A' n' c'):=((zae.new wa _ _ _).below aA (by simp)).below aC aQ;have aM:Tabs wd:=(((hT.later hb).later aF).later aA).later aC;have aD:Below w.heap.size w wd:=(((hb.trans (aF.mono hb.size)).trans (aA.mono (by have:=hb.size;simp;omega)))).trans (aC.mono (by have:=hb.size;omega));have aI:=zbH (decide (z<0)) A A4 n c n4 c4 z.natAbs (2^s) wd aM (((h1.later aF).later aA).later aC) h4 (by omega) (by omega);have lt:=zjJ (decide (z<0)) z.natAbs (2^s);have lb:=zjG (decide (z<0)) z.natAbs (2^s);have k1:(digs (lowQ (decide (z<0)) z.natAbs (2^s)).top).length≤1:=zbR (by omega);have k2:(digs (lowQ (decide (z<0)) z.natAbs (2^s)).bot).length≤64:=zeH (s:=s+1) (by have:=Nat.two_pow_pos s;rw[Nat.pow_succ];omega) (by omega);generalize lowQ (decide (z<0)) z.natAbs (2^s)=q at *;obtain⟨x0,x1,x2,_,_,_,xl⟩:=aP.cells;have aG:=Aa aI;clear aI
 go_wp2_with fail
 refine aG.out.mono ?_;rintro e we ⟨v,rfl,⟨A5,n5,c5,A6,n6,c6,rfl,h5,h6⟩,aE⟩;have aK:=zgh q A5 A6 n5 c5 n6 c6 we (aM.later aE) h5 h6 (by rw[←h5.len];omega) (by rw[←h6.len];omega);have aN:=Aa aK;clear aK aG
 go_wp2_with fail
 refine aN.out.mono ?_;rintro e wf ⟨S,rfl,hS,aO⟩
 go_wp2_with fail
 go_ret2
 exact⟨S,rfl,hS,(aD.trans (aE.mono aD.size)).trans (aO.mono (by have:=aD.size;have:=aE.size;omega))⟩
theorem zoI{b x y y2:Nat}{i z:Int}(w:World)(hT:Tabs w)(h:Parts b x y y2 i z)(hi:24≤i) :
  Calls Tryz.prog 30 #[.float .f32 b] w (zb7 w (zbr ⟨decide (z<0),z.natAbs*2^(i-24).toNat,1⟩) (zau ⟨decide (z<0),z.natAbs*2^(i-24).toNat,1⟩)):=by
 have bB:=fun W:World=>run_convert_float_float (P:=Tryz.prog) W 46 111 .f32 .f64 b x (by kernel_rfl) (by kernel_rfl) h.fine.conv
 have aN:=zds w h.fine;have aZ:=fun W:World=>run_float_arith (P:=Tryz.prog) W .mul 111 .f64 y 4715268809856909312 y2 h.mul
 have aX:=fun W:World=>run_convert_float_int (P:=Tryz.prog) W 111 3 .f64 .i64 y2 z (by kernel_rfl) (by kernel_rfl) h.int
 obtain⟨_,aM,_,_,z0,z1,i0,i1⟩:=h;have w1:wrap64 (i-24)=i-24:=IntWalk.wrap64_in _ (by omega);have w2:wrap64 (-(i-24)) = -(i-24):=IntWalk.wrap64_in _ (by omega);obtain⟨s,hs⟩:∃ s:Nat,(i-24).toNat=s∧i=24+(s:Int):=⟨(i-24).toNat,rfl,by omega⟩;have aY:s≤2000:=by omega
 have bA:max (i-24) (-(i-24))=(s:Int):=by omega
 rw[hs.1];have HI:=Aa aN;have aW:=Aa aM;have HS:=Aa hs;clear aN aM hs;go_enter Tryz.func30,Tryz.ntmps30
 go_wp2_with fail
 refine HI.out.mono ?_;rintro e w0 ⟨rfl,rfl⟩
 go_wp2_with fail
 refine(aW.out _).mono ?_;rintro e w0 ⟨rfl,rfl⟩
 go_wp2_with fail
 refine(zcG z _ (by omega) (by omega)).mono ?_;rintro e wa ⟨v,rfl,⟨A,n,c,A',n',c',rfl,h1,h2⟩,hb⟩;have aK:Below wa.heap.size wa (wa.alloc (.cells #[.bool (decide (z<0)),.slice A n c,.slice A' n' c'] 87)):=Ac
 go_wp2_with fail
 refine(zai 1 _ (by omega) (by omega)).mono ?_;rintro e wc ⟨A3,n3,c3,rfl,h3,aF⟩
 go_wp2_with fail
 have aO:NatS wc wc.heap.size A3 n3 c3 1:=h3;have l3:n3≤1:=by rw[←aO.len];exact zbR (by omega)
 have lz:z.natAbs≤16777216:=by omega
 have l1:n≤1:=by rw[←h1.len];exact zbR lz
 refine(zaw A3 n3 c3 1 s wc aO (by omega) (by omega)).mono ?_;rintro e wd ⟨A4,n4,c4,rfl,h4,aG⟩;rw[Nat.one_mul] at h4;have l4:n4≤64:=by rw[←h4.len];exact zeH (Nat.le_refl _) (by omega)
 have aV:wa.heap.size<wc.heap.size:=by have:=aF.size;simp at this;omega
 have aT:zae wd wa.heap.size (decide (z<0)) (.slice A n c) (.slice A' n' c'):=((zae.new wa _ _ _).below aF (by simp)).below aG aV;have aU:Tabs wd:=(((hT.later hb).later aK).later aF).later aG;have aR:Below w.heap.size w wd:=(((hb.trans (aK.mono hb.size)).trans (aF.mono (by have:=hb.size;simp;omega)))).trans (aG.mono (by have:=hb.size;omega));have aQ:=zaJ A A4 n c n4 c4 z.natAbs (2^s) wd.drew ((((h1.later aK).later aF).later aG).later (Below.refl _ _).drew) (h4.later (Below.refl _ _).drew) (by omega) (by omega);have aC:Below w.heap.size w wd.drew:=aR.drew;have aI:Tabs wd.drew:=aU.later (Below.refl _ _).drew;obtain⟨x0,x1,x2,_,_,_,xl⟩:=aT.cells;have aS:=Aa aQ;clear aQ
 go_wp2_with fail
 go_region_held3 (fun w'=>w'.cell? ⟨wa.heap.size,0,none⟩=some (.bool (decide (z<0)))∧w'.cell? ⟨wa.heap.size,1,none⟩=some (.slice A n c))
  ((first | exact⟨x0,x1⟩ | exact⟨((aA.cell (p:=⟨wa.heap.size,0,none⟩) xl).trans x0),((aA.cell (p:=⟨wa.heap.size,1,none⟩) xl).trans x1)⟩ | exact⟨((aD.cell (p:=⟨wa.heap.size,0,none⟩) aE).trans ((aA.cell (p:=⟨wa.heap.size,0,none⟩) xl).trans x0)),((aD.cell (p:=⟨wa.heap.size,1,none⟩) aE).trans ((aA.cell (p:=⟨wa.heap.size,1,none⟩) xl).trans x1))⟩ | exact⟨((aH.cell (p:=⟨wa.heap.size,0,none⟩) aL).trans ((aD.cell (p:=⟨wa.heap.size,0,none⟩) aE).trans ((aA.cell (p:=⟨wa.heap.size,0,none⟩) xl).trans x0))),((aH.cell (p:=⟨wa.heap.size,1,none⟩) aL).trans ((aD.cell (p:=⟨wa.heap.size,1,none⟩) aE).trans ((aA.cell (p:=⟨wa.heap.size,1,none⟩) xl).trans x1)))⟩))
  (first
   |(go_at_call 90;refine(aS.out).mono ?_;rintro e w5 ⟨A5,m5,c5,rfl,aP,aA⟩;have aE:=Nat.lt_of_lt_of_le xl aA.size)
   |(go_at_call 86;refine(zai 1 w5 (by omega) (by omega)).mono ?_;rintro e w6 ⟨A6,m6,c6,rfl,aJ,aD⟩;have aL:=Nat.lt_of_lt_of_le aE aD.size)
   |(go_at_call 89;refine(zgh ⟨decide (z<0),z.natAbs*2^s,1⟩ A5 A6 m5 c5 m6 c6 w6 ((aI.later aA).later aD) (aP.later aD) aJ (by have:=zdT aP (Nat.le_of_eq h1.len) (Nat.le_of_eq h4.len);omega) (by have:=aJ.len;have:=zbR (x:=1) (by omega);have e1:Int.toNat 1=1:=rfl;rw[←aJ.len,e1];omega)).mono ?_;rintro e w7 ⟨S,rfl,hS,aH⟩))
 go_wp2_with fail
 go_ret2
 exact⟨S,rfl,hS,((aC.trans (aA.mono aC.size)).trans (aD.mono (by have:=aC.size;have:=aA.size;omega))).trans (aH.mono (by have:=aC.size;have:=aA.size;have:=aD.size;omega))⟩
def exQ (b:Nat):Q:=
 match Ieee.single.read b with
 | .number s m p=>if m=0 then⟨false,0,1⟩ else if p+m.log2<23 then lowQ s (m*2^(23-m.log2)) (2^(23-(p+m.log2)).toNat) else⟨s,m*2^(23-m.log2)*2^(p+m.log2-23).toNat,1⟩
 | _=>⟨false,0,1⟩
theorem zmi{b m:Nat}{s:Bool}{p:Int}(h:Ieee.single.read b = .number s m p)(hm:0<m) :
  Parts b (dw s (sg m) (p+m.log2-52)) (dw s (sg m) (-53)) (dw s (sg m) (-29)) (p+m.log2+1) (Ieee.signed s (m*2^(23-m.log2)) 0) ∧
   decide (Ieee.signed s (m*2^(23-m.log2)) 0<0)=s∧(Ieee.signed s (m*2^(23-m.log2)) 0).natAbs=m*2^(23-m.log2):=by
 obtain⟨_,hn,hl⟩:=zrQ h hm;obtain⟨h1,h2,h3⟩:=zd2 h;obtain⟨hi,hj,hp⟩:=zrU s hm hl h1;have hf:∀ W:World,Calls Tryz.prog 84 #[.float .f64 (dw s (sg m) (p+m.log2-52))] W fun e w'=>e = .returned (.tuple #[.float .f64 (dw s (sg m) (-53)),.int .i64 (p+m.log2+1)])∧W=w':=by
  intro W;have:=zkk W (zo6 s W hn);rw[show p+(m.log2:Int)-52+53=p+m.log2+1 from by omega] at this;exact this
 have aC:=zrV s (m:=sg m) ⟨hn.lo,hn.hi,by omega,by omega⟩;have aA:=zkr h hm;generalize m*2^(23-m.log2)=J at *;have hv:Ieee.signed s J 0=if s then -(J:Int) else(J:Int):=by unfold Ieee.signed;rw[Nat.shiftLeft_zero]
 have hb : -16777216<Ieee.signed s J 0∧Ieee.signed s J 0<16777216:=by rw[hv];split<;>omega
 refine⟨⟨aA,hf,aC,hi,hb.1,hb.2,by omega,by omega⟩,?_,?_⟩
 ·rw[hv];cases s
  ·exact decide_eq_false (by rw[if_neg (by decide)];omega)
  ·exact decide_eq_true (by rw[if_pos rfl];omega)
 ·rw[hv];split<;>omega
theorem zl4{b:Nat}{s:Bool}{p:Int}(h:Ieee.single.read b = .number s 0 p) :
  Parts b (Ieee.double.word s 0) (Ieee.double.word s 0) (Ieee.double.word s 0) 0 0:=
 ⟨ziU h,fun W=>zkk W (zk1 _ W (zrd s)),zjf s,zpB s,by omega,by omega,by omega,by omega⟩
theorem zm4 {b m:Nat} {s:Bool} {p:Int} (w:World) (hT:Tabs w) (h:Ieee.single.read b = .number s m p) :
  Calls Tryz.prog 30 #[.float .f32 b] w (zb7 w (zbr (exQ b)) (zau (exQ b))):=by
 unfold exQ;rw[h]
 dsimp only
 by_cases hm:m=0
 ·subst hm
  have:=zhl w hT (zl4 h) (by omega);rw[if_pos rfl];have e:lowQ (decide ((0:Int)<0)) (0:Int).natAbs (2^(24-0:Int).toNat)=⟨false,0,1⟩:=by
   unfold lowQ;rw[if_neg (by have:=Nat.two_pow_pos (24-0:Int).toNat;omega),if_pos (by rfl)]
  rw[e] at this;exact this
 ·rw[if_neg hm]
  obtain⟨hP,hs,hz⟩:=zmi h (by omega)
  by_cases hc:p+m.log2<23
  ·have:=zhl w hT hP (by omega)
   rw[hs,hz,show(24-(p+(m.log2:Int)+1))=23-(p+m.log2) from by omega] at this;rw[if_pos hc];exact this
  ·have:=zoI w hT hP (by omega)
   rw[hs,hz,show(p+(m.log2:Int)+1-24)=p+m.log2-23 from by omega] at this;rw[if_neg hc];exact this
theorem ziI{b x:Nat}(w:World)(hc:floatToFloatBits .f32 b .f64=some x)(hx:x<18446744073709551616)
 (hn:(FloatKind.f64.format.order x x != some .eq)=false)(hi:(FloatKind.f64.format.order (absB x) 9218868437227405311==some .gt)=true) :
  Calls Tryz.prog 83 #[.float .f32 b] w fun e w'=>e = .returned (.bool false)∧w=w':=by
 have aD:=fun W:World=>run_convert_float_float (P:=Tryz.prog) W 46 111 .f32 .f64 b x (by kernel_rfl) (by kernel_rfl) hc
 have aA:=zdf x w;rw[hn] at aA;have aC:=zdY x w hx;rw[hi] at aC;have HN:=Aa aA;have HI:=Aa aC;clear aA aC hn hi hc;go_enter Tryz.func83,Tryz.ntmps83
 go_wp2_with fail
 refine HN.out.mono ?_;rintro e w1 ⟨rfl,rfl⟩
 go_wp2_with fail
 refine HI.out.mono ?_;rintro e w1 ⟨rfl,rfl⟩
 go_wp2_with fail
 go_ret;exact⟨rfl,rfl⟩
theorem zoX(s:Bool){b:Nat}(h:Ieee.single.read b = .infinity s)(w:World):Calls Tryz.prog 83 #[.float .f32 b] w fun e w'=>e = .returned (.bool false)∧w=w':=by
 refine ziI (x:=Ieee.double.word s 9218868437227405312) w ?_ ?_ ?_ ?_
 ·have h':FloatKind.f32.decode b = .infinity s:=h
  unfold floatToFloatBits;rw[if_neg (by decide),h'];show some (Ieee.double.word s Ieee.double.infRung)=_
  rw[ze9]
 ·cases s<;>decide +kernel
 ·cases s<;>decide +kernel
 ·cases s<;>decide +kernel
def nanW (b:Nat) (W:World):Nat:=(Question.nanConv .f64 b).cut (W.tape W.drawn (Question.nanConv .f64 b))
theorem zl8(b:Nat)(W:World):∃ s f,Ieee.double.read (nanW b W) = .nan s f:=by
 unfold nanW Question.cut;generalize W.tape W.drawn (Question.nanConv .f64 b)=t
 dsimp only
 have aC:(2:Nat)^63=9223372036854775808:=by decide
 have aA:(2:Nat)^52=4503599627370496:=by decide
 rw[aC,aA];have h1:t%2<2:=Nat.mod_lt _ (by omega);have h2:t/2%(4503599627370496-1)<4503599627370495:=Nat.mod_lt _ (by omega);generalize t%2=s at h1;generalize t/2%(4503599627370496-1)=f at h2;unfold Ieee.Format.read;rw[zhH,zbT,ze9];have e1:(s*9223372036854775808+9218868437227405312+1+f)%9223372036854775808=9218868437227405312+1+f:=by omega
 dsimp only
 rw[e1,if_neg (by omega),if_neg (by omega),if_neg (by omega)];exact⟨_,_,rfl⟩
theorem zpz(b:Nat)(W:World):(FloatKind.f64.format.order (nanW b W) (nanW b W) != some .eq)=true:=by
 obtain⟨s,f,h⟩:=zl8 b W;have:FloatKind.f64.format.order (nanW b W) (nanW b W)=none:=by
  show(Ieee.double.read _).order (Ieee.double.read _)=_
  rw[h];rfl
 rw[this];rfl
theorem zjO{P:Program}(src dst:TypeId)(b:Nat){s:Bool}{f:Nat}(hs:(P.underlying src).isSome=true)(hd:P.underlying dst=some (.float .f64))(h:Ieee.single.read b = .nan s f)(W:World) :
  (convert src dst (.float .f32 b)).run P W = .ok (.float .f64 (nanW b W)) W.drew:=by
 obtain⟨u,aA⟩:=Option.isSome_iff_exists.1 hs;have h':FloatKind.f32.decode b = .nan s f:=h;have hf:(Question.nanConv .f64 b).forced=false:=rfl
 cases u<;>simp[convert,run_underlying aA,run_underlying hd,Conv.floatToFloat,h',hf,nanW]
theorem zi7{b:Nat}{s:Bool}{f:Nat}(h:Ieee.single.read b = .nan s f)(w:World):Calls Tryz.prog 83 #[.float .f32 b] w fun e w'=>e = .returned (.bool false)∧Below w.heap.size w w':=by
 have aC:=zjO (P:=Tryz.prog) 46 111 b (by kernel_rfl) (by kernel_rfl) h;have aA:=zdf (nanW b w) w.drew;rw[zpz] at aA;have HN:=Aa aA;clear aA;have hb:Below w.heap.size w w.drew:=(Below.refl _ _).drew;go_enter Tryz.func83,Tryz.ntmps83
 go_wp2_with fail
 refine HN.out.mono ?_;rintro e w1 ⟨rfl,rfl⟩
 go_wp2_with fail
 go_ret;exact⟨rfl,hb⟩
theorem zfz(b:Nat)(w:World):Calls Tryz.prog 83 #[.float .f32 b] w fun e w'=>e = .returned (.bool (fin Ieee.single b))∧Below w.heap.size w w':=by
 unfold fin
 rcases h:Ieee.single.read b with⟨s,m,p⟩ | s | ⟨s,f⟩
 ·have hx:∃ x,Fine b x:=by
   rcases Nat.eq_zero_or_pos m with rfl | hm
   ·exact⟨_,ziU h⟩
   ·exact⟨_,zkr h hm⟩
  obtain⟨x,hx⟩:=hx;refine(zds w hx).mono ?_;rintro e w' ⟨rfl,rfl⟩;exact⟨rfl,Below.refl _ _⟩
 ·refine(zoX s h w).mono ?_
  rintro e w' ⟨rfl,rfl⟩;exact⟨rfl,Below.refl _ _⟩
 ·exact zi7 h w
theorem znH{b:Nat}(w:World)(h:fin Ieee.single b=false):Calls Tryz.prog 30 #[.float .f32 b] w (zb7 w [] 1):=by
 have h1:=zfz b w;rw[h] at h1;have h2:=Aa h1;clear h1 h;go_enter Tryz.func30,Tryz.ntmps30
 go_wp2_with fail
 refine h2.out.mono ?_;rintro e w1 ⟨rfl,hb⟩
 go_wp2_with fail
 go_ret2
 exact⟨_,rfl,rfl,hb⟩
theorem zgC(b:Nat)(w:World)(hT:Tabs w) :
  Calls Tryz.prog 30 #[.float .f32 b] w (zb7 w (if fin Ieee.single b then zbr (exQ b) else[]) (if fin Ieee.single b then zau (exQ b) else 1)):=by
 by_cases hf:fin Ieee.single b=true
 ·rw[if_pos hf,if_pos hf]
  unfold fin at hf
  rcases h:Ieee.single.read b with⟨s,m,p⟩ | s | ⟨s,f⟩
  ·exact zm4 w hT h
  ·rw[h] at hf;cases hf
  ·rw[h] at hf;cases hf
 ·rw[if_neg hf,if_neg hf]
  exact znH w (by simpa using hf)
def sI (p:Q):Int:=if p.neg then -(p.top:Int) else(p.top:Int)
theorem zky(neg:Bool)(t b:Nat)(hb:0<b):LowQ (lowQ neg t b):=by
 unfold lowQ;rw[if_neg (by omega)]
 split
 ·exact⟨by decide,by decide,fun h=>by cases h⟩
 ·rename_i ht
  have hg:0<Nat.gcd t b:=Nat.gcd_pos_of_pos_right _ hb;refine⟨Nat.div_pos (Nat.gcd_le_right _ hb) hg,(Nat.gcd_div (Nat.gcd_dvd_left t b) (Nat.gcd_dvd_right t b)).trans (Nat.div_self hg),fun _=>Nat.div_pos (Nat.gcd_le_left _ (by omega)) hg⟩
theorem zqm{b m:Nat}{s:Bool}{p:Int}(h:Ieee.single.read b = .number s m p)(hm:0<m)(hm2:m<16777216)(hp : -149≤p)(hp2:p≤104) :
  LowQ (exQ b)∧(exQ b).neg=s∧(exQ b).top*2^149=m*2^(p+149).toNat*(exQ b).bot∧(exQ b).top<2^200∧(exQ b).bot<2^200:=by
 have hl:m.log2<24:=(Nat.log2_lt (by omega)).2 (by omega);unfold exQ;rw[h]
 dsimp only
 rw[if_neg (by omega)];have aA:m<2^24:=by
  have aE:(2:Nat)^24=16777216:=by decide
  omega
 by_cases hc:p+(m.log2:Int)<23
 ·rw[if_pos hc]
  obtain⟨j,hj⟩:∃ j:Nat,(23-(p+(m.log2:Int))).toNat=j:=⟨_,rfl⟩;rw[hj];have hT:0<m*2^(23-m.log2):=Nat.mul_pos hm (Nat.two_pow_pos _);have hD:0<2^j:=Nat.two_pow_pos _;have hg:0<Nat.gcd (m*2^(23-m.log2)) (2^j):=Nat.gcd_pos_of_pos_right _ hD;refine⟨zky _ _ _ hD,?_⟩;have e:m*2^(23-m.log2)*2^149=m*2^(p+149).toNat*2^j:=by
   rw[Nat.mul_assoc,Nat.mul_assoc,←Nat.pow_add,←Nat.pow_add,show 23-m.log2+149=(p+149).toNat+j by omega]
  have aC:m*2^(23-m.log2)<2^200:=by
   have h1:m*2^(23-m.log2)<2^24*2^(23-m.log2):=Nat.mul_lt_mul_of_pos_right aA (Nat.two_pow_pos _);rw[←Nat.pow_add] at h1;exact Nat.lt_of_lt_of_le h1 (Nat.pow_le_pow_right (by omega) (by omega))
  have aD:2^j<2^200:=Nat.pow_lt_pow_right (by omega) (by omega);unfold lowQ;rw[if_neg (by omega),if_neg (by omega)];generalize m*2^(23-m.log2)=T at *;generalize 2^j=D at *;have d1:=Nat.div_mul_cancel (Nat.gcd_dvd_left T D);have d2:=Nat.div_mul_cancel (Nat.gcd_dvd_right T D);have d3:=Nat.div_le_self T (Nat.gcd T D);have d4:=Nat.div_le_self D (Nat.gcd T D)
  dsimp only
  refine⟨rfl,?_,Nat.lt_of_le_of_lt d3 aC,Nat.lt_of_le_of_lt d4 aD⟩
  apply Nat.eq_of_mul_eq_mul_right hg
  rw[Nat.mul_right_comm,d1,Nat.mul_assoc (m*2^(p+149).toNat),d2];exact e
 ·rw[if_neg hc]
  have hT:0<m*2^(23-m.log2)*2^(p+(m.log2:Int)-23).toNat:=Nat.mul_pos (Nat.mul_pos hm (Nat.two_pow_pos _)) (Nat.two_pow_pos _);have e:m*2^(23-m.log2)*2^(p+(m.log2:Int)-23).toNat=m*2^p.toNat:=by
   rw[Nat.mul_assoc,←Nat.pow_add,show 23-m.log2+(p+(m.log2:Int)-23).toNat=p.toNat by omega]
  refine⟨⟨Nat.one_pos,Nat.gcd_one_right _,fun _=>hT⟩,rfl,?_,?_,?_⟩
  ·dsimp only
   rw[e,Nat.mul_one,Nat.mul_assoc,←Nat.pow_add,show p.toNat+149=(p+149).toNat by omega]
  ·dsimp only
   rw[e];have h1:m*2^p.toNat<2^24*2^p.toNat:=Nat.mul_lt_mul_of_pos_right aA (Nat.two_pow_pos _);rw[←Nat.pow_add] at h1;exact Nat.lt_of_lt_of_le h1 (Nat.pow_le_pow_right (by omega) (by omega))
  ·exact Nat.one_lt_two_pow (by decide)
theorem zmv{x:Nat}(h:x<2^200):(Lib.decDigits x).length≤600:=by
 refine Nat.le_trans (Dec.dec_length_le (k:=200) (by decide) (Nat.lt_of_lt_of_le h ?_)) (by decide);exact Nat.pow_le_pow_left (by decide) _
end
section
open Go.RowKit Bn
def zcn (num:Int) (den:Nat):Q:=lowQ (decide (num<0)) num.natAbs den
def addQ (p q:Q):Q:=zcn (sI p*(q.bot:Int)+sI q*(p.bot:Int)) (p.bot*q.bot)
def subQ (p q:Q):Q:=zcn (sI p*(q.bot:Int)-sI q*(p.bot:Int)) (p.bot*q.bot)
def mulQ (p q:Q):Q:=zcn (sI p*sI q) (p.bot*q.bot)
def negQ (p:Q):Q:=⟨!p.neg && decide (0<p.top),p.top,p.bot⟩
def absQ (p:Q):Q:=⟨false,p.top,p.bot⟩
def zcy (p:Q):Int:=if p.top=0 then 0 else if p.neg then -1 else 1
def cmpI (p q:Q):Int:=zcy (subQ p q)
theorem zen{den:Nat}(hd:0<den):zcn 0 den=⟨false,0,1⟩:=by
 unfold zcn lowQ;rw[if_neg (by omega)];rfl
theorem zfW{num:Int}{den:Nat}(hd:0<den)(h0:num≠0):zcn num den=⟨decide (num<0),num.natAbs/Nat.gcd num.natAbs den,den/Nat.gcd num.natAbs den⟩:=by
 unfold zcn lowQ;rw[if_neg (by omega),if_neg (by omega)]
theorem zmd{num:Int}{den:Nat}(hd:0<den):sI (zcn num den)*(den:Int)=num*((zcn num den).bot:Int):=by
 by_cases h0:num=0
 ·subst h0
  rw[zen hd];simp[sI]
 ·rw[zfW hd h0]
  unfold sI;have d1:=Nat.div_mul_cancel (Nat.gcd_dvd_left num.natAbs den);have d2:=Nat.div_mul_cancel (Nat.gcd_dvd_right num.natAbs den)
  dsimp only
  generalize Nat.gcd num.natAbs den=g at *;have hx:(num.natAbs/g)*den=num.natAbs*(den/g):=by
   conv=>lhs;rw[←d2]
   conv=>rhs;rw[←d1]
   rw[Nat.mul_comm (den/g),Nat.mul_assoc]
  have aA:(((num.natAbs/g:Nat):Int))*(den:Int)=(num.natAbs:Int)*((den/g:Nat):Int):=by
   rw[←Int.natCast_mul,←Int.natCast_mul,hx]
  by_cases hn:num<0
  ·rw[decide_eq_true hn,if_pos rfl,Int.neg_mul,aA,←Int.neg_mul,show -(num.natAbs:Int)=num by omega]
  ·rw[decide_eq_false hn,if_neg (by decide),aA,show(num.natAbs:Int)=num by omega]
theorem zbo(num:Int){den:Nat}(hd:0<den):LowQ (zcn num den):=zky _ _ _ hd
theorem zea {p q:Q} (hp:LowQ p) (hq:LowQ q) (h:sI p*(q.bot:Int)=sI q*(p.bot:Int)):p=q:=by
 obtain⟨pn,pt,pb⟩:=p;obtain⟨qn,qt,qb⟩:=q;obtain⟨p1,p2,p3⟩:=hp;obtain⟨q1,q2,q3⟩:=hq;unfold sI at h
 dsimp only at *
 have hs:pn=qn∧pt*qb=qt*pb:=by
  have e1:(pt:Int)*(qb:Int)=((pt*qb:Nat):Int):=by rw[Int.natCast_mul]
  have e2:(qt:Int)*(pb:Int)=((qt*pb:Nat):Int):=by rw[Int.natCast_mul]
  cases pn<;>cases qn
  ·simp only[Bool.false_eq_true,if_false,e1,e2] at h
   exact⟨rfl,by omega⟩
  ·simp only[Bool.false_eq_true,if_false,if_true,Int.neg_mul,e1,e2] at h
   have:=Nat.mul_pos (q3 rfl) p1;omega
  ·simp only[Bool.false_eq_true,if_false,if_true,Int.neg_mul,e1,e2] at h
   have:=Nat.mul_pos (p3 rfl) q1;omega
  ·simp only[if_true,Int.neg_mul,e1,e2] at h
   exact⟨rfl,by omega⟩
 obtain⟨rfl,hc⟩:=hs;have aA:pb ∣ qb:=(Nat.Coprime.dvd_of_dvd_mul_left (show Nat.Coprime pb pt from by rw[Nat.coprime_comm];exact p2) (by rw[hc];exact Nat.dvd_mul_left _ _));have aC:qb ∣ pb:=(Nat.Coprime.dvd_of_dvd_mul_left (show Nat.Coprime qb qt from by rw[Nat.coprime_comm];exact q2) (by rw[←hc];exact Nat.dvd_mul_left _ _));obtain rfl:pb=qb:=Nat.dvd_antisymm aA aC;obtain rfl:pt=qt:=Nat.eq_of_mul_eq_mul_right p1 hc;rfl
end
section
open Go.RowKit
theorem zoH(k r:Nat):Dec.pad (k+1) r=Dec.dgt (r/10^k%10) :: Dec.pad k r:=by
 induction k generalizing r with
 | zero=>simp[Dec.pad]
 | succ k ih=>
  rw[Dec.pad,ih (r/10),Nat.div_div_eq_div_mul,Nat.pow_succ,Nat.mul_comm (10^k) 10,List.cons_append];rfl
def decK (n least:Nat):Nat:=max least (if n=0 then 0 else(Lib.decDigits n).length)
theorem zfr{n:Nat}(h:0<n):10^((Lib.decDigits n).length-1)≤n∧n<10^(Lib.decDigits n).length:=by
 induction n using Nat.strongRecOn with
 | ind n ih=>
  by_cases h1:n<10
  ·rw[Dec.dec_lt h1]
   simp
   omega
  ·rw[Dec.dec_ge h1]
   obtain⟨h2,h3⟩:=ih (n/10) (by omega) (by omega);have hp:=Dec.dec_length_pos (n/10);rw[List.length_append,List.length_singleton,Nat.add_sub_cancel,Nat.pow_succ];obtain⟨k,hk⟩:∃ k,(Lib.decDigits (n/10)).length=k+1:=⟨_,(Nat.succ_pred_eq_of_pos hp).symm⟩;rw[hk,Nat.add_sub_cancel] at h2;rw[hk] at h3 ⊢;rw[Nat.pow_succ] at h3 ⊢;omega
theorem znd{n least k:Nat}(h:0<n/10^k∨k<least):k+1≤decK n least:=by
 unfold decK
 rcases h with h | h
 ·have hn:0<n:=by
   rcases Nat.eq_zero_or_pos n with h0 | h0
   ·rw[h0,Nat.zero_div] at h;omega
   ·exact h0
  rw[if_neg (by omega)];have h1:=(zfr hn).2;have h2:10^k≤n:=by
   rcases Nat.lt_or_ge n (10^k) with h3 | h3
   ·rw[Nat.div_eq_of_lt h3] at h;omega
   ·exact h3
  have h3:k<(Lib.decDigits n).length:=by
   rcases Nat.lt_or_ge k (Lib.decDigits n).length with h4 | h4
   ·exact h4
   ·have:=Nat.pow_le_pow_right (n:=10) (by omega) h4
    omega
  omega
 ·omega
theorem zoS{n least k:Nat}(h1:n/10^k=0)(h2:least≤k)(h3:k≤decK n least):k=decK n least:=by
 have h4:n<10^k:=by
  rcases Nat.lt_or_ge n (10^k) with h4 | h4
  ·exact h4
  ·have:=Nat.div_pos h4 (Nat.pow_pos (by omega))
   omega
 unfold decK at *
 by_cases h0:n=0
 ·rw[if_pos h0] at *
  omega
 ·rw[if_neg h0] at *
  have h5:=(zfr (n:=n) (by omega)).1;have h6:(Lib.decDigits n).length-1<k:=by
   rcases Nat.lt_or_ge ((Lib.decDigits n).length-1) k with h6 | h6
   ·exact h6
   ·have:=Nat.pow_le_pow_right (n:=10) (by omega) h6
    omega
  omega
theorem zih(n:Nat):Dec.pad (decK n 1) n=Lib.decDigits n:=by
 unfold decK;have hp:=Dec.dec_length_pos n
 by_cases h0:n=0
 ·subst h0
  rw[if_pos rfl,Dec.dec_lt (by omega)];rfl
 ·rw[if_neg h0,Nat.max_eq_right (by omega),Dec.pad_dec _ _ hp (zfr (by omega)).2,Nat.sub_self]
  rfl
theorem zmr{n:Nat}(h:n<Dn.B):decK n 9=9:=by
 have h1:n<10^9:=by rw[←zpx];exact h
 unfold decK;have h2:=Dec.dec_length_le (k:=9) (by omega) h1
 split<;>omega
theorem zrx{n least:Nat}(h:n<10000000000000000000)(hl:least≤19):decK n least≤19:=by
 have h1:=Dec.dec_length_le (k:=19) (r:=n) (by omega) (by have e:(10:Nat)^19=10000000000000000000:=(by decide);omega);unfold decK
 split<;>omega
def zbB (l:List UInt8):Nat:=l.findIdx (· == 47)
theorem zb6{l:List UInt8}(h:∀ c ∈ l,c≠47):zbB l=l.length:=by
 unfold zbB;rw[List.findIdx_eq_length];intro c hc
 simpa using h c hc
theorem zcQ{l r:List UInt8}(h:∀ c ∈ l,c≠47):zbB (l++47 :: r)=l.length:=by
 unfold zbB;rw[List.findIdx_append,if_neg,List.findIdx_cons]
 ·simp
 ·rw[Nat.not_lt,Nat.le_iff_lt_or_eq]
  refine .inr ?_;exact(zb6 h).symm
theorem zmZ(l:List UInt8):zbB l≤l.length:=List.findIdx_le_length
end
section
open Go.RowKit Dn
structure DigI (w:World) (A:Option Addr) (n c:Nat) (l:List Nat):Prop where
 rd:zaA w w.heap.size 1 A n (l.map natv)
 nc:n≤c
 cm:c≤maxLen
 wf:Wf l
theorem DigI.later {w w':World} {A:Option Addr} {n c:Nat} {l:List Nat} (h:DigI w A n c l) (hb:Below w.heap.size w w'):DigI w' A n c l:=⟨h.rd.later hb,h.nc,h.cm,h.wf⟩
theorem DigI.len {w:World} {A:Option Addr} {n c:Nat} {l:List Nat} (h:DigI w A n c l):l.length=n:=h.rd.lenM
theorem zcM (A:Option Addr) (n c:Nat) (l:List Nat) (w:World) (h:DigI w A n c l) (hn:n≤1099511627776) :
  Calls Tryz.prog 190 #[.slice A n c] w fun e w'=>∃ m,e = .returned (.slice A m c)∧DigI w' A m c (digs (val l))∧Below w.heap.size w w':=by
 obtain⟨hr,aG,aF,hw⟩:=h;have hl:=hr.lenM;have aH:=Aa aF;have aI:=Aa aG;clear aF;go_enter Tryz.func190,Tryz.ntmps190
 go_wp2
 go_loopg [0] n (fun q s W=>∃ k:Nat,k≤n∧s = .slice A k c∧k≤q∧Hid (∀ j (h:j<l.length),k≤j→l[j]=0)∧Below w.heap.size w W)
 case atStart=>exact⟨n,Nat.le_refl _,rfl,Nat.le_refl _,fun j h h'=>by omega,Below.refl _ _⟩
 case round=>
  obtain⟨k,hk,rfl,hq,hz,aC⟩:=hrel;have aD:∀ (hx:∀ h:k-1<l.length,0<k→l[k-1]≠0) (W:World),Below w.heap.size w W→DigI W A k c (digs (val l)):=fun hx W hb=>by
   have ht:=zeX hw k (by omega) (fun j h hj=>hz.out j h hj) hx;have h2:=((hr.below hb).more hb.size).take (m:=k) hk;rw[←List.map_take,ht] at h2;exact⟨h2,by have:=aI.out;omega,aH.out,zaq _⟩
  have aE:=Aa aD;clear aD
  by_cases h0:0<k
  ·obtain⟨ad,aM,rfl,aL,aA⟩:=(hr.below aC).cellM (k:=k-1) (by omega)
   have aJ:c≠0:=by omega
   by_cases hx:l[k-1]=0
   ·rw[hx] at aA
    replace aA:wr.cell? (ad.add (k-1))=some (.int .i64 0):=aA
    have HX:=Aa hx;clear hx;go_wp2
    go_roundg (k-1)
    case measure=>omega
    case rel=>
     refine⟨k-1,by omega,rfl,Nat.le_refl _,?_,aC⟩;intro j h hj
     rcases Nat.lt_or_ge j k with h1 | h1
     ·obtain rfl:j=k-1:=by omega
      exact HX.out
     ·exact hz.out j h h1
   ·have HX:=Aa hx
    unfold natv at aA;generalize hg:l[k-1]=x at *;have aK:(((x:Nat):Int)==0)=false:=by
     rw[beq_eq_false_iff_ne];omega
    have HG:=Aa hg;clear hg hx;go_wp2
    go_ret;exact⟨k,rfl,aE.out (fun h _=>by rw[HG.out];exact HX.out) _ aC,aC⟩
  ·go_wp2
   go_ret;exact⟨k,rfl,aE.out (fun h h1=>absurd h1 h0) _ aC,aC⟩
theorem zfc(A:Option Addr)(n c:Nat)(l:List Nat)(k:Nat)(w:World)(h:zaA w w.heap.size 1 A n (l.map natv))(_hn:n≤1099511627776) :
  Calls Tryz.prog 206 #[.slice A n c,.int .i64 (k:Int)] w fun e w'=>e = .returned (.int .i64 ((l.getD k 0:Nat):Int))∧w=w':=by
 have hl:=h.lenM
 by_cases h0:k<n
 ·obtain⟨ad,aC,rfl,aD,aA⟩:=h.cellM h0
  have hv:l.getD k 0=l[k]:=by simp[List.getD,aC]
  have HV:=Aa hv;unfold natv at aA;clear hv;generalize l[k]=x at *;go_enter Tryz.func206,Tryz.ntmps206
  go_wp2
  go_ret;exact⟨by rw[HV.out];rfl,rfl⟩
 ·have hv:Hid (l.getD k 0=0):=by
   show l.getD k 0=0
   simp[List.getD,List.getElem?_eq_none (show l.length≤k by omega)]
  clear hl;go_enter Tryz.func206,Tryz.ntmps206
  go_wp2
  go_ret;exact⟨by rw[hv.out];rfl,rfl⟩
theorem zcg(A A':Option Addr)(n c n' c' x y:Nat)(w:World)(h:zaA w w.heap.size 1 A n ((digs x).map natv))(h':zaA w w.heap.size 1 A' n' ((digs y).map natv))(hn:n≤1099511627776)(hn':n'≤1099511627776) :
  Calls Tryz.prog 165 #[.slice A n c,.slice A' n' c'] w fun e w'=>e = .returned (.int .i64 (Bn.ncmp x y))∧Below w.heap.size w w':=by
 have hl:=h.lenM;have aG:=h'.lenM
 by_cases hne:n=n'
 ·subst hne
  have HL:=Aa hl;have aM:=Aa aG;clear hl aG;have aL:((n:Int) != (n:Int))=false:=by simp
  go_enter Tryz.func165,Tryz.ntmps165
  go_wp2
  go_loopg [5] n (fun q s W=>∃ k:Nat,k≤n∧s = .int .i64 ((k:Int)-1)∧k≤q∧Hid (∀ j,k≤j→(digs x).getD j 0=(digs y).getD j 0)∧Below w.heap.size w W)
  case atStart=>exact⟨n,Nat.le_refl _,rfl,Nat.le_refl _,(fun j hj=>by rw[zbV (by rw[HL.out];omega),zbV (by rw[aM.out];omega)]),Below.refl _ _⟩
  case round=>
   obtain⟨k,hk,rfl,hq,hz,aA⟩:=hrel
   by_cases h0:0<k
   ·obtain⟨i,rfl⟩:∃ i:Nat,k=i+1:=⟨k-1,by omega⟩
    have e1:((i+1:Nat):Int)-1=(i:Int):=by omega
    rw[e1];obtain⟨ad,aK,rfl,aS,aE⟩:=(h.below aA).cellM (k:=i) (by omega);obtain⟨aR,aF,rfl,aN,aC⟩:=(h'.below aA).cellM (k:=i) (by omega);have aJ:(digs x).getD i 0=(digs x)[i]:=by simp[List.getD,aK]
    have aH:(digs y).getD i 0=(digs y)[i]:=by simp[List.getD,aF]
    have HX:=Aa aJ;have HY:=Aa aH;have aQ:=zaq x _ (List.getElem_mem aK);have aP:=zaq y _ (List.getElem_mem aF);unfold natv at aE aC;clear aJ aH e1;generalize (digs x)[i]=xk at *;generalize (digs y)[i]=yk at *;have q1:(0:Int)≤(i:Int):=by omega
    have q2:(i:Int)<(n:Int):=by omega
    rcases Nat.lt_trichotomy xk yk with aD | aO | aI
    ·have HR:Hid (Bn.ncmp x y = -1):=Bn.ncmp_lt (znP i (fun j hj=>hz.out j (by omega)) (by rw[HX.out,HY.out];exact aD))
     have d1:decide (xk<yk)=true:=by simpa using aD
     go_upto_region 8 with(fail)
     go_quiet (fail)
     go_wp2
     go_ret;exact⟨by rw[HR.out];rfl,by first | exact zad aA _ | exact zad (zad aA _) _⟩
    ·subst aO
     have HZ:Hid (∀ j,i≤j→(digs x).getD j 0=(digs y).getD j 0):=fun j hj=>by
      rcases Nat.lt_or_ge i j with h1 | h1
      ·exact hz.out j (by omega)
      ·obtain rfl:j=i:=by omega
       rw[HX.out,HY.out]
     have d1:decide (xk<xk)=false:=by simp
     go_upto_region 8 with(fail)
     go_quiet (fail)
     go_upto_region 10 with(fail)
     go_quiet (fail)
     go_wp2
     go_roundg i
     case measure=>omega
     case rel=>exact⟨i,by omega,rfl,Nat.le_refl _,HZ.out,by first | exact zad aA _ | exact zad (zad aA _) _⟩
    ·have HR:Hid (Bn.ncmp x y=1):=Bn.ncmp_gt (znP i (fun j hj=>(hz.out j (by omega)).symm) (by rw[HX.out,HY.out];exact aI))
     have d1:decide (xk<yk)=false:=by simp;omega
     have d2:decide (yk<xk)=true:=by simpa using aI
     go_upto_region 8 with(fail)
     go_quiet (fail)
     go_upto_region 10 with(fail)
     go_quiet (fail)
     go_wp2
     go_ret;exact⟨by rw[HR.out];rfl,by first | exact zad aA _ | exact zad (zad aA _) _⟩
   ·obtain rfl:k=0:=by omega
    have HR:Hid (Bn.ncmp x y=0):=by
     have:x=y:=zqF (fun j=>hz.out j (Nat.zero_le _));subst this;exact Bn.ncmp_eq x
    go_wp2
    go_ret;exact⟨by rw[HR.out];rfl,aA⟩
 ·have aL:((n:Int) != (n':Int))=true:=by rw[bne_iff_ne];omega
  by_cases aD:n<n'
  ·have HR:Hid (Bn.ncmp x y = -1):=Bn.ncmp_lt (by
    rcases Nat.lt_or_ge x y with h1 | h1
    ·exact h1
    ·have:=zaa h1
     omega)
   have d1:decide (n<n')=true:=by simpa using aD
   clear hl aG;go_enter Tryz.func165,Tryz.ntmps165
   go_wp2
   go_ret;exact⟨by rw[HR.out];rfl,Below.refl _ _⟩
  ·have HR:Hid (Bn.ncmp x y=1):=Bn.ncmp_gt (by
    rcases Nat.lt_or_ge y x with h1 | h1
    ·exact h1
    ·have:=zaa h1
     omega)
   have d1:decide (n<n')=false:=by simpa using aD
   clear hl aG;go_enter Tryz.func165,Tryz.ntmps165
   go_wp2
   go_ret;exact⟨by rw[HR.out];rfl,Below.refl _ _⟩
end
section
open Go.RowKit
theorem zfV{α:Type}(f : α→Value)(ys:List α)(z:Value)(n k:Nat)(hk:k<ys.length)(hy:ys.length=n) :
  ((ys.take k).map f++List.replicate (n-k) z).set k (f ys[k])=(ys.take (k+1)).map f++List.replicate (n-(k+1)) z:=by
 have hl:((ys.take k).map f).length=k:=by rw[List.length_map,List.length_take];omega
 rw[List.set_append_right _ _ (by omega),hl,Nat.sub_self,show n-k=(n-(k+1))+1 from by omega,List.replicate_succ,List.set_cons_zero,List.take_succ_eq_append_getElem hk,List.map_append,List.append_assoc];rfl
theorem zoo{α:Type}(f : α→Value)(ys:List α)(z:Value)(n:Nat):(ys.take 0).map f++List.replicate (n-0) z=List.replicate n z:=by simp
theorem zfR{α:Type}(f : α→Value)(ys:List α)(z:Value)(n:Nat)(hy:ys.length=n):(ys.take n).map f++List.replicate (n-n) z=ys.map f:=by
 rw[List.take_of_length_le (by omega)];simp
end
section
open Flt Bn
def wd:List (List Bool)→Nat→Nat
 | [],_=>0
 | l :: t,i=>(if l.getD i false then 1 else 0)+2*wd t i
end
section
open Go.RowKit
theorem zcc:(Tryz.prog.info? 3).map (fun i=>(i.zero,i.size,i.bytes))=some (some (.int .i64 0),1,8):=by kernel_rfl
end
end Go.Proofs.YtbkgkoenppkhpaaGreatDoor
