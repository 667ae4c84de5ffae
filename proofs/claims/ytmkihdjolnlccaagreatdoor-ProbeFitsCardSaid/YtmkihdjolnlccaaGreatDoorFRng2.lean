/- Plain facts: the words of rungs, what they read as, and their order. No program. -/
import Derived.Test.YtmkihdjolnlccaaGreatDoorFScal
import Derived.Test.YtmkihdjolnlccaaGreatDoorFLdx2
import Derived.Test.YtmkihdjolnlccaaGreatDoorFRat4
import Derived.Test.YtmkihdjolnlccaaGreatDoorFText
namespace Go.Proofs.YtmkihdjolnlccaaGreatDoor
open Go.RowKit Bn
open Flt
theorem word_read (s:Bool) {n:Nat} {e:Int} (h:Rnd n e) (hn:n<16777216) (hR:rung n e<2139095040):Ieee.single.read (Ieee.single.word s (rung n e)) = .number s n e:=by
 have hpl:=h.place
 have hlo:=h.lo
 unfold rung at *
 unfold Ieee.Format.read Ieee.Format.word
 rw [sgl_sign,sgl_binade,sgl_inf,sgl_least]
 generalize hRR:(e+149).toNat*8388608+n=R at *
 have e1:(if s=true then 2147483648+R else R) % 2147483648=R:=by split<;>omega
 have e2:((if s=true then 2147483648+R else R) / 2147483648 % 2==1)=s:=by
  cases s
  ·simp;omega
  ·simp;omega
 simp only [e1,e2]
 by_cases hs:R<8388608
 ·rw [if_pos hs]
  congr 1<;>omega
 ·rw [if_neg hs,if_pos hR]
  congr 1<;>omega
theorem nom_word {d e:Int} (hd:d≠0) (hd2:d.natAbs<16777216) (he : -149≤e) (he2:e+d.natAbs.log2≤127) :
  ∃ (n':Nat) (e':Int),nomW d e=Ieee.single.word (decide (d<0)) (rung n' e')∧Rnd n' e'∧0<n'∧rung n' e'<2139095040∧n'*2 ^ (e'+149).toNat=d.natAbs*2 ^ (e+149).toNat∧n'<16777216∧e'≤104:=by
 obtain ⟨k,hk,hK0,hK,hlk,hlk2,hq1,hq2,hn2⟩:=sgW_parts (n:=d.natAbs) (e:=e) (by omega) hd2 he he2
 have hkn:(e - sgP d.natAbs e).toNat=k:=by omega
 refine ⟨d.natAbs*2 ^ k,sgP d.natAbs e,?_,⟨hq1,by omega,hn2⟩,hK0,?_,?_,hK,hq2⟩
 ·unfold nomW sgW rung
  rw [if_neg hd,hkn]
 ·unfold rung;omega
 ·rw [Nat.mul_assoc,←Nat.pow_add,show k+(sgP d.natAbs e+149).toNat=(e+149).toNat from by omega]
structure Parts (b x y y2:Nat) (i z:Int):Prop where
 fine:Fine b x
 frx:∀ W:World,Calls Tryz.prog 110 #[.float .f64 x] W fun e w'=>e = .returned (.tuple #[.float .f64 y,.int .i64 i])∧W=w'
 mul:floatBits .mul .f64 y 4715268809856909312=some y2
 int:floatToIntVal .f64 y2 .i64=some z
 z0 : -16777216<z
 z1:z<16777216
 i0 : -1000≤i
 i1:i≤1000
theorem lowQ_top_le (g:Bool) (t b:Nat):(lowQ g t b).top≤t:=by
 unfold lowQ;split
 ·exact Nat.zero_le _
 ·split
  ·exact Nat.zero_le _
  ·exact Nat.div_le_self _ _
theorem lowQ_bot_le (g:Bool) (t b:Nat):(lowQ g t b).bot≤b+1:=by
 unfold lowQ;split
 ·exact Nat.zero_le _
 ·split
  ·show 1≤_;omega
  ·exact Nat.le_trans (Nat.div_le_self _ _) (Nat.le_succ _)
theorem digs_pow_le {x s k:Nat} (h:x≤2 ^ s) (hk:s<64*k):(digs x).length≤k:=by
 refine digs_length_le ?_
 have e:B ^ k=2 ^ (64*k):=by rw [Nat.pow_mul];rfl
 rw [e]
 exact Nat.lt_of_le_of_lt h (Nat.pow_lt_pow_right (by omega) hk)
theorem digs_one_len {x:Nat} (h:x≤16777216):(digs x).length≤1:=digs_length_le (k:=1) (by rw [B_def];omega)
set_option maxHeartbeats 4000000 in
set_option maxRecDepth 100000 in
theorem Exact_down {b x y y2:Nat} {i z:Int} (w:World) (hT:Tabs w) (h:Parts b x y y2 i z) (hi:i<24) :
  Calls Tryz.prog 47 #[.float .f32 b] w (RetText w (writeT (lowQ (decide (z<0)) z.natAbs (2 ^ (24 - i).toNat))) (writeE (lowQ (decide (z<0)) z.natAbs (2 ^ (24 - i).toNat)))):=by
 have hcv:=fun W:World=>run_convert_float_float (P:=Tryz.prog) W 64 163 .f32 .f64 b x (by kernel_rfl) (by kernel_rfl) h.fine.conv
 have hif:=isFinite_fine w h.fine
 have hml:=fun W:World=>run_float_arith (P:=Tryz.prog) W .mul 163 .f64 y 4715268809856909312 y2 h.mul
 have hci:=fun W:World=>run_convert_float_int (P:=Tryz.prog) W 163 3 .f64 .i64 y2 z (by kernel_rfl) (by kernel_rfl) h.int
 obtain ⟨_,hfx,_,_,z0,z1,i0,i1⟩:=h
 have w1:wrap64 (i - 24)=i - 24:=IntWalk.wrap64_in _ (by omega)
 have w2:wrap64 (-(i - 24)) = -(i - 24):=IntWalk.wrap64_in _ (by omega)
 obtain ⟨s,hs⟩:∃ s:Nat,(24 - i).toNat=s∧i=24 - (s:Int):=⟨(24 - i).toNat,rfl,by omega⟩
 have hs1:s≤2000:=by omega
 have hmx:max (i - 24) (-(i - 24))=(s:Int):=by omega
 rw [hs.1]
 have HI:=Lib.hid hif
 have HFX:=Lib.hid hfx
 have HS:=Lib.hid hs
 clear hif hfx hs
 go_enter Tryz.func47,Tryz.ntmps47
 go_wp2_with fail
 refine HI.out.mono ?_
 rintro e w0 ⟨rfl,rfl⟩
 go_wp2_with fail
 refine (HFX.out _).mono ?_
 rintro e w0 ⟨rfl,rfl⟩
 go_wp2_with fail
 refine (integer_any z _ (by omega) (by omega)).mono ?_
 rintro e wa ⟨v,rfl,⟨A,n,c,A',n',c',rfl,h1,h2⟩,hb⟩
 have hb2:Below wa.heap.size wa (wa.alloc (.cells #[.bool (decide (z<0)),.slice A n c,.slice A' n' c'] 159)):=(Below.refl _ _).alloc (Nat.le_refl _) _
 go_wp2_with fail
 refine (naturalOf_any 1 _ (by omega) (by omega)).mono ?_
 rintro e wc ⟨A3,n3,c3,rfl,h3,hb3⟩
 go_wp2_with fail
 have h3':NatS wc wc.heap.size A3 n3 c3 1:=h3
 have l3:n3≤1:=by rw [←h3'.len];exact digs_one_len (by omega)
 have lz:z.natAbs≤16777216:=by omega
 have l1:n≤1:=by rw [←h1.len];exact digs_one_len lz
 refine (shiftedLeft_any A3 n3 c3 1 s wc h3' (by omega) (by omega)).mono ?_
 rintro e wd ⟨A4,n4,c4,rfl,h4,hb4⟩
 rw [Nat.one_mul] at h4
 have l4:n4≤64:=by rw [←h4.len];exact digs_pow_le (Nat.le_refl _) (by omega)
 have hsc:wa.heap.size<wc.heap.size:=by have:=hb3.size;simp at this;omega
 have hx4:ResBlk wd wa.heap.size (decide (z<0)) (.slice A n c) (.slice A' n' c'):=((ResBlk.new wa _ _ _).below hb3 (by simp)).below hb4 hsc
 have hTd:Tabs wd:=(((hT.later hb).later hb2).later hb3).later hb4
 have hBd:Below w.heap.size w wd:=(((hb.trans (hb2.mono hb.size)).trans (hb3.mono (by have:=hb.size;simp;omega)))).trans (hb4.mono (by have:=hb.size;omega))
 have hlo:=lowest_any (decide (z<0)) A A4 n c n4 c4 z.natAbs (2 ^ s) wd hTd (((h1.later hb2).later hb3).later hb4) h4 (by omega) (by omega)
 have lt:=lowQ_top_le (decide (z<0)) z.natAbs (2 ^ s)
 have lb:=lowQ_bot_le (decide (z<0)) z.natAbs (2 ^ s)
 have k1:(digs (lowQ (decide (z<0)) z.natAbs (2 ^ s)).top).length≤1:=digs_one_len (by omega)
 have k2:(digs (lowQ (decide (z<0)) z.natAbs (2 ^ s)).bot).length≤64:=digs_pow_le (s:=s+1) (by have:=Nat.two_pow_pos s;rw [Nat.pow_succ];omega) (by omega)
 generalize lowQ (decide (z<0)) z.natAbs (2 ^ s)=q at *
 obtain ⟨x0,x1,x2,_,_,_,xl⟩:=hx4.cells
 have HLO:=Lib.hid hlo
 clear hlo
 go_wp2_with fail
 refine HLO.out.mono ?_
 rintro e we ⟨v,rfl,⟨A5,n5,c5,A6,n6,c6,rfl,h5,h6⟩,hb5⟩
 have hwr:=write_any q A5 A6 n5 c5 n6 c6 we (hTd.later hb5) h5 h6 (by rw [←h5.len];omega) (by rw [←h6.len];omega)
 have HWR:=Lib.hid hwr
 clear hwr HLO
 go_wp2_with fail
 refine HWR.out.mono ?_
 rintro e wf ⟨S,rfl,hS,hb6⟩
 go_wp2_with fail
 go_ret2
 exact ⟨S,rfl,hS,(hBd.trans (hb5.mono hBd.size)).trans (hb6.mono (by have:=hBd.size;have:=hb5.size;omega))⟩
set_option maxHeartbeats 4000000 in
set_option maxRecDepth 100000 in
theorem Exact_up {b x y y2:Nat} {i z:Int} (w:World) (hT:Tabs w) (h:Parts b x y y2 i z) (hi:24≤i) :
  Calls Tryz.prog 47 #[.float .f32 b] w (RetText w (writeT ⟨decide (z<0),z.natAbs*2 ^ (i - 24).toNat,1⟩) (writeE ⟨decide (z<0),z.natAbs*2 ^ (i - 24).toNat,1⟩)):=by
 have hcv:=fun W:World=>run_convert_float_float (P:=Tryz.prog) W 64 163 .f32 .f64 b x (by kernel_rfl) (by kernel_rfl) h.fine.conv
 have hif:=isFinite_fine w h.fine
 have hml:=fun W:World=>run_float_arith (P:=Tryz.prog) W .mul 163 .f64 y 4715268809856909312 y2 h.mul
 have hci:=fun W:World=>run_convert_float_int (P:=Tryz.prog) W 163 3 .f64 .i64 y2 z (by kernel_rfl) (by kernel_rfl) h.int
 obtain ⟨_,hfx,_,_,z0,z1,i0,i1⟩:=h
 have w1:wrap64 (i - 24)=i - 24:=IntWalk.wrap64_in _ (by omega)
 have w2:wrap64 (-(i - 24)) = -(i - 24):=IntWalk.wrap64_in _ (by omega)
 obtain ⟨s,hs⟩:∃ s:Nat,(i - 24).toNat=s∧i=24+(s:Int):=⟨(i - 24).toNat,rfl,by omega⟩
 have hs1:s≤2000:=by omega
 have hmx:max (i - 24) (-(i - 24))=(s:Int):=by omega
 rw [hs.1]
 have HI:=Lib.hid hif
 have HFX:=Lib.hid hfx
 have HS:=Lib.hid hs
 clear hif hfx hs
 go_enter Tryz.func47,Tryz.ntmps47
 go_wp2_with fail
 refine HI.out.mono ?_
 rintro e w0 ⟨rfl,rfl⟩
 go_wp2_with fail
 refine (HFX.out _).mono ?_
 rintro e w0 ⟨rfl,rfl⟩
 go_wp2_with fail
 refine (integer_any z _ (by omega) (by omega)).mono ?_
 rintro e wa ⟨v,rfl,⟨A,n,c,A',n',c',rfl,h1,h2⟩,hb⟩
 have hb2:Below wa.heap.size wa (wa.alloc (.cells #[.bool (decide (z<0)),.slice A n c,.slice A' n' c'] 159)):=(Below.refl _ _).alloc (Nat.le_refl _) _
 go_wp2_with fail
 refine (naturalOf_any 1 _ (by omega) (by omega)).mono ?_
 rintro e wc ⟨A3,n3,c3,rfl,h3,hb3⟩
 go_wp2_with fail
 have h3':NatS wc wc.heap.size A3 n3 c3 1:=h3
 have l3:n3≤1:=by rw [←h3'.len];exact digs_one_len (by omega)
 have lz:z.natAbs≤16777216:=by omega
 have l1:n≤1:=by rw [←h1.len];exact digs_one_len lz
 refine (shiftedLeft_any A3 n3 c3 1 s wc h3' (by omega) (by omega)).mono ?_
 rintro e wd ⟨A4,n4,c4,rfl,h4,hb4⟩
 rw [Nat.one_mul] at h4
 have l4:n4≤64:=by rw [←h4.len];exact digs_pow_le (Nat.le_refl _) (by omega)
 have hsc:wa.heap.size<wc.heap.size:=by have:=hb3.size;simp at this;omega
 have hx4:ResBlk wd wa.heap.size (decide (z<0)) (.slice A n c) (.slice A' n' c'):=((ResBlk.new wa _ _ _).below hb3 (by simp)).below hb4 hsc
 have hTd:Tabs wd:=(((hT.later hb).later hb2).later hb3).later hb4
 have hBd:Below w.heap.size w wd:=(((hb.trans (hb2.mono hb.size)).trans (hb3.mono (by have:=hb.size;simp;omega)))).trans (hb4.mono (by have:=hb.size;omega))
 have ht1:=times_any A A4 n c n4 c4 z.natAbs (2 ^ s) wd.drew ((((h1.later hb2).later hb3).later hb4).later (Below.refl _ _).drew) (h4.later (Below.refl _ _).drew) (by omega) (by omega)
 have hBdd:Below w.heap.size w wd.drew:=hBd.drew
 have hTdd:Tabs wd.drew:=hTd.later (Below.refl _ _).drew
 obtain ⟨x0,x1,x2,_,_,_,xl⟩:=hx4.cells
 have HT1:=Lib.hid ht1
 clear ht1
 go_wp2_with fail
 go_region_held3 (fun w'=>w'.cell? ⟨wa.heap.size,0,none⟩=some (.bool (decide (z<0)))∧w'.cell? ⟨wa.heap.size,1,none⟩=some (.slice A n c))
  ((first | exact ⟨x0,x1⟩ | exact ⟨((hb5.cell (p:=⟨wa.heap.size,0,none⟩) xl).trans x0),((hb5.cell (p:=⟨wa.heap.size,1,none⟩) xl).trans x1)⟩ | exact ⟨((hb6.cell (p:=⟨wa.heap.size,0,none⟩) al6).trans ((hb5.cell (p:=⟨wa.heap.size,0,none⟩) xl).trans x0)),((hb6.cell (p:=⟨wa.heap.size,1,none⟩) al6).trans ((hb5.cell (p:=⟨wa.heap.size,1,none⟩) xl).trans x1))⟩ | exact ⟨((hb7.cell (p:=⟨wa.heap.size,0,none⟩) al7).trans ((hb6.cell (p:=⟨wa.heap.size,0,none⟩) al6).trans ((hb5.cell (p:=⟨wa.heap.size,0,none⟩) xl).trans x0))),((hb7.cell (p:=⟨wa.heap.size,1,none⟩) al7).trans ((hb6.cell (p:=⟨wa.heap.size,1,none⟩) al6).trans ((hb5.cell (p:=⟨wa.heap.size,1,none⟩) xl).trans x1)))⟩))
  (first
   |(go_at_call 116;refine (HT1.out).mono ?_;rintro e w5 ⟨A5,m5,c5,rfl,hn5,hb5⟩;have al6:=Nat.lt_of_lt_of_le xl hb5.size)
   |(go_at_call 112;refine (naturalOf_any 1 w5 (by omega) (by omega)).mono ?_;rintro e w6 ⟨A6,m6,c6,rfl,hn6,hb6⟩;have al7:=Nat.lt_of_lt_of_le al6 hb6.size)
   |(go_at_call 115;refine (write_any ⟨decide (z<0),z.natAbs*2 ^ s,1⟩ A5 A6 m5 c5 m6 c6 w6 ((hTdd.later hb5).later hb6) (hn5.later hb6) hn6 (by have:=times_len hn5 (Nat.le_of_eq h1.len) (Nat.le_of_eq h4.len);omega) (by have:=hn6.len;have:=digs_one_len (x:=1) (by omega);have e1:Int.toNat 1=1:=rfl;rw [←hn6.len,e1];omega)).mono ?_;rintro e w7 ⟨S,rfl,hS,hb7⟩))
 go_wp2_with fail
 go_ret2
 exact ⟨S,rfl,hS,((hBdd.trans (hb5.mono hBdd.size)).trans (hb6.mono (by have:=hBdd.size;have:=hb5.size;omega))).trans (hb7.mono (by have:=hBdd.size;have:=hb5.size;have:=hb6.size;omega))⟩
def exQ (b:Nat):Q:=
 match Ieee.single.read b with
 | .number s m p=>if m=0 then ⟨false,0,1⟩ else if p+m.log2<23 then lowQ s (m*2 ^ (23 - m.log2)) (2 ^ (23 - (p+m.log2)).toNat) else ⟨s,m*2 ^ (23 - m.log2)*2 ^ (p+m.log2 - 23).toNat,1⟩
 | _=>⟨false,0,1⟩
theorem parts_pos {b m:Nat} {s:Bool} {p:Int} (h:Ieee.single.read b = .number s m p) (hm:0<m) :
  Parts b (dw s (sg m) (p+m.log2 - 52)) (dw s (sg m) (-53)) (dw s (sg m) (-29)) (p+m.log2+1) (Ieee.signed s (m*2 ^ (23 - m.log2)) 0) ∧
   decide (Ieee.signed s (m*2 ^ (23 - m.log2)) 0<0)=s∧(Ieee.signed s (m*2 ^ (23 - m.log2)) 0).natAbs=m*2 ^ (23 - m.log2):=by
 obtain ⟨_,hn,hl⟩:=widen h hm
 obtain ⟨h1,h2,h3⟩:=sgl_fin h
 obtain ⟨hi,hj,hp⟩:=int_29 s hm hl h1
 have hf:∀ W:World,Calls Tryz.prog 110 #[.float .f64 (dw s (sg m) (p+m.log2 - 52))] W fun e w'=>e = .returned (.tuple #[.float .f64 (dw s (sg m) (-53)),.int .i64 (p+m.log2+1)])∧W=w':=by
  intro W
  have:=Frexp_of W (frexp_dw s W hn)
  rw [show p+(m.log2:Int) - 52+53=p+m.log2+1 from by omega] at this
  exact this
 have hmul:=mul_24 s (m:=sg m) ⟨hn.lo,hn.hi,by omega,by omega⟩
 have hfine:=fine_pos h hm
 generalize m*2 ^ (23 - m.log2)=J at *
 have hv:Ieee.signed s J 0=if s then -(J:Int) else (J:Int):=by unfold Ieee.signed;rw [Nat.shiftLeft_zero]
 have hb : -16777216<Ieee.signed s J 0∧Ieee.signed s J 0<16777216:=by rw [hv];split<;>omega
 refine ⟨⟨hfine,hf,hmul,hi,hb.1,hb.2,by omega,by omega⟩,?_,?_⟩
 ·rw [hv];cases s
  ·exact decide_eq_false (by rw [if_neg (by decide)];omega)
  ·exact decide_eq_true (by rw [if_pos rfl];omega)
 ·rw [hv];split<;>omega
theorem parts_zero {b:Nat} {s:Bool} {p:Int} (h:Ieee.single.read b = .number s 0 p) :
  Parts b (Ieee.double.word s 0) (Ieee.double.word s 0) (Ieee.double.word s 0) 0 0:=
 ⟨fine_zero h,fun W=>Frexp_of W (frexp_zero _ W (eq_zero s)),mul_zero_24 s,int_zero s,by omega,by omega,by omega,by omega⟩
theorem Exact_fin {b m:Nat} {s:Bool} {p:Int} (w:World) (hT:Tabs w) (h:Ieee.single.read b = .number s m p) :
  Calls Tryz.prog 47 #[.float .f32 b] w (RetText w (writeT (exQ b)) (writeE (exQ b))):=by
 unfold exQ
 rw [h]
 dsimp only
 by_cases hm:m=0
 ·subst hm
  have:=Exact_down w hT (parts_zero h) (by omega)
  rw [if_pos rfl]
  have e:lowQ (decide ((0:Int)<0)) (0:Int).natAbs (2 ^ (24 - 0:Int).toNat)=⟨false,0,1⟩:=by
   unfold lowQ
   rw [if_neg (by have:=Nat.two_pow_pos (24 - 0:Int).toNat;omega),if_pos (by rfl)]
  rw [e] at this
  exact this
 ·rw [if_neg hm]
  obtain ⟨hP,hs,hz⟩:=parts_pos h (by omega)
  by_cases hc:p+m.log2<23
  ·have:=Exact_down w hT hP (by omega)
   rw [hs,hz,show (24 - (p+(m.log2:Int)+1))=23 - (p+m.log2) from by omega] at this
   rw [if_pos hc]
   exact this
  ·have:=Exact_up w hT hP (by omega)
   rw [hs,hz,show (p+(m.log2:Int)+1 - 24)=p+m.log2 - 23 from by omega] at this
   rw [if_neg hc]
   exact this
theorem isFinite_inf {b x:Nat} (w:World) (hc:floatToFloatBits .f32 b .f64=some x) (hx:x<18446744073709551616)
  (hn:(FloatKind.f64.format.order x x != some .eq)=false) (hi:(FloatKind.f64.format.order (absB x) 9218868437227405311==some .gt)=true) :
  Calls Tryz.prog 109 #[.float .f32 b] w fun e w'=>e = .returned (.bool false)∧w=w':=by
 have hcv:=fun W:World=>run_convert_float_float (P:=Tryz.prog) W 64 163 .f32 .f64 b x (by kernel_rfl) (by kernel_rfl) hc
 have hnn:=isNaN_any x w
 rw [hn] at hnn
 have hin:=isInf_any x w hx
 rw [hi] at hin
 have HN:=Lib.hid hnn
 have HI:=Lib.hid hin
 clear hnn hin hn hi hc
 go_enter Tryz.func109,Tryz.ntmps109
 go_wp2_with fail
 refine HN.out.mono ?_
 rintro e w1 ⟨rfl,rfl⟩
 go_wp2_with fail
 refine HI.out.mono ?_
 rintro e w1 ⟨rfl,rfl⟩
 go_wp2_with fail
 go_ret
 exact ⟨rfl,rfl⟩
theorem inf_fine (s:Bool) {b:Nat} (h:Ieee.single.read b = .infinity s) (w:World):Calls Tryz.prog 109 #[.float .f32 b] w fun e w'=>e = .returned (.bool false)∧w=w':=by
 refine isFinite_inf (x:=Ieee.double.word s 9218868437227405312) w ?_ ?_ ?_ ?_
 ·have h':FloatKind.f32.decode b = .infinity s:=h
  unfold floatToFloatBits
  rw [if_neg (by decide),h']
  show some (Ieee.double.word s Ieee.double.infRung)=_
  rw [dbl_inf]
 ·cases s<;>decide +kernel
 ·cases s<;>decide +kernel
 ·cases s<;>decide +kernel
def nanW (b:Nat) (W:World):Nat:=(Question.nanConv .f64 b).cut (W.tape W.drawn (Question.nanConv .f64 b))
theorem nanW_read (b:Nat) (W:World):∃ s f,Ieee.double.read (nanW b W) = .nan s f:=by
 unfold nanW Question.cut
 generalize W.tape W.drawn (Question.nanConv .f64 b)=t
 dsimp only
 have e63:(2:Nat) ^ 63=9223372036854775808:=by decide
 have e52:(2:Nat) ^ 52=4503599627370496:=by decide
 rw [e63,e52]
 have h1:t % 2<2:=Nat.mod_lt _ (by omega)
 have h2:t / 2 % (4503599627370496 - 1)<4503599627370495:=Nat.mod_lt _ (by omega)
 generalize t % 2=s at h1
 generalize t / 2 % (4503599627370496 - 1)=f at h2
 unfold Ieee.Format.read
 rw [dbl_sign,dbl_binade,dbl_inf]
 have e1:(s*9223372036854775808+9218868437227405312+1+f) % 9223372036854775808=9218868437227405312+1+f:=by omega
 dsimp only
 rw [e1,if_neg (by omega),if_neg (by omega),if_neg (by omega)]
 exact ⟨_,_,rfl⟩
theorem nanW_nan (b:Nat) (W:World):(FloatKind.f64.format.order (nanW b W) (nanW b W) != some .eq)=true:=by
 obtain ⟨s,f,h⟩:=nanW_read b W
 have:FloatKind.f64.format.order (nanW b W) (nanW b W)=none:=by
  show (Ieee.double.read _).order (Ieee.double.read _)=_
  rw [h];rfl
 rw [this];rfl
theorem convert_nan {P:Program} (src dst:TypeId) (b:Nat) {s:Bool} {f:Nat} (hs:(P.underlying src).isSome=true) (hd:P.underlying dst=some (.float .f64)) (h:Ieee.single.read b = .nan s f) (W:World) :
  (convert src dst (.float .f32 b)).run P W = .ok (.float .f64 (nanW b W)) W.drew:=by
 obtain ⟨u,hs'⟩:=Option.isSome_iff_exists.1 hs
 have h':FloatKind.f32.decode b = .nan s f:=h
 have hf:(Question.nanConv .f64 b).forced=false:=rfl
 cases u<;>simp [convert,run_underlying hs',run_underlying hd,Conv.floatToFloat,h',hf,nanW]
theorem isFinite_nan {b:Nat} {s:Bool} {f:Nat} (h:Ieee.single.read b = .nan s f) (w:World):Calls Tryz.prog 109 #[.float .f32 b] w fun e w'=>e = .returned (.bool false)∧Below w.heap.size w w':=by
 have hcv:=convert_nan (P:=Tryz.prog) 64 163 b (by kernel_rfl) (by kernel_rfl) h
 have hnn:=isNaN_any (nanW b w) w.drew
 rw [nanW_nan] at hnn
 have HN:=Lib.hid hnn
 clear hnn
 have hb:Below w.heap.size w w.drew:=(Below.refl _ _).drew
 go_enter Tryz.func109,Tryz.ntmps109
 go_wp2_with fail
 refine HN.out.mono ?_
 rintro e w1 ⟨rfl,rfl⟩
 go_wp2_with fail
 go_ret
 exact ⟨rfl,hb⟩
theorem isFinite_any (b:Nat) (w:World):Calls Tryz.prog 109 #[.float .f32 b] w fun e w'=>e = .returned (.bool (fin Ieee.single b))∧Below w.heap.size w w':=by
 unfold fin
 rcases h:Ieee.single.read b with ⟨s,m,p⟩ | s | ⟨s,f⟩
 ·have hx:∃ x,Fine b x:=by
   rcases Nat.eq_zero_or_pos m with rfl | hm
   ·exact ⟨_,fine_zero h⟩
   ·exact ⟨_,fine_pos h hm⟩
  obtain ⟨x,hx⟩:=hx
  refine (isFinite_fine w hx).mono ?_
  rintro e w' ⟨rfl,rfl⟩
  exact ⟨rfl,Below.refl _ _⟩
 ·refine (inf_fine s h w).mono ?_
  rintro e w' ⟨rfl,rfl⟩
  exact ⟨rfl,Below.refl _ _⟩
 ·exact isFinite_nan h w
theorem Exact_bad {b:Nat} (w:World) (h:fin Ieee.single b=false):Calls Tryz.prog 47 #[.float .f32 b] w (RetText w [] 1):=by
 have h1:=isFinite_any b w
 rw [h] at h1
 have h2:=Lib.hid h1
 clear h1 h
 go_enter Tryz.func47,Tryz.ntmps47
 go_wp2_with fail
 refine h2.out.mono ?_
 rintro e w1 ⟨rfl,hb⟩
 go_wp2_with fail
 go_ret2
 exact ⟨_,rfl,rfl,hb⟩
theorem Exact_any (b:Nat) (w:World) (hT:Tabs w) :
  Calls Tryz.prog 47 #[.float .f32 b] w (RetText w (if fin Ieee.single b then writeT (exQ b) else []) (if fin Ieee.single b then writeE (exQ b) else 1)):=by
 by_cases hf:fin Ieee.single b=true
 ·rw [if_pos hf,if_pos hf]
  unfold fin at hf
  rcases h:Ieee.single.read b with ⟨s,m,p⟩ | s | ⟨s,f⟩
  ·exact Exact_fin w hT h
  ·rw [h] at hf;cases hf
  ·rw [h] at hf;cases hf
 ·rw [if_neg hf,if_neg hf]
  exact Exact_bad w (by simpa using hf)
def exT (b:Nat):List UInt8:=if fin Ieee.single b then writeT (exQ b) else []
def RetStr (w:World) (l:List UInt8) (e:Ending) (w':World):Prop:=∃ s:ByteArray,e = .returned (.string s)∧s.data.toList=l∧Below w.heap.size w w'
theorem exact_any (b:Nat) (w:World) (hT:Tabs w):Calls Tryz.prog 92 #[.float .f32 b] w (RetStr w (exT b)):=by
 have h:=Exact_any b w hT
 unfold exT
 generalize (if fin Ieee.single b=true then writeT (exQ b) else [])=l at *
 generalize (if fin Ieee.single b=true then writeE (exQ b) else 1)=x at *
 have H:=Lib.hid h
 clear h
 go_enter Tryz.func92,Tryz.ntmps92
 go_wp2_with fail
 refine H.out.mono ?_
 rintro e w1 ⟨s,rfl,hs,hb⟩
 go_wp2_with fail
 go_ret
 exact ⟨s,rfl,hs,hb⟩
def ordO (a b:List UInt8):Int:=if readE a≠0 then 0 else if readE b≠0 then 0 else rcmp (readQ a) (readQ b)
def ordE (a b:List UInt8):Int:=if readE a≠0 then readE a else readE b
theorem checkGain_any (s:ByteArray) (w:World) (hT:Tabs w) (hs:s.size≤4294967296) :
  Calls Tryz.prog 145 #[.string s] w fun e w'=>
   e = .returned (.int .i64 (if ordE s.data.toList [48]=0∧ordO s.data.toList [48]≤0 then 3 else ordE s.data.toList [48]))∧Below w.heap.size w w':=by
 have h:=order_any s { data:=#[48] } w hT hs (by decide)
 have e1:(if readE s.data.toList≠0 then readE s.data.toList else readE ({ data:=#[48] }:ByteArray).data.toList)=ordE s.data.toList [48]:=rfl
 have e2:(if readE s.data.toList≠0 then 0 else if readE ({ data:=#[48] }:ByteArray).data.toList≠0 then 0 else rcmp (readQ s.data.toList) (readQ ({ data:=#[48] }:ByteArray).data.toList))=ordO s.data.toList [48]:=rfl
 rw [e1,e2] at h
 clear e1 e2
 generalize ordE s.data.toList [48]=x at *
 generalize ordO s.data.toList [48]=o at *
 have H:=Lib.hid h
 clear h
 by_cases hx:x=0
 ·subst hx
  by_cases ho:o≤0
  ·have hd:decide (o≤0)=true:=by simpa using ho
   rw [if_pos ⟨rfl,ho⟩]
   go_enter Tryz.func145,Tryz.ntmps145
   go_wp2_with fail
   refine H.out.mono ?_
   rintro e w1 ⟨rfl,hb⟩
   go_wp2_with fail
   go_ret
   exact ⟨rfl,hb⟩
  ·have hd:decide (o≤0)=false:=by simpa using ho
   rw [if_neg (fun h=>ho h.2)]
   go_enter Tryz.func145,Tryz.ntmps145
   go_wp2_with fail
   refine H.out.mono ?_
   rintro e w1 ⟨rfl,hb⟩
   go_wp2_with fail
   go_ret
   exact ⟨rfl,hb⟩
 ·have hd:(x==0)=false:=by simpa using hx
  rw [if_neg (fun h=>hx h.1)]
  go_enter Tryz.func145,Tryz.ntmps145
  go_wp2_with fail
  refine H.out.mono ?_
  rintro e w1 ⟨rfl,hb⟩
  go_wp2_with fail
  go_ret
  exact ⟨rfl,hb⟩
theorem writeT_len (q:Q):(writeT q).length≤1300:=by
 unfold writeT
 by_cases h:writeE q=0
 ·rw [if_pos h]
  unfold writeE at h
  by_cases hb:q.bot=0
  ·rw [if_pos hb] at h;cases h
  ·rw [if_neg hb] at h
   by_cases hl:600<(Lib.decDigits q.top).length∨600<(Lib.decDigits q.bot).length
   ·rw [if_pos hl] at h;cases h
   ·unfold writeS
    rw [List.length_append]
    have h1:(if q.neg=true then 45 :: Lib.decDigits q.top else Lib.decDigits q.top).length≤601:=by
     split
     ·rw [List.length_cons];omega
     ·omega
    have h2:(if q.bot=1 then [] else 47 :: Lib.decDigits q.bot).length≤601:=by
     split
     ·exact Nat.zero_le _
     ·rw [List.length_cons];omega
    omega
 ·rw [if_neg h];exact Nat.zero_le _
theorem exT_len (b:Nat):(exT b).length≤1300:=by
 unfold exT;split
 ·exact writeT_len _
 ·exact Nat.zero_le _
def belowB (v:List UInt8) (n e:Nat):Bool:=
 if (FloatKind.f32.format.order n e != some .eq)=true then FloatKind.f32.format.order n e==some .lt else decide (ordO v (exT e)<0)
theorem isBelow_any (s:ByteArray) (n ed:Nat) (w:World) (hT:Tabs w) (hs:s.size≤4294967296) :
  Calls Tryz.prog 158 #[.string s,.float .f32 n,.float .f32 ed] w fun e w'=>e = .returned (.bool (belowB s.data.toList n ed))∧Below w.heap.size w w':=by
 unfold belowB
 by_cases hq:(FloatKind.f32.format.order n ed != some .eq)=true
 ·rw [if_pos hq]
  go_enter Tryz.func158,Tryz.ntmps158
  go_wp2_with fail
  go_ret
  exact ⟨rfl,Below.refl _ _⟩
 ·rw [if_neg hq]
  have hq':(FloatKind.f32.format.order n ed != some .eq)=false:=by simpa using hq
  have h:=exact_any ed w hT
  have hl:=exT_len ed
  generalize exT ed=l at *
  have H:=Lib.hid h
  clear h hq
  go_enter Tryz.func158,Tryz.ntmps158
  go_wp2_with fail
  refine H.out.mono ?_
  rintro e w1 ⟨t,rfl,ht,hb⟩
  have hsz:t.size=l.length:=by rw [←ht];exact (Array.length_toList).symm
  have h2:=order_any s t w1 (hT.later hb) hs (by omega)
  rw [ht] at h2
  have e2:(if readE s.data.toList≠0 then 0 else if readE l≠0 then 0 else rcmp (readQ s.data.toList) (readQ l))=ordO s.data.toList l:=rfl
  have e3:(if readE s.data.toList≠0 then readE s.data.toList else readE l)=ordE s.data.toList l:=rfl
  rw [e2,e3] at h2
  clear e2 e3
  have H2:=Lib.hid h2
  clear h2 H
  go_wp2_with fail
  refine H2.out.mono ?_
  rintro e w2 ⟨rfl,hb2⟩
  go_wp2_with fail
  go_ret
  exact ⟨rfl,hb.trans (hb2.mono hb.size)⟩
def sI (p:Q):Int:=if p.neg then -(p.top:Int) else (p.top:Int)
theorem lowQ_low (neg:Bool) (t b:Nat) (hb:0<b):LowQ (lowQ neg t b):=by
 unfold lowQ
 rw [if_neg (by omega)]
 split
 ·exact ⟨by decide,by decide,fun h=>by cases h⟩
 ·rename_i ht
  have hg:0<Nat.gcd t b:=Nat.gcd_pos_of_pos_right _ hb
  refine ⟨Nat.div_pos (Nat.gcd_le_right _ hb) hg,(Nat.gcd_div (Nat.gcd_dvd_left t b) (Nat.gcd_dvd_right t b)).trans (Nat.div_self hg),fun _=>Nat.div_pos (Nat.gcd_le_left _ (by omega)) hg⟩
theorem exQ_val {b m:Nat} {s:Bool} {p:Int} (h:Ieee.single.read b = .number s m p) (hm:0<m) (hm2:m<16777216) (hp : -149≤p) (hp2:p≤104) :
  LowQ (exQ b)∧(exQ b).neg=s∧(exQ b).top*2 ^ 149=m*2 ^ (p+149).toNat*(exQ b).bot∧(exQ b).top<2 ^ 200∧(exQ b).bot<2 ^ 200:=by
 have hl:m.log2<24:=(Nat.log2_lt (by omega)).2 (by omega)
 unfold exQ
 rw [h]
 dsimp only
 rw [if_neg (by omega)]
 have hm24:m<2 ^ 24:=by
  have e24:(2:Nat) ^ 24=16777216:=by decide
  omega
 by_cases hc:p+(m.log2:Int)<23
 ·rw [if_pos hc]
  obtain ⟨j,hj⟩:∃ j:Nat,(23 - (p+(m.log2:Int))).toNat=j:=⟨_,rfl⟩
  rw [hj]
  have hT:0<m*2 ^ (23 - m.log2):=Nat.mul_pos hm (Nat.two_pow_pos _)
  have hD:0<2 ^ j:=Nat.two_pow_pos _
  have hg:0<Nat.gcd (m*2 ^ (23 - m.log2)) (2 ^ j):=Nat.gcd_pos_of_pos_right _ hD
  refine ⟨lowQ_low _ _ _ hD,?_⟩
  have e:m*2 ^ (23 - m.log2)*2 ^ 149=m*2 ^ (p+149).toNat*2 ^ j:=by
   rw [Nat.mul_assoc,Nat.mul_assoc,←Nat.pow_add,←Nat.pow_add,show 23 - m.log2+149=(p+149).toNat+j by omega]
  have hTb:m*2 ^ (23 - m.log2)<2 ^ 200:=by
   have h1:m*2 ^ (23 - m.log2)<2 ^ 24*2 ^ (23 - m.log2):=Nat.mul_lt_mul_of_pos_right hm24 (Nat.two_pow_pos _)
   rw [←Nat.pow_add] at h1
   exact Nat.lt_of_lt_of_le h1 (Nat.pow_le_pow_right (by omega) (by omega))
  have hDb:2 ^ j<2 ^ 200:=Nat.pow_lt_pow_right (by omega) (by omega)
  unfold lowQ
  rw [if_neg (by omega),if_neg (by omega)]
  generalize m*2 ^ (23 - m.log2)=T at *
  generalize 2 ^ j=D at *
  have d1:=Nat.div_mul_cancel (Nat.gcd_dvd_left T D)
  have d2:=Nat.div_mul_cancel (Nat.gcd_dvd_right T D)
  have d3:=Nat.div_le_self T (Nat.gcd T D)
  have d4:=Nat.div_le_self D (Nat.gcd T D)
  dsimp only
  refine ⟨rfl,?_,Nat.lt_of_le_of_lt d3 hTb,Nat.lt_of_le_of_lt d4 hDb⟩
  apply Nat.eq_of_mul_eq_mul_right hg
  rw [Nat.mul_right_comm,d1,Nat.mul_assoc (m*2 ^ (p+149).toNat),d2]
  exact e
 ·rw [if_neg hc]
  have hT:0<m*2 ^ (23 - m.log2)*2 ^ (p+(m.log2:Int) - 23).toNat:=Nat.mul_pos (Nat.mul_pos hm (Nat.two_pow_pos _)) (Nat.two_pow_pos _)
  have e:m*2 ^ (23 - m.log2)*2 ^ (p+(m.log2:Int) - 23).toNat=m*2 ^ p.toNat:=by
   rw [Nat.mul_assoc,←Nat.pow_add,show 23 - m.log2+(p+(m.log2:Int) - 23).toNat=p.toNat by omega]
  refine ⟨⟨Nat.one_pos,Nat.gcd_one_right _,fun _=>hT⟩,rfl,?_,?_,?_⟩
  ·dsimp only
   rw [e,Nat.mul_one,Nat.mul_assoc,←Nat.pow_add,show p.toNat+149=(p+149).toNat by omega]
  ·dsimp only
   rw [e]
   have h1:m*2 ^ p.toNat<2 ^ 24*2 ^ p.toNat:=Nat.mul_lt_mul_of_pos_right hm24 (Nat.two_pow_pos _)
   rw [←Nat.pow_add] at h1
   exact Nat.lt_of_lt_of_le h1 (Nat.pow_le_pow_right (by omega) (by omega))
  ·exact Nat.one_lt_two_pow (by decide)
theorem dec_600 {x:Nat} (h:x<2 ^ 200):(Lib.decDigits x).length≤600:=by
 refine Nat.le_trans (Dec.dec_length_le (k:=200) (by decide) (Nat.lt_of_lt_of_le h ?_)) (by decide)
 exact Nat.pow_le_pow_left (by decide) _
end Go.Proofs.YtmkihdjolnlccaaGreatDoor
namespace Go.Proofs.YtmkihdjolnlccaaGreatDoor
open Go.RowKit Bn
def fracQ (num:Int) (den:Nat):Q:=lowQ (decide (num<0)) num.natAbs den
def addQ (p q:Q):Q:=fracQ (sI p*(q.bot:Int)+sI q*(p.bot:Int)) (p.bot*q.bot)
def subQ (p q:Q):Q:=fracQ (sI p*(q.bot:Int) - sI q*(p.bot:Int)) (p.bot*q.bot)
def mulQ (p q:Q):Q:=fracQ (sI p*sI q) (p.bot*q.bot)
def negQ (p:Q):Q:=⟨!p.neg && decide (0<p.top),p.top,p.bot⟩
def absQ (p:Q):Q:=⟨false,p.top,p.bot⟩
def signI (p:Q):Int:=if p.top=0 then 0 else if p.neg then -1 else 1
def cmpI (p q:Q):Int:=signI (subQ p q)
theorem fracQ_zero {den:Nat} (hd:0<den):fracQ 0 den=⟨false,0,1⟩:=by
 unfold fracQ lowQ
 rw [if_neg (by omega)]
 rfl
theorem fracQ_ne {num:Int} {den:Nat} (hd:0<den) (h0:num≠0):fracQ num den=⟨decide (num<0),num.natAbs / Nat.gcd num.natAbs den,den / Nat.gcd num.natAbs den⟩:=by
 unfold fracQ lowQ
 rw [if_neg (by omega),if_neg (by omega)]
theorem sI_low {num:Int} {den:Nat} (hd:0<den):sI (fracQ num den)*(den:Int)=num*((fracQ num den).bot:Int):=by
 by_cases h0:num=0
 ·subst h0
  rw [fracQ_zero hd]
  simp [sI]
 ·rw [fracQ_ne hd h0]
  unfold sI
  have d1:=Nat.div_mul_cancel (Nat.gcd_dvd_left num.natAbs den)
  have d2:=Nat.div_mul_cancel (Nat.gcd_dvd_right num.natAbs den)
  dsimp only
  generalize Nat.gcd num.natAbs den=g at *
  have hx:(num.natAbs / g)*den=num.natAbs*(den / g):=by
   conv=>lhs;rw [←d2]
   conv=>rhs;rw [←d1]
   rw [Nat.mul_comm (den / g),Nat.mul_assoc]
  have hx2:(((num.natAbs / g:Nat):Int))*(den:Int)=(num.natAbs:Int)*((den / g:Nat):Int):=by
   rw [←Int.natCast_mul,←Int.natCast_mul,hx]
  by_cases hn:num<0
  ·rw [decide_eq_true hn,if_pos rfl,Int.neg_mul,hx2,←Int.neg_mul,show -(num.natAbs:Int)=num by omega]
  ·rw [decide_eq_false hn,if_neg (by decide),hx2,show (num.natAbs:Int)=num by omega]
theorem fracQ_low (num:Int) {den:Nat} (hd:0<den):LowQ (fracQ num den):=lowQ_low _ _ _ hd
theorem signI_frac {num:Int} {den:Nat} (hd:0<den):signI (fracQ num den)=num.sign:=by
 by_cases h0:num=0
 ·subst h0
  rw [fracQ_zero hd]
  rfl
 ·rw [fracQ_ne hd h0]
  unfold signI
  have hg:0<Nat.gcd num.natAbs den:=Nat.gcd_pos_of_pos_right _ hd
  have hp:0<num.natAbs / Nat.gcd num.natAbs den:=Nat.div_pos (Nat.gcd_le_left _ (by omega)) hg
  dsimp only
  rw [if_neg (by omega)]
  by_cases hn:num<0
  ·rw [decide_eq_true hn,if_pos rfl,Int.sign_eq_neg_one_of_neg hn]
  ·rw [decide_eq_false hn,if_neg (by decide),Int.sign_eq_one_of_pos (by omega)]
theorem cmpI_sign {p q:Q} (hp:0<p.bot) (hq:0<q.bot):cmpI p q=(sI p*(q.bot:Int) - sI q*(p.bot:Int)).sign:=signI_frac (Nat.mul_pos hp hq)
theorem low_unique {p q:Q} (hp:LowQ p) (hq:LowQ q) (h:sI p*(q.bot:Int)=sI q*(p.bot:Int)):p=q:=by
 obtain ⟨pn,pt,pb⟩:=p
 obtain ⟨qn,qt,qb⟩:=q
 obtain ⟨p1,p2,p3⟩:=hp
 obtain ⟨q1,q2,q3⟩:=hq
 unfold sI at h
 dsimp only at *
 have hs:pn=qn∧pt*qb=qt*pb:=by
  have e1:(pt:Int)*(qb:Int)=((pt*qb:Nat):Int):=by rw [Int.natCast_mul]
  have e2:(qt:Int)*(pb:Int)=((qt*pb:Nat):Int):=by rw [Int.natCast_mul]
  cases pn<;>cases qn
  ·simp only [Bool.false_eq_true,if_false,e1,e2] at h
   exact ⟨rfl,by omega⟩
  ·simp only [Bool.false_eq_true,if_false,if_true,Int.neg_mul,e1,e2] at h
   have:=Nat.mul_pos (q3 rfl) p1
   omega
  ·simp only [Bool.false_eq_true,if_false,if_true,Int.neg_mul,e1,e2] at h
   have:=Nat.mul_pos (p3 rfl) q1
   omega
  ·simp only [if_true,Int.neg_mul,e1,e2] at h
   exact ⟨rfl,by omega⟩
 obtain ⟨rfl,hc⟩:=hs
 have hb1:pb ∣ qb:=(Nat.Coprime.dvd_of_dvd_mul_left (show Nat.Coprime pb pt from by rw [Nat.coprime_comm];exact p2) (by rw [hc];exact Nat.dvd_mul_left _ _))
 have hb2:qb ∣ pb:=(Nat.Coprime.dvd_of_dvd_mul_left (show Nat.Coprime qb qt from by rw [Nat.coprime_comm];exact q2) (by rw [←hc];exact Nat.dvd_mul_left _ _))
 obtain rfl:pb=qb:=Nat.dvd_antisymm hb1 hb2
 obtain rfl:pt=qt:=Nat.eq_of_mul_eq_mul_right p1 hc
 rfl
end Go.Proofs.YtmkihdjolnlccaaGreatDoor
