/- Contracts of package probe: top, isEnd; Ldexp of whole numbers with a sign. -/
import Derived.Test.YtmkihdjolnlccaaGreatDoorQLdx
import Derived.Test.YtmkihdjolnlccaaGreatDoorQScal
namespace Go.Proofs.YtmkihdjolnlccaaGreatDoor
open Go.RowKit
open Flt
theorem zp3 (s:Bool) {n:Nat} {e:Int} (w:World) (h0:0<n) (h1:n<9007199254740992) (he : -1022≤e+n.log2) (he2:e+n.log2≤1023) :
  Calls Tryz.prog 197 #[.float .f64 (dw s (sg n) (0+n.log2 - 52)),.int .i64 e] w fun e' w'=>e' = .returned (.float .f64 (dw s (sg n) (e+n.log2 - 52)))∧w=w':=by
 have e53:(2:Nat) ^ 53=9007199254740992:=by decide
 have a3:n.log2<53:=(Nat.log2_lt (by omega)).2 (by omega)
 have hn0:=zc9 (n:=n) (e:=0) h0 h1 (by omega) (by omega)
 have hn:=zc9 (n:=n) (e:=e) h0 h1 he he2
 have hN:=zjv s hn0
 obtain ⟨F,R,hF,hm,hR,hR2,hw⟩:=i_dw s hn0
 obtain ⟨G,S,hG,hm',hS,hS2,hv⟩:=i_dw s hn
 have hs:s.toNat≤1:=by cases s<;>decide
 have hY:ldY (dw s (sg n) (0+n.log2 - 52)) (e+n.log2)=dw s (sg n) (e+n.log2 - 52):=by
  unfold ldY
  rw [hv]
  omega
 refine zlb (dw s (sg n) (0+n.log2 - 52)) e (e+n.log2) (dw s (sg n) (e+n.log2 - 52)) w hN (by omega) (by omega) he he2 ?_
 rw [hY]
 exact one_mul s hn
theorem zph (s:Bool) {n:Nat} (h0:0<n) (h1:n<9007199254740992):floatOfInt .f64 (if s then -(n:Int) else (n:Int))=dw s (sg n) (0+n.log2 - 52):=by
 have e53:(2:Nat) ^ 53=9007199254740992:=by decide
 have a3:n.log2<53:=(Nat.log2_lt (by omega)).2 (by omega)
 rw [←zk9 s h0 h1 (e:=0) (by omega) (by omega)]
 unfold floatOfInt FloatKind.nearest FloatKind.encode
 cases s
 ·rw [if_neg (by decide)]
  have e1:decide ((n:Int)<0)=false:=decide_eq_false (by omega)
  rw [e1,Int.natAbs_natCast]
  rfl
 ·rw [if_pos rfl]
  have e1:decide (-(n:Int)<0)=true:=decide_eq_true (by omega)
  rw [e1,Int.natAbs_neg,Int.natAbs_natCast]
  rfl
theorem zdh (a:Nat) (st z:Int) (g o:Value) (w:World) (ha:a≤32) :
  Calls Tryz.prog 81 #[.agg #[.int .i64 a,.int .i64 st,.int .i64 z,g,o]] w fun e w'=>e = .returned (.int .i64 ((2 ^ a - 1:Nat):Int))∧Below w.heap.size w w':=by
 have hb:Below w.heap.size w (w.alloc (.cells #[.int .i64 a,.int .i64 st,.int .i64 z,g,o] 33)):=(Below.refl _ _).alloc (Nat.le_refl _) _
 have hp:2 ^ a≤2 ^ 32:=Nat.pow_le_pow_right (by omega) ha
 have e32:(2:Nat) ^ 32=4294967296:=by decide
 have hp0:=Nat.two_pow_pos a
 have hc:(2:Int) ^ a=((2 ^ a:Nat):Int):=by rw [Int.natCast_pow];rfl
 rw [e32] at hp
 have w1:wrap64 ((2:Int) ^ a)=((2 ^ a:Nat):Int):=by rw [hc,IntWalk.wrap64_in _ (by omega)]
 have w2:wrap64 (((2 ^ a:Nat):Int) - 1)=((2 ^ a - 1:Nat):Int):=by rw [IntWalk.wrap64_in _ (by omega)];omega
 have W1:=Lib.hid w1
 have W2:=Lib.hid w2
 clear w1 w2 hc hp hp0 e32
 go_enter Tryz.func81,Tryz.ntmps81
 go_wp2_with fail
 rw [W1.out,W2.out]
 go_ret
 exact ⟨rfl,hb⟩
theorem zfH (a:Nat) (st z c:Int) (g o:Value) (w:World) (ha:a≤32) :
  Calls Tryz.prog 72 #[.agg #[.int .i64 a,.int .i64 st,.int .i64 z,g,o],.int .i64 c] w fun e w'=>e = .returned (.bool (decide (c=0∨c=((2 ^ a - 1:Nat):Int))))∧Below w.heap.size w w':=by
 have hb:Below w.heap.size w (w.alloc (.cells #[.int .i64 a,.int .i64 st,.int .i64 z,g,o] 33)):=(Below.refl _ _).alloc (Nat.le_refl _) _
 have ht:=zdh a st z g o (w.alloc (.cells #[.int .i64 a,.int .i64 st,.int .i64 z,g,o] 33)) ha
 generalize ((2 ^ a - 1:Nat):Int)=T at *
 have HT:=Lib.hid ht
 clear ht ha
 by_cases h0:c=0
 ·subst h0
  rw [decide_eq_true (Or.inl rfl)]
  go_enter Tryz.func72,Tryz.ntmps72
  go_wp2_with fail
  go_ret
  exact ⟨rfl,hb⟩
 ·have hd:decide (c=0∨c=T)=(c==T):=by
   rw [Bool.eq_iff_iff];simp [h0]
  rw [hd]
  have hc0:(c==0)=false:=by simpa using h0
  go_enter Tryz.func72,Tryz.ntmps72
  go_wp2_with fail
  refine HT.out.mono ?_
  rintro e w2 ⟨rfl,hb2⟩
  go_wp2_with fail
  go_ret
  exact ⟨rfl,hb.trans (hb2.mono (by simp))⟩
def sgP (n:Nat) (e:Int):Int:=max (e+n.log2 - 23) (-149)
def sgW (s:Bool) (n:Nat) (e:Int):Nat:=Ieee.single.word s ((sgP n e+149).toNat*8388608+n*2 ^ (e - sgP n e).toNat)
theorem zjd {n:Nat} {e:Int} (h0:0<n) (h1:n<16777216) (he : -149≤e) (he2:e+n.log2≤127) :
  ∃ k:Nat,(k:Int)=e - sgP n e∧0<n*2 ^ k∧n*2 ^ k<16777216∧(n*2 ^ k).log2=n.log2+k∧n.log2+k≤23 ∧ -149≤sgP n e∧sgP n e≤104∧(sgP n e = -149∨8388608≤n*2 ^ k):=by
 have e24:(2:Nat) ^ 24=16777216:=by decide
 have e23:(2:Nat) ^ 23=8388608:=by decide
 have hl:n.log2<24:=(Nat.log2_lt (by omega)).2 (by omega)
 have a1:=(Nat.le_log2 (n:=n) (k:=n.log2) (by omega)).1 (Nat.le_refl _)
 have a2:=(Nat.log2_lt (n:=n) (k:=n.log2+1) (by omega)).1 (by omega)
 obtain ⟨k,hk⟩:∃ k:Nat,(k:Int)=e - sgP n e:=⟨(e - sgP n e).toNat,by unfold sgP;omega⟩
 have hlk:=zcs n k h0
 unfold sgP at *
 refine ⟨k,hk,Nat.mul_pos h0 (Nat.two_pow_pos _),?_,hlk,by omega,by omega,by omega,?_⟩
 ·have:=Nat.mul_lt_mul_of_pos_right a2 (Nat.two_pow_pos k)
  rw [←Nat.pow_add] at this
  exact Nat.lt_of_lt_of_le this (by rw [←e24];exact Nat.pow_le_pow_right (by omega) (by omega))
 ·by_cases hc:e+(n.log2:Int) - 23 ≤ -149
  ·left;omega
  ·right
   have:=Nat.mul_le_mul_right (2 ^ k) a1
   rw [←Nat.pow_add,show n.log2+k=23 from by omega,e23] at this
   exact this
theorem zrH (s:Bool) {n:Nat} {e:Int} (h0:0<n) (h1:n<16777216) (he : -149≤e) (he2:e+n.log2≤127) :
  floatToFloatBits .f64 (dw s (sg n) (e+n.log2 - 52)) .f32=some (sgW s n e):=by
 have hn:=zc9 (n:=n) (e:=e) h0 (by omega) (by omega) (by omega)
 obtain ⟨k,hk,hK0,hK,hlk,hlk2,hq1,hq2,hn2⟩:=zjd h0 h1 he he2
 have hkn:(e - sgP n e).toNat=k:=by omega
 have hsg:sg n=n*2 ^ k*2 ^ (52 - n.log2 - k):=by
  unfold sg
  rw [Nat.mul_assoc,←Nat.pow_add,show k+(52 - n.log2 - k)=52 - n.log2 from by omega]
 refine zgZ (zb5 s hn) ?_ ?_
 ·unfold sgW
  rw [hkn,hsg]
  refine zdy s (l:=n.log2+k) (q:=sgP n e) hK0 hlk (by omega) ?_ (by omega)
  unfold sgP at *
  omega
 ·unfold sgW
  rw [hkn]
  exact zkR s (by omega)
def nomW (d e:Int):Nat:=if d=0 then 0 else sgW (decide (d<0)) d.natAbs e
theorem zkG {d e:Int} (hd : -4194304<d) (hd2:d<4194304) (he : -149≤e) (he2:e≤100) :
  ∃ X r:Nat,floatOfInt .f64 d=X∧(∀ W:World,Calls Tryz.prog 119 #[.float .f64 X,.int .i64 e] W fun e' w'=>e' = .returned (.float .f64 r)∧W=w')∧floatToFloatBits .f64 r .f32=some (nomW d e):=by
 by_cases h0:d=0
 ·subst h0
  refine ⟨0,0,by decide +kernel,fun W=>zcQ W (zgL W),?_⟩
  unfold nomW
  rw [if_pos rfl]
  decide +kernel
 ·have e22:(2:Nat) ^ 22=4194304:=by decide
  have hn0:0<d.natAbs:=by omega
  have hl:d.natAbs.log2<22:=(Nat.log2_lt (by omega)).2 (by omega)
  have hs:(if decide (d<0)=true then -(d.natAbs:Int) else (d.natAbs:Int))=d:=by
   by_cases hn:d<0
   ·rw [decide_eq_true hn,if_pos rfl];omega
   ·rw [decide_eq_false hn,if_neg (by decide)];omega
  have hX:=zph (decide (d<0)) (n:=d.natAbs) hn0 (by omega)
  rw [hs] at hX
  refine ⟨_,_,hX,fun W=>zcQ W (zp3 (decide (d<0)) (e:=e) W hn0 (by omega) (by omega) (by omega)),?_⟩
  unfold nomW
  rw [if_neg h0]
  exact zrH (decide (d<0)) hn0 (by omega) (by omega) (by omega)
theorem zbR (a st z c:Int) (g o:Value) (w:World) (hd : -4194304<c - z) (hd2:c - z<4194304) (he : -149≤st) (he2:st≤100) :
  Calls Tryz.prog 80 #[.agg #[.int .i64 a,.int .i64 st,.int .i64 z,g,o],.int .i64 c] w fun e w'=>e = .returned (.float .f32 (nomW (c - z) st))∧Below w.heap.size w w':=by
 have hb:Below w.heap.size w (w.alloc (.cells #[.int .i64 a,.int .i64 st,.int .i64 z,g,o] 33)):=(Below.refl _ _).alloc (Nat.le_refl _) _
 obtain ⟨X,r,hX,hL,hR⟩:=zkG hd hd2 he he2
 have w1:wrap64 (c - z)=c - z:=IntWalk.wrap64_in _ (by omega)
 have hcv:=fun W:World=>run_convert_float_float (P:=Tryz.prog) W 163 64 .f64 .f32 r (nomW (c - z) st) (by kernel_rfl) (by kernel_rfl) hR
 have HL:=Lib.hid hL
 clear hL hR
 go_enter Tryz.func80,Tryz.ntmps80
 go_wp2_with fail
 refine (HL.out _).mono ?_
 rintro e w1 ⟨rfl,rfl⟩
 go_wp2_with fail
 go_ret
 exact ⟨rfl,hb⟩
theorem zh5 (a st z c:Int) (g o:Value) (w:World) (hd : -4194304<2*(c - z) - 1) (hd2:2*(c - z) - 1<4194304) (he : -149≤st - 1) (he2:st - 1≤100) :
  Calls Tryz.prog 159 #[.agg #[.int .i64 a,.int .i64 st,.int .i64 z,g,o],.int .i64 c] w fun e w'=>e = .returned (.float .f32 (nomW (2*(c - z) - 1) (st - 1)))∧Below w.heap.size w w':=by
 have hb:Below w.heap.size w (w.alloc (.cells #[.int .i64 a,.int .i64 st,.int .i64 z,g,o] 33)):=(Below.refl _ _).alloc (Nat.le_refl _) _
 obtain ⟨X,r,hX,hL,hR⟩:=zkG hd hd2 he he2
 have w1:wrap64 (c - z)=c - z:=IntWalk.wrap64_in _ (by omega)
 have w2:wrap64 (2*(c - z))=2*(c - z):=IntWalk.wrap64_in _ (by omega)
 have w3:wrap64 (2*(c - z) - 1)=2*(c - z) - 1:=IntWalk.wrap64_in _ (by omega)
 have w4:wrap64 (st - 1)=st - 1:=IntWalk.wrap64_in _ (by omega)
 have hcv:=fun W:World=>run_convert_float_float (P:=Tryz.prog) W 163 64 .f64 .f32 r (nomW (2*(c - z) - 1) (st - 1)) (by kernel_rfl) (by kernel_rfl) hR
 have HL:=Lib.hid hL
 clear hL hR
 go_enter Tryz.func159,Tryz.ntmps159
 go_wp2_with fail
 refine (HL.out _).mono ?_
 rintro e w1 ⟨rfl,rfl⟩
 go_wp2_with fail
 go_ret
 exact ⟨rfl,hb⟩
end Go.Proofs.YtmkihdjolnlccaaGreatDoor
namespace Go.Proofs.YtmkihdjolnlccaaGreatDoor
open Go.RowKit Bn
open Flt
theorem zb2 (s:Bool) {n:Nat} {e:Int} (h:Rnd n e) (hn:n<16777216) (hR:rung n e<2139095040):Ieee.single.read (Ieee.single.word s (rung n e)) = .number s n e:=by
 have hpl:=h.place
 have hlo:=h.lo
 unfold rung at *
 unfold Ieee.Format.read Ieee.Format.word
 rw [zek,zbt,zdW,za8]
 generalize hRR:(e+149).toNat*8388608+n=R at *
 have e1:(if s=true then 2147483648+R else R) % 2147483648=R:=by split<;>omega
 have e2:((if s=true then 2147483648+R else R) / 2147483648 % 2==1)=s:=by
  cases s
  ·simp;omega
  ·simp;omega
 simp only [e1,e2]
 by_cases hs:R<8388608
 ·rw [if_pos hs]
  congr 1<;>omega
 ·rw [if_neg hs,if_pos hR]
  congr 1<;>omega
theorem zja (s:Bool) {n:Nat} {e:Int} (h:Rnd n e) (hn:n<16777216) (hR:rung n e<2139095040) :
  fin Ieee.single (Ieee.single.word s (rung n e))=true∧key Ieee.single (Ieee.single.word s (rung n e))=(if s then -((n*2 ^ (e+149).toNat:Nat):Int) else ((n*2 ^ (e+149).toNat:Nat):Int)):=by
 have hr:=zb2 s h hn hR
 refine ⟨zaH hr,?_⟩
 unfold key
 rw [hr,za8]
 simp only [Ieee.signed,Nat.shiftLeft_eq]
 rw [show (e - -149).toNat=(e+149).toNat from by omega]
theorem zhk (s:Bool) {n:Nat} {e:Int} (h:Rnd n e) (hR:rung n e<2139095040) :
  fin Ieee.single (Ieee.single.word s (rung n e))=true∧key Ieee.single (Ieee.single.word s (rung n e))=(if s then -((n*2 ^ (e+149).toNat:Nat):Int) else ((n*2 ^ (e+149).toNat:Nat):Int)):=by
 have hhi:=h.hi
 have hpl:=h.place
 by_cases hn:n<16777216
 ·exact zja s h hn hR
 ·have h2:Rnd 8388608 (e+1):=⟨by omega,by omega,.inr (Nat.le_refl _)⟩
  have e1:rung n e=rung 8388608 (e+1):=by unfold rung;omega
  rw [e1] at hR ⊢
  have h3:=zja s h2 (by omega) hR
  have e2:8388608*2 ^ (e+1+149).toNat=n*2 ^ (e+149).toNat:=by
   rw [show (e+1+149).toNat=(e+149).toNat+1 by omega,show (2:Nat) ^ ((e+149).toNat+1)=2 ^ (e+149).toNat*2 from Nat.pow_succ ..,show n=16777216 by omega]
   generalize 2 ^ (e+149).toNat=P
   omega
  rw [e2] at h3
  exact h3
theorem zh9 {d e:Int} (hd:d≠0) (hd2:d.natAbs<16777216) (he : -149≤e) (he2:e+d.natAbs.log2≤127) :
  ∃ (n':Nat) (e':Int),nomW d e=Ieee.single.word (decide (d<0)) (rung n' e')∧Rnd n' e'∧0<n'∧rung n' e'<2139095040∧n'*2 ^ (e'+149).toNat=d.natAbs*2 ^ (e+149).toNat∧n'<16777216∧e'≤104:=by
 obtain ⟨k,hk,hK0,hK,hlk,hlk2,hq1,hq2,hn2⟩:=zjd (n:=d.natAbs) (e:=e) (by omega) hd2 he he2
 have hkn:(e - sgP d.natAbs e).toNat=k:=by omega
 refine ⟨d.natAbs*2 ^ k,sgP d.natAbs e,?_,⟨hq1,by omega,hn2⟩,hK0,?_,?_,hK,hq2⟩
 ·unfold nomW sgW rung
  rw [if_neg hd,hkn]
 ·unfold rung;omega
 ·rw [Nat.mul_assoc,←Nat.pow_add,show k+(sgP d.natAbs e+149).toNat=(e+149).toNat from by omega]
theorem zkw {n n':Nat} {e e':Int} (h:Rnd n e) (h':Rnd n' e') (hr:rung n e≤rung n' e'):n*2 ^ (e+149).toNat≤n'*2 ^ (e'+149).toNat:=by
 have h1:=h.place
 have h2:=h'.place
 have h3:=h.hi
 have h4:=h'.hi
 have h5:=h.lo
 have h6:=h'.lo
 unfold rung at hr
 rcases Int.lt_trichotomy e e' with hlt | heq | hgt
 ·obtain ⟨j,hj⟩:∃ j:Nat,(e'+149).toNat=(e+149).toNat+1+j:=⟨(e'+149).toNat - (e+149).toNat - 1,by omega⟩
  rw [hj,Nat.pow_add,show (2:Nat) ^ ((e+149).toNat+1)=2 ^ (e+149).toNat*2 from Nat.pow_succ ..]
  have h7:8388608≤n':=by omega
  have h8:n*2 ^ (e+149).toNat≤16777216*2 ^ (e+149).toNat:=Nat.mul_le_mul_right _ h3
  have h9:8388608*(2 ^ (e+149).toNat*2)≤n'*(2 ^ (e+149).toNat*2):=Nat.mul_le_mul_right _ h7
  have h10:n'*(2 ^ (e+149).toNat*2)≤n'*(2 ^ (e+149).toNat*2*2 ^ j):=Nat.mul_le_mul_left _ (Nat.le_mul_of_pos_right _ (Nat.two_pow_pos _))
  have h11:8388608*(2 ^ (e+149).toNat*2)=16777216*2 ^ (e+149).toNat:=by
   generalize 2 ^ (e+149).toNat=P
   omega
  exact Nat.le_trans h8 (Nat.le_trans (Nat.le_of_eq h11.symm) (Nat.le_trans h9 h10))
 ·subst heq
  exact Nat.mul_le_mul_right _ (by omega)
 ·have h7:8388608≤n:=by omega
  have h8:e=e'+1∧n=8388608∧n'=16777216:=by omega
  obtain ⟨rfl,rfl,rfl⟩:=h8
  rw [show (e'+1+149).toNat=(e'+149).toNat+1 by omega,show (2:Nat) ^ ((e'+149).toNat+1)=2 ^ (e'+149).toNat*2 from Nat.pow_succ ..]
  generalize 2 ^ (e'+149).toNat=P
  omega
structure Parts (b x y y2:Nat) (i z:Int):Prop where
 fine:Fine b x
 frx:∀ W:World,Calls Tryz.prog 110 #[.float .f64 x] W fun e w'=>e = .returned (.tuple #[.float .f64 y,.int .i64 i])∧W=w'
 mul:floatBits .mul .f64 y 4715268809856909312=some y2
 int:floatToIntVal .f64 y2 .i64=some z
 z0 : -16777216<z
 z1:z<16777216
 i0 : -1000≤i
 i1:i≤1000
theorem zjD (g:Bool) (t b:Nat):(lowQ g t b).top≤t:=by
 unfold lowQ;split
 ·exact Nat.zero_le _
 ·split
  ·exact Nat.zero_le _
  ·exact Nat.div_le_self _ _
theorem zjQ (g:Bool) (t b:Nat):(lowQ g t b).bot≤b+1:=by
 unfold lowQ;split
 ·exact Nat.zero_le _
 ·split
  ·show 1≤_;omega
  ·exact Nat.le_trans (Nat.div_le_self _ _) (Nat.le_succ _)
theorem zdR {x s k:Nat} (h:x≤2 ^ s) (hk:s<64*k):(digs x).length≤k:=by
 refine digs_length_le ?_
 have e:B ^ k=2 ^ (64*k):=by rw [Nat.pow_mul];rfl
 rw [e]
 exact Nat.lt_of_le_of_lt h (Nat.pow_lt_pow_right (by omega) hk)
theorem zbB {x:Nat} (h:x≤16777216):(digs x).length≤1:=digs_length_le (k:=1) (by rw [zfV];omega)
set_option maxHeartbeats 4000000 in
set_option maxRecDepth 100000 in
theorem zgR {b x y y2:Nat} {i z:Int} (w:World) (hT:Tabs w) (h:Parts b x y y2 i z) (hi:i<24) :
  Calls Tryz.prog 47 #[.float .f32 b] w (zcY w (zaS (lowQ (decide (z<0)) z.natAbs (2 ^ (24 - i).toNat))) (zaO (lowQ (decide (z<0)) z.natAbs (2 ^ (24 - i).toNat)))):=by
 have hcv:=fun W:World=>run_convert_float_float (P:=Tryz.prog) W 64 163 .f32 .f64 b x (by kernel_rfl) (by kernel_rfl) h.fine.conv
 have hif:=zbI w h.fine
 have hml:=fun W:World=>run_float_arith (P:=Tryz.prog) W .mul 163 .f64 y 4715268809856909312 y2 h.mul
 have hci:=fun W:World=>run_convert_float_int (P:=Tryz.prog) W 163 3 .f64 .i64 y2 z (by kernel_rfl) (by kernel_rfl) h.int
 obtain ⟨_,hfx,_,_,z0,z1,i0,i1⟩:=h
 have w1:wrap64 (i - 24)=i - 24:=IntWalk.wrap64_in _ (by omega)
 have w2:wrap64 (-(i - 24)) = -(i - 24):=IntWalk.wrap64_in _ (by omega)
 obtain ⟨s,hs⟩:∃ s:Nat,(24 - i).toNat=s∧i=24 - (s:Int):=⟨(24 - i).toNat,rfl,by omega⟩
 have hs1:s≤2000:=by omega
 have hmx:max (i - 24) (-(i - 24))=(s:Int):=by omega
 rw [hs.1]
 have HI:=Lib.hid hif
 have HFX:=Lib.hid hfx
 have HS:=Lib.hid hs
 clear hif hfx hs
 go_enter Tryz.func47,Tryz.ntmps47
 go_wp2_with fail
 refine HI.out.mono ?_
 rintro e w0 ⟨rfl,rfl⟩
 go_wp2_with fail
 refine (HFX.out _).mono ?_
 rintro e w0 ⟨rfl,rfl⟩
 go_wp2_with fail
 refine (zgi z _ (by omega) (by omega)).mono ?_
 rintro e wa ⟨v,rfl,⟨A,n,c,A',n',c',rfl,h1,h2⟩,hb⟩
 have hb2:Below wa.heap.size wa (wa.alloc (.cells #[.bool (decide (z<0)),.slice A n c,.slice A' n' c'] 159)):=(Below.refl _ _).alloc (Nat.le_refl _) _
 go_wp2_with fail
 refine (zaG 1 _ (by omega) (by omega)).mono ?_
 rintro e wc ⟨A3,n3,c3,rfl,h3,hb3⟩
 go_wp2_with fail
 have h3':NatS wc wc.heap.size A3 n3 c3 1:=h3
 have l3:n3≤1:=by rw [←h3'.len];exact zbB (by omega)
 have lz:z.natAbs≤16777216:=by omega
 have l1:n≤1:=by rw [←h1.len];exact zbB lz
 refine (zaE A3 n3 c3 1 s wc h3' (by omega) (by omega)).mono ?_
 rintro e wd ⟨A4,n4,c4,rfl,h4,hb4⟩
 rw [Nat.one_mul] at h4
 have l4:n4≤64:=by rw [←h4.len];exact zdR (Nat.le_refl _) (by omega)
 have hsc:wa.heap.size<wc.heap.size:=by have:=hb3.size;simp at this;omega
 have hx4:zaj wd wa.heap.size (decide (z<0)) (.slice A n c) (.slice A' n' c'):=((zaj.new wa _ _ _).below hb3 (by simp)).below hb4 hsc
 have hTd:Tabs wd:=(((hT.later hb).later hb2).later hb3).later hb4
 have hBd:Below w.heap.size w wd:=(((hb.trans (hb2.mono hb.size)).trans (hb3.mono (by have:=hb.size;simp;omega)))).trans (hb4.mono (by have:=hb.size;omega))
 have hlo:=zl2 (decide (z<0)) A A4 n c n4 c4 z.natAbs (2 ^ s) wd hTd (((h1.later hb2).later hb3).later hb4) h4 (by omega) (by omega)
 have lt:=zjD (decide (z<0)) z.natAbs (2 ^ s)
 have lb:=zjQ (decide (z<0)) z.natAbs (2 ^ s)
 have k1:(digs (lowQ (decide (z<0)) z.natAbs (2 ^ s)).top).length≤1:=zbB (by omega)
 have k2:(digs (lowQ (decide (z<0)) z.natAbs (2 ^ s)).bot).length≤64:=zdR (s:=s+1) (by have:=Nat.two_pow_pos s;rw [Nat.pow_succ];omega) (by omega)
 generalize lowQ (decide (z<0)) z.natAbs (2 ^ s)=q at *
 obtain ⟨x0,x1,x2,_,_,_,xl⟩:=hx4.cells
 have HLO:=Lib.hid hlo
 clear hlo
 go_wp2_with fail
 refine HLO.out.mono ?_
 rintro e we ⟨v,rfl,⟨A5,n5,c5,A6,n6,c6,rfl,h5,h6⟩,hb5⟩
 have hwr:=zi8 q A5 A6 n5 c5 n6 c6 we (hTd.later hb5) h5 h6 (by rw [←h5.len];omega) (by rw [←h6.len];omega)
 have HWR:=Lib.hid hwr
 clear hwr HLO
 go_wp2_with fail
 refine HWR.out.mono ?_
 rintro e wf ⟨S,rfl,hS,hb6⟩
 go_wp2_with fail
 go_ret2
 exact ⟨S,rfl,hS,(hBd.trans (hb5.mono hBd.size)).trans (hb6.mono (by have:=hBd.size;have:=hb5.size;omega))⟩
set_option maxHeartbeats 4000000 in
set_option maxRecDepth 100000 in
theorem zqd {b x y y2:Nat} {i z:Int} (w:World) (hT:Tabs w) (h:Parts b x y y2 i z) (hi:24≤i) :
  Calls Tryz.prog 47 #[.float .f32 b] w (zcY w (zaS ⟨decide (z<0),z.natAbs*2 ^ (i - 24).toNat,1⟩) (zaO ⟨decide (z<0),z.natAbs*2 ^ (i - 24).toNat,1⟩)):=by
 have hcv:=fun W:World=>run_convert_float_float (P:=Tryz.prog) W 64 163 .f32 .f64 b x (by kernel_rfl) (by kernel_rfl) h.fine.conv
 have hif:=zbI w h.fine
 have hml:=fun W:World=>run_float_arith (P:=Tryz.prog) W .mul 163 .f64 y 4715268809856909312 y2 h.mul
 have hci:=fun W:World=>run_convert_float_int (P:=Tryz.prog) W 163 3 .f64 .i64 y2 z (by kernel_rfl) (by kernel_rfl) h.int
 obtain ⟨_,hfx,_,_,z0,z1,i0,i1⟩:=h
 have w1:wrap64 (i - 24)=i - 24:=IntWalk.wrap64_in _ (by omega)
 have w2:wrap64 (-(i - 24)) = -(i - 24):=IntWalk.wrap64_in _ (by omega)
 obtain ⟨s,hs⟩:∃ s:Nat,(i - 24).toNat=s∧i=24+(s:Int):=⟨(i - 24).toNat,rfl,by omega⟩
 have hs1:s≤2000:=by omega
 have hmx:max (i - 24) (-(i - 24))=(s:Int):=by omega
 rw [hs.1]
 have HI:=Lib.hid hif
 have HFX:=Lib.hid hfx
 have HS:=Lib.hid hs
 clear hif hfx hs
 go_enter Tryz.func47,Tryz.ntmps47
 go_wp2_with fail
 refine HI.out.mono ?_
 rintro e w0 ⟨rfl,rfl⟩
 go_wp2_with fail
 refine (HFX.out _).mono ?_
 rintro e w0 ⟨rfl,rfl⟩
 go_wp2_with fail
 refine (zgi z _ (by omega) (by omega)).mono ?_
 rintro e wa ⟨v,rfl,⟨A,n,c,A',n',c',rfl,h1,h2⟩,hb⟩
 have hb2:Below wa.heap.size wa (wa.alloc (.cells #[.bool (decide (z<0)),.slice A n c,.slice A' n' c'] 159)):=(Below.refl _ _).alloc (Nat.le_refl _) _
 go_wp2_with fail
 refine (zaG 1 _ (by omega) (by omega)).mono ?_
 rintro e wc ⟨A3,n3,c3,rfl,h3,hb3⟩
 go_wp2_with fail
 have h3':NatS wc wc.heap.size A3 n3 c3 1:=h3
 have l3:n3≤1:=by rw [←h3'.len];exact zbB (by omega)
 have lz:z.natAbs≤16777216:=by omega
 have l1:n≤1:=by rw [←h1.len];exact zbB lz
 refine (zaE A3 n3 c3 1 s wc h3' (by omega) (by omega)).mono ?_
 rintro e wd ⟨A4,n4,c4,rfl,h4,hb4⟩
 rw [Nat.one_mul] at h4
 have l4:n4≤64:=by rw [←h4.len];exact zdR (Nat.le_refl _) (by omega)
 have hsc:wa.heap.size<wc.heap.size:=by have:=hb3.size;simp at this;omega
 have hx4:zaj wd wa.heap.size (decide (z<0)) (.slice A n c) (.slice A' n' c'):=((zaj.new wa _ _ _).below hb3 (by simp)).below hb4 hsc
 have hTd:Tabs wd:=(((hT.later hb).later hb2).later hb3).later hb4
 have hBd:Below w.heap.size w wd:=(((hb.trans (hb2.mono hb.size)).trans (hb3.mono (by have:=hb.size;simp;omega)))).trans (hb4.mono (by have:=hb.size;omega))
 have ht1:=zde A A4 n c n4 c4 z.natAbs (2 ^ s) wd.drew ((((h1.later hb2).later hb3).later hb4).later (Below.refl _ _).drew) (h4.later (Below.refl _ _).drew) (by omega) (by omega)
 have hBdd:Below w.heap.size w wd.drew:=hBd.drew
 have hTdd:Tabs wd.drew:=hTd.later (Below.refl _ _).drew
 obtain ⟨x0,x1,x2,_,_,_,xl⟩:=hx4.cells
 have HT1:=Lib.hid ht1
 clear ht1
 go_wp2_with fail
 go_region_held3 (fun w'=>w'.cell? ⟨wa.heap.size,0,none⟩=some (.bool (decide (z<0)))∧w'.cell? ⟨wa.heap.size,1,none⟩=some (.slice A n c))
  ((first | exact ⟨x0,x1⟩ | exact ⟨((hb5.cell (p:=⟨wa.heap.size,0,none⟩) xl).trans x0),((hb5.cell (p:=⟨wa.heap.size,1,none⟩) xl).trans x1)⟩ | exact ⟨((hb6.cell (p:=⟨wa.heap.size,0,none⟩) al6).trans ((hb5.cell (p:=⟨wa.heap.size,0,none⟩) xl).trans x0)),((hb6.cell (p:=⟨wa.heap.size,1,none⟩) al6).trans ((hb5.cell (p:=⟨wa.heap.size,1,none⟩) xl).trans x1))⟩ | exact ⟨((hb7.cell (p:=⟨wa.heap.size,0,none⟩) al7).trans ((hb6.cell (p:=⟨wa.heap.size,0,none⟩) al6).trans ((hb5.cell (p:=⟨wa.heap.size,0,none⟩) xl).trans x0))),((hb7.cell (p:=⟨wa.heap.size,1,none⟩) al7).trans ((hb6.cell (p:=⟨wa.heap.size,1,none⟩) al6).trans ((hb5.cell (p:=⟨wa.heap.size,1,none⟩) xl).trans x1)))⟩))
  (first
   |(go_at_call 116;refine (HT1.out).mono ?_;rintro e w5 ⟨A5,m5,c5,rfl,hn5,hb5⟩;have al6:=Nat.lt_of_lt_of_le xl hb5.size)
   |(go_at_call 112;refine (zaG 1 w5 (by omega) (by omega)).mono ?_;rintro e w6 ⟨A6,m6,c6,rfl,hn6,hb6⟩;have al7:=Nat.lt_of_lt_of_le al6 hb6.size)
   |(go_at_call 115;refine (zi8 ⟨decide (z<0),z.natAbs*2 ^ s,1⟩ A5 A6 m5 c5 m6 c6 w6 ((hTdd.later hb5).later hb6) (hn5.later hb6) hn6 (by have:=zoM hn5 (Nat.le_of_eq h1.len) (Nat.le_of_eq h4.len);omega) (by have:=hn6.len;have:=zbB (x:=1) (by omega);have e1:Int.toNat 1=1:=rfl;rw [←hn6.len,e1];omega)).mono ?_;rintro e w7 ⟨S,rfl,hS,hb7⟩))
 go_wp2_with fail
 go_ret2
 exact ⟨S,rfl,hS,((hBdd.trans (hb5.mono hBdd.size)).trans (hb6.mono (by have:=hBdd.size;have:=hb5.size;omega))).trans (hb7.mono (by have:=hBdd.size;have:=hb5.size;have:=hb6.size;omega))⟩
def exQ (b:Nat):Q:=
 match Ieee.single.read b with
 | .number s m p=>if m=0 then ⟨false,0,1⟩ else if p+m.log2<23 then lowQ s (m*2 ^ (23 - m.log2)) (2 ^ (23 - (p+m.log2)).toNat) else ⟨s,m*2 ^ (23 - m.log2)*2 ^ (p+m.log2 - 23).toNat,1⟩
 | _=>⟨false,0,1⟩
theorem zm1 {b m:Nat} {s:Bool} {p:Int} (h:Ieee.single.read b = .number s m p) (hm:0<m) :
  Parts b (dw s (sg m) (p+m.log2 - 52)) (dw s (sg m) (-53)) (dw s (sg m) (-29)) (p+m.log2+1) (Ieee.signed s (m*2 ^ (23 - m.log2)) 0) ∧
   decide (Ieee.signed s (m*2 ^ (23 - m.log2)) 0<0)=s∧(Ieee.signed s (m*2 ^ (23 - m.log2)) 0).natAbs=m*2 ^ (23 - m.log2):=by
 obtain ⟨_,hn,hl⟩:=zsK h hm
 obtain ⟨h1,h2,h3⟩:=zfJ h
 obtain ⟨hi,hj,hp⟩:=ztl s hm hl h1
 have hf:∀ W:World,Calls Tryz.prog 110 #[.float .f64 (dw s (sg m) (p+m.log2 - 52))] W fun e w'=>e = .returned (.tuple #[.float .f64 (dw s (sg m) (-53)),.int .i64 (p+m.log2+1)])∧W=w':=by
  intro W
  have:=zkT W (zqp s W hn)
  rw [show p+(m.log2:Int) - 52+53=p+m.log2+1 from by omega] at this
  exact this
 have hmul:=zsN s (m:=sg m) ⟨hn.lo,hn.hi,by omega,by omega⟩
 have hfine:=zhC h hm
 generalize m*2 ^ (23 - m.log2)=J at *
 have hv:Ieee.signed s J 0=if s then -(J:Int) else (J:Int):=by unfold Ieee.signed;rw [Nat.shiftLeft_zero]
 have hb : -16777216<Ieee.signed s J 0∧Ieee.signed s J 0<16777216:=by rw [hv];split<;>omega
 refine ⟨⟨hfine,hf,hmul,hi,hb.1,hb.2,by omega,by omega⟩,?_,?_⟩
 ·rw [hv];cases s
  ·exact decide_eq_false (by rw [if_neg (by decide)];omega)
  ·exact decide_eq_true (by rw [if_pos rfl];omega)
 ·rw [hv];split<;>omega
theorem zlS {b:Nat} {s:Bool} {p:Int} (h:Ieee.single.read b = .number s 0 p) :
  Parts b (Ieee.double.word s 0) (Ieee.double.word s 0) (Ieee.double.word s 0) 0 0:=
 ⟨zfS h,fun W=>zkT W (zls _ W (zro s)),zjU s,zqi s,by omega,by omega,by omega,by omega⟩
theorem zor {b m:Nat} {s:Bool} {p:Int} (w:World) (hT:Tabs w) (h:Ieee.single.read b = .number s m p) :
  Calls Tryz.prog 47 #[.float .f32 b] w (zcY w (zaS (exQ b)) (zaO (exQ b))):=by
 unfold exQ
 rw [h]
 dsimp only
 by_cases hm:m=0
 ·subst hm
  have:=zgR w hT (zlS h) (by omega)
  rw [if_pos rfl]
  have e:lowQ (decide ((0:Int)<0)) (0:Int).natAbs (2 ^ (24 - 0:Int).toNat)=⟨false,0,1⟩:=by
   unfold lowQ
   rw [if_neg (by have:=Nat.two_pow_pos (24 - 0:Int).toNat;omega),if_pos (by rfl)]
  rw [e] at this
  exact this
 ·rw [if_neg hm]
  obtain ⟨hP,hs,hz⟩:=zm1 h (by omega)
  by_cases hc:p+m.log2<23
  ·have:=zgR w hT hP (by omega)
   rw [hs,hz,show (24 - (p+(m.log2:Int)+1))=23 - (p+m.log2) from by omega] at this
   rw [if_pos hc]
   exact this
  ·have:=zqd w hT hP (by omega)
   rw [hs,hz,show (p+(m.log2:Int)+1 - 24)=p+m.log2 - 23 from by omega] at this
   rw [if_neg hc]
   exact this
theorem ziy {b x:Nat} (w:World) (hc:floatToFloatBits .f32 b .f64=some x) (hx:x<18446744073709551616)
  (hn:(FloatKind.f64.format.order x x != some .eq)=false) (hi:(FloatKind.f64.format.order (absB x) 9218868437227405311==some .gt)=true) :
  Calls Tryz.prog 109 #[.float .f32 b] w fun e w'=>e = .returned (.bool false)∧w=w':=by
 have hcv:=fun W:World=>run_convert_float_float (P:=Tryz.prog) W 64 163 .f32 .f64 b x (by kernel_rfl) (by kernel_rfl) hc
 have hnn:=zcH x w
 rw [hn] at hnn
 have hin:=zdj x w hx
 rw [hi] at hin
 have HN:=Lib.hid hnn
 have HI:=Lib.hid hin
 clear hnn hin hn hi hc
 go_enter Tryz.func109,Tryz.ntmps109
 go_wp2_with fail
 refine HN.out.mono ?_
 rintro e w1 ⟨rfl,rfl⟩
 go_wp2_with fail
 refine HI.out.mono ?_
 rintro e w1 ⟨rfl,rfl⟩
 go_wp2_with fail
 go_ret
 exact ⟨rfl,rfl⟩
theorem zpP (s:Bool) {b:Nat} (h:Ieee.single.read b = .infinity s) (w:World):Calls Tryz.prog 109 #[.float .f32 b] w fun e w'=>e = .returned (.bool false)∧w=w':=by
 refine ziy (x:=Ieee.double.word s 9218868437227405312) w ?_ ?_ ?_ ?_
 ·have h':FloatKind.f32.decode b = .infinity s:=h
  unfold floatToFloatBits
  rw [if_neg (by decide),h']
  show some (Ieee.double.word s Ieee.double.infRung)=_
  rw [zeW]
 ·cases s<;>decide +kernel
 ·cases s<;>decide +kernel
 ·cases s<;>decide +kernel
def nanW (b:Nat) (W:World):Nat:=(Question.nanConv .f64 b).cut (W.tape W.drawn (Question.nanConv .f64 b))
theorem znt (b:Nat) (W:World):∃ s f,Ieee.double.read (nanW b W) = .nan s f:=by
 unfold nanW Question.cut
 generalize W.tape W.drawn (Question.nanConv .f64 b)=t
 dsimp only
 have e63:(2:Nat) ^ 63=9223372036854775808:=by decide
 have e52:(2:Nat) ^ 52=4503599627370496:=by decide
 rw [e63,e52]
 have h1:t % 2<2:=Nat.mod_lt _ (by omega)
 have h2:t / 2 % (4503599627370496 - 1)<4503599627370495:=Nat.mod_lt _ (by omega)
 generalize t % 2=s at h1
 generalize t / 2 % (4503599627370496 - 1)=f at h2
 unfold Ieee.Format.read
 rw [zhF,zbD,zeW]
 have e1:(s*9223372036854775808+9218868437227405312+1+f) % 9223372036854775808=9218868437227405312+1+f:=by omega
 dsimp only
 rw [e1,if_neg (by omega),if_neg (by omega),if_neg (by omega)]
 exact ⟨_,_,rfl⟩
theorem zp1 (b:Nat) (W:World):(FloatKind.f64.format.order (nanW b W) (nanW b W) != some .eq)=true:=by
 obtain ⟨s,f,h⟩:=znt b W
 have:FloatKind.f64.format.order (nanW b W) (nanW b W)=none:=by
  show (Ieee.double.read _).order (Ieee.double.read _)=_
  rw [h];rfl
 rw [this];rfl
theorem zjK {P:Program} (src dst:TypeId) (b:Nat) {s:Bool} {f:Nat} (hs:(P.underlying src).isSome=true) (hd:P.underlying dst=some (.float .f64)) (h:Ieee.single.read b = .nan s f) (W:World) :
  (convert src dst (.float .f32 b)).run P W = .ok (.float .f64 (nanW b W)) W.drew:=by
 obtain ⟨u,hs'⟩:=Option.isSome_iff_exists.1 hs
 have h':FloatKind.f32.decode b = .nan s f:=h
 have hf:(Question.nanConv .f64 b).forced=false:=rfl
 cases u<;>simp [convert,run_underlying hs',run_underlying hd,Conv.floatToFloat,h',hf,nanW]
theorem zi1 {b:Nat} {s:Bool} {f:Nat} (h:Ieee.single.read b = .nan s f) (w:World):Calls Tryz.prog 109 #[.float .f32 b] w fun e w'=>e = .returned (.bool false)∧Below w.heap.size w w':=by
 have hcv:=zjK (P:=Tryz.prog) 64 163 b (by kernel_rfl) (by kernel_rfl) h
 have hnn:=zcH (nanW b w) w.drew
 rw [zp1] at hnn
 have HN:=Lib.hid hnn
 clear hnn
 have hb:Below w.heap.size w w.drew:=(Below.refl _ _).drew
 go_enter Tryz.func109,Tryz.ntmps109
 go_wp2_with fail
 refine HN.out.mono ?_
 rintro e w1 ⟨rfl,rfl⟩
 go_wp2_with fail
 go_ret
 exact ⟨rfl,hb⟩
theorem zin (b:Nat) (w:World):Calls Tryz.prog 109 #[.float .f32 b] w fun e w'=>e = .returned (.bool (fin Ieee.single b))∧Below w.heap.size w w':=by
 unfold fin
 rcases h:Ieee.single.read b with ⟨s,m,p⟩ | s | ⟨s,f⟩
 ·have hx:∃ x,Fine b x:=by
   rcases Nat.eq_zero_or_pos m with rfl | hm
   ·exact ⟨_,zfS h⟩
   ·exact ⟨_,zhC h hm⟩
  obtain ⟨x,hx⟩:=hx
  refine (zbI w hx).mono ?_
  rintro e w' ⟨rfl,rfl⟩
  exact ⟨rfl,Below.refl _ _⟩
 ·refine (zpP s h w).mono ?_
  rintro e w' ⟨rfl,rfl⟩
  exact ⟨rfl,Below.refl _ _⟩
 ·exact zi1 h w
theorem zot {b:Nat} (w:World) (h:fin Ieee.single b=false):Calls Tryz.prog 47 #[.float .f32 b] w (zcY w [] 1):=by
 have h1:=zin b w
 rw [h] at h1
 have h2:=Lib.hid h1
 clear h1 h
 go_enter Tryz.func47,Tryz.ntmps47
 go_wp2_with fail
 refine h2.out.mono ?_
 rintro e w1 ⟨rfl,hb⟩
 go_wp2_with fail
 go_ret2
 exact ⟨_,rfl,rfl,hb⟩
theorem zmK (b:Nat) (w:World) (hT:Tabs w) :
  Calls Tryz.prog 47 #[.float .f32 b] w (zcY w (if fin Ieee.single b then zaS (exQ b) else []) (if fin Ieee.single b then zaO (exQ b) else 1)):=by
 by_cases hf:fin Ieee.single b=true
 ·rw [if_pos hf,if_pos hf]
  unfold fin at hf
  rcases h:Ieee.single.read b with ⟨s,m,p⟩ | s | ⟨s,f⟩
  ·exact zor w hT h
  ·rw [h] at hf;cases hf
  ·rw [h] at hf;cases hf
 ·rw [if_neg hf,if_neg hf]
  exact zot w (by simpa using hf)
end Go.Proofs.YtmkihdjolnlccaaGreatDoor
