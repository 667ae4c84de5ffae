/- The reference's Exact of every finite single. -/
import Derived.Test.YtmkihdjolnlccaaGreatDoorQRc9
import Derived.Test.YtmkihdjolnlccaaGreatDoorQAlg
import Derived.Test.YtmkihdjolnlccaaGreatDoorQAd2
import Derived.Test.YtmkihdjolnlccaaGreatDoorQCdm3
import Derived.Test.YtmkihdjolnlccaaGreatDoorQRc8
import Derived.Test.YtmkihdjolnlccaaGreatDoorQRb30
namespace Go.Proofs.YtmkihdjolnlccaaGreatDoor
open Go.RowKit Dn
open Flt
def zdC (V:Int):Q:=zb4 V (2 ^ 149)
theorem zkN (V:Int):LowQ (zdC V):=zbf _ (Nat.two_pow_pos _)
theorem zkD (V:Int):Val (zdC V) V (2 ^ 149):=Val.frac (Nat.two_pow_pos _)
theorem zjL {q:Q} {V:Int} (h:Val q V (2 ^ 149)) (hl:LowQ q):q=zdC V:=h.eq (zkD V) hl (zkN V) rfl
def twoK (k:Int):Q:=if 0≤k then powQ twoQ k.toNat else powQ (recQ twoQ) (-k).toNat
theorem zp8 (k:Int):LowQ (twoK k):=by
 unfold twoK
 split
 ·exact zd1 zdN.2 _
 ·rw [zeB]
  exact zd1 zhL.2 _
theorem zmA {k:Int} (h : -149≤k∧k≤104):Small (twoK k) 50:=by
 have hp:∀ j,j≤149→2 ^ j<10 ^ 50:=fun j hj=>Nat.lt_of_le_of_lt (Nat.pow_le_pow_right (by omega) hj) (by decide)
 unfold twoK
 split
 ·exact ⟨hp _ (by omega),by show 1 ^ _<_;rw [Nat.one_pow];decide⟩
 ·rw [zeB]
  exact ⟨by show 1 ^ _<_;rw [Nat.one_pow];decide,hp _ (by omega)⟩
theorem zmP (k:Int) (w:World) (h : -149≤k∧k≤104):Calls Tryz.prog 49 #[.string ⟨#[50]⟩,.int .i64 k] w (RetS w (twoK k)):=by
 have hs2:Small twoQ 1:=⟨by decide,by decide⟩
 unfold twoK
 split
 ·have h:=ziX ⟨#[50]⟩ twoQ k.toNat 1 w zdN rfl hs2 (by omega) (by omega)
  rwa [Int.toNat_of_nonneg (by assumption)] at h
 ·have h:=zoH ⟨#[50]⟩ twoQ (-k).toNat 1 w zdN rfl (by decide) hs2 (by omega) (by omega) (by omega) (by decide)
  rwa [Int.toNat_of_nonneg (by omega),Int.neg_neg] at h
theorem zkF {n m:Nat} {e k:Int} (h:zjh n e m k):mulQ (intQ (m:Int)) (twoK k)=zdC ((n*2 ^ (e+149).toNat:Nat):Int):=by
 obtain ⟨_,_,_,h4⟩:=h
 have hT:0<(2:Nat) ^ 149:=Nat.two_pow_pos _
 refine zjL ?_ (zbf _ (Nat.mul_pos Nat.one_pos (zp8 k).1))
 unfold twoK
 generalize n*2 ^ (e+149).toNat=V at *
 generalize (2:Nat) ^ 149=T at *
 split
 ·rw [show (-k).toNat=0 by omega,Nat.pow_zero,Nat.mul_one] at h4
  refine ((Val.int (m:Int)).mul (Val.pow k.toNat)).trans hT ?_
  have:(V:Int)=(m:Int)*(T:Int)*((2 ^ k.toNat:Nat):Int):=by rw [←h4];push_cast;rfl
  rw [this]
  generalize ((2 ^ k.toNat:Nat):Int)=P
  push_cast
  grind
 ·rw [show k.toNat=0 by omega,Nat.pow_zero,Nat.mul_one] at h4
  refine ((Val.int (m:Int)).mul (Val.powN (-k).toNat)).trans hT ?_
  have:(m:Int)*(T:Int)=(V:Int)*((2 ^ (-k).toNat:Nat):Int):=by exact_mod_cast h4
  rw [Int.natCast_mul,Int.mul_one,this]
  push_cast
  grind
def zex (f:Nat) (V:Int):Prop:=∀ W,Calls Tryz.prog 85 #[.float .f32 f] W fun en w'=>(∃ (m:Nat) (k:Int),en = .returned (.tuple #[.int .i64 (m:Int),.int .i64 k])∧m<16777216 ∧ -149≤k∧k≤104∧mulQ (intQ (m:Int)) (twoK k)=zdC V)∧W=w'
theorem zfw {f n:Nat} {e:Int} (h:Ps f n e):zex f ((n*2 ^ (e+149).toNat:Nat):Int):=fun W=>
 (zjZ f n e W h).mono fun _ _ ⟨⟨m,k,he,hp⟩,hw⟩=>⟨⟨m,k,he,hp.1,hp.2.1,hp.2.2.1,zkF hp⟩,hw⟩
set_option maxHeartbeats 1000000 in
set_option maxRecDepth 100000 in
theorem zlq {f:Nat} {e:Int} (h:Ieee.single.read f = .number true 0 e) (hf:fin Ieee.single f=true) (hk:key Ieee.single f=0):zex f 0:=by
 intro w
 have r24:fin Ieee.single 1266679808=true∧0<key Ieee.single 1266679808:=⟨by decide +kernel,by decide +kernel⟩
 have z0:=ziL 0 (by omega)
 have hz:((0:Nat):Int)=0:=rfl
 rw [hz] at z0
 have t1:(FloatKind.f32.format.order f 1266679808==some .gt || FloatKind.f32.format.order f 1266679808==some .eq)=false:=by
  show (Ieee.single.order f 1266679808==some .gt || Ieee.single.order f 1266679808==some .eq)=false
  rw [za4 hf r24.1,hk,zc8 r24.2]
  rfl
 have t2:(FloatKind.f32.format.order f (floatOfInt .f32 0) != some .eq)=false:=by
  show (Ieee.single.order f (floatOfInt .f32 0) != some .eq)=false
  rw [za4 hf z0.1,hk,z0.2,zdH]
  rfl
 have hint:floatToIntVal .f32 f .i64=some 0:=by
  have hd:FloatKind.f32.decode f = .number true 0 e:=h
  unfold floatToIntVal
  rw [hd]
  have e1:(Ieee.Datum.number true 0 e).toInt .zero=some 0:=by
   show some (Ieee.signed true (Ieee.Toward.cut .zero true (0 <<< e.toNat) (-e).toNat) 0)=_
   have e2:Ieee.Toward.cut .zero true (0 <<< e.toNat) (-e).toNat=0:=by
    show (0 <<< e.toNat) / (1 <<< min (-e).toNat ((0 <<< e.toNat).log2+2))+0=0
    rw [Nat.zero_shiftLeft,Nat.zero_div]
   rw [e2]
   rfl
  rw [e1]
  rfl
 have hcv:=fun W=>run_convert_float_int (P:=Tryz.prog) W 64 3 .f32 .i64 f 0 (by kernel_rfl) Tryz.underlying3 hint
 clear hint h hf hk z0 r24 hz
 have HR:Hid (mulQ (intQ ((0:Nat):Int)) (twoK 0)=zdC 0):=by
  have h:=zkF (n:=0) (e:=0) (m:=0) (k:=0) ⟨by omega,by omega,by omega,by simp⟩
  rw [Nat.zero_mul] at h
  exact h
 go_enter Tryz.func85,Tryz.ntmps85
 go_wp2
 go_loopg [0,4] 0 (fun g v0 v4 W=>g=0∧v0 = .float .f32 f∧v4 = .int .i64 0∧W=w)
 case atStart=>exact ⟨rfl,rfl,rfl,rfl⟩
 case round=>
  obtain ⟨rfl,rfl,rfl,rfl⟩:=hrel
  go_wp2
  go_loopg [0,4] 0 (fun g v0 v4 W=>g=0∧v0 = .float .f32 f∧v4 = .int .i64 0∧W=wr)
  case atStart=>exact ⟨rfl,rfl,rfl,rfl⟩
  case round=>
   obtain ⟨rfl,rfl,rfl,rfl⟩:=hrel
   go_wp2
   go_ret2
   exact ⟨⟨0,0,rfl,by omega,by omega,by omega,HR.out⟩,rfl⟩
set_option maxHeartbeats 2000000 in
set_option maxRecDepth 100000 in
theorem zgl (f:Nat) (V:Int) (w:World) (h0:(FloatKind.f32.format.order f 0==some .lt)=false) (hP:zex f V) :
  Calls Tryz.prog 33 #[.float .f32 f] w (RetS w (zdC V)):=by
 have HP:=Lib.hid hP
 clear hP
 go_enter Tryz.func33,Tryz.ntmps33
 go_wp2_with fail
 refine (HP.out w).mono ?_
 rintro e w1 ⟨⟨m,k,rfl,hm,hk1,hk2,hq⟩,rfl⟩
 have HQ:=Lib.hid hq
 have hsm:∀ s:ByteArray,NumQ s (intQ (m:Int))→s.size≤42:=fun s hs=>hs.size (zjA m hm) (by omega)
 have hsk:∀ s:ByteArray,NumQ s (twoK k)→s.size≤102:=fun s hs=>hs.size (zmA ⟨hk1,hk2⟩) (by omega)
 have HF:=Lib.hid (fun W=>zjf (m:Int) W (by omega) (by omega))
 have HK:=Lib.hid (fun W=>zmP k W ⟨hk1,hk2⟩)
 have HM:Hid (∀ (s t:ByteArray) W,NumQ s (intQ (m:Int))→NumQ t (twoK k)→Calls Tryz.prog 43 #[.string s,.string t] W (RetS W (zdC V))):=fun s t W hs ht=>by
  rw [←HQ.out]
  exact zkY s t _ _ W hs ht (by have:=hsm s hs;omega) (by have:=hsk t ht;omega)
 clear hq hsm hsk
 go_wp2_with fail
 refine (HF.out w).mono ?_
 rintro e w2 ⟨⟨s,rfl,hs⟩,hb2⟩
 go_wp2_with fail
 refine (HK.out w2).mono ?_
 rintro e w3 ⟨⟨t,rfl,ht⟩,hb3⟩
 have hB3:=hb2.trans (hb3.mono hb2.size)
 go_wp2_with fail
 refine (HM.out s t w3 hs ht).mono ?_
 rintro e w4 ⟨⟨u,rfl,hu⟩,hb4⟩
 go_wp2
 go_ret
 exact ⟨⟨u,rfl,hu⟩,hB3.trans (hb4.mono hB3.size)⟩
theorem zjY (s:Bool) {n k:Nat} {p q:Int} (h0:0<n) (h:n<16777216) (hc:q = -149∨8388608≤n) (hq:p+k=q) (he : -149≤q) (he2:q≤104):Ieee.single.write (.number s (n*2 ^ k) p)=Ieee.single.word s (rung n q):=by
 have e24:(2:Nat) ^ 24=16777216:=by decide
 have hl:n.log2<24:=(Nat.log2_lt (by omega)).2 (by omega)
 have hl2:8388608≤n→n.log2=23:=fun h9=>zrq h9 h
 refine (zdy s h0 rfl hq ?_ ?_).trans rfl
 ·rcases hc with h9 | h9
  ·omega
  ·have:=hl2 h9;omega
 ·have:=zcU h he he2
  unfold rung at this
  omega
theorem znq {f n:Nat} {e:Int} (h:Ieee.single.read f = .number true n e) (h0:0<n):∃ r,floatBits .sub .f32 0 f=some r∧Ps r n e:=by
 obtain ⟨h1,h2,h3⟩:=zfJ h
 have hc:=zir h
 refine ⟨Ieee.single.word false (rung n e),?_,Ps.wd ⟨h2,by omega,hc⟩ h1 h3⟩
 show ((Ieee.single.read 0).sum (Ieee.single.read f).opposite).map Ieee.single.write=_
 rw [h,zpv]
 obtain ⟨k,hk⟩:∃ k:Nat,(e+149).toNat=k:=⟨_,rfl⟩
 have hm:min (-149:Int) e = -149:=by omega
 have hk2:(e - -149).toNat=k:=by omega
 have hpos:0<n*2 ^ k:=Nat.mul_pos (by omega) (Nat.two_pow_pos _)
 have ht:Ieee.signed false 0 ((-149:Int) - -149).toNat+Ieee.signed (!true) n k=((n*2 ^ k:Nat):Int):=by
  unfold Ieee.signed
  rw [Nat.shiftLeft_eq,Nat.shiftLeft_eq]
  simp
 show some (Ieee.single.write (.number (if Ieee.signed false 0 ((-149:Int) - min (-149) e).toNat+Ieee.signed (!true) n (e - min (-149) e).toNat=0 then false && !true else decide (Ieee.signed false 0 ((-149:Int) - min (-149) e).toNat+Ieee.signed (!true) n (e - min (-149) e).toNat<0)) (Ieee.signed false 0 ((-149:Int) - min (-149) e).toNat+Ieee.signed (!true) n (e - min (-149) e).toNat).natAbs (min (-149) e)))=_
 rw [hm,hk2,ht]
 have hw:=zjY false h0 h1 (k:=k) (p := -149) (q:=e) hc (by omega) h2 h3
 generalize n*2 ^ k=M at *
 rw [if_neg (show ¬ (M:Int)=0 by omega),show decide ((M:Int)<0)=false from decide_eq_false (by omega),show (M:Int).natAbs=M by omega,hw]
theorem zel {f:Nat} (hf:fin Ieee.single f=true):(FloatKind.f32.format.order f 0==some .lt)=decide (key Ieee.single f<0):=by
 show (Ieee.single.order f 0==some .lt)=_
 rw [za4 hf zbv.1,zbv.2]
 generalize key Ieee.single f=K
 rcases Int.lt_trichotomy K 0 with h | h | h
 ·rw [zc8 h,decide_eq_true h];rfl
 ·rw [h,zdH];rfl
 ·rw [zdG h,decide_eq_false (by omega)];rfl
theorem zko {q:Q} {V:Int} (h:q=zdC V):negQ q=zdC (-V):=by
 subst h
 refine zjL ?_ (zmE (zkN V))
 obtain ⟨h1,h2,h3⟩:=zkD V
 refine ⟨?_,h2,h3⟩
 rw [zqS,Int.neg_mul,h1,Int.neg_mul]
 rfl
theorem zmj {f:Nat} (hf:fin Ieee.single f=true):Small (zdC (key Ieee.single f)) 90:=by
 have hT:(2:Nat) ^ 149<10 ^ 90:=by decide
 refine zdx ?_ hT (Nat.two_pow_pos _)
 unfold fin at hf
 split at hf
 ·rename_i s n e h
  obtain ⟨h1,h2,h3⟩:=zfJ h
  have hk:(key Ieee.single f).natAbs=n*2 ^ (e+149).toNat:=by
   unfold Flt.key
   rw [h,za8]
   simp only [Ieee.signed,Nat.shiftLeft_eq]
   rw [show (e - -149).toNat=(e+149).toNat from by omega]
   cases s
   ·simp only [Bool.false_eq_true,if_false]
    exact Int.natAbs_natCast _
   ·simp only [if_true]
    rw [Int.natAbs_neg]
    exact Int.natAbs_natCast _
  rw [hk]
  have h4:n*2 ^ (e+149).toNat≤16777216*2 ^ 253:=Nat.mul_le_mul (by omega) (Nat.pow_le_pow_right (by omega) (by omega))
  have h5:16777216*2 ^ 253<10 ^ 90:=by decide
  omega
 ·cases hf
set_option maxHeartbeats 2000000 in
set_option maxRecDepth 100000 in
theorem zme (f:Nat) (w:World) (hf:fin Ieee.single f=true) :
  Calls Tryz.prog 33 #[.float .f32 f] w (RetS w (zdC (key Ieee.single f))):=by
 have hlt:=zel hf
 have hsm:=zmj hf
 have hf':=hf
 unfold fin at hf'
 split at hf'
 ·rename_i s n e h
  cases s
  ·have hp:=Ps.of h
   have hk:=hp.key.2
   rw [hk] at hlt ⊢
   exact zgl f _ w (by rw [hlt];exact decide_eq_false (by omega)) (zfw hp)
  ·have hk:key Ieee.single f = -((n*2 ^ (e+149).toNat:Nat):Int):=by
    unfold Flt.key
    rw [h,za8]
    simp only [Ieee.signed,Nat.shiftLeft_eq]
    rw [show (e - -149).toNat=(e+149).toNat from by omega]
    rfl
   rcases Nat.eq_zero_or_pos n with rfl | h0
   ·have hk0:key Ieee.single f=0:=by rw [hk,Nat.zero_mul];rfl
    rw [hk0] at hlt ⊢
    exact zgl f 0 w (by rw [hlt];rfl) (zlq h hf hk0)
   ·obtain ⟨r,hr,pr⟩:=znq h h0
    have hkr:=pr.key
    have hlr:=zel hkr.1
    rw [hkr.2] at hlr
    have HX:=Lib.hid (fun W=>zgl r _ W (by rw [hlr];exact decide_eq_false (by omega)) (zfw pr))
    have hV:0<n*2 ^ (e+149).toNat:=Nat.mul_pos h0 (Nat.two_pow_pos _)
    rw [hk] at hlt hsm ⊢
    generalize n*2 ^ (e+149).toNat=V at *
    rw [decide_eq_true (by omega)] at hlt
    have hsz:∀ t:ByteArray,NumQ t (zdC (V:Int))→t.size≤182:=fun t ht=>by
     have e1:=zko (V := -(V:Int)) rfl
     rw [Int.neg_neg] at e1
     rw [←e1] at ht
     exact ht.size (zix hsm) (by omega)
    have HN:Hid (∀ (t:ByteArray) W,NumQ t (zdC (V:Int))→Calls Tryz.prog 84 #[.string t] W (RetS W (zdC (-(V:Int))))):=fun t W ht=>by
     have h9:=zqN t _ W ht (by have:=hsz t ht;omega)
     rwa [zko rfl] at h9
    have ha:=fun W=>run_float_arith (P:=Tryz.prog) W .sub 64 .f32 0 f r hr
    clear hf hf' h h0 pr hr hkr hlr hsm hk hV hsz
    go_enter Tryz.func33,Tryz.ntmps33
    go_wp2_with fail
    refine (HX.out w).mono ?_
    rintro e1 w1 ⟨⟨t,rfl,ht⟩,hb1⟩
    go_wp2_with fail
    refine (HN.out t w1 ht).mono ?_
    rintro e2 w2 ⟨⟨u,rfl,hu⟩,hb2⟩
    go_wp2
    go_ret
    exact ⟨⟨u,rfl,hu⟩,hb1.trans (hb2.mono hb1.size)⟩
 ·cases hf'
end Go.Proofs.YtmkihdjolnlccaaGreatDoor
namespace Go.Proofs.YtmkihdjolnlccaaGreatDoor
open Go.RowKit Bn
open Flt
theorem zqz:(Tryz.prog.info? 22).map (fun i=>(i.zero,i.size,i.bytes))=some (some (.string { data:=#[] }),1,16):=by kernel_rfl
theorem zo9:∀ l:List ByteArray,∀ u ∈ l.map strv,u.oneCell'=true:=by
 intro l u hu
 obtain ⟨d,_,rfl⟩:=List.mem_map.1 hu
 rfl
theorem zae.cellsAt {w:World} {B n:Nat} {a:Addr} {xs:List Value} (h:zae w B 1 (some a) n xs):∀ j u,xs[j]? = some u→w.cell? (a.add j)=some u:=by
 intro j u hu
 have hl:=h.1
 have hj:j<xs.length:=by
  rcases Nat.lt_or_ge j xs.length with h1 | h1
  ·exact h1
  ·rw [List.getElem?_eq_none h1] at hu;cases hu
 obtain ⟨ad,e,_,hc⟩:=h.2 (by omega)
 injection e with e
 subst e
 exact hc j u hu
set_option maxHeartbeats 2000000 in
theorem zsu (A:Option Addr) (n c:Nat) (l:List ByteArray) (w:World) (h:zae w w.heap.size 1 A n (l.map strv)) (hn:n≤100000) (hc:A=none→c=0) :
  Calls Tryz.prog 12 #[.slice A n c] w fun e w'=>∃ A' c',e = .returned (.slice A' n c')∧n≤c'∧c'≤maxLen∧zae w' w'.heap.size 1 A' n (l.map strv)∧Below w.heap.size w w':=by
 have hL:=h.lenM
 have hbA:Below w.heap.size w (w.alloc (.cells #[] 22)):=(Below.refl _ _).alloc (Nat.le_refl _) _
 cases A with
 | none=>
  obtain rfl:=hc rfl
  have hl:l=[]:=by
   cases l with
   | nil=>rfl
   | cons x t=>
    obtain ⟨ad9,e9,_⟩:=h.2 (by simp at hL;omega)
    cases e9
  subst hl
  obtain rfl:0=n:=hL
  clear h hc
  go_enter Tryz.func12,Tryz.ntmps12
  go_wp2
  go_ret
  exact ⟨_,_,rfl,Nat.le_refl _,Nat.zero_le _,⟨rfl,fun h0=>absurd h0 (by omega)⟩,hbA⟩
 | some a1=>
  obtain ⟨i0,hi0,hz0,hz1,hz2⟩:=info_parts zqz
  have hone:∀ u ∈ l.map strv,u.oneCell'=true:=zo9 l
  have HONE:=Lib.hid hone
  have HRD:=Lib.hid h
  clear h hone hc
  go_enter Tryz.func12,Tryz.ntmps12
  go_wp2_with (at_builtin;refine wpList_append_own _ rfl _ _ 25 rfl w.heap.size 22 i0 (.string { data:=#[] }) 1 16 Tryz.underlying25 hi0 hz0 hz1 hz2 rfl (by decide) _ _ _ rfl (ziT w w.heap.size 22 (Nat.le_refl _)) a1 n c (l.map strv) rfl ?c0 ?c1 ?c2 ?c3 ?c4 ?c5 ?_)
  case c0=>rw [List.length_map];omega
  case c1=>exact (HRD.out.below ((Below.refl _ _).alloc (Nat.le_refl _) _)).cellsAt
  case c2=>exact HONE.out
  case c3=>unfold maxLen;omega
  case c4=>omega
  case c5=>simp
  intro v1 w3 hown1 hgrow1 _
  have hb3:Below w.heap.size w w3:=hbA.grown hgrow1 (by simp) (fun g hg=>by simp [Value.ownBlock] at hg;omega)
  obtain ⟨A3,c3,rfl,hlc3,hcm3,hr3⟩:=zbo hown1
  clear hgrow1 hown1 hbA
  go_wp2
  go_ret
  exact ⟨A3,c3,rfl,hlc3,hcm3,hr3,hb3⟩
def zkL (l:List ByteArray) (k:Nat) (b:Bool):Prop:=
 ∀ (A:Option Addr) (n c:Nat) (W:World),zae W W.heap.size 1 A n (l.map strv)→Calls Tryz.prog 26 #[.slice A n c,.int .i64 (k:Int),.int .i64 12] W fun e w'=>e = .returned (.bool b)∧Below W.heap.size W w'
set_option maxHeartbeats 2000000 in
set_option maxRecDepth 100000 in
theorem zie (l:List ByteArray) (k:Nat) (f:ByteArray→Bool) (hf:∀ s ∈ l,zoz s (f s)) (hk:k≤100):zkL l k (decide (l.length≤k) && l.all f):=by
 intro A n c w h
 have hL:=h.lenM
 by_cases hlen:l.length≤k
 ·have d1:decide ((k:Int)<(n:Int))=false:=decide_eq_false (by omega)
  have d1n:decide (k<n)=false:=decide_eq_false (by omega)
  have HF:=Lib.hid hf
  have HR:=Lib.hid h
  obtain ⟨X,hX⟩:∃ X,X=(decide (l.length≤k) && l.all f):=⟨_,rfl⟩
  rw [←hX]
  have hX2:X=l.all f:=by rw [hX,decide_eq_true hlen,Bool.true_and]
  have H0:Hid (X=(l.drop 0).all f):=by rw [Hid,List.drop_zero];exact hX2
  clear hf h hX hX2
  go_enter Tryz.func26,Tryz.ntmps26
  go_wp2
  go_loopg [7] n (fun g v W=>∃ i:Nat,v = .int .i64 (i:Int)∧i≤n∧g+i=n∧Hid (X=(l.drop i).all f)∧Below w.heap.size w W)
  case atStart=>exact ⟨0,rfl,Nat.zero_le _,rfl,H0,Below.refl _ _⟩
  case round=>
   obtain ⟨i,rfl,hi,hg,hx,hbel⟩:=hrel
   by_cases hlt:i<n
   ·obtain ⟨ad,hkl,rfl,hbb,hcell⟩:=(HR.out.below hbel).cellM hlt
    have hfi:=HF.out _ (List.getElem_mem hkl)
    have hx':X=(f l[i] && (l.drop (i+1)).all f):=by rw [hx.out,List.drop_eq_getElem_cons hkl,List.all_cons]
    unfold strv at hcell
    generalize l[i]=s at *
    have HX:=Lib.hid hx'
    have HFI:=Lib.hid hfi
    generalize f s=b at *
    have d2:decide ((i:Int)<(n:Int))=true:=decide_eq_true (by omega)
    obtain ⟨ii,hii⟩:∃ ii,ii=i+1:=⟨_,rfl⟩
    have hw:IntKind.i64.wrap ((i:Int)+1)=(ii:Int):=by rw [IntWalk.i64_in _ (by omega)];omega
    clear hx hx' hfi
    go_wp2_with fail
    refine (HFI.out wr).mono ?_
    rintro e w1 ⟨rfl,hb1⟩
    have hB1:=hbel.trans (hb1.mono hbel.size)
    cases b
    ·go_wp2
     go_ret
     exact ⟨by rw [HX.out];rfl,hB1⟩
    ·go_wp2
     go_roundg (n - ii)
     case rel=>exact ⟨ii,(by congr 1;omega),by omega,by omega,by rw [hii];exact HX.out,hB1⟩
     case measure=>omega
   ·obtain rfl:i=n:=by omega
    have hx':X=true:=by rw [hx.out,List.drop_of_length_le (by omega)];rfl
    have HX:=Lib.hid hx'
    clear hx hx'
    go_wp2
    go_ret
    exact ⟨by rw [HX.out];rfl,hbel⟩
 ·have d1:decide ((k:Int)<(n:Int))=true:=decide_eq_true (by omega)
  have d1n:decide (k<n)=true:=decide_eq_true (by omega)
  have hX:(decide (l.length≤k) && l.all f)=false:=by rw [decide_eq_false hlen];rfl
  rw [hX]
  clear hX
  go_enter Tryz.func26,Tryz.ntmps26
  go_wp2
  go_ret
  exact ⟨rfl,Below.refl _ _⟩
theorem zl3 (l:List ByteArray) (k:Nat) (hk:k≤100):∃ b,(b=true→l.length≤k∧∀ s ∈ l,FewT s)∧zkL l k b:=by
 obtain ⟨f,hf⟩:=Classical.skolem.1 zni
 refine ⟨_,fun h => ?_,zie l k f (fun s _=>(hf s).2) hk⟩
 rw [Bool.and_eq_true,decide_eq_true_eq,List.all_eq_true] at h
 exact ⟨h.1,fun s hs=>(hf s).1 (h.2 s hs)⟩
set_option maxHeartbeats 2000000 in
theorem zoq (s t v:ByteArray) (p q x:Q) (w:World) (hs:NumQ s p) (ht:NumQ t q) (hv:NumQ v x) (bs:s.size≤5000) (bt:t.size≤5000) (bv:v.size≤5000) (h1:cmpI p x≤0) (h2:cmpI x q≤0) :
  Calls Tryz.prog 34 #[.agg #[.string s,.string t],.string v] w fun e w'=>e = .returned (.bool true)∧Below w.heap.size w w':=by
 have hb0:Below w.heap.size w (w.alloc (.cells #[.string s,.string t] 55)):=(Below.refl _ _).alloc (Nat.le_refl _) _
 have q0:CBlk (w.alloc (.cells #[.string s,.string t] 55)) w.heap.size #[.string s,.string t] 55:=CBlk.new w _ _ _ rfl
 have H1:=Lib.hid (fun W=>zgb s v p x W hs hv (by omega) (by omega))
 have H2:=Lib.hid (fun W=>zgb v t x q W hv ht (by omega) (by omega))
 have d1:decide (cmpI p x≤0)=true:=decide_eq_true h1
 have d2:decide (cmpI x q≤0)=true:=decide_eq_true h2
 have x0:=q0.cell 0
 have x1:=q0.cell 1
 generalize cmpI p x=C1 at *
 generalize cmpI x q=C2 at *
 clear hs ht hv bs bt bv h1 h2
 go_enter Tryz.func34,Tryz.ntmps34
 go_wp2_with fail
 generalize w.alloc (.cells #[.string s,.string t] 55)=w1 at *
 refine (H1.out w1).mono ?_
 rintro e w2 ⟨rfl,hb2⟩
 have q2:=q0.below hb2 q0.lt
 have hB2:=hb0.trans (hb2.mono hb0.size)
 clear x0 x1 hb2
 have x0:=q2.cell 0
 have x1:=q2.cell 1
 go_wp2_with fail
 refine (H2.out w2).mono ?_
 rintro e w3 ⟨rfl,hb3⟩
 go_wp2_with fail
 go_ret
 exact ⟨rfl,hB2.trans (hb3.mono hB2.size)⟩
def za1 (a k:Nat):Int:=if k=0 then 0 else if k=2 ^ a+1 then ((2 ^ a - 1:Nat):Int) else (k:Int) - 1
def zfh (a k:Nat):Int:=if k=0 then -1 else if k=2 ^ a+1 then 1 else 0
theorem zgJ (s:ByteArray) (a:Nat) (st z:Int) (g o:ByteArray) (h:Conv a st z g o) (hs:s.size≤4294967296) (h0:zam s.data.toList=0) :
  ∃ k:Nat,k≤2 ^ a+1∧(∀ t:Nat,t<2 ^ a+1→(t<k↔zdb (zad s.data.toList) z (st - 1) t≤sI (zad s.data.toList)*((2 ^ 149:Nat):Int))) ∧
   ∀ w:World,Tabs w→Calls Tryz.prog 31 #[.agg #[.int .i64 a,.int .i64 st,.int .i64 z,.string g,.string o],.string s] w fun e w'=>
    e = .returned (.tuple #[.int .i64 (za1 a k),.int .i64 (zfh a k),.int .i64 0])∧Below w.heap.size w w':=by
 have hb:=h.bits
 have hst:=h.step
 have hz:=h.zero
 have hp:2 ^ a≤4096:=by
  have:=Nat.pow_le_pow_right (show 0<2 by omega) hb.2
  have e:(2:Nat) ^ 12=4096:=by decide
  omega
 obtain ⟨k,hk,h1,h2,h3⟩:=zgI s.data.toList h0 a z (st - 1) hb.2 (by omega) (by omega) (by omega)
 exact ⟨k,hk,h3,fun w hT=>zmR s a k st z g o w hT h hs h0 (za1 a k) (zfh a k) hk h1 h2 rfl rfl⟩
def zsX (s:ByteArray) (a:Nat) (st z:Int) (k:Nat):Prop:=
 k≤2 ^ a+1∧∀ t:Nat,t<2 ^ a+1→(t<k↔zdb (zad s.data.toList) z (st - 1) t≤sI (zad s.data.toList)*((2 ^ 149:Nat):Int))
theorem zqC {a k:Nat} (ha:a≤12) (hk:k≤2 ^ a+1):0≤za1 a k∧za1 a k≤4095:=by
 have hp:2 ^ a≤4096:=by
  have:=Nat.pow_le_pow_right (show 0<2 by omega) ha
  have e:(2:Nat) ^ 12=4096:=by decide
  omega
 unfold za1
 split
 ·omega
 ·split<;>omega
theorem zih (s:ByteArray) (a:Nat) (st z:Int) (g o:ByteArray) (h:Conv a st z g o) (hs:s.size≤4294967296) (h0:zam s.data.toList=0) :
  ∃ k:Nat,zsX s a st z k∧∀ w:World,Tabs w→Calls Tryz.prog 68 #[.agg #[.int .i64 a,.int .i64 st,.int .i64 z,.string g,.string o],.string s] w fun e w'=>
   e = .returned (.float .f32 (nomW (za1 a k - z) st))∧Below w.heap.size w w':=by
 have hb:=h.bits
 have hst:=h.step
 have hz:=h.zero
 have hp:2 ^ a≤4096:=by
  have:=Nat.pow_le_pow_right (show 0<2 by omega) hb.2
  have e:(2:Nat) ^ 12=4096:=by decide
  omega
 obtain ⟨k,hk,h1,h2,h3⟩:=zgI s.data.toList h0 a z (st - 1) hb.2 (by omega) (by omega) (by omega)
 exact ⟨k,⟨hk,h3⟩,fun w hT=>zcJ s a k st z g o w hT h hs (za1 a k) (zfh a k) _ hk h1 h2 rfl rfl (zqC hb.2 hk) rfl⟩
end Go.Proofs.YtmkihdjolnlccaaGreatDoor
