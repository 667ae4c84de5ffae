/- The law of quantised voltages behind its guards. -/
import Derived.Test.YtmkihdjolnlccaaGreatDoorQRp5
import Derived.Test.YtmkihdjolnlccaaGreatDoorQRv1
import Derived.Deep.RegionHeld3
import Derived.BigQuiet
import Derived.Deep.DeepCutAuto
import Derived.Deep.CutBlock
namespace Go.Proofs.YtmkihdjolnlccaaGreatDoor
open Go.RowKit Bn
open Flt
def zqV (n:Nat) (st z:Int) (g o fs ft:ByteArray):Prop:=∀ W,Tabs W→Calls Tryz.prog 27 #[.agg #[.int .i64 (n:Int),.int .i64 st,.int .i64 z,.string g,.string o]] W fun e w'=>e = .returned (.tuple #[.agg #[.string fs,.string ft],.int .i64 0])∧Below W.heap.size W w'
structure RoundV (n:Nat) (st z:Int) (g o:ByteArray) (l:List ByteArray) (ks:List Nat) (i:Nat) (v:ByteArray) (k:Nat):Prop where
 hv:l[i]? = some v
 hk:ks[i]? = some k
 num:NumQ v (zad v.data.toList)
 sm:Small (zad v.data.toList) 12
 sz:v.size≤26
 bnd:Bnd (zad v.data.toList) n st z k
 code:zov n st z g o v (za1 n k) (zfh n k) 0
def zsM (n:Nat) (T st z:Int) (g o:ByteArray):Prop:=
 ∀ (c:Int) W,0≤c→c≤T→Tabs W→Calls Tryz.prog 38 #[.agg #[.int .i64 (n:Int),.int .i64 st,.int .i64 z,.string g,.string o],.int .i64 c] W fun e w'=>((∃ s t:ByteArray,e = .returned (.tuple #[.agg #[.string s,.string t],.int .i64 0])∧NumQ s (lowE st z c)∧NumQ t (zfK st z c))∨e = .returned (.tuple #[.agg #[.string { data:=#[] },.string { data:=#[] }],.int .i64 15]))∧Below W.heap.size W w'
theorem zei {w:World} {B b m i:Nat} {xs:List Value} {u:Value} (h:zae w B 1 (some ⟨b,0,none⟩) m xs) (hi:xs[i]? = some u):w.cell? ⟨b,i,none⟩=some u:=by
 have h1:=h.cellsAt i u hi
 have e:(⟨b,0,none⟩:Addr).add i=⟨b,i,none⟩:=by
  unfold Addr.add
  split
  ·rename_i h9;rw [h9]
  ·show (⟨b,0+i,none⟩:Addr)=_
   rw [Nat.zero_add]
 rwa [e] at h1
theorem zr0 {q:Q} {n:Nat} {st z:Int} {k k':Nat} (h:Bnd q n st z k) (h':Bnd q n st z k'):k=k':=by
 have hk:=h.1
 have hk':=h'.1
 rcases Nat.lt_trichotomy k k' with h1 | h1 | h1
 ·have:=(h.2 k (by omega)).2 ((h'.2 k (by omega)).1 h1);omega
 ·exact h1
 ·have:=(h'.2 k' (by omega)).2 ((h.2 k' (by omega)).1 h1);omega
theorem zon (p q:Q):cmpI p q = -1∨cmpI p q=0∨cmpI p q=1:=by
 show zbs _ = -1∨zbs _=0∨zbs _=1
 unfold zbs
 split
 ·exact .inr (.inl rfl)
 ·split
  ·exact .inl rfl
  ·exact .inr (.inr rfl)
set_option maxHeartbeats 16000000 in
set_option maxRecDepth 100000 in
theorem zlX (n:Nat) (st z:Int) (g o fs ft:ByteArray) (A:Option Addr) (m c:Nat) (l:List ByteArray) (ks:List Nat) (w:World) (KV:zmI) (hT:Tabs w) (hA:zkd n st z g o true) (hL:zkL l 20 true) (hrd:zae w w.heap.size 1 A m (l.map strv)) (hc0:A=none→c=0) (hm:m≤20)
  (hC:Conv n st z g o) (hS:ziO n st z g o l ks) (hK:znV n st z g o ks) (hF:zqV n st z g o fs ft) (hfs:NumQ fs (nomQ st z 0)) (hft:NumQ ft (nomQ st z ((2 ^ n - 1:Nat):Int)))
  (hV:∀ i,i<m→∃ v k,RoundV n st z g o l ks i v k) (hI:zsM n ((2 ^ n - 1:Nat):Int) st z g o) :
  Calls Tryz.prog 4 #[.agg #[.int .i64 (n:Int),.int .i64 st,.int .i64 z,.string g,.string o],.slice A m c] w fun e w'=>e = .returned (.bool true)∧Below w.heap.size w w':=by
 have hst:=hC.step
 have hz:=hC.zero
 have hp:2 ^ n≤4096:=by
  have:=Nat.pow_le_pow_right (show 0<2 by omega) hC.bits.2
  have e:(2:Nat) ^ 12=4096:=by decide
  omega
 obtain ⟨T,hTd⟩:∃ T:Int,T=((2 ^ n - 1:Nat):Int):=⟨_,rfl⟩
 have hT0:0≤T∧T≤4095:=by omega
 have hzT:0≤z∧z≤4095:=by omega
 rw [←hTd] at hft hI
 have HI:=Lib.hid hI
 have hb1:Below w.heap.size w (w.alloc (.cells #[.int .i64 (n:Int),.int .i64 st,.int .i64 z,.string g,.string o] 24)):=(Below.refl _ _).alloc (Nat.le_refl _) _
 have a1:CBlk (w.alloc (.cells #[.int .i64 (n:Int),.int .i64 st,.int .i64 z,.string g,.string o] 24)) w.heap.size #[.int .i64 (n:Int),.int .i64 st,.int .i64 z,.string g,.string o] 24:=CBlk.new w _ _ _ rfl
 have hT1:=hT.later hb1
 have HK:=Lib.hid KV
 have HA:=Lib.hid hA
 have HL:=Lib.hid hL
 have HR:=Lib.hid hrd
 have HSM:=Lib.hid hS
 have HCD:=Lib.hid hK
 have HFU:=Lib.hid hF
 have HFS:=Lib.hid hfs
 have HFT:=Lib.hid hft
 have HV:=Lib.hid hV
 have HCV:=Lib.hid hC
 have HRA:Hid (∀ W,zae W W.heap.size 1 A m (l.map strv)→Calls Tryz.prog 12 #[.slice A m c] W fun e w'=>∃ A' c',e = .returned (.slice A' m c')∧m≤c'∧c'≤maxLen∧zae w' w'.heap.size 1 A' m (l.map strv)∧Below W.heap.size W w'):=fun W h=>zsu A m c l W h (by omega) hc0
 have hsN:∀ c:Int,0≤c→c≤T→Small (nomQ st z c) 20:=fun c h0 h1=>zdz hst (by omega)
 have HSN:=Lib.hid hsN
 have hfl:fs.size≤42:=hfs.size (hsN 0 (by omega) (by omega)) (by omega)
 have hftl:ft.size≤42:=hft.size (hsN T (by omega) (by omega)) (by omega)
 have HSP:=Lib.hid (fun W=>zdE fs ft _ _ W hfs hft ((hsN 0 (by omega) (by omega)).more (by omega)) ((hsN T (by omega) (by omega)).more (by omega)) (zmW hst hT0.1))
 have HLS:=Lib.hid (fun W=>zpy n st z g o W hst)
 have HHF:=Lib.hid (fun (s:ByteArray) (hs:NumQ s (lsbQ st)) W=>zrd s _ W hs (by have:=hs.size (zf3 hst) (by omega);omega))
 have HST:=Lib.hid hst
 have HTD:=Lib.hid hTd
 have d1:decide ((20:Int)<(m:Int))=false:=decide_eq_false (by omega)
 have d2:decide (20<m)=false:=decide_eq_false (by omega)
 clear KV hA hL hrd hS hK hF hfs hft hV hC hI hsN hTd hp hc0 hst
 have x0:=a1.cell 0
 have x1:=a1.cell 1
 have x2:=a1.cell 2
 have x3:=a1.cell 3
 have x4:=a1.cell 4
 go_enter Tryz.func4,Tryz.ntmps4
 go_wp2_with fail
 generalize w.alloc (.cells #[.int .i64 (n:Int),.int .i64 st,.int .i64 z,.string g,.string o] 24)=w1 at *
 refine (HA.out w1).mono ?_
 rintro e w2 ⟨rfl,hb2⟩
 have a2:=a1.below hb2 a1.lt
 have hB2:=hb1.trans (hb2.mono hb1.size)
 clear x0 x1 x2 x3 x4 hb2
 go_wp2_with fail
 refine (HL.out A m c w2 (HR.out.later hB2)).mono ?_
 rintro e w3 ⟨rfl,hb3⟩
 have a3:=a2.below hb3 a2.lt
 have hb4:Below w3.heap.size w3 (w3.alloc (.cells #[.int .i64 (n:Int),.int .i64 st,.int .i64 z,.string g,.string o] 33)):=(Below.refl _ _).alloc (Nat.le_refl _) _
 have b4:CBlk (w3.alloc (.cells #[.int .i64 (n:Int),.int .i64 st,.int .i64 z,.string g,.string o] 33)) w3.heap.size #[.int .i64 (n:Int),.int .i64 st,.int .i64 z,.string g,.string o] 33:=CBlk.new _ _ _ _ rfl
 have a4:=a3.below hb4 a3.lt
 have hB4:=hB2.trans ((hb3.trans (hb4.mono hb3.size)).mono hB2.size)
 have hT4:=hT.later hB4
 have x0:=a3.cell 0
 have x1:=a3.cell 1
 have x2:=a3.cell 2
 have x3:=a3.cell 3
 have x4:=a3.cell 4
 have y0:=b4.cell 0
 have y1:=b4.cell 1
 have y2:=b4.cell 2
 have y3:=b4.cell 3
 have y4:=b4.cell 4
 have f0:=b4.frozen 0
 have f1:=b4.frozen 1
 have f2:=b4.frozen 2
 have f3:=b4.frozen 3
 have f4:=b4.frozen 4
 go_upto_region 4 with (fail)
 clear x0 x1 x2 x3 x4 hb1 hb3 hb4 a1 a2 a3 hB2 hT1 f0 f1 f2 f3 f4
 generalize w3.heap.size=jb at *
 generalize w3.alloc (.cells #[.int .i64 (n:Int),.int .i64 st,.int .i64 z,.string g,.string o] 33)=w4 at *
 go_region_held3 (fun w'=>w'.cell? ⟨jb,0,none⟩=some (.int .i64 (n:Int))∧w'.cell? ⟨jb,1,none⟩=some (.int .i64 st)∧w'.cell? ⟨jb,2,none⟩=some (.int .i64 z)∧w'.cell? ⟨jb,3,none⟩=some (.string g)∧w'.cell? ⟨jb,4,none⟩=some (.string o))
  ((refine ⟨?_,?_,?_,?_,?_⟩<;>first | ((with_reducible refine (b6.cell _).trans ?_);rfl) | ((with_reducible refine (b5.cell _).trans ?_);rfl) | ((with_reducible refine (b4.drew.cell _).trans ?_);rfl) | ((with_reducible refine (b4.cell _).trans ?_);rfl)))
  (first
   |(go_at_call 11;refine (HSM.out A5 m c5 w5 hT5 hrd5).mono ?_;rintro e w6 ⟨bs,rfl,hbs1,hbs2,hrs,hb6⟩;have b6:=b5.below hb6 b5.lt;have a6:=a5.below hb6 a5.lt)
   |(go_at_call 12;refine (HRA.out w4.drew (HR.out.later hB4.drew)).mono ?_;rintro e w5 ⟨A5,c5,rfl,_,_,hrd5,hb5'⟩;have hb5:Below w4.heap.size w4 w5:=⟨hb5'.os,hb5'.tape,hb5'.output,hb5'.size,hb5'.block⟩;clear hb5';have b5:=b4.below hb5 b4.lt;have a5:=a4.below hb5 a4.lt;have hT5:=hT4.later hb5))
 have hb56:=hb5.trans (hb6.mono hb5.size)
 have hB6:=hB4.trans (hb56.mono hB4.size)
 have hT6:=hT.later hB6
 clear y0 y1 y2 y3 y4 hb5 hb6 hb56 a4 a5 b4 b5 hrd5 hT5 hB4 hT4 HSM HRA hbs1
 have y0:=b6.cell 0
 have y1:=b6.cell 1
 have y2:=b6.cell 2
 have y3:=b6.cell 3
 have y4:=b6.cell 4
 go_wp2_with fail
 refine (HCD.out (some ⟨bs,0,none⟩) m m w6 hT6 hrs).mono ?_
 rintro e w7 ⟨bk,rfl,hbk1,hbk2,hrk,hb7⟩
 have a7:=a6.below hb7 a6.lt
 have b7:=b6.below hb7 b6.lt
 have hrs7:=hrs.later hb7
 have hB7:=hB6.trans (hb7.mono hB6.size)
 have hT7:=hT.later hB7
 clear y0 y1 y2 y3 y4 hb7 a6 b6 hrs hB6 hT6 HCD hbk1
 have y0:=b7.cell 0
 have y1:=b7.cell 1
 have y2:=b7.cell 2
 have y3:=b7.cell 3
 have y4:=b7.cell 4
 go_wp2_with fail
 refine (HFU.out w7 hT7).mono ?_
 rintro e w8 ⟨rfl,hb8⟩
 have hb9:Below w8.heap.size w8 (w8.alloc (.cells #[.string fs,.string ft] 55)):=(Below.refl _ _).alloc (Nat.le_refl _) _
 have f9:CBlk (w8.alloc (.cells #[.string fs,.string ft] 55)) w8.heap.size #[.string fs,.string ft] 55:=CBlk.new _ _ _ _ rfl
 have hb89:=hb8.trans (hb9.mono hb8.size)
 have a9:=a7.below hb89 a7.lt
 have b9:=b7.below hb89 b7.lt
 have hrs9:=hrs7.later hb89
 have hrk9:=hrk.later hb89
 have hB9:=hB7.trans (hb89.mono hB7.size)
 have hT9:=hT.later hB9
 clear y0 y1 y2 y3 y4 hb8 hb9 hb89 a7 b7 hrs7 hrk hB7 hT7 HFU
 have s0:=f9.cell 0
 have s1:=f9.cell 1
 have g0:=f9.frozen 0
 have g1:=f9.frozen 1
 go_wp2_with fail
 generalize w8.heap.size=jf at *
 generalize w8.alloc (.cells #[.string fs,.string ft] 55)=w9 at *
 refine (HSP.out w9).mono ?_
 rintro e w10 ⟨rfl,hb10⟩
 have a10:=a9.below hb10 a9.lt
 have b10:=b9.below hb10 b9.lt
 have f10:=f9.below hb10 f9.lt
 have hrs10:=hrs9.later hb10
 have hrk10:=hrk9.later hb10
 have hB10:=hB9.trans (hb10.mono hB9.size)
 clear s0 s1 g0 g1 hb10 a9 b9 f9 hrs9 hrk9 hB9 hT9 HSP
 have x0:=a10.cell 0
 have x1:=a10.cell 1
 have x2:=a10.cell 2
 have x3:=a10.cell 3
 have x4:=a10.cell 4
 go_wp2_with fail
 refine (HLS.out w10).mono ?_
 rintro e w11 ⟨⟨ls,rfl,hls⟩,hb11⟩
 go_wp2_with fail
 refine (HHF.out ls hls w11).mono ?_
 rintro e w12 ⟨⟨hs,rfl,hhs⟩,hb12⟩
 have hb1112:=hb11.trans (hb12.mono hb11.size)
 have b12:=b10.below hb1112 b10.lt
 have f12:=f10.below hb1112 f10.lt
 have hrs12:=hrs10.later hb1112
 have hrk12:=hrk10.later hb1112
 have hB12:=hB10.trans (hb1112.mono hB10.size)
 have HHS:=Lib.hid hhs
 clear x0 x1 x2 x3 x4 hb11 hb12 hb1112 a10 b10 f10 hrs10 hrk10 hB10 HLS HHF HA HL hls hhs
 have hl12:jb<w12.heap.size:=b12.lt
 go_wp2_with fail
 go_loopg [89] m (fun g1 v89 W=>∃ i:Nat,v89 = .int .i64 (i:Int)∧i≤m∧g1+i=m∧Below w12.heap.size w12 W)
 case atStart=>exact ⟨0,rfl,Nat.zero_le _,rfl,Below.refl _ _⟩
 case round=>
  obtain ⟨i,rfl,hi,hgi,hbel⟩:=hrel
  have hBr:=hB12.trans (hbel.mono hB12.size)
  have hTr:=hT.later hBr
  by_cases hlt:i<m
  ·obtain ⟨v,k,hrv⟩:=HV.out i hlt
   obtain ⟨c',hcd⟩:∃ c':Int,za1 n k=c':=⟨_,rfl⟩
   obtain ⟨d',hdd⟩:∃ d':Int,zfh n k=d':=⟨_,rfl⟩
   have hcod:=zkv hrv.bnd
   have hcode:=hrv.code
   rw [hcd,hdd] at hcod hcode
   have hcb0:0≤c':=hcod.lo
   have hcb1:c'≤T:=by rw [HTD.out];exact hcod.hi
   obtain ⟨ad,hkl,rfl,hbb,hcell⟩:=(HR.out.below hBr).cellM hlt
   have hli:l[i]=v:=by
    have h9:=hrv.hv
    rw [List.getElem?_eq_getElem hkl] at h9
    injection h9
   rw [hli] at hcell
   replace hcell:wr.cell? (ad.add i)=some (.string v):=hcell
   obtain ⟨fw,hfw⟩:∃ fw,nomW (c' - z) st=fw:=⟨_,rfl⟩
   have hsi:((smpL n st z ks).map f32v)[i]? = some (.float .f32 fw):=by
    unfold smpL
    rw [List.getElem?_map,List.getElem?_map,hrv.hk,←hfw,←hcd]
    rfl
   have hki:((codL n ks).map natv)[i]? = some (.int .i64 c'):=by
    unfold codL
    rw [List.getElem?_map,List.getElem?_map,hrv.hk]
    show some (Value.int .i64 (((za1 n k).toNat:Nat):Int))=_
    rw [hcd,Int.toNat_of_nonneg hcb0]
   have hkey:=zd9 HST.out (d:=c' - z) (by omega)
   rw [hfw] at hkey
   have hun:=zpB (z:=z) (c:=c') HST.out (by omega)
   rw [hfw] at hun
   have HFI:Hid (∀ W,Calls Tryz.prog 32 #[.float .f32 fw] W fun e w'=>e = .returned (.bool true)∧Below W.heap.size W w'):=fun W=>by
    have h9:=zmf fw W
    rwa [hkey.1] at h9
   have HEX:Hid (∀ W,Calls Tryz.prog 33 #[.float .f32 fw] W (RetS W (nomQ st z c'))):=fun W=>by
    have h9:=zme fw W hkey.1
    rwa [hun] at h9
   have HCO:=Lib.hid hcode
   have HCN:Hid (∀ nt,NumQ nt (nomQ st z c')→zov n st z g o nt c' 0 0):=fun nt hnt=>zpj n st z c' g o nt HCV.out hnt hcb0 (by rw [←HTD.out];exact hcb1)
   have HHA:Hid (∀ (nt:ByteArray) W,NumQ nt (nomQ st z c')→Calls Tryz.prog 34 #[.agg #[.string fs,.string ft],.string nt] W fun e w'=>e = .returned (.bool true)∧Below W.heap.size W w'):=fun nt W hnt=>
    zoq fs ft nt _ _ _ W HFS.out HFT.out hnt (by omega) (by omega) (by have:=hnt.size (HSN.out c' hcb0 hcb1) (by omega);omega) (zmW HST.out hcb0) (zmW HST.out hcb1)
   have HRV:=Lib.hid hrv
   have HCOD:=Lib.hid hcod
   have HSI:=Lib.hid hsi
   have HKI:=Lib.hid hki
   have HCD2:=Lib.hid hcd
   have hqb:0<(zad v.data.toList).bot:=hrv.num.2.1
   have hvs:v.size≤26:=hrv.sz
   clear hrv hcod hcode hsi hki hkey hun hli hcd hdd hkl hfw
   have bY:=b12.below hbel b12.lt
   have y0:=bY.cell 0
   have y1:=bY.cell 1
   have y2:=bY.cell 2
   have y3:=bY.cell 3
   have y4:=bY.cell 4
   go_wp2_with fail
   refine (HCO.out wr hTr).mono ?_
   rintro e w20 ⟨rfl,hb20⟩
   have hbel20:=hbel.trans (hb20.mono hbel.size)
   have s0:=zei (hrs12.below hbel20) HSI.out
   have k0:=zei (hrk12.below hbel20) HKI.out
   clear y0 y1 y2 y3 y4 bY hb20 hcell
   go_wp2_with fail
   refine (HFI.out w20).mono ?_
   rintro e w21 ⟨rfl,hb21⟩
   have hbel21:=hbel20.trans (hb21.mono hbel20.size)
   have s1:=zei (hrs12.below hbel21) HSI.out
   clear s0 k0 hb21
   go_wp2_with fail
   refine (HEX.out w21).mono ?_
   rintro e w22 ⟨⟨nt,rfl,hnt⟩,hb22⟩
   have hbel22:=hbel21.trans (hb22.mono hbel21.size)
   have hT22:=hT.later (hB12.trans (hbel22.mono hB12.size))
   have HNT:=Lib.hid hnt
   have hnts:nt.size≤42:=hnt.size (HSN.out c' hcb0 hcb1) (by omega)
   have bY:=b12.below hbel22 b12.lt
   have y0:=bY.cell 0
   have y1:=bY.cell 1
   have y2:=bY.cell 2
   have y3:=bY.cell 3
   have y4:=bY.cell 4
   clear s1 hb22 hnt
   go_wp2_with fail
   refine (HCN.out nt HNT.out w22 hT22).mono ?_
   rintro e w23 ⟨rfl,hb23⟩
   have hbel23:=hbel22.trans (hb23.mono hbel22.size)
   have fY:=f12.below hbel23 f12.lt
   have q0:=fY.cell 0
   have q1:=fY.cell 1
   clear y0 y1 y2 y3 y4 bY hb23
   go_wp2_with fail
   refine (HHA.out nt w23 HNT.out).mono ?_
   rintro e w24 ⟨rfl,hb24⟩
   have hbel24:=hbel23.trans (hb24.mono hbel23.size)
   clear q0 q1 fY hb24 HFI HEX HCO HCN HHA hbel20 hbel21 hbel22 hbel23 hT22
   go_upto_block 2 with (fail)
   go_cut [22,23,89] from 89 to 263 (fun _ _ iv wc=>iv = .int .i64 (i:Int)∧Below w12.heap.size w12 wc)
   case first=>
    have hd3:d'=0∨d' = -1∨d'=1:=by
     rcases HCOD.out.say with h9 | h9 | h9
     ·exact .inl h9.1
     ·exact .inr (.inl h9.1)
     ·exact .inr (.inr h9.1)
    rcases hd3 with rfl | rfl | rfl
    ·have hnear:=HCOD.out.near HST.out hqb
     have HIV:=Lib.hid HI.out
     have d3:decide (0<cmpI (absQ (subQ (zad v.data.toList) (nomQ st z c'))) (zhS st))=false:=decide_eq_false (by have:=hnear.1;omega)
     have hsub:LowQ (subQ (zad v.data.toList) (nomQ st z c')):=zsz hqb (zbx st z c').1
     have hss:Small (subQ (zad v.data.toList) (nomQ st z c')) 33:=zfv HRV.out.sm (HSN.out c' hcb0 hcb1) hqb (zbx st z c').1
     have HSB:=Lib.hid (fun W=>zqX v nt _ _ W HRV.out.num HNT.out (by omega) (by omega))
     have HAB:=Lib.hid (fun (x:ByteArray) (hx:NumQ x (subQ (zad v.data.toList) (nomQ st z c'))) W=>zq2 x _ W hx (by have:=hx.size hss (by omega);omega))
     have HCM:=Lib.hid (fun (x:ByteArray) (hx:NumQ x (absQ (subQ (zad v.data.toList) (nomQ st z c')))) W=>zgb x hs _ _ W hx HHS.out (by have:=hx.size (N:=33) ⟨hss.1,hss.2⟩ (by omega);omega) (by have:=HHS.out.size (zdP HST.out) (by omega);omega))
     have hNR:=Lib.hid hnear.2
     have e9:mulQ (lsbQ st) zgx=zhS st:=rfl
     rw [e9] at HCM
     generalize cmpI (absQ (subQ (zad v.data.toList) (nomQ st z c'))) (zhS st)=cm at *
     clear hnear hsub hss e9
     go_wp2_with fail
     refine (HSB.out w24).mono ?_
     rintro e w25 ⟨⟨x1,rfl,hx1⟩,hb25⟩
     go_wp2_with fail
     refine (HAB.out x1 hx1 w25).mono ?_
     rintro e w26 ⟨⟨x2,rfl,hx2⟩,hb26⟩
     go_wp2_with fail
     refine (HCM.out x2 hx2 w26).mono ?_
     rintro e w27 ⟨rfl,hb27⟩
     have hbel27:=hbel24.trans ((hb25.trans ((hb26.trans (hb27.mono hb26.size)).mono hb25.size)).mono hbel24.size)
     have hT27:=hT.later (hB12.trans (hbel27.mono hB12.size))
     have bY:=b12.below hbel27 b12.lt
     have y0:=bY.cell 0
     have y1:=bY.cell 1
     have y2:=bY.cell 2
     have y3:=bY.cell 3
     have y4:=bY.cell 4
     clear hb25 hb26 hb27 hx1 hx2 HSB HAB HCM
     go_wp2_with fail
     refine (HIV.out c' w27 hcb0 hcb1 hT27).mono ?_
     rintro e w28 ⟨he,hb28⟩
     have hbel28:=hbel27.trans (hb28.mono hbel27.size)
     clear y0 y1 y2 y3 y4 bY hb28
     rcases he with ⟨s,t,rfl,hs1,ht1⟩ | rfl
     ·have hb29:Below w28.heap.size w28 (w28.alloc (.cells #[.string s,.string t] 55)):=(Below.refl _ _).alloc (Nat.le_refl _) _
      have i29:CBlk (w28.alloc (.cells #[.string s,.string t] 55)) w28.heap.size #[.string s,.string t] 55:=CBlk.new _ _ _ _ rfl
      have hbel29:=hbel28.trans (hb29.mono hbel28.size)
      have hsl:=hs1.size (zgU HST.out (by omega)) (by omega)
      have htl:=ht1.size (zfu HST.out (by omega)) (by omega)
      have HC1:=Lib.hid (fun W=>zdE s t _ _ W hs1 ht1 ((zgU HST.out (by omega)).more (by omega)) ((zfu HST.out (by omega)).more (by omega)) (zss HST.out))
      have HC2:=Lib.hid (fun W=>zoq s t v _ _ _ W hs1 ht1 HRV.out.num (by omega) (by omega) (by omega) hNR.out.1 hNR.out.2)
      have r0:=i29.cell 0
      have r1:=i29.cell 1
      clear hs1 ht1 hsl htl hb29
      go_wp2_with fail
      generalize w28.heap.size=ji at *
      generalize w28.alloc (.cells #[.string s,.string t] 55)=w29 at *
      refine (HC1.out w29).mono ?_
      rintro e w30 ⟨rfl,hb30⟩
      have i30:=i29.below hb30 i29.lt
      have hbel30:=hbel29.trans (hb30.mono hbel29.size)
      clear r0 r1
      have r0:=i30.cell 0
      have r1:=i30.cell 1
      go_wp2_with fail
      refine (HC2.out w30).mono ?_
      rintro e w31 ⟨rfl,hb31⟩
      go_wp2_with fail
      go_meet
      exact ⟨rfl,hbel30.trans (hb31.mono hbel30.size)⟩
     ·go_wp2_with fail
      go_meet
      exact ⟨rfl,hbel28.alloc hbel28.size _⟩
    ·obtain ⟨hc9,hlt9⟩:=HCOD.out.below HST.out hqb
     subst hc9
     obtain rfl:nt=fs:=NumQ.one HFS.out HNT.out
     have HCM:Hid (∀ W,Calls Tryz.prog 35 #[.string v,.string nt] W fun e w'=>e = .returned (.int .i64 (-1))∧Below W.heap.size W w'):=fun W=>by
      have h9:=zgb v nt _ _ W HRV.out.num HNT.out (by omega) (by omega)
      rwa [hlt9] at h9
     have fY:=f12.below hbel24 f12.lt
     have q0:=fY.cell 0
     have q1:=fY.cell 1
     clear hlt9
     go_wp2_with fail
     refine (HCM.out w24).mono ?_
     rintro e w25 ⟨rfl,hb25⟩
     go_wp2_with fail
     go_meet
     exact ⟨rfl,hbel24.trans (hb25.mono hbel24.size)⟩
    ·obtain ⟨hc9,hlt9⟩:=HCOD.out.above HST.out hqb
     rw [←HTD.out] at hc9
     subst hc9
     obtain rfl:nt=ft:=NumQ.one HFT.out HNT.out
     have HCM:Hid (∀ W,Calls Tryz.prog 35 #[.string v,.string nt] W fun e w'=>e = .returned (.int .i64 1)∧Below W.heap.size W w'):=fun W=>by
      have h9:=zgb v nt _ _ W HRV.out.num HNT.out (by omega) (by omega)
      rwa [hlt9] at h9
     have fY:=f12.below hbel24 f12.lt
     have q0:=fY.cell 0
     have q1:=fY.cell 1
     clear hlt9
     go_wp2_with fail
     refine (HCM.out w24).mono ?_
     rintro e w25 ⟨rfl,hb25⟩
     go_wp2_with fail
     go_meet
     exact ⟨rfl,hbel24.trans (hb25.mono hbel24.size)⟩
   case rest=>
    obtain ⟨rfl,hbelC⟩:=hcut
    clear hbel24 hnts HNT
    obtain ⟨ii,hii⟩:∃ ii,ii=i+1:=⟨_,rfl⟩
    have hw1:IntKind.i64.wrap ((i:Int)+1)=(ii:Int):=by rw [IntWalk.i64_in _ (by omega)];omega
    go_wp2_with fail
    go_loopg [210] i (fun g2 v210 W=>∃ j:Nat,v210 = .int .i64 (j:Int)∧j≤i∧g2+j=i∧Below w12.heap.size w12 W)
    case atStart=>exact ⟨0,rfl,Nat.zero_le _,rfl,hbelC⟩
    case round=>
     obtain ⟨j,rfl,hj,hgj,hbelj⟩:=hrel
     by_cases hji:j<i
     ·obtain ⟨v2,k2,hrv2⟩:=HV.out j (by omega)
      obtain ⟨c2,hc2⟩:∃ c2:Int,za1 n k2=c2:=⟨_,rfl⟩
      have hc20:0≤c2:=by rw [←hc2];exact (zkv hrv2.bnd).lo
      obtain ⟨ad2,hkl2,e2,_,hcell2⟩:=(HR.out.below (hB12.trans (hbelj.mono hB12.size))).cellM (show j<m by omega)
      injection e2 with e2
      subst e2
      have hlj:l[j]=v2:=by
       have h9:=hrv2.hv
       rw [List.getElem?_eq_getElem hkl2] at h9
       injection h9
      rw [hlj] at hcell2
      have hkj:((codL n ks).map natv)[j]? = some (.int .i64 c2):=by
       unfold codL
       rw [List.getElem?_map,List.getElem?_map,hrv2.hk]
       show some (Value.int .i64 (((za1 n k2).toNat:Nat):Int))=_
       rw [hc2,Int.toNat_of_nonneg hc20]
      have hv2s:=hrv2.sz
      have hq2:0<(zad v2.data.toList).bot:=hrv2.num.2.1
      have HCM:=Lib.hid (fun W=>zgb v2 v _ _ W hrv2.num HRV.out.num (by omega) (by omega))
      have hup:cmpI (zad v2.data.toList) (zad v.data.toList)≤0→c2≤c':=fun h9=>by
       have h8:=zkx hq2 hqb hrv2.bnd HRV.out.bnd h9
       rw [hc2,HCD2.out] at h8
       exact h8
      have hdn:0≤cmpI (zad v2.data.toList) (zad v.data.toList)→c'≤c2:=fun h9=>by
       have h8:=zkx hqb hq2 HRV.out.bnd hrv2.bnd (by rw [zq9 hq2 hqb];omega)
       rw [hc2,HCD2.out] at h8
       exact h8
      have hthree:=zon (zad v2.data.toList) (zad v.data.toList)
      generalize cmpI (zad v2.data.toList) (zad v.data.toList)=oo at *
      replace hcell2:wr.cell? (ad.add j)=some (.string v2):=hcell2
      have HKJ:=Lib.hid hkj
      have hjm:(j:Int)<(m:Int):=by omega
      have him:(i:Int)<(m:Int):=by omega
      have hji2:(j:Int)<(i:Int):=by omega
      obtain ⟨jj,hjj⟩:∃ jj,jj=j+1:=⟨_,rfl⟩
      have hw2:IntKind.i64.wrap ((j:Int)+1)=(jj:Int):=by rw [IntWalk.i64_in _ (by omega)];omega
      clear hrv2 hlj hkl2 hkj hc2
      go_wp2_with fail
      refine (HCM.out wr).mono ?_
      rintro e w30 ⟨rfl,hb30⟩
      have hbel30:=hbelj.trans (hb30.mono hbelj.size)
      have kI:=zei (hrk12.below hbel30) HKI.out
      have kJ:=zei (hrk12.below hbel30) HKJ.out
      clear hcell2 hb30 HCM
      rcases hthree with rfl | rfl | rfl
      ·have d5:decide (c'<c2)=false:=decide_eq_false (by have:=hup (by decide);omega)
       clear hup hdn
       go_upto_region 38 with (fail)
       go_quiet (fail)
       go_wp2
       go_roundg (i - jj)
       case rel=>exact ⟨jj,(by congr 1;omega),by omega,by omega,zab hbel30 _⟩
       case measure=>omega
      ·obtain rfl:c2=c':=Int.le_antisymm (hup (by decide)) (hdn (by decide))
       clear hup hdn
       go_upto_region 38 with (fail)
       go_quiet (fail)
       go_wp2
       go_roundg (i - jj)
       case rel=>exact ⟨jj,(by congr 1;omega),by omega,by omega,zab hbel30 _⟩
       case measure=>omega
      ·have d5:decide (c2<c')=false:=decide_eq_false (by have:=hdn (by decide);omega)
       clear hup hdn
       go_upto_region 38 with (fail)
       go_quiet (fail)
       go_wp2
       go_roundg (i - jj)
       case rel=>exact ⟨jj,(by congr 1;omega),by omega,by omega,zab hbel30 _⟩
       case measure=>omega
     ·have d6:decide ((j:Int)<(i:Int))=false:=decide_eq_false (by omega)
      have d7:decide (j<i)=false:=decide_eq_false hji
      go_wp2_with fail
      go_roundg (m - ii)
      case rel=>exact ⟨ii,(by congr 1;omega),by omega,by omega,hbelj⟩
      case measure=>omega
  ·go_wp2_with fail
   refine (HK.out wr hTr).mono ?_
   rintro e w99 ⟨rfl,hb99⟩
   go_wp2_with fail
   go_ret
   exact ⟨rfl,hBr.trans (hb99.mono hBr.size)⟩
end Go.Proofs.YtmkihdjolnlccaaGreatDoor
