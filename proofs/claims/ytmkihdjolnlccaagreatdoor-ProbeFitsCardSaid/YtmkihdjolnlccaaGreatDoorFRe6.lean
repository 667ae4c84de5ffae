/- The law of fits: what holds of a fitted converter. -/
import Derived.Test.YtmkihdjolnlccaaGreatDoorFRc9
import Derived.Test.YtmkihdjolnlccaaGreatDoorFRc1
import Derived.Deep.RegionHeld3
namespace Go.Proofs.YtmkihdjolnlccaaGreatDoor
open Go.RowKit Bn
open Flt
structure MarkFit (T st z:Int) (G O:Q) (c:Int) (v:ByteArray):Prop where
 lo:0≤c
 hi:c≤T
 mid:∀ s,NumQ s (mulQ (addQ (realQ G O (lowE st z c)) (realQ G O (highE st z c))) halfQ)→s=v
set_option maxHeartbeats 16000000 in
set_option maxRecDepth 100000 in
theorem fits_main (n:Nat) (T st z c1 c2:Int) (g o v1 v2 xg xo:ByteArray) (G O:Q) (w:World) (KV:AwakeK) (hT:Tabs w) (hA:FewAIs n st z g o true) (hV1:FewIs v1 true) (hV2:FewIs v2 true) (hX:CalCode n st z c1 c2 g o v1 v2 n st z xg xo 0)
  (hC:AdcSays n st z xg xo 0) (hTr:TrueSays n T st z xg xo G O) (hM1:MarkFit T st z G O c1 v1) (hM2:MarkFit T st z G O c2 v2) (hTT:T≤4095) (hst : -20≤st∧st≤4)
  (hGn:NumQ xg G) (sG:Small G 100) (hsz:∀ c:Int,0≤c→c≤T→Small (realQ G O (lowE st z c)) 233∧Small (realQ G O (highE st z c)) 233)
  (hnx:∀ c:Int,realQ G O (lowE st z (c+1))=realQ G O (highE st z c)) (hwd:∀ c:Int,subQ (realQ G O (highE st z c)) (realQ G O (lowE st z c))=mulQ G (lsbQ st)) (hor:∀ c:Int,cmpI (realQ G O (lowE st z c)) (realQ G O (highE st z c))≤0) :
  Calls Tryz.prog 5 #[.agg #[.int .i64 (n:Int),.int .i64 st,.int .i64 z,.string g,.string o],.agg #[.int .i64 c1,.string v1],.agg #[.int .i64 c2,.string v2]] w fun e w'=>e = .returned (.bool true)∧Below w.heap.size w w':=by
 have hb1:Below w.heap.size w (((w.alloc (.cells #[.int .i64 (n:Int),.int .i64 st,.int .i64 z,.string g,.string o] 24)).alloc (.cells #[.int .i64 c1,.string v1] 72)).alloc (.cells #[.int .i64 c2,.string v2] 72)):=(((Below.refl _ _).alloc (Nat.le_refl _) _).alloc (by simp) _).alloc (by simp;omega) _
 have a1:CBlk (((w.alloc (.cells #[.int .i64 (n:Int),.int .i64 st,.int .i64 z,.string g,.string o] 24)).alloc (.cells #[.int .i64 c1,.string v1] 72)).alloc (.cells #[.int .i64 c2,.string v2] 72)) (w.heap.size) #[.int .i64 (n:Int),.int .i64 st,.int .i64 z,.string g,.string o] 24:=((CBlk.new w _ _ _ rfl).alloc _).alloc _
 have m1:CBlk (((w.alloc (.cells #[.int .i64 (n:Int),.int .i64 st,.int .i64 z,.string g,.string o] 24)).alloc (.cells #[.int .i64 c1,.string v1] 72)).alloc (.cells #[.int .i64 c2,.string v2] 72)) (w.heap.size+1) #[.int .i64 c1,.string v1] 72:=(CBlk.new _ _ _ _ (by simp)).alloc _
 have k1:CBlk (((w.alloc (.cells #[.int .i64 (n:Int),.int .i64 st,.int .i64 z,.string g,.string o] 24)).alloc (.cells #[.int .i64 c1,.string v1] 72)).alloc (.cells #[.int .i64 c2,.string v2] 72)) (w.heap.size+1+1) #[.int .i64 c2,.string v2] 72:=CBlk.new _ _ _ _ (by simp)
 have hT1:=hT.later hb1
 have HK:=Lib.hid KV
 have HA:=Lib.hid hA
 have HV1:=Lib.hid hV1
 have HV2:=Lib.hid hV2
 have HX:=Lib.hid hX
 have HC:=Lib.hid hC
 have HTr:=Lib.hid hTr
 have HM1:=Lib.hid hM1
 have HM2:=Lib.hid hM2
 have HSZ:=Lib.hid hsz
 have HNX:=Lib.hid hnx
 have HGN:=Lib.hid hGn
 have HSG:=Lib.hid sG
 have HL:=Lib.hid (fun W=>rLsb_any n st z g o W hst)
 have HLS:=Lib.hid (fun (s:ByteArray) (hs:NumQ s (lsbQ st))=>(show s.size≤22 from hs.size (lsb_small hst) (by omega)))
 have HWD:=Lib.hid hwd
 have HOR:=Lib.hid hor
 have hB1:=hb1
 clear KV hA hV1 hV2 hX hC hTr hM1 hM2 hsz hnx hwd hor hGn sG hst
 have HTT:=Lib.hid hTT
 clear hTT
 have x0:=a1.cell 0
 have x1:=a1.cell 1
 have x2:=a1.cell 2
 have x3:=a1.cell 3
 have x4:=a1.cell 4
 have y0:=m1.cell 0
 have y1:=m1.cell 1
 have z0:=k1.cell 0
 have z1:=k1.cell 1
 go_enter Tryz.func5,Tryz.ntmps5
 go_wp2_with fail
 generalize (((w.alloc (.cells #[.int .i64 (n:Int),.int .i64 st,.int .i64 z,.string g,.string o] 24)).alloc (.cells #[.int .i64 c1,.string v1] 72)).alloc (.cells #[.int .i64 c2,.string v2] 72))=w1 at *
 go_wp2_with fail
 refine (HA.out w1).mono ?_
 rintro e w2 ⟨rfl,hb2⟩
 have a2:=a1.below hb2 a1.lt
 have m2:=m1.below hb2 m1.lt
 have k2:=k1.below hb2 k1.lt
 have hB2:=hB1.trans (hb2.mono hB1.size)
 have hT2:=hT.later hB2
 clear x0 x1 x2 x3 x4 y0 y1 z0 z1 hb2 a1 m1 k1
 have x0:=a2.cell 0
 have x1:=a2.cell 1
 have x2:=a2.cell 2
 have x3:=a2.cell 3
 have x4:=a2.cell 4
 have y0:=m2.cell 0
 have y1:=m2.cell 1
 have z0:=k2.cell 0
 have z1:=k2.cell 1
 go_wp2_with fail
 refine (HV1.out w2).mono ?_
 rintro e w3 ⟨rfl,hb3⟩
 have a3:=a2.below hb3 a2.lt
 have m3:=m2.below hb3 m2.lt
 have k3:=k2.below hb3 k2.lt
 have hB3:=hB2.trans (hb3.mono hB2.size)
 have hT3:=hT.later hB3
 clear x0 x1 x2 x3 x4 y0 y1 z0 z1 hb3 a2 m2 k2
 have x0:=a3.cell 0
 have x1:=a3.cell 1
 have x2:=a3.cell 2
 have x3:=a3.cell 3
 have x4:=a3.cell 4
 have y0:=m3.cell 0
 have y1:=m3.cell 1
 have z0:=k3.cell 0
 have z1:=k3.cell 1
 go_wp2_with fail
 refine (HV2.out w3).mono ?_
 rintro e w4 ⟨rfl,hb4⟩
 have a4:=a3.below hb4 a3.lt
 have m4:=m3.below hb4 m3.lt
 have k4:=k3.below hb4 k3.lt
 have hB4:=hB3.trans (hb4.mono hB3.size)
 have hT4:=hT.later hB4
 clear x0 x1 x2 x3 x4 y0 y1 z0 z1 hb4 a3 m3 k3
 have x0:=a4.cell 0
 have x1:=a4.cell 1
 have x2:=a4.cell 2
 have x3:=a4.cell 3
 have x4:=a4.cell 4
 have y0:=m4.cell 0
 have y1:=m4.cell 1
 have z0:=k4.cell 0
 have z1:=k4.cell 1
 go_wp2_with fail
 refine (HX.out w4 hT4).mono ?_
 rintro e w5 ⟨rfl,hb5⟩
 have hb6:Below w5.heap.size w5 (w5.alloc (.cells #[.int .i64 (n:Int),.int .i64 st,.int .i64 z,.string xg,.string xo] 33)):=(Below.refl _ _).alloc (Nat.le_refl _) _
 have p6:CBlk (w5.alloc (.cells #[.int .i64 (n:Int),.int .i64 st,.int .i64 z,.string xg,.string xo] 33)) w5.heap.size #[.int .i64 (n:Int),.int .i64 st,.int .i64 z,.string xg,.string xo] 33:=CBlk.new _ _ _ _ rfl
 have hb56:=hb5.trans (hb6.mono hb5.size)
 have a6:=a4.below hb56 a4.lt
 have m6:=m4.below hb56 m4.lt
 have k6:=k4.below hb56 k4.lt
 have hB6:=hB4.trans (hb56.mono hB4.size)
 have hT6:=hT.later hB6
 have hwj:w.heap.size≤w5.heap.size:=Nat.le_trans hB4.size hb5.size
 clear x0 x1 x2 x3 x4 y0 y1 z0 z1 hb5 hb6 hb56 a4 m4 k4 hB4 hT4
 have x0:=a6.cell 0
 have x1:=a6.cell 1
 have x2:=a6.cell 2
 have x3:=a6.cell 3
 have x4:=a6.cell 4
 have y0:=m6.cell 0
 have y1:=m6.cell 1
 have z0:=k6.cell 0
 have z1:=k6.cell 1
 go_wp2_with fail
 generalize w5.heap.size=j at *
 generalize w5.alloc (.cells #[.int .i64 (n:Int),.int .i64 st,.int .i64 z,.string xg,.string xo] 33)=w6 at *
 have p0:=p6.cell 0
 have p1:=p6.cell 1
 have p2:=p6.cell 2
 have p3:=p6.cell 3
 have p4:=p6.cell 4
 go_wp2_with fail
 refine (HC.out w6).mono ?_
 rintro e w7 ⟨rfl,hb7⟩
 have a7:=a6.below hb7 a6.lt
 have m7:=m6.below hb7 m6.lt
 have k7:=k6.below hb7 k6.lt
 have p7:=p6.below hb7 p6.lt
 have hB7:=hB6.trans (hb7.mono hB6.size)
 have hT7:=hT.later hB7
 clear x0 x1 x2 x3 x4 y0 y1 z0 z1 p0 p1 p2 p3 p4 hb7 a6 m6 k6 p6 hB6 hT6
 have x0:=a7.cell 0
 have x1:=a7.cell 1
 have x2:=a7.cell 2
 have x3:=a7.cell 3
 have x4:=a7.cell 4
 have y0:=m7.cell 0
 have y1:=m7.cell 1
 have z0:=k7.cell 0
 have z1:=k7.cell 1
 have p0:=p7.cell 0
 have p1:=p7.cell 1
 have p2:=p7.cell 2
 have p3:=p7.cell 3
 have p4:=p7.cell 4
 have hj7:j<w7.heap.size:=p7.lt
 go_upto_region 9 with (fail)
 have l8:CBlk (w7.alloc (.cells #[.int .i64 c1,.string v1,.int .i64 c2,.string v2] 72)) w7.heap.size #[.int .i64 c1,.string v1,.int .i64 c2,.string v2] 72:=CBlk.new _ _ _ _ rfl
 have hb8:Below w7.heap.size w7 (w7.alloc (.cells #[.int .i64 c1,.string v1,.int .i64 c2,.string v2] 72)):=(Below.refl _ _).alloc (Nat.le_refl _) _
 have a8:=a7.below hb8 a7.lt
 have p8:=p7.below hb8 p7.lt
 have hB8:=hB7.trans (hb8.mono hB7.size)
 clear x0 x1 x2 x3 x4 y0 y1 z0 z1 p0 p1 p2 p3 p4 hb8 a7 m7 k7 p7 hB7 hT7 hj7
 generalize w7.heap.size=gl at *
 generalize w7.alloc (.cells #[.int .i64 c1,.string v1,.int .i64 c2,.string v2] 72)=w8 at *
 clear hb1 hT1 hB1 hB2 hT2 hB3 hT3 HA HV1 HV2 HX HC
 go_loopg [77] 2 (fun g1 v77 W=>∃ i:Nat,v77 = .int .i64 (i:Int)∧i≤2∧g1+i=2∧Below w8.heap.size w8 W)
 case atStart=>exact ⟨0,rfl,by omega,rfl,Below.refl _ _⟩
 case round=>
  obtain ⟨i,rfl,hi,hgi,hbel⟩:=hrel
  have ar:=a8.below hbel a8.lt
  have pr:=p8.below hbel p8.lt
  have lr:=l8.below hbel l8.lt
  have hBr:=hB8.trans (hbel.mono hB8.size)
  have hTr':=hT.later hBr
  match i,hi,hgi with
  | 0,_,_=>
    have l0:=lr.cell 0
    have l1:=lr.cell 1
    have x0:=pr.cell 0
    have x1:=pr.cell 1
    have x2:=pr.cell 2
    have x3:=pr.cell 3
    have x4:=pr.cell 4
    have hbm:Below wr.heap.size wr (wr.alloc (.cells #[.int .i64 c1,.string v1] 72)):=(Below.refl _ _).alloc (Nat.le_refl _) _
    have m9:CBlk (wr.alloc (.cells #[.int .i64 c1,.string v1] 72)) wr.heap.size #[.int .i64 c1,.string v1] 72:=CBlk.new _ _ _ _ rfl
    have a9:=ar.below hbm ar.lt
    have p9:=pr.below hbm pr.lt
    have hbel9:=hbel.trans (hbm.mono hbel.size)
    have hB9:=hB8.trans (hbel9.mono hB8.size)
    have hT9:=hT.later hB9
    have x0':=p9.cell 0
    have x1':=p9.cell 1
    have x2':=p9.cell 2
    have x3':=p9.cell 3
    have x4':=p9.cell 4
    have y0:=m9.cell 0
    have y1:=m9.cell 1
    have f0:=m9.frozen 0
    have f1:=m9.frozen 1
    go_upto_region 11 with (fail)
    clear l0 l1 x0 x1 x2 x3 x4 ar pr lr hbm hBr hTr'
    generalize wr.heap.size=jm at *
    generalize (wr.alloc (.cells #[.int .i64 c1,.string v1] 72))=w9 at *
    go_wp2_with fail
    refine (HTr.out c1 w9 HM1.out.lo HM1.out.hi hT9).mono ?_
    rintro e w10 ⟨he,hb10⟩
    have hbel10:=hbel9.trans (hb10.mono hbel9.size)
    rcases he with ⟨s,t,rfl,hs,ht,hc0,hcT⟩ | rfl
    ·have hb11:Below w10.heap.size w10 (w10.alloc (.cells #[.string s,.string t] 55)):=(Below.refl _ _).alloc (Nat.le_refl _) _
     have t20:CBlk (w10.alloc (.cells #[.string s,.string t] 55)) w10.heap.size #[.string s,.string t] 55:=CBlk.new _ _ _ _ rfl
     have hbb:=hb10.trans (hb11.mono hb10.size)
     have a20:=a9.below hbb a9.lt
     have p20:=p9.below hbb p9.lt
     have m20:=m9.below hbb m9.lt
     have hbel20:=hbel10.trans (hb11.mono hbel10.size)
     have hsl:s.size≤468:=hs.size (HSZ.out c1 HM1.out.lo HM1.out.hi).1 (by omega)
     have htl:t.size≤468:=ht.size (HSZ.out c1 HM1.out.lo HM1.out.hi).2 (by omega)
     have HCS:=Lib.hid (fun W=>rCheckSpan_two s t _ _ W hs ht ((HSZ.out c1 HM1.out.lo HM1.out.hi).1.more (by omega)) ((HSZ.out c1 HM1.out.lo HM1.out.hi).2.more (by omega)) (HOR.out c1))
     have HAD:=Lib.hid (fun W=>rAdd_q s t _ _ W hs ht (by omega) (by omega))
     have HSB:=Lib.hid (fun W=>rSub_q t s _ _ W ht hs (by omega) (by omega))
     have HHF:=Lib.hid (fun (u:ByteArray) (hu:NumQ u (addQ (realQ G O (lowE st z c1)) (realQ G O (highE st z c1)))) W=>rHalf_q u _ W hu (by have:=hu.size (small_add (HSZ.out c1 HM1.out.lo HM1.out.hi).1 (HSZ.out c1 HM1.out.lo HM1.out.hi).2 hs.2.1 ht.2.1) (by omega);omega))
     have HML:=Lib.hid (fun (u:ByteArray) (hu:NumQ u (lsbQ st)) W=>rMul_q xg u _ _ W HGN.out hu (by have:=HGN.out.size HSG.out (by omega);omega) (by have:=HLS.out u hu;omega))
     have HEQ:Hid (∀ d q,NumQ d (subQ (realQ G O (highE st z c1)) (realQ G O (lowE st z c1)))→NumQ q (mulQ G (lsbQ st))→d=q):=fun d q hd hq=>by
      rw [←HWD.out c1] at hq
      exact (NumQ.one hd hq).symm
     have HT':=Lib.hid ht
     obtain ⟨cc,hcc⟩:∃ cc,cc=c1+1:=⟨_,rfl⟩
     rw [←hcc] at hc0 hcT
     have ec:IntKind.i64.wrap (c1+1)=cc:=by
      have:=HTT.out
      have:=HM1.out.lo
      rw [IntWalk.i64_in _ (by omega)]
      omega
     have HCC:=Lib.hid hcc
     clear hs ht hcc hsl htl hb10 hb11 hbb
     go_upto_region 13 with (fail)
     generalize w10.heap.size=jt at *
     generalize w10.alloc (.cells #[.string s,.string t] 55)=w20 at *
     clear x0' x1' x2' x3' x4' y0 y1 f0 f1
     go_region_held3 (fun w'=>w'.cell? ⟨jt,0,none⟩=some (.string s)∧w'.cell? ⟨jt,1,none⟩=some (.string t)∧w'.cell? ⟨jm,1,none⟩=some (.string v1)∧w'.cell? ⟨j,3,none⟩=some (.string xg)∧w'.cell? ⟨w.heap.size,0,none⟩=some (.int .i64 (n:Int))∧w'.cell? ⟨w.heap.size,1,none⟩=some (.int .i64 st)∧w'.cell? ⟨w.heap.size,2,none⟩=some (.int .i64 z)∧w'.cell? ⟨w.heap.size,3,none⟩=some (.string g)∧w'.cell? ⟨w.heap.size,4,none⟩=some (.string o))
      ((refine ⟨?_,?_,?_,?_,?_,?_,?_,?_,?_⟩<;>first | ((with_reducible refine (t26.cell _).trans ?_);rfl) | ((with_reducible refine (m26.cell _).trans ?_);rfl) | ((with_reducible refine (p26.cell _).trans ?_);rfl) | ((with_reducible refine (a26.cell _).trans ?_);rfl) | ((with_reducible refine (t25.cell _).trans ?_);rfl) | ((with_reducible refine (m25.cell _).trans ?_);rfl) | ((with_reducible refine (p25.cell _).trans ?_);rfl) | ((with_reducible refine (a25.cell _).trans ?_);rfl) | ((with_reducible refine (t24.cell _).trans ?_);rfl) | ((with_reducible refine (m24.cell _).trans ?_);rfl) | ((with_reducible refine (p24.cell _).trans ?_);rfl) | ((with_reducible refine (a24.cell _).trans ?_);rfl) | ((with_reducible refine (t23.cell _).trans ?_);rfl) | ((with_reducible refine (m23.cell _).trans ?_);rfl) | ((with_reducible refine (p23.cell _).trans ?_);rfl) | ((with_reducible refine (a23.cell _).trans ?_);rfl) | ((with_reducible refine (t22.cell _).trans ?_);rfl) | ((with_reducible refine (m22.cell _).trans ?_);rfl) | ((with_reducible refine (p22.cell _).trans ?_);rfl) | ((with_reducible refine (a22.cell _).trans ?_);rfl) | ((with_reducible refine (t21.cell _).trans ?_);rfl) | ((with_reducible refine (m21.cell _).trans ?_);rfl) | ((with_reducible refine (p21.cell _).trans ?_);rfl) | ((with_reducible refine (a21.cell _).trans ?_);rfl) | ((with_reducible refine (t20.drew.cell _).trans ?_);rfl) | ((with_reducible refine (m20.drew.cell _).trans ?_);rfl) | ((with_reducible refine (p20.drew.cell _).trans ?_);rfl) | ((with_reducible refine (a20.drew.cell _).trans ?_);rfl) | ((with_reducible refine (t20.cell _).trans ?_);rfl) | ((with_reducible refine (m20.cell _).trans ?_);rfl) | ((with_reducible refine (p20.cell _).trans ?_);rfl) | ((with_reducible refine (a20.cell _).trans ?_);rfl)))
      (first
      |(go_at_call 43;refine (HML.out l5 hl5 w25).mono ?_;rintro e w26 ⟨⟨q6,rfl,hq6⟩,b6⟩;obtain rfl:d4=q6:=HEQ.out d4 q6 hd4 hq6;have a26:=a25.below b6 a25.lt;have p26:=p25.below b6 p25.lt;have m26:=m25.below b6 m25.lt;have t26:=t25.below b6 t25.lt)
      |(go_at_call 30;refine (HL.out w24).mono ?_;rintro e w25 ⟨⟨l5,rfl,hl5⟩,b5⟩;have a25:=a24.below b5 a24.lt;have p25:=p24.below b5 p24.lt;have m25:=m24.below b5 m24.lt;have t25:=t24.below b5 t24.lt)
      |(go_at_call 37;refine (HSB.out w23).mono ?_;rintro e w24 ⟨⟨d4,rfl,hd4⟩,b4⟩;have a24:=a23.below b4 a23.lt;have p24:=p23.below b4 p23.lt;have m24:=m23.below b4 m23.lt;have t24:=t23.below b4 t23.lt)
      |(go_at_call 29;refine (HHF.out u2 hu2 w22).mono ?_;rintro e w23 ⟨⟨h3,rfl,hh3⟩,b3⟩;obtain rfl:v1=h3:=(HM1.out.mid h3 hh3).symm;have a23:=a22.below b3 a22.lt;have p23:=p22.below b3 p22.lt;have m23:=m22.below b3 m22.lt;have t23:=t22.below b3 t22.lt)
      |(go_at_call 42;refine (HAD.out w21).mono ?_;rintro e w22 ⟨⟨u2,rfl,hu2⟩,b2⟩;have a22:=a21.below b2 a21.lt;have p22:=p21.below b2 p21.lt;have m22:=m21.below b2 m21.lt;have t22:=t21.below b2 t21.lt)
      |(go_at_call 28;refine (HCS.out w20.drew).mono ?_;rintro e w21 ⟨rfl,b1'⟩;have b1:Below w20.heap.size w20 w21:=⟨b1'.os,b1'.tape,b1'.output,b1'.size,b1'.block⟩;clear b1';have a21:=a20.below b1 a20.lt;have p21:=p20.below b1 p20.lt;have m21:=m20.below b1 m20.lt;have t21:=t20.below b1 t20.lt))
     have hbx:=b1.trans ((b2.trans ((b3.trans ((b4.trans ((b5.trans (b6.mono b5.size)).mono b4.size)).mono b3.size)).mono b2.size)).mono b1.size)
     have hbel26:=hbel20.trans (hbx.mono hbel20.size)
     clear b1 b2 b3 b4 b5 b6 hbx HCS HAD HSB HHF HML HEQ
     have x0:=p26.cell 0
     have x1:=p26.cell 1
     have x2:=p26.cell 2
     have x3:=p26.cell 3
     have x4:=p26.cell 4
     have y0:=m26.cell 0
     have y1:=m26.cell 1
     have hB26:=hB8.trans (hbel26.mono hB8.size)
     have hT26:=hT.later hB26
     go_wp2_with fail
     refine (HTr.out cc w26 hc0 hcT hT26).mono ?_
     rintro e w27 ⟨he,hb27⟩
     have hbel27:=hbel26.trans (hb27.mono hbel26.size)
     rcases he with ⟨s2,t2,rfl,hs2,ht2,_,_⟩ | rfl
     ·have hs3:s2=t:=by
       rw [HCC.out,HNX.out] at hs2
       exact NumQ.one HT'.out hs2
      obtain rfl:t=s2:=hs3.symm
      have hb28:Below w27.heap.size w27 (w27.alloc (.cells #[.string t,.string t2] 55)):=(Below.refl _ _).alloc (Nat.le_refl _) _
      have t27:=(t26.below hb27 t26.lt).below hb28 (t26.below hb27 t26.lt).lt
      have n28:CBlk (w27.alloc (.cells #[.string t,.string t2] 55)) w27.heap.size #[.string t,.string t2] 55:=CBlk.new _ _ _ _ rfl
      have hbel28:=hbel27.trans (hb28.mono hbel27.size)
      have z0:=t27.cell 0
      have z1:=t27.cell 1
      have q0:=n28.cell 0
      have q1:=n28.cell 1
      clear hs2 ht2 hs3
      go_wp2
      go_roundg 1
      case rel=>exact ⟨1,rfl,by omega,rfl,hbel28⟩
      case measure=>omega
     ·go_wp2
      go_roundg 1
      case rel=>exact ⟨1,rfl,by omega,rfl,hbel27.alloc hbel27.size _⟩
      case measure=>omega
    ·go_wp2
     go_roundg 1
     case rel=>exact ⟨1,rfl,by omega,rfl,hbel10.alloc hbel10.size _⟩
     case measure=>omega
  | 1,_,_=>
    have l0:=lr.cell 2
    have l1:=lr.cell 3
    have x0:=pr.cell 0
    have x1:=pr.cell 1
    have x2:=pr.cell 2
    have x3:=pr.cell 3
    have x4:=pr.cell 4
    have hbm:Below wr.heap.size wr (wr.alloc (.cells #[.int .i64 c2,.string v2] 72)):=(Below.refl _ _).alloc (Nat.le_refl _) _
    have m9:CBlk (wr.alloc (.cells #[.int .i64 c2,.string v2] 72)) wr.heap.size #[.int .i64 c2,.string v2] 72:=CBlk.new _ _ _ _ rfl
    have a9:=ar.below hbm ar.lt
    have p9:=pr.below hbm pr.lt
    have hbel9:=hbel.trans (hbm.mono hbel.size)
    have hB9:=hB8.trans (hbel9.mono hB8.size)
    have hT9:=hT.later hB9
    have x0':=p9.cell 0
    have x1':=p9.cell 1
    have x2':=p9.cell 2
    have x3':=p9.cell 3
    have x4':=p9.cell 4
    have y0:=m9.cell 0
    have y1:=m9.cell 1
    have f0:=m9.frozen 0
    have f1:=m9.frozen 1
    go_upto_region 11 with (fail)
    clear l0 l1 x0 x1 x2 x3 x4 ar pr lr hbm hBr hTr'
    generalize wr.heap.size=jm at *
    generalize (wr.alloc (.cells #[.int .i64 c2,.string v2] 72))=w9 at *
    go_wp2_with fail
    refine (HTr.out c2 w9 HM2.out.lo HM2.out.hi hT9).mono ?_
    rintro e w10 ⟨he,hb10⟩
    have hbel10:=hbel9.trans (hb10.mono hbel9.size)
    rcases he with ⟨s,t,rfl,hs,ht,hc0,hcT⟩ | rfl
    ·have hb11:Below w10.heap.size w10 (w10.alloc (.cells #[.string s,.string t] 55)):=(Below.refl _ _).alloc (Nat.le_refl _) _
     have t20:CBlk (w10.alloc (.cells #[.string s,.string t] 55)) w10.heap.size #[.string s,.string t] 55:=CBlk.new _ _ _ _ rfl
     have hbb:=hb10.trans (hb11.mono hb10.size)
     have a20:=a9.below hbb a9.lt
     have p20:=p9.below hbb p9.lt
     have m20:=m9.below hbb m9.lt
     have hbel20:=hbel10.trans (hb11.mono hbel10.size)
     have hsl:s.size≤468:=hs.size (HSZ.out c2 HM2.out.lo HM2.out.hi).1 (by omega)
     have htl:t.size≤468:=ht.size (HSZ.out c2 HM2.out.lo HM2.out.hi).2 (by omega)
     have HCS:=Lib.hid (fun W=>rCheckSpan_two s t _ _ W hs ht ((HSZ.out c2 HM2.out.lo HM2.out.hi).1.more (by omega)) ((HSZ.out c2 HM2.out.lo HM2.out.hi).2.more (by omega)) (HOR.out c2))
     have HAD:=Lib.hid (fun W=>rAdd_q s t _ _ W hs ht (by omega) (by omega))
     have HSB:=Lib.hid (fun W=>rSub_q t s _ _ W ht hs (by omega) (by omega))
     have HHF:=Lib.hid (fun (u:ByteArray) (hu:NumQ u (addQ (realQ G O (lowE st z c2)) (realQ G O (highE st z c2)))) W=>rHalf_q u _ W hu (by have:=hu.size (small_add (HSZ.out c2 HM2.out.lo HM2.out.hi).1 (HSZ.out c2 HM2.out.lo HM2.out.hi).2 hs.2.1 ht.2.1) (by omega);omega))
     have HML:=Lib.hid (fun (u:ByteArray) (hu:NumQ u (lsbQ st)) W=>rMul_q xg u _ _ W HGN.out hu (by have:=HGN.out.size HSG.out (by omega);omega) (by have:=HLS.out u hu;omega))
     have HEQ:Hid (∀ d q,NumQ d (subQ (realQ G O (highE st z c2)) (realQ G O (lowE st z c2)))→NumQ q (mulQ G (lsbQ st))→d=q):=fun d q hd hq=>by
      rw [←HWD.out c2] at hq
      exact (NumQ.one hd hq).symm
     have HT':=Lib.hid ht
     obtain ⟨cc,hcc⟩:∃ cc,cc=c2+1:=⟨_,rfl⟩
     rw [←hcc] at hc0 hcT
     have ec:IntKind.i64.wrap (c2+1)=cc:=by
      have:=HTT.out
      have:=HM2.out.lo
      rw [IntWalk.i64_in _ (by omega)]
      omega
     have HCC:=Lib.hid hcc
     clear hs ht hcc hsl htl hb10 hb11 hbb
     go_upto_region 13 with (fail)
     generalize w10.heap.size=jt at *
     generalize w10.alloc (.cells #[.string s,.string t] 55)=w20 at *
     clear x0' x1' x2' x3' x4' y0 y1 f0 f1
     go_region_held3 (fun w'=>w'.cell? ⟨jt,0,none⟩=some (.string s)∧w'.cell? ⟨jt,1,none⟩=some (.string t)∧w'.cell? ⟨jm,1,none⟩=some (.string v2)∧w'.cell? ⟨j,3,none⟩=some (.string xg)∧w'.cell? ⟨w.heap.size,0,none⟩=some (.int .i64 (n:Int))∧w'.cell? ⟨w.heap.size,1,none⟩=some (.int .i64 st)∧w'.cell? ⟨w.heap.size,2,none⟩=some (.int .i64 z)∧w'.cell? ⟨w.heap.size,3,none⟩=some (.string g)∧w'.cell? ⟨w.heap.size,4,none⟩=some (.string o))
      ((refine ⟨?_,?_,?_,?_,?_,?_,?_,?_,?_⟩<;>first | ((with_reducible refine (t26.cell _).trans ?_);rfl) | ((with_reducible refine (m26.cell _).trans ?_);rfl) | ((with_reducible refine (p26.cell _).trans ?_);rfl) | ((with_reducible refine (a26.cell _).trans ?_);rfl) | ((with_reducible refine (t25.cell _).trans ?_);rfl) | ((with_reducible refine (m25.cell _).trans ?_);rfl) | ((with_reducible refine (p25.cell _).trans ?_);rfl) | ((with_reducible refine (a25.cell _).trans ?_);rfl) | ((with_reducible refine (t24.cell _).trans ?_);rfl) | ((with_reducible refine (m24.cell _).trans ?_);rfl) | ((with_reducible refine (p24.cell _).trans ?_);rfl) | ((with_reducible refine (a24.cell _).trans ?_);rfl) | ((with_reducible refine (t23.cell _).trans ?_);rfl) | ((with_reducible refine (m23.cell _).trans ?_);rfl) | ((with_reducible refine (p23.cell _).trans ?_);rfl) | ((with_reducible refine (a23.cell _).trans ?_);rfl) | ((with_reducible refine (t22.cell _).trans ?_);rfl) | ((with_reducible refine (m22.cell _).trans ?_);rfl) | ((with_reducible refine (p22.cell _).trans ?_);rfl) | ((with_reducible refine (a22.cell _).trans ?_);rfl) | ((with_reducible refine (t21.cell _).trans ?_);rfl) | ((with_reducible refine (m21.cell _).trans ?_);rfl) | ((with_reducible refine (p21.cell _).trans ?_);rfl) | ((with_reducible refine (a21.cell _).trans ?_);rfl) | ((with_reducible refine (t20.drew.cell _).trans ?_);rfl) | ((with_reducible refine (m20.drew.cell _).trans ?_);rfl) | ((with_reducible refine (p20.drew.cell _).trans ?_);rfl) | ((with_reducible refine (a20.drew.cell _).trans ?_);rfl) | ((with_reducible refine (t20.cell _).trans ?_);rfl) | ((with_reducible refine (m20.cell _).trans ?_);rfl) | ((with_reducible refine (p20.cell _).trans ?_);rfl) | ((with_reducible refine (a20.cell _).trans ?_);rfl)))
      (first
      |(go_at_call 43;refine (HML.out l5 hl5 w25).mono ?_;rintro e w26 ⟨⟨q6,rfl,hq6⟩,b6⟩;obtain rfl:d4=q6:=HEQ.out d4 q6 hd4 hq6;have a26:=a25.below b6 a25.lt;have p26:=p25.below b6 p25.lt;have m26:=m25.below b6 m25.lt;have t26:=t25.below b6 t25.lt)
      |(go_at_call 30;refine (HL.out w24).mono ?_;rintro e w25 ⟨⟨l5,rfl,hl5⟩,b5⟩;have a25:=a24.below b5 a24.lt;have p25:=p24.below b5 p24.lt;have m25:=m24.below b5 m24.lt;have t25:=t24.below b5 t24.lt)
      |(go_at_call 37;refine (HSB.out w23).mono ?_;rintro e w24 ⟨⟨d4,rfl,hd4⟩,b4⟩;have a24:=a23.below b4 a23.lt;have p24:=p23.below b4 p23.lt;have m24:=m23.below b4 m23.lt;have t24:=t23.below b4 t23.lt)
      |(go_at_call 29;refine (HHF.out u2 hu2 w22).mono ?_;rintro e w23 ⟨⟨h3,rfl,hh3⟩,b3⟩;obtain rfl:v2=h3:=(HM2.out.mid h3 hh3).symm;have a23:=a22.below b3 a22.lt;have p23:=p22.below b3 p22.lt;have m23:=m22.below b3 m22.lt;have t23:=t22.below b3 t22.lt)
      |(go_at_call 42;refine (HAD.out w21).mono ?_;rintro e w22 ⟨⟨u2,rfl,hu2⟩,b2⟩;have a22:=a21.below b2 a21.lt;have p22:=p21.below b2 p21.lt;have m22:=m21.below b2 m21.lt;have t22:=t21.below b2 t21.lt)
      |(go_at_call 28;refine (HCS.out w20.drew).mono ?_;rintro e w21 ⟨rfl,b1'⟩;have b1:Below w20.heap.size w20 w21:=⟨b1'.os,b1'.tape,b1'.output,b1'.size,b1'.block⟩;clear b1';have a21:=a20.below b1 a20.lt;have p21:=p20.below b1 p20.lt;have m21:=m20.below b1 m20.lt;have t21:=t20.below b1 t20.lt))
     have hbx:=b1.trans ((b2.trans ((b3.trans ((b4.trans ((b5.trans (b6.mono b5.size)).mono b4.size)).mono b3.size)).mono b2.size)).mono b1.size)
     have hbel26:=hbel20.trans (hbx.mono hbel20.size)
     clear b1 b2 b3 b4 b5 b6 hbx HCS HAD HSB HHF HML HEQ
     have x0:=p26.cell 0
     have x1:=p26.cell 1
     have x2:=p26.cell 2
     have x3:=p26.cell 3
     have x4:=p26.cell 4
     have y0:=m26.cell 0
     have y1:=m26.cell 1
     have hB26:=hB8.trans (hbel26.mono hB8.size)
     have hT26:=hT.later hB26
     go_wp2_with fail
     refine (HTr.out cc w26 hc0 hcT hT26).mono ?_
     rintro e w27 ⟨he,hb27⟩
     have hbel27:=hbel26.trans (hb27.mono hbel26.size)
     rcases he with ⟨s2,t2,rfl,hs2,ht2,_,_⟩ | rfl
     ·have hs3:s2=t:=by
       rw [HCC.out,HNX.out] at hs2
       exact NumQ.one HT'.out hs2
      obtain rfl:t=s2:=hs3.symm
      have hb28:Below w27.heap.size w27 (w27.alloc (.cells #[.string t,.string t2] 55)):=(Below.refl _ _).alloc (Nat.le_refl _) _
      have t27:=(t26.below hb27 t26.lt).below hb28 (t26.below hb27 t26.lt).lt
      have n28:CBlk (w27.alloc (.cells #[.string t,.string t2] 55)) w27.heap.size #[.string t,.string t2] 55:=CBlk.new _ _ _ _ rfl
      have hbel28:=hbel27.trans (hb28.mono hbel27.size)
      have z0:=t27.cell 0
      have z1:=t27.cell 1
      have q0:=n28.cell 0
      have q1:=n28.cell 1
      clear hs2 ht2 hs3
      go_wp2
      go_roundg 0
      case rel=>exact ⟨2,rfl,by omega,rfl,hbel28⟩
      case measure=>omega
     ·go_wp2
      go_roundg 0
      case rel=>exact ⟨2,rfl,by omega,rfl,hbel27.alloc hbel27.size _⟩
      case measure=>omega
    ·go_wp2
     go_roundg 0
     case rel=>exact ⟨2,rfl,by omega,rfl,hbel10.alloc hbel10.size _⟩
     case measure=>omega
  | 2,_,_=>
   go_wp2_with fail
   refine (HK.out wr hTr').mono ?_
   rintro e w9 ⟨rfl,hb9⟩
   go_wp2_with fail
   go_ret
   exact ⟨rfl,hBr.trans (hb9.mono hBr.size)⟩
  | n+3,h,_=>exact absurd h (by omega)
end Go.Proofs.YtmkihdjolnlccaaGreatDoor
