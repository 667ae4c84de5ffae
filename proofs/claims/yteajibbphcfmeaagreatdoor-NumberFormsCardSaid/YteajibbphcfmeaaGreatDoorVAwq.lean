/- The awake of chapter 1's laws. -/
import Derived.Test.YteajibbphcfmeaaGreatDoorVKn7
import Derived.Test.YteajibbphcfmeaaGreatDoorVNf3
namespace Go.Proofs.YteajibbphcfmeaaGreatDoor
open Go.RowKit Bn
theorem zmf (A A':Option Addr) (c c':Nat) (xs:List Value) (hxs:∀ x ∈ xs,∃ i:Int,x = .int .i64 i) (w:World) (B:Nat) (h:zat w B 1 A 3 xs) (h':zat w B 1 A' 3 xs) :
  Calls Tryz.prog 58 #[.slice A 3 c,.slice A' 3 c'] w fun e w'=>e = .returned (.bool true)∧Below w.heap.size w w':=
 (zgr A A' 3 c c' xs hxs w B h h' (by omega)).mono fun _ _ ⟨he,m,hw⟩=>⟨he,by rw [hw];exact zab (Below.refl _ _) m⟩
theorem zl3 (a b c:Int):∀ x ∈ [Value.int .i64 a,.int .i64 b,.int .i64 c],∃ i:Int,x = .int .i64 i:=by
 intro x hx
 simp only [List.mem_cons,List.not_mem_nil,or_false] at hx
 rcases hx with rfl | rfl | rfl<;>exact ⟨_,rfl⟩
theorem zkC (A:Option Addr) (c:Nat) (w:World) (hT:Tabs w) (h:PtsR w w.heap.size A 2 [(⟨#[48]⟩,⟨#[49,48]⟩),(⟨#[53]⟩,⟨#[50,48]⟩)]) :
  Calls Tryz.prog 49 #[.slice A 2 c,.string ⟨#[50]⟩] w fun e w'=>e = .returned (.tuple #[.string ⟨#[49,52]⟩,.int .i64 0])∧Below w.heap.size w w':=by
 have h9:=zks A 2 c _ ⟨#[50]⟩ w hT h (by decide) (by decide)
 rw [show blE [(⟨#[48]⟩,⟨#[49,48]⟩),(⟨#[53]⟩,⟨#[50,48]⟩)] ((⟨#[50]⟩:ByteArray).data.toList)=0 from by kernel_rfl] at h9
 exact zdb #[49,52] h9 (by kernel_rfl)
set_option maxHeartbeats 16000000 in
set_option maxRecDepth 100000 in
theorem zkV (w:World) (hT:Tabs w):Calls Tryz.prog 8 #[] w fun e w'=>e = .returned (.bool true)∧Below w.heap.size w w':=by
 have C1:=Lib.hid zop
 have C2:=Lib.hid zke
 have C3:=Lib.hid zk8
 have C4:=Lib.hid zmA
 have C5:=Lib.hid zl6
 have C6:=Lib.hid zl5
 have C7:=Lib.hid zmk
 have C8:=Lib.hid (fun W hT=>zev #[49,47,50] #[49,47,50] (zov W hT) rfl rfl)
 have C9:=Lib.hid (fun W hT=>zev #[55,48,55,47,49,48,48,48] #[49,55,55,47,50,53,48] (zod W hT) rfl rfl)
 have rC:=Lib.hid (fun W hT=>zev #[45,49,55,55,47,50,53,48] #[45,55,48,55,47,49,48,48,48] (zoq W hT) rfl rfl)
 have qK:=Lib.hid znR
 have rJ:=Lib.hid zj2
 have rK:=Lib.hid zns
 have rM:=Lib.hid zm5
 have qV:=Lib.hid zkC
 have qP:=Lib.hid zjv
 have rH:=Lib.hid zlH
 have CS:=Lib.hid zlJ
 go_enter Tryz.func8,Tryz.ntmps8
 go_wp2_with fail
 refine (C1.out w hT).mono ?_
 rintro e w1 ⟨rfl,rG⟩
 have kS:=rG
 go_wp2_with fail
 refine (C2.out w1 (hT.later kS)).mono ?_
 rintro e w2 ⟨rfl,rD⟩
 have mB:=kS.trans (rD.mono kS.size)
 go_wp2_with fail
 refine (CS.out ⟨#[45,49]⟩ ⟨#[50]⟩ w2).mono ?_
 rintro e w3 ⟨rfl,rF⟩
 have lF:=mB.trans (rF.mono mB.size)
 go_wp2_with fail
 refine (CS.out ⟨#[45,51]⟩ ⟨#[52]⟩ w3).mono ?_
 rintro e w4 ⟨rfl,qI⟩
 have kC:=lF.trans (qI.mono lF.size)
 go_wp2_with fail
 refine (C3.out w4 (hT.later kC)).mono ?_
 rintro e w5 ⟨rfl,rI⟩
 have lL:=kC.trans (rI.mono kC.size)
 have qY:Below w5.heap.size w5 (w5.alloc (.cells #[.string ⟨#[45,54]⟩,.string ⟨#[56]⟩] 74)):=(Below.refl _ _).alloc (Nat.le_refl _) _
 have lT:=lL.trans (qY.mono lL.size)
 have iT:CBlk (w5.alloc (.cells #[.string ⟨#[45,54]⟩,.string ⟨#[56]⟩] 74)) w5.heap.size #[.string ⟨#[45,54]⟩,.string ⟨#[56]⟩] 74:=CBlk.new _ _ _ _ rfl
 go_upto_region 4 with (fail)
 generalize qT:w5.alloc (.cells #[.string ⟨#[45,54]⟩,.string ⟨#[56]⟩] 74)=w6 at *
 clear qT
 generalize qU:w5.heap.size=iZ at *
 clear qU
 go_wp2_with fail
 refine (CS.out ⟨#[49]⟩ ⟨#[50]⟩ w6).mono ?_
 rintro e w7 ⟨rfl,qC⟩
 have mF:=lT.trans (qC.mono lT.size)
 have gX:=iT.below qC iT.lt
 clear iT
 go_wp2_with fail
 refine (CS.out ⟨#[52]⟩ ⟨#[56]⟩ w7).mono ?_
 rintro e w8 ⟨rfl,pZ⟩
 have kL:=mF.trans (pZ.mono mF.size)
 have iP:=gX.below pZ gX.lt
 clear gX
 go_wp2_with fail
 refine (C4.out w8 (hT.later kL)).mono ?_
 rintro e w9 ⟨rfl,pV⟩
 have lS:=kL.trans (pV.mono kL.size)
 have iF:=iP.below pV iP.lt
 clear iP
 have mI:Below w9.heap.size w9 (w9.alloc (.cells #[.string ⟨#[49,47,56]⟩,.string ⟨#[49,47,50]⟩] 74)):=(Below.refl _ _).alloc (Nat.le_refl _) _
 have jW:=lS.trans (mI.mono lS.size)
 have fT:=iF.below mI iF.lt
 have cL:CBlk (w9.alloc (.cells #[.string ⟨#[49,47,56]⟩,.string ⟨#[49,47,50]⟩] 74)) w9.heap.size #[.string ⟨#[49,47,56]⟩,.string ⟨#[49,47,50]⟩] 74:=CBlk.new _ _ _ _ rfl
 clear iF
 go_upto_region 5 with (fail)
 generalize pT:w9.alloc (.cells #[.string ⟨#[49,47,56]⟩,.string ⟨#[49,47,50]⟩] 74)=qX at *
 clear pT
 generalize pM:w9.heap.size=jA at *
 clear pM
 go_wp2_with fail
 refine (CS.out ⟨#[49]⟩ ⟨#[50]⟩ qX).mono ?_
 rintro e rE ⟨rfl,kO⟩
 have jU:=jW.trans (kO.mono jW.size)
 have fL:=fT.below kO fT.lt
 have dK:=cL.below kO cL.lt
 clear fT cL
 go_wp2_with fail
 refine (CS.out ⟨#[51]⟩ ⟨#[52]⟩ rE).mono ?_
 rintro e qM ⟨rfl,kH⟩
 have iX:=jU.trans (kH.mono jU.size)
 have cT:=fL.below kH fL.lt
 have gC:=dK.below kH dK.lt
 clear fL dK
 go_wp2_with fail
 refine (C5.out qM (hT.later iX)).mono ?_
 rintro e qL ⟨rfl,kB⟩
 have jS:=iX.trans (kB.mono iX.size)
 have bZ:=cT.below kB cT.lt
 have dX:=gC.below kB gC.lt
 clear cT gC
 go_wp2_with fail
 refine (CS.out ⟨#[49]⟩ ⟨#[50]⟩ qL).mono ?_
 rintro e qN ⟨rfl,kU⟩
 have jL:=jS.trans (kU.mono jS.size)
 have gH:=bZ.below kU bZ.lt
 have cN:=dX.below kU dX.lt
 clear bZ dX
 go_wp2_with fail
 refine (CS.out ⟨#[50]⟩ ⟨#[51]⟩ qN).mono ?_
 rintro e qG ⟨rfl,kD⟩
 have iI:=jL.trans (kD.mono jL.size)
 have fU:=gH.below kD gH.lt
 have cZ:=cN.below kD cN.lt
 clear gH cN
 go_wp2_with fail
 refine (C6.out qG (hT.later iI)).mono ?_
 rintro e rL ⟨rfl,kM⟩
 have iE:=iI.trans (kM.mono iI.size)
 have bV:=fU.below kM fU.lt
 have gP:=cZ.below kM cZ.lt
 clear fU cZ
 go_wp2_with fail
 refine (C7.out rL (hT.later iE)).mono ?_
 rintro e kW ⟨rfl,kT⟩
 have jO:=iE.trans (kT.mono iE.size)
 have bW:=bV.below kT bV.lt
 have fZ:=gP.below kT gP.lt
 clear bV gP
 have kF:Below kW.heap.size kW (kW.alloc (.cells #[.string ⟨#[55,48,55,47,53,48,48]⟩,.string ⟨#[50,56,51,47,50,48,48]⟩] 74)):=(Below.refl _ _).alloc (Nat.le_refl _) _
 have iB:=jO.trans (kF.mono jO.size)
 have dW:=bW.below kF bW.lt
 have fK:=fZ.below kF fZ.lt
 have cE:CBlk (kW.alloc (.cells #[.string ⟨#[55,48,55,47,53,48,48]⟩,.string ⟨#[50,56,51,47,50,48,48]⟩] 74)) kW.heap.size #[.string ⟨#[55,48,55,47,53,48,48]⟩,.string ⟨#[50,56,51,47,50,48,48]⟩] 74:=CBlk.new _ _ _ _ rfl
 clear bW fZ
 go_upto_region 8 with (fail)
 generalize pN:kW.alloc (.cells #[.string ⟨#[55,48,55,47,53,48,48]⟩,.string ⟨#[50,56,51,47,50,48,48]⟩] 74)=rN at *
 clear pN
 generalize pH:kW.heap.size=iY at *
 clear pH
 go_wp2_with fail
 refine (C8.out rN (hT.later iB)).mono ?_
 rintro e kY ⟨rfl,jC⟩
 have jH:=iB.trans (jC.mono iB.size)
 have dH:=dW.below jC dW.lt
 have dF:=fK.below jC fK.lt
 have fV:=cE.below jC cE.lt
 clear dW fK cE
 have jD:Below kY.heap.size kY (kY.alloc (.cells #[.string ⟨#[49,47,50]⟩,.string ⟨#[49,47,50]⟩] 74)):=(Below.refl _ _).alloc (Nat.le_refl _) _
 have gZ:=jH.trans (jD.mono jH.size)
 have cJ:=dH.below jD dH.lt
 have cK:=dF.below jD dF.lt
 have fI:=fV.below jD fV.lt
 have cH:CBlk (kY.alloc (.cells #[.string ⟨#[49,47,50]⟩,.string ⟨#[49,47,50]⟩] 74)) kY.heap.size #[.string ⟨#[49,47,50]⟩,.string ⟨#[49,47,50]⟩] 74:=CBlk.new _ _ _ _ rfl
 clear dH dF fV
 go_upto_region 9 with (fail)
 generalize mQ:kY.alloc (.cells #[.string ⟨#[49,47,50]⟩,.string ⟨#[49,47,50]⟩] 74)=qZ at *
 clear mQ
 generalize nT:kY.heap.size=aZ at *
 clear nT
 go_wp2_with fail
 refine (C9.out qZ (hT.later gZ)).mono ?_
 rintro e kI ⟨rfl,iL⟩
 have jX:=gZ.trans (iL.mono gZ.size)
 have fY:=cJ.below iL cJ.lt
 have fB:=cK.below iL cK.lt
 have fJ:=fI.below iL fI.lt
 have fP:=cH.below iL cH.lt
 clear cJ cK fI cH
 have iH:Below kI.heap.size kI (kI.alloc (.cells #[.string ⟨#[55,48,55,47,49,48,48,48]⟩,.string ⟨#[49,55,55,47,50,53,48]⟩] 74)):=(Below.refl _ _).alloc (Nat.le_refl _) _
 have iW:=jX.trans (iH.mono jX.size)
 have dU:=fY.below iH fY.lt
 have gJ:=fB.below iH fB.lt
 have dT:=fJ.below iH fJ.lt
 have dQ:=fP.below iH fP.lt
 have gI:CBlk (kI.alloc (.cells #[.string ⟨#[55,48,55,47,49,48,48,48]⟩,.string ⟨#[49,55,55,47,50,53,48]⟩] 74)) kI.heap.size #[.string ⟨#[55,48,55,47,49,48,48,48]⟩,.string ⟨#[49,55,55,47,50,53,48]⟩] 74:=CBlk.new _ _ _ _ rfl
 clear fY fB fJ fP
 go_upto_region 10 with (fail)
 generalize oQ:kI.alloc (.cells #[.string ⟨#[55,48,55,47,49,48,48,48]⟩,.string ⟨#[49,55,55,47,50,53,48]⟩] 74)=rA at *
 clear oQ
 generalize oT:kI.heap.size=bA at *
 clear oT
 go_wp2_with fail
 refine (rC.out rA (hT.later iW)).mono ?_
 rintro e kQ ⟨rfl,gV⟩
 have jN:=iW.trans (gV.mono iW.size)
 have gK:=dU.below gV dU.lt
 have bP:=gJ.below gV gJ.lt
 have bT:=dT.below gV dT.lt
 have dG:=dQ.below gV dQ.lt
 have dD:=gI.below gV gI.lt
 clear dU gJ dT dQ gI
 have gW:Below kQ.heap.size kQ (kQ.alloc (.cells #[.string ⟨#[45,49,55,55,47,50,53,48]⟩,.string ⟨#[45,55,48,55,47,49,48,48,48]⟩] 74)):=(Below.refl _ _).alloc (Nat.le_refl _) _
 have iS:=jN.trans (gW.mono jN.size)
 have gS:=gK.below gW gK.lt
 have cA:=bP.below gW bP.lt
 have fC:=bT.below gW bT.lt
 have gL:=dG.below gW dG.lt
 have gO:=dD.below gW dD.lt
 have bU:CBlk (kQ.alloc (.cells #[.string ⟨#[45,49,55,55,47,50,53,48]⟩,.string ⟨#[45,55,48,55,47,49,48,48,48]⟩] 74)) kQ.heap.size #[.string ⟨#[45,49,55,55,47,50,53,48]⟩,.string ⟨#[45,55,48,55,47,49,48,48,48]⟩] 74:=CBlk.new _ _ _ _ rfl
 clear gK bP bT dG dD
 go_upto_region 11 with (fail)
 generalize oX:kQ.alloc (.cells #[.string ⟨#[45,49,55,55,47,50,53,48]⟩,.string ⟨#[45,55,48,55,47,49,48,48,48]⟩] 74)=qJ at *
 clear oX
 generalize oP:kQ.heap.size=aY at *
 clear oP
 go_wp2_with fail
 refine (qK.out qJ (hT.later iS)).mono ?_
 rintro e qE ⟨rfl,cO⟩
 have iJ:=iS.trans (cO.mono iS.size)
 have dS:=gS.below cO gS.lt
 have dO:=cA.below cO cA.lt
 have gF:=fC.below cO fC.lt
 have dJ:=gL.below cO gL.lt
 have fN:=gO.below cO gO.lt
 have dC:=bU.below cO bU.lt
 clear gS cA fC gL gO bU
 go_wp2_with fail
 refine (rJ.out qE (hT.later iJ)).mono ?_
 rintro e qH ⟨rfl,cM⟩
 have hJ:=iJ.trans (cM.mono iJ.size)
 have cI:=dS.below cM dS.lt
 have fE:=dO.below cM dO.lt
 have fH:=gF.below cM gF.lt
 have dI:=dJ.below cM dJ.lt
 have cQ:=fN.below cM fN.lt
 have fX:=dC.below cM dC.lt
 clear dS dO gF dJ fN dC
 go_wp2_with fail
 refine (rK.out qH (hT.later hJ)).mono ?_
 rintro e qO ⟨rfl,bY⟩
 have iA:=hJ.trans (bY.mono hJ.size)
 have dY:=cI.below bY cI.lt
 have cV:=fE.below bY fE.lt
 have cU:=fH.below bY fH.lt
 have gE:=dI.below bY dI.lt
 have cG:=cQ.below bY cQ.lt
 have gM:=fX.below bY fX.lt
 clear cI fE fH dI cQ fX
 go_wp2_with fail
 refine (rM.out qO (hT.later iA)).mono ?_
 rintro e jJ ⟨rfl,cF⟩
 have jM:=iA.trans (cF.mono iA.size)
 have dP:=dY.below cF dY.lt
 have fQ:=cV.below cF cV.lt
 have fW:=cU.below cF cU.lt
 have bS:=gE.below cF gE.lt
 have cC:=cG.below cF cG.lt
 have gA:=gM.below cF gM.lt
 clear dY cV cU gE cG gM
 have fD:Below jJ.heap.size jJ (jJ.alloc (.cells #[.string ⟨#[48]⟩,.string ⟨#[49,48]⟩,.string ⟨#[53]⟩,.string ⟨#[50,48]⟩] 70)):=(Below.refl _ _).alloc (Nat.le_refl _) _
 have qA:PtsR (jJ.alloc (.cells #[.string ⟨#[48]⟩,.string ⟨#[49,48]⟩,.string ⟨#[53]⟩,.string ⟨#[50,48]⟩] 70)) (jJ.alloc (.cells #[.string ⟨#[48]⟩,.string ⟨#[49,48]⟩,.string ⟨#[53]⟩,.string ⟨#[50,48]⟩] 70)).heap.size (some ⟨jJ.heap.size,0,none⟩) 2 [(⟨#[48]⟩,⟨#[49,48]⟩),(⟨#[53]⟩,⟨#[50,48]⟩)]:=by have:=PtsR.lit2 jJ ⟨#[48]⟩ ⟨#[49,48]⟩ ⟨#[53]⟩ ⟨#[50,48]⟩ 70;simpa using this
 have iV:=jM.trans (fD.mono jM.size)
 have dR:=dP.below fD dP.lt
 have gR:=fQ.below fD fQ.lt
 have bQ:=fW.below fD fW.lt
 have bN:=bS.below fD bS.lt
 have cW:=cC.below fD cC.lt
 have gD:=gA.below fD gA.lt
 have pU:=Lib.hid (qV.out _ 2 _ (hT.later iV) qA)
 clear qA dP fQ fW bS cC gA
 go_wp2_with fail
 refine pU.out.mono ?_
 clear pU
 generalize nE:jJ.alloc (.cells #[.string ⟨#[48]⟩,.string ⟨#[49,48]⟩,.string ⟨#[53]⟩,.string ⟨#[50,48]⟩] 70)=rP at *
 clear nE
 rintro e jQ ⟨rfl,dM⟩
 have jV:=iV.trans (dM.mono iV.size)
 have fO:=dR.below dM dR.lt
 have dA:=gR.below dM gR.lt
 have cR:=bQ.below dM bQ.lt
 have gB:=bN.below dM bN.lt
 have fS:=cW.below dM cW.lt
 have dB:=gD.below dM gD.lt
 clear dR gR bQ bN cW gD
 have bO:Below jQ.heap.size jQ (jQ.alloc (.cells #[.int .i64 1,.int .i64 2,.int .i64 4] 3)):=(Below.refl _ _).alloc (Nat.le_refl _) _
 have qD:zat (jQ.alloc (.cells #[.int .i64 1,.int .i64 2,.int .i64 4] 3)) (jQ.alloc (.cells #[.int .i64 1,.int .i64 2,.int .i64 4] 3)).heap.size 1 (some ⟨jQ.heap.size,0,none⟩) 3 [.int .i64 1,.int .i64 2,.int .i64 4]:=zat.lit jQ [.int .i64 1,.int .i64 2,.int .i64 4] 3
 have jT:=jV.trans (bO.mono jV.size)
 have bX:=fO.below bO fO.lt
 have fG:=dA.below bO dA.lt
 have dL:=cR.below bO cR.lt
 have fF:=gB.below bO gB.lt
 have cS:=fS.below bO fS.lt
 have dE:=dB.below bO dB.lt
 have pW:=Lib.hid (qP.out _ 3 _ qD)
 clear qD fO dA cR gB fS dB
 go_wp2_with fail
 refine pW.out.mono ?_
 clear pW
 generalize nW:jQ.alloc (.cells #[.int .i64 1,.int .i64 2,.int .i64 4] 3)=rO at *
 clear nW
 rintro e qW ⟨gs,rfl,_,qB,dZ⟩
 have jI:=jT.trans (dZ.mono jT.size)
 have cP:=bX.below dZ bX.lt
 have fA:=fG.below dZ fG.lt
 have dN:=dL.below dZ dL.lt
 have fR:=fF.below dZ fF.lt
 have gN:=cS.below dZ cS.lt
 have bM:=dE.below dZ dE.lt
 clear bX fG dL fF cS dE
 have iK:=zat.of_own qB
 clear qB
 go_wp2_with fail
 refine (rH.out qW).mono ?_
 rintro e jY ⟨gd,rfl,_,pY,bJ⟩
 have jZ:=jI.trans (bJ.mono jI.size)
 have aQ:=cP.below bJ cP.lt
 have aW:=fA.below bJ fA.lt
 have aU:=dN.below bJ dN.lt
 have cY:=fR.below bJ fR.lt
 have bR:=gN.below bJ gN.lt
 have cB:=bM.below bJ bM.lt
 have iN:=(iK.below bJ).more bJ.size
 clear cP fA dN fR gN bM iK
 have iC:=zat.of_own pY
 clear pY
 go_upto_region 18 with (fail)
 have lK:jY.drew.cell? ⟨iZ,0,none⟩=some (.string ⟨#[45,54]⟩):=aQ.cell 0
 have lX:jY.drew.cell? ⟨iZ,1,none⟩=some (.string ⟨#[56]⟩):=aQ.cell 1
 have lU:jY.drew.cell? ⟨jA,0,none⟩=some (.string ⟨#[49,47,56]⟩):=aW.cell 0
 have lM:jY.drew.cell? ⟨jA,1,none⟩=some (.string ⟨#[49,47,50]⟩):=aW.cell 1
 have lO:jY.drew.cell? ⟨iY,0,none⟩=some (.string ⟨#[55,48,55,47,53,48,48]⟩):=aU.cell 0
 have lQ:jY.drew.cell? ⟨iY,1,none⟩=some (.string ⟨#[50,56,51,47,50,48,48]⟩):=aU.cell 1
 go_region_held3 (fun w'=>w'.cell? ⟨iZ,0,none⟩=some (.string ⟨#[45,54]⟩)∧w'.cell? ⟨iZ,1,none⟩=some (.string ⟨#[56]⟩)∧w'.cell? ⟨jA,0,none⟩=some (.string ⟨#[49,47,56]⟩)∧w'.cell? ⟨jA,1,none⟩=some (.string ⟨#[49,47,50]⟩)∧w'.cell? ⟨iY,0,none⟩=some (.string ⟨#[55,48,55,47,53,48,48]⟩)∧w'.cell? ⟨iY,1,none⟩=some (.string ⟨#[50,56,51,47,50,48,48]⟩))
  (first | with_reducible exact ⟨lK,lX,lU,lM,lO,lQ⟩ | with_reducible exact ⟨mG,lG,lW,mH,lJ,lH⟩ | with_reducible exact ⟨mN,mJ,lZ,mM,mA,mD⟩ | with_reducible exact ⟨mL,lP,mK,lR,lY,lI⟩)
  (first
   |(go_at_call_of 52 (Value.string ⟨#[45,54]⟩);refine (CS.out ⟨#[45,54]⟩ ⟨#[56]⟩ _).mono ?_;rintro e lA ⟨rfl,aN⟩;have aT:=aQ.drew.below aN aQ.lt;have aS:=aW.drew.below aN aW.lt;have aX:=aU.drew.below aN aU.lt;have gQ:=cY.drew.below aN cY.lt;have dV:=bR.drew.below aN bR.lt;have gT:=cB.drew.below aN cB.lt;have mG:lA.cell? ⟨iZ,0,none⟩=some (.string ⟨#[45,54]⟩):=aT.cell 0;have lG:lA.cell? ⟨iZ,1,none⟩=some (.string ⟨#[56]⟩):=aT.cell 1;have lW:lA.cell? ⟨jA,0,none⟩=some (.string ⟨#[49,47,56]⟩):=aS.cell 0;have mH:lA.cell? ⟨jA,1,none⟩=some (.string ⟨#[49,47,50]⟩):=aS.cell 1;have lJ:lA.cell? ⟨iY,0,none⟩=some (.string ⟨#[55,48,55,47,53,48,48]⟩):=aX.cell 0;have lH:lA.cell? ⟨iY,1,none⟩=some (.string ⟨#[50,56,51,47,50,48,48]⟩):=aX.cell 1)
   |(go_at_call_of 52 (Value.string ⟨#[49,47,56]⟩);refine (CS.out ⟨#[49,47,56]⟩ ⟨#[49,47,50]⟩ _).mono ?_;rintro e lC ⟨rfl,aK⟩;have aR:=aT.below aK aT.lt;have aV:=aS.below aK aS.lt;have aP:=aX.below aK aX.lt;have bL:=gQ.below aK gQ.lt;have fM:=dV.below aK dV.lt;have gG:=gT.below aK gT.lt;have mN:lC.cell? ⟨iZ,0,none⟩=some (.string ⟨#[45,54]⟩):=aR.cell 0;have mJ:lC.cell? ⟨iZ,1,none⟩=some (.string ⟨#[56]⟩):=aR.cell 1;have lZ:lC.cell? ⟨jA,0,none⟩=some (.string ⟨#[49,47,56]⟩):=aV.cell 0;have mM:lC.cell? ⟨jA,1,none⟩=some (.string ⟨#[49,47,50]⟩):=aV.cell 1;have mA:lC.cell? ⟨iY,0,none⟩=some (.string ⟨#[55,48,55,47,53,48,48]⟩):=aP.cell 0;have mD:lC.cell? ⟨iY,1,none⟩=some (.string ⟨#[50,56,51,47,50,48,48]⟩):=aP.cell 1)
   |(go_at_call_of 52 (Value.string ⟨#[55,48,55,47,53,48,48]⟩);refine (CS.out ⟨#[55,48,55,47,53,48,48]⟩ ⟨#[50,56,51,47,50,48,48]⟩ _).mono ?_;rintro e gU ⟨rfl,aO⟩;have iU:=aR.below aO aR.lt;have iQ:=aV.below aO aV.lt;have iD:=aP.below aO aP.lt;have bF:=bL.below aO bL.lt;have bC:=fM.below aO fM.lt;have bI:=gG.below aO gG.lt;have mL:gU.cell? ⟨iZ,0,none⟩=some (.string ⟨#[45,54]⟩):=iU.cell 0;have lP:gU.cell? ⟨iZ,1,none⟩=some (.string ⟨#[56]⟩):=iU.cell 1;have mK:gU.cell? ⟨jA,0,none⟩=some (.string ⟨#[49,47,56]⟩):=iQ.cell 0;have lR:gU.cell? ⟨jA,1,none⟩=some (.string ⟨#[49,47,50]⟩):=iQ.cell 1;have lY:gU.cell? ⟨iY,0,none⟩=some (.string ⟨#[55,48,55,47,53,48,48]⟩):=iD.cell 0;have lI:gU.cell? ⟨iY,1,none⟩=some (.string ⟨#[50,56,51,47,50,48,48]⟩):=iD.cell 1)
  )
 have pQ:=(Below.refl jY.heap.size jY).drew
 have lB:=pQ.trans ((aN.trans ((aK.trans (aO.mono aK.size)).mono aN.size)).mono pQ.size)
 have kE:=(iN.below lB).more lB.size
 have kX:=(iC.below lB).more lB.size
 have jP:=jZ.trans (lB.mono jZ.size)
 clear pQ lB aN aK aO aQ aT aR aW aS aV aU aX aP cY gQ bL bR dV fM cB gT gG iN iC lK lX mG lG mN mJ mL lP lU lM lW mH lZ mM mK lR lO lQ lJ lH mA mD lY lI
 go_upto_region 20 with (fail)
 have mU:gU.drew.cell? ⟨aZ,0,none⟩=some (.string ⟨#[49,47,50]⟩):=bF.cell 0
 have nB:gU.drew.cell? ⟨aZ,1,none⟩=some (.string ⟨#[49,47,50]⟩):=bF.cell 1
 have pJ:gU.drew.cell? ⟨bA,0,none⟩=some (.string ⟨#[55,48,55,47,49,48,48,48]⟩):=bC.cell 0
 have pE:gU.drew.cell? ⟨bA,1,none⟩=some (.string ⟨#[49,55,55,47,50,53,48]⟩):=bC.cell 1
 have oE:gU.drew.cell? ⟨aY,0,none⟩=some (.string ⟨#[45,49,55,55,47,50,53,48]⟩):=bI.cell 0
 have nP:gU.drew.cell? ⟨aY,1,none⟩=some (.string ⟨#[45,55,48,55,47,49,48,48,48]⟩):=bI.cell 1
 go_region_held3 (fun w'=>w'.cell? ⟨aZ,0,none⟩=some (.string ⟨#[49,47,50]⟩)∧w'.cell? ⟨aZ,1,none⟩=some (.string ⟨#[49,47,50]⟩)∧w'.cell? ⟨bA,0,none⟩=some (.string ⟨#[55,48,55,47,49,48,48,48]⟩)∧w'.cell? ⟨bA,1,none⟩=some (.string ⟨#[49,55,55,47,50,53,48]⟩)∧w'.cell? ⟨aY,0,none⟩=some (.string ⟨#[45,49,55,55,47,50,53,48]⟩)∧w'.cell? ⟨aY,1,none⟩=some (.string ⟨#[45,55,48,55,47,49,48,48,48]⟩))
  (first | with_reducible exact ⟨mU,nB,pJ,pE,oE,nP⟩ | with_reducible exact ⟨nI,mZ,nY,oL,oR,oA⟩ | with_reducible exact ⟨nZ,nV,nO,nG,oH,nR⟩ | with_reducible exact ⟨pR,nC,oN,mY,nN,oY⟩ | with_reducible exact ⟨nL,oD,nJ,nH,oI,oW⟩ | with_reducible exact ⟨pO,pL,oV,oB,mW,nF⟩ | with_reducible exact ⟨mT,oC,pK,nK,oF,nA⟩ | with_reducible exact ⟨mV,pF,oZ,oG,oS,nQ⟩ | with_reducible exact ⟨nS,nM,nX,mP,oO,pI⟩ | with_reducible exact ⟨mS,mR,pG,oK,pP,nU⟩)
  (first
   |(go_at_call_of 52 (Value.string ⟨#[49,47,50]⟩);refine (CS.out ⟨#[49,47,50]⟩ ⟨#[49,47,50]⟩ _).mono ?_;rintro e lD ⟨rfl,aM⟩;have bH:=bF.drew.below aM bF.lt;have bG:=bC.drew.below aM bC.lt;have bB:=bI.drew.below aM bI.lt;have kK:=(kE.drew.below aM).more aM.size;have kZ:=(kX.drew.below aM).more aM.size;have nI:lD.cell? ⟨aZ,0,none⟩=some (.string ⟨#[49,47,50]⟩):=bH.cell 0;have mZ:lD.cell? ⟨aZ,1,none⟩=some (.string ⟨#[49,47,50]⟩):=bH.cell 1;have nY:lD.cell? ⟨bA,0,none⟩=some (.string ⟨#[55,48,55,47,49,48,48,48]⟩):=bG.cell 0;have oL:lD.cell? ⟨bA,1,none⟩=some (.string ⟨#[49,55,55,47,50,53,48]⟩):=bG.cell 1;have oR:lD.cell? ⟨aY,0,none⟩=some (.string ⟨#[45,49,55,55,47,50,53,48]⟩):=bB.cell 0;have oA:lD.cell? ⟨aY,1,none⟩=some (.string ⟨#[45,55,48,55,47,49,48,48,48]⟩):=bB.cell 1)
   |(go_at_call_of 52 (Value.string ⟨#[55,48,55,47,49,48,48,48]⟩);refine (CS.out ⟨#[55,48,55,47,49,48,48,48]⟩ ⟨#[49,55,55,47,50,53,48]⟩ _).mono ?_;rintro e lE ⟨rfl,aJ⟩;have bE:=bH.below aJ bH.lt;have bK:=bG.below aJ bG.lt;have bD:=bB.below aJ bB.lt;have kG:=(kK.below aJ).more aJ.size;have kR:=(kZ.below aJ).more aJ.size;have nZ:lE.cell? ⟨aZ,0,none⟩=some (.string ⟨#[49,47,50]⟩):=bE.cell 0;have nV:lE.cell? ⟨aZ,1,none⟩=some (.string ⟨#[49,47,50]⟩):=bE.cell 1;have nO:lE.cell? ⟨bA,0,none⟩=some (.string ⟨#[55,48,55,47,49,48,48,48]⟩):=bK.cell 0;have nG:lE.cell? ⟨bA,1,none⟩=some (.string ⟨#[49,55,55,47,50,53,48]⟩):=bK.cell 1;have oH:lE.cell? ⟨aY,0,none⟩=some (.string ⟨#[45,49,55,55,47,50,53,48]⟩):=bD.cell 0;have nR:lE.cell? ⟨aY,1,none⟩=some (.string ⟨#[45,55,48,55,47,49,48,48,48]⟩):=bD.cell 1)
   |(go_at_call_of 52 (Value.string ⟨#[45,49,55,55,47,50,53,48]⟩);refine (CS.out ⟨#[45,49,55,55,47,50,53,48]⟩ ⟨#[45,55,48,55,47,49,48,48,48]⟩ _).mono ?_;rintro e aC ⟨rfl,aL⟩;have aH:=bE.below aL bE.lt;have aI:=bK.below aL bK.lt;have aF:=bD.below aL bD.lt;have iO:=(kG.below aL).more aL.size;have kN:=(kR.below aL).more aL.size;have pR:aC.cell? ⟨aZ,0,none⟩=some (.string ⟨#[49,47,50]⟩):=aH.cell 0;have nC:aC.cell? ⟨aZ,1,none⟩=some (.string ⟨#[49,47,50]⟩):=aH.cell 1;have oN:aC.cell? ⟨bA,0,none⟩=some (.string ⟨#[55,48,55,47,49,48,48,48]⟩):=aI.cell 0;have mY:aC.cell? ⟨bA,1,none⟩=some (.string ⟨#[49,55,55,47,50,53,48]⟩):=aI.cell 1;have nN:aC.cell? ⟨aY,0,none⟩=some (.string ⟨#[45,49,55,55,47,50,53,48]⟩):=aF.cell 0;have oY:aC.cell? ⟨aY,1,none⟩=some (.string ⟨#[45,55,48,55,47,49,48,48,48]⟩):=aF.cell 1;have nL:(aC.alloc (.cells #[.int .i64 7,.int .i64 14,.int .i64 29] 3)).drew.cell? ⟨aZ,0,none⟩=some (.string ⟨#[49,47,50]⟩):=(aH.alloc (.cells #[.int .i64 7,.int .i64 14,.int .i64 29] 3)).cell 0;have oD:(aC.alloc (.cells #[.int .i64 7,.int .i64 14,.int .i64 29] 3)).drew.cell? ⟨aZ,1,none⟩=some (.string ⟨#[49,47,50]⟩):=(aH.alloc (.cells #[.int .i64 7,.int .i64 14,.int .i64 29] 3)).cell 1;have nJ:(aC.alloc (.cells #[.int .i64 7,.int .i64 14,.int .i64 29] 3)).drew.cell? ⟨bA,0,none⟩=some (.string ⟨#[55,48,55,47,49,48,48,48]⟩):=(aI.alloc (.cells #[.int .i64 7,.int .i64 14,.int .i64 29] 3)).cell 0;have nH:(aC.alloc (.cells #[.int .i64 7,.int .i64 14,.int .i64 29] 3)).drew.cell? ⟨bA,1,none⟩=some (.string ⟨#[49,55,55,47,50,53,48]⟩):=(aI.alloc (.cells #[.int .i64 7,.int .i64 14,.int .i64 29] 3)).cell 1;have oI:(aC.alloc (.cells #[.int .i64 7,.int .i64 14,.int .i64 29] 3)).drew.cell? ⟨aY,0,none⟩=some (.string ⟨#[45,49,55,55,47,50,53,48]⟩):=(aF.alloc (.cells #[.int .i64 7,.int .i64 14,.int .i64 29] 3)).cell 0;have oW:(aC.alloc (.cells #[.int .i64 7,.int .i64 14,.int .i64 29] 3)).drew.cell? ⟨aY,1,none⟩=some (.string ⟨#[45,55,48,55,47,49,48,48,48]⟩):=(aF.alloc (.cells #[.int .i64 7,.int .i64 14,.int .i64 29] 3)).cell 1;have pO:(aC.alloc (.cells #[.int .i64 7,.int .i64 14,.int .i64 29] 3)).cell? ⟨aZ,0,none⟩=some (.string ⟨#[49,47,50]⟩):=(aH.alloc (.cells #[.int .i64 7,.int .i64 14,.int .i64 29] 3)).cell 0;have pL:(aC.alloc (.cells #[.int .i64 7,.int .i64 14,.int .i64 29] 3)).cell? ⟨aZ,1,none⟩=some (.string ⟨#[49,47,50]⟩):=(aH.alloc (.cells #[.int .i64 7,.int .i64 14,.int .i64 29] 3)).cell 1;have oV:(aC.alloc (.cells #[.int .i64 7,.int .i64 14,.int .i64 29] 3)).cell? ⟨bA,0,none⟩=some (.string ⟨#[55,48,55,47,49,48,48,48]⟩):=(aI.alloc (.cells #[.int .i64 7,.int .i64 14,.int .i64 29] 3)).cell 0;have oB:(aC.alloc (.cells #[.int .i64 7,.int .i64 14,.int .i64 29] 3)).cell? ⟨bA,1,none⟩=some (.string ⟨#[49,55,55,47,50,53,48]⟩):=(aI.alloc (.cells #[.int .i64 7,.int .i64 14,.int .i64 29] 3)).cell 1;have mW:(aC.alloc (.cells #[.int .i64 7,.int .i64 14,.int .i64 29] 3)).cell? ⟨aY,0,none⟩=some (.string ⟨#[45,49,55,55,47,50,53,48]⟩):=(aF.alloc (.cells #[.int .i64 7,.int .i64 14,.int .i64 29] 3)).cell 0;have nF:(aC.alloc (.cells #[.int .i64 7,.int .i64 14,.int .i64 29] 3)).cell? ⟨aY,1,none⟩=some (.string ⟨#[45,55,48,55,47,49,48,48,48]⟩):=(aF.alloc (.cells #[.int .i64 7,.int .i64 14,.int .i64 29] 3)).cell 1;have jB:Below aC.heap.size aC (aC.alloc (.cells #[.int .i64 7,.int .i64 14,.int .i64 29] 3)):=(Below.refl _ _).alloc (Nat.le_refl _) (.cells #[.int .i64 7,.int .i64 14,.int .i64 29] 3);have jF:Below aC.heap.size aC (aC.alloc (.cells #[.int .i64 7,.int .i64 14,.int .i64 29] 3)).drew:=((Below.refl _ _).alloc (Nat.le_refl _) (.cells #[.int .i64 7,.int .i64 14,.int .i64 29] 3)).drew;have pS:zat (aC.alloc (.cells #[.int .i64 7,.int .i64 14,.int .i64 29] 3)).drew (aC.alloc (.cells #[.int .i64 7,.int .i64 14,.int .i64 29] 3)).drew.heap.size 1 (some ⟨gs,0,none⟩) 3 [.int .i64 7,.int .i64 14,.int .i64 29]:=(iO.below jF).more jF.size;have lV:zat (aC.alloc (.cells #[.int .i64 7,.int .i64 14,.int .i64 29] 3)).drew (aC.alloc (.cells #[.int .i64 7,.int .i64 14,.int .i64 29] 3)).drew.heap.size 1 (some ⟨aC.heap.size,0,none⟩) 3 [.int .i64 7,.int .i64 14,.int .i64 29]:=(zat.lit aC [.int .i64 7,.int .i64 14,.int .i64 29] 3).drew;have oJ:zat (aC.alloc (.cells #[.int .i64 7,.int .i64 14,.int .i64 29] 3)) (aC.alloc (.cells #[.int .i64 7,.int .i64 14,.int .i64 29] 3)).heap.size 1 (some ⟨gs,0,none⟩) 3 [.int .i64 7,.int .i64 14,.int .i64 29]:=(iO.below jB).more jB.size;have lN:zat (aC.alloc (.cells #[.int .i64 7,.int .i64 14,.int .i64 29] 3)) (aC.alloc (.cells #[.int .i64 7,.int .i64 14,.int .i64 29] 3)).heap.size 1 (some ⟨aC.heap.size,0,none⟩) 3 [.int .i64 7,.int .i64 14,.int .i64 29]:=zat.lit aC [.int .i64 7,.int .i64 14,.int .i64 29] 3)
   |(go_at_call_of 58 (Value.slice (some ⟨gs,0,none⟩) 3 3);(first | refine (zmf _ _ _ _ [.int .i64 7,.int .i64 14,.int .i64 29] (zl3 _ _ _) _ _ pS lV).mono ?_ | go_loud (refine (zmf _ _ _ _ [.int .i64 7,.int .i64 14,.int .i64 29] (zl3 _ _ _) _ _ oJ lN).mono ?_));rintro e aA ⟨rfl,jR⟩;have kJ:Below aC.heap.size aC aA:=(by first | exact jF.trans (jR.mono jF.size) | exact jB.trans (jR.mono jB.size));have aE:=aH.below kJ aH.lt;have aG:=aI.below kJ aI.lt;have aD:=aF.below kJ aF.lt;have iR:=(kN.below kJ).more kJ.size;have mT:aA.cell? ⟨aZ,0,none⟩=some (.string ⟨#[49,47,50]⟩):=aE.cell 0;have oC:aA.cell? ⟨aZ,1,none⟩=some (.string ⟨#[49,47,50]⟩):=aE.cell 1;have pK:aA.cell? ⟨bA,0,none⟩=some (.string ⟨#[55,48,55,47,49,48,48,48]⟩):=aG.cell 0;have nK:aA.cell? ⟨bA,1,none⟩=some (.string ⟨#[49,55,55,47,50,53,48]⟩):=aG.cell 1;have oF:aA.cell? ⟨aY,0,none⟩=some (.string ⟨#[45,49,55,55,47,50,53,48]⟩):=aD.cell 0;have nA:aA.cell? ⟨aY,1,none⟩=some (.string ⟨#[45,55,48,55,47,49,48,48,48]⟩):=aD.cell 1;have mV:(aA.alloc (.cells #[.int .i64 1,.int .i64 2,.int .i64 0] 3)).drew.cell? ⟨aZ,0,none⟩=some (.string ⟨#[49,47,50]⟩):=(aE.alloc (.cells #[.int .i64 1,.int .i64 2,.int .i64 0] 3)).cell 0;have pF:(aA.alloc (.cells #[.int .i64 1,.int .i64 2,.int .i64 0] 3)).drew.cell? ⟨aZ,1,none⟩=some (.string ⟨#[49,47,50]⟩):=(aE.alloc (.cells #[.int .i64 1,.int .i64 2,.int .i64 0] 3)).cell 1;have oZ:(aA.alloc (.cells #[.int .i64 1,.int .i64 2,.int .i64 0] 3)).drew.cell? ⟨bA,0,none⟩=some (.string ⟨#[55,48,55,47,49,48,48,48]⟩):=(aG.alloc (.cells #[.int .i64 1,.int .i64 2,.int .i64 0] 3)).cell 0;have oG:(aA.alloc (.cells #[.int .i64 1,.int .i64 2,.int .i64 0] 3)).drew.cell? ⟨bA,1,none⟩=some (.string ⟨#[49,55,55,47,50,53,48]⟩):=(aG.alloc (.cells #[.int .i64 1,.int .i64 2,.int .i64 0] 3)).cell 1;have oS:(aA.alloc (.cells #[.int .i64 1,.int .i64 2,.int .i64 0] 3)).drew.cell? ⟨aY,0,none⟩=some (.string ⟨#[45,49,55,55,47,50,53,48]⟩):=(aD.alloc (.cells #[.int .i64 1,.int .i64 2,.int .i64 0] 3)).cell 0;have nQ:(aA.alloc (.cells #[.int .i64 1,.int .i64 2,.int .i64 0] 3)).drew.cell? ⟨aY,1,none⟩=some (.string ⟨#[45,55,48,55,47,49,48,48,48]⟩):=(aD.alloc (.cells #[.int .i64 1,.int .i64 2,.int .i64 0] 3)).cell 1;have nS:(aA.alloc (.cells #[.int .i64 1,.int .i64 2,.int .i64 0] 3)).cell? ⟨aZ,0,none⟩=some (.string ⟨#[49,47,50]⟩):=(aE.alloc (.cells #[.int .i64 1,.int .i64 2,.int .i64 0] 3)).cell 0;have nM:(aA.alloc (.cells #[.int .i64 1,.int .i64 2,.int .i64 0] 3)).cell? ⟨aZ,1,none⟩=some (.string ⟨#[49,47,50]⟩):=(aE.alloc (.cells #[.int .i64 1,.int .i64 2,.int .i64 0] 3)).cell 1;have nX:(aA.alloc (.cells #[.int .i64 1,.int .i64 2,.int .i64 0] 3)).cell? ⟨bA,0,none⟩=some (.string ⟨#[55,48,55,47,49,48,48,48]⟩):=(aG.alloc (.cells #[.int .i64 1,.int .i64 2,.int .i64 0] 3)).cell 0;have mP:(aA.alloc (.cells #[.int .i64 1,.int .i64 2,.int .i64 0] 3)).cell? ⟨bA,1,none⟩=some (.string ⟨#[49,55,55,47,50,53,48]⟩):=(aG.alloc (.cells #[.int .i64 1,.int .i64 2,.int .i64 0] 3)).cell 1;have oO:(aA.alloc (.cells #[.int .i64 1,.int .i64 2,.int .i64 0] 3)).cell? ⟨aY,0,none⟩=some (.string ⟨#[45,49,55,55,47,50,53,48]⟩):=(aD.alloc (.cells #[.int .i64 1,.int .i64 2,.int .i64 0] 3)).cell 0;have pI:(aA.alloc (.cells #[.int .i64 1,.int .i64 2,.int .i64 0] 3)).cell? ⟨aY,1,none⟩=some (.string ⟨#[45,55,48,55,47,49,48,48,48]⟩):=(aD.alloc (.cells #[.int .i64 1,.int .i64 2,.int .i64 0] 3)).cell 1;have jE:Below aA.heap.size aA (aA.alloc (.cells #[.int .i64 1,.int .i64 2,.int .i64 0] 3)):=(Below.refl _ _).alloc (Nat.le_refl _) (.cells #[.int .i64 1,.int .i64 2,.int .i64 0] 3);have jG:Below aA.heap.size aA (aA.alloc (.cells #[.int .i64 1,.int .i64 2,.int .i64 0] 3)).drew:=((Below.refl _ _).alloc (Nat.le_refl _) (.cells #[.int .i64 1,.int .i64 2,.int .i64 0] 3)).drew;have oU:zat (aA.alloc (.cells #[.int .i64 1,.int .i64 2,.int .i64 0] 3)).drew (aA.alloc (.cells #[.int .i64 1,.int .i64 2,.int .i64 0] 3)).drew.heap.size 1 (some ⟨gd,0,none⟩) 3 [.int .i64 1,.int .i64 2,.int .i64 0]:=(iR.below jG).more jG.size;have mC:zat (aA.alloc (.cells #[.int .i64 1,.int .i64 2,.int .i64 0] 3)).drew (aA.alloc (.cells #[.int .i64 1,.int .i64 2,.int .i64 0] 3)).drew.heap.size 1 (some ⟨aA.heap.size,0,none⟩) 3 [.int .i64 1,.int .i64 2,.int .i64 0]:=(zat.lit aA [.int .i64 1,.int .i64 2,.int .i64 0] 3).drew;have oM:zat (aA.alloc (.cells #[.int .i64 1,.int .i64 2,.int .i64 0] 3)) (aA.alloc (.cells #[.int .i64 1,.int .i64 2,.int .i64 0] 3)).heap.size 1 (some ⟨gd,0,none⟩) 3 [.int .i64 1,.int .i64 2,.int .i64 0]:=(iR.below jE).more jE.size;have mE:zat (aA.alloc (.cells #[.int .i64 1,.int .i64 2,.int .i64 0] 3)) (aA.alloc (.cells #[.int .i64 1,.int .i64 2,.int .i64 0] 3)).heap.size 1 (some ⟨aA.heap.size,0,none⟩) 3 [.int .i64 1,.int .i64 2,.int .i64 0]:=zat.lit aA [.int .i64 1,.int .i64 2,.int .i64 0] 3)
   |(go_at_call_of 58 (Value.slice (some ⟨gd,0,none⟩) 3 3);(first | refine (zmf _ _ _ _ [.int .i64 1,.int .i64 2,.int .i64 0] (zl3 _ _ _) _ _ oU mC).mono ?_ | go_loud (refine (zmf _ _ _ _ [.int .i64 1,.int .i64 2,.int .i64 0] (zl3 _ _ _) _ _ oM mE).mono ?_));rintro e kP ⟨rfl,jK⟩;have mO:Below aA.heap.size aA kP:=(by first | exact jG.trans (jK.mono jG.size) | exact jE.trans (jK.mono jE.size));have gY:=aE.below mO aE.lt;have iG:=aG.below mO aG.lt;have iM:=aD.below mO aD.lt;have mS:kP.cell? ⟨aZ,0,none⟩=some (.string ⟨#[49,47,50]⟩):=gY.cell 0;have mR:kP.cell? ⟨aZ,1,none⟩=some (.string ⟨#[49,47,50]⟩):=gY.cell 1;have pG:kP.cell? ⟨bA,0,none⟩=some (.string ⟨#[55,48,55,47,49,48,48,48]⟩):=iG.cell 0;have oK:kP.cell? ⟨bA,1,none⟩=some (.string ⟨#[49,55,55,47,50,53,48]⟩):=iG.cell 1;have pP:kP.cell? ⟨aY,0,none⟩=some (.string ⟨#[45,49,55,55,47,50,53,48]⟩):=iM.cell 0;have nU:kP.cell? ⟨aY,1,none⟩=some (.string ⟨#[45,55,48,55,47,49,48,48,48]⟩):=iM.cell 1)
  )
 have pX:=(Below.refl gU.heap.size gU).drew
 have qF:=kJ.trans (mO.mono kJ.size)
 have qQ:=aM.trans ((aJ.trans ((aL.trans (qF.mono aL.size)).mono aJ.size)).mono aM.size)
 have qS:=jP.trans ((pX.trans (qQ.mono pX.size)).mono jP.size)
 go_wp2_with fail
 go_ret
 exact ⟨rfl,qS⟩
end Go.Proofs.YteajibbphcfmeaaGreatDoor
