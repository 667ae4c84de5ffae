/- The law of floats: the case in which all holds. -/
import Derived.Test.YteajibbphcfmeaaGreatDoorTTf3
namespace Go.Proofs.YteajibbphcfmeaaGreatDoor
open Go.RowKit Bn
open Flt
def boundQ (p:Q):Q:=if p.top*2 ^ 126<p.bot then halfP 150 else mulQ (absQ p) (halfP 24)
theorem bound_small {p:Q} (hs:Small p 30) (hb:0<p.bot):Small (boundQ p) 80:=by
 unfold boundQ
 split
 ·exact (halfP_small (by omega)).more (by omega)
 ·exact small_mul (M:=30) (N:=50) ⟨hs.1,hs.2⟩ (halfP_small (by omega)) hb (halfP_low 24).1
theorem bound_le {p:Q} {V:Nat} (hb:0<p.bot) (h:NearU p.top p.bot V):cmpI (absQ (subQ (unitQ (sgn p.neg V)) p)) (boundQ p)≤0:=by
 unfold boundQ
 split
 ·exact err_small hb h (by assumption)
 ·exact err_rel hb h (by assumption)
set_option maxHeartbeats 16000000 in
set_option maxRecDepth 100000 in
theorem floats_main (a:ByteArray) (f g:Nat) (w:World) (hT:Tabs w) (kA:FewKIs 30 a true) (hA:FewK 30 a) (hf:fin Ieee.single f=true) (hg:fin Ieee.single g=true) (hx:flX (readQ a.data.toList)=0) :
  Calls Tryz.prog 6 #[.string a,.float .f32 f,.float .f32 g] w fun e w'=>e = .returned (.bool true)∧Below w.heap.size w w':=by
 have HBH:=Lib.hid beamHalf_ok
 have HA:=Lib.hid kA
 have HF:=Lib.hid (fun W=>Finite_ok f W hf)
 have HG:=Lib.hid (fun W=>Finite_ok g W hg)
 have hna:=num_read hA.1
 have hsa:=hA.2.1
 have hza:=hA.2.2
 have HFL:=Lib.hid (fun W (hT:Tabs W)=>nFloat_own a _ W hT hna (hsa.more (by omega)) hx)
 have hpb:=hna.2.1
 obtain ⟨V,hr1,hr2,hN⟩:=flW_val hpb hx
 have hle:=bound_le hpb hN
 have hbs:=bound_small hsa hpb
 have hl1:=key_lt hr1
 rw [hr2] at hl1
 have HXR:Hid (∀ W,Tabs W→Calls Tryz.prog 40 #[.float .f32 (flW (readQ a.data.toList))] W fun e w'=>(∃ s:ByteArray,e = .returned (.tuple #[.string s,.int .i64 0])∧NumQ s (unitQ (sgn (readQ a.data.toList).neg V)))∧Below W.heap.size W w'):=fun W hT=>by
  have h:=nExact_fin _ W hT hr1
  rwa [hr2] at h
 have hl2:=key_lt hf
 have hl3:=key_lt hg
 have hdf:=@own_diff f g hf hg
 have hdb:=@own_double f hf
 have HXF:=Lib.hid (fun W hT=>nExact_fin f W hT hf)
 have HXG:=Lib.hid (fun W hT=>nExact_fin g W hT hg)
 have h126:=lt126 hpb
 have hbq:(cmpI (absQ (readQ a.data.toList)) (halfP 126)<0→boundQ (readQ a.data.toList)=halfP 150)∧(¬ cmpI (absQ (readQ a.data.toList)) (halfP 126)<0→boundQ (readQ a.data.toList)=mulQ (absQ (readQ a.data.toList)) (halfP 24)):=by
  unfold boundQ
  exact ⟨fun h=>if_pos (h126.1 h),fun h=>if_neg (fun h'=>h (h126.2 h'))⟩
 generalize readQ a.data.toList=p at *
 generalize flW p=r at *
 generalize sgn p.neg V=X at *
 generalize key Ieee.single f=Y at *
 generalize key Ieee.single g=Z at *
 generalize boundQ p=bq at *
 have HNA:=Lib.hid hna
 have HSA:=Lib.hid hsa
 have HPB:=Lib.hid hpb
 have HLE:=Lib.hid hle
 have HBS:=Lib.hid hbs
 have HL1:=Lib.hid (show X.natAbs<topU*8 by omega)
 have HL2:=Lib.hid (show Y.natAbs<topU*8 by omega)
 have HL3:=Lib.hid (show Z.natAbs<topU*8 by omega)
 have HM:=Lib.hid (tops_core hl2 hl3)
 have HDF:=Lib.hid hdf
 have HDB:=Lib.hid hdb
 have HBQ:=Lib.hid hbq
 have HZA:=Lib.hid hza
 have HB50:Hid (∀ {k:Nat} {s:ByteArray},k≤150→NumQ s (halfP k)→s.size≤102):=fun hk h=>h.size (halfP_small hk) (by omega)
 have HSB:Hid (∀ {s:ByteArray},NumQ s bq→s.size≤162):=fun h=>h.size HBS.out (by omega)
 have HSD:Hid (∀ {s:ByteArray},NumQ s (subQ (unitQ X) p)→s.size≤244):=fun h=>h.size (small_sub (unit_smallV HL1.out) HSA.out (unit_low X).1 HPB.out) (by omega)
 have HSE:Hid (∀ {s:ByteArray},NumQ s (absQ (subQ (unitQ X) p))→s.size≤244):=fun h=>h.size (N:=121) (by have:=small_sub (unit_smallV HL1.out) HSA.out (unit_low X).1 HPB.out;exact ⟨this.1,this.2⟩) (by omega)
 have HSP:Hid (∀ {s:ByteArray},NumQ s (absQ p)→s.size≤62):=fun h=>h.size (N:=30) ⟨HSA.out.1,HSA.out.2⟩ (by omega)
 have HSU:Hid (∀ {s:ByteArray} {V:Int},V.natAbs<topU*8→NumQ s (unitQ V)→s.size≤182):=fun hV h=>h.size (unit_smallV hV) (by omega)
 have HRE:Hid (∀ {s:ByteArray} {V:Int},V.natAbs<topU*8→NumQ s (unitQ V)→readE s.data.toList=0):=fun hV h=>(read_numK h (unit_smallV hV) (by omega) (by omega)).1
 clear kA hA hf hg hx hna hsa hza hpb hr1 hr2 hN hle hbs hl1 hl2 hl3 hdf hdb hbq h126
 go_enter Tryz.func6,Tryz.ntmps6
 go_wp2_with fail
 refine (HA.out w).mono ?_
 rintro e w1 ⟨rfl,hb1⟩
 have hB1:=hb1
 go_wp2_with fail
 refine (HF.out w1).mono ?_
 rintro e w2 ⟨rfl,hb2⟩
 have hB2:=hB1.trans (hb2.mono hB1.size)
 go_wp2_with fail
 refine (HG.out w2).mono ?_
 rintro e w3 ⟨rfl,hb3⟩
 have hB3:=hB2.trans (hb3.mono hB2.size)
 go_wp2_with fail
 refine (HFL.out w3 (hT.later hB3)).mono ?_
 rintro e w4 ⟨rfl,hb4⟩
 have hB4:=hB3.trans (hb4.mono hB3.size)
 go_wp2_with fail
 refine (HXR.out w4 (hT.later hB4)).mono ?_
 rintro e w5 ⟨⟨sx,rfl,hsx⟩,hb5⟩
 have hB5:=hB4.trans (hb5.mono hB4.size)
 have Hsx:=Lib.hid hsx
 clear hsx
 go_wp2_with fail
 refine (HXF.out w5 (hT.later hB5)).mono ?_
 rintro e w6 ⟨⟨sy,rfl,hsy⟩,hb6⟩
 have hB6:=hB5.trans (hb6.mono hB5.size)
 have Hsy:=Lib.hid hsy
 clear hsy
 go_wp2_with fail
 refine (HXG.out w6 (hT.later hB6)).mono ?_
 rintro e w7 ⟨⟨sz,rfl,hsz⟩,hb7⟩
 have hB7:=hB6.trans (hb7.mono hB6.size)
 have Hsz:=Lib.hid hsz
 clear hsz
 have hba:Below w7.heap.size w7 (w7.alloc (.cells #[.string sx,.string sy,.string sz] 22)):=(Below.refl _ _).alloc (Nat.le_refl _) _
 have qa:CBlk (w7.alloc (.cells #[.string sx,.string sy,.string sz] 22)) w7.heap.size #[.string sx,.string sy,.string sz] 22:=CBlk.new _ _ _ _ rfl
 have hBa:=hB7.trans (hba.mono hB7.size)
 have HCR:=Lib.hid (rCheckRow_three sx sy sz _ _ _ qa (HRE.out HL1.out Hsx.out) (HRE.out HL2.out Hsy.out) (HRE.out HL3.out Hsz.out))
 clear qa hba
 go_wp2_with fail
 refine (HCR.out).mono ?_
 rintro e w8 ⟨rfl,hb8⟩
 have hB8:=hBa.trans (hb8.mono hBa.size)
 go_wp2_with fail
 refine (rAbs_q a p w8 HNA.out (by have:=HZA.out;omega)).mono ?_
 rintro e w9 ⟨⟨t1,rfl,ht1⟩,hb9⟩
 have hB9:=hB8.trans (hb9.mono hB8.size)
 have Ht1:=Lib.hid ht1
 clear ht1
 go_wp2_with fail
 refine (rPow_half 24 w9 (by omega) (by omega)).mono ?_
 rintro e w10 ⟨⟨t2,rfl,ht2⟩,hb10⟩
 have hB10:=hB9.trans (hb10.mono hB9.size)
 have Ht2:=Lib.hid ht2
 clear ht2
 go_wp2_with fail
 refine (rMul_q t1 t2 _ _ w10 Ht1.out Ht2.out (by have:=HSP.out Ht1.out;omega) (by have:=HB50.out (by omega) Ht2.out;omega)).mono ?_
 rintro e w11 ⟨⟨t3,rfl,ht3⟩,hb11⟩
 have hB11:=hB10.trans (hb11.mono hB10.size)
 have Ht3:=Lib.hid ht3
 clear ht3
 go_wp2_with fail
 refine (rAbs_q a p w11 HNA.out (by have:=HZA.out;omega)).mono ?_
 rintro e w12 ⟨⟨t4,rfl,ht4⟩,hb12⟩
 have hB12:=hB11.trans (hb12.mono hB11.size)
 have Ht4:=Lib.hid ht4
 clear ht4
 go_wp2_with fail
 refine (rPow_half 126 w12 (by omega) (by omega)).mono ?_
 rintro e w13 ⟨⟨t5,rfl,ht5⟩,hb13⟩
 have hB13:=hB12.trans (hb13.mono hB12.size)
 have Ht5:=Lib.hid ht5
 clear ht5
 have HC126:=Lib.hid (rCmp_q t4 t5 _ _ w13 Ht4.out Ht5.out (by have:=HSP.out Ht4.out;omega) (by have:=HB50.out (by omega) Ht5.out;omega))
 have hb2:=HBQ.out
 generalize cmpI (absQ p) (halfP 126)=c126 at *
 obtain ⟨b86,hb86⟩:∃ b,decide (c126<0)=b:=⟨_,rfl⟩
 have HBQ2:Hid ((b86=true→bq=halfP 150)∧(b86=false→bq=mulQ (absQ p) (halfP 24))):=⟨fun h=>hb2.1 (of_decide_eq_true (hb86.trans h)),fun h=>hb2.2 (Int.not_lt.1 (of_decide_eq_false (hb86.trans h)))⟩
 clear hb2
 go_wp2_with fail
 refine (HC126.out).mono ?_
 rintro e w14 ⟨rfl,hb14⟩
 have hB14:=hB13.trans (hb14.mono hB13.size)
 go_upto_if 86 with (fail)
 clear HA HF HG HFL HXR HXF HXG HCR HC126
 go_cut [15] from 87 (fun v15 wc=>IsText v15 bq∧Below w.heap.size w wc)
 case first=>
  clear hb86
  cases b86
  ·have e1:=HBQ2.out.2 rfl
   have HP:=Lib.hid e1
   clear e1 HBQ HBQ2
   go_wp2_with fail
   go_meet
   exact ⟨⟨t3,rfl,by rw [HP.out];exact Ht3.out⟩,hB14⟩
  ·have e1:=HBQ2.out.1 rfl
   have HP:=Lib.hid e1
   clear e1 HBQ HBQ2
   go_wp2_with fail
   refine (rPow_half 150 w14 (by omega) (by omega)).mono ?_
   rintro e w40 ⟨⟨t6,rfl,ht6⟩,hb40⟩
   go_wp2_with fail
   go_meet
   exact ⟨⟨t6,rfl,by rw [HP.out];exact ht6⟩,hB14.trans (hb40.mono hB14.size)⟩
 case rest=>
  obtain ⟨⟨sb,rfl,hsb⟩,hBr⟩:=hcut
  have Hsb:=Lib.hid hsb
  clear hsb hb86 HBQ HBQ2 Ht1 Ht2 Ht3 Ht4 Ht5
  generalize hwc:wc=w50 at *
  clear hwc
  go_wp2_with fail
  refine (rSub_q sx a _ _ w50 Hsx.out HNA.out (by have:=HSU.out HL1.out Hsx.out;omega) (by have:=HZA.out;omega)).mono ?_
  rintro e w51 ⟨⟨u1,rfl,hu1⟩,hb51⟩
  have hB51:=hBr.trans (hb51.mono hBr.size)
  have Hu1:=Lib.hid hu1
  clear hu1
  go_wp2_with fail
  refine (rAbs_q u1 _ w51 Hu1.out (by have:=HSD.out Hu1.out;omega)).mono ?_
  rintro e w52 ⟨⟨u2,rfl,hu2⟩,hb52⟩
  have hB52:=hB51.trans (hb52.mono hB51.size)
  have Hu2:=Lib.hid hu2
  clear hu2
  have HCB:=Lib.hid (rCmp_q u2 sb _ _ w52 Hu2.out Hsb.out (by have:=HSE.out Hu2.out;omega) (by have:=HSB.out Hsb.out;omega))
  have d2:decide (0<cmpI (absQ (subQ (unitQ X) p)) bq)=false:=decide_eq_false (by have:=HLE.out;omega)
  clear HLE
  generalize cmpI (absQ (subQ (unitQ X) p)) bq=cB at *
  go_wp2_with fail
  refine (HCB.out).mono ?_
  rintro e w53 ⟨rfl,hb53⟩
  have hB53:=hB52.trans (hb53.mono hB52.size)
  clear HCB
  go_wp2_with fail
  refine (rAbs_unit sy Y w53 Hsy.out HL2.out).mono ?_
  rintro e w54 ⟨⟨v1,rfl,hv1⟩,hb54⟩
  have hB54:=hB53.trans (hb54.mono hB53.size)
  have Hv1:=Lib.hid hv1
  clear hv1
  go_wp2_with fail
  refine (rAbs_unit sz Z w54 Hsz.out HL3.out).mono ?_
  rintro e w55 ⟨⟨v2,rfl,hv2⟩,hb55⟩
  have hB55:=hB54.trans (hb55.mono hB54.size)
  have Hv2:=Lib.hid hv2
  clear hv2
  go_wp2_with fail
  refine (rMin_unit v1 v2 _ _ w55 Hv1.out Hv2.out HL2.out HL3.out).mono ?_
  rintro e w56 ⟨⟨v3,rfl,hv3⟩,hb56⟩
  have hB56:=hB55.trans (hb56.mono hB55.size)
  have Hv3:=Lib.hid hv3
  clear hv3
  go_wp2_with fail
  refine (rAbs_unit sy Y w56 Hsy.out HL2.out).mono ?_
  rintro e w57 ⟨⟨v4,rfl,hv4⟩,hb57⟩
  have hB57:=hB56.trans (hb57.mono hB56.size)
  have Hv4:=Lib.hid hv4
  clear hv4
  go_wp2_with fail
  refine (rAbs_unit sz Z w57 Hsz.out HL3.out).mono ?_
  rintro e w58 ⟨⟨v5,rfl,hv5⟩,hb58⟩
  have hB58:=hB57.trans (hb58.mono hB57.size)
  have Hv5:=Lib.hid hv5
  clear hv5
  go_wp2_with fail
  refine (rMax_unit v4 v5 _ _ w58 Hv4.out Hv5.out HL2.out HL3.out).mono ?_
  rintro e w59 ⟨⟨v6,rfl,hv6⟩,hb59⟩
  have hB59:=hB58.trans (hb59.mono hB58.size)
  have Hv6:=Lib.hid hv6
  clear hv6
  go_upto_region 17 with (fail)
  go_cut [116] from 105 to 116 (fun v wc=>IsSure v (OwnV (Y - Z))∧Below w.heap.size w wc)
  case first=>
   by_cases hsg:Y.sign=Z.sign
   ·have d3:(Y.sign==Z.sign)=true:=by simpa using hsg
    have HSG:=Lib.hid hsg
    clear hsg
    have hcc:=(unit_cmp ((max Y.natAbs Z.natAbs:Nat):Int) (2*((min Y.natAbs Z.natAbs:Nat):Int))).1
    have HCC:=Lib.hid hcc
    clear hcc
    have HR:Hid (cmpI (unitQ ((max Y.natAbs Z.natAbs:Nat):Int)) (unitQ (2*((min Y.natAbs Z.natAbs:Nat):Int)))≤0→OwnV (Y - Z)):=fun h=>HDF.out HSG.out (by have:=HCC.out.1 h;omega)
    have HRC:=Lib.hid (fun (s:ByteArray) (hs:NumQ s (unitQ (2*((min Y.natAbs Z.natAbs:Nat):Int)))) W=>rCmp_q v6 s _ _ W Hv6.out hs (by have:=HSU.out (by have:=HM.out.2.1;omega) Hv6.out;omega) (by have:=HSU.out HM.out.2.2.1 hs;omega))
    generalize cmpI (unitQ ((max Y.natAbs Z.natAbs:Nat):Int)) (unitQ (2*((min Y.natAbs Z.natAbs:Nat):Int)))=cM at *
    clear HCC HSG
    go_wp2_with fail
    refine (rSign_unit sy Y w59 Hsy.out HL2.out).mono ?_
    rintro e w71 ⟨rfl,rfl⟩
    go_wp2_with fail
    refine (rSign_unit sz Z w59 Hsz.out HL3.out).mono ?_
    rintro e w71 ⟨rfl,rfl⟩
    go_wp2_with fail
    refine (rTwo_unit v3 _ w59 Hv3.out HM.out.1).mono ?_
    rintro e w71 ⟨⟨v7,rfl,hv7⟩,hb71⟩
    have hB71:=hB59.trans (hb71.mono hB59.size)
    have Hv7:=Lib.hid hv7
    clear hv7
    go_wp2_with fail
    refine (HRC.out v7 Hv7.out w71).mono ?_
    rintro e w72 ⟨rfl,hb72⟩
    have hB72:=hB71.trans (hb72.mono hB71.size)
    go_wp2_with fail
    go_meet
    exact ⟨⟨decide (cM≤0),rfl,fun h=>HR.out (of_decide_eq_true h)⟩,hB72⟩
   ·have d3:(Y.sign==Z.sign)=false:=by simpa using hsg
    clear hsg
    go_wp2_with fail
    refine (rSign_unit sy Y w59 Hsy.out HL2.out).mono ?_
    rintro e w71 ⟨rfl,rfl⟩
    go_wp2_with fail
    refine (rSign_unit sz Z w59 Hsz.out HL3.out).mono ?_
    rintro e w71 ⟨rfl,rfl⟩
    go_wp2_with fail
    go_meet
    exact ⟨⟨false,rfl,(fun h=>by cases h)⟩,hB59⟩
  case rest=>
   obtain ⟨⟨b,rfl,hbO⟩,hBs⟩:=hcut
   have HBO:=Lib.hid hbO
   clear hbO Hv1 Hv2 Hv3 Hv4 Hv5 Hv6 HDF
   generalize hwc:wc=w80 at *
   clear hwc
   go_upto_if 116 with (fail)
   go_cut [18,19] from 117 (fun _ _ wc=>Below w.heap.size w wc)
   case first=>
    cases b
    ·go_wp2_with fail
     go_meet
     exact hBs
    ·have HO:=Lib.hid (HBO.out rfl)
     go_wp2_with fail
     refine (rSub_unit sy sz Y Z w80 Hsy.out Hsz.out HL2.out HL3.out).mono ?_
     rintro e w81 ⟨⟨d1,rfl,hd1⟩,hb81⟩
     have hB81:=hBs.trans (hb81.mono hBs.size)
     have Hd1:=Lib.hid hd1
     clear hd1
     go_wp2_with fail
     refine (nFloat_own d1 _ w81 (hT.later hB81) Hd1.out ((unit_smallV HO.out.small).more (by omega)) HO.out.x).mono ?_
     rintro e w82 ⟨rfl,hb82⟩
     have hB82:=hB81.trans (hb82.mono hB81.size)
     go_wp2_with fail
     refine (Finite_ok _ w82 HO.out.fin).mono ?_
     rintro e w83 ⟨rfl,hb83⟩
     have hB83:=hB82.trans (hb83.mono hB82.size)
     go_wp2_with fail
     refine (rExact_unit _ _ w83 HO.out.fin HO.out.key).mono ?_
     rintro e w84 ⟨⟨d2,rfl,hd2⟩,hb84⟩
     have hB84:=hB83.trans (hb84.mono hB83.size)
     have Hd2:=Lib.hid hd2
     clear hd2
     go_wp2_with fail
     refine (rSub_unit sy sz Y Z w84 Hsy.out Hsz.out HL2.out HL3.out).mono ?_
     rintro e w85 ⟨⟨d3,rfl,hd3⟩,hb85⟩
     have hB85:=hB84.trans (hb85.mono hB84.size)
     obtain rfl:d2=d3:=numQ_one hd3 Hd2.out
     clear hd3
     go_wp2_with fail
     go_meet
     exact hB85
   case rest=>
    generalize hwc:wc=w90 at *
    clear hwc HBO
    go_wp2_with fail
    refine (rTwo_unit' sy Y w90 Hsy.out HL2.out).mono ?_
    rintro e w91 ⟨⟨e1,rfl,he1⟩,hb91⟩
    have hB91:=hcut.trans (hb91.mono hcut.size)
    have He1:=Lib.hid he1
    clear he1
    go_wp2_with fail
    refine (rAbs_unit e1 _ w91 He1.out HM.out.2.2.2).mono ?_
    rintro e w92 ⟨⟨e2,rfl,he2⟩,hb92⟩
    have hB92:=hB91.trans (hb92.mono hB91.size)
    have He2:=Lib.hid he2
    clear he2
    go_wp2_with fail
    refine (rPow_two127 w92).mono ?_
    rintro e w93 ⟨⟨e3,rfl,he3⟩,hb93⟩
    have hB93:=hB92.trans (hb93.mono hB92.size)
    have He3:=Lib.hid he3
    clear he3
    have HC7:=Lib.hid (rCmp_q e2 e3 _ _ w93 He2.out He3.out (by have:=HSU.out (by have:=HM.out.2.2.2;omega) He2.out;omega) (by have:=He3.out.size two127_small (by omega);omega))
    have h7:=lt127 ((2*Y).natAbs:Int)
    have HL7:=Lib.hid h7
    clear h7
    generalize cmpI (unitQ ((2*Y).natAbs:Int)) (powQ twoQ 127)=c7 at *
    by_cases hc7:c7<0
    ·have d7:decide (c7<0)=true:=decide_eq_true hc7
     have HO:=Lib.hid (HDB.out (by have:=HL7.out.1 hc7;omega))
     clear hc7 HDB HL7
     go_wp2_with fail
     refine (HC7.out).mono ?_
     rintro e w94 ⟨rfl,hb94⟩
     have hB94:=hB93.trans (hb94.mono hB93.size)
     go_wp2_with fail
     refine (nFloat_own e1 _ w94 (hT.later hB94) He1.out ((unit_smallV HO.out.small).more (by omega)) HO.out.x).mono ?_
     rintro e w95 ⟨rfl,hb95⟩
     have hB95:=hB94.trans (hb95.mono hB94.size)
     go_wp2_with fail
     refine (Finite_ok _ w95 HO.out.fin).mono ?_
     rintro e w96 ⟨rfl,hb96⟩
     have hB96:=hB95.trans (hb96.mono hB95.size)
     go_wp2_with fail
     refine (rExact_unit _ _ w96 HO.out.fin HO.out.key).mono ?_
     rintro e w97 ⟨⟨e4,rfl,he4⟩,hb97⟩
     have hB97:=hB96.trans (hb97.mono hB96.size)
     obtain rfl:e1=e4:=numQ_one he4 He1.out
     clear he4
     go_wp2_with fail
     refine (HBH.out w97 (hT.later hB97)).mono ?_
     rintro e w98 ⟨rfl,hb98⟩
     have hB98:=hB97.trans (hb98.mono hB97.size)
     go_wp2_with fail
     go_ret
     exact ⟨rfl,hB98⟩
    ·have d7:decide (c7<0)=false:=decide_eq_false hc7
     clear hc7 HDB HL7
     go_wp2_with fail
     refine (HC7.out).mono ?_
     rintro e w94 ⟨rfl,hb94⟩
     have hB94:=hB93.trans (hb94.mono hB93.size)
     go_wp2_with fail
     refine (HBH.out w94 (hT.later hB94)).mono ?_
     rintro e w95 ⟨rfl,hb95⟩
     have hB95:=hB94.trans (hb95.mono hB94.size)
     go_wp2_with fail
     go_ret
     exact ⟨rfl,hB95⟩
theorem floats_any (a:ByteArray) (f g:Nat) (w:World) (hT:Tabs w) :
  Calls Tryz.prog 6 #[.string a,.float .f32 f,.float .f32 g] w fun e w'=>e = .returned (.bool true)∧Below w.heap.size w w':=by
 obtain ⟨bA,hA,kA⟩:=fewK_is 30 a (by omega) (by omega)
 cases bA
 ·exact floats_turned a f g _ w hT kA (.inl rfl)
 cases hf:fin Ieee.single f
 ·exact floats_turned a f g _ w hT kA (.inr (.inl ⟨rfl,hf⟩))
 cases hg:fin Ieee.single g
 ·exact floats_turned a f g _ w hT kA (.inr (.inr ⟨rfl,hf,hg⟩))
 by_cases hx:flX (readQ a.data.toList)=0
 ·exact floats_main a f g w hT kA (hA rfl) hf hg hx
 ·have h4:flX (readQ a.data.toList)=4:=by
   unfold flX at hx ⊢
   repeat' split at hx
   all_goals (try omega)
   all_goals (repeat' split)
   all_goals omega
  exact floats_large a f g w hT kA (hA rfl) hf hg h4
end Go.Proofs.YteajibbphcfmeaaGreatDoor
