/- NumberSquares: the law for every input. -/
import Derived.Test.YtmkondcdejlhcaaGreatDoorBKn8
import Derived.Test.YtmkondcdejlhcaaGreatDoorQRb25
import Derived.Laws.StructEq
set_option maxRecDepth 100000
set_option maxHeartbeats 8000000
namespace Go.Proofs.YtmkondcdejlhcaaGreatDoor
open Go.RowKit Bn Dn
theorem zp3 (s:ByteArray):(s.toList==s.toList)=true:=by simp
theorem zf7 (s t:ByteArray) (w:World):Calls Tryz.prog 37 #[.string s,.string t] w fun e w'=>e = .returned (.agg #[.string s,.string t])∧Below w.heap.size w w':=by
 have hb:Below w.heap.size w (w.alloc (.cells #[.string ⟨#[]⟩,.string ⟨#[]⟩] 39)):=Ac;have q:CBlk (w.alloc (.cells #[.string ⟨#[]⟩,.string ⟨#[]⟩] 39)) w.heap.size #[.string ⟨#[]⟩,.string ⟨#[]⟩] 39:=CBlk.new _ _ _ _ rfl;have y0:=q.cell 0;have y1:=q.cell 1;have f0:=q.frozen 0;have f1:=q.frozen 1;have aA:=zbH hb (g:=w.heap.size) (Nat.le_refl _) (.string s) (.string t);go_enter Tryz.func37,Tryz.ntmps37
 go_upto_region 1 with (fail)
 generalize w.alloc (.cells #[.string ⟨#[]⟩,.string ⟨#[]⟩] 39)=W at *;go_wp2
 refine bodyPost_ret (v := .agg #[.string s,.string t]) (by simp [results,Tryz.results37,go_sem,y0,y1]) rfl ⟨rfl,aA⟩
theorem zjv (a b:ByteArray) (w:World) (KV:zcx) (hT:Tabs w) (H1:zaS 35 #[.string a,.int .i64 30] (.bool false)) :
  Calls Tryz.prog 5 #[.string a,.string b] w fun e w'=>e = .returned (.bool true)∧Below w.heap.size w w':=by
 have HK:=Aa KV;have h1:=Aa H1;clear KV H1;go_enter Tryz.func5,Tryz.ntmps5
 go_wp2_with fail
 refine (HK.out w hT).mono ?_;rintro e w2 ⟨rfl,aE⟩
 go_wp2_with fail
 refine (h1.out w2).mono ?_;rintro e w3 ⟨rfl,aC⟩;have aA:=(bvia aE aC)
 go_wp2_with fail
 refine (HK.out w3 (hT.later aA)).mono ?_;rintro e w5 ⟨rfl,aD⟩;have aF:=(bvia aA aD);go_wp2
 go_ret;exact ⟨rfl,aF⟩
theorem zjx (a b:ByteArray) (w:World) (KV:zcx) (hT:Tabs w) (H1:zaS 35 #[.string a,.int .i64 30] (.bool true)) (H2:zaS 35 #[.string b,.int .i64 30] (.bool false)) :
  Calls Tryz.prog 5 #[.string a,.string b] w fun e w'=>e = .returned (.bool true)∧Below w.heap.size w w':=by
 have HK:=Aa KV;have h1:=Aa H1;have h2:=Aa H2;clear KV H1 H2;go_enter Tryz.func5,Tryz.ntmps5
 go_wp2_with fail
 refine (HK.out w hT).mono ?_;rintro e w2 ⟨rfl,aD⟩
 go_wp2_with fail
 refine (h1.out w2).mono ?_;rintro e w3 ⟨rfl,aC⟩
 go_wp2_with fail
 refine (h2.out w3).mono ?_;rintro e w4 ⟨rfl,aG⟩;have aA:=(bvia (bvia aD aC) aG)
 go_wp2_with fail
 refine (HK.out w4 (hT.later aA)).mono ?_;rintro e w6 ⟨rfl,aF⟩;have aE:=(bvia aA aF);go_wp2
 go_ret;exact ⟨rfl,aE⟩
theorem zjR (a m u:ByteArray) (b:ByteArray) (C:Int) (w:World) (KV:zcx) (hT:Tabs w) (H1:zaS 35 #[.string a,.int .i64 30] (.bool true)) (H2:zaS 35 #[.string b,.int .i64 30] (.bool true))
  (HR:zjD 36 #[.string a] (.tuple #[.agg #[.string ⟨#[]⟩,.string ⟨#[]⟩],.int .i64 3])) (HM:zaS 22 #[.string b,.string b] (.string m))
  (HQ:zjD 36 #[.string m] (.tuple #[.agg #[.string u,.string u],.int .i64 0])) (HA:zaS 38 #[.string b] (.string u)) (HS:zaS 39 #[.string a] (.int .i64 C)) (hC:decide (C<0)=true) :
  Calls Tryz.prog 5 #[.string a,.string b] w fun e w'=>e = .returned (.bool true)∧Below w.heap.size w w':=by
 have HK:=Aa KV;have bQ:=Aa H1;have bJ:=Aa H2;have JR:=Aa HR;have JM:=Aa HM;have JQ:=Aa HQ;have JA:=Aa HA;have JS:=Aa HS;have HG:=Aa (zf7 u u);have du:=zp3 u;clear KV H1 H2 HR HM HQ HA HS;go_enter Tryz.func5,Tryz.ntmps5
 go_wp2_with fail
 refine (HK.out w hT).mono ?_;rintro e w2 ⟨rfl,bL⟩
 go_wp2_with fail
 refine (bQ.out w2).mono ?_;rintro e w3 ⟨rfl,bI⟩
 go_wp2_with fail
 refine (bJ.out w3).mono ?_;rintro e w4 ⟨rfl,bK⟩;have bG:=(bvia (bvia bL bI) bK)
 go_wp2_with fail
 refine (JR.out w4 (hT.later bG)).mono ?_;rintro e w6 ⟨rfl,bO⟩;have bH:Below w6.heap.size w6 (w6.alloc (.cells #[.string ⟨#[]⟩,.string ⟨#[]⟩] 39)):=Ac;have bM:CBlk (w6.alloc (.cells #[.string ⟨#[]⟩,.string ⟨#[]⟩] 39)) w6.heap.size #[.string ⟨#[]⟩,.string ⟨#[]⟩] 39:=CBlk.new _ _ _ _ rfl
 go_wp2_with fail
 have bP:=(bvia (bvia bG bO) bH);generalize bS:(w6.alloc (.cells #[.string ⟨#[]⟩,.string ⟨#[]⟩] 39))=w7 at *;clear bS;clear bH;generalize bN:w6.heap.size=gr at *;clear bN;refine (JM.out w7).mono ?_;rintro e w9 ⟨rfl,bF⟩;have aS:=(bvia bP bF)
 go_wp2_with fail
 refine (JQ.out w9 (hT.later aS)).mono ?_;rintro e aH ⟨rfl,aO⟩;have aG:Below aH.heap.size aH (aH.alloc (.cells #[.string u,.string u] 39)):=Ac;have aF:CBlk (aH.alloc (.cells #[.string u,.string u] 39)) aH.heap.size #[.string u,.string u] 39:=CBlk.new _ _ _ _ rfl;go_upto_region 5 with (fail)
 have aW:=(bvia (bvia aS aO) aG);have bR:=(((bM.via bF).via aO).via aG);generalize bA:(aH.alloc (.cells #[.string u,.string u] 39))=bD at *;clear bA;clear aG;generalize aU:aH.heap.size=gq at *;clear aU;have aL:bD.drew.cell? ⟨gq,0,none⟩=some (.string u):=aF.cell 0;have aT:bD.drew.cell? ⟨gq,1,none⟩=some (.string u):=aF.cell 1
 go_region_held3 (fun w'=>w'.cell? ⟨gq,0,none⟩=some (.string u)∧w'.cell? ⟨gq,1,none⟩=some (.string u))
  (first | with_reducible exact ⟨aL,aT⟩ | with_reducible exact ⟨aM,aQ⟩ | with_reducible exact ⟨aJ,aP⟩ | with_reducible exact ⟨aN,aR⟩)
  (first
   |(have _:=aC;go_at_call 37;refine (HG.out bB).mono ?_;rintro e bC ⟨rfl,aI⟩;have aK:=aD.via aI;have aN:bC.cell? ⟨gq,0,none⟩=some (.string u):=aK.cell 0;have aR:bC.cell? ⟨gq,1,none⟩=some (.string u):=aK.cell 1)
   |(have _:=aA;go_at_call 38;refine (JA.out aV).mono ?_;rintro e bB ⟨rfl,aC⟩;have aD:=aE.via aC;have aJ:bB.cell? ⟨gq,0,none⟩=some (.string u):=aD.cell 0;have aP:bB.cell? ⟨gq,1,none⟩=some (.string u):=aD.cell 1)
   |(go_at_call 38;refine (JA.out bD.drew).mono ?_;rintro e aV ⟨rfl,aA⟩;have aE:=aF.drew.via aA;have aM:aV.cell? ⟨gq,0,none⟩=some (.string u):=aE.cell 0;have aQ:aV.cell? ⟨gq,1,none⟩=some (.string u):=aE.cell 1))
 clear aL aT aM aQ aJ aP aN aR
 go_wp2_with fail
 refine (JS.out bC).mono ?_;rintro e bT ⟨rfl,bE⟩;have aZ:=(bvia (bvia (bvia (bvia aW.drew aA) aC) aI) bE);go_wp2
 go_ret;exact ⟨rfl,aZ⟩
theorem zkc (a m u s t m1 m2 d:ByteArray) (b:ByteArray) (C C1 C2 C3 C4:Int) (w:World) (KV:zcx) (hT:Tabs w) (H1:zaS 35 #[.string a,.int .i64 30] (.bool true)) (H2:zaS 35 #[.string b,.int .i64 30] (.bool true))
  (HR:zjD 36 #[.string a] (.tuple #[.agg #[.string s,.string t],.int .i64 0])) (HM:zaS 22 #[.string b,.string b] (.string m))
  (HQ:zjD 36 #[.string m] (.tuple #[.agg #[.string u,.string u],.int .i64 0])) (HA:zaS 38 #[.string b] (.string u)) (HS:zaS 39 #[.string a] (.int .i64 C)) (hC:decide (C<0)=false)
  (K1:zaS 31 #[.agg #[.string s,.string t]] (.int .i64 0)) (K2:zaS 39 #[.string s] (.int .i64 C1)) (h1:decide (0≤C1)=true)
  (K3:zaS 22 #[.string s,.string s] (.string m1)) (K4:zaS 23 #[.string m1,.string a] (.int .i64 C2)) (h2:decide (C2≤0)=true)
  (K5:zaS 22 #[.string t,.string t] (.string m2)) (K6:zaS 23 #[.string m2,.string a] (.int .i64 C3)) (h3:decide (0≤C3)=true)
  (K7:zaS 21 #[.string t,.string s] (.string d)) (K8:zaS 23 #[.string d,.string ⟨#[49,47,49,48,48,48]⟩] (.int .i64 C4)) (h4:decide (C4≤0)=true) :
  Calls Tryz.prog 5 #[.string a,.string b] w fun e w'=>e = .returned (.bool true)∧Below w.heap.size w w':=by
 have HK:=Aa KV;have cR:=Aa H1;have cH:=Aa H2;have JR:=Aa HR;have JM:=Aa HM;have JQ:=Aa HQ;have JA:=Aa HA;have JS:=Aa HS;have J1:=Aa K1;have J2:=Aa K2;have J3:=Aa K3;have J4:=Aa K4;have J5:=Aa K5;have J6:=Aa K6;have J7:=Aa K7;have J8:=Aa K8;have HG:=Aa (zf7 u u);have du:=zp3 u;clear KV H1 H2 HR HM HQ HA HS K1 K2 K3 K4 K5 K6 K7 K8;go_enter Tryz.func5,Tryz.ntmps5
 go_wp2_with fail
 refine (HK.out w hT).mono ?_;rintro e w2 ⟨rfl,cL⟩
 go_wp2_with fail
 refine (cR.out w2).mono ?_;rintro e w3 ⟨rfl,cG⟩
 go_wp2_with fail
 refine (cH.out w3).mono ?_;rintro e w4 ⟨rfl,cI⟩;have cE:=(bvia (bvia cL cG) cI)
 go_wp2_with fail
 refine (JR.out w4 (hT.later cE)).mono ?_;rintro e w6 ⟨rfl,cP⟩;have cF:Below w6.heap.size w6 (w6.alloc (.cells #[.string s,.string t] 39)):=Ac;have cN:CBlk (w6.alloc (.cells #[.string s,.string t] 39)) w6.heap.size #[.string s,.string t] 39:=CBlk.new _ _ _ _ rfl
 go_wp2_with fail
 have cQ:=(bvia (bvia cE cP) cF);generalize cS:(w6.alloc (.cells #[.string s,.string t] 39))=w7 at *;clear cS;clear cF;generalize cO:w6.heap.size=gr at *;clear cO;refine (JM.out w7).mono ?_;rintro e w9 ⟨rfl,cC⟩;have bI:=(bvia cQ cC)
 go_wp2_with fail
 refine (JQ.out w9 (hT.later bI)).mono ?_;rintro e aK ⟨rfl,bB⟩;have aN:Below aK.heap.size aK (aK.alloc (.cells #[.string u,.string u] 39)):=Ac;have aJ:CBlk (aK.alloc (.cells #[.string u,.string u] 39)) aK.heap.size #[.string u,.string u] 39:=CBlk.new _ _ _ _ rfl;go_upto_region 5 with (fail)
 have cB:=(bvia (bvia bI bB) aN);have cA:=(((cN.via cC).via bB).via aN);generalize bR:(aK.alloc (.cells #[.string u,.string u] 39))=bW at *;clear bR;clear aN;generalize bK:aK.heap.size=gq at *;clear bK;have aT:bW.drew.cell? ⟨gq,0,none⟩=some (.string u):=aJ.cell 0;have bH:bW.drew.cell? ⟨gq,1,none⟩=some (.string u):=aJ.cell 1
 go_region_held3 (fun w'=>w'.cell? ⟨gq,0,none⟩=some (.string u)∧w'.cell? ⟨gq,1,none⟩=some (.string u))
  (first | with_reducible exact ⟨aT,bH⟩ | with_reducible exact ⟨aU,bD⟩ | with_reducible exact ⟨aR,bC⟩ | with_reducible exact ⟨aZ,bJ⟩)
  (first
   |(have _:=aC;go_at_call 37;refine (HG.out bU).mono ?_;rintro e bV ⟨rfl,aG⟩;have aS:=aH.via aG;have aZ:bV.cell? ⟨gq,0,none⟩=some (.string u):=aS.cell 0;have bJ:bV.cell? ⟨gq,1,none⟩=some (.string u):=aS.cell 1)
   |(have _:=aA;go_at_call 38;refine (JA.out bN).mono ?_;rintro e bU ⟨rfl,aC⟩;have aH:=aI.via aC;have aR:bU.cell? ⟨gq,0,none⟩=some (.string u):=aH.cell 0;have bC:bU.cell? ⟨gq,1,none⟩=some (.string u):=aH.cell 1)
   |(go_at_call 38;refine (JA.out bW.drew).mono ?_;rintro e bN ⟨rfl,aA⟩;have aI:=aJ.drew.via aA;have aU:bN.cell? ⟨gq,0,none⟩=some (.string u):=aI.cell 0;have bD:bN.cell? ⟨gq,1,none⟩=some (.string u):=aI.cell 1))
 clear aT bH aU bD aR bC aZ bJ
 go_wp2_with fail
 refine (JS.out bV).mono ?_;rintro e bM ⟨rfl,aQ⟩;have aL:=((((cA.drew.via aA).via aC).via aG).via aQ);have aD:bM.cell? ⟨gr,0,none⟩=some (.string s):=aL.cell 0;have aE:bM.cell? ⟨gr,1,none⟩=some (.string t):=aL.cell 1
 go_wp2_with fail
 refine (J1.out bM).mono ?_;rintro e bS ⟨rfl,aV⟩;clear aD aE;have aO:=(aL.via aV);have aD:bS.cell? ⟨gr,0,none⟩=some (.string s):=aO.cell 0;have aE:bS.cell? ⟨gr,1,none⟩=some (.string t):=aO.cell 1
 go_wp2_with fail
 refine (J2.out bS).mono ?_;rintro e bT ⟨rfl,bE⟩;clear aD aE;have aM:=(aO.via bE);have aD:bT.cell? ⟨gr,0,none⟩=some (.string s):=aM.cell 0;have aE:bT.cell? ⟨gr,1,none⟩=some (.string t):=aM.cell 1
 go_wp2_with fail
 refine (J3.out bT).mono ?_;rintro e cJ ⟨rfl,aP⟩;clear aD aE
 go_wp2_with fail
 refine (J4.out cJ).mono ?_;rintro e bZ ⟨rfl,bF⟩;have aF:=((aM.via aP).via bF);have aD:bZ.cell? ⟨gr,0,none⟩=some (.string s):=aF.cell 0;have aE:bZ.cell? ⟨gr,1,none⟩=some (.string t):=aF.cell 1
 go_wp2_with fail
 refine (J5.out bZ).mono ?_;rintro e cK ⟨rfl,bG⟩;clear aD aE
 go_wp2_with fail
 refine (J6.out cK).mono ?_;rintro e bQ ⟨rfl,aW⟩;have bA:=((aF.via bG).via aW);have aD:bQ.cell? ⟨gr,0,none⟩=some (.string s):=bA.cell 0;have aE:bQ.cell? ⟨gr,1,none⟩=some (.string t):=bA.cell 1
 go_wp2_with fail
 refine (J7.out bQ).mono ?_;rintro e cM ⟨rfl,bO⟩;clear aD aE
 go_wp2_with fail
 refine (J8.out cM).mono ?_;rintro e cT ⟨rfl,bP⟩;have bL:=(bvia (bvia (bvia (bvia (bvia (bvia (bvia (bvia (bvia (bvia (bvia (bvia cB.drew aA) aC) aG) aQ) aV) bE) aP) bF) bG) aW) bO) bP);go_wp2
 go_ret;exact ⟨rfl,bL⟩
theorem zj7 (a b:ByteArray) (w:World) (KV:zcx) (hT:Tabs w):Calls Tryz.prog 5 #[.string a,.string b] w fun e w'=>e = .returned (.bool true)∧Below w.heap.size w w':=by
 obtain ⟨ba,fa,ca⟩:=zg5 30 a (by omega) (by omega);obtain ⟨bb,fb,cb⟩:=zg5 30 b (by omega) (by omega);have aA:zaS 35 #[.string a,.int .i64 30] (.bool ba):=ca;have aC:zaS 35 #[.string b,.int .i64 30] (.bool bb):=cb
 cases ba
 ·exact zjv a b w KV hT aA
 ·cases bb
  ·exact zjx a b w KV hT aA aC
  ·obtain ⟨a1,a2,a3⟩:=fa rfl
   obtain ⟨b1,b2,b3⟩:=fb rfl;have la:=zei a1;have lb:=zei b1;have eb:=zfk b1;have ea:=zfk a1;have aD:=zdL _ la;have HM:zaS 22 #[.string b,.string b] (.string (txt (mulQ (zab b.data.toList) (zab b.data.toList)))):=by
    have h:=tMul lb lb b2 b2 (by omega) (by omega)
    rwa [←eb] at h
   have HA:zaS 38 #[.string b] (.string (txt (absQ (zab b.data.toList)))):=by
    have h:=tAbs lb b2 (by omega) (by omega)
    rwa [←eb] at h
   have HS:zaS 39 #[.string a] (.int .i64 (zcm (zab a.data.toList))):=by
    have h:=zrc la a2 (by omega) (by omega)
    rwa [←ea] at h
   have HQ:zjD 36 #[.string (txt (mulQ (zab b.data.toList) (zab b.data.toList)))] (.tuple #[.agg #[.string (txt (absQ (zab b.data.toList))),.string (txt (absQ (zab b.data.toList)))],.int .i64 0]):=fun W hT=>
    zkW (zhl _ _ W hT lb b2 (zba (zbB _ _ lb.1 lb.1)))
   cases hn:(zab a.data.toList).neg
   ·obtain ⟨p,q,R,hR⟩:=zpa a ⟨a1,a2,a3⟩ hn
    have l1:=R.low1;have l2:=R.low2;have m1:=zbB p p l1.1 l1.1;have m2:=zbB q q l2.1 l2.1;have m3:=zci q p l2.1 l1.1;have n1:=(zbZ R.sm1 R.sm1 l1.1 l1.1);have n2:=(zbZ R.sm2 R.sm2 l2.1 l2.1);have n3:=(zbE R.sm2 R.sm1 l2.1 l1.1);have K4:zaS 23 #[.string (txt (mulQ p p)),.string a] (.int .i64 (cmpI (mulQ p p) (zab a.data.toList))):=by
     have h:=tCmp m1 la n1 (a2.more (show 30≤70+70 by omega)) (by omega) (by omega)
     rwa [←ea] at h
    have K6:zaS 23 #[.string (txt (mulQ q q)),.string a] (.int .i64 (cmpI (mulQ q q) (zab a.data.toList))):=by
     have h:=tCmp m2 la n2 (a2.more (show 30≤70+70 by omega)) (by omega) (by omega)
     rwa [←ea] at h
    have K8:zaS 23 #[.string (txt (subQ q p)),.string ⟨#[49,47,49,48,48,48]⟩] (.int .i64 (cmpI (subQ q p) zjf)):=by
     have h:=tCmp m3 zjs.2 n3 (⟨by decide,by decide⟩:Small zjf (70+70+1)) (by omega) (by omega)
     rwa [←zcZ zjs] at h
    refine zkc a _ _ _ _ _ _ _ b _ _ _ _ _ w KV hT aA aC (fun W hT=>zkW (hR W hT)) HM HQ HA HS (decide_eq_false ?_) (zlP l1 l2 R.sm1 R.sm2 (by omega) R.le) (zrc l1 R.sm1 (by omega) (by omega)) (decide_eq_true R.sg)
     (tMul l1 l1 R.sm1 R.sm1 (by omega) (by omega)) K4 (decide_eq_true R.c1) (tMul l2 l2 R.sm2 R.sm2 (by omega) (by omega)) K6 (decide_eq_true R.c2) (tSub l2 l1 R.sm2 R.sm1 (by omega) (by omega)) K8 (decide_eq_true R.c3)
    rcases aD with ⟨h,_⟩ | ⟨_,_,h⟩ | ⟨_,_,h⟩
    ·rw [hn] at h;cases h
    ·omega
    ·omega
   ·refine zjR a _ _ b _ w KV hT aA aC (fun W hT=>zlz a ⟨a1,a2,a3⟩ hn W hT) HM HQ HA HS (decide_eq_true ?_)
    rcases aD with ⟨_,h⟩ | ⟨h,_⟩ | ⟨h,_⟩
    ·omega
    ·rw [hn] at h;cases h
    ·rw [hn] at h;cases h
end Go.Proofs.YtmkondcdejlhcaaGreatDoor
