/- Contracts of package number's inRange, readTurn, Cos and Sin. -/
import Derived.Test.YteajibbphcfmeaaGreatDoorVCo6
import Derived.Test.YteajibbphcfmeaaGreatDoorVSp8
namespace Go.Proofs.YteajibbphcfmeaaGreatDoor
open Go.RowKit Bn
theorem zjc (w:World):Calls Tryz.prog 102 #[.int .u64 999999999] w (zbX w 999999999):=zah 999999999 w (by omega) (by omega)
theorem znD (w:World) (t:TypeId) (g:Nat) (hg:w.heap.size=g) :
  Calls Tryz.prog 70 #[.slice (some ⟨g,0,none⟩) 2 2] (w.alloc (.cells #[.int .i64 0,.int .i64 0] t)).drew fun e w'=>e = .returned (.int .i64 0)∧Below (w.alloc (.cells #[.int .i64 0,.int .i64 0] t)).drew.heap.size (w.alloc (.cells #[.int .i64 0,.int .i64 0] t)).drew w':=
 (zaZ 0 0 0 rfl w.drew t g hg:Calls _ _ _ _ _).mono fun _ _ ⟨he,hw⟩=>⟨he,by rw [←hw];exact Below.refl _ _⟩
set_option maxHeartbeats 2000000 in
set_option maxRecDepth 100000 in
theorem zcK (x a b:Int) (w:World) (h1:a≤x) (h2:x≤b) :
  Calls Tryz.prog 88 #[.int .i64 x,.int .i64 a,.int .i64 b] w fun e w'=>e = .returned (.int .i64 0)∧w=w':=by
 have d1:decide (x<a)=false:=decide_eq_false (by omega)
 have d2:decide (b<x)=false:=decide_eq_false (by omega)
 go_enter Tryz.func88,Tryz.ntmps88
 go_wp2
 go_ret
 exact ⟨rfl,rfl⟩
set_option maxHeartbeats 4000000 in
set_option maxRecDepth 100000 in
theorem zfj (p:Q) (s:ByteArray) (dec:Int) (w:World) (hT:Tabs w) (hbot:p.bot≤999999999) (hd1:1≤dec) (hd2:dec≤12)
  (HR:Hid (∀ W,Tabs W→Calls Tryz.prog 63 #[.string s] W (zay W p 0))) :
  Calls Tryz.prog 116 #[.string s,.int .i64 dec] w (zay w p 0):=by
 have aI:Below w.heap.size w (w.alloc (.cells #[.bool false,.slice none 0 0,.slice none 0 0] 91)):=((Below.refl _ _).alloc (by simp<;>omega) _)
 have q0:CBlk (w.alloc (.cells #[.bool false,.slice none 0 0,.slice none 0 0] 91)) (w.heap.size) #[.bool false,.slice none 0 0,.slice none 0 0] 91:=(CBlk.new _ _ _ _ (by simp))
 have d:decide (0<ncmp p.bot 999999999)=false:=decide_eq_false (by
  rcases Nat.lt_or_ge p.bot 999999999 with h | h
  ·rw [ncmp_lt h];omega
  ·rw [show p.bot=999999999 by omega,ncmp_eq];omega)
 clear hbot
 go_enter Tryz.func116,Tryz.ntmps116
 go_upto_region 1 with (fail)
 generalize (w.alloc (.cells #[.bool false,.slice none 0 0,.slice none 0 0] 91))=W at *
 go_wp2_with fail
 refine (HR.out W (hT.later aI)).mono ?_
 rintro e w2 ⟨v2,rfl,⟨A1,n1,c1,A2,n2,c2,rfl,h1,h2⟩,aJ⟩
 have aC:Below w2.heap.size w2 (w2.alloc (.cells #[.bool p.neg,.slice A1 n1 c1,.slice A2 n2 c2] 91)):=(Below.refl _ _).alloc (Nat.le_refl _) _
 have aM:=aI.trans (aJ.mono aI.size)
 have hB:=aM.trans (aC.mono aM.size)
 have q4:=(q0.below aJ q0.lt).alloc (.cells #[.bool p.neg,.slice A1 n1 c1,.slice A2 n2 c2] 91)
 have q6:CBlk (w2.alloc (.cells #[.bool p.neg,.slice A1 n1 c1,.slice A2 n2 c2] 91)) w2.heap.size #[.bool p.neg,.slice A1 n1 c1,.slice A2 n2 c2] 91:=CBlk.new _ _ _ _ rfl
 have aZ:=h1.later aC
 have aP:=h2.later aC
 have aV:Hid (w.heap.size≠w2.heap.size):=Lib.hid (Nat.ne_of_lt (Nat.lt_of_lt_of_le q0.lt aJ.size))
 clear q0 aI aJ aM h1 h2 aC HR hT
 go_upto_region 2 with (fail)
 generalize (w2.alloc (.cells #[.bool p.neg,.slice A1 n1 c1,.slice A2 n2 c2] 91))=w3 at *
 have k0:w3.drew.cell? ⟨w2.heap.size,2,none⟩=some (.slice A2 n2 c2):=q6.cell 2
 have l0:w2.heap.size<w3.drew.heap.size:=q6.lt
 go_region_held3 (fun w'=>w'.cell? ⟨w2.heap.size,2,none⟩=some (.slice A2 n2 c2))
  (first | with_reducible exact k0 | with_reducible exact k1 | with_reducible exact k2)
  (first
   |(go_at_call 102;refine (zjc _).mono ?_;rintro e w4 ⟨A4,m4,c4,rfl,aY,aA⟩;have l1:w2.heap.size<w4.heap.size:=Nat.lt_of_lt_of_le l0 aA.size;have k1:w4.cell? ⟨w2.heap.size,2,none⟩=some (.slice A2 n2 c2):=(aA.cell (p:=⟨w2.heap.size,2,none⟩) l0).trans k0)
   |(go_at_call 129;refine (zfI A2 A4 n2 c2 m4 c4 p.bot 999999999 w4 ((aP.later (Below.drew (Below.refl _ _))).later aA) aY).mono ?_;rintro e w5 ⟨rfl,aE⟩;have k2:w5.cell? ⟨w2.heap.size,2,none⟩=some (.slice A2 n2 c2):=(aE.cell (p:=⟨w2.heap.size,2,none⟩) l1).trans k1))
 have aR:=hB.drew.trans (aA.mono hB.drew.size)
 have aL:=aR.trans (aE.mono aR.size)
 have aS:=(q4.drew.below aA q4.lt).below aE (Nat.lt_of_lt_of_le q4.lt aA.size)
 have aG:=(q6.drew.below aA q6.lt).below aE (Nat.lt_of_lt_of_le q6.lt aA.size)
 have aW:=((aZ.later (Below.drew (Below.refl _ _))).later aA).later aE
 have aU:=((aP.later (Below.drew (Below.refl _ _))).later aA).later aE
 clear k0 k1 k2 l0 l1 aA aE hB aR q4 q6 aZ aP aY
 go_upto_region 4 with (fail)
 have aT:=(aS.alloc (.cells #[.int .i64 0,.int .i64 0] 26)).drew
 have aH:=(aG.alloc (.cells #[.int .i64 0,.int .i64 0] 26)).drew
 have aX:Below w.heap.size w (w5.alloc (.cells #[.int .i64 0,.int .i64 0] 26)).drew:=(aL.alloc aL.size _).drew
 have aC:Below w5.heap.size w5 (w5.alloc (.cells #[.int .i64 0,.int .i64 0] 26)).drew:=((Below.refl _ _).alloc (Nat.le_refl _) _).drew
 have bD:=aW.later aC
 have bC:=aU.later aC
 have k0:w5.drew.cell? ⟨w2.heap.size,0,none⟩=some (.bool p.neg):=aG.cell 0
 have k1:w5.drew.cell? ⟨w2.heap.size,1,none⟩=some (.slice A1 n1 c1):=aG.cell 1
 have k2:w5.drew.cell? ⟨w2.heap.size,2,none⟩=some (.slice A2 n2 c2):=aG.cell 2
 have m0:((w5.alloc (.cells #[.int .i64 0,.int .i64 0] 26)).drew).cell? ⟨w2.heap.size,0,none⟩=some (.bool p.neg):=aH.cell 0
 have m1:((w5.alloc (.cells #[.int .i64 0,.int .i64 0] 26)).drew).cell? ⟨w2.heap.size,1,none⟩=some (.slice A1 n1 c1):=aH.cell 1
 have m2:((w5.alloc (.cells #[.int .i64 0,.int .i64 0] 26)).drew).cell? ⟨w2.heap.size,2,none⟩=some (.slice A2 n2 c2):=aH.cell 2
 have aN:w.heap.size≠w2.heap.size:=aV.out
 have bB:=aT.lt
 have aO:=aH.lt
 clear aS aG aL aC aW aU aV
 go_region_held3 (fun w'=>w'.cell? ⟨w2.heap.size,0,none⟩=some (.bool p.neg)∧w'.cell? ⟨w2.heap.size,1,none⟩=some (.slice A1 n1 c1)∧w'.cell? ⟨w2.heap.size,2,none⟩=some (.slice A2 n2 c2))
  (first | with_reducible exact ⟨k0,k1,k2⟩ | with_reducible exact ⟨m0,m1,m2⟩ | with_reducible exact ⟨s0,s1,s2⟩ | exact ⟨(far3 _ _ _ _ (by exact aN)).trans s0,(far3 _ _ _ _ (by exact aN)).trans s1,(far3 _ _ _ _ (by exact aN)).trans s2⟩)
  (first
   |(go_at_call 88;refine (zcK dec 1 12 _ hd1 hd2).mono ?_;rintro e w6 ⟨rfl,rfl⟩)
   |(go_at_call 70;refine (znD w5 _ _ rfl).mono ?_;rintro e w6 ⟨rfl,aD⟩;have s0:w6.cell? ⟨w2.heap.size,0,none⟩=some (.bool p.neg):=(aD.cell (p:=⟨w2.heap.size,0,none⟩) aO).trans m0;have s1:w6.cell? ⟨w2.heap.size,1,none⟩=some (.slice A1 n1 c1):=(aD.cell (p:=⟨w2.heap.size,1,none⟩) aO).trans m1;have s2:w6.cell? ⟨w2.heap.size,2,none⟩=some (.slice A2 n2 c2):=(aD.cell (p:=⟨w2.heap.size,2,none⟩) aO).trans m2;have aF:=aT.below aD bB;have y0:=aF.cell 0;have y1:=aF.cell 1;have y2:=aF.cell 2;have z0:=aF.frozen 0;have z1:=aF.frozen 1;have z2:=aF.frozen 2))
 have bA:=aX.trans (aD.mono aX.size)
 have aK:=zak bA (g:=w.heap.size) (Nat.le_refl _) (.bool p.neg) (.slice A1 n1 c1) (.slice A2 n2 c2)
 have aQ:=(RatS.mk (q:=p) (bD.later aD) (bC.later aD)).res3 aF p.neg A1 A2 n1 c1 n2 c2
 go_wp2_with fail
 refine bodyPost_ret (v := .tuple #[.agg #[.bool p.neg,.slice A1 n1 c1,.slice A2 n2 c2],.int .i64 0]) (by simp [results,Tryz.results116,go_sem,y0,y1,y2]) rfl ⟨_,rfl,aQ,aK⟩
def ziI:Q:=lowQ false 1 4
theorem zjU (w:World) (hT:Tabs w):Calls Tryz.prog 118 #[.int .u64 1,.int .u64 4] w (zaT w ziI):=zeC 1 4 w hT (by omega) (by omega)
theorem zjd:LenQ ziI 1:=⟨Nat.le_trans (zaa (Nat.div_le_self _ _)) zbm,Nat.le_trans (zaa (Nat.div_le_self _ _)) (digs_length_le (by rw [zcN];omega))⟩
set_option maxHeartbeats 4000000 in
set_option maxRecDepth 100000 in
theorem zmX (p:Q) (s:ByteArray) (dec:Int) (l m:List UInt8) (x:Int) (w:World) (hT:Tabs w) (hbot:p.bot≤999999999) (hd1:1≤dec) (hd2:dec≤12)
  (HR:Hid (∀ W,Tabs W→Calls Tryz.prog 63 #[.string s] W (zay W p 0)))
  (HC:Hid (∀ v W,Tabs W→RatS W W.heap.size v p→Calls Tryz.prog 117 #[v,.int .i64 dec] W (zc8 W l m x))) :
  Calls Tryz.prog 56 #[.string s,.int .i64 dec] w (zc8 w l m x):=by
 have aA:Below w.heap.size w (w.alloc (.cells #[.string { data:=#[] },.string { data:=#[] }] 74)):=((Below.refl _ _).alloc (by simp<;>omega) _)
 have q0:CBlk (w.alloc (.cells #[.string { data:=#[] },.string { data:=#[] }] 74)) (w.heap.size) #[.string { data:=#[] },.string { data:=#[] }] 74:=(CBlk.new _ _ _ _ (by simp))
 have aG:=Lib.hid (fun W hT=>zfj p s dec W hT hbot hd1 hd2 HR)
 clear HR hbot
 go_enter Tryz.func56,Tryz.ntmps56
 go_upto_region 1 with (fail)
 generalize (w.alloc (.cells #[.string { data:=#[] },.string { data:=#[] }] 74))=W at *
 go_wp2_with fail
 refine (aG.out W (hT.later aA)).mono ?_
 rintro e w2 ⟨v2,rfl,⟨A1,n1,c1,A2,n2,c2,rfl,h1,h2⟩,aC⟩
 have aF:Below w2.heap.size w2 (w2.alloc (.cells #[.bool p.neg,.slice A1 n1 c1,.slice A2 n2 c2] 91)):=(Below.refl _ _).alloc (Nat.le_refl _) _
 have aE:=aA.trans (aC.mono aA.size)
 have hB:=aE.trans (aF.mono aE.size)
 have aL:Hid (w.heap.size≠w2.heap.size):=Lib.hid (Nat.ne_of_lt (Nat.lt_of_lt_of_le q0.lt aC.size))
 have q4:=(q0.below aC q0.lt).alloc (.cells #[.bool p.neg,.slice A1 n1 c1,.slice A2 n2 c2] 91)
 have q6:CBlk (w2.alloc (.cells #[.bool p.neg,.slice A1 n1 c1,.slice A2 n2 c2] 91)) w2.heap.size #[.bool p.neg,.slice A1 n1 c1,.slice A2 n2 c2] 91:=CBlk.new _ _ _ _ rfl
 have hv:=(RatS.mk (q:=p) h1 h2).later aF
 clear q0 aA aC aE h1 h2 aF aG
 go_upto_region 2 with (fail)
 generalize (w2.alloc (.cells #[.bool p.neg,.slice A1 n1 c1,.slice A2 n2 c2] 91))=w3 at *
 have a0:=q6.cell 0
 have a1:=q6.cell 1
 have a2:=q6.cell 2
 go_wp2_with fail
 refine (HC.out _ w3 (hT.later hB) hv).mono ?_
 rintro e w8 ⟨z1,z2,rfl,aI,aJ,aH⟩
 have aK:=hB.trans (aH.mono hB.size)
 have q8:=q4.below aH q4.lt
 have y0:=q8.cell 0
 have y1:=q8.cell 1
 have f0:=q8.frozen 0
 have f1:=q8.frozen 1
 have aD:=zbH aK (g:=w.heap.size) (Nat.le_refl _) (.string z1) (.string z2)
 go_wp2
 refine bodyPost_ret (v := .tuple #[.agg #[.string z1,.string z2],.int .i64 x]) (by simp [results,Tryz.results56,go_sem,y0,y1]) rfl ⟨z1,z2,rfl,aI,aJ,aD⟩
set_option maxHeartbeats 4000000 in
set_option maxRecDepth 100000 in
theorem zn1 (p:Q) (s:ByteArray) (dec:Int) (l m:List UInt8) (x:Int) (w:World) (hT:Tabs w) (hbot:p.bot≤999999999) (hd1:1≤dec) (hd2:dec≤12)
  (HR:Hid (∀ W,Tabs W→Calls Tryz.prog 63 #[.string s] W (zay W p 0))) (u:Q) (hu:Hid (u=zaX ziI p)) (lp:LenQ p 33554432)
  (HC:Hid (∀ v W,Tabs W→RatS W W.heap.size v u→Calls Tryz.prog 117 #[v,.int .i64 dec] W (zc8 W l m x))) :
  Calls Tryz.prog 57 #[.string s,.int .i64 dec] w (zc8 w l m x):=by
 have aE:Below w.heap.size w (w.alloc (.cells #[.string { data:=#[] },.string { data:=#[] }] 74)):=((Below.refl _ _).alloc (by simp<;>omega) _)
 have q0:CBlk (w.alloc (.cells #[.string { data:=#[] },.string { data:=#[] }] 74)) (w.heap.size) #[.string { data:=#[] },.string { data:=#[] }] 74:=(CBlk.new _ _ _ _ (by simp))
 have aQ:=Lib.hid (fun W hT=>zfj p s dec W hT hbot hd1 hd2 HR)
 clear HR hbot
 go_enter Tryz.func57,Tryz.ntmps57
 go_upto_region 1 with (fail)
 generalize (w.alloc (.cells #[.string { data:=#[] },.string { data:=#[] }] 74))=W at *
 go_wp2_with fail
 refine (aQ.out W (hT.later aE)).mono ?_
 rintro e w2 ⟨v2,rfl,⟨A1,n1,c1,A2,n2,c2,rfl,h1,h2⟩,aF⟩
 have aJ:Below w2.heap.size w2 (w2.alloc (.cells #[.bool p.neg,.slice A1 n1 c1,.slice A2 n2 c2] 91)):=(Below.refl _ _).alloc (Nat.le_refl _) _
 have aH:=aE.trans (aF.mono aE.size)
 have hB:=aH.trans (aJ.mono aH.size)
 have aR:Hid (w.heap.size≠w2.heap.size):=Lib.hid (Nat.ne_of_lt (Nat.lt_of_lt_of_le q0.lt aF.size))
 have q4:=(q0.below aF q0.lt).alloc (.cells #[.bool p.neg,.slice A1 n1 c1,.slice A2 n2 c2] 91)
 have q6:CBlk (w2.alloc (.cells #[.bool p.neg,.slice A1 n1 c1,.slice A2 n2 c2] 91)) w2.heap.size #[.bool p.neg,.slice A1 n1 c1,.slice A2 n2 c2] 91:=CBlk.new _ _ _ _ rfl
 have hv:=(RatS.mk (q:=p) h1 h2).later aJ
 clear q0 aE aF aH h1 h2 aJ aQ
 go_upto_region 2 with (fail)
 generalize (w2.alloc (.cells #[.bool p.neg,.slice A1 n1 c1,.slice A2 n2 c2] 91))=w3 at *
 have HM:=Lib.hid (fun v z W hT h2 h3=>(show Calls _ _ _ _ (zaT W u) from by rw [hu.out];exact zcZ ziI p v z W hT h2 h3 (zjd.mono (by omega)) (lp.mono (by omega))))
 clear hu lp
 go_upto_region 4 with (fail)
 have aM:w3.drew.cell? ⟨w2.heap.size,0,none⟩=some (.bool p.neg):=q6.cell 0
 have aO:w3.drew.cell? ⟨w2.heap.size,1,none⟩=some (.slice A1 n1 c1):=q6.cell 1
 have aV:w3.drew.cell? ⟨w2.heap.size,2,none⟩=some (.slice A2 n2 c2):=q6.cell 2
 have l0:w2.heap.size<w3.drew.heap.size:=q6.lt
 have aI:w.heap.size≠w2.heap.size:=aR.out
 have bB:Below w3.heap.size w3 w3.drew:=Below.drew (Below.refl _ _)
 clear aR
 go_region_held3 (fun w'=>w'.cell? ⟨w2.heap.size,0,none⟩=some (.bool p.neg)∧w'.cell? ⟨w2.heap.size,1,none⟩=some (.slice A1 n1 c1)∧w'.cell? ⟨w2.heap.size,2,none⟩=some (.slice A2 n2 c2))
  (first | with_reducible exact ⟨aM,aO,aV⟩ | with_reducible exact ⟨aZ,aP,aS⟩ | with_reducible exact ⟨aU,aT,aK⟩ | with_reducible exact ⟨aX,aL,aW⟩ | exact ⟨(znF _ _ _ (by exact aI)).trans aX,(znF _ _ _ (by exact aI)).trans aL,(znF _ _ _ (by exact aI)).trans aW⟩)
  (first
   |(go_at_call 118;refine (zjU _ (hT.later hB.drew)).mono ?_;rintro e w4 ⟨v4,rfl,h4,aA⟩;have l1:w2.heap.size<w4.heap.size:=Nat.lt_of_lt_of_le l0 aA.size;have aZ:w4.cell? ⟨w2.heap.size,0,none⟩=some (.bool p.neg):=(aA.cell (p:=⟨w2.heap.size,0,none⟩) l0).trans aM;have aP:w4.cell? ⟨w2.heap.size,1,none⟩=some (.slice A1 n1 c1):=(aA.cell (p:=⟨w2.heap.size,1,none⟩) l0).trans aO;have aS:w4.cell? ⟨w2.heap.size,2,none⟩=some (.slice A2 n2 c2):=(aA.cell (p:=⟨w2.heap.size,2,none⟩) l0).trans aV)
   |(go_at_call 67;refine (HM.out _ _ w4 ((hT.later hB.drew).later aA) h4 ((hv.later bB).later aA)).mono ?_;rintro e w5 ⟨v5,rfl,h5,aC⟩;have l2:w2.heap.size<w5.heap.size:=Nat.lt_of_lt_of_le l1 aC.size;have aU:w5.cell? ⟨w2.heap.size,0,none⟩=some (.bool p.neg):=(aC.cell (p:=⟨w2.heap.size,0,none⟩) l1).trans aZ;have aT:w5.cell? ⟨w2.heap.size,1,none⟩=some (.slice A1 n1 c1):=(aC.cell (p:=⟨w2.heap.size,1,none⟩) l1).trans aP;have aK:w5.cell? ⟨w2.heap.size,2,none⟩=some (.slice A2 n2 c2):=(aC.cell (p:=⟨w2.heap.size,2,none⟩) l1).trans aS)
   |(go_at_call 117;refine (HC.out _ w5 (((hT.later hB.drew).later aA).later aC) h5).mono ?_;rintro e w6 ⟨z1,z2,rfl,bA,bC,aD⟩;have l3:w2.heap.size<w6.heap.size:=Nat.lt_of_lt_of_le l2 aD.size;have aX:w6.cell? ⟨w2.heap.size,0,none⟩=some (.bool p.neg):=(aD.cell (p:=⟨w2.heap.size,0,none⟩) l2).trans aU;have aL:w6.cell? ⟨w2.heap.size,1,none⟩=some (.slice A1 n1 c1):=(aD.cell (p:=⟨w2.heap.size,1,none⟩) l2).trans aT;have aW:w6.cell? ⟨w2.heap.size,2,none⟩=some (.slice A2 n2 c2):=(aD.cell (p:=⟨w2.heap.size,2,none⟩) l2).trans aK;have q8:=((q4.drew.below aA q4.lt).below aC (Nat.lt_of_lt_of_le q4.lt aA.size)).below aD (Nat.lt_of_lt_of_le q4.lt (Nat.le_trans aA.size aC.size));have y0:=q8.cell 0;have y1:=q8.cell 1;have f0:=q8.frozen 0;have f1:=q8.frozen 1))
 have aY:=hB.drew.trans (aA.mono hB.drew.size)
 have aN:=aY.trans (aC.mono aY.size)
 have bD:=aN.trans (aD.mono aN.size)
 have aG:=zbH bD (g:=w.heap.size) (Nat.le_refl _) (.string z1) (.string z2)
 go_wp2_with fail
 refine bodyPost_ret (v := .tuple #[.agg #[.string z1,.string z2],.int .i64 x]) (by simp [results,Tryz.results57,go_sem,y0,y1]) rfl ⟨z1,z2,rfl,bA,bC,aG⟩
theorem zls (q:Q) (k l mm scale low d:Nat) (hok:Cs.AcOk q.top q.bot 112 k l mm scale low) (hd:d≤12) (hsc:scale=10 ^ d) (hk0:k<4294967296) (hl0:l<4294967296) (hmm:mm<1073741824) (hbot:0<q.bot) (hl:LenQ q 1048576) (v:Value) (w:World) (hT:Tabs w) (hv:RatS w w.heap.size v q) :
  Calls Tryz.prog 165 #[v,.int .i64 (d:Int)] w (zb0 w (lowQ false low scale) (lowQ false (low+1) scale)):=by
 obtain ⟨A1,n1,c1,A2,n2,c2,rfl,h1,h2⟩:=hv
 exact zlu q.neg q.top q.bot k l mm scale low d A1 A2 n1 c1 n2 c2 w hT hok hd hsc hk0 hl0 hmm h1 h2 hbot (by rw [←h1.len];exact hl.1)
theorem zbf {q:Q} (h1:q.top<18446744073709551616) (h2:q.bot<18446744073709551616):LenQ q 1:=⟨digs_length_le (by rw [zcN,Nat.pow_one];exact h1),digs_length_le (by rw [zcN,Nat.pow_one];exact h2)⟩
theorem zdy (s:ByteArray) (hs:s.size≤4294967296) (q:Q) (hq:zag s.data.toList=q) (he:zam s.data.toList=0) (w:World) (hT:Tabs w):Calls Tryz.prog 63 #[.string s] w (zay w q 0):=by
 have h:=zbC s w hT hs
 rw [hq,he] at h;exact h
theorem zov (w:World) (hT:Tabs w):Calls Tryz.prog 56 #[.string ⟨#[49,47,54]⟩,.int .i64 5] w (zc8 w [49,47,50] [49,47,50] 0):=
 zmX ⟨false,1,6⟩ ⟨#[49,47,54]⟩ 5 [49,47,50] [49,47,50] 0 w hT (by decide) (by omega) (by omega) (Lib.hid (fun W hT=>zdy ⟨#[49,47,54]⟩ (by decide) ⟨false,1,6⟩ (by kernel_rfl) (by kernel_rfl) W hT))
  (Lib.hid (fun v W hT hv=>(zho ⟨false,1,6⟩ ⟨false,1,6⟩ ⟨#[49,47,50]⟩ 5 v W hT hv (Lib.hid (fun v w hT hv=>(show Calls _ _ _ _ (zaT w ⟨false,1,6⟩) from by have h:=zex ⟨false,1,6⟩ v w hT hv (by decide) ((zbf (by decide) (by decide)).mono (by omega));rw [show zhP ⟨false,1,6⟩=⟨false,1,6⟩ from by kernel_rfl] at h;exact h)))
   (Lib.hid (fun v w hT hv=>zer ⟨false,1,6⟩ ⟨#[49,47,54]⟩ ⟨#[49,47,50]⟩ 1 v w hT hv ((zbf (by decide) (by decide)).mono (by omega)) (Lib.hid (by kernel_rfl)) (by kernel_rfl) (Lib.hid (by kernel_rfl))))).mono
   (fun _ _ ⟨he,hb⟩=>⟨⟨#[49,47,50]⟩,⟨#[49,47,50]⟩,he,rfl,rfl,hb⟩)))
theorem zeo {x:Nat} (h:x<18446744073709551616:=by omega):LenQ (lowQ false x 1000) 33554432:=
 (zdx (K:=1) (digs_length_le (by rw [zcN,Nat.pow_one];exact h)) (digs_length_le (by rw [zcN];omega)) (Nat.le_refl _)).mono (by omega)
theorem zod (w:World) (hT:Tabs w):Calls Tryz.prog 56 #[.string ⟨#[49,47,56]⟩,.int .i64 3] w (zc8 w [55,48,55,47,49,48,48,48] [49,55,55,47,50,53,48] 0):=by
 have eL:zdS (lowQ false 707 1000) (lowQ false (707+1) 1000)=[55,48,55,47,49,48,48,48]:=by kernel_rfl
 have eH:zdT (lowQ false 707 1000) (lowQ false (707+1) 1000)=[49,55,55,47,50,53,48]:=by kernel_rfl
 have eE:zci (lowQ false 707 1000) (lowQ false (707+1) 1000)=0:=by kernel_rfl
 refine zmX ⟨false,1,8⟩ ⟨#[49,47,56]⟩ 3 [55,48,55,47,49,48,48,48] [49,55,55,47,50,53,48] 0 w hT (by decide) (by omega) (by omega) (Lib.hid (fun W hT=>zdy ⟨#[49,47,56]⟩ (by decide) ⟨false,1,8⟩ (by kernel_rfl) (by kernel_rfl) W hT)) (Lib.hid (fun v W hT hv => ?_))
 have h:=ze7 ⟨false,1,8⟩ ⟨false,1,8⟩ ⟨false,3,8⟩ ⟨false,1,8⟩ (lowQ false 707 1000) (lowQ false (707+1) 1000) (lowQ false 707 1000) (lowQ false (707+1) 1000) 3 v W hT hv ((zbf (by decide) (by decide)).mono (by omega)) (zeo (by omega)) (zeo (by omega)) (Lib.hid (by kernel_rfl))
  (Lib.hid (fun h=>absurd h (by rw [show rcmp ⟨false,3,8⟩ ⟨false,1,8⟩=1 from by kernel_rfl];omega))) (Lib.hid (fun _=>⟨rfl,rfl,rfl⟩))
  (Lib.hid (fun v w hT hv=>(show Calls _ _ _ _ (zaT w ⟨false,1,8⟩) from by have h:=zex ⟨false,1,8⟩ v w hT hv (by decide) ((zbf (by decide) (by decide)).mono (by omega));rw [show zhP ⟨false,1,8⟩=⟨false,1,8⟩ from by kernel_rfl] at h;exact h))) (Lib.hid (fun v w hT hv=>zc6 ⟨false,1,8⟩ ⟨#[49,47,56]⟩ v w hT hv ((zbf (by decide) (by decide)).mono (by omega)) (Lib.hid (by kernel_rfl)) (by kernel_rfl) (Lib.hid (by kernel_rfl)))) (Lib.hid (fun v w hT hv=>zls ⟨false,1,8⟩ 24 7 15 1000 707 3 Cs.ac8 (by decide) (by decide) (by decide) (by decide) (by decide) (by decide) ((zbf (by decide) (by decide)).mono (by omega)) v w hT hv))
 rw [eL,eH,eE] at h
 exact h
theorem zoq (w:World) (hT:Tabs w):Calls Tryz.prog 57 #[.string ⟨#[45,49,47,56]⟩,.int .i64 3] w (zc8 w [45,49,55,55,47,50,53,48] [45,55,48,55,47,49,48,48,48] 0):=by
 have eL:zdS (zbV (lowQ false (707+1) 1000)) (zbV (lowQ false 707 1000))=[45,49,55,55,47,50,53,48]:=by kernel_rfl
 have eH:zdT (zbV (lowQ false (707+1) 1000)) (zbV (lowQ false 707 1000))=[45,55,48,55,47,49,48,48,48]:=by kernel_rfl
 have eE:zci (zbV (lowQ false (707+1) 1000)) (zbV (lowQ false 707 1000))=0:=by kernel_rfl
 refine zn1 ⟨true,1,8⟩ ⟨#[45,49,47,56]⟩ 3 [45,49,55,55,47,50,53,48] [45,55,48,55,47,49,48,48,48] 0 w hT (by decide) (by omega) (by omega) (Lib.hid (fun W hT=>zdy ⟨#[45,49,47,56]⟩ (by decide) ⟨true,1,8⟩ (by kernel_rfl) (by kernel_rfl) W hT)) ⟨false,3,8⟩ (Lib.hid (by kernel_rfl)) ((zbf (by decide) (by decide)).mono (by omega)) (Lib.hid (fun v W hT hv => ?_))
 have h:=ze7 ⟨false,3,8⟩ ⟨false,3,8⟩ ⟨false,1,8⟩ ⟨false,1,8⟩ (lowQ false 707 1000) (lowQ false (707+1) 1000) (zbV (lowQ false (707+1) 1000)) (zbV (lowQ false 707 1000)) 3 v W hT hv ((zbf (by decide) (by decide)).mono (by omega)) (zeo (by omega)) (zeo (by omega)) (Lib.hid (by kernel_rfl))
  (Lib.hid (fun _=>⟨rfl,rfl,rfl⟩)) (Lib.hid (fun h=>absurd h (by rw [show rcmp ⟨false,1,8⟩ ⟨false,3,8⟩ = -1 from by kernel_rfl];omega)))
  (Lib.hid (fun v w hT hv=>(show Calls _ _ _ _ (zaT w ⟨false,3,8⟩) from by have h:=zex ⟨false,3,8⟩ v w hT hv (by decide) ((zbf (by decide) (by decide)).mono (by omega));rw [show zhP ⟨false,3,8⟩=⟨false,3,8⟩ from by kernel_rfl] at h;exact h))) (Lib.hid (fun v w hT hv=>zc6 ⟨false,3,8⟩ ⟨#[51,47,56]⟩ v w hT hv ((zbf (by decide) (by decide)).mono (by omega)) (Lib.hid (by kernel_rfl)) (by kernel_rfl) (Lib.hid (by kernel_rfl)))) (Lib.hid (fun v w hT hv=>zls ⟨false,1,8⟩ 24 7 15 1000 707 3 Cs.ac8 (by decide) (by decide) (by decide) (by decide) (by decide) (by decide) ((zbf (by decide) (by decide)).mono (by omega)) v w hT hv))
 rw [eL,eH,eE] at h
 exact h
end Go.Proofs.YteajibbphcfmeaaGreatDoor
namespace Go.Proofs.YteajibbphcfmeaaGreatDoor.Dl
def insK (lt:Nat→Nat→Bool) (p:List Nat) (x:Nat):Nat:=(p.reverse.takeWhile (lt x)).length
def insP (lt:Nat→Nat→Bool) (p:List Nat) (x:Nat):List Nat:=p.take (p.length - insK lt p x)++x :: p.drop (p.length - insK lt p x)
def sortP (lt:Nat→Nat→Bool) (l:List Nat):List Nat:=l.foldl (insP lt) []
theorem insK_is (lt:Nat→Nat→Bool) (p:List Nat) (x j:Nat) (hj:j≤p.length) (h1:∀ i (h:i<p.length),j≤i→lt x p[i]=true) (h2:∀ (h:0<j),lt x (p[j - 1]'(by omega))=false) :
  p.length - insK lt p x=j:=by
 unfold insK
 have e:p.reverse=(p.drop j).reverse++(p.take j).reverse:=by rw [←List.reverse_append,List.take_append_drop]
 rw [e,List.takeWhile_append_of_pos (by
  intro a ha
  rw [List.mem_reverse] at ha
  obtain ⟨i,hi,rfl⟩:=List.getElem_of_mem ha
  rw [List.getElem_drop]
  exact h1 _ _ (by omega))]
 have e2:(p.take j).reverse.takeWhile (lt x)=[]:=by
  by_cases h0:0<j
  ·have e3:p.take j=p.take (j - 1)++[p[j - 1]'(by omega)]:=by
    have:=List.take_succ_eq_append_getElem (l:=p) (i:=j - 1) (by omega)
    rwa [show j - 1+1=j from by omega] at this
   rw [e3,List.reverse_append]
   simp [h2 h0]
  ·obtain rfl:j=0:=by omega
   simp
 rw [e2]
 simp;omega
theorem zkP (lt:Nat→Nat→Bool) (p:List Nat) (x:Nat):(insP lt p x).Perm (x :: p):=by
 unfold insP
 have h:(p.take (p.length - insK lt p x)++x :: p.drop (p.length - insK lt p x)).Perm (x :: (p.take (p.length - insK lt p x)++p.drop (p.length - insK lt p x))):=List.perm_middle
 rwa [List.take_append_drop] at h
theorem foldl_perm (lt:Nat→Nat→Bool):∀ (l p:List Nat),(l.foldl (insP lt) p).Perm (p++l)
 | [],p=>by simp
 | x :: l,p=>by
  rw [List.foldl_cons]
  refine (foldl_perm lt l _).trans ?_
  have h:=(zkP lt p x).append_right l
  refine h.trans ?_
  rw [List.cons_append]
  exact List.perm_middle.symm
theorem zjK (lt:Nat→Nat→Bool) (l:List Nat):(sortP lt l).Perm l:=by
 have h:=foldl_perm lt l []
 simpa [sortP] using h
def byKey (r:Nat→Nat) (x y:Nat):Bool:=decide (r y<r x)
def drawAt (key n:Nat):Nat→Nat × List Nat
 | 0=>(key,List.range n)
 | r+1=>match drawAt key n r with
  | (x,l)=>(40692*x % 2147483399,(l.set (n - 1 - r) (l.getD (40692*x % 2147483399 % (n - 1 - r+1)) 0)).set (40692*x % 2147483399 % (n - 1 - r+1)) (l.getD (n - 1 - r) 0))
def drawL (key n:Nat):List Nat:=(drawAt key n (n - 1)).2
theorem draw_len (key n:Nat):∀ r,(drawAt key n r).2.length=n
 | 0=>by simp [drawAt]
 | r+1=>by
  have ih:=draw_len key n r
  simp only [drawAt]
  generalize drawAt key n r=s at ih ⊢
  obtain ⟨x,l⟩:=s
  dsimp only at ih ⊢
  rw [List.length_set,List.length_set,ih]
theorem draw_small (key n:Nat) (hk:key<2147483399):∀ r,(drawAt key n r).1<2147483399
 | 0=>hk
 | r+1=>by
  simp only [drawAt]
  generalize drawAt key n r=s
  obtain ⟨x,l⟩:=s
  exact Nat.mod_lt _ (by omega)
def shBase (T S:Nat) (w:List Nat):List Nat:=w.map (fun x=>T*x / S)
def shRem (T S:Nat) (w:List Nat) (i:Nat):Nat:=T*w.getD i 0 % S
def shRest (T S:Nat) (w:List Nat):Nat:=T - (shBase T S w).sum
def shOrder (T S:Nat) (w:List Nat):List Nat:=sortP (byKey (shRem T S w)) (List.range w.length)
def incAll (l:List Nat) (p:List Nat):List Nat:=p.foldl (fun l i=>l.set i (l.getD i 0+1)) l
def shares (T:Nat) (w:List Nat):List Nat:=incAll (shBase T w.sum w) ((shOrder T w.sum w).take (shRest T w.sum w))
theorem incAll_len:∀ (p l:List Nat),(incAll l p).length=l.length
 | [],_=>rfl
 | i :: p,l=>by
  show (incAll _ p).length=_
  rw [incAll_len p,List.length_set]
theorem incAll_sum:∀ (p l:List Nat),(∀ i ∈ p,i<l.length)→(incAll l p).sum=l.sum+p.length
 | [],l,_=>by simp [incAll]
 | i :: p,l,hi=>by
  show (incAll (l.set i (l.getD i 0+1)) p).sum=_
  have hil:=hi i List.mem_cons_self
  rw [incAll_sum p _ (fun j hj=>by rw [List.length_set];exact hi j (List.mem_cons_of_mem _ hj))]
  have hs:∀ (l:List Nat) (i:Nat),i<l.length→(l.set i (l.getD i 0+1)).sum=l.sum+1:=by
   intro l
   induction l with
   | nil=>intro i h;simp at h
   | cons x l ih=>
    intro i h
    cases i with
    | zero=>simp;omega
    | succ i=>
     have:=ih i (by simpa using h)
     simp only [List.set_cons_succ,List.sum_cons]
     have e:(x :: l).getD (i+1) 0=l.getD i 0:=by simp [List.getD]
     rw [e,this];omega
  rw [hs l i hil,List.length_cons];omega
theorem zhj (T S:Nat):∀ w:List Nat,(shBase T S w).sum*S+(w.map (fun x=>T*x % S)).sum=T*w.sum
 | []=>by simp [shBase]
 | x :: w=>by
  have ih:=zhj T S w
  unfold shBase at ih ⊢
  simp only [List.map_cons,List.sum_cons,Nat.add_mul,Nat.mul_add]
  have h:=Nat.div_add_mod (T*x) S
  rw [Nat.mul_comm S] at h
  omega
theorem zhf (S:Nat) (f:Nat→Nat) (hS:0<S) (hf:∀ x,f x<S):∀ l:List Nat,(l.map f).sum≤(l.filter (fun x=>decide (0<f x))).length*(S - 1)
 | []=>by simp
 | x :: l=>by
  have ih:=zhf S f hS hf l
  have hx:=hf x
  rw [List.map_cons,List.sum_cons,List.filter_cons]
  by_cases h:0<f x
  ·rw [if_pos (by simpa using h),List.length_cons,Nat.add_mul];omega
  ·rw [if_neg (by simpa using h)];omega
theorem zgd (T S:Nat) (w:List Nat):(List.range w.length).map (shRem T S w)=w.map (fun x=>T*x % S):=by
 apply List.ext_getElem
 ·simp
 ·intro i h1 h2
  have h3:i<w.length:=by simpa using h1
  simp [shRem,List.getD,h3]
theorem shRest_le (T:Nat) (w:List Nat) (hS:0<w.sum):(shBase T w.sum w).sum≤T∧shRest T w.sum w≤((List.range w.length).filter (fun i=>decide (0<shRem T w.sum w i))).length∧(shBase T w.sum w).sum+shRest T w.sum w=T:=by
 have h1:=zhj T w.sum w
 have h2:=zhf w.sum (shRem T w.sum w) hS (fun _=>Nat.mod_lt _ hS) (List.range w.length)
 rw [zgd] at h2
 generalize (w.map (fun x=>T*x % w.sum)).sum=R at h1 h2
 generalize ((List.range w.length).filter (fun i=>decide (0<shRem T w.sum w i))).length=p at h2 ⊢
 have aA:(shBase T w.sum w).sum≤T:=by
  refine Nat.le_of_mul_le_mul_right ?_ hS
  omega
 refine ⟨aA,?_,by unfold shRest;omega⟩
 have e:shRest T w.sum w*w.sum=R:=by
  unfold shRest
  rw [Nat.sub_mul];omega
 have h3:shRest T w.sum w*w.sum≤p*w.sum:=by
  rw [e]
  exact Nat.le_trans h2 (Nat.mul_le_mul_left _ (Nat.sub_le _ _))
 exact Nat.le_of_mul_le_mul_right h3 hS
theorem shOrder_perm (T S:Nat) (w:List Nat):(shOrder T S w).Perm (List.range w.length):=zjK _ _
theorem shOrder_len (T S:Nat) (w:List Nat):(shOrder T S w).length=w.length:=by rw [(shOrder_perm T S w).length_eq,List.length_range]
theorem shRest_len (T:Nat) (w:List Nat) (hS:0<w.sum):shRest T w.sum w≤w.length:=
 Nat.le_trans (shRest_le T w hS).2.1 (Nat.le_trans (List.length_filter_le _ _) (by simp))
end Go.Proofs.YteajibbphcfmeaaGreatDoor.Dl
