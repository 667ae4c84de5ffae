/- Contracts of package number's inRange, readTurn, Cos and Sin. -/
import Derived.Test.YtbkgkoenppkhpaaGreatDoorBCo7
import Derived.Test.YtbkgkoenppkhpaaGreatDoorBSp8
set_option maxRecDepth 100000
set_option maxHeartbeats 4000000
namespace Go.Proofs.YtbkgkoenppkhpaaGreatDoor
section
open Go.RowKit Bn
theorem zl0(w:World):Calls Tryz.prog 86 #[.int .u64 999999999] w (zcj w 999999999):=zai 999999999 w (by omega) (by omega)
theorem zq2 (w:World) (t:TypeId) (g:Nat) (hg:w.heap.size=g) :
  Calls Tryz.prog 80 #[.slice (some ⟨g,0,none⟩) 2 2] (w.alloc (.cells #[.int .i64 0,.int .i64 0] t)).drew fun e w'=>e = .returned (.int .i64 0)∧Below (w.alloc (.cells #[.int .i64 0,.int .i64 0] t)).drew.heap.size (w.alloc (.cells #[.int .i64 0,.int .i64 0] t)).drew w':=
 (za8 0 0 0 rfl w.drew t g hg:Calls _ _ _ _ _).mono fun _ _ ⟨he,hw⟩=>⟨he,by rw[←hw];exact Below.refl _ _⟩
theorem zdl (x a b:Int) (w:World) (h1:a≤x) (h2:x≤b) :
  Calls Tryz.prog 118 #[.int .i64 x,.int .i64 a,.int .i64 b] w fun e w'=>e = .returned (.int .i64 0)∧w=w':=by
 have d1:decide (x<a)=false:=decide_eq_false (by omega);have d2:decide (b<x)=false:=decide_eq_false (by omega);go_enter Tryz.func118,Tryz.ntmps118
 go_wp2
 go_ret;exact⟨rfl,rfl⟩
theorem zf4(p:Q)(s:ByteArray)(dec:Int)(w:World)(hT:Tabs w)(hbot:p.bot≤999999999)(hd1:1≤dec)(hd2:dec≤12)
 (HR:Hid (∀ W,Tabs W→Calls Tryz.prog 59 #[.string s] W (zaC W p 0))) :
  Calls Tryz.prog 114 #[.string s,.int .i64 dec] w (zaC w p 0):=by
 have aH:Below w.heap.size w (w.alloc (.cells #[.bool false,.slice none 0 0,.slice none 0 0] 87)):=((Below.refl _ _).alloc (by simp<;>omega) _);have q0:CBlk (w.alloc (.cells #[.bool false,.slice none 0 0,.slice none 0 0] 87)) (w.heap.size) #[.bool false,.slice none 0 0,.slice none 0 0] 87:=(CBlk.new _ _ _ _ (by simp));have d:decide (0<ncmp p.bot 999999999)=false:=decide_eq_false (by
  rcases Nat.lt_or_ge p.bot 999999999 with h | h
  ·rw[ncmp_lt h];omega
  ·rw[show p.bot=999999999 by omega,ncmp_eq];omega)
 clear hbot;go_enter Tryz.func114,Tryz.ntmps114
 go_upto_region 1 with(fail)
 generalize (w.alloc (.cells #[.bool false,.slice none 0 0,.slice none 0 0] 87))=W at *
 go_wp2_with fail
 refine(HR.out W (hT.later aH)).mono ?_;rintro e w2 ⟨v2,rfl,⟨A1,n1,c1,A2,n2,c2,rfl,h1,h2⟩,aJ⟩;have aC:Below w2.heap.size w2 (w2.alloc (.cells #[.bool p.neg,.slice A1 n1 c1,.slice A2 n2 c2] 87)):=Ac;have aN:=Ad aH aJ;have hB:=Ad aN aC;have q4:=(q0.below aJ q0.lt).alloc (.cells #[.bool p.neg,.slice A1 n1 c1,.slice A2 n2 c2] 87);have q6:CBlk (w2.alloc (.cells #[.bool p.neg,.slice A1 n1 c1,.slice A2 n2 c2] 87)) w2.heap.size #[.bool p.neg,.slice A1 n1 c1,.slice A2 n2 c2] 87:=CBlk.new _ _ _ _ rfl;have aZ:=h1.later aC;have aL:=h2.later aC;have aT:Hid (w.heap.size≠w2.heap.size):=Aa (Nat.ne_of_lt (Nat.lt_of_lt_of_le q0.lt aJ.size));clear q0 aH aJ aN h1 h2 aC HR hT;go_upto_region 2 with(fail)
 generalize (w2.alloc (.cells #[.bool p.neg,.slice A1 n1 c1,.slice A2 n2 c2] 87))=w3 at *;have k0:w3.drew.cell? ⟨w2.heap.size,2,none⟩=some (.slice A2 n2 c2):=q6.cell 2;have l0:w2.heap.size<w3.drew.heap.size:=q6.lt
 go_region_held3 (fun w'=>w'.cell? ⟨w2.heap.size,2,none⟩=some (.slice A2 n2 c2))
  (first | with_reducible exact k0 | with_reducible exact k1 | with_reducible exact k2)
  (first
   |(go_at_call 86;refine(zl0 _).mono ?_;rintro e w4 ⟨A4,m4,c4,rfl,aS,aA⟩;have l1:w2.heap.size<w4.heap.size:=Nat.lt_of_lt_of_le l0 aA.size;have k1:w4.cell? ⟨w2.heap.size,2,none⟩=some (.slice A2 n2 c2):=(aA.cell (p:=⟨w2.heap.size,2,none⟩) l0).trans k0)
   |(go_at_call 130;refine(zhm A2 A4 n2 c2 m4 c4 p.bot 999999999 w4 ((aL.later (Below.drew (Below.refl _ _))).later aA) aS).mono ?_;rintro e w5 ⟨rfl,aE⟩;have k2:w5.cell? ⟨w2.heap.size,2,none⟩=some (.slice A2 n2 c2):=(aE.cell (p:=⟨w2.heap.size,2,none⟩) l1).trans k1))
 have aO:=hB.drew.trans (aA.mono hB.drew.size);have aP:=Ad aO aE;have aV:=(q4.drew.below aA q4.lt).below aE (Nat.lt_of_lt_of_le q4.lt aA.size);have aG:=(q6.drew.below aA q6.lt).below aE (Nat.lt_of_lt_of_le q6.lt aA.size);have aY:=((aZ.later (Below.drew (Below.refl _ _))).later aA).later aE;have aW:=((aL.later (Below.drew (Below.refl _ _))).later aA).later aE;clear k0 k1 k2 l0 l1 aA aE hB aO q4 q6 aZ aL aS;go_upto_region 4 with(fail)
 have aU:=(aV.alloc (.cells #[.int .i64 0,.int .i64 0] 27)).drew;have aI:=(aG.alloc (.cells #[.int .i64 0,.int .i64 0] 27)).drew;have aX:Below w.heap.size w (w5.alloc (.cells #[.int .i64 0,.int .i64 0] 27)).drew:=(aP.alloc aP.size _).drew;have aC:Below w5.heap.size w5 (w5.alloc (.cells #[.int .i64 0,.int .i64 0] 27)).drew:=((Below.refl _ _).alloc (Nat.le_refl _) _).drew;have bC:=aY.later aC;have bB:=aW.later aC;have k0:w5.drew.cell? ⟨w2.heap.size,0,none⟩=some (.bool p.neg):=aG.cell 0;have k1:w5.drew.cell? ⟨w2.heap.size,1,none⟩=some (.slice A1 n1 c1):=aG.cell 1;have k2:w5.drew.cell? ⟨w2.heap.size,2,none⟩=some (.slice A2 n2 c2):=aG.cell 2;have m0:((w5.alloc (.cells #[.int .i64 0,.int .i64 0] 27)).drew).cell? ⟨w2.heap.size,0,none⟩=some (.bool p.neg):=aI.cell 0;have m1:((w5.alloc (.cells #[.int .i64 0,.int .i64 0] 27)).drew).cell? ⟨w2.heap.size,1,none⟩=some (.slice A1 n1 c1):=aI.cell 1;have m2:((w5.alloc (.cells #[.int .i64 0,.int .i64 0] 27)).drew).cell? ⟨w2.heap.size,2,none⟩=some (.slice A2 n2 c2):=aI.cell 2;have aM:w.heap.size≠w2.heap.size:=aT.out;have bA:=aU.lt;have aR:=aI.lt;clear aV aG aP aC aY aW aT
 go_region_held3 (fun w'=>w'.cell? ⟨w2.heap.size,0,none⟩=some (.bool p.neg)∧w'.cell? ⟨w2.heap.size,1,none⟩=some (.slice A1 n1 c1)∧w'.cell? ⟨w2.heap.size,2,none⟩=some (.slice A2 n2 c2))
  (first | with_reducible exact⟨k0,k1,k2⟩ | with_reducible exact⟨m0,m1,m2⟩ | with_reducible exact⟨s0,s1,s2⟩ | exact⟨(far3 _ _ _ _ (by exact aM)).trans s0,(far3 _ _ _ _ (by exact aM)).trans s1,(far3 _ _ _ _ (by exact aM)).trans s2⟩)
  (first
   |(go_at_call 118;refine(zdl dec 1 12 _ hd1 hd2).mono ?_;rintro e w6 ⟨rfl,rfl⟩)
   |(go_at_call 80;refine(zq2 w5 _ _ rfl).mono ?_;rintro e w6 ⟨rfl,aF⟩;have s0:w6.cell? ⟨w2.heap.size,0,none⟩=some (.bool p.neg):=(aF.cell (p:=⟨w2.heap.size,0,none⟩) aR).trans m0;have s1:w6.cell? ⟨w2.heap.size,1,none⟩=some (.slice A1 n1 c1):=(aF.cell (p:=⟨w2.heap.size,1,none⟩) aR).trans m1;have s2:w6.cell? ⟨w2.heap.size,2,none⟩=some (.slice A2 n2 c2):=(aF.cell (p:=⟨w2.heap.size,2,none⟩) aR).trans m2;have aD:=aU.below aF bA;have y0:=aD.cell 0;have y1:=aD.cell 1;have y2:=aD.cell 2;have z0:=aD.frozen 0;have z1:=aD.frozen 1;have z2:=aD.frozen 2))
 have bD:=Ad aX aF;have aK:=zao bD (g:=w.heap.size) (Nat.le_refl _) (.bool p.neg) (.slice A1 n1 c1) (.slice A2 n2 c2);have aQ:=(RatS.mk (q:=p) (bC.later aF) (bB.later aF)).res3 aD p.neg A1 A2 n1 c1 n2 c2
 go_wp2_with fail
 refine bodyPost_ret (v := .tuple #[.agg #[.bool p.neg,.slice A1 n1 c1,.slice A2 n2 c2],.int .i64 0]) (by simp[results,Tryz.results114,go_sem,y0,y1,y2]) rfl ⟨_,rfl,aQ,aK⟩
def zkV:Q:=lowQ false 1 4
theorem zmO(w:World)(hT:Tabs w):Calls Tryz.prog 116 #[.int .u64 1,.int .u64 4] w (za5 w zkV):=zfB 1 4 w hT (by omega) (by omega)
theorem zlW:LenQ zkV 1:=⟨Nat.le_trans (zaa (Nat.div_le_self _ _)) zbF,Nat.le_trans (zaa (Nat.div_le_self _ _)) (zab (by rw[zdC];omega))⟩
theorem zp9 (p:Q) (s:ByteArray) (dec:Int) (l m:List UInt8) (x:Int) (w:World) (hT:Tabs w) (hbot:p.bot≤999999999) (hd1:1≤dec) (hd2:dec≤12)
  (HR:Hid (∀ W,Tabs W→Calls Tryz.prog 59 #[.string s] W (zaC W p 0)))
  (HC:Hid (∀ v W,Tabs W→RatS W W.heap.size v p→Calls Tryz.prog 115 #[v,.int .i64 dec] W (zdI W l m x))) :
  Calls Tryz.prog 54 #[.string s,.int .i64 dec] w (zdI w l m x):=by
 have aC:Below w.heap.size w (w.alloc (.cells #[.string ⟨#[]⟩,.string ⟨#[]⟩] 24)):=((Below.refl _ _).alloc (by simp<;>omega) _);have q0:CBlk (w.alloc (.cells #[.string ⟨#[]⟩,.string ⟨#[]⟩] 24)) (w.heap.size) #[.string ⟨#[]⟩,.string ⟨#[]⟩] 24:=(CBlk.new _ _ _ _ (by simp));have aG:=Aa (fun W hT=>zf4 p s dec W hT hbot hd1 hd2 HR);clear HR hbot;go_enter Tryz.func54,Tryz.ntmps54
 go_upto_region 1 with(fail)
 generalize (w.alloc (.cells #[.string ⟨#[]⟩,.string ⟨#[]⟩] 24))=W at *
 go_wp2_with fail
 refine(aG.out W (hT.later aC)).mono ?_;rintro e w2 ⟨v2,rfl,⟨A1,n1,c1,A2,n2,c2,rfl,h1,h2⟩,aA⟩;have aD:Below w2.heap.size w2 (w2.alloc (.cells #[.bool p.neg,.slice A1 n1 c1,.slice A2 n2 c2] 87)):=Ac;have aF:=Ad aC aA;have hB:=Ad aF aD;have aL:Hid (w.heap.size≠w2.heap.size):=Aa (Nat.ne_of_lt (Nat.lt_of_lt_of_le q0.lt aA.size));have q4:=(q0.below aA q0.lt).alloc (.cells #[.bool p.neg,.slice A1 n1 c1,.slice A2 n2 c2] 87);have q6:CBlk (w2.alloc (.cells #[.bool p.neg,.slice A1 n1 c1,.slice A2 n2 c2] 87)) w2.heap.size #[.bool p.neg,.slice A1 n1 c1,.slice A2 n2 c2] 87:=CBlk.new _ _ _ _ rfl;have hv:=(RatS.mk (q:=p) h1 h2).later aD;clear q0 aC aA aF h1 h2 aD aG;go_upto_region 2 with(fail)
 generalize (w2.alloc (.cells #[.bool p.neg,.slice A1 n1 c1,.slice A2 n2 c2] 87))=w3 at *;have a0:=q6.cell 0;have a1:=q6.cell 1;have a2:=q6.cell 2
 go_wp2_with fail
 refine(HC.out _ w3 (hT.later hB) hv).mono ?_;rintro e w8 ⟨z1,z2,rfl,aI,aJ,aH⟩;have aK:=Ad hB aH;have q8:=q4.below aH q4.lt;have y0:=q8.cell 0;have y1:=q8.cell 1;have f0:=q8.frozen 0;have f1:=q8.frozen 1;have aE:=zbN aK (g:=w.heap.size) (Nat.le_refl _) (.string z1) (.string z2);go_wp2
 refine bodyPost_ret (v := .tuple #[.agg #[.string z1,.string z2],.int .i64 x]) (by simp[results,Tryz.results54,go_sem,y0,y1]) rfl ⟨z1,z2,rfl,aI,aJ,aE⟩
theorem zr4(p:Q)(s:ByteArray)(dec:Int)(l m:List UInt8)(x:Int)(w:World)(hT:Tabs w)(hbot:p.bot≤999999999)(hd1:1≤dec)(hd2:dec≤12)
 (HR:Hid (∀ W,Tabs W→Calls Tryz.prog 59 #[.string s] W (zaC W p 0)))(u:Q)(hu:Hid (u=za6 zkV p))(lp:LenQ p 33554432)
 (HC:Hid (∀ v W,Tabs W→RatS W W.heap.size v u→Calls Tryz.prog 115 #[v,.int .i64 dec] W (zdI W l m x))) :
  Calls Tryz.prog 55 #[.string s,.int .i64 dec] w (zdI w l m x):=by
 have aE:Below w.heap.size w (w.alloc (.cells #[.string ⟨#[]⟩,.string ⟨#[]⟩] 24)):=((Below.refl _ _).alloc (by simp<;>omega) _);have q0:CBlk (w.alloc (.cells #[.string ⟨#[]⟩,.string ⟨#[]⟩] 24)) (w.heap.size) #[.string ⟨#[]⟩,.string ⟨#[]⟩] 24:=(CBlk.new _ _ _ _ (by simp));have aT:=Aa (fun W hT=>zf4 p s dec W hT hbot hd1 hd2 HR);clear HR hbot;go_enter Tryz.func55,Tryz.ntmps55
 go_upto_region 1 with(fail)
 generalize (w.alloc (.cells #[.string ⟨#[]⟩,.string ⟨#[]⟩] 24))=W at *
 go_wp2_with fail
 refine(aT.out W (hT.later aE)).mono ?_;rintro e w2 ⟨v2,rfl,⟨A1,n1,c1,A2,n2,c2,rfl,h1,h2⟩,aF⟩;have aG:Below w2.heap.size w2 (w2.alloc (.cells #[.bool p.neg,.slice A1 n1 c1,.slice A2 n2 c2] 87)):=Ac;have aI:=Ad aE aF;have hB:=Ad aI aG;have aL:Hid (w.heap.size≠w2.heap.size):=Aa (Nat.ne_of_lt (Nat.lt_of_lt_of_le q0.lt aF.size));have q4:=(q0.below aF q0.lt).alloc (.cells #[.bool p.neg,.slice A1 n1 c1,.slice A2 n2 c2] 87);have q6:CBlk (w2.alloc (.cells #[.bool p.neg,.slice A1 n1 c1,.slice A2 n2 c2] 87)) w2.heap.size #[.bool p.neg,.slice A1 n1 c1,.slice A2 n2 c2] 87:=CBlk.new _ _ _ _ rfl;have hv:=(RatS.mk (q:=p) h1 h2).later aG;clear q0 aE aF aI h1 h2 aG aT;go_upto_region 2 with(fail)
 generalize (w2.alloc (.cells #[.bool p.neg,.slice A1 n1 c1,.slice A2 n2 c2] 87))=w3 at *;have HM:=Aa (fun v z W hT h2 h3=>(show Calls _ _ _ _ (za5 W u) from by rw[hu.out];exact zdu zkV p v z W hT h2 h3 (zlW.mono (by omega)) (lp.mono (by omega))));clear hu lp;go_upto_region 4 with(fail)
 have aY:w3.drew.cell? ⟨w2.heap.size,0,none⟩=some (.bool p.neg):=q6.cell 0;have aW:w3.drew.cell? ⟨w2.heap.size,1,none⟩=some (.slice A1 n1 c1):=q6.cell 1;have aV:w3.drew.cell? ⟨w2.heap.size,2,none⟩=some (.slice A2 n2 c2):=q6.cell 2;have l0:w2.heap.size<w3.drew.heap.size:=q6.lt;have aJ:w.heap.size≠w2.heap.size:=aL.out;have bC:Below w3.heap.size w3 w3.drew:=Below.drew (Below.refl _ _);clear aL
 go_region_held3 (fun w'=>w'.cell? ⟨w2.heap.size,0,none⟩=some (.bool p.neg)∧w'.cell? ⟨w2.heap.size,1,none⟩=some (.slice A1 n1 c1)∧w'.cell? ⟨w2.heap.size,2,none⟩=some (.slice A2 n2 c2))
  (first | with_reducible exact⟨aY,aW,aV⟩ | with_reducible exact⟨aS,aX,aP⟩ | with_reducible exact⟨aN,aQ,aK⟩ | with_reducible exact⟨aR,aO,aM⟩ | exact⟨(zqo _ _ _ (by exact aJ)).trans aR,(zqo _ _ _ (by exact aJ)).trans aO,(zqo _ _ _ (by exact aJ)).trans aM⟩)
  (first
   |(go_at_call 116;refine(zmO _ (hT.later hB.drew)).mono ?_;rintro e w4 ⟨v4,rfl,h4,aA⟩;have l1:w2.heap.size<w4.heap.size:=Nat.lt_of_lt_of_le l0 aA.size;have aS:w4.cell? ⟨w2.heap.size,0,none⟩=some (.bool p.neg):=(aA.cell (p:=⟨w2.heap.size,0,none⟩) l0).trans aY;have aX:w4.cell? ⟨w2.heap.size,1,none⟩=some (.slice A1 n1 c1):=(aA.cell (p:=⟨w2.heap.size,1,none⟩) l0).trans aW;have aP:w4.cell? ⟨w2.heap.size,2,none⟩=some (.slice A2 n2 c2):=(aA.cell (p:=⟨w2.heap.size,2,none⟩) l0).trans aV)
   |(go_at_call 117;refine(HM.out _ _ w4 ((hT.later hB.drew).later aA) h4 ((hv.later bC).later aA)).mono ?_;rintro e w5 ⟨v5,rfl,h5,aC⟩;have l2:w2.heap.size<w5.heap.size:=Nat.lt_of_lt_of_le l1 aC.size;have aN:w5.cell? ⟨w2.heap.size,0,none⟩=some (.bool p.neg):=(aC.cell (p:=⟨w2.heap.size,0,none⟩) l1).trans aS;have aQ:w5.cell? ⟨w2.heap.size,1,none⟩=some (.slice A1 n1 c1):=(aC.cell (p:=⟨w2.heap.size,1,none⟩) l1).trans aX;have aK:w5.cell? ⟨w2.heap.size,2,none⟩=some (.slice A2 n2 c2):=(aC.cell (p:=⟨w2.heap.size,2,none⟩) l1).trans aP)
   |(go_at_call 115;refine(HC.out _ w5 (((hT.later hB.drew).later aA).later aC) h5).mono ?_;rintro e w6 ⟨z1,z2,rfl,bB,bA,aD⟩;have l3:w2.heap.size<w6.heap.size:=Nat.lt_of_lt_of_le l2 aD.size;have aR:w6.cell? ⟨w2.heap.size,0,none⟩=some (.bool p.neg):=(aD.cell (p:=⟨w2.heap.size,0,none⟩) l2).trans aN;have aO:w6.cell? ⟨w2.heap.size,1,none⟩=some (.slice A1 n1 c1):=(aD.cell (p:=⟨w2.heap.size,1,none⟩) l2).trans aQ;have aM:w6.cell? ⟨w2.heap.size,2,none⟩=some (.slice A2 n2 c2):=(aD.cell (p:=⟨w2.heap.size,2,none⟩) l2).trans aK;have q8:=((q4.drew.below aA q4.lt).below aC (Nat.lt_of_lt_of_le q4.lt aA.size)).below aD (Nat.lt_of_lt_of_le q4.lt (Nat.le_trans aA.size aC.size));have y0:=q8.cell 0;have y1:=q8.cell 1;have f0:=q8.frozen 0;have f1:=q8.frozen 1))
 have aU:=hB.drew.trans (aA.mono hB.drew.size);have aZ:=Ad aU aC;have bD:=Ad aZ aD;have aH:=zbN bD (g:=w.heap.size) (Nat.le_refl _) (.string z1) (.string z2)
 go_wp2_with fail
 refine bodyPost_ret (v := .tuple #[.agg #[.string z1,.string z2],.int .i64 x]) (by simp[results,Tryz.results55,go_sem,y0,y1]) rfl ⟨z1,z2,rfl,bB,bA,aH⟩
theorem zmj(q:Q)(k l mm scale low d:Nat)(hok:Cs.AcOk q.top q.bot 112 k l mm scale low)(hd:d≤12)(hsc:scale=10^d)(hk0:k<4294967296)(hl0:l<4294967296)(hmm:mm<1073741824)(hbot:0<q.bot)(hl:LenQ q 1048576)(v:Value)(w:World)(hT:Tabs w)(hv:RatS w w.heap.size v q) :
  Calls Tryz.prog 173 #[v,.int .i64 (d:Int)] w (zch w (lowQ false low scale) (lowQ false (low+1) scale)):=by
 obtain⟨A1,n1,c1,A2,n2,c2,rfl,h1,h2⟩:=hv;exact znE q.neg q.top q.bot k l mm scale low d A1 A2 n1 c1 n2 c2 w hT hok hd hsc hk0 hl0 hmm h1 h2 hbot (by rw[←h1.len];exact hl.1)
theorem zbv{q:Q}(h1:q.top<18446744073709551616)(h2:q.bot<18446744073709551616):LenQ q 1:=⟨zab (by rw[zdC,Nat.pow_one];exact h1),zab (by rw[zdC,Nat.pow_one];exact h2)⟩
theorem zef (s:ByteArray) (hs:s.size≤4294967296) (q:Q) (hq:zaf s.data.toList=q) (he:zan s.data.toList=0) (w:World) (hT:Tabs w):Calls Tryz.prog 59 #[.string s] w (zaC w q 0):=by
 have h:=zca s w hT hs;rw[hq,he] at h;exact h
theorem zrH(w:World)(hT:Tabs w):Calls Tryz.prog 54 #[.string ⟨#[49,47,54]⟩,.int .i64 5] w (zdI w [49,47,50] [49,47,50] 0):=
 zp9 ⟨false,1,6⟩ ⟨#[49,47,54]⟩ 5 [49,47,50] [49,47,50] 0 w hT (by decide) (by omega) (by omega) (Aa (fun W hT=>zef ⟨#[49,47,54]⟩ (by decide) ⟨false,1,6⟩ (by kernel_rfl) (by kernel_rfl) W hT))
  (Aa (fun v W hT hv=>(zil ⟨false,1,6⟩ ⟨false,1,6⟩ ⟨#[49,47,50]⟩ 5 v W hT hv (Aa (fun v w hT hv=>(show Calls _ _ _ _ (za5 w ⟨false,1,6⟩) from by have h:=zfs ⟨false,1,6⟩ v w hT hv (by decide) ((zbv (by decide) (by decide)).mono (by omega));rw[show zj2 ⟨false,1,6⟩=⟨false,1,6⟩ from by kernel_rfl] at h;exact h)))
   (Aa (fun v w hT hv=>zfb ⟨false,1,6⟩ ⟨#[49,47,54]⟩ ⟨#[49,47,50]⟩ 1 v w hT hv ((zbv (by decide) (by decide)).mono (by omega)) (Aa (by kernel_rfl)) (by kernel_rfl) (Aa (by kernel_rfl))))).mono
   (fun _ _ ⟨he,hb⟩=>⟨⟨#[49,47,50]⟩,⟨#[49,47,50]⟩,he,rfl,rfl,hb⟩)))
theorem zft {x:Nat} (h:x<18446744073709551616:=by omega):LenQ (lowQ false x 1000) 33554432:=
 (zem (K:=1) (zab (by rw[zdC,Nat.pow_one];exact h)) (zab (by rw[zdC];omega)) (Nat.le_refl _)).mono (by omega)
theorem zr6(w:World)(hT:Tabs w):Calls Tryz.prog 54 #[.string ⟨#[49,47,56]⟩,.int .i64 3] w (zdI w [55,48,55,47,49,48,48,48] [49,55,55,47,50,53,48] 0):=by
 have eL:zer (lowQ false 707 1000) (lowQ false (707+1) 1000)=[55,48,55,47,49,48,48,48]:=by kernel_rfl
 have eH:zet (lowQ false 707 1000) (lowQ false (707+1) 1000)=[49,55,55,47,50,53,48]:=by kernel_rfl
 have eE:zcm (lowQ false 707 1000) (lowQ false (707+1) 1000)=0:=by kernel_rfl
 refine zp9 ⟨false,1,8⟩ ⟨#[49,47,56]⟩ 3 [55,48,55,47,49,48,48,48] [49,55,55,47,50,53,48] 0 w hT (by decide) (by omega) (by omega) (Aa (fun W hT=>zef ⟨#[49,47,56]⟩ (by decide) ⟨false,1,8⟩ (by kernel_rfl) (by kernel_rfl) W hT)) (Aa (fun v W hT hv => ?_));have h:=zf3 ⟨false,1,8⟩ ⟨false,1,8⟩ ⟨false,3,8⟩ ⟨false,1,8⟩ (lowQ false 707 1000) (lowQ false (707+1) 1000) (lowQ false 707 1000) (lowQ false (707+1) 1000) 3 v W hT hv ((zbv (by decide) (by decide)).mono (by omega)) (zft (by omega)) (zft (by omega)) (Aa (by kernel_rfl))
  (Aa (fun h=>absurd h (by rw[show rcmp ⟨false,3,8⟩ ⟨false,1,8⟩=1 from by kernel_rfl];omega))) (Aa (fun _=>⟨rfl,rfl,rfl⟩))
  (Aa (fun v w hT hv=>(show Calls _ _ _ _ (za5 w ⟨false,1,8⟩) from by have h:=zfs ⟨false,1,8⟩ v w hT hv (by decide) ((zbv (by decide) (by decide)).mono (by omega));rw[show zj2 ⟨false,1,8⟩=⟨false,1,8⟩ from by kernel_rfl] at h;exact h))) (Aa (fun v w hT hv=>zdK ⟨false,1,8⟩ ⟨#[49,47,56]⟩ v w hT hv ((zbv (by decide) (by decide)).mono (by omega)) (Aa (by kernel_rfl)) (by kernel_rfl) (Aa (by kernel_rfl)))) (Aa (fun v w hT hv=>zmj ⟨false,1,8⟩ 24 7 15 1000 707 3 Cs.ac8 (by decide) (by decide) (by decide) (by decide) (by decide) (by decide) ((zbv (by decide) (by decide)).mono (by omega)) v w hT hv))
 rw[eL,eH,eE] at h;exact h
theorem zsd(w:World)(hT:Tabs w):Calls Tryz.prog 55 #[.string ⟨#[45,49,47,56]⟩,.int .i64 3] w (zdI w [45,49,55,55,47,50,53,48] [45,55,48,55,47,49,48,48,48] 0):=by
 have eL:zer (zci (lowQ false (707+1) 1000)) (zci (lowQ false 707 1000))=[45,49,55,55,47,50,53,48]:=by kernel_rfl
 have eH:zet (zci (lowQ false (707+1) 1000)) (zci (lowQ false 707 1000))=[45,55,48,55,47,49,48,48,48]:=by kernel_rfl
 have eE:zcm (zci (lowQ false (707+1) 1000)) (zci (lowQ false 707 1000))=0:=by kernel_rfl
 refine zr4 ⟨true,1,8⟩ ⟨#[45,49,47,56]⟩ 3 [45,49,55,55,47,50,53,48] [45,55,48,55,47,49,48,48,48] 0 w hT (by decide) (by omega) (by omega) (Aa (fun W hT=>zef ⟨#[45,49,47,56]⟩ (by decide) ⟨true,1,8⟩ (by kernel_rfl) (by kernel_rfl) W hT)) ⟨false,3,8⟩ (Aa (by kernel_rfl)) ((zbv (by decide) (by decide)).mono (by omega)) (Aa (fun v W hT hv => ?_));have h:=zf3 ⟨false,3,8⟩ ⟨false,3,8⟩ ⟨false,1,8⟩ ⟨false,1,8⟩ (lowQ false 707 1000) (lowQ false (707+1) 1000) (zci (lowQ false (707+1) 1000)) (zci (lowQ false 707 1000)) 3 v W hT hv ((zbv (by decide) (by decide)).mono (by omega)) (zft (by omega)) (zft (by omega)) (Aa (by kernel_rfl))
  (Aa (fun _=>⟨rfl,rfl,rfl⟩)) (Aa (fun h=>absurd h (by rw[show rcmp ⟨false,1,8⟩ ⟨false,3,8⟩ = -1 from by kernel_rfl];omega)))
  (Aa (fun v w hT hv=>(show Calls _ _ _ _ (za5 w ⟨false,3,8⟩) from by have h:=zfs ⟨false,3,8⟩ v w hT hv (by decide) ((zbv (by decide) (by decide)).mono (by omega));rw[show zj2 ⟨false,3,8⟩=⟨false,3,8⟩ from by kernel_rfl] at h;exact h))) (Aa (fun v w hT hv=>zdK ⟨false,3,8⟩ ⟨#[51,47,56]⟩ v w hT hv ((zbv (by decide) (by decide)).mono (by omega)) (Aa (by kernel_rfl)) (by kernel_rfl) (Aa (by kernel_rfl)))) (Aa (fun v w hT hv=>zmj ⟨false,1,8⟩ 24 7 15 1000 707 3 Cs.ac8 (by decide) (by decide) (by decide) (by decide) (by decide) (by decide) ((zbv (by decide) (by decide)).mono (by omega)) v w hT hv))
 rw[eL,eH,eE] at h;exact h
end
end Go.Proofs.YtbkgkoenppkhpaaGreatDoor
namespace Go.Proofs.YtbkgkoenppkhpaaGreatDoor.Dl
def insK (lt:Nat→Nat→Bool) (p:List Nat) (x:Nat):Nat:=(p.reverse.takeWhile (lt x)).length
def insP (lt:Nat→Nat→Bool) (p:List Nat) (x:Nat):List Nat:=p.take (p.length-insK lt p x)++x :: p.drop (p.length-insK lt p x)
def sortP (lt:Nat→Nat→Bool) (l:List Nat):List Nat:=l.foldl (insP lt) []
theorem insK_is(lt:Nat→Nat→Bool)(p:List Nat)(x j:Nat)(hj:j≤p.length)(h1:∀ i (h:i<p.length),j≤i→lt x p[i]=true)(h2:∀ (h:0<j),lt x (p[j-1]'(by omega))=false) :
  p.length-insK lt p x=j:=by
 unfold insK;have e:p.reverse=(p.drop j).reverse++(p.take j).reverse:=by rw[←List.reverse_append,List.take_append_drop]
 rw[e,List.takeWhile_append_of_pos (by
  intro a ha;rw[List.mem_reverse] at ha;obtain⟨i,hi,rfl⟩:=List.getElem_of_mem ha;rw[List.getElem_drop];exact h1 _ _ (by omega))]
 have e2:(p.take j).reverse.takeWhile (lt x)=[]:=by
  by_cases h0:0<j
  ·have e3:p.take j=p.take (j-1)++[p[j-1]'(by omega)]:=by
    have:=List.take_succ_eq_append_getElem (l:=p) (i:=j-1) (by omega)
    rwa [show j-1+1=j from by omega] at this
   rw[e3,List.reverse_append];simp[h2 h0]
  ·obtain rfl:j=0:=by omega
   simp
 rw[e2];simp;omega
theorem zmX(lt:Nat→Nat→Bool)(p:List Nat)(x:Nat):(insP lt p x).Perm (x :: p):=by
 unfold insP;have h:(p.take (p.length-insK lt p x)++x :: p.drop (p.length-insK lt p x)).Perm (x :: (p.take (p.length-insK lt p x)++p.drop (p.length-insK lt p x))):=List.perm_middle
 rwa [List.take_append_drop] at h
theorem foldl_perm(lt:Nat→Nat→Bool):∀ (l p:List Nat),(l.foldl (insP lt) p).Perm (p++l)
 | [],p=>by simp
 | x :: l,p=>by
  rw[List.foldl_cons];refine(foldl_perm lt l _).trans ?_;have h:=(zmX lt p x).append_right l;refine h.trans ?_;rw[List.cons_append];exact List.perm_middle.symm
theorem zlO (lt:Nat→Nat→Bool) (l:List Nat):(sortP lt l).Perm l:=by
 have h:=foldl_perm lt l []
 simpa[sortP] using h
def byKey (r:Nat→Nat) (x y:Nat):Bool:=decide (r y<r x)
def drawAt (key n:Nat):Nat→Nat × List Nat
 | 0=>(key,List.range n)
 | r+1=>match drawAt key n r with
  | (x,l)=>(40692*x%2147483399,(l.set (n-1-r) (l.getD (40692*x%2147483399%(n-1-r+1)) 0)).set (40692*x%2147483399%(n-1-r+1)) (l.getD (n-1-r) 0))
def drawL (key n:Nat):List Nat:=(drawAt key n (n-1)).2
theorem draw_len(key n:Nat):∀ r,(drawAt key n r).2.length=n
 | 0=>by simp[drawAt]
 | r+1=>by
  have ih:=draw_len key n r;simp only[drawAt]
  generalize drawAt key n r=s at ih ⊢;obtain⟨x,l⟩:=s
  dsimp only at ih ⊢
  rw[List.length_set,List.length_set,ih]
theorem draw_small (key n:Nat) (hk:key<2147483399):∀ r,(drawAt key n r).1<2147483399
 | 0=>hk
 | r+1=>by
  simp only[drawAt]
  generalize drawAt key n r=s;obtain⟨x,l⟩:=s;exact Nat.mod_lt _ (by omega)
def shBase (T S:Nat) (w:List Nat):List Nat:=w.map (fun x=>T*x/S)
def shRem (T S:Nat) (w:List Nat) (i:Nat):Nat:=T*w.getD i 0%S
def shRest (T S:Nat) (w:List Nat):Nat:=T-(shBase T S w).sum
def shOrder (T S:Nat) (w:List Nat):List Nat:=sortP (byKey (shRem T S w)) (List.range w.length)
def incAll (l:List Nat) (p:List Nat):List Nat:=p.foldl (fun l i=>l.set i (l.getD i 0+1)) l
def shares (T:Nat) (w:List Nat):List Nat:=incAll (shBase T w.sum w) ((shOrder T w.sum w).take (shRest T w.sum w))
theorem incAll_len:∀ (p l:List Nat),(incAll l p).length=l.length
 | [],_=>rfl
 | i :: p,l=>by
  show(incAll _ p).length=_
  rw[incAll_len p,List.length_set]
theorem incAll_sum:∀ (p l:List Nat),(∀ i ∈ p,i<l.length)→(incAll l p).sum=l.sum+p.length
 | [],l,_=>by simp[incAll]
 | i :: p,l,hi=>by
  show(incAll (l.set i (l.getD i 0+1)) p).sum=_
  have hil:=hi i List.mem_cons_self;rw[incAll_sum p _ (fun j hj=>by rw[List.length_set];exact hi j (List.mem_cons_of_mem _ hj))];have hs:∀ (l:List Nat) (i:Nat),i<l.length→(l.set i (l.getD i 0+1)).sum=l.sum+1:=by
   intro l
   induction l with
   | nil=>intro i h;simp at h
   | cons x l ih=>
    intro i h
    cases i with
    | zero=>simp;omega
    | succ i=>
     have:=ih i (by simpa using h);simp only[List.set_cons_succ,List.sum_cons]
     have e:(x :: l).getD (i+1) 0=l.getD i 0:=by simp[List.getD]
     rw[e,this];omega
  rw[hs l i hil,List.length_cons];omega
theorem zi6(T S:Nat):∀ w:List Nat,(shBase T S w).sum*S+(w.map (fun x=>T*x%S)).sum=T*w.sum
 | []=>by simp[shBase]
 | x :: w=>by
  have ih:=zi6 T S w;unfold shBase at ih ⊢;simp only[List.map_cons,List.sum_cons,Nat.add_mul,Nat.mul_add]
  have h:=Nat.div_add_mod (T*x) S;rw[Nat.mul_comm S] at h;omega
theorem zjc (S:Nat) (f:Nat→Nat) (hS:0<S) (hf:∀ x,f x<S):∀ l:List Nat,(l.map f).sum≤(l.filter (fun x=>decide (0<f x))).length*(S-1)
 | []=>by simp
 | x :: l=>by
  have ih:=zjc S f hS hf l;have hx:=hf x;rw[List.map_cons,List.sum_cons,List.filter_cons]
  by_cases h:0<f x
  ·rw[if_pos (by simpa using h),List.length_cons,Nat.add_mul];omega
  ·rw[if_neg (by simpa using h)];omega
theorem zhU (T S:Nat) (w:List Nat):(List.range w.length).map (shRem T S w)=w.map (fun x=>T*x%S):=by
 apply List.ext_getElem
 ·simp
 ·intro i h1 h2
  have h3:i<w.length:=by simpa using h1
  simp[shRem,List.getD,h3]
theorem shRest_le(T:Nat)(w:List Nat)(hS:0<w.sum):(shBase T w.sum w).sum≤T∧shRest T w.sum w≤((List.range w.length).filter (fun i=>decide (0<shRem T w.sum w i))).length∧(shBase T w.sum w).sum+shRest T w.sum w=T:=by
 have h1:=zi6 T w.sum w;have h2:=zjc w.sum (shRem T w.sum w) hS (fun _=>Nat.mod_lt _ hS) (List.range w.length);rw[zhU] at h2;generalize (w.map (fun x=>T*x%w.sum)).sum=R at h1 h2;generalize ((List.range w.length).filter (fun i=>decide (0<shRem T w.sum w i))).length=p at h2 ⊢;have aA:(shBase T w.sum w).sum≤T:=by
  refine Nat.le_of_mul_le_mul_right ?_ hS;omega
 refine⟨aA,?_,by unfold shRest;omega⟩;have e:shRest T w.sum w*w.sum=R:=by
  unfold shRest;rw[Nat.sub_mul];omega
 have h3:shRest T w.sum w*w.sum≤p*w.sum:=by
  rw[e];exact Nat.le_trans h2 (Nat.mul_le_mul_left _ (Nat.sub_le _ _))
 exact Nat.le_of_mul_le_mul_right h3 hS
theorem shOrder_perm(T S:Nat)(w:List Nat):(shOrder T S w).Perm (List.range w.length):=zlO _ _
theorem shOrder_len (T S:Nat) (w:List Nat):(shOrder T S w).length=w.length:=by rw[(shOrder_perm T S w).length_eq,List.length_range]
theorem shRest_len(T:Nat)(w:List Nat)(hS:0<w.sum):shRest T w.sum w≤w.length:=
 Nat.le_trans (shRest_le T w hS).2.1 (Nat.le_trans (List.length_filter_le _ _) (by simp))
end Go.Proofs.YtbkgkoenppkhpaaGreatDoor.Dl
namespace Go.Proofs.YtbkgkoenppkhpaaGreatDoor
section
open Go.RowKit Bn
theorem zpX (key n r:Nat):(Dl.drawAt key n (r+1)).1=40692*(Dl.drawAt key n r).1%2147483399:=by
 simp only[Dl.drawAt]
theorem zo0(key n r i:Nat)(hi:i+r+1=n):(Dl.drawAt key n (r+1)).2=((Dl.drawAt key n r).2.set i ((Dl.drawAt key n r).2.getD (40692*(Dl.drawAt key n r).1%2147483399%(i+1)) 0)).set (40692*(Dl.drawAt key n r).1%2147483399%(i+1)) ((Dl.drawAt key n r).2.getD i 0):=by
 simp only[Dl.drawAt]
 rw[show n-1-r=i from by omega]
theorem zqD(key n:Nat)(w:World)(hk:1≤key)(hk2:key≤2147483398)(hn:n≤256) :
  Calls Tryz.prog 57 #[.int .i64 (key:Int),.int .i64 (n:Int)] w fun e w'=>
   ∃ g,e = .returned (.tuple #[.slice (some ⟨g,0,none⟩) n n,.int .i64 0])∧w.heap.size≤g∧w'.ownsRow g 3 1 (.slice (some ⟨g,0,none⟩) n n) n ((Dl.drawL key n).map natv)∧Below w.heap.size w w':=by
 obtain⟨i0,aT,aR,aW,aV⟩:=info_parts zcc;have HK:=Aa hk2;have aY:=Aa (Dl.draw_small key n (by omega));have aQ:=Aa (Dl.draw_len key n);have r1:=Aa (fun W=>zdl (key:Int) 1 2147483398 W (by omega) (by omega));have r2:=Aa (fun W=>zdl (n:Int) 0 256 W (by omega) (by omega));go_enter Tryz.func57,Tryz.ntmps57
 go_wp2_with fail
 refine(r1.out w).mono ?_;rintro e w1 ⟨rfl,rfl⟩
 go_wp2_with fail
 refine(r2.out w).mono ?_;rintro e w1 ⟨rfl,rfl⟩
 go_wp2_with fail
 refine(zfj 0 0 w _ _ rfl).mono ?_;rintro e w2 ⟨rfl,rfl⟩;have aK:Below w.heap.size w (w.alloc (.cells #[.int .i64 0,.int .i64 0] 27)):=Ac;generalize w.alloc (.cells #[.int .i64 0,.int .i64 0] 27)=w2 at *;clear r1 r2
 go_wp2_with (at_make;refine wpList_make_full _ rfl _ _ 78 rfl w2.heap.size 3 i0 (.int .i64 0) 1 Tryz.underlying78 aT aR aW _ _ _ _ n rfl rfl (by omega) (by omega) ?b2 ?b3 (Nat.le_refl _) ?_)
 case b2=>rw[aV];omega
 case b3=>unfold maxLen;omega
 intro w6 aD aC;rw[toList_madeCells_one] at aD;have aZ:Below w.heap.size w w6:=aK.trans ((zsk aC (Nat.le_refl _)).mono aK.size);have aJ:w.heap.size≤w2.heap.size:=aK.size;generalize w2.heap.size=G at *;clear aC aK
 go_wp2_with fail
 go_loopg [25] n (fun m s W=>∃ k:Nat,k≤n∧s = .int .i64 k∧n-k≤m∧W.ownsRow G 3 1 (.slice (some ⟨G,0,none⟩) n n) n (((List.range n).take k).map natv++List.replicate (n-k) (.int .i64 0))∧Below w.heap.size w W)
 case atStart=>exact⟨0,Nat.zero_le _,rfl,by omega,by rw[zoo];simpa using aD,aZ⟩
 case round=>
  obtain⟨k,hk,rfl,hm,aA,aE⟩:=hrel
  by_cases h0:k<n
  ·have aU:k<(List.range n).length:=by simpa using h0
   have HS:=Aa (zfV natv (List.range n) (.int .i64 0) n k aU (by simp));obtain⟨v1,bF⟩:=zee aA k h0;have bA:=zbG aA k;have aX:=fun (W:World) (a:Addr) (m:_)=>run_store Tryz.prog W a (.int .i64 (k:Int)) m rfl
   go_wp2_with fail
   go_roundg (n-(k+1))
   case measure=>omega
   case rel=>exact⟨k+1,by omega,by go_num,Nat.le_refl _,by have h9:=zdG aA k (natv (List.range n)[k]);rw[HS.out] at h9;rw[List.getElem_range] at h9;exact h9,aE.setCell (p:=⟨G,k,none⟩) aJ _⟩
  ·obtain rfl:n=k:=by omega
   have HS:=Aa (zfR natv (List.range n) (.int .i64 0) n (by simp));rw[HS.out] at aA;clear HS aD
   go_wp2_with fail
   clear h0 hm
   go_loopg [9,10] n (fun m s t W=>∃ r:Nat,(r=0∨r+1≤n)∧s = .int .i64 ((Dl.drawAt key n r).1:Int)∧t = .int .i64 ((n:Int)-1-r)∧n-r≤m∧W.ownsRow G 3 1 (.slice (some ⟨G,0,none⟩) n n) n ((Dl.drawAt key n r).2.map natv)∧Below w.heap.size w W)
   case atStart=>exact⟨0,.inl rfl,rfl,by go_num,by omega,by simpa[Dl.drawAt] using aA,aE⟩
   case round=>
    obtain⟨r,hr,aN,aF,hm,aA,aE⟩:=hrel
    by_cases h0:r+1<n
    ·obtain⟨i,hi⟩:∃ i,i+r+1=n:=⟨n-1-r,by omega⟩
     rw[show(n:Int)-1-r=(i:Int) by omega] at aF;have HF:=Aa (zpX key n r);have aG:=Aa (zo0 key n r i hi);have hx:=aY.out r;have hl:=aQ.out r;generalize Dl.drawAt key n r=s at *;obtain⟨x,l⟩:=s
     dsimp only at hx hl aN aA HF aG
     subst aN aF;obtain⟨y,hy⟩:∃ y,y=40692*x%2147483399:=⟨_,rfl⟩;rw[←hy] at HF aG;have bD:y<2147483399:=by rw[hy];exact Nat.mod_lt _ (by omega)
     obtain⟨j,hj⟩:∃ j,j=y%(i+1):=⟨_,rfl⟩;rw[←hj] at aG;have bE:j<i+1:=by rw[hj];exact Nat.mod_lt _ (by omega)
     have e1:(40692*(x:Int)).tmod 2147483399=(y:Int):=by rw[Int.tmod_eq_emod_of_nonneg (by omega)];omega
     have e2:(y:Int).tmod ((i:Int)+1)=(j:Int):=by rw[Int.tmod_eq_emod_of_nonneg (by omega),hj];simp
     have bC:=Aa e1;have bB:=Aa e2;clear hy hj;have aP:i<n:=by omega
     have aM:j<n:=by omega
     have gi:l.getD i 0=l[i]:=by simp[List.getD,hl,aP]
     have gj:l.getD j 0=l[j]:=by simp[List.getD,hl,aM]
     rw[gi,gj] at aG;have ci:wr.cell? ⟨G,i,none⟩=some (.int .i64 (l[i]:Int)):=by rw[World.ownsRow.cellAt aA i (by omega)];simp[natv,hl,aP]
     have cj:wr.cell? ⟨G,j,none⟩=some (.int .i64 (l[j]:Int)):=by rw[World.ownsRow.cellAt aA j (by omega)];simp[natv,hl,aM]
     have fi:=zbG aA i;have aH:=zdG aA i (natv l[j]);have aL:=zdG aH j (natv l[i]);obtain⟨v1,cs⟩:=zee aH j aM;have fs:=zbG aH j;rw[←List.map_set,←List.map_set,←aG.out] at aL;unfold natv at aH aL cs fs;generalize l[i]=li at *;generalize l[j]=lj at *;have aX:=fun (W:World) (a:Addr) (m:_)=>run_store Tryz.prog W a (.int .i64 (li:Int)) m rfl
     have aS:=fun (W:World) (a:Addr) (m:_)=>run_store Tryz.prog W a (.int .i64 (lj:Int)) m rfl
     clear aH aG gi gj
     go_wp2_with fail
     go_region
     go_wp2_with fail
     go_roundg (n-(r+1))
     case measure=>omega
     case rel=>exact⟨r+1,.inr (by omega),by rw[HF.out],by go_num,Nat.le_refl _,aL.drew,((aE.setCell (p:=⟨G,i,none⟩) aJ _).setCell (p:=⟨G,j,none⟩) aJ _).drew⟩
    ·have aO:r=n-1:=by omega
     subst aN aF;have d:decide ((1:Int)≤(n:Int)-1-r)=false:=decide_eq_false (by omega);have aI:(Dl.drawAt key n r).2=Dl.drawL key n:=by unfold Dl.drawL;rw[aO]
     rw[aI] at aA;clear aI aO
     go_wp2_with fail
     go_ret2
     exact⟨G,rfl,aJ,aA,aE⟩
theorem zl7{w:World}{g:Nat}(B:Nat)(h:B≤g)(u:Value):Below B w (w.setCell ⟨g,0,none⟩ u):=(Below.refl _ _).setCell (p:=⟨g,0,none⟩) h u
theorem zqQ (i:Int) (x g:Nat) (b:Bool) (w:World) (hx:x≤999999999) (q:CBlk w g #[.bool b] 4) :
  Calls Tryz.prog 176 #[.int .i64 i,.int .i64 (x:Int),.pointer (some ⟨g,0,none⟩)] w fun e w'=>e = .returned (.int .i64 0)∧CBlk w' g #[.bool (b && decide (x=0))] 4∧Below g w w':=by
 have H:=Aa (fun W=>zdl (x:Int) 0 999999999 W (by omega) (by omega));have y0:=q.cell 0;have z0:=q.frozen 0;have d:decide ((x:Int)=0)=decide (x=0):=by simp
 have HX:=Aa hx;clear hx;have key:∀ b':Bool,b'=(b && decide (x=0))→CBlk (w.setCell ⟨g,0,none⟩ (.bool b')) g #[.bool (b && decide (x=0))] 4∧Below g w (w.setCell ⟨g,0,none⟩ (.bool b')):=fun b' e=>by
  subst e;exact⟨q.set 0 _,zl7 g (Nat.le_refl _) _⟩
 cases b
 ·go_enter Tryz.func176,Tryz.ntmps176
  go_wp2_with fail
  refine(H.out _).mono ?_;rintro e w1 ⟨rfl,rfl⟩
  go_wp2_with fail
  go_ret;exact⟨rfl,key _ (by simp)⟩
 ·go_enter Tryz.func176,Tryz.ntmps176
  go_wp2_with fail
  refine(H.out _).mono ?_;rintro e w1 ⟨rfl,rfl⟩
  go_wp2_with fail
  go_ret;exact⟨rfl,key _ (by rw[Bool.eq_iff_iff];simp)⟩
theorem zkZ(args:Array Value)(w:World):(callFunc 176 args).run Tryz.prog w = .ok (.enter 176 args) w:=by kernel_rfl
def zie (l:List Nat):Bool:=l.all (fun x=>decide (x=0))
theorem zlQ(l:List Nat)(k:Nat)(h:k<l.length):(zie (l.take k) && decide (l[k]=0))=zie (l.take (k+1)):=by
 unfold zie;rw[List.take_succ_eq_append_getElem h,List.all_append];simp
theorem zls(A:Option Addr)(n c g B:Nat)(l:List Nat)(w:World)(hB:B≤g)(h:zaA w B 1 A n (l.map natv))(hl:∀ x ∈ l,x≤999999999)(hn1:1≤n)(hn:n≤256)(q:CBlk w g #[.bool true] 4) :
  Calls Tryz.prog 175 #[.slice A n c,.int .i64 1,.int .i64 256,.func (.func 176) #[] #[.pointer (some ⟨g,0,none⟩)]] w fun e w'=>e = .returned (.int .i64 0)∧CBlk w' g #[.bool (zie l)] 4∧Below g w w':=by
 have HL:=Aa hl;have aE:l.length=n:=by have:=h.1;rw[List.length_map] at this;omega
 clear hl;have aJ:decide ((n:Int)<1)=false:=decide_eq_false (by omega);have aI:decide ((256:Int)<(n:Int))=false:=decide_eq_false (by omega);have eg:=zkZ;go_enter Tryz.func175,Tryz.ntmps175
 go_wp2
 go_loopg [22] n (fun m s W=>∃ k:Nat,k≤n∧s = .int .i64 k∧n-k≤m∧CBlk W g #[.bool (zie (l.take k))] 4∧Below g w W)
 case atStart=>exact⟨0,Nat.zero_le _,rfl,by omega,q,Below.refl _ _⟩
 case round=>
  obtain⟨k,hk,rfl,hm,hq,aA⟩:=hrel
  by_cases h0:k<n
  ·have aC:k<l.length:=by omega
   obtain⟨ad,u,rfl,aK,hu,aD⟩:=(h.below (aA.mono hB)).at_ h0;have aF:u = .int .i64 (l[k]:Int):=by simp[natv,aC] at hu;exact hu.symm
   subst aF;have hx:=HL.out l[k] (List.getElem_mem aC);have hz:=zlQ l k aC;generalize l[k]=x at *;have HC:=Aa (zqQ k x g _ wr hx hq);rw[hz] at HC;clear hx hz hu hq
   go_wp2_with (go_at_fn 176;refine HC.out.mono ?_;rintro e w' ⟨rfl,aH,aG⟩)
   go_roundg (n-(k+1))
   case measure=>omega
   case rel=>exact⟨k+1,by omega,by go_num,Nat.le_refl _,aH,aA.trans aG⟩
  ·obtain rfl:n=k:=by omega
   rw[List.take_of_length_le (by omega)] at hq;go_wp2
   go_ret;exact⟨rfl,hq,aA⟩
theorem zgB(A:Option Addr)(n c:Nat)(l:List Nat)(w:World)(h:zaA w w.heap.size 1 A n (l.map natv))(hl:∀ x ∈ l,x≤999999999)(hn1:1≤n)(hn:n≤256)(hz:zie l=false) :
  Calls Tryz.prog 119 #[.slice A n c] w fun e w'=>e = .returned (.int .i64 0)∧Below w.heap.size w w':=by
 have q:CBlk (w.alloc (.cells #[.bool true] 4)) w.heap.size #[.bool true] 4:=CBlk.new _ _ _ _ rfl;have hb:Below w.heap.size w (w.alloc (.cells #[.bool true] 4)):=Ac;have HC:=Aa (zls A n c w.heap.size w.heap.size l (w.alloc (.cells #[.bool true] 4)) (Nat.le_refl _) (h.below hb) hl hn1 hn q);rw[hz] at HC;clear h hl hn1 hn hz q;go_enter Tryz.func119,Tryz.ntmps119
 go_wp2_with fail
 refine HC.out.mono ?_;rintro e w1 ⟨rfl,hq,aA⟩;have y0:=hq.cell 0
 go_wp2_with fail
 go_ret;exact⟨rfl,hb.trans aA⟩
end
end Go.Proofs.YtbkgkoenppkhpaaGreatDoor
