/- Contracts of package number's inRange, readTurn, Cos and Sin. -/
import Derived.Test.YteajibbphcfmeaaGreatDoorTCo7
import Derived.Test.YteajibbphcfmeaaGreatDoorTSp8
namespace Go.Proofs.YteajibbphcfmeaaGreatDoor
open Go.RowKit Bn
theorem natMax_any (w:World):Calls Tryz.prog 102 #[.int .u64 999999999] w (RetNat w 999999999):=naturalOf_any 999999999 w (by omega) (by omega)
theorem first_d (w:World) (t:TypeId) (g:Nat) (hg:w.heap.size=g) :
  Calls Tryz.prog 70 #[.slice (some ⟨g,0,none⟩) 2 2] (w.alloc (.cells #[.int .i64 0,.int .i64 0] t)).drew fun e w'=>e = .returned (.int .i64 0)∧Below (w.alloc (.cells #[.int .i64 0,.int .i64 0] t)).drew.heap.size (w.alloc (.cells #[.int .i64 0,.int .i64 0] t)).drew w':=
 (nfirst_E 0 0 0 rfl w.drew t g hg:Calls _ _ _ _ _).mono fun _ _ ⟨he,hw⟩=>⟨he,by rw [←hw];exact Below.refl _ _⟩
set_option maxHeartbeats 2000000 in
set_option maxRecDepth 100000 in
theorem inRange_ok (x a b:Int) (w:World) (h1:a≤x) (h2:x≤b) :
  Calls Tryz.prog 88 #[.int .i64 x,.int .i64 a,.int .i64 b] w fun e w'=>e = .returned (.int .i64 0)∧w=w':=by
 have d1:decide (x<a)=false:=decide_eq_false (by omega)
 have d2:decide (b<x)=false:=decide_eq_false (by omega)
 go_enter Tryz.func88,Tryz.ntmps88
 go_wp2
 go_ret
 exact ⟨rfl,rfl⟩
set_option maxHeartbeats 4000000 in
set_option maxRecDepth 100000 in
theorem readTurn_ok (p:Q) (s:ByteArray) (dec:Int) (w:World) (hT:Tabs w) (hbot:p.bot≤999999999) (hd1:1≤dec) (hd2:dec≤12)
  (HR:Hid (∀ W,Tabs W→Calls Tryz.prog 63 #[.string s] W (RetRead W p 0))) :
  Calls Tryz.prog 116 #[.string s,.int .i64 dec] w (RetRead w p 0):=by
 have hbW:Below w.heap.size w (w.alloc (.cells #[.bool false,.slice none 0 0,.slice none 0 0] 91)):=((Below.refl _ _).alloc (by simp<;>omega) _)
 have q0:CBlk (w.alloc (.cells #[.bool false,.slice none 0 0,.slice none 0 0] 91)) (w.heap.size) #[.bool false,.slice none 0 0,.slice none 0 0] 91:=(CBlk.new _ _ _ _ (by simp))
 have d:decide (0<ncmp p.bot 999999999)=false:=decide_eq_false (by
  rcases Nat.lt_or_ge p.bot 999999999 with h | h
  ·rw [ncmp_lt h];omega
  ·rw [show p.bot=999999999 by omega,ncmp_eq];omega)
 clear hbot
 go_enter Tryz.func116,Tryz.ntmps116
 go_upto_region 1 with (fail)
 generalize (w.alloc (.cells #[.bool false,.slice none 0 0,.slice none 0 0] 91))=W at *
 go_wp2_with fail
 refine (HR.out W (hT.later hbW)).mono ?_
 rintro e w2 ⟨v2,rfl,⟨A1,n1,c1,A2,n2,c2,rfl,h1,h2⟩,hb2⟩
 have hba:Below w2.heap.size w2 (w2.alloc (.cells #[.bool p.neg,.slice A1 n1 c1,.slice A2 n2 c2] 91)):=(Below.refl _ _).alloc (Nat.le_refl _) _
 have hB2:=hbW.trans (hb2.mono hbW.size)
 have hB:=hB2.trans (hba.mono hB2.size)
 have q4:=(q0.below hb2 q0.lt).alloc (.cells #[.bool p.neg,.slice A1 n1 c1,.slice A2 n2 c2] 91)
 have q6:CBlk (w2.alloc (.cells #[.bool p.neg,.slice A1 n1 c1,.slice A2 n2 c2] 91)) w2.heap.size #[.bool p.neg,.slice A1 n1 c1,.slice A2 n2 c2] 91:=CBlk.new _ _ _ _ rfl
 have h13:=h1.later hba
 have h23:=h2.later hba
 have HNE:Hid (w.heap.size≠w2.heap.size):=Lib.hid (Nat.ne_of_lt (Nat.lt_of_lt_of_le q0.lt hb2.size))
 clear q0 hbW hb2 hB2 h1 h2 hba HR hT
 go_upto_region 2 with (fail)
 generalize (w2.alloc (.cells #[.bool p.neg,.slice A1 n1 c1,.slice A2 n2 c2] 91))=w3 at *
 have k0:w3.drew.cell? ⟨w2.heap.size,2,none⟩=some (.slice A2 n2 c2):=q6.cell 2
 have l0:w2.heap.size<w3.drew.heap.size:=q6.lt
 go_region_held3 (fun w'=>w'.cell? ⟨w2.heap.size,2,none⟩=some (.slice A2 n2 c2))
  (first | with_reducible exact k0 | with_reducible exact k1 | with_reducible exact k2)
  (first
   |(go_at_call 102;refine (natMax_any _).mono ?_;rintro e w4 ⟨A4,m4,c4,rfl,hn4,hb4⟩;have l1:w2.heap.size<w4.heap.size:=Nat.lt_of_lt_of_le l0 hb4.size;have k1:w4.cell? ⟨w2.heap.size,2,none⟩=some (.slice A2 n2 c2):=(hb4.cell (p:=⟨w2.heap.size,2,none⟩) l0).trans k0)
   |(go_at_call 129;refine (ncompare_b A2 A4 n2 c2 m4 c4 p.bot 999999999 w4 ((h23.later (Below.drew (Below.refl _ _))).later hb4) hn4).mono ?_;rintro e w5 ⟨rfl,hb5⟩;have k2:w5.cell? ⟨w2.heap.size,2,none⟩=some (.slice A2 n2 c2):=(hb5.cell (p:=⟨w2.heap.size,2,none⟩) l1).trans k1))
 have hB4:=hB.drew.trans (hb4.mono hB.drew.size)
 have hB5:=hB4.trans (hb5.mono hB4.size)
 have q45:=(q4.drew.below hb4 q4.lt).below hb5 (Nat.lt_of_lt_of_le q4.lt hb4.size)
 have q65:=(q6.drew.below hb4 q6.lt).below hb5 (Nat.lt_of_lt_of_le q6.lt hb4.size)
 have h15:=((h13.later (Below.drew (Below.refl _ _))).later hb4).later hb5
 have h25:=((h23.later (Below.drew (Below.refl _ _))).later hb4).later hb5
 clear k0 k1 k2 l0 l1 hb4 hb5 hB hB4 q4 q6 h13 h23 hn4
 go_upto_region 4 with (fail)
 have q4a:=(q45.alloc (.cells #[.int .i64 0,.int .i64 0] 26)).drew
 have q6a:=(q65.alloc (.cells #[.int .i64 0,.int .i64 0] 26)).drew
 have hBa:Below w.heap.size w (w5.alloc (.cells #[.int .i64 0,.int .i64 0] 26)).drew:=(hB5.alloc hB5.size _).drew
 have hba:Below w5.heap.size w5 (w5.alloc (.cells #[.int .i64 0,.int .i64 0] 26)).drew:=((Below.refl _ _).alloc (Nat.le_refl _) _).drew
 have h1a:=h15.later hba
 have h2a:=h25.later hba
 have k0:w5.drew.cell? ⟨w2.heap.size,0,none⟩=some (.bool p.neg):=q65.cell 0
 have k1:w5.drew.cell? ⟨w2.heap.size,1,none⟩=some (.slice A1 n1 c1):=q65.cell 1
 have k2:w5.drew.cell? ⟨w2.heap.size,2,none⟩=some (.slice A2 n2 c2):=q65.cell 2
 have m0:((w5.alloc (.cells #[.int .i64 0,.int .i64 0] 26)).drew).cell? ⟨w2.heap.size,0,none⟩=some (.bool p.neg):=q6a.cell 0
 have m1:((w5.alloc (.cells #[.int .i64 0,.int .i64 0] 26)).drew).cell? ⟨w2.heap.size,1,none⟩=some (.slice A1 n1 c1):=q6a.cell 1
 have m2:((w5.alloc (.cells #[.int .i64 0,.int .i64 0] 26)).drew).cell? ⟨w2.heap.size,2,none⟩=some (.slice A2 n2 c2):=q6a.cell 2
 have hne:w.heap.size≠w2.heap.size:=HNE.out
 have la4:=q4a.lt
 have la6:=q6a.lt
 clear q45 q65 hB5 hba h15 h25 HNE
 go_region_held3 (fun w'=>w'.cell? ⟨w2.heap.size,0,none⟩=some (.bool p.neg)∧w'.cell? ⟨w2.heap.size,1,none⟩=some (.slice A1 n1 c1)∧w'.cell? ⟨w2.heap.size,2,none⟩=some (.slice A2 n2 c2))
  (first | with_reducible exact ⟨k0,k1,k2⟩ | with_reducible exact ⟨m0,m1,m2⟩ | with_reducible exact ⟨s0,s1,s2⟩ | exact ⟨(far3 _ _ _ _ (by exact hne)).trans s0,(far3 _ _ _ _ (by exact hne)).trans s1,(far3 _ _ _ _ (by exact hne)).trans s2⟩)
  (first
   |(go_at_call 88;refine (inRange_ok dec 1 12 _ hd1 hd2).mono ?_;rintro e w6 ⟨rfl,rfl⟩)
   |(go_at_call 70;refine (first_d w5 _ _ rfl).mono ?_;rintro e w6 ⟨rfl,hb6⟩;have s0:w6.cell? ⟨w2.heap.size,0,none⟩=some (.bool p.neg):=(hb6.cell (p:=⟨w2.heap.size,0,none⟩) la6).trans m0;have s1:w6.cell? ⟨w2.heap.size,1,none⟩=some (.slice A1 n1 c1):=(hb6.cell (p:=⟨w2.heap.size,1,none⟩) la6).trans m1;have s2:w6.cell? ⟨w2.heap.size,2,none⟩=some (.slice A2 n2 c2):=(hb6.cell (p:=⟨w2.heap.size,2,none⟩) la6).trans m2;have q46:=q4a.below hb6 la4;have y0:=q46.cell 0;have y1:=q46.cell 1;have y2:=q46.cell 2;have z0:=q46.frozen 0;have z1:=q46.frozen 1;have z2:=q46.frozen 2))
 have hB6:=hBa.trans (hb6.mono hBa.size)
 have hset:=three_set hB6 (g:=w.heap.size) (Nat.le_refl _) (.bool p.neg) (.slice A1 n1 c1) (.slice A2 n2 c2)
 have hres:=(RatS.mk (q:=p) (h1a.later hb6) (h2a.later hb6)).res3 q46 p.neg A1 A2 n1 c1 n2 c2
 go_wp2_with fail
 refine bodyPost_ret (v := .tuple #[.agg #[.bool p.neg,.slice A1 n1 c1,.slice A2 n2 c2],.int .i64 0]) (by simp [results,Tryz.results116,go_sem,y0,y1,y2]) rfl ⟨_,rfl,hres,hset⟩
end Go.Proofs.YteajibbphcfmeaaGreatDoor
