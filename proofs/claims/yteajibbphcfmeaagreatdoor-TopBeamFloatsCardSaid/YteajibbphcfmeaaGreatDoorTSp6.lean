/- Contracts of package number's combine of two spans, and of Plus, Minus, Times, Over, CheckSpan. -/
import Derived.Test.YteajibbphcfmeaaGreatDoorTSp2
import Derived.Test.YteajibbphcfmeaaGreatDoorTSp5
import Derived.Test.YteajibbphcfmeaaGreatDoorTDiv4
import Derived.Deep.LoopGhost
import Derived.Test.YteajibbphcfmeaaGreatDoorTCo2
import Derived.Laws.StructEq
namespace Go.Proofs.YteajibbphcfmeaaGreatDoor
open Go.RowKit Bn
set_option maxHeartbeats 4000000 in
set_option maxRecDepth 100000 in
theorem combineI_bad (fo:FuncId) (x y E:Int) (p q p' q':Q) (s t s2 t2:ByteArray) (w:World) (hT:Tabs w) (HE:Hid (E=if x≠0 then x else y)) (H0:Hid (E≠0)) (HR1:Hid (∀ W,Tabs W→Calls Tryz.prog 111 #[.agg #[.string s,.string t]] W (RetReadI W p q x))) (HR2:Hid (∀ W,Tabs W→Calls Tryz.prog 111 #[.agg #[.string s2,.string t2]] W (RetReadI W p' q' y))) :
  Calls Tryz.prog 110 #[.agg #[.string s,.string t],.agg #[.string s2,.string t2],.func (.func 111) #[] #[],.func (.func fo) #[] #[],.func (.func 113) #[] #[]] w (RetSp w [] [] E):=by
 have er:=fun args w=>show (callFunc 111 args).run Tryz.prog w = .ok (.enter 111 args) w from by kernel_rfl
 have hE0:(E != 0)=true:=by simpa using H0.out
 have hbW:Below w.heap.size w (((w.alloc (.cells #[.string s,.string t] 74)).alloc (.cells #[.string s2,.string t2] 74)).alloc (.cells #[.string { data:=#[] },.string { data:=#[] }] 74)):=((((Below.refl _ _).alloc (by simp<;>omega) _).alloc (by simp<;>omega) _).alloc (by simp<;>omega) _)
 have q0:CBlk (((w.alloc (.cells #[.string s,.string t] 74)).alloc (.cells #[.string s2,.string t2] 74)).alloc (.cells #[.string { data:=#[] },.string { data:=#[] }] 74)) (w.heap.size) #[.string s,.string t] 74:=(((CBlk.new _ _ _ _ (by simp)).alloc _).alloc _)
 have q1:CBlk (((w.alloc (.cells #[.string s,.string t] 74)).alloc (.cells #[.string s2,.string t2] 74)).alloc (.cells #[.string { data:=#[] },.string { data:=#[] }] 74)) (w.heap.size+1) #[.string s2,.string t2] 74:=((CBlk.new _ _ _ _ (by simp)).alloc _)
 have q2:CBlk (((w.alloc (.cells #[.string s,.string t] 74)).alloc (.cells #[.string s2,.string t2] 74)).alloc (.cells #[.string { data:=#[] },.string { data:=#[] }] 74)) (w.heap.size+1+1) #[.string { data:=#[] },.string { data:=#[] }] 74:=(CBlk.new _ _ _ _ (by simp))
 go_enter Tryz.func110,Tryz.ntmps110
 go_upto_region 1 with (fail)
 generalize (((w.alloc (.cells #[.string s,.string t] 74)).alloc (.cells #[.string s2,.string t2] 74)).alloc (.cells #[.string { data:=#[] },.string { data:=#[] }] 74))=W at *
 have a0:=q0.cell 0
 have a1:=q0.cell 1
 go_wp2_with fail
 refine (HR1.out W (hT.later hbW)).mono ?_
 rintro e w2 ⟨v2,rfl,⟨A1,n1,c1,A2,n2,c2,A3,n3,c3,A4,n4,c4,rfl,h1,h2,h3,h4⟩,hb2⟩
 have hba:Below w2.heap.size w2 (w2.alloc (.cells #[.bool p.neg,.slice A1 n1 c1,.slice A2 n2 c2,.bool q.neg,.slice A3 n3 c3,.slice A4 n4 c4] 139)):=(Below.refl _ _).alloc (Nat.le_refl _) _
 have hB2:=hbW.trans (hb2.mono hbW.size)
 have hB3:=hB2.trans (hba.mono hB2.size)
 have q13:=(q1.below hb2 q1.lt).alloc (.cells #[.bool p.neg,.slice A1 n1 c1,.slice A2 n2 c2,.bool q.neg,.slice A3 n3 c3,.slice A4 n4 c4] 139)
 have q23:=(q2.below hb2 q2.lt).alloc (.cells #[.bool p.neg,.slice A1 n1 c1,.slice A2 n2 c2,.bool q.neg,.slice A3 n3 c3,.slice A4 n4 c4] 139)
 have i13:CBlk (w2.alloc (.cells #[.bool p.neg,.slice A1 n1 c1,.slice A2 n2 c2,.bool q.neg,.slice A3 n3 c3,.slice A4 n4 c4] 139)) w2.heap.size #[.bool p.neg,.slice A1 n1 c1,.slice A2 n2 c2,.bool q.neg,.slice A3 n3 c3,.slice A4 n4 c4] 139:=CBlk.new _ _ _ _ rfl
 have h13:=h1.later hba
 have h23:=h2.later hba
 have h33:=h3.later hba
 have h43:=h4.later hba
 clear a0 a1 q0 q1 q2 hbW hb2 hB2 h1 h2 h3 h4 hba
 go_upto_region 2 with (fail)
 generalize (w2.alloc (.cells #[.bool p.neg,.slice A1 n1 c1,.slice A2 n2 c2,.bool q.neg,.slice A3 n3 c3,.slice A4 n4 c4] 139))=w3 at *
 have a0:=q13.cell 0
 have a1:=q13.cell 1
 go_wp2_with fail
 refine (HR2.out w3 (hT.later hB3)).mono ?_
 rintro e w4 ⟨v4,rfl,⟨D1,e1,d1,D2,e2,d2,D3,e3,d3,D4,e4,d4,rfl,k1,k2,k3,k4⟩,hb4⟩
 have hba:Below w4.heap.size w4 (w4.alloc (.cells #[.bool p'.neg,.slice D1 e1 d1,.slice D2 e2 d2,.bool q'.neg,.slice D3 e3 d3,.slice D4 e4 d4] 139)):=(Below.refl _ _).alloc (Nat.le_refl _) _
 have hB4:=hB3.trans (hb4.mono hB3.size)
 have hB5:=hB4.trans (hba.mono hB4.size)
 have q25:=(q23.below hb4 q23.lt).alloc (.cells #[.bool p'.neg,.slice D1 e1 d1,.slice D2 e2 d2,.bool q'.neg,.slice D3 e3 d3,.slice D4 e4 d4] 139)
 have i15:=(i13.below hb4 i13.lt).alloc (.cells #[.bool p'.neg,.slice D1 e1 d1,.slice D2 e2 d2,.bool q'.neg,.slice D3 e3 d3,.slice D4 e4 d4] 139)
 have i25:CBlk (w4.alloc (.cells #[.bool p'.neg,.slice D1 e1 d1,.slice D2 e2 d2,.bool q'.neg,.slice D3 e3 d3,.slice D4 e4 d4] 139)) w4.heap.size #[.bool p'.neg,.slice D1 e1 d1,.slice D2 e2 d2,.bool q'.neg,.slice D3 e3 d3,.slice D4 e4 d4] 139:=CBlk.new _ _ _ _ rfl
 have h15:=(h13.later hb4).later hba
 have h25:=(h23.later hb4).later hba
 have h35:=(h33.later hb4).later hba
 have h45:=(h43.later hb4).later hba
 have k15:=k1.later hba
 have k25:=k2.later hba
 have k35:=k3.later hba
 have k45:=k4.later hba
 clear a0 a1 q13 q23 i13 hB3 hb4 hB4 h13 h23 h33 h43 k1 k2 k3 k4 hba
 go_upto_region 3 with (fail)
 generalize (w4.alloc (.cells #[.bool p'.neg,.slice D1 e1 d1,.slice D2 e2 d2,.bool q'.neg,.slice D3 e3 d3,.slice D4 e4 d4] 139))=w5 at *
 have hBe:Below w.heap.size w (w5.alloc (.cells #[.int .i64 x,.int .i64 y] 26)):=hB5.alloc hB5.size _
 have hbe:Below w5.heap.size w5 (w5.alloc (.cells #[.int .i64 x,.int .i64 y] 26)):=(Below.refl _ _).alloc (Nat.le_refl _) _
 have q26:=q25.alloc (.cells #[.int .i64 x,.int .i64 y] 26)
 have i16:=i15.alloc (.cells #[.int .i64 x,.int .i64 y] 26)
 have i26:=i25.alloc (.cells #[.int .i64 x,.int .i64 y] 26)
 have h16:=h15.later hbe
 have h26:=h25.later hbe
 have h36:=h35.later hbe
 have h46:=h45.later hbe
 have k16:=k15.later hbe
 have k26:=k25.later hbe
 have k36:=k35.later hbe
 have k46:=k45.later hbe
 go_wp2_with fail
 refine (nfirst_E x y E HE.out w5 _ _ rfl).mono ?_
 rintro e w6 ⟨rfl,rfl⟩
 clear q25 i15 i25 hB5 hbe h15 h25 h35 h45 k15 k25 k35 k45
 generalize (w5.alloc (.cells #[.int .i64 x,.int .i64 y] 26))=w6 at *
 have qz:CBlk (w6.alloc (.cells #[.string { data:=#[] },.string { data:=#[] }] 74)) w6.heap.size #[.string { data:=#[] },.string { data:=#[] }] 74:=CBlk.new _ _ _ _ rfl
 have q27:=q26.alloc (.cells #[.string { data:=#[] },.string { data:=#[] }] 74)
 have hB7:Below w.heap.size w (w6.alloc (.cells #[.string { data:=#[] },.string { data:=#[] }] 74)):=hBe.alloc hBe.size _
 clear i16 i26 h16 h26 h36 h46 k16 k26 k36 k46 q26 hBe
 go_upto_region 6 with (fail)
 generalize (w6.alloc (.cells #[.string { data:=#[] },.string { data:=#[] }] 74))=w7 at *
 have x0:=qz.cell 0
 have x1:=qz.cell 1
 have y0:=q27.cell 0
 have y1:=q27.cell 1
 have z0:=q27.frozen 0
 have z1:=q27.frozen 1
 have hset:=twoSetS hB7 (g:=w.heap.size+1+1) (by omega) (.string ⟨#[]⟩) (.string ⟨#[]⟩)
 go_wp2
 refine bodyPost_ret (v := .tuple #[.agg #[.string ⟨#[]⟩,.string ⟨#[]⟩],.int .i64 E]) (by simp [results,Tryz.results110,go_sem,y0,y1]) rfl ⟨⟨#[]⟩,⟨#[]⟩,rfl,rfl,rfl,hset⟩
set_option maxHeartbeats 4000000 in
set_option maxRecDepth 100000 in
theorem combineI_ok (fo:FuncId) (x y:Int) (p q p' q' r1 r2:Q) (s t s2 t2:ByteArray) (w:World) (hT:Tabs w) (HX:Hid (x=0∧y=0)) (eo:∀ args w,(callFunc fo args).run Tryz.prog w = .ok (.enter fo args) w) (lr1:LenQ r1 268435456) (lr2:LenQ r2 268435456) (HR1:Hid (∀ W,Tabs W→Calls Tryz.prog 111 #[.agg #[.string s,.string t]] W (RetReadI W p q x))) (HR2:Hid (∀ W,Tabs W→Calls Tryz.prog 111 #[.agg #[.string s2,.string t2]] W (RetReadI W p' q' y)))
  (HO:Hid (∀ v u W,Tabs W→ItvS W W.heap.size v p q→ItvS W W.heap.size u p' q'→Calls Tryz.prog fo #[v,u] W (RetItv W r1 r2))) :
  Calls Tryz.prog 110 #[.agg #[.string s,.string t],.agg #[.string s2,.string t2],.func (.func 111) #[] #[],.func (.func fo) #[] #[],.func (.func 113) #[] #[]] w (RetSp w (spanL r1 r2) (spanH r1 r2) (spanE r1 r2)):=by
 have er:=fun args w=>show (callFunc 111 args).run Tryz.prog w = .ok (.enter 111 args) w from by kernel_rfl
 have ew:=fun args w=>show (callFunc 113 args).run Tryz.prog w = .ok (.enter 113 args) w from by kernel_rfl
 obtain ⟨E,hE⟩:∃ E:Int,E=if x≠0 then x else y:=⟨_,rfl⟩
 have hE0:(E != 0)=false:=by rw [hE,HX.out.1,HX.out.2];rfl
 have HE:=Lib.hid hE
 clear hE
 have hbW:Below w.heap.size w (((w.alloc (.cells #[.string s,.string t] 74)).alloc (.cells #[.string s2,.string t2] 74)).alloc (.cells #[.string { data:=#[] },.string { data:=#[] }] 74)):=((((Below.refl _ _).alloc (by simp<;>omega) _).alloc (by simp<;>omega) _).alloc (by simp<;>omega) _)
 have q0:CBlk (((w.alloc (.cells #[.string s,.string t] 74)).alloc (.cells #[.string s2,.string t2] 74)).alloc (.cells #[.string { data:=#[] },.string { data:=#[] }] 74)) (w.heap.size) #[.string s,.string t] 74:=(((CBlk.new _ _ _ _ (by simp)).alloc _).alloc _)
 have q1:CBlk (((w.alloc (.cells #[.string s,.string t] 74)).alloc (.cells #[.string s2,.string t2] 74)).alloc (.cells #[.string { data:=#[] },.string { data:=#[] }] 74)) (w.heap.size+1) #[.string s2,.string t2] 74:=((CBlk.new _ _ _ _ (by simp)).alloc _)
 have q2:CBlk (((w.alloc (.cells #[.string s,.string t] 74)).alloc (.cells #[.string s2,.string t2] 74)).alloc (.cells #[.string { data:=#[] },.string { data:=#[] }] 74)) (w.heap.size+1+1) #[.string { data:=#[] },.string { data:=#[] }] 74:=(CBlk.new _ _ _ _ (by simp))
 go_enter Tryz.func110,Tryz.ntmps110
 go_upto_region 1 with (fail)
 generalize (((w.alloc (.cells #[.string s,.string t] 74)).alloc (.cells #[.string s2,.string t2] 74)).alloc (.cells #[.string { data:=#[] },.string { data:=#[] }] 74))=W at *
 have a0:=q0.cell 0
 have a1:=q0.cell 1
 go_wp2_with fail
 refine (HR1.out W (hT.later hbW)).mono ?_
 rintro e w2 ⟨v2,rfl,⟨A1,n1,c1,A2,n2,c2,A3,n3,c3,A4,n4,c4,rfl,h1,h2,h3,h4⟩,hb2⟩
 have hba:Below w2.heap.size w2 (w2.alloc (.cells #[.bool p.neg,.slice A1 n1 c1,.slice A2 n2 c2,.bool q.neg,.slice A3 n3 c3,.slice A4 n4 c4] 139)):=(Below.refl _ _).alloc (Nat.le_refl _) _
 have hB2:=hbW.trans (hb2.mono hbW.size)
 have hB3:=hB2.trans (hba.mono hB2.size)
 have q13:=(q1.below hb2 q1.lt).alloc (.cells #[.bool p.neg,.slice A1 n1 c1,.slice A2 n2 c2,.bool q.neg,.slice A3 n3 c3,.slice A4 n4 c4] 139)
 have q23:=(q2.below hb2 q2.lt).alloc (.cells #[.bool p.neg,.slice A1 n1 c1,.slice A2 n2 c2,.bool q.neg,.slice A3 n3 c3,.slice A4 n4 c4] 139)
 have i13:CBlk (w2.alloc (.cells #[.bool p.neg,.slice A1 n1 c1,.slice A2 n2 c2,.bool q.neg,.slice A3 n3 c3,.slice A4 n4 c4] 139)) w2.heap.size #[.bool p.neg,.slice A1 n1 c1,.slice A2 n2 c2,.bool q.neg,.slice A3 n3 c3,.slice A4 n4 c4] 139:=CBlk.new _ _ _ _ rfl
 have h13:=h1.later hba
 have h23:=h2.later hba
 have h33:=h3.later hba
 have h43:=h4.later hba
 clear a0 a1 q0 q1 q2 hbW hb2 hB2 h1 h2 h3 h4 hba
 go_upto_region 2 with (fail)
 generalize (w2.alloc (.cells #[.bool p.neg,.slice A1 n1 c1,.slice A2 n2 c2,.bool q.neg,.slice A3 n3 c3,.slice A4 n4 c4] 139))=w3 at *
 have a0:=q13.cell 0
 have a1:=q13.cell 1
 go_wp2_with fail
 refine (HR2.out w3 (hT.later hB3)).mono ?_
 rintro e w4 ⟨v4,rfl,⟨D1,e1,d1,D2,e2,d2,D3,e3,d3,D4,e4,d4,rfl,k1,k2,k3,k4⟩,hb4⟩
 have hba:Below w4.heap.size w4 (w4.alloc (.cells #[.bool p'.neg,.slice D1 e1 d1,.slice D2 e2 d2,.bool q'.neg,.slice D3 e3 d3,.slice D4 e4 d4] 139)):=(Below.refl _ _).alloc (Nat.le_refl _) _
 have hB4:=hB3.trans (hb4.mono hB3.size)
 have hB5:=hB4.trans (hba.mono hB4.size)
 have q25:=(q23.below hb4 q23.lt).alloc (.cells #[.bool p'.neg,.slice D1 e1 d1,.slice D2 e2 d2,.bool q'.neg,.slice D3 e3 d3,.slice D4 e4 d4] 139)
 have i15:=(i13.below hb4 i13.lt).alloc (.cells #[.bool p'.neg,.slice D1 e1 d1,.slice D2 e2 d2,.bool q'.neg,.slice D3 e3 d3,.slice D4 e4 d4] 139)
 have i25:CBlk (w4.alloc (.cells #[.bool p'.neg,.slice D1 e1 d1,.slice D2 e2 d2,.bool q'.neg,.slice D3 e3 d3,.slice D4 e4 d4] 139)) w4.heap.size #[.bool p'.neg,.slice D1 e1 d1,.slice D2 e2 d2,.bool q'.neg,.slice D3 e3 d3,.slice D4 e4 d4] 139:=CBlk.new _ _ _ _ rfl
 have h15:=(h13.later hb4).later hba
 have h25:=(h23.later hb4).later hba
 have h35:=(h33.later hb4).later hba
 have h45:=(h43.later hb4).later hba
 have k15:=k1.later hba
 have k25:=k2.later hba
 have k35:=k3.later hba
 have k45:=k4.later hba
 clear a0 a1 q13 q23 i13 hB3 hb4 hB4 h13 h23 h33 h43 k1 k2 k3 k4 hba
 go_upto_region 3 with (fail)
 generalize (w4.alloc (.cells #[.bool p'.neg,.slice D1 e1 d1,.slice D2 e2 d2,.bool q'.neg,.slice D3 e3 d3,.slice D4 e4 d4] 139))=w5 at *
 have hBe:Below w.heap.size w (w5.alloc (.cells #[.int .i64 x,.int .i64 y] 26)):=hB5.alloc hB5.size _
 have hbe:Below w5.heap.size w5 (w5.alloc (.cells #[.int .i64 x,.int .i64 y] 26)):=(Below.refl _ _).alloc (Nat.le_refl _) _
 have q26:=q25.alloc (.cells #[.int .i64 x,.int .i64 y] 26)
 have i16:=i15.alloc (.cells #[.int .i64 x,.int .i64 y] 26)
 have i26:=i25.alloc (.cells #[.int .i64 x,.int .i64 y] 26)
 have h16:=h15.later hbe
 have h26:=h25.later hbe
 have h36:=h35.later hbe
 have h46:=h45.later hbe
 have k16:=k15.later hbe
 have k26:=k25.later hbe
 have k36:=k35.later hbe
 have k46:=k45.later hbe
 go_wp2_with fail
 refine (nfirst_E x y E HE.out w5 _ _ rfl).mono ?_
 rintro e w6 ⟨rfl,rfl⟩
 clear q25 i15 i25 hB5 hbe h15 h25 h35 h45 k15 k25 k35 k45
 generalize (w5.alloc (.cells #[.int .i64 x,.int .i64 y] 26))=w6 at *
 have bb0:=i16.cell 0
 have bb1:=i16.cell 1
 have bb2:=i16.cell 2
 have bb3:=i16.cell 3
 have bb4:=i16.cell 4
 have bb5:=i16.cell 5
 have cc0:=i26.cell 0
 have cc1:=i26.cell 1
 have cc2:=i26.cell 2
 have cc3:=i26.cell 3
 have cc4:=i26.cell 4
 have cc5:=i26.cell 5
 have hT6:=hT.later hBe
 go_wp2_with fail
 refine (HO.out _ _ w6 hT6 ⟨A1,n1,c1,A2,n2,c2,A3,n3,c3,A4,n4,c4,rfl,h16,h26,h36,h46⟩ ⟨D1,e1,d1,D2,e2,d2,D3,e3,d3,D4,e4,d4,rfl,k16,k26,k36,k46⟩).mono ?_
 rintro e w7 ⟨v7,rfl,h7,hb7⟩
 have hB7:=hBe.trans (hb7.mono hBe.size)
 have q27:=q26.below hb7 q26.lt
 have hT7:=hT6.later hb7
 clear bb0 cc0 bb1 cc1 bb2 cc2 bb3 cc3 bb4 cc4 bb5 cc5 i16 i26 h16 h26 h36 h46 k16 k26 k36 k46 q26 hBe hb7 hT6
 go_wp2_with fail
 refine (iwrite_any r1 r2 v7 w7 hT7 h7 lr1 lr2).mono ?_
 rintro e w8 ⟨z1,z2,rfl,hz1,hz2,hb8⟩
 have hB8:=hB7.trans (hb8.mono hB7.size)
 have q28:=q27.below hb8 q27.lt
 have y0:=q28.cell 0
 have y1:=q28.cell 1
 have f0:=q28.frozen 0
 have f1:=q28.frozen 1
 have hset:=twoSetS hB8 (g:=w.heap.size+1+1) (by omega) (.string z1) (.string z2)
 go_wp2
 refine bodyPost_ret (v := .tuple #[.agg #[.string z1,.string z2],.int .i64 (spanE r1 r2)]) (by simp [results,Tryz.results110,go_sem,y0,y1]) rfl ⟨z1,z2,rfl,hz1,hz2,hset⟩
theorem rd_len (l m:List UInt8) (h:readIE l m=0):readE l=0∧readE m=0∧rdLo l m=readQ l∧rdHi l m=readQ m:=by
 unfold rdLo rdHi
 rw [if_pos h,if_pos h]
 unfold readIE at h
 by_cases hx:readE l=0
 ·by_cases hy:readE m=0
  ·exact ⟨hx,hy,rfl,rfl⟩
  ·rw [if_neg (by simpa using hx),if_pos hy] at h;exact absurd h hy
 ·rw [if_pos hx] at h;exact absurd h hx
theorem combineI_any (fo:FuncId) (r:Q→Q→Q→Q→Q × Q) (s t s2 t2:ByteArray) (w:World) (hT:Tabs w) (hs:s.size≤4294967296) (ht:t.size≤4294967296) (hs2:s2.size≤4294967296) (ht2:t2.size≤4294967296) (eo:∀ args w,(callFunc fo args).run Tryz.prog w = .ok (.enter fo args) w)
  (HO:∀ p q p' q' v u W,LenQ p 600→LenQ q 600→LenQ p' 600→LenQ q' 600→Tabs W→ItvS W W.heap.size v p q→ItvS W W.heap.size u p' q'→Calls Tryz.prog fo #[v,u] W (RetItv W (r p q p' q').1 (r p q p' q').2))
  (HL:∀ p q p' q',LenQ p 600→LenQ q 600→LenQ p' 600→LenQ q' 600→LenQ (r p q p' q').1 268435456∧LenQ (r p q p' q').2 268435456) (X:Int) (hX:X=err2 (readIE s.data.toList t.data.toList) (readIE s2.data.toList t2.data.toList)) (R:Q × Q) (hR:R=r (readQ s.data.toList) (readQ t.data.toList) (readQ s2.data.toList) (readQ t2.data.toList)) :
  Calls Tryz.prog 110 #[.agg #[.string s,.string t],.agg #[.string s2,.string t2],.func (.func 111) #[] #[],.func (.func fo) #[] #[],.func (.func 113) #[] #[]] w (RetSp w (if X≠0 then [] else spanL R.1 R.2) (if X≠0 then [] else spanH R.1 R.2) (if X≠0 then X else spanE R.1 R.2)):=by
 have HR1:=Lib.hid (fun W h=>readSpan_any s t W h hs ht)
 have HR2:=Lib.hid (fun W h=>readSpan_any s2 t2 W h hs2 ht2)
 by_cases h0:X=0
 ·rw [if_neg (by simpa using h0),if_neg (by simpa using h0),if_neg (by simpa using h0)]
  rw [hX] at h0
  have hx:readIE s.data.toList t.data.toList=0:=by
   unfold err2 at h0
   by_cases h:readIE s.data.toList t.data.toList=0
   ·exact h
   ·rw [if_pos h] at h0;exact absurd h0 h
  have hy:readIE s2.data.toList t2.data.toList=0:=by
   unfold err2 at h0
   rwa [if_neg (by simpa using hx)] at h0
  obtain ⟨a1,a2,a3,a4⟩:=rd_len _ _ hx
  obtain ⟨b1,b2,b3,b4⟩:=rd_len _ _ hy
  rw [hR]
  refine combineI_ok fo _ _ _ _ _ _ _ _ s t s2 t2 w hT ⟨hx,hy⟩ eo ?_ ?_ HR1 HR2 ?_
  ·exact (HL _ _ _ _ (readQ_len a1) (readQ_len a2) (readQ_len b1) (readQ_len b2)).1
  ·exact (HL _ _ _ _ (readQ_len a1) (readQ_len a2) (readQ_len b1) (readQ_len b2)).2
  ·exact fun v u W h1 h2 h3=>by
    rw [a3,a4] at h2
    rw [b3,b4] at h3
    exact (HO _ _ _ _ v u W (readQ_len a1) (readQ_len a2) (readQ_len b1) (readQ_len b2) h1 h2 h3)
 ·rw [if_pos h0,if_pos h0,if_pos h0]
  exact combineI_bad fo _ _ X _ _ _ _ s t s2 t2 w hT (by rw [Hid,hX];rfl) h0 HR1 HR2
theorem len_timesI (p q p' q':Q) (hp:LenQ p 600) (hq:LenQ q 600) (hp2:LenQ p' 600) (hq2:LenQ q' 600):LenQ (timesI p q p' q').1 268435456∧LenQ (timesI p q p' q').2 268435456:=by
 unfold timesI
 exact encQ_in _ (fun q=>LenQ q 268435456) ((lenQ_times (K:=600) (L:=600) _ hp hp2 (by omega)).mono (by omega)) _ (by
  intro x hx
  simp only [List.mem_cons,List.not_mem_nil,or_false] at hx
  rcases hx with rfl | rfl | rfl
  ·exact (lenQ_times (K:=600) (L:=600) _ hp hq2 (by omega)).mono (by omega)
  ·exact (lenQ_times (K:=600) (L:=600) _ hq hp2 (by omega)).mono (by omega)
  ·exact (lenQ_times (K:=600) (L:=600) _ hq hq2 (by omega)).mono (by omega))
set_option maxHeartbeats 1000000 in
set_option maxRecDepth 100000 in
theorem nTimes_any (s t s2 t2:ByteArray) (w:World) (hT:Tabs w) (hs:s.size≤4294967296) (ht:t.size≤4294967296) (hs2:s2.size≤4294967296) (ht2:t2.size≤4294967296) (X:Int) (hX:X=err2 (readIE s.data.toList t.data.toList) (readIE s2.data.toList t2.data.toList)) (R:Q × Q) (hR:R=timesI (readQ s.data.toList) (readQ t.data.toList) (readQ s2.data.toList) (readQ t2.data.toList)) :
  Calls Tryz.prog 51 #[.agg #[.string s,.string t],.agg #[.string s2,.string t2]] w (RetSp w (if X≠0 then [] else spanL R.1 R.2) (if X≠0 then [] else spanH R.1 R.2) (if X≠0 then X else spanE R.1 R.2)):=by
 have hc:=fun W h=>combineI_any 112 timesI s t s2 t2 W h hs ht hs2 ht2 (fun args w=>by kernel_rfl) (fun p q p' q' v u W a b c d h1 h2 h3=>itimes_any _ _ _ _ v u W h1 h2 h3 (LenQ.mono a (by omega)) (LenQ.mono b (by omega)) (LenQ.mono c (by omega)) (LenQ.mono d (by omega))) len_timesI X hX R hR
 generalize (if X≠0 then [] else spanL R.1 R.2)=l at *
 generalize (if X≠0 then [] else spanH R.1 R.2)=m at *
 generalize (if X≠0 then X else spanE R.1 R.2)=E at *
 have HC:=Lib.hid hc
 clear hc
 have hbW:Below w.heap.size w (((w.alloc (.cells #[.string s,.string t] 74)).alloc (.cells #[.string s2,.string t2] 74)).alloc (.cells #[.string { data:=#[] },.string { data:=#[] }] 74)):=((((Below.refl _ _).alloc (by simp<;>omega) _).alloc (by simp<;>omega) _).alloc (by simp<;>omega) _)
 have q0:CBlk (((w.alloc (.cells #[.string s,.string t] 74)).alloc (.cells #[.string s2,.string t2] 74)).alloc (.cells #[.string { data:=#[] },.string { data:=#[] }] 74)) (w.heap.size) #[.string s,.string t] 74:=(((CBlk.new _ _ _ _ (by simp)).alloc _).alloc _)
 have q1:CBlk (((w.alloc (.cells #[.string s,.string t] 74)).alloc (.cells #[.string s2,.string t2] 74)).alloc (.cells #[.string { data:=#[] },.string { data:=#[] }] 74)) (w.heap.size+1) #[.string s2,.string t2] 74:=((CBlk.new _ _ _ _ (by simp)).alloc _)
 have q2:CBlk (((w.alloc (.cells #[.string s,.string t] 74)).alloc (.cells #[.string s2,.string t2] 74)).alloc (.cells #[.string { data:=#[] },.string { data:=#[] }] 74)) (w.heap.size+1+1) #[.string { data:=#[] },.string { data:=#[] }] 74:=(CBlk.new _ _ _ _ (by simp))
 go_enter Tryz.func51,Tryz.ntmps51
 go_upto_region 1 with (fail)
 generalize (((w.alloc (.cells #[.string s,.string t] 74)).alloc (.cells #[.string s2,.string t2] 74)).alloc (.cells #[.string { data:=#[] },.string { data:=#[] }] 74))=W at *
 have a0:=q0.cell 0
 have a1:=q0.cell 1
 have b0:=q1.cell 0
 have b1:=q1.cell 1
 go_wp2_with fail
 refine (HC.out W (hT.later hbW)).mono ?_
 rintro e w8 ⟨z1,z2,rfl,hz1,hz2,hb8⟩
 have hB8:=hbW.trans (hb8.mono hbW.size)
 have q28:=q2.below hb8 q2.lt
 have y0:=q28.cell 0
 have y1:=q28.cell 1
 have f0:=q28.frozen 0
 have f1:=q28.frozen 1
 have hset:=twoSetS hB8 (g:=w.heap.size+1+1) (by omega) (.string z1) (.string z2)
 go_wp2
 refine bodyPost_ret (v := .tuple #[.agg #[.string z1,.string z2],.int .i64 E]) (by simp [results,Tryz.results51,go_sem,y0,y1]) rfl ⟨z1,z2,rfl,hz1,hz2,hset⟩
end Go.Proofs.YteajibbphcfmeaaGreatDoor
