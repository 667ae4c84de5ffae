/- Contracts of package number: the text of a span, a span read. -/
import Derived.Test.YteajibbphcfmeaaGreatDoorTCo4
namespace Go.Proofs.YteajibbphcfmeaaGreatDoor
open Go.RowKit Bn
def spanE (p q:Q):Int:=if writeE p≠0 then writeE p else writeE q
def spanL (p q:Q):List UInt8:=if spanE p q=0 then writeS p else []
def spanH (p q:Q):List UInt8:=if spanE p q=0 then writeS q else []
def RetSp (w:World) (l m:List UInt8) (x:Int) (e:Ending) (w':World):Prop:=∃ s t:ByteArray,e = .returned (.tuple #[.agg #[.string s,.string t],.int .i64 x])∧s.data.toList=l∧t.data.toList=m∧Below w.heap.size w w'
theorem nfirst_E (x y E:Int) (hE:E=if x≠0 then x else y) (w:World) (t:TypeId) (g:Nat) (hg:w.heap.size=g) :
  Calls Tryz.prog 70 #[.slice (some ⟨g,0,none⟩) 2 2] (w.alloc (.cells #[.int .i64 x,.int .i64 y] t)) fun e w'=>e = .returned (.int .i64 E)∧w.alloc (.cells #[.int .i64 x,.int .i64 y] t)=w':=by
 rw [hE];exact nfirst_two x y w t g hg
theorem twoSetS {a w:World} {B g:Nat} (h:Below B a w) (hg:B≤g) (u v:Value):Below B a ((w.setCell ⟨g,0,none⟩ u).setCell ⟨g,1,none⟩ v):=
 (h.setCell (p:=⟨g,0,none⟩) hg _).setCell (p:=⟨g,1,none⟩) hg _
set_option maxHeartbeats 4000000 in
set_option maxRecDepth 100000 in
theorem iwrite_walk (p q:Q) (E:Int) (l m:List UInt8) (v:Value) (w:World) (HE:Hid (E=if writeE p≠0 then writeE p else writeE q)) (HL:Hid ((E=0→l=writeT p∧m=writeT q)∧(E≠0→l=[]∧m=[]))) (hT:Tabs w) (hv:ItvS w w.heap.size v p q) (hp:LenQ p 268435456) (hq:LenQ q 268435456) :
  Calls Tryz.prog 113 #[v] w (RetSp w l m E):=by
 obtain ⟨A1,n1,c1,A2,n2,c2,A3,n3,c3,A4,n4,c4,rfl,h1,h2,h3,h4⟩:=hv
 have hbW:Below w.heap.size w ((w.alloc (.cells #[.bool p.neg,.slice A1 n1 c1,.slice A2 n2 c2,.bool q.neg,.slice A3 n3 c3,.slice A4 n4 c4] 139)).alloc (.cells #[.string { data:=#[] },.string { data:=#[] }] 74)):=(((Below.refl _ _).alloc (by simp<;>omega) _).alloc (by simp<;>omega) _)
 have q0:CBlk ((w.alloc (.cells #[.bool p.neg,.slice A1 n1 c1,.slice A2 n2 c2,.bool q.neg,.slice A3 n3 c3,.slice A4 n4 c4] 139)).alloc (.cells #[.string { data:=#[] },.string { data:=#[] }] 74)) (w.heap.size) #[.bool p.neg,.slice A1 n1 c1,.slice A2 n2 c2,.bool q.neg,.slice A3 n3 c3,.slice A4 n4 c4] 139:=((CBlk.new _ _ _ _ (by simp)).alloc _)
 have q1:CBlk ((w.alloc (.cells #[.bool p.neg,.slice A1 n1 c1,.slice A2 n2 c2,.bool q.neg,.slice A3 n3 c3,.slice A4 n4 c4] 139)).alloc (.cells #[.string { data:=#[] },.string { data:=#[] }] 74)) (w.heap.size+1) #[.string { data:=#[] },.string { data:=#[] }] 74:=(CBlk.new _ _ _ _ (by simp))
 by_cases h0:E=0
 ·have hE0:(E != 0)=false:=by simpa using h0
  have H0:=Lib.hid h0
  clear h0
  go_enter Tryz.func113,Tryz.ntmps113
  go_upto_region 1 with (fail)
  generalize ((w.alloc (.cells #[.bool p.neg,.slice A1 n1 c1,.slice A2 n2 c2,.bool q.neg,.slice A3 n3 c3,.slice A4 n4 c4] 139)).alloc (.cells #[.string { data:=#[] },.string { data:=#[] }] 74))=W at *
  have a0:=q0.cell 0
  have a1:=q0.cell 1
  have a2:=q0.cell 2
  have hT1:=hT.later hbW
  go_wp2_with fail
  refine (nwrite_s p _ W hT1 (RatS.mk (h1.later hbW) (h2.later hbW)) hp).mono ?_
  rintro e w2 ⟨s2,rfl,hs2,hb2⟩
  have hB2:=hbW.trans (hb2.mono hbW.size)
  have q02:=q0.below hb2 q0.lt
  have q12:=q1.below hb2 q1.lt
  have hT2:=hT1.later hb2
  have h32:=(h3.later hbW).later hb2
  have h42:=(h4.later hbW).later hb2
  clear a0 a1 a2 q0 q1 hbW hb2 hT1 h1 h2 h3 h4 hT
  have a3:=q02.cell 3
  have a4:=q02.cell 4
  have a5:=q02.cell 5
  go_wp2_with fail
  refine (nwrite_s q _ w2 hT2 (RatS.mk h32 h42) hq).mono ?_
  rintro e w3 ⟨s3,rfl,hs3,hb3⟩
  have hB3:=hB2.trans (hb3.mono hB2.size)
  have q13:=q12.below hb3 q12.lt
  clear a3 a4 a5 q02 q12 hB2 hb3 hT2 h32 h42
  have hBa:Below w.heap.size w (w3.alloc (.cells #[.int .i64 (writeE p),.int .i64 (writeE q)] 26)):=hB3.alloc hB3.size _
  have q1a:=q13.alloc (.cells #[.int .i64 (writeE p),.int .i64 (writeE q)] 26)
  go_wp2_with fail
  refine (nfirst_E (writeE p) (writeE q) E HE.out w3 _ _ rfl).mono ?_
  rintro e w4 ⟨rfl,rfl⟩
  generalize (w3.alloc (.cells #[.int .i64 (writeE p),.int .i64 (writeE q)] 26))=w4 at *
  have y0:=q1a.cell 0
  have y1:=q1a.cell 1
  have z0:=q1a.frozen 0
  have z1:=q1a.frozen 1
  have hset:=twoSetS hBa (g:=w.heap.size+1) (by omega) (.string s2) (.string s3)
  go_wp2
  refine bodyPost_ret (v := .tuple #[.agg #[.string s2,.string s3],.int .i64 0]) (by simp [results,Tryz.results113,go_sem,y0,y1]) rfl ⟨s2,s3,by rw [H0.out],by rw [hs2,(HL.out.1 H0.out).1],by rw [hs3,(HL.out.1 H0.out).2],hset⟩
 ·have hE0:(E != 0)=true:=by simpa using h0
  have H0:=Lib.hid h0
  clear h0
  go_enter Tryz.func113,Tryz.ntmps113
  go_upto_region 1 with (fail)
  generalize ((w.alloc (.cells #[.bool p.neg,.slice A1 n1 c1,.slice A2 n2 c2,.bool q.neg,.slice A3 n3 c3,.slice A4 n4 c4] 139)).alloc (.cells #[.string { data:=#[] },.string { data:=#[] }] 74))=W at *
  have a0:=q0.cell 0
  have a1:=q0.cell 1
  have a2:=q0.cell 2
  have hT1:=hT.later hbW
  go_wp2_with fail
  refine (nwrite_s p _ W hT1 (RatS.mk (h1.later hbW) (h2.later hbW)) hp).mono ?_
  rintro e w2 ⟨s2,rfl,hs2,hb2⟩
  have hB2:=hbW.trans (hb2.mono hbW.size)
  have q02:=q0.below hb2 q0.lt
  have q12:=q1.below hb2 q1.lt
  have hT2:=hT1.later hb2
  have h32:=(h3.later hbW).later hb2
  have h42:=(h4.later hbW).later hb2
  clear a0 a1 a2 q0 q1 hbW hb2 hT1 h1 h2 h3 h4 hT
  have a3:=q02.cell 3
  have a4:=q02.cell 4
  have a5:=q02.cell 5
  go_wp2_with fail
  refine (nwrite_s q _ w2 hT2 (RatS.mk h32 h42) hq).mono ?_
  rintro e w3 ⟨s3,rfl,hs3,hb3⟩
  have hB3:=hB2.trans (hb3.mono hB2.size)
  have q13:=q12.below hb3 q12.lt
  clear a3 a4 a5 q02 q12 hB2 hb3 hT2 h32 h42
  have hBa:Below w.heap.size w (w3.alloc (.cells #[.int .i64 (writeE p),.int .i64 (writeE q)] 26)):=hB3.alloc hB3.size _
  have q1a:=q13.alloc (.cells #[.int .i64 (writeE p),.int .i64 (writeE q)] 26)
  go_wp2_with fail
  refine (nfirst_E (writeE p) (writeE q) E HE.out w3 _ _ rfl).mono ?_
  rintro e w4 ⟨rfl,rfl⟩
  generalize (w3.alloc (.cells #[.int .i64 (writeE p),.int .i64 (writeE q)] 26))=w4 at *
  have y0:=q1a.cell 0
  have y1:=q1a.cell 1
  have z0:=q1a.frozen 0
  have z1:=q1a.frozen 1
  have hset:=twoSetS hBa (g:=w.heap.size+1) (by omega) (.string ⟨#[]⟩) (.string ⟨#[]⟩)
  go_wp2
  refine bodyPost_ret (v := .tuple #[.agg #[.string ⟨#[]⟩,.string ⟨#[]⟩],.int .i64 E]) (by simp [results,Tryz.results113,go_sem,y0,y1]) rfl ⟨⟨#[]⟩,⟨#[]⟩,rfl,by rw [(HL.out.2 H0.out).1],by rw [(HL.out.2 H0.out).2],hset⟩
theorem iwrite_any (p q:Q) (v:Value) (w:World) (hT:Tabs w) (hv:ItvS w w.heap.size v p q) (hp:LenQ p 268435456) (hq:LenQ q 268435456) :
  Calls Tryz.prog 113 #[v] w (RetSp w (spanL p q) (spanH p q) (spanE p q)):=by
 refine iwrite_walk p q (spanE p q) (spanL p q) (spanH p q) v w rfl ⟨fun e0 => ?_,fun e0=>⟨by unfold spanL;rw [if_neg e0],by unfold spanH;rw [if_neg e0]⟩⟩ hT hv hp hq
 have ex:writeE p=0:=by
  unfold spanE at e0
  by_cases h:writeE p=0
  ·exact h
  ·rw [if_pos h] at e0;exact absurd e0 h
 have ey:writeE q=0:=by
  unfold spanE at e0
  rw [if_neg (by simpa using ex)] at e0;exact e0
 exact ⟨by unfold spanL writeT;rw [if_pos e0,if_pos ex],by unfold spanH writeT;rw [if_pos e0,if_pos ey]⟩
def RetReadI (w:World) (p q:Q) (x:Int) (e:Ending) (w':World):Prop:=∃ v,e = .returned (.tuple #[v,.int .i64 x])∧ItvS w' w'.heap.size v p q∧Below w.heap.size w w'
set_option maxHeartbeats 4000000 in
set_option maxRecDepth 100000 in
theorem readSpan_bad (x y E:Int) (p q:Q) (s t:ByteArray) (w:World) (hT:Tabs w) (HE:Hid (E=if x≠0 then x else y)) (H0:Hid (E≠0))
  (HR1:Hid (∀ W,Tabs W→Calls Tryz.prog 63 #[.string s] W (RetRead W p x))) (HR2:Hid (∀ W,Tabs W→Calls Tryz.prog 63 #[.string t] W (RetRead W q y))) :
  Calls Tryz.prog 111 #[.agg #[.string s,.string t]] w (RetReadI w noneQ noneQ E):=by
 have hbW:Below w.heap.size w ((w.alloc (.cells #[.string s,.string t] 74)).alloc (.cells #[.bool false,.slice none 0 0,.slice none 0 0,.bool false,.slice none 0 0,.slice none 0 0] 139)):=(((Below.refl _ _).alloc (by simp<;>omega) _).alloc (by simp<;>omega) _)
 have q0:CBlk ((w.alloc (.cells #[.string s,.string t] 74)).alloc (.cells #[.bool false,.slice none 0 0,.slice none 0 0,.bool false,.slice none 0 0,.slice none 0 0] 139)) (w.heap.size) #[.string s,.string t] 74:=((CBlk.new _ _ _ _ (by simp)).alloc _)
 have q1:CBlk ((w.alloc (.cells #[.string s,.string t] 74)).alloc (.cells #[.bool false,.slice none 0 0,.slice none 0 0,.bool false,.slice none 0 0,.slice none 0 0] 139)) (w.heap.size+1) #[.bool false,.slice none 0 0,.slice none 0 0,.bool false,.slice none 0 0,.slice none 0 0] 139:=(CBlk.new _ _ _ _ (by simp))
 have hE0:(E != 0)=true:=by simpa using H0.out
 go_enter Tryz.func111,Tryz.ntmps111
 go_upto_region 1 with (fail)
 generalize ((w.alloc (.cells #[.string s,.string t] 74)).alloc (.cells #[.bool false,.slice none 0 0,.slice none 0 0,.bool false,.slice none 0 0,.slice none 0 0] 139))=W at *
 have a0:=q0.cell 0
 have a1:=q0.cell 1
 go_wp2_with fail
 refine (HR1.out W (hT.later hbW)).mono ?_
 rintro e w2 ⟨v2,rfl,⟨A1,n1,c1,A2,n2,c2,rfl,h1,h2⟩,hb2⟩
 have hB2:=hbW.trans (hb2.mono hbW.size)
 have q02:=(q0.below hb2 q0.lt).alloc (.cells #[.bool p.neg,.slice A1 n1 c1,.slice A2 n2 c2] 91)
 have q12:=(q1.below hb2 q1.lt).alloc (.cells #[.bool p.neg,.slice A1 n1 c1,.slice A2 n2 c2] 91)
 have hba:Below w2.heap.size w2 (w2.alloc (.cells #[.bool p.neg,.slice A1 n1 c1,.slice A2 n2 c2] 91)):=(Below.refl _ _).alloc (Nat.le_refl _) _
 have q22:CBlk (w2.alloc (.cells #[.bool p.neg,.slice A1 n1 c1,.slice A2 n2 c2] 91)) w2.heap.size #[.bool p.neg,.slice A1 n1 c1,.slice A2 n2 c2] 91:=CBlk.new _ _ _ _ rfl
 have hB2a:=hB2.trans (hba.mono hB2.size)
 have h12:=h1.later hba
 have h22:=h2.later hba
 have hle2:=hB2.size
 clear a0 a1 q0 q1 hbW hb2 hB2 h1 h2 hba
 go_upto_region 2 with (fail)
 generalize (w2.alloc (.cells #[.bool p.neg,.slice A1 n1 c1,.slice A2 n2 c2] 91))=w3 at *
 have a0:=q02.cell 0
 have a1:=q02.cell 1
 go_wp2_with fail
 refine (HR2.out w3 (hT.later hB2a)).mono ?_
 rintro e w4 ⟨v4,rfl,⟨A3,n3,c3,A4,n4,c4,rfl,h3,h4⟩,hb4⟩
 have hB4:=hB2a.trans (hb4.mono hB2a.size)
 have q14:=(q12.below hb4 q12.lt).alloc (.cells #[.bool q.neg,.slice A3 n3 c3,.slice A4 n4 c4] 91)
 have q24:=(q22.below hb4 q22.lt).alloc (.cells #[.bool q.neg,.slice A3 n3 c3,.slice A4 n4 c4] 91)
 have q34:CBlk (w4.alloc (.cells #[.bool q.neg,.slice A3 n3 c3,.slice A4 n4 c4] 91)) w4.heap.size #[.bool q.neg,.slice A3 n3 c3,.slice A4 n4 c4] 91:=CBlk.new _ _ _ _ rfl
 have hba:Below w4.heap.size w4 (w4.alloc (.cells #[.bool q.neg,.slice A3 n3 c3,.slice A4 n4 c4] 91)):=(Below.refl _ _).alloc (Nat.le_refl _) _
 have hB4a:=hB4.trans (hba.mono hB4.size)
 have h14:=(h12.later hb4).later hba
 have h24:=(h22.later hb4).later hba
 have h34:=h3.later hba
 have h44:=h4.later hba
 clear a0 a1 q02 q12 q22 hB2a hb4 hB4 h12 h22 h3 h4 hba
 go_upto_region 3 with (fail)
 generalize (w4.alloc (.cells #[.bool q.neg,.slice A3 n3 c3,.slice A4 n4 c4] 91))=w5 at *
 have hBe:Below w.heap.size w (w5.alloc (.cells #[.int .i64 x,.int .i64 y] 26)):=hB4a.alloc hB4a.size _
 have hbe:Below w5.heap.size w5 (w5.alloc (.cells #[.int .i64 x,.int .i64 y] 26)):=(Below.refl _ _).alloc (Nat.le_refl _) _
 have q16:=q14.alloc (.cells #[.int .i64 x,.int .i64 y] 26)
 have q26:=q24.alloc (.cells #[.int .i64 x,.int .i64 y] 26)
 have q36:=q34.alloc (.cells #[.int .i64 x,.int .i64 y] 26)
 have h16:=h14.later hbe
 have h26:=h24.later hbe
 have h36:=h34.later hbe
 have h46:=h44.later hbe
 go_wp2_with fail
 refine (nfirst_E x y E HE.out w5 _ _ rfl).mono ?_
 rintro e w6 ⟨rfl,rfl⟩
 clear q14 q24 q34 hB4a hbe h14 h24 h34 h44
 generalize (w5.alloc (.cells #[.int .i64 x,.int .i64 y] 26))=w6 at *
 have qR:=q16
 have hBR:=hBe
 have y0:=qR.cell 0
 have y1:=qR.cell 1
 have y2:=qR.cell 2
 have y3:=qR.cell 3
 have y4:=qR.cell 4
 have y5:=qR.cell 5
 have z0:=qR.frozen 0
 have z1:=qR.frozen 1
 have z2:=qR.frozen 2
 have z3:=qR.frozen 3
 have z4:=qR.frozen 4
 have z5:=qR.frozen 5
 have hI:=itv_end (p:=noneQ) (q:=noneQ) qR hBR (by omega) rfl (NatS.nil _ _) (NatS.nil _ _) (NatS.nil _ _) (NatS.nil _ _)
 unfold Go.Proofs.YteajibbphcfmeaaGreatDoor.set6 at hI
 go_wp2
 refine bodyPost_ret (v := .tuple #[.agg #[.bool false,.slice none 0 0,.slice none 0 0,.bool false,.slice none 0 0,.slice none 0 0],.int .i64 E]) (by simp [results,Tryz.results111,go_sem,y0,y1,y2,y3,y4,y5]) rfl ⟨_,rfl,hI⟩
set_option maxHeartbeats 4000000 in
set_option maxRecDepth 100000 in
theorem readSpan_order (x y:Int) (p q:Q) (s t:ByteArray) (w:World) (hT:Tabs w) (HX:Hid (x=0∧y=0)) (HO:Hid (0<rcmp p q)) (lp:LenQ p 268435456) (lq:LenQ q 268435456)
  (HR1:Hid (∀ W,Tabs W→Calls Tryz.prog 63 #[.string s] W (RetRead W p x))) (HR2:Hid (∀ W,Tabs W→Calls Tryz.prog 63 #[.string t] W (RetRead W q y))) :
  Calls Tryz.prog 111 #[.agg #[.string s,.string t]] w (RetReadI w noneQ noneQ 11):=by
 have hbW:Below w.heap.size w ((w.alloc (.cells #[.string s,.string t] 74)).alloc (.cells #[.bool false,.slice none 0 0,.slice none 0 0,.bool false,.slice none 0 0,.slice none 0 0] 139)):=(((Below.refl _ _).alloc (by simp<;>omega) _).alloc (by simp<;>omega) _)
 have q0:CBlk ((w.alloc (.cells #[.string s,.string t] 74)).alloc (.cells #[.bool false,.slice none 0 0,.slice none 0 0,.bool false,.slice none 0 0,.slice none 0 0] 139)) (w.heap.size) #[.string s,.string t] 74:=((CBlk.new _ _ _ _ (by simp)).alloc _)
 have q1:CBlk ((w.alloc (.cells #[.string s,.string t] 74)).alloc (.cells #[.bool false,.slice none 0 0,.slice none 0 0,.bool false,.slice none 0 0,.slice none 0 0] 139)) (w.heap.size+1) #[.bool false,.slice none 0 0,.slice none 0 0,.bool false,.slice none 0 0,.slice none 0 0] 139:=(CBlk.new _ _ _ _ (by simp))
 obtain ⟨E,hE⟩:∃ E,E=if x≠0 then x else y:=⟨_,rfl⟩
 have HE:=Lib.hid hE
 have hE0:(E != 0)=false:=by rw [hE,HX.out.1,HX.out.2];rfl
 have HC:=Lib.hid (fun v u W h1 h2=>ncompare_s p q v u W h1 h2 lp lq)
 obtain ⟨r,hr⟩:∃ r,r=rcmp p q:=⟨_,rfl⟩
 rw [←hr] at HC HO
 have d1:decide (0<r)=true:=by simpa using HO.out
 clear hE hr
 go_enter Tryz.func111,Tryz.ntmps111
 go_upto_region 1 with (fail)
 generalize ((w.alloc (.cells #[.string s,.string t] 74)).alloc (.cells #[.bool false,.slice none 0 0,.slice none 0 0,.bool false,.slice none 0 0,.slice none 0 0] 139))=W at *
 have a0:=q0.cell 0
 have a1:=q0.cell 1
 go_wp2_with fail
 refine (HR1.out W (hT.later hbW)).mono ?_
 rintro e w2 ⟨v2,rfl,⟨A1,n1,c1,A2,n2,c2,rfl,h1,h2⟩,hb2⟩
 have hB2:=hbW.trans (hb2.mono hbW.size)
 have q02:=(q0.below hb2 q0.lt).alloc (.cells #[.bool p.neg,.slice A1 n1 c1,.slice A2 n2 c2] 91)
 have q12:=(q1.below hb2 q1.lt).alloc (.cells #[.bool p.neg,.slice A1 n1 c1,.slice A2 n2 c2] 91)
 have hba:Below w2.heap.size w2 (w2.alloc (.cells #[.bool p.neg,.slice A1 n1 c1,.slice A2 n2 c2] 91)):=(Below.refl _ _).alloc (Nat.le_refl _) _
 have q22:CBlk (w2.alloc (.cells #[.bool p.neg,.slice A1 n1 c1,.slice A2 n2 c2] 91)) w2.heap.size #[.bool p.neg,.slice A1 n1 c1,.slice A2 n2 c2] 91:=CBlk.new _ _ _ _ rfl
 have hB2a:=hB2.trans (hba.mono hB2.size)
 have h12:=h1.later hba
 have h22:=h2.later hba
 have hle2:=hB2.size
 clear a0 a1 q0 q1 hbW hb2 hB2 h1 h2 hba
 go_upto_region 2 with (fail)
 generalize (w2.alloc (.cells #[.bool p.neg,.slice A1 n1 c1,.slice A2 n2 c2] 91))=w3 at *
 have a0:=q02.cell 0
 have a1:=q02.cell 1
 go_wp2_with fail
 refine (HR2.out w3 (hT.later hB2a)).mono ?_
 rintro e w4 ⟨v4,rfl,⟨A3,n3,c3,A4,n4,c4,rfl,h3,h4⟩,hb4⟩
 have hB4:=hB2a.trans (hb4.mono hB2a.size)
 have q14:=(q12.below hb4 q12.lt).alloc (.cells #[.bool q.neg,.slice A3 n3 c3,.slice A4 n4 c4] 91)
 have q24:=(q22.below hb4 q22.lt).alloc (.cells #[.bool q.neg,.slice A3 n3 c3,.slice A4 n4 c4] 91)
 have q34:CBlk (w4.alloc (.cells #[.bool q.neg,.slice A3 n3 c3,.slice A4 n4 c4] 91)) w4.heap.size #[.bool q.neg,.slice A3 n3 c3,.slice A4 n4 c4] 91:=CBlk.new _ _ _ _ rfl
 have hba:Below w4.heap.size w4 (w4.alloc (.cells #[.bool q.neg,.slice A3 n3 c3,.slice A4 n4 c4] 91)):=(Below.refl _ _).alloc (Nat.le_refl _) _
 have hB4a:=hB4.trans (hba.mono hB4.size)
 have h14:=(h12.later hb4).later hba
 have h24:=(h22.later hb4).later hba
 have h34:=h3.later hba
 have h44:=h4.later hba
 clear a0 a1 q02 q12 q22 hB2a hb4 hB4 h12 h22 h3 h4 hba
 go_upto_region 3 with (fail)
 generalize (w4.alloc (.cells #[.bool q.neg,.slice A3 n3 c3,.slice A4 n4 c4] 91))=w5 at *
 have hBe:Below w.heap.size w (w5.alloc (.cells #[.int .i64 x,.int .i64 y] 26)):=hB4a.alloc hB4a.size _
 have hbe:Below w5.heap.size w5 (w5.alloc (.cells #[.int .i64 x,.int .i64 y] 26)):=(Below.refl _ _).alloc (Nat.le_refl _) _
 have q16:=q14.alloc (.cells #[.int .i64 x,.int .i64 y] 26)
 have q26:=q24.alloc (.cells #[.int .i64 x,.int .i64 y] 26)
 have q36:=q34.alloc (.cells #[.int .i64 x,.int .i64 y] 26)
 have h16:=h14.later hbe
 have h26:=h24.later hbe
 have h36:=h34.later hbe
 have h46:=h44.later hbe
 go_wp2_with fail
 refine (nfirst_E x y E HE.out w5 _ _ rfl).mono ?_
 rintro e w6 ⟨rfl,rfl⟩
 clear q14 q24 q34 hB4a hbe h14 h24 h34 h44
 generalize (w5.alloc (.cells #[.int .i64 x,.int .i64 y] 26))=w6 at *
 have bb0:=q26.cell 0
 have bb1:=q26.cell 1
 have bb2:=q26.cell 2
 have cc0:=q36.cell 0
 have cc1:=q36.cell 1
 have cc2:=q36.cell 2
 go_wp2_with fail
 refine (HC.out _ _ w6 (RatS.mk h16 h26) (RatS.mk h36 h46)).mono ?_
 rintro e w7 ⟨rfl,hb7⟩
 have qR:=q16.below hb7 q16.lt
 have hBR:=hBe.trans (hb7.mono hBe.size)
 have y0:=qR.cell 0
 have y1:=qR.cell 1
 have y2:=qR.cell 2
 have y3:=qR.cell 3
 have y4:=qR.cell 4
 have y5:=qR.cell 5
 have z0:=qR.frozen 0
 have z1:=qR.frozen 1
 have z2:=qR.frozen 2
 have z3:=qR.frozen 3
 have z4:=qR.frozen 4
 have z5:=qR.frozen 5
 have hI:=itv_end (p:=noneQ) (q:=noneQ) qR hBR (by omega) rfl (NatS.nil _ _) (NatS.nil _ _) (NatS.nil _ _) (NatS.nil _ _)
 unfold Go.Proofs.YteajibbphcfmeaaGreatDoor.set6 at hI
 go_wp2
 refine bodyPost_ret (v := .tuple #[.agg #[.bool false,.slice none 0 0,.slice none 0 0,.bool false,.slice none 0 0,.slice none 0 0],.int .i64 11]) (by simp [results,Tryz.results111,go_sem,y0,y1,y2,y3,y4,y5]) rfl ⟨_,rfl,hI⟩
set_option maxHeartbeats 4000000 in
set_option maxRecDepth 100000 in
theorem readSpan_ok (x y:Int) (p q:Q) (s t:ByteArray) (w:World) (hT:Tabs w) (HX:Hid (x=0∧y=0)) (HO:Hid (rcmp p q≤0)) (lp:LenQ p 268435456) (lq:LenQ q 268435456)
  (HR1:Hid (∀ W,Tabs W→Calls Tryz.prog 63 #[.string s] W (RetRead W p x))) (HR2:Hid (∀ W,Tabs W→Calls Tryz.prog 63 #[.string t] W (RetRead W q y))) :
  Calls Tryz.prog 111 #[.agg #[.string s,.string t]] w (RetReadI w p q 0):=by
 have hbW:Below w.heap.size w ((w.alloc (.cells #[.string s,.string t] 74)).alloc (.cells #[.bool false,.slice none 0 0,.slice none 0 0,.bool false,.slice none 0 0,.slice none 0 0] 139)):=(((Below.refl _ _).alloc (by simp<;>omega) _).alloc (by simp<;>omega) _)
 have q0:CBlk ((w.alloc (.cells #[.string s,.string t] 74)).alloc (.cells #[.bool false,.slice none 0 0,.slice none 0 0,.bool false,.slice none 0 0,.slice none 0 0] 139)) (w.heap.size) #[.string s,.string t] 74:=((CBlk.new _ _ _ _ (by simp)).alloc _)
 have q1:CBlk ((w.alloc (.cells #[.string s,.string t] 74)).alloc (.cells #[.bool false,.slice none 0 0,.slice none 0 0,.bool false,.slice none 0 0,.slice none 0 0] 139)) (w.heap.size+1) #[.bool false,.slice none 0 0,.slice none 0 0,.bool false,.slice none 0 0,.slice none 0 0] 139:=(CBlk.new _ _ _ _ (by simp))
 obtain ⟨E,hE⟩:∃ E,E=if x≠0 then x else y:=⟨_,rfl⟩
 have HE:=Lib.hid hE
 have hE0:(E != 0)=false:=by rw [hE,HX.out.1,HX.out.2];rfl
 have HC:=Lib.hid (fun v u W h1 h2=>ncompare_s p q v u W h1 h2 lp lq)
 obtain ⟨r,hr⟩:∃ r,r=rcmp p q:=⟨_,rfl⟩
 rw [←hr] at HC HO
 have d1:decide (0<r)=false:=by have:=HO.out;simp;omega
 clear hE hr
 go_enter Tryz.func111,Tryz.ntmps111
 go_upto_region 1 with (fail)
 generalize ((w.alloc (.cells #[.string s,.string t] 74)).alloc (.cells #[.bool false,.slice none 0 0,.slice none 0 0,.bool false,.slice none 0 0,.slice none 0 0] 139))=W at *
 have a0:=q0.cell 0
 have a1:=q0.cell 1
 go_wp2_with fail
 refine (HR1.out W (hT.later hbW)).mono ?_
 rintro e w2 ⟨v2,rfl,⟨A1,n1,c1,A2,n2,c2,rfl,h1,h2⟩,hb2⟩
 have hB2:=hbW.trans (hb2.mono hbW.size)
 have q02:=(q0.below hb2 q0.lt).alloc (.cells #[.bool p.neg,.slice A1 n1 c1,.slice A2 n2 c2] 91)
 have q12:=(q1.below hb2 q1.lt).alloc (.cells #[.bool p.neg,.slice A1 n1 c1,.slice A2 n2 c2] 91)
 have hba:Below w2.heap.size w2 (w2.alloc (.cells #[.bool p.neg,.slice A1 n1 c1,.slice A2 n2 c2] 91)):=(Below.refl _ _).alloc (Nat.le_refl _) _
 have q22:CBlk (w2.alloc (.cells #[.bool p.neg,.slice A1 n1 c1,.slice A2 n2 c2] 91)) w2.heap.size #[.bool p.neg,.slice A1 n1 c1,.slice A2 n2 c2] 91:=CBlk.new _ _ _ _ rfl
 have hB2a:=hB2.trans (hba.mono hB2.size)
 have h12:=h1.later hba
 have h22:=h2.later hba
 have hle2:=hB2.size
 clear a0 a1 q0 q1 hbW hb2 hB2 h1 h2 hba
 go_upto_region 2 with (fail)
 generalize (w2.alloc (.cells #[.bool p.neg,.slice A1 n1 c1,.slice A2 n2 c2] 91))=w3 at *
 have a0:=q02.cell 0
 have a1:=q02.cell 1
 go_wp2_with fail
 refine (HR2.out w3 (hT.later hB2a)).mono ?_
 rintro e w4 ⟨v4,rfl,⟨A3,n3,c3,A4,n4,c4,rfl,h3,h4⟩,hb4⟩
 have hB4:=hB2a.trans (hb4.mono hB2a.size)
 have q14:=(q12.below hb4 q12.lt).alloc (.cells #[.bool q.neg,.slice A3 n3 c3,.slice A4 n4 c4] 91)
 have q24:=(q22.below hb4 q22.lt).alloc (.cells #[.bool q.neg,.slice A3 n3 c3,.slice A4 n4 c4] 91)
 have q34:CBlk (w4.alloc (.cells #[.bool q.neg,.slice A3 n3 c3,.slice A4 n4 c4] 91)) w4.heap.size #[.bool q.neg,.slice A3 n3 c3,.slice A4 n4 c4] 91:=CBlk.new _ _ _ _ rfl
 have hba:Below w4.heap.size w4 (w4.alloc (.cells #[.bool q.neg,.slice A3 n3 c3,.slice A4 n4 c4] 91)):=(Below.refl _ _).alloc (Nat.le_refl _) _
 have hB4a:=hB4.trans (hba.mono hB4.size)
 have h14:=(h12.later hb4).later hba
 have h24:=(h22.later hb4).later hba
 have h34:=h3.later hba
 have h44:=h4.later hba
 clear a0 a1 q02 q12 q22 hB2a hb4 hB4 h12 h22 h3 h4 hba
 go_upto_region 3 with (fail)
 generalize (w4.alloc (.cells #[.bool q.neg,.slice A3 n3 c3,.slice A4 n4 c4] 91))=w5 at *
 have hBe:Below w.heap.size w (w5.alloc (.cells #[.int .i64 x,.int .i64 y] 26)):=hB4a.alloc hB4a.size _
 have hbe:Below w5.heap.size w5 (w5.alloc (.cells #[.int .i64 x,.int .i64 y] 26)):=(Below.refl _ _).alloc (Nat.le_refl _) _
 have q16:=q14.alloc (.cells #[.int .i64 x,.int .i64 y] 26)
 have q26:=q24.alloc (.cells #[.int .i64 x,.int .i64 y] 26)
 have q36:=q34.alloc (.cells #[.int .i64 x,.int .i64 y] 26)
 have h16:=h14.later hbe
 have h26:=h24.later hbe
 have h36:=h34.later hbe
 have h46:=h44.later hbe
 go_wp2_with fail
 refine (nfirst_E x y E HE.out w5 _ _ rfl).mono ?_
 rintro e w6 ⟨rfl,rfl⟩
 clear q14 q24 q34 hB4a hbe h14 h24 h34 h44
 generalize (w5.alloc (.cells #[.int .i64 x,.int .i64 y] 26))=w6 at *
 have bb0:=q26.cell 0
 have bb1:=q26.cell 1
 have bb2:=q26.cell 2
 have cc0:=q36.cell 0
 have cc1:=q36.cell 1
 have cc2:=q36.cell 2
 go_wp2_with fail
 refine (HC.out _ _ w6 (RatS.mk h16 h26) (RatS.mk h36 h46)).mono ?_
 rintro e w7 ⟨rfl,hb7⟩
 have qR:=q16.below hb7 q16.lt
 have q27:=q26.below hb7 q26.lt
 have q37:=q36.below hb7 q36.lt
 have hBR:=hBe.trans (hb7.mono hBe.size)
 have h17:=h16.later hb7
 have h27:=h26.later hb7
 have h37:=h36.later hb7
 have h47:=h46.later hb7
 clear bb0 bb1 bb2 cc0 cc1 cc2 q16 q26 q36 hb7 hBe h16 h26 h36 h46
 have bb0:=q27.cell 0
 have bb1:=q27.cell 1
 have bb2:=q27.cell 2
 have cc0:=q37.cell 0
 have cc1:=q37.cell 1
 have cc2:=q37.cell 2
 have y0:=qR.cell 0
 have y1:=qR.cell 1
 have y2:=qR.cell 2
 have y3:=qR.cell 3
 have y4:=qR.cell 4
 have y5:=qR.cell 5
 have z0:=qR.frozen 0
 have z1:=qR.frozen 1
 have z2:=qR.frozen 2
 have z3:=qR.frozen 3
 have z4:=qR.frozen 4
 have z5:=qR.frozen 5
 have hI:=itv_end (p:=p) (q:=q) qR hBR (by omega) rfl h17 h27 h37 h47
 unfold Go.Proofs.YteajibbphcfmeaaGreatDoor.set6 at hI
 have HI:=Lib.hid hI
 clear hI h17 h27 h37 h47 hBR
 go_wp2
 refine bodyPost_ret (v := .tuple #[.agg #[.bool p.neg,.slice A1 n1 c1,.slice A2 n2 c2,.bool q.neg,.slice A3 n3 c3,.slice A4 n4 c4],.int .i64 0]) (by simp [results,Tryz.results111,go_sem,y0,y1,y2,y3,y4,y5]) rfl ⟨_,rfl,HI.out⟩
def readIE (l m:List UInt8):Int:=if readE l≠0 then readE l else if readE m≠0 then readE m else if 0<rcmp (readQ l) (readQ m) then 11 else 0
def rdLo (l m:List UInt8):Q:=if readIE l m=0 then readQ l else noneQ
def rdHi (l m:List UInt8):Q:=if readIE l m=0 then readQ m else noneQ
theorem readSpan_any (s t:ByteArray) (w:World) (hT:Tabs w) (hs:s.size≤4294967296) (ht:t.size≤4294967296) :
  Calls Tryz.prog 111 #[.agg #[.string s,.string t]] w (RetReadI w (rdLo s.data.toList t.data.toList) (rdHi s.data.toList t.data.toList) (readIE s.data.toList t.data.toList)):=by
 have HR1:=Lib.hid (fun W h=>read_any s W h hs)
 have HR2:=Lib.hid (fun W h=>read_any t W h ht)
 by_cases hx:readE s.data.toList=0
 ·by_cases hy:readE t.data.toList=0
  ·have l1:=readQ_len hx
   have l2:=readQ_len hy
   have lp:LenQ (readQ s.data.toList) 268435456:=⟨by omega,by omega⟩
   have lq:LenQ (readQ t.data.toList) 268435456:=⟨by omega,by omega⟩
   by_cases ho:0<rcmp (readQ s.data.toList) (readQ t.data.toList)
   ·have e:readIE s.data.toList t.data.toList=11:=by unfold readIE;rw [if_neg (by simpa using hx),if_neg (by simpa using hy),if_pos ho]
    have h:=readSpan_order _ _ _ _ s t w hT ⟨hx,hy⟩ ho lp lq HR1 HR2
    unfold rdLo rdHi
    rw [e,if_neg (by omega)]
    exact h
   ·have e:readIE s.data.toList t.data.toList=0:=by unfold readIE;rw [if_neg (by simpa using hx),if_neg (by simpa using hy),if_neg ho]
    have h:=readSpan_ok _ _ _ _ s t w hT ⟨hx,hy⟩ (by exact Int.not_lt.1 ho) lp lq HR1 HR2
    unfold rdLo rdHi
    rw [e,if_pos rfl,if_pos rfl]
    exact h
  ·have e:readIE s.data.toList t.data.toList=readE t.data.toList:=by unfold readIE;rw [if_neg (by simpa using hx),if_pos hy]
   have h:=readSpan_bad _ _ (readE t.data.toList) _ _ s t w hT (by rw [Hid,if_neg (by simpa using hx)]) hy HR1 HR2
   unfold rdLo rdHi
   rw [e,if_neg hy,if_neg hy]
   exact h
 ·have e:readIE s.data.toList t.data.toList=readE s.data.toList:=by unfold readIE;rw [if_pos hx]
  have h:=readSpan_bad _ _ (readE s.data.toList) _ _ s t w hT (by rw [Hid,if_pos hx]) hx HR1 HR2
  unfold rdLo rdHi
  rw [e,if_neg hx,if_neg hx]
  exact h
def err2 (x y:Int):Int:=if x≠0 then x else y
end Go.Proofs.YteajibbphcfmeaaGreatDoor
