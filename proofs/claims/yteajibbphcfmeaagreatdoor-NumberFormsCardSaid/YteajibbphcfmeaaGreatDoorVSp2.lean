/- Contracts of package number: the text of a span, a span read. -/
import Derived.Test.YteajibbphcfmeaaGreatDoorVSp1
namespace Go.Proofs.YteajibbphcfmeaaGreatDoor
open Go.RowKit Bn
def zci (p q:Q):Int:=if zao p≠0 then zao p else zao q
def zdS (p q:Q):List UInt8:=if zci p q=0 then zbU p else []
def zdT (p q:Q):List UInt8:=if zci p q=0 then zbU q else []
def zc8 (w:World) (l m:List UInt8) (x:Int) (e:Ending) (w':World):Prop:=∃ s t:ByteArray,e = .returned (.tuple #[.agg #[.string s,.string t],.int .i64 x])∧s.data.toList=l∧t.data.toList=m∧Below w.heap.size w w'
theorem zaZ (x y E:Int) (hE:E=if x≠0 then x else y) (w:World) (t:TypeId) (g:Nat) (hg:w.heap.size=g) :
  Calls Tryz.prog 70 #[.slice (some ⟨g,0,none⟩) 2 2] (w.alloc (.cells #[.int .i64 x,.int .i64 y] t)) fun e w'=>e = .returned (.int .i64 E)∧w.alloc (.cells #[.int .i64 x,.int .i64 y] t)=w':=by
 rw [hE];exact zef x y w t g hg
theorem zbH {a w:World} {B g:Nat} (h:Below B a w) (hg:B≤g) (u v:Value):Below B a ((w.setCell ⟨g,0,none⟩ u).setCell ⟨g,1,none⟩ v):=
 (h.setCell (p:=⟨g,0,none⟩) hg _).setCell (p:=⟨g,1,none⟩) hg _
set_option maxHeartbeats 4000000 in
set_option maxRecDepth 100000 in
theorem zh5 (p q:Q) (E:Int) (l m:List UInt8) (v:Value) (w:World) (HE:Hid (E=if zao p≠0 then zao p else zao q)) (HL:Hid ((E=0→l=za0 p∧m=za0 q)∧(E≠0→l=[]∧m=[]))) (hT:Tabs w) (hv:ItvS w w.heap.size v p q) (hp:LenQ p 268435456) (hq:LenQ q 268435456) :
  Calls Tryz.prog 113 #[v] w (zc8 w l m E):=by
 obtain ⟨A1,n1,c1,A2,n2,c2,A3,n3,c3,A4,n4,c4,rfl,h1,h2,h3,h4⟩:=hv
 have aA:Below w.heap.size w ((w.alloc (.cells #[.bool p.neg,.slice A1 n1 c1,.slice A2 n2 c2,.bool q.neg,.slice A3 n3 c3,.slice A4 n4 c4] 139)).alloc (.cells #[.string { data:=#[] },.string { data:=#[] }] 74)):=(((Below.refl _ _).alloc (by simp<;>omega) _).alloc (by simp<;>omega) _)
 have q0:CBlk ((w.alloc (.cells #[.bool p.neg,.slice A1 n1 c1,.slice A2 n2 c2,.bool q.neg,.slice A3 n3 c3,.slice A4 n4 c4] 139)).alloc (.cells #[.string { data:=#[] },.string { data:=#[] }] 74)) (w.heap.size) #[.bool p.neg,.slice A1 n1 c1,.slice A2 n2 c2,.bool q.neg,.slice A3 n3 c3,.slice A4 n4 c4] 139:=((CBlk.new _ _ _ _ (by simp)).alloc _)
 have q1:CBlk ((w.alloc (.cells #[.bool p.neg,.slice A1 n1 c1,.slice A2 n2 c2,.bool q.neg,.slice A3 n3 c3,.slice A4 n4 c4] 139)).alloc (.cells #[.string { data:=#[] },.string { data:=#[] }] 74)) (w.heap.size+1) #[.string { data:=#[] },.string { data:=#[] }] 74:=(CBlk.new _ _ _ _ (by simp))
 by_cases h0:E=0
 ·have aS:(E != 0)=false:=by simpa using h0
  have H0:=Lib.hid h0
  clear h0
  go_enter Tryz.func113,Tryz.ntmps113
  go_upto_region 1 with (fail)
  generalize ((w.alloc (.cells #[.bool p.neg,.slice A1 n1 c1,.slice A2 n2 c2,.bool q.neg,.slice A3 n3 c3,.slice A4 n4 c4] 139)).alloc (.cells #[.string { data:=#[] },.string { data:=#[] }] 74))=W at *
  have a0:=q0.cell 0
  have a1:=q0.cell 1
  have a2:=q0.cell 2
  have aH:=hT.later aA
  go_wp2_with fail
  refine (zbR p _ W aH (RatS.mk (h1.later aA) (h2.later aA)) hp).mono ?_
  rintro e w2 ⟨s2,rfl,aR,aC⟩
  have aI:=aA.trans (aC.mono aA.size)
  have aE:=q0.below aC q0.lt
  have aJ:=q1.below aC q1.lt
  have aL:=aH.later aC
  have aK:=(h3.later aA).later aC
  have aM:=(h4.later aA).later aC
  clear a0 a1 a2 q0 q1 aA aC aH h1 h2 h3 h4 hT
  have a3:=aE.cell 3
  have a4:=aE.cell 4
  have a5:=aE.cell 5
  go_wp2_with fail
  refine (zbR q _ w2 aL (RatS.mk aK aM) hq).mono ?_
  rintro e w3 ⟨s3,rfl,aQ,aG⟩
  have aN:=aI.trans (aG.mono aI.size)
  have aP:=aJ.below aG aJ.lt
  clear a3 a4 a5 aE aJ aI aG aL aK aM
  have aO:Below w.heap.size w (w3.alloc (.cells #[.int .i64 (zao p),.int .i64 (zao q)] 26)):=aN.alloc aN.size _
  have aD:=aP.alloc (.cells #[.int .i64 (zao p),.int .i64 (zao q)] 26)
  go_wp2_with fail
  refine (zaZ (zao p) (zao q) E HE.out w3 _ _ rfl).mono ?_
  rintro e w4 ⟨rfl,rfl⟩
  generalize (w3.alloc (.cells #[.int .i64 (zao p),.int .i64 (zao q)] 26))=w4 at *
  have y0:=aD.cell 0
  have y1:=aD.cell 1
  have z0:=aD.frozen 0
  have z1:=aD.frozen 1
  have aF:=zbH aO (g:=w.heap.size+1) (by omega) (.string s2) (.string s3)
  go_wp2
  refine bodyPost_ret (v := .tuple #[.agg #[.string s2,.string s3],.int .i64 0]) (by simp [results,Tryz.results113,go_sem,y0,y1]) rfl ⟨s2,s3,by rw [H0.out],by rw [aR,(HL.out.1 H0.out).1],by rw [aQ,(HL.out.1 H0.out).2],aF⟩
 ·have aS:(E != 0)=true:=by simpa using h0
  have H0:=Lib.hid h0
  clear h0
  go_enter Tryz.func113,Tryz.ntmps113
  go_upto_region 1 with (fail)
  generalize ((w.alloc (.cells #[.bool p.neg,.slice A1 n1 c1,.slice A2 n2 c2,.bool q.neg,.slice A3 n3 c3,.slice A4 n4 c4] 139)).alloc (.cells #[.string { data:=#[] },.string { data:=#[] }] 74))=W at *
  have a0:=q0.cell 0
  have a1:=q0.cell 1
  have a2:=q0.cell 2
  have aH:=hT.later aA
  go_wp2_with fail
  refine (zbR p _ W aH (RatS.mk (h1.later aA) (h2.later aA)) hp).mono ?_
  rintro e w2 ⟨s2,rfl,aR,aC⟩
  have aI:=aA.trans (aC.mono aA.size)
  have aE:=q0.below aC q0.lt
  have aJ:=q1.below aC q1.lt
  have aL:=aH.later aC
  have aK:=(h3.later aA).later aC
  have aM:=(h4.later aA).later aC
  clear a0 a1 a2 q0 q1 aA aC aH h1 h2 h3 h4 hT
  have a3:=aE.cell 3
  have a4:=aE.cell 4
  have a5:=aE.cell 5
  go_wp2_with fail
  refine (zbR q _ w2 aL (RatS.mk aK aM) hq).mono ?_
  rintro e w3 ⟨s3,rfl,aQ,aG⟩
  have aN:=aI.trans (aG.mono aI.size)
  have aP:=aJ.below aG aJ.lt
  clear a3 a4 a5 aE aJ aI aG aL aK aM
  have aO:Below w.heap.size w (w3.alloc (.cells #[.int .i64 (zao p),.int .i64 (zao q)] 26)):=aN.alloc aN.size _
  have aD:=aP.alloc (.cells #[.int .i64 (zao p),.int .i64 (zao q)] 26)
  go_wp2_with fail
  refine (zaZ (zao p) (zao q) E HE.out w3 _ _ rfl).mono ?_
  rintro e w4 ⟨rfl,rfl⟩
  generalize (w3.alloc (.cells #[.int .i64 (zao p),.int .i64 (zao q)] 26))=w4 at *
  have y0:=aD.cell 0
  have y1:=aD.cell 1
  have z0:=aD.frozen 0
  have z1:=aD.frozen 1
  have aF:=zbH aO (g:=w.heap.size+1) (by omega) (.string ⟨#[]⟩) (.string ⟨#[]⟩)
  go_wp2
  refine bodyPost_ret (v := .tuple #[.agg #[.string ⟨#[]⟩,.string ⟨#[]⟩],.int .i64 E]) (by simp [results,Tryz.results113,go_sem,y0,y1]) rfl ⟨⟨#[]⟩,⟨#[]⟩,rfl,by rw [(HL.out.2 H0.out).1],by rw [(HL.out.2 H0.out).2],aF⟩
theorem zdz (p q:Q) (v:Value) (w:World) (hT:Tabs w) (hv:ItvS w w.heap.size v p q) (hp:LenQ p 268435456) (hq:LenQ q 268435456) :
  Calls Tryz.prog 113 #[v] w (zc8 w (zdS p q) (zdT p q) (zci p q)):=by
 refine zh5 p q (zci p q) (zdS p q) (zdT p q) v w rfl ⟨fun e0 => ?_,fun e0=>⟨by unfold zdS;rw [if_neg e0],by unfold zdT;rw [if_neg e0]⟩⟩ hT hv hp hq
 have ex:zao p=0:=by
  unfold zci at e0
  by_cases h:zao p=0
  ·exact h
  ·rw [if_pos h] at e0;exact absurd e0 h
 have ey:zao q=0:=by
  unfold zci at e0
  rw [if_neg (by simpa using ex)] at e0;exact e0
 exact ⟨by unfold zdS za0;rw [if_pos e0,if_pos ex],by unfold zdT za0;rw [if_pos e0,if_pos ey]⟩
def za6 (w:World) (p q:Q) (x:Int) (e:Ending) (w':World):Prop:=∃ v,e = .returned (.tuple #[v,.int .i64 x])∧ItvS w' w'.heap.size v p q∧Below w.heap.size w w'
set_option maxHeartbeats 4000000 in
set_option maxRecDepth 100000 in
theorem zey (x y E:Int) (p q:Q) (s t:ByteArray) (w:World) (hT:Tabs w) (HE:Hid (E=if x≠0 then x else y)) (H0:Hid (E≠0))
  (HR1:Hid (∀ W,Tabs W→Calls Tryz.prog 63 #[.string s] W (zay W p x))) (HR2:Hid (∀ W,Tabs W→Calls Tryz.prog 63 #[.string t] W (zay W q y))) :
  Calls Tryz.prog 111 #[.agg #[.string s,.string t]] w (za6 w zck zck E):=by
 have aH:Below w.heap.size w ((w.alloc (.cells #[.string s,.string t] 74)).alloc (.cells #[.bool false,.slice none 0 0,.slice none 0 0,.bool false,.slice none 0 0,.slice none 0 0] 139)):=(((Below.refl _ _).alloc (by simp<;>omega) _).alloc (by simp<;>omega) _)
 have q0:CBlk ((w.alloc (.cells #[.string s,.string t] 74)).alloc (.cells #[.bool false,.slice none 0 0,.slice none 0 0,.bool false,.slice none 0 0,.slice none 0 0] 139)) (w.heap.size) #[.string s,.string t] 74:=((CBlk.new _ _ _ _ (by simp)).alloc _)
 have q1:CBlk ((w.alloc (.cells #[.string s,.string t] 74)).alloc (.cells #[.bool false,.slice none 0 0,.slice none 0 0,.bool false,.slice none 0 0,.slice none 0 0] 139)) (w.heap.size+1) #[.bool false,.slice none 0 0,.slice none 0 0,.bool false,.slice none 0 0,.slice none 0 0] 139:=(CBlk.new _ _ _ _ (by simp))
 have bA:(E != 0)=true:=by simpa using H0.out
 go_enter Tryz.func111,Tryz.ntmps111
 go_upto_region 1 with (fail)
 generalize ((w.alloc (.cells #[.string s,.string t] 74)).alloc (.cells #[.bool false,.slice none 0 0,.slice none 0 0,.bool false,.slice none 0 0,.slice none 0 0] 139))=W at *
 have a0:=q0.cell 0
 have a1:=q0.cell 1
 go_wp2_with fail
 refine (HR1.out W (hT.later aH)).mono ?_
 rintro e w2 ⟨v2,rfl,⟨A1,n1,c1,A2,n2,c2,rfl,h1,h2⟩,aI⟩
 have aG:=aH.trans (aI.mono aH.size)
 have aM:=(q0.below aI q0.lt).alloc (.cells #[.bool p.neg,.slice A1 n1 c1,.slice A2 n2 c2] 91)
 have aK:=(q1.below aI q1.lt).alloc (.cells #[.bool p.neg,.slice A1 n1 c1,.slice A2 n2 c2] 91)
 have aA:Below w2.heap.size w2 (w2.alloc (.cells #[.bool p.neg,.slice A1 n1 c1,.slice A2 n2 c2] 91)):=(Below.refl _ _).alloc (Nat.le_refl _) _
 have aJ:CBlk (w2.alloc (.cells #[.bool p.neg,.slice A1 n1 c1,.slice A2 n2 c2] 91)) w2.heap.size #[.bool p.neg,.slice A1 n1 c1,.slice A2 n2 c2] 91:=CBlk.new _ _ _ _ rfl
 have aC:=aG.trans (aA.mono aG.size)
 have aN:=h1.later aA
 have aP:=h2.later aA
 have aY:=aG.size
 clear a0 a1 q0 q1 aH aI aG h1 h2 aA
 go_upto_region 2 with (fail)
 generalize (w2.alloc (.cells #[.bool p.neg,.slice A1 n1 c1,.slice A2 n2 c2] 91))=w3 at *
 have a0:=aM.cell 0
 have a1:=aM.cell 1
 go_wp2_with fail
 refine (HR2.out w3 (hT.later aC)).mono ?_
 rintro e w4 ⟨v4,rfl,⟨A3,n3,c3,A4,n4,c4,rfl,h3,h4⟩,aE⟩
 have aL:=aC.trans (aE.mono aC.size)
 have aO:=(aK.below aE aK.lt).alloc (.cells #[.bool q.neg,.slice A3 n3 c3,.slice A4 n4 c4] 91)
 have aT:=(aJ.below aE aJ.lt).alloc (.cells #[.bool q.neg,.slice A3 n3 c3,.slice A4 n4 c4] 91)
 have aV:CBlk (w4.alloc (.cells #[.bool q.neg,.slice A3 n3 c3,.slice A4 n4 c4] 91)) w4.heap.size #[.bool q.neg,.slice A3 n3 c3,.slice A4 n4 c4] 91:=CBlk.new _ _ _ _ rfl
 have aA:Below w4.heap.size w4 (w4.alloc (.cells #[.bool q.neg,.slice A3 n3 c3,.slice A4 n4 c4] 91)):=(Below.refl _ _).alloc (Nat.le_refl _) _
 have aD:=aL.trans (aA.mono aL.size)
 have aU:=(aN.later aE).later aA
 have aR:=(aP.later aE).later aA
 have aQ:=h3.later aA
 have aS:=h4.later aA
 clear a0 a1 aM aK aJ aC aE aL aN aP h3 h4 aA
 go_upto_region 3 with (fail)
 generalize (w4.alloc (.cells #[.bool q.neg,.slice A3 n3 c3,.slice A4 n4 c4] 91))=w5 at *
 have aW:Below w.heap.size w (w5.alloc (.cells #[.int .i64 x,.int .i64 y] 26)):=aD.alloc aD.size _
 have aF:Below w5.heap.size w5 (w5.alloc (.cells #[.int .i64 x,.int .i64 y] 26)):=(Below.refl _ _).alloc (Nat.le_refl _) _
 have aX:=aO.alloc (.cells #[.int .i64 x,.int .i64 y] 26)
 have bC:=aT.alloc (.cells #[.int .i64 x,.int .i64 y] 26)
 have bE:=aV.alloc (.cells #[.int .i64 x,.int .i64 y] 26)
 have bD:=aU.later aF
 have bB:=aR.later aF
 have bF:=aQ.later aF
 have bG:=aS.later aF
 go_wp2_with fail
 refine (zaZ x y E HE.out w5 _ _ rfl).mono ?_
 rintro e w6 ⟨rfl,rfl⟩
 clear aO aT aV aD aF aU aR aQ aS
 generalize (w5.alloc (.cells #[.int .i64 x,.int .i64 y] 26))=w6 at *
 have qR:=aX
 have aZ:=aW
 have y0:=qR.cell 0
 have y1:=qR.cell 1
 have y2:=qR.cell 2
 have y3:=qR.cell 3
 have y4:=qR.cell 4
 have y5:=qR.cell 5
 have z0:=qR.frozen 0
 have z1:=qR.frozen 1
 have z2:=qR.frozen 2
 have z3:=qR.frozen 3
 have z4:=qR.frozen 4
 have z5:=qR.frozen 5
 have hI:=zbK (p:=zck) (q:=zck) qR aZ (by omega) rfl (NatS.nil _ _) (NatS.nil _ _) (NatS.nil _ _) (NatS.nil _ _)
 unfold Go.Proofs.YteajibbphcfmeaaGreatDoor.set6 at hI
 go_wp2
 refine bodyPost_ret (v := .tuple #[.agg #[.bool false,.slice none 0 0,.slice none 0 0,.bool false,.slice none 0 0,.slice none 0 0],.int .i64 E]) (by simp [results,Tryz.results111,go_sem,y0,y1,y2,y3,y4,y5]) rfl ⟨_,rfl,hI⟩
set_option maxHeartbeats 4000000 in
set_option maxRecDepth 100000 in
theorem zfB (x y:Int) (p q:Q) (s t:ByteArray) (w:World) (hT:Tabs w) (HX:Hid (x=0∧y=0)) (HO:Hid (0<rcmp p q)) (lp:LenQ p 268435456) (lq:LenQ q 268435456)
  (HR1:Hid (∀ W,Tabs W→Calls Tryz.prog 63 #[.string s] W (zay W p x))) (HR2:Hid (∀ W,Tabs W→Calls Tryz.prog 63 #[.string t] W (zay W q y))) :
  Calls Tryz.prog 111 #[.agg #[.string s,.string t]] w (za6 w zck zck 11):=by
 have aH:Below w.heap.size w ((w.alloc (.cells #[.string s,.string t] 74)).alloc (.cells #[.bool false,.slice none 0 0,.slice none 0 0,.bool false,.slice none 0 0,.slice none 0 0] 139)):=(((Below.refl _ _).alloc (by simp<;>omega) _).alloc (by simp<;>omega) _)
 have q0:CBlk ((w.alloc (.cells #[.string s,.string t] 74)).alloc (.cells #[.bool false,.slice none 0 0,.slice none 0 0,.bool false,.slice none 0 0,.slice none 0 0] 139)) (w.heap.size) #[.string s,.string t] 74:=((CBlk.new _ _ _ _ (by simp)).alloc _)
 have q1:CBlk ((w.alloc (.cells #[.string s,.string t] 74)).alloc (.cells #[.bool false,.slice none 0 0,.slice none 0 0,.bool false,.slice none 0 0,.slice none 0 0] 139)) (w.heap.size+1) #[.bool false,.slice none 0 0,.slice none 0 0,.bool false,.slice none 0 0,.slice none 0 0] 139:=(CBlk.new _ _ _ _ (by simp))
 obtain ⟨E,hE⟩:∃ E,E=if x≠0 then x else y:=⟨_,rfl⟩
 have HE:=Lib.hid hE
 have bI:(E != 0)=false:=by rw [hE,HX.out.1,HX.out.2];rfl
 have HC:=Lib.hid (fun v u W h1 h2=>zbc p q v u W h1 h2 lp lq)
 obtain ⟨r,hr⟩:∃ r,r=rcmp p q:=⟨_,rfl⟩
 rw [←hr] at HC HO
 have d1:decide (0<r)=true:=by simpa using HO.out
 clear hE hr
 go_enter Tryz.func111,Tryz.ntmps111
 go_upto_region 1 with (fail)
 generalize ((w.alloc (.cells #[.string s,.string t] 74)).alloc (.cells #[.bool false,.slice none 0 0,.slice none 0 0,.bool false,.slice none 0 0,.slice none 0 0] 139))=W at *
 have a0:=q0.cell 0
 have a1:=q0.cell 1
 go_wp2_with fail
 refine (HR1.out W (hT.later aH)).mono ?_
 rintro e w2 ⟨v2,rfl,⟨A1,n1,c1,A2,n2,c2,rfl,h1,h2⟩,aI⟩
 have aG:=aH.trans (aI.mono aH.size)
 have aO:=(q0.below aI q0.lt).alloc (.cells #[.bool p.neg,.slice A1 n1 c1,.slice A2 n2 c2] 91)
 have aL:=(q1.below aI q1.lt).alloc (.cells #[.bool p.neg,.slice A1 n1 c1,.slice A2 n2 c2] 91)
 have aA:Below w2.heap.size w2 (w2.alloc (.cells #[.bool p.neg,.slice A1 n1 c1,.slice A2 n2 c2] 91)):=(Below.refl _ _).alloc (Nat.le_refl _) _
 have aJ:CBlk (w2.alloc (.cells #[.bool p.neg,.slice A1 n1 c1,.slice A2 n2 c2] 91)) w2.heap.size #[.bool p.neg,.slice A1 n1 c1,.slice A2 n2 c2] 91:=CBlk.new _ _ _ _ rfl
 have aC:=aG.trans (aA.mono aG.size)
 have aQ:=h1.later aA
 have aT:=h2.later aA
 have bD:=aG.size
 clear a0 a1 q0 q1 aH aI aG h1 h2 aA
 go_upto_region 2 with (fail)
 generalize (w2.alloc (.cells #[.bool p.neg,.slice A1 n1 c1,.slice A2 n2 c2] 91))=w3 at *
 have a0:=aO.cell 0
 have a1:=aO.cell 1
 go_wp2_with fail
 refine (HR2.out w3 (hT.later aC)).mono ?_
 rintro e w4 ⟨v4,rfl,⟨A3,n3,c3,A4,n4,c4,rfl,h3,h4⟩,aE⟩
 have aM:=aC.trans (aE.mono aC.size)
 have aS:=(aL.below aE aL.lt).alloc (.cells #[.bool q.neg,.slice A3 n3 c3,.slice A4 n4 c4] 91)
 have aY:=(aJ.below aE aJ.lt).alloc (.cells #[.bool q.neg,.slice A3 n3 c3,.slice A4 n4 c4] 91)
 have bA:CBlk (w4.alloc (.cells #[.bool q.neg,.slice A3 n3 c3,.slice A4 n4 c4] 91)) w4.heap.size #[.bool q.neg,.slice A3 n3 c3,.slice A4 n4 c4] 91:=CBlk.new _ _ _ _ rfl
 have aA:Below w4.heap.size w4 (w4.alloc (.cells #[.bool q.neg,.slice A3 n3 c3,.slice A4 n4 c4] 91)):=(Below.refl _ _).alloc (Nat.le_refl _) _
 have aD:=aM.trans (aA.mono aM.size)
 have aZ:=(aQ.later aE).later aA
 have aW:=(aT.later aE).later aA
 have aU:=h3.later aA
 have aX:=h4.later aA
 clear a0 a1 aO aL aJ aC aE aM aQ aT h3 h4 aA
 go_upto_region 3 with (fail)
 generalize (w4.alloc (.cells #[.bool q.neg,.slice A3 n3 c3,.slice A4 n4 c4] 91))=w5 at *
 have aP:Below w.heap.size w (w5.alloc (.cells #[.int .i64 x,.int .i64 y] 26)):=aD.alloc aD.size _
 have aF:Below w5.heap.size w5 (w5.alloc (.cells #[.int .i64 x,.int .i64 y] 26)):=(Below.refl _ _).alloc (Nat.le_refl _) _
 have aV:=aS.alloc (.cells #[.int .i64 x,.int .i64 y] 26)
 have aK:=aY.alloc (.cells #[.int .i64 x,.int .i64 y] 26)
 have aN:=bA.alloc (.cells #[.int .i64 x,.int .i64 y] 26)
 have bC:=aZ.later aF
 have bB:=aW.later aF
 have bF:=aU.later aF
 have bG:=aX.later aF
 go_wp2_with fail
 refine (zaZ x y E HE.out w5 _ _ rfl).mono ?_
 rintro e w6 ⟨rfl,rfl⟩
 clear aS aY bA aD aF aZ aW aU aX
 generalize (w5.alloc (.cells #[.int .i64 x,.int .i64 y] 26))=w6 at *
 have bN:=aK.cell 0
 have bJ:=aK.cell 1
 have bM:=aK.cell 2
 have bK:=aN.cell 0
 have bL:=aN.cell 1
 have bH:=aN.cell 2
 go_wp2_with fail
 refine (HC.out _ _ w6 (RatS.mk bC bB) (RatS.mk bF bG)).mono ?_
 rintro e w7 ⟨rfl,aR⟩
 have qR:=aV.below aR aV.lt
 have bE:=aP.trans (aR.mono aP.size)
 have y0:=qR.cell 0
 have y1:=qR.cell 1
 have y2:=qR.cell 2
 have y3:=qR.cell 3
 have y4:=qR.cell 4
 have y5:=qR.cell 5
 have z0:=qR.frozen 0
 have z1:=qR.frozen 1
 have z2:=qR.frozen 2
 have z3:=qR.frozen 3
 have z4:=qR.frozen 4
 have z5:=qR.frozen 5
 have hI:=zbK (p:=zck) (q:=zck) qR bE (by omega) rfl (NatS.nil _ _) (NatS.nil _ _) (NatS.nil _ _) (NatS.nil _ _)
 unfold Go.Proofs.YteajibbphcfmeaaGreatDoor.set6 at hI
 go_wp2
 refine bodyPost_ret (v := .tuple #[.agg #[.bool false,.slice none 0 0,.slice none 0 0,.bool false,.slice none 0 0,.slice none 0 0],.int .i64 11]) (by simp [results,Tryz.results111,go_sem,y0,y1,y2,y3,y4,y5]) rfl ⟨_,rfl,hI⟩
set_option maxHeartbeats 4000000 in
set_option maxRecDepth 100000 in
theorem zhz (x y:Int) (p q:Q) (s t:ByteArray) (w:World) (hT:Tabs w) (HX:Hid (x=0∧y=0)) (HO:Hid (rcmp p q≤0)) (lp:LenQ p 268435456) (lq:LenQ q 268435456)
  (HR1:Hid (∀ W,Tabs W→Calls Tryz.prog 63 #[.string s] W (zay W p x))) (HR2:Hid (∀ W,Tabs W→Calls Tryz.prog 63 #[.string t] W (zay W q y))) :
  Calls Tryz.prog 111 #[.agg #[.string s,.string t]] w (za6 w p q 0):=by
 have aK:Below w.heap.size w ((w.alloc (.cells #[.string s,.string t] 74)).alloc (.cells #[.bool false,.slice none 0 0,.slice none 0 0,.bool false,.slice none 0 0,.slice none 0 0] 139)):=(((Below.refl _ _).alloc (by simp<;>omega) _).alloc (by simp<;>omega) _)
 have q0:CBlk ((w.alloc (.cells #[.string s,.string t] 74)).alloc (.cells #[.bool false,.slice none 0 0,.slice none 0 0,.bool false,.slice none 0 0,.slice none 0 0] 139)) (w.heap.size) #[.string s,.string t] 74:=((CBlk.new _ _ _ _ (by simp)).alloc _)
 have q1:CBlk ((w.alloc (.cells #[.string s,.string t] 74)).alloc (.cells #[.bool false,.slice none 0 0,.slice none 0 0,.bool false,.slice none 0 0,.slice none 0 0] 139)) (w.heap.size+1) #[.bool false,.slice none 0 0,.slice none 0 0,.bool false,.slice none 0 0,.slice none 0 0] 139:=(CBlk.new _ _ _ _ (by simp))
 obtain ⟨E,hE⟩:∃ E,E=if x≠0 then x else y:=⟨_,rfl⟩
 have HE:=Lib.hid hE
 have bT:(E != 0)=false:=by rw [hE,HX.out.1,HX.out.2];rfl
 have HC:=Lib.hid (fun v u W h1 h2=>zbc p q v u W h1 h2 lp lq)
 obtain ⟨r,hr⟩:∃ r,r=rcmp p q:=⟨_,rfl⟩
 rw [←hr] at HC HO
 have d1:decide (0<r)=false:=by have:=HO.out;simp;omega
 clear hE hr
 go_enter Tryz.func111,Tryz.ntmps111
 go_upto_region 1 with (fail)
 generalize ((w.alloc (.cells #[.string s,.string t] 74)).alloc (.cells #[.bool false,.slice none 0 0,.slice none 0 0,.bool false,.slice none 0 0,.slice none 0 0] 139))=W at *
 have a0:=q0.cell 0
 have a1:=q0.cell 1
 go_wp2_with fail
 refine (HR1.out W (hT.later aK)).mono ?_
 rintro e w2 ⟨v2,rfl,⟨A1,n1,c1,A2,n2,c2,rfl,h1,h2⟩,aL⟩
 have aJ:=aK.trans (aL.mono aK.size)
 have aW:=(q0.below aL q0.lt).alloc (.cells #[.bool p.neg,.slice A1 n1 c1,.slice A2 n2 c2] 91)
 have aR:=(q1.below aL q1.lt).alloc (.cells #[.bool p.neg,.slice A1 n1 c1,.slice A2 n2 c2] 91)
 have aA:Below w2.heap.size w2 (w2.alloc (.cells #[.bool p.neg,.slice A1 n1 c1,.slice A2 n2 c2] 91)):=(Below.refl _ _).alloc (Nat.le_refl _) _
 have aO:CBlk (w2.alloc (.cells #[.bool p.neg,.slice A1 n1 c1,.slice A2 n2 c2] 91)) w2.heap.size #[.bool p.neg,.slice A1 n1 c1,.slice A2 n2 c2] 91:=CBlk.new _ _ _ _ rfl
 have aD:=aJ.trans (aA.mono aJ.size)
 have bA:=h1.later aA
 have bC:=h2.later aA
 have bS:=aJ.size
 clear a0 a1 q0 q1 aK aL aJ h1 h2 aA
 go_upto_region 2 with (fail)
 generalize (w2.alloc (.cells #[.bool p.neg,.slice A1 n1 c1,.slice A2 n2 c2] 91))=w3 at *
 have a0:=aW.cell 0
 have a1:=aW.cell 1
 go_wp2_with fail
 refine (HR2.out w3 (hT.later aD)).mono ?_
 rintro e w4 ⟨v4,rfl,⟨A3,n3,c3,A4,n4,c4,rfl,h3,h4⟩,aF⟩
 have aU:=aD.trans (aF.mono aD.size)
 have bB:=(aR.below aF aR.lt).alloc (.cells #[.bool q.neg,.slice A3 n3 c3,.slice A4 n4 c4] 91)
 have bO:=(aO.below aF aO.lt).alloc (.cells #[.bool q.neg,.slice A3 n3 c3,.slice A4 n4 c4] 91)
 have bR:CBlk (w4.alloc (.cells #[.bool q.neg,.slice A3 n3 c3,.slice A4 n4 c4] 91)) w4.heap.size #[.bool q.neg,.slice A3 n3 c3,.slice A4 n4 c4] 91:=CBlk.new _ _ _ _ rfl
 have aA:Below w4.heap.size w4 (w4.alloc (.cells #[.bool q.neg,.slice A3 n3 c3,.slice A4 n4 c4] 91)):=(Below.refl _ _).alloc (Nat.le_refl _) _
 have aE:=aU.trans (aA.mono aU.size)
 have bP:=(bA.later aF).later aA
 have bI:=(bC.later aF).later aA
 have bD:=h3.later aA
 have bL:=h4.later aA
 clear a0 a1 aW aR aO aD aF aU bA bC h3 h4 aA
 go_upto_region 3 with (fail)
 generalize (w4.alloc (.cells #[.bool q.neg,.slice A3 n3 c3,.slice A4 n4 c4] 91))=w5 at *
 have aM:Below w.heap.size w (w5.alloc (.cells #[.int .i64 x,.int .i64 y] 26)):=aE.alloc aE.size _
 have aI:Below w5.heap.size w5 (w5.alloc (.cells #[.int .i64 x,.int .i64 y] 26)):=(Below.refl _ _).alloc (Nat.le_refl _) _
 have aQ:=bB.alloc (.cells #[.int .i64 x,.int .i64 y] 26)
 have aG:=bO.alloc (.cells #[.int .i64 x,.int .i64 y] 26)
 have aH:=bR.alloc (.cells #[.int .i64 x,.int .i64 y] 26)
 have aS:=bP.later aI
 have aP:=bI.later aI
 have aV:=bD.later aI
 have aX:=bL.later aI
 go_wp2_with fail
 refine (zaZ x y E HE.out w5 _ _ rfl).mono ?_
 rintro e w6 ⟨rfl,rfl⟩
 clear bB bO bR aE aI bP bI bD bL
 generalize (w5.alloc (.cells #[.int .i64 x,.int .i64 y] 26))=w6 at *
 have bN:=aG.cell 0
 have bF:=aG.cell 1
 have bK:=aG.cell 2
 have bH:=aH.cell 0
 have bJ:=aH.cell 1
 have aY:=aH.cell 2
 go_wp2_with fail
 refine (HC.out _ _ w6 (RatS.mk aS aP) (RatS.mk aV aX)).mono ?_
 rintro e w7 ⟨rfl,aC⟩
 have qR:=aQ.below aC aQ.lt
 have aT:=aG.below aC aG.lt
 have aN:=aH.below aC aH.lt
 have bQ:=aM.trans (aC.mono aM.size)
 have aZ:=aS.later aC
 have bE:=aP.later aC
 have bM:=aV.later aC
 have bG:=aX.later aC
 clear bN bF bK bH bJ aY aQ aG aH aC aM aS aP aV aX
 have bN:=aT.cell 0
 have bF:=aT.cell 1
 have bK:=aT.cell 2
 have bH:=aN.cell 0
 have bJ:=aN.cell 1
 have aY:=aN.cell 2
 have y0:=qR.cell 0
 have y1:=qR.cell 1
 have y2:=qR.cell 2
 have y3:=qR.cell 3
 have y4:=qR.cell 4
 have y5:=qR.cell 5
 have z0:=qR.frozen 0
 have z1:=qR.frozen 1
 have z2:=qR.frozen 2
 have z3:=qR.frozen 3
 have z4:=qR.frozen 4
 have z5:=qR.frozen 5
 have hI:=zbK (p:=p) (q:=q) qR bQ (by omega) rfl aZ bE bM bG
 unfold Go.Proofs.YteajibbphcfmeaaGreatDoor.set6 at hI
 have HI:=Lib.hid hI
 clear hI aZ bE bM bG bQ
 go_wp2
 refine bodyPost_ret (v := .tuple #[.agg #[.bool p.neg,.slice A1 n1 c1,.slice A2 n2 c2,.bool q.neg,.slice A3 n3 c3,.slice A4 n4 c4],.int .i64 0]) (by simp [results,Tryz.results111,go_sem,y0,y1,y2,y3,y4,y5]) rfl ⟨_,rfl,HI.out⟩
def za3 (l m:List UInt8):Int:=if zam l≠0 then zam l else if zam m≠0 then zam m else if 0<rcmp (zag l) (zag m) then 11 else 0
def rdLo (l m:List UInt8):Q:=if za3 l m=0 then zag l else zck
def rdHi (l m:List UInt8):Q:=if za3 l m=0 then zag m else zck
theorem zcu (s t:ByteArray) (w:World) (hT:Tabs w) (hs:s.size≤4294967296) (ht:t.size≤4294967296) :
  Calls Tryz.prog 111 #[.agg #[.string s,.string t]] w (za6 w (rdLo s.data.toList t.data.toList) (rdHi s.data.toList t.data.toList) (za3 s.data.toList t.data.toList)):=by
 have aA:=Lib.hid (fun W h=>zbC s W h hs)
 have aC:=Lib.hid (fun W h=>zbC t W h ht)
 by_cases hx:zam s.data.toList=0
 ·by_cases hy:zam t.data.toList=0
  ·have l1:=zaB hx
   have l2:=zaB hy
   have lp:LenQ (zag s.data.toList) 268435456:=⟨by omega,by omega⟩
   have lq:LenQ (zag t.data.toList) 268435456:=⟨by omega,by omega⟩
   by_cases ho:0<rcmp (zag s.data.toList) (zag t.data.toList)
   ·have e:za3 s.data.toList t.data.toList=11:=by unfold za3;rw [if_neg (by simpa using hx),if_neg (by simpa using hy),if_pos ho]
    have h:=zfB _ _ _ _ s t w hT ⟨hx,hy⟩ ho lp lq aA aC
    unfold rdLo rdHi
    rw [e,if_neg (by omega)]
    exact h
   ·have e:za3 s.data.toList t.data.toList=0:=by unfold za3;rw [if_neg (by simpa using hx),if_neg (by simpa using hy),if_neg ho]
    have h:=zhz _ _ _ _ s t w hT ⟨hx,hy⟩ (by exact Int.not_lt.1 ho) lp lq aA aC
    unfold rdLo rdHi
    rw [e,if_pos rfl,if_pos rfl]
    exact h
  ·have e:za3 s.data.toList t.data.toList=zam t.data.toList:=by unfold za3;rw [if_neg (by simpa using hx),if_pos hy]
   have h:=zey _ _ (zam t.data.toList) _ _ s t w hT (by rw [Hid,if_neg (by simpa using hx)]) hy aA aC
   unfold rdLo rdHi
   rw [e,if_neg hy,if_neg hy]
   exact h
 ·have e:za3 s.data.toList t.data.toList=zam s.data.toList:=by unfold za3;rw [if_pos hx]
  have h:=zey _ _ (zam s.data.toList) _ _ s t w hT (by rw [Hid,if_pos hx]) hx aA aC
  unfold rdLo rdHi
  rw [e,if_neg hx,if_neg hx]
  exact h
def err2 (x y:Int):Int:=if x≠0 then x else y
end Go.Proofs.YteajibbphcfmeaaGreatDoor
