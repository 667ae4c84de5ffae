/- Contracts of package number: the text of a span, a span read. -/
import Derived.Test.YteajibbphcfmeaaGreatDoorXCo4
namespace Go.Proofs.YteajibbphcfmeaaGreatDoor
open Go.RowKit Bn
def zcq (p q:Q):Int:=if zao p≠0 then zao p else zao q
def zec (p q:Q):List UInt8:=if zcq p q=0 then zbr p else []
def zeh (p q:Q):List UInt8:=if zcq p q=0 then zbr q else []
def zdj (w:World) (l m:List UInt8) (x:Int) (e:Ending) (w':World):Prop:=∃ s t:ByteArray,e = .returned (.tuple #[.agg #[.string s,.string t],.int .i64 x])∧s.data.toList=l∧t.data.toList=m∧Below w.heap.size w w'
theorem zaV (x y E:Int) (hE:E=if x≠0 then x else y) (w:World) (t:TypeId) (g:Nat) (hg:w.heap.size=g) :
  Calls Tryz.prog 70 #[.slice (some ⟨g,0,none⟩) 2 2] (w.alloc (.cells #[.int .i64 x,.int .i64 y] t)) fun e w'=>e = .returned (.int .i64 E)∧w.alloc (.cells #[.int .i64 x,.int .i64 y] t)=w':=by
 rw [hE];exact zck x y w t g hg
theorem zbO {a w:World} {B g:Nat} (h:Below B a w) (hg:B≤g) (u v:Value):Below B a ((w.setCell ⟨g,0,none⟩ u).setCell ⟨g,1,none⟩ v):=
 (h.setCell (p:=⟨g,0,none⟩) hg _).setCell (p:=⟨g,1,none⟩) hg _
set_option maxHeartbeats 4000000 in
set_option maxRecDepth 100000 in
theorem zik (p q:Q) (E:Int) (l m:List UInt8) (v:Value) (w:World) (HE:Hid (E=if zao p≠0 then zao p else zao q)) (HL:Hid ((E=0→l=zaI p∧m=zaI q)∧(E≠0→l=[]∧m=[]))) (hT:Tabs w) (hv:ItvS w w.heap.size v p q) (hp:LenQ p 268435456) (hq:LenQ q 268435456) :
  Calls Tryz.prog 113 #[v] w (zdj w l m E):=by
 obtain ⟨A1,n1,c1,A2,n2,c2,A3,n3,c3,A4,n4,c4,rfl,h1,h2,h3,h4⟩:=hv;have aA:Below w.heap.size w ((w.alloc (.cells #[.bool p.neg,.slice A1 n1 c1,.slice A2 n2 c2,.bool q.neg,.slice A3 n3 c3,.slice A4 n4 c4] 139)).alloc (.cells #[.string { data:=#[] },.string { data:=#[] }] 74)):=(((Below.refl _ _).alloc (by simp<;>omega) _).alloc (by simp<;>omega) _);have q0:CBlk ((w.alloc (.cells #[.bool p.neg,.slice A1 n1 c1,.slice A2 n2 c2,.bool q.neg,.slice A3 n3 c3,.slice A4 n4 c4] 139)).alloc (.cells #[.string { data:=#[] },.string { data:=#[] }] 74)) (w.heap.size) #[.bool p.neg,.slice A1 n1 c1,.slice A2 n2 c2,.bool q.neg,.slice A3 n3 c3,.slice A4 n4 c4] 139:=((CBlk.new _ _ _ _ (by simp)).alloc _);have q1:CBlk ((w.alloc (.cells #[.bool p.neg,.slice A1 n1 c1,.slice A2 n2 c2,.bool q.neg,.slice A3 n3 c3,.slice A4 n4 c4] 139)).alloc (.cells #[.string { data:=#[] },.string { data:=#[] }] 74)) (w.heap.size+1) #[.string { data:=#[] },.string { data:=#[] }] 74:=(CBlk.new _ _ _ _ (by simp))
 by_cases h0:E=0
 ·have aS:(E != 0)=false:=by simpa using h0
  have H0:=Lib.hid h0;clear h0;go_enter Tryz.func113,Tryz.ntmps113
  go_upto_region 1 with (fail)
  generalize ((w.alloc (.cells #[.bool p.neg,.slice A1 n1 c1,.slice A2 n2 c2,.bool q.neg,.slice A3 n3 c3,.slice A4 n4 c4] 139)).alloc (.cells #[.string { data:=#[] },.string { data:=#[] }] 74))=W at *;have a0:=q0.cell 0;have a1:=q0.cell 1;have a2:=q0.cell 2;have aI:=hT.later aA
  go_wp2_with fail
  refine (zbN p _ W aI (RatS.mk (h1.later aA) (h2.later aA)) hp).mono ?_;rintro e w2 ⟨s2,rfl,aQ,aC⟩;have aJ:=aA.trans (aC.mono aA.size);have aE:=q0.below aC q0.lt;have aH:=q1.below aC q1.lt;have aL:=aI.later aC;have aK:=(h3.later aA).later aC;have aN:=(h4.later aA).later aC;clear a0 a1 a2 q0 q1 aA aC aI h1 h2 h3 h4 hT;have a3:=aE.cell 3;have a4:=aE.cell 4;have a5:=aE.cell 5
  go_wp2_with fail
  refine (zbN q _ w2 aL (RatS.mk aK aN) hq).mono ?_;rintro e w3 ⟨s3,rfl,aR,aG⟩;have aM:=aJ.trans (aG.mono aJ.size);have aO:=aH.below aG aH.lt;clear a3 a4 a5 aE aH aJ aG aL aK aN;have aP:Below w.heap.size w (w3.alloc (.cells #[.int .i64 (zao p),.int .i64 (zao q)] 26)):=aM.alloc aM.size _;have aD:=aO.alloc (.cells #[.int .i64 (zao p),.int .i64 (zao q)] 26)
  go_wp2_with fail
  refine (zaV (zao p) (zao q) E HE.out w3 _ _ rfl).mono ?_;rintro e w4 ⟨rfl,rfl⟩;generalize (w3.alloc (.cells #[.int .i64 (zao p),.int .i64 (zao q)] 26))=w4 at *;have y0:=aD.cell 0;have y1:=aD.cell 1;have z0:=aD.frozen 0;have z1:=aD.frozen 1;have aF:=zbO aP (g:=w.heap.size+1) (by omega) (.string s2) (.string s3);go_wp2
  refine bodyPost_ret (v := .tuple #[.agg #[.string s2,.string s3],.int .i64 0]) (by simp [results,Tryz.results113,go_sem,y0,y1]) rfl ⟨s2,s3,by rw [H0.out],by rw [aQ,(HL.out.1 H0.out).1],by rw [aR,(HL.out.1 H0.out).2],aF⟩
 ·have aS:(E != 0)=true:=by simpa using h0
  have H0:=Lib.hid h0;clear h0;go_enter Tryz.func113,Tryz.ntmps113
  go_upto_region 1 with (fail)
  generalize ((w.alloc (.cells #[.bool p.neg,.slice A1 n1 c1,.slice A2 n2 c2,.bool q.neg,.slice A3 n3 c3,.slice A4 n4 c4] 139)).alloc (.cells #[.string { data:=#[] },.string { data:=#[] }] 74))=W at *;have a0:=q0.cell 0;have a1:=q0.cell 1;have a2:=q0.cell 2;have aI:=hT.later aA
  go_wp2_with fail
  refine (zbN p _ W aI (RatS.mk (h1.later aA) (h2.later aA)) hp).mono ?_;rintro e w2 ⟨s2,rfl,aQ,aC⟩;have aJ:=aA.trans (aC.mono aA.size);have aE:=q0.below aC q0.lt;have aH:=q1.below aC q1.lt;have aL:=aI.later aC;have aK:=(h3.later aA).later aC;have aN:=(h4.later aA).later aC;clear a0 a1 a2 q0 q1 aA aC aI h1 h2 h3 h4 hT;have a3:=aE.cell 3;have a4:=aE.cell 4;have a5:=aE.cell 5
  go_wp2_with fail
  refine (zbN q _ w2 aL (RatS.mk aK aN) hq).mono ?_;rintro e w3 ⟨s3,rfl,aR,aG⟩;have aM:=aJ.trans (aG.mono aJ.size);have aO:=aH.below aG aH.lt;clear a3 a4 a5 aE aH aJ aG aL aK aN;have aP:Below w.heap.size w (w3.alloc (.cells #[.int .i64 (zao p),.int .i64 (zao q)] 26)):=aM.alloc aM.size _;have aD:=aO.alloc (.cells #[.int .i64 (zao p),.int .i64 (zao q)] 26)
  go_wp2_with fail
  refine (zaV (zao p) (zao q) E HE.out w3 _ _ rfl).mono ?_;rintro e w4 ⟨rfl,rfl⟩;generalize (w3.alloc (.cells #[.int .i64 (zao p),.int .i64 (zao q)] 26))=w4 at *;have y0:=aD.cell 0;have y1:=aD.cell 1;have z0:=aD.frozen 0;have z1:=aD.frozen 1;have aF:=zbO aP (g:=w.heap.size+1) (by omega) (.string ⟨#[]⟩) (.string ⟨#[]⟩);go_wp2
  refine bodyPost_ret (v := .tuple #[.agg #[.string ⟨#[]⟩,.string ⟨#[]⟩],.int .i64 E]) (by simp [results,Tryz.results113,go_sem,y0,y1]) rfl ⟨⟨#[]⟩,⟨#[]⟩,rfl,by rw [(HL.out.2 H0.out).1],by rw [(HL.out.2 H0.out).2],aF⟩
theorem zdF (p q:Q) (v:Value) (w:World) (hT:Tabs w) (hv:ItvS w w.heap.size v p q) (hp:LenQ p 268435456) (hq:LenQ q 268435456) :
  Calls Tryz.prog 113 #[v] w (zdj w (zec p q) (zeh p q) (zcq p q)):=by
 refine zik p q (zcq p q) (zec p q) (zeh p q) v w rfl ⟨fun e0 => ?_,fun e0=>⟨by unfold zec;rw [if_neg e0],by unfold zeh;rw [if_neg e0]⟩⟩ hT hv hp hq;have ex:zao p=0:=by
  unfold zcq at e0
  by_cases h:zao p=0
  ·exact h
  ·rw [if_pos h] at e0;exact absurd e0 h
 have ey:zao q=0:=by
  unfold zcq at e0;rw [if_neg (by simpa using ex)] at e0;exact e0
 exact ⟨by unfold zec zaI;rw [if_pos e0,if_pos ex],by unfold zeh zaI;rw [if_pos e0,if_pos ey]⟩
def zbd (w:World) (p q:Q) (x:Int) (e:Ending) (w':World):Prop:=∃ v,e = .returned (.tuple #[v,.int .i64 x])∧ItvS w' w'.heap.size v p q∧Below w.heap.size w w'
set_option maxHeartbeats 4000000 in
set_option maxRecDepth 100000 in
theorem zeO (x y E:Int) (p q:Q) (s t:ByteArray) (w:World) (hT:Tabs w) (HE:Hid (E=if x≠0 then x else y)) (H0:Hid (E≠0))
  (HR1:Hid (∀ W,Tabs W→Calls Tryz.prog 63 #[.string s] W (zau W p x))) (HR2:Hid (∀ W,Tabs W→Calls Tryz.prog 63 #[.string t] W (zau W q y))) :
  Calls Tryz.prog 111 #[.agg #[.string s,.string t]] w (zbd w zcr zcr E):=by
 have aI:Below w.heap.size w ((w.alloc (.cells #[.string s,.string t] 74)).alloc (.cells #[.bool false,.slice none 0 0,.slice none 0 0,.bool false,.slice none 0 0,.slice none 0 0] 139)):=(((Below.refl _ _).alloc (by simp<;>omega) _).alloc (by simp<;>omega) _);have q0:CBlk ((w.alloc (.cells #[.string s,.string t] 74)).alloc (.cells #[.bool false,.slice none 0 0,.slice none 0 0,.bool false,.slice none 0 0,.slice none 0 0] 139)) (w.heap.size) #[.string s,.string t] 74:=((CBlk.new _ _ _ _ (by simp)).alloc _);have q1:CBlk ((w.alloc (.cells #[.string s,.string t] 74)).alloc (.cells #[.bool false,.slice none 0 0,.slice none 0 0,.bool false,.slice none 0 0,.slice none 0 0] 139)) (w.heap.size+1) #[.bool false,.slice none 0 0,.slice none 0 0,.bool false,.slice none 0 0,.slice none 0 0] 139:=(CBlk.new _ _ _ _ (by simp));have bE:(E != 0)=true:=by simpa using H0.out
 go_enter Tryz.func111,Tryz.ntmps111
 go_upto_region 1 with (fail)
 generalize ((w.alloc (.cells #[.string s,.string t] 74)).alloc (.cells #[.bool false,.slice none 0 0,.slice none 0 0,.bool false,.slice none 0 0,.slice none 0 0] 139))=W at *;have a0:=q0.cell 0;have a1:=q0.cell 1
 go_wp2_with fail
 refine (HR1.out W (hT.later aI)).mono ?_;rintro e w2 ⟨v2,rfl,⟨A1,n1,c1,A2,n2,c2,rfl,h1,h2⟩,aG⟩;have aH:=aI.trans (aG.mono aI.size);have aL:=(q0.below aG q0.lt).alloc (.cells #[.bool p.neg,.slice A1 n1 c1,.slice A2 n2 c2] 91);have aM:=(q1.below aG q1.lt).alloc (.cells #[.bool p.neg,.slice A1 n1 c1,.slice A2 n2 c2] 91);have aA:Below w2.heap.size w2 (w2.alloc (.cells #[.bool p.neg,.slice A1 n1 c1,.slice A2 n2 c2] 91)):=(Below.refl _ _).alloc (Nat.le_refl _) _;have aK:CBlk (w2.alloc (.cells #[.bool p.neg,.slice A1 n1 c1,.slice A2 n2 c2] 91)) w2.heap.size #[.bool p.neg,.slice A1 n1 c1,.slice A2 n2 c2] 91:=CBlk.new _ _ _ _ rfl;have aC:=aH.trans (aA.mono aH.size);have aV:=h1.later aA;have aT:=h2.later aA;have aY:=aH.size;clear a0 a1 q0 q1 aI aG aH h1 h2 aA;go_upto_region 2 with (fail)
 generalize (w2.alloc (.cells #[.bool p.neg,.slice A1 n1 c1,.slice A2 n2 c2] 91))=w3 at *;have a0:=aL.cell 0;have a1:=aL.cell 1
 go_wp2_with fail
 refine (HR2.out w3 (hT.later aC)).mono ?_;rintro e w4 ⟨v4,rfl,⟨A3,n3,c3,A4,n4,c4,rfl,h3,h4⟩,aE⟩;have aJ:=aC.trans (aE.mono aC.size);have aU:=(aM.below aE aM.lt).alloc (.cells #[.bool q.neg,.slice A3 n3 c3,.slice A4 n4 c4] 91);have aQ:=(aK.below aE aK.lt).alloc (.cells #[.bool q.neg,.slice A3 n3 c3,.slice A4 n4 c4] 91);have aS:CBlk (w4.alloc (.cells #[.bool q.neg,.slice A3 n3 c3,.slice A4 n4 c4] 91)) w4.heap.size #[.bool q.neg,.slice A3 n3 c3,.slice A4 n4 c4] 91:=CBlk.new _ _ _ _ rfl;have aA:Below w4.heap.size w4 (w4.alloc (.cells #[.bool q.neg,.slice A3 n3 c3,.slice A4 n4 c4] 91)):=(Below.refl _ _).alloc (Nat.le_refl _) _;have aD:=aJ.trans (aA.mono aJ.size);have aP:=(aV.later aE).later aA;have aR:=(aT.later aE).later aA;have aO:=h3.later aA;have aN:=h4.later aA;clear a0 a1 aL aM aK aC aE aJ aV aT h3 h4 aA;go_upto_region 3 with (fail)
 generalize (w4.alloc (.cells #[.bool q.neg,.slice A3 n3 c3,.slice A4 n4 c4] 91))=w5 at *;have aW:Below w.heap.size w (w5.alloc (.cells #[.int .i64 x,.int .i64 y] 26)):=aD.alloc aD.size _;have aF:Below w5.heap.size w5 (w5.alloc (.cells #[.int .i64 x,.int .i64 y] 26)):=(Below.refl _ _).alloc (Nat.le_refl _) _;have aZ:=aU.alloc (.cells #[.int .i64 x,.int .i64 y] 26);have bG:=aQ.alloc (.cells #[.int .i64 x,.int .i64 y] 26);have bB:=aS.alloc (.cells #[.int .i64 x,.int .i64 y] 26);have bF:=aP.later aF;have bD:=aR.later aF;have bC:=aO.later aF;have bA:=aN.later aF
 go_wp2_with fail
 refine (zaV x y E HE.out w5 _ _ rfl).mono ?_;rintro e w6 ⟨rfl,rfl⟩;clear aU aQ aS aD aF aP aR aO aN;generalize (w5.alloc (.cells #[.int .i64 x,.int .i64 y] 26))=w6 at *;have qR:=aZ;have aX:=aW;have y0:=qR.cell 0;have y1:=qR.cell 1;have y2:=qR.cell 2;have y3:=qR.cell 3;have y4:=qR.cell 4;have y5:=qR.cell 5;have z0:=qR.frozen 0;have z1:=qR.frozen 1;have z2:=qR.frozen 2;have z3:=qR.frozen 3;have z4:=qR.frozen 4;have z5:=qR.frozen 5;have hI:=zbV (p:=zcr) (q:=zcr) qR aX (by omega) rfl (NatS.nil _ _) (NatS.nil _ _) (NatS.nil _ _) (NatS.nil _ _);unfold Go.Proofs.YteajibbphcfmeaaGreatDoor.set6 at hI;go_wp2
 refine bodyPost_ret (v := .tuple #[.agg #[.bool false,.slice none 0 0,.slice none 0 0,.bool false,.slice none 0 0,.slice none 0 0],.int .i64 E]) (by simp [results,Tryz.results111,go_sem,y0,y1,y2,y3,y4,y5]) rfl ⟨_,rfl,hI⟩
set_option maxHeartbeats 4000000 in
set_option maxRecDepth 100000 in
theorem zfO (x y:Int) (p q:Q) (s t:ByteArray) (w:World) (hT:Tabs w) (HX:Hid (x=0∧y=0)) (HO:Hid (0<rcmp p q)) (lp:LenQ p 268435456) (lq:LenQ q 268435456)
  (HR1:Hid (∀ W,Tabs W→Calls Tryz.prog 63 #[.string s] W (zau W p x))) (HR2:Hid (∀ W,Tabs W→Calls Tryz.prog 63 #[.string t] W (zau W q y))) :
  Calls Tryz.prog 111 #[.agg #[.string s,.string t]] w (zbd w zcr zcr 11):=by
 have aI:Below w.heap.size w ((w.alloc (.cells #[.string s,.string t] 74)).alloc (.cells #[.bool false,.slice none 0 0,.slice none 0 0,.bool false,.slice none 0 0,.slice none 0 0] 139)):=(((Below.refl _ _).alloc (by simp<;>omega) _).alloc (by simp<;>omega) _);have q0:CBlk ((w.alloc (.cells #[.string s,.string t] 74)).alloc (.cells #[.bool false,.slice none 0 0,.slice none 0 0,.bool false,.slice none 0 0,.slice none 0 0] 139)) (w.heap.size) #[.string s,.string t] 74:=((CBlk.new _ _ _ _ (by simp)).alloc _);have q1:CBlk ((w.alloc (.cells #[.string s,.string t] 74)).alloc (.cells #[.bool false,.slice none 0 0,.slice none 0 0,.bool false,.slice none 0 0,.slice none 0 0] 139)) (w.heap.size+1) #[.bool false,.slice none 0 0,.slice none 0 0,.bool false,.slice none 0 0,.slice none 0 0] 139:=(CBlk.new _ _ _ _ (by simp));obtain ⟨E,hE⟩:∃ E,E=if x≠0 then x else y:=⟨_,rfl⟩
 have HE:=Lib.hid hE;have bJ:(E != 0)=false:=by rw [hE,HX.out.1,HX.out.2];rfl
 have HC:=Lib.hid (fun v u W h1 h2=>zbe p q v u W h1 h2 lp lq);obtain ⟨r,hr⟩:∃ r,r=rcmp p q:=⟨_,rfl⟩;rw [←hr] at HC HO;have d1:decide (0<r)=true:=by simpa using HO.out
 clear hE hr;go_enter Tryz.func111,Tryz.ntmps111
 go_upto_region 1 with (fail)
 generalize ((w.alloc (.cells #[.string s,.string t] 74)).alloc (.cells #[.bool false,.slice none 0 0,.slice none 0 0,.bool false,.slice none 0 0,.slice none 0 0] 139))=W at *;have a0:=q0.cell 0;have a1:=q0.cell 1
 go_wp2_with fail
 refine (HR1.out W (hT.later aI)).mono ?_;rintro e w2 ⟨v2,rfl,⟨A1,n1,c1,A2,n2,c2,rfl,h1,h2⟩,aG⟩;have aH:=aI.trans (aG.mono aI.size);have aM:=(q0.below aG q0.lt).alloc (.cells #[.bool p.neg,.slice A1 n1 c1,.slice A2 n2 c2] 91);have aN:=(q1.below aG q1.lt).alloc (.cells #[.bool p.neg,.slice A1 n1 c1,.slice A2 n2 c2] 91);have aA:Below w2.heap.size w2 (w2.alloc (.cells #[.bool p.neg,.slice A1 n1 c1,.slice A2 n2 c2] 91)):=(Below.refl _ _).alloc (Nat.le_refl _) _;have aL:CBlk (w2.alloc (.cells #[.bool p.neg,.slice A1 n1 c1,.slice A2 n2 c2] 91)) w2.heap.size #[.bool p.neg,.slice A1 n1 c1,.slice A2 n2 c2] 91:=CBlk.new _ _ _ _ rfl;have aC:=aH.trans (aA.mono aH.size);have aY:=h1.later aA;have aX:=h2.later aA;have bG:=aH.size;clear a0 a1 q0 q1 aI aG aH h1 h2 aA;go_upto_region 2 with (fail)
 generalize (w2.alloc (.cells #[.bool p.neg,.slice A1 n1 c1,.slice A2 n2 c2] 91))=w3 at *;have a0:=aM.cell 0;have a1:=aM.cell 1
 go_wp2_with fail
 refine (HR2.out w3 (hT.later aC)).mono ?_;rintro e w4 ⟨v4,rfl,⟨A3,n3,c3,A4,n4,c4,rfl,h3,h4⟩,aE⟩;have aK:=aC.trans (aE.mono aC.size);have bA:=(aN.below aE aN.lt).alloc (.cells #[.bool q.neg,.slice A3 n3 c3,.slice A4 n4 c4] 91);have aT:=(aL.below aE aL.lt).alloc (.cells #[.bool q.neg,.slice A3 n3 c3,.slice A4 n4 c4] 91);have aV:CBlk (w4.alloc (.cells #[.bool q.neg,.slice A3 n3 c3,.slice A4 n4 c4] 91)) w4.heap.size #[.bool q.neg,.slice A3 n3 c3,.slice A4 n4 c4] 91:=CBlk.new _ _ _ _ rfl;have aA:Below w4.heap.size w4 (w4.alloc (.cells #[.bool q.neg,.slice A3 n3 c3,.slice A4 n4 c4] 91)):=(Below.refl _ _).alloc (Nat.le_refl _) _;have aD:=aK.trans (aA.mono aK.size);have aS:=(aY.later aE).later aA;have aU:=(aX.later aE).later aA;have aR:=h3.later aA;have aP:=h4.later aA;clear a0 a1 aM aN aL aC aE aK aY aX h3 h4 aA;go_upto_region 3 with (fail)
 generalize (w4.alloc (.cells #[.bool q.neg,.slice A3 n3 c3,.slice A4 n4 c4] 91))=w5 at *;have aW:Below w.heap.size w (w5.alloc (.cells #[.int .i64 x,.int .i64 y] 26)):=aD.alloc aD.size _;have aF:Below w5.heap.size w5 (w5.alloc (.cells #[.int .i64 x,.int .i64 y] 26)):=(Below.refl _ _).alloc (Nat.le_refl _) _;have aZ:=bA.alloc (.cells #[.int .i64 x,.int .i64 y] 26);have aO:=aT.alloc (.cells #[.int .i64 x,.int .i64 y] 26);have aJ:=aV.alloc (.cells #[.int .i64 x,.int .i64 y] 26);have bE:=aS.later aF;have bD:=aU.later aF;have bC:=aR.later aF;have bB:=aP.later aF
 go_wp2_with fail
 refine (zaV x y E HE.out w5 _ _ rfl).mono ?_;rintro e w6 ⟨rfl,rfl⟩;clear bA aT aV aD aF aS aU aR aP;generalize (w5.alloc (.cells #[.int .i64 x,.int .i64 y] 26))=w6 at *;have bM:=aO.cell 0;have bK:=aO.cell 1;have bH:=aO.cell 2;have bL:=aJ.cell 0;have bN:=aJ.cell 1;have bI:=aJ.cell 2
 go_wp2_with fail
 refine (HC.out _ _ w6 (RatS.mk bE bD) (RatS.mk bC bB)).mono ?_;rintro e w7 ⟨rfl,aQ⟩;have qR:=aZ.below aQ aZ.lt;have bF:=aW.trans (aQ.mono aW.size);have y0:=qR.cell 0;have y1:=qR.cell 1;have y2:=qR.cell 2;have y3:=qR.cell 3;have y4:=qR.cell 4;have y5:=qR.cell 5;have z0:=qR.frozen 0;have z1:=qR.frozen 1;have z2:=qR.frozen 2;have z3:=qR.frozen 3;have z4:=qR.frozen 4;have z5:=qR.frozen 5;have hI:=zbV (p:=zcr) (q:=zcr) qR bF (by omega) rfl (NatS.nil _ _) (NatS.nil _ _) (NatS.nil _ _) (NatS.nil _ _);unfold Go.Proofs.YteajibbphcfmeaaGreatDoor.set6 at hI;go_wp2
 refine bodyPost_ret (v := .tuple #[.agg #[.bool false,.slice none 0 0,.slice none 0 0,.bool false,.slice none 0 0,.slice none 0 0],.int .i64 11]) (by simp [results,Tryz.results111,go_sem,y0,y1,y2,y3,y4,y5]) rfl ⟨_,rfl,hI⟩
set_option maxHeartbeats 4000000 in
set_option maxRecDepth 100000 in
theorem zhO (x y:Int) (p q:Q) (s t:ByteArray) (w:World) (hT:Tabs w) (HX:Hid (x=0∧y=0)) (HO:Hid (rcmp p q≤0)) (lp:LenQ p 268435456) (lq:LenQ q 268435456)
  (HR1:Hid (∀ W,Tabs W→Calls Tryz.prog 63 #[.string s] W (zau W p x))) (HR2:Hid (∀ W,Tabs W→Calls Tryz.prog 63 #[.string t] W (zau W q y))) :
  Calls Tryz.prog 111 #[.agg #[.string s,.string t]] w (zbd w p q 0):=by
 have aL:Below w.heap.size w ((w.alloc (.cells #[.string s,.string t] 74)).alloc (.cells #[.bool false,.slice none 0 0,.slice none 0 0,.bool false,.slice none 0 0,.slice none 0 0] 139)):=(((Below.refl _ _).alloc (by simp<;>omega) _).alloc (by simp<;>omega) _);have q0:CBlk ((w.alloc (.cells #[.string s,.string t] 74)).alloc (.cells #[.bool false,.slice none 0 0,.slice none 0 0,.bool false,.slice none 0 0,.slice none 0 0] 139)) (w.heap.size) #[.string s,.string t] 74:=((CBlk.new _ _ _ _ (by simp)).alloc _);have q1:CBlk ((w.alloc (.cells #[.string s,.string t] 74)).alloc (.cells #[.bool false,.slice none 0 0,.slice none 0 0,.bool false,.slice none 0 0,.slice none 0 0] 139)) (w.heap.size+1) #[.bool false,.slice none 0 0,.slice none 0 0,.bool false,.slice none 0 0,.slice none 0 0] 139:=(CBlk.new _ _ _ _ (by simp));obtain ⟨E,hE⟩:∃ E,E=if x≠0 then x else y:=⟨_,rfl⟩
 have HE:=Lib.hid hE;have bT:(E != 0)=false:=by rw [hE,HX.out.1,HX.out.2];rfl
 have HC:=Lib.hid (fun v u W h1 h2=>zbe p q v u W h1 h2 lp lq);obtain ⟨r,hr⟩:∃ r,r=rcmp p q:=⟨_,rfl⟩;rw [←hr] at HC HO;have d1:decide (0<r)=false:=by have:=HO.out;simp;omega
 clear hE hr;go_enter Tryz.func111,Tryz.ntmps111
 go_upto_region 1 with (fail)
 generalize ((w.alloc (.cells #[.string s,.string t] 74)).alloc (.cells #[.bool false,.slice none 0 0,.slice none 0 0,.bool false,.slice none 0 0,.slice none 0 0] 139))=W at *;have a0:=q0.cell 0;have a1:=q0.cell 1
 go_wp2_with fail
 refine (HR1.out W (hT.later aL)).mono ?_;rintro e w2 ⟨v2,rfl,⟨A1,n1,c1,A2,n2,c2,rfl,h1,h2⟩,aJ⟩;have aK:=aL.trans (aJ.mono aL.size);have aR:=(q0.below aJ q0.lt).alloc (.cells #[.bool p.neg,.slice A1 n1 c1,.slice A2 n2 c2] 91);have aU:=(q1.below aJ q1.lt).alloc (.cells #[.bool p.neg,.slice A1 n1 c1,.slice A2 n2 c2] 91);have aA:Below w2.heap.size w2 (w2.alloc (.cells #[.bool p.neg,.slice A1 n1 c1,.slice A2 n2 c2] 91)):=(Below.refl _ _).alloc (Nat.le_refl _) _;have aP:CBlk (w2.alloc (.cells #[.bool p.neg,.slice A1 n1 c1,.slice A2 n2 c2] 91)) w2.heap.size #[.bool p.neg,.slice A1 n1 c1,.slice A2 n2 c2] 91:=CBlk.new _ _ _ _ rfl;have aD:=aK.trans (aA.mono aK.size);have bM:=h1.later aA;have bK:=h2.later aA;have bS:=aK.size;clear a0 a1 q0 q1 aL aJ aK h1 h2 aA;go_upto_region 2 with (fail)
 generalize (w2.alloc (.cells #[.bool p.neg,.slice A1 n1 c1,.slice A2 n2 c2] 91))=w3 at *;have a0:=aR.cell 0;have a1:=aR.cell 1
 go_wp2_with fail
 refine (HR2.out w3 (hT.later aD)).mono ?_;rintro e w4 ⟨v4,rfl,⟨A3,n3,c3,A4,n4,c4,rfl,h3,h4⟩,aG⟩;have aN:=aD.trans (aG.mono aD.size);have bP:=(aU.below aG aU.lt).alloc (.cells #[.bool q.neg,.slice A3 n3 c3,.slice A4 n4 c4] 91);have bC:=(aP.below aG aP.lt).alloc (.cells #[.bool q.neg,.slice A3 n3 c3,.slice A4 n4 c4] 91);have bG:CBlk (w4.alloc (.cells #[.bool q.neg,.slice A3 n3 c3,.slice A4 n4 c4] 91)) w4.heap.size #[.bool q.neg,.slice A3 n3 c3,.slice A4 n4 c4] 91:=CBlk.new _ _ _ _ rfl;have aA:Below w4.heap.size w4 (w4.alloc (.cells #[.bool q.neg,.slice A3 n3 c3,.slice A4 n4 c4] 91)):=(Below.refl _ _).alloc (Nat.le_refl _) _;have aE:=aN.trans (aA.mono aN.size);have bB:=(bM.later aG).later aA;have bE:=(bK.later aG).later aA;have aZ:=h3.later aA;have aY:=h4.later aA;clear a0 a1 aR aU aP aD aG aN bM bK h3 h4 aA;go_upto_region 3 with (fail)
 generalize (w4.alloc (.cells #[.bool q.neg,.slice A3 n3 c3,.slice A4 n4 c4] 91))=w5 at *;have aW:Below w.heap.size w (w5.alloc (.cells #[.int .i64 x,.int .i64 y] 26)):=aE.alloc aE.size _;have aI:Below w5.heap.size w5 (w5.alloc (.cells #[.int .i64 x,.int .i64 y] 26)):=(Below.refl _ _).alloc (Nat.le_refl _) _;have aX:=bP.alloc (.cells #[.int .i64 x,.int .i64 y] 26);have aH:=bC.alloc (.cells #[.int .i64 x,.int .i64 y] 26);have aF:=bG.alloc (.cells #[.int .i64 x,.int .i64 y] 26);have aV:=bB.later aI;have aS:=bE.later aI;have aQ:=aZ.later aI;have aM:=aY.later aI
 go_wp2_with fail
 refine (zaV x y E HE.out w5 _ _ rfl).mono ?_;rintro e w6 ⟨rfl,rfl⟩;clear bP bC bG aE aI bB bE aZ aY;generalize (w5.alloc (.cells #[.int .i64 x,.int .i64 y] 26))=w6 at *;have bL:=aH.cell 0;have bH:=aH.cell 1;have bA:=aH.cell 2;have bJ:=aF.cell 0;have bQ:=aF.cell 1;have bD:=aF.cell 2
 go_wp2_with fail
 refine (HC.out _ _ w6 (RatS.mk aV aS) (RatS.mk aQ aM)).mono ?_;rintro e w7 ⟨rfl,aC⟩;have qR:=aX.below aC aX.lt;have aT:=aH.below aC aH.lt;have aO:=aF.below aC aF.lt;have bI:=aW.trans (aC.mono aW.size);have bF:=aV.later aC;have bO:=aS.later aC;have bN:=aQ.later aC;have bR:=aM.later aC;clear bL bH bA bJ bQ bD aX aH aF aC aW aV aS aQ aM;have bL:=aT.cell 0;have bH:=aT.cell 1;have bA:=aT.cell 2;have bJ:=aO.cell 0;have bQ:=aO.cell 1;have bD:=aO.cell 2;have y0:=qR.cell 0;have y1:=qR.cell 1;have y2:=qR.cell 2;have y3:=qR.cell 3;have y4:=qR.cell 4;have y5:=qR.cell 5;have z0:=qR.frozen 0;have z1:=qR.frozen 1;have z2:=qR.frozen 2;have z3:=qR.frozen 3;have z4:=qR.frozen 4;have z5:=qR.frozen 5;have hI:=zbV (p:=p) (q:=q) qR bI (by omega) rfl bF bO bN bR;unfold Go.Proofs.YteajibbphcfmeaaGreatDoor.set6 at hI;have HI:=Lib.hid hI;clear hI bF bO bN bR bI;go_wp2
 refine bodyPost_ret (v := .tuple #[.agg #[.bool p.neg,.slice A1 n1 c1,.slice A2 n2 c2,.bool q.neg,.slice A3 n3 c3,.slice A4 n4 c4],.int .i64 0]) (by simp [results,Tryz.results111,go_sem,y0,y1,y2,y3,y4,y5]) rfl ⟨_,rfl,HI.out⟩
def za6 (l m:List UInt8):Int:=if zae l≠0 then zae l else if zae m≠0 then zae m else if 0<rcmp (zab l) (zab m) then 11 else 0
def rdLo (l m:List UInt8):Q:=if za6 l m=0 then zab l else zcr
def rdHi (l m:List UInt8):Q:=if za6 l m=0 then zab m else zcr
theorem zcC (s t:ByteArray) (w:World) (hT:Tabs w) (hs:s.size≤4294967296) (ht:t.size≤4294967296) :
  Calls Tryz.prog 111 #[.agg #[.string s,.string t]] w (zbd w (rdLo s.data.toList t.data.toList) (rdHi s.data.toList t.data.toList) (za6 s.data.toList t.data.toList)):=by
 have aC:=Lib.hid (fun W h=>zbj s W h hs);have aA:=Lib.hid (fun W h=>zbj t W h ht)
 by_cases hx:zae s.data.toList=0
 ·by_cases hy:zae t.data.toList=0
  ·have l1:=zam hx
   have l2:=zam hy;have lp:LenQ (zab s.data.toList) 268435456:=⟨by omega,by omega⟩;have lq:LenQ (zab t.data.toList) 268435456:=⟨by omega,by omega⟩
   by_cases ho:0<rcmp (zab s.data.toList) (zab t.data.toList)
   ·have e:za6 s.data.toList t.data.toList=11:=by unfold za6;rw [if_neg (by simpa using hx),if_neg (by simpa using hy),if_pos ho]
    have h:=zfO _ _ _ _ s t w hT ⟨hx,hy⟩ ho lp lq aC aA;unfold rdLo rdHi;rw [e,if_neg (by omega)];exact h
   ·have e:za6 s.data.toList t.data.toList=0:=by unfold za6;rw [if_neg (by simpa using hx),if_neg (by simpa using hy),if_neg ho]
    have h:=zhO _ _ _ _ s t w hT ⟨hx,hy⟩ (by exact Int.not_lt.1 ho) lp lq aC aA;unfold rdLo rdHi;rw [e,if_pos rfl,if_pos rfl];exact h
  ·have e:za6 s.data.toList t.data.toList=zae t.data.toList:=by unfold za6;rw [if_neg (by simpa using hx),if_pos hy]
   have h:=zeO _ _ (zae t.data.toList) _ _ s t w hT (by rw [Hid,if_neg (by simpa using hx)]) hy aC aA;unfold rdLo rdHi;rw [e,if_neg hy,if_neg hy];exact h
 ·have e:za6 s.data.toList t.data.toList=zae s.data.toList:=by unfold za6;rw [if_pos hx]
  have h:=zeO _ _ (zae s.data.toList) _ _ s t w hT (by rw [Hid,if_pos hx]) hx aC aA;unfold rdLo rdHi;rw [e,if_neg hx,if_neg hx];exact h
def err2 (x y:Int):Int:=if x≠0 then x else y
set_option maxHeartbeats 4000000 in
set_option maxRecDepth 100000 in
theorem zhY (fo:FuncId) (x y E:Int) (p q:Q) (s t:ByteArray) (w:World) (hT:Tabs w) (HE:Hid (E=if x≠0 then x else y)) (H0:Hid (E≠0))
  (HR1:Hid (∀ W,Tabs W→Calls Tryz.prog 63 #[.string s] W (zau W p x))) (HR2:Hid (∀ W,Tabs W→Calls Tryz.prog 63 #[.string t] W (zau W q y))) :
  Calls Tryz.prog 64 #[.string s,.string t,.func (.func 63) #[] #[],.func (.func fo) #[] #[],.func (.func 66) #[] #[]] w (zaR w [] E):=by
 have er:=fun aE w=>show (callFunc 63 aE).run Tryz.prog w = .ok (.enter 63 aE) w from by kernel_rfl
 have aW:(E != 0)=true:=by simpa using H0.out
 go_enter Tryz.func64,Tryz.ntmps64
 go_wp2_with fail
 refine (HR1.out w hT).mono ?_;rintro e w2 ⟨v2,rfl,⟨A1,n1,c1,A2,n2,c2,rfl,h1,h2⟩,aI⟩;have aA:Below w2.heap.size w2 (w2.alloc (.cells #[.bool p.neg,.slice A1 n1 c1,.slice A2 n2 c2] 91)):=(Below.refl _ _).alloc (Nat.le_refl _) _;have q0:CBlk (w2.alloc (.cells #[.bool p.neg,.slice A1 n1 c1,.slice A2 n2 c2] 91)) w2.heap.size #[.bool p.neg,.slice A1 n1 c1,.slice A2 n2 c2] 91:=CBlk.new _ _ _ _ rfl;have aF:=aI.trans (aA.mono aI.size);have aJ:=h1.later aA;have aP:=h2.later aA;clear h1 h2 aA aI;go_upto_region 2 with (fail)
 generalize (w2.alloc (.cells #[.bool p.neg,.slice A1 n1 c1,.slice A2 n2 c2] 91))=w3 at *
 go_wp2_with fail
 refine (HR2.out w3 (hT.later aF)).mono ?_;rintro e w4 ⟨v4,rfl,⟨A3,n3,c3,A4,n4,c4,rfl,h3,h4⟩,aC⟩;have aA:Below w4.heap.size w4 (w4.alloc (.cells #[.bool q.neg,.slice A3 n3 c3,.slice A4 n4 c4] 91)):=(Below.refl _ _).alloc (Nat.le_refl _) _;have aQ:=(q0.below aC q0.lt).alloc (.cells #[.bool q.neg,.slice A3 n3 c3,.slice A4 n4 c4] 91);have aN:CBlk (w4.alloc (.cells #[.bool q.neg,.slice A3 n3 c3,.slice A4 n4 c4] 91)) w4.heap.size #[.bool q.neg,.slice A3 n3 c3,.slice A4 n4 c4] 91:=CBlk.new _ _ _ _ rfl;have aG:=aF.trans (aC.mono aF.size);have aH:=aG.trans (aA.mono aG.size);have aO:=(aJ.later aC).later aA;have aM:=(aP.later aC).later aA;have aK:=h3.later aA;have aL:=h4.later aA;clear q0 aF aJ aP h3 h4 aC aA aG;go_upto_region 3 with (fail)
 generalize (w4.alloc (.cells #[.bool q.neg,.slice A3 n3 c3,.slice A4 n4 c4] 91))=w5 at *;have aR:Below w.heap.size w (w5.alloc (.cells #[.int .i64 x,.int .i64 y] 26)):=aH.alloc aH.size _;have aD:Below w5.heap.size w5 (w5.alloc (.cells #[.int .i64 x,.int .i64 y] 26)):=(Below.refl _ _).alloc (Nat.le_refl _) _;have aU:=aQ.alloc (.cells #[.int .i64 x,.int .i64 y] 26);have aY:=aN.alloc (.cells #[.int .i64 x,.int .i64 y] 26);have aX:=aO.later aD;have aV:=aM.later aD;have aT:=aK.later aD;have aS:=aL.later aD
 go_wp2_with fail
 refine (zaV x y E HE.out w5 _ _ rfl).mono ?_;rintro e w6 ⟨rfl,rfl⟩;clear aQ aN aH aD aO aM aK aL;generalize (w5.alloc (.cells #[.int .i64 x,.int .i64 y] 26))=w6 at *;go_wp2
 go_ret2
 exact ⟨⟨#[]⟩,rfl,rfl,aR⟩
set_option maxHeartbeats 4000000 in
set_option maxRecDepth 100000 in
theorem zkc (fo:FuncId) (p q r:Q) (s t:ByteArray) (w:World) (hT:Tabs w) (eo:∀ args w,(callFunc fo args).run Tryz.prog w = .ok (.enter fo args) w) (lr:LenQ r 268435456)
  (HR1:Hid (∀ W,Tabs W→Calls Tryz.prog 63 #[.string s] W (zau W p 0))) (HR2:Hid (∀ W,Tabs W→Calls Tryz.prog 63 #[.string t] W (zau W q 0)))
  (HO:Hid (∀ v u W,Tabs W→RatS W W.heap.size v p→RatS W W.heap.size u q→Calls Tryz.prog fo #[v,u] W (zaU W r))) :
  Calls Tryz.prog 64 #[.string s,.string t,.func (.func 63) #[] #[],.func (.func fo) #[] #[],.func (.func 66) #[] #[]] w (zaR w (zaI r) (zao r)):=by
 have er:=fun args w=>show (callFunc 63 args).run Tryz.prog w = .ok (.enter 63 args) w from by kernel_rfl
 have ew:=fun args w=>show (callFunc 66 args).run Tryz.prog w = .ok (.enter 66 args) w from by kernel_rfl
 obtain ⟨E,hE⟩:∃ E:Int,E=if (0:Int)≠0 then 0 else 0:=⟨_,rfl⟩
 obtain ⟨x,hx⟩:∃ x:Int,x=0:=⟨_,rfl⟩;obtain ⟨y,hy⟩:∃ y:Int,y=0:=⟨_,rfl⟩;have bD:(E != 0)=false:=by rw [hE];rfl
 have HE:Hid (E=if x≠0 then x else y):=by rw [Hid,hE,hx,hy]
 rw [←hx] at HR1;rw [←hy] at HR2;have HX:=Lib.hid hx;have HY:=Lib.hid hy;clear hE hx hy;go_enter Tryz.func64,Tryz.ntmps64
 go_wp2_with fail
 refine (HR1.out w hT).mono ?_;rintro e w2 ⟨v2,rfl,⟨A1,n1,c1,A2,n2,c2,rfl,h1,h2⟩,aI⟩;have aA:Below w2.heap.size w2 (w2.alloc (.cells #[.bool p.neg,.slice A1 n1 c1,.slice A2 n2 c2] 91)):=(Below.refl _ _).alloc (Nat.le_refl _) _;have q0:CBlk (w2.alloc (.cells #[.bool p.neg,.slice A1 n1 c1,.slice A2 n2 c2] 91)) w2.heap.size #[.bool p.neg,.slice A1 n1 c1,.slice A2 n2 c2] 91:=CBlk.new _ _ _ _ rfl;have aE:=aI.trans (aA.mono aI.size);have aL:=h1.later aA;have aU:=h2.later aA;clear h1 h2 aA aI;go_upto_region 2 with (fail)
 generalize (w2.alloc (.cells #[.bool p.neg,.slice A1 n1 c1,.slice A2 n2 c2] 91))=w3 at *
 go_wp2_with fail
 refine (HR2.out w3 (hT.later aE)).mono ?_;rintro e w4 ⟨v4,rfl,⟨A3,n3,c3,A4,n4,c4,rfl,h3,h4⟩,aC⟩;have aA:Below w4.heap.size w4 (w4.alloc (.cells #[.bool q.neg,.slice A3 n3 c3,.slice A4 n4 c4] 91)):=(Below.refl _ _).alloc (Nat.le_refl _) _;have aV:=(q0.below aC q0.lt).alloc (.cells #[.bool q.neg,.slice A3 n3 c3,.slice A4 n4 c4] 91);have aS:CBlk (w4.alloc (.cells #[.bool q.neg,.slice A3 n3 c3,.slice A4 n4 c4] 91)) w4.heap.size #[.bool q.neg,.slice A3 n3 c3,.slice A4 n4 c4] 91:=CBlk.new _ _ _ _ rfl;have aF:=aE.trans (aC.mono aE.size);have aG:=aF.trans (aA.mono aF.size);have aT:=(aL.later aC).later aA;have aP:=(aU.later aC).later aA;have aN:=h3.later aA;have aO:=h4.later aA;clear q0 aE aL aU h3 h4 aC aA aF;go_upto_region 3 with (fail)
 generalize (w4.alloc (.cells #[.bool q.neg,.slice A3 n3 c3,.slice A4 n4 c4] 91))=w5 at *;have aJ:Below w.heap.size w (w5.alloc (.cells #[.int .i64 x,.int .i64 y] 26)):=aG.alloc aG.size _;have aD:Below w5.heap.size w5 (w5.alloc (.cells #[.int .i64 x,.int .i64 y] 26)):=(Below.refl _ _).alloc (Nat.le_refl _) _;have aH:=aV.alloc (.cells #[.int .i64 x,.int .i64 y] 26);have aK:=aS.alloc (.cells #[.int .i64 x,.int .i64 y] 26);have bA:=aT.later aD;have aY:=aP.later aD;have aX:=aN.later aD;have aW:=aO.later aD
 go_wp2_with fail
 refine (zaV x y E HE.out w5 _ _ rfl).mono ?_;rintro e w6 ⟨rfl,rfl⟩;clear aV aS aG aD aT aP aN aO;generalize (w5.alloc (.cells #[.int .i64 x,.int .i64 y] 26))=w6 at *;have bG:=aH.cell 0;have bE:=aH.cell 1;have bB:=aH.cell 2;have bF:=aK.cell 0;have bH:=aK.cell 1;have bC:=aK.cell 2;have aR:=hT.later aJ
 go_wp2_with fail
 refine (HO.out _ _ w6 aR (RatS.mk bA aY) (RatS.mk aX aW)).mono ?_;rintro e w7 ⟨v7,rfl,h7,aM⟩;have aQ:=aJ.trans (aM.mono aJ.size)
 go_wp2_with fail
 refine (zbN r _ w7 (aR.later aM) h7 lr).mono ?_;rintro e w8 ⟨z,rfl,hz,aZ⟩;go_wp2
 go_ret2
 exact ⟨z,rfl,hz,aQ.trans (aZ.mono aQ.size)⟩
theorem zc3 (fo:FuncId) (r:Q→Q→Q) (s t:ByteArray) (w:World) (hT:Tabs w) (hs:s.size≤4294967296) (ht:t.size≤4294967296) (eo:∀ args w,(callFunc fo args).run Tryz.prog w = .ok (.enter fo args) w)
  (lr:zae s.data.toList=0→zae t.data.toList=0→LenQ (r (zab s.data.toList) (zab t.data.toList)) 268435456)
  (HO:zae s.data.toList=0→zae t.data.toList=0→∀ v u W,Tabs W→RatS W W.heap.size v (zab s.data.toList)→RatS W W.heap.size u (zab t.data.toList)→Calls Tryz.prog fo #[v,u] W (zaU W (r (zab s.data.toList) (zab t.data.toList)))) :
  Calls Tryz.prog 64 #[.string s,.string t,.func (.func 63) #[] #[],.func (.func fo) #[] #[],.func (.func 66) #[] #[]] w
   (zaR w (if err2 (zae s.data.toList) (zae t.data.toList)≠0 then [] else zaI (r (zab s.data.toList) (zab t.data.toList))) (if err2 (zae s.data.toList) (zae t.data.toList)≠0 then err2 (zae s.data.toList) (zae t.data.toList) else zao (r (zab s.data.toList) (zab t.data.toList)))):=by
 have aD:=Lib.hid (fun W h=>zbj s W h hs);have aE:=Lib.hid (fun W h=>zbj t W h ht)
 by_cases h0:err2 (zae s.data.toList) (zae t.data.toList)=0
 ·rw [if_neg (by simpa using h0),if_neg (by simpa using h0)]
  have hx:zae s.data.toList=0:=by
   unfold err2 at h0
   by_cases h:zae s.data.toList=0
   ·exact h
   ·rw [if_pos h] at h0;exact absurd h0 h
  have hy:zae t.data.toList=0:=by
   unfold err2 at h0
   rwa [if_neg (by simpa using hx)] at h0
  have aF:=Lib.hid (HO hx hy);have aG:=lr hx hy;have aC:Hid (∀ W,Tabs W→Calls Tryz.prog 63 #[.string s] W (zau W (zab s.data.toList) 0)):=fun W h=>by have:=aD.out W h;rwa [hx] at this
  have aA:Hid (∀ W,Tabs W→Calls Tryz.prog 63 #[.string t] W (zau W (zab t.data.toList) 0)):=fun W h=>by have:=aE.out W h;rwa [hy] at this
  exact zkc fo _ _ _ s t w hT eo aG aC aA aF
 ·rw [if_pos h0,if_pos h0]
  exact zhY fo _ _ _ _ _ s t w hT rfl h0 aD aE
def addR (p q:Q):Q:=zdi p q
set_option maxHeartbeats 1000000 in
set_option maxRecDepth 100000 in
theorem zgx (s t:ByteArray) (w:World) (hT:Tabs w) (hs:s.size≤4294967296) (ht:t.size≤4294967296) :
  Calls Tryz.prog 12 #[.string s,.string t] w
   (zaR w (if err2 (zae s.data.toList) (zae t.data.toList)≠0 then [] else zaI (addR (zab s.data.toList) (zab t.data.toList))) (if err2 (zae s.data.toList) (zae t.data.toList)≠0 then err2 (zae s.data.toList) (zae t.data.toList) else zao (addR (zab s.data.toList) (zab t.data.toList)))):=by
 have hc:=zc3 65 addR s t w hT hs ht (fun aA w=>by kernel_rfl) (fun hx hy=>(zbl (K:=600) (L:=600) (zam hx) (zam hy)).mono (by omega)) (fun hx hy v u W h1 h2 h3=>zhP _ _ v u W h1 h2 h3 (LenQ.mono (zam hx) (by omega)) (LenQ.mono (zam hy) (by omega)));generalize (if err2 (zae s.data.toList) (zae t.data.toList)≠0 then [] else zaI (addR (zab s.data.toList) (zab t.data.toList)))=l at *
 generalize (if err2 (zae s.data.toList) (zae t.data.toList)≠0 then err2 (zae s.data.toList) (zae t.data.toList) else zao (addR (zab s.data.toList) (zab t.data.toList)))=x at *
 have HC:=Lib.hid hc;clear hc;go_enter Tryz.func12,Tryz.ntmps12
 go_wp2_with fail
 refine HC.out.mono ?_;rintro e w1 ⟨z,rfl,hz,aC⟩;go_wp2
 go_ret2
 exact ⟨z,rfl,hz,aC⟩
def subR (p q:Q):Q:=zaZ p q
set_option maxHeartbeats 1000000 in
set_option maxRecDepth 100000 in
theorem zgX (s t:ByteArray) (w:World) (hT:Tabs w) (hs:s.size≤4294967296) (ht:t.size≤4294967296) :
  Calls Tryz.prog 13 #[.string s,.string t] w
   (zaR w (if err2 (zae s.data.toList) (zae t.data.toList)≠0 then [] else zaI (subR (zab s.data.toList) (zab t.data.toList))) (if err2 (zae s.data.toList) (zae t.data.toList)≠0 then err2 (zae s.data.toList) (zae t.data.toList) else zao (subR (zab s.data.toList) (zab t.data.toList)))):=by
 have hc:=zc3 67 subR s t w hT hs ht (fun aA w=>by kernel_rfl) (fun hx hy=>(zbl (K:=600) (L:=600) (zam hx) (zbE (zam hy))).mono (by omega)) (fun hx hy v u W h1 h2 h3=>zcz _ _ v u W h1 h2 h3 (LenQ.mono (zam hx) (by omega)) (LenQ.mono (zam hy) (by omega)));generalize (if err2 (zae s.data.toList) (zae t.data.toList)≠0 then [] else zaI (subR (zab s.data.toList) (zab t.data.toList)))=l at *
 generalize (if err2 (zae s.data.toList) (zae t.data.toList)≠0 then err2 (zae s.data.toList) (zae t.data.toList) else zao (subR (zab s.data.toList) (zab t.data.toList)))=x at *
 have HC:=Lib.hid hc;clear hc;go_enter Tryz.func13,Tryz.ntmps13
 go_wp2_with fail
 refine HC.out.mono ?_;rintro e w1 ⟨z,rfl,hz,aC⟩;go_wp2
 go_ret2
 exact ⟨z,rfl,hz,aC⟩
def mulR (p q:Q):Q:=lowQ (p.neg != q.neg) (p.top*q.top) (p.bot*q.bot)
set_option maxHeartbeats 1000000 in
set_option maxRecDepth 100000 in
theorem zgH (s t:ByteArray) (w:World) (hT:Tabs w) (hs:s.size≤4294967296) (ht:t.size≤4294967296) :
  Calls Tryz.prog 14 #[.string s,.string t] w
   (zaR w (if err2 (zae s.data.toList) (zae t.data.toList)≠0 then [] else zaI (mulR (zab s.data.toList) (zab t.data.toList))) (if err2 (zae s.data.toList) (zae t.data.toList)≠0 then err2 (zae s.data.toList) (zae t.data.toList) else zao (mulR (zab s.data.toList) (zab t.data.toList)))):=by
 have hc:=zc3 68 mulR s t w hT hs ht (fun aA w=>by kernel_rfl) (fun hx hy=>(zbf (K:=600) (L:=600) _ (zam hx) (zam hy) (by omega)).mono (by omega)) (fun hx hy v u W h1 h2 h3=>zdv _ _ v u W h1 h2 h3 (LenQ.mono (zam hx) (by omega)) (LenQ.mono (zam hy) (by omega)));generalize (if err2 (zae s.data.toList) (zae t.data.toList)≠0 then [] else zaI (mulR (zab s.data.toList) (zab t.data.toList)))=l at *
 generalize (if err2 (zae s.data.toList) (zae t.data.toList)≠0 then err2 (zae s.data.toList) (zae t.data.toList) else zao (mulR (zab s.data.toList) (zab t.data.toList)))=x at *
 have HC:=Lib.hid hc;clear hc;go_enter Tryz.func14,Tryz.ntmps14
 go_wp2_with fail
 refine HC.out.mono ?_;rintro e w1 ⟨z,rfl,hz,aC⟩;go_wp2
 go_ret2
 exact ⟨z,rfl,hz,aC⟩
def divR (p q:Q):Q:=lowQ (p.neg != q.neg) (p.top*q.bot) (p.bot*q.top)
set_option maxHeartbeats 1000000 in
set_option maxRecDepth 100000 in
theorem zg0 (s t:ByteArray) (w:World) (hT:Tabs w) (hs:s.size≤4294967296) (ht:t.size≤4294967296) :
  Calls Tryz.prog 15 #[.string s,.string t] w
   (zaR w (if err2 (zae s.data.toList) (zae t.data.toList)≠0 then [] else zaI (divR (zab s.data.toList) (zab t.data.toList))) (if err2 (zae s.data.toList) (zae t.data.toList)≠0 then err2 (zae s.data.toList) (zae t.data.toList) else zao (divR (zab s.data.toList) (zab t.data.toList)))):=by
 have hc:=zc3 69 divR s t w hT hs ht (fun aA w=>by kernel_rfl) (fun hx hy=>(zbm (K:=600) (L:=600) _ (zam hx) (zam hy) (by omega)).mono (by omega)) (fun hx hy v u W h1 h2 h3=>zdQ _ _ v u W h1 h2 h3 (LenQ.mono (zam hx) (by omega)) (LenQ.mono (zam hy) (by omega)));generalize (if err2 (zae s.data.toList) (zae t.data.toList)≠0 then [] else zaI (divR (zab s.data.toList) (zab t.data.toList)))=l at *
 generalize (if err2 (zae s.data.toList) (zae t.data.toList)≠0 then err2 (zae s.data.toList) (zae t.data.toList) else zao (divR (zab s.data.toList) (zab t.data.toList)))=x at *
 have HC:=Lib.hid hc;clear hc;go_enter Tryz.func15,Tryz.ntmps15
 go_wp2_with fail
 refine HC.out.mono ?_;rintro e w1 ⟨z,rfl,hz,aC⟩;go_wp2
 go_ret2
 exact ⟨z,rfl,hz,aC⟩
end Go.Proofs.YteajibbphcfmeaaGreatDoor
