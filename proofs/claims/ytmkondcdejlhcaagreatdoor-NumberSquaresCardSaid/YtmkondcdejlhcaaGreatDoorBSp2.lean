/- Contracts of package number: the text of a span, a span read. -/
import Derived.Test.YtmkondcdejlhcaaGreatDoorBSp1
set_option maxRecDepth 100000
set_option maxHeartbeats 4000000
namespace Go.Proofs.YtmkondcdejlhcaaGreatDoor
open Go.RowKit Bn
def zcj (p q:Q):Int:=if zao p≠0 then zao p else zao q
def zd6 (p q:Q):List UInt8:=if zcj p q=0 then zaq p else []
def zd5 (p q:Q):List UInt8:=if zcj p q=0 then zaq q else []
def zde (w:World) (l m:List UInt8) (x:Int) (e:Ending) (w':World):Prop:=∃ s t:ByteArray,e = .returned (.tuple #[.agg #[.string s,.string t],.int .i64 x])∧s.data.toList=l∧t.data.toList=m∧Below w.heap.size w w'
theorem za7 (x y E:Int) (hE:E=if x≠0 then x else y) (w:World) (t:TypeId) (g:Nat) (hg:w.heap.size=g) :
  Calls Tryz.prog 69 #[.slice (some ⟨g,0,none⟩) 2 2] (w.alloc (.cells #[.int .i64 x,.int .i64 y] t)) fun e w'=>e = .returned (.int .i64 E)∧w.alloc (.cells #[.int .i64 x,.int .i64 y] t)=w':=by
 rw [hE];exact zcN x y w t g hg
theorem zbH {a w:World} {B g:Nat} (h:Below B a w) (hg:B≤g) (u v:Value):Below B a ((w.setCell ⟨g,0,none⟩ u).setCell ⟨g,1,none⟩ v):=
 (h.setCell (p:=⟨g,0,none⟩) hg _).setCell (p:=⟨g,1,none⟩) hg _
theorem zkg (p q:Q) (E:Int) (l m:List UInt8) (v:Value) (w:World) (HE:Hid (E=if zao p≠0 then zao p else zao q)) (HL:Hid ((E=0→l=zaJ p∧m=zaJ q)∧(E≠0→l=[]∧m=[]))) (hT:Tabs w) (hv:ItvS w w.heap.size v p q) (hp:LenQ p 268435456) (hq:LenQ q 268435456) :
  Calls Tryz.prog 80 #[v] w (zde w l m E):=by
 obtain ⟨A1,n1,c1,A2,n2,c2,A3,n3,c3,A4,n4,c4,rfl,h1,h2,h3,h4⟩:=hv;have aA:Below w.heap.size w ((w.alloc (.cells #[.bool p.neg,.slice A1 n1 c1,.slice A2 n2 c2,.bool q.neg,.slice A3 n3 c3,.slice A4 n4 c4] 107)).alloc (.cells #[.string ⟨#[]⟩,.string ⟨#[]⟩] 39)):=(((Below.refl _ _).alloc (by simp<;>omega) _).alloc (by simp<;>omega) _);have q0:CBlk ((w.alloc (.cells #[.bool p.neg,.slice A1 n1 c1,.slice A2 n2 c2,.bool q.neg,.slice A3 n3 c3,.slice A4 n4 c4] 107)).alloc (.cells #[.string ⟨#[]⟩,.string ⟨#[]⟩] 39)) (w.heap.size) #[.bool p.neg,.slice A1 n1 c1,.slice A2 n2 c2,.bool q.neg,.slice A3 n3 c3,.slice A4 n4 c4] 107:=((CBlk.new _ _ _ _ (by simp)).alloc _);have q1:CBlk ((w.alloc (.cells #[.bool p.neg,.slice A1 n1 c1,.slice A2 n2 c2,.bool q.neg,.slice A3 n3 c3,.slice A4 n4 c4] 107)).alloc (.cells #[.string ⟨#[]⟩,.string ⟨#[]⟩] 39)) (w.heap.size+1) #[.string ⟨#[]⟩,.string ⟨#[]⟩] 39:=(CBlk.new _ _ _ _ (by simp))
 by_cases h0:E=0
 ·have aS:(E != 0)=false:=by simpa using h0
  have H0:=Aa h0;clear h0;go_enter Tryz.func80,Tryz.ntmps80
  go_upto_region 1 with (fail)
  generalize ((w.alloc (.cells #[.bool p.neg,.slice A1 n1 c1,.slice A2 n2 c2,.bool q.neg,.slice A3 n3 c3,.slice A4 n4 c4] 107)).alloc (.cells #[.string ⟨#[]⟩,.string ⟨#[]⟩] 39))=W at *;have a0:=q0.cell 0;have a1:=q0.cell 1;have a2:=q0.cell 2;have aF:=hT.later aA
  go_wp2_with fail
  refine (zcc p _ W aF (RatS.mk (h1.later aA) (h2.later aA)) hp).mono ?_;rintro e w2 ⟨s2,rfl,aR,aC⟩;have aI:=Ad aA aC;have aE:=q0.below aC q0.lt;have aG:=q1.below aC q1.lt;have aM:=aF.later aC;have aL:=(h3.later aA).later aC;have aN:=(h4.later aA).later aC;clear a0 a1 a2 q0 q1 aA aC aF h1 h2 h3 h4 hT;have a3:=aE.cell 3;have a4:=aE.cell 4;have a5:=aE.cell 5
  go_wp2_with fail
  refine (zcc q _ w2 aM (RatS.mk aL aN) hq).mono ?_;rintro e w3 ⟨s3,rfl,aQ,aH⟩;have aK:=Ad aI aH;have aP:=aG.below aH aG.lt;clear a3 a4 a5 aE aG aI aH aM aL aN;have aO:Below w.heap.size w (w3.alloc (.cells #[.int .i64 (zao p),.int .i64 (zao q)] 26)):=aK.alloc aK.size _;have aD:=aP.alloc (.cells #[.int .i64 (zao p),.int .i64 (zao q)] 26)
  go_wp2_with fail
  refine (za7 (zao p) (zao q) E HE.out w3 _ _ rfl).mono ?_;rintro e w4 ⟨rfl,rfl⟩;generalize (w3.alloc (.cells #[.int .i64 (zao p),.int .i64 (zao q)] 26))=w4 at *;have y0:=aD.cell 0;have y1:=aD.cell 1;have z0:=aD.frozen 0;have z1:=aD.frozen 1;have aJ:=zbH aO (g:=w.heap.size+1) (by omega) (.string s2) (.string s3);go_wp2
  refine bodyPost_ret (v := .tuple #[.agg #[.string s2,.string s3],.int .i64 0]) (by simp [results,Tryz.results80,go_sem,y0,y1]) rfl ⟨s2,s3,by rw [H0.out],by rw [aR,(HL.out.1 H0.out).1],by rw [aQ,(HL.out.1 H0.out).2],aJ⟩
 ·have aS:(E != 0)=true:=by simpa using h0
  have H0:=Aa h0;clear h0;go_enter Tryz.func80,Tryz.ntmps80
  go_upto_region 1 with (fail)
  generalize ((w.alloc (.cells #[.bool p.neg,.slice A1 n1 c1,.slice A2 n2 c2,.bool q.neg,.slice A3 n3 c3,.slice A4 n4 c4] 107)).alloc (.cells #[.string ⟨#[]⟩,.string ⟨#[]⟩] 39))=W at *;have a0:=q0.cell 0;have a1:=q0.cell 1;have a2:=q0.cell 2;have aF:=hT.later aA
  go_wp2_with fail
  refine (zcc p _ W aF (RatS.mk (h1.later aA) (h2.later aA)) hp).mono ?_;rintro e w2 ⟨s2,rfl,aR,aC⟩;have aI:=Ad aA aC;have aE:=q0.below aC q0.lt;have aG:=q1.below aC q1.lt;have aM:=aF.later aC;have aL:=(h3.later aA).later aC;have aN:=(h4.later aA).later aC;clear a0 a1 a2 q0 q1 aA aC aF h1 h2 h3 h4 hT;have a3:=aE.cell 3;have a4:=aE.cell 4;have a5:=aE.cell 5
  go_wp2_with fail
  refine (zcc q _ w2 aM (RatS.mk aL aN) hq).mono ?_;rintro e w3 ⟨s3,rfl,aQ,aH⟩;have aK:=Ad aI aH;have aP:=aG.below aH aG.lt;clear a3 a4 a5 aE aG aI aH aM aL aN;have aO:Below w.heap.size w (w3.alloc (.cells #[.int .i64 (zao p),.int .i64 (zao q)] 26)):=aK.alloc aK.size _;have aD:=aP.alloc (.cells #[.int .i64 (zao p),.int .i64 (zao q)] 26)
  go_wp2_with fail
  refine (za7 (zao p) (zao q) E HE.out w3 _ _ rfl).mono ?_;rintro e w4 ⟨rfl,rfl⟩;generalize (w3.alloc (.cells #[.int .i64 (zao p),.int .i64 (zao q)] 26))=w4 at *;have y0:=aD.cell 0;have y1:=aD.cell 1;have z0:=aD.frozen 0;have z1:=aD.frozen 1;have aJ:=zbH aO (g:=w.heap.size+1) (by omega) (.string ⟨#[]⟩) (.string ⟨#[]⟩);go_wp2
  refine bodyPost_ret (v := .tuple #[.agg #[.string ⟨#[]⟩,.string ⟨#[]⟩],.int .i64 E]) (by simp [results,Tryz.results80,go_sem,y0,y1]) rfl ⟨⟨#[]⟩,⟨#[]⟩,rfl,by rw [(HL.out.2 H0.out).1],by rw [(HL.out.2 H0.out).2],aJ⟩
theorem zer (p q:Q) (v:Value) (w:World) (hT:Tabs w) (hv:ItvS w w.heap.size v p q) (hp:LenQ p 268435456) (hq:LenQ q 268435456) :
  Calls Tryz.prog 80 #[v] w (zde w (zd6 p q) (zd5 p q) (zcj p q)):=by
 refine zkg p q (zcj p q) (zd6 p q) (zd5 p q) v w rfl ⟨fun e0 => ?_,fun e0=>⟨by unfold zd6;rw [if_neg e0],by unfold zd5;rw [if_neg e0]⟩⟩ hT hv hp hq;have ex:zao p=0:=by
  unfold zcj at e0
  by_cases h:zao p=0
  ·exact h
  ·rw [if_pos h] at e0;exact absurd e0 h
 have ey:zao q=0:=by
  unfold zcj at e0;rw [if_neg (by simpa using ex)] at e0;exact e0
 exact ⟨by unfold zd6 zaJ;rw [if_pos e0,if_pos ex],by unfold zd5 zaJ;rw [if_pos e0,if_pos ey]⟩
def zbv (w:World) (p q:Q) (x:Int) (e:Ending) (w':World):Prop:=∃ v,e = .returned (.tuple #[v,.int .i64 x])∧ItvS w' w'.heap.size v p q∧Below w.heap.size w w'
theorem zf3 (x y E:Int) (p q:Q) (s t:ByteArray) (w:World) (hT:Tabs w) (HE:Hid (E=if x≠0 then x else y)) (H0:Hid (E≠0))
  (HR1:Hid (∀ W,Tabs W→Calls Tryz.prog 62 #[.string s] W (zax W p x))) (HR2:Hid (∀ W,Tabs W→Calls Tryz.prog 62 #[.string t] W (zax W q y))) :
  Calls Tryz.prog 78 #[.agg #[.string s,.string t]] w (zbv w zdc zdc E):=by
 have aI:Below w.heap.size w ((w.alloc (.cells #[.string s,.string t] 39)).alloc (.cells #[.bool false,.slice none 0 0,.slice none 0 0,.bool false,.slice none 0 0,.slice none 0 0] 107)):=(((Below.refl _ _).alloc (by simp<;>omega) _).alloc (by simp<;>omega) _);have q0:CBlk ((w.alloc (.cells #[.string s,.string t] 39)).alloc (.cells #[.bool false,.slice none 0 0,.slice none 0 0,.bool false,.slice none 0 0,.slice none 0 0] 107)) (w.heap.size) #[.string s,.string t] 39:=((CBlk.new _ _ _ _ (by simp)).alloc _);have q1:CBlk ((w.alloc (.cells #[.string s,.string t] 39)).alloc (.cells #[.bool false,.slice none 0 0,.slice none 0 0,.bool false,.slice none 0 0,.slice none 0 0] 107)) (w.heap.size+1) #[.bool false,.slice none 0 0,.slice none 0 0,.bool false,.slice none 0 0,.slice none 0 0] 107:=(CBlk.new _ _ _ _ (by simp));have bE:(E != 0)=true:=by simpa using H0.out
 go_enter Tryz.func78,Tryz.ntmps78
 go_upto_region 1 with (fail)
 generalize ((w.alloc (.cells #[.string s,.string t] 39)).alloc (.cells #[.bool false,.slice none 0 0,.slice none 0 0,.bool false,.slice none 0 0,.slice none 0 0] 107))=W at *;have a0:=q0.cell 0;have a1:=q0.cell 1
 go_wp2_with fail
 refine (HR1.out W (hT.later aI)).mono ?_;rintro e w2 ⟨v2,rfl,⟨A1,n1,c1,A2,n2,c2,rfl,h1,h2⟩,aH⟩;have aG:=Ad aI aH;have aJ:=(q0.below aH q0.lt).alloc (.cells #[.bool p.neg,.slice A1 n1 c1,.slice A2 n2 c2] 91);have aM:=(q1.below aH q1.lt).alloc (.cells #[.bool p.neg,.slice A1 n1 c1,.slice A2 n2 c2] 91);have aA:Below w2.heap.size w2 (w2.alloc (.cells #[.bool p.neg,.slice A1 n1 c1,.slice A2 n2 c2] 91)):=Ac;have aK:CBlk (w2.alloc (.cells #[.bool p.neg,.slice A1 n1 c1,.slice A2 n2 c2] 91)) w2.heap.size #[.bool p.neg,.slice A1 n1 c1,.slice A2 n2 c2] 91:=CBlk.new _ _ _ _ rfl;have aC:=Ad aG aA;have aQ:=h1.later aA;have aS:=h2.later aA;have bB:=aG.size;clear a0 a1 q0 q1 aI aH aG h1 h2 aA;go_upto_region 2 with (fail)
 generalize (w2.alloc (.cells #[.bool p.neg,.slice A1 n1 c1,.slice A2 n2 c2] 91))=w3 at *;have a0:=aJ.cell 0;have a1:=aJ.cell 1
 go_wp2_with fail
 refine (HR2.out w3 (hT.later aC)).mono ?_;rintro e w4 ⟨v4,rfl,⟨A3,n3,c3,A4,n4,c4,rfl,h3,h4⟩,aE⟩;have aL:=Ad aC aE;have aR:=(aM.below aE aM.lt).alloc (.cells #[.bool q.neg,.slice A3 n3 c3,.slice A4 n4 c4] 91);have aN:=(aK.below aE aK.lt).alloc (.cells #[.bool q.neg,.slice A3 n3 c3,.slice A4 n4 c4] 91);have aU:CBlk (w4.alloc (.cells #[.bool q.neg,.slice A3 n3 c3,.slice A4 n4 c4] 91)) w4.heap.size #[.bool q.neg,.slice A3 n3 c3,.slice A4 n4 c4] 91:=CBlk.new _ _ _ _ rfl;have aA:Below w4.heap.size w4 (w4.alloc (.cells #[.bool q.neg,.slice A3 n3 c3,.slice A4 n4 c4] 91)):=Ac;have aD:=Ad aL aA;have aO:=(aQ.later aE).later aA;have aT:=(aS.later aE).later aA;have aV:=h3.later aA;have aP:=h4.later aA;clear a0 a1 aJ aM aK aC aE aL aQ aS h3 h4 aA;go_upto_region 3 with (fail)
 generalize (w4.alloc (.cells #[.bool q.neg,.slice A3 n3 c3,.slice A4 n4 c4] 91))=w5 at *;have aZ:Below w.heap.size w (w5.alloc (.cells #[.int .i64 x,.int .i64 y] 26)):=aD.alloc aD.size _;have aF:Below w5.heap.size w5 (w5.alloc (.cells #[.int .i64 x,.int .i64 y] 26)):=Ac;have aW:=aR.alloc (.cells #[.int .i64 x,.int .i64 y] 26);have bF:=aN.alloc (.cells #[.int .i64 x,.int .i64 y] 26);have bI:=aU.alloc (.cells #[.int .i64 x,.int .i64 y] 26);have bC:=aO.later aF;have bD:=aT.later aF;have bG:=aV.later aF;have bH:=aP.later aF
 go_wp2_with fail
 refine (za7 x y E HE.out w5 _ _ rfl).mono ?_;rintro e w6 ⟨rfl,rfl⟩;clear aR aN aU aD aF aO aT aV aP;generalize (w5.alloc (.cells #[.int .i64 x,.int .i64 y] 26))=w6 at *;have qR:=aW;have bA:=aZ;have y0:=qR.cell 0;have y1:=qR.cell 1;have y2:=qR.cell 2;have y3:=qR.cell 3;have y4:=qR.cell 4;have y5:=qR.cell 5;have z0:=qR.frozen 0;have z1:=qR.frozen 1;have z2:=qR.frozen 2;have z3:=qR.frozen 3;have z4:=qR.frozen 4;have z5:=qR.frozen 5;have hI:=zbS (p:=zdc) (q:=zdc) qR bA (by omega) rfl (NatS.nil _ _) (NatS.nil _ _) (NatS.nil _ _) (NatS.nil _ _);unfold Go.Proofs.YtmkondcdejlhcaaGreatDoor.set6 at hI;go_wp2
 refine bodyPost_ret (v := .tuple #[.agg #[.bool false,.slice none 0 0,.slice none 0 0,.bool false,.slice none 0 0,.slice none 0 0],.int .i64 E]) (by simp [results,Tryz.results78,go_sem,y0,y1,y2,y3,y4,y5]) rfl ⟨_,rfl,hI⟩
theorem zha (x y:Int) (p q:Q) (s t:ByteArray) (w:World) (hT:Tabs w) (HX:Hid (x=0∧y=0)) (HO:Hid (0<rcmp p q)) (lp:LenQ p 268435456) (lq:LenQ q 268435456)
  (HR1:Hid (∀ W,Tabs W→Calls Tryz.prog 62 #[.string s] W (zax W p x))) (HR2:Hid (∀ W,Tabs W→Calls Tryz.prog 62 #[.string t] W (zax W q y))) :
  Calls Tryz.prog 78 #[.agg #[.string s,.string t]] w (zbv w zdc zdc 11):=by
 have aI:Below w.heap.size w ((w.alloc (.cells #[.string s,.string t] 39)).alloc (.cells #[.bool false,.slice none 0 0,.slice none 0 0,.bool false,.slice none 0 0,.slice none 0 0] 107)):=(((Below.refl _ _).alloc (by simp<;>omega) _).alloc (by simp<;>omega) _);have q0:CBlk ((w.alloc (.cells #[.string s,.string t] 39)).alloc (.cells #[.bool false,.slice none 0 0,.slice none 0 0,.bool false,.slice none 0 0,.slice none 0 0] 107)) (w.heap.size) #[.string s,.string t] 39:=((CBlk.new _ _ _ _ (by simp)).alloc _);have q1:CBlk ((w.alloc (.cells #[.string s,.string t] 39)).alloc (.cells #[.bool false,.slice none 0 0,.slice none 0 0,.bool false,.slice none 0 0,.slice none 0 0] 107)) (w.heap.size+1) #[.bool false,.slice none 0 0,.slice none 0 0,.bool false,.slice none 0 0,.slice none 0 0] 107:=(CBlk.new _ _ _ _ (by simp));obtain ⟨E,hE⟩:∃ E,E=if x≠0 then x else y:=⟨_,rfl⟩
 have HE:=Aa hE;have bL:(E != 0)=false:=by rw [hE,HX.out.1,HX.out.2];rfl
 have HC:=Aa (fun v u W h1 h2=>zbx p q v u W h1 h2 lp lq);obtain ⟨r,hr⟩:∃ r,r=rcmp p q:=⟨_,rfl⟩;rw [←hr] at HC HO;have d1:decide (0<r)=true:=by simpa using HO.out
 clear hE hr;go_enter Tryz.func78,Tryz.ntmps78
 go_upto_region 1 with (fail)
 generalize ((w.alloc (.cells #[.string s,.string t] 39)).alloc (.cells #[.bool false,.slice none 0 0,.slice none 0 0,.bool false,.slice none 0 0,.slice none 0 0] 107))=W at *;have a0:=q0.cell 0;have a1:=q0.cell 1
 go_wp2_with fail
 refine (HR1.out W (hT.later aI)).mono ?_;rintro e w2 ⟨v2,rfl,⟨A1,n1,c1,A2,n2,c2,rfl,h1,h2⟩,aH⟩;have aG:=Ad aI aH;have aJ:=(q0.below aH q0.lt).alloc (.cells #[.bool p.neg,.slice A1 n1 c1,.slice A2 n2 c2] 91);have aO:=(q1.below aH q1.lt).alloc (.cells #[.bool p.neg,.slice A1 n1 c1,.slice A2 n2 c2] 91);have aA:Below w2.heap.size w2 (w2.alloc (.cells #[.bool p.neg,.slice A1 n1 c1,.slice A2 n2 c2] 91)):=Ac;have aL:CBlk (w2.alloc (.cells #[.bool p.neg,.slice A1 n1 c1,.slice A2 n2 c2] 91)) w2.heap.size #[.bool p.neg,.slice A1 n1 c1,.slice A2 n2 c2] 91:=CBlk.new _ _ _ _ rfl;have aC:=Ad aG aA;have aU:=h1.later aA;have aW:=h2.later aA;have bI:=aG.size;clear a0 a1 q0 q1 aI aH aG h1 h2 aA;go_upto_region 2 with (fail)
 generalize (w2.alloc (.cells #[.bool p.neg,.slice A1 n1 c1,.slice A2 n2 c2] 91))=w3 at *;have a0:=aJ.cell 0;have a1:=aJ.cell 1
 go_wp2_with fail
 refine (HR2.out w3 (hT.later aC)).mono ?_;rintro e w4 ⟨v4,rfl,⟨A3,n3,c3,A4,n4,c4,rfl,h3,h4⟩,aE⟩;have aM:=Ad aC aE;have aV:=(aO.below aE aO.lt).alloc (.cells #[.bool q.neg,.slice A3 n3 c3,.slice A4 n4 c4] 91);have aP:=(aL.below aE aL.lt).alloc (.cells #[.bool q.neg,.slice A3 n3 c3,.slice A4 n4 c4] 91);have bA:CBlk (w4.alloc (.cells #[.bool q.neg,.slice A3 n3 c3,.slice A4 n4 c4] 91)) w4.heap.size #[.bool q.neg,.slice A3 n3 c3,.slice A4 n4 c4] 91:=CBlk.new _ _ _ _ rfl;have aA:Below w4.heap.size w4 (w4.alloc (.cells #[.bool q.neg,.slice A3 n3 c3,.slice A4 n4 c4] 91)):=Ac;have aD:=Ad aM aA;have aR:=(aU.later aE).later aA;have aZ:=(aW.later aE).later aA;have bB:=h3.later aA;have aT:=h4.later aA;clear a0 a1 aJ aO aL aC aE aM aU aW h3 h4 aA;go_upto_region 3 with (fail)
 generalize (w4.alloc (.cells #[.bool q.neg,.slice A3 n3 c3,.slice A4 n4 c4] 91))=w5 at *;have aS:Below w.heap.size w (w5.alloc (.cells #[.int .i64 x,.int .i64 y] 26)):=aD.alloc aD.size _;have aF:Below w5.heap.size w5 (w5.alloc (.cells #[.int .i64 x,.int .i64 y] 26)):=Ac;have aQ:=aV.alloc (.cells #[.int .i64 x,.int .i64 y] 26);have aK:=aP.alloc (.cells #[.int .i64 x,.int .i64 y] 26);have aN:=bA.alloc (.cells #[.int .i64 x,.int .i64 y] 26);have bD:=aR.later aF;have bE:=aZ.later aF;have bG:=bB.later aF;have bH:=aT.later aF
 go_wp2_with fail
 refine (za7 x y E HE.out w5 _ _ rfl).mono ?_;rintro e w6 ⟨rfl,rfl⟩;clear aV aP bA aD aF aR aZ bB aT;generalize (w5.alloc (.cells #[.int .i64 x,.int .i64 y] 26))=w6 at *;have bJ:=aK.cell 0;have bK:=aK.cell 1;have bO:=aK.cell 2;have bN:=aN.cell 0;have bP:=aN.cell 1;have bM:=aN.cell 2
 go_wp2_with fail
 refine (HC.out _ _ w6 (RatS.mk bD bE) (RatS.mk bG bH)).mono ?_;rintro e w7 ⟨rfl,bC⟩;have qR:=aQ.below bC aQ.lt;have bF:=Ad aS bC;have y0:=qR.cell 0;have y1:=qR.cell 1;have y2:=qR.cell 2;have y3:=qR.cell 3;have y4:=qR.cell 4;have y5:=qR.cell 5;have z0:=qR.frozen 0;have z1:=qR.frozen 1;have z2:=qR.frozen 2;have z3:=qR.frozen 3;have z4:=qR.frozen 4;have z5:=qR.frozen 5;have hI:=zbS (p:=zdc) (q:=zdc) qR bF (by omega) rfl (NatS.nil _ _) (NatS.nil _ _) (NatS.nil _ _) (NatS.nil _ _);unfold Go.Proofs.YtmkondcdejlhcaaGreatDoor.set6 at hI;go_wp2
 refine bodyPost_ret (v := .tuple #[.agg #[.bool false,.slice none 0 0,.slice none 0 0,.bool false,.slice none 0 0,.slice none 0 0],.int .i64 11]) (by simp [results,Tryz.results78,go_sem,y0,y1,y2,y3,y4,y5]) rfl ⟨_,rfl,hI⟩
theorem zkG (x y:Int) (p q:Q) (s t:ByteArray) (w:World) (hT:Tabs w) (HX:Hid (x=0∧y=0)) (HO:Hid (rcmp p q≤0)) (lp:LenQ p 268435456) (lq:LenQ q 268435456)
  (HR1:Hid (∀ W,Tabs W→Calls Tryz.prog 62 #[.string s] W (zax W p x))) (HR2:Hid (∀ W,Tabs W→Calls Tryz.prog 62 #[.string t] W (zax W q y))) :
  Calls Tryz.prog 78 #[.agg #[.string s,.string t]] w (zbv w p q 0):=by
 have aL:Below w.heap.size w ((w.alloc (.cells #[.string s,.string t] 39)).alloc (.cells #[.bool false,.slice none 0 0,.slice none 0 0,.bool false,.slice none 0 0,.slice none 0 0] 107)):=(((Below.refl _ _).alloc (by simp<;>omega) _).alloc (by simp<;>omega) _);have q0:CBlk ((w.alloc (.cells #[.string s,.string t] 39)).alloc (.cells #[.bool false,.slice none 0 0,.slice none 0 0,.bool false,.slice none 0 0,.slice none 0 0] 107)) (w.heap.size) #[.string s,.string t] 39:=((CBlk.new _ _ _ _ (by simp)).alloc _);have q1:CBlk ((w.alloc (.cells #[.string s,.string t] 39)).alloc (.cells #[.bool false,.slice none 0 0,.slice none 0 0,.bool false,.slice none 0 0,.slice none 0 0] 107)) (w.heap.size+1) #[.bool false,.slice none 0 0,.slice none 0 0,.bool false,.slice none 0 0,.slice none 0 0] 107:=(CBlk.new _ _ _ _ (by simp));obtain ⟨E,hE⟩:∃ E,E=if x≠0 then x else y:=⟨_,rfl⟩
 have HE:=Aa hE;have bV:(E != 0)=false:=by rw [hE,HX.out.1,HX.out.2];rfl
 have HC:=Aa (fun v u W h1 h2=>zbx p q v u W h1 h2 lp lq);obtain ⟨r,hr⟩:∃ r,r=rcmp p q:=⟨_,rfl⟩;rw [←hr] at HC HO;have d1:decide (0<r)=false:=by have:=HO.out;simp;omega
 clear hE hr;go_enter Tryz.func78,Tryz.ntmps78
 go_upto_region 1 with (fail)
 generalize ((w.alloc (.cells #[.string s,.string t] 39)).alloc (.cells #[.bool false,.slice none 0 0,.slice none 0 0,.bool false,.slice none 0 0,.slice none 0 0] 107))=W at *;have a0:=q0.cell 0;have a1:=q0.cell 1
 go_wp2_with fail
 refine (HR1.out W (hT.later aL)).mono ?_;rintro e w2 ⟨v2,rfl,⟨A1,n1,c1,A2,n2,c2,rfl,h1,h2⟩,aK⟩;have aJ:=Ad aL aK;have aP:=(q0.below aK q0.lt).alloc (.cells #[.bool p.neg,.slice A1 n1 c1,.slice A2 n2 c2] 91);have aZ:=(q1.below aK q1.lt).alloc (.cells #[.bool p.neg,.slice A1 n1 c1,.slice A2 n2 c2] 91);have aA:Below w2.heap.size w2 (w2.alloc (.cells #[.bool p.neg,.slice A1 n1 c1,.slice A2 n2 c2] 91)):=Ac;have aU:CBlk (w2.alloc (.cells #[.bool p.neg,.slice A1 n1 c1,.slice A2 n2 c2] 91)) w2.heap.size #[.bool p.neg,.slice A1 n1 c1,.slice A2 n2 c2] 91:=CBlk.new _ _ _ _ rfl;have aC:=Ad aJ aA;have bJ:=h1.later aA;have bM:=h2.later aA;have bU:=aJ.size;clear a0 a1 q0 q1 aL aK aJ h1 h2 aA;go_upto_region 2 with (fail)
 generalize (w2.alloc (.cells #[.bool p.neg,.slice A1 n1 c1,.slice A2 n2 c2] 91))=w3 at *;have a0:=aP.cell 0;have a1:=aP.cell 1
 go_wp2_with fail
 refine (HR2.out w3 (hT.later aC)).mono ?_;rintro e w4 ⟨v4,rfl,⟨A3,n3,c3,A4,n4,c4,rfl,h3,h4⟩,aF⟩;have aV:=Ad aC aF;have bK:=(aZ.below aF aZ.lt).alloc (.cells #[.bool q.neg,.slice A3 n3 c3,.slice A4 n4 c4] 91);have bA:=(aU.below aF aU.lt).alloc (.cells #[.bool q.neg,.slice A3 n3 c3,.slice A4 n4 c4] 91);have bR:CBlk (w4.alloc (.cells #[.bool q.neg,.slice A3 n3 c3,.slice A4 n4 c4] 91)) w4.heap.size #[.bool q.neg,.slice A3 n3 c3,.slice A4 n4 c4] 91:=CBlk.new _ _ _ _ rfl;have aA:Below w4.heap.size w4 (w4.alloc (.cells #[.bool q.neg,.slice A3 n3 c3,.slice A4 n4 c4] 91)):=Ac;have aE:=Ad aV aA;have bC:=(bJ.later aF).later aA;have bP:=(bM.later aF).later aA;have bS:=h3.later aA;have bE:=h4.later aA;clear a0 a1 aP aZ aU aC aF aV bJ bM h3 h4 aA;go_upto_region 3 with (fail)
 generalize (w4.alloc (.cells #[.bool q.neg,.slice A3 n3 c3,.slice A4 n4 c4] 91))=w5 at *;have aO:Below w.heap.size w (w5.alloc (.cells #[.int .i64 x,.int .i64 y] 26)):=aE.alloc aE.size _;have aI:Below w5.heap.size w5 (w5.alloc (.cells #[.int .i64 x,.int .i64 y] 26)):=Ac;have aN:=bK.alloc (.cells #[.int .i64 x,.int .i64 y] 26);have aG:=bA.alloc (.cells #[.int .i64 x,.int .i64 y] 26);have aH:=bR.alloc (.cells #[.int .i64 x,.int .i64 y] 26);have aR:=bC.later aI;have aS:=bP.later aI;have aT:=bS.later aI;have aW:=bE.later aI
 go_wp2_with fail
 refine (za7 x y E HE.out w5 _ _ rfl).mono ?_;rintro e w6 ⟨rfl,rfl⟩;clear bK bA bR aE aI bC bP bS bE;generalize (w5.alloc (.cells #[.int .i64 x,.int .i64 y] 26))=w6 at *;have bB:=aG.cell 0;have bD:=aG.cell 1;have bO:=aG.cell 2;have bN:=aH.cell 0;have bQ:=aH.cell 1;have bL:=aH.cell 2
 go_wp2_with fail
 refine (HC.out _ _ w6 (RatS.mk aR aS) (RatS.mk aT aW)).mono ?_;rintro e w7 ⟨rfl,aD⟩;have qR:=aN.below aD aN.lt;have aQ:=aG.below aD aG.lt;have aM:=aH.below aD aH.lt;have bI:=Ad aO aD;have bT:=aR.later aD;have bH:=aS.later aD;have bF:=aT.later aD;have bG:=aW.later aD;clear bB bD bO bN bQ bL aN aG aH aD aO aR aS aT aW;have bB:=aQ.cell 0;have bD:=aQ.cell 1;have bO:=aQ.cell 2;have bN:=aM.cell 0;have bQ:=aM.cell 1;have bL:=aM.cell 2;have y0:=qR.cell 0;have y1:=qR.cell 1;have y2:=qR.cell 2;have y3:=qR.cell 3;have y4:=qR.cell 4;have y5:=qR.cell 5;have z0:=qR.frozen 0;have z1:=qR.frozen 1;have z2:=qR.frozen 2;have z3:=qR.frozen 3;have z4:=qR.frozen 4;have z5:=qR.frozen 5;have hI:=zbS (p:=p) (q:=q) qR bI (by omega) rfl bT bH bF bG;unfold Go.Proofs.YtmkondcdejlhcaaGreatDoor.set6 at hI;have HI:=Aa hI;clear hI bT bH bF bG bI;go_wp2
 refine bodyPost_ret (v := .tuple #[.agg #[.bool p.neg,.slice A1 n1 c1,.slice A2 n2 c2,.bool q.neg,.slice A3 n3 c3,.slice A4 n4 c4],.int .i64 0]) (by simp [results,Tryz.results78,go_sem,y0,y1,y2,y3,y4,y5]) rfl ⟨_,rfl,HI.out⟩
def zbb (l m:List UInt8):Int:=if zad l≠0 then zad l else if zad m≠0 then zad m else if 0<rcmp (zab l) (zab m) then 11 else 0
def rdLo (l m:List UInt8):Q:=if zbb l m=0 then zab l else zdc
def rdHi (l m:List UInt8):Q:=if zbb l m=0 then zab m else zdc
theorem zdb (s t:ByteArray) (w:World) (hT:Tabs w) (hs:s.size≤4294967296) (ht:t.size≤4294967296) :
  Calls Tryz.prog 78 #[.agg #[.string s,.string t]] w (zbv w (rdLo s.data.toList t.data.toList) (rdHi s.data.toList t.data.toList) (zbb s.data.toList t.data.toList)):=by
 have aC:=Aa (fun W h=>zbn s W h hs);have aA:=Aa (fun W h=>zbn t W h ht)
 by_cases hx:zad s.data.toList=0
 ·by_cases hy:zad t.data.toList=0
  ·have l1:=zan hx
   have l2:=zan hy;have lp:LenQ (zab s.data.toList) 268435456:=⟨by omega,by omega⟩;have lq:LenQ (zab t.data.toList) 268435456:=⟨by omega,by omega⟩
   by_cases ho:0<rcmp (zab s.data.toList) (zab t.data.toList)
   ·have e:zbb s.data.toList t.data.toList=11:=by unfold zbb;rw [if_neg (by simpa using hx),if_neg (by simpa using hy),if_pos ho]
    have h:=zha _ _ _ _ s t w hT ⟨hx,hy⟩ ho lp lq aC aA;unfold rdLo rdHi;rw [e,if_neg (by omega)];exact h
   ·have e:zbb s.data.toList t.data.toList=0:=by unfold zbb;rw [if_neg (by simpa using hx),if_neg (by simpa using hy),if_neg ho]
    have h:=zkG _ _ _ _ s t w hT ⟨hx,hy⟩ (by exact Int.not_lt.1 ho) lp lq aC aA;unfold rdLo rdHi;rw [e,if_pos rfl,if_pos rfl];exact h
  ·have e:zbb s.data.toList t.data.toList=zad t.data.toList:=by unfold zbb;rw [if_neg (by simpa using hx),if_pos hy]
   have h:=zf3 _ _ (zad t.data.toList) _ _ s t w hT (by rw [Hid,if_neg (by simpa using hx)]) hy aC aA;unfold rdLo rdHi;rw [e,if_neg hy,if_neg hy];exact h
 ·have e:zbb s.data.toList t.data.toList=zad s.data.toList:=by unfold zbb;rw [if_pos hx]
  have h:=zf3 _ _ (zad s.data.toList) _ _ s t w hT (by rw [Hid,if_pos hx]) hx aC aA;unfold rdLo rdHi;rw [e,if_neg hx,if_neg hx];exact h
def err2 (x y:Int):Int:=if x≠0 then x else y
end Go.Proofs.YtmkondcdejlhcaaGreatDoor
