/- Contracts of package number: the text of a span, a span read. -/
import Derived.Test.YtbkgkoenppkhpaaGreatDoorGNa1
set_option maxRecDepth 100000
set_option maxHeartbeats 4000000
namespace Go.Proofs.YtbkgkoenppkhpaaGreatDoor
open Go.RowKit Bn
def zdw (p q:Q):Int:=if zaB p≠0 then zaB p else zaB q
def zf1 (p q:Q):List UInt8:=if zdw p q=0 then zaE p else []
def zfZ (p q:Q):List UInt8:=if zdw p q=0 then zaE q else []
def zen (w:World) (l m:List UInt8) (x:Int) (e:Ending) (w':World):Prop:=∃ s t:ByteArray,e = .returned (.tuple #[.agg #[.string s,.string t],.int .i64 x])∧s.data.toList=l∧t.data.toList=m∧Below w.heap.size w w'
theorem zbl (x y E:Int) (hE:E=if x≠0 then x else y) (w:World) (t:TypeId) (g:Nat) (hg:w.heap.size=g) :
  Calls Tryz.prog 80 #[.slice (some ⟨g,0,none⟩) 2 2] (w.alloc (.cells #[.int .i64 x,.int .i64 y] t)) fun e w'=>e = .returned (.int .i64 E)∧w.alloc (.cells #[.int .i64 x,.int .i64 y] t)=w':=by
 rw [hE];exact zj5 x y w t g hg
theorem zcK {a w:World} {B g:Nat} (h:Below B a w) (hg:B≤g) (u v:Value):Below B a ((w.setCell ⟨g,0,none⟩ u).setCell ⟨g,1,none⟩ v):=
 (h.setCell (p:=⟨g,0,none⟩) hg _).setCell (p:=⟨g,1,none⟩) hg _
theorem ziX (p q:Q) (E:Int) (l m:List UInt8) (v:Value) (w:World) (HE:Hid (E=if zaB p≠0 then zaB p else zaB q)) (HL:Hid ((E=0→l=zbz p∧m=zbz q)∧(E≠0→l=[]∧m=[]))) (hT:Tabs w) (hv:ItvS w w.heap.size v p q) (hp:LenQ p 268435456) (hq:LenQ q 268435456) :
  Calls Tryz.prog 61 #[v] w (zen w l m E):=by
 obtain ⟨A1,n1,c1,A2,n2,c2,A3,n3,c3,A4,n4,c4,rfl,h1,h2,h3,h4⟩:=hv;have aA:Below w.heap.size w ((w.alloc (.cells #[.bool p.neg,.slice A1 n1 c1,.slice A2 n2 c2,.bool q.neg,.slice A3 n3 c3,.slice A4 n4 c4] 91)).alloc (.cells #[.string ⟨#[]⟩,.string ⟨#[]⟩] 24)):=(((Below.refl _ _).alloc (by simp<;>omega) _).alloc (by simp<;>omega) _);have q0:CBlk ((w.alloc (.cells #[.bool p.neg,.slice A1 n1 c1,.slice A2 n2 c2,.bool q.neg,.slice A3 n3 c3,.slice A4 n4 c4] 91)).alloc (.cells #[.string ⟨#[]⟩,.string ⟨#[]⟩] 24)) (w.heap.size) #[.bool p.neg,.slice A1 n1 c1,.slice A2 n2 c2,.bool q.neg,.slice A3 n3 c3,.slice A4 n4 c4] 91:=((CBlk.new _ _ _ _ (by simp)).alloc _);have q1:CBlk ((w.alloc (.cells #[.bool p.neg,.slice A1 n1 c1,.slice A2 n2 c2,.bool q.neg,.slice A3 n3 c3,.slice A4 n4 c4] 91)).alloc (.cells #[.string ⟨#[]⟩,.string ⟨#[]⟩] 24)) (w.heap.size+1) #[.string ⟨#[]⟩,.string ⟨#[]⟩] 24:=(CBlk.new _ _ _ _ (by simp))
 by_cases h0:E=0
 ·have aS:(E != 0)=false:=by simpa using h0
  have H0:=Aa h0;clear h0;go_enter Tryz.func61,Tryz.ntmps61
  go_upto_region 1 with (fail)
  generalize ((w.alloc (.cells #[.bool p.neg,.slice A1 n1 c1,.slice A2 n2 c2,.bool q.neg,.slice A3 n3 c3,.slice A4 n4 c4] 91)).alloc (.cells #[.string ⟨#[]⟩,.string ⟨#[]⟩] 24))=W at *;have a0:=q0.cell 0;have a1:=q0.cell 1;have a2:=q0.cell 2;have aF:=hT.later aA
  go_wp2_with fail
  refine (zcz p _ W aF (RatS.mk (h1.later aA) (h2.later aA)) hp).mono ?_;rintro e w2 ⟨s2,rfl,aR,aC⟩;have aG:=Ad aA aC;have aE:=q0.below aC q0.lt;have aH:=q1.below aC q1.lt;have aN:=aF.later aC;have aM:=(h3.later aA).later aC;have aL:=(h4.later aA).later aC;clear a0 a1 a2 q0 q1 aA aC aF h1 h2 h3 h4 hT;have a3:=aE.cell 3;have a4:=aE.cell 4;have a5:=aE.cell 5
  go_wp2_with fail
  refine (zcz q _ w2 aN (RatS.mk aM aL) hq).mono ?_;rintro e w3 ⟨s3,rfl,aQ,aI⟩;have aK:=Ad aG aI;have aO:=aH.below aI aH.lt;clear a3 a4 a5 aE aH aG aI aN aM aL;have aP:Below w.heap.size w (w3.alloc (.cells #[.int .i64 (zaB p),.int .i64 (zaB q)] 27)):=aK.alloc aK.size _;have aD:=aO.alloc (.cells #[.int .i64 (zaB p),.int .i64 (zaB q)] 27)
  go_wp2_with fail
  refine (zbl (zaB p) (zaB q) E HE.out w3 _ _ rfl).mono ?_;rintro e w4 ⟨rfl,rfl⟩;generalize (w3.alloc (.cells #[.int .i64 (zaB p),.int .i64 (zaB q)] 27))=w4 at *;have y0:=aD.cell 0;have y1:=aD.cell 1;have z0:=aD.frozen 0;have z1:=aD.frozen 1;have aJ:=zcK aP (g:=w.heap.size+1) (by omega) (.string s2) (.string s3);go_wp2
  refine bodyPost_ret (v := .tuple #[.agg #[.string s2,.string s3],.int .i64 0]) (by simp [results,Tryz.results61,go_sem,y0,y1]) rfl ⟨s2,s3,by rw [H0.out],by rw [aR,(HL.out.1 H0.out).1],by rw [aQ,(HL.out.1 H0.out).2],aJ⟩
 ·have aS:(E != 0)=true:=by simpa using h0
  have H0:=Aa h0;clear h0;go_enter Tryz.func61,Tryz.ntmps61
  go_upto_region 1 with (fail)
  generalize ((w.alloc (.cells #[.bool p.neg,.slice A1 n1 c1,.slice A2 n2 c2,.bool q.neg,.slice A3 n3 c3,.slice A4 n4 c4] 91)).alloc (.cells #[.string ⟨#[]⟩,.string ⟨#[]⟩] 24))=W at *;have a0:=q0.cell 0;have a1:=q0.cell 1;have a2:=q0.cell 2;have aF:=hT.later aA
  go_wp2_with fail
  refine (zcz p _ W aF (RatS.mk (h1.later aA) (h2.later aA)) hp).mono ?_;rintro e w2 ⟨s2,rfl,aR,aC⟩;have aG:=Ad aA aC;have aE:=q0.below aC q0.lt;have aH:=q1.below aC q1.lt;have aN:=aF.later aC;have aM:=(h3.later aA).later aC;have aL:=(h4.later aA).later aC;clear a0 a1 a2 q0 q1 aA aC aF h1 h2 h3 h4 hT;have a3:=aE.cell 3;have a4:=aE.cell 4;have a5:=aE.cell 5
  go_wp2_with fail
  refine (zcz q _ w2 aN (RatS.mk aM aL) hq).mono ?_;rintro e w3 ⟨s3,rfl,aQ,aI⟩;have aK:=Ad aG aI;have aO:=aH.below aI aH.lt;clear a3 a4 a5 aE aH aG aI aN aM aL;have aP:Below w.heap.size w (w3.alloc (.cells #[.int .i64 (zaB p),.int .i64 (zaB q)] 27)):=aK.alloc aK.size _;have aD:=aO.alloc (.cells #[.int .i64 (zaB p),.int .i64 (zaB q)] 27)
  go_wp2_with fail
  refine (zbl (zaB p) (zaB q) E HE.out w3 _ _ rfl).mono ?_;rintro e w4 ⟨rfl,rfl⟩;generalize (w3.alloc (.cells #[.int .i64 (zaB p),.int .i64 (zaB q)] 27))=w4 at *;have y0:=aD.cell 0;have y1:=aD.cell 1;have z0:=aD.frozen 0;have z1:=aD.frozen 1;have aJ:=zcK aP (g:=w.heap.size+1) (by omega) (.string ⟨#[]⟩) (.string ⟨#[]⟩);go_wp2
  refine bodyPost_ret (v := .tuple #[.agg #[.string ⟨#[]⟩,.string ⟨#[]⟩],.int .i64 E]) (by simp [results,Tryz.results61,go_sem,y0,y1]) rfl ⟨⟨#[]⟩,⟨#[]⟩,rfl,by rw [(HL.out.2 H0.out).1],by rw [(HL.out.2 H0.out).2],aJ⟩
theorem ze5 (p q:Q) (v:Value) (w:World) (hT:Tabs w) (hv:ItvS w w.heap.size v p q) (hp:LenQ p 268435456) (hq:LenQ q 268435456) :
  Calls Tryz.prog 61 #[v] w (zen w (zf1 p q) (zfZ p q) (zdw p q)):=by
 refine ziX p q (zdw p q) (zf1 p q) (zfZ p q) v w rfl ⟨fun e0 => ?_,fun e0=>⟨by unfold zf1;rw [if_neg e0],by unfold zfZ;rw [if_neg e0]⟩⟩ hT hv hp hq;have ex:zaB p=0:=by
  unfold zdw at e0
  by_cases h:zaB p=0
  ·exact h
  ·rw [if_pos h] at e0;exact absurd e0 h
 have ey:zaB q=0:=by
  unfold zdw at e0;rw [if_neg (by simpa using ex)] at e0;exact e0
 exact ⟨by unfold zf1 zbz;rw [if_pos e0,if_pos ex],by unfold zfZ zbz;rw [if_pos e0,if_pos ey]⟩
def zcy (w:World) (p q:Q) (x:Int) (e:Ending) (w':World):Prop:=∃ v,e = .returned (.tuple #[v,.int .i64 x])∧ItvS w' w'.heap.size v p q∧Below w.heap.size w w'
theorem ze9 (x y E:Int) (p q:Q) (s t:ByteArray) (w:World) (hT:Tabs w) (HE:Hid (E=if x≠0 then x else y)) (H0:Hid (E≠0))
  (HR1:Hid (∀ W,Tabs W→Calls Tryz.prog 59 #[.string s] W (zay W p x))) (HR2:Hid (∀ W,Tabs W→Calls Tryz.prog 59 #[.string t] W (zay W q y))) :
  Calls Tryz.prog 74 #[.agg #[.string s,.string t]] w (zcy w zgl zgl E):=by
 have aG:Below w.heap.size w ((w.alloc (.cells #[.string s,.string t] 24)).alloc (.cells #[.bool false,.slice none 0 0,.slice none 0 0,.bool false,.slice none 0 0,.slice none 0 0] 91)):=(((Below.refl _ _).alloc (by simp<;>omega) _).alloc (by simp<;>omega) _);have q0:CBlk ((w.alloc (.cells #[.string s,.string t] 24)).alloc (.cells #[.bool false,.slice none 0 0,.slice none 0 0,.bool false,.slice none 0 0,.slice none 0 0] 91)) (w.heap.size) #[.string s,.string t] 24:=((CBlk.new _ _ _ _ (by simp)).alloc _);have q1:CBlk ((w.alloc (.cells #[.string s,.string t] 24)).alloc (.cells #[.bool false,.slice none 0 0,.slice none 0 0,.bool false,.slice none 0 0,.slice none 0 0] 91)) (w.heap.size+1) #[.bool false,.slice none 0 0,.slice none 0 0,.bool false,.slice none 0 0,.slice none 0 0] 91:=(CBlk.new _ _ _ _ (by simp));have bA:(E != 0)=true:=by simpa using H0.out
 go_enter Tryz.func74,Tryz.ntmps74
 go_upto_region 1 with (fail)
 generalize ((w.alloc (.cells #[.string s,.string t] 24)).alloc (.cells #[.bool false,.slice none 0 0,.slice none 0 0,.bool false,.slice none 0 0,.slice none 0 0] 91))=W at *;have a0:=q0.cell 0;have a1:=q0.cell 1
 go_wp2_with fail
 refine (HR1.out W (hT.later aG)).mono ?_;rintro e w2 ⟨v2,rfl,⟨A1,n1,c1,A2,n2,c2,rfl,h1,h2⟩,aI⟩;have aH:=Ad aG aI;have aL:=(q0.below aI q0.lt).alloc (.cells #[.bool p.neg,.slice A1 n1 c1,.slice A2 n2 c2] 87);have aM:=(q1.below aI q1.lt).alloc (.cells #[.bool p.neg,.slice A1 n1 c1,.slice A2 n2 c2] 87);have aA:Below w2.heap.size w2 (w2.alloc (.cells #[.bool p.neg,.slice A1 n1 c1,.slice A2 n2 c2] 87)):=Ac;have aJ:CBlk (w2.alloc (.cells #[.bool p.neg,.slice A1 n1 c1,.slice A2 n2 c2] 87)) w2.heap.size #[.bool p.neg,.slice A1 n1 c1,.slice A2 n2 c2] 87:=CBlk.new _ _ _ _ rfl;have aC:=Ad aH aA;have aQ:=h1.later aA;have aN:=h2.later aA;have aY:=aH.size;clear a0 a1 q0 q1 aG aI aH h1 h2 aA;go_upto_region 2 with (fail)
 generalize (w2.alloc (.cells #[.bool p.neg,.slice A1 n1 c1,.slice A2 n2 c2] 87))=w3 at *;have a0:=aL.cell 0;have a1:=aL.cell 1
 go_wp2_with fail
 refine (HR2.out w3 (hT.later aC)).mono ?_;rintro e w4 ⟨v4,rfl,⟨A3,n3,c3,A4,n4,c4,rfl,h3,h4⟩,aE⟩;have aK:=Ad aC aE;have aT:=(aM.below aE aM.lt).alloc (.cells #[.bool q.neg,.slice A3 n3 c3,.slice A4 n4 c4] 87);have aU:=(aJ.below aE aJ.lt).alloc (.cells #[.bool q.neg,.slice A3 n3 c3,.slice A4 n4 c4] 87);have aR:CBlk (w4.alloc (.cells #[.bool q.neg,.slice A3 n3 c3,.slice A4 n4 c4] 87)) w4.heap.size #[.bool q.neg,.slice A3 n3 c3,.slice A4 n4 c4] 87:=CBlk.new _ _ _ _ rfl;have aA:Below w4.heap.size w4 (w4.alloc (.cells #[.bool q.neg,.slice A3 n3 c3,.slice A4 n4 c4] 87)):=Ac;have aD:=Ad aK aA;have aO:=(aQ.later aE).later aA;have aV:=(aN.later aE).later aA;have aP:=h3.later aA;have aS:=h4.later aA;clear a0 a1 aL aM aJ aC aE aK aQ aN h3 h4 aA;go_upto_region 3 with (fail)
 generalize (w4.alloc (.cells #[.bool q.neg,.slice A3 n3 c3,.slice A4 n4 c4] 87))=w5 at *;have aZ:Below w.heap.size w (w5.alloc (.cells #[.int .i64 x,.int .i64 y] 27)):=aD.alloc aD.size _;have aF:Below w5.heap.size w5 (w5.alloc (.cells #[.int .i64 x,.int .i64 y] 27)):=Ac;have aX:=aT.alloc (.cells #[.int .i64 x,.int .i64 y] 27);have bE:=aU.alloc (.cells #[.int .i64 x,.int .i64 y] 27);have bB:=aR.alloc (.cells #[.int .i64 x,.int .i64 y] 27);have bF:=aO.later aF;have bG:=aV.later aF;have bD:=aP.later aF;have bC:=aS.later aF
 go_wp2_with fail
 refine (zbl x y E HE.out w5 _ _ rfl).mono ?_;rintro e w6 ⟨rfl,rfl⟩;clear aT aU aR aD aF aO aV aP aS;generalize (w5.alloc (.cells #[.int .i64 x,.int .i64 y] 27))=w6 at *;have qR:=aX;have aW:=aZ;have y0:=qR.cell 0;have y1:=qR.cell 1;have y2:=qR.cell 2;have y3:=qR.cell 3;have y4:=qR.cell 4;have y5:=qR.cell 5;have z0:=qR.frozen 0;have z1:=qR.frozen 1;have z2:=qR.frozen 2;have z3:=qR.frozen 3;have z4:=qR.frozen 4;have z5:=qR.frozen 5;have hI:=zdj (p:=zgl) (q:=zgl) qR aW (by omega) rfl (NatS.nil _ _) (NatS.nil _ _) (NatS.nil _ _) (NatS.nil _ _);unfold Go.Proofs.YtbkgkoenppkhpaaGreatDoor.set6 at hI;go_wp2
 refine bodyPost_ret (v := .tuple #[.agg #[.bool false,.slice none 0 0,.slice none 0 0,.bool false,.slice none 0 0,.slice none 0 0],.int .i64 E]) (by simp [results,Tryz.results74,go_sem,y0,y1,y2,y3,y4,y5]) rfl ⟨_,rfl,hI⟩
theorem zgf (x y:Int) (p q:Q) (s t:ByteArray) (w:World) (hT:Tabs w) (HX:Hid (x=0∧y=0)) (HO:Hid (0<rcmp p q)) (lp:LenQ p 268435456) (lq:LenQ q 268435456)
  (HR1:Hid (∀ W,Tabs W→Calls Tryz.prog 59 #[.string s] W (zay W p x))) (HR2:Hid (∀ W,Tabs W→Calls Tryz.prog 59 #[.string t] W (zay W q y))) :
  Calls Tryz.prog 74 #[.agg #[.string s,.string t]] w (zcy w zgl zgl 11):=by
 have aG:Below w.heap.size w ((w.alloc (.cells #[.string s,.string t] 24)).alloc (.cells #[.bool false,.slice none 0 0,.slice none 0 0,.bool false,.slice none 0 0,.slice none 0 0] 91)):=(((Below.refl _ _).alloc (by simp<;>omega) _).alloc (by simp<;>omega) _);have q0:CBlk ((w.alloc (.cells #[.string s,.string t] 24)).alloc (.cells #[.bool false,.slice none 0 0,.slice none 0 0,.bool false,.slice none 0 0,.slice none 0 0] 91)) (w.heap.size) #[.string s,.string t] 24:=((CBlk.new _ _ _ _ (by simp)).alloc _);have q1:CBlk ((w.alloc (.cells #[.string s,.string t] 24)).alloc (.cells #[.bool false,.slice none 0 0,.slice none 0 0,.bool false,.slice none 0 0,.slice none 0 0] 91)) (w.heap.size+1) #[.bool false,.slice none 0 0,.slice none 0 0,.bool false,.slice none 0 0,.slice none 0 0] 91:=(CBlk.new _ _ _ _ (by simp));obtain ⟨E,hE⟩:∃ E,E=if x≠0 then x else y:=⟨_,rfl⟩
 have HE:=Aa hE;have bI:(E != 0)=false:=by rw [hE,HX.out.1,HX.out.2];rfl
 have HC:=Aa (fun v u W h1 h2=>zbw p q v u W h1 h2 lp lq);obtain ⟨r,hr⟩:∃ r,r=rcmp p q:=⟨_,rfl⟩;rw [←hr] at HC HO;have d1:decide (0<r)=true:=by simpa using HO.out
 clear hE hr;go_enter Tryz.func74,Tryz.ntmps74
 go_upto_region 1 with (fail)
 generalize ((w.alloc (.cells #[.string s,.string t] 24)).alloc (.cells #[.bool false,.slice none 0 0,.slice none 0 0,.bool false,.slice none 0 0,.slice none 0 0] 91))=W at *;have a0:=q0.cell 0;have a1:=q0.cell 1
 go_wp2_with fail
 refine (HR1.out W (hT.later aG)).mono ?_;rintro e w2 ⟨v2,rfl,⟨A1,n1,c1,A2,n2,c2,rfl,h1,h2⟩,aI⟩;have aH:=Ad aG aI;have aN:=(q0.below aI q0.lt).alloc (.cells #[.bool p.neg,.slice A1 n1 c1,.slice A2 n2 c2] 87);have aO:=(q1.below aI q1.lt).alloc (.cells #[.bool p.neg,.slice A1 n1 c1,.slice A2 n2 c2] 87);have aA:Below w2.heap.size w2 (w2.alloc (.cells #[.bool p.neg,.slice A1 n1 c1,.slice A2 n2 c2] 87)):=Ac;have aJ:CBlk (w2.alloc (.cells #[.bool p.neg,.slice A1 n1 c1,.slice A2 n2 c2] 87)) w2.heap.size #[.bool p.neg,.slice A1 n1 c1,.slice A2 n2 c2] 87:=CBlk.new _ _ _ _ rfl;have aC:=Ad aH aA;have aT:=h1.later aA;have aP:=h2.later aA;have bC:=aH.size;clear a0 a1 q0 q1 aG aI aH h1 h2 aA;go_upto_region 2 with (fail)
 generalize (w2.alloc (.cells #[.bool p.neg,.slice A1 n1 c1,.slice A2 n2 c2] 87))=w3 at *;have a0:=aN.cell 0;have a1:=aN.cell 1
 go_wp2_with fail
 refine (HR2.out w3 (hT.later aC)).mono ?_;rintro e w4 ⟨v4,rfl,⟨A3,n3,c3,A4,n4,c4,rfl,h3,h4⟩,aE⟩;have aL:=Ad aC aE;have aY:=(aO.below aE aO.lt).alloc (.cells #[.bool q.neg,.slice A3 n3 c3,.slice A4 n4 c4] 87);have aZ:=(aJ.below aE aJ.lt).alloc (.cells #[.bool q.neg,.slice A3 n3 c3,.slice A4 n4 c4] 87);have aU:CBlk (w4.alloc (.cells #[.bool q.neg,.slice A3 n3 c3,.slice A4 n4 c4] 87)) w4.heap.size #[.bool q.neg,.slice A3 n3 c3,.slice A4 n4 c4] 87:=CBlk.new _ _ _ _ rfl;have aA:Below w4.heap.size w4 (w4.alloc (.cells #[.bool q.neg,.slice A3 n3 c3,.slice A4 n4 c4] 87)):=Ac;have aD:=Ad aL aA;have aQ:=(aT.later aE).later aA;have bA:=(aP.later aE).later aA;have aR:=h3.later aA;have aV:=h4.later aA;clear a0 a1 aN aO aJ aC aE aL aT aP h3 h4 aA;go_upto_region 3 with (fail)
 generalize (w4.alloc (.cells #[.bool q.neg,.slice A3 n3 c3,.slice A4 n4 c4] 87))=w5 at *;have aX:Below w.heap.size w (w5.alloc (.cells #[.int .i64 x,.int .i64 y] 27)):=aD.alloc aD.size _;have aF:Below w5.heap.size w5 (w5.alloc (.cells #[.int .i64 x,.int .i64 y] 27)):=Ac;have aS:=aY.alloc (.cells #[.int .i64 x,.int .i64 y] 27);have aM:=aZ.alloc (.cells #[.int .i64 x,.int .i64 y] 27);have aK:=aU.alloc (.cells #[.int .i64 x,.int .i64 y] 27);have bF:=aQ.later aF;have bG:=bA.later aF;have bE:=aR.later aF;have bD:=aV.later aF
 go_wp2_with fail
 refine (zbl x y E HE.out w5 _ _ rfl).mono ?_;rintro e w6 ⟨rfl,rfl⟩;clear aY aZ aU aD aF aQ bA aR aV;generalize (w5.alloc (.cells #[.int .i64 x,.int .i64 y] 27))=w6 at *;have bJ:=aM.cell 0;have bN:=aM.cell 1;have bK:=aM.cell 2;have bH:=aK.cell 0;have bL:=aK.cell 1;have bM:=aK.cell 2
 go_wp2_with fail
 refine (HC.out _ _ w6 (RatS.mk bF bG) (RatS.mk bE bD)).mono ?_;rintro e w7 ⟨rfl,aW⟩;have qR:=aS.below aW aS.lt;have bB:=Ad aX aW;have y0:=qR.cell 0;have y1:=qR.cell 1;have y2:=qR.cell 2;have y3:=qR.cell 3;have y4:=qR.cell 4;have y5:=qR.cell 5;have z0:=qR.frozen 0;have z1:=qR.frozen 1;have z2:=qR.frozen 2;have z3:=qR.frozen 3;have z4:=qR.frozen 4;have z5:=qR.frozen 5;have hI:=zdj (p:=zgl) (q:=zgl) qR bB (by omega) rfl (NatS.nil _ _) (NatS.nil _ _) (NatS.nil _ _) (NatS.nil _ _);unfold Go.Proofs.YtbkgkoenppkhpaaGreatDoor.set6 at hI;go_wp2
 refine bodyPost_ret (v := .tuple #[.agg #[.bool false,.slice none 0 0,.slice none 0 0,.bool false,.slice none 0 0,.slice none 0 0],.int .i64 11]) (by simp [results,Tryz.results74,go_sem,y0,y1,y2,y3,y4,y5]) rfl ⟨_,rfl,hI⟩
theorem zix (x y:Int) (p q:Q) (s t:ByteArray) (w:World) (hT:Tabs w) (HX:Hid (x=0∧y=0)) (HO:Hid (rcmp p q≤0)) (lp:LenQ p 268435456) (lq:LenQ q 268435456)
  (HR1:Hid (∀ W,Tabs W→Calls Tryz.prog 59 #[.string s] W (zay W p x))) (HR2:Hid (∀ W,Tabs W→Calls Tryz.prog 59 #[.string t] W (zay W q y))) :
  Calls Tryz.prog 74 #[.agg #[.string s,.string t]] w (zcy w p q 0):=by
 have aJ:Below w.heap.size w ((w.alloc (.cells #[.string s,.string t] 24)).alloc (.cells #[.bool false,.slice none 0 0,.slice none 0 0,.bool false,.slice none 0 0,.slice none 0 0] 91)):=(((Below.refl _ _).alloc (by simp<;>omega) _).alloc (by simp<;>omega) _);have q0:CBlk ((w.alloc (.cells #[.string s,.string t] 24)).alloc (.cells #[.bool false,.slice none 0 0,.slice none 0 0,.bool false,.slice none 0 0,.slice none 0 0] 91)) (w.heap.size) #[.string s,.string t] 24:=((CBlk.new _ _ _ _ (by simp)).alloc _);have q1:CBlk ((w.alloc (.cells #[.string s,.string t] 24)).alloc (.cells #[.bool false,.slice none 0 0,.slice none 0 0,.bool false,.slice none 0 0,.slice none 0 0] 91)) (w.heap.size+1) #[.bool false,.slice none 0 0,.slice none 0 0,.bool false,.slice none 0 0,.slice none 0 0] 91:=(CBlk.new _ _ _ _ (by simp));obtain ⟨E,hE⟩:∃ E,E=if x≠0 then x else y:=⟨_,rfl⟩
 have HE:=Aa hE;have bT:(E != 0)=false:=by rw [hE,HX.out.1,HX.out.2];rfl
 have HC:=Aa (fun v u W h1 h2=>zbw p q v u W h1 h2 lp lq);obtain ⟨r,hr⟩:∃ r,r=rcmp p q:=⟨_,rfl⟩;rw [←hr] at HC HO;have d1:decide (0<r)=false:=by have:=HO.out;simp;omega
 clear hE hr;go_enter Tryz.func74,Tryz.ntmps74
 go_upto_region 1 with (fail)
 generalize ((w.alloc (.cells #[.string s,.string t] 24)).alloc (.cells #[.bool false,.slice none 0 0,.slice none 0 0,.bool false,.slice none 0 0,.slice none 0 0] 91))=W at *;have a0:=q0.cell 0;have a1:=q0.cell 1
 go_wp2_with fail
 refine (HR1.out W (hT.later aJ)).mono ?_;rintro e w2 ⟨v2,rfl,⟨A1,n1,c1,A2,n2,c2,rfl,h1,h2⟩,aL⟩;have aK:=Ad aJ aL;have aV:=(q0.below aL q0.lt).alloc (.cells #[.bool p.neg,.slice A1 n1 c1,.slice A2 n2 c2] 87);have aW:=(q1.below aL q1.lt).alloc (.cells #[.bool p.neg,.slice A1 n1 c1,.slice A2 n2 c2] 87);have aA:Below w2.heap.size w2 (w2.alloc (.cells #[.bool p.neg,.slice A1 n1 c1,.slice A2 n2 c2] 87)):=Ac;have aM:CBlk (w2.alloc (.cells #[.bool p.neg,.slice A1 n1 c1,.slice A2 n2 c2] 87)) w2.heap.size #[.bool p.neg,.slice A1 n1 c1,.slice A2 n2 c2] 87:=CBlk.new _ _ _ _ rfl;have aC:=Ad aK aA;have bE:=h1.later aA;have aY:=h2.later aA;have bS:=aK.size;clear a0 a1 q0 q1 aJ aL aK h1 h2 aA;go_upto_region 2 with (fail)
 generalize (w2.alloc (.cells #[.bool p.neg,.slice A1 n1 c1,.slice A2 n2 c2] 87))=w3 at *;have a0:=aV.cell 0;have a1:=aV.cell 1
 go_wp2_with fail
 refine (HR2.out w3 (hT.later aC)).mono ?_;rintro e w4 ⟨v4,rfl,⟨A3,n3,c3,A4,n4,c4,rfl,h3,h4⟩,aG⟩;have aP:=Ad aC aG;have bM:=(aW.below aG aW.lt).alloc (.cells #[.bool q.neg,.slice A3 n3 c3,.slice A4 n4 c4] 87);have bP:=(aM.below aG aM.lt).alloc (.cells #[.bool q.neg,.slice A3 n3 c3,.slice A4 n4 c4] 87);have bF:CBlk (w4.alloc (.cells #[.bool q.neg,.slice A3 n3 c3,.slice A4 n4 c4] 87)) w4.heap.size #[.bool q.neg,.slice A3 n3 c3,.slice A4 n4 c4] 87:=CBlk.new _ _ _ _ rfl;have aA:Below w4.heap.size w4 (w4.alloc (.cells #[.bool q.neg,.slice A3 n3 c3,.slice A4 n4 c4] 87)):=Ac;have aE:=Ad aP aA;have bA:=(bE.later aG).later aA;have bR:=(aY.later aG).later aA;have bD:=h3.later aA;have bH:=h4.later aA;clear a0 a1 aV aW aM aC aG aP bE aY h3 h4 aA;go_upto_region 3 with (fail)
 generalize (w4.alloc (.cells #[.bool q.neg,.slice A3 n3 c3,.slice A4 n4 c4] 87))=w5 at *;have aR:Below w.heap.size w (w5.alloc (.cells #[.int .i64 x,.int .i64 y] 27)):=aE.alloc aE.size _;have aI:Below w5.heap.size w5 (w5.alloc (.cells #[.int .i64 x,.int .i64 y] 27)):=Ac;have aO:=bM.alloc (.cells #[.int .i64 x,.int .i64 y] 27);have aH:=bP.alloc (.cells #[.int .i64 x,.int .i64 y] 27);have aF:=bF.alloc (.cells #[.int .i64 x,.int .i64 y] 27);have aT:=bA.later aI;have aX:=bR.later aI;have aS:=bD.later aI;have aQ:=bH.later aI
 go_wp2_with fail
 refine (zbl x y E HE.out w5 _ _ rfl).mono ?_;rintro e w6 ⟨rfl,rfl⟩;clear bM bP bF aE aI bA bR bD bH;generalize (w5.alloc (.cells #[.int .i64 x,.int .i64 y] 27))=w6 at *;have bJ:=aH.cell 0;have bQ:=aH.cell 1;have bL:=aH.cell 2;have bB:=aF.cell 0;have bN:=aF.cell 1;have bO:=aF.cell 2
 go_wp2_with fail
 refine (HC.out _ _ w6 (RatS.mk aT aX) (RatS.mk aS aQ)).mono ?_;rintro e w7 ⟨rfl,aD⟩;have qR:=aO.below aD aO.lt;have aN:=aH.below aD aH.lt;have aU:=aF.below aD aF.lt;have aZ:=Ad aR aD;have bK:=aT.later aD;have bC:=aX.later aD;have bG:=aS.later aD;have bI:=aQ.later aD;clear bJ bQ bL bB bN bO aO aH aF aD aR aT aX aS aQ;have bJ:=aN.cell 0;have bQ:=aN.cell 1;have bL:=aN.cell 2;have bB:=aU.cell 0;have bN:=aU.cell 1;have bO:=aU.cell 2;have y0:=qR.cell 0;have y1:=qR.cell 1;have y2:=qR.cell 2;have y3:=qR.cell 3;have y4:=qR.cell 4;have y5:=qR.cell 5;have z0:=qR.frozen 0;have z1:=qR.frozen 1;have z2:=qR.frozen 2;have z3:=qR.frozen 3;have z4:=qR.frozen 4;have z5:=qR.frozen 5;have hI:=zdj (p:=p) (q:=q) qR aZ (by omega) rfl bK bC bG bI;unfold Go.Proofs.YtbkgkoenppkhpaaGreatDoor.set6 at hI;have HI:=Aa hI;clear hI bK bC bG bI aZ;go_wp2
 refine bodyPost_ret (v := .tuple #[.agg #[.bool p.neg,.slice A1 n1 c1,.slice A2 n2 c2,.bool q.neg,.slice A3 n3 c3,.slice A4 n4 c4],.int .i64 0]) (by simp [results,Tryz.results74,go_sem,y0,y1,y2,y3,y4,y5]) rfl ⟨_,rfl,HI.out⟩
def zbP (l m:List UInt8):Int:=if zam l≠0 then zam l else if zam m≠0 then zam m else if 0<rcmp (zak l) (zak m) then 11 else 0
def rdLo (l m:List UInt8):Q:=if zbP l m=0 then zak l else zgl
def rdHi (l m:List UInt8):Q:=if zbP l m=0 then zak m else zgl
theorem zfa (s t:ByteArray) (w:World) (hT:Tabs w) (hs:s.size≤4294967296) (ht:t.size≤4294967296) :
  Calls Tryz.prog 74 #[.agg #[.string s,.string t]] w (zcy w (rdLo s.data.toList t.data.toList) (rdHi s.data.toList t.data.toList) (zbP s.data.toList t.data.toList)):=by
 have aC:=Aa (fun W h=>zcb s W h hs);have aA:=Aa (fun W h=>zcb t W h ht)
 by_cases hx:zam s.data.toList=0
 ·by_cases hy:zam t.data.toList=0
  ·have l1:=zaN hx
   have l2:=zaN hy;have lp:LenQ (zak s.data.toList) 268435456:=⟨by omega,by omega⟩;have lq:LenQ (zak t.data.toList) 268435456:=⟨by omega,by omega⟩
   by_cases ho:0<rcmp (zak s.data.toList) (zak t.data.toList)
   ·have e:zbP s.data.toList t.data.toList=11:=by unfold zbP;rw [if_neg (by simpa using hx),if_neg (by simpa using hy),if_pos ho]
    have h:=zgf _ _ _ _ s t w hT ⟨hx,hy⟩ ho lp lq aC aA;unfold rdLo rdHi;rw [e,if_neg (by omega)];exact h
   ·have e:zbP s.data.toList t.data.toList=0:=by unfold zbP;rw [if_neg (by simpa using hx),if_neg (by simpa using hy),if_neg ho]
    have h:=zix _ _ _ _ s t w hT ⟨hx,hy⟩ (by exact Int.not_lt.1 ho) lp lq aC aA;unfold rdLo rdHi;rw [e,if_pos rfl,if_pos rfl];exact h
  ·have e:zbP s.data.toList t.data.toList=zam t.data.toList:=by unfold zbP;rw [if_neg (by simpa using hx),if_pos hy]
   have h:=ze9 _ _ (zam t.data.toList) _ _ s t w hT (by rw [Hid,if_neg (by simpa using hx)]) hy aC aA;unfold rdLo rdHi;rw [e,if_neg hy,if_neg hy];exact h
 ·have e:zbP s.data.toList t.data.toList=zam s.data.toList:=by unfold zbP;rw [if_pos hx]
  have h:=ze9 _ _ (zam s.data.toList) _ _ s t w hT (by rw [Hid,if_pos hx]) hx aC aA;unfold rdLo rdHi;rw [e,if_neg hx,if_neg hx];exact h
def err2 (x y:Int):Int:=if x≠0 then x else y
def addR (p q:Q):Q:=zdo p q
def subR (p q:Q):Q:=za1 p q
def mulR (p q:Q):Q:=lowQ (p.neg != q.neg) (p.top*q.top) (p.bot*q.bot)
def divR (p q:Q):Q:=lowQ (p.neg != q.neg) (p.top*q.bot) (p.bot*q.top)
end Go.Proofs.YtbkgkoenppkhpaaGreatDoor
