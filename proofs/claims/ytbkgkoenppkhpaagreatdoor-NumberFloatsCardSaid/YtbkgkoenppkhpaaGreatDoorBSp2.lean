/- Contracts of package number: the text of a span, a span read. -/
import Derived.Test.YtbkgkoenppkhpaaGreatDoorBSp1
set_option maxRecDepth 100000
set_option maxHeartbeats 4000000
namespace Go.Proofs.YtbkgkoenppkhpaaGreatDoor
open Go.RowKit Bn
def zcm (p q:Q):Int:=if zau p≠0 then zau p else zau q
def zer (p q:Q):List UInt8:=if zcm p q=0 then zaO p else[]
def zet (p q:Q):List UInt8:=if zcm p q=0 then zaO q else[]
def zdI (w:World) (l m:List UInt8) (x:Int) (e:Ending) (w':World):Prop:=∃ s t:ByteArray,e = .returned (.tuple #[.agg #[.string s,.string t],.int .i64 x])∧s.data.toList=l∧t.data.toList=m∧Below w.heap.size w w'
theorem za8(x y E:Int)(hE:E=if x≠0 then x else y)(w:World)(t:TypeId)(g:Nat)(hg:w.heap.size=g) :
  Calls Tryz.prog 80 #[.slice (some ⟨g,0,none⟩) 2 2] (w.alloc (.cells #[.int .i64 x,.int .i64 y] t)) fun e w'=>e = .returned (.int .i64 E)∧w.alloc (.cells #[.int .i64 x,.int .i64 y] t)=w':=by
 rw[hE];exact zfj x y w t g hg
theorem zbN{a w:World}{B g:Nat}(h:Below B a w)(hg:B≤g)(u v:Value):Below B a ((w.setCell ⟨g,0,none⟩ u).setCell ⟨g,1,none⟩ v):=
 (h.setCell (p:=⟨g,0,none⟩) hg _).setCell (p:=⟨g,1,none⟩) hg _
theorem zjP (p q:Q) (E:Int) (l m:List UInt8) (v:Value) (w:World) (HE:Hid (E=if zau p≠0 then zau p else zau q)) (HL:Hid ((E=0→l=zbr p∧m=zbr q)∧(E≠0→l=[]∧m=[]))) (hT:Tabs w) (hv:ItvS w w.heap.size v p q) (hp:LenQ p 268435456) (hq:LenQ q 268435456) :
  Calls Tryz.prog 61 #[v] w (zdI w l m E):=by
 obtain⟨A1,n1,c1,A2,n2,c2,A3,n3,c3,A4,n4,c4,rfl,h1,h2,h3,h4⟩:=hv;have aA:Below w.heap.size w ((w.alloc (.cells #[.bool p.neg,.slice A1 n1 c1,.slice A2 n2 c2,.bool q.neg,.slice A3 n3 c3,.slice A4 n4 c4] 91)).alloc (.cells #[.string ⟨#[]⟩,.string ⟨#[]⟩] 24)):=(((Below.refl _ _).alloc (by simp<;>omega) _).alloc (by simp<;>omega) _);have q0:CBlk ((w.alloc (.cells #[.bool p.neg,.slice A1 n1 c1,.slice A2 n2 c2,.bool q.neg,.slice A3 n3 c3,.slice A4 n4 c4] 91)).alloc (.cells #[.string ⟨#[]⟩,.string ⟨#[]⟩] 24)) (w.heap.size) #[.bool p.neg,.slice A1 n1 c1,.slice A2 n2 c2,.bool q.neg,.slice A3 n3 c3,.slice A4 n4 c4] 91:=((CBlk.new _ _ _ _ (by simp)).alloc _);have q1:CBlk ((w.alloc (.cells #[.bool p.neg,.slice A1 n1 c1,.slice A2 n2 c2,.bool q.neg,.slice A3 n3 c3,.slice A4 n4 c4] 91)).alloc (.cells #[.string ⟨#[]⟩,.string ⟨#[]⟩] 24)) (w.heap.size+1) #[.string ⟨#[]⟩,.string ⟨#[]⟩] 24:=(CBlk.new _ _ _ _ (by simp))
 by_cases h0:E=0
 ·have aS:(E != 0)=false:=by simpa using h0
  have H0:=Aa h0;clear h0;go_enter Tryz.func61,Tryz.ntmps61
  go_upto_region 1 with(fail)
  generalize ((w.alloc (.cells #[.bool p.neg,.slice A1 n1 c1,.slice A2 n2 c2,.bool q.neg,.slice A3 n3 c3,.slice A4 n4 c4] 91)).alloc (.cells #[.string ⟨#[]⟩,.string ⟨#[]⟩] 24))=W at *;have a0:=q0.cell 0;have a1:=q0.cell 1;have a2:=q0.cell 2;have aJ:=hT.later aA
  go_wp2_with fail
  refine(zcd p _ W aJ (RatS.mk (h1.later aA) (h2.later aA)) hp).mono ?_;rintro e w2 ⟨s2,rfl,aQ,aC⟩;have aI:=Ad aA aC;have aE:=q0.below aC q0.lt;have aF:=q1.below aC q1.lt;have aK:=aJ.later aC;have aM:=(h3.later aA).later aC;have aN:=(h4.later aA).later aC;clear a0 a1 a2 q0 q1 aA aC aJ h1 h2 h3 h4 hT;have a3:=aE.cell 3;have a4:=aE.cell 4;have a5:=aE.cell 5
  go_wp2_with fail
  refine(zcd q _ w2 aK (RatS.mk aM aN) hq).mono ?_;rintro e w3 ⟨s3,rfl,aR,aG⟩;have aL:=Ad aI aG;have aO:=aF.below aG aF.lt;clear a3 a4 a5 aE aF aI aG aK aM aN;have aP:Below w.heap.size w (w3.alloc (.cells #[.int .i64 (zau p),.int .i64 (zau q)] 27)):=aL.alloc aL.size _;have aD:=aO.alloc (.cells #[.int .i64 (zau p),.int .i64 (zau q)] 27)
  go_wp2_with fail
  refine(za8 (zau p) (zau q) E HE.out w3 _ _ rfl).mono ?_;rintro e w4 ⟨rfl,rfl⟩;generalize (w3.alloc (.cells #[.int .i64 (zau p),.int .i64 (zau q)] 27))=w4 at *;have y0:=aD.cell 0;have y1:=aD.cell 1;have z0:=aD.frozen 0;have z1:=aD.frozen 1;have aH:=zbN aP (g:=w.heap.size+1) (by omega) (.string s2) (.string s3);go_wp2
  refine bodyPost_ret (v := .tuple #[.agg #[.string s2,.string s3],.int .i64 0]) (by simp[results,Tryz.results61,go_sem,y0,y1]) rfl ⟨s2,s3,by rw[H0.out],by rw[aQ,(HL.out.1 H0.out).1],by rw[aR,(HL.out.1 H0.out).2],aH⟩
 ·have aS:(E != 0)=true:=by simpa using h0
  have H0:=Aa h0;clear h0;go_enter Tryz.func61,Tryz.ntmps61
  go_upto_region 1 with(fail)
  generalize ((w.alloc (.cells #[.bool p.neg,.slice A1 n1 c1,.slice A2 n2 c2,.bool q.neg,.slice A3 n3 c3,.slice A4 n4 c4] 91)).alloc (.cells #[.string ⟨#[]⟩,.string ⟨#[]⟩] 24))=W at *;have a0:=q0.cell 0;have a1:=q0.cell 1;have a2:=q0.cell 2;have aJ:=hT.later aA
  go_wp2_with fail
  refine(zcd p _ W aJ (RatS.mk (h1.later aA) (h2.later aA)) hp).mono ?_;rintro e w2 ⟨s2,rfl,aQ,aC⟩;have aI:=Ad aA aC;have aE:=q0.below aC q0.lt;have aF:=q1.below aC q1.lt;have aK:=aJ.later aC;have aM:=(h3.later aA).later aC;have aN:=(h4.later aA).later aC;clear a0 a1 a2 q0 q1 aA aC aJ h1 h2 h3 h4 hT;have a3:=aE.cell 3;have a4:=aE.cell 4;have a5:=aE.cell 5
  go_wp2_with fail
  refine(zcd q _ w2 aK (RatS.mk aM aN) hq).mono ?_;rintro e w3 ⟨s3,rfl,aR,aG⟩;have aL:=Ad aI aG;have aO:=aF.below aG aF.lt;clear a3 a4 a5 aE aF aI aG aK aM aN;have aP:Below w.heap.size w (w3.alloc (.cells #[.int .i64 (zau p),.int .i64 (zau q)] 27)):=aL.alloc aL.size _;have aD:=aO.alloc (.cells #[.int .i64 (zau p),.int .i64 (zau q)] 27)
  go_wp2_with fail
  refine(za8 (zau p) (zau q) E HE.out w3 _ _ rfl).mono ?_;rintro e w4 ⟨rfl,rfl⟩;generalize (w3.alloc (.cells #[.int .i64 (zau p),.int .i64 (zau q)] 27))=w4 at *;have y0:=aD.cell 0;have y1:=aD.cell 1;have z0:=aD.frozen 0;have z1:=aD.frozen 1;have aH:=zbN aP (g:=w.heap.size+1) (by omega) (.string ⟨#[]⟩) (.string ⟨#[]⟩);go_wp2
  refine bodyPost_ret (v := .tuple #[.agg #[.string ⟨#[]⟩,.string ⟨#[]⟩],.int .i64 E]) (by simp[results,Tryz.results61,go_sem,y0,y1]) rfl ⟨⟨#[]⟩,⟨#[]⟩,rfl,by rw[(HL.out.2 H0.out).1],by rw[(HL.out.2 H0.out).2],aH⟩
theorem zed(p q:Q)(v:Value)(w:World)(hT:Tabs w)(hv:ItvS w w.heap.size v p q)(hp:LenQ p 268435456)(hq:LenQ q 268435456) :
  Calls Tryz.prog 61 #[v] w (zdI w (zer p q) (zet p q) (zcm p q)):=by
 refine zjP p q (zcm p q) (zer p q) (zet p q) v w rfl ⟨fun e0 => ?_,fun e0=>⟨by unfold zer;rw[if_neg e0],by unfold zet;rw[if_neg e0]⟩⟩ hT hv hp hq;have ex:zau p=0:=by
  unfold zcm at e0
  by_cases h:zau p=0
  ·exact h
  ·rw[if_pos h] at e0;exact absurd e0 h
 have ey:zau q=0:=by
  unfold zcm at e0;rw[if_neg (by simpa using ex)] at e0;exact e0
 exact⟨by unfold zer zbr;rw[if_pos e0,if_pos ex],by unfold zet zbr;rw[if_pos e0,if_pos ey]⟩
def zbn (w:World) (p q:Q) (x:Int) (e:Ending) (w':World):Prop:=∃ v,e = .returned (.tuple #[v,.int .i64 x])∧ItvS w' w'.heap.size v p q∧Below w.heap.size w w'
theorem zfD(x y E:Int)(p q:Q)(s t:ByteArray)(w:World)(hT:Tabs w)(HE:Hid (E=if x≠0 then x else y))(H0:Hid (E≠0))
 (HR1:Hid (∀ W,Tabs W→Calls Tryz.prog 59 #[.string s] W (zaC W p x)))(HR2:Hid (∀ W,Tabs W→Calls Tryz.prog 59 #[.string t] W (zaC W q y))) :
  Calls Tryz.prog 74 #[.agg #[.string s,.string t]] w (zbn w zc7 zc7 E):=by
 have aH:Below w.heap.size w ((w.alloc (.cells #[.string s,.string t] 24)).alloc (.cells #[.bool false,.slice none 0 0,.slice none 0 0,.bool false,.slice none 0 0,.slice none 0 0] 91)):=(((Below.refl _ _).alloc (by simp<;>omega) _).alloc (by simp<;>omega) _);have q0:CBlk ((w.alloc (.cells #[.string s,.string t] 24)).alloc (.cells #[.bool false,.slice none 0 0,.slice none 0 0,.bool false,.slice none 0 0,.slice none 0 0] 91)) (w.heap.size) #[.string s,.string t] 24:=((CBlk.new _ _ _ _ (by simp)).alloc _);have q1:CBlk ((w.alloc (.cells #[.string s,.string t] 24)).alloc (.cells #[.bool false,.slice none 0 0,.slice none 0 0,.bool false,.slice none 0 0,.slice none 0 0] 91)) (w.heap.size+1) #[.bool false,.slice none 0 0,.slice none 0 0,.bool false,.slice none 0 0,.slice none 0 0] 91:=(CBlk.new _ _ _ _ (by simp));have bB:(E != 0)=true:=by simpa using H0.out
 go_enter Tryz.func74,Tryz.ntmps74
 go_upto_region 1 with(fail)
 generalize ((w.alloc (.cells #[.string s,.string t] 24)).alloc (.cells #[.bool false,.slice none 0 0,.slice none 0 0,.bool false,.slice none 0 0,.slice none 0 0] 91))=W at *;have a0:=q0.cell 0;have a1:=q0.cell 1
 go_wp2_with fail
 refine(HR1.out W (hT.later aH)).mono ?_;rintro e w2 ⟨v2,rfl,⟨A1,n1,c1,A2,n2,c2,rfl,h1,h2⟩,aI⟩;have aG:=Ad aH aI;have aJ:=(q0.below aI q0.lt).alloc (.cells #[.bool p.neg,.slice A1 n1 c1,.slice A2 n2 c2] 87);have aM:=(q1.below aI q1.lt).alloc (.cells #[.bool p.neg,.slice A1 n1 c1,.slice A2 n2 c2] 87);have aA:Below w2.heap.size w2 (w2.alloc (.cells #[.bool p.neg,.slice A1 n1 c1,.slice A2 n2 c2] 87)):=Ac;have aK:CBlk (w2.alloc (.cells #[.bool p.neg,.slice A1 n1 c1,.slice A2 n2 c2] 87)) w2.heap.size #[.bool p.neg,.slice A1 n1 c1,.slice A2 n2 c2] 87:=CBlk.new _ _ _ _ rfl;have aC:=Ad aG aA;have aR:=h1.later aA;have aT:=h2.later aA;have aX:=aG.size;clear a0 a1 q0 q1 aH aI aG h1 h2 aA;go_upto_region 2 with(fail)
 generalize (w2.alloc (.cells #[.bool p.neg,.slice A1 n1 c1,.slice A2 n2 c2] 87))=w3 at *;have a0:=aJ.cell 0;have a1:=aJ.cell 1
 go_wp2_with fail
 refine(HR2.out w3 (hT.later aC)).mono ?_;rintro e w4 ⟨v4,rfl,⟨A3,n3,c3,A4,n4,c4,rfl,h3,h4⟩,aE⟩;have aL:=Ad aC aE;have aQ:=(aM.below aE aM.lt).alloc (.cells #[.bool q.neg,.slice A3 n3 c3,.slice A4 n4 c4] 87);have aN:=(aK.below aE aK.lt).alloc (.cells #[.bool q.neg,.slice A3 n3 c3,.slice A4 n4 c4] 87);have aP:CBlk (w4.alloc (.cells #[.bool q.neg,.slice A3 n3 c3,.slice A4 n4 c4] 87)) w4.heap.size #[.bool q.neg,.slice A3 n3 c3,.slice A4 n4 c4] 87:=CBlk.new _ _ _ _ rfl;have aA:Below w4.heap.size w4 (w4.alloc (.cells #[.bool q.neg,.slice A3 n3 c3,.slice A4 n4 c4] 87)):=Ac;have aD:=Ad aL aA;have aO:=(aR.later aE).later aA;have aS:=(aT.later aE).later aA;have aV:=h3.later aA;have aU:=h4.later aA;clear a0 a1 aJ aM aK aC aE aL aR aT h3 h4 aA;go_upto_region 3 with(fail)
 generalize (w4.alloc (.cells #[.bool q.neg,.slice A3 n3 c3,.slice A4 n4 c4] 87))=w5 at *;have aY:Below w.heap.size w (w5.alloc (.cells #[.int .i64 x,.int .i64 y] 27)):=aD.alloc aD.size _;have aF:Below w5.heap.size w5 (w5.alloc (.cells #[.int .i64 x,.int .i64 y] 27)):=Ac;have aW:=aQ.alloc (.cells #[.int .i64 x,.int .i64 y] 27);have bG:=aN.alloc (.cells #[.int .i64 x,.int .i64 y] 27);have bF:=aP.alloc (.cells #[.int .i64 x,.int .i64 y] 27);have bE:=aO.later aF;have bC:=aS.later aF;have bD:=aV.later aF;have bA:=aU.later aF
 go_wp2_with fail
 refine(za8 x y E HE.out w5 _ _ rfl).mono ?_;rintro e w6 ⟨rfl,rfl⟩;clear aQ aN aP aD aF aO aS aV aU;generalize (w5.alloc (.cells #[.int .i64 x,.int .i64 y] 27))=w6 at *;have qR:=aW;have aZ:=aY;have y0:=qR.cell 0;have y1:=qR.cell 1;have y2:=qR.cell 2;have y3:=qR.cell 3;have y4:=qR.cell 4;have y5:=qR.cell 5;have z0:=qR.frozen 0;have z1:=qR.frozen 1;have z2:=qR.frozen 2;have z3:=qR.frozen 3;have z4:=qR.frozen 4;have z5:=qR.frozen 5;have hI:=zbX (p:=zc7) (q:=zc7) qR aZ (by omega) rfl (NatS.nil _ _) (NatS.nil _ _) (NatS.nil _ _) (NatS.nil _ _);unfold Go.Proofs.YtbkgkoenppkhpaaGreatDoor.set6 at hI;go_wp2
 refine bodyPost_ret (v := .tuple #[.agg #[.bool false,.slice none 0 0,.slice none 0 0,.bool false,.slice none 0 0,.slice none 0 0],.int .i64 E]) (by simp[results,Tryz.results74,go_sem,y0,y1,y2,y3,y4,y5]) rfl ⟨_,rfl,hI⟩
theorem zgU(x y:Int)(p q:Q)(s t:ByteArray)(w:World)(hT:Tabs w)(HX:Hid (x=0∧y=0))(HO:Hid (0<rcmp p q))(lp:LenQ p 268435456)(lq:LenQ q 268435456)
 (HR1:Hid (∀ W,Tabs W→Calls Tryz.prog 59 #[.string s] W (zaC W p x)))(HR2:Hid (∀ W,Tabs W→Calls Tryz.prog 59 #[.string t] W (zaC W q y))) :
  Calls Tryz.prog 74 #[.agg #[.string s,.string t]] w (zbn w zc7 zc7 11):=by
 have aH:Below w.heap.size w ((w.alloc (.cells #[.string s,.string t] 24)).alloc (.cells #[.bool false,.slice none 0 0,.slice none 0 0,.bool false,.slice none 0 0,.slice none 0 0] 91)):=(((Below.refl _ _).alloc (by simp<;>omega) _).alloc (by simp<;>omega) _);have q0:CBlk ((w.alloc (.cells #[.string s,.string t] 24)).alloc (.cells #[.bool false,.slice none 0 0,.slice none 0 0,.bool false,.slice none 0 0,.slice none 0 0] 91)) (w.heap.size) #[.string s,.string t] 24:=((CBlk.new _ _ _ _ (by simp)).alloc _);have q1:CBlk ((w.alloc (.cells #[.string s,.string t] 24)).alloc (.cells #[.bool false,.slice none 0 0,.slice none 0 0,.bool false,.slice none 0 0,.slice none 0 0] 91)) (w.heap.size+1) #[.bool false,.slice none 0 0,.slice none 0 0,.bool false,.slice none 0 0,.slice none 0 0] 91:=(CBlk.new _ _ _ _ (by simp));obtain⟨E,hE⟩:∃ E,E=if x≠0 then x else y:=⟨_,rfl⟩
 have HE:=Aa hE;have bH:(E != 0)=false:=by rw[hE,HX.out.1,HX.out.2];rfl
 have HC:=Aa (fun v u W h1 h2=>zbp p q v u W h1 h2 lp lq);obtain⟨r,hr⟩:∃ r,r=rcmp p q:=⟨_,rfl⟩;rw[←hr] at HC HO;have d1:decide (0<r)=true:=by simpa using HO.out
 clear hE hr;go_enter Tryz.func74,Tryz.ntmps74
 go_upto_region 1 with(fail)
 generalize ((w.alloc (.cells #[.string s,.string t] 24)).alloc (.cells #[.bool false,.slice none 0 0,.slice none 0 0,.bool false,.slice none 0 0,.slice none 0 0] 91))=W at *;have a0:=q0.cell 0;have a1:=q0.cell 1
 go_wp2_with fail
 refine(HR1.out W (hT.later aH)).mono ?_;rintro e w2 ⟨v2,rfl,⟨A1,n1,c1,A2,n2,c2,rfl,h1,h2⟩,aI⟩;have aG:=Ad aH aI;have aJ:=(q0.below aI q0.lt).alloc (.cells #[.bool p.neg,.slice A1 n1 c1,.slice A2 n2 c2] 87);have aO:=(q1.below aI q1.lt).alloc (.cells #[.bool p.neg,.slice A1 n1 c1,.slice A2 n2 c2] 87);have aA:Below w2.heap.size w2 (w2.alloc (.cells #[.bool p.neg,.slice A1 n1 c1,.slice A2 n2 c2] 87)):=Ac;have aK:CBlk (w2.alloc (.cells #[.bool p.neg,.slice A1 n1 c1,.slice A2 n2 c2] 87)) w2.heap.size #[.bool p.neg,.slice A1 n1 c1,.slice A2 n2 c2] 87:=CBlk.new _ _ _ _ rfl;have aC:=Ad aG aA;have aV:=h1.later aA;have aY:=h2.later aA;have bE:=aG.size;clear a0 a1 q0 q1 aH aI aG h1 h2 aA;go_upto_region 2 with(fail)
 generalize (w2.alloc (.cells #[.bool p.neg,.slice A1 n1 c1,.slice A2 n2 c2] 87))=w3 at *;have a0:=aJ.cell 0;have a1:=aJ.cell 1
 go_wp2_with fail
 refine(HR2.out w3 (hT.later aC)).mono ?_;rintro e w4 ⟨v4,rfl,⟨A3,n3,c3,A4,n4,c4,rfl,h3,h4⟩,aE⟩;have aL:=Ad aC aE;have aU:=(aO.below aE aO.lt).alloc (.cells #[.bool q.neg,.slice A3 n3 c3,.slice A4 n4 c4] 87);have aP:=(aK.below aE aK.lt).alloc (.cells #[.bool q.neg,.slice A3 n3 c3,.slice A4 n4 c4] 87);have aT:CBlk (w4.alloc (.cells #[.bool q.neg,.slice A3 n3 c3,.slice A4 n4 c4] 87)) w4.heap.size #[.bool q.neg,.slice A3 n3 c3,.slice A4 n4 c4] 87:=CBlk.new _ _ _ _ rfl;have aA:Below w4.heap.size w4 (w4.alloc (.cells #[.bool q.neg,.slice A3 n3 c3,.slice A4 n4 c4] 87)):=Ac;have aD:=Ad aL aA;have aS:=(aV.later aE).later aA;have aW:=(aY.later aE).later aA;have bA:=h3.later aA;have aZ:=h4.later aA;clear a0 a1 aJ aO aK aC aE aL aV aY h3 h4 aA;go_upto_region 3 with(fail)
 generalize (w4.alloc (.cells #[.bool q.neg,.slice A3 n3 c3,.slice A4 n4 c4] 87))=w5 at *;have aX:Below w.heap.size w (w5.alloc (.cells #[.int .i64 x,.int .i64 y] 27)):=aD.alloc aD.size _;have aF:Below w5.heap.size w5 (w5.alloc (.cells #[.int .i64 x,.int .i64 y] 27)):=Ac;have aR:=aU.alloc (.cells #[.int .i64 x,.int .i64 y] 27);have aN:=aP.alloc (.cells #[.int .i64 x,.int .i64 y] 27);have aM:=aT.alloc (.cells #[.int .i64 x,.int .i64 y] 27);have bF:=aS.later aF;have bC:=aW.later aF;have bD:=bA.later aF;have bB:=aZ.later aF
 go_wp2_with fail
 refine(za8 x y E HE.out w5 _ _ rfl).mono ?_;rintro e w6 ⟨rfl,rfl⟩;clear aU aP aT aD aF aS aW bA aZ;generalize (w5.alloc (.cells #[.int .i64 x,.int .i64 y] 27))=w6 at *;have bK:=aN.cell 0;have bJ:=aN.cell 1;have bL:=aN.cell 2;have bI:=aM.cell 0;have bM:=aM.cell 1;have bN:=aM.cell 2
 go_wp2_with fail
 refine(HC.out _ _ w6 (RatS.mk bF bC) (RatS.mk bD bB)).mono ?_;rintro e w7 ⟨rfl,aQ⟩;have qR:=aR.below aQ aR.lt;have bG:=Ad aX aQ;have y0:=qR.cell 0;have y1:=qR.cell 1;have y2:=qR.cell 2;have y3:=qR.cell 3;have y4:=qR.cell 4;have y5:=qR.cell 5;have z0:=qR.frozen 0;have z1:=qR.frozen 1;have z2:=qR.frozen 2;have z3:=qR.frozen 3;have z4:=qR.frozen 4;have z5:=qR.frozen 5;have hI:=zbX (p:=zc7) (q:=zc7) qR bG (by omega) rfl (NatS.nil _ _) (NatS.nil _ _) (NatS.nil _ _) (NatS.nil _ _);unfold Go.Proofs.YtbkgkoenppkhpaaGreatDoor.set6 at hI;go_wp2
 refine bodyPost_ret (v := .tuple #[.agg #[.bool false,.slice none 0 0,.slice none 0 0,.bool false,.slice none 0 0,.slice none 0 0],.int .i64 11]) (by simp[results,Tryz.results74,go_sem,y0,y1,y2,y3,y4,y5]) rfl ⟨_,rfl,hI⟩
theorem zjZ(x y:Int)(p q:Q)(s t:ByteArray)(w:World)(hT:Tabs w)(HX:Hid (x=0∧y=0))(HO:Hid (rcmp p q≤0))(lp:LenQ p 268435456)(lq:LenQ q 268435456)
 (HR1:Hid (∀ W,Tabs W→Calls Tryz.prog 59 #[.string s] W (zaC W p x)))(HR2:Hid (∀ W,Tabs W→Calls Tryz.prog 59 #[.string t] W (zaC W q y))) :
  Calls Tryz.prog 74 #[.agg #[.string s,.string t]] w (zbn w p q 0):=by
 have aK:Below w.heap.size w ((w.alloc (.cells #[.string s,.string t] 24)).alloc (.cells #[.bool false,.slice none 0 0,.slice none 0 0,.bool false,.slice none 0 0,.slice none 0 0] 91)):=(((Below.refl _ _).alloc (by simp<;>omega) _).alloc (by simp<;>omega) _);have q0:CBlk ((w.alloc (.cells #[.string s,.string t] 24)).alloc (.cells #[.bool false,.slice none 0 0,.slice none 0 0,.bool false,.slice none 0 0,.slice none 0 0] 91)) (w.heap.size) #[.string s,.string t] 24:=((CBlk.new _ _ _ _ (by simp)).alloc _);have q1:CBlk ((w.alloc (.cells #[.string s,.string t] 24)).alloc (.cells #[.bool false,.slice none 0 0,.slice none 0 0,.bool false,.slice none 0 0,.slice none 0 0] 91)) (w.heap.size+1) #[.bool false,.slice none 0 0,.slice none 0 0,.bool false,.slice none 0 0,.slice none 0 0] 91:=(CBlk.new _ _ _ _ (by simp));obtain⟨E,hE⟩:∃ E,E=if x≠0 then x else y:=⟨_,rfl⟩
 have HE:=Aa hE;have bT:(E != 0)=false:=by rw[hE,HX.out.1,HX.out.2];rfl
 have HC:=Aa (fun v u W h1 h2=>zbp p q v u W h1 h2 lp lq);obtain⟨r,hr⟩:∃ r,r=rcmp p q:=⟨_,rfl⟩;rw[←hr] at HC HO;have d1:decide (0<r)=false:=by have:=HO.out;simp;omega
 clear hE hr;go_enter Tryz.func74,Tryz.ntmps74
 go_upto_region 1 with(fail)
 generalize ((w.alloc (.cells #[.string s,.string t] 24)).alloc (.cells #[.bool false,.slice none 0 0,.slice none 0 0,.bool false,.slice none 0 0,.slice none 0 0] 91))=W at *;have a0:=q0.cell 0;have a1:=q0.cell 1
 go_wp2_with fail
 refine(HR1.out W (hT.later aK)).mono ?_;rintro e w2 ⟨v2,rfl,⟨A1,n1,c1,A2,n2,c2,rfl,h1,h2⟩,aL⟩;have aJ:=Ad aK aL;have aP:=(q0.below aL q0.lt).alloc (.cells #[.bool p.neg,.slice A1 n1 c1,.slice A2 n2 c2] 87);have aX:=(q1.below aL q1.lt).alloc (.cells #[.bool p.neg,.slice A1 n1 c1,.slice A2 n2 c2] 87);have aA:Below w2.heap.size w2 (w2.alloc (.cells #[.bool p.neg,.slice A1 n1 c1,.slice A2 n2 c2] 87)):=Ac;have aR:CBlk (w2.alloc (.cells #[.bool p.neg,.slice A1 n1 c1,.slice A2 n2 c2] 87)) w2.heap.size #[.bool p.neg,.slice A1 n1 c1,.slice A2 n2 c2] 87:=CBlk.new _ _ _ _ rfl;have aD:=Ad aJ aA;have bD:=h1.later aA;have bK:=h2.later aA;have bS:=aJ.size;clear a0 a1 q0 q1 aK aL aJ h1 h2 aA;go_upto_region 2 with(fail)
 generalize (w2.alloc (.cells #[.bool p.neg,.slice A1 n1 c1,.slice A2 n2 c2] 87))=w3 at *;have a0:=aP.cell 0;have a1:=aP.cell 1
 go_wp2_with fail
 refine(HR2.out w3 (hT.later aD)).mono ?_;rintro e w4 ⟨v4,rfl,⟨A3,n3,c3,A4,n4,c4,rfl,h3,h4⟩,aF⟩;have aT:=Ad aD aF;have bE:=(aX.below aF aX.lt).alloc (.cells #[.bool q.neg,.slice A3 n3 c3,.slice A4 n4 c4] 87);have aY:=(aR.below aF aR.lt).alloc (.cells #[.bool q.neg,.slice A3 n3 c3,.slice A4 n4 c4] 87);have bA:CBlk (w4.alloc (.cells #[.bool q.neg,.slice A3 n3 c3,.slice A4 n4 c4] 87)) w4.heap.size #[.bool q.neg,.slice A3 n3 c3,.slice A4 n4 c4] 87:=CBlk.new _ _ _ _ rfl;have aA:Below w4.heap.size w4 (w4.alloc (.cells #[.bool q.neg,.slice A3 n3 c3,.slice A4 n4 c4] 87)):=Ac;have aE:=Ad aT aA;have aZ:=(bD.later aF).later aA;have bG:=(bK.later aF).later aA;have bP:=h3.later aA;have bO:=h4.later aA;clear a0 a1 aP aX aR aD aF aT bD bK h3 h4 aA;go_upto_region 3 with(fail)
 generalize (w4.alloc (.cells #[.bool q.neg,.slice A3 n3 c3,.slice A4 n4 c4] 87))=w5 at *;have aW:Below w.heap.size w (w5.alloc (.cells #[.int .i64 x,.int .i64 y] 27)):=aE.alloc aE.size _;have aI:Below w5.heap.size w5 (w5.alloc (.cells #[.int .i64 x,.int .i64 y] 27)):=Ac;have aM:=bE.alloc (.cells #[.int .i64 x,.int .i64 y] 27);have aH:=aY.alloc (.cells #[.int .i64 x,.int .i64 y] 27);have aG:=bA.alloc (.cells #[.int .i64 x,.int .i64 y] 27);have aU:=aZ.later aI;have aQ:=bG.later aI;have aS:=bP.later aI;have aO:=bO.later aI
 go_wp2_with fail
 refine(za8 x y E HE.out w5 _ _ rfl).mono ?_;rintro e w6 ⟨rfl,rfl⟩;clear bE aY bA aE aI aZ bG bP bO;generalize (w5.alloc (.cells #[.int .i64 x,.int .i64 y] 27))=w6 at *;have bH:=aH.cell 0;have bC:=aH.cell 1;have bM:=aH.cell 2;have bB:=aG.cell 0;have bQ:=aG.cell 1;have bR:=aG.cell 2
 go_wp2_with fail
 refine(HC.out _ _ w6 (RatS.mk aU aQ) (RatS.mk aS aO)).mono ?_;rintro e w7 ⟨rfl,aC⟩;have qR:=aM.below aC aM.lt;have aV:=aH.below aC aH.lt;have aN:=aG.below aC aG.lt;have bL:=Ad aW aC;have bJ:=aU.later aC;have bN:=aQ.later aC;have bF:=aS.later aC;have bI:=aO.later aC;clear bH bC bM bB bQ bR aM aH aG aC aW aU aQ aS aO;have bH:=aV.cell 0;have bC:=aV.cell 1;have bM:=aV.cell 2;have bB:=aN.cell 0;have bQ:=aN.cell 1;have bR:=aN.cell 2;have y0:=qR.cell 0;have y1:=qR.cell 1;have y2:=qR.cell 2;have y3:=qR.cell 3;have y4:=qR.cell 4;have y5:=qR.cell 5;have z0:=qR.frozen 0;have z1:=qR.frozen 1;have z2:=qR.frozen 2;have z3:=qR.frozen 3;have z4:=qR.frozen 4;have z5:=qR.frozen 5;have hI:=zbX (p:=p) (q:=q) qR bL (by omega) rfl bJ bN bF bI;unfold Go.Proofs.YtbkgkoenppkhpaaGreatDoor.set6 at hI;have HI:=Aa hI;clear hI bJ bN bF bI bL;go_wp2
 refine bodyPost_ret (v := .tuple #[.agg #[.bool p.neg,.slice A1 n1 c1,.slice A2 n2 c2,.bool q.neg,.slice A3 n3 c3,.slice A4 n4 c4],.int .i64 0]) (by simp[results,Tryz.results74,go_sem,y0,y1,y2,y3,y4,y5]) rfl ⟨_,rfl,HI.out⟩
def za7 (l m:List UInt8):Int:=if zan l≠0 then zan l else if zan m≠0 then zan m else if 0<rcmp (zaf l) (zaf m) then 11 else 0
def rdLo (l m:List UInt8):Q:=if za7 l m=0 then zaf l else zc7
def rdHi (l m:List UInt8):Q:=if za7 l m=0 then zaf m else zc7
theorem zc1(s t:ByteArray)(w:World)(hT:Tabs w)(hs:s.size≤4294967296)(ht:t.size≤4294967296) :
  Calls Tryz.prog 74 #[.agg #[.string s,.string t]] w (zbn w (rdLo s.data.toList t.data.toList) (rdHi s.data.toList t.data.toList) (za7 s.data.toList t.data.toList)):=by
 have aC:=Aa (fun W h=>zca s W h hs);have aA:=Aa (fun W h=>zca t W h ht)
 by_cases hx:zan s.data.toList=0
 ·by_cases hy:zan t.data.toList=0
  ·have l1:=zaE hx
   have l2:=zaE hy;have lp:LenQ (zaf s.data.toList) 268435456:=⟨by omega,by omega⟩;have lq:LenQ (zaf t.data.toList) 268435456:=⟨by omega,by omega⟩
   by_cases ho:0<rcmp (zaf s.data.toList) (zaf t.data.toList)
   ·have e:za7 s.data.toList t.data.toList=11:=by unfold za7;rw[if_neg (by simpa using hx),if_neg (by simpa using hy),if_pos ho]
    have h:=zgU _ _ _ _ s t w hT ⟨hx,hy⟩ ho lp lq aC aA;unfold rdLo rdHi;rw[e,if_neg (by omega)];exact h
   ·have e:za7 s.data.toList t.data.toList=0:=by unfold za7;rw[if_neg (by simpa using hx),if_neg (by simpa using hy),if_neg ho]
    have h:=zjZ _ _ _ _ s t w hT ⟨hx,hy⟩ (by exact Int.not_lt.1 ho) lp lq aC aA;unfold rdLo rdHi;rw[e,if_pos rfl,if_pos rfl];exact h
  ·have e:za7 s.data.toList t.data.toList=zan t.data.toList:=by unfold za7;rw[if_neg (by simpa using hx),if_pos hy]
   have h:=zfD _ _ (zan t.data.toList) _ _ s t w hT (by rw[Hid,if_neg (by simpa using hx)]) hy aC aA;unfold rdLo rdHi;rw[e,if_neg hy,if_neg hy];exact h
 ·have e:za7 s.data.toList t.data.toList=zan s.data.toList:=by unfold za7;rw[if_pos hx]
  have h:=zfD _ _ (zan s.data.toList) _ _ s t w hT (by rw[Hid,if_pos hx]) hx aC aA;unfold rdLo rdHi;rw[e,if_neg hx,if_neg hx];exact h
def err2 (x y:Int):Int:=if x≠0 then x else y
end Go.Proofs.YtbkgkoenppkhpaaGreatDoor
