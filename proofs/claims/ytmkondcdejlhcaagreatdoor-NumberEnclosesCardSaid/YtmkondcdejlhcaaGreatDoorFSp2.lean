/- Contracts of package number: the text of a span, a span read. -/
import Derived.Test.YtmkondcdejlhcaaGreatDoorFSp1
set_option maxRecDepth 100000
set_option maxHeartbeats 4000000
namespace Go.Proofs.YtmkondcdejlhcaaGreatDoor
open Go.RowKit Bn
def zbY (p q:Q):Int:=if zaC p≠0 then zaC p else zaC q
def zc0 (p q:Q):List UInt8:=if zbY p q=0 then zaE p else[]
def zcZ (p q:Q):List UInt8:=if zbY p q=0 then zaE q else[]
def zcT (w:World) (l m:List UInt8) (x:Int) (e:Ending) (w':World):Prop:=∃ s t:ByteArray,e = .returned (.tuple #[.agg #[.string s,.string t],.int .i64 x])∧s.data.toList=l∧t.data.toList=m∧Below w.heap.size w w'
theorem za7(x y E:Int)(hE:E=if x≠0 then x else y)(w:World)(t:TypeId)(g:Nat)(hg:w.heap.size=g) :
  Calls Tryz.prog 69 #[.slice (some ⟨g,0,none⟩) 2 2] (w.alloc (.cells #[.int .i64 x,.int .i64 y] t)) fun e w'=>e = .returned (.int .i64 E)∧w.alloc (.cells #[.int .i64 x,.int .i64 y] t)=w':=by
 rw[hE];exact zeP x y w t g hg
theorem zbL{a w:World}{B g:Nat}(h:Below B a w)(hg:B≤g)(u v:Value):Below B a ((w.setCell ⟨g,0,none⟩ u).setCell ⟨g,1,none⟩ v):=
 (h.setCell (p:=⟨g,0,none⟩) hg _).setCell (p:=⟨g,1,none⟩) hg _
theorem ziR (p q:Q) (E:Int) (l m:List UInt8) (v:Value) (w:World) (HE:Hid (E=if zaC p≠0 then zaC p else zaC q)) (HL:Hid ((E=0→l=zbx p∧m=zbx q)∧(E≠0→l=[]∧m=[]))) (hT:Tabs w) (hv:ItvS w w.heap.size v p q) (hp:LenQ p 268435456) (hq:LenQ q 268435456) :
  Calls Tryz.prog 80 #[v] w (zcT w l m E):=by
 obtain⟨A1,n1,c1,A2,n2,c2,A3,n3,c3,A4,n4,c4,rfl,h1,h2,h3,h4⟩:=hv;have aA:Below w.heap.size w ((w.alloc (.cells #[.bool p.neg,.slice A1 n1 c1,.slice A2 n2 c2,.bool q.neg,.slice A3 n3 c3,.slice A4 n4 c4] 107)).alloc (.cells #[.string ⟨#[]⟩,.string ⟨#[]⟩] 39)):=(((Below.refl _ _).alloc (by simp<;>omega) _).alloc (by simp<;>omega) _);have q0:CBlk ((w.alloc (.cells #[.bool p.neg,.slice A1 n1 c1,.slice A2 n2 c2,.bool q.neg,.slice A3 n3 c3,.slice A4 n4 c4] 107)).alloc (.cells #[.string ⟨#[]⟩,.string ⟨#[]⟩] 39)) (w.heap.size) #[.bool p.neg,.slice A1 n1 c1,.slice A2 n2 c2,.bool q.neg,.slice A3 n3 c3,.slice A4 n4 c4] 107:=((CBlk.new _ _ _ _ (by simp)).alloc _);have q1:CBlk ((w.alloc (.cells #[.bool p.neg,.slice A1 n1 c1,.slice A2 n2 c2,.bool q.neg,.slice A3 n3 c3,.slice A4 n4 c4] 107)).alloc (.cells #[.string ⟨#[]⟩,.string ⟨#[]⟩] 39)) (w.heap.size+1) #[.string ⟨#[]⟩,.string ⟨#[]⟩] 39:=(CBlk.new _ _ _ _ (by simp))
 by_cases h0:E=0
 ·have aS:(E != 0)=false:=by simpa using h0
  have H0:=Aa h0;clear h0;go_enter Tryz.func80,Tryz.ntmps80
  go_upto_region 1 with(fail)
  generalize ((w.alloc (.cells #[.bool p.neg,.slice A1 n1 c1,.slice A2 n2 c2,.bool q.neg,.slice A3 n3 c3,.slice A4 n4 c4] 107)).alloc (.cells #[.string ⟨#[]⟩,.string ⟨#[]⟩] 39))=W at *;have a0:=q0.cell 0;have a1:=q0.cell 1;have a2:=q0.cell 2;have aI:=hT.later aA
  go_wp2_with fail
  refine(zcc p _ W aI (RatS.mk (h1.later aA) (h2.later aA)) hp).mono ?_;rintro e w2 ⟨s2,rfl,aR,aC⟩;have aJ:=Ad aA aC;have aE:=q0.below aC q0.lt;have aF:=q1.below aC q1.lt;have aL:=aI.later aC;have aN:=(h3.later aA).later aC;have aK:=(h4.later aA).later aC;clear a0 a1 a2 q0 q1 aA aC aI h1 h2 h3 h4 hT;have a3:=aE.cell 3;have a4:=aE.cell 4;have a5:=aE.cell 5
  go_wp2_with fail
  refine(zcc q _ w2 aL (RatS.mk aN aK) hq).mono ?_;rintro e w3 ⟨s3,rfl,aQ,aG⟩;have aM:=Ad aJ aG;have aO:=aF.below aG aF.lt;clear a3 a4 a5 aE aF aJ aG aL aN aK;have aP:Below w.heap.size w (w3.alloc (.cells #[.int .i64 (zaC p),.int .i64 (zaC q)] 26)):=aM.alloc aM.size _;have aD:=aO.alloc (.cells #[.int .i64 (zaC p),.int .i64 (zaC q)] 26)
  go_wp2_with fail
  refine(za7 (zaC p) (zaC q) E HE.out w3 _ _ rfl).mono ?_;rintro e w4 ⟨rfl,rfl⟩;generalize (w3.alloc (.cells #[.int .i64 (zaC p),.int .i64 (zaC q)] 26))=w4 at *;have y0:=aD.cell 0;have y1:=aD.cell 1;have z0:=aD.frozen 0;have z1:=aD.frozen 1;have aH:=zbL aP (g:=w.heap.size+1) (by omega) (.string s2) (.string s3);go_wp2
  refine bodyPost_ret (v := .tuple #[.agg #[.string s2,.string s3],.int .i64 0]) (by simp[results,Tryz.results80,go_sem,y0,y1]) rfl ⟨s2,s3,by rw[H0.out],by rw[aR,(HL.out.1 H0.out).1],by rw[aQ,(HL.out.1 H0.out).2],aH⟩
 ·have aS:(E != 0)=true:=by simpa using h0
  have H0:=Aa h0;clear h0;go_enter Tryz.func80,Tryz.ntmps80
  go_upto_region 1 with(fail)
  generalize ((w.alloc (.cells #[.bool p.neg,.slice A1 n1 c1,.slice A2 n2 c2,.bool q.neg,.slice A3 n3 c3,.slice A4 n4 c4] 107)).alloc (.cells #[.string ⟨#[]⟩,.string ⟨#[]⟩] 39))=W at *;have a0:=q0.cell 0;have a1:=q0.cell 1;have a2:=q0.cell 2;have aI:=hT.later aA
  go_wp2_with fail
  refine(zcc p _ W aI (RatS.mk (h1.later aA) (h2.later aA)) hp).mono ?_;rintro e w2 ⟨s2,rfl,aR,aC⟩;have aJ:=Ad aA aC;have aE:=q0.below aC q0.lt;have aF:=q1.below aC q1.lt;have aL:=aI.later aC;have aN:=(h3.later aA).later aC;have aK:=(h4.later aA).later aC;clear a0 a1 a2 q0 q1 aA aC aI h1 h2 h3 h4 hT;have a3:=aE.cell 3;have a4:=aE.cell 4;have a5:=aE.cell 5
  go_wp2_with fail
  refine(zcc q _ w2 aL (RatS.mk aN aK) hq).mono ?_;rintro e w3 ⟨s3,rfl,aQ,aG⟩;have aM:=Ad aJ aG;have aO:=aF.below aG aF.lt;clear a3 a4 a5 aE aF aJ aG aL aN aK;have aP:Below w.heap.size w (w3.alloc (.cells #[.int .i64 (zaC p),.int .i64 (zaC q)] 26)):=aM.alloc aM.size _;have aD:=aO.alloc (.cells #[.int .i64 (zaC p),.int .i64 (zaC q)] 26)
  go_wp2_with fail
  refine(za7 (zaC p) (zaC q) E HE.out w3 _ _ rfl).mono ?_;rintro e w4 ⟨rfl,rfl⟩;generalize (w3.alloc (.cells #[.int .i64 (zaC p),.int .i64 (zaC q)] 26))=w4 at *;have y0:=aD.cell 0;have y1:=aD.cell 1;have z0:=aD.frozen 0;have z1:=aD.frozen 1;have aH:=zbL aP (g:=w.heap.size+1) (by omega) (.string ⟨#[]⟩) (.string ⟨#[]⟩);go_wp2
  refine bodyPost_ret (v := .tuple #[.agg #[.string ⟨#[]⟩,.string ⟨#[]⟩],.int .i64 E]) (by simp[results,Tryz.results80,go_sem,y0,y1]) rfl ⟨⟨#[]⟩,⟨#[]⟩,rfl,by rw[(HL.out.2 H0.out).1],by rw[(HL.out.2 H0.out).2],aH⟩
theorem zd2(p q:Q)(v:Value)(w:World)(hT:Tabs w)(hv:ItvS w w.heap.size v p q)(hp:LenQ p 268435456)(hq:LenQ q 268435456) :
  Calls Tryz.prog 80 #[v] w (zcT w (zc0 p q) (zcZ p q) (zbY p q)):=by
 refine ziR p q (zbY p q) (zc0 p q) (zcZ p q) v w rfl ⟨fun e0 => ?_,fun e0=>⟨by unfold zc0;rw[if_neg e0],by unfold zcZ;rw[if_neg e0]⟩⟩ hT hv hp hq;have ex:zaC p=0:=by
  unfold zbY at e0
  by_cases h:zaC p=0
  ·exact h
  ·rw[if_pos h] at e0;exact absurd e0 h
 have ey:zaC q=0:=by
  unfold zbY at e0;rw[if_neg (by simpa using ex)] at e0;exact e0
 exact⟨by unfold zc0 zbx;rw[if_pos e0,if_pos ex],by unfold zcZ zbx;rw[if_pos e0,if_pos ey]⟩
def zbm (w:World) (p q:Q) (x:Int) (e:Ending) (w':World):Prop:=∃ v,e = .returned (.tuple #[v,.int .i64 x])∧ItvS w' w'.heap.size v p q∧Below w.heap.size w w'
theorem zff(x y E:Int)(p q:Q)(s t:ByteArray)(w:World)(hT:Tabs w)(HE:Hid (E=if x≠0 then x else y))(H0:Hid (E≠0))
 (HR1:Hid (∀ W,Tabs W→Calls Tryz.prog 62 #[.string s] W (zaz W p x)))(HR2:Hid (∀ W,Tabs W→Calls Tryz.prog 62 #[.string t] W (zaz W q y))) :
  Calls Tryz.prog 78 #[.agg #[.string s,.string t]] w (zbm w zb6 zb6 E):=by
 have aG:Below w.heap.size w ((w.alloc (.cells #[.string s,.string t] 39)).alloc (.cells #[.bool false,.slice none 0 0,.slice none 0 0,.bool false,.slice none 0 0,.slice none 0 0] 107)):=(((Below.refl _ _).alloc (by simp<;>omega) _).alloc (by simp<;>omega) _);have q0:CBlk ((w.alloc (.cells #[.string s,.string t] 39)).alloc (.cells #[.bool false,.slice none 0 0,.slice none 0 0,.bool false,.slice none 0 0,.slice none 0 0] 107)) (w.heap.size) #[.string s,.string t] 39:=((CBlk.new _ _ _ _ (by simp)).alloc _);have q1:CBlk ((w.alloc (.cells #[.string s,.string t] 39)).alloc (.cells #[.bool false,.slice none 0 0,.slice none 0 0,.bool false,.slice none 0 0,.slice none 0 0] 107)) (w.heap.size+1) #[.bool false,.slice none 0 0,.slice none 0 0,.bool false,.slice none 0 0,.slice none 0 0] 107:=(CBlk.new _ _ _ _ (by simp));have bD:(E != 0)=true:=by simpa using H0.out
 go_enter Tryz.func78,Tryz.ntmps78
 go_upto_region 1 with(fail)
 generalize ((w.alloc (.cells #[.string s,.string t] 39)).alloc (.cells #[.bool false,.slice none 0 0,.slice none 0 0,.bool false,.slice none 0 0,.slice none 0 0] 107))=W at *;have a0:=q0.cell 0;have a1:=q0.cell 1
 go_wp2_with fail
 refine(HR1.out W (hT.later aG)).mono ?_;rintro e w2 ⟨v2,rfl,⟨A1,n1,c1,A2,n2,c2,rfl,h1,h2⟩,aH⟩;have aI:=Ad aG aH;have aJ:=(q0.below aH q0.lt).alloc (.cells #[.bool p.neg,.slice A1 n1 c1,.slice A2 n2 c2] 91);have aL:=(q1.below aH q1.lt).alloc (.cells #[.bool p.neg,.slice A1 n1 c1,.slice A2 n2 c2] 91);have aA:Below w2.heap.size w2 (w2.alloc (.cells #[.bool p.neg,.slice A1 n1 c1,.slice A2 n2 c2] 91)):=Ac;have aM:CBlk (w2.alloc (.cells #[.bool p.neg,.slice A1 n1 c1,.slice A2 n2 c2] 91)) w2.heap.size #[.bool p.neg,.slice A1 n1 c1,.slice A2 n2 c2] 91:=CBlk.new _ _ _ _ rfl;have aC:=Ad aI aA;have aS:=h1.later aA;have aQ:=h2.later aA;have aX:=aI.size;clear a0 a1 q0 q1 aG aH aI h1 h2 aA;go_upto_region 2 with(fail)
 generalize (w2.alloc (.cells #[.bool p.neg,.slice A1 n1 c1,.slice A2 n2 c2] 91))=w3 at *;have a0:=aJ.cell 0;have a1:=aJ.cell 1
 go_wp2_with fail
 refine(HR2.out w3 (hT.later aC)).mono ?_;rintro e w4 ⟨v4,rfl,⟨A3,n3,c3,A4,n4,c4,rfl,h3,h4⟩,aE⟩;have aK:=Ad aC aE;have aO:=(aL.below aE aL.lt).alloc (.cells #[.bool q.neg,.slice A3 n3 c3,.slice A4 n4 c4] 91);have aU:=(aM.below aE aM.lt).alloc (.cells #[.bool q.neg,.slice A3 n3 c3,.slice A4 n4 c4] 91);have aP:CBlk (w4.alloc (.cells #[.bool q.neg,.slice A3 n3 c3,.slice A4 n4 c4] 91)) w4.heap.size #[.bool q.neg,.slice A3 n3 c3,.slice A4 n4 c4] 91:=CBlk.new _ _ _ _ rfl;have aA:Below w4.heap.size w4 (w4.alloc (.cells #[.bool q.neg,.slice A3 n3 c3,.slice A4 n4 c4] 91)):=Ac;have aD:=Ad aK aA;have aR:=(aS.later aE).later aA;have aV:=(aQ.later aE).later aA;have aN:=h3.later aA;have aT:=h4.later aA;clear a0 a1 aJ aL aM aC aE aK aS aQ h3 h4 aA;go_upto_region 3 with(fail)
 generalize (w4.alloc (.cells #[.bool q.neg,.slice A3 n3 c3,.slice A4 n4 c4] 91))=w5 at *;have aW:Below w.heap.size w (w5.alloc (.cells #[.int .i64 x,.int .i64 y] 26)):=aD.alloc aD.size _;have aF:Below w5.heap.size w5 (w5.alloc (.cells #[.int .i64 x,.int .i64 y] 26)):=Ac;have aZ:=aO.alloc (.cells #[.int .i64 x,.int .i64 y] 26);have bF:=aU.alloc (.cells #[.int .i64 x,.int .i64 y] 26);have bC:=aP.alloc (.cells #[.int .i64 x,.int .i64 y] 26);have bB:=aR.later aF;have bG:=aV.later aF;have bE:=aN.later aF;have bA:=aT.later aF
 go_wp2_with fail
 refine(za7 x y E HE.out w5 _ _ rfl).mono ?_;rintro e w6 ⟨rfl,rfl⟩;clear aO aU aP aD aF aR aV aN aT;generalize (w5.alloc (.cells #[.int .i64 x,.int .i64 y] 26))=w6 at *;have qR:=aZ;have aY:=aW;have y0:=qR.cell 0;have y1:=qR.cell 1;have y2:=qR.cell 2;have y3:=qR.cell 3;have y4:=qR.cell 4;have y5:=qR.cell 5;have z0:=qR.frozen 0;have z1:=qR.frozen 1;have z2:=qR.frozen 2;have z3:=qR.frozen 3;have z4:=qR.frozen 4;have z5:=qR.frozen 5;have hI:=zbS (p:=zb6) (q:=zb6) qR aY (by omega) rfl (NatS.nil _ _) (NatS.nil _ _) (NatS.nil _ _) (NatS.nil _ _);unfold Go.Proofs.YtmkondcdejlhcaaGreatDoor.set6 at hI;go_wp2
 refine bodyPost_ret (v := .tuple #[.agg #[.bool false,.slice none 0 0,.slice none 0 0,.bool false,.slice none 0 0,.slice none 0 0],.int .i64 E]) (by simp[results,Tryz.results78,go_sem,y0,y1,y2,y3,y4,y5]) rfl ⟨_,rfl,hI⟩
theorem zgj(x y:Int)(p q:Q)(s t:ByteArray)(w:World)(hT:Tabs w)(HX:Hid (x=0∧y=0))(HO:Hid (0<rcmp p q))(lp:LenQ p 268435456)(lq:LenQ q 268435456)
 (HR1:Hid (∀ W,Tabs W→Calls Tryz.prog 62 #[.string s] W (zaz W p x)))(HR2:Hid (∀ W,Tabs W→Calls Tryz.prog 62 #[.string t] W (zaz W q y))) :
  Calls Tryz.prog 78 #[.agg #[.string s,.string t]] w (zbm w zb6 zb6 11):=by
 have aG:Below w.heap.size w ((w.alloc (.cells #[.string s,.string t] 39)).alloc (.cells #[.bool false,.slice none 0 0,.slice none 0 0,.bool false,.slice none 0 0,.slice none 0 0] 107)):=(((Below.refl _ _).alloc (by simp<;>omega) _).alloc (by simp<;>omega) _);have q0:CBlk ((w.alloc (.cells #[.string s,.string t] 39)).alloc (.cells #[.bool false,.slice none 0 0,.slice none 0 0,.bool false,.slice none 0 0,.slice none 0 0] 107)) (w.heap.size) #[.string s,.string t] 39:=((CBlk.new _ _ _ _ (by simp)).alloc _);have q1:CBlk ((w.alloc (.cells #[.string s,.string t] 39)).alloc (.cells #[.bool false,.slice none 0 0,.slice none 0 0,.bool false,.slice none 0 0,.slice none 0 0] 107)) (w.heap.size+1) #[.bool false,.slice none 0 0,.slice none 0 0,.bool false,.slice none 0 0,.slice none 0 0] 107:=(CBlk.new _ _ _ _ (by simp));obtain⟨E,hE⟩:∃ E,E=if x≠0 then x else y:=⟨_,rfl⟩
 have HE:=Aa hE;have bI:(E != 0)=false:=by rw[hE,HX.out.1,HX.out.2];rfl
 have HC:=Aa (fun v u W h1 h2=>zbq p q v u W h1 h2 lp lq);obtain⟨r,hr⟩:∃ r,r=rcmp p q:=⟨_,rfl⟩;rw[←hr] at HC HO;have d1:decide (0<r)=true:=by simpa using HO.out
 clear hE hr;go_enter Tryz.func78,Tryz.ntmps78
 go_upto_region 1 with(fail)
 generalize ((w.alloc (.cells #[.string s,.string t] 39)).alloc (.cells #[.bool false,.slice none 0 0,.slice none 0 0,.bool false,.slice none 0 0,.slice none 0 0] 107))=W at *;have a0:=q0.cell 0;have a1:=q0.cell 1
 go_wp2_with fail
 refine(HR1.out W (hT.later aG)).mono ?_;rintro e w2 ⟨v2,rfl,⟨A1,n1,c1,A2,n2,c2,rfl,h1,h2⟩,aH⟩;have aI:=Ad aG aH;have aJ:=(q0.below aH q0.lt).alloc (.cells #[.bool p.neg,.slice A1 n1 c1,.slice A2 n2 c2] 91);have aN:=(q1.below aH q1.lt).alloc (.cells #[.bool p.neg,.slice A1 n1 c1,.slice A2 n2 c2] 91);have aA:Below w2.heap.size w2 (w2.alloc (.cells #[.bool p.neg,.slice A1 n1 c1,.slice A2 n2 c2] 91)):=Ac;have aO:CBlk (w2.alloc (.cells #[.bool p.neg,.slice A1 n1 c1,.slice A2 n2 c2] 91)) w2.heap.size #[.bool p.neg,.slice A1 n1 c1,.slice A2 n2 c2] 91:=CBlk.new _ _ _ _ rfl;have aC:=Ad aI aA;have aV:=h1.later aA;have aT:=h2.later aA;have bD:=aI.size;clear a0 a1 q0 q1 aG aH aI h1 h2 aA;go_upto_region 2 with(fail)
 generalize (w2.alloc (.cells #[.bool p.neg,.slice A1 n1 c1,.slice A2 n2 c2] 91))=w3 at *;have a0:=aJ.cell 0;have a1:=aJ.cell 1
 go_wp2_with fail
 refine(HR2.out w3 (hT.later aC)).mono ?_;rintro e w4 ⟨v4,rfl,⟨A3,n3,c3,A4,n4,c4,rfl,h3,h4⟩,aE⟩;have aM:=Ad aC aE;have aQ:=(aN.below aE aN.lt).alloc (.cells #[.bool q.neg,.slice A3 n3 c3,.slice A4 n4 c4] 91);have aZ:=(aO.below aE aO.lt).alloc (.cells #[.bool q.neg,.slice A3 n3 c3,.slice A4 n4 c4] 91);have aS:CBlk (w4.alloc (.cells #[.bool q.neg,.slice A3 n3 c3,.slice A4 n4 c4] 91)) w4.heap.size #[.bool q.neg,.slice A3 n3 c3,.slice A4 n4 c4] 91:=CBlk.new _ _ _ _ rfl;have aA:Below w4.heap.size w4 (w4.alloc (.cells #[.bool q.neg,.slice A3 n3 c3,.slice A4 n4 c4] 91)):=Ac;have aD:=Ad aM aA;have aU:=(aV.later aE).later aA;have bA:=(aT.later aE).later aA;have aP:=h3.later aA;have aX:=h4.later aA;clear a0 a1 aJ aN aO aC aE aM aV aT h3 h4 aA;go_upto_region 3 with(fail)
 generalize (w4.alloc (.cells #[.bool q.neg,.slice A3 n3 c3,.slice A4 n4 c4] 91))=w5 at *;have aW:Below w.heap.size w (w5.alloc (.cells #[.int .i64 x,.int .i64 y] 26)):=aD.alloc aD.size _;have aF:Below w5.heap.size w5 (w5.alloc (.cells #[.int .i64 x,.int .i64 y] 26)):=Ac;have aY:=aQ.alloc (.cells #[.int .i64 x,.int .i64 y] 26);have aL:=aZ.alloc (.cells #[.int .i64 x,.int .i64 y] 26);have aK:=aS.alloc (.cells #[.int .i64 x,.int .i64 y] 26);have bC:=aU.later aF;have bG:=bA.later aF;have bF:=aP.later aF;have bB:=aX.later aF
 go_wp2_with fail
 refine(za7 x y E HE.out w5 _ _ rfl).mono ?_;rintro e w6 ⟨rfl,rfl⟩;clear aQ aZ aS aD aF aU bA aP aX;generalize (w5.alloc (.cells #[.int .i64 x,.int .i64 y] 26))=w6 at *;have bN:=aL.cell 0;have bL:=aL.cell 1;have bK:=aL.cell 2;have bM:=aK.cell 0;have bJ:=aK.cell 1;have bH:=aK.cell 2
 go_wp2_with fail
 refine(HC.out _ _ w6 (RatS.mk bC bG) (RatS.mk bF bB)).mono ?_;rintro e w7 ⟨rfl,aR⟩;have qR:=aY.below aR aY.lt;have bE:=Ad aW aR;have y0:=qR.cell 0;have y1:=qR.cell 1;have y2:=qR.cell 2;have y3:=qR.cell 3;have y4:=qR.cell 4;have y5:=qR.cell 5;have z0:=qR.frozen 0;have z1:=qR.frozen 1;have z2:=qR.frozen 2;have z3:=qR.frozen 3;have z4:=qR.frozen 4;have z5:=qR.frozen 5;have hI:=zbS (p:=zb6) (q:=zb6) qR bE (by omega) rfl (NatS.nil _ _) (NatS.nil _ _) (NatS.nil _ _) (NatS.nil _ _);unfold Go.Proofs.YtmkondcdejlhcaaGreatDoor.set6 at hI;go_wp2
 refine bodyPost_ret (v := .tuple #[.agg #[.bool false,.slice none 0 0,.slice none 0 0,.bool false,.slice none 0 0,.slice none 0 0],.int .i64 11]) (by simp[results,Tryz.results78,go_sem,y0,y1,y2,y3,y4,y5]) rfl ⟨_,rfl,hI⟩
theorem ziH(x y:Int)(p q:Q)(s t:ByteArray)(w:World)(hT:Tabs w)(HX:Hid (x=0∧y=0))(HO:Hid (rcmp p q≤0))(lp:LenQ p 268435456)(lq:LenQ q 268435456)
 (HR1:Hid (∀ W,Tabs W→Calls Tryz.prog 62 #[.string s] W (zaz W p x)))(HR2:Hid (∀ W,Tabs W→Calls Tryz.prog 62 #[.string t] W (zaz W q y))) :
  Calls Tryz.prog 78 #[.agg #[.string s,.string t]] w (zbm w p q 0):=by
 have aJ:Below w.heap.size w ((w.alloc (.cells #[.string s,.string t] 39)).alloc (.cells #[.bool false,.slice none 0 0,.slice none 0 0,.bool false,.slice none 0 0,.slice none 0 0] 107)):=(((Below.refl _ _).alloc (by simp<;>omega) _).alloc (by simp<;>omega) _);have q0:CBlk ((w.alloc (.cells #[.string s,.string t] 39)).alloc (.cells #[.bool false,.slice none 0 0,.slice none 0 0,.bool false,.slice none 0 0,.slice none 0 0] 107)) (w.heap.size) #[.string s,.string t] 39:=((CBlk.new _ _ _ _ (by simp)).alloc _);have q1:CBlk ((w.alloc (.cells #[.string s,.string t] 39)).alloc (.cells #[.bool false,.slice none 0 0,.slice none 0 0,.bool false,.slice none 0 0,.slice none 0 0] 107)) (w.heap.size+1) #[.bool false,.slice none 0 0,.slice none 0 0,.bool false,.slice none 0 0,.slice none 0 0] 107:=(CBlk.new _ _ _ _ (by simp));obtain⟨E,hE⟩:∃ E,E=if x≠0 then x else y:=⟨_,rfl⟩
 have HE:=Aa hE;have bT:(E != 0)=false:=by rw[hE,HX.out.1,HX.out.2];rfl
 have HC:=Aa (fun v u W h1 h2=>zbq p q v u W h1 h2 lp lq);obtain⟨r,hr⟩:∃ r,r=rcmp p q:=⟨_,rfl⟩;rw[←hr] at HC HO;have d1:decide (0<r)=false:=by have:=HO.out;simp;omega
 clear hE hr;go_enter Tryz.func78,Tryz.ntmps78
 go_upto_region 1 with(fail)
 generalize ((w.alloc (.cells #[.string s,.string t] 39)).alloc (.cells #[.bool false,.slice none 0 0,.slice none 0 0,.bool false,.slice none 0 0,.slice none 0 0] 107))=W at *;have a0:=q0.cell 0;have a1:=q0.cell 1
 go_wp2_with fail
 refine(HR1.out W (hT.later aJ)).mono ?_;rintro e w2 ⟨v2,rfl,⟨A1,n1,c1,A2,n2,c2,rfl,h1,h2⟩,aK⟩;have aL:=Ad aJ aK;have aM:=(q0.below aK q0.lt).alloc (.cells #[.bool p.neg,.slice A1 n1 c1,.slice A2 n2 c2] 91);have aV:=(q1.below aK q1.lt).alloc (.cells #[.bool p.neg,.slice A1 n1 c1,.slice A2 n2 c2] 91);have aA:Below w2.heap.size w2 (w2.alloc (.cells #[.bool p.neg,.slice A1 n1 c1,.slice A2 n2 c2] 91)):=Ac;have aW:CBlk (w2.alloc (.cells #[.bool p.neg,.slice A1 n1 c1,.slice A2 n2 c2] 91)) w2.heap.size #[.bool p.neg,.slice A1 n1 c1,.slice A2 n2 c2] 91:=CBlk.new _ _ _ _ rfl;have aD:=Ad aL aA;have bH:=h1.later aA;have bE:=h2.later aA;have bS:=aL.size;clear a0 a1 q0 q1 aJ aK aL h1 h2 aA;go_upto_region 2 with(fail)
 generalize (w2.alloc (.cells #[.bool p.neg,.slice A1 n1 c1,.slice A2 n2 c2] 91))=w3 at *;have a0:=aM.cell 0;have a1:=aM.cell 1
 go_wp2_with fail
 refine(HR2.out w3 (hT.later aD)).mono ?_;rintro e w4 ⟨v4,rfl,⟨A3,n3,c3,A4,n4,c4,rfl,h3,h4⟩,aH⟩;have aU:=Ad aD aH;have aZ:=(aV.below aH aV.lt).alloc (.cells #[.bool q.neg,.slice A3 n3 c3,.slice A4 n4 c4] 91);have bN:=(aW.below aH aW.lt).alloc (.cells #[.bool q.neg,.slice A3 n3 c3,.slice A4 n4 c4] 91);have bD:CBlk (w4.alloc (.cells #[.bool q.neg,.slice A3 n3 c3,.slice A4 n4 c4] 91)) w4.heap.size #[.bool q.neg,.slice A3 n3 c3,.slice A4 n4 c4] 91:=CBlk.new _ _ _ _ rfl;have aA:Below w4.heap.size w4 (w4.alloc (.cells #[.bool q.neg,.slice A3 n3 c3,.slice A4 n4 c4] 91)):=Ac;have aE:=Ad aU aA;have bG:=(bH.later aH).later aA;have bO:=(bE.later aH).later aA;have aY:=h3.later aA;have bK:=h4.later aA;clear a0 a1 aM aV aW aD aH aU bH bE h3 h4 aA;go_upto_region 3 with(fail)
 generalize (w4.alloc (.cells #[.bool q.neg,.slice A3 n3 c3,.slice A4 n4 c4] 91))=w5 at *;have aQ:Below w.heap.size w (w5.alloc (.cells #[.int .i64 x,.int .i64 y] 26)):=aE.alloc aE.size _;have aI:Below w5.heap.size w5 (w5.alloc (.cells #[.int .i64 x,.int .i64 y] 26)):=Ac;have aT:=aZ.alloc (.cells #[.int .i64 x,.int .i64 y] 26);have aG:=bN.alloc (.cells #[.int .i64 x,.int .i64 y] 26);have aF:=bD.alloc (.cells #[.int .i64 x,.int .i64 y] 26);have aO:=bG.later aI;have aS:=bO.later aI;have aR:=aY.later aI;have aN:=bK.later aI
 go_wp2_with fail
 refine(za7 x y E HE.out w5 _ _ rfl).mono ?_;rintro e w6 ⟨rfl,rfl⟩;clear aZ bN bD aE aI bG bO aY bK;generalize (w5.alloc (.cells #[.int .i64 x,.int .i64 y] 26))=w6 at *;have bR:=aG.cell 0;have bL:=aG.cell 1;have bJ:=aG.cell 2;have bM:=aF.cell 0;have bF:=aF.cell 1;have bA:=aF.cell 2
 go_wp2_with fail
 refine(HC.out _ _ w6 (RatS.mk aO aS) (RatS.mk aR aN)).mono ?_;rintro e w7 ⟨rfl,aC⟩;have qR:=aT.below aC aT.lt;have aP:=aG.below aC aG.lt;have aX:=aF.below aC aF.lt;have bI:=Ad aQ aC;have bB:=aO.later aC;have bC:=aS.later aC;have bQ:=aR.later aC;have bP:=aN.later aC;clear bR bL bJ bM bF bA aT aG aF aC aQ aO aS aR aN;have bR:=aP.cell 0;have bL:=aP.cell 1;have bJ:=aP.cell 2;have bM:=aX.cell 0;have bF:=aX.cell 1;have bA:=aX.cell 2;have y0:=qR.cell 0;have y1:=qR.cell 1;have y2:=qR.cell 2;have y3:=qR.cell 3;have y4:=qR.cell 4;have y5:=qR.cell 5;have z0:=qR.frozen 0;have z1:=qR.frozen 1;have z2:=qR.frozen 2;have z3:=qR.frozen 3;have z4:=qR.frozen 4;have z5:=qR.frozen 5;have hI:=zbS (p:=p) (q:=q) qR bI (by omega) rfl bB bC bQ bP;unfold Go.Proofs.YtmkondcdejlhcaaGreatDoor.set6 at hI;have HI:=Aa hI;clear hI bB bC bQ bP bI;go_wp2
 refine bodyPost_ret (v := .tuple #[.agg #[.bool p.neg,.slice A1 n1 c1,.slice A2 n2 c2,.bool q.neg,.slice A3 n3 c3,.slice A4 n4 c4],.int .i64 0]) (by simp[results,Tryz.results78,go_sem,y0,y1,y2,y3,y4,y5]) rfl ⟨_,rfl,HI.out⟩
def zaW (l m:List UInt8):Int:=if zap l≠0 then zap l else if zap m≠0 then zap m else if 0<rcmp (zaf l) (zaf m) then 11 else 0
def rdLo (l m:List UInt8):Q:=if zaW l m=0 then zaf l else zb6
def rdHi (l m:List UInt8):Q:=if zaW l m=0 then zaf m else zb6
theorem zcQ(s t:ByteArray)(w:World)(hT:Tabs w)(hs:s.size≤4294967296)(ht:t.size≤4294967296) :
  Calls Tryz.prog 78 #[.agg #[.string s,.string t]] w (zbm w (rdLo s.data.toList t.data.toList) (rdHi s.data.toList t.data.toList) (zaW s.data.toList t.data.toList)):=by
 have aA:=Aa (fun W h=>zcf s W h hs);have aC:=Aa (fun W h=>zcf t W h ht)
 by_cases hx:zap s.data.toList=0
 ·by_cases hy:zap t.data.toList=0
  ·have l1:=zaD hx
   have l2:=zaD hy;have lp:LenQ (zaf s.data.toList) 268435456:=⟨by omega,by omega⟩;have lq:LenQ (zaf t.data.toList) 268435456:=⟨by omega,by omega⟩
   by_cases ho:0<rcmp (zaf s.data.toList) (zaf t.data.toList)
   ·have e:zaW s.data.toList t.data.toList=11:=by unfold zaW;rw[if_neg (by simpa using hx),if_neg (by simpa using hy),if_pos ho]
    have h:=zgj _ _ _ _ s t w hT ⟨hx,hy⟩ ho lp lq aA aC;unfold rdLo rdHi;rw[e,if_neg (by omega)];exact h
   ·have e:zaW s.data.toList t.data.toList=0:=by unfold zaW;rw[if_neg (by simpa using hx),if_neg (by simpa using hy),if_neg ho]
    have h:=ziH _ _ _ _ s t w hT ⟨hx,hy⟩ (by exact Int.not_lt.1 ho) lp lq aA aC;unfold rdLo rdHi;rw[e,if_pos rfl,if_pos rfl];exact h
  ·have e:zaW s.data.toList t.data.toList=zap t.data.toList:=by unfold zaW;rw[if_neg (by simpa using hx),if_pos hy]
   have h:=zff _ _ (zap t.data.toList) _ _ s t w hT (by rw[Hid,if_neg (by simpa using hx)]) hy aA aC;unfold rdLo rdHi;rw[e,if_neg hy,if_neg hy];exact h
 ·have e:zaW s.data.toList t.data.toList=zap s.data.toList:=by unfold zaW;rw[if_pos hx]
  have h:=zff _ _ (zap s.data.toList) _ _ s t w hT (by rw[Hid,if_pos hx]) hx aA aC;unfold rdLo rdHi;rw[e,if_neg hx,if_neg hx];exact h
def err2 (x y:Int):Int:=if x≠0 then x else y
def subR (p q:Q):Q:=zaU p q
def mulR (p q:Q):Q:=lowQ (p.neg != q.neg) (p.top*q.top) (p.bot*q.bot)
def divR (p q:Q):Q:=lowQ (p.neg != q.neg) (p.top*q.bot) (p.bot*q.top)
end Go.Proofs.YtmkondcdejlhcaaGreatDoor
