/- Contract of read: fractions; all of it. -/
import Derived.Test.YtbkgkoenppkhpaaGreatDoorBRat1
set_option maxRecDepth 100000
set_option maxHeartbeats 4000000
namespace Go.Proofs.YtbkgkoenppkhpaaGreatDoor
open Go.RowKit Bn
theorem zoe(s t:ByteArray)(c1 c2:List UInt8)(neg frac:Bool)(w:World)
 (hc:Calls Tryz.prog 123 #[.string s,.string ⟨#[47]⟩] (w.alloc (.cells #[.bool false,.slice none 0 0,.slice none 0 0] 87)) fun e w'=>(∃ a b:ByteArray,e = .returned (.tuple #[.string a,.string b,.bool frac])∧a.data.toList=c1∧b.data.toList=c2)∧∃ n,w'=(w.alloc (.cells #[.bool false,.slice none 0 0,.slice none 0 0] 87)).drewN n)
 (hcp:∀ (a:ByteArray) (W:World),a.data.toList=c1→Calls Tryz.prog 124 #[.string a,.string ⟨#[45]⟩] W fun e w'=>e = .returned (.tuple #[.string t,.bool neg])∧W=w')
 (D1:zaB t.data.toList=true)(zb:Bool)(z:(t.toList==[48])=zb)(hn:(neg && zb)=false)(hT:Tabs w)(hf:frac=true)(D2:zaB c2=true)(d48:(c2==[48])=false)(d49:(c2==[49])=false)(HLN:Hid (t.size≤600∧c2.length≤600))(HGC:Hid (decide (Nat.gcd (zaj t.data.toList) (zaj c2)=1)=true)) :
  Calls Tryz.prog 59 #[.string s] w (zaC w ⟨neg,zaj t.data.toList,zaj c2⟩ 0):=by
 subst hf
 cases neg<;>cases zb<;>(try cases hn)
 ·have bN:Below w.heap.size w (w.alloc (.cells #[.bool false,.slice none 0 0,.slice none 0 0] 87)):=Ac
  go_enter Tryz.func59,Tryz.ntmps59
  go_wp2_with fail
  refine hc.mono ?_;rintro e w1 ⟨⟨a,b,rfl,ha,hb⟩,n,rfl⟩
  go_wp2_with fail
  refine(hcp a _ ha).mono ?_;rintro e w2 ⟨rfl,rfl⟩;have aJ:=zam t ((w.alloc (.cells #[.bool false,.slice none 0 0,.slice none 0 0] 87)).drewN n);rw[D1] at aJ
  go_wp2_with fail
  refine aJ.mono ?_;rintro e w3 ⟨rfl,bE⟩;have bC:Below w.heap.size w w3:=(zad bN n).trans (bE.mono (by simp));have aY:zae w3 w.heap.size false (.slice none 0 0) (.slice none 0 0):=by
   have h:=zae.new w false (.slice none 0 0) (.slice none 0 0);exact zae.below (w:=(w.alloc (.cells #[.bool false,.slice none 0 0,.slice none 0 0] 87)).drewN n) h bE (by simp)
  have aF:=zam b w3;rw[hb,D2] at aF;have bT:(b.toList==[48])=false:=by rw[ByteArray.toList_eq,hb];exact d48
  have bR:(b.toList==[49])=false:=by rw[ByteArray.toList_eq,hb];exact d49
  have aZ:b.size=c2.length:=by rw[←hb];simp
  have aR:=Aa aZ;have aN:=Aa hb;clear hb ha aZ
  go_wp2_with fail
  refine aF.mono ?_;rintro e w4 ⟨rfl,aS⟩;have aW:Below w.heap.size w w4:=Ad bC aS;have aV:=aY.below aS aY.cells.2.2.2.2.2.2;clear aF;have bS:decide ((600:Int)<max (t.size:Int) (b.size:Int))=false:=by
   have h:=aR.out;have h2:=HLN.out;simp only[decide_eq_false_iff_not]
   omega
  have aI:=zaz D1;have aG:zar b.data.toList=true:=by rw[aN.out];exact zaz D2
  have bF:=HLN.out;have bM:b.size≤600:=by have:=aR.out;omega
  have aQ:=zaY t w4 aI (by omega);have aU:=fun W:World=>zaY b W aG (by omega)
  have bG:t.data.toList.length=t.size:=by simp
  have bO:b.data.toList.length=b.size:=by simp
  have bA:(digs (zaj t.data.toList)).length≤600:=zaL aI (by omega);have aC:(digs (zaj b.data.toList)).length≤600:=zaL aG (by omega);have bH:=Aa aQ;have bP:=Aa aU;have bK:=Aa bA;have bL:=Aa aC;clear aJ aQ aI aG aU bA aC bF bM bG bO
  go_wp2_with fail
  refine bH.out.mono ?_;rintro e w5 ⟨A5,m5,c5,rfl,aM,aT⟩;have bB:=aV.below aT aV.cells.2.2.2.2.2.2;have bD:Below w.heap.size w w5:=Ad aW aT
  go_wp2_with fail
  refine(bP.out w5).mono ?_;rintro e w6 ⟨A6,m6,c6,rfl,aL,aE⟩;have aK:=bB.below aE bB.cells.2.2.2.2.2.2;have aP:Below w.heap.size w w6:=Ad bD aE;have aA:Below w6.heap.size w6 (w6.alloc (.cells #[.bool false,.slice A5 m5 c5,.slice A6 m6 c6] 87)):=Ac;have hg:=zeN A5 A6 m5 c5 m6 c6 _ _ (w6.alloc (.cells #[.bool false,.slice A5 m5 c5,.slice A6 m6 c6] 87)) ((hT.later aP).later aA) ((aM.later aE).later aA) (aL.later aA) (by have:=bK.out;rw[aM.len] at this;omega) (by have:=bL.out;rw[aL.len] at this;omega);have HG:=Aa hg;clear hg
  go_wp2_with fail
  refine HG.out.mono ?_;rintro e w8 ⟨A8,m8,c8,rfl,bI,aD⟩;have ho:=zbE A8 m8 c8 _ w8 bI;have aO:=(aK.below aA aK.cells.2.2.2.2.2.2).below aD (by have:=aK.cells.2.2.2.2.2.2;simp;omega);have aX:Below w.heap.size w (w6.alloc (.cells #[.bool false,.slice A5 m5 c5,.slice A6 m6 c6] 87)):=Ad aP aA;have bJ:Below w.heap.size w w8:=Ad aX aD;have bQ:zae w8 w6.heap.size false (.slice A5 m5 c5) (.slice A6 m6 c6):=(zae.new w6 _ _ _).below aD (by simp);obtain⟨k0,k1,k2,f0,f1,f2,_⟩:=aO.cells;obtain⟨x0,x1,x2,_,_,_,_⟩:=bQ.cells;rw[aN.out,HGC.out] at ho
  go_wp2_with fail
  refine ho.mono ?_;rintro e w9 ⟨rfl,rfl⟩;have aH:=zao bJ (g:=w.heap.size) (Nat.le_refl _) (.bool false) (.slice A5 m5 c5) (.slice A6 m6 c6);go_wp2
  refine bodyPost_ret (v := .tuple #[.agg #[.bool false,.slice A5 m5 c5,.slice A6 m6 c6],.int .i64 0]) (by simp[results,Tryz.results59,go_sem,k0,k1,k2]) rfl ⟨_,rfl,⟨A5,m5,c5,A6,m6,c6,rfl,?_,?_⟩,aH⟩
  ·rw[zah];exact(((aM.later aE).later aA).later aD).res aO _ _ _
  ·rw[zah]
   have h:=((aL.later aA).later aD).res aO (.bool false) (.slice A5 m5 c5) (.slice A6 m6 c6);rw[aN.out] at h;exact h
 ·have bN:Below w.heap.size w (w.alloc (.cells #[.bool false,.slice none 0 0,.slice none 0 0] 87)):=Ac
  go_enter Tryz.func59,Tryz.ntmps59
  go_wp2_with fail
  refine hc.mono ?_;rintro e w1 ⟨⟨a,b,rfl,ha,hb⟩,n,rfl⟩
  go_wp2_with fail
  refine(hcp a _ ha).mono ?_;rintro e w2 ⟨rfl,rfl⟩;have aJ:=zam t ((w.alloc (.cells #[.bool false,.slice none 0 0,.slice none 0 0] 87)).drewN n);rw[D1] at aJ
  go_wp2_with fail
  refine aJ.mono ?_;rintro e w3 ⟨rfl,bE⟩;have bC:Below w.heap.size w w3:=(zad bN n).trans (bE.mono (by simp));have aY:zae w3 w.heap.size false (.slice none 0 0) (.slice none 0 0):=by
   have h:=zae.new w false (.slice none 0 0) (.slice none 0 0);exact zae.below (w:=(w.alloc (.cells #[.bool false,.slice none 0 0,.slice none 0 0] 87)).drewN n) h bE (by simp)
  have aF:=zam b w3;rw[hb,D2] at aF;have bT:(b.toList==[48])=false:=by rw[ByteArray.toList_eq,hb];exact d48
  have bR:(b.toList==[49])=false:=by rw[ByteArray.toList_eq,hb];exact d49
  have aZ:b.size=c2.length:=by rw[←hb];simp
  have aR:=Aa aZ;have aN:=Aa hb;clear hb ha aZ
  go_wp2_with fail
  refine aF.mono ?_;rintro e w4 ⟨rfl,aS⟩;have aW:Below w.heap.size w w4:=Ad bC aS;have aV:=aY.below aS aY.cells.2.2.2.2.2.2;clear aF;have bS:decide ((600:Int)<max (t.size:Int) (b.size:Int))=false:=by
   have h:=aR.out;have h2:=HLN.out;simp only[decide_eq_false_iff_not]
   omega
  have aI:=zaz D1;have aG:zar b.data.toList=true:=by rw[aN.out];exact zaz D2
  have bF:=HLN.out;have bM:b.size≤600:=by have:=aR.out;omega
  have aQ:=zaY t w4 aI (by omega);have aU:=fun W:World=>zaY b W aG (by omega)
  have bG:t.data.toList.length=t.size:=by simp
  have bO:b.data.toList.length=b.size:=by simp
  have bA:(digs (zaj t.data.toList)).length≤600:=zaL aI (by omega);have aC:(digs (zaj b.data.toList)).length≤600:=zaL aG (by omega);have bH:=Aa aQ;have bP:=Aa aU;have bK:=Aa bA;have bL:=Aa aC;clear aJ aQ aI aG aU bA aC bF bM bG bO
  go_wp2_with fail
  refine bH.out.mono ?_;rintro e w5 ⟨A5,m5,c5,rfl,aM,aT⟩;have bB:=aV.below aT aV.cells.2.2.2.2.2.2;have bD:Below w.heap.size w w5:=Ad aW aT
  go_wp2_with fail
  refine(bP.out w5).mono ?_;rintro e w6 ⟨A6,m6,c6,rfl,aL,aE⟩;have aK:=bB.below aE bB.cells.2.2.2.2.2.2;have aP:Below w.heap.size w w6:=Ad bD aE;have aA:Below w6.heap.size w6 (w6.alloc (.cells #[.bool false,.slice A5 m5 c5,.slice A6 m6 c6] 87)):=Ac;have hg:=zeN A5 A6 m5 c5 m6 c6 _ _ (w6.alloc (.cells #[.bool false,.slice A5 m5 c5,.slice A6 m6 c6] 87)) ((hT.later aP).later aA) ((aM.later aE).later aA) (aL.later aA) (by have:=bK.out;rw[aM.len] at this;omega) (by have:=bL.out;rw[aL.len] at this;omega);have HG:=Aa hg;clear hg
  go_wp2_with fail
  refine HG.out.mono ?_;rintro e w8 ⟨A8,m8,c8,rfl,bI,aD⟩;have ho:=zbE A8 m8 c8 _ w8 bI;have aO:=(aK.below aA aK.cells.2.2.2.2.2.2).below aD (by have:=aK.cells.2.2.2.2.2.2;simp;omega);have aX:Below w.heap.size w (w6.alloc (.cells #[.bool false,.slice A5 m5 c5,.slice A6 m6 c6] 87)):=Ad aP aA;have bJ:Below w.heap.size w w8:=Ad aX aD;have bQ:zae w8 w6.heap.size false (.slice A5 m5 c5) (.slice A6 m6 c6):=(zae.new w6 _ _ _).below aD (by simp);obtain⟨k0,k1,k2,f0,f1,f2,_⟩:=aO.cells;obtain⟨x0,x1,x2,_,_,_,_⟩:=bQ.cells;rw[aN.out,HGC.out] at ho
  go_wp2_with fail
  refine ho.mono ?_;rintro e w9 ⟨rfl,rfl⟩;have aH:=zao bJ (g:=w.heap.size) (Nat.le_refl _) (.bool false) (.slice A5 m5 c5) (.slice A6 m6 c6);go_wp2
  refine bodyPost_ret (v := .tuple #[.agg #[.bool false,.slice A5 m5 c5,.slice A6 m6 c6],.int .i64 0]) (by simp[results,Tryz.results59,go_sem,k0,k1,k2]) rfl ⟨_,rfl,⟨A5,m5,c5,A6,m6,c6,rfl,?_,?_⟩,aH⟩
  ·rw[zah];exact(((aM.later aE).later aA).later aD).res aO _ _ _
  ·rw[zah]
   have h:=((aL.later aA).later aD).res aO (.bool false) (.slice A5 m5 c5) (.slice A6 m6 c6);rw[aN.out] at h;exact h
 ·have bN:Below w.heap.size w (w.alloc (.cells #[.bool false,.slice none 0 0,.slice none 0 0] 87)):=Ac
  go_enter Tryz.func59,Tryz.ntmps59
  go_wp2_with fail
  refine hc.mono ?_;rintro e w1 ⟨⟨a,b,rfl,ha,hb⟩,n,rfl⟩
  go_wp2_with fail
  refine(hcp a _ ha).mono ?_;rintro e w2 ⟨rfl,rfl⟩;have aJ:=zam t ((w.alloc (.cells #[.bool false,.slice none 0 0,.slice none 0 0] 87)).drewN n);rw[D1] at aJ
  go_wp2_with fail
  refine aJ.mono ?_;rintro e w3 ⟨rfl,bE⟩;have bC:Below w.heap.size w w3:=(zad bN n).trans (bE.mono (by simp));have aY:zae w3 w.heap.size false (.slice none 0 0) (.slice none 0 0):=by
   have h:=zae.new w false (.slice none 0 0) (.slice none 0 0);exact zae.below (w:=(w.alloc (.cells #[.bool false,.slice none 0 0,.slice none 0 0] 87)).drewN n) h bE (by simp)
  have aF:=zam b w3;rw[hb,D2] at aF;have bT:(b.toList==[48])=false:=by rw[ByteArray.toList_eq,hb];exact d48
  have bR:(b.toList==[49])=false:=by rw[ByteArray.toList_eq,hb];exact d49
  have aZ:b.size=c2.length:=by rw[←hb];simp
  have aR:=Aa aZ;have aN:=Aa hb;clear hb ha aZ
  go_wp2_with fail
  refine aF.mono ?_;rintro e w4 ⟨rfl,aS⟩;have aW:Below w.heap.size w w4:=Ad bC aS;have aV:=aY.below aS aY.cells.2.2.2.2.2.2;clear aF;have bS:decide ((600:Int)<max (t.size:Int) (b.size:Int))=false:=by
   have h:=aR.out;have h2:=HLN.out;simp only[decide_eq_false_iff_not]
   omega
  have aI:=zaz D1;have aG:zar b.data.toList=true:=by rw[aN.out];exact zaz D2
  have bF:=HLN.out;have bM:b.size≤600:=by have:=aR.out;omega
  have aQ:=zaY t w4 aI (by omega);have aU:=fun W:World=>zaY b W aG (by omega)
  have bG:t.data.toList.length=t.size:=by simp
  have bO:b.data.toList.length=b.size:=by simp
  have bA:(digs (zaj t.data.toList)).length≤600:=zaL aI (by omega);have aC:(digs (zaj b.data.toList)).length≤600:=zaL aG (by omega);have bH:=Aa aQ;have bP:=Aa aU;have bK:=Aa bA;have bL:=Aa aC;clear aJ aQ aI aG aU bA aC bF bM bG bO
  go_wp2_with fail
  refine bH.out.mono ?_;rintro e w5 ⟨A5,m5,c5,rfl,aM,aT⟩;have bB:=aV.below aT aV.cells.2.2.2.2.2.2;have bD:Below w.heap.size w w5:=Ad aW aT
  go_wp2_with fail
  refine(bP.out w5).mono ?_;rintro e w6 ⟨A6,m6,c6,rfl,aL,aE⟩;have aK:=bB.below aE bB.cells.2.2.2.2.2.2;have aP:Below w.heap.size w w6:=Ad bD aE;have aA:Below w6.heap.size w6 (w6.alloc (.cells #[.bool true,.slice A5 m5 c5,.slice A6 m6 c6] 87)):=Ac;have hg:=zeN A5 A6 m5 c5 m6 c6 _ _ (w6.alloc (.cells #[.bool true,.slice A5 m5 c5,.slice A6 m6 c6] 87)) ((hT.later aP).later aA) ((aM.later aE).later aA) (aL.later aA) (by have:=bK.out;rw[aM.len] at this;omega) (by have:=bL.out;rw[aL.len] at this;omega);have HG:=Aa hg;clear hg
  go_wp2_with fail
  refine HG.out.mono ?_;rintro e w8 ⟨A8,m8,c8,rfl,bI,aD⟩;have ho:=zbE A8 m8 c8 _ w8 bI;have aO:=(aK.below aA aK.cells.2.2.2.2.2.2).below aD (by have:=aK.cells.2.2.2.2.2.2;simp;omega);have aX:Below w.heap.size w (w6.alloc (.cells #[.bool true,.slice A5 m5 c5,.slice A6 m6 c6] 87)):=Ad aP aA;have bJ:Below w.heap.size w w8:=Ad aX aD;have bQ:zae w8 w6.heap.size true (.slice A5 m5 c5) (.slice A6 m6 c6):=(zae.new w6 _ _ _).below aD (by simp);obtain⟨k0,k1,k2,f0,f1,f2,_⟩:=aO.cells;obtain⟨x0,x1,x2,_,_,_,_⟩:=bQ.cells;rw[aN.out,HGC.out] at ho
  go_wp2_with fail
  refine ho.mono ?_;rintro e w9 ⟨rfl,rfl⟩;have aH:=zao bJ (g:=w.heap.size) (Nat.le_refl _) (.bool true) (.slice A5 m5 c5) (.slice A6 m6 c6);go_wp2
  refine bodyPost_ret (v := .tuple #[.agg #[.bool true,.slice A5 m5 c5,.slice A6 m6 c6],.int .i64 0]) (by simp[results,Tryz.results59,go_sem,k0,k1,k2]) rfl ⟨_,rfl,⟨A5,m5,c5,A6,m6,c6,rfl,?_,?_⟩,aH⟩
  ·rw[zah];exact(((aM.later aE).later aA).later aD).res aO _ _ _
  ·rw[zah]
   have h:=((aL.later aA).later aD).res aO (.bool true) (.slice A5 m5 c5) (.slice A6 m6 c6);rw[aN.out] at h;exact h
theorem zmS(s t:ByteArray)(c1 c2:List UInt8)(neg frac:Bool)(w:World)
 (hc:Calls Tryz.prog 123 #[.string s,.string ⟨#[47]⟩] (w.alloc (.cells #[.bool false,.slice none 0 0,.slice none 0 0] 87)) fun e w'=>(∃ a b:ByteArray,e = .returned (.tuple #[.string a,.string b,.bool frac])∧a.data.toList=c1∧b.data.toList=c2)∧∃ n,w'=(w.alloc (.cells #[.bool false,.slice none 0 0,.slice none 0 0] 87)).drewN n)
 (hcp:∀ (a:ByteArray) (W:World),a.data.toList=c1→Calls Tryz.prog 124 #[.string a,.string ⟨#[45]⟩] W fun e w'=>e = .returned (.tuple #[.string t,.bool neg])∧W=w')
 (D1:zaB t.data.toList=true)(zb:Bool)(z:(t.toList==[48])=zb)(hn:(neg && zb)=false)(hT:Tabs w)(hf:frac=true)(D2:zaB c2=true)(d48:(c2==[48])=false)(d49:(c2==[49])=false)(HLN:Hid (t.size≤600∧c2.length≤600))(HGC:Hid (decide (Nat.gcd (zaj t.data.toList) (zaj c2)=1)=false)) :
  Calls Tryz.prog 59 #[.string s] w (zaC w ⟨false,0,0⟩ 1):=by
 subst hf
 cases neg<;>cases zb<;>(try cases hn)
 ·have bM:Below w.heap.size w (w.alloc (.cells #[.bool false,.slice none 0 0,.slice none 0 0] 87)):=Ac
  go_enter Tryz.func59,Tryz.ntmps59
  go_wp2_with fail
  refine hc.mono ?_;rintro e w1 ⟨⟨a,b,rfl,ha,hb⟩,n,rfl⟩
  go_wp2_with fail
  refine(hcp a _ ha).mono ?_;rintro e w2 ⟨rfl,rfl⟩;have aI:=zam t ((w.alloc (.cells #[.bool false,.slice none 0 0,.slice none 0 0] 87)).drewN n);rw[D1] at aI
  go_wp2_with fail
  refine aI.mono ?_;rintro e w3 ⟨rfl,bD⟩;have bA:Below w.heap.size w w3:=(zad bM n).trans (bD.mono (by simp));have aW:zae w3 w.heap.size false (.slice none 0 0) (.slice none 0 0):=by
   have h:=zae.new w false (.slice none 0 0) (.slice none 0 0);exact zae.below (w:=(w.alloc (.cells #[.bool false,.slice none 0 0,.slice none 0 0] 87)).drewN n) h bD (by simp)
  have aD:=zam b w3;rw[hb,D2] at aD;have bT:(b.toList==[48])=false:=by rw[ByteArray.toList_eq,hb];exact d48
  have bR:(b.toList==[49])=false:=by rw[ByteArray.toList_eq,hb];exact d49
  have aX:b.size=c2.length:=by rw[←hb];simp
  have aN:=Aa aX;have bB:=Aa hb;clear hb ha aX
  go_wp2_with fail
  refine aD.mono ?_;rintro e w4 ⟨rfl,aO⟩;have aT:Below w.heap.size w w4:=Ad bA aO;have aS:=aW.below aO aW.cells.2.2.2.2.2.2;clear aD;have bS:decide ((600:Int)<max (t.size:Int) (b.size:Int))=false:=by
   have h:=aN.out;have h2:=HLN.out;simp only[decide_eq_false_iff_not]
   omega
  have aG:=zaz D1;have aE:zar b.data.toList=true:=by rw[bB.out];exact zaz D2
  have bE:=HLN.out;have bL:b.size≤600:=by have:=aN.out;omega
  have aM:=zaY t w4 aG (by omega);have aQ:=fun W:World=>zaY b W aE (by omega)
  have bF:t.data.toList.length=t.size:=by simp
  have bN:b.data.toList.length=b.size:=by simp
  have aY:(digs (zaj t.data.toList)).length≤600:=zaL aG (by omega);have aC:(digs (zaj b.data.toList)).length≤600:=zaL aE (by omega);have bG:=Aa aM;have bO:=Aa aQ;have bJ:=Aa aY;have bK:=Aa aC;clear aI aM aG aE aQ aY aC bE bL bF bN
  go_wp2_with fail
  refine bG.out.mono ?_;rintro e w5 ⟨A5,m5,c5,rfl,aV,aP⟩;have aZ:=aS.below aP aS.cells.2.2.2.2.2.2;have bC:Below w.heap.size w w5:=Ad aT aP
  go_wp2_with fail
  refine(bO.out w5).mono ?_;rintro e w6 ⟨A6,m6,c6,rfl,aR,aH⟩;have aJ:=aZ.below aH aZ.cells.2.2.2.2.2.2;have aL:Below w.heap.size w w6:=Ad bC aH;have aA:Below w6.heap.size w6 (w6.alloc (.cells #[.bool false,.slice A5 m5 c5,.slice A6 m6 c6] 87)):=Ac;have hg:=zeN A5 A6 m5 c5 m6 c6 _ _ (w6.alloc (.cells #[.bool false,.slice A5 m5 c5,.slice A6 m6 c6] 87)) ((hT.later aL).later aA) ((aV.later aH).later aA) (aR.later aA) (by have:=bJ.out;rw[aV.len] at this;omega) (by have:=bK.out;rw[aR.len] at this;omega);have HG:=Aa hg;clear hg
  go_wp2_with fail
  refine HG.out.mono ?_;rintro e w8 ⟨A8,m8,c8,rfl,bH,aK⟩;have ho:=zbE A8 m8 c8 _ w8 bH;have bP:=(aJ.below aA aJ.cells.2.2.2.2.2.2).below aK (by have:=aJ.cells.2.2.2.2.2.2;simp;omega);have aU:Below w.heap.size w (w6.alloc (.cells #[.bool false,.slice A5 m5 c5,.slice A6 m6 c6] 87)):=Ad aL aA;have bI:Below w.heap.size w w8:=Ad aU aK;have bQ:zae w8 w6.heap.size false (.slice A5 m5 c5) (.slice A6 m6 c6):=(zae.new w6 _ _ _).below aK (by simp);obtain⟨k0,k1,k2,f0,f1,f2,_⟩:=bP.cells;obtain⟨x0,x1,x2,_,_,_,_⟩:=bQ.cells;rw[bB.out,HGC.out] at ho
  go_wp2_with fail
  refine ho.mono ?_;rintro e w9 ⟨rfl,rfl⟩;have aF:=zao bI (g:=w.heap.size) (Nat.le_refl _) (.bool false) (.slice none 0 0) (.slice none 0 0);go_wp2
  refine bodyPost_ret (v := .tuple #[.agg #[.bool false,.slice none 0 0,.slice none 0 0],.int .i64 1]) (by simp[results,Tryz.results59,go_sem,k0,k1,k2]) rfl ⟨_,rfl,RatS.zero _ _,aF⟩
 ·have bM:Below w.heap.size w (w.alloc (.cells #[.bool false,.slice none 0 0,.slice none 0 0] 87)):=Ac
  go_enter Tryz.func59,Tryz.ntmps59
  go_wp2_with fail
  refine hc.mono ?_;rintro e w1 ⟨⟨a,b,rfl,ha,hb⟩,n,rfl⟩
  go_wp2_with fail
  refine(hcp a _ ha).mono ?_;rintro e w2 ⟨rfl,rfl⟩;have aI:=zam t ((w.alloc (.cells #[.bool false,.slice none 0 0,.slice none 0 0] 87)).drewN n);rw[D1] at aI
  go_wp2_with fail
  refine aI.mono ?_;rintro e w3 ⟨rfl,bD⟩;have bA:Below w.heap.size w w3:=(zad bM n).trans (bD.mono (by simp));have aW:zae w3 w.heap.size false (.slice none 0 0) (.slice none 0 0):=by
   have h:=zae.new w false (.slice none 0 0) (.slice none 0 0);exact zae.below (w:=(w.alloc (.cells #[.bool false,.slice none 0 0,.slice none 0 0] 87)).drewN n) h bD (by simp)
  have aD:=zam b w3;rw[hb,D2] at aD;have bT:(b.toList==[48])=false:=by rw[ByteArray.toList_eq,hb];exact d48
  have bR:(b.toList==[49])=false:=by rw[ByteArray.toList_eq,hb];exact d49
  have aX:b.size=c2.length:=by rw[←hb];simp
  have aN:=Aa aX;have bB:=Aa hb;clear hb ha aX
  go_wp2_with fail
  refine aD.mono ?_;rintro e w4 ⟨rfl,aO⟩;have aT:Below w.heap.size w w4:=Ad bA aO;have aS:=aW.below aO aW.cells.2.2.2.2.2.2;clear aD;have bS:decide ((600:Int)<max (t.size:Int) (b.size:Int))=false:=by
   have h:=aN.out;have h2:=HLN.out;simp only[decide_eq_false_iff_not]
   omega
  have aG:=zaz D1;have aE:zar b.data.toList=true:=by rw[bB.out];exact zaz D2
  have bE:=HLN.out;have bL:b.size≤600:=by have:=aN.out;omega
  have aM:=zaY t w4 aG (by omega);have aQ:=fun W:World=>zaY b W aE (by omega)
  have bF:t.data.toList.length=t.size:=by simp
  have bN:b.data.toList.length=b.size:=by simp
  have aY:(digs (zaj t.data.toList)).length≤600:=zaL aG (by omega);have aC:(digs (zaj b.data.toList)).length≤600:=zaL aE (by omega);have bG:=Aa aM;have bO:=Aa aQ;have bJ:=Aa aY;have bK:=Aa aC;clear aI aM aG aE aQ aY aC bE bL bF bN
  go_wp2_with fail
  refine bG.out.mono ?_;rintro e w5 ⟨A5,m5,c5,rfl,aV,aP⟩;have aZ:=aS.below aP aS.cells.2.2.2.2.2.2;have bC:Below w.heap.size w w5:=Ad aT aP
  go_wp2_with fail
  refine(bO.out w5).mono ?_;rintro e w6 ⟨A6,m6,c6,rfl,aR,aH⟩;have aJ:=aZ.below aH aZ.cells.2.2.2.2.2.2;have aL:Below w.heap.size w w6:=Ad bC aH;have aA:Below w6.heap.size w6 (w6.alloc (.cells #[.bool false,.slice A5 m5 c5,.slice A6 m6 c6] 87)):=Ac;have hg:=zeN A5 A6 m5 c5 m6 c6 _ _ (w6.alloc (.cells #[.bool false,.slice A5 m5 c5,.slice A6 m6 c6] 87)) ((hT.later aL).later aA) ((aV.later aH).later aA) (aR.later aA) (by have:=bJ.out;rw[aV.len] at this;omega) (by have:=bK.out;rw[aR.len] at this;omega);have HG:=Aa hg;clear hg
  go_wp2_with fail
  refine HG.out.mono ?_;rintro e w8 ⟨A8,m8,c8,rfl,bH,aK⟩;have ho:=zbE A8 m8 c8 _ w8 bH;have bP:=(aJ.below aA aJ.cells.2.2.2.2.2.2).below aK (by have:=aJ.cells.2.2.2.2.2.2;simp;omega);have aU:Below w.heap.size w (w6.alloc (.cells #[.bool false,.slice A5 m5 c5,.slice A6 m6 c6] 87)):=Ad aL aA;have bI:Below w.heap.size w w8:=Ad aU aK;have bQ:zae w8 w6.heap.size false (.slice A5 m5 c5) (.slice A6 m6 c6):=(zae.new w6 _ _ _).below aK (by simp);obtain⟨k0,k1,k2,f0,f1,f2,_⟩:=bP.cells;obtain⟨x0,x1,x2,_,_,_,_⟩:=bQ.cells;rw[bB.out,HGC.out] at ho
  go_wp2_with fail
  refine ho.mono ?_;rintro e w9 ⟨rfl,rfl⟩;have aF:=zao bI (g:=w.heap.size) (Nat.le_refl _) (.bool false) (.slice none 0 0) (.slice none 0 0);go_wp2
  refine bodyPost_ret (v := .tuple #[.agg #[.bool false,.slice none 0 0,.slice none 0 0],.int .i64 1]) (by simp[results,Tryz.results59,go_sem,k0,k1,k2]) rfl ⟨_,rfl,RatS.zero _ _,aF⟩
 ·have bM:Below w.heap.size w (w.alloc (.cells #[.bool false,.slice none 0 0,.slice none 0 0] 87)):=Ac
  go_enter Tryz.func59,Tryz.ntmps59
  go_wp2_with fail
  refine hc.mono ?_;rintro e w1 ⟨⟨a,b,rfl,ha,hb⟩,n,rfl⟩
  go_wp2_with fail
  refine(hcp a _ ha).mono ?_;rintro e w2 ⟨rfl,rfl⟩;have aI:=zam t ((w.alloc (.cells #[.bool false,.slice none 0 0,.slice none 0 0] 87)).drewN n);rw[D1] at aI
  go_wp2_with fail
  refine aI.mono ?_;rintro e w3 ⟨rfl,bD⟩;have bA:Below w.heap.size w w3:=(zad bM n).trans (bD.mono (by simp));have aW:zae w3 w.heap.size false (.slice none 0 0) (.slice none 0 0):=by
   have h:=zae.new w false (.slice none 0 0) (.slice none 0 0);exact zae.below (w:=(w.alloc (.cells #[.bool false,.slice none 0 0,.slice none 0 0] 87)).drewN n) h bD (by simp)
  have aD:=zam b w3;rw[hb,D2] at aD;have bT:(b.toList==[48])=false:=by rw[ByteArray.toList_eq,hb];exact d48
  have bR:(b.toList==[49])=false:=by rw[ByteArray.toList_eq,hb];exact d49
  have aX:b.size=c2.length:=by rw[←hb];simp
  have aN:=Aa aX;have bB:=Aa hb;clear hb ha aX
  go_wp2_with fail
  refine aD.mono ?_;rintro e w4 ⟨rfl,aO⟩;have aT:Below w.heap.size w w4:=Ad bA aO;have aS:=aW.below aO aW.cells.2.2.2.2.2.2;clear aD;have bS:decide ((600:Int)<max (t.size:Int) (b.size:Int))=false:=by
   have h:=aN.out;have h2:=HLN.out;simp only[decide_eq_false_iff_not]
   omega
  have aG:=zaz D1;have aE:zar b.data.toList=true:=by rw[bB.out];exact zaz D2
  have bE:=HLN.out;have bL:b.size≤600:=by have:=aN.out;omega
  have aM:=zaY t w4 aG (by omega);have aQ:=fun W:World=>zaY b W aE (by omega)
  have bF:t.data.toList.length=t.size:=by simp
  have bN:b.data.toList.length=b.size:=by simp
  have aY:(digs (zaj t.data.toList)).length≤600:=zaL aG (by omega);have aC:(digs (zaj b.data.toList)).length≤600:=zaL aE (by omega);have bG:=Aa aM;have bO:=Aa aQ;have bJ:=Aa aY;have bK:=Aa aC;clear aI aM aG aE aQ aY aC bE bL bF bN
  go_wp2_with fail
  refine bG.out.mono ?_;rintro e w5 ⟨A5,m5,c5,rfl,aV,aP⟩;have aZ:=aS.below aP aS.cells.2.2.2.2.2.2;have bC:Below w.heap.size w w5:=Ad aT aP
  go_wp2_with fail
  refine(bO.out w5).mono ?_;rintro e w6 ⟨A6,m6,c6,rfl,aR,aH⟩;have aJ:=aZ.below aH aZ.cells.2.2.2.2.2.2;have aL:Below w.heap.size w w6:=Ad bC aH;have aA:Below w6.heap.size w6 (w6.alloc (.cells #[.bool true,.slice A5 m5 c5,.slice A6 m6 c6] 87)):=Ac;have hg:=zeN A5 A6 m5 c5 m6 c6 _ _ (w6.alloc (.cells #[.bool true,.slice A5 m5 c5,.slice A6 m6 c6] 87)) ((hT.later aL).later aA) ((aV.later aH).later aA) (aR.later aA) (by have:=bJ.out;rw[aV.len] at this;omega) (by have:=bK.out;rw[aR.len] at this;omega);have HG:=Aa hg;clear hg
  go_wp2_with fail
  refine HG.out.mono ?_;rintro e w8 ⟨A8,m8,c8,rfl,bH,aK⟩;have ho:=zbE A8 m8 c8 _ w8 bH;have bP:=(aJ.below aA aJ.cells.2.2.2.2.2.2).below aK (by have:=aJ.cells.2.2.2.2.2.2;simp;omega);have aU:Below w.heap.size w (w6.alloc (.cells #[.bool true,.slice A5 m5 c5,.slice A6 m6 c6] 87)):=Ad aL aA;have bI:Below w.heap.size w w8:=Ad aU aK;have bQ:zae w8 w6.heap.size true (.slice A5 m5 c5) (.slice A6 m6 c6):=(zae.new w6 _ _ _).below aK (by simp);obtain⟨k0,k1,k2,f0,f1,f2,_⟩:=bP.cells;obtain⟨x0,x1,x2,_,_,_,_⟩:=bQ.cells;rw[bB.out,HGC.out] at ho
  go_wp2_with fail
  refine ho.mono ?_;rintro e w9 ⟨rfl,rfl⟩;have aF:=zao bI (g:=w.heap.size) (Nat.le_refl _) (.bool false) (.slice none 0 0) (.slice none 0 0);go_wp2
  refine bodyPost_ret (v := .tuple #[.agg #[.bool false,.slice none 0 0,.slice none 0 0],.int .i64 1]) (by simp[results,Tryz.results59,go_sem,k0,k1,k2]) rfl ⟨_,rfl,RatS.zero _ _,aF⟩
theorem zca(s:ByteArray)(w:World)(hT:Tabs w)(hs:s.size≤4294967296) :
  Calls Tryz.prog 59 #[.string s] w (zaC w (zaf s.data.toList) (zan s.data.toList)):=by
 have hc:=znr s (w.alloc (.cells #[.bool false,.slice none 0 0,.slice none 0 0] 87)) hs;have aL:=zji s.data.toList;unfold zaf zan topL negL botL zd4;generalize cutL s.data.toList=C at hc aL ⊢;obtain⟨c1,c2,c3⟩:=C
 dsimp only at hc aL ⊢
 obtain⟨t,ht⟩:∃ t:ByteArray,t=⟨(Lib.trimPrefix c1 [45]).toArray⟩:=⟨_,rfl⟩;have aM:Lib.trimPrefix c1 [45]=t.data.toList:=by rw[ht]
 obtain⟨aC,aH⟩:∃ aC,Lib.hasPrefix c1 [45]=aC:=⟨_,rfl⟩;have aE:∀ (a:ByteArray) (W:World),a.data.toList=c1→Calls Tryz.prog 124 #[.string a,.string ⟨#[45]⟩] W fun e w'=>e = .returned (.tuple #[.string t,.bool aC])∧W=w':=by
  intro a W ha;have h:=Tryz.strings_CutPrefix a ⟨#[45]⟩ W;have aP:(⟨#[45]⟩:ByteArray).data.toList=[45]:=rfl;rw[aP,ha,←ht,aH] at h;exact h.mono fun _ _ ⟨x,y⟩=>⟨x,y.symm⟩
 rw[aM,aH];clear ht aM aH;have aQ:t.data.toList.length=t.size:=by simp
 have aF:(t.toList==[48])=decide (t.data.toList=[48]):=by rw[ByteArray.toList_eq,Bool.eq_iff_iff];simp
 generalize aD:t.data.toList=td at aQ aF ⊢;have hE:∀ x,zbg td c2 aC c3=x→x≠0→Calls Tryz.prog 59 #[.string s] w (zaC w ⟨false,0,0⟩ x)→Calls Tryz.prog 59 #[.string s] w (zaC w (if zbg td c2 aC c3=0 then⟨aC,zaj td,if c3=true then zaj c2 else 1⟩ else⟨false,0,0⟩) (zbg td c2 aC c3)):=by
  intro x hx h0 h;rw[hx,if_neg h0];exact h
 by_cases D1:zaB td=true
 ·by_cases hz:aC=true∧td=[48]
  ·refine hE 1 (by unfold zbg;rw[if_pos (.inr hz)]) (by omega) (zmG s t c1 c2 aC c3 w hc aE (by rw[aD];exact D1) (by rw[aF];simpa using hz.2) hz.1)
  ·have hn:(aC && decide (td=[48]))=false:=by
    rw[Bool.eq_false_iff];intro h;simp at h;exact hz h
   have aA:¬ (zaB td=false∨(aC=true∧td=[48])):=by
    rintro(h | h)
    ·rw[D1] at h;cases h
    ·exact hz h
   cases c3
   ·have aK:=aL rfl
    by_cases hl:600<td.length
    ·refine hE 4 (by unfold zbg;rw[if_neg aA,if_neg (by simp),if_pos (.inl hl)]) (by omega) (zok s t c1 c2 aC false w hc aE (by rw[aD];exact D1) _ aF hn rfl aK (.inl (by omega)))
    ·have hv:zbg td c2 aC false=0:=by unfold zbg;rw[if_neg aA,if_neg (by simp),if_neg (by rw[aK];simp;omega),if_neg (by simp)]
     rw[hv,if_pos rfl];have h:=zlg s t c1 c2 aC false w hc aE (by rw[aD];exact D1) _ aF hn rfl aK ⟨by omega,by omega⟩;rw[aD] at h
     simpa using h
   ·by_cases D2:zaB c2=true
    ·by_cases h48:c2=[48]
     ·refine hE 1 (by unfold zbg;rw[if_neg aA,if_pos ⟨rfl,.inr (.inl h48)⟩]) (by omega) (znQ s t c1 c2 aC true w hc aE (by rw[aD];exact D1) _ aF hn (c2==[49]) rfl D2 (by simpa using h48) rfl)
     ·have aI:(c2==[48])=false:=by simpa using h48
      by_cases h49:c2=[49]
      ·refine hE 1 (by unfold zbg;rw[if_neg aA,if_pos ⟨rfl,.inr (.inr h49)⟩]) (by omega) (znf s t c1 c2 aC true w hc aE (by rw[aD];exact D1) _ aF hn rfl D2 aI (by simpa using h49))
      ·have aJ:(c2==[49])=false:=by simpa using h49
       have aG:¬ (true=true∧(zaB c2=false∨c2=[48]∨c2=[49])):=by
        rintro⟨_,h | h | h⟩
        ·rw[D2] at h;cases h
        ·exact h48 h
        ·exact h49 h
       by_cases hl:600<td.length∨600<c2.length
       ·refine hE 4 (by unfold zbg;rw[if_neg aA,if_neg aG,if_pos hl]) (by omega) (znv s t c1 c2 aC true w hc aE (by rw[aD];exact D1) _ aF hn rfl D2 aI aJ (by unfold Hid;omega))
       ·by_cases hg:Nat.gcd (zaj td) (zaj c2)=1
        ·have hv:zbg td c2 aC true=0:=by unfold zbg;rw[if_neg aA,if_neg aG,if_neg hl,if_neg (by simp[hg])]
         rw[hv,if_pos rfl];have h:=zoe s t c1 c2 aC true w hc aE (by rw[aD];exact D1) _ aF hn hT rfl D2 aI aJ (by unfold Hid;omega) (by unfold Hid;rw[aD];simpa using hg);rw[aD] at h
         simpa using h
        ·refine hE 1 (by unfold zbg;rw[if_neg aA,if_neg aG,if_neg hl,if_pos ⟨rfl,hg⟩]) (by omega) (zmS s t c1 c2 aC true w hc aE (by rw[aD];exact D1) _ aF hn hT rfl D2 aI aJ (by unfold Hid;omega) (by unfold Hid;rw[aD];simpa using hg))
    ·have aN:zaB c2=false:=by simpa using D2
     refine hE 1 (by unfold zbg;rw[if_neg aA,if_pos ⟨rfl,.inl aN⟩]) (by omega) (zn3 s t c1 c2 aC true w hc aE (by rw[aD];exact D1) _ aF hn (c2==[48]) (c2==[49]) rfl aN rfl rfl)
 ·have aO:zaB td=false:=by simpa using D1
  refine hE 1 (by unfold zbg;rw[if_pos (.inl aO)]) (by omega) (znb s t c1 c2 aC c3 w hc aE (by rw[aD];exact aO))
end Go.Proofs.YtbkgkoenppkhpaaGreatDoor
