/- Contract of read: fractions; all of it. -/
import Derived.Test.YtmkondcdejlhcaaGreatDoorFRat1
set_option maxRecDepth 100000
set_option maxHeartbeats 4000000
namespace Go.Proofs.YtmkondcdejlhcaaGreatDoor
open Go.RowKit Bn
theorem zl9(s t:ByteArray)(c1 c2:List UInt8)(neg frac:Bool)(w:World)
 (hc:Calls Tryz.prog 117 #[.string s,.string ⟨#[47]⟩] (w.alloc (.cells #[.bool false,.slice none 0 0,.slice none 0 0] 91)) fun e w'=>(∃ a b:ByteArray,e = .returned (.tuple #[.string a,.string b,.bool frac])∧a.data.toList=c1∧b.data.toList=c2)∧∃ n,w'=(w.alloc (.cells #[.bool false,.slice none 0 0,.slice none 0 0] 91)).drewN n)
 (hcp:∀ (a:ByteArray) (W:World),a.data.toList=c1→Calls Tryz.prog 118 #[.string a,.string ⟨#[45]⟩] W fun e w'=>e = .returned (.tuple #[.string t,.bool neg])∧W=w')
 (D1:zay t.data.toList=true)(zb:Bool)(z:(t.toList==[48])=zb)(hn:(neg && zb)=false)(hT:Tabs w)(hf:frac=true)(D2:zay c2=true)(d48:(c2==[48])=false)(d49:(c2==[49])=false)(HLN:Hid (t.size≤600∧c2.length≤600))(HGC:Hid (decide (Nat.gcd (zaj t.data.toList) (zaj c2)=1)=true)) :
  Calls Tryz.prog 62 #[.string s] w (zaz w ⟨neg,zaj t.data.toList,zaj c2⟩ 0):=by
 subst hf
 cases neg<;>cases zb<;>(try cases hn)
 ·have bL:Below w.heap.size w (w.alloc (.cells #[.bool false,.slice none 0 0,.slice none 0 0] 91)):=Ac
  go_enter Tryz.func62,Tryz.ntmps62
  go_wp2_with fail
  refine hc.mono ?_;rintro e w1 ⟨⟨a,b,rfl,ha,hb⟩,n,rfl⟩
  go_wp2_with fail
  refine(hcp a _ ha).mono ?_;rintro e w2 ⟨rfl,rfl⟩;have aF:=zal t ((w.alloc (.cells #[.bool false,.slice none 0 0,.slice none 0 0] 91)).drewN n);rw[D1] at aF
  go_wp2_with fail
  refine aF.mono ?_;rintro e w3 ⟨rfl,bC⟩;have aX:Below w.heap.size w w3:=(zac bL n).trans (bC.mono (by simp));have bB:zae w3 w.heap.size false (.slice none 0 0) (.slice none 0 0):=by
   have h:=zae.new w false (.slice none 0 0) (.slice none 0 0);exact zae.below (w:=(w.alloc (.cells #[.bool false,.slice none 0 0,.slice none 0 0] 91)).drewN n) h bC (by simp)
  have aK:=zal b w3;rw[hb,D2] at aK;have bS:(b.toList==[48])=false:=by rw[ByteArray.toList_eq,hb];exact d48
  have bR:(b.toList==[49])=false:=by rw[ByteArray.toList_eq,hb];exact d49
  have aV:b.size=c2.length:=by rw[←hb];simp
  have aQ:=Aa aV;have aP:=Aa hb;clear hb ha aV
  go_wp2_with fail
  refine aK.mono ?_;rintro e w4 ⟨rfl,bA⟩;have aZ:Below w.heap.size w w4:=Ad aX bA;have aR:=bB.below bA bB.cells.2.2.2.2.2.2;clear aK;have bT:decide ((600:Int)<max (t.size:Int) (b.size:Int))=false:=by
   have h:=aQ.out;have h2:=HLN.out;simp only[decide_eq_false_iff_not]
   omega
  have aN:=zau D1;have aO:zar b.data.toList=true:=by rw[aP.out];exact zau D2
  have bF:=HLN.out;have bQ:b.size≤600:=by have:=aQ.out;omega
  have aU:=zaY t w4 aN (by omega);have bE:=fun W:World=>zaY b W aO (by omega)
  have bG:t.data.toList.length=t.size:=by simp
  have bM:b.data.toList.length=b.size:=by simp
  have bD:(digs (zaj t.data.toList)).length≤600:=zaK aN (by omega);have aC:(digs (zaj b.data.toList)).length≤600:=zaK aO (by omega);have bP:=Aa aU;have bO:=Aa bE;have bI:=Aa bD;have bJ:=Aa aC;clear aF aU aN aO bE bD aC bF bQ bG bM
  go_wp2_with fail
  refine bP.out.mono ?_;rintro e w5 ⟨A5,m5,c5,rfl,aM,aT⟩;have aW:=aR.below aT aR.cells.2.2.2.2.2.2;have aS:Below w.heap.size w w5:=Ad aZ aT
  go_wp2_with fail
  refine(bO.out w5).mono ?_;rintro e w6 ⟨A6,m6,c6,rfl,aI,aE⟩;have aL:=aW.below aE aW.cells.2.2.2.2.2.2;have aG:Below w.heap.size w w6:=Ad aS aE;have aA:Below w6.heap.size w6 (w6.alloc (.cells #[.bool false,.slice A5 m5 c5,.slice A6 m6 c6] 91)):=Ac;have hg:=zd8 A5 A6 m5 c5 m6 c6 _ _ (w6.alloc (.cells #[.bool false,.slice A5 m5 c5,.slice A6 m6 c6] 91)) ((hT.later aG).later aA) ((aM.later aE).later aA) (aI.later aA) (by have:=bI.out;rw[aM.len] at this;omega) (by have:=bJ.out;rw[aI.len] at this;omega);have HG:=Aa hg;clear hg
  go_wp2_with fail
  refine HG.out.mono ?_;rintro e w8 ⟨A8,m8,c8,rfl,bN,aD⟩;have ho:=zbA A8 m8 c8 _ w8 bN;have aH:=(aL.below aA aL.cells.2.2.2.2.2.2).below aD (by have:=aL.cells.2.2.2.2.2.2;simp;omega);have aY:Below w.heap.size w (w6.alloc (.cells #[.bool false,.slice A5 m5 c5,.slice A6 m6 c6] 91)):=Ad aG aA;have bH:Below w.heap.size w w8:=Ad aY aD;have bK:zae w8 w6.heap.size false (.slice A5 m5 c5) (.slice A6 m6 c6):=(zae.new w6 _ _ _).below aD (by simp);obtain⟨k0,k1,k2,f0,f1,f2,_⟩:=aH.cells;obtain⟨x0,x1,x2,_,_,_,_⟩:=bK.cells;rw[aP.out,HGC.out] at ho
  go_wp2_with fail
  refine ho.mono ?_;rintro e w9 ⟨rfl,rfl⟩;have aJ:=zan bH (g:=w.heap.size) (Nat.le_refl _) (.bool false) (.slice A5 m5 c5) (.slice A6 m6 c6);go_wp2
  refine bodyPost_ret (v := .tuple #[.agg #[.bool false,.slice A5 m5 c5,.slice A6 m6 c6],.int .i64 0]) (by simp[results,Tryz.results62,go_sem,k0,k1,k2]) rfl ⟨_,rfl,⟨A5,m5,c5,A6,m6,c6,rfl,?_,?_⟩,aJ⟩
  ·rw[zah];exact(((aM.later aE).later aA).later aD).res aH _ _ _
  ·rw[zah]
   have h:=((aI.later aA).later aD).res aH (.bool false) (.slice A5 m5 c5) (.slice A6 m6 c6);rw[aP.out] at h;exact h
 ·have bL:Below w.heap.size w (w.alloc (.cells #[.bool false,.slice none 0 0,.slice none 0 0] 91)):=Ac
  go_enter Tryz.func62,Tryz.ntmps62
  go_wp2_with fail
  refine hc.mono ?_;rintro e w1 ⟨⟨a,b,rfl,ha,hb⟩,n,rfl⟩
  go_wp2_with fail
  refine(hcp a _ ha).mono ?_;rintro e w2 ⟨rfl,rfl⟩;have aF:=zal t ((w.alloc (.cells #[.bool false,.slice none 0 0,.slice none 0 0] 91)).drewN n);rw[D1] at aF
  go_wp2_with fail
  refine aF.mono ?_;rintro e w3 ⟨rfl,bC⟩;have aX:Below w.heap.size w w3:=(zac bL n).trans (bC.mono (by simp));have bB:zae w3 w.heap.size false (.slice none 0 0) (.slice none 0 0):=by
   have h:=zae.new w false (.slice none 0 0) (.slice none 0 0);exact zae.below (w:=(w.alloc (.cells #[.bool false,.slice none 0 0,.slice none 0 0] 91)).drewN n) h bC (by simp)
  have aK:=zal b w3;rw[hb,D2] at aK;have bS:(b.toList==[48])=false:=by rw[ByteArray.toList_eq,hb];exact d48
  have bR:(b.toList==[49])=false:=by rw[ByteArray.toList_eq,hb];exact d49
  have aV:b.size=c2.length:=by rw[←hb];simp
  have aQ:=Aa aV;have aP:=Aa hb;clear hb ha aV
  go_wp2_with fail
  refine aK.mono ?_;rintro e w4 ⟨rfl,bA⟩;have aZ:Below w.heap.size w w4:=Ad aX bA;have aR:=bB.below bA bB.cells.2.2.2.2.2.2;clear aK;have bT:decide ((600:Int)<max (t.size:Int) (b.size:Int))=false:=by
   have h:=aQ.out;have h2:=HLN.out;simp only[decide_eq_false_iff_not]
   omega
  have aN:=zau D1;have aO:zar b.data.toList=true:=by rw[aP.out];exact zau D2
  have bF:=HLN.out;have bQ:b.size≤600:=by have:=aQ.out;omega
  have aU:=zaY t w4 aN (by omega);have bE:=fun W:World=>zaY b W aO (by omega)
  have bG:t.data.toList.length=t.size:=by simp
  have bM:b.data.toList.length=b.size:=by simp
  have bD:(digs (zaj t.data.toList)).length≤600:=zaK aN (by omega);have aC:(digs (zaj b.data.toList)).length≤600:=zaK aO (by omega);have bP:=Aa aU;have bO:=Aa bE;have bI:=Aa bD;have bJ:=Aa aC;clear aF aU aN aO bE bD aC bF bQ bG bM
  go_wp2_with fail
  refine bP.out.mono ?_;rintro e w5 ⟨A5,m5,c5,rfl,aM,aT⟩;have aW:=aR.below aT aR.cells.2.2.2.2.2.2;have aS:Below w.heap.size w w5:=Ad aZ aT
  go_wp2_with fail
  refine(bO.out w5).mono ?_;rintro e w6 ⟨A6,m6,c6,rfl,aI,aE⟩;have aL:=aW.below aE aW.cells.2.2.2.2.2.2;have aG:Below w.heap.size w w6:=Ad aS aE;have aA:Below w6.heap.size w6 (w6.alloc (.cells #[.bool false,.slice A5 m5 c5,.slice A6 m6 c6] 91)):=Ac;have hg:=zd8 A5 A6 m5 c5 m6 c6 _ _ (w6.alloc (.cells #[.bool false,.slice A5 m5 c5,.slice A6 m6 c6] 91)) ((hT.later aG).later aA) ((aM.later aE).later aA) (aI.later aA) (by have:=bI.out;rw[aM.len] at this;omega) (by have:=bJ.out;rw[aI.len] at this;omega);have HG:=Aa hg;clear hg
  go_wp2_with fail
  refine HG.out.mono ?_;rintro e w8 ⟨A8,m8,c8,rfl,bN,aD⟩;have ho:=zbA A8 m8 c8 _ w8 bN;have aH:=(aL.below aA aL.cells.2.2.2.2.2.2).below aD (by have:=aL.cells.2.2.2.2.2.2;simp;omega);have aY:Below w.heap.size w (w6.alloc (.cells #[.bool false,.slice A5 m5 c5,.slice A6 m6 c6] 91)):=Ad aG aA;have bH:Below w.heap.size w w8:=Ad aY aD;have bK:zae w8 w6.heap.size false (.slice A5 m5 c5) (.slice A6 m6 c6):=(zae.new w6 _ _ _).below aD (by simp);obtain⟨k0,k1,k2,f0,f1,f2,_⟩:=aH.cells;obtain⟨x0,x1,x2,_,_,_,_⟩:=bK.cells;rw[aP.out,HGC.out] at ho
  go_wp2_with fail
  refine ho.mono ?_;rintro e w9 ⟨rfl,rfl⟩;have aJ:=zan bH (g:=w.heap.size) (Nat.le_refl _) (.bool false) (.slice A5 m5 c5) (.slice A6 m6 c6);go_wp2
  refine bodyPost_ret (v := .tuple #[.agg #[.bool false,.slice A5 m5 c5,.slice A6 m6 c6],.int .i64 0]) (by simp[results,Tryz.results62,go_sem,k0,k1,k2]) rfl ⟨_,rfl,⟨A5,m5,c5,A6,m6,c6,rfl,?_,?_⟩,aJ⟩
  ·rw[zah];exact(((aM.later aE).later aA).later aD).res aH _ _ _
  ·rw[zah]
   have h:=((aI.later aA).later aD).res aH (.bool false) (.slice A5 m5 c5) (.slice A6 m6 c6);rw[aP.out] at h;exact h
 ·have bL:Below w.heap.size w (w.alloc (.cells #[.bool false,.slice none 0 0,.slice none 0 0] 91)):=Ac
  go_enter Tryz.func62,Tryz.ntmps62
  go_wp2_with fail
  refine hc.mono ?_;rintro e w1 ⟨⟨a,b,rfl,ha,hb⟩,n,rfl⟩
  go_wp2_with fail
  refine(hcp a _ ha).mono ?_;rintro e w2 ⟨rfl,rfl⟩;have aF:=zal t ((w.alloc (.cells #[.bool false,.slice none 0 0,.slice none 0 0] 91)).drewN n);rw[D1] at aF
  go_wp2_with fail
  refine aF.mono ?_;rintro e w3 ⟨rfl,bC⟩;have aX:Below w.heap.size w w3:=(zac bL n).trans (bC.mono (by simp));have bB:zae w3 w.heap.size false (.slice none 0 0) (.slice none 0 0):=by
   have h:=zae.new w false (.slice none 0 0) (.slice none 0 0);exact zae.below (w:=(w.alloc (.cells #[.bool false,.slice none 0 0,.slice none 0 0] 91)).drewN n) h bC (by simp)
  have aK:=zal b w3;rw[hb,D2] at aK;have bS:(b.toList==[48])=false:=by rw[ByteArray.toList_eq,hb];exact d48
  have bR:(b.toList==[49])=false:=by rw[ByteArray.toList_eq,hb];exact d49
  have aV:b.size=c2.length:=by rw[←hb];simp
  have aQ:=Aa aV;have aP:=Aa hb;clear hb ha aV
  go_wp2_with fail
  refine aK.mono ?_;rintro e w4 ⟨rfl,bA⟩;have aZ:Below w.heap.size w w4:=Ad aX bA;have aR:=bB.below bA bB.cells.2.2.2.2.2.2;clear aK;have bT:decide ((600:Int)<max (t.size:Int) (b.size:Int))=false:=by
   have h:=aQ.out;have h2:=HLN.out;simp only[decide_eq_false_iff_not]
   omega
  have aN:=zau D1;have aO:zar b.data.toList=true:=by rw[aP.out];exact zau D2
  have bF:=HLN.out;have bQ:b.size≤600:=by have:=aQ.out;omega
  have aU:=zaY t w4 aN (by omega);have bE:=fun W:World=>zaY b W aO (by omega)
  have bG:t.data.toList.length=t.size:=by simp
  have bM:b.data.toList.length=b.size:=by simp
  have bD:(digs (zaj t.data.toList)).length≤600:=zaK aN (by omega);have aC:(digs (zaj b.data.toList)).length≤600:=zaK aO (by omega);have bP:=Aa aU;have bO:=Aa bE;have bI:=Aa bD;have bJ:=Aa aC;clear aF aU aN aO bE bD aC bF bQ bG bM
  go_wp2_with fail
  refine bP.out.mono ?_;rintro e w5 ⟨A5,m5,c5,rfl,aM,aT⟩;have aW:=aR.below aT aR.cells.2.2.2.2.2.2;have aS:Below w.heap.size w w5:=Ad aZ aT
  go_wp2_with fail
  refine(bO.out w5).mono ?_;rintro e w6 ⟨A6,m6,c6,rfl,aI,aE⟩;have aL:=aW.below aE aW.cells.2.2.2.2.2.2;have aG:Below w.heap.size w w6:=Ad aS aE;have aA:Below w6.heap.size w6 (w6.alloc (.cells #[.bool true,.slice A5 m5 c5,.slice A6 m6 c6] 91)):=Ac;have hg:=zd8 A5 A6 m5 c5 m6 c6 _ _ (w6.alloc (.cells #[.bool true,.slice A5 m5 c5,.slice A6 m6 c6] 91)) ((hT.later aG).later aA) ((aM.later aE).later aA) (aI.later aA) (by have:=bI.out;rw[aM.len] at this;omega) (by have:=bJ.out;rw[aI.len] at this;omega);have HG:=Aa hg;clear hg
  go_wp2_with fail
  refine HG.out.mono ?_;rintro e w8 ⟨A8,m8,c8,rfl,bN,aD⟩;have ho:=zbA A8 m8 c8 _ w8 bN;have aH:=(aL.below aA aL.cells.2.2.2.2.2.2).below aD (by have:=aL.cells.2.2.2.2.2.2;simp;omega);have aY:Below w.heap.size w (w6.alloc (.cells #[.bool true,.slice A5 m5 c5,.slice A6 m6 c6] 91)):=Ad aG aA;have bH:Below w.heap.size w w8:=Ad aY aD;have bK:zae w8 w6.heap.size true (.slice A5 m5 c5) (.slice A6 m6 c6):=(zae.new w6 _ _ _).below aD (by simp);obtain⟨k0,k1,k2,f0,f1,f2,_⟩:=aH.cells;obtain⟨x0,x1,x2,_,_,_,_⟩:=bK.cells;rw[aP.out,HGC.out] at ho
  go_wp2_with fail
  refine ho.mono ?_;rintro e w9 ⟨rfl,rfl⟩;have aJ:=zan bH (g:=w.heap.size) (Nat.le_refl _) (.bool true) (.slice A5 m5 c5) (.slice A6 m6 c6);go_wp2
  refine bodyPost_ret (v := .tuple #[.agg #[.bool true,.slice A5 m5 c5,.slice A6 m6 c6],.int .i64 0]) (by simp[results,Tryz.results62,go_sem,k0,k1,k2]) rfl ⟨_,rfl,⟨A5,m5,c5,A6,m6,c6,rfl,?_,?_⟩,aJ⟩
  ·rw[zah];exact(((aM.later aE).later aA).later aD).res aH _ _ _
  ·rw[zah]
   have h:=((aI.later aA).later aD).res aH (.bool true) (.slice A5 m5 c5) (.slice A6 m6 c6);rw[aP.out] at h;exact h
theorem zlz(s t:ByteArray)(c1 c2:List UInt8)(neg frac:Bool)(w:World)
 (hc:Calls Tryz.prog 117 #[.string s,.string ⟨#[47]⟩] (w.alloc (.cells #[.bool false,.slice none 0 0,.slice none 0 0] 91)) fun e w'=>(∃ a b:ByteArray,e = .returned (.tuple #[.string a,.string b,.bool frac])∧a.data.toList=c1∧b.data.toList=c2)∧∃ n,w'=(w.alloc (.cells #[.bool false,.slice none 0 0,.slice none 0 0] 91)).drewN n)
 (hcp:∀ (a:ByteArray) (W:World),a.data.toList=c1→Calls Tryz.prog 118 #[.string a,.string ⟨#[45]⟩] W fun e w'=>e = .returned (.tuple #[.string t,.bool neg])∧W=w')
 (D1:zay t.data.toList=true)(zb:Bool)(z:(t.toList==[48])=zb)(hn:(neg && zb)=false)(hT:Tabs w)(hf:frac=true)(D2:zay c2=true)(d48:(c2==[48])=false)(d49:(c2==[49])=false)(HLN:Hid (t.size≤600∧c2.length≤600))(HGC:Hid (decide (Nat.gcd (zaj t.data.toList) (zaj c2)=1)=false)) :
  Calls Tryz.prog 62 #[.string s] w (zaz w ⟨false,0,0⟩ 1):=by
 subst hf
 cases neg<;>cases zb<;>(try cases hn)
 ·have bL:Below w.heap.size w (w.alloc (.cells #[.bool false,.slice none 0 0,.slice none 0 0] 91)):=Ac
  go_enter Tryz.func62,Tryz.ntmps62
  go_wp2_with fail
  refine hc.mono ?_;rintro e w1 ⟨⟨a,b,rfl,ha,hb⟩,n,rfl⟩
  go_wp2_with fail
  refine(hcp a _ ha).mono ?_;rintro e w2 ⟨rfl,rfl⟩;have aD:=zal t ((w.alloc (.cells #[.bool false,.slice none 0 0,.slice none 0 0] 91)).drewN n);rw[D1] at aD
  go_wp2_with fail
  refine aD.mono ?_;rintro e w3 ⟨rfl,aZ⟩;have aU:Below w.heap.size w w3:=(zac bL n).trans (aZ.mono (by simp));have aY:zae w3 w.heap.size false (.slice none 0 0) (.slice none 0 0):=by
   have h:=zae.new w false (.slice none 0 0) (.slice none 0 0);exact zae.below (w:=(w.alloc (.cells #[.bool false,.slice none 0 0,.slice none 0 0] 91)).drewN n) h aZ (by simp)
  have aG:=zal b w3;rw[hb,D2] at aG;have bS:(b.toList==[48])=false:=by rw[ByteArray.toList_eq,hb];exact d48
  have bR:(b.toList==[49])=false:=by rw[ByteArray.toList_eq,hb];exact d49
  have aS:b.size=c2.length:=by rw[←hb];simp
  have aM:=Aa aS;have bB:=Aa hb;clear hb ha aS
  go_wp2_with fail
  refine aG.mono ?_;rintro e w4 ⟨rfl,aX⟩;have aW:Below w.heap.size w w4:=Ad aU aX;have aN:=aY.below aX aY.cells.2.2.2.2.2.2;clear aG;have bT:decide ((600:Int)<max (t.size:Int) (b.size:Int))=false:=by
   have h:=aM.out;have h2:=HLN.out;simp only[decide_eq_false_iff_not]
   omega
  have aK:=zau D1;have aL:zar b.data.toList=true:=by rw[bB.out];exact zau D2
  have bE:=HLN.out;have bQ:b.size≤600:=by have:=aM.out;omega
  have aR:=zaY t w4 aK (by omega);have bD:=fun W:World=>zaY b W aL (by omega)
  have bF:t.data.toList.length=t.size:=by simp
  have bM:b.data.toList.length=b.size:=by simp
  have bC:(digs (zaj t.data.toList)).length≤600:=zaK aK (by omega);have aA:(digs (zaj b.data.toList)).length≤600:=zaK aL (by omega);have bP:=Aa aR;have bO:=Aa bD;have bI:=Aa bC;have bJ:=Aa aA;clear aD aR aK aL bD bC aA bE bQ bF bM
  go_wp2_with fail
  refine bP.out.mono ?_;rintro e w5 ⟨A5,m5,c5,rfl,bA,aQ⟩;have aT:=aN.below aQ aN.cells.2.2.2.2.2.2;have aP:Below w.heap.size w w5:=Ad aW aQ
  go_wp2_with fail
  refine(bO.out w5).mono ?_;rintro e w6 ⟨A6,m6,c6,rfl,aO,aJ⟩;have aI:=aT.below aJ aT.cells.2.2.2.2.2.2;have aE:Below w.heap.size w w6:=Ad aP aJ;have aC:Below w6.heap.size w6 (w6.alloc (.cells #[.bool false,.slice A5 m5 c5,.slice A6 m6 c6] 91)):=Ac;have hg:=zd8 A5 A6 m5 c5 m6 c6 _ _ (w6.alloc (.cells #[.bool false,.slice A5 m5 c5,.slice A6 m6 c6] 91)) ((hT.later aE).later aC) ((bA.later aJ).later aC) (aO.later aC) (by have:=bI.out;rw[bA.len] at this;omega) (by have:=bJ.out;rw[aO.len] at this;omega);have HG:=Aa hg;clear hg
  go_wp2_with fail
  refine HG.out.mono ?_;rintro e w8 ⟨A8,m8,c8,rfl,bN,aH⟩;have ho:=zbA A8 m8 c8 _ w8 bN;have bH:=(aI.below aC aI.cells.2.2.2.2.2.2).below aH (by have:=aI.cells.2.2.2.2.2.2;simp;omega);have aV:Below w.heap.size w (w6.alloc (.cells #[.bool false,.slice A5 m5 c5,.slice A6 m6 c6] 91)):=Ad aE aC;have bG:Below w.heap.size w w8:=Ad aV aH;have bK:zae w8 w6.heap.size false (.slice A5 m5 c5) (.slice A6 m6 c6):=(zae.new w6 _ _ _).below aH (by simp);obtain⟨k0,k1,k2,f0,f1,f2,_⟩:=bH.cells;obtain⟨x0,x1,x2,_,_,_,_⟩:=bK.cells;rw[bB.out,HGC.out] at ho
  go_wp2_with fail
  refine ho.mono ?_;rintro e w9 ⟨rfl,rfl⟩;have aF:=zan bG (g:=w.heap.size) (Nat.le_refl _) (.bool false) (.slice none 0 0) (.slice none 0 0);go_wp2
  refine bodyPost_ret (v := .tuple #[.agg #[.bool false,.slice none 0 0,.slice none 0 0],.int .i64 1]) (by simp[results,Tryz.results62,go_sem,k0,k1,k2]) rfl ⟨_,rfl,RatS.zero _ _,aF⟩
 ·have bL:Below w.heap.size w (w.alloc (.cells #[.bool false,.slice none 0 0,.slice none 0 0] 91)):=Ac
  go_enter Tryz.func62,Tryz.ntmps62
  go_wp2_with fail
  refine hc.mono ?_;rintro e w1 ⟨⟨a,b,rfl,ha,hb⟩,n,rfl⟩
  go_wp2_with fail
  refine(hcp a _ ha).mono ?_;rintro e w2 ⟨rfl,rfl⟩;have aD:=zal t ((w.alloc (.cells #[.bool false,.slice none 0 0,.slice none 0 0] 91)).drewN n);rw[D1] at aD
  go_wp2_with fail
  refine aD.mono ?_;rintro e w3 ⟨rfl,aZ⟩;have aU:Below w.heap.size w w3:=(zac bL n).trans (aZ.mono (by simp));have aY:zae w3 w.heap.size false (.slice none 0 0) (.slice none 0 0):=by
   have h:=zae.new w false (.slice none 0 0) (.slice none 0 0);exact zae.below (w:=(w.alloc (.cells #[.bool false,.slice none 0 0,.slice none 0 0] 91)).drewN n) h aZ (by simp)
  have aG:=zal b w3;rw[hb,D2] at aG;have bS:(b.toList==[48])=false:=by rw[ByteArray.toList_eq,hb];exact d48
  have bR:(b.toList==[49])=false:=by rw[ByteArray.toList_eq,hb];exact d49
  have aS:b.size=c2.length:=by rw[←hb];simp
  have aM:=Aa aS;have bB:=Aa hb;clear hb ha aS
  go_wp2_with fail
  refine aG.mono ?_;rintro e w4 ⟨rfl,aX⟩;have aW:Below w.heap.size w w4:=Ad aU aX;have aN:=aY.below aX aY.cells.2.2.2.2.2.2;clear aG;have bT:decide ((600:Int)<max (t.size:Int) (b.size:Int))=false:=by
   have h:=aM.out;have h2:=HLN.out;simp only[decide_eq_false_iff_not]
   omega
  have aK:=zau D1;have aL:zar b.data.toList=true:=by rw[bB.out];exact zau D2
  have bE:=HLN.out;have bQ:b.size≤600:=by have:=aM.out;omega
  have aR:=zaY t w4 aK (by omega);have bD:=fun W:World=>zaY b W aL (by omega)
  have bF:t.data.toList.length=t.size:=by simp
  have bM:b.data.toList.length=b.size:=by simp
  have bC:(digs (zaj t.data.toList)).length≤600:=zaK aK (by omega);have aA:(digs (zaj b.data.toList)).length≤600:=zaK aL (by omega);have bP:=Aa aR;have bO:=Aa bD;have bI:=Aa bC;have bJ:=Aa aA;clear aD aR aK aL bD bC aA bE bQ bF bM
  go_wp2_with fail
  refine bP.out.mono ?_;rintro e w5 ⟨A5,m5,c5,rfl,bA,aQ⟩;have aT:=aN.below aQ aN.cells.2.2.2.2.2.2;have aP:Below w.heap.size w w5:=Ad aW aQ
  go_wp2_with fail
  refine(bO.out w5).mono ?_;rintro e w6 ⟨A6,m6,c6,rfl,aO,aJ⟩;have aI:=aT.below aJ aT.cells.2.2.2.2.2.2;have aE:Below w.heap.size w w6:=Ad aP aJ;have aC:Below w6.heap.size w6 (w6.alloc (.cells #[.bool false,.slice A5 m5 c5,.slice A6 m6 c6] 91)):=Ac;have hg:=zd8 A5 A6 m5 c5 m6 c6 _ _ (w6.alloc (.cells #[.bool false,.slice A5 m5 c5,.slice A6 m6 c6] 91)) ((hT.later aE).later aC) ((bA.later aJ).later aC) (aO.later aC) (by have:=bI.out;rw[bA.len] at this;omega) (by have:=bJ.out;rw[aO.len] at this;omega);have HG:=Aa hg;clear hg
  go_wp2_with fail
  refine HG.out.mono ?_;rintro e w8 ⟨A8,m8,c8,rfl,bN,aH⟩;have ho:=zbA A8 m8 c8 _ w8 bN;have bH:=(aI.below aC aI.cells.2.2.2.2.2.2).below aH (by have:=aI.cells.2.2.2.2.2.2;simp;omega);have aV:Below w.heap.size w (w6.alloc (.cells #[.bool false,.slice A5 m5 c5,.slice A6 m6 c6] 91)):=Ad aE aC;have bG:Below w.heap.size w w8:=Ad aV aH;have bK:zae w8 w6.heap.size false (.slice A5 m5 c5) (.slice A6 m6 c6):=(zae.new w6 _ _ _).below aH (by simp);obtain⟨k0,k1,k2,f0,f1,f2,_⟩:=bH.cells;obtain⟨x0,x1,x2,_,_,_,_⟩:=bK.cells;rw[bB.out,HGC.out] at ho
  go_wp2_with fail
  refine ho.mono ?_;rintro e w9 ⟨rfl,rfl⟩;have aF:=zan bG (g:=w.heap.size) (Nat.le_refl _) (.bool false) (.slice none 0 0) (.slice none 0 0);go_wp2
  refine bodyPost_ret (v := .tuple #[.agg #[.bool false,.slice none 0 0,.slice none 0 0],.int .i64 1]) (by simp[results,Tryz.results62,go_sem,k0,k1,k2]) rfl ⟨_,rfl,RatS.zero _ _,aF⟩
 ·have bL:Below w.heap.size w (w.alloc (.cells #[.bool false,.slice none 0 0,.slice none 0 0] 91)):=Ac
  go_enter Tryz.func62,Tryz.ntmps62
  go_wp2_with fail
  refine hc.mono ?_;rintro e w1 ⟨⟨a,b,rfl,ha,hb⟩,n,rfl⟩
  go_wp2_with fail
  refine(hcp a _ ha).mono ?_;rintro e w2 ⟨rfl,rfl⟩;have aD:=zal t ((w.alloc (.cells #[.bool false,.slice none 0 0,.slice none 0 0] 91)).drewN n);rw[D1] at aD
  go_wp2_with fail
  refine aD.mono ?_;rintro e w3 ⟨rfl,aZ⟩;have aU:Below w.heap.size w w3:=(zac bL n).trans (aZ.mono (by simp));have aY:zae w3 w.heap.size false (.slice none 0 0) (.slice none 0 0):=by
   have h:=zae.new w false (.slice none 0 0) (.slice none 0 0);exact zae.below (w:=(w.alloc (.cells #[.bool false,.slice none 0 0,.slice none 0 0] 91)).drewN n) h aZ (by simp)
  have aG:=zal b w3;rw[hb,D2] at aG;have bS:(b.toList==[48])=false:=by rw[ByteArray.toList_eq,hb];exact d48
  have bR:(b.toList==[49])=false:=by rw[ByteArray.toList_eq,hb];exact d49
  have aS:b.size=c2.length:=by rw[←hb];simp
  have aM:=Aa aS;have bB:=Aa hb;clear hb ha aS
  go_wp2_with fail
  refine aG.mono ?_;rintro e w4 ⟨rfl,aX⟩;have aW:Below w.heap.size w w4:=Ad aU aX;have aN:=aY.below aX aY.cells.2.2.2.2.2.2;clear aG;have bT:decide ((600:Int)<max (t.size:Int) (b.size:Int))=false:=by
   have h:=aM.out;have h2:=HLN.out;simp only[decide_eq_false_iff_not]
   omega
  have aK:=zau D1;have aL:zar b.data.toList=true:=by rw[bB.out];exact zau D2
  have bE:=HLN.out;have bQ:b.size≤600:=by have:=aM.out;omega
  have aR:=zaY t w4 aK (by omega);have bD:=fun W:World=>zaY b W aL (by omega)
  have bF:t.data.toList.length=t.size:=by simp
  have bM:b.data.toList.length=b.size:=by simp
  have bC:(digs (zaj t.data.toList)).length≤600:=zaK aK (by omega);have aA:(digs (zaj b.data.toList)).length≤600:=zaK aL (by omega);have bP:=Aa aR;have bO:=Aa bD;have bI:=Aa bC;have bJ:=Aa aA;clear aD aR aK aL bD bC aA bE bQ bF bM
  go_wp2_with fail
  refine bP.out.mono ?_;rintro e w5 ⟨A5,m5,c5,rfl,bA,aQ⟩;have aT:=aN.below aQ aN.cells.2.2.2.2.2.2;have aP:Below w.heap.size w w5:=Ad aW aQ
  go_wp2_with fail
  refine(bO.out w5).mono ?_;rintro e w6 ⟨A6,m6,c6,rfl,aO,aJ⟩;have aI:=aT.below aJ aT.cells.2.2.2.2.2.2;have aE:Below w.heap.size w w6:=Ad aP aJ;have aC:Below w6.heap.size w6 (w6.alloc (.cells #[.bool true,.slice A5 m5 c5,.slice A6 m6 c6] 91)):=Ac;have hg:=zd8 A5 A6 m5 c5 m6 c6 _ _ (w6.alloc (.cells #[.bool true,.slice A5 m5 c5,.slice A6 m6 c6] 91)) ((hT.later aE).later aC) ((bA.later aJ).later aC) (aO.later aC) (by have:=bI.out;rw[bA.len] at this;omega) (by have:=bJ.out;rw[aO.len] at this;omega);have HG:=Aa hg;clear hg
  go_wp2_with fail
  refine HG.out.mono ?_;rintro e w8 ⟨A8,m8,c8,rfl,bN,aH⟩;have ho:=zbA A8 m8 c8 _ w8 bN;have bH:=(aI.below aC aI.cells.2.2.2.2.2.2).below aH (by have:=aI.cells.2.2.2.2.2.2;simp;omega);have aV:Below w.heap.size w (w6.alloc (.cells #[.bool true,.slice A5 m5 c5,.slice A6 m6 c6] 91)):=Ad aE aC;have bG:Below w.heap.size w w8:=Ad aV aH;have bK:zae w8 w6.heap.size true (.slice A5 m5 c5) (.slice A6 m6 c6):=(zae.new w6 _ _ _).below aH (by simp);obtain⟨k0,k1,k2,f0,f1,f2,_⟩:=bH.cells;obtain⟨x0,x1,x2,_,_,_,_⟩:=bK.cells;rw[bB.out,HGC.out] at ho
  go_wp2_with fail
  refine ho.mono ?_;rintro e w9 ⟨rfl,rfl⟩;have aF:=zan bG (g:=w.heap.size) (Nat.le_refl _) (.bool false) (.slice none 0 0) (.slice none 0 0);go_wp2
  refine bodyPost_ret (v := .tuple #[.agg #[.bool false,.slice none 0 0,.slice none 0 0],.int .i64 1]) (by simp[results,Tryz.results62,go_sem,k0,k1,k2]) rfl ⟨_,rfl,RatS.zero _ _,aF⟩
theorem zcf(s:ByteArray)(w:World)(hT:Tabs w)(hs:s.size≤4294967296) :
  Calls Tryz.prog 62 #[.string s] w (zaz w (zaf s.data.toList) (zap s.data.toList)):=by
 have hc:=zmf s (w.alloc (.cells #[.bool false,.slice none 0 0,.slice none 0 0] 91)) hs;have aL:=zi9 s.data.toList;unfold zaf zap topL negL botL zdz;generalize cutL s.data.toList=C at hc aL ⊢;obtain⟨c1,c2,c3⟩:=C
 dsimp only at hc aL ⊢
 obtain⟨t,ht⟩:∃ t:ByteArray,t=⟨(Lib.trimPrefix c1 [45]).toArray⟩:=⟨_,rfl⟩;have aM:Lib.trimPrefix c1 [45]=t.data.toList:=by rw[ht]
 obtain⟨aC,aH⟩:∃ aC,Lib.hasPrefix c1 [45]=aC:=⟨_,rfl⟩;have aF:∀ (a:ByteArray) (W:World),a.data.toList=c1→Calls Tryz.prog 118 #[.string a,.string ⟨#[45]⟩] W fun e w'=>e = .returned (.tuple #[.string t,.bool aC])∧W=w':=by
  intro a W ha;have h:=Tryz.strings_CutPrefix a ⟨#[45]⟩ W;have aQ:(⟨#[45]⟩:ByteArray).data.toList=[45]:=rfl;rw[aQ,ha,←ht,aH] at h;exact h.mono fun _ _ ⟨x,y⟩=>⟨x,y.symm⟩
 rw[aM,aH];clear ht aM aH;have aP:t.data.toList.length=t.size:=by simp
 have aE:(t.toList==[48])=decide (t.data.toList=[48]):=by rw[ByteArray.toList_eq,Bool.eq_iff_iff];simp
 generalize aD:t.data.toList=td at aP aE ⊢;have hE:∀ x,zba td c2 aC c3=x→x≠0→Calls Tryz.prog 62 #[.string s] w (zaz w ⟨false,0,0⟩ x)→Calls Tryz.prog 62 #[.string s] w (zaz w (if zba td c2 aC c3=0 then⟨aC,zaj td,if c3=true then zaj c2 else 1⟩ else⟨false,0,0⟩) (zba td c2 aC c3)):=by
  intro x hx h0 h;rw[hx,if_neg h0];exact h
 by_cases D1:zay td=true
 ·by_cases hz:aC=true∧td=[48]
  ·refine hE 1 (by unfold zba;rw[if_pos (.inr hz)]) (by omega) (zme s t c1 c2 aC c3 w hc aF (by rw[aD];exact D1) (by rw[aE];simpa using hz.2) hz.1)
  ·have hn:(aC && decide (td=[48]))=false:=by
    rw[Bool.eq_false_iff];intro h;simp at h;exact hz h
   have aA:¬ (zay td=false∨(aC=true∧td=[48])):=by
    rintro(h | h)
    ·rw[D1] at h;cases h
    ·exact hz h
   cases c3
   ·have aJ:=aL rfl
    by_cases hl:600<td.length
    ·refine hE 4 (by unfold zba;rw[if_neg aA,if_neg (by simp),if_pos (.inl hl)]) (by omega) (zmq s t c1 c2 aC false w hc aF (by rw[aD];exact D1) _ aE hn rfl aJ (.inl (by omega)))
    ·have hv:zba td c2 aC false=0:=by unfold zba;rw[if_neg aA,if_neg (by simp),if_neg (by rw[aJ];simp;omega),if_neg (by simp)]
     rw[hv,if_pos rfl];have h:=zkX s t c1 c2 aC false w hc aF (by rw[aD];exact D1) _ aE hn rfl aJ ⟨by omega,by omega⟩;rw[aD] at h
     simpa using h
   ·by_cases D2:zay c2=true
    ·by_cases h48:c2=[48]
     ·refine hE 1 (by unfold zba;rw[if_neg aA,if_pos ⟨rfl,.inr (.inl h48)⟩]) (by omega) (zlI s t c1 c2 aC true w hc aF (by rw[aD];exact D1) _ aE hn (c2==[49]) rfl D2 (by simpa using h48) rfl)
     ·have aI:(c2==[48])=false:=by simpa using h48
      by_cases h49:c2=[49]
      ·refine hE 1 (by unfold zba;rw[if_neg aA,if_pos ⟨rfl,.inr (.inr h49)⟩]) (by omega) (zlA s t c1 c2 aC true w hc aF (by rw[aD];exact D1) _ aE hn rfl D2 aI (by simpa using h49))
      ·have aK:(c2==[49])=false:=by simpa using h49
       have aG:¬ (true=true∧(zay c2=false∨c2=[48]∨c2=[49])):=by
        rintro⟨_,h | h | h⟩
        ·rw[D2] at h;cases h
        ·exact h48 h
        ·exact h49 h
       by_cases hl:600<td.length∨600<c2.length
       ·refine hE 4 (by unfold zba;rw[if_neg aA,if_neg aG,if_pos hl]) (by omega) (zmQ s t c1 c2 aC true w hc aF (by rw[aD];exact D1) _ aE hn rfl D2 aI aK (by unfold Hid;omega))
       ·by_cases hg:Nat.gcd (zaj td) (zaj c2)=1
        ·have hv:zba td c2 aC true=0:=by unfold zba;rw[if_neg aA,if_neg aG,if_neg hl,if_neg (by simp[hg])]
         rw[hv,if_pos rfl];have h:=zl9 s t c1 c2 aC true w hc aF (by rw[aD];exact D1) _ aE hn hT rfl D2 aI aK (by unfold Hid;omega) (by unfold Hid;rw[aD];simpa using hg);rw[aD] at h
         simpa using h
        ·refine hE 1 (by unfold zba;rw[if_neg aA,if_neg aG,if_neg hl,if_pos ⟨rfl,hg⟩]) (by omega) (zlz s t c1 c2 aC true w hc aF (by rw[aD];exact D1) _ aE hn hT rfl D2 aI aK (by unfold Hid;omega) (by unfold Hid;rw[aD];simpa using hg))
    ·have aO:zay c2=false:=by simpa using D2
     refine hE 1 (by unfold zba;rw[if_neg aA,if_pos ⟨rfl,.inl aO⟩]) (by omega) (zli s t c1 c2 aC true w hc aF (by rw[aD];exact D1) _ aE hn (c2==[48]) (c2==[49]) rfl aO rfl rfl)
 ·have aN:zay td=false:=by simpa using D1
  refine hE 1 (by unfold zba;rw[if_pos (.inl aN)]) (by omega) (zlR s t c1 c2 aC c3 w hc aF (by rw[aD];exact aN))
end Go.Proofs.YtmkondcdejlhcaaGreatDoor
