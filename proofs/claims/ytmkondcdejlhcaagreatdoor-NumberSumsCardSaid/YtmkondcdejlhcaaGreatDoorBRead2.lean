/- Contract of read: fractions; all of it. -/
import Derived.Test.YtmkondcdejlhcaaGreatDoorBRat1
set_option maxRecDepth 100000
set_option maxHeartbeats 4000000
namespace Go.Proofs.YtmkondcdejlhcaaGreatDoor
open Go.RowKit Bn
theorem znA (s t:ByteArray) (c1 c2:List UInt8) (neg frac:Bool) (w:World)
  (hc:Calls Tryz.prog 117 #[.string s,.string ⟨#[47]⟩] (w.alloc (.cells #[.bool false,.slice none 0 0,.slice none 0 0] 91)) fun e w'=>(∃ a b:ByteArray,e = .returned (.tuple #[.string a,.string b,.bool frac])∧a.data.toList=c1∧b.data.toList=c2)∧∃ n,w'=(w.alloc (.cells #[.bool false,.slice none 0 0,.slice none 0 0] 91)).drewN n)
  (hcp:∀ (a:ByteArray) (W:World),a.data.toList=c1→Calls Tryz.prog 118 #[.string a,.string ⟨#[45]⟩] W fun e w'=>e = .returned (.tuple #[.string t,.bool neg])∧W=w')
  (D1:zaF t.data.toList=true) (zb:Bool) (z:(t.toList==[48])=zb) (hn:(neg && zb)=false) (hT:Tabs w) (hf:frac=true) (D2:zaF c2=true) (d48:(c2==[48])=false) (d49:(c2==[49])=false) (HLN:Hid (t.size≤600∧c2.length≤600)) (HGC:Hid (decide (Nat.gcd (zaj t.data.toList) (zaj c2)=1)=true)) :
  Calls Tryz.prog 62 #[.string s] w (zax w ⟨neg,zaj t.data.toList,zaj c2⟩ 0):=by
 subst hf
 cases neg<;>cases zb<;>(try cases hn)
 ·have bP:Below w.heap.size w (w.alloc (.cells #[.bool false,.slice none 0 0,.slice none 0 0] 91)):=Ac
  go_enter Tryz.func62,Tryz.ntmps62
  go_wp2_with fail
  refine hc.mono ?_;rintro e w1 ⟨⟨a,b,rfl,ha,hb⟩,n,rfl⟩
  go_wp2_with fail
  refine (hcp a _ ha).mono ?_;rintro e w2 ⟨rfl,rfl⟩;have aI:=zal t ((w.alloc (.cells #[.bool false,.slice none 0 0,.slice none 0 0] 91)).drewN n);rw [D1] at aI
  go_wp2_with fail
  refine aI.mono ?_;rintro e w3 ⟨rfl,aQ⟩;have aU:Below w.heap.size w w3:=(zac bP n).trans (aQ.mono (by simp));have bG:zaf w3 w.heap.size false (.slice none 0 0) (.slice none 0 0):=by
   have h:=zaf.new w false (.slice none 0 0) (.slice none 0 0);exact zaf.below (w:=(w.alloc (.cells #[.bool false,.slice none 0 0,.slice none 0 0] 91)).drewN n) h aQ (by simp)
  have aG:=zal b w3;rw [hb,D2] at aG;have bT:(b.toList==[48])=false:=by rw [ByteArray.toList_eq,hb];exact d48
  have bU:(b.toList==[49])=false:=by rw [ByteArray.toList_eq,hb];exact d49
  have bE:b.size=c2.length:=by rw [←hb];simp
  have aR:=Aa bE;have aO:=Aa hb;clear hb ha bE
  go_wp2_with fail
  refine aG.mono ?_;rintro e w4 ⟨rfl,aT⟩;have bA:Below w.heap.size w w4:=Ad aU aT;have bD:=bG.below aT bG.cells.2.2.2.2.2.2;clear aG;have bV:decide ((600:Int)<max (t.size:Int) (b.size:Int))=false:=by
   have h:=aR.out;have h2:=HLN.out;simp only [decide_eq_false_iff_not]
   omega
  have aP:=zas D1;have aM:zau b.data.toList=true:=by rw [aO.out];exact zas D2
  have bO:=HLN.out;have bI:b.size≤600:=by have:=aR.out;omega
  have aV:=za2 t w4 aP (by omega);have bB:=fun W:World=>za2 b W aM (by omega)
  have bK:t.data.toList.length=t.size:=by simp
  have bN:b.data.toList.length=b.size:=by simp
  have aW:(digs (zaj t.data.toList)).length≤600:=zaK aP (by omega);have aD:(digs (zaj b.data.toList)).length≤600:=zaK aM (by omega);have bR:=Aa aV;have bS:=Aa bB;have bH:=Aa aW;have bM:=Aa aD;clear aI aV aP aM bB aW aD bO bI bK bN
  go_wp2_with fail
  refine bR.out.mono ?_;rintro e w5 ⟨A5,m5,c5,rfl,aN,aS⟩;have aZ:=bD.below aS bD.cells.2.2.2.2.2.2;have bC:Below w.heap.size w w5:=Ad bA aS
  go_wp2_with fail
  refine (bS.out w5).mono ?_;rintro e w6 ⟨A6,m6,c6,rfl,aL,aE⟩;have aF:=aZ.below aE aZ.cells.2.2.2.2.2.2;have aJ:Below w.heap.size w w6:=Ad bC aE;have aA:Below w6.heap.size w6 (w6.alloc (.cells #[.bool false,.slice A5 m5 c5,.slice A6 m6 c6] 91)):=Ac;have hg:=zeS A5 A6 m5 c5 m6 c6 _ _ (w6.alloc (.cells #[.bool false,.slice A5 m5 c5,.slice A6 m6 c6] 91)) ((hT.later aJ).later aA) ((aN.later aE).later aA) (aL.later aA) (by have:=bH.out;rw [aN.len] at this;omega) (by have:=bM.out;rw [aL.len] at this;omega);have HG:=Aa hg;clear hg
  go_wp2_with fail
  refine HG.out.mono ?_;rintro e w8 ⟨A8,m8,c8,rfl,bL,aC⟩;have ho:=zbN A8 m8 c8 _ w8 bL;have aK:=(aF.below aA aF.cells.2.2.2.2.2.2).below aC (by have:=aF.cells.2.2.2.2.2.2;simp;omega);have bF:Below w.heap.size w (w6.alloc (.cells #[.bool false,.slice A5 m5 c5,.slice A6 m6 c6] 91)):=Ad aJ aA;have bQ:Below w.heap.size w w8:=Ad bF aC;have bJ:zaf w8 w6.heap.size false (.slice A5 m5 c5) (.slice A6 m6 c6):=(zaf.new w6 _ _ _).below aC (by simp);obtain ⟨k0,k1,k2,f0,f1,f2,_⟩:=aK.cells;obtain ⟨x0,x1,x2,_,_,_,_⟩:=bJ.cells;rw [aO.out,HGC.out] at ho
  go_wp2_with fail
  refine ho.mono ?_;rintro e w9 ⟨rfl,rfl⟩;have aH:=zap bQ (g:=w.heap.size) (Nat.le_refl _) (.bool false) (.slice A5 m5 c5) (.slice A6 m6 c6);go_wp2
  refine bodyPost_ret (v := .tuple #[.agg #[.bool false,.slice A5 m5 c5,.slice A6 m6 c6],.int .i64 0]) (by simp [results,Tryz.results62,go_sem,k0,k1,k2]) rfl ⟨_,rfl,⟨A5,m5,c5,A6,m6,c6,rfl,?_,?_⟩,aH⟩
  ·rw [zai];exact (((aN.later aE).later aA).later aC).res aK _ _ _
  ·rw [zai]
   have h:=((aL.later aA).later aC).res aK (.bool false) (.slice A5 m5 c5) (.slice A6 m6 c6);rw [aO.out] at h;exact h
 ·have bP:Below w.heap.size w (w.alloc (.cells #[.bool false,.slice none 0 0,.slice none 0 0] 91)):=Ac
  go_enter Tryz.func62,Tryz.ntmps62
  go_wp2_with fail
  refine hc.mono ?_;rintro e w1 ⟨⟨a,b,rfl,ha,hb⟩,n,rfl⟩
  go_wp2_with fail
  refine (hcp a _ ha).mono ?_;rintro e w2 ⟨rfl,rfl⟩;have aI:=zal t ((w.alloc (.cells #[.bool false,.slice none 0 0,.slice none 0 0] 91)).drewN n);rw [D1] at aI
  go_wp2_with fail
  refine aI.mono ?_;rintro e w3 ⟨rfl,aQ⟩;have aU:Below w.heap.size w w3:=(zac bP n).trans (aQ.mono (by simp));have bG:zaf w3 w.heap.size false (.slice none 0 0) (.slice none 0 0):=by
   have h:=zaf.new w false (.slice none 0 0) (.slice none 0 0);exact zaf.below (w:=(w.alloc (.cells #[.bool false,.slice none 0 0,.slice none 0 0] 91)).drewN n) h aQ (by simp)
  have aG:=zal b w3;rw [hb,D2] at aG;have bT:(b.toList==[48])=false:=by rw [ByteArray.toList_eq,hb];exact d48
  have bU:(b.toList==[49])=false:=by rw [ByteArray.toList_eq,hb];exact d49
  have bE:b.size=c2.length:=by rw [←hb];simp
  have aR:=Aa bE;have aO:=Aa hb;clear hb ha bE
  go_wp2_with fail
  refine aG.mono ?_;rintro e w4 ⟨rfl,aT⟩;have bA:Below w.heap.size w w4:=Ad aU aT;have bD:=bG.below aT bG.cells.2.2.2.2.2.2;clear aG;have bV:decide ((600:Int)<max (t.size:Int) (b.size:Int))=false:=by
   have h:=aR.out;have h2:=HLN.out;simp only [decide_eq_false_iff_not]
   omega
  have aP:=zas D1;have aM:zau b.data.toList=true:=by rw [aO.out];exact zas D2
  have bO:=HLN.out;have bI:b.size≤600:=by have:=aR.out;omega
  have aV:=za2 t w4 aP (by omega);have bB:=fun W:World=>za2 b W aM (by omega)
  have bK:t.data.toList.length=t.size:=by simp
  have bN:b.data.toList.length=b.size:=by simp
  have aW:(digs (zaj t.data.toList)).length≤600:=zaK aP (by omega);have aD:(digs (zaj b.data.toList)).length≤600:=zaK aM (by omega);have bR:=Aa aV;have bS:=Aa bB;have bH:=Aa aW;have bM:=Aa aD;clear aI aV aP aM bB aW aD bO bI bK bN
  go_wp2_with fail
  refine bR.out.mono ?_;rintro e w5 ⟨A5,m5,c5,rfl,aN,aS⟩;have aZ:=bD.below aS bD.cells.2.2.2.2.2.2;have bC:Below w.heap.size w w5:=Ad bA aS
  go_wp2_with fail
  refine (bS.out w5).mono ?_;rintro e w6 ⟨A6,m6,c6,rfl,aL,aE⟩;have aF:=aZ.below aE aZ.cells.2.2.2.2.2.2;have aJ:Below w.heap.size w w6:=Ad bC aE;have aA:Below w6.heap.size w6 (w6.alloc (.cells #[.bool false,.slice A5 m5 c5,.slice A6 m6 c6] 91)):=Ac;have hg:=zeS A5 A6 m5 c5 m6 c6 _ _ (w6.alloc (.cells #[.bool false,.slice A5 m5 c5,.slice A6 m6 c6] 91)) ((hT.later aJ).later aA) ((aN.later aE).later aA) (aL.later aA) (by have:=bH.out;rw [aN.len] at this;omega) (by have:=bM.out;rw [aL.len] at this;omega);have HG:=Aa hg;clear hg
  go_wp2_with fail
  refine HG.out.mono ?_;rintro e w8 ⟨A8,m8,c8,rfl,bL,aC⟩;have ho:=zbN A8 m8 c8 _ w8 bL;have aK:=(aF.below aA aF.cells.2.2.2.2.2.2).below aC (by have:=aF.cells.2.2.2.2.2.2;simp;omega);have bF:Below w.heap.size w (w6.alloc (.cells #[.bool false,.slice A5 m5 c5,.slice A6 m6 c6] 91)):=Ad aJ aA;have bQ:Below w.heap.size w w8:=Ad bF aC;have bJ:zaf w8 w6.heap.size false (.slice A5 m5 c5) (.slice A6 m6 c6):=(zaf.new w6 _ _ _).below aC (by simp);obtain ⟨k0,k1,k2,f0,f1,f2,_⟩:=aK.cells;obtain ⟨x0,x1,x2,_,_,_,_⟩:=bJ.cells;rw [aO.out,HGC.out] at ho
  go_wp2_with fail
  refine ho.mono ?_;rintro e w9 ⟨rfl,rfl⟩;have aH:=zap bQ (g:=w.heap.size) (Nat.le_refl _) (.bool false) (.slice A5 m5 c5) (.slice A6 m6 c6);go_wp2
  refine bodyPost_ret (v := .tuple #[.agg #[.bool false,.slice A5 m5 c5,.slice A6 m6 c6],.int .i64 0]) (by simp [results,Tryz.results62,go_sem,k0,k1,k2]) rfl ⟨_,rfl,⟨A5,m5,c5,A6,m6,c6,rfl,?_,?_⟩,aH⟩
  ·rw [zai];exact (((aN.later aE).later aA).later aC).res aK _ _ _
  ·rw [zai]
   have h:=((aL.later aA).later aC).res aK (.bool false) (.slice A5 m5 c5) (.slice A6 m6 c6);rw [aO.out] at h;exact h
 ·have bP:Below w.heap.size w (w.alloc (.cells #[.bool false,.slice none 0 0,.slice none 0 0] 91)):=Ac
  go_enter Tryz.func62,Tryz.ntmps62
  go_wp2_with fail
  refine hc.mono ?_;rintro e w1 ⟨⟨a,b,rfl,ha,hb⟩,n,rfl⟩
  go_wp2_with fail
  refine (hcp a _ ha).mono ?_;rintro e w2 ⟨rfl,rfl⟩;have aI:=zal t ((w.alloc (.cells #[.bool false,.slice none 0 0,.slice none 0 0] 91)).drewN n);rw [D1] at aI
  go_wp2_with fail
  refine aI.mono ?_;rintro e w3 ⟨rfl,aQ⟩;have aU:Below w.heap.size w w3:=(zac bP n).trans (aQ.mono (by simp));have bG:zaf w3 w.heap.size false (.slice none 0 0) (.slice none 0 0):=by
   have h:=zaf.new w false (.slice none 0 0) (.slice none 0 0);exact zaf.below (w:=(w.alloc (.cells #[.bool false,.slice none 0 0,.slice none 0 0] 91)).drewN n) h aQ (by simp)
  have aG:=zal b w3;rw [hb,D2] at aG;have bT:(b.toList==[48])=false:=by rw [ByteArray.toList_eq,hb];exact d48
  have bU:(b.toList==[49])=false:=by rw [ByteArray.toList_eq,hb];exact d49
  have bE:b.size=c2.length:=by rw [←hb];simp
  have aR:=Aa bE;have aO:=Aa hb;clear hb ha bE
  go_wp2_with fail
  refine aG.mono ?_;rintro e w4 ⟨rfl,aT⟩;have bA:Below w.heap.size w w4:=Ad aU aT;have bD:=bG.below aT bG.cells.2.2.2.2.2.2;clear aG;have bV:decide ((600:Int)<max (t.size:Int) (b.size:Int))=false:=by
   have h:=aR.out;have h2:=HLN.out;simp only [decide_eq_false_iff_not]
   omega
  have aP:=zas D1;have aM:zau b.data.toList=true:=by rw [aO.out];exact zas D2
  have bO:=HLN.out;have bI:b.size≤600:=by have:=aR.out;omega
  have aV:=za2 t w4 aP (by omega);have bB:=fun W:World=>za2 b W aM (by omega)
  have bK:t.data.toList.length=t.size:=by simp
  have bN:b.data.toList.length=b.size:=by simp
  have aW:(digs (zaj t.data.toList)).length≤600:=zaK aP (by omega);have aD:(digs (zaj b.data.toList)).length≤600:=zaK aM (by omega);have bR:=Aa aV;have bS:=Aa bB;have bH:=Aa aW;have bM:=Aa aD;clear aI aV aP aM bB aW aD bO bI bK bN
  go_wp2_with fail
  refine bR.out.mono ?_;rintro e w5 ⟨A5,m5,c5,rfl,aN,aS⟩;have aZ:=bD.below aS bD.cells.2.2.2.2.2.2;have bC:Below w.heap.size w w5:=Ad bA aS
  go_wp2_with fail
  refine (bS.out w5).mono ?_;rintro e w6 ⟨A6,m6,c6,rfl,aL,aE⟩;have aF:=aZ.below aE aZ.cells.2.2.2.2.2.2;have aJ:Below w.heap.size w w6:=Ad bC aE;have aA:Below w6.heap.size w6 (w6.alloc (.cells #[.bool true,.slice A5 m5 c5,.slice A6 m6 c6] 91)):=Ac;have hg:=zeS A5 A6 m5 c5 m6 c6 _ _ (w6.alloc (.cells #[.bool true,.slice A5 m5 c5,.slice A6 m6 c6] 91)) ((hT.later aJ).later aA) ((aN.later aE).later aA) (aL.later aA) (by have:=bH.out;rw [aN.len] at this;omega) (by have:=bM.out;rw [aL.len] at this;omega);have HG:=Aa hg;clear hg
  go_wp2_with fail
  refine HG.out.mono ?_;rintro e w8 ⟨A8,m8,c8,rfl,bL,aC⟩;have ho:=zbN A8 m8 c8 _ w8 bL;have aK:=(aF.below aA aF.cells.2.2.2.2.2.2).below aC (by have:=aF.cells.2.2.2.2.2.2;simp;omega);have bF:Below w.heap.size w (w6.alloc (.cells #[.bool true,.slice A5 m5 c5,.slice A6 m6 c6] 91)):=Ad aJ aA;have bQ:Below w.heap.size w w8:=Ad bF aC;have bJ:zaf w8 w6.heap.size true (.slice A5 m5 c5) (.slice A6 m6 c6):=(zaf.new w6 _ _ _).below aC (by simp);obtain ⟨k0,k1,k2,f0,f1,f2,_⟩:=aK.cells;obtain ⟨x0,x1,x2,_,_,_,_⟩:=bJ.cells;rw [aO.out,HGC.out] at ho
  go_wp2_with fail
  refine ho.mono ?_;rintro e w9 ⟨rfl,rfl⟩;have aH:=zap bQ (g:=w.heap.size) (Nat.le_refl _) (.bool true) (.slice A5 m5 c5) (.slice A6 m6 c6);go_wp2
  refine bodyPost_ret (v := .tuple #[.agg #[.bool true,.slice A5 m5 c5,.slice A6 m6 c6],.int .i64 0]) (by simp [results,Tryz.results62,go_sem,k0,k1,k2]) rfl ⟨_,rfl,⟨A5,m5,c5,A6,m6,c6,rfl,?_,?_⟩,aH⟩
  ·rw [zai];exact (((aN.later aE).later aA).later aC).res aK _ _ _
  ·rw [zai]
   have h:=((aL.later aA).later aC).res aK (.bool true) (.slice A5 m5 c5) (.slice A6 m6 c6);rw [aO.out] at h;exact h
theorem znt (s t:ByteArray) (c1 c2:List UInt8) (neg frac:Bool) (w:World)
  (hc:Calls Tryz.prog 117 #[.string s,.string ⟨#[47]⟩] (w.alloc (.cells #[.bool false,.slice none 0 0,.slice none 0 0] 91)) fun e w'=>(∃ a b:ByteArray,e = .returned (.tuple #[.string a,.string b,.bool frac])∧a.data.toList=c1∧b.data.toList=c2)∧∃ n,w'=(w.alloc (.cells #[.bool false,.slice none 0 0,.slice none 0 0] 91)).drewN n)
  (hcp:∀ (a:ByteArray) (W:World),a.data.toList=c1→Calls Tryz.prog 118 #[.string a,.string ⟨#[45]⟩] W fun e w'=>e = .returned (.tuple #[.string t,.bool neg])∧W=w')
  (D1:zaF t.data.toList=true) (zb:Bool) (z:(t.toList==[48])=zb) (hn:(neg && zb)=false) (hT:Tabs w) (hf:frac=true) (D2:zaF c2=true) (d48:(c2==[48])=false) (d49:(c2==[49])=false) (HLN:Hid (t.size≤600∧c2.length≤600)) (HGC:Hid (decide (Nat.gcd (zaj t.data.toList) (zaj c2)=1)=false)) :
  Calls Tryz.prog 62 #[.string s] w (zax w ⟨false,0,0⟩ 1):=by
 subst hf
 cases neg<;>cases zb<;>(try cases hn)
 ·have bP:Below w.heap.size w (w.alloc (.cells #[.bool false,.slice none 0 0,.slice none 0 0] 91)):=Ac
  go_enter Tryz.func62,Tryz.ntmps62
  go_wp2_with fail
  refine hc.mono ?_;rintro e w1 ⟨⟨a,b,rfl,ha,hb⟩,n,rfl⟩
  go_wp2_with fail
  refine (hcp a _ ha).mono ?_;rintro e w2 ⟨rfl,rfl⟩;have aH:=zal t ((w.alloc (.cells #[.bool false,.slice none 0 0,.slice none 0 0] 91)).drewN n);rw [D1] at aH
  go_wp2_with fail
  refine aH.mono ?_;rintro e w3 ⟨rfl,aM⟩;have aQ:Below w.heap.size w w3:=(zac bP n).trans (aM.mono (by simp));have bF:zaf w3 w.heap.size false (.slice none 0 0) (.slice none 0 0):=by
   have h:=zaf.new w false (.slice none 0 0) (.slice none 0 0);exact zaf.below (w:=(w.alloc (.cells #[.bool false,.slice none 0 0,.slice none 0 0] 91)).drewN n) h aM (by simp)
  have aF:=zal b w3;rw [hb,D2] at aF;have bT:(b.toList==[48])=false:=by rw [ByteArray.toList_eq,hb];exact d48
  have bU:(b.toList==[49])=false:=by rw [ByteArray.toList_eq,hb];exact d49
  have bC:b.size=c2.length:=by rw [←hb];simp
  have aN:=Aa bC;have bE:=Aa hb;clear hb ha bC
  go_wp2_with fail
  refine aF.mono ?_;rintro e w4 ⟨rfl,aP⟩;have aV:Below w.heap.size w w4:=Ad aQ aP;have bB:=bF.below aP bF.cells.2.2.2.2.2.2;clear aF;have bV:decide ((600:Int)<max (t.size:Int) (b.size:Int))=false:=by
   have h:=aN.out;have h2:=HLN.out;simp only [decide_eq_false_iff_not]
   omega
  have aL:=zas D1;have aJ:zau b.data.toList=true:=by rw [bE.out];exact zas D2
  have bN:=HLN.out;have bH:b.size≤600:=by have:=aN.out;omega
  have aR:=za2 t w4 aL (by omega);have aW:=fun W:World=>za2 b W aJ (by omega)
  have bJ:t.data.toList.length=t.size:=by simp
  have bM:b.data.toList.length=b.size:=by simp
  have aS:(digs (zaj t.data.toList)).length≤600:=zaK aL (by omega);have aA:(digs (zaj b.data.toList)).length≤600:=zaK aJ (by omega);have bR:=Aa aR;have bS:=Aa aW;have bG:=Aa aS;have bL:=Aa aA;clear aH aR aL aJ aW aS aA bN bH bJ bM
  go_wp2_with fail
  refine bR.out.mono ?_;rintro e w5 ⟨A5,m5,c5,rfl,bA,aO⟩;have aT:=bB.below aO bB.cells.2.2.2.2.2.2;have aZ:Below w.heap.size w w5:=Ad aV aO
  go_wp2_with fail
  refine (bS.out w5).mono ?_;rintro e w6 ⟨A6,m6,c6,rfl,aU,aK⟩;have aE:=aT.below aK aT.cells.2.2.2.2.2.2;have aI:Below w.heap.size w w6:=Ad aZ aK;have aC:Below w6.heap.size w6 (w6.alloc (.cells #[.bool false,.slice A5 m5 c5,.slice A6 m6 c6] 91)):=Ac;have hg:=zeS A5 A6 m5 c5 m6 c6 _ _ (w6.alloc (.cells #[.bool false,.slice A5 m5 c5,.slice A6 m6 c6] 91)) ((hT.later aI).later aC) ((bA.later aK).later aC) (aU.later aC) (by have:=bG.out;rw [bA.len] at this;omega) (by have:=bL.out;rw [aU.len] at this;omega);have HG:=Aa hg;clear hg
  go_wp2_with fail
  refine HG.out.mono ?_;rintro e w8 ⟨A8,m8,c8,rfl,bK,aD⟩;have ho:=zbN A8 m8 c8 _ w8 bK;have bO:=(aE.below aC aE.cells.2.2.2.2.2.2).below aD (by have:=aE.cells.2.2.2.2.2.2;simp;omega);have bD:Below w.heap.size w (w6.alloc (.cells #[.bool false,.slice A5 m5 c5,.slice A6 m6 c6] 91)):=Ad aI aC;have bQ:Below w.heap.size w w8:=Ad bD aD;have bI:zaf w8 w6.heap.size false (.slice A5 m5 c5) (.slice A6 m6 c6):=(zaf.new w6 _ _ _).below aD (by simp);obtain ⟨k0,k1,k2,f0,f1,f2,_⟩:=bO.cells;obtain ⟨x0,x1,x2,_,_,_,_⟩:=bI.cells;rw [bE.out,HGC.out] at ho
  go_wp2_with fail
  refine ho.mono ?_;rintro e w9 ⟨rfl,rfl⟩;have aG:=zap bQ (g:=w.heap.size) (Nat.le_refl _) (.bool false) (.slice none 0 0) (.slice none 0 0);go_wp2
  refine bodyPost_ret (v := .tuple #[.agg #[.bool false,.slice none 0 0,.slice none 0 0],.int .i64 1]) (by simp [results,Tryz.results62,go_sem,k0,k1,k2]) rfl ⟨_,rfl,RatS.zero _ _,aG⟩
 ·have bP:Below w.heap.size w (w.alloc (.cells #[.bool false,.slice none 0 0,.slice none 0 0] 91)):=Ac
  go_enter Tryz.func62,Tryz.ntmps62
  go_wp2_with fail
  refine hc.mono ?_;rintro e w1 ⟨⟨a,b,rfl,ha,hb⟩,n,rfl⟩
  go_wp2_with fail
  refine (hcp a _ ha).mono ?_;rintro e w2 ⟨rfl,rfl⟩;have aH:=zal t ((w.alloc (.cells #[.bool false,.slice none 0 0,.slice none 0 0] 91)).drewN n);rw [D1] at aH
  go_wp2_with fail
  refine aH.mono ?_;rintro e w3 ⟨rfl,aM⟩;have aQ:Below w.heap.size w w3:=(zac bP n).trans (aM.mono (by simp));have bF:zaf w3 w.heap.size false (.slice none 0 0) (.slice none 0 0):=by
   have h:=zaf.new w false (.slice none 0 0) (.slice none 0 0);exact zaf.below (w:=(w.alloc (.cells #[.bool false,.slice none 0 0,.slice none 0 0] 91)).drewN n) h aM (by simp)
  have aF:=zal b w3;rw [hb,D2] at aF;have bT:(b.toList==[48])=false:=by rw [ByteArray.toList_eq,hb];exact d48
  have bU:(b.toList==[49])=false:=by rw [ByteArray.toList_eq,hb];exact d49
  have bC:b.size=c2.length:=by rw [←hb];simp
  have aN:=Aa bC;have bE:=Aa hb;clear hb ha bC
  go_wp2_with fail
  refine aF.mono ?_;rintro e w4 ⟨rfl,aP⟩;have aV:Below w.heap.size w w4:=Ad aQ aP;have bB:=bF.below aP bF.cells.2.2.2.2.2.2;clear aF;have bV:decide ((600:Int)<max (t.size:Int) (b.size:Int))=false:=by
   have h:=aN.out;have h2:=HLN.out;simp only [decide_eq_false_iff_not]
   omega
  have aL:=zas D1;have aJ:zau b.data.toList=true:=by rw [bE.out];exact zas D2
  have bN:=HLN.out;have bH:b.size≤600:=by have:=aN.out;omega
  have aR:=za2 t w4 aL (by omega);have aW:=fun W:World=>za2 b W aJ (by omega)
  have bJ:t.data.toList.length=t.size:=by simp
  have bM:b.data.toList.length=b.size:=by simp
  have aS:(digs (zaj t.data.toList)).length≤600:=zaK aL (by omega);have aA:(digs (zaj b.data.toList)).length≤600:=zaK aJ (by omega);have bR:=Aa aR;have bS:=Aa aW;have bG:=Aa aS;have bL:=Aa aA;clear aH aR aL aJ aW aS aA bN bH bJ bM
  go_wp2_with fail
  refine bR.out.mono ?_;rintro e w5 ⟨A5,m5,c5,rfl,bA,aO⟩;have aT:=bB.below aO bB.cells.2.2.2.2.2.2;have aZ:Below w.heap.size w w5:=Ad aV aO
  go_wp2_with fail
  refine (bS.out w5).mono ?_;rintro e w6 ⟨A6,m6,c6,rfl,aU,aK⟩;have aE:=aT.below aK aT.cells.2.2.2.2.2.2;have aI:Below w.heap.size w w6:=Ad aZ aK;have aC:Below w6.heap.size w6 (w6.alloc (.cells #[.bool false,.slice A5 m5 c5,.slice A6 m6 c6] 91)):=Ac;have hg:=zeS A5 A6 m5 c5 m6 c6 _ _ (w6.alloc (.cells #[.bool false,.slice A5 m5 c5,.slice A6 m6 c6] 91)) ((hT.later aI).later aC) ((bA.later aK).later aC) (aU.later aC) (by have:=bG.out;rw [bA.len] at this;omega) (by have:=bL.out;rw [aU.len] at this;omega);have HG:=Aa hg;clear hg
  go_wp2_with fail
  refine HG.out.mono ?_;rintro e w8 ⟨A8,m8,c8,rfl,bK,aD⟩;have ho:=zbN A8 m8 c8 _ w8 bK;have bO:=(aE.below aC aE.cells.2.2.2.2.2.2).below aD (by have:=aE.cells.2.2.2.2.2.2;simp;omega);have bD:Below w.heap.size w (w6.alloc (.cells #[.bool false,.slice A5 m5 c5,.slice A6 m6 c6] 91)):=Ad aI aC;have bQ:Below w.heap.size w w8:=Ad bD aD;have bI:zaf w8 w6.heap.size false (.slice A5 m5 c5) (.slice A6 m6 c6):=(zaf.new w6 _ _ _).below aD (by simp);obtain ⟨k0,k1,k2,f0,f1,f2,_⟩:=bO.cells;obtain ⟨x0,x1,x2,_,_,_,_⟩:=bI.cells;rw [bE.out,HGC.out] at ho
  go_wp2_with fail
  refine ho.mono ?_;rintro e w9 ⟨rfl,rfl⟩;have aG:=zap bQ (g:=w.heap.size) (Nat.le_refl _) (.bool false) (.slice none 0 0) (.slice none 0 0);go_wp2
  refine bodyPost_ret (v := .tuple #[.agg #[.bool false,.slice none 0 0,.slice none 0 0],.int .i64 1]) (by simp [results,Tryz.results62,go_sem,k0,k1,k2]) rfl ⟨_,rfl,RatS.zero _ _,aG⟩
 ·have bP:Below w.heap.size w (w.alloc (.cells #[.bool false,.slice none 0 0,.slice none 0 0] 91)):=Ac
  go_enter Tryz.func62,Tryz.ntmps62
  go_wp2_with fail
  refine hc.mono ?_;rintro e w1 ⟨⟨a,b,rfl,ha,hb⟩,n,rfl⟩
  go_wp2_with fail
  refine (hcp a _ ha).mono ?_;rintro e w2 ⟨rfl,rfl⟩;have aH:=zal t ((w.alloc (.cells #[.bool false,.slice none 0 0,.slice none 0 0] 91)).drewN n);rw [D1] at aH
  go_wp2_with fail
  refine aH.mono ?_;rintro e w3 ⟨rfl,aM⟩;have aQ:Below w.heap.size w w3:=(zac bP n).trans (aM.mono (by simp));have bF:zaf w3 w.heap.size false (.slice none 0 0) (.slice none 0 0):=by
   have h:=zaf.new w false (.slice none 0 0) (.slice none 0 0);exact zaf.below (w:=(w.alloc (.cells #[.bool false,.slice none 0 0,.slice none 0 0] 91)).drewN n) h aM (by simp)
  have aF:=zal b w3;rw [hb,D2] at aF;have bT:(b.toList==[48])=false:=by rw [ByteArray.toList_eq,hb];exact d48
  have bU:(b.toList==[49])=false:=by rw [ByteArray.toList_eq,hb];exact d49
  have bC:b.size=c2.length:=by rw [←hb];simp
  have aN:=Aa bC;have bE:=Aa hb;clear hb ha bC
  go_wp2_with fail
  refine aF.mono ?_;rintro e w4 ⟨rfl,aP⟩;have aV:Below w.heap.size w w4:=Ad aQ aP;have bB:=bF.below aP bF.cells.2.2.2.2.2.2;clear aF;have bV:decide ((600:Int)<max (t.size:Int) (b.size:Int))=false:=by
   have h:=aN.out;have h2:=HLN.out;simp only [decide_eq_false_iff_not]
   omega
  have aL:=zas D1;have aJ:zau b.data.toList=true:=by rw [bE.out];exact zas D2
  have bN:=HLN.out;have bH:b.size≤600:=by have:=aN.out;omega
  have aR:=za2 t w4 aL (by omega);have aW:=fun W:World=>za2 b W aJ (by omega)
  have bJ:t.data.toList.length=t.size:=by simp
  have bM:b.data.toList.length=b.size:=by simp
  have aS:(digs (zaj t.data.toList)).length≤600:=zaK aL (by omega);have aA:(digs (zaj b.data.toList)).length≤600:=zaK aJ (by omega);have bR:=Aa aR;have bS:=Aa aW;have bG:=Aa aS;have bL:=Aa aA;clear aH aR aL aJ aW aS aA bN bH bJ bM
  go_wp2_with fail
  refine bR.out.mono ?_;rintro e w5 ⟨A5,m5,c5,rfl,bA,aO⟩;have aT:=bB.below aO bB.cells.2.2.2.2.2.2;have aZ:Below w.heap.size w w5:=Ad aV aO
  go_wp2_with fail
  refine (bS.out w5).mono ?_;rintro e w6 ⟨A6,m6,c6,rfl,aU,aK⟩;have aE:=aT.below aK aT.cells.2.2.2.2.2.2;have aI:Below w.heap.size w w6:=Ad aZ aK;have aC:Below w6.heap.size w6 (w6.alloc (.cells #[.bool true,.slice A5 m5 c5,.slice A6 m6 c6] 91)):=Ac;have hg:=zeS A5 A6 m5 c5 m6 c6 _ _ (w6.alloc (.cells #[.bool true,.slice A5 m5 c5,.slice A6 m6 c6] 91)) ((hT.later aI).later aC) ((bA.later aK).later aC) (aU.later aC) (by have:=bG.out;rw [bA.len] at this;omega) (by have:=bL.out;rw [aU.len] at this;omega);have HG:=Aa hg;clear hg
  go_wp2_with fail
  refine HG.out.mono ?_;rintro e w8 ⟨A8,m8,c8,rfl,bK,aD⟩;have ho:=zbN A8 m8 c8 _ w8 bK;have bO:=(aE.below aC aE.cells.2.2.2.2.2.2).below aD (by have:=aE.cells.2.2.2.2.2.2;simp;omega);have bD:Below w.heap.size w (w6.alloc (.cells #[.bool true,.slice A5 m5 c5,.slice A6 m6 c6] 91)):=Ad aI aC;have bQ:Below w.heap.size w w8:=Ad bD aD;have bI:zaf w8 w6.heap.size true (.slice A5 m5 c5) (.slice A6 m6 c6):=(zaf.new w6 _ _ _).below aD (by simp);obtain ⟨k0,k1,k2,f0,f1,f2,_⟩:=bO.cells;obtain ⟨x0,x1,x2,_,_,_,_⟩:=bI.cells;rw [bE.out,HGC.out] at ho
  go_wp2_with fail
  refine ho.mono ?_;rintro e w9 ⟨rfl,rfl⟩;have aG:=zap bQ (g:=w.heap.size) (Nat.le_refl _) (.bool false) (.slice none 0 0) (.slice none 0 0);go_wp2
  refine bodyPost_ret (v := .tuple #[.agg #[.bool false,.slice none 0 0,.slice none 0 0],.int .i64 1]) (by simp [results,Tryz.results62,go_sem,k0,k1,k2]) rfl ⟨_,rfl,RatS.zero _ _,aG⟩
theorem zbn (s:ByteArray) (w:World) (hT:Tabs w) (hs:s.size≤4294967296) :
  Calls Tryz.prog 62 #[.string s] w (zax w (zab s.data.toList) (zad s.data.toList)):=by
 have hc:=zmN s (w.alloc (.cells #[.bool false,.slice none 0 0,.slice none 0 0] 91)) hs;have aL:=zjS s.data.toList;unfold zab zad topL negL botL zc3;generalize cutL s.data.toList=C at hc aL ⊢;obtain ⟨c1,c2,c3⟩:=C
 dsimp only at hc aL ⊢
 obtain ⟨t,ht⟩:∃ t:ByteArray,t=⟨(Lib.trimPrefix c1 [45]).toArray⟩:=⟨_,rfl⟩;have aN:Lib.trimPrefix c1 [45]=t.data.toList:=by rw [ht]
 obtain ⟨aC,aG⟩:∃ aC,Lib.hasPrefix c1 [45]=aC:=⟨_,rfl⟩;have aE:∀ (a:ByteArray) (W:World),a.data.toList=c1→Calls Tryz.prog 118 #[.string a,.string ⟨#[45]⟩] W fun e w'=>e = .returned (.tuple #[.string t,.bool aC])∧W=w':=by
  intro a W ha;have h:=Tryz.strings_CutPrefix a ⟨#[45]⟩ W;have aQ:(⟨#[45]⟩:ByteArray).data.toList=[45]:=rfl;rw [aQ,ha,←ht,aG] at h;exact h.mono fun _ _ ⟨x,y⟩=>⟨x,y.symm⟩
 rw [aN,aG];clear ht aN aG;have aP:t.data.toList.length=t.size:=by simp
 have aF:(t.toList==[48])=decide (t.data.toList=[48]):=by rw [ByteArray.toList_eq,Bool.eq_iff_iff];simp
 generalize aD:t.data.toList=td at aP aF ⊢;have hE:∀ x,zbe td c2 aC c3=x→x≠0→Calls Tryz.prog 62 #[.string s] w (zax w ⟨false,0,0⟩ x)→Calls Tryz.prog 62 #[.string s] w (zax w (if zbe td c2 aC c3=0 then ⟨aC,zaj td,if c3=true then zaj c2 else 1⟩ else ⟨false,0,0⟩) (zbe td c2 aC c3)):=by
  intro x hx h0 h;rw [hx,if_neg h0];exact h
 by_cases D1:zaF td=true
 ·by_cases hz:aC=true∧td=[48]
  ·refine hE 1 (by unfold zbe;rw [if_pos (.inr hz)]) (by omega) (zod s t c1 c2 aC c3 w hc aE (by rw [aD];exact D1) (by rw [aF];simpa using hz.2) hz.1)
  ·have hn:(aC && decide (td=[48]))=false:=by
    rw [Bool.eq_false_iff];intro h;simp at h;exact hz h
   have aA:¬ (zaF td=false∨(aC=true∧td=[48])):=by
    rintro (h | h)
    ·rw [D1] at h;cases h
    ·exact hz h
   cases c3
   ·have aJ:=aL rfl
    by_cases hl:600<td.length
    ·refine hE 4 (by unfold zbe;rw [if_neg aA,if_neg (by simp),if_pos (.inl hl)]) (by omega) (zmY s t c1 c2 aC false w hc aE (by rw [aD];exact D1) _ aF hn rfl aJ (.inl (by omega)))
    ·have hv:zbe td c2 aC false=0:=by unfold zbe;rw [if_neg aA,if_neg (by simp),if_neg (by rw [aJ];simp;omega),if_neg (by simp)]
     rw [hv,if_pos rfl];have h:=zmj s t c1 c2 aC false w hc aE (by rw [aD];exact D1) _ aF hn rfl aJ ⟨by omega,by omega⟩;rw [aD] at h
     simpa using h
   ·by_cases D2:zaF c2=true
    ·by_cases h48:c2=[48]
     ·refine hE 1 (by unfold zbe;rw [if_neg aA,if_pos ⟨rfl,.inr (.inl h48)⟩]) (by omega) (znc s t c1 c2 aC true w hc aE (by rw [aD];exact D1) _ aF hn (c2==[49]) rfl D2 (by simpa using h48) rfl)
     ·have aI:(c2==[48])=false:=by simpa using h48
      by_cases h49:c2=[49]
      ·refine hE 1 (by unfold zbe;rw [if_neg aA,if_pos ⟨rfl,.inr (.inr h49)⟩]) (by omega) (zn1 s t c1 c2 aC true w hc aE (by rw [aD];exact D1) _ aF hn rfl D2 aI (by simpa using h49))
      ·have aK:(c2==[49])=false:=by simpa using h49
       have aH:¬ (true=true∧(zaF c2=false∨c2=[48]∨c2=[49])):=by
        rintro ⟨_,h | h | h⟩
        ·rw [D2] at h;cases h
        ·exact h48 h
        ·exact h49 h
       by_cases hl:600<td.length∨600<c2.length
       ·refine hE 4 (by unfold zbe;rw [if_neg aA,if_neg aH,if_pos hl]) (by omega) (zng s t c1 c2 aC true w hc aE (by rw [aD];exact D1) _ aF hn rfl D2 aI aK (by unfold Hid;omega))
       ·by_cases hg:Nat.gcd (zaj td) (zaj c2)=1
        ·have hv:zbe td c2 aC true=0:=by unfold zbe;rw [if_neg aA,if_neg aH,if_neg hl,if_neg (by simp [hg])]
         rw [hv,if_pos rfl];have h:=znA s t c1 c2 aC true w hc aE (by rw [aD];exact D1) _ aF hn hT rfl D2 aI aK (by unfold Hid;omega) (by unfold Hid;rw [aD];simpa using hg);rw [aD] at h
         simpa using h
        ·refine hE 1 (by unfold zbe;rw [if_neg aA,if_neg aH,if_neg hl,if_pos ⟨rfl,hg⟩]) (by omega) (znt s t c1 c2 aC true w hc aE (by rw [aD];exact D1) _ aF hn hT rfl D2 aI aK (by unfold Hid;omega) (by unfold Hid;rw [aD];simpa using hg))
    ·have aM:zaF c2=false:=by simpa using D2
     refine hE 1 (by unfold zbe;rw [if_neg aA,if_pos ⟨rfl,.inl aM⟩]) (by omega) (znQ s t c1 c2 aC true w hc aE (by rw [aD];exact D1) _ aF hn (c2==[48]) (c2==[49]) rfl aM rfl rfl)
 ·have aO:zaF td=false:=by simpa using D1
  refine hE 1 (by unfold zbe;rw [if_pos (.inl aO)]) (by omega) (znb s t c1 c2 aC c3 w hc aE (by rw [aD];exact aO))
end Go.Proofs.YtmkondcdejlhcaaGreatDoor
