/- Contract of read: fractions; all of it. -/
import Derived.Test.YteajibbphcfmeaaGreatDoorXRat1
namespace Go.Proofs.YteajibbphcfmeaaGreatDoor
open Go.RowKit Bn
set_option maxHeartbeats 4000000 in
set_option maxRecDepth 100000 in
theorem zkW (s t:ByteArray) (c1 c2:List UInt8) (neg frac:Bool) (w:World)
  (hc:Calls Tryz.prog 122 #[.string s,.string { data:=#[47] }] (w.alloc (.cells #[.bool false,.slice none 0 0,.slice none 0 0] 91)) fun e w'=>(∃ a b:ByteArray,e = .returned (.tuple #[.string a,.string b,.bool frac])∧a.data.toList=c1∧b.data.toList=c2)∧∃ n,w'=(w.alloc (.cells #[.bool false,.slice none 0 0,.slice none 0 0] 91)).drewN n)
  (hcp:∀ (a:ByteArray) (W:World),a.data.toList=c1→Calls Tryz.prog 123 #[.string a,.string { data:=#[45] }] W fun e w'=>e = .returned (.tuple #[.string t,.bool neg])∧W=w')
  (D1:zaA t.data.toList=true) (zb:Bool) (z:(t.toList==[48])=zb) (hn:(neg && zb)=false) (hT:Tabs w) (hf:frac=true) (D2:zaA c2=true) (d48:(c2==[48])=false) (d49:(c2==[49])=false) (HLN:Hid (t.size≤600∧c2.length≤600)) (HGC:Hid (decide (Nat.gcd (zaj t.data.toList) (zaj c2)=1)=true)) :
  Calls Tryz.prog 63 #[.string s] w (zau w ⟨neg,zaj t.data.toList,zaj c2⟩ 0):=by
 subst hf
 cases neg<;>cases zb<;>(try cases hn)
 ·have bI:Below w.heap.size w (w.alloc (.cells #[.bool false,.slice none 0 0,.slice none 0 0] 91)):=(Below.refl _ _).alloc (Nat.le_refl _) _
  go_enter Tryz.func63,Tryz.ntmps63
  go_wp2_with fail
  refine hc.mono ?_;rintro e w1 ⟨⟨a,b,rfl,ha,hb⟩,n,rfl⟩
  go_wp2_with fail
  refine (hcp a _ ha).mono ?_;rintro e w2 ⟨rfl,rfl⟩;have aF:=zal t ((w.alloc (.cells #[.bool false,.slice none 0 0,.slice none 0 0] 91)).drewN n);rw [D1] at aF
  go_wp2_with fail
  refine aF.mono ?_;rintro e w3 ⟨rfl,aX⟩;have bE:Below w.heap.size w w3:=(zad bI n).trans (aX.mono (by simp));have aR:zaf w3 w.heap.size false (.slice none 0 0) (.slice none 0 0):=by
   have h:=zaf.new w false (.slice none 0 0) (.slice none 0 0);exact zaf.below (w:=(w.alloc (.cells #[.bool false,.slice none 0 0,.slice none 0 0] 91)).drewN n) h aX (by simp)
  have aL:=zal b w3;rw [hb,D2] at aL;have bS:(b.toList==[48])=false:=by rw [ByteArray.toList_eq,hb];exact d48
  have bR:(b.toList==[49])=false:=by rw [ByteArray.toList_eq,hb];exact d49
  have bB:b.size=c2.length:=by rw [←hb];simp
  have aS:=Lib.hid bB;have aO:=Lib.hid hb;clear hb ha bB
  go_wp2_with fail
  refine aL.mono ?_;rintro e w4 ⟨rfl,aU⟩;have aQ:Below w.heap.size w w4:=bE.trans (aU.mono bE.size);have aT:=aR.below aU aR.cells.2.2.2.2.2.2;clear aL;have bT:decide ((600:Int)<max (t.size:Int) (b.size:Int))=false:=by
   have h:=aS.out;have h2:=HLN.out;simp only [decide_eq_false_iff_not]
   omega
  have aN:=zaz D1;have aI:zar b.data.toList=true:=by rw [aO.out];exact zaz D2
  have bN:=HLN.out;have bL:b.size≤600:=by have:=aS.out;omega
  have bA:=zaS t w4 aN (by omega);have bD:=fun W:World=>zaS b W aI (by omega)
  have bO:t.data.toList.length=t.size:=by simp
  have bK:b.data.toList.length=b.size:=by simp
  have aY:(digs (zaj t.data.toList)).length≤600:=zaF aN (by omega);have aC:(digs (zaj b.data.toList)).length≤600:=zaF aI (by omega);have bF:=Lib.hid bA;have bH:=Lib.hid bD;have bM:=Lib.hid aY;have bQ:=Lib.hid aC;clear aF bA aN aI bD aY aC bN bL bO bK
  go_wp2_with fail
  refine bF.out.mono ?_;rintro e w5 ⟨A5,m5,c5,rfl,aJ,bC⟩;have aW:=aT.below bC aT.cells.2.2.2.2.2.2;have aV:Below w.heap.size w w5:=aQ.trans (bC.mono aQ.size)
  go_wp2_with fail
  refine (bH.out w5).mono ?_;rintro e w6 ⟨A6,m6,c6,rfl,aG,aE⟩;have aH:=aW.below aE aW.cells.2.2.2.2.2.2;have aP:Below w.heap.size w w6:=aV.trans (aE.mono aV.size);have aA:Below w6.heap.size w6 (w6.alloc (.cells #[.bool false,.slice A5 m5 c5,.slice A6 m6 c6] 91)):=(Below.refl _ _).alloc (Nat.le_refl _) _;have hg:=zdR A5 A6 m5 c5 m6 c6 _ _ (w6.alloc (.cells #[.bool false,.slice A5 m5 c5,.slice A6 m6 c6] 91)) ((hT.later aP).later aA) ((aJ.later aE).later aA) (aG.later aA) (by have:=bM.out;rw [aJ.len] at this;omega) (by have:=bQ.out;rw [aG.len] at this;omega);have HG:=Lib.hid hg;clear hg
  go_wp2_with fail
  refine HG.out.mono ?_;rintro e w8 ⟨A8,m8,c8,rfl,bJ,aD⟩;have ho:=zbu A8 m8 c8 _ w8 bJ;have aM:=(aH.below aA aH.cells.2.2.2.2.2.2).below aD (by have:=aH.cells.2.2.2.2.2.2;simp;omega);have aZ:Below w.heap.size w (w6.alloc (.cells #[.bool false,.slice A5 m5 c5,.slice A6 m6 c6] 91)):=aP.trans (aA.mono aP.size);have bG:Below w.heap.size w w8:=aZ.trans (aD.mono aZ.size);have bP:zaf w8 w6.heap.size false (.slice A5 m5 c5) (.slice A6 m6 c6):=(zaf.new w6 _ _ _).below aD (by simp);obtain ⟨k0,k1,k2,f0,f1,f2,_⟩:=aM.cells;obtain ⟨x0,x1,x2,_,_,_,_⟩:=bP.cells;rw [aO.out,HGC.out] at ho
  go_wp2_with fail
  refine ho.mono ?_;rintro e w9 ⟨rfl,rfl⟩;have aK:=zan bG (g:=w.heap.size) (Nat.le_refl _) (.bool false) (.slice A5 m5 c5) (.slice A6 m6 c6);go_wp2
  refine bodyPost_ret (v := .tuple #[.agg #[.bool false,.slice A5 m5 c5,.slice A6 m6 c6],.int .i64 0]) (by simp [results,Tryz.results63,go_sem,k0,k1,k2]) rfl ⟨_,rfl,⟨A5,m5,c5,A6,m6,c6,rfl,?_,?_⟩,aK⟩
  ·rw [zah];exact (((aJ.later aE).later aA).later aD).res aM _ _ _
  ·rw [zah]
   have h:=((aG.later aA).later aD).res aM (.bool false) (.slice A5 m5 c5) (.slice A6 m6 c6);rw [aO.out] at h;exact h
 ·have bI:Below w.heap.size w (w.alloc (.cells #[.bool false,.slice none 0 0,.slice none 0 0] 91)):=(Below.refl _ _).alloc (Nat.le_refl _) _
  go_enter Tryz.func63,Tryz.ntmps63
  go_wp2_with fail
  refine hc.mono ?_;rintro e w1 ⟨⟨a,b,rfl,ha,hb⟩,n,rfl⟩
  go_wp2_with fail
  refine (hcp a _ ha).mono ?_;rintro e w2 ⟨rfl,rfl⟩;have aF:=zal t ((w.alloc (.cells #[.bool false,.slice none 0 0,.slice none 0 0] 91)).drewN n);rw [D1] at aF
  go_wp2_with fail
  refine aF.mono ?_;rintro e w3 ⟨rfl,aX⟩;have bE:Below w.heap.size w w3:=(zad bI n).trans (aX.mono (by simp));have aR:zaf w3 w.heap.size false (.slice none 0 0) (.slice none 0 0):=by
   have h:=zaf.new w false (.slice none 0 0) (.slice none 0 0);exact zaf.below (w:=(w.alloc (.cells #[.bool false,.slice none 0 0,.slice none 0 0] 91)).drewN n) h aX (by simp)
  have aL:=zal b w3;rw [hb,D2] at aL;have bS:(b.toList==[48])=false:=by rw [ByteArray.toList_eq,hb];exact d48
  have bR:(b.toList==[49])=false:=by rw [ByteArray.toList_eq,hb];exact d49
  have bB:b.size=c2.length:=by rw [←hb];simp
  have aS:=Lib.hid bB;have aO:=Lib.hid hb;clear hb ha bB
  go_wp2_with fail
  refine aL.mono ?_;rintro e w4 ⟨rfl,aU⟩;have aQ:Below w.heap.size w w4:=bE.trans (aU.mono bE.size);have aT:=aR.below aU aR.cells.2.2.2.2.2.2;clear aL;have bT:decide ((600:Int)<max (t.size:Int) (b.size:Int))=false:=by
   have h:=aS.out;have h2:=HLN.out;simp only [decide_eq_false_iff_not]
   omega
  have aN:=zaz D1;have aI:zar b.data.toList=true:=by rw [aO.out];exact zaz D2
  have bN:=HLN.out;have bL:b.size≤600:=by have:=aS.out;omega
  have bA:=zaS t w4 aN (by omega);have bD:=fun W:World=>zaS b W aI (by omega)
  have bO:t.data.toList.length=t.size:=by simp
  have bK:b.data.toList.length=b.size:=by simp
  have aY:(digs (zaj t.data.toList)).length≤600:=zaF aN (by omega);have aC:(digs (zaj b.data.toList)).length≤600:=zaF aI (by omega);have bF:=Lib.hid bA;have bH:=Lib.hid bD;have bM:=Lib.hid aY;have bQ:=Lib.hid aC;clear aF bA aN aI bD aY aC bN bL bO bK
  go_wp2_with fail
  refine bF.out.mono ?_;rintro e w5 ⟨A5,m5,c5,rfl,aJ,bC⟩;have aW:=aT.below bC aT.cells.2.2.2.2.2.2;have aV:Below w.heap.size w w5:=aQ.trans (bC.mono aQ.size)
  go_wp2_with fail
  refine (bH.out w5).mono ?_;rintro e w6 ⟨A6,m6,c6,rfl,aG,aE⟩;have aH:=aW.below aE aW.cells.2.2.2.2.2.2;have aP:Below w.heap.size w w6:=aV.trans (aE.mono aV.size);have aA:Below w6.heap.size w6 (w6.alloc (.cells #[.bool false,.slice A5 m5 c5,.slice A6 m6 c6] 91)):=(Below.refl _ _).alloc (Nat.le_refl _) _;have hg:=zdR A5 A6 m5 c5 m6 c6 _ _ (w6.alloc (.cells #[.bool false,.slice A5 m5 c5,.slice A6 m6 c6] 91)) ((hT.later aP).later aA) ((aJ.later aE).later aA) (aG.later aA) (by have:=bM.out;rw [aJ.len] at this;omega) (by have:=bQ.out;rw [aG.len] at this;omega);have HG:=Lib.hid hg;clear hg
  go_wp2_with fail
  refine HG.out.mono ?_;rintro e w8 ⟨A8,m8,c8,rfl,bJ,aD⟩;have ho:=zbu A8 m8 c8 _ w8 bJ;have aM:=(aH.below aA aH.cells.2.2.2.2.2.2).below aD (by have:=aH.cells.2.2.2.2.2.2;simp;omega);have aZ:Below w.heap.size w (w6.alloc (.cells #[.bool false,.slice A5 m5 c5,.slice A6 m6 c6] 91)):=aP.trans (aA.mono aP.size);have bG:Below w.heap.size w w8:=aZ.trans (aD.mono aZ.size);have bP:zaf w8 w6.heap.size false (.slice A5 m5 c5) (.slice A6 m6 c6):=(zaf.new w6 _ _ _).below aD (by simp);obtain ⟨k0,k1,k2,f0,f1,f2,_⟩:=aM.cells;obtain ⟨x0,x1,x2,_,_,_,_⟩:=bP.cells;rw [aO.out,HGC.out] at ho
  go_wp2_with fail
  refine ho.mono ?_;rintro e w9 ⟨rfl,rfl⟩;have aK:=zan bG (g:=w.heap.size) (Nat.le_refl _) (.bool false) (.slice A5 m5 c5) (.slice A6 m6 c6);go_wp2
  refine bodyPost_ret (v := .tuple #[.agg #[.bool false,.slice A5 m5 c5,.slice A6 m6 c6],.int .i64 0]) (by simp [results,Tryz.results63,go_sem,k0,k1,k2]) rfl ⟨_,rfl,⟨A5,m5,c5,A6,m6,c6,rfl,?_,?_⟩,aK⟩
  ·rw [zah];exact (((aJ.later aE).later aA).later aD).res aM _ _ _
  ·rw [zah]
   have h:=((aG.later aA).later aD).res aM (.bool false) (.slice A5 m5 c5) (.slice A6 m6 c6);rw [aO.out] at h;exact h
 ·have bI:Below w.heap.size w (w.alloc (.cells #[.bool false,.slice none 0 0,.slice none 0 0] 91)):=(Below.refl _ _).alloc (Nat.le_refl _) _
  go_enter Tryz.func63,Tryz.ntmps63
  go_wp2_with fail
  refine hc.mono ?_;rintro e w1 ⟨⟨a,b,rfl,ha,hb⟩,n,rfl⟩
  go_wp2_with fail
  refine (hcp a _ ha).mono ?_;rintro e w2 ⟨rfl,rfl⟩;have aF:=zal t ((w.alloc (.cells #[.bool false,.slice none 0 0,.slice none 0 0] 91)).drewN n);rw [D1] at aF
  go_wp2_with fail
  refine aF.mono ?_;rintro e w3 ⟨rfl,aX⟩;have bE:Below w.heap.size w w3:=(zad bI n).trans (aX.mono (by simp));have aR:zaf w3 w.heap.size false (.slice none 0 0) (.slice none 0 0):=by
   have h:=zaf.new w false (.slice none 0 0) (.slice none 0 0);exact zaf.below (w:=(w.alloc (.cells #[.bool false,.slice none 0 0,.slice none 0 0] 91)).drewN n) h aX (by simp)
  have aL:=zal b w3;rw [hb,D2] at aL;have bS:(b.toList==[48])=false:=by rw [ByteArray.toList_eq,hb];exact d48
  have bR:(b.toList==[49])=false:=by rw [ByteArray.toList_eq,hb];exact d49
  have bB:b.size=c2.length:=by rw [←hb];simp
  have aS:=Lib.hid bB;have aO:=Lib.hid hb;clear hb ha bB
  go_wp2_with fail
  refine aL.mono ?_;rintro e w4 ⟨rfl,aU⟩;have aQ:Below w.heap.size w w4:=bE.trans (aU.mono bE.size);have aT:=aR.below aU aR.cells.2.2.2.2.2.2;clear aL;have bT:decide ((600:Int)<max (t.size:Int) (b.size:Int))=false:=by
   have h:=aS.out;have h2:=HLN.out;simp only [decide_eq_false_iff_not]
   omega
  have aN:=zaz D1;have aI:zar b.data.toList=true:=by rw [aO.out];exact zaz D2
  have bN:=HLN.out;have bL:b.size≤600:=by have:=aS.out;omega
  have bA:=zaS t w4 aN (by omega);have bD:=fun W:World=>zaS b W aI (by omega)
  have bO:t.data.toList.length=t.size:=by simp
  have bK:b.data.toList.length=b.size:=by simp
  have aY:(digs (zaj t.data.toList)).length≤600:=zaF aN (by omega);have aC:(digs (zaj b.data.toList)).length≤600:=zaF aI (by omega);have bF:=Lib.hid bA;have bH:=Lib.hid bD;have bM:=Lib.hid aY;have bQ:=Lib.hid aC;clear aF bA aN aI bD aY aC bN bL bO bK
  go_wp2_with fail
  refine bF.out.mono ?_;rintro e w5 ⟨A5,m5,c5,rfl,aJ,bC⟩;have aW:=aT.below bC aT.cells.2.2.2.2.2.2;have aV:Below w.heap.size w w5:=aQ.trans (bC.mono aQ.size)
  go_wp2_with fail
  refine (bH.out w5).mono ?_;rintro e w6 ⟨A6,m6,c6,rfl,aG,aE⟩;have aH:=aW.below aE aW.cells.2.2.2.2.2.2;have aP:Below w.heap.size w w6:=aV.trans (aE.mono aV.size);have aA:Below w6.heap.size w6 (w6.alloc (.cells #[.bool true,.slice A5 m5 c5,.slice A6 m6 c6] 91)):=(Below.refl _ _).alloc (Nat.le_refl _) _;have hg:=zdR A5 A6 m5 c5 m6 c6 _ _ (w6.alloc (.cells #[.bool true,.slice A5 m5 c5,.slice A6 m6 c6] 91)) ((hT.later aP).later aA) ((aJ.later aE).later aA) (aG.later aA) (by have:=bM.out;rw [aJ.len] at this;omega) (by have:=bQ.out;rw [aG.len] at this;omega);have HG:=Lib.hid hg;clear hg
  go_wp2_with fail
  refine HG.out.mono ?_;rintro e w8 ⟨A8,m8,c8,rfl,bJ,aD⟩;have ho:=zbu A8 m8 c8 _ w8 bJ;have aM:=(aH.below aA aH.cells.2.2.2.2.2.2).below aD (by have:=aH.cells.2.2.2.2.2.2;simp;omega);have aZ:Below w.heap.size w (w6.alloc (.cells #[.bool true,.slice A5 m5 c5,.slice A6 m6 c6] 91)):=aP.trans (aA.mono aP.size);have bG:Below w.heap.size w w8:=aZ.trans (aD.mono aZ.size);have bP:zaf w8 w6.heap.size true (.slice A5 m5 c5) (.slice A6 m6 c6):=(zaf.new w6 _ _ _).below aD (by simp);obtain ⟨k0,k1,k2,f0,f1,f2,_⟩:=aM.cells;obtain ⟨x0,x1,x2,_,_,_,_⟩:=bP.cells;rw [aO.out,HGC.out] at ho
  go_wp2_with fail
  refine ho.mono ?_;rintro e w9 ⟨rfl,rfl⟩;have aK:=zan bG (g:=w.heap.size) (Nat.le_refl _) (.bool true) (.slice A5 m5 c5) (.slice A6 m6 c6);go_wp2
  refine bodyPost_ret (v := .tuple #[.agg #[.bool true,.slice A5 m5 c5,.slice A6 m6 c6],.int .i64 0]) (by simp [results,Tryz.results63,go_sem,k0,k1,k2]) rfl ⟨_,rfl,⟨A5,m5,c5,A6,m6,c6,rfl,?_,?_⟩,aK⟩
  ·rw [zah];exact (((aJ.later aE).later aA).later aD).res aM _ _ _
  ·rw [zah]
   have h:=((aG.later aA).later aD).res aM (.bool true) (.slice A5 m5 c5) (.slice A6 m6 c6);rw [aO.out] at h;exact h
set_option maxHeartbeats 4000000 in
set_option maxRecDepth 100000 in
theorem zlz (s t:ByteArray) (c1 c2:List UInt8) (neg frac:Bool) (w:World)
  (hc:Calls Tryz.prog 122 #[.string s,.string { data:=#[47] }] (w.alloc (.cells #[.bool false,.slice none 0 0,.slice none 0 0] 91)) fun e w'=>(∃ a b:ByteArray,e = .returned (.tuple #[.string a,.string b,.bool frac])∧a.data.toList=c1∧b.data.toList=c2)∧∃ n,w'=(w.alloc (.cells #[.bool false,.slice none 0 0,.slice none 0 0] 91)).drewN n)
  (hcp:∀ (a:ByteArray) (W:World),a.data.toList=c1→Calls Tryz.prog 123 #[.string a,.string { data:=#[45] }] W fun e w'=>e = .returned (.tuple #[.string t,.bool neg])∧W=w')
  (D1:zaA t.data.toList=true) (zb:Bool) (z:(t.toList==[48])=zb) (hn:(neg && zb)=false) (hT:Tabs w) (hf:frac=true) (D2:zaA c2=true) (d48:(c2==[48])=false) (d49:(c2==[49])=false) (HLN:Hid (t.size≤600∧c2.length≤600)) (HGC:Hid (decide (Nat.gcd (zaj t.data.toList) (zaj c2)=1)=false)) :
  Calls Tryz.prog 63 #[.string s] w (zau w ⟨false,0,0⟩ 1):=by
 subst hf
 cases neg<;>cases zb<;>(try cases hn)
 ·have bH:Below w.heap.size w (w.alloc (.cells #[.bool false,.slice none 0 0,.slice none 0 0] 91)):=(Below.refl _ _).alloc (Nat.le_refl _) _
  go_enter Tryz.func63,Tryz.ntmps63
  go_wp2_with fail
  refine hc.mono ?_;rintro e w1 ⟨⟨a,b,rfl,ha,hb⟩,n,rfl⟩
  go_wp2_with fail
  refine (hcp a _ ha).mono ?_;rintro e w2 ⟨rfl,rfl⟩;have aD:=zal t ((w.alloc (.cells #[.bool false,.slice none 0 0,.slice none 0 0] 91)).drewN n);rw [D1] at aD
  go_wp2_with fail
  refine aD.mono ?_;rintro e w3 ⟨rfl,aV⟩;have bD:Below w.heap.size w w3:=(zad bH n).trans (aV.mono (by simp));have aO:zaf w3 w.heap.size false (.slice none 0 0) (.slice none 0 0):=by
   have h:=zaf.new w false (.slice none 0 0) (.slice none 0 0);exact zaf.below (w:=(w.alloc (.cells #[.bool false,.slice none 0 0,.slice none 0 0] 91)).drewN n) h aV (by simp)
  have aJ:=zal b w3;rw [hb,D2] at aJ;have bS:(b.toList==[48])=false:=by rw [ByteArray.toList_eq,hb];exact d48
  have bR:(b.toList==[49])=false:=by rw [ByteArray.toList_eq,hb];exact d49
  have aZ:b.size=c2.length:=by rw [←hb];simp
  have aP:=Lib.hid aZ;have bA:=Lib.hid hb;clear hb ha aZ
  go_wp2_with fail
  refine aJ.mono ?_;rintro e w4 ⟨rfl,aR⟩;have aM:Below w.heap.size w w4:=bD.trans (aR.mono bD.size);have aQ:=aO.below aR aO.cells.2.2.2.2.2.2;clear aJ;have bT:decide ((600:Int)<max (t.size:Int) (b.size:Int))=false:=by
   have h:=aP.out;have h2:=HLN.out;simp only [decide_eq_false_iff_not]
   omega
  have aK:=zaz D1;have aF:zar b.data.toList=true:=by rw [bA.out];exact zaz D2
  have bM:=HLN.out;have bK:b.size≤600:=by have:=aP.out;omega
  have aY:=zaS t w4 aK (by omega);have bC:=fun W:World=>zaS b W aF (by omega)
  have bN:t.data.toList.length=t.size:=by simp
  have bJ:b.data.toList.length=b.size:=by simp
  have aW:(digs (zaj t.data.toList)).length≤600:=zaF aK (by omega);have aA:(digs (zaj b.data.toList)).length≤600:=zaF aF (by omega);have bE:=Lib.hid aY;have bG:=Lib.hid bC;have bL:=Lib.hid aW;have bQ:=Lib.hid aA;clear aD aY aK aF bC aW aA bM bK bN bJ
  go_wp2_with fail
  refine bE.out.mono ?_;rintro e w5 ⟨A5,m5,c5,rfl,aS,bB⟩;have aU:=aQ.below bB aQ.cells.2.2.2.2.2.2;have aT:Below w.heap.size w w5:=aM.trans (bB.mono aM.size)
  go_wp2_with fail
  refine (bG.out w5).mono ?_;rintro e w6 ⟨A6,m6,c6,rfl,aN,aG⟩;have aE:=aU.below aG aU.cells.2.2.2.2.2.2;have aL:Below w.heap.size w w6:=aT.trans (aG.mono aT.size);have aC:Below w6.heap.size w6 (w6.alloc (.cells #[.bool false,.slice A5 m5 c5,.slice A6 m6 c6] 91)):=(Below.refl _ _).alloc (Nat.le_refl _) _;have hg:=zdR A5 A6 m5 c5 m6 c6 _ _ (w6.alloc (.cells #[.bool false,.slice A5 m5 c5,.slice A6 m6 c6] 91)) ((hT.later aL).later aC) ((aS.later aG).later aC) (aN.later aC) (by have:=bL.out;rw [aS.len] at this;omega) (by have:=bQ.out;rw [aN.len] at this;omega);have HG:=Lib.hid hg;clear hg
  go_wp2_with fail
  refine HG.out.mono ?_;rintro e w8 ⟨A8,m8,c8,rfl,bI,aH⟩;have ho:=zbu A8 m8 c8 _ w8 bI;have bO:=(aE.below aC aE.cells.2.2.2.2.2.2).below aH (by have:=aE.cells.2.2.2.2.2.2;simp;omega);have aX:Below w.heap.size w (w6.alloc (.cells #[.bool false,.slice A5 m5 c5,.slice A6 m6 c6] 91)):=aL.trans (aC.mono aL.size);have bF:Below w.heap.size w w8:=aX.trans (aH.mono aX.size);have bP:zaf w8 w6.heap.size false (.slice A5 m5 c5) (.slice A6 m6 c6):=(zaf.new w6 _ _ _).below aH (by simp);obtain ⟨k0,k1,k2,f0,f1,f2,_⟩:=bO.cells;obtain ⟨x0,x1,x2,_,_,_,_⟩:=bP.cells;rw [bA.out,HGC.out] at ho
  go_wp2_with fail
  refine ho.mono ?_;rintro e w9 ⟨rfl,rfl⟩;have aI:=zan bF (g:=w.heap.size) (Nat.le_refl _) (.bool false) (.slice none 0 0) (.slice none 0 0);go_wp2
  refine bodyPost_ret (v := .tuple #[.agg #[.bool false,.slice none 0 0,.slice none 0 0],.int .i64 1]) (by simp [results,Tryz.results63,go_sem,k0,k1,k2]) rfl ⟨_,rfl,RatS.zero _ _,aI⟩
 ·have bH:Below w.heap.size w (w.alloc (.cells #[.bool false,.slice none 0 0,.slice none 0 0] 91)):=(Below.refl _ _).alloc (Nat.le_refl _) _
  go_enter Tryz.func63,Tryz.ntmps63
  go_wp2_with fail
  refine hc.mono ?_;rintro e w1 ⟨⟨a,b,rfl,ha,hb⟩,n,rfl⟩
  go_wp2_with fail
  refine (hcp a _ ha).mono ?_;rintro e w2 ⟨rfl,rfl⟩;have aD:=zal t ((w.alloc (.cells #[.bool false,.slice none 0 0,.slice none 0 0] 91)).drewN n);rw [D1] at aD
  go_wp2_with fail
  refine aD.mono ?_;rintro e w3 ⟨rfl,aV⟩;have bD:Below w.heap.size w w3:=(zad bH n).trans (aV.mono (by simp));have aO:zaf w3 w.heap.size false (.slice none 0 0) (.slice none 0 0):=by
   have h:=zaf.new w false (.slice none 0 0) (.slice none 0 0);exact zaf.below (w:=(w.alloc (.cells #[.bool false,.slice none 0 0,.slice none 0 0] 91)).drewN n) h aV (by simp)
  have aJ:=zal b w3;rw [hb,D2] at aJ;have bS:(b.toList==[48])=false:=by rw [ByteArray.toList_eq,hb];exact d48
  have bR:(b.toList==[49])=false:=by rw [ByteArray.toList_eq,hb];exact d49
  have aZ:b.size=c2.length:=by rw [←hb];simp
  have aP:=Lib.hid aZ;have bA:=Lib.hid hb;clear hb ha aZ
  go_wp2_with fail
  refine aJ.mono ?_;rintro e w4 ⟨rfl,aR⟩;have aM:Below w.heap.size w w4:=bD.trans (aR.mono bD.size);have aQ:=aO.below aR aO.cells.2.2.2.2.2.2;clear aJ;have bT:decide ((600:Int)<max (t.size:Int) (b.size:Int))=false:=by
   have h:=aP.out;have h2:=HLN.out;simp only [decide_eq_false_iff_not]
   omega
  have aK:=zaz D1;have aF:zar b.data.toList=true:=by rw [bA.out];exact zaz D2
  have bM:=HLN.out;have bK:b.size≤600:=by have:=aP.out;omega
  have aY:=zaS t w4 aK (by omega);have bC:=fun W:World=>zaS b W aF (by omega)
  have bN:t.data.toList.length=t.size:=by simp
  have bJ:b.data.toList.length=b.size:=by simp
  have aW:(digs (zaj t.data.toList)).length≤600:=zaF aK (by omega);have aA:(digs (zaj b.data.toList)).length≤600:=zaF aF (by omega);have bE:=Lib.hid aY;have bG:=Lib.hid bC;have bL:=Lib.hid aW;have bQ:=Lib.hid aA;clear aD aY aK aF bC aW aA bM bK bN bJ
  go_wp2_with fail
  refine bE.out.mono ?_;rintro e w5 ⟨A5,m5,c5,rfl,aS,bB⟩;have aU:=aQ.below bB aQ.cells.2.2.2.2.2.2;have aT:Below w.heap.size w w5:=aM.trans (bB.mono aM.size)
  go_wp2_with fail
  refine (bG.out w5).mono ?_;rintro e w6 ⟨A6,m6,c6,rfl,aN,aG⟩;have aE:=aU.below aG aU.cells.2.2.2.2.2.2;have aL:Below w.heap.size w w6:=aT.trans (aG.mono aT.size);have aC:Below w6.heap.size w6 (w6.alloc (.cells #[.bool false,.slice A5 m5 c5,.slice A6 m6 c6] 91)):=(Below.refl _ _).alloc (Nat.le_refl _) _;have hg:=zdR A5 A6 m5 c5 m6 c6 _ _ (w6.alloc (.cells #[.bool false,.slice A5 m5 c5,.slice A6 m6 c6] 91)) ((hT.later aL).later aC) ((aS.later aG).later aC) (aN.later aC) (by have:=bL.out;rw [aS.len] at this;omega) (by have:=bQ.out;rw [aN.len] at this;omega);have HG:=Lib.hid hg;clear hg
  go_wp2_with fail
  refine HG.out.mono ?_;rintro e w8 ⟨A8,m8,c8,rfl,bI,aH⟩;have ho:=zbu A8 m8 c8 _ w8 bI;have bO:=(aE.below aC aE.cells.2.2.2.2.2.2).below aH (by have:=aE.cells.2.2.2.2.2.2;simp;omega);have aX:Below w.heap.size w (w6.alloc (.cells #[.bool false,.slice A5 m5 c5,.slice A6 m6 c6] 91)):=aL.trans (aC.mono aL.size);have bF:Below w.heap.size w w8:=aX.trans (aH.mono aX.size);have bP:zaf w8 w6.heap.size false (.slice A5 m5 c5) (.slice A6 m6 c6):=(zaf.new w6 _ _ _).below aH (by simp);obtain ⟨k0,k1,k2,f0,f1,f2,_⟩:=bO.cells;obtain ⟨x0,x1,x2,_,_,_,_⟩:=bP.cells;rw [bA.out,HGC.out] at ho
  go_wp2_with fail
  refine ho.mono ?_;rintro e w9 ⟨rfl,rfl⟩;have aI:=zan bF (g:=w.heap.size) (Nat.le_refl _) (.bool false) (.slice none 0 0) (.slice none 0 0);go_wp2
  refine bodyPost_ret (v := .tuple #[.agg #[.bool false,.slice none 0 0,.slice none 0 0],.int .i64 1]) (by simp [results,Tryz.results63,go_sem,k0,k1,k2]) rfl ⟨_,rfl,RatS.zero _ _,aI⟩
 ·have bH:Below w.heap.size w (w.alloc (.cells #[.bool false,.slice none 0 0,.slice none 0 0] 91)):=(Below.refl _ _).alloc (Nat.le_refl _) _
  go_enter Tryz.func63,Tryz.ntmps63
  go_wp2_with fail
  refine hc.mono ?_;rintro e w1 ⟨⟨a,b,rfl,ha,hb⟩,n,rfl⟩
  go_wp2_with fail
  refine (hcp a _ ha).mono ?_;rintro e w2 ⟨rfl,rfl⟩;have aD:=zal t ((w.alloc (.cells #[.bool false,.slice none 0 0,.slice none 0 0] 91)).drewN n);rw [D1] at aD
  go_wp2_with fail
  refine aD.mono ?_;rintro e w3 ⟨rfl,aV⟩;have bD:Below w.heap.size w w3:=(zad bH n).trans (aV.mono (by simp));have aO:zaf w3 w.heap.size false (.slice none 0 0) (.slice none 0 0):=by
   have h:=zaf.new w false (.slice none 0 0) (.slice none 0 0);exact zaf.below (w:=(w.alloc (.cells #[.bool false,.slice none 0 0,.slice none 0 0] 91)).drewN n) h aV (by simp)
  have aJ:=zal b w3;rw [hb,D2] at aJ;have bS:(b.toList==[48])=false:=by rw [ByteArray.toList_eq,hb];exact d48
  have bR:(b.toList==[49])=false:=by rw [ByteArray.toList_eq,hb];exact d49
  have aZ:b.size=c2.length:=by rw [←hb];simp
  have aP:=Lib.hid aZ;have bA:=Lib.hid hb;clear hb ha aZ
  go_wp2_with fail
  refine aJ.mono ?_;rintro e w4 ⟨rfl,aR⟩;have aM:Below w.heap.size w w4:=bD.trans (aR.mono bD.size);have aQ:=aO.below aR aO.cells.2.2.2.2.2.2;clear aJ;have bT:decide ((600:Int)<max (t.size:Int) (b.size:Int))=false:=by
   have h:=aP.out;have h2:=HLN.out;simp only [decide_eq_false_iff_not]
   omega
  have aK:=zaz D1;have aF:zar b.data.toList=true:=by rw [bA.out];exact zaz D2
  have bM:=HLN.out;have bK:b.size≤600:=by have:=aP.out;omega
  have aY:=zaS t w4 aK (by omega);have bC:=fun W:World=>zaS b W aF (by omega)
  have bN:t.data.toList.length=t.size:=by simp
  have bJ:b.data.toList.length=b.size:=by simp
  have aW:(digs (zaj t.data.toList)).length≤600:=zaF aK (by omega);have aA:(digs (zaj b.data.toList)).length≤600:=zaF aF (by omega);have bE:=Lib.hid aY;have bG:=Lib.hid bC;have bL:=Lib.hid aW;have bQ:=Lib.hid aA;clear aD aY aK aF bC aW aA bM bK bN bJ
  go_wp2_with fail
  refine bE.out.mono ?_;rintro e w5 ⟨A5,m5,c5,rfl,aS,bB⟩;have aU:=aQ.below bB aQ.cells.2.2.2.2.2.2;have aT:Below w.heap.size w w5:=aM.trans (bB.mono aM.size)
  go_wp2_with fail
  refine (bG.out w5).mono ?_;rintro e w6 ⟨A6,m6,c6,rfl,aN,aG⟩;have aE:=aU.below aG aU.cells.2.2.2.2.2.2;have aL:Below w.heap.size w w6:=aT.trans (aG.mono aT.size);have aC:Below w6.heap.size w6 (w6.alloc (.cells #[.bool true,.slice A5 m5 c5,.slice A6 m6 c6] 91)):=(Below.refl _ _).alloc (Nat.le_refl _) _;have hg:=zdR A5 A6 m5 c5 m6 c6 _ _ (w6.alloc (.cells #[.bool true,.slice A5 m5 c5,.slice A6 m6 c6] 91)) ((hT.later aL).later aC) ((aS.later aG).later aC) (aN.later aC) (by have:=bL.out;rw [aS.len] at this;omega) (by have:=bQ.out;rw [aN.len] at this;omega);have HG:=Lib.hid hg;clear hg
  go_wp2_with fail
  refine HG.out.mono ?_;rintro e w8 ⟨A8,m8,c8,rfl,bI,aH⟩;have ho:=zbu A8 m8 c8 _ w8 bI;have bO:=(aE.below aC aE.cells.2.2.2.2.2.2).below aH (by have:=aE.cells.2.2.2.2.2.2;simp;omega);have aX:Below w.heap.size w (w6.alloc (.cells #[.bool true,.slice A5 m5 c5,.slice A6 m6 c6] 91)):=aL.trans (aC.mono aL.size);have bF:Below w.heap.size w w8:=aX.trans (aH.mono aX.size);have bP:zaf w8 w6.heap.size true (.slice A5 m5 c5) (.slice A6 m6 c6):=(zaf.new w6 _ _ _).below aH (by simp);obtain ⟨k0,k1,k2,f0,f1,f2,_⟩:=bO.cells;obtain ⟨x0,x1,x2,_,_,_,_⟩:=bP.cells;rw [bA.out,HGC.out] at ho
  go_wp2_with fail
  refine ho.mono ?_;rintro e w9 ⟨rfl,rfl⟩;have aI:=zan bF (g:=w.heap.size) (Nat.le_refl _) (.bool false) (.slice none 0 0) (.slice none 0 0);go_wp2
  refine bodyPost_ret (v := .tuple #[.agg #[.bool false,.slice none 0 0,.slice none 0 0],.int .i64 1]) (by simp [results,Tryz.results63,go_sem,k0,k1,k2]) rfl ⟨_,rfl,RatS.zero _ _,aI⟩
set_option maxHeartbeats 1000000 in
theorem zbj (s:ByteArray) (w:World) (hT:Tabs w) (hs:s.size≤4294967296) :
  Calls Tryz.prog 63 #[.string s] w (zau w (zab s.data.toList) (zae s.data.toList)):=by
 have hc:=zl3 s (w.alloc (.cells #[.bool false,.slice none 0 0,.slice none 0 0] 91)) hs;have aK:=zh3 s.data.toList;unfold zab zae topL negL botL zex;generalize cutL s.data.toList=C at hc aK ⊢;obtain ⟨c1,c2,c3⟩:=C
 dsimp only at hc aK ⊢
 obtain ⟨t,ht⟩:∃ t:ByteArray,t=⟨(Lib.trimPrefix c1 [45]).toArray⟩:=⟨_,rfl⟩;have aN:Lib.trimPrefix c1 [45]=t.data.toList:=by rw [ht]
 obtain ⟨aC,aG⟩:∃ aC,Lib.hasPrefix c1 [45]=aC:=⟨_,rfl⟩;have aF:∀ (a:ByteArray) (W:World),a.data.toList=c1→Calls Tryz.prog 123 #[.string a,.string { data:=#[45] }] W fun e w'=>e = .returned (.tuple #[.string t,.bool aC])∧W=w':=by
  intro a W ha;have h:=Tryz.strings_CutPrefix a ⟨#[45]⟩ W;have aP:(⟨#[45]⟩:ByteArray).data.toList=[45]:=rfl;rw [aP,ha,←ht,aG] at h;exact h.mono fun _ _ ⟨x,y⟩=>⟨x,y.symm⟩
 rw [aN,aG];clear ht aN aG;have aQ:t.data.toList.length=t.size:=by simp
 have aE:(t.toList==[48])=decide (t.data.toList=[48]):=by rw [ByteArray.toList_eq,Bool.eq_iff_iff];simp
 generalize aD:t.data.toList=td at aQ aE ⊢;have hE:∀ x,zbg td c2 aC c3=x→x≠0→Calls Tryz.prog 63 #[.string s] w (zau w ⟨false,0,0⟩ x)→Calls Tryz.prog 63 #[.string s] w (zau w (if zbg td c2 aC c3=0 then ⟨aC,zaj td,if c3=true then zaj c2 else 1⟩ else ⟨false,0,0⟩) (zbg td c2 aC c3)):=by
  intro x hx h0 h;rw [hx,if_neg h0];exact h
 by_cases D1:zaA td=true
 ·by_cases hz:aC=true∧td=[48]
  ·refine hE 1 (by unfold zbg;rw [if_pos (.inr hz)]) (by omega) (zlC s t c1 c2 aC c3 w hc aF (by rw [aD];exact D1) (by rw [aE];simpa using hz.2) hz.1)
  ·have hn:(aC && decide (td=[48]))=false:=by
    rw [Bool.eq_false_iff];intro h;simp at h;exact hz h
   have aA:¬ (zaA td=false∨(aC=true∧td=[48])):=by
    rintro (h | h)
    ·rw [D1] at h;cases h
    ·exact hz h
   cases c3
   ·have aL:=aK rfl
    by_cases hl:600<td.length
    ·refine hE 4 (by unfold zbg;rw [if_neg aA,if_neg (by simp),if_pos (.inl hl)]) (by omega) (zlk s t c1 c2 aC false w hc aF (by rw [aD];exact D1) _ aE hn rfl aL (.inl (by omega)))
    ·have hv:zbg td c2 aC false=0:=by unfold zbg;rw [if_neg aA,if_neg (by simp),if_neg (by rw [aL];simp;omega),if_neg (by simp)]
     rw [hv,if_pos rfl];have h:=zjz s t c1 c2 aC false w hc aF (by rw [aD];exact D1) _ aE hn rfl aL ⟨by omega,by omega⟩;rw [aD] at h
     simpa using h
   ·by_cases D2:zaA c2=true
    ·by_cases h48:c2=[48]
     ·refine hE 1 (by unfold zbg;rw [if_neg aA,if_pos ⟨rfl,.inr (.inl h48)⟩]) (by omega) (zkQ s t c1 c2 aC true w hc aF (by rw [aD];exact D1) _ aE hn (c2==[49]) rfl D2 (by simpa using h48) rfl)
     ·have aI:(c2==[48])=false:=by simpa using h48
      by_cases h49:c2=[49]
      ·refine hE 1 (by unfold zbg;rw [if_neg aA,if_pos ⟨rfl,.inr (.inr h49)⟩]) (by omega) (zlU s t c1 c2 aC true w hc aF (by rw [aD];exact D1) _ aE hn rfl D2 aI (by simpa using h49))
      ·have aJ:(c2==[49])=false:=by simpa using h49
       have aH:¬ (true=true∧(zaA c2=false∨c2=[48]∨c2=[49])):=by
        rintro ⟨_,h | h | h⟩
        ·rw [D2] at h;cases h
        ·exact h48 h
        ·exact h49 h
       by_cases hl:600<td.length∨600<c2.length
       ·refine hE 4 (by unfold zbg;rw [if_neg aA,if_neg aH,if_pos hl]) (by omega) (zks s t c1 c2 aC true w hc aF (by rw [aD];exact D1) _ aE hn rfl D2 aI aJ (by unfold Hid;omega))
       ·by_cases hg:Nat.gcd (zaj td) (zaj c2)=1
        ·have hv:zbg td c2 aC true=0:=by unfold zbg;rw [if_neg aA,if_neg aH,if_neg hl,if_neg (by simp [hg])]
         rw [hv,if_pos rfl];have h:=zkW s t c1 c2 aC true w hc aF (by rw [aD];exact D1) _ aE hn hT rfl D2 aI aJ (by unfold Hid;omega) (by unfold Hid;rw [aD];simpa using hg);rw [aD] at h
         simpa using h
        ·refine hE 1 (by unfold zbg;rw [if_neg aA,if_neg aH,if_neg hl,if_pos ⟨rfl,hg⟩]) (by omega) (zlz s t c1 c2 aC true w hc aF (by rw [aD];exact D1) _ aE hn hT rfl D2 aI aJ (by unfold Hid;omega) (by unfold Hid;rw [aD];simpa using hg))
    ·have aO:zaA c2=false:=by simpa using D2
     refine hE 1 (by unfold zbg;rw [if_neg aA,if_pos ⟨rfl,.inl aO⟩]) (by omega) (zkh s t c1 c2 aC true w hc aF (by rw [aD];exact D1) _ aE hn (c2==[48]) (c2==[49]) rfl aO rfl rfl)
 ·have aM:zaA td=false:=by simpa using D1
  refine hE 1 (by unfold zbg;rw [if_pos (.inl aM)]) (by omega) (zky s t c1 c2 aC c3 w hc aF (by rw [aD];exact aM))
end Go.Proofs.YteajibbphcfmeaaGreatDoor
