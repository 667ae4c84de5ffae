/- Contract of read: fractions; all of it. -/
import Derived.Test.YtbkgkoenppkhpaaGreatDoorGRead
import Derived.Test.YtbkgkoenppkhpaaGreatDoorGWords
import Derived.Test.YtbkgkoenppkhpaaGreatDoorGRat1
set_option maxRecDepth 100000
set_option maxHeartbeats 4000000
namespace Go.Proofs.YtbkgkoenppkhpaaGreatDoor
section
open Go.RowKit Bn
theorem zlO (s t:ByteArray) (c1 c2:List UInt8) (neg frac:Bool) (w:World)
  (hc:Calls Tryz.prog 123 #[.string s,.string ⟨#[47]⟩] (w.alloc (.cells #[.bool false,.slice none 0 0,.slice none 0 0] 87)) fun e w'=>(∃ a b:ByteArray,e = .returned (.tuple #[.string a,.string b,.bool frac])∧a.data.toList=c1∧b.data.toList=c2)∧∃ n,w'=(w.alloc (.cells #[.bool false,.slice none 0 0,.slice none 0 0] 87)).drewN n)
  (hcp:∀ (a:ByteArray) (W:World),a.data.toList=c1→Calls Tryz.prog 124 #[.string a,.string ⟨#[45]⟩] W fun e w'=>e = .returned (.tuple #[.string t,.bool neg])∧W=w')
  (D1:zax t.data.toList=true) (zb:Bool) (z:(t.toList==[48])=zb) (hn:(neg && zb)=false) (hT:Tabs w) (hf:frac=true) (D2:zax c2=true) (d48:(c2==[48])=false) (d49:(c2==[49])=false) (HLN:Hid (t.size≤600∧c2.length≤600)) (HGC:Hid (decide (Nat.gcd (zah t.data.toList) (zah c2)=1)=true)) :
  Calls Tryz.prog 59 #[.string s] w (zay w ⟨neg,zah t.data.toList,zah c2⟩ 0):=by
 subst hf
 cases neg<;>cases zb<;>(try cases hn)
 ·have bP:Below w.heap.size w (w.alloc (.cells #[.bool false,.slice none 0 0,.slice none 0 0] 87)):=Ac
  go_enter Tryz.func59,Tryz.ntmps59
  go_wp2_with fail
  refine hc.mono ?_;rintro e w1 ⟨⟨a,b,rfl,ha,hb⟩,n,rfl⟩
  go_wp2_with fail
  refine (hcp a _ ha).mono ?_;rintro e w2 ⟨rfl,rfl⟩;have aO:=zal t ((w.alloc (.cells #[.bool false,.slice none 0 0,.slice none 0 0] 87)).drewN n);rw [D1] at aO
  go_wp2_with fail
  refine aO.mono ?_;rintro e w3 ⟨rfl,aZ⟩;have aX:Below w.heap.size w w3:=(zac bP n).trans (aZ.mono (by simp));have aQ:zae w3 w.heap.size false (.slice none 0 0) (.slice none 0 0):=by
   have h:=zae.new w false (.slice none 0 0) (.slice none 0 0);exact zae.below (w:=(w.alloc (.cells #[.bool false,.slice none 0 0,.slice none 0 0] 87)).drewN n) h aZ (by simp)
  have aN:=zal b w3;rw [hb,D2] at aN;have bS:(b.toList==[48])=false:=by rw [ByteArray.toList_eq,hb];exact d48
  have bR:(b.toList==[49])=false:=by rw [ByteArray.toList_eq,hb];exact d49
  have bC:b.size=c2.length:=by rw [←hb];simp
  have aY:=Aa bC;have aJ:=Aa hb;clear hb ha bC
  go_wp2_with fail
  refine aN.mono ?_;rintro e w4 ⟨rfl,bB⟩;have aS:Below w.heap.size w w4:=Ad aX bB;have bE:=aQ.below bB aQ.cells.2.2.2.2.2.2;clear aN;have bT:decide ((600:Int)<max (t.size:Int) (b.size:Int))=false:=by
   have h:=aY.out;have h2:=HLN.out;simp only [decide_eq_false_iff_not]
   omega
  have aG:=zat D1;have aI:zaq b.data.toList=true:=by rw [aJ.out];exact zat D2
  have bJ:=HLN.out;have bN:b.size≤600:=by have:=aY.out;omega
  have bA:=zaS t w4 aG (by omega);have aU:=fun W:World=>zaS b W aI (by omega)
  have bH:t.data.toList.length=t.size:=by simp
  have bF:b.data.toList.length=b.size:=by simp
  have aR:(digs (zah t.data.toList)).length≤600:=zaH aG (by omega);have aC:(digs (zah b.data.toList)).length≤600:=zaH aI (by omega);have bO:=Aa bA;have bG:=Aa aU;have bI:=Aa aR;have bM:=Aa aC;clear aO bA aG aI aU aR aC bJ bN bH bF
  go_wp2_with fail
  refine bO.out.mono ?_;rintro e w5 ⟨A5,m5,c5,rfl,aP,aV⟩;have aT:=bE.below aV bE.cells.2.2.2.2.2.2;have bD:Below w.heap.size w w5:=Ad aS aV
  go_wp2_with fail
  refine (bG.out w5).mono ?_;rintro e w6 ⟨A6,m6,c6,rfl,aH,aE⟩;have aF:=aT.below aE aT.cells.2.2.2.2.2.2;have aK:Below w.heap.size w w6:=Ad bD aE;have aA:Below w6.heap.size w6 (w6.alloc (.cells #[.bool false,.slice A5 m5 c5,.slice A6 m6 c6] 87)):=Ac;have hg:=zd7 A5 A6 m5 c5 m6 c6 _ _ (w6.alloc (.cells #[.bool false,.slice A5 m5 c5,.slice A6 m6 c6] 87)) ((hT.later aK).later aA) ((aP.later aE).later aA) (aH.later aA) (by have:=bI.out;rw [aP.len] at this;omega) (by have:=bM.out;rw [aH.len] at this;omega);have HG:=Aa hg;clear hg
  go_wp2_with fail
  refine HG.out.mono ?_;rintro e w8 ⟨A8,m8,c8,rfl,bL,aD⟩;have ho:=zbq A8 m8 c8 _ w8 bL;have aM:=(aF.below aA aF.cells.2.2.2.2.2.2).below aD (by have:=aF.cells.2.2.2.2.2.2;simp;omega);have aW:Below w.heap.size w (w6.alloc (.cells #[.bool false,.slice A5 m5 c5,.slice A6 m6 c6] 87)):=Ad aK aA;have bQ:Below w.heap.size w w8:=Ad aW aD;have bK:zae w8 w6.heap.size false (.slice A5 m5 c5) (.slice A6 m6 c6):=(zae.new w6 _ _ _).below aD (by simp);obtain ⟨k0,k1,k2,f0,f1,f2,_⟩:=aM.cells;obtain ⟨x0,x1,x2,_,_,_,_⟩:=bK.cells;rw [aJ.out,HGC.out] at ho
  go_wp2_with fail
  refine ho.mono ?_;rintro e w9 ⟨rfl,rfl⟩;have aL:=zan bQ (g:=w.heap.size) (Nat.le_refl _) (.bool false) (.slice A5 m5 c5) (.slice A6 m6 c6);go_wp2
  refine bodyPost_ret (v := .tuple #[.agg #[.bool false,.slice A5 m5 c5,.slice A6 m6 c6],.int .i64 0]) (by simp [results,Tryz.results59,go_sem,k0,k1,k2]) rfl ⟨_,rfl,⟨A5,m5,c5,A6,m6,c6,rfl,?_,?_⟩,aL⟩
  ·rw [zag];exact (((aP.later aE).later aA).later aD).res aM _ _ _
  ·rw [zag]
   have h:=((aH.later aA).later aD).res aM (.bool false) (.slice A5 m5 c5) (.slice A6 m6 c6);rw [aJ.out] at h;exact h
 ·have bP:Below w.heap.size w (w.alloc (.cells #[.bool false,.slice none 0 0,.slice none 0 0] 87)):=Ac
  go_enter Tryz.func59,Tryz.ntmps59
  go_wp2_with fail
  refine hc.mono ?_;rintro e w1 ⟨⟨a,b,rfl,ha,hb⟩,n,rfl⟩
  go_wp2_with fail
  refine (hcp a _ ha).mono ?_;rintro e w2 ⟨rfl,rfl⟩;have aO:=zal t ((w.alloc (.cells #[.bool false,.slice none 0 0,.slice none 0 0] 87)).drewN n);rw [D1] at aO
  go_wp2_with fail
  refine aO.mono ?_;rintro e w3 ⟨rfl,aZ⟩;have aX:Below w.heap.size w w3:=(zac bP n).trans (aZ.mono (by simp));have aQ:zae w3 w.heap.size false (.slice none 0 0) (.slice none 0 0):=by
   have h:=zae.new w false (.slice none 0 0) (.slice none 0 0);exact zae.below (w:=(w.alloc (.cells #[.bool false,.slice none 0 0,.slice none 0 0] 87)).drewN n) h aZ (by simp)
  have aN:=zal b w3;rw [hb,D2] at aN;have bS:(b.toList==[48])=false:=by rw [ByteArray.toList_eq,hb];exact d48
  have bR:(b.toList==[49])=false:=by rw [ByteArray.toList_eq,hb];exact d49
  have bC:b.size=c2.length:=by rw [←hb];simp
  have aY:=Aa bC;have aJ:=Aa hb;clear hb ha bC
  go_wp2_with fail
  refine aN.mono ?_;rintro e w4 ⟨rfl,bB⟩;have aS:Below w.heap.size w w4:=Ad aX bB;have bE:=aQ.below bB aQ.cells.2.2.2.2.2.2;clear aN;have bT:decide ((600:Int)<max (t.size:Int) (b.size:Int))=false:=by
   have h:=aY.out;have h2:=HLN.out;simp only [decide_eq_false_iff_not]
   omega
  have aG:=zat D1;have aI:zaq b.data.toList=true:=by rw [aJ.out];exact zat D2
  have bJ:=HLN.out;have bN:b.size≤600:=by have:=aY.out;omega
  have bA:=zaS t w4 aG (by omega);have aU:=fun W:World=>zaS b W aI (by omega)
  have bH:t.data.toList.length=t.size:=by simp
  have bF:b.data.toList.length=b.size:=by simp
  have aR:(digs (zah t.data.toList)).length≤600:=zaH aG (by omega);have aC:(digs (zah b.data.toList)).length≤600:=zaH aI (by omega);have bO:=Aa bA;have bG:=Aa aU;have bI:=Aa aR;have bM:=Aa aC;clear aO bA aG aI aU aR aC bJ bN bH bF
  go_wp2_with fail
  refine bO.out.mono ?_;rintro e w5 ⟨A5,m5,c5,rfl,aP,aV⟩;have aT:=bE.below aV bE.cells.2.2.2.2.2.2;have bD:Below w.heap.size w w5:=Ad aS aV
  go_wp2_with fail
  refine (bG.out w5).mono ?_;rintro e w6 ⟨A6,m6,c6,rfl,aH,aE⟩;have aF:=aT.below aE aT.cells.2.2.2.2.2.2;have aK:Below w.heap.size w w6:=Ad bD aE;have aA:Below w6.heap.size w6 (w6.alloc (.cells #[.bool false,.slice A5 m5 c5,.slice A6 m6 c6] 87)):=Ac;have hg:=zd7 A5 A6 m5 c5 m6 c6 _ _ (w6.alloc (.cells #[.bool false,.slice A5 m5 c5,.slice A6 m6 c6] 87)) ((hT.later aK).later aA) ((aP.later aE).later aA) (aH.later aA) (by have:=bI.out;rw [aP.len] at this;omega) (by have:=bM.out;rw [aH.len] at this;omega);have HG:=Aa hg;clear hg
  go_wp2_with fail
  refine HG.out.mono ?_;rintro e w8 ⟨A8,m8,c8,rfl,bL,aD⟩;have ho:=zbq A8 m8 c8 _ w8 bL;have aM:=(aF.below aA aF.cells.2.2.2.2.2.2).below aD (by have:=aF.cells.2.2.2.2.2.2;simp;omega);have aW:Below w.heap.size w (w6.alloc (.cells #[.bool false,.slice A5 m5 c5,.slice A6 m6 c6] 87)):=Ad aK aA;have bQ:Below w.heap.size w w8:=Ad aW aD;have bK:zae w8 w6.heap.size false (.slice A5 m5 c5) (.slice A6 m6 c6):=(zae.new w6 _ _ _).below aD (by simp);obtain ⟨k0,k1,k2,f0,f1,f2,_⟩:=aM.cells;obtain ⟨x0,x1,x2,_,_,_,_⟩:=bK.cells;rw [aJ.out,HGC.out] at ho
  go_wp2_with fail
  refine ho.mono ?_;rintro e w9 ⟨rfl,rfl⟩;have aL:=zan bQ (g:=w.heap.size) (Nat.le_refl _) (.bool false) (.slice A5 m5 c5) (.slice A6 m6 c6);go_wp2
  refine bodyPost_ret (v := .tuple #[.agg #[.bool false,.slice A5 m5 c5,.slice A6 m6 c6],.int .i64 0]) (by simp [results,Tryz.results59,go_sem,k0,k1,k2]) rfl ⟨_,rfl,⟨A5,m5,c5,A6,m6,c6,rfl,?_,?_⟩,aL⟩
  ·rw [zag];exact (((aP.later aE).later aA).later aD).res aM _ _ _
  ·rw [zag]
   have h:=((aH.later aA).later aD).res aM (.bool false) (.slice A5 m5 c5) (.slice A6 m6 c6);rw [aJ.out] at h;exact h
 ·have bP:Below w.heap.size w (w.alloc (.cells #[.bool false,.slice none 0 0,.slice none 0 0] 87)):=Ac
  go_enter Tryz.func59,Tryz.ntmps59
  go_wp2_with fail
  refine hc.mono ?_;rintro e w1 ⟨⟨a,b,rfl,ha,hb⟩,n,rfl⟩
  go_wp2_with fail
  refine (hcp a _ ha).mono ?_;rintro e w2 ⟨rfl,rfl⟩;have aO:=zal t ((w.alloc (.cells #[.bool false,.slice none 0 0,.slice none 0 0] 87)).drewN n);rw [D1] at aO
  go_wp2_with fail
  refine aO.mono ?_;rintro e w3 ⟨rfl,aZ⟩;have aX:Below w.heap.size w w3:=(zac bP n).trans (aZ.mono (by simp));have aQ:zae w3 w.heap.size false (.slice none 0 0) (.slice none 0 0):=by
   have h:=zae.new w false (.slice none 0 0) (.slice none 0 0);exact zae.below (w:=(w.alloc (.cells #[.bool false,.slice none 0 0,.slice none 0 0] 87)).drewN n) h aZ (by simp)
  have aN:=zal b w3;rw [hb,D2] at aN;have bS:(b.toList==[48])=false:=by rw [ByteArray.toList_eq,hb];exact d48
  have bR:(b.toList==[49])=false:=by rw [ByteArray.toList_eq,hb];exact d49
  have bC:b.size=c2.length:=by rw [←hb];simp
  have aY:=Aa bC;have aJ:=Aa hb;clear hb ha bC
  go_wp2_with fail
  refine aN.mono ?_;rintro e w4 ⟨rfl,bB⟩;have aS:Below w.heap.size w w4:=Ad aX bB;have bE:=aQ.below bB aQ.cells.2.2.2.2.2.2;clear aN;have bT:decide ((600:Int)<max (t.size:Int) (b.size:Int))=false:=by
   have h:=aY.out;have h2:=HLN.out;simp only [decide_eq_false_iff_not]
   omega
  have aG:=zat D1;have aI:zaq b.data.toList=true:=by rw [aJ.out];exact zat D2
  have bJ:=HLN.out;have bN:b.size≤600:=by have:=aY.out;omega
  have bA:=zaS t w4 aG (by omega);have aU:=fun W:World=>zaS b W aI (by omega)
  have bH:t.data.toList.length=t.size:=by simp
  have bF:b.data.toList.length=b.size:=by simp
  have aR:(digs (zah t.data.toList)).length≤600:=zaH aG (by omega);have aC:(digs (zah b.data.toList)).length≤600:=zaH aI (by omega);have bO:=Aa bA;have bG:=Aa aU;have bI:=Aa aR;have bM:=Aa aC;clear aO bA aG aI aU aR aC bJ bN bH bF
  go_wp2_with fail
  refine bO.out.mono ?_;rintro e w5 ⟨A5,m5,c5,rfl,aP,aV⟩;have aT:=bE.below aV bE.cells.2.2.2.2.2.2;have bD:Below w.heap.size w w5:=Ad aS aV
  go_wp2_with fail
  refine (bG.out w5).mono ?_;rintro e w6 ⟨A6,m6,c6,rfl,aH,aE⟩;have aF:=aT.below aE aT.cells.2.2.2.2.2.2;have aK:Below w.heap.size w w6:=Ad bD aE;have aA:Below w6.heap.size w6 (w6.alloc (.cells #[.bool true,.slice A5 m5 c5,.slice A6 m6 c6] 87)):=Ac;have hg:=zd7 A5 A6 m5 c5 m6 c6 _ _ (w6.alloc (.cells #[.bool true,.slice A5 m5 c5,.slice A6 m6 c6] 87)) ((hT.later aK).later aA) ((aP.later aE).later aA) (aH.later aA) (by have:=bI.out;rw [aP.len] at this;omega) (by have:=bM.out;rw [aH.len] at this;omega);have HG:=Aa hg;clear hg
  go_wp2_with fail
  refine HG.out.mono ?_;rintro e w8 ⟨A8,m8,c8,rfl,bL,aD⟩;have ho:=zbq A8 m8 c8 _ w8 bL;have aM:=(aF.below aA aF.cells.2.2.2.2.2.2).below aD (by have:=aF.cells.2.2.2.2.2.2;simp;omega);have aW:Below w.heap.size w (w6.alloc (.cells #[.bool true,.slice A5 m5 c5,.slice A6 m6 c6] 87)):=Ad aK aA;have bQ:Below w.heap.size w w8:=Ad aW aD;have bK:zae w8 w6.heap.size true (.slice A5 m5 c5) (.slice A6 m6 c6):=(zae.new w6 _ _ _).below aD (by simp);obtain ⟨k0,k1,k2,f0,f1,f2,_⟩:=aM.cells;obtain ⟨x0,x1,x2,_,_,_,_⟩:=bK.cells;rw [aJ.out,HGC.out] at ho
  go_wp2_with fail
  refine ho.mono ?_;rintro e w9 ⟨rfl,rfl⟩;have aL:=zan bQ (g:=w.heap.size) (Nat.le_refl _) (.bool true) (.slice A5 m5 c5) (.slice A6 m6 c6);go_wp2
  refine bodyPost_ret (v := .tuple #[.agg #[.bool true,.slice A5 m5 c5,.slice A6 m6 c6],.int .i64 0]) (by simp [results,Tryz.results59,go_sem,k0,k1,k2]) rfl ⟨_,rfl,⟨A5,m5,c5,A6,m6,c6,rfl,?_,?_⟩,aL⟩
  ·rw [zag];exact (((aP.later aE).later aA).later aD).res aM _ _ _
  ·rw [zag]
   have h:=((aH.later aA).later aD).res aM (.bool true) (.slice A5 m5 c5) (.slice A6 m6 c6);rw [aJ.out] at h;exact h
theorem zmz (s t:ByteArray) (c1 c2:List UInt8) (neg frac:Bool) (w:World)
  (hc:Calls Tryz.prog 123 #[.string s,.string ⟨#[47]⟩] (w.alloc (.cells #[.bool false,.slice none 0 0,.slice none 0 0] 87)) fun e w'=>(∃ a b:ByteArray,e = .returned (.tuple #[.string a,.string b,.bool frac])∧a.data.toList=c1∧b.data.toList=c2)∧∃ n,w'=(w.alloc (.cells #[.bool false,.slice none 0 0,.slice none 0 0] 87)).drewN n)
  (hcp:∀ (a:ByteArray) (W:World),a.data.toList=c1→Calls Tryz.prog 124 #[.string a,.string ⟨#[45]⟩] W fun e w'=>e = .returned (.tuple #[.string t,.bool neg])∧W=w')
  (D1:zax t.data.toList=true) (zb:Bool) (z:(t.toList==[48])=zb) (hn:(neg && zb)=false) (hT:Tabs w) (hf:frac=true) (D2:zax c2=true) (d48:(c2==[48])=false) (d49:(c2==[49])=false) (HLN:Hid (t.size≤600∧c2.length≤600)) (HGC:Hid (decide (Nat.gcd (zah t.data.toList) (zah c2)=1)=false)) :
  Calls Tryz.prog 59 #[.string s] w (zay w ⟨false,0,0⟩ 1):=by
 subst hf
 cases neg<;>cases zb<;>(try cases hn)
 ·have bO:Below w.heap.size w (w.alloc (.cells #[.bool false,.slice none 0 0,.slice none 0 0] 87)):=Ac
  go_enter Tryz.func59,Tryz.ntmps59
  go_wp2_with fail
  refine hc.mono ?_;rintro e w1 ⟨⟨a,b,rfl,ha,hb⟩,n,rfl⟩
  go_wp2_with fail
  refine (hcp a _ ha).mono ?_;rintro e w2 ⟨rfl,rfl⟩;have aL:=zal t ((w.alloc (.cells #[.bool false,.slice none 0 0,.slice none 0 0] 87)).drewN n);rw [D1] at aL
  go_wp2_with fail
  refine aL.mono ?_;rintro e w3 ⟨rfl,aX⟩;have aV:Below w.heap.size w w3:=(zac bO n).trans (aX.mono (by simp));have aM:zae w3 w.heap.size false (.slice none 0 0) (.slice none 0 0):=by
   have h:=zae.new w false (.slice none 0 0) (.slice none 0 0);exact zae.below (w:=(w.alloc (.cells #[.bool false,.slice none 0 0,.slice none 0 0] 87)).drewN n) h aX (by simp)
  have aK:=zal b w3;rw [hb,D2] at aK;have bS:(b.toList==[48])=false:=by rw [ByteArray.toList_eq,hb];exact d48
  have bR:(b.toList==[49])=false:=by rw [ByteArray.toList_eq,hb];exact d49
  have bA:b.size=c2.length:=by rw [←hb];simp
  have aW:=Aa bA;have aT:=Aa hb;clear hb ha bA
  go_wp2_with fail
  refine aK.mono ?_;rintro e w4 ⟨rfl,aZ⟩;have aO:Below w.heap.size w w4:=Ad aV aZ;have bC:=aM.below aZ aM.cells.2.2.2.2.2.2;clear aK;have bT:decide ((600:Int)<max (t.size:Int) (b.size:Int))=false:=by
   have h:=aW.out;have h2:=HLN.out;simp only [decide_eq_false_iff_not]
   omega
  have aE:=zat D1;have aF:zaq b.data.toList=true:=by rw [aT.out];exact zat D2
  have bI:=HLN.out;have bM:b.size≤600:=by have:=aW.out;omega
  have aY:=zaS t w4 aE (by omega);have aR:=fun W:World=>zaS b W aF (by omega)
  have bG:t.data.toList.length=t.size:=by simp
  have bE:b.data.toList.length=b.size:=by simp
  have aN:(digs (zah t.data.toList)).length≤600:=zaH aE (by omega);have aA:(digs (zah b.data.toList)).length≤600:=zaH aF (by omega);have bN:=Aa aY;have bF:=Aa aR;have bH:=Aa aN;have bL:=Aa aA;clear aL aY aE aF aR aN aA bI bM bG bE
  go_wp2_with fail
  refine bN.out.mono ?_;rintro e w5 ⟨A5,m5,c5,rfl,bD,aS⟩;have aQ:=bC.below aS bC.cells.2.2.2.2.2.2;have bB:Below w.heap.size w w5:=Ad aO aS
  go_wp2_with fail
  refine (bF.out w5).mono ?_;rintro e w6 ⟨A6,m6,c6,rfl,aP,aI⟩;have aD:=aQ.below aI aQ.cells.2.2.2.2.2.2;have aG:Below w.heap.size w w6:=Ad bB aI;have aC:Below w6.heap.size w6 (w6.alloc (.cells #[.bool false,.slice A5 m5 c5,.slice A6 m6 c6] 87)):=Ac;have hg:=zd7 A5 A6 m5 c5 m6 c6 _ _ (w6.alloc (.cells #[.bool false,.slice A5 m5 c5,.slice A6 m6 c6] 87)) ((hT.later aG).later aC) ((bD.later aI).later aC) (aP.later aC) (by have:=bH.out;rw [bD.len] at this;omega) (by have:=bL.out;rw [aP.len] at this;omega);have HG:=Aa hg;clear hg
  go_wp2_with fail
  refine HG.out.mono ?_;rintro e w8 ⟨A8,m8,c8,rfl,bK,aJ⟩;have ho:=zbq A8 m8 c8 _ w8 bK;have bP:=(aD.below aC aD.cells.2.2.2.2.2.2).below aJ (by have:=aD.cells.2.2.2.2.2.2;simp;omega);have aU:Below w.heap.size w (w6.alloc (.cells #[.bool false,.slice A5 m5 c5,.slice A6 m6 c6] 87)):=Ad aG aC;have bQ:Below w.heap.size w w8:=Ad aU aJ;have bJ:zae w8 w6.heap.size false (.slice A5 m5 c5) (.slice A6 m6 c6):=(zae.new w6 _ _ _).below aJ (by simp);obtain ⟨k0,k1,k2,f0,f1,f2,_⟩:=bP.cells;obtain ⟨x0,x1,x2,_,_,_,_⟩:=bJ.cells;rw [aT.out,HGC.out] at ho
  go_wp2_with fail
  refine ho.mono ?_;rintro e w9 ⟨rfl,rfl⟩;have aH:=zan bQ (g:=w.heap.size) (Nat.le_refl _) (.bool false) (.slice none 0 0) (.slice none 0 0);go_wp2
  refine bodyPost_ret (v := .tuple #[.agg #[.bool false,.slice none 0 0,.slice none 0 0],.int .i64 1]) (by simp [results,Tryz.results59,go_sem,k0,k1,k2]) rfl ⟨_,rfl,RatS.zero _ _,aH⟩
 ·have bO:Below w.heap.size w (w.alloc (.cells #[.bool false,.slice none 0 0,.slice none 0 0] 87)):=Ac
  go_enter Tryz.func59,Tryz.ntmps59
  go_wp2_with fail
  refine hc.mono ?_;rintro e w1 ⟨⟨a,b,rfl,ha,hb⟩,n,rfl⟩
  go_wp2_with fail
  refine (hcp a _ ha).mono ?_;rintro e w2 ⟨rfl,rfl⟩;have aL:=zal t ((w.alloc (.cells #[.bool false,.slice none 0 0,.slice none 0 0] 87)).drewN n);rw [D1] at aL
  go_wp2_with fail
  refine aL.mono ?_;rintro e w3 ⟨rfl,aX⟩;have aV:Below w.heap.size w w3:=(zac bO n).trans (aX.mono (by simp));have aM:zae w3 w.heap.size false (.slice none 0 0) (.slice none 0 0):=by
   have h:=zae.new w false (.slice none 0 0) (.slice none 0 0);exact zae.below (w:=(w.alloc (.cells #[.bool false,.slice none 0 0,.slice none 0 0] 87)).drewN n) h aX (by simp)
  have aK:=zal b w3;rw [hb,D2] at aK;have bS:(b.toList==[48])=false:=by rw [ByteArray.toList_eq,hb];exact d48
  have bR:(b.toList==[49])=false:=by rw [ByteArray.toList_eq,hb];exact d49
  have bA:b.size=c2.length:=by rw [←hb];simp
  have aW:=Aa bA;have aT:=Aa hb;clear hb ha bA
  go_wp2_with fail
  refine aK.mono ?_;rintro e w4 ⟨rfl,aZ⟩;have aO:Below w.heap.size w w4:=Ad aV aZ;have bC:=aM.below aZ aM.cells.2.2.2.2.2.2;clear aK;have bT:decide ((600:Int)<max (t.size:Int) (b.size:Int))=false:=by
   have h:=aW.out;have h2:=HLN.out;simp only [decide_eq_false_iff_not]
   omega
  have aE:=zat D1;have aF:zaq b.data.toList=true:=by rw [aT.out];exact zat D2
  have bI:=HLN.out;have bM:b.size≤600:=by have:=aW.out;omega
  have aY:=zaS t w4 aE (by omega);have aR:=fun W:World=>zaS b W aF (by omega)
  have bG:t.data.toList.length=t.size:=by simp
  have bE:b.data.toList.length=b.size:=by simp
  have aN:(digs (zah t.data.toList)).length≤600:=zaH aE (by omega);have aA:(digs (zah b.data.toList)).length≤600:=zaH aF (by omega);have bN:=Aa aY;have bF:=Aa aR;have bH:=Aa aN;have bL:=Aa aA;clear aL aY aE aF aR aN aA bI bM bG bE
  go_wp2_with fail
  refine bN.out.mono ?_;rintro e w5 ⟨A5,m5,c5,rfl,bD,aS⟩;have aQ:=bC.below aS bC.cells.2.2.2.2.2.2;have bB:Below w.heap.size w w5:=Ad aO aS
  go_wp2_with fail
  refine (bF.out w5).mono ?_;rintro e w6 ⟨A6,m6,c6,rfl,aP,aI⟩;have aD:=aQ.below aI aQ.cells.2.2.2.2.2.2;have aG:Below w.heap.size w w6:=Ad bB aI;have aC:Below w6.heap.size w6 (w6.alloc (.cells #[.bool false,.slice A5 m5 c5,.slice A6 m6 c6] 87)):=Ac;have hg:=zd7 A5 A6 m5 c5 m6 c6 _ _ (w6.alloc (.cells #[.bool false,.slice A5 m5 c5,.slice A6 m6 c6] 87)) ((hT.later aG).later aC) ((bD.later aI).later aC) (aP.later aC) (by have:=bH.out;rw [bD.len] at this;omega) (by have:=bL.out;rw [aP.len] at this;omega);have HG:=Aa hg;clear hg
  go_wp2_with fail
  refine HG.out.mono ?_;rintro e w8 ⟨A8,m8,c8,rfl,bK,aJ⟩;have ho:=zbq A8 m8 c8 _ w8 bK;have bP:=(aD.below aC aD.cells.2.2.2.2.2.2).below aJ (by have:=aD.cells.2.2.2.2.2.2;simp;omega);have aU:Below w.heap.size w (w6.alloc (.cells #[.bool false,.slice A5 m5 c5,.slice A6 m6 c6] 87)):=Ad aG aC;have bQ:Below w.heap.size w w8:=Ad aU aJ;have bJ:zae w8 w6.heap.size false (.slice A5 m5 c5) (.slice A6 m6 c6):=(zae.new w6 _ _ _).below aJ (by simp);obtain ⟨k0,k1,k2,f0,f1,f2,_⟩:=bP.cells;obtain ⟨x0,x1,x2,_,_,_,_⟩:=bJ.cells;rw [aT.out,HGC.out] at ho
  go_wp2_with fail
  refine ho.mono ?_;rintro e w9 ⟨rfl,rfl⟩;have aH:=zan bQ (g:=w.heap.size) (Nat.le_refl _) (.bool false) (.slice none 0 0) (.slice none 0 0);go_wp2
  refine bodyPost_ret (v := .tuple #[.agg #[.bool false,.slice none 0 0,.slice none 0 0],.int .i64 1]) (by simp [results,Tryz.results59,go_sem,k0,k1,k2]) rfl ⟨_,rfl,RatS.zero _ _,aH⟩
 ·have bO:Below w.heap.size w (w.alloc (.cells #[.bool false,.slice none 0 0,.slice none 0 0] 87)):=Ac
  go_enter Tryz.func59,Tryz.ntmps59
  go_wp2_with fail
  refine hc.mono ?_;rintro e w1 ⟨⟨a,b,rfl,ha,hb⟩,n,rfl⟩
  go_wp2_with fail
  refine (hcp a _ ha).mono ?_;rintro e w2 ⟨rfl,rfl⟩;have aL:=zal t ((w.alloc (.cells #[.bool false,.slice none 0 0,.slice none 0 0] 87)).drewN n);rw [D1] at aL
  go_wp2_with fail
  refine aL.mono ?_;rintro e w3 ⟨rfl,aX⟩;have aV:Below w.heap.size w w3:=(zac bO n).trans (aX.mono (by simp));have aM:zae w3 w.heap.size false (.slice none 0 0) (.slice none 0 0):=by
   have h:=zae.new w false (.slice none 0 0) (.slice none 0 0);exact zae.below (w:=(w.alloc (.cells #[.bool false,.slice none 0 0,.slice none 0 0] 87)).drewN n) h aX (by simp)
  have aK:=zal b w3;rw [hb,D2] at aK;have bS:(b.toList==[48])=false:=by rw [ByteArray.toList_eq,hb];exact d48
  have bR:(b.toList==[49])=false:=by rw [ByteArray.toList_eq,hb];exact d49
  have bA:b.size=c2.length:=by rw [←hb];simp
  have aW:=Aa bA;have aT:=Aa hb;clear hb ha bA
  go_wp2_with fail
  refine aK.mono ?_;rintro e w4 ⟨rfl,aZ⟩;have aO:Below w.heap.size w w4:=Ad aV aZ;have bC:=aM.below aZ aM.cells.2.2.2.2.2.2;clear aK;have bT:decide ((600:Int)<max (t.size:Int) (b.size:Int))=false:=by
   have h:=aW.out;have h2:=HLN.out;simp only [decide_eq_false_iff_not]
   omega
  have aE:=zat D1;have aF:zaq b.data.toList=true:=by rw [aT.out];exact zat D2
  have bI:=HLN.out;have bM:b.size≤600:=by have:=aW.out;omega
  have aY:=zaS t w4 aE (by omega);have aR:=fun W:World=>zaS b W aF (by omega)
  have bG:t.data.toList.length=t.size:=by simp
  have bE:b.data.toList.length=b.size:=by simp
  have aN:(digs (zah t.data.toList)).length≤600:=zaH aE (by omega);have aA:(digs (zah b.data.toList)).length≤600:=zaH aF (by omega);have bN:=Aa aY;have bF:=Aa aR;have bH:=Aa aN;have bL:=Aa aA;clear aL aY aE aF aR aN aA bI bM bG bE
  go_wp2_with fail
  refine bN.out.mono ?_;rintro e w5 ⟨A5,m5,c5,rfl,bD,aS⟩;have aQ:=bC.below aS bC.cells.2.2.2.2.2.2;have bB:Below w.heap.size w w5:=Ad aO aS
  go_wp2_with fail
  refine (bF.out w5).mono ?_;rintro e w6 ⟨A6,m6,c6,rfl,aP,aI⟩;have aD:=aQ.below aI aQ.cells.2.2.2.2.2.2;have aG:Below w.heap.size w w6:=Ad bB aI;have aC:Below w6.heap.size w6 (w6.alloc (.cells #[.bool true,.slice A5 m5 c5,.slice A6 m6 c6] 87)):=Ac;have hg:=zd7 A5 A6 m5 c5 m6 c6 _ _ (w6.alloc (.cells #[.bool true,.slice A5 m5 c5,.slice A6 m6 c6] 87)) ((hT.later aG).later aC) ((bD.later aI).later aC) (aP.later aC) (by have:=bH.out;rw [bD.len] at this;omega) (by have:=bL.out;rw [aP.len] at this;omega);have HG:=Aa hg;clear hg
  go_wp2_with fail
  refine HG.out.mono ?_;rintro e w8 ⟨A8,m8,c8,rfl,bK,aJ⟩;have ho:=zbq A8 m8 c8 _ w8 bK;have bP:=(aD.below aC aD.cells.2.2.2.2.2.2).below aJ (by have:=aD.cells.2.2.2.2.2.2;simp;omega);have aU:Below w.heap.size w (w6.alloc (.cells #[.bool true,.slice A5 m5 c5,.slice A6 m6 c6] 87)):=Ad aG aC;have bQ:Below w.heap.size w w8:=Ad aU aJ;have bJ:zae w8 w6.heap.size true (.slice A5 m5 c5) (.slice A6 m6 c6):=(zae.new w6 _ _ _).below aJ (by simp);obtain ⟨k0,k1,k2,f0,f1,f2,_⟩:=bP.cells;obtain ⟨x0,x1,x2,_,_,_,_⟩:=bJ.cells;rw [aT.out,HGC.out] at ho
  go_wp2_with fail
  refine ho.mono ?_;rintro e w9 ⟨rfl,rfl⟩;have aH:=zan bQ (g:=w.heap.size) (Nat.le_refl _) (.bool false) (.slice none 0 0) (.slice none 0 0);go_wp2
  refine bodyPost_ret (v := .tuple #[.agg #[.bool false,.slice none 0 0,.slice none 0 0],.int .i64 1]) (by simp [results,Tryz.results59,go_sem,k0,k1,k2]) rfl ⟨_,rfl,RatS.zero _ _,aH⟩
theorem zcb (s:ByteArray) (w:World) (hT:Tabs w) (hs:s.size≤4294967296) :
  Calls Tryz.prog 59 #[.string s] w (zay w (zak s.data.toList) (zam s.data.toList)):=by
 have hc:=zls s (w.alloc (.cells #[.bool false,.slice none 0 0,.slice none 0 0] 87)) hs;have aK:=zh8 s.data.toList;unfold zak zam topL negL botL zdn;generalize cutL s.data.toList=C at hc aK ⊢;obtain ⟨c1,c2,c3⟩:=C
 dsimp only at hc aK ⊢
 obtain ⟨t,ht⟩:∃ t:ByteArray,t=⟨(Lib.trimPrefix c1 [45]).toArray⟩:=⟨_,rfl⟩;have aM:Lib.trimPrefix c1 [45]=t.data.toList:=by rw [ht]
 obtain ⟨neg,aG⟩:∃ neg,Lib.hasPrefix c1 [45]=neg:=⟨_,rfl⟩;have aD:∀ (a:ByteArray) (W:World),a.data.toList=c1→Calls Tryz.prog 124 #[.string a,.string ⟨#[45]⟩] W fun e w'=>e = .returned (.tuple #[.string t,.bool neg])∧W=w':=by
  intro a W ha;have h:=Tryz.strings_CutPrefix a ⟨#[45]⟩ W;have aO:(⟨#[45]⟩:ByteArray).data.toList=[45]:=rfl;rw [aO,ha,←ht,aG] at h;exact h.mono fun _ _ ⟨x,y⟩=>⟨x,y.symm⟩
 rw [aM,aG];clear ht aM aG;have aP:t.data.toList.length=t.size:=by simp
 have aE:(t.toList==[48])=decide (t.data.toList=[48]):=by rw [ByteArray.toList_eq,Bool.eq_iff_iff];simp
 generalize aC:t.data.toList=td at aP aE ⊢;have hE:∀ x,za7 td c2 neg c3=x→x≠0→Calls Tryz.prog 59 #[.string s] w (zay w ⟨false,0,0⟩ x)→Calls Tryz.prog 59 #[.string s] w (zay w (if za7 td c2 neg c3=0 then ⟨neg,zah td,if c3=true then zah c2 else 1⟩ else ⟨false,0,0⟩) (za7 td c2 neg c3)):=by
  intro x hx h0 h;rw [hx,if_neg h0];exact h
 by_cases D1:zax td=true
 ·by_cases hz:neg=true∧td=[48]
  ·refine hE 1 (by unfold za7;rw [if_pos (.inr hz)]) (by omega) (zl6 s t c1 c2 neg c3 w hc aD (by rw [aC];exact D1) (by rw [aE];simpa using hz.2) hz.1)
  ·have hn:(neg && decide (td=[48]))=false:=by
    rw [Bool.eq_false_iff];intro h;simp at h;exact hz h
   have aA:¬ (zax td=false∨(neg=true∧td=[48])):=by
    rintro (h | h)
    ·rw [D1] at h;cases h
    ·exact hz h
   cases c3
   ·have aI:=aK rfl
    by_cases hl:600<td.length
    ·refine hE 4 (by unfold za7;rw [if_neg aA,if_neg (by simp),if_pos (.inl hl)]) (by omega) (zlL s t c1 c2 neg false w hc aD (by rw [aC];exact D1) _ aE hn rfl aI (.inl (by omega)))
    ·have hv:za7 td c2 neg false=0:=by unfold za7;rw [if_neg aA,if_neg (by simp),if_neg (by rw [aI];simp;omega),if_neg (by simp)]
     rw [hv,if_pos rfl];have h:=zka s t c1 c2 neg false w hc aD (by rw [aC];exact D1) _ aE hn rfl aI ⟨by omega,by omega⟩;rw [aC] at h
     simpa using h
   ·by_cases D2:zax c2=true
    ·by_cases h48:c2=[48]
     ·refine hE 1 (by unfold za7;rw [if_neg aA,if_pos ⟨rfl,.inr (.inl h48)⟩]) (by omega) (zkN s t c1 c2 neg true w hc aD (by rw [aC];exact D1) _ aE hn (c2==[49]) rfl D2 (by simpa using h48) rfl)
     ·have aH:(c2==[48])=false:=by simpa using h48
      by_cases h49:c2=[49]
      ·refine hE 1 (by unfold za7;rw [if_neg aA,if_pos ⟨rfl,.inr (.inr h49)⟩]) (by omega) (zlA s t c1 c2 neg true w hc aD (by rw [aC];exact D1) _ aE hn rfl D2 aH (by simpa using h49))
      ·have aJ:(c2==[49])=false:=by simpa using h49
       have aF:¬ (true=true∧(zax c2=false∨c2=[48]∨c2=[49])):=by
        rintro ⟨_,h | h | h⟩
        ·rw [D2] at h;cases h
        ·exact h48 h
        ·exact h49 h
       by_cases hl:600<td.length∨600<c2.length
       ·refine hE 4 (by unfold za7;rw [if_neg aA,if_neg aF,if_pos hl]) (by omega) (zml s t c1 c2 neg true w hc aD (by rw [aC];exact D1) _ aE hn rfl D2 aH aJ (by unfold Hid;omega))
       ·by_cases hg:Nat.gcd (zah td) (zah c2)=1
        ·have hv:za7 td c2 neg true=0:=by unfold za7;rw [if_neg aA,if_neg aF,if_neg hl,if_neg (by simp [hg])]
         rw [hv,if_pos rfl];have h:=zlO s t c1 c2 neg true w hc aD (by rw [aC];exact D1) _ aE hn hT rfl D2 aH aJ (by unfold Hid;omega) (by unfold Hid;rw [aC];simpa using hg);rw [aC] at h
         simpa using h
        ·refine hE 1 (by unfold za7;rw [if_neg aA,if_neg aF,if_neg hl,if_pos ⟨rfl,hg⟩]) (by omega) (zmz s t c1 c2 neg true w hc aD (by rw [aC];exact D1) _ aE hn hT rfl D2 aH aJ (by unfold Hid;omega) (by unfold Hid;rw [aC];simpa using hg))
    ·have aN:zax c2=false:=by simpa using D2
     refine hE 1 (by unfold za7;rw [if_neg aA,if_pos ⟨rfl,.inl aN⟩]) (by omega) (zmf s t c1 c2 neg true w hc aD (by rw [aC];exact D1) _ aE hn (c2==[48]) (c2==[49]) rfl aN rfl rfl)
 ·have aL:zax td=false:=by simpa using D1
  refine hE 1 (by unfold za7;rw [if_pos (.inl aL)]) (by omega) (zlc s t c1 c2 neg c3 w hc aD (by rw [aC];exact aL))
end
section
open Go.RowKit
def i64v (d:Int):Value := .int .i64 d
def zcU:List Int→Int
 | []=>0
 | x :: t=>if x≠0 then x else zcU t
theorem zaY.lit (w:World) (l:List Value) (t:TypeId):zaY (w.alloc (.cells l.toArray t)) (w.alloc (.cells l.toArray t)).heap.size 1 (some ⟨w.heap.size,0,none⟩) l.length l:=by
 refine ⟨by simp,fun _=>⟨_,rfl,by simp,fun j u hu => ?_⟩⟩;have h:=cell_of_row (w.alloc (.cells l.toArray t)) w.heap.size j l.toArray t (0,0) (heap_alloc_new w _);have e:(⟨w.heap.size,0,none⟩:Addr).add j=⟨w.heap.size,j,none⟩:=by
  unfold Addr.add
  by_cases hj:j=0<;>simp [hj]
 rw [e,h]
 simpa using hu
theorem zjJ (A:Option Addr) (n c:Nat) (l:List Int) (w:World) (h:zaY w w.heap.size 1 A n (l.map i64v)) (hn:n≤maxLen) :
  Calls Tryz.prog 80 #[.slice A n c] w fun e w'=>e = .returned (.int .i64 (zcU l))∧w=w':=by
 unfold maxLen at hn;have hl:l.length=n:=by have:=h.1;rw [List.length_map] at this;omega
 go_enter Tryz.func80,Tryz.ntmps80
 go_wp2
 have HL:=Aa hl;clear hl
 go_loop [7] (fun s=>∃ k:Nat,k≤n∧s = .int .i64 k∧Hid (zcU l=zcU (l.drop k))) (fun s=>n - (intOf s).toNat)
 case atStart=>exact ⟨0,Nat.zero_le _,rfl,rfl⟩
 case round=>
  obtain ⟨k,hk,rfl,hf⟩:=hrel
  by_cases h0:k<n
  ·obtain ⟨ad,u,rfl,hb,hu,aF⟩:=h.at_ h0
   have aE:k<l.length:=by have:=HL.out;omega
   have aD:u = .int .i64 l[k]:=by
    rw [List.getElem?_map,List.getElem?_eq_getElem aE] at hu;injection hu with hu;exact hu.symm
   have aA:=hf.out;rw [List.drop_eq_getElem_cons aE] at aA;generalize l[k]=x at aD aA;subst aD
   by_cases hx:x=0
   ·subst hx
    have aC:Hid (zcU l=zcU (l.drop (k+1))):=by unfold Hid;rw [aA];rfl
    clear aA hu;go_wp2
    go_round
    case rel=>exact ⟨k+1,by omega,by go_num,aC⟩
    case measure=>simp [intOf];omega
   ·have aC:Hid (zcU l=x):=by unfold Hid;rw [aA];unfold zcU;rw [if_pos hx]
    have aH:(x != 0)=true:=by simpa using hx
    clear aA hu hx;go_wp2
    go_ret;exact ⟨by rw [aC.out];rfl,rfl⟩
  ·have aG:k=n:=by omega
   have aC:Hid (zcU l=0):=by
    unfold Hid;rw [hf.out,List.drop_eq_nil_of_le (by have:=HL.out;omega)];rfl
   clear aG;go_wp2
   go_ret;exact ⟨by rw [aC.out];rfl,rfl⟩
theorem zj5 (x y:Int) (w:World) (t:TypeId) (g:Nat) (hg:w.heap.size=g) :
  Calls Tryz.prog 80 #[.slice (some ⟨g,0,none⟩) 2 2] (w.alloc (.cells #[.int .i64 x,.int .i64 y] t)) fun e w'=>e = .returned (.int .i64 (if x≠0 then x else y))∧w.alloc (.cells #[.int .i64 x,.int .i64 y] t)=w':=by
 subst hg;have h:=zjJ (some ⟨w.heap.size,0,none⟩) 2 2 [x,y] (w.alloc (.cells #[.int .i64 x,.int .i64 y] t)) (zaY.lit w [.int .i64 x,.int .i64 y] t) (by unfold maxLen;omega);have e:zcU [x,y]=if x≠0 then x else y:=by unfold zcU;split<;>(try rfl);unfold zcU;split<;>simp_all [zcU]
 rwa [e] at h
end
section
open Go.RowKit Bn
theorem zcf {l:List UInt8} (h:zam l=0) :
  zax (topL l)=true∧(topL l).length≤600∧(negL l=true→topL l≠[48]) ∧
   (zdn l=true→zax (botL l)=true∧botL l≠[48]∧botL l≠[49]∧(botL l).length≤600∧Nat.gcd (zah (topL l)) (zah (botL l))=1):=by
 unfold zam za7 at h
 by_cases h1:zax (topL l)=false∨(negL l=true∧topL l=[48])
 ·rw [if_pos h1] at h;cases h
 ·rw [if_neg h1] at h
  by_cases h2:zdn l=true∧(zax (botL l)=false∨botL l=[48]∨botL l=[49])
  ·rw [if_pos h2] at h;cases h
  ·rw [if_neg h2] at h
   by_cases h3:600<(topL l).length∨600<(botL l).length
   ·rw [if_pos h3] at h;cases h
   ·rw [if_neg h3] at h
    by_cases h4:zdn l=true∧Nat.gcd (zah (topL l)) (zah (botL l))≠1
    ·rw [if_pos h4] at h;cases h
    ·refine ⟨by cases hd:zax (topL l)<;>simp_all,by omega,fun hn e=>h1 (.inr ⟨hn,e⟩),fun hf=>⟨?_,fun e=>h2 ⟨hf,.inr (.inl e)⟩,fun e=>h2 ⟨hf,.inr (.inr e)⟩,by omega,?_⟩⟩
     ·cases hd:zax (botL l)
      ·exact absurd ⟨hf,.inl hd⟩ h2
      ·rfl
     ·exact Classical.byContradiction fun e=>h4 ⟨hf,e⟩
theorem zc3 {l:List UInt8} (h:zax l=true) (h0:l≠[48]):0<zah l:=by
 unfold zax at h;rw [Bool.and_eq_true,Bool.or_eq_true] at h;obtain ⟨hd,h | h⟩:=h
 ·exact absurd (by simpa using h) h0
 ·cases l with
  | nil=>simp at h
  | cons c t=>
   simp at h
   have e:zaq (c :: t)=(digB (c.toNat:Int) && zaq t):=rfl;rw [e,Bool.and_eq_true] at hd;have hc:=hd.1;unfold digB at hc;simp only [Bool.and_eq_true,decide_eq_true_eq] at hc
   have aA:c.toNat≠48:=fun e=>h (UInt8.toNat_inj.1 (by rw [e];rfl))
   rw [zgc];have:0<(c.toNat - 48)*10 ^ t.length:=Nat.mul_pos (by omega) (Nat.pow_pos (by omega));omega
theorem zfP {l:List UInt8} (h:zam l=0):0<(zak l).bot:=by
 obtain ⟨_,_,_,hf⟩:=zcf h;unfold zak;rw [if_pos h]
 cases hb:zdn l
 ·simp
 ·obtain ⟨h1,h2,_⟩:=hf hb
  simpa using zc3 h1 h2
theorem zaN {l:List UInt8} (h:zam l=0):(digs (zak l).top).length≤600∧(digs (zak l).bot).length≤600:=by
 obtain ⟨h1,h2,_,hf⟩:=zcf h;unfold zak;rw [if_pos h];refine ⟨zaH (zat h1) h2,?_⟩
 cases hb:zdn l
 ·simp only [Bool.false_eq_true,if_false]
  exact Nat.le_trans (zad (k:=1) (by rw [zdm];omega)) (by omega)
 ·obtain ⟨h3,_,_,h4,_⟩:=hf hb
  simpa using zaH (zat h3) h4
theorem zkT {l:List UInt8} (h:zam l=0):Nat.gcd (zak l).top (zak l).bot=1:=by
 obtain ⟨_,_,_,hf⟩:=zcf h;unfold zak;rw [if_pos h]
 cases hb:zdn l
 ·simp
 ·simpa using (hf hb).2.2.2.2
theorem zlK {l:List UInt8} (h:zam l=0):(zak l).neg=true→0<(zak l).top:=by
 obtain ⟨h1,_,h3,_⟩:=zcf h;unfold zak;rw [if_pos h];intro hn;exact zc3 h1 (h3 hn)
end
end Go.Proofs.YtbkgkoenppkhpaaGreatDoor
