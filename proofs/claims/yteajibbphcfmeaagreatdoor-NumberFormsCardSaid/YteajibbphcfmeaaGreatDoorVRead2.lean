/- Contract of read: fractions; all of it. -/
import Derived.Test.YteajibbphcfmeaaGreatDoorVRead
namespace Go.Proofs.YteajibbphcfmeaaGreatDoor
open Go.RowKit Bn
set_option maxHeartbeats 4000000 in
set_option maxRecDepth 100000 in
theorem zk6 (s t:ByteArray) (c1 c2:List UInt8) (neg frac:Bool) (w:World)
  (hc:Calls Tryz.prog 122 #[.string s,.string { data:=#[47] }] (w.alloc (.cells #[.bool false,.slice none 0 0,.slice none 0 0] 91)) fun e w'=>(∃ a b:ByteArray,e = .returned (.tuple #[.string a,.string b,.bool frac])∧a.data.toList=c1∧b.data.toList=c2)∧∃ n,w'=(w.alloc (.cells #[.bool false,.slice none 0 0,.slice none 0 0] 91)).drewN n)
  (hcp:∀ (a:ByteArray) (W:World),a.data.toList=c1→Calls Tryz.prog 123 #[.string a,.string { data:=#[45] }] W fun e w'=>e = .returned (.tuple #[.string t,.bool neg])∧W=w')
  (D1:zaz t.data.toList=true) (zb:Bool) (z:(t.toList==[48])=zb) (hn:(neg && zb)=false) (hT:Tabs w) (hf:frac=true) (D2:zaz c2=true) (d48:(c2==[48])=false) (d49:(c2==[49])=false) (HLN:Hid (t.size≤600∧c2.length≤600)) (HGC:Hid (decide (Nat.gcd (zai t.data.toList) (zai c2)=1)=true)) :
  Calls Tryz.prog 63 #[.string s] w (zay w ⟨neg,zai t.data.toList,zai c2⟩ 0):=by
 subst hf
 cases neg<;>cases zb<;>(try cases hn)
 ·have bL:Below w.heap.size w (w.alloc (.cells #[.bool false,.slice none 0 0,.slice none 0 0] 91)):=(Below.refl _ _).alloc (Nat.le_refl _) _
  go_enter Tryz.func63,Tryz.ntmps63
  go_wp2_with fail
  refine hc.mono ?_
  rintro e w1 ⟨⟨a,b,rfl,ha,hb⟩,n,rfl⟩
  go_wp2_with fail
  refine (hcp a _ ha).mono ?_
  rintro e w2 ⟨rfl,rfl⟩
  have aI:=zaj t ((w.alloc (.cells #[.bool false,.slice none 0 0,.slice none 0 0] 91)).drewN n)
  rw [D1] at aI
  go_wp2_with fail
  refine aI.mono ?_
  rintro e w3 ⟨rfl,aW⟩
  have aY:Below w.heap.size w w3:=(zab bL n).trans (aW.mono (by simp))
  have bD:zad w3 w.heap.size false (.slice none 0 0) (.slice none 0 0):=by
   have h:=zad.new w false (.slice none 0 0) (.slice none 0 0)
   exact zad.below (w:=(w.alloc (.cells #[.bool false,.slice none 0 0,.slice none 0 0] 91)).drewN n) h aW (by simp)
  have aJ:=zaj b w3
  rw [hb,D2] at aJ
  have bR:(b.toList==[48])=false:=by rw [ByteArray.toList_eq,hb];exact d48
  have bT:(b.toList==[49])=false:=by rw [ByteArray.toList_eq,hb];exact d49
  have aR:b.size=c2.length:=by rw [←hb];simp
  have bC:=Lib.hid aR
  have aN:=Lib.hid hb
  clear hb ha aR
  go_wp2_with fail
  refine aJ.mono ?_
  rintro e w4 ⟨rfl,aV⟩
  have bA:Below w.heap.size w w4:=aY.trans (aV.mono aY.size)
  have aS:=bD.below aV bD.cells.2.2.2.2.2.2
  clear aJ
  have bS:decide ((600:Int)<max (t.size:Int) (b.size:Int))=false:=by
   have h:=bC.out
   have h2:=HLN.out
   simp only [decide_eq_false_iff_not]
   omega
  have aK:=zax D1
  have aM:zas b.data.toList=true:=by rw [aN.out];exact zax D2
  have bP:=HLN.out
  have bF:b.size≤600:=by have:=bC.out;omega
  have aX:=zaQ t w4 aK (by omega)
  have aQ:=fun W:World=>zaQ b W aM (by omega)
  have bH:t.data.toList.length=t.size:=by simp
  have bG:b.data.toList.length=b.size:=by simp
  have bE:(digs (zai t.data.toList)).length≤600:=zaG aK (by omega)
  have aC:(digs (zai b.data.toList)).length≤600:=zaG aM (by omega)
  have bJ:=Lib.hid aX
  have bO:=Lib.hid aQ
  have bK:=Lib.hid bE
  have bI:=Lib.hid aC
  clear aI aX aK aM aQ bE aC bP bF bH bG
  go_wp2_with fail
  refine bJ.out.mono ?_
  rintro e w5 ⟨A5,m5,c5,rfl,aO,bB⟩
  have aU:=aS.below bB aS.cells.2.2.2.2.2.2
  have aT:Below w.heap.size w w5:=bA.trans (bB.mono bA.size)
  go_wp2_with fail
  refine (bO.out w5).mono ?_
  rintro e w6 ⟨A6,m6,c6,rfl,aP,aE⟩
  have aF:=aU.below aE aU.cells.2.2.2.2.2.2
  have aH:Below w.heap.size w w6:=aT.trans (aE.mono aT.size)
  have aA:Below w6.heap.size w6 (w6.alloc (.cells #[.bool false,.slice A5 m5 c5,.slice A6 m6 c6] 91)):=(Below.refl _ _).alloc (Nat.le_refl _) _
  have hg:=zdG A5 A6 m5 c5 m6 c6 _ _ (w6.alloc (.cells #[.bool false,.slice A5 m5 c5,.slice A6 m6 c6] 91)) ((hT.later aH).later aA) ((aO.later aE).later aA) (aP.later aA) (by have:=bK.out;rw [aO.len] at this;omega) (by have:=bI.out;rw [aP.len] at this;omega)
  have HG:=Lib.hid hg
  clear hg
  go_wp2_with fail
  refine HG.out.mono ?_
  rintro e w8 ⟨A8,m8,c8,rfl,bM,aD⟩
  have ho:=zbo A8 m8 c8 _ w8 bM
  have aL:=(aF.below aA aF.cells.2.2.2.2.2.2).below aD (by have:=aF.cells.2.2.2.2.2.2;simp;omega)
  have aZ:Below w.heap.size w (w6.alloc (.cells #[.bool false,.slice A5 m5 c5,.slice A6 m6 c6] 91)):=aH.trans (aA.mono aH.size)
  have bQ:Below w.heap.size w w8:=aZ.trans (aD.mono aZ.size)
  have bN:zad w8 w6.heap.size false (.slice A5 m5 c5) (.slice A6 m6 c6):=(zad.new w6 _ _ _).below aD (by simp)
  obtain ⟨k0,k1,k2,f0,f1,f2,_⟩:=aL.cells
  obtain ⟨x0,x1,x2,_,_,_,_⟩:=bN.cells
  rw [aN.out,HGC.out] at ho
  go_wp2_with fail
  refine ho.mono ?_
  rintro e w9 ⟨rfl,rfl⟩
  have aG:=zak bQ (g:=w.heap.size) (Nat.le_refl _) (.bool false) (.slice A5 m5 c5) (.slice A6 m6 c6)
  go_wp2
  refine bodyPost_ret (v := .tuple #[.agg #[.bool false,.slice A5 m5 c5,.slice A6 m6 c6],.int .i64 0]) (by simp [results,Tryz.results63,go_sem,k0,k1,k2]) rfl ⟨_,rfl,⟨A5,m5,c5,A6,m6,c6,rfl,?_,?_⟩,aG⟩
  ·rw [zaf];exact (((aO.later aE).later aA).later aD).res aL _ _ _
  ·rw [zaf]
   have h:=((aP.later aA).later aD).res aL (.bool false) (.slice A5 m5 c5) (.slice A6 m6 c6)
   rw [aN.out] at h;exact h
 ·have bL:Below w.heap.size w (w.alloc (.cells #[.bool false,.slice none 0 0,.slice none 0 0] 91)):=(Below.refl _ _).alloc (Nat.le_refl _) _
  go_enter Tryz.func63,Tryz.ntmps63
  go_wp2_with fail
  refine hc.mono ?_
  rintro e w1 ⟨⟨a,b,rfl,ha,hb⟩,n,rfl⟩
  go_wp2_with fail
  refine (hcp a _ ha).mono ?_
  rintro e w2 ⟨rfl,rfl⟩
  have aI:=zaj t ((w.alloc (.cells #[.bool false,.slice none 0 0,.slice none 0 0] 91)).drewN n)
  rw [D1] at aI
  go_wp2_with fail
  refine aI.mono ?_
  rintro e w3 ⟨rfl,aW⟩
  have aY:Below w.heap.size w w3:=(zab bL n).trans (aW.mono (by simp))
  have bD:zad w3 w.heap.size false (.slice none 0 0) (.slice none 0 0):=by
   have h:=zad.new w false (.slice none 0 0) (.slice none 0 0)
   exact zad.below (w:=(w.alloc (.cells #[.bool false,.slice none 0 0,.slice none 0 0] 91)).drewN n) h aW (by simp)
  have aJ:=zaj b w3
  rw [hb,D2] at aJ
  have bR:(b.toList==[48])=false:=by rw [ByteArray.toList_eq,hb];exact d48
  have bT:(b.toList==[49])=false:=by rw [ByteArray.toList_eq,hb];exact d49
  have aR:b.size=c2.length:=by rw [←hb];simp
  have bC:=Lib.hid aR
  have aN:=Lib.hid hb
  clear hb ha aR
  go_wp2_with fail
  refine aJ.mono ?_
  rintro e w4 ⟨rfl,aV⟩
  have bA:Below w.heap.size w w4:=aY.trans (aV.mono aY.size)
  have aS:=bD.below aV bD.cells.2.2.2.2.2.2
  clear aJ
  have bS:decide ((600:Int)<max (t.size:Int) (b.size:Int))=false:=by
   have h:=bC.out
   have h2:=HLN.out
   simp only [decide_eq_false_iff_not]
   omega
  have aK:=zax D1
  have aM:zas b.data.toList=true:=by rw [aN.out];exact zax D2
  have bP:=HLN.out
  have bF:b.size≤600:=by have:=bC.out;omega
  have aX:=zaQ t w4 aK (by omega)
  have aQ:=fun W:World=>zaQ b W aM (by omega)
  have bH:t.data.toList.length=t.size:=by simp
  have bG:b.data.toList.length=b.size:=by simp
  have bE:(digs (zai t.data.toList)).length≤600:=zaG aK (by omega)
  have aC:(digs (zai b.data.toList)).length≤600:=zaG aM (by omega)
  have bJ:=Lib.hid aX
  have bO:=Lib.hid aQ
  have bK:=Lib.hid bE
  have bI:=Lib.hid aC
  clear aI aX aK aM aQ bE aC bP bF bH bG
  go_wp2_with fail
  refine bJ.out.mono ?_
  rintro e w5 ⟨A5,m5,c5,rfl,aO,bB⟩
  have aU:=aS.below bB aS.cells.2.2.2.2.2.2
  have aT:Below w.heap.size w w5:=bA.trans (bB.mono bA.size)
  go_wp2_with fail
  refine (bO.out w5).mono ?_
  rintro e w6 ⟨A6,m6,c6,rfl,aP,aE⟩
  have aF:=aU.below aE aU.cells.2.2.2.2.2.2
  have aH:Below w.heap.size w w6:=aT.trans (aE.mono aT.size)
  have aA:Below w6.heap.size w6 (w6.alloc (.cells #[.bool false,.slice A5 m5 c5,.slice A6 m6 c6] 91)):=(Below.refl _ _).alloc (Nat.le_refl _) _
  have hg:=zdG A5 A6 m5 c5 m6 c6 _ _ (w6.alloc (.cells #[.bool false,.slice A5 m5 c5,.slice A6 m6 c6] 91)) ((hT.later aH).later aA) ((aO.later aE).later aA) (aP.later aA) (by have:=bK.out;rw [aO.len] at this;omega) (by have:=bI.out;rw [aP.len] at this;omega)
  have HG:=Lib.hid hg
  clear hg
  go_wp2_with fail
  refine HG.out.mono ?_
  rintro e w8 ⟨A8,m8,c8,rfl,bM,aD⟩
  have ho:=zbo A8 m8 c8 _ w8 bM
  have aL:=(aF.below aA aF.cells.2.2.2.2.2.2).below aD (by have:=aF.cells.2.2.2.2.2.2;simp;omega)
  have aZ:Below w.heap.size w (w6.alloc (.cells #[.bool false,.slice A5 m5 c5,.slice A6 m6 c6] 91)):=aH.trans (aA.mono aH.size)
  have bQ:Below w.heap.size w w8:=aZ.trans (aD.mono aZ.size)
  have bN:zad w8 w6.heap.size false (.slice A5 m5 c5) (.slice A6 m6 c6):=(zad.new w6 _ _ _).below aD (by simp)
  obtain ⟨k0,k1,k2,f0,f1,f2,_⟩:=aL.cells
  obtain ⟨x0,x1,x2,_,_,_,_⟩:=bN.cells
  rw [aN.out,HGC.out] at ho
  go_wp2_with fail
  refine ho.mono ?_
  rintro e w9 ⟨rfl,rfl⟩
  have aG:=zak bQ (g:=w.heap.size) (Nat.le_refl _) (.bool false) (.slice A5 m5 c5) (.slice A6 m6 c6)
  go_wp2
  refine bodyPost_ret (v := .tuple #[.agg #[.bool false,.slice A5 m5 c5,.slice A6 m6 c6],.int .i64 0]) (by simp [results,Tryz.results63,go_sem,k0,k1,k2]) rfl ⟨_,rfl,⟨A5,m5,c5,A6,m6,c6,rfl,?_,?_⟩,aG⟩
  ·rw [zaf];exact (((aO.later aE).later aA).later aD).res aL _ _ _
  ·rw [zaf]
   have h:=((aP.later aA).later aD).res aL (.bool false) (.slice A5 m5 c5) (.slice A6 m6 c6)
   rw [aN.out] at h;exact h
 ·have bL:Below w.heap.size w (w.alloc (.cells #[.bool false,.slice none 0 0,.slice none 0 0] 91)):=(Below.refl _ _).alloc (Nat.le_refl _) _
  go_enter Tryz.func63,Tryz.ntmps63
  go_wp2_with fail
  refine hc.mono ?_
  rintro e w1 ⟨⟨a,b,rfl,ha,hb⟩,n,rfl⟩
  go_wp2_with fail
  refine (hcp a _ ha).mono ?_
  rintro e w2 ⟨rfl,rfl⟩
  have aI:=zaj t ((w.alloc (.cells #[.bool false,.slice none 0 0,.slice none 0 0] 91)).drewN n)
  rw [D1] at aI
  go_wp2_with fail
  refine aI.mono ?_
  rintro e w3 ⟨rfl,aW⟩
  have aY:Below w.heap.size w w3:=(zab bL n).trans (aW.mono (by simp))
  have bD:zad w3 w.heap.size false (.slice none 0 0) (.slice none 0 0):=by
   have h:=zad.new w false (.slice none 0 0) (.slice none 0 0)
   exact zad.below (w:=(w.alloc (.cells #[.bool false,.slice none 0 0,.slice none 0 0] 91)).drewN n) h aW (by simp)
  have aJ:=zaj b w3
  rw [hb,D2] at aJ
  have bR:(b.toList==[48])=false:=by rw [ByteArray.toList_eq,hb];exact d48
  have bT:(b.toList==[49])=false:=by rw [ByteArray.toList_eq,hb];exact d49
  have aR:b.size=c2.length:=by rw [←hb];simp
  have bC:=Lib.hid aR
  have aN:=Lib.hid hb
  clear hb ha aR
  go_wp2_with fail
  refine aJ.mono ?_
  rintro e w4 ⟨rfl,aV⟩
  have bA:Below w.heap.size w w4:=aY.trans (aV.mono aY.size)
  have aS:=bD.below aV bD.cells.2.2.2.2.2.2
  clear aJ
  have bS:decide ((600:Int)<max (t.size:Int) (b.size:Int))=false:=by
   have h:=bC.out
   have h2:=HLN.out
   simp only [decide_eq_false_iff_not]
   omega
  have aK:=zax D1
  have aM:zas b.data.toList=true:=by rw [aN.out];exact zax D2
  have bP:=HLN.out
  have bF:b.size≤600:=by have:=bC.out;omega
  have aX:=zaQ t w4 aK (by omega)
  have aQ:=fun W:World=>zaQ b W aM (by omega)
  have bH:t.data.toList.length=t.size:=by simp
  have bG:b.data.toList.length=b.size:=by simp
  have bE:(digs (zai t.data.toList)).length≤600:=zaG aK (by omega)
  have aC:(digs (zai b.data.toList)).length≤600:=zaG aM (by omega)
  have bJ:=Lib.hid aX
  have bO:=Lib.hid aQ
  have bK:=Lib.hid bE
  have bI:=Lib.hid aC
  clear aI aX aK aM aQ bE aC bP bF bH bG
  go_wp2_with fail
  refine bJ.out.mono ?_
  rintro e w5 ⟨A5,m5,c5,rfl,aO,bB⟩
  have aU:=aS.below bB aS.cells.2.2.2.2.2.2
  have aT:Below w.heap.size w w5:=bA.trans (bB.mono bA.size)
  go_wp2_with fail
  refine (bO.out w5).mono ?_
  rintro e w6 ⟨A6,m6,c6,rfl,aP,aE⟩
  have aF:=aU.below aE aU.cells.2.2.2.2.2.2
  have aH:Below w.heap.size w w6:=aT.trans (aE.mono aT.size)
  have aA:Below w6.heap.size w6 (w6.alloc (.cells #[.bool true,.slice A5 m5 c5,.slice A6 m6 c6] 91)):=(Below.refl _ _).alloc (Nat.le_refl _) _
  have hg:=zdG A5 A6 m5 c5 m6 c6 _ _ (w6.alloc (.cells #[.bool true,.slice A5 m5 c5,.slice A6 m6 c6] 91)) ((hT.later aH).later aA) ((aO.later aE).later aA) (aP.later aA) (by have:=bK.out;rw [aO.len] at this;omega) (by have:=bI.out;rw [aP.len] at this;omega)
  have HG:=Lib.hid hg
  clear hg
  go_wp2_with fail
  refine HG.out.mono ?_
  rintro e w8 ⟨A8,m8,c8,rfl,bM,aD⟩
  have ho:=zbo A8 m8 c8 _ w8 bM
  have aL:=(aF.below aA aF.cells.2.2.2.2.2.2).below aD (by have:=aF.cells.2.2.2.2.2.2;simp;omega)
  have aZ:Below w.heap.size w (w6.alloc (.cells #[.bool true,.slice A5 m5 c5,.slice A6 m6 c6] 91)):=aH.trans (aA.mono aH.size)
  have bQ:Below w.heap.size w w8:=aZ.trans (aD.mono aZ.size)
  have bN:zad w8 w6.heap.size true (.slice A5 m5 c5) (.slice A6 m6 c6):=(zad.new w6 _ _ _).below aD (by simp)
  obtain ⟨k0,k1,k2,f0,f1,f2,_⟩:=aL.cells
  obtain ⟨x0,x1,x2,_,_,_,_⟩:=bN.cells
  rw [aN.out,HGC.out] at ho
  go_wp2_with fail
  refine ho.mono ?_
  rintro e w9 ⟨rfl,rfl⟩
  have aG:=zak bQ (g:=w.heap.size) (Nat.le_refl _) (.bool true) (.slice A5 m5 c5) (.slice A6 m6 c6)
  go_wp2
  refine bodyPost_ret (v := .tuple #[.agg #[.bool true,.slice A5 m5 c5,.slice A6 m6 c6],.int .i64 0]) (by simp [results,Tryz.results63,go_sem,k0,k1,k2]) rfl ⟨_,rfl,⟨A5,m5,c5,A6,m6,c6,rfl,?_,?_⟩,aG⟩
  ·rw [zaf];exact (((aO.later aE).later aA).later aD).res aL _ _ _
  ·rw [zaf]
   have h:=((aP.later aA).later aD).res aL (.bool true) (.slice A5 m5 c5) (.slice A6 m6 c6)
   rw [aN.out] at h;exact h
set_option maxHeartbeats 4000000 in
set_option maxRecDepth 100000 in
theorem zkU (s t:ByteArray) (c1 c2:List UInt8) (neg frac:Bool) (w:World)
  (hc:Calls Tryz.prog 122 #[.string s,.string { data:=#[47] }] (w.alloc (.cells #[.bool false,.slice none 0 0,.slice none 0 0] 91)) fun e w'=>(∃ a b:ByteArray,e = .returned (.tuple #[.string a,.string b,.bool frac])∧a.data.toList=c1∧b.data.toList=c2)∧∃ n,w'=(w.alloc (.cells #[.bool false,.slice none 0 0,.slice none 0 0] 91)).drewN n)
  (hcp:∀ (a:ByteArray) (W:World),a.data.toList=c1→Calls Tryz.prog 123 #[.string a,.string { data:=#[45] }] W fun e w'=>e = .returned (.tuple #[.string t,.bool neg])∧W=w')
  (D1:zaz t.data.toList=true) (zb:Bool) (z:(t.toList==[48])=zb) (hn:(neg && zb)=false) (hT:Tabs w) (hf:frac=true) (D2:zaz c2=true) (d48:(c2==[48])=false) (d49:(c2==[49])=false) (HLN:Hid (t.size≤600∧c2.length≤600)) (HGC:Hid (decide (Nat.gcd (zai t.data.toList) (zai c2)=1)=false)) :
  Calls Tryz.prog 63 #[.string s] w (zay w ⟨false,0,0⟩ 1):=by
 subst hf
 cases neg<;>cases zb<;>(try cases hn)
 ·have bL:Below w.heap.size w (w.alloc (.cells #[.bool false,.slice none 0 0,.slice none 0 0] 91)):=(Below.refl _ _).alloc (Nat.le_refl _) _
  go_enter Tryz.func63,Tryz.ntmps63
  go_wp2_with fail
  refine hc.mono ?_
  rintro e w1 ⟨⟨a,b,rfl,ha,hb⟩,n,rfl⟩
  go_wp2_with fail
  refine (hcp a _ ha).mono ?_
  rintro e w2 ⟨rfl,rfl⟩
  have aG:=zaj t ((w.alloc (.cells #[.bool false,.slice none 0 0,.slice none 0 0] 91)).drewN n)
  rw [D1] at aG
  go_wp2_with fail
  refine aG.mono ?_
  rintro e w3 ⟨rfl,aS⟩
  have aU:Below w.heap.size w w3:=(zab bL n).trans (aS.mono (by simp))
  have bC:zad w3 w.heap.size false (.slice none 0 0) (.slice none 0 0):=by
   have h:=zad.new w false (.slice none 0 0) (.slice none 0 0)
   exact zad.below (w:=(w.alloc (.cells #[.bool false,.slice none 0 0,.slice none 0 0] 91)).drewN n) h aS (by simp)
  have aH:=zaj b w3
  rw [hb,D2] at aH
  have bR:(b.toList==[48])=false:=by rw [ByteArray.toList_eq,hb];exact d48
  have bT:(b.toList==[49])=false:=by rw [ByteArray.toList_eq,hb];exact d49
  have aN:b.size=c2.length:=by rw [←hb];simp
  have bB:=Lib.hid aN
  have aW:=Lib.hid hb
  clear hb ha aN
  go_wp2_with fail
  refine aH.mono ?_
  rintro e w4 ⟨rfl,aR⟩
  have aZ:Below w.heap.size w w4:=aU.trans (aR.mono aU.size)
  have aO:=bC.below aR bC.cells.2.2.2.2.2.2
  clear aH
  have bS:decide ((600:Int)<max (t.size:Int) (b.size:Int))=false:=by
   have h:=bB.out
   have h2:=HLN.out
   simp only [decide_eq_false_iff_not]
   omega
  have aJ:=zax D1
  have aL:zas b.data.toList=true:=by rw [aW.out];exact zax D2
  have bP:=HLN.out
  have bE:b.size≤600:=by have:=bB.out;omega
  have aT:=zaQ t w4 aJ (by omega)
  have aM:=fun W:World=>zaQ b W aL (by omega)
  have bG:t.data.toList.length=t.size:=by simp
  have bF:b.data.toList.length=b.size:=by simp
  have bD:(digs (zai t.data.toList)).length≤600:=zaG aJ (by omega)
  have aC:(digs (zai b.data.toList)).length≤600:=zaG aL (by omega)
  have bJ:=Lib.hid aT
  have bO:=Lib.hid aM
  have bK:=Lib.hid bD
  have bH:=Lib.hid aC
  clear aG aT aJ aL aM bD aC bP bE bG bF
  go_wp2_with fail
  refine bJ.out.mono ?_
  rintro e w5 ⟨A5,m5,c5,rfl,aX,bA⟩
  have aQ:=aO.below bA aO.cells.2.2.2.2.2.2
  have aP:Below w.heap.size w w5:=aZ.trans (bA.mono aZ.size)
  go_wp2_with fail
  refine (bO.out w5).mono ?_
  rintro e w6 ⟨A6,m6,c6,rfl,aY,aI⟩
  have aD:=aQ.below aI aQ.cells.2.2.2.2.2.2
  have aF:Below w.heap.size w w6:=aP.trans (aI.mono aP.size)
  have aA:Below w6.heap.size w6 (w6.alloc (.cells #[.bool false,.slice A5 m5 c5,.slice A6 m6 c6] 91)):=(Below.refl _ _).alloc (Nat.le_refl _) _
  have hg:=zdG A5 A6 m5 c5 m6 c6 _ _ (w6.alloc (.cells #[.bool false,.slice A5 m5 c5,.slice A6 m6 c6] 91)) ((hT.later aF).later aA) ((aX.later aI).later aA) (aY.later aA) (by have:=bK.out;rw [aX.len] at this;omega) (by have:=bH.out;rw [aY.len] at this;omega)
  have HG:=Lib.hid hg
  clear hg
  go_wp2_with fail
  refine HG.out.mono ?_
  rintro e w8 ⟨A8,m8,c8,rfl,bM,aK⟩
  have ho:=zbo A8 m8 c8 _ w8 bM
  have bI:=(aD.below aA aD.cells.2.2.2.2.2.2).below aK (by have:=aD.cells.2.2.2.2.2.2;simp;omega)
  have aV:Below w.heap.size w (w6.alloc (.cells #[.bool false,.slice A5 m5 c5,.slice A6 m6 c6] 91)):=aF.trans (aA.mono aF.size)
  have bQ:Below w.heap.size w w8:=aV.trans (aK.mono aV.size)
  have bN:zad w8 w6.heap.size false (.slice A5 m5 c5) (.slice A6 m6 c6):=(zad.new w6 _ _ _).below aK (by simp)
  obtain ⟨k0,k1,k2,f0,f1,f2,_⟩:=bI.cells
  obtain ⟨x0,x1,x2,_,_,_,_⟩:=bN.cells
  rw [aW.out,HGC.out] at ho
  go_wp2_with fail
  refine ho.mono ?_
  rintro e w9 ⟨rfl,rfl⟩
  have aE:=zak bQ (g:=w.heap.size) (Nat.le_refl _) (.bool false) (.slice none 0 0) (.slice none 0 0)
  go_wp2
  refine bodyPost_ret (v := .tuple #[.agg #[.bool false,.slice none 0 0,.slice none 0 0],.int .i64 1]) (by simp [results,Tryz.results63,go_sem,k0,k1,k2]) rfl ⟨_,rfl,RatS.zero _ _,aE⟩
 ·have bL:Below w.heap.size w (w.alloc (.cells #[.bool false,.slice none 0 0,.slice none 0 0] 91)):=(Below.refl _ _).alloc (Nat.le_refl _) _
  go_enter Tryz.func63,Tryz.ntmps63
  go_wp2_with fail
  refine hc.mono ?_
  rintro e w1 ⟨⟨a,b,rfl,ha,hb⟩,n,rfl⟩
  go_wp2_with fail
  refine (hcp a _ ha).mono ?_
  rintro e w2 ⟨rfl,rfl⟩
  have aG:=zaj t ((w.alloc (.cells #[.bool false,.slice none 0 0,.slice none 0 0] 91)).drewN n)
  rw [D1] at aG
  go_wp2_with fail
  refine aG.mono ?_
  rintro e w3 ⟨rfl,aS⟩
  have aU:Below w.heap.size w w3:=(zab bL n).trans (aS.mono (by simp))
  have bC:zad w3 w.heap.size false (.slice none 0 0) (.slice none 0 0):=by
   have h:=zad.new w false (.slice none 0 0) (.slice none 0 0)
   exact zad.below (w:=(w.alloc (.cells #[.bool false,.slice none 0 0,.slice none 0 0] 91)).drewN n) h aS (by simp)
  have aH:=zaj b w3
  rw [hb,D2] at aH
  have bR:(b.toList==[48])=false:=by rw [ByteArray.toList_eq,hb];exact d48
  have bT:(b.toList==[49])=false:=by rw [ByteArray.toList_eq,hb];exact d49
  have aN:b.size=c2.length:=by rw [←hb];simp
  have bB:=Lib.hid aN
  have aW:=Lib.hid hb
  clear hb ha aN
  go_wp2_with fail
  refine aH.mono ?_
  rintro e w4 ⟨rfl,aR⟩
  have aZ:Below w.heap.size w w4:=aU.trans (aR.mono aU.size)
  have aO:=bC.below aR bC.cells.2.2.2.2.2.2
  clear aH
  have bS:decide ((600:Int)<max (t.size:Int) (b.size:Int))=false:=by
   have h:=bB.out
   have h2:=HLN.out
   simp only [decide_eq_false_iff_not]
   omega
  have aJ:=zax D1
  have aL:zas b.data.toList=true:=by rw [aW.out];exact zax D2
  have bP:=HLN.out
  have bE:b.size≤600:=by have:=bB.out;omega
  have aT:=zaQ t w4 aJ (by omega)
  have aM:=fun W:World=>zaQ b W aL (by omega)
  have bG:t.data.toList.length=t.size:=by simp
  have bF:b.data.toList.length=b.size:=by simp
  have bD:(digs (zai t.data.toList)).length≤600:=zaG aJ (by omega)
  have aC:(digs (zai b.data.toList)).length≤600:=zaG aL (by omega)
  have bJ:=Lib.hid aT
  have bO:=Lib.hid aM
  have bK:=Lib.hid bD
  have bH:=Lib.hid aC
  clear aG aT aJ aL aM bD aC bP bE bG bF
  go_wp2_with fail
  refine bJ.out.mono ?_
  rintro e w5 ⟨A5,m5,c5,rfl,aX,bA⟩
  have aQ:=aO.below bA aO.cells.2.2.2.2.2.2
  have aP:Below w.heap.size w w5:=aZ.trans (bA.mono aZ.size)
  go_wp2_with fail
  refine (bO.out w5).mono ?_
  rintro e w6 ⟨A6,m6,c6,rfl,aY,aI⟩
  have aD:=aQ.below aI aQ.cells.2.2.2.2.2.2
  have aF:Below w.heap.size w w6:=aP.trans (aI.mono aP.size)
  have aA:Below w6.heap.size w6 (w6.alloc (.cells #[.bool false,.slice A5 m5 c5,.slice A6 m6 c6] 91)):=(Below.refl _ _).alloc (Nat.le_refl _) _
  have hg:=zdG A5 A6 m5 c5 m6 c6 _ _ (w6.alloc (.cells #[.bool false,.slice A5 m5 c5,.slice A6 m6 c6] 91)) ((hT.later aF).later aA) ((aX.later aI).later aA) (aY.later aA) (by have:=bK.out;rw [aX.len] at this;omega) (by have:=bH.out;rw [aY.len] at this;omega)
  have HG:=Lib.hid hg
  clear hg
  go_wp2_with fail
  refine HG.out.mono ?_
  rintro e w8 ⟨A8,m8,c8,rfl,bM,aK⟩
  have ho:=zbo A8 m8 c8 _ w8 bM
  have bI:=(aD.below aA aD.cells.2.2.2.2.2.2).below aK (by have:=aD.cells.2.2.2.2.2.2;simp;omega)
  have aV:Below w.heap.size w (w6.alloc (.cells #[.bool false,.slice A5 m5 c5,.slice A6 m6 c6] 91)):=aF.trans (aA.mono aF.size)
  have bQ:Below w.heap.size w w8:=aV.trans (aK.mono aV.size)
  have bN:zad w8 w6.heap.size false (.slice A5 m5 c5) (.slice A6 m6 c6):=(zad.new w6 _ _ _).below aK (by simp)
  obtain ⟨k0,k1,k2,f0,f1,f2,_⟩:=bI.cells
  obtain ⟨x0,x1,x2,_,_,_,_⟩:=bN.cells
  rw [aW.out,HGC.out] at ho
  go_wp2_with fail
  refine ho.mono ?_
  rintro e w9 ⟨rfl,rfl⟩
  have aE:=zak bQ (g:=w.heap.size) (Nat.le_refl _) (.bool false) (.slice none 0 0) (.slice none 0 0)
  go_wp2
  refine bodyPost_ret (v := .tuple #[.agg #[.bool false,.slice none 0 0,.slice none 0 0],.int .i64 1]) (by simp [results,Tryz.results63,go_sem,k0,k1,k2]) rfl ⟨_,rfl,RatS.zero _ _,aE⟩
 ·have bL:Below w.heap.size w (w.alloc (.cells #[.bool false,.slice none 0 0,.slice none 0 0] 91)):=(Below.refl _ _).alloc (Nat.le_refl _) _
  go_enter Tryz.func63,Tryz.ntmps63
  go_wp2_with fail
  refine hc.mono ?_
  rintro e w1 ⟨⟨a,b,rfl,ha,hb⟩,n,rfl⟩
  go_wp2_with fail
  refine (hcp a _ ha).mono ?_
  rintro e w2 ⟨rfl,rfl⟩
  have aG:=zaj t ((w.alloc (.cells #[.bool false,.slice none 0 0,.slice none 0 0] 91)).drewN n)
  rw [D1] at aG
  go_wp2_with fail
  refine aG.mono ?_
  rintro e w3 ⟨rfl,aS⟩
  have aU:Below w.heap.size w w3:=(zab bL n).trans (aS.mono (by simp))
  have bC:zad w3 w.heap.size false (.slice none 0 0) (.slice none 0 0):=by
   have h:=zad.new w false (.slice none 0 0) (.slice none 0 0)
   exact zad.below (w:=(w.alloc (.cells #[.bool false,.slice none 0 0,.slice none 0 0] 91)).drewN n) h aS (by simp)
  have aH:=zaj b w3
  rw [hb,D2] at aH
  have bR:(b.toList==[48])=false:=by rw [ByteArray.toList_eq,hb];exact d48
  have bT:(b.toList==[49])=false:=by rw [ByteArray.toList_eq,hb];exact d49
  have aN:b.size=c2.length:=by rw [←hb];simp
  have bB:=Lib.hid aN
  have aW:=Lib.hid hb
  clear hb ha aN
  go_wp2_with fail
  refine aH.mono ?_
  rintro e w4 ⟨rfl,aR⟩
  have aZ:Below w.heap.size w w4:=aU.trans (aR.mono aU.size)
  have aO:=bC.below aR bC.cells.2.2.2.2.2.2
  clear aH
  have bS:decide ((600:Int)<max (t.size:Int) (b.size:Int))=false:=by
   have h:=bB.out
   have h2:=HLN.out
   simp only [decide_eq_false_iff_not]
   omega
  have aJ:=zax D1
  have aL:zas b.data.toList=true:=by rw [aW.out];exact zax D2
  have bP:=HLN.out
  have bE:b.size≤600:=by have:=bB.out;omega
  have aT:=zaQ t w4 aJ (by omega)
  have aM:=fun W:World=>zaQ b W aL (by omega)
  have bG:t.data.toList.length=t.size:=by simp
  have bF:b.data.toList.length=b.size:=by simp
  have bD:(digs (zai t.data.toList)).length≤600:=zaG aJ (by omega)
  have aC:(digs (zai b.data.toList)).length≤600:=zaG aL (by omega)
  have bJ:=Lib.hid aT
  have bO:=Lib.hid aM
  have bK:=Lib.hid bD
  have bH:=Lib.hid aC
  clear aG aT aJ aL aM bD aC bP bE bG bF
  go_wp2_with fail
  refine bJ.out.mono ?_
  rintro e w5 ⟨A5,m5,c5,rfl,aX,bA⟩
  have aQ:=aO.below bA aO.cells.2.2.2.2.2.2
  have aP:Below w.heap.size w w5:=aZ.trans (bA.mono aZ.size)
  go_wp2_with fail
  refine (bO.out w5).mono ?_
  rintro e w6 ⟨A6,m6,c6,rfl,aY,aI⟩
  have aD:=aQ.below aI aQ.cells.2.2.2.2.2.2
  have aF:Below w.heap.size w w6:=aP.trans (aI.mono aP.size)
  have aA:Below w6.heap.size w6 (w6.alloc (.cells #[.bool true,.slice A5 m5 c5,.slice A6 m6 c6] 91)):=(Below.refl _ _).alloc (Nat.le_refl _) _
  have hg:=zdG A5 A6 m5 c5 m6 c6 _ _ (w6.alloc (.cells #[.bool true,.slice A5 m5 c5,.slice A6 m6 c6] 91)) ((hT.later aF).later aA) ((aX.later aI).later aA) (aY.later aA) (by have:=bK.out;rw [aX.len] at this;omega) (by have:=bH.out;rw [aY.len] at this;omega)
  have HG:=Lib.hid hg
  clear hg
  go_wp2_with fail
  refine HG.out.mono ?_
  rintro e w8 ⟨A8,m8,c8,rfl,bM,aK⟩
  have ho:=zbo A8 m8 c8 _ w8 bM
  have bI:=(aD.below aA aD.cells.2.2.2.2.2.2).below aK (by have:=aD.cells.2.2.2.2.2.2;simp;omega)
  have aV:Below w.heap.size w (w6.alloc (.cells #[.bool true,.slice A5 m5 c5,.slice A6 m6 c6] 91)):=aF.trans (aA.mono aF.size)
  have bQ:Below w.heap.size w w8:=aV.trans (aK.mono aV.size)
  have bN:zad w8 w6.heap.size true (.slice A5 m5 c5) (.slice A6 m6 c6):=(zad.new w6 _ _ _).below aK (by simp)
  obtain ⟨k0,k1,k2,f0,f1,f2,_⟩:=bI.cells
  obtain ⟨x0,x1,x2,_,_,_,_⟩:=bN.cells
  rw [aW.out,HGC.out] at ho
  go_wp2_with fail
  refine ho.mono ?_
  rintro e w9 ⟨rfl,rfl⟩
  have aE:=zak bQ (g:=w.heap.size) (Nat.le_refl _) (.bool false) (.slice none 0 0) (.slice none 0 0)
  go_wp2
  refine bodyPost_ret (v := .tuple #[.agg #[.bool false,.slice none 0 0,.slice none 0 0],.int .i64 1]) (by simp [results,Tryz.results63,go_sem,k0,k1,k2]) rfl ⟨_,rfl,RatS.zero _ _,aE⟩
set_option maxHeartbeats 1000000 in
theorem zbC (s:ByteArray) (w:World) (hT:Tabs w) (hs:s.size≤4294967296) :
  Calls Tryz.prog 63 #[.string s] w (zay w (zag s.data.toList) (zam s.data.toList)):=by
 have hc:=zkS s (w.alloc (.cells #[.bool false,.slice none 0 0,.slice none 0 0] 91)) hs
 have aK:=zhu s.data.toList
 unfold zag zam topL negL botL zel
 generalize cutL s.data.toList=C at hc aK ⊢
 obtain ⟨c1,c2,c3⟩:=C
 dsimp only at hc aK ⊢
 obtain ⟨t,ht⟩:∃ t:ByteArray,t=⟨(Lib.trimPrefix c1 [45]).toArray⟩:=⟨_,rfl⟩
 have aN:Lib.trimPrefix c1 [45]=t.data.toList:=by rw [ht]
 obtain ⟨aC,aG⟩:∃ aC,Lib.hasPrefix c1 [45]=aC:=⟨_,rfl⟩
 have aE:∀ (a:ByteArray) (W:World),a.data.toList=c1→Calls Tryz.prog 123 #[.string a,.string { data:=#[45] }] W fun e w'=>e = .returned (.tuple #[.string t,.bool aC])∧W=w':=by
  intro a W ha
  have h:=Tryz.strings_CutPrefix a ⟨#[45]⟩ W
  have aQ:(⟨#[45]⟩:ByteArray).data.toList=[45]:=rfl
  rw [aQ,ha,←ht,aG] at h
  exact h.mono fun _ _ ⟨x,y⟩=>⟨x,y.symm⟩
 rw [aN,aG]
 clear ht aN aG
 have aP:t.data.toList.length=t.size:=by simp
 have aF:(t.toList==[48])=decide (t.data.toList=[48]):=by rw [ByteArray.toList_eq,Bool.eq_iff_iff];simp
 generalize aD:t.data.toList=td at aP aF ⊢
 have hE:∀ x,zbb td c2 aC c3=x→x≠0→Calls Tryz.prog 63 #[.string s] w (zay w ⟨false,0,0⟩ x)→Calls Tryz.prog 63 #[.string s] w (zay w (if zbb td c2 aC c3=0 then ⟨aC,zai td,if c3=true then zai c2 else 1⟩ else ⟨false,0,0⟩) (zbb td c2 aC c3)):=by
  intro x hx h0 h
  rw [hx,if_neg h0];exact h
 by_cases D1:zaz td=true
 ·by_cases hz:aC=true∧td=[48]
  ·refine hE 1 (by unfold zbb;rw [if_pos (.inr hz)]) (by omega) (zjY s t c1 c2 aC c3 w hc aE (by rw [aD];exact D1) (by rw [aF];simpa using hz.2) hz.1)
  ·have hn:(aC && decide (td=[48]))=false:=by
    rw [Bool.eq_false_iff];intro h;simp at h;exact hz h
   have aA:¬ (zaz td=false∨(aC=true∧td=[48])):=by
    rintro (h | h)
    ·rw [D1] at h;cases h
    ·exact hz h
   cases c3
   ·have aL:=aK rfl
    by_cases hl:600<td.length
    ·refine hE 4 (by unfold zbb;rw [if_neg aA,if_neg (by simp),if_pos (.inl hl)]) (by omega) (zlF s t c1 c2 aC false w hc aE (by rw [aD];exact D1) _ aF hn rfl aL (.inl (by omega)))
    ·have hv:zbb td c2 aC false=0:=by unfold zbb;rw [if_neg aA,if_neg (by simp),if_neg (by rw [aL];simp;omega),if_neg (by simp)]
     rw [hv,if_pos rfl]
     have h:=zjG s t c1 c2 aC false w hc aE (by rw [aD];exact D1) _ aF hn rfl aL ⟨by omega,by omega⟩
     rw [aD] at h
     simpa using h
   ·by_cases D2:zaz c2=true
    ·by_cases h48:c2=[48]
     ·refine hE 1 (by unfold zbb;rw [if_neg aA,if_pos ⟨rfl,.inr (.inl h48)⟩]) (by omega) (zkH s t c1 c2 aC true w hc aE (by rw [aD];exact D1) _ aF hn (c2==[49]) rfl D2 (by simpa using h48) rfl)
     ·have aI:(c2==[48])=false:=by simpa using h48
      by_cases h49:c2=[49]
      ·refine hE 1 (by unfold zbb;rw [if_neg aA,if_pos ⟨rfl,.inr (.inr h49)⟩]) (by omega) (zlG s t c1 c2 aC true w hc aE (by rw [aD];exact D1) _ aF hn rfl D2 aI (by simpa using h49))
      ·have aJ:(c2==[49])=false:=by simpa using h49
       have aH:¬ (true=true∧(zaz c2=false∨c2=[48]∨c2=[49])):=by
        rintro ⟨_,h | h | h⟩
        ·rw [D2] at h;cases h
        ·exact h48 h
        ·exact h49 h
       by_cases hl:600<td.length∨600<c2.length
       ·refine hE 4 (by unfold zbb;rw [if_neg aA,if_neg aH,if_pos hl]) (by omega) (zlv s t c1 c2 aC true w hc aE (by rw [aD];exact D1) _ aF hn rfl D2 aI aJ (by unfold Hid;omega))
       ·by_cases hg:Nat.gcd (zai td) (zai c2)=1
        ·have hv:zbb td c2 aC true=0:=by unfold zbb;rw [if_neg aA,if_neg aH,if_neg hl,if_neg (by simp [hg])]
         rw [hv,if_pos rfl]
         have h:=zk6 s t c1 c2 aC true w hc aE (by rw [aD];exact D1) _ aF hn hT rfl D2 aI aJ (by unfold Hid;omega) (by unfold Hid;rw [aD];simpa using hg)
         rw [aD] at h
         simpa using h
        ·refine hE 1 (by unfold zbb;rw [if_neg aA,if_neg aH,if_neg hl,if_pos ⟨rfl,hg⟩]) (by omega) (zkU s t c1 c2 aC true w hc aE (by rw [aD];exact D1) _ aF hn hT rfl D2 aI aJ (by unfold Hid;omega) (by unfold Hid;rw [aD];simpa using hg))
    ·have aM:zaz c2=false:=by simpa using D2
     refine hE 1 (by unfold zbb;rw [if_neg aA,if_pos ⟨rfl,.inl aM⟩]) (by omega) (zka s t c1 c2 aC true w hc aE (by rw [aD];exact D1) _ aF hn (c2==[48]) (c2==[49]) rfl aM rfl rfl)
 ·have aO:zaz td=false:=by simpa using D1
  refine hE 1 (by unfold zbb;rw [if_pos (.inl aO)]) (by omega) (zk9 s t c1 c2 aC c3 w hc aE (by rw [aD];exact aO))
end Go.Proofs.YteajibbphcfmeaaGreatDoor
