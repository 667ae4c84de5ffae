/- Contract of negated of a rational number. -/
import Derived.Test.YtbkgkoenppkhpaaGreatDoorGRat1
import Derived.Test.YtbkgkoenppkhpaaGreatDoorGNat3
import Derived.Lib.ItoaNum
set_option maxRecDepth 100000
set_option maxHeartbeats 8000000
namespace Go.Proofs.YtbkgkoenppkhpaaGreatDoor
open Go.RowKit Bn
theorem zgj (b:Bool) (x y:Nat) (A1 A2:Option Addr) (n1 c1 n2 c2:Nat) (w:World) (h1:NatS w w.heap.size A1 n1 c1 x) (h2:NatS w w.heap.size A2 n2 c2 y) :
  Calls Tryz.prog 174 #[.agg #[.bool b,.slice A1 n1 c1,.slice A2 n2 c2]] w (za2 w ⟨!b && !decide (x=0),x,y⟩):=by
 go_enter Tryz.func174,Tryz.ntmps174
 cases b
 ·go_wp2_with fail
  have aH:Below w.heap.size w ((w.alloc (.cells #[.bool false,.slice A1 n1 c1,.slice A2 n2 c2] 87)).alloc (.cells #[.bool false,.slice none 0 0,.slice none 0 0] 87)):=((Below.refl _ _).alloc (Nat.le_refl _) _).alloc (by simp) _;have aJ:zae ((w.alloc (.cells #[.bool false,.slice A1 n1 c1,.slice A2 n2 c2] 87)).alloc (.cells #[.bool false,.slice none 0 0,.slice none 0 0] 87)) w.heap.size false (.slice A1 n1 c1) (.slice A2 n2 c2):=(zae.new w _ _ _).below ((Below.refl _ _).alloc (Nat.le_refl _) _) (by simp);have aG:zae ((w.alloc (.cells #[.bool false,.slice A1 n1 c1,.slice A2 n2 c2] 87)).alloc (.cells #[.bool false,.slice none 0 0,.slice none 0 0] 87)) (w.heap.size+1) false (.slice none 0 0) (.slice none 0 0):=by
   have h:=zae.new (w.alloc (.cells #[.bool false,.slice A1 n1 c1,.slice A2 n2 c2] 87)) false (.slice none 0 0) (.slice none 0 0)
   simpa using h
  generalize ((w.alloc (.cells #[.bool false,.slice A1 n1 c1,.slice A2 n2 c2] 87)).alloc (.cells #[.bool false,.slice none 0 0,.slice none 0 0] 87))=w3 at *;obtain ⟨a0,a1,a2,_,_,_,al⟩:=aJ.cells;have aD:Below w.heap.size w w3.drew:=aH.drew;have aA:zae w3.drew (w.heap.size+1) false (.slice none 0 0) (.slice none 0 0):=aG;have cl:w.heap.size+1<w3.drew.heap.size:=aA.cells.2.2.2.2.2.2;obtain ⟨d0,d1,d2,f0,f1,f2,_⟩:=aA.cells
  go_region_held3 (fun w'=>w'.cell? ⟨w.heap.size,0,none⟩=some (.bool false)∧w'.cell? ⟨w.heap.size,1,none⟩=some (.slice A1 n1 c1)∧w'.cell? ⟨w.heap.size,2,none⟩=some (.slice A2 n2 c2))
   (first | exact ⟨a0,a1,a2⟩ | exact ⟨((aE.cell (p:=⟨w.heap.size,0,none⟩) al).trans a0),((aE.cell (p:=⟨w.heap.size,1,none⟩) al).trans a1),((aE.cell (p:=⟨w.heap.size,2,none⟩) al).trans a2)⟩ | exact ⟨((far3 _ _ _ _ (by dsimp only;omega)).trans a0),((far3 _ _ _ _ (by dsimp only;omega)).trans a1),((far3 _ _ _ _ (by dsimp only;omega)).trans a2)⟩ | exact ⟨((far3 _ _ _ _ (by dsimp only;omega)).trans ((aE.cell (p:=⟨w.heap.size,0,none⟩) al).trans a0)),((far3 _ _ _ _ (by dsimp only;omega)).trans ((aE.cell (p:=⟨w.heap.size,1,none⟩) al).trans a1)),((far3 _ _ _ _ (by dsimp only;omega)).trans ((aE.cell (p:=⟨w.heap.size,2,none⟩) al).trans a2))⟩)
   (first
    |(go_at_call 97;refine (zc7 _ x A1 A2 n1 c1 n2 c2 w3.drew (h1.later aD)).mono ?_;rintro e w4 ⟨rfl,aE⟩;have aI:=aA.below aE cl;obtain ⟨e0,e1,e2,g0,g1,g2,gl⟩:=aI.cells))
  go_wp2_with fail
  have aC:Below w.heap.size w w4:=Ad aD aE;have aF:=zan aC (g:=w.heap.size+1) (by omega) (.bool (!decide (x=0))) (.slice A1 n1 c1) (.slice A2 n2 c2);refine bodyPost_ret (v := .agg #[.bool (!decide (x=0)),.slice A1 n1 c1,.slice A2 n2 c2]) (by simp [results,Tryz.results174,go_sem,e0,e1,e2]) rfl ⟨_,rfl,⟨A1,n1,c1,A2,n2,c2,by simp,?_,?_⟩,aF⟩
  ·rw [zag];exact (h1.later aC).res aI _ _ _
  ·rw [zag];exact (h2.later aC).res aI _ _ _
 ·go_wp2_with fail
  have aH:Below w.heap.size w ((w.alloc (.cells #[.bool true,.slice A1 n1 c1,.slice A2 n2 c2] 87)).alloc (.cells #[.bool false,.slice none 0 0,.slice none 0 0] 87)):=((Below.refl _ _).alloc (Nat.le_refl _) _).alloc (by simp) _;have aJ:zae ((w.alloc (.cells #[.bool true,.slice A1 n1 c1,.slice A2 n2 c2] 87)).alloc (.cells #[.bool false,.slice none 0 0,.slice none 0 0] 87)) w.heap.size true (.slice A1 n1 c1) (.slice A2 n2 c2):=(zae.new w _ _ _).below ((Below.refl _ _).alloc (Nat.le_refl _) _) (by simp);have aG:zae ((w.alloc (.cells #[.bool true,.slice A1 n1 c1,.slice A2 n2 c2] 87)).alloc (.cells #[.bool false,.slice none 0 0,.slice none 0 0] 87)) (w.heap.size+1) false (.slice none 0 0) (.slice none 0 0):=by
   have h:=zae.new (w.alloc (.cells #[.bool true,.slice A1 n1 c1,.slice A2 n2 c2] 87)) false (.slice none 0 0) (.slice none 0 0)
   simpa using h
  generalize ((w.alloc (.cells #[.bool true,.slice A1 n1 c1,.slice A2 n2 c2] 87)).alloc (.cells #[.bool false,.slice none 0 0,.slice none 0 0] 87))=w3 at *;obtain ⟨a0,a1,a2,_,_,_,al⟩:=aJ.cells;have aD:Below w.heap.size w w3.drew:=aH.drew;have aA:zae w3.drew (w.heap.size+1) false (.slice none 0 0) (.slice none 0 0):=aG;have cl:w.heap.size+1<w3.drew.heap.size:=aA.cells.2.2.2.2.2.2;obtain ⟨d0,d1,d2,f0,f1,f2,_⟩:=aA.cells;obtain ⟨x0,x1,x2,y0,y1,y2,_⟩:=aG.cells
  go_region
  go_wp2_with fail
  have aF:=(zan aH (g:=w.heap.size+1) (by omega) (.bool false) (.slice A1 n1 c1) (.slice A2 n2 c2)).drew;refine bodyPost_ret (v := .agg #[.bool false,.slice A1 n1 c1,.slice A2 n2 c2]) (by simp [results,Tryz.results174,go_sem,x0,x1,x2]) rfl ⟨_,rfl,⟨A1,n1,c1,A2,n2,c2,by simp,?_,?_⟩,aF⟩
  ·show NatS _ (((w3.setCell _ _).setCell _ _).setCell _ _).heap.size _ _ _ _
   rw [zag];exact (h1.later aD).res aA _ _ _
  ·show NatS _ (((w3.setCell _ _).setCell _ _).setCell _ _).heap.size _ _ _ _
   rw [zag];exact (h2.later aD).res aA _ _ _
theorem zgV (z:Int):IntKind.u64.wrap z=z % 18446744073709551616:=by
 first | rfl | (unfold IntKind.wrap;rfl) | (unfold IntKind.wrap IntKind.signed IntKind.bits;simp)
theorem zed (z:Int) (w:World) (h0 : -9223372036854775808≤z) (h1:z<9223372036854775808) :
  Calls Tryz.prog 85 #[.int .i64 z] w (za2 w ⟨decide (z<0),z.natAbs,1⟩):=by
 have aF:Below w.heap.size w (w.alloc (.cells #[.bool false,.slice none 0 0,.slice none 0 0] 87)):=Ac;go_enter Tryz.func85,Tryz.ntmps85
 by_cases hz:z<0
 ·have hd:decide (z<0)=true:=by simpa using hz
  have aJ:IntKind.u64.wrap z=z+18446744073709551616:=by rw [zgV];omega
  have aK:IntKind.u64.wrap (-(z+18446744073709551616)) = -z:=by rw [zgV];omega
  go_wp2_with fail
  refine (zai (-z) _ (by omega) (by omega)).mono ?_;rintro e w4 ⟨A5,m5,c5,rfl,aI,aC⟩
  go_wp2_with fail
  refine (zai 1 _ (by omega) (by omega)).mono ?_;rintro e w6 ⟨A6,m6,c6,rfl,aH,aD⟩;have hk:=((zae.new w false (.slice none 0 0) (.slice none 0 0)).below aC (by simp)).below aD (by have:=aC.size;simp at this;omega);obtain ⟨k0,k1,k2,f0,f1,f2,_⟩:=hk.cells;have aA:=(aF.trans (aC.mono aF.size)).trans (aD.mono (by have:=aC.size;simp at this;omega));have aE:=zan aA (g:=w.heap.size) (Nat.le_refl _) (.bool true) (.slice A5 m5 c5) (.slice A6 m6 c6);have aG:(-z).toNat=z.natAbs:=by omega
  go_wp2
  refine bodyPost_ret (v := .agg #[.bool true,.slice A5 m5 c5,.slice A6 m6 c6]) (by simp [results,Tryz.results85,go_sem,k0,k1,k2]) rfl ⟨_,rfl,⟨A5,m5,c5,A6,m6,c6,by rw [hd],?_,?_⟩,aE⟩
  ·rw [zag];show NatS _ _ A5 m5 c5 z.natAbs;rw [←aG];exact (aI.later aD).res hk _ _ _
  ·rw [zag];exact aH.res hk _ _ _
 ·have hd:decide (z<0)=false:=by simpa using hz
  have aJ:IntKind.u64.wrap z=z:=by rw [zgV];omega
  go_wp2_with fail
  refine (zai (z) _ (by omega) (by omega)).mono ?_;rintro e w4 ⟨A5,m5,c5,rfl,aI,aC⟩
  go_wp2_with fail
  refine (zai 1 _ (by omega) (by omega)).mono ?_;rintro e w6 ⟨A6,m6,c6,rfl,aH,aD⟩;have hk:=((zae.new w false (.slice none 0 0) (.slice none 0 0)).below aC (by simp)).below aD (by have:=aC.size;simp at this;omega);obtain ⟨k0,k1,k2,f0,f1,f2,_⟩:=hk.cells;have aA:=(aF.trans (aC.mono aF.size)).trans (aD.mono (by have:=aC.size;simp at this;omega));have aE:=zan aA (g:=w.heap.size) (Nat.le_refl _) (.bool false) (.slice A5 m5 c5) (.slice A6 m6 c6);have aG:(z).toNat=z.natAbs:=by omega
  go_wp2
  refine bodyPost_ret (v := .agg #[.bool false,.slice A5 m5 c5,.slice A6 m6 c6]) (by simp [results,Tryz.results85,go_sem,k0,k1,k2]) rfl ⟨_,rfl,⟨A5,m5,c5,A6,m6,c6,by rw [hd],?_,?_⟩,aE⟩
  ·rw [zag];show NatS _ _ A5 m5 c5 z.natAbs;rw [←aG];exact (aI.later aD).res hk _ _ _
  ·rw [zag];exact aH.res hk _ _ _
def zbp (q:Q):Q:=⟨q.neg,if q.neg=true∧q.top % q.bot≠0 then q.top / q.bot+1 else q.top / q.bot,1⟩
theorem zh2 (b:Bool) (x y:Nat) (A1 A2:Option Addr) (n1 c1 n2 c2:Nat) (w:World) (h1:NatS w w.heap.size A1 n1 c1 x) (h2:NatS w w.heap.size A2 n2 c2 y) (hy:0<y) (k1:n1≤268435456) :
  Calls Tryz.prog 113 #[.agg #[.bool b,.slice A1 n1 c1,.slice A2 n2 c2]] w (za2 w (zbp ⟨b,x,y⟩)):=by
 have aO:Below w.heap.size w ((w.alloc (.cells #[.bool b,.slice A1 n1 c1,.slice A2 n2 c2] 87)).alloc (.cells #[.bool false,.slice none 0 0,.slice none 0 0] 87)):=((Below.refl _ _).alloc (Nat.le_refl _) _).alloc (by simp) _;go_enter Tryz.func113,Tryz.ntmps113
 go_wp2_with fail
 refine (zdL A1 A2 n1 c1 n2 c2 x y _ (h1.later aO) (h2.later aO) hy (by omega)).mono ?_;rintro e w4 ⟨A5,m5,c5,A6,m6,c6,rfl,hq,hr,aQ⟩;have aM:Below w.heap.size w w4:=Ad aO aQ;have aN:=((zae.new w b (.slice A1 n1 c1) (.slice A2 n2 c2)).below ((Below.refl _ _).alloc (Nat.le_refl _) (.cells #[.bool false,.slice none 0 0,.slice none 0 0] 87)) (by simp)).below aQ (by simp;omega);have aJ:zae w4 (w.heap.size+1) false (.slice none 0 0) (.slice none 0 0):=by
  have h:=(zae.new (w.alloc (.cells #[.bool b,.slice A1 n1 c1,.slice A2 n2 c2] 87)) false (.slice none 0 0) (.slice none 0 0)).below aQ (by simp)
  simpa using h
 obtain ⟨z0,z1,z2,_,_,_,zl⟩:=aN.cells;have aT:(digs (x / y)).length≤n1:=zad (Nat.lt_of_le_of_lt (Nat.div_le_self x y) (by have:=zab x;rw [h1.len] at this;exact this))
 cases b
 ·have aF:(zbp ⟨false,x,y⟩).top=x / y:=by simp [zbp]
  go_wp2_with fail
  have hW:=aM;have aG:=aN;have aE:=aJ;have aI:=hq;obtain ⟨a0,a1,a2,_,_,_,al⟩:=aG.cells;have aD:zae w4.drew (w.heap.size+1) false (.slice none 0 0) (.slice none 0 0):=aE;have cl:w.heap.size+1<w4.drew.heap.size:=aD.cells.2.2.2.2.2.2
  go_region_held3 (fun w'=>w'.cell? ⟨w.heap.size,0,none⟩=some (.bool false)∧w'.cell? ⟨w.heap.size,1,none⟩=some (.slice A1 n1 c1)∧w'.cell? ⟨w.heap.size,2,none⟩=some (.slice A2 n2 c2))
   (first | exact ⟨a0,a1,a2⟩ | exact ⟨((aA.cell (p:=⟨w.heap.size,0,none⟩) al).trans a0),((aA.cell (p:=⟨w.heap.size,1,none⟩) al).trans a1),((aA.cell (p:=⟨w.heap.size,2,none⟩) al).trans a2)⟩ | exact ⟨((far3 _ _ _ _ (by dsimp only;omega)).trans ((aA.cell (p:=⟨w.heap.size,0,none⟩) al).trans a0)),((far3 _ _ _ _ (by dsimp only;omega)).trans ((aA.cell (p:=⟨w.heap.size,1,none⟩) al).trans a1)),((far3 _ _ _ _ (by dsimp only;omega)).trans ((aA.cell (p:=⟨w.heap.size,2,none⟩) al).trans a2))⟩)
   (first | (go_at_call 86;refine (zai 1 w4.drew (by omega) (by omega)).mono ?_;rintro e w8 ⟨A8,m8,c8,rfl,aK,aA⟩;have hk:=aD.below aA cl;obtain ⟨e0,e1,e2,g0,g1,g2,gl⟩:=hk.cells))
  go_wp2_with fail
  have aC:Below w.heap.size w w8:=hW.drew.trans (aA.mono hW.size);have aH:=zan aC (g:=w.heap.size+1) (by omega) (.bool false) (.slice A5 m5 c5) (.slice A8 m8 c8);refine bodyPost_ret (v := .agg #[.bool false,.slice A5 m5 c5,.slice A8 m8 c8]) (by simp [results,Tryz.results113,go_sem,e0,e1,e2]) rfl ⟨_,rfl,⟨A5,m5,c5,A8,m8,c8,by rfl,?_,?_⟩,aH⟩
  ·rw [zag,aF];exact (aI.later (Below.drew (Below.refl _ _) |>.trans aA)).res hk _ _ _
  ·rw [zag];exact aK.res hk _ _ _
 ·go_wp2_with fail
  refine (zaJ A6 m6 c6 (x % y) _ hr).mono ?_;rintro e w5 ⟨rfl,rfl⟩
  by_cases h0:x % y=0
  ·have aF:(zbp ⟨true,x,y⟩).top=x / y:=by simp [zbp,h0]
   have hd:decide (x % y=0)=true:=by simpa using h0
   rw [hd]
   go_wp2_with fail
   have hW:=aM;have aG:=aN;have aE:=aJ;have aI:=hq;obtain ⟨a0,a1,a2,_,_,_,al⟩:=aG.cells;have aD:zae w4.drew (w.heap.size+1) false (.slice none 0 0) (.slice none 0 0):=aE;have cl:w.heap.size+1<w4.drew.heap.size:=aD.cells.2.2.2.2.2.2
   go_region_held3 (fun w'=>w'.cell? ⟨w.heap.size,0,none⟩=some (.bool true)∧w'.cell? ⟨w.heap.size,1,none⟩=some (.slice A1 n1 c1)∧w'.cell? ⟨w.heap.size,2,none⟩=some (.slice A2 n2 c2))
    (first | exact ⟨a0,a1,a2⟩ | exact ⟨((aA.cell (p:=⟨w.heap.size,0,none⟩) al).trans a0),((aA.cell (p:=⟨w.heap.size,1,none⟩) al).trans a1),((aA.cell (p:=⟨w.heap.size,2,none⟩) al).trans a2)⟩ | exact ⟨((far3 _ _ _ _ (by dsimp only;omega)).trans ((aA.cell (p:=⟨w.heap.size,0,none⟩) al).trans a0)),((far3 _ _ _ _ (by dsimp only;omega)).trans ((aA.cell (p:=⟨w.heap.size,1,none⟩) al).trans a1)),((far3 _ _ _ _ (by dsimp only;omega)).trans ((aA.cell (p:=⟨w.heap.size,2,none⟩) al).trans a2))⟩)
    (first | (go_at_call 86;refine (zai 1 w4.drew (by omega) (by omega)).mono ?_;rintro e w8 ⟨A8,m8,c8,rfl,aK,aA⟩;have hk:=aD.below aA cl;obtain ⟨e0,e1,e2,g0,g1,g2,gl⟩:=hk.cells))
   go_wp2_with fail
   have aC:Below w.heap.size w w8:=hW.drew.trans (aA.mono hW.size);have aH:=zan aC (g:=w.heap.size+1) (by omega) (.bool true) (.slice A5 m5 c5) (.slice A8 m8 c8);refine bodyPost_ret (v := .agg #[.bool true,.slice A5 m5 c5,.slice A8 m8 c8]) (by simp [results,Tryz.results113,go_sem,e0,e1,e2]) rfl ⟨_,rfl,⟨A5,m5,c5,A8,m8,c8,by rfl,?_,?_⟩,aH⟩
   ·rw [zag,aF];exact (aI.later (Below.drew (Below.refl _ _) |>.trans aA)).res hk _ _ _
   ·rw [zag];exact aK.res hk _ _ _
  ·have aF:(zbp ⟨true,x,y⟩).top=x / y+1:=by simp [zbp,h0]
   have hd:decide (x % y=0)=false:=by simpa using h0
   rw [hd]
   go_wp2_with fail
   refine (zai 1 _ (by omega) (by omega)).mono ?_;rintro e w6 ⟨A9,m9,c9,rfl,aR,aL⟩
   go_wp2_with fail
   refine (zcF A5 A9 m5 c5 m9 c9 _ _ _ (hq.later aL) aR (by have:=hq.len;omega) (by have:=aR.len;have h3:(digs (Int.toNat 1)).length≤1:=zad (by decide);omega)).mono ?_;rintro e w7 ⟨A7,m7,c7,rfl,aS,aP⟩
   go_wp2_with fail
   have s4:=aM.size;have s9:=aL.size;have hW:Below w.heap.size w w7:=(aM.trans (aL.mono s4)).trans (aP.mono (by omega));have aG:=(aN.below aL zl).below aP (by omega);have aE:=(aJ.below aL aJ.cells.2.2.2.2.2.2).below aP (by have:=aJ.cells.2.2.2.2.2.2;omega);have aI:=aS;obtain ⟨a0,a1,a2,_,_,_,al⟩:=aG.cells;have aD:zae w7.drew (w.heap.size+1) false (.slice none 0 0) (.slice none 0 0):=aE;have cl:w.heap.size+1<w7.drew.heap.size:=aD.cells.2.2.2.2.2.2
   go_region_held3 (fun w'=>w'.cell? ⟨w.heap.size,0,none⟩=some (.bool true)∧w'.cell? ⟨w.heap.size,1,none⟩=some (.slice A1 n1 c1)∧w'.cell? ⟨w.heap.size,2,none⟩=some (.slice A2 n2 c2))
    (first | exact ⟨a0,a1,a2⟩ | exact ⟨((aA.cell (p:=⟨w.heap.size,0,none⟩) al).trans a0),((aA.cell (p:=⟨w.heap.size,1,none⟩) al).trans a1),((aA.cell (p:=⟨w.heap.size,2,none⟩) al).trans a2)⟩ | exact ⟨((far3 _ _ _ _ (by dsimp only;omega)).trans ((aA.cell (p:=⟨w.heap.size,0,none⟩) al).trans a0)),((far3 _ _ _ _ (by dsimp only;omega)).trans ((aA.cell (p:=⟨w.heap.size,1,none⟩) al).trans a1)),((far3 _ _ _ _ (by dsimp only;omega)).trans ((aA.cell (p:=⟨w.heap.size,2,none⟩) al).trans a2))⟩)
    (first | (go_at_call 86;refine (zai 1 w7.drew (by omega) (by omega)).mono ?_;rintro e w8 ⟨A8,m8,c8,rfl,aK,aA⟩;have hk:=aD.below aA cl;obtain ⟨e0,e1,e2,g0,g1,g2,gl⟩:=hk.cells))
   go_wp2_with fail
   have aC:Below w.heap.size w w8:=hW.drew.trans (aA.mono hW.size);have aH:=zan aC (g:=w.heap.size+1) (by omega) (.bool true) (.slice A7 m7 c7) (.slice A8 m8 c8);refine bodyPost_ret (v := .agg #[.bool true,.slice A7 m7 c7,.slice A8 m8 c8]) (by simp [results,Tryz.results113,go_sem,e0,e1,e2]) rfl ⟨_,rfl,⟨A7,m7,c7,A8,m8,c8,by rfl,?_,?_⟩,aH⟩
   ·rw [zag,aF];exact (aI.later (Below.drew (Below.refl _ _) |>.trans aA)).res hk _ _ _
   ·rw [zag];exact aK.res hk _ _ _
def zdo (p q:Q):Q:=
 if p.neg=q.neg then lowQ p.neg (p.top*q.bot+q.top*p.bot) (p.bot*q.bot)
 else if p.top*q.bot<q.top*p.bot then lowQ q.neg (q.top*p.bot - p.top*q.bot) (p.bot*q.bot)
 else lowQ p.neg (p.top*q.bot - q.top*p.bot) (p.bot*q.bot)
theorem zeD {a b x y:Nat} (hx:(digs x).length≤a) (hy:(digs y).length≤b):(digs (x+y)).length≤a+b+1:=by
 refine zad ?_;have h1:=zab x;have h2:=zab y;have h3:B ^ (digs x).length≤B ^ (a+b):=Nat.pow_le_pow_right zaO (by omega);have h4:B ^ (digs y).length≤B ^ (a+b):=Nat.pow_le_pow_right zaO (by omega);rw [Nat.pow_succ];have h5:B ^ (a+b)*2≤B ^ (a+b)*B:=Nat.mul_le_mul_left _ (by rw [zdm];omega);omega
theorem zdG (x y:Nat):(digs (x - y)).length≤(digs x).length:=zaa (Nat.sub_le _ _)
theorem zaD {a b x y:Nat} (hx:(digs x).length≤a) (hy:(digs y).length≤b):(digs (x*y)).length≤a+b:=by
 refine zad ?_;rw [Nat.pow_add];have h3:B ^ (digs x).length≤B ^ a:=Nat.pow_le_pow_right zaO hx;have h4:B ^ (digs y).length≤B ^ b:=Nat.pow_le_pow_right zaO hy;exact Nat.mul_lt_mul'' (Nat.lt_of_lt_of_le (zab x) h3) (Nat.lt_of_lt_of_le (zab y) h4)
theorem zit (p q:Q) (A1 A2 A3 A4:Option Addr) (n1 c1 n2 c2 n3 c3 n4 c4:Nat) (w:World) (hT:Tabs w)
  (h1:NatS w w.heap.size A1 n1 c1 p.top) (h2:NatS w w.heap.size A2 n2 c2 p.bot) (h3:NatS w w.heap.size A3 n3 c3 q.top) (h4:NatS w w.heap.size A4 n4 c4 q.bot)
  (k1:n1≤134217728) (k2:n2≤134217728) (k3:n3≤134217728) (k4:n4≤134217728) :
  Calls Tryz.prog 142 #[.agg #[.bool p.neg,.slice A1 n1 c1,.slice A2 n2 c2],.agg #[.bool q.neg,.slice A3 n3 c3,.slice A4 n4 c4]] w (za2 w (zdo p q)):=by
 obtain ⟨bp,x1,x2⟩:=p;obtain ⟨bq,x3,x4⟩:=q
 dsimp only at h1 h2 h3 h4 ⊢
 have bG:Below w.heap.size w (((w.alloc (.cells #[.bool bp,.slice A1 n1 c1,.slice A2 n2 c2] 87)).alloc (.cells #[.bool bq,.slice A3 n3 c3,.slice A4 n4 c4] 87)).alloc (.cells #[.bool false,.slice none 0 0,.slice none 0 0] 87)):=
  (((Below.refl _ _).alloc (Nat.le_refl _) _).alloc (by simp) _).alloc (by simp;omega) _
 have bU:zae (((w.alloc (.cells #[.bool bp,.slice A1 n1 c1,.slice A2 n2 c2] 87)).alloc (.cells #[.bool bq,.slice A3 n3 c3,.slice A4 n4 c4] 87)).alloc (.cells #[.bool false,.slice none 0 0,.slice none 0 0] 87)) (w.heap.size) bp (.slice A1 n1 c1) (.slice A2 n2 c2):=
  (((zae.new w _ _ _).below ((Below.refl _ _).alloc (Nat.le_refl _) _) (by simp))).below ((Below.refl _ _).alloc (Nat.le_refl _) _) (by simp;omega)
 have bW:zae (((w.alloc (.cells #[.bool bp,.slice A1 n1 c1,.slice A2 n2 c2] 87)).alloc (.cells #[.bool bq,.slice A3 n3 c3,.slice A4 n4 c4] 87)).alloc (.cells #[.bool false,.slice none 0 0,.slice none 0 0] 87)) (w.heap.size+1) bq (.slice A3 n3 c3) (.slice A4 n4 c4):=by
  have h:=(zae.new (w.alloc (.cells #[.bool bp,.slice A1 n1 c1,.slice A2 n2 c2] 87)) bq (.slice A3 n3 c3) (.slice A4 n4 c4)).below ((Below.refl _ _).alloc (Nat.le_refl _) (.cells #[.bool false,.slice none 0 0,.slice none 0 0] 87)) (by simp)
  simpa using h
 have bS:zae (((w.alloc (.cells #[.bool bp,.slice A1 n1 c1,.slice A2 n2 c2] 87)).alloc (.cells #[.bool bq,.slice A3 n3 c3,.slice A4 n4 c4] 87)).alloc (.cells #[.bool false,.slice none 0 0,.slice none 0 0] 87)) (w.heap.size+1+1) false (.slice none 0 0) (.slice none 0 0):=by
  have h:=zae.new ((w.alloc (.cells #[.bool bp,.slice A1 n1 c1,.slice A2 n2 c2] 87)).alloc (.cells #[.bool bq,.slice A3 n3 c3,.slice A4 n4 c4] 87)) false (.slice none 0 0) (.slice none 0 0)
  simpa using h
 go_enter Tryz.func142,Tryz.ntmps142
 go_wp2_with fail
 generalize (((w.alloc (.cells #[.bool bp,.slice A1 n1 c1,.slice A2 n2 c2] 87)).alloc (.cells #[.bool bq,.slice A3 n3 c3,.slice A4 n4 c4] 87)).alloc (.cells #[.bool false,.slice none 0 0,.slice none 0 0] 87))=w3 at *;obtain ⟨a0,a1,a2,_,_,_,al⟩:=bU.cells;obtain ⟨b0,b1,b2,_,_,_,bl⟩:=bW.cells;have bK:Below w3.heap.size w3 w3.drew:=Below.drew (Below.refl _ _);have g1:=(h1.later bG).later bK;have g2:=(h2.later bG).later bK;have g3:=(h3.later bG).later bK;have g4:=(h4.later bG).later bK
 go_region_held3 (fun w'=>w'.cell? ⟨w.heap.size,0,none⟩=some (.bool bp)∧w'.cell? ⟨w.heap.size,1,none⟩=some (.slice A1 n1 c1)∧w'.cell? ⟨w.heap.size,2,none⟩=some (.slice A2 n2 c2)∧w'.cell? ⟨w.heap.size+1,0,none⟩=some (.bool bq)∧w'.cell? ⟨w.heap.size+1,1,none⟩=some (.slice A3 n3 c3)∧w'.cell? ⟨w.heap.size+1,2,none⟩=some (.slice A4 n4 c4))
  (first | exact ⟨a0,a1,a2,b0,b1,b2⟩ | exact ⟨((aH.cell (p:=⟨w.heap.size,0,none⟩) al).trans a0),((aH.cell (p:=⟨w.heap.size,1,none⟩) al).trans a1),((aH.cell (p:=⟨w.heap.size,2,none⟩) al).trans a2),((aH.cell (p:=⟨w.heap.size+1,0,none⟩) bl).trans b0),((aH.cell (p:=⟨w.heap.size+1,1,none⟩) bl).trans b1),((aH.cell (p:=⟨w.heap.size+1,2,none⟩) bl).trans b2)⟩ | exact ⟨((aV.cell (p:=⟨w.heap.size,0,none⟩) bR).trans ((aH.cell (p:=⟨w.heap.size,0,none⟩) al).trans a0)),((aV.cell (p:=⟨w.heap.size,1,none⟩) bR).trans ((aH.cell (p:=⟨w.heap.size,1,none⟩) al).trans a1)),((aV.cell (p:=⟨w.heap.size,2,none⟩) bR).trans ((aH.cell (p:=⟨w.heap.size,2,none⟩) al).trans a2)),((aV.cell (p:=⟨w.heap.size+1,0,none⟩) bP).trans ((aH.cell (p:=⟨w.heap.size+1,0,none⟩) bl).trans b0)),((aV.cell (p:=⟨w.heap.size+1,1,none⟩) bP).trans ((aH.cell (p:=⟨w.heap.size+1,1,none⟩) bl).trans b1)),((aV.cell (p:=⟨w.heap.size+1,2,none⟩) bP).trans ((aH.cell (p:=⟨w.heap.size+1,2,none⟩) bl).trans b2))⟩)
  (first
   |(go_at_call_of 90 (Value.slice A1 n1 c1);refine (zaL A1 A4 n1 c1 n4 c4 x1 x4 w3.drew g1 g4 (by omega) (by omega)).mono ?_;rintro e w4 ⟨A5,m5,c5,rfl,bY,aH⟩;have bR:=Nat.lt_of_lt_of_le al aH.size;have bP:=Nat.lt_of_lt_of_le bl aH.size)
   |(go_at_call_of 90 (Value.slice A3 n3 c3);refine (zaL A3 A2 n3 c3 n2 c2 x3 x2 w4 (g3.later aH) (g2.later aH) (by omega) (by omega)).mono ?_;rintro e w6 ⟨A6,m6,c6,rfl,bV,aV⟩))
 have bL:Below w3.heap.size w3 w6:=(bK.trans aH).trans (aV.mono aH.size);have y2:=(bL.cell (p:=⟨w.heap.size,2,none⟩) al).trans a2;have y4:=(bL.cell (p:=⟨w.heap.size+1,2,none⟩) bl).trans b2;have q2:=(g2.later aH).later aV;have q4:=(g4.later aH).later aV;have p5:=bY.later aV;clear g1 g2 g3 g4 bY
 go_wp2_with fail
 refine (zaL A2 A4 n2 c2 n4 c4 x2 x4 w6 q2 q4 (by omega) (by omega)).mono ?_;rintro e w8 ⟨A7,m7,c7,rfl,bM,bO⟩;have bA:Below w3.heap.size w3 w8:=Ad bL bO;have aO:=(bA.cell (p:=⟨w.heap.size,0,none⟩) al).trans a0;have aQ:=(bA.cell (p:=⟨w.heap.size,1,none⟩) al).trans a1;have aM:=(bA.cell (p:=⟨w.heap.size,2,none⟩) al).trans a2;have aP:=(bA.cell (p:=⟨w.heap.size+1,0,none⟩) bl).trans b0;have aN:=(bA.cell (p:=⟨w.heap.size+1,1,none⟩) bl).trans b1;have aL:=(bA.cell (p:=⟨w.heap.size+1,2,none⟩) bl).trans b2;have bN:=bS.below bA bS.cells.2.2.2.2.2.2;have bB:=bN.cells.2.2.2.2.2.2;have aD:=Nat.lt_of_lt_of_le al bA.size;have aE:=Nat.lt_of_lt_of_le bl bA.size;have aS:Below w.heap.size w w8:=Ad bG bA;have bT:=hT.later aS;have r5:=p5.later bO;have r6:=bV.later bO;have l5:m5≤n1+n4:=by have h:=zaD (Nat.le_of_eq h1.len) (Nat.le_of_eq h4.len);rw [r5.len] at h;exact h
 have l6:m6≤n3+n2:=by have h:=zaD (Nat.le_of_eq h3.len) (Nat.le_of_eq h2.len);rw [r6.len] at h;exact h
 have l7:m7≤n2+n4:=by have h:=zaD (Nat.le_of_eq h2.len) (Nat.le_of_eq h4.len);rw [bM.len] at h;exact h
 have bC:=aS.size;clear p5 q2 q4 bV y2 y4 aH aV bO bL bU bW bS a0 a1 a2 b0 b1 b2
 by_cases hs:bp=bq
 ·have HV:Hid (zdo ⟨bp,x1,x2⟩ ⟨bq,x3,x4⟩=lowQ bp (x1*x4+x3*x2) (x2*x4)):=by unfold Hid zdo;rw [if_pos hs]
  have bZ:(bp==bq)=true:=by simpa using hs
  have bF:=zeD (Nat.le_of_eq r5.len) (Nat.le_of_eq r6.len);have aF:Below w8.heap.size w8 w8.drew:=Below.drew (Below.refl _ _);clear hs
  go_wp2_with fail
  go_region_held3 (fun w'=>w'.cell? ⟨w.heap.size,0,none⟩=some (.bool bp)∧w'.cell? ⟨w.heap.size,1,none⟩=some (.slice A1 n1 c1)∧w'.cell? ⟨w.heap.size,2,none⟩=some (.slice A2 n2 c2)∧w'.cell? ⟨w.heap.size+1,0,none⟩=some (.bool bq)∧w'.cell? ⟨w.heap.size+1,1,none⟩=some (.slice A3 n3 c3)∧w'.cell? ⟨w.heap.size+1,2,none⟩=some (.slice A4 n4 c4))
   (first | exact ⟨aO,aQ,aM,aP,aN,aL⟩ | exact ⟨((aC.cell (p:=⟨w.heap.size,0,none⟩) aD).trans aO),((aC.cell (p:=⟨w.heap.size,1,none⟩) aD).trans aQ),((aC.cell (p:=⟨w.heap.size,2,none⟩) aD).trans aM),((aC.cell (p:=⟨w.heap.size+1,0,none⟩) aE).trans aP),((aC.cell (p:=⟨w.heap.size+1,1,none⟩) aE).trans aN),((aC.cell (p:=⟨w.heap.size+1,2,none⟩) aE).trans aL)⟩ | exact ⟨((aA.cell (p:=⟨w.heap.size,0,none⟩) aI).trans ((aC.cell (p:=⟨w.heap.size,0,none⟩) aD).trans aO)),((aA.cell (p:=⟨w.heap.size,1,none⟩) aI).trans ((aC.cell (p:=⟨w.heap.size,1,none⟩) aD).trans aQ)),((aA.cell (p:=⟨w.heap.size,2,none⟩) aI).trans ((aC.cell (p:=⟨w.heap.size,2,none⟩) aD).trans aM)),((aA.cell (p:=⟨w.heap.size+1,0,none⟩) aJ).trans ((aC.cell (p:=⟨w.heap.size+1,0,none⟩) aE).trans aP)),((aA.cell (p:=⟨w.heap.size+1,1,none⟩) aJ).trans ((aC.cell (p:=⟨w.heap.size+1,1,none⟩) aE).trans aN)),((aA.cell (p:=⟨w.heap.size+1,2,none⟩) aJ).trans ((aC.cell (p:=⟨w.heap.size+1,2,none⟩) aE).trans aL))⟩ | exact ⟨((far3 _ _ _ _ (by dsimp only;omega)).trans ((aA.cell (p:=⟨w.heap.size,0,none⟩) aI).trans ((aC.cell (p:=⟨w.heap.size,0,none⟩) aD).trans aO))),((far3 _ _ _ _ (by dsimp only;omega)).trans ((aA.cell (p:=⟨w.heap.size,1,none⟩) aI).trans ((aC.cell (p:=⟨w.heap.size,1,none⟩) aD).trans aQ))),((far3 _ _ _ _ (by dsimp only;omega)).trans ((aA.cell (p:=⟨w.heap.size,2,none⟩) aI).trans ((aC.cell (p:=⟨w.heap.size,2,none⟩) aD).trans aM))),((far3 _ _ _ _ (by dsimp only;omega)).trans ((aA.cell (p:=⟨w.heap.size+1,0,none⟩) aJ).trans ((aC.cell (p:=⟨w.heap.size+1,0,none⟩) aE).trans aP))),((far3 _ _ _ _ (by dsimp only;omega)).trans ((aA.cell (p:=⟨w.heap.size+1,1,none⟩) aJ).trans ((aC.cell (p:=⟨w.heap.size+1,1,none⟩) aE).trans aN))),((far3 _ _ _ _ (by dsimp only;omega)).trans ((aA.cell (p:=⟨w.heap.size+1,2,none⟩) aJ).trans ((aC.cell (p:=⟨w.heap.size+1,2,none⟩) aE).trans aL)))⟩)
   (first
    |(go_at_call 170;refine (zcF A5 A6 m5 c5 m6 c6 (x1*x4) (x3*x2) w8.drew (r5.later aF) (r6.later aF) (by omega) (by omega)).mono ?_;rintro e w9 ⟨A9,m9,c9,rfl,bD,aC⟩;have aI:=Nat.lt_of_lt_of_le aD aC.size;have aJ:=Nat.lt_of_lt_of_le aE aC.size)
    |(go_at_call 88;refine (zbx _ A9 A7 m9 c9 m7 c7 _ _ w9 ((bT.later aF).later aC) bD ((bM.later aF).later aC) (by have:=bD.len;have:=bF;omega) (by omega)).mono ?_;rintro e bJ ⟨v,rfl,⟨aW,aT,aZ,aX,aR,aY,rfl,bH,bI⟩,aA⟩;have aG:=((bN.below aF bB).below aC (Nat.lt_of_lt_of_le bB aF.size)).below aA (Nat.lt_of_lt_of_le (Nat.lt_of_lt_of_le bB aF.size) aC.size);obtain ⟨e0,e1,e2,f0,f1,f2,gl⟩:=aG.cells))
  go_wp2_with fail
  have aK:Below w.heap.size w bJ:=((aS.trans (aF.mono bC)).trans (aC.mono bC)).trans (aA.mono (by have:=aC.size;exact Nat.le_trans bC this));have aU:=zan aK (g:=w.heap.size+1+1) (by omega) (.bool (lowQ bp (x1*x4+x3*x2) (x2*x4)).neg) (.slice aW aT aZ) (.slice aX aR aY);refine bodyPost_ret (v := .agg #[.bool (lowQ bp (x1*x4+x3*x2) (x2*x4)).neg,.slice aW aT aZ,.slice aX aR aY]) (by simp [results,Tryz.results142,go_sem,e0,e1,e2]) rfl ⟨_,rfl,⟨aW,aT,aZ,aX,aR,aY,by rw [HV.out],?_,?_⟩,aU⟩
  ·rw [zag,HV.out];exact bH.res aG _ _ _
  ·rw [zag,HV.out];exact bI.res aG _ _ _
 ·have bZ:(bp==bq)=false:=by simpa using hs
  by_cases hlt:x1*x4<x3*x2
  ·have HV:Hid (zdo ⟨bp,x1,x2⟩ ⟨bq,x3,x4⟩=lowQ bq (x3*x2 - x1*x4) (x2*x4)):=by unfold Hid zdo;rw [if_neg hs,if_pos hlt]
   have bE:=zaR A5 A6 m5 c5 m6 c6 (x1*x4) (x3*x2) w8 r5 r6;rw [show ncmp (x1*x4) (x3*x2) = -1 from by unfold ncmp;rw [if_pos hlt]] at bE;have bF:=zdG (x3*x2) (x1*x4);rw [r6.len] at bF;have bQ:=Aa hlt;clear hs hlt
   go_wp2_with fail
   refine bE.mono ?_;rintro e wq ⟨rfl,nq,rfl⟩;clear bE
   go_wp2_with fail
   have aF:Below w8.heap.size w8 (w8.drewN nq).drew:=Below.drew (zac (Below.refl _ _) nq)
   go_region_held3 (fun w'=>w'.cell? ⟨w.heap.size,0,none⟩=some (.bool bp)∧w'.cell? ⟨w.heap.size,1,none⟩=some (.slice A1 n1 c1)∧w'.cell? ⟨w.heap.size,2,none⟩=some (.slice A2 n2 c2)∧w'.cell? ⟨w.heap.size+1,0,none⟩=some (.bool bq)∧w'.cell? ⟨w.heap.size+1,1,none⟩=some (.slice A3 n3 c3)∧w'.cell? ⟨w.heap.size+1,2,none⟩=some (.slice A4 n4 c4))
    (first | exact ⟨aO,aQ,aM,aP,aN,aL⟩ | exact ⟨((aC.cell (p:=⟨w.heap.size,0,none⟩) aD).trans aO),((aC.cell (p:=⟨w.heap.size,1,none⟩) aD).trans aQ),((aC.cell (p:=⟨w.heap.size,2,none⟩) aD).trans aM),((aC.cell (p:=⟨w.heap.size+1,0,none⟩) aE).trans aP),((aC.cell (p:=⟨w.heap.size+1,1,none⟩) aE).trans aN),((aC.cell (p:=⟨w.heap.size+1,2,none⟩) aE).trans aL)⟩ | exact ⟨((aA.cell (p:=⟨w.heap.size,0,none⟩) aI).trans ((aC.cell (p:=⟨w.heap.size,0,none⟩) aD).trans aO)),((aA.cell (p:=⟨w.heap.size,1,none⟩) aI).trans ((aC.cell (p:=⟨w.heap.size,1,none⟩) aD).trans aQ)),((aA.cell (p:=⟨w.heap.size,2,none⟩) aI).trans ((aC.cell (p:=⟨w.heap.size,2,none⟩) aD).trans aM)),((aA.cell (p:=⟨w.heap.size+1,0,none⟩) aJ).trans ((aC.cell (p:=⟨w.heap.size+1,0,none⟩) aE).trans aP)),((aA.cell (p:=⟨w.heap.size+1,1,none⟩) aJ).trans ((aC.cell (p:=⟨w.heap.size+1,1,none⟩) aE).trans aN)),((aA.cell (p:=⟨w.heap.size+1,2,none⟩) aJ).trans ((aC.cell (p:=⟨w.heap.size+1,2,none⟩) aE).trans aL))⟩ | exact ⟨((far3 _ _ _ _ (by dsimp only;omega)).trans ((aA.cell (p:=⟨w.heap.size,0,none⟩) aI).trans ((aC.cell (p:=⟨w.heap.size,0,none⟩) aD).trans aO))),((far3 _ _ _ _ (by dsimp only;omega)).trans ((aA.cell (p:=⟨w.heap.size,1,none⟩) aI).trans ((aC.cell (p:=⟨w.heap.size,1,none⟩) aD).trans aQ))),((far3 _ _ _ _ (by dsimp only;omega)).trans ((aA.cell (p:=⟨w.heap.size,2,none⟩) aI).trans ((aC.cell (p:=⟨w.heap.size,2,none⟩) aD).trans aM))),((far3 _ _ _ _ (by dsimp only;omega)).trans ((aA.cell (p:=⟨w.heap.size+1,0,none⟩) aJ).trans ((aC.cell (p:=⟨w.heap.size+1,0,none⟩) aE).trans aP))),((far3 _ _ _ _ (by dsimp only;omega)).trans ((aA.cell (p:=⟨w.heap.size+1,1,none⟩) aJ).trans ((aC.cell (p:=⟨w.heap.size+1,1,none⟩) aE).trans aN))),((far3 _ _ _ _ (by dsimp only;omega)).trans ((aA.cell (p:=⟨w.heap.size+1,2,none⟩) aJ).trans ((aC.cell (p:=⟨w.heap.size+1,2,none⟩) aE).trans aL)))⟩)
    (first
     |(go_at_call 192;refine (zc0 A6 A5 m6 c6 m5 c5 (x3*x2) (x1*x4) (w8.drewN nq).drew (r6.later aF) (r5.later aF) (Nat.le_of_lt bQ.out) (by omega)).mono ?_;rintro e w9 ⟨A9,m9,c9,rfl,bD,aC⟩;have aI:=Nat.lt_of_lt_of_le aD aC.size;have aJ:=Nat.lt_of_lt_of_le aE aC.size)
     |(go_at_call 88;refine (zbx _ A9 A7 m9 c9 m7 c7 _ _ w9 ((bT.later aF).later aC) bD ((bM.later aF).later aC) (by have:=bD.len;have:=bF;omega) (by omega)).mono ?_;rintro e bJ ⟨v,rfl,⟨aW,aT,aZ,aX,aR,aY,rfl,bH,bI⟩,aA⟩;have aG:=((bN.below aF bB).below aC (Nat.lt_of_lt_of_le bB aF.size)).below aA (Nat.lt_of_lt_of_le (Nat.lt_of_lt_of_le bB aF.size) aC.size);obtain ⟨e0,e1,e2,f0,f1,f2,gl⟩:=aG.cells))
   go_wp2_with fail
   have aK:Below w.heap.size w bJ:=((aS.trans (aF.mono bC)).trans (aC.mono bC)).trans (aA.mono (by have:=aC.size;exact Nat.le_trans bC this));have aU:=zan aK (g:=w.heap.size+1+1) (by omega) (.bool (lowQ bq (x3*x2 - x1*x4) (x2*x4)).neg) (.slice aW aT aZ) (.slice aX aR aY);refine bodyPost_ret (v := .agg #[.bool (lowQ bq (x3*x2 - x1*x4) (x2*x4)).neg,.slice aW aT aZ,.slice aX aR aY]) (by simp [results,Tryz.results142,go_sem,e0,e1,e2]) rfl ⟨_,rfl,⟨aW,aT,aZ,aX,aR,aY,by rw [HV.out],?_,?_⟩,aU⟩
   ·rw [zag,HV.out];exact bH.res aG _ _ _
   ·rw [zag,HV.out];exact bI.res aG _ _ _
  ·have HV:Hid (zdo ⟨bp,x1,x2⟩ ⟨bq,x3,x4⟩=lowQ bp (x1*x4 - x3*x2) (x2*x4)):=by unfold Hid zdo;rw [if_neg hs,if_neg hlt]
   have bE:=zaR A5 A6 m5 c5 m6 c6 (x1*x4) (x3*x2) w8 r5 r6;have bX:ncmp (x1*x4) (x3*x2)=0∨ncmp (x1*x4) (x3*x2)=1:=by
    unfold ncmp;rw [if_neg hlt];split<;>simp
   have bF:=zdG (x1*x4) (x3*x2);rw [r5.len] at bF;have bQ:=Aa (Nat.le_of_not_lt hlt);generalize ncmp (x1*x4) (x3*x2)=cv at bE bX;have cA:decide (cv<0)=false:=by simp;omega
   clear hs hlt bX
   go_wp2_with fail
   refine bE.mono ?_;rintro e wq ⟨rfl,nq,rfl⟩;clear bE
   go_wp2_with fail
   have aF:Below w8.heap.size w8 (w8.drewN nq).drew:=Below.drew (zac (Below.refl _ _) nq)
   go_region_held3 (fun w'=>w'.cell? ⟨w.heap.size,0,none⟩=some (.bool bp)∧w'.cell? ⟨w.heap.size,1,none⟩=some (.slice A1 n1 c1)∧w'.cell? ⟨w.heap.size,2,none⟩=some (.slice A2 n2 c2)∧w'.cell? ⟨w.heap.size+1,0,none⟩=some (.bool bq)∧w'.cell? ⟨w.heap.size+1,1,none⟩=some (.slice A3 n3 c3)∧w'.cell? ⟨w.heap.size+1,2,none⟩=some (.slice A4 n4 c4))
    (first | exact ⟨aO,aQ,aM,aP,aN,aL⟩ | exact ⟨((aC.cell (p:=⟨w.heap.size,0,none⟩) aD).trans aO),((aC.cell (p:=⟨w.heap.size,1,none⟩) aD).trans aQ),((aC.cell (p:=⟨w.heap.size,2,none⟩) aD).trans aM),((aC.cell (p:=⟨w.heap.size+1,0,none⟩) aE).trans aP),((aC.cell (p:=⟨w.heap.size+1,1,none⟩) aE).trans aN),((aC.cell (p:=⟨w.heap.size+1,2,none⟩) aE).trans aL)⟩ | exact ⟨((aA.cell (p:=⟨w.heap.size,0,none⟩) aI).trans ((aC.cell (p:=⟨w.heap.size,0,none⟩) aD).trans aO)),((aA.cell (p:=⟨w.heap.size,1,none⟩) aI).trans ((aC.cell (p:=⟨w.heap.size,1,none⟩) aD).trans aQ)),((aA.cell (p:=⟨w.heap.size,2,none⟩) aI).trans ((aC.cell (p:=⟨w.heap.size,2,none⟩) aD).trans aM)),((aA.cell (p:=⟨w.heap.size+1,0,none⟩) aJ).trans ((aC.cell (p:=⟨w.heap.size+1,0,none⟩) aE).trans aP)),((aA.cell (p:=⟨w.heap.size+1,1,none⟩) aJ).trans ((aC.cell (p:=⟨w.heap.size+1,1,none⟩) aE).trans aN)),((aA.cell (p:=⟨w.heap.size+1,2,none⟩) aJ).trans ((aC.cell (p:=⟨w.heap.size+1,2,none⟩) aE).trans aL))⟩ | exact ⟨((far3 _ _ _ _ (by dsimp only;omega)).trans ((aA.cell (p:=⟨w.heap.size,0,none⟩) aI).trans ((aC.cell (p:=⟨w.heap.size,0,none⟩) aD).trans aO))),((far3 _ _ _ _ (by dsimp only;omega)).trans ((aA.cell (p:=⟨w.heap.size,1,none⟩) aI).trans ((aC.cell (p:=⟨w.heap.size,1,none⟩) aD).trans aQ))),((far3 _ _ _ _ (by dsimp only;omega)).trans ((aA.cell (p:=⟨w.heap.size,2,none⟩) aI).trans ((aC.cell (p:=⟨w.heap.size,2,none⟩) aD).trans aM))),((far3 _ _ _ _ (by dsimp only;omega)).trans ((aA.cell (p:=⟨w.heap.size+1,0,none⟩) aJ).trans ((aC.cell (p:=⟨w.heap.size+1,0,none⟩) aE).trans aP))),((far3 _ _ _ _ (by dsimp only;omega)).trans ((aA.cell (p:=⟨w.heap.size+1,1,none⟩) aJ).trans ((aC.cell (p:=⟨w.heap.size+1,1,none⟩) aE).trans aN))),((far3 _ _ _ _ (by dsimp only;omega)).trans ((aA.cell (p:=⟨w.heap.size+1,2,none⟩) aJ).trans ((aC.cell (p:=⟨w.heap.size+1,2,none⟩) aE).trans aL)))⟩)
    (first
     |(go_at_call 192;refine (zc0 A5 A6 m5 c5 m6 c6 (x1*x4) (x3*x2) (w8.drewN nq).drew (r5.later aF) (r6.later aF) bQ.out (by omega)).mono ?_;rintro e w9 ⟨A9,m9,c9,rfl,bD,aC⟩;have aI:=Nat.lt_of_lt_of_le aD aC.size;have aJ:=Nat.lt_of_lt_of_le aE aC.size)
     |(go_at_call 88;refine (zbx _ A9 A7 m9 c9 m7 c7 _ _ w9 ((bT.later aF).later aC) bD ((bM.later aF).later aC) (by have:=bD.len;have:=bF;omega) (by omega)).mono ?_;rintro e bJ ⟨v,rfl,⟨aW,aT,aZ,aX,aR,aY,rfl,bH,bI⟩,aA⟩;have aG:=((bN.below aF bB).below aC (Nat.lt_of_lt_of_le bB aF.size)).below aA (Nat.lt_of_lt_of_le (Nat.lt_of_lt_of_le bB aF.size) aC.size);obtain ⟨e0,e1,e2,f0,f1,f2,gl⟩:=aG.cells))
   go_wp2_with fail
   have aK:Below w.heap.size w bJ:=((aS.trans (aF.mono bC)).trans (aC.mono bC)).trans (aA.mono (by have:=aC.size;exact Nat.le_trans bC this));have aU:=zan aK (g:=w.heap.size+1+1) (by omega) (.bool (lowQ bp (x1*x4 - x3*x2) (x2*x4)).neg) (.slice aW aT aZ) (.slice aX aR aY);refine bodyPost_ret (v := .agg #[.bool (lowQ bp (x1*x4 - x3*x2) (x2*x4)).neg,.slice aW aT aZ,.slice aX aR aY]) (by simp [results,Tryz.results142,go_sem,e0,e1,e2]) rfl ⟨_,rfl,⟨aW,aT,aZ,aX,aR,aY,by rw [HV.out],?_,?_⟩,aU⟩
   ·rw [zag,HV.out];exact bH.res aG _ _ _
   ·rw [zag,HV.out];exact bI.res aG _ _ _
end Go.Proofs.YtbkgkoenppkhpaaGreatDoor
namespace Go.Proofs.YtbkgkoenppkhpaaGreatDoor.Dec
open Go.Lib
def dgt (n:Nat):UInt8:=UInt8.ofNat (48+n)
def pad:Nat→Nat→List UInt8
 | 0,_=>[]
 | k+1,r=>pad k (r / 10)++[dgt (r % 10)]
theorem dec_lt {u:Nat} (h:u<10):decDigits u=[dgt u]:=by rw [decDigits,dif_pos h];rfl
theorem dec_ge {u:Nat} (h:¬ u<10):decDigits u=decDigits (u / 10)++[dgt (u % 10)]:=by rw [decDigits,dif_neg h];rfl
theorem pad_length (k r:Nat):(pad k r).length=k:=by
 induction k generalizing r with
 | zero=>rfl
 | succ k ih=>simp [pad,ih]
theorem dec_append (k q r:Nat) (hq:0<q) (hr:r<10 ^ k):decDigits (q*10 ^ k+r)=decDigits q++pad k r:=by
 induction k generalizing r with
 | zero=>
  have:r=0:=by simpa using hr
  subst this;simp [pad]
 | succ k ih=>
  rw [Nat.pow_succ] at hr;have hp:0<10 ^ k:=Nat.pow_pos (by omega);have h1:¬ q*10 ^ (k+1)+r<10:=by
   rw [Nat.pow_succ];have:1*(10 ^ k*10)≤q*(10 ^ k*10):=Nat.mul_le_mul_right _ hq;omega
  have h2:(q*10 ^ (k+1)+r) / 10=q*10 ^ k+r / 10:=by
   rw [Nat.pow_succ,←Nat.mul_assoc];omega
  have h3:(q*10 ^ (k+1)+r) % 10=r % 10:=by
   rw [Nat.pow_succ,←Nat.mul_assoc];omega
  rw [dec_ge h1,h2,h3,ih (r / 10) (by omega),pad,List.append_assoc]
theorem pad_dec (k r:Nat) (hk:0<k) (hr:r<10 ^ k):pad k r=List.replicate (k - (decDigits r).length) 48++decDigits r:=by
 induction k generalizing r with
 | zero=>omega
 | succ k ih=>
  rw [pad]
  rcases Nat.eq_zero_or_pos k with rfl | aA
  ·have h1:r<10:=by simpa using hr
   rw [dec_lt h1,Nat.mod_eq_of_lt h1];simp [pad]
  ·rw [Nat.pow_succ] at hr
   rw [ih (r / 10) aA (by omega)]
   by_cases h1:r<10
   ·have h0:r / 10=0:=by omega
    rw [h0,dec_lt h1,dec_lt (by omega:0<10),Nat.mod_eq_of_lt h1];simp only [List.length_singleton,Nat.add_sub_cancel]
    have e:k=(k - 1)+1:=by omega
    rw [show List.replicate k (48:UInt8)=List.replicate (k - 1) 48++[48] from by rw [←List.replicate_succ',←e]];rfl
   ·rw [dec_ge h1,List.length_append,List.length_singleton]
    have hl:(decDigits (r / 10)).length+1≤k+1∨True := .inr trivial;rw [show k+1 - ((decDigits (r / 10)).length+1)=k - (decDigits (r / 10)).length from by omega,List.append_assoc]
theorem dec_length_le {k r:Nat} (hk:0<k) (hr:r<10 ^ k):(decDigits r).length≤k:=by
 have h:=congrArg List.length (pad_dec k r hk hr);rw [pad_length,List.length_append,List.length_replicate] at h;omega
theorem dec_length_pos (r:Nat):0<(decDigits r).length:=by
 by_cases h:r<10
 ·rw [dec_lt h];simp
 ·rw [dec_ge h];simp
def T:Nat:=10000000000000000000
theorem T_def:T=10000000000000000000:=rfl
theorem T_pow:T=10 ^ 19:=by decide
theorem T_pos:0<T:=by decide
theorem dec_chunk (x k:Nat) (hq:0<x / T ^ (k+1)) :
  decDigits (x / T ^ k)=decDigits (x / T ^ (k+1))++(List.replicate (19 - (decDigits (x / T ^ k % T)).length) 48++decDigits (x / T ^ k % T)):=by
 have h1:x / T ^ (k+1)=x / T ^ k / T:=by rw [Nat.pow_succ,Nat.div_div_eq_div_mul]
 rw [h1] at hq ⊢;generalize x / T ^ k=y at *;have hr:y % T<10 ^ 19:=by rw [←T_pow];exact Nat.mod_lt _ T_pos
 rw [←pad_dec 19 (y % T) (by omega) hr,←dec_append 19 (y / T) (y % T) hq hr,←T_pow,Nat.mul_comm (y / T) T,Nat.div_add_mod]
def chunks (x k:Nat):List Nat:=(List.range k).map fun j=>x / T ^ j % T
theorem chunks_succ (x k:Nat):chunks x (k+1)=chunks x k++[x / T ^ k % T]:=by simp [chunks,List.range_succ]
theorem chunks_get (x k j:Nat) (h:j<k):(chunks x k).getD j 0=x / T ^ j % T:=by simp [chunks,List.getD,h]
end Go.Proofs.YtbkgkoenppkhpaaGreatDoor.Dec
