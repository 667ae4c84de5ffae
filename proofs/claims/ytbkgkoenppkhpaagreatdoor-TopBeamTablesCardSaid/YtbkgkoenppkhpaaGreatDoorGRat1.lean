/- Contracts of package number's rational numbers: lowest. -/
import Derived.Test.YtbkgkoenppkhpaaGreatDoorGDiv4
import Derived.Test.YtbkgkoenppkhpaaGreatDoorGNat3
import Derived.Deep.RegionHeld3
set_option maxRecDepth 100000
set_option maxHeartbeats 4000000
namespace Go.Proofs.YtbkgkoenppkhpaaGreatDoor
open Go.RowKit Bn
structure Q where
 neg:Bool
 top:Nat
 bot:Nat
def RatS (w:World) (B:Nat) (v:Value) (q:Q):Prop:=
 ∃ A n c A' n' c',v = .agg #[.bool q.neg,.slice A n c,.slice A' n' c']∧NatS w B A n c q.top∧NatS w B A' n' c' q.bot
def za2 (w:World) (q:Q) (e:Ending) (w':World):Prop:=∃ v,e = .returned v∧RatS w' w'.heap.size v q∧Below w.heap.size w w'
def lowQ (neg:Bool) (t b:Nat):Q:=if b=0 then ⟨false,0,0⟩ else if t=0 then ⟨false,0,1⟩ else ⟨neg,t / Nat.gcd t b,b / Nat.gcd t b⟩
theorem zaJ (A:Option Addr) (n c x:Nat) (w:World) (h:NatS w w.heap.size A n c x) :
  Calls Tryz.prog 154 #[.slice A n c] w fun e w'=>e = .returned (.bool (decide (x=0)))∧w=w':=by
 have hz:=zcW A n c w (by have:=h.nc;have:=h.cm;omega);have e:((n:Int)==0)=decide (x=0):=by
  rw [Bool.eq_iff_iff];simp only [beq_iff_eq,decide_eq_true_eq]
  rw [←za6 (n:=x),h.len];omega
 rwa [e] at hz
def zae (w:World) (g:Nat) (b:Bool) (v1 v2:Value):Prop:=w.heap[g]? = some (.cells #[.bool b,v1,v2] 87 (0,0))
theorem zae.new (w:World) (b:Bool) (v1 v2:Value):zae (w.alloc (.cells #[.bool b,v1,v2] 87)) w.heap.size b v1 v2:=heap_alloc_new w _
theorem zae.below {w w':World} {g B:Nat} {b:Bool} {v1 v2:Value} (h:zae w g b v1 v2) (hb:Below B w w') (hg:g<B):zae w' g b v1 v2:=(hb.block g hg).trans h
theorem zae.cells {w:World} {g:Nat} {b:Bool} {v1 v2:Value} (h:zae w g b v1 v2) :
  w.cell? ⟨g,0,none⟩=some (.bool b)∧w.cell? ⟨g,1,none⟩=some v1∧w.cell? ⟨g,2,none⟩=some v2∧w.frozen? ⟨g,0,none⟩=false∧w.frozen? ⟨g,1,none⟩=false∧w.frozen? ⟨g,2,none⟩=false∧g<w.heap.size:=by
 unfold zae at h;have aA:g<w.heap.size:=by
  rcases Nat.lt_or_ge g w.heap.size with aA | aC
  ·exact aA
  ·rw [Array.getElem?_eq_none aC] at h;cases h
 exact ⟨by rw [cell_of_row w g 0 _ _ _ h];rfl,by rw [cell_of_row w g 1 _ _ _ h];rfl,by rw [cell_of_row w g 2 _ _ _ h];rfl,by simp [World.frozen?,h],by simp [World.frozen?,h],by simp [World.frozen?,h],aA⟩
theorem zag (w:World) (p q r:Addr) (u v x:Value):(((w.setCell p u).setCell q v).setCell r x).heap.size=w.heap.size:=by simp [World.setCell]
theorem NatS.res {w:World} {B n c x g:Nat} {A A1 A2:Option Addr} {b:Bool} {n1 c1 n2 c2:Nat} (h:NatS w B A n c x) (hk:zae w g b (.slice A1 n1 c1) (.slice A2 n2 c2)) (u v y:Value) :
  NatS (((w.setCell ⟨g,0,none⟩ u).setCell ⟨g,1,none⟩ v).setCell ⟨g,2,none⟩ y) B A n c x:=by
 obtain ⟨k0,k1,k2,_,_,_,_⟩:=hk.cells;refine ⟨⟨h.words.1,fun hn => ?_⟩,h.nc,h.cm⟩;obtain ⟨ad,e,hb,hc⟩:=h.words.2 hn;refine ⟨ad,e,hb,fun j z hz => ?_⟩;have aA:=hc j z hz;have aC:∃ d:Nat,z = .int .u64 (d:Int):=by
  rw [List.getElem?_map] at hz
  cases hd:(digs x)[j]? with
  | none=>rw [hd] at hz;cases hz
  | some d=>rw [hd] at hz;injection hz with hz;exact ⟨d,hz.symm⟩
 obtain ⟨d,rfl⟩:=aC;have n0:ad.add j≠⟨g,0,none⟩:=fun e0=>by rw [e0,k0] at aA;injection aA with aA;cases aA
 have aD:ad.add j≠⟨g,1,none⟩:=fun e0=>by rw [e0,k1] at aA;injection aA with aA;cases aA
 have aE:ad.add j≠⟨g,2,none⟩:=fun e0=>by rw [e0,k2] at aA;injection aA with aA;cases aA
 rw [World.cell?_setCell_other _ _ _ _ aE.symm,World.cell?_setCell_other _ _ _ _ aD.symm,World.cell?_setCell_other _ _ _ _ n0.symm];exact aA
theorem zan {a w:World} {B g:Nat} (h:Below B a w) (hg:B≤g) (u v x:Value):Below B a (((w.setCell ⟨g,0,none⟩ u).setCell ⟨g,1,none⟩ v).setCell ⟨g,2,none⟩ x):=
 ((h.setCell (p:=⟨g,0,none⟩) hg _).setCell (p:=⟨g,1,none⟩) hg _).setCell (p:=⟨g,2,none⟩) hg _
theorem zbx (neg:Bool) (A A':Option Addr) (n c n' c' x y:Nat) (w:World) (hT:Tabs w) (ha:NatS w w.heap.size A n c x) (hb:NatS w w.heap.size A' n' c' y) (hn:n≤1073741824) (hn':n'≤1073741824) :
  Calls Tryz.prog 88 #[.bool neg,.slice A n c,.slice A' n' c'] w (za2 w (lowQ neg x y)):=by
 have aD:Below w.heap.size w (w.alloc (.cells #[.bool false,.slice none 0 0,.slice none 0 0] 87)):=Ac
 by_cases hy0:y=0
 ·subst hy0
  have hz:=fun W:World=>fun h=>zaJ A' n' c' 0 W h
  go_enter Tryz.func88,Tryz.ntmps88
  go_wp2_with fail
  refine (hz _ (hb.later aD)).mono ?_;rintro e w1 ⟨rfl,rfl⟩;go_wp2
  refine bodyPost_ret (v := .agg #[.bool false,.slice none 0 0,.slice none 0 0]) (by simp [results,Tryz.results88,go_sem]) rfl ⟨_,rfl,⟨none,0,0,none,0,0,by simp [lowQ],?_,?_⟩,?_⟩
  ·simp only [lowQ,if_pos];exact NatS.nil _ _
  ·simp only [lowQ,if_pos];exact NatS.nil _ _
  ·exact aD
 ·have hz:=fun W:World=>fun h=>zaJ A' n' c' y W h
  have d1:decide (y=0)=false:=by simpa using hy0
  simp only [d1] at hz
  by_cases hx0:x=0
  ·subst hx0
   have aK:=fun W:World=>fun h=>zaJ A n c 0 W h
   go_enter Tryz.func88,Tryz.ntmps88
   go_wp2_with fail
   refine (hz _ (hb.later aD)).mono ?_;rintro e w1 ⟨rfl,rfl⟩
   go_wp2_with fail
   refine (aK _ (ha.later aD)).mono ?_;rintro e w1 ⟨rfl,rfl⟩;have aR:=zai 1 (w.alloc (.cells #[.bool false,.slice none 0 0,.slice none 0 0] 87)) (by omega) (by omega)
   go_wp2_with fail
   refine aR.mono ?_;rintro e w2 ⟨A2,m2,c2,rfl,aI,aF⟩;have aA:=(zae.new w false (.slice none 0 0) (.slice none 0 0)).below aF (by simp);obtain ⟨k0,k1,k2,f0,f1,f2,aN⟩:=aA.cells;have HE:Hid (lowQ neg 0 y=⟨false,0,1⟩):=by unfold Hid lowQ;rw [if_neg hy0,if_pos rfl]
   have aS:=Ad aD aF;have aE:=zan aS (g:=w.heap.size) (Nat.le_refl _) (.bool false) (.slice none 0 0) (.slice A2 m2 c2);go_wp2
   refine bodyPost_ret (v := .agg #[.bool false,.slice none 0 0,.slice A2 m2 c2]) (by simp [results,Tryz.results88,go_sem,k0,k1,k2]) rfl ⟨_,rfl,⟨none,0,0,A2,m2,c2,by rw [HE.out],?_,?_⟩,?_⟩
   ·rw [HE.out];exact NatS.nil _ _
   ·rw [HE.out,zag];exact aI.res aA _ _ _
   ·exact aE
  ·have aK:=fun W:World=>fun h=>zaJ A n c x W h
   have d2:decide (x=0)=false:=by simpa using hx0
   simp only [d2] at aK
   have hx:0<x:=by omega
   have hy:0<y:=by omega
   obtain ⟨g,aH⟩:∃ g,g=Nat.gcd x y:=⟨_,rfl⟩;have aO:0<g:=by rw [aH];exact Nat.gcd_pos_of_pos_left _ hx
   have HE:Hid (lowQ neg x y=⟨neg,x / g,y / g⟩):=by unfold Hid lowQ;rw [if_neg hy0,if_neg hx0,aH]
   have aQ:=zd7 A A' n c n' c' x y _ (hT.later aD) (ha.later aD) (hb.later aD) hn hn';rw [←aH] at aQ;have aV:g≤x:=by rw [aH];exact Nat.gcd_le_left _ hx
   have HG:=Aa aH;clear aH d1 d2 hx0 hy0;go_enter Tryz.func88,Tryz.ntmps88
   go_wp2_with fail
   refine (hz _ (hb.later aD)).mono ?_;rintro e w1 ⟨rfl,rfl⟩
   go_wp2_with fail
   refine (aK _ (ha.later aD)).mono ?_;rintro e w1 ⟨rfl,rfl⟩
   go_wp2_with fail
   refine aQ.mono ?_;rintro e w2 ⟨A2,m2,c2,rfl,aI,aF⟩;have aC:=Ad aD aF;have ho:=zbq A2 m2 c2 g w2 aI
   by_cases hg1:g=1
   ·have d3:decide (g=1)=true:=by simpa using hg1
    rw [d3] at ho;have aP:=Aa hg1;clear hg1 d3;have aA:=(zae.new w false (.slice none 0 0) (.slice none 0 0)).below aF (by simp);obtain ⟨k0,k1,k2,f0,f1,f2,aN⟩:=aA.cells;have aE:=zan aC (g:=w.heap.size) (Nat.le_refl _) (.bool neg) (.slice A n c) (.slice A' n' c')
    go_wp2_with fail
    refine ho.mono ?_;rintro e w3 ⟨rfl,rfl⟩;go_wp2
    refine bodyPost_ret (v := .agg #[.bool neg,.slice A n c,.slice A' n' c']) (by simp [results,Tryz.results88,go_sem,k0,k1,k2]) rfl ⟨_,rfl,⟨A,n,c,A',n',c',by rw [HE.out],?_,?_⟩,aE⟩
    ·rw [HE.out,zag];show NatS _ _ A n c (x / g);rw [aP.out,Nat.div_one];exact (ha.later aC).res aA _ _ _
    ·rw [HE.out,zag];show NatS _ _ A' n' c' (y / g);rw [aP.out,Nat.div_one];exact (hb.later aC).res aA _ _ _
   ·have d3:decide (g=1)=false:=by simpa using hg1
    rw [d3] at ho;clear hg1 d3
    go_wp2_with fail
    refine ho.mono ?_;rintro e w3 ⟨rfl,rfl⟩
    go_wp2_with fail
    refine (zdL A A2 n c m2 c2 x g _ (ha.later aC) aI aO (by omega)).mono ?_;rintro e w4 ⟨A4,m4,c4,_,_,_,rfl,aU,_,aJ⟩;have aG:=Ad aC aJ
    go_wp2_with fail
    refine (zdL A' A2 n' c' m2 c2 y g _ (hb.later aG) (aI.later aJ) aO (by omega)).mono ?_;rintro e w5 ⟨A5,m5,c5,_,_,_,rfl,aT,_,aM⟩;have aL:=Ad aG aM;have aA:=(((zae.new w false (.slice none 0 0) (.slice none 0 0)).below aF (by simp)).below aJ (by have:=aF.size;simp at this;omega)).below aM (by have:=aF.size;have:=aJ.size;simp at *; omega);obtain ⟨k0,k1,k2,f0,f1,f2,aN⟩:=aA.cells;have aE:=zan aL (g:=w.heap.size) (Nat.le_refl _) (.bool neg) (.slice A4 m4 c4) (.slice A5 m5 c5);go_wp2
    refine bodyPost_ret (v := .agg #[.bool neg,.slice A4 m4 c4,.slice A5 m5 c5]) (by simp [results,Tryz.results88,go_sem,k0,k1,k2]) rfl ⟨_,rfl,⟨A4,m4,c4,A5,m5,c5,by rw [HE.out],?_,?_⟩,aE⟩
    ·rw [HE.out,zag];exact (aU.later aM).res aA _ _ _
    ·rw [HE.out,zag];exact aT.res aA _ _ _
theorem zdy {A:Option Addr} {n c m k x y:Nat} {w:World} (h:NatS w w.heap.size A n c (x*y)) (hx:(digs x).length≤m) (hy:(digs y).length≤k):n≤m+k:=by
 rw [←h.len];refine zad ?_;rw [Nat.pow_add];have h1:=zab x;have h2:=zab y;have h3:B ^ (digs x).length≤B ^ m:=Nat.pow_le_pow_right zaO hx;have h4:B ^ (digs y).length≤B ^ k:=Nat.pow_le_pow_right zaO hy;exact Nat.mul_lt_mul'' (Nat.lt_of_lt_of_le h1 h3) (Nat.lt_of_lt_of_le h2 h4)
theorem far3 {g:Nat} (w:World) (u v x:Value) {q:Addr} (h:g≠q.block):(((w.setCell ⟨g,0,none⟩ u).setCell ⟨g,1,none⟩ v).setCell ⟨g,2,none⟩ x).cell? q=w.cell? q:=by
 rw [World.cell?_setCell_far _ _ _ _ (by exact h),World.cell?_setCell_far _ _ _ _ (by exact h),World.cell?_setCell_far _ _ _ _ (by exact h)]
theorem zhL (p q:Q) (A1 A2 A3 A4:Option Addr) (n1 c1 n2 c2 n3 c3 n4 c4:Nat) (w:World) (hT:Tabs w)
  (h1:NatS w w.heap.size A1 n1 c1 p.top) (h2:NatS w w.heap.size A2 n2 c2 p.bot) (h3:NatS w w.heap.size A3 n3 c3 q.top) (h4:NatS w w.heap.size A4 n4 c4 q.bot)
  (k1:n1≤268435456) (k2:n2≤268435456) (k3:n3≤268435456) (k4:n4≤268435456) :
  Calls Tryz.prog 145 #[.agg #[.bool p.neg,.slice A1 n1 c1,.slice A2 n2 c2],.agg #[.bool q.neg,.slice A3 n3 c3,.slice A4 n4 c4]] w (za2 w (lowQ (p.neg != q.neg) (p.top*q.top) (p.bot*q.bot))):=by
 go_enter Tryz.func145,Tryz.ntmps145
 go_wp2_with fail
 have aV:Below w.heap.size w (((w.alloc (.cells #[.bool p.neg,.slice A1 n1 c1,.slice A2 n2 c2] 87)).alloc (.cells #[.bool q.neg,.slice A3 n3 c3,.slice A4 n4 c4] 87)).alloc (.cells #[.bool false,.slice none 0 0,.slice none 0 0] 87)):=
  (((Below.refl _ _).alloc (Nat.le_refl _) _).alloc (by simp) _).alloc (by simp;omega) _
 have aR:zae (((w.alloc (.cells #[.bool p.neg,.slice A1 n1 c1,.slice A2 n2 c2] 87)).alloc (.cells #[.bool q.neg,.slice A3 n3 c3,.slice A4 n4 c4] 87)).alloc (.cells #[.bool false,.slice none 0 0,.slice none 0 0] 87)) w.heap.size p.neg (.slice A1 n1 c1) (.slice A2 n2 c2):=
  (((zae.new w _ _ _).below ((Below.refl _ _).alloc (Nat.le_refl _) _) (by simp))).below ((Below.refl _ _).alloc (Nat.le_refl _) _) (by simp;omega)
 have aS:zae (((w.alloc (.cells #[.bool p.neg,.slice A1 n1 c1,.slice A2 n2 c2] 87)).alloc (.cells #[.bool q.neg,.slice A3 n3 c3,.slice A4 n4 c4] 87)).alloc (.cells #[.bool false,.slice none 0 0,.slice none 0 0] 87)) (w.heap.size+1) q.neg (.slice A3 n3 c3) (.slice A4 n4 c4):=by
  have h:=(zae.new (w.alloc (.cells #[.bool p.neg,.slice A1 n1 c1,.slice A2 n2 c2] 87)) q.neg (.slice A3 n3 c3) (.slice A4 n4 c4)).below ((Below.refl _ _).alloc (Nat.le_refl _) (.cells #[.bool false,.slice none 0 0,.slice none 0 0] 87)) (by simp)
  simpa using h
 have aT:zae (((w.alloc (.cells #[.bool p.neg,.slice A1 n1 c1,.slice A2 n2 c2] 87)).alloc (.cells #[.bool q.neg,.slice A3 n3 c3,.slice A4 n4 c4] 87)).alloc (.cells #[.bool false,.slice none 0 0,.slice none 0 0] 87)) (w.heap.size+1+1) false (.slice none 0 0) (.slice none 0 0):=by
  have h:=zae.new ((w.alloc (.cells #[.bool p.neg,.slice A1 n1 c1,.slice A2 n2 c2] 87)).alloc (.cells #[.bool q.neg,.slice A3 n3 c3,.slice A4 n4 c4] 87)) false (.slice none 0 0) (.slice none 0 0)
  simpa using h
 generalize (((w.alloc (.cells #[.bool p.neg,.slice A1 n1 c1,.slice A2 n2 c2] 87)).alloc (.cells #[.bool q.neg,.slice A3 n3 c3,.slice A4 n4 c4] 87)).alloc (.cells #[.bool false,.slice none 0 0,.slice none 0 0] 87))=w3 at *;obtain ⟨a0,a1,a2,_,_,_,al⟩:=aR.cells;obtain ⟨b0,b1,b2,_,_,_,bl⟩:=aS.cells;have aD:Below w.heap.size w w3.drew:=aV.drew;have aO:=zaL A1 A3 n1 c1 n3 c3 p.top q.top w3.drew (h1.later aD) (h3.later aD) (by omega) (by omega);have aK:zae w3.drew (w.heap.size+1+1) false (.slice none 0 0) (.slice none 0 0):=aT;have cl:w.heap.size+1+1<w3.drew.heap.size:=aK.cells.2.2.2.2.2.2;have aU:=Aa aO;clear aO
 go_region_held3 (fun w'=>w'.cell? ⟨w.heap.size,0,none⟩=some (.bool p.neg)∧w'.cell? ⟨w.heap.size,1,none⟩=some (.slice A1 n1 c1)∧w'.cell? ⟨w.heap.size,2,none⟩=some (.slice A2 n2 c2)∧w'.cell? ⟨w.heap.size+1,0,none⟩=some (.bool q.neg)∧w'.cell? ⟨w.heap.size+1,1,none⟩=some (.slice A3 n3 c3)∧w'.cell? ⟨w.heap.size+1,2,none⟩=some (.slice A4 n4 c4))
  (first | exact ⟨a0,a1,a2,b0,b1,b2⟩ | exact ⟨((aA.cell (p:=⟨w.heap.size,0,none⟩) al).trans a0),((aA.cell (p:=⟨w.heap.size,1,none⟩) al).trans a1),((aA.cell (p:=⟨w.heap.size,2,none⟩) al).trans a2),((aA.cell (p:=⟨w.heap.size+1,0,none⟩) bl).trans b0),((aA.cell (p:=⟨w.heap.size+1,1,none⟩) bl).trans b1),((aA.cell (p:=⟨w.heap.size+1,2,none⟩) bl).trans b2)⟩ | exact ⟨((aC.cell (p:=⟨w.heap.size,0,none⟩) (aG)).trans ((aA.cell (p:=⟨w.heap.size,0,none⟩) al).trans a0)),((aC.cell (p:=⟨w.heap.size,1,none⟩) (aG)).trans ((aA.cell (p:=⟨w.heap.size,1,none⟩) al).trans a1)),((aC.cell (p:=⟨w.heap.size,2,none⟩) (aG)).trans ((aA.cell (p:=⟨w.heap.size,2,none⟩) al).trans a2)),((aC.cell (p:=⟨w.heap.size+1,0,none⟩) (aF)).trans ((aA.cell (p:=⟨w.heap.size+1,0,none⟩) bl).trans b0)),((aC.cell (p:=⟨w.heap.size+1,1,none⟩) (aF)).trans ((aA.cell (p:=⟨w.heap.size+1,1,none⟩) bl).trans b1)),((aC.cell (p:=⟨w.heap.size+1,2,none⟩) (aF)).trans ((aA.cell (p:=⟨w.heap.size+1,2,none⟩) bl).trans b2))⟩ | exact ⟨((aE.cell (p:=⟨w.heap.size,0,none⟩) (aI)).trans ((aC.cell (p:=⟨w.heap.size,0,none⟩) (aG)).trans ((aA.cell (p:=⟨w.heap.size,0,none⟩) al).trans a0))),((aE.cell (p:=⟨w.heap.size,1,none⟩) (aI)).trans ((aC.cell (p:=⟨w.heap.size,1,none⟩) (aG)).trans ((aA.cell (p:=⟨w.heap.size,1,none⟩) al).trans a1))),((aE.cell (p:=⟨w.heap.size,2,none⟩) (aI)).trans ((aC.cell (p:=⟨w.heap.size,2,none⟩) (aG)).trans ((aA.cell (p:=⟨w.heap.size,2,none⟩) al).trans a2))),((aE.cell (p:=⟨w.heap.size+1,0,none⟩) (aJ)).trans ((aC.cell (p:=⟨w.heap.size+1,0,none⟩) (aF)).trans ((aA.cell (p:=⟨w.heap.size+1,0,none⟩) bl).trans b0))),((aE.cell (p:=⟨w.heap.size+1,1,none⟩) (aJ)).trans ((aC.cell (p:=⟨w.heap.size+1,1,none⟩) (aF)).trans ((aA.cell (p:=⟨w.heap.size+1,1,none⟩) bl).trans b1))),((aE.cell (p:=⟨w.heap.size+1,2,none⟩) (aJ)).trans ((aC.cell (p:=⟨w.heap.size+1,2,none⟩) (aF)).trans ((aA.cell (p:=⟨w.heap.size+1,2,none⟩) bl).trans b2)))⟩ | exact ⟨((far3 _ _ _ _ (by dsimp only;omega)).trans ((aE.cell (p:=⟨w.heap.size,0,none⟩) (aI)).trans ((aC.cell (p:=⟨w.heap.size,0,none⟩) (aG)).trans ((aA.cell (p:=⟨w.heap.size,0,none⟩) al).trans a0)))),((far3 _ _ _ _ (by dsimp only;omega)).trans ((aE.cell (p:=⟨w.heap.size,1,none⟩) (aI)).trans ((aC.cell (p:=⟨w.heap.size,1,none⟩) (aG)).trans ((aA.cell (p:=⟨w.heap.size,1,none⟩) al).trans a1)))),((far3 _ _ _ _ (by dsimp only;omega)).trans ((aE.cell (p:=⟨w.heap.size,2,none⟩) (aI)).trans ((aC.cell (p:=⟨w.heap.size,2,none⟩) (aG)).trans ((aA.cell (p:=⟨w.heap.size,2,none⟩) al).trans a2)))),((far3 _ _ _ _ (by dsimp only;omega)).trans ((aE.cell (p:=⟨w.heap.size+1,0,none⟩) (aJ)).trans ((aC.cell (p:=⟨w.heap.size+1,0,none⟩) (aF)).trans ((aA.cell (p:=⟨w.heap.size+1,0,none⟩) bl).trans b0)))),((far3 _ _ _ _ (by dsimp only;omega)).trans ((aE.cell (p:=⟨w.heap.size+1,1,none⟩) (aJ)).trans ((aC.cell (p:=⟨w.heap.size+1,1,none⟩) (aF)).trans ((aA.cell (p:=⟨w.heap.size+1,1,none⟩) bl).trans b1)))),((far3 _ _ _ _ (by dsimp only;omega)).trans ((aE.cell (p:=⟨w.heap.size+1,2,none⟩) (aJ)).trans ((aC.cell (p:=⟨w.heap.size+1,2,none⟩) (aF)).trans ((aA.cell (p:=⟨w.heap.size+1,2,none⟩) bl).trans b2))))⟩)
  (first
   |(go_at_call_of 90 (Value.slice A1 n1 c1);refine (aU.out).mono ?_;rintro e w4 ⟨A5,m5,c5,rfl,aQ,aA⟩;have aG:=Nat.lt_of_lt_of_le al aA.size;have aF:=Nat.lt_of_lt_of_le bl aA.size)
   |(go_at_call_of 90 (Value.slice A2 n2 c2);refine (zaL A2 A4 n2 c2 n4 c4 p.bot q.bot w4 ((h2.later aD).later aA) ((h4.later aD).later aA) (by omega) (by omega)).mono ?_;rintro e w6 ⟨A6,m6,c6,rfl,aP,aC⟩;have aI:=Nat.lt_of_lt_of_le aG aC.size;have aJ:=Nat.lt_of_lt_of_le aF aC.size)
   |(go_at_call 88;refine (zbx _ A5 A6 m5 c5 m6 c6 _ _ w6 (((hT.later aD).later aA).later aC) (aQ.later aC) aP (by have:=zdy aQ (Nat.le_of_eq h1.len) (Nat.le_of_eq h3.len);omega) (by have:=zdy aP (Nat.le_of_eq h2.len) (Nat.le_of_eq h4.len);omega)).mono ?_;rintro e w7 ⟨v,rfl,⟨A7,m7,c7,A8,m8,c8,rfl,h7,h8⟩,aE⟩;have aN:=((aK.below aA cl).below aC (Nat.lt_of_lt_of_le cl aA.size)).below aE (Nat.lt_of_lt_of_le (Nat.lt_of_lt_of_le cl aA.size) aC.size);obtain ⟨e0,e1,e2,g0,g1,g2,gl⟩:=aN.cells))
 go_wp2_with fail
 have aH:Below w.heap.size w w7:=by
  have s5:=aD.size;have s6:=aA.size;have s7:=aC.size;exact ((aD.trans (aA.mono s5)).trans (aC.mono (by omega))).trans (aE.mono (by omega))
 have aM:=zan aH (g:=w.heap.size+1+1) (by omega) (.bool (lowQ (!p.neg==q.neg) (p.top*q.top) (p.bot*q.bot)).neg) (.slice A7 m7 c7) (.slice A8 m8 c8);have aL:(!p.neg==q.neg)=(p.neg != q.neg):=by cases p.neg<;>cases q.neg<;>rfl
 refine bodyPost_ret (v := .agg #[.bool (lowQ (!p.neg==q.neg) (p.top*q.top) (p.bot*q.bot)).neg,.slice A7 m7 c7,.slice A8 m8 c8]) (by simp [results,Tryz.results145,go_sem,e0,e1,e2]) rfl ⟨_,rfl,⟨A7,m7,c7,A8,m8,c8,by rw [aL],?_,?_⟩,aM⟩
 ·rw [zag,←aL];exact h7.res aN _ _ _
 ·rw [zag,←aL];exact h8.res aN _ _ _
theorem zih (p q:Q) (A1 A2 A3 A4:Option Addr) (n1 c1 n2 c2 n3 c3 n4 c4:Nat) (w:World) (hT:Tabs w)
  (h1:NatS w w.heap.size A1 n1 c1 p.top) (h2:NatS w w.heap.size A2 n2 c2 p.bot) (h3:NatS w w.heap.size A3 n3 c3 q.top) (h4:NatS w w.heap.size A4 n4 c4 q.bot)
  (k1:n1≤268435456) (k2:n2≤268435456) (k3:n3≤268435456) (k4:n4≤268435456) :
  Calls Tryz.prog 112 #[.agg #[.bool p.neg,.slice A1 n1 c1,.slice A2 n2 c2],.agg #[.bool q.neg,.slice A3 n3 c3,.slice A4 n4 c4]] w (za2 w (lowQ (p.neg != q.neg) (p.top*q.bot) (p.bot*q.top))):=by
 go_enter Tryz.func112,Tryz.ntmps112
 go_wp2_with fail
 have aV:Below w.heap.size w (((w.alloc (.cells #[.bool p.neg,.slice A1 n1 c1,.slice A2 n2 c2] 87)).alloc (.cells #[.bool q.neg,.slice A3 n3 c3,.slice A4 n4 c4] 87)).alloc (.cells #[.bool false,.slice none 0 0,.slice none 0 0] 87)):=
  (((Below.refl _ _).alloc (Nat.le_refl _) _).alloc (by simp) _).alloc (by simp;omega) _
 have aR:zae (((w.alloc (.cells #[.bool p.neg,.slice A1 n1 c1,.slice A2 n2 c2] 87)).alloc (.cells #[.bool q.neg,.slice A3 n3 c3,.slice A4 n4 c4] 87)).alloc (.cells #[.bool false,.slice none 0 0,.slice none 0 0] 87)) w.heap.size p.neg (.slice A1 n1 c1) (.slice A2 n2 c2):=
  (((zae.new w _ _ _).below ((Below.refl _ _).alloc (Nat.le_refl _) _) (by simp))).below ((Below.refl _ _).alloc (Nat.le_refl _) _) (by simp;omega)
 have aS:zae (((w.alloc (.cells #[.bool p.neg,.slice A1 n1 c1,.slice A2 n2 c2] 87)).alloc (.cells #[.bool q.neg,.slice A3 n3 c3,.slice A4 n4 c4] 87)).alloc (.cells #[.bool false,.slice none 0 0,.slice none 0 0] 87)) (w.heap.size+1) q.neg (.slice A3 n3 c3) (.slice A4 n4 c4):=by
  have h:=(zae.new (w.alloc (.cells #[.bool p.neg,.slice A1 n1 c1,.slice A2 n2 c2] 87)) q.neg (.slice A3 n3 c3) (.slice A4 n4 c4)).below ((Below.refl _ _).alloc (Nat.le_refl _) (.cells #[.bool false,.slice none 0 0,.slice none 0 0] 87)) (by simp)
  simpa using h
 have aT:zae (((w.alloc (.cells #[.bool p.neg,.slice A1 n1 c1,.slice A2 n2 c2] 87)).alloc (.cells #[.bool q.neg,.slice A3 n3 c3,.slice A4 n4 c4] 87)).alloc (.cells #[.bool false,.slice none 0 0,.slice none 0 0] 87)) (w.heap.size+1+1) false (.slice none 0 0) (.slice none 0 0):=by
  have h:=zae.new ((w.alloc (.cells #[.bool p.neg,.slice A1 n1 c1,.slice A2 n2 c2] 87)).alloc (.cells #[.bool q.neg,.slice A3 n3 c3,.slice A4 n4 c4] 87)) false (.slice none 0 0) (.slice none 0 0)
  simpa using h
 generalize (((w.alloc (.cells #[.bool p.neg,.slice A1 n1 c1,.slice A2 n2 c2] 87)).alloc (.cells #[.bool q.neg,.slice A3 n3 c3,.slice A4 n4 c4] 87)).alloc (.cells #[.bool false,.slice none 0 0,.slice none 0 0] 87))=w3 at *;obtain ⟨a0,a1,a2,_,_,_,al⟩:=aR.cells;obtain ⟨b0,b1,b2,_,_,_,bl⟩:=aS.cells;have aD:Below w.heap.size w w3.drew:=aV.drew;have aO:=zaL A1 A4 n1 c1 n4 c4 p.top q.bot w3.drew (h1.later aD) (h4.later aD) (by omega) (by omega);have aK:zae w3.drew (w.heap.size+1+1) false (.slice none 0 0) (.slice none 0 0):=aT;have cl:w.heap.size+1+1<w3.drew.heap.size:=aK.cells.2.2.2.2.2.2;have aU:=Aa aO;clear aO
 go_region_held3 (fun w'=>w'.cell? ⟨w.heap.size,0,none⟩=some (.bool p.neg)∧w'.cell? ⟨w.heap.size,1,none⟩=some (.slice A1 n1 c1)∧w'.cell? ⟨w.heap.size,2,none⟩=some (.slice A2 n2 c2)∧w'.cell? ⟨w.heap.size+1,0,none⟩=some (.bool q.neg)∧w'.cell? ⟨w.heap.size+1,1,none⟩=some (.slice A3 n3 c3)∧w'.cell? ⟨w.heap.size+1,2,none⟩=some (.slice A4 n4 c4))
  (first | exact ⟨a0,a1,a2,b0,b1,b2⟩ | exact ⟨((aA.cell (p:=⟨w.heap.size,0,none⟩) al).trans a0),((aA.cell (p:=⟨w.heap.size,1,none⟩) al).trans a1),((aA.cell (p:=⟨w.heap.size,2,none⟩) al).trans a2),((aA.cell (p:=⟨w.heap.size+1,0,none⟩) bl).trans b0),((aA.cell (p:=⟨w.heap.size+1,1,none⟩) bl).trans b1),((aA.cell (p:=⟨w.heap.size+1,2,none⟩) bl).trans b2)⟩ | exact ⟨((aC.cell (p:=⟨w.heap.size,0,none⟩) (aG)).trans ((aA.cell (p:=⟨w.heap.size,0,none⟩) al).trans a0)),((aC.cell (p:=⟨w.heap.size,1,none⟩) (aG)).trans ((aA.cell (p:=⟨w.heap.size,1,none⟩) al).trans a1)),((aC.cell (p:=⟨w.heap.size,2,none⟩) (aG)).trans ((aA.cell (p:=⟨w.heap.size,2,none⟩) al).trans a2)),((aC.cell (p:=⟨w.heap.size+1,0,none⟩) (aF)).trans ((aA.cell (p:=⟨w.heap.size+1,0,none⟩) bl).trans b0)),((aC.cell (p:=⟨w.heap.size+1,1,none⟩) (aF)).trans ((aA.cell (p:=⟨w.heap.size+1,1,none⟩) bl).trans b1)),((aC.cell (p:=⟨w.heap.size+1,2,none⟩) (aF)).trans ((aA.cell (p:=⟨w.heap.size+1,2,none⟩) bl).trans b2))⟩ | exact ⟨((aE.cell (p:=⟨w.heap.size,0,none⟩) (aI)).trans ((aC.cell (p:=⟨w.heap.size,0,none⟩) (aG)).trans ((aA.cell (p:=⟨w.heap.size,0,none⟩) al).trans a0))),((aE.cell (p:=⟨w.heap.size,1,none⟩) (aI)).trans ((aC.cell (p:=⟨w.heap.size,1,none⟩) (aG)).trans ((aA.cell (p:=⟨w.heap.size,1,none⟩) al).trans a1))),((aE.cell (p:=⟨w.heap.size,2,none⟩) (aI)).trans ((aC.cell (p:=⟨w.heap.size,2,none⟩) (aG)).trans ((aA.cell (p:=⟨w.heap.size,2,none⟩) al).trans a2))),((aE.cell (p:=⟨w.heap.size+1,0,none⟩) (aJ)).trans ((aC.cell (p:=⟨w.heap.size+1,0,none⟩) (aF)).trans ((aA.cell (p:=⟨w.heap.size+1,0,none⟩) bl).trans b0))),((aE.cell (p:=⟨w.heap.size+1,1,none⟩) (aJ)).trans ((aC.cell (p:=⟨w.heap.size+1,1,none⟩) (aF)).trans ((aA.cell (p:=⟨w.heap.size+1,1,none⟩) bl).trans b1))),((aE.cell (p:=⟨w.heap.size+1,2,none⟩) (aJ)).trans ((aC.cell (p:=⟨w.heap.size+1,2,none⟩) (aF)).trans ((aA.cell (p:=⟨w.heap.size+1,2,none⟩) bl).trans b2)))⟩ | exact ⟨((far3 _ _ _ _ (by dsimp only;omega)).trans ((aE.cell (p:=⟨w.heap.size,0,none⟩) (aI)).trans ((aC.cell (p:=⟨w.heap.size,0,none⟩) (aG)).trans ((aA.cell (p:=⟨w.heap.size,0,none⟩) al).trans a0)))),((far3 _ _ _ _ (by dsimp only;omega)).trans ((aE.cell (p:=⟨w.heap.size,1,none⟩) (aI)).trans ((aC.cell (p:=⟨w.heap.size,1,none⟩) (aG)).trans ((aA.cell (p:=⟨w.heap.size,1,none⟩) al).trans a1)))),((far3 _ _ _ _ (by dsimp only;omega)).trans ((aE.cell (p:=⟨w.heap.size,2,none⟩) (aI)).trans ((aC.cell (p:=⟨w.heap.size,2,none⟩) (aG)).trans ((aA.cell (p:=⟨w.heap.size,2,none⟩) al).trans a2)))),((far3 _ _ _ _ (by dsimp only;omega)).trans ((aE.cell (p:=⟨w.heap.size+1,0,none⟩) (aJ)).trans ((aC.cell (p:=⟨w.heap.size+1,0,none⟩) (aF)).trans ((aA.cell (p:=⟨w.heap.size+1,0,none⟩) bl).trans b0)))),((far3 _ _ _ _ (by dsimp only;omega)).trans ((aE.cell (p:=⟨w.heap.size+1,1,none⟩) (aJ)).trans ((aC.cell (p:=⟨w.heap.size+1,1,none⟩) (aF)).trans ((aA.cell (p:=⟨w.heap.size+1,1,none⟩) bl).trans b1)))),((far3 _ _ _ _ (by dsimp only;omega)).trans ((aE.cell (p:=⟨w.heap.size+1,2,none⟩) (aJ)).trans ((aC.cell (p:=⟨w.heap.size+1,2,none⟩) (aF)).trans ((aA.cell (p:=⟨w.heap.size+1,2,none⟩) bl).trans b2))))⟩)
  (first
   |(go_at_call_of 90 (Value.slice A1 n1 c1);refine (aU.out).mono ?_;rintro e w4 ⟨A5,m5,c5,rfl,aQ,aA⟩;have aG:=Nat.lt_of_lt_of_le al aA.size;have aF:=Nat.lt_of_lt_of_le bl aA.size)
   |(go_at_call_of 90 (Value.slice A2 n2 c2);refine (zaL A2 A3 n2 c2 n3 c3 p.bot q.top w4 ((h2.later aD).later aA) ((h3.later aD).later aA) (by omega) (by omega)).mono ?_;rintro e w6 ⟨A6,m6,c6,rfl,aP,aC⟩;have aI:=Nat.lt_of_lt_of_le aG aC.size;have aJ:=Nat.lt_of_lt_of_le aF aC.size)
   |(go_at_call 88;refine (zbx _ A5 A6 m5 c5 m6 c6 _ _ w6 (((hT.later aD).later aA).later aC) (aQ.later aC) aP (by have:=zdy aQ (Nat.le_of_eq h1.len) (Nat.le_of_eq h4.len);omega) (by have:=zdy aP (Nat.le_of_eq h2.len) (Nat.le_of_eq h3.len);omega)).mono ?_;rintro e w7 ⟨v,rfl,⟨A7,m7,c7,A8,m8,c8,rfl,h7,h8⟩,aE⟩;have aN:=((aK.below aA cl).below aC (Nat.lt_of_lt_of_le cl aA.size)).below aE (Nat.lt_of_lt_of_le (Nat.lt_of_lt_of_le cl aA.size) aC.size);obtain ⟨e0,e1,e2,g0,g1,g2,gl⟩:=aN.cells))
 go_wp2_with fail
 have aH:Below w.heap.size w w7:=by
  have s5:=aD.size;have s6:=aA.size;have s7:=aC.size;exact ((aD.trans (aA.mono s5)).trans (aC.mono (by omega))).trans (aE.mono (by omega))
 have aM:=zan aH (g:=w.heap.size+1+1) (by omega) (.bool (lowQ (!p.neg==q.neg) (p.top*q.bot) (p.bot*q.top)).neg) (.slice A7 m7 c7) (.slice A8 m8 c8);have aL:(!p.neg==q.neg)=(p.neg != q.neg):=by cases p.neg<;>cases q.neg<;>rfl
 refine bodyPost_ret (v := .agg #[.bool (lowQ (!p.neg==q.neg) (p.top*q.bot) (p.bot*q.top)).neg,.slice A7 m7 c7,.slice A8 m8 c8]) (by simp [results,Tryz.results112,go_sem,e0,e1,e2]) rfl ⟨_,rfl,⟨A7,m7,c7,A8,m8,c8,by rw [aL],?_,?_⟩,aM⟩
 ·rw [zag,←aL];exact h7.res aN _ _ _
 ·rw [zag,←aL];exact h8.res aN _ _ _
def rcmp (p q:Q):Int:=if p.neg=q.neg then (if p.neg then -(ncmp (p.top*q.bot) (q.top*p.bot)) else ncmp (p.top*q.bot) (q.top*p.bot)) else (if q.neg then 1 else -1)
theorem zj1 (x y:Nat):ncmp x y = -1∨ncmp x y=0∨ncmp x y=1:=by
 unfold ncmp;split<;>(try split)<;>simp
theorem zoR:wrap64 1=1:=by simp [wrap64]
theorem zpk:wrap64 0=0:=by simp [wrap64]
theorem zn6:wrap64 (-1) = -1:=by simp [wrap64]
theorem zfB (b:Bool) (t1 u1 t2 u2:Nat) (A1 A2 A3 A4:Option Addr) (n1 c1 n2 c2 n3 c3 n4 c4:Nat) (w:World)
  (h1:NatS w w.heap.size A1 n1 c1 t1) (h2:NatS w w.heap.size A2 n2 c2 u1) (h3:NatS w w.heap.size A3 n3 c3 t2) (h4:NatS w w.heap.size A4 n4 c4 u2)
  (k1:n1≤268435456) (k2:n2≤268435456) (k3:n3≤268435456) (k4:n4≤268435456) :
  Calls Tryz.prog 81 #[.agg #[.bool b,.slice A1 n1 c1,.slice A2 n2 c2],.agg #[.bool b,.slice A3 n3 c3,.slice A4 n4 c4]] w
   fun e w'=>e = .returned (.int .i64 (if b then -(ncmp (t1*u2) (t2*u1)) else ncmp (t1*u2) (t2*u1)))∧Below w.heap.size w w':=by
 go_enter Tryz.func81,Tryz.ntmps81
 cases b
 ·go_wp2_with fail
  have aK:Below w.heap.size w ((w.alloc (.cells #[.bool false,.slice A1 n1 c1,.slice A2 n2 c2] 87)).alloc (.cells #[.bool false,.slice A3 n3 c3,.slice A4 n4 c4] 87)):=((Below.refl _ _).alloc (Nat.le_refl _) _).alloc (by simp) _;have aN:zae ((w.alloc (.cells #[.bool false,.slice A1 n1 c1,.slice A2 n2 c2] 87)).alloc (.cells #[.bool false,.slice A3 n3 c3,.slice A4 n4 c4] 87)) w.heap.size false (.slice A1 n1 c1) (.slice A2 n2 c2):=(zae.new w _ _ _).below ((Below.refl _ _).alloc (Nat.le_refl _) _) (by simp);have aJ:zae ((w.alloc (.cells #[.bool false,.slice A1 n1 c1,.slice A2 n2 c2] 87)).alloc (.cells #[.bool false,.slice A3 n3 c3,.slice A4 n4 c4] 87)) (w.heap.size+1) false (.slice A3 n3 c3) (.slice A4 n4 c4):=by
   have h:=zae.new (w.alloc (.cells #[.bool false,.slice A1 n1 c1,.slice A2 n2 c2] 87)) false (.slice A3 n3 c3) (.slice A4 n4 c4)
   simpa using h
  generalize ((w.alloc (.cells #[.bool false,.slice A1 n1 c1,.slice A2 n2 c2] 87)).alloc (.cells #[.bool false,.slice A3 n3 c3,.slice A4 n4 c4] 87))=w3 at *;obtain ⟨a0,a1,a2,_,_,_,al⟩:=aN.cells;obtain ⟨b0,b1,b2,_,_,_,bl⟩:=aJ.cells;have aC:Below w.heap.size w w3.drew:=aK.drew;have aH:=zaL A1 A4 n1 c1 n4 c4 t1 u2 w3.drew (h1.later aC) (h4.later aC) (by omega) (by omega);have aL:=Aa aH;clear aH
  go_region_held3 (fun w'=>w'.cell? ⟨w.heap.size,0,none⟩=some (.bool false)∧w'.cell? ⟨w.heap.size,1,none⟩=some (.slice A1 n1 c1)∧w'.cell? ⟨w.heap.size,2,none⟩=some (.slice A2 n2 c2)∧w'.cell? ⟨w.heap.size+1,0,none⟩=some (.bool false)∧w'.cell? ⟨w.heap.size+1,1,none⟩=some (.slice A3 n3 c3)∧w'.cell? ⟨w.heap.size+1,2,none⟩=some (.slice A4 n4 c4))
   (first | exact ⟨a0,a1,a2,b0,b1,b2⟩ | exact ⟨((aA.cell (p:=⟨w.heap.size,0,none⟩) al).trans a0),((aA.cell (p:=⟨w.heap.size,1,none⟩) al).trans a1),((aA.cell (p:=⟨w.heap.size,2,none⟩) al).trans a2),((aA.cell (p:=⟨w.heap.size+1,0,none⟩) bl).trans b0),((aA.cell (p:=⟨w.heap.size+1,1,none⟩) bl).trans b1),((aA.cell (p:=⟨w.heap.size+1,2,none⟩) bl).trans b2)⟩ | exact ⟨((aD.cell (p:=⟨w.heap.size,0,none⟩) (aG)).trans ((aA.cell (p:=⟨w.heap.size,0,none⟩) al).trans a0)),((aD.cell (p:=⟨w.heap.size,1,none⟩) (aG)).trans ((aA.cell (p:=⟨w.heap.size,1,none⟩) al).trans a1)),((aD.cell (p:=⟨w.heap.size,2,none⟩) (aG)).trans ((aA.cell (p:=⟨w.heap.size,2,none⟩) al).trans a2)),((aD.cell (p:=⟨w.heap.size+1,0,none⟩) (aF)).trans ((aA.cell (p:=⟨w.heap.size+1,0,none⟩) bl).trans b0)),((aD.cell (p:=⟨w.heap.size+1,1,none⟩) (aF)).trans ((aA.cell (p:=⟨w.heap.size+1,1,none⟩) bl).trans b1)),((aD.cell (p:=⟨w.heap.size+1,2,none⟩) (aF)).trans ((aA.cell (p:=⟨w.heap.size+1,2,none⟩) bl).trans b2))⟩)
   (first
    |(go_at_call_of 90 (Value.slice A1 n1 c1);refine (aL.out).mono ?_;rintro e w4 ⟨A5,m5,c5,rfl,aM,aA⟩;have aG:=Nat.lt_of_lt_of_le al aA.size;have aF:=Nat.lt_of_lt_of_le bl aA.size)
    |(go_at_call_of 90 (Value.slice A3 n3 c3);refine (zaL A3 A2 n3 c3 n2 c2 t2 u1 w4 ((h3.later aC).later aA) ((h2.later aC).later aA) (by omega) (by omega)).mono ?_;rintro e w6 ⟨A6,m6,c6,rfl,aI,aD⟩;have aP:=Nat.lt_of_lt_of_le aG aD.size;have aO:=Nat.lt_of_lt_of_le aF aD.size)
    |(go_at_call 130;refine (zaR A5 A6 m5 c5 m6 c6 _ _ w6 (aM.later aD) aI).mono ?_;rintro e w7 ⟨rfl,nq,rfl⟩))
  have aE:Below w.heap.size w (w6.drewN nq):=by
   have s5:=aC.size;have s6:=aA.size;exact zac ((aC.trans (aA.mono s5)).trans (aD.mono (by omega))) nq
  go_wp2
  refine bodyPost_ret (v := .int .i64 (ncmp (t1*u2) (t2*u1))) (by simp [results,Tryz.results81,go_sem]) rfl ⟨rfl,aE⟩
 ·go_wp2_with fail
  have aK:Below w.heap.size w ((w.alloc (.cells #[.bool true,.slice A1 n1 c1,.slice A2 n2 c2] 87)).alloc (.cells #[.bool true,.slice A3 n3 c3,.slice A4 n4 c4] 87)):=((Below.refl _ _).alloc (Nat.le_refl _) _).alloc (by simp) _;have aN:zae ((w.alloc (.cells #[.bool true,.slice A1 n1 c1,.slice A2 n2 c2] 87)).alloc (.cells #[.bool true,.slice A3 n3 c3,.slice A4 n4 c4] 87)) w.heap.size true (.slice A1 n1 c1) (.slice A2 n2 c2):=(zae.new w _ _ _).below ((Below.refl _ _).alloc (Nat.le_refl _) _) (by simp);have aJ:zae ((w.alloc (.cells #[.bool true,.slice A1 n1 c1,.slice A2 n2 c2] 87)).alloc (.cells #[.bool true,.slice A3 n3 c3,.slice A4 n4 c4] 87)) (w.heap.size+1) true (.slice A3 n3 c3) (.slice A4 n4 c4):=by
   have h:=zae.new (w.alloc (.cells #[.bool true,.slice A1 n1 c1,.slice A2 n2 c2] 87)) true (.slice A3 n3 c3) (.slice A4 n4 c4)
   simpa using h
  generalize ((w.alloc (.cells #[.bool true,.slice A1 n1 c1,.slice A2 n2 c2] 87)).alloc (.cells #[.bool true,.slice A3 n3 c3,.slice A4 n4 c4] 87))=w3 at *;obtain ⟨a0,a1,a2,_,_,_,al⟩:=aN.cells;obtain ⟨b0,b1,b2,_,_,_,bl⟩:=aJ.cells;have aC:Below w.heap.size w w3.drew:=aK.drew;have aH:=zaL A1 A4 n1 c1 n4 c4 t1 u2 w3.drew (h1.later aC) (h4.later aC) (by omega) (by omega);have aL:=Aa aH;clear aH
  go_region_held3 (fun w'=>w'.cell? ⟨w.heap.size,0,none⟩=some (.bool true)∧w'.cell? ⟨w.heap.size,1,none⟩=some (.slice A1 n1 c1)∧w'.cell? ⟨w.heap.size,2,none⟩=some (.slice A2 n2 c2)∧w'.cell? ⟨w.heap.size+1,0,none⟩=some (.bool true)∧w'.cell? ⟨w.heap.size+1,1,none⟩=some (.slice A3 n3 c3)∧w'.cell? ⟨w.heap.size+1,2,none⟩=some (.slice A4 n4 c4))
   (first | exact ⟨a0,a1,a2,b0,b1,b2⟩ | exact ⟨((aA.cell (p:=⟨w.heap.size,0,none⟩) al).trans a0),((aA.cell (p:=⟨w.heap.size,1,none⟩) al).trans a1),((aA.cell (p:=⟨w.heap.size,2,none⟩) al).trans a2),((aA.cell (p:=⟨w.heap.size+1,0,none⟩) bl).trans b0),((aA.cell (p:=⟨w.heap.size+1,1,none⟩) bl).trans b1),((aA.cell (p:=⟨w.heap.size+1,2,none⟩) bl).trans b2)⟩ | exact ⟨((aD.cell (p:=⟨w.heap.size,0,none⟩) (aG)).trans ((aA.cell (p:=⟨w.heap.size,0,none⟩) al).trans a0)),((aD.cell (p:=⟨w.heap.size,1,none⟩) (aG)).trans ((aA.cell (p:=⟨w.heap.size,1,none⟩) al).trans a1)),((aD.cell (p:=⟨w.heap.size,2,none⟩) (aG)).trans ((aA.cell (p:=⟨w.heap.size,2,none⟩) al).trans a2)),((aD.cell (p:=⟨w.heap.size+1,0,none⟩) (aF)).trans ((aA.cell (p:=⟨w.heap.size+1,0,none⟩) bl).trans b0)),((aD.cell (p:=⟨w.heap.size+1,1,none⟩) (aF)).trans ((aA.cell (p:=⟨w.heap.size+1,1,none⟩) bl).trans b1)),((aD.cell (p:=⟨w.heap.size+1,2,none⟩) (aF)).trans ((aA.cell (p:=⟨w.heap.size+1,2,none⟩) bl).trans b2))⟩)
   (first
    |(go_at_call_of 90 (Value.slice A1 n1 c1);refine (aL.out).mono ?_;rintro e w4 ⟨A5,m5,c5,rfl,aM,aA⟩;have aG:=Nat.lt_of_lt_of_le al aA.size;have aF:=Nat.lt_of_lt_of_le bl aA.size)
    |(go_at_call_of 90 (Value.slice A3 n3 c3);refine (zaL A3 A2 n3 c3 n2 c2 t2 u1 w4 ((h3.later aC).later aA) ((h2.later aC).later aA) (by omega) (by omega)).mono ?_;rintro e w6 ⟨A6,m6,c6,rfl,aI,aD⟩;have aP:=Nat.lt_of_lt_of_le aG aD.size;have aO:=Nat.lt_of_lt_of_le aF aD.size)
    |(go_at_call 130;refine (zaR A5 A6 m5 c5 m6 c6 _ _ w6 (aM.later aD) aI).mono ?_;rintro e w7 ⟨rfl,nq,rfl⟩))
  have aE:Below w.heap.size w (w6.drewN nq):=by
   have s5:=aC.size;have s6:=aA.size;exact zac ((aC.trans (aA.mono s5)).trans (aD.mono (by omega))) nq
  go_wp2_with fail
  rcases zj1 (t1*u2) (t2*u1) with e3 | e3 | e3
  all_goals
   rw [e3];go_wp2
   exact bodyPost_ret (by simp [results,Tryz.results81,go_sem,zn6,zpk,zoR];try rfl) rfl ⟨by simp,aE⟩
theorem zf3 (b:Bool) (A1 A2 A3 A4:Option Addr) (n1 c1 n2 c2 n3 c3 n4 c4:Nat) (w:World) :
  Calls Tryz.prog 81 #[.agg #[.bool (!b),.slice A1 n1 c1,.slice A2 n2 c2],.agg #[.bool b,.slice A3 n3 c3,.slice A4 n4 c4]] w
   fun e w'=>e = .returned (.int .i64 (if b then 1 else -1))∧Below w.heap.size w w':=by
 go_enter Tryz.func81,Tryz.ntmps81
 cases b
 ·go_wp2_with fail
  refine (zcG _ _).mono ?_;rintro e w2 ⟨rfl,rfl⟩;go_wp2
  exact bodyPost_ret (by simp [results,Tryz.results81,go_sem];try rfl) rfl ⟨rfl,(((Below.refl _ _).alloc (Nat.le_refl _) _).alloc (by simp) _)⟩
 ·go_wp2_with fail
  refine (zcG _ _).mono ?_;rintro e w2 ⟨rfl,rfl⟩;go_wp2
  exact bodyPost_ret (by simp [results,Tryz.results81,go_sem];try rfl) rfl ⟨rfl,(((Below.refl _ _).alloc (Nat.le_refl _) _).alloc (by simp) _)⟩
theorem zgh (p q:Q) (A1 A2 A3 A4:Option Addr) (n1 c1 n2 c2 n3 c3 n4 c4:Nat) (w:World)
  (h1:NatS w w.heap.size A1 n1 c1 p.top) (h2:NatS w w.heap.size A2 n2 c2 p.bot) (h3:NatS w w.heap.size A3 n3 c3 q.top) (h4:NatS w w.heap.size A4 n4 c4 q.bot)
  (k1:n1≤268435456) (k2:n2≤268435456) (k3:n3≤268435456) (k4:n4≤268435456) :
  Calls Tryz.prog 81 #[.agg #[.bool p.neg,.slice A1 n1 c1,.slice A2 n2 c2],.agg #[.bool q.neg,.slice A3 n3 c3,.slice A4 n4 c4]] w
   fun e w'=>e = .returned (.int .i64 (rcmp p q))∧Below w.heap.size w w':=by
 unfold rcmp
 by_cases h:p.neg=q.neg
 ·rw [if_pos h,←h]
  exact zfB p.neg p.top p.bot q.top q.bot A1 A2 A3 A4 n1 c1 n2 c2 n3 c3 n4 c4 w h1 h2 h3 h4 k1 k2 k3 k4
 ·rw [if_neg h]
  have hq:p.neg = !q.neg:=by revert h;cases p.neg<;>cases q.neg<;>simp
  rw [hq];exact zf3 q.neg A1 A2 A3 A4 n1 c1 n2 c2 n3 c3 n4 c4 w
theorem zc7 (b:Bool) (x:Nat) (A1 A2:Option Addr) (n1 c1 n2 c2:Nat) (w:World) (h1:NatS w w.heap.size A1 n1 c1 x) :
  Calls Tryz.prog 97 #[.agg #[.bool b,.slice A1 n1 c1,.slice A2 n2 c2]] w
   fun e w'=>e = .returned (.bool (decide (x=0)))∧Below w.heap.size w w':=by
 go_enter Tryz.func97,Tryz.ntmps97
 go_wp2_with fail
 have hb:=(Below.refl w.heap.size w).alloc (Nat.le_refl _) (.cells #[.bool b,.slice A1 n1 c1,.slice A2 n2 c2] 87);refine (zaJ A1 n1 c1 x _ (h1.later hb)).mono ?_;rintro e w2 ⟨rfl,rfl⟩;go_wp2
 exact bodyPost_ret (by simp [results,Tryz.results97,go_sem];try rfl) rfl ⟨rfl,hb⟩
end Go.Proofs.YtbkgkoenppkhpaaGreatDoor
