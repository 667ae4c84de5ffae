/- Plain mathematics: the numbers that the program's cosine goes through. No program. -/
import Derived.Test.YteajibbphcfmeaaGreatDoorVRat2
import Derived.Test.YteajibbphcfmeaaGreatDoorVFrx
import Derived.Test.YteajibbphcfmeaaGreatDoorVRat8
import Derived.Test.YteajibbphcfmeaaGreatDoorVBld
namespace Go.Proofs.YteajibbphcfmeaaGreatDoor.Cs
def tanAt (n bits:Nat):Nat→Nat × Nat × Nat
 | 0=>(0,0,2 ^ bits / n)
 | k+1=>match tanAt n bits k with
  | (a,b,p)=>if k % 2=0 then (a+p / (2*k+1),b,p / (n*n)) else (a,b+p / (2*k+1),p / (n*n))
def tanVal (n bits k:Nat):Nat:=(tanAt n bits k).1 - (tanAt n bits k).2.1
structure TanOk (n bits k:Nat):Prop where
 zero:(tanAt n bits k).2.2=0
 pos:∀ j,j<k→0<(tanAt n bits j).2.2
 le:(tanAt n bits k).2.1≤(tanAt n bits k).1
theorem tan_bound (n bits:Nat) (hn:2≤n):∀ k,(tanAt n bits k).1+(tanAt n bits k).2.1+2*(tanAt n bits k).2.2≤2*2 ^ bits
 | 0=>by
  have h:2 ^ bits / n≤2 ^ bits:=Nat.div_le_self _ _
  simp only [tanAt];omega
 | k+1=>by
  have ih:=tan_bound n bits hn k
  simp only [tanAt]
  generalize tanAt n bits k=s at ih ⊢
  obtain ⟨a,b,p⟩:=s
  dsimp only at ih ⊢
  have h1:p / (2*k+1)≤p:=Nat.div_le_self _ _
  have h2:p / (n*n)≤p / 2:=Nat.div_le_div_left (Nat.le_trans (by omega:2≤2*1) (Nat.mul_le_mul hn (by omega))) (by omega)
  split<;>(dsimp only;omega)
def circleOf (bits k l:Nat):Nat:=tanVal 5 bits k*32 - tanVal 239 bits l*8
def serAt (sq bits:Nat):Nat→Nat × Nat × Nat
 | 0=>(0,0,2 ^ bits)
 | n+1=>match serAt sq bits n with
  | (a,b,t)=>if n % 2=0 then (a+t,b,t*sq / 2 ^ bits / ((2*n+1)*(2*n+2))) else (a,b+t,t*sq / 2 ^ bits / ((2*n+1)*(2*n+2)))
def zof (c top bot:Nat):Nat:=c*top / bot
def sqOf (c top bot bits:Nat):Nat:=zof c top bot*zof c top bot / 2 ^ bits
def serVal (sq bits k:Nat):Nat:=(serAt sq bits k).1 - (serAt sq bits k).2.1
structure SerOk (sq bits k M:Nat):Prop where
 zero:(serAt sq bits k).2.2=0
 pos:∀ j,j<k→0<(serAt sq bits j).2.2
 le:(serAt sq bits k).2.1≤(serAt sq bits k).1
 bound:∀ j,j<k+1→(serAt sq bits j).1<2 ^ M∧(serAt sq bits j).2.1<2 ^ M∧(serAt sq bits j).2.2<2 ^ M
theorem tan5:TanOk 5 112 24:=⟨by decide +kernel,by decide +kernel,by decide +kernel⟩
theorem zn9:TanOk 239 112 7:=⟨by decide +kernel,by decide +kernel,by decide +kernel⟩
theorem ser8:SerOk (sqOf (circleOf 112 24 7) 1 8 112) 112 15 192:=⟨by decide +kernel,by decide +kernel,by decide +kernel,by decide +kernel⟩
theorem znP:tanVal 239 112 7*8≤tanVal 5 112 24*32:=by decide +kernel
structure AcOk (top bot bits k l m scale low:Nat):Prop where
 a:TanOk 5 bits k
 b:TanOk 239 bits l
 c:tanVal 239 bits l*8≤tanVal 5 bits k*32
 s:∃ M,M≤1048576∧SerOk (sqOf (circleOf bits k l) top bot bits) bits m M
 big:2 ^ 64≤serVal (sqOf (circleOf bits k l) top bot bits) bits m
 lo:(serVal (sqOf (circleOf bits k l) top bot bits) bits m - 2 ^ 64)*scale / 2 ^ bits=low
 hi:(serVal (sqOf (circleOf bits k l) top bot bits) bits m+2 ^ 64)*scale / 2 ^ bits=low
theorem ac8:AcOk 1 8 112 24 7 15 1000 707:=⟨tan5,zn9,znP,⟨192,by decide,ser8⟩,by decide +kernel,by decide +kernel,by decide +kernel⟩
end Go.Proofs.YteajibbphcfmeaaGreatDoor.Cs
namespace Go.Proofs.YteajibbphcfmeaaGreatDoor
open Go.RowKit Bn
set_option maxHeartbeats 4000000 in
set_option maxRecDepth 100000 in
theorem zhR (p q:Q) (A1 A2 A3 A4:Option Addr) (n1 c1 n2 c2 n3 c3 n4 c4:Nat) (w:World) (hT:Tabs w)
  (h1:NatS w w.heap.size A1 n1 c1 p.top) (h2:NatS w w.heap.size A2 n2 c2 p.bot) (h3:NatS w w.heap.size A3 n3 c3 q.top) (h4:NatS w w.heap.size A4 n4 c4 q.bot)
  (k1:n1≤268435456) (k2:n2≤268435456) (k3:n3≤268435456) (k4:n4≤268435456) :
  Calls Tryz.prog 69 #[.agg #[.bool p.neg,.slice A1 n1 c1,.slice A2 n2 c2],.agg #[.bool q.neg,.slice A3 n3 c3,.slice A4 n4 c4]] w (zaT w (lowQ (p.neg != q.neg) (p.top*q.bot) (p.bot*q.top))):=by
 go_enter Tryz.func69,Tryz.ntmps69
 go_wp2_with fail
 have aS:Below w.heap.size w (((w.alloc (.cells #[.bool p.neg,.slice A1 n1 c1,.slice A2 n2 c2] 91)).alloc (.cells #[.bool q.neg,.slice A3 n3 c3,.slice A4 n4 c4] 91)).alloc (.cells #[.bool false,.slice none 0 0,.slice none 0 0] 91)):=
  (((Below.refl _ _).alloc (Nat.le_refl _) _).alloc (by simp) _).alloc (by simp;omega) _
 have aR:zad (((w.alloc (.cells #[.bool p.neg,.slice A1 n1 c1,.slice A2 n2 c2] 91)).alloc (.cells #[.bool q.neg,.slice A3 n3 c3,.slice A4 n4 c4] 91)).alloc (.cells #[.bool false,.slice none 0 0,.slice none 0 0] 91)) w.heap.size p.neg (.slice A1 n1 c1) (.slice A2 n2 c2):=
  (((zad.new w _ _ _).below ((Below.refl _ _).alloc (Nat.le_refl _) _) (by simp))).below ((Below.refl _ _).alloc (Nat.le_refl _) _) (by simp;omega)
 have aV:zad (((w.alloc (.cells #[.bool p.neg,.slice A1 n1 c1,.slice A2 n2 c2] 91)).alloc (.cells #[.bool q.neg,.slice A3 n3 c3,.slice A4 n4 c4] 91)).alloc (.cells #[.bool false,.slice none 0 0,.slice none 0 0] 91)) (w.heap.size+1) q.neg (.slice A3 n3 c3) (.slice A4 n4 c4):=by
  have h:=(zad.new (w.alloc (.cells #[.bool p.neg,.slice A1 n1 c1,.slice A2 n2 c2] 91)) q.neg (.slice A3 n3 c3) (.slice A4 n4 c4)).below ((Below.refl _ _).alloc (Nat.le_refl _) (.cells #[.bool false,.slice none 0 0,.slice none 0 0] 91)) (by simp)
  simpa using h
 have aT:zad (((w.alloc (.cells #[.bool p.neg,.slice A1 n1 c1,.slice A2 n2 c2] 91)).alloc (.cells #[.bool q.neg,.slice A3 n3 c3,.slice A4 n4 c4] 91)).alloc (.cells #[.bool false,.slice none 0 0,.slice none 0 0] 91)) (w.heap.size+1+1) false (.slice none 0 0) (.slice none 0 0):=by
  have h:=zad.new ((w.alloc (.cells #[.bool p.neg,.slice A1 n1 c1,.slice A2 n2 c2] 91)).alloc (.cells #[.bool q.neg,.slice A3 n3 c3,.slice A4 n4 c4] 91)) false (.slice none 0 0) (.slice none 0 0)
  simpa using h
 generalize (((w.alloc (.cells #[.bool p.neg,.slice A1 n1 c1,.slice A2 n2 c2] 91)).alloc (.cells #[.bool q.neg,.slice A3 n3 c3,.slice A4 n4 c4] 91)).alloc (.cells #[.bool false,.slice none 0 0,.slice none 0 0] 91))=w3 at *
 obtain ⟨a0,a1,a2,_,_,_,al⟩:=aR.cells
 obtain ⟨b0,b1,b2,_,_,_,bl⟩:=aV.cells
 have aD:Below w.heap.size w w3.drew:=aS.drew
 have aO:=zaE A1 A4 n1 c1 n4 c4 p.top q.bot w3.drew (h1.later aD) (h4.later aD) (by omega) (by omega)
 have aK:zad w3.drew (w.heap.size+1+1) false (.slice none 0 0) (.slice none 0 0):=aT
 have cl:w.heap.size+1+1<w3.drew.heap.size:=aK.cells.2.2.2.2.2.2
 have aU:=Lib.hid aO
 clear aO
 go_region_held3 (fun w'=>w'.cell? ⟨w.heap.size,0,none⟩=some (.bool p.neg)∧w'.cell? ⟨w.heap.size,1,none⟩=some (.slice A1 n1 c1)∧w'.cell? ⟨w.heap.size,2,none⟩=some (.slice A2 n2 c2)∧w'.cell? ⟨w.heap.size+1,0,none⟩=some (.bool q.neg)∧w'.cell? ⟨w.heap.size+1,1,none⟩=some (.slice A3 n3 c3)∧w'.cell? ⟨w.heap.size+1,2,none⟩=some (.slice A4 n4 c4))
  (first | exact ⟨a0,a1,a2,b0,b1,b2⟩ | exact ⟨((aA.cell (p:=⟨w.heap.size,0,none⟩) al).trans a0),((aA.cell (p:=⟨w.heap.size,1,none⟩) al).trans a1),((aA.cell (p:=⟨w.heap.size,2,none⟩) al).trans a2),((aA.cell (p:=⟨w.heap.size+1,0,none⟩) bl).trans b0),((aA.cell (p:=⟨w.heap.size+1,1,none⟩) bl).trans b1),((aA.cell (p:=⟨w.heap.size+1,2,none⟩) bl).trans b2)⟩ | exact ⟨((aC.cell (p:=⟨w.heap.size,0,none⟩) (aG)).trans ((aA.cell (p:=⟨w.heap.size,0,none⟩) al).trans a0)),((aC.cell (p:=⟨w.heap.size,1,none⟩) (aG)).trans ((aA.cell (p:=⟨w.heap.size,1,none⟩) al).trans a1)),((aC.cell (p:=⟨w.heap.size,2,none⟩) (aG)).trans ((aA.cell (p:=⟨w.heap.size,2,none⟩) al).trans a2)),((aC.cell (p:=⟨w.heap.size+1,0,none⟩) (aF)).trans ((aA.cell (p:=⟨w.heap.size+1,0,none⟩) bl).trans b0)),((aC.cell (p:=⟨w.heap.size+1,1,none⟩) (aF)).trans ((aA.cell (p:=⟨w.heap.size+1,1,none⟩) bl).trans b1)),((aC.cell (p:=⟨w.heap.size+1,2,none⟩) (aF)).trans ((aA.cell (p:=⟨w.heap.size+1,2,none⟩) bl).trans b2))⟩ | exact ⟨((aE.cell (p:=⟨w.heap.size,0,none⟩) (aI)).trans ((aC.cell (p:=⟨w.heap.size,0,none⟩) (aG)).trans ((aA.cell (p:=⟨w.heap.size,0,none⟩) al).trans a0))),((aE.cell (p:=⟨w.heap.size,1,none⟩) (aI)).trans ((aC.cell (p:=⟨w.heap.size,1,none⟩) (aG)).trans ((aA.cell (p:=⟨w.heap.size,1,none⟩) al).trans a1))),((aE.cell (p:=⟨w.heap.size,2,none⟩) (aI)).trans ((aC.cell (p:=⟨w.heap.size,2,none⟩) (aG)).trans ((aA.cell (p:=⟨w.heap.size,2,none⟩) al).trans a2))),((aE.cell (p:=⟨w.heap.size+1,0,none⟩) (aJ)).trans ((aC.cell (p:=⟨w.heap.size+1,0,none⟩) (aF)).trans ((aA.cell (p:=⟨w.heap.size+1,0,none⟩) bl).trans b0))),((aE.cell (p:=⟨w.heap.size+1,1,none⟩) (aJ)).trans ((aC.cell (p:=⟨w.heap.size+1,1,none⟩) (aF)).trans ((aA.cell (p:=⟨w.heap.size+1,1,none⟩) bl).trans b1))),((aE.cell (p:=⟨w.heap.size+1,2,none⟩) (aJ)).trans ((aC.cell (p:=⟨w.heap.size+1,2,none⟩) (aF)).trans ((aA.cell (p:=⟨w.heap.size+1,2,none⟩) bl).trans b2)))⟩ | exact ⟨((far3 _ _ _ _ (by dsimp only;omega)).trans ((aE.cell (p:=⟨w.heap.size,0,none⟩) (aI)).trans ((aC.cell (p:=⟨w.heap.size,0,none⟩) (aG)).trans ((aA.cell (p:=⟨w.heap.size,0,none⟩) al).trans a0)))),((far3 _ _ _ _ (by dsimp only;omega)).trans ((aE.cell (p:=⟨w.heap.size,1,none⟩) (aI)).trans ((aC.cell (p:=⟨w.heap.size,1,none⟩) (aG)).trans ((aA.cell (p:=⟨w.heap.size,1,none⟩) al).trans a1)))),((far3 _ _ _ _ (by dsimp only;omega)).trans ((aE.cell (p:=⟨w.heap.size,2,none⟩) (aI)).trans ((aC.cell (p:=⟨w.heap.size,2,none⟩) (aG)).trans ((aA.cell (p:=⟨w.heap.size,2,none⟩) al).trans a2)))),((far3 _ _ _ _ (by dsimp only;omega)).trans ((aE.cell (p:=⟨w.heap.size+1,0,none⟩) (aJ)).trans ((aC.cell (p:=⟨w.heap.size+1,0,none⟩) (aF)).trans ((aA.cell (p:=⟨w.heap.size+1,0,none⟩) bl).trans b0)))),((far3 _ _ _ _ (by dsimp only;omega)).trans ((aE.cell (p:=⟨w.heap.size+1,1,none⟩) (aJ)).trans ((aC.cell (p:=⟨w.heap.size+1,1,none⟩) (aF)).trans ((aA.cell (p:=⟨w.heap.size+1,1,none⟩) bl).trans b1)))),((far3 _ _ _ _ (by dsimp only;omega)).trans ((aE.cell (p:=⟨w.heap.size+1,2,none⟩) (aJ)).trans ((aC.cell (p:=⟨w.heap.size+1,2,none⟩) (aF)).trans ((aA.cell (p:=⟨w.heap.size+1,2,none⟩) bl).trans b2))))⟩)
  (first
   |(go_at_call_of 105 (Value.slice A1 n1 c1);refine (aU.out).mono ?_;rintro e w4 ⟨A5,m5,c5,rfl,aP,aA⟩;have aG:=Nat.lt_of_lt_of_le al aA.size;have aF:=Nat.lt_of_lt_of_le bl aA.size)
   |(go_at_call_of 105 (Value.slice A2 n2 c2);refine (zaE A2 A3 n2 c2 n3 c3 p.bot q.top w4 ((h2.later aD).later aA) ((h3.later aD).later aA) (by omega) (by omega)).mono ?_;rintro e w6 ⟨A6,m6,c6,rfl,aQ,aC⟩;have aI:=Nat.lt_of_lt_of_le aG aC.size;have aJ:=Nat.lt_of_lt_of_le aF aC.size)
   |(go_at_call 104;refine (zbq _ A5 A6 m5 c5 m6 c6 _ _ w6 (((hT.later aD).later aA).later aC) (aP.later aC) aQ (by have:=zc9 aP (Nat.le_of_eq h1.len) (Nat.le_of_eq h4.len);omega) (by have:=zc9 aQ (Nat.le_of_eq h2.len) (Nat.le_of_eq h3.len);omega)).mono ?_;rintro e w7 ⟨v,rfl,⟨A7,m7,c7,A8,m8,c8,rfl,h7,h8⟩,aE⟩;have aN:=((aK.below aA cl).below aC (Nat.lt_of_lt_of_le cl aA.size)).below aE (Nat.lt_of_lt_of_le (Nat.lt_of_lt_of_le cl aA.size) aC.size);obtain ⟨e0,e1,e2,g0,g1,g2,gl⟩:=aN.cells))
 go_wp2_with fail
 have aH:Below w.heap.size w w7:=by
  have s5:=aD.size
  have s6:=aA.size
  have s7:=aC.size
  exact ((aD.trans (aA.mono s5)).trans (aC.mono (by omega))).trans (aE.mono (by omega))
 have aL:=zak aH (g:=w.heap.size+1+1) (by omega) (.bool (lowQ (!p.neg==q.neg) (p.top*q.bot) (p.bot*q.top)).neg) (.slice A7 m7 c7) (.slice A8 m8 c8)
 have aM:(!p.neg==q.neg)=(p.neg != q.neg):=by cases p.neg<;>cases q.neg<;>rfl
 refine bodyPost_ret (v := .agg #[.bool (lowQ (!p.neg==q.neg) (p.top*q.bot) (p.bot*q.top)).neg,.slice A7 m7 c7,.slice A8 m8 c8]) (by simp [results,Tryz.results69,go_sem,e0,e1,e2]) rfl ⟨_,rfl,⟨A7,m7,c7,A8,m8,c8,by rw [aM],?_,?_⟩,aL⟩
 ·rw [zaf,←aM];exact h7.res aN _ _ _
 ·rw [zaf,←aM];exact h8.res aN _ _ _
set_option maxHeartbeats 4000000 in
set_option maxRecDepth 100000 in
theorem zfv (b:Bool) (x y:Nat) (A1 A2:Option Addr) (n1 c1 n2 c2:Nat) (w:World) (h1:NatS w w.heap.size A1 n1 c1 x) (h2:NatS w w.heap.size A2 n2 c2 y) :
  Calls Tryz.prog 133 #[.agg #[.bool b,.slice A1 n1 c1,.slice A2 n2 c2]] w (zaT w ⟨!b && !decide (x=0),x,y⟩):=by
 go_enter Tryz.func133,Tryz.ntmps133
 cases b
 ·go_wp2_with fail
  have aH:Below w.heap.size w ((w.alloc (.cells #[.bool false,.slice A1 n1 c1,.slice A2 n2 c2] 91)).alloc (.cells #[.bool false,.slice none 0 0,.slice none 0 0] 91)):=((Below.refl _ _).alloc (Nat.le_refl _) _).alloc (by simp) _
  have aI:zad ((w.alloc (.cells #[.bool false,.slice A1 n1 c1,.slice A2 n2 c2] 91)).alloc (.cells #[.bool false,.slice none 0 0,.slice none 0 0] 91)) w.heap.size false (.slice A1 n1 c1) (.slice A2 n2 c2):=(zad.new w _ _ _).below ((Below.refl _ _).alloc (Nat.le_refl _) _) (by simp)
  have aG:zad ((w.alloc (.cells #[.bool false,.slice A1 n1 c1,.slice A2 n2 c2] 91)).alloc (.cells #[.bool false,.slice none 0 0,.slice none 0 0] 91)) (w.heap.size+1) false (.slice none 0 0) (.slice none 0 0):=by
   have h:=zad.new (w.alloc (.cells #[.bool false,.slice A1 n1 c1,.slice A2 n2 c2] 91)) false (.slice none 0 0) (.slice none 0 0)
   simpa using h
  generalize ((w.alloc (.cells #[.bool false,.slice A1 n1 c1,.slice A2 n2 c2] 91)).alloc (.cells #[.bool false,.slice none 0 0,.slice none 0 0] 91))=w3 at *
  obtain ⟨a0,a1,a2,_,_,_,al⟩:=aI.cells
  have aD:Below w.heap.size w w3.drew:=aH.drew
  have aA:zad w3.drew (w.heap.size+1) false (.slice none 0 0) (.slice none 0 0):=aG
  have cl:w.heap.size+1<w3.drew.heap.size:=aA.cells.2.2.2.2.2.2
  obtain ⟨d0,d1,d2,f0,f1,f2,_⟩:=aA.cells
  go_region_held3 (fun w'=>w'.cell? ⟨w.heap.size,0,none⟩=some (.bool false)∧w'.cell? ⟨w.heap.size,1,none⟩=some (.slice A1 n1 c1)∧w'.cell? ⟨w.heap.size,2,none⟩=some (.slice A2 n2 c2))
   (first | exact ⟨a0,a1,a2⟩ | exact ⟨((aE.cell (p:=⟨w.heap.size,0,none⟩) al).trans a0),((aE.cell (p:=⟨w.heap.size,1,none⟩) al).trans a1),((aE.cell (p:=⟨w.heap.size,2,none⟩) al).trans a2)⟩ | exact ⟨((far3 _ _ _ _ (by dsimp only;omega)).trans a0),((far3 _ _ _ _ (by dsimp only;omega)).trans a1),((far3 _ _ _ _ (by dsimp only;omega)).trans a2)⟩ | exact ⟨((far3 _ _ _ _ (by dsimp only;omega)).trans ((aE.cell (p:=⟨w.heap.size,0,none⟩) al).trans a0)),((far3 _ _ _ _ (by dsimp only;omega)).trans ((aE.cell (p:=⟨w.heap.size,1,none⟩) al).trans a1)),((far3 _ _ _ _ (by dsimp only;omega)).trans ((aE.cell (p:=⟨w.heap.size,2,none⟩) al).trans a2))⟩)
   (first
    |(go_at_call 96;refine (zb5 _ x A1 A2 n1 c1 n2 c2 w3.drew (h1.later aD)).mono ?_;rintro e w4 ⟨rfl,aE⟩;have aJ:=aA.below aE cl;obtain ⟨e0,e1,e2,g0,g1,g2,gl⟩:=aJ.cells))
  go_wp2_with fail
  have aC:Below w.heap.size w w4:=aD.trans (aE.mono aD.size)
  have aF:=zak aC (g:=w.heap.size+1) (by omega) (.bool (!decide (x=0))) (.slice A1 n1 c1) (.slice A2 n2 c2)
  refine bodyPost_ret (v := .agg #[.bool (!decide (x=0)),.slice A1 n1 c1,.slice A2 n2 c2]) (by simp [results,Tryz.results133,go_sem,e0,e1,e2]) rfl ⟨_,rfl,⟨A1,n1,c1,A2,n2,c2,by simp,?_,?_⟩,aF⟩
  ·rw [zaf];exact (h1.later aC).res aJ _ _ _
  ·rw [zaf];exact (h2.later aC).res aJ _ _ _
 ·go_wp2_with fail
  have aH:Below w.heap.size w ((w.alloc (.cells #[.bool true,.slice A1 n1 c1,.slice A2 n2 c2] 91)).alloc (.cells #[.bool false,.slice none 0 0,.slice none 0 0] 91)):=((Below.refl _ _).alloc (Nat.le_refl _) _).alloc (by simp) _
  have aI:zad ((w.alloc (.cells #[.bool true,.slice A1 n1 c1,.slice A2 n2 c2] 91)).alloc (.cells #[.bool false,.slice none 0 0,.slice none 0 0] 91)) w.heap.size true (.slice A1 n1 c1) (.slice A2 n2 c2):=(zad.new w _ _ _).below ((Below.refl _ _).alloc (Nat.le_refl _) _) (by simp)
  have aG:zad ((w.alloc (.cells #[.bool true,.slice A1 n1 c1,.slice A2 n2 c2] 91)).alloc (.cells #[.bool false,.slice none 0 0,.slice none 0 0] 91)) (w.heap.size+1) false (.slice none 0 0) (.slice none 0 0):=by
   have h:=zad.new (w.alloc (.cells #[.bool true,.slice A1 n1 c1,.slice A2 n2 c2] 91)) false (.slice none 0 0) (.slice none 0 0)
   simpa using h
  generalize ((w.alloc (.cells #[.bool true,.slice A1 n1 c1,.slice A2 n2 c2] 91)).alloc (.cells #[.bool false,.slice none 0 0,.slice none 0 0] 91))=w3 at *
  obtain ⟨a0,a1,a2,_,_,_,al⟩:=aI.cells
  have aD:Below w.heap.size w w3.drew:=aH.drew
  have aA:zad w3.drew (w.heap.size+1) false (.slice none 0 0) (.slice none 0 0):=aG
  have cl:w.heap.size+1<w3.drew.heap.size:=aA.cells.2.2.2.2.2.2
  obtain ⟨d0,d1,d2,f0,f1,f2,_⟩:=aA.cells
  obtain ⟨x0,x1,x2,y0,y1,y2,_⟩:=aG.cells
  go_region
  go_wp2_with fail
  have aF:=(zak aH (g:=w.heap.size+1) (by omega) (.bool false) (.slice A1 n1 c1) (.slice A2 n2 c2)).drew
  refine bodyPost_ret (v := .agg #[.bool false,.slice A1 n1 c1,.slice A2 n2 c2]) (by simp [results,Tryz.results133,go_sem,x0,x1,x2]) rfl ⟨_,rfl,⟨A1,n1,c1,A2,n2,c2,by simp,?_,?_⟩,aF⟩
  ·show NatS _ (((w3.setCell _ _).setCell _ _).setCell _ _).heap.size _ _ _ _
   rw [zaf];exact (h1.later aD).res aA _ _ _
  ·show NatS _ (((w3.setCell _ _).setCell _ _).setCell _ _).heap.size _ _ _ _
   rw [zaf];exact (h2.later aD).res aA _ _ _
def zaY (q:Q):Q:=⟨q.neg,if q.neg=true∧q.top % q.bot≠0 then q.top / q.bot+1 else q.top / q.bot,1⟩
set_option maxHeartbeats 2000000 in
set_option maxRecDepth 100000 in
theorem zhd (b:Bool) (x y:Nat) (A1 A2:Option Addr) (n1 c1 n2 c2:Nat) (w:World) (h1:NatS w w.heap.size A1 n1 c1 x) (h2:NatS w w.heap.size A2 n2 c2 y) (hy:0<y) (k1:n1≤268435456) :
  Calls Tryz.prog 79 #[.agg #[.bool b,.slice A1 n1 c1,.slice A2 n2 c2]] w (zaT w (zaY ⟨b,x,y⟩)):=by
 have aN:Below w.heap.size w ((w.alloc (.cells #[.bool b,.slice A1 n1 c1,.slice A2 n2 c2] 91)).alloc (.cells #[.bool false,.slice none 0 0,.slice none 0 0] 91)):=((Below.refl _ _).alloc (Nat.le_refl _) _).alloc (by simp) _
 go_enter Tryz.func79,Tryz.ntmps79
 go_wp2_with fail
 refine (zcs A1 A2 n1 c1 n2 c2 x y _ (h1.later aN) (h2.later aN) hy (by omega)).mono ?_
 rintro e w4 ⟨A5,m5,c5,A6,m6,c6,rfl,hq,hr,aQ⟩
 have aO:Below w.heap.size w w4:=aN.trans (aQ.mono aN.size)
 have aM:=((zad.new w b (.slice A1 n1 c1) (.slice A2 n2 c2)).below ((Below.refl _ _).alloc (Nat.le_refl _) (.cells #[.bool false,.slice none 0 0,.slice none 0 0] 91)) (by simp)).below aQ (by simp;omega)
 have aL:zad w4 (w.heap.size+1) false (.slice none 0 0) (.slice none 0 0):=by
  have h:=(zad.new (w.alloc (.cells #[.bool b,.slice A1 n1 c1,.slice A2 n2 c2] 91)) false (.slice none 0 0) (.slice none 0 0)).below aQ (by simp)
  simpa using h
 obtain ⟨z0,z1,z2,_,_,_,zl⟩:=aM.cells
 have aT:(digs (x / y)).length≤n1:=digs_length_le (Nat.lt_of_le_of_lt (Nat.div_le_self x y) (by have:=zac x;rw [h1.len] at this;exact this))
 cases b
 ·have aG:(zaY ⟨false,x,y⟩).top=x / y:=by simp [zaY]
  go_wp2_with fail
  have hW:=aO
  have aH:=aM
  have aI:=aL
  have aF:=hq
  obtain ⟨a0,a1,a2,_,_,_,al⟩:=aH.cells
  have aC:zad w4.drew (w.heap.size+1) false (.slice none 0 0) (.slice none 0 0):=aI
  have cl:w.heap.size+1<w4.drew.heap.size:=aC.cells.2.2.2.2.2.2
  go_region_held3 (fun w'=>w'.cell? ⟨w.heap.size,0,none⟩=some (.bool false)∧w'.cell? ⟨w.heap.size,1,none⟩=some (.slice A1 n1 c1)∧w'.cell? ⟨w.heap.size,2,none⟩=some (.slice A2 n2 c2))
   (first | exact ⟨a0,a1,a2⟩ | exact ⟨((aA.cell (p:=⟨w.heap.size,0,none⟩) al).trans a0),((aA.cell (p:=⟨w.heap.size,1,none⟩) al).trans a1),((aA.cell (p:=⟨w.heap.size,2,none⟩) al).trans a2)⟩ | exact ⟨((far3 _ _ _ _ (by dsimp only;omega)).trans ((aA.cell (p:=⟨w.heap.size,0,none⟩) al).trans a0)),((far3 _ _ _ _ (by dsimp only;omega)).trans ((aA.cell (p:=⟨w.heap.size,1,none⟩) al).trans a1)),((far3 _ _ _ _ (by dsimp only;omega)).trans ((aA.cell (p:=⟨w.heap.size,2,none⟩) al).trans a2))⟩)
   (first | (go_at_call 102;refine (zah 1 w4.drew (by omega) (by omega)).mono ?_;rintro e w8 ⟨A8,m8,c8,rfl,aK,aA⟩;have hk:=aC.below aA cl;obtain ⟨e0,e1,e2,g0,g1,g2,gl⟩:=hk.cells))
  go_wp2_with fail
  have aD:Below w.heap.size w w8:=hW.drew.trans (aA.mono hW.size)
  have aE:=zak aD (g:=w.heap.size+1) (by omega) (.bool false) (.slice A5 m5 c5) (.slice A8 m8 c8)
  refine bodyPost_ret (v := .agg #[.bool false,.slice A5 m5 c5,.slice A8 m8 c8]) (by simp [results,Tryz.results79,go_sem,e0,e1,e2]) rfl ⟨_,rfl,⟨A5,m5,c5,A8,m8,c8,by rfl,?_,?_⟩,aE⟩
  ·rw [zaf,aG];exact (aF.later (Below.drew (Below.refl _ _) |>.trans aA)).res hk _ _ _
  ·rw [zaf];exact aK.res hk _ _ _
 ·go_wp2_with fail
  refine (zaK A6 m6 c6 (x % y) _ hr).mono ?_
  rintro e w5 ⟨rfl,rfl⟩
  by_cases h0:x % y=0
  ·have aG:(zaY ⟨true,x,y⟩).top=x / y:=by simp [zaY,h0]
   have hd:decide (x % y=0)=true:=by simpa using h0
   rw [hd]
   go_wp2_with fail
   have hW:=aO
   have aH:=aM
   have aI:=aL
   have aF:=hq
   obtain ⟨a0,a1,a2,_,_,_,al⟩:=aH.cells
   have aC:zad w4.drew (w.heap.size+1) false (.slice none 0 0) (.slice none 0 0):=aI
   have cl:w.heap.size+1<w4.drew.heap.size:=aC.cells.2.2.2.2.2.2
   go_region_held3 (fun w'=>w'.cell? ⟨w.heap.size,0,none⟩=some (.bool true)∧w'.cell? ⟨w.heap.size,1,none⟩=some (.slice A1 n1 c1)∧w'.cell? ⟨w.heap.size,2,none⟩=some (.slice A2 n2 c2))
    (first | exact ⟨a0,a1,a2⟩ | exact ⟨((aA.cell (p:=⟨w.heap.size,0,none⟩) al).trans a0),((aA.cell (p:=⟨w.heap.size,1,none⟩) al).trans a1),((aA.cell (p:=⟨w.heap.size,2,none⟩) al).trans a2)⟩ | exact ⟨((far3 _ _ _ _ (by dsimp only;omega)).trans ((aA.cell (p:=⟨w.heap.size,0,none⟩) al).trans a0)),((far3 _ _ _ _ (by dsimp only;omega)).trans ((aA.cell (p:=⟨w.heap.size,1,none⟩) al).trans a1)),((far3 _ _ _ _ (by dsimp only;omega)).trans ((aA.cell (p:=⟨w.heap.size,2,none⟩) al).trans a2))⟩)
    (first | (go_at_call 102;refine (zah 1 w4.drew (by omega) (by omega)).mono ?_;rintro e w8 ⟨A8,m8,c8,rfl,aK,aA⟩;have hk:=aC.below aA cl;obtain ⟨e0,e1,e2,g0,g1,g2,gl⟩:=hk.cells))
   go_wp2_with fail
   have aD:Below w.heap.size w w8:=hW.drew.trans (aA.mono hW.size)
   have aE:=zak aD (g:=w.heap.size+1) (by omega) (.bool true) (.slice A5 m5 c5) (.slice A8 m8 c8)
   refine bodyPost_ret (v := .agg #[.bool true,.slice A5 m5 c5,.slice A8 m8 c8]) (by simp [results,Tryz.results79,go_sem,e0,e1,e2]) rfl ⟨_,rfl,⟨A5,m5,c5,A8,m8,c8,by rfl,?_,?_⟩,aE⟩
   ·rw [zaf,aG];exact (aF.later (Below.drew (Below.refl _ _) |>.trans aA)).res hk _ _ _
   ·rw [zaf];exact aK.res hk _ _ _
  ·have aG:(zaY ⟨true,x,y⟩).top=x / y+1:=by simp [zaY,h0]
   have hd:decide (x % y=0)=false:=by simpa using h0
   rw [hd]
   go_wp2_with fail
   refine (zah 1 _ (by omega) (by omega)).mono ?_
   rintro e w6 ⟨A9,m9,c9,rfl,aR,aJ⟩
   go_wp2_with fail
   refine (zb3 A5 A9 m5 c5 m9 c9 _ _ _ (hq.later aJ) aR (by have:=hq.len;omega) (by have:=aR.len;have h3:(digs (Int.toNat 1)).length≤1:=digs_length_le (by decide);omega)).mono ?_
   rintro e w7 ⟨A7,m7,c7,rfl,aS,aP⟩
   go_wp2_with fail
   have s4:=aO.size
   have s9:=aJ.size
   have hW:Below w.heap.size w w7:=(aO.trans (aJ.mono s4)).trans (aP.mono (by omega))
   have aH:=(aM.below aJ zl).below aP (by omega)
   have aI:=(aL.below aJ aL.cells.2.2.2.2.2.2).below aP (by have:=aL.cells.2.2.2.2.2.2;omega)
   have aF:=aS
   obtain ⟨a0,a1,a2,_,_,_,al⟩:=aH.cells
   have aC:zad w7.drew (w.heap.size+1) false (.slice none 0 0) (.slice none 0 0):=aI
   have cl:w.heap.size+1<w7.drew.heap.size:=aC.cells.2.2.2.2.2.2
   go_region_held3 (fun w'=>w'.cell? ⟨w.heap.size,0,none⟩=some (.bool true)∧w'.cell? ⟨w.heap.size,1,none⟩=some (.slice A1 n1 c1)∧w'.cell? ⟨w.heap.size,2,none⟩=some (.slice A2 n2 c2))
    (first | exact ⟨a0,a1,a2⟩ | exact ⟨((aA.cell (p:=⟨w.heap.size,0,none⟩) al).trans a0),((aA.cell (p:=⟨w.heap.size,1,none⟩) al).trans a1),((aA.cell (p:=⟨w.heap.size,2,none⟩) al).trans a2)⟩ | exact ⟨((far3 _ _ _ _ (by dsimp only;omega)).trans ((aA.cell (p:=⟨w.heap.size,0,none⟩) al).trans a0)),((far3 _ _ _ _ (by dsimp only;omega)).trans ((aA.cell (p:=⟨w.heap.size,1,none⟩) al).trans a1)),((far3 _ _ _ _ (by dsimp only;omega)).trans ((aA.cell (p:=⟨w.heap.size,2,none⟩) al).trans a2))⟩)
    (first | (go_at_call 102;refine (zah 1 w7.drew (by omega) (by omega)).mono ?_;rintro e w8 ⟨A8,m8,c8,rfl,aK,aA⟩;have hk:=aC.below aA cl;obtain ⟨e0,e1,e2,g0,g1,g2,gl⟩:=hk.cells))
   go_wp2_with fail
   have aD:Below w.heap.size w w8:=hW.drew.trans (aA.mono hW.size)
   have aE:=zak aD (g:=w.heap.size+1) (by omega) (.bool true) (.slice A7 m7 c7) (.slice A8 m8 c8)
   refine bodyPost_ret (v := .agg #[.bool true,.slice A7 m7 c7,.slice A8 m8 c8]) (by simp [results,Tryz.results79,go_sem,e0,e1,e2]) rfl ⟨_,rfl,⟨A7,m7,c7,A8,m8,c8,by rfl,?_,?_⟩,aE⟩
   ·rw [zaf,aG];exact (aF.later (Below.drew (Below.refl _ _) |>.trans aA)).res hk _ _ _
   ·rw [zaf];exact aK.res hk _ _ _
def LenQ (q:Q) (K:Nat):Prop:=(digs q.top).length≤K∧(digs q.bot).length≤K
theorem LenQ.mono {q:Q} {K L:Nat} (h:LenQ q K) (hl:K≤L):LenQ q L:=⟨Nat.le_trans h.1 hl,Nat.le_trans h.2 hl⟩
theorem RatS.later {w w':World} {v:Value} {q:Q} (h:RatS w w.heap.size v q) (hb:Below w.heap.size w w'):RatS w' w'.heap.size v q:=by
 obtain ⟨A,n,c,A',n',c',rfl,h1,h2⟩:=h
 exact ⟨A,n,c,A',n',c',rfl,h1.later hb,h2.later hb⟩
theorem zbm:(digs 1).length≤1:=digs_length_le (by decide)
theorem zdx {b:Bool} {x y K:Nat} (hx:(digs x).length≤K) (hy:(digs y).length≤K) (hK:1≤K):LenQ (lowQ b x y) K:=by
 unfold lowQ
 split
 ·exact ⟨by show (digs 0).length≤K;rw [digs_zero];exact Nat.zero_le _,by show (digs 0).length≤K;rw [digs_zero];exact Nat.zero_le _⟩
 ·split
  ·exact ⟨by show (digs 0).length≤K;rw [digs_zero];exact Nat.zero_le _,Nat.le_trans zbm hK⟩
  ·exact ⟨Nat.le_trans (zaa (Nat.div_le_self _ _)) hx,Nat.le_trans (zaa (Nat.div_le_self _ _)) hy⟩
def zbV (q:Q):Q:=⟨!q.neg && !decide (q.top=0),q.top,q.bot⟩
def zaX (p q:Q):Q:=zdM p (zbV q)
theorem zbE {q:Q} {K:Nat} (h:LenQ q K):LenQ (zbV q) K:=h
theorem zbg {p q:Q} {K L:Nat} (b:Bool) (hp:LenQ p K) (hq:LenQ q L) (h1:1≤K+L):LenQ (lowQ b (p.top*q.top) (p.bot*q.bot)) (K+L):=
 zdx (zaA hp.1 hq.1) (zaA hp.2 hq.2) h1
theorem zbn {p q:Q} {K L:Nat} (b:Bool) (hp:LenQ p K) (hq:LenQ q L) (h1:1≤K+L):LenQ (lowQ b (p.top*q.bot) (p.bot*q.top)) (K+L):=
 zdx (zaA hp.1 hq.2) (zaA hp.2 hq.1) h1
theorem zbv {p q:Q} {K L:Nat} (hp:LenQ p K) (hq:LenQ q L):LenQ (zdM p q) (K+L+K+L+1):=by
 have hb:(digs (p.bot*q.bot)).length≤K+L:=zaA hp.2 hq.2
 have h1:(digs (p.top*q.bot)).length≤K+L:=zaA hp.1 hq.2
 have h2:(digs (q.top*p.bot)).length≤L+K:=zaA hq.1 hp.2
 have h3:=zc2 h1 h2
 have h4:=zdm (p.top*q.bot) (q.top*p.bot)
 have h5:=zdm (q.top*p.bot) (p.top*q.bot)
 unfold zdM
 split
 ·exact zdx (by omega) (by omega) (by omega)
 ·split
  ·exact zdx (by omega) (by omega) (by omega)
  ·exact zdx (by omega) (by omega) (by omega)
theorem zkv (p q:Q) (v u:Value) (w:World) (hT:Tabs w) (hv:RatS w w.heap.size v p) (hu:RatS w w.heap.size u q) (hp:LenQ p 134217728) (hq:LenQ q 134217728) :
  Calls Tryz.prog 65 #[v,u] w (zaT w (zdM p q)):=by
 obtain ⟨A1,n1,c1,A2,n2,c2,rfl,h1,h2⟩:=hv
 obtain ⟨A3,n3,c3,A4,n4,c4,rfl,h3,h4⟩:=hu
 exact zh1 p q A1 A2 A3 A4 n1 c1 n2 c2 n3 c3 n4 c4 w hT h1 h2 h3 h4 (by rw [←h1.len];exact hp.1) (by rw [←h2.len];exact hp.2) (by rw [←h3.len];exact hq.1) (by rw [←h4.len];exact hq.2)
theorem zdU (p q:Q) (v u:Value) (w:World) (hT:Tabs w) (hv:RatS w w.heap.size v p) (hu:RatS w w.heap.size u q) (hp:LenQ p 268435456) (hq:LenQ q 268435456) :
  Calls Tryz.prog 68 #[v,u] w (zaT w (lowQ (p.neg != q.neg) (p.top*q.top) (p.bot*q.bot))):=by
 obtain ⟨A1,n1,c1,A2,n2,c2,rfl,h1,h2⟩:=hv
 obtain ⟨A3,n3,c3,A4,n4,c4,rfl,h3,h4⟩:=hu
 exact zgP p q A1 A2 A3 A4 n1 c1 n2 c2 n3 c3 n4 c4 w hT h1 h2 h3 h4 (by rw [←h1.len];exact hp.1) (by rw [←h2.len];exact hp.2) (by rw [←h3.len];exact hq.1) (by rw [←h4.len];exact hq.2)
theorem zej (p q:Q) (v u:Value) (w:World) (hT:Tabs w) (hv:RatS w w.heap.size v p) (hu:RatS w w.heap.size u q) (hp:LenQ p 268435456) (hq:LenQ q 268435456) :
  Calls Tryz.prog 69 #[v,u] w (zaT w (lowQ (p.neg != q.neg) (p.top*q.bot) (p.bot*q.top))):=by
 obtain ⟨A1,n1,c1,A2,n2,c2,rfl,h1,h2⟩:=hv
 obtain ⟨A3,n3,c3,A4,n4,c4,rfl,h3,h4⟩:=hu
 exact zhR p q A1 A2 A3 A4 n1 c1 n2 c2 n3 c3 n4 c4 w hT h1 h2 h3 h4 (by rw [←h1.len];exact hp.1) (by rw [←h2.len];exact hp.2) (by rw [←h3.len];exact hq.1) (by rw [←h4.len];exact hq.2)
theorem zbc (p q:Q) (v u:Value) (w:World) (hv:RatS w w.heap.size v p) (hu:RatS w w.heap.size u q) (hp:LenQ p 268435456) (hq:LenQ q 268435456) :
  Calls Tryz.prog 71 #[v,u] w fun e w'=>e = .returned (.int .i64 (rcmp p q))∧Below w.heap.size w w':=by
 obtain ⟨A1,n1,c1,A2,n2,c2,rfl,h1,h2⟩:=hv
 obtain ⟨A3,n3,c3,A4,n4,c4,rfl,h3,h4⟩:=hu
 exact zfE p q A1 A2 A3 A4 n1 c1 n2 c2 n3 c3 n4 c4 w h1 h2 h3 h4 (by rw [←h1.len];exact hp.1) (by rw [←h2.len];exact hp.2) (by rw [←h3.len];exact hq.1) (by rw [←h4.len];exact hq.2)
theorem zjT (p:Q) (v:Value) (w:World) (hv:RatS w w.heap.size v p) :
  Calls Tryz.prog 133 #[v] w (zaT w (zbV p)):=by
 obtain ⟨A1,n1,c1,A2,n2,c2,rfl,h1,h2⟩:=hv
 exact zfv p.neg p.top p.bot A1 A2 n1 c1 n2 c2 w h1 h2
theorem zhB (p:Q) (v:Value) (w:World) (hv:RatS w w.heap.size v p) :
  Calls Tryz.prog 96 #[v] w fun e w'=>e = .returned (.bool (decide (p.top=0)))∧Below w.heap.size w w':=by
 obtain ⟨A1,n1,c1,A2,n2,c2,rfl,h1,h2⟩:=hv
 exact zb5 p.neg p.top A1 A2 n1 c1 n2 c2 w h1
theorem ziA (p:Q) (v:Value) (w:World) (hv:RatS w w.heap.size v p) (hy:0<p.bot) (hp:LenQ p 268435456) :
  Calls Tryz.prog 79 #[v] w (zaT w (zaY p)):=by
 obtain ⟨A1,n1,c1,A2,n2,c2,rfl,h1,h2⟩:=hv
 exact zhd p.neg p.top p.bot A1 A2 n1 c1 n2 c2 w h1 h2 hy (by rw [←h1.len];exact hp.1)
theorem zbR (p:Q) (v:Value) (w:World) (hT:Tabs w) (hv:RatS w w.heap.size v p) (hp:LenQ p 268435456) :
  Calls Tryz.prog 66 #[v] w (zbj w (za0 p) (zao p)):=by
 obtain ⟨A1,n1,c1,A2,n2,c2,rfl,h1,h2⟩:=hv
 exact zfo p A1 A2 n1 c1 n2 c2 w hT h1 h2 (by rw [←h1.len];exact hp.1) (by rw [←h2.len];exact hp.2)
set_option maxHeartbeats 1000000 in
set_option maxRecDepth 100000 in
theorem zhb (a b:Int) (w:World) (hT:Tabs w) (ha : -9223372036854775808≤a∧a<9223372036854775808) (hb : -9223372036854775808≤b∧b<9223372036854775808) :
  Calls Tryz.prog 25 #[.int .i64 a,.int .i64 b] w (zbj w (za0 (lowQ (decide (a<0) != decide (b<0)) (a.natAbs*1) (1*b.natAbs))) (zao (lowQ (decide (a<0) != decide (b<0)) (a.natAbs*1) (1*b.natAbs)))):=by
 have la:LenQ ⟨decide (a<0),a.natAbs,1⟩ 2:=⟨digs_length_le (by have e:B ^ 2=340282366920938463463374607431768211456:=(by decide);rw [e];show a.natAbs<_;omega),Nat.le_trans zbm (by omega)⟩
 have lb:LenQ ⟨decide (b<0),b.natAbs,1⟩ 2:=⟨digs_length_le (by have e:B ^ 2=340282366920938463463374607431768211456:=(by decide);rw [e];show b.natAbs<_;omega),Nat.le_trans zbm (by omega)⟩
 have HA:=Lib.hid (zcf a w ha.1 ha.2)
 have HB:=Lib.hid (fun W=>zcf b W hb.1 hb.2)
 have lo:=zbn (decide (a<0) != decide (b<0)) la lb (by omega)
 have HO:=Lib.hid (fun v u W h1 h2 h3=>zej ⟨decide (a<0),a.natAbs,1⟩ ⟨decide (b<0),b.natAbs,1⟩ v u W h1 h2 h3 (la.mono (by omega)) (lb.mono (by omega)))
 dsimp only at lo HO
 generalize lowQ (decide (a<0) != decide (b<0)) (a.natAbs*1) (1*b.natAbs)=q at *
 clear la lb
 go_enter Tryz.func25,Tryz.ntmps25
 go_wp2_with fail
 refine HA.out.mono ?_
 rintro e w1 ⟨v1,rfl,h1,aD⟩
 go_wp2_with fail
 refine (HB.out w1).mono ?_
 rintro e w2 ⟨v2,rfl,h2,aE⟩
 have aA:=aD.trans (aE.mono aD.size)
 go_wp2_with fail
 refine (HO.out v1 v2 w2 (hT.later aA) (h1.later aE) h2).mono ?_
 rintro e w3 ⟨v3,rfl,h3,aG⟩
 have aC:=aA.trans (aG.mono aA.size)
 go_wp2_with fail
 refine (zbR q v3 w3 (hT.later aC) h3 (lo.mono (by omega))).mono ?_
 rintro e w4 ⟨s,rfl,hs,aF⟩
 go_wp2
 go_ret2
 exact ⟨s,rfl,hs,aC.trans (aF.mono aC.size)⟩
set_option maxHeartbeats 1000000 in
set_option maxRecDepth 100000 in
theorem zg1 (s:ByteArray) (w:World) (hT:Tabs w) (hs:s.size≤4294967296) (hx:zam s.data.toList≠0) :
  Calls Tryz.prog 26 #[.string s] w (zbj w [] (zam s.data.toList)):=by
 have hr:=zbC s w hT hs
 generalize zam s.data.toList=x at hr hx ⊢
 generalize zag s.data.toList=p at hr ⊢
 have aC:(x != 0)=true:=by simpa using hx
 have HX:=Lib.hid hx
 clear hx
 have HR:=Lib.hid hr
 clear hr
 go_enter Tryz.func26,Tryz.ntmps26
 go_wp2_with fail
 refine HR.out.mono ?_
 rintro e w1 ⟨v,rfl,⟨A1,n1,c1,A2,n2,c2,rfl,h1,h2⟩,aA⟩
 go_wp2
 go_ret2
 exact ⟨⟨#[]⟩,rfl,rfl,aA.alloc aA.size _⟩
set_option maxHeartbeats 1000000 in
set_option maxRecDepth 100000 in
theorem zgg (s:ByteArray) (w:World) (hT:Tabs w) (hs:s.size≤4294967296) (hx:zam s.data.toList=0) :
  Calls Tryz.prog 26 #[.string s] w (zbj w (za0 (zaY (zag s.data.toList))) (zao (zaY (zag s.data.toList)))):=by
 have hr:=zbC s w hT hs
 have aA:=@zaB s.data.toList hx
 have aI:=zd5 hx
 rw [hx] at hr
 generalize zag s.data.toList=p at *
 have lf:LenQ (zaY p) 602:=by
  refine ⟨?_,Nat.le_trans zbm (by omega)⟩
  unfold zaY
  dsimp only
  have h1:(digs (p.top / p.bot)).length≤600:=Nat.le_trans (zaa (Nat.div_le_self _ _)) aA.1
  split
  ·have:=zc2 h1 (y:=1) (b:=0+1) (by exact zbm)
   refine Nat.le_trans (zc2 h1 zbm) ?_
   omega
  ·omega
 have HR:=Lib.hid hr
 clear hr hx
 go_enter Tryz.func26,Tryz.ntmps26
 go_wp2_with fail
 refine HR.out.mono ?_
 rintro e w1 ⟨v,rfl,⟨A1,n1,c1,A2,n2,c2,rfl,h1,h2⟩,aD⟩
 have hv:RatS w1 w1.heap.size (.agg #[.bool p.neg,.slice A1 n1 c1,.slice A2 n2 c2]) p:=⟨A1,n1,c1,A2,n2,c2,rfl,h1,h2⟩
 have aF:Below w1.heap.size w1 (w1.alloc (.cells #[.bool p.neg,.slice A1 n1 c1,.slice A2 n2 c2] 91)):=(Below.refl _ _).alloc (Nat.le_refl _) _
 have aE:=aD.trans (aF.mono aD.size)
 go_wp2_with fail
 refine (ziA p _ _ (hv.later aF) aI ⟨by have:=aA.1;omega,by have:=aA.2;omega⟩).mono ?_
 rintro e w2 ⟨v2,rfl,h2,aG⟩
 have aC:=aE.trans (aG.mono aE.size)
 go_wp2_with fail
 refine (zbR (zaY p) v2 w2 (hT.later aC) h2 (lf.mono (by omega))).mono ?_
 rintro e w3 ⟨t,rfl,ht,aH⟩
 go_wp2
 go_ret2
 exact ⟨t,rfl,ht,aC.trans (aH.mono aC.size)⟩
end Go.Proofs.YteajibbphcfmeaaGreatDoor
