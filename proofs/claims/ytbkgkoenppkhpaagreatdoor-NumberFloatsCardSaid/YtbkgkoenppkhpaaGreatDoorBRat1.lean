/- Contracts of package number's rational numbers: lowest. -/
import Derived.Test.YtbkgkoenppkhpaaGreatDoorBDiv4
set_option maxRecDepth 100000
set_option maxHeartbeats 4000000
namespace Go.Proofs.YtbkgkoenppkhpaaGreatDoor
open Go.RowKit Bn
structure Q where
 neg:Bool
 top:Nat
 bot:Nat
def RatS (w:World) (B:Nat) (v:Value) (q:Q):Prop:=
 ∃ A n c A' n' c',v = .agg #[.bool q.neg,.slice A n c,.slice A' n' c']∧NatS w B A n c q.top∧NatS w B A' n' c' q.bot
def za5 (w:World) (q:Q) (e:Ending) (w':World):Prop:=∃ v,e = .returned v∧RatS w' w'.heap.size v q∧Below w.heap.size w w'
def lowQ (neg:Bool) (t b:Nat):Q:=if b=0 then⟨false,0,0⟩ else if t=0 then⟨false,0,1⟩ else⟨neg,t/Nat.gcd t b,b/Nat.gcd t b⟩
theorem zaR(A:Option Addr)(n c x:Nat)(w:World)(h:NatS w w.heap.size A n c x) :
  Calls Tryz.prog 154 #[.slice A n c] w fun e w'=>e = .returned (.bool (decide (x=0)))∧w=w':=by
 have hz:=zcC A n c w (by have:=h.nc;have:=h.cm;omega);have e:((n:Int)==0)=decide (x=0):=by
  rw[Bool.eq_iff_iff];simp only[beq_iff_eq,decide_eq_true_eq]
  rw[←za4 (n:=x),h.len];omega
 rwa [e] at hz
def zae (w:World) (g:Nat) (b:Bool) (v1 v2:Value):Prop:=w.heap[g]? = some (.cells #[.bool b,v1,v2] 87 (0,0))
theorem zae.new(w:World)(b:Bool)(v1 v2:Value):zae (w.alloc (.cells #[.bool b,v1,v2] 87)) w.heap.size b v1 v2:=heap_alloc_new w _
theorem zae.below {w w':World} {g B:Nat} {b:Bool} {v1 v2:Value} (h:zae w g b v1 v2) (hb:Below B w w') (hg:g<B):zae w' g b v1 v2:=(hb.block g hg).trans h
theorem zae.cells {w:World} {g:Nat} {b:Bool} {v1 v2:Value} (h:zae w g b v1 v2) :
  w.cell? ⟨g,0,none⟩=some (.bool b)∧w.cell? ⟨g,1,none⟩=some v1∧w.cell? ⟨g,2,none⟩=some v2∧w.frozen? ⟨g,0,none⟩=false∧w.frozen? ⟨g,1,none⟩=false∧w.frozen? ⟨g,2,none⟩=false∧g<w.heap.size:=by
 unfold zae at h;have aA:g<w.heap.size:=by
  rcases Nat.lt_or_ge g w.heap.size with aA | aC
  ·exact aA
  ·rw[Array.getElem?_eq_none aC] at h;cases h
 exact⟨by rw[cell_of_row w g 0 _ _ _ h];rfl,by rw[cell_of_row w g 1 _ _ _ h];rfl,by rw[cell_of_row w g 2 _ _ _ h];rfl,by simp[World.frozen?,h],by simp[World.frozen?,h],by simp[World.frozen?,h],aA⟩
theorem zah(w:World)(p q r:Addr)(u v x:Value):(((w.setCell p u).setCell q v).setCell r x).heap.size=w.heap.size:=by simp[World.setCell]
theorem NatS.res{w:World}{B n c x g:Nat}{A A1 A2:Option Addr}{b:Bool}{n1 c1 n2 c2:Nat}(h:NatS w B A n c x)(hk:zae w g b (.slice A1 n1 c1) (.slice A2 n2 c2))(u v y:Value) :
  NatS (((w.setCell ⟨g,0,none⟩ u).setCell ⟨g,1,none⟩ v).setCell ⟨g,2,none⟩ y) B A n c x:=by
 obtain⟨k0,k1,k2,_,_,_,_⟩:=hk.cells;refine⟨⟨h.words.1,fun hn => ?_⟩,h.nc,h.cm⟩;obtain⟨ad,e,hb,hc⟩:=h.words.2 hn;refine⟨ad,e,hb,fun j z hz => ?_⟩;have aA:=hc j z hz;have aC:∃ d:Nat,z = .int .u64 (d:Int):=by
  rw[List.getElem?_map] at hz
  cases hd:(digs x)[j]? with
  | none=>rw[hd] at hz;cases hz
  | some d=>rw[hd] at hz;injection hz with hz;exact⟨d,hz.symm⟩
 obtain⟨d,rfl⟩:=aC;have n0:ad.add j≠⟨g,0,none⟩:=fun e0=>by rw[e0,k0] at aA;injection aA with aA;cases aA
 have aD:ad.add j≠⟨g,1,none⟩:=fun e0=>by rw[e0,k1] at aA;injection aA with aA;cases aA
 have aE:ad.add j≠⟨g,2,none⟩:=fun e0=>by rw[e0,k2] at aA;injection aA with aA;cases aA
 rw[World.cell?_setCell_other _ _ _ _ aE.symm,World.cell?_setCell_other _ _ _ _ aD.symm,World.cell?_setCell_other _ _ _ _ n0.symm];exact aA
theorem zao{a w:World}{B g:Nat}(h:Below B a w)(hg:B≤g)(u v x:Value):Below B a (((w.setCell ⟨g,0,none⟩ u).setCell ⟨g,1,none⟩ v).setCell ⟨g,2,none⟩ x):=
 ((h.setCell (p:=⟨g,0,none⟩) hg _).setCell (p:=⟨g,1,none⟩) hg _).setCell (p:=⟨g,2,none⟩) hg _
theorem zbH (neg:Bool) (A A':Option Addr) (n c n' c' x y:Nat) (w:World) (hT:Tabs w) (ha:NatS w w.heap.size A n c x) (hb:NatS w w.heap.size A' n' c' y) (hn:n≤1073741824) (hn':n'≤1073741824) :
  Calls Tryz.prog 88 #[.bool neg,.slice A n c,.slice A' n' c'] w (za5 w (lowQ neg x y)):=by
 have aC:Below w.heap.size w (w.alloc (.cells #[.bool false,.slice none 0 0,.slice none 0 0] 87)):=Ac
 by_cases hy0:y=0
 ·subst hy0
  have hz:=fun W:World=>fun h=>zaR A' n' c' 0 W h
  go_enter Tryz.func88,Tryz.ntmps88
  go_wp2_with fail
  refine(hz _ (hb.later aC)).mono ?_;rintro e w1 ⟨rfl,rfl⟩;go_wp2
  refine bodyPost_ret (v := .agg #[.bool false,.slice none 0 0,.slice none 0 0]) (by simp[results,Tryz.results88,go_sem]) rfl ⟨_,rfl,⟨none,0,0,none,0,0,by simp[lowQ],?_,?_⟩,?_⟩
  ·simp only[lowQ,if_pos];exact NatS.nil _ _
  ·simp only[lowQ,if_pos];exact NatS.nil _ _
  ·exact aC
 ·have hz:=fun W:World=>fun h=>zaR A' n' c' y W h
  have d1:decide (y=0)=false:=by simpa using hy0
  simp only[d1] at hz
  by_cases hx0:x=0
  ·subst hx0
   have aK:=fun W:World=>fun h=>zaR A n c 0 W h
   go_enter Tryz.func88,Tryz.ntmps88
   go_wp2_with fail
   refine(hz _ (hb.later aC)).mono ?_;rintro e w1 ⟨rfl,rfl⟩
   go_wp2_with fail
   refine(aK _ (ha.later aC)).mono ?_;rintro e w1 ⟨rfl,rfl⟩;have aU:=zai 1 (w.alloc (.cells #[.bool false,.slice none 0 0,.slice none 0 0] 87)) (by omega) (by omega)
   go_wp2_with fail
   refine aU.mono ?_;rintro e w2 ⟨A2,m2,c2,rfl,aI,aF⟩;have aA:=(zae.new w false (.slice none 0 0) (.slice none 0 0)).below aF (by simp);obtain⟨k0,k1,k2,f0,f1,f2,aP⟩:=aA.cells;have HE:Hid (lowQ neg 0 y=⟨false,0,1⟩):=by unfold Hid lowQ;rw[if_neg hy0,if_pos rfl]
   have aT:=Ad aC aF;have aE:=zao aT (g:=w.heap.size) (Nat.le_refl _) (.bool false) (.slice none 0 0) (.slice A2 m2 c2);go_wp2
   refine bodyPost_ret (v := .agg #[.bool false,.slice none 0 0,.slice A2 m2 c2]) (by simp[results,Tryz.results88,go_sem,k0,k1,k2]) rfl ⟨_,rfl,⟨none,0,0,A2,m2,c2,by rw[HE.out],?_,?_⟩,?_⟩
   ·rw[HE.out];exact NatS.nil _ _
   ·rw[HE.out,zah];exact aI.res aA _ _ _
   ·exact aE
  ·have aK:=fun W:World=>fun h=>zaR A n c x W h
   have d2:decide (x=0)=false:=by simpa using hx0
   simp only[d2] at aK
   have hx:0<x:=by omega
   have hy:0<y:=by omega
   obtain⟨g,aH⟩:∃ g,g=Nat.gcd x y:=⟨_,rfl⟩;have aN:0<g:=by rw[aH];exact Nat.gcd_pos_of_pos_left _ hx
   have HE:Hid (lowQ neg x y=⟨neg,x/g,y/g⟩):=by unfold Hid lowQ;rw[if_neg hy0,if_neg hx0,aH]
   have aQ:=zeN A A' n c n' c' x y _ (hT.later aC) (ha.later aC) (hb.later aC) hn hn';rw[←aH] at aQ;have aV:g≤x:=by rw[aH];exact Nat.gcd_le_left _ hx
   have HG:=Aa aH;clear aH d1 d2 hx0 hy0;go_enter Tryz.func88,Tryz.ntmps88
   go_wp2_with fail
   refine(hz _ (hb.later aC)).mono ?_;rintro e w1 ⟨rfl,rfl⟩
   go_wp2_with fail
   refine(aK _ (ha.later aC)).mono ?_;rintro e w1 ⟨rfl,rfl⟩
   go_wp2_with fail
   refine aQ.mono ?_;rintro e w2 ⟨A2,m2,c2,rfl,aI,aF⟩;have aD:=Ad aC aF;have ho:=zbE A2 m2 c2 g w2 aI
   by_cases hg1:g=1
   ·have d3:decide (g=1)=true:=by simpa using hg1
    rw[d3] at ho;have aO:=Aa hg1;clear hg1 d3;have aA:=(zae.new w false (.slice none 0 0) (.slice none 0 0)).below aF (by simp);obtain⟨k0,k1,k2,f0,f1,f2,aP⟩:=aA.cells;have aE:=zao aD (g:=w.heap.size) (Nat.le_refl _) (.bool neg) (.slice A n c) (.slice A' n' c')
    go_wp2_with fail
    refine ho.mono ?_;rintro e w3 ⟨rfl,rfl⟩;go_wp2
    refine bodyPost_ret (v := .agg #[.bool neg,.slice A n c,.slice A' n' c']) (by simp[results,Tryz.results88,go_sem,k0,k1,k2]) rfl ⟨_,rfl,⟨A,n,c,A',n',c',by rw[HE.out],?_,?_⟩,aE⟩
    ·rw[HE.out,zah];show NatS _ _ A n c (x/g);rw[aO.out,Nat.div_one];exact(ha.later aD).res aA _ _ _
    ·rw[HE.out,zah];show NatS _ _ A' n' c' (y/g);rw[aO.out,Nat.div_one];exact(hb.later aD).res aA _ _ _
   ·have d3:decide (g=1)=false:=by simpa using hg1
    rw[d3] at ho;clear hg1 d3
    go_wp2_with fail
    refine ho.mono ?_;rintro e w3 ⟨rfl,rfl⟩
    go_wp2_with fail
    refine(zcU A A2 n c m2 c2 x g _ (ha.later aD) aI aN (by omega)).mono ?_;rintro e w4 ⟨A4,m4,c4,_,_,_,rfl,aR,_,aJ⟩;have aG:=Ad aD aJ
    go_wp2_with fail
    refine(zcU A' A2 n' c' m2 c2 y g _ (hb.later aG) (aI.later aJ) aN (by omega)).mono ?_;rintro e w5 ⟨A5,m5,c5,_,_,_,rfl,aS,_,aL⟩;have aM:=Ad aG aL;have aA:=(((zae.new w false (.slice none 0 0) (.slice none 0 0)).below aF (by simp)).below aJ (by have:=aF.size;simp at this;omega)).below aL (by have:=aF.size;have:=aJ.size;simp at *; omega);obtain⟨k0,k1,k2,f0,f1,f2,aP⟩:=aA.cells;have aE:=zao aM (g:=w.heap.size) (Nat.le_refl _) (.bool neg) (.slice A4 m4 c4) (.slice A5 m5 c5);go_wp2
    refine bodyPost_ret (v := .agg #[.bool neg,.slice A4 m4 c4,.slice A5 m5 c5]) (by simp[results,Tryz.results88,go_sem,k0,k1,k2]) rfl ⟨_,rfl,⟨A4,m4,c4,A5,m5,c5,by rw[HE.out],?_,?_⟩,aE⟩
    ·rw[HE.out,zah];exact(aR.later aL).res aA _ _ _
    ·rw[HE.out,zah];exact aS.res aA _ _ _
def topL (l:List UInt8):List UInt8:=Lib.trimPrefix (cutL l).1 [45]
def negL (l:List UInt8):Bool:=Lib.hasPrefix (cutL l).1 [45]
def botL (l:List UInt8):List UInt8:=(cutL l).2.1
def zd4 (l:List UInt8):Bool:=(cutL l).2.2
def zbg (t b:List UInt8) (neg frac:Bool):Int:=
 if zaB t=false∨(neg=true∧t=[48]) then 1
 else if frac=true∧(zaB b=false∨b=[48]∨b=[49]) then 1
 else if 600<t.length∨600<b.length then 4
 else if frac=true∧Nat.gcd (zaj t) (zaj b)≠1 then 1 else 0
def zan (l:List UInt8):Int:=zbg (topL l) (botL l) (negL l) (zd4 l)
def zaf (l:List UInt8):Q:=if zan l=0 then⟨negL l,zaj (topL l),if zd4 l then zaj (botL l) else 1⟩ else⟨false,0,0⟩
def zaC (w:World) (q:Q) (x:Int) (e:Ending) (w':World):Prop:=∃ v,e = .returned (.tuple #[v,.int .i64 x])∧RatS w' w'.heap.size v q∧Below w.heap.size w w'
theorem zji(l:List UInt8)(h:(cutL l).2.2=false):(cutL l).2.1=[]:=by
 unfold cutL at h ⊢
 split
 ·rename_i h1;rw[if_pos h1] at h;cases h
 ·rfl
theorem RatS.zero(w:World)(B:Nat):RatS w B (.agg #[.bool false,.slice none 0 0,.slice none 0 0]) ⟨false,0,0⟩:=⟨none,0,0,none,0,0,rfl,NatS.nil _ _,NatS.nil _ _⟩
theorem zaz {l:List UInt8} (h:zaB l=true):zar l=true:=by
 unfold zaB at h;rw[Bool.and_eq_true] at h;exact h.1
theorem zhB{l:List UInt8}{N:Nat}(h:zar l=true)(h6:l.length≤N):(digs (zaj l)).length≤N:=by
 refine zab ?_;have h1:=zbW l h;have h2:10^l.length≤10^N:=Nat.pow_le_pow_right (by omega) h6;have h3:10^N≤B^N:=Nat.pow_le_pow_left (by rw[zdC];omega) N;omega
theorem zaL{l:List UInt8}(h:zar l=true)(h6:l.length≤600):(digs (zaj l)).length≤600:=zhB h h6
theorem znb (s t:ByteArray) (c1 c2:List UInt8) (neg frac:Bool) (w:World)
  (hc:Calls Tryz.prog 123 #[.string s,.string ⟨#[47]⟩] (w.alloc (.cells #[.bool false,.slice none 0 0,.slice none 0 0] 87)) fun e w'=>(∃ a b:ByteArray,e = .returned (.tuple #[.string a,.string b,.bool frac])∧a.data.toList=c1∧b.data.toList=c2)∧∃ n,w'=(w.alloc (.cells #[.bool false,.slice none 0 0,.slice none 0 0] 87)).drewN n)
  (hcp:∀ (a:ByteArray) (W:World),a.data.toList=c1→Calls Tryz.prog 124 #[.string a,.string ⟨#[45]⟩] W fun e w'=>e = .returned (.tuple #[.string t,.bool neg])∧W=w')
  (D1:zaB t.data.toList=false) :
  Calls Tryz.prog 59 #[.string s] w (zaC w ⟨false,0,0⟩ 1):=by
 have aG:Below w.heap.size w (w.alloc (.cells #[.bool false,.slice none 0 0,.slice none 0 0] 87)):=Ac;go_enter Tryz.func59,Tryz.ntmps59
 go_wp2_with fail
 refine hc.mono ?_;rintro e w1 ⟨⟨a,b,rfl,ha,hb⟩,n,rfl⟩
 go_wp2_with fail
 refine(hcp a _ ha).mono ?_;rintro e w2 ⟨rfl,rfl⟩;have aA:=zam t ((w.alloc (.cells #[.bool false,.slice none 0 0,.slice none 0 0] 87)).drewN n);rw[D1] at aA
 go_wp2_with fail
 refine aA.mono ?_;rintro e w3 ⟨rfl,aD⟩;have aE:Below w.heap.size w w3:=(zad aG n).trans (aD.mono (by simp));have aF:zae w3 w.heap.size false (.slice none 0 0) (.slice none 0 0):=by
  have h:=zae.new w false (.slice none 0 0) (.slice none 0 0);exact zae.below (w:=(w.alloc (.cells #[.bool false,.slice none 0 0,.slice none 0 0] 87)).drewN n) h aD (by simp)
 have aC:=zao aE (g:=w.heap.size) (Nat.le_refl _) (.bool false) (.slice none 0 0) (.slice none 0 0);obtain⟨k0,k1,k2,f0,f1,f2,_⟩:=aF.cells;clear aA;go_wp2
 refine bodyPost_ret (v := .tuple #[.agg #[.bool false,.slice none 0 0,.slice none 0 0],.int .i64 1]) (by simp[results,Tryz.results59,go_sem,k0,k1,k2]) rfl ⟨_,rfl,RatS.zero _ _,aC⟩
theorem zmG(s t:ByteArray)(c1 c2:List UInt8)(neg frac:Bool)(w:World)
 (hc:Calls Tryz.prog 123 #[.string s,.string ⟨#[47]⟩] (w.alloc (.cells #[.bool false,.slice none 0 0,.slice none 0 0] 87)) fun e w'=>(∃ a b:ByteArray,e = .returned (.tuple #[.string a,.string b,.bool frac])∧a.data.toList=c1∧b.data.toList=c2)∧∃ n,w'=(w.alloc (.cells #[.bool false,.slice none 0 0,.slice none 0 0] 87)).drewN n)
 (hcp:∀ (a:ByteArray) (W:World),a.data.toList=c1→Calls Tryz.prog 124 #[.string a,.string ⟨#[45]⟩] W fun e w'=>e = .returned (.tuple #[.string t,.bool neg])∧W=w')
 (D1:zaB t.data.toList=true)(z:(t.toList==[48])=true)(hn:neg=true) :
  Calls Tryz.prog 59 #[.string s] w (zaC w ⟨false,0,0⟩ 1):=by
 subst hn;have aG:Below w.heap.size w (w.alloc (.cells #[.bool false,.slice none 0 0,.slice none 0 0] 87)):=Ac;go_enter Tryz.func59,Tryz.ntmps59
 go_wp2_with fail
 refine hc.mono ?_;rintro e w1 ⟨⟨a,b,rfl,ha,hb⟩,n,rfl⟩
 go_wp2_with fail
 refine(hcp a _ ha).mono ?_;rintro e w2 ⟨rfl,rfl⟩;have aA:=zam t ((w.alloc (.cells #[.bool false,.slice none 0 0,.slice none 0 0] 87)).drewN n);rw[D1] at aA
 go_wp2_with fail
 refine aA.mono ?_;rintro e w3 ⟨rfl,aD⟩;have aE:Below w.heap.size w w3:=(zad aG n).trans (aD.mono (by simp));have aF:zae w3 w.heap.size false (.slice none 0 0) (.slice none 0 0):=by
  have h:=zae.new w false (.slice none 0 0) (.slice none 0 0);exact zae.below (w:=(w.alloc (.cells #[.bool false,.slice none 0 0,.slice none 0 0] 87)).drewN n) h aD (by simp)
 have aC:=zao aE (g:=w.heap.size) (Nat.le_refl _) (.bool false) (.slice none 0 0) (.slice none 0 0);obtain⟨k0,k1,k2,f0,f1,f2,_⟩:=aF.cells;clear aA;go_wp2
 refine bodyPost_ret (v := .tuple #[.agg #[.bool false,.slice none 0 0,.slice none 0 0],.int .i64 1]) (by simp[results,Tryz.results59,go_sem,k0,k1,k2]) rfl ⟨_,rfl,RatS.zero _ _,aC⟩
theorem zn3(s t:ByteArray)(c1 c2:List UInt8)(neg frac:Bool)(w:World)
 (hc:Calls Tryz.prog 123 #[.string s,.string ⟨#[47]⟩] (w.alloc (.cells #[.bool false,.slice none 0 0,.slice none 0 0] 87)) fun e w'=>(∃ a b:ByteArray,e = .returned (.tuple #[.string a,.string b,.bool frac])∧a.data.toList=c1∧b.data.toList=c2)∧∃ n,w'=(w.alloc (.cells #[.bool false,.slice none 0 0,.slice none 0 0] 87)).drewN n)
 (hcp:∀ (a:ByteArray) (W:World),a.data.toList=c1→Calls Tryz.prog 124 #[.string a,.string ⟨#[45]⟩] W fun e w'=>e = .returned (.tuple #[.string t,.bool neg])∧W=w')
 (D1:zaB t.data.toList=true)(zb:Bool)(z:(t.toList==[48])=zb)(hn:(neg && zb)=false)(v48 v49:Bool)(hf:frac=true)(D2:zaB c2=false)(d48:(c2==[48])=v48)(d49:(c2==[49])=v49)  :
  Calls Tryz.prog 59 #[.string s] w (zaC w ⟨false,0,0⟩ 1):=by
 subst hf
 cases neg<;>cases zb<;>(try cases hn)
 all_goals
  have aK:Below w.heap.size w (w.alloc (.cells #[.bool false,.slice none 0 0,.slice none 0 0] 87)):=Ac;go_enter Tryz.func59,Tryz.ntmps59
  go_wp2_with fail
  refine hc.mono ?_;rintro e w1 ⟨⟨a,b,rfl,ha,hb⟩,n,rfl⟩
  go_wp2_with fail
  refine(hcp a _ ha).mono ?_;rintro e w2 ⟨rfl,rfl⟩;have aC:=zam t ((w.alloc (.cells #[.bool false,.slice none 0 0,.slice none 0 0] 87)).drewN n);rw[D1] at aC
  go_wp2_with fail
  refine aC.mono ?_;rintro e w3 ⟨rfl,aH⟩;have aE:Below w.heap.size w w3:=(zad aK n).trans (aH.mono (by simp));have aF:zae w3 w.heap.size false (.slice none 0 0) (.slice none 0 0):=by
   have h:=zae.new w false (.slice none 0 0) (.slice none 0 0);exact zae.below (w:=(w.alloc (.cells #[.bool false,.slice none 0 0,.slice none 0 0] 87)).drewN n) h aH (by simp)
  have aA:=zam b w3;rw[hb,D2] at aA;have aP:(b.toList==[48])=v48:=by rw[ByteArray.toList_eq,hb];exact d48
  have aM:(b.toList==[49])=v49:=by rw[ByteArray.toList_eq,hb];exact d49
  have aI:b.size=c2.length:=by rw[←hb];simp
  have aO:=Aa aI;have aN:=Aa hb;clear hb ha aI
  go_wp2_with fail
  refine aA.mono ?_;rintro e w4 ⟨rfl,aG⟩;have aJ:Below w.heap.size w w4:=Ad aE aG;have aL:=aF.below aG aF.cells.2.2.2.2.2.2;clear aA;have aD:=zao aJ (g:=w.heap.size) (Nat.le_refl _) (.bool false) (.slice none 0 0) (.slice none 0 0);obtain⟨k0,k1,k2,f0,f1,f2,_⟩:=aL.cells;clear aC;go_wp2
  refine bodyPost_ret (v := .tuple #[.agg #[.bool false,.slice none 0 0,.slice none 0 0],.int .i64 1]) (by simp[results,Tryz.results59,go_sem,k0,k1,k2]) rfl ⟨_,rfl,RatS.zero _ _,aD⟩
theorem znQ(s t:ByteArray)(c1 c2:List UInt8)(neg frac:Bool)(w:World)
 (hc:Calls Tryz.prog 123 #[.string s,.string ⟨#[47]⟩] (w.alloc (.cells #[.bool false,.slice none 0 0,.slice none 0 0] 87)) fun e w'=>(∃ a b:ByteArray,e = .returned (.tuple #[.string a,.string b,.bool frac])∧a.data.toList=c1∧b.data.toList=c2)∧∃ n,w'=(w.alloc (.cells #[.bool false,.slice none 0 0,.slice none 0 0] 87)).drewN n)
 (hcp:∀ (a:ByteArray) (W:World),a.data.toList=c1→Calls Tryz.prog 124 #[.string a,.string ⟨#[45]⟩] W fun e w'=>e = .returned (.tuple #[.string t,.bool neg])∧W=w')
 (D1:zaB t.data.toList=true)(zb:Bool)(z:(t.toList==[48])=zb)(hn:(neg && zb)=false)(v49:Bool)(hf:frac=true)(D2:zaB c2=true)(d48:(c2==[48])=true)(d49:(c2==[49])=v49)  :
  Calls Tryz.prog 59 #[.string s] w (zaC w ⟨false,0,0⟩ 1):=by
 subst hf
 cases neg<;>cases zb<;>(try cases hn)
 all_goals
  have aK:Below w.heap.size w (w.alloc (.cells #[.bool false,.slice none 0 0,.slice none 0 0] 87)):=Ac;go_enter Tryz.func59,Tryz.ntmps59
  go_wp2_with fail
  refine hc.mono ?_;rintro e w1 ⟨⟨a,b,rfl,ha,hb⟩,n,rfl⟩
  go_wp2_with fail
  refine(hcp a _ ha).mono ?_;rintro e w2 ⟨rfl,rfl⟩;have aC:=zam t ((w.alloc (.cells #[.bool false,.slice none 0 0,.slice none 0 0] 87)).drewN n);rw[D1] at aC
  go_wp2_with fail
  refine aC.mono ?_;rintro e w3 ⟨rfl,aH⟩;have aE:Below w.heap.size w w3:=(zad aK n).trans (aH.mono (by simp));have aF:zae w3 w.heap.size false (.slice none 0 0) (.slice none 0 0):=by
   have h:=zae.new w false (.slice none 0 0) (.slice none 0 0);exact zae.below (w:=(w.alloc (.cells #[.bool false,.slice none 0 0,.slice none 0 0] 87)).drewN n) h aH (by simp)
  have aA:=zam b w3;rw[hb,D2] at aA;have aP:(b.toList==[48])=true:=by rw[ByteArray.toList_eq,hb];exact d48
  have aM:(b.toList==[49])=v49:=by rw[ByteArray.toList_eq,hb];exact d49
  have aI:b.size=c2.length:=by rw[←hb];simp
  have aO:=Aa aI;have aN:=Aa hb;clear hb ha aI
  go_wp2_with fail
  refine aA.mono ?_;rintro e w4 ⟨rfl,aG⟩;have aJ:Below w.heap.size w w4:=Ad aE aG;have aL:=aF.below aG aF.cells.2.2.2.2.2.2;clear aA;have aD:=zao aJ (g:=w.heap.size) (Nat.le_refl _) (.bool false) (.slice none 0 0) (.slice none 0 0);obtain⟨k0,k1,k2,f0,f1,f2,_⟩:=aL.cells;clear aC;go_wp2
  refine bodyPost_ret (v := .tuple #[.agg #[.bool false,.slice none 0 0,.slice none 0 0],.int .i64 1]) (by simp[results,Tryz.results59,go_sem,k0,k1,k2]) rfl ⟨_,rfl,RatS.zero _ _,aD⟩
theorem znf(s t:ByteArray)(c1 c2:List UInt8)(neg frac:Bool)(w:World)
 (hc:Calls Tryz.prog 123 #[.string s,.string ⟨#[47]⟩] (w.alloc (.cells #[.bool false,.slice none 0 0,.slice none 0 0] 87)) fun e w'=>(∃ a b:ByteArray,e = .returned (.tuple #[.string a,.string b,.bool frac])∧a.data.toList=c1∧b.data.toList=c2)∧∃ n,w'=(w.alloc (.cells #[.bool false,.slice none 0 0,.slice none 0 0] 87)).drewN n)
 (hcp:∀ (a:ByteArray) (W:World),a.data.toList=c1→Calls Tryz.prog 124 #[.string a,.string ⟨#[45]⟩] W fun e w'=>e = .returned (.tuple #[.string t,.bool neg])∧W=w')
 (D1:zaB t.data.toList=true)(zb:Bool)(z:(t.toList==[48])=zb)(hn:(neg && zb)=false)(hf:frac=true)(D2:zaB c2=true)(d48:(c2==[48])=false)(d49:(c2==[49])=true)  :
  Calls Tryz.prog 59 #[.string s] w (zaC w ⟨false,0,0⟩ 1):=by
 subst hf
 cases neg<;>cases zb<;>(try cases hn)
 all_goals
  have aK:Below w.heap.size w (w.alloc (.cells #[.bool false,.slice none 0 0,.slice none 0 0] 87)):=Ac;go_enter Tryz.func59,Tryz.ntmps59
  go_wp2_with fail
  refine hc.mono ?_;rintro e w1 ⟨⟨a,b,rfl,ha,hb⟩,n,rfl⟩
  go_wp2_with fail
  refine(hcp a _ ha).mono ?_;rintro e w2 ⟨rfl,rfl⟩;have aC:=zam t ((w.alloc (.cells #[.bool false,.slice none 0 0,.slice none 0 0] 87)).drewN n);rw[D1] at aC
  go_wp2_with fail
  refine aC.mono ?_;rintro e w3 ⟨rfl,aH⟩;have aE:Below w.heap.size w w3:=(zad aK n).trans (aH.mono (by simp));have aF:zae w3 w.heap.size false (.slice none 0 0) (.slice none 0 0):=by
   have h:=zae.new w false (.slice none 0 0) (.slice none 0 0);exact zae.below (w:=(w.alloc (.cells #[.bool false,.slice none 0 0,.slice none 0 0] 87)).drewN n) h aH (by simp)
  have aA:=zam b w3;rw[hb,D2] at aA;have aP:(b.toList==[48])=false:=by rw[ByteArray.toList_eq,hb];exact d48
  have aM:(b.toList==[49])=true:=by rw[ByteArray.toList_eq,hb];exact d49
  have aI:b.size=c2.length:=by rw[←hb];simp
  have aO:=Aa aI;have aN:=Aa hb;clear hb ha aI
  go_wp2_with fail
  refine aA.mono ?_;rintro e w4 ⟨rfl,aG⟩;have aJ:Below w.heap.size w w4:=Ad aE aG;have aL:=aF.below aG aF.cells.2.2.2.2.2.2;clear aA;have aD:=zao aJ (g:=w.heap.size) (Nat.le_refl _) (.bool false) (.slice none 0 0) (.slice none 0 0);obtain⟨k0,k1,k2,f0,f1,f2,_⟩:=aL.cells;clear aC;go_wp2
  refine bodyPost_ret (v := .tuple #[.agg #[.bool false,.slice none 0 0,.slice none 0 0],.int .i64 1]) (by simp[results,Tryz.results59,go_sem,k0,k1,k2]) rfl ⟨_,rfl,RatS.zero _ _,aD⟩
theorem znv(s t:ByteArray)(c1 c2:List UInt8)(neg frac:Bool)(w:World)
 (hc:Calls Tryz.prog 123 #[.string s,.string ⟨#[47]⟩] (w.alloc (.cells #[.bool false,.slice none 0 0,.slice none 0 0] 87)) fun e w'=>(∃ a b:ByteArray,e = .returned (.tuple #[.string a,.string b,.bool frac])∧a.data.toList=c1∧b.data.toList=c2)∧∃ n,w'=(w.alloc (.cells #[.bool false,.slice none 0 0,.slice none 0 0] 87)).drewN n)
 (hcp:∀ (a:ByteArray) (W:World),a.data.toList=c1→Calls Tryz.prog 124 #[.string a,.string ⟨#[45]⟩] W fun e w'=>e = .returned (.tuple #[.string t,.bool neg])∧W=w')
 (D1:zaB t.data.toList=true)(zb:Bool)(z:(t.toList==[48])=zb)(hn:(neg && zb)=false)(hf:frac=true)(D2:zaB c2=true)(d48:(c2==[48])=false)(d49:(c2==[49])=false)(HLN:Hid (600<t.size∨600<c2.length)) :
  Calls Tryz.prog 59 #[.string s] w (zaC w ⟨false,0,0⟩ 4):=by
 subst hf
 cases neg<;>cases zb<;>(try cases hn)
 all_goals
  have aL:Below w.heap.size w (w.alloc (.cells #[.bool false,.slice none 0 0,.slice none 0 0] 87)):=Ac;go_enter Tryz.func59,Tryz.ntmps59
  go_wp2_with fail
  refine hc.mono ?_;rintro e w1 ⟨⟨a,b,rfl,ha,hb⟩,n,rfl⟩
  go_wp2_with fail
  refine(hcp a _ ha).mono ?_;rintro e w2 ⟨rfl,rfl⟩;have aC:=zam t ((w.alloc (.cells #[.bool false,.slice none 0 0,.slice none 0 0] 87)).drewN n);rw[D1] at aC
  go_wp2_with fail
  refine aC.mono ?_;rintro e w3 ⟨rfl,aH⟩;have aF:Below w.heap.size w w3:=(zad aL n).trans (aH.mono (by simp));have aG:zae w3 w.heap.size false (.slice none 0 0) (.slice none 0 0):=by
   have h:=zae.new w false (.slice none 0 0) (.slice none 0 0);exact zae.below (w:=(w.alloc (.cells #[.bool false,.slice none 0 0,.slice none 0 0] 87)).drewN n) h aH (by simp)
  have aA:=zam b w3;rw[hb,D2] at aA;have aQ:(b.toList==[48])=false:=by rw[ByteArray.toList_eq,hb];exact d48
  have aN:(b.toList==[49])=false:=by rw[ByteArray.toList_eq,hb];exact d49
  have aE:b.size=c2.length:=by rw[←hb];simp
  have aK:=Aa aE;have aP:=Aa hb;clear hb ha aE
  go_wp2_with fail
  refine aA.mono ?_;rintro e w4 ⟨rfl,aI⟩;have aJ:Below w.heap.size w w4:=Ad aF aI;have aM:=aG.below aI aG.cells.2.2.2.2.2.2;clear aA;have aO:decide ((600:Int)<max (t.size:Int) (b.size:Int))=true:=by
   have h:=aK.out;have h2:=HLN.out;simp only[decide_eq_true_eq]
   omega
  have aD:=zao aJ (g:=w.heap.size) (Nat.le_refl _) (.bool false) (.slice none 0 0) (.slice none 0 0);obtain⟨k0,k1,k2,f0,f1,f2,_⟩:=aM.cells;clear aC;go_wp2
  refine bodyPost_ret (v := .tuple #[.agg #[.bool false,.slice none 0 0,.slice none 0 0],.int .i64 4]) (by simp[results,Tryz.results59,go_sem,k0,k1,k2]) rfl ⟨_,rfl,RatS.zero _ _,aD⟩
theorem zok(s t:ByteArray)(c1 c2:List UInt8)(neg frac:Bool)(w:World)
 (hc:Calls Tryz.prog 123 #[.string s,.string ⟨#[47]⟩] (w.alloc (.cells #[.bool false,.slice none 0 0,.slice none 0 0] 87)) fun e w'=>(∃ a b:ByteArray,e = .returned (.tuple #[.string a,.string b,.bool frac])∧a.data.toList=c1∧b.data.toList=c2)∧∃ n,w'=(w.alloc (.cells #[.bool false,.slice none 0 0,.slice none 0 0] 87)).drewN n)
 (hcp:∀ (a:ByteArray) (W:World),a.data.toList=c1→Calls Tryz.prog 124 #[.string a,.string ⟨#[45]⟩] W fun e w'=>e = .returned (.tuple #[.string t,.bool neg])∧W=w')
 (D1:zaB t.data.toList=true)(zb:Bool)(z:(t.toList==[48])=zb)(hn:(neg && zb)=false)(hf:frac=false)(d2n:c2=[])(HLN:Hid (600<t.size∨600<0)) :
  Calls Tryz.prog 59 #[.string s] w (zaC w ⟨false,0,0⟩ 4):=by
 subst hf
 cases neg<;>cases zb<;>(try cases hn)
 all_goals
  have aI:Below w.heap.size w (w.alloc (.cells #[.bool false,.slice none 0 0,.slice none 0 0] 87)):=Ac;go_enter Tryz.func59,Tryz.ntmps59
  go_wp2_with fail
  refine hc.mono ?_;rintro e w1 ⟨⟨a,b,rfl,ha,hb⟩,n,rfl⟩
  go_wp2_with fail
  refine(hcp a _ ha).mono ?_;rintro e w2 ⟨rfl,rfl⟩;have aA:=zam t ((w.alloc (.cells #[.bool false,.slice none 0 0,.slice none 0 0] 87)).drewN n);rw[D1] at aA
  go_wp2_with fail
  refine aA.mono ?_;rintro e w3 ⟨rfl,aD⟩;have aF:Below w.heap.size w w3:=(zad aI n).trans (aD.mono (by simp));have aG:zae w3 w.heap.size false (.slice none 0 0) (.slice none 0 0):=by
   have h:=zae.new w false (.slice none 0 0) (.slice none 0 0);exact zae.below (w:=(w.alloc (.cells #[.bool false,.slice none 0 0,.slice none 0 0] 87)).drewN n) h aD (by simp)
  have aE:b.size=0:=by
   have:b.data.toList.length=0:=by rw[hb,d2n];rfl
   simpa using this
  have aH:=Aa aE;clear hb ha aE;have aJ:decide ((600:Int)<max (t.size:Int) (b.size:Int))=true:=by
   have h:=aH.out;have h2:=HLN.out;simp only[decide_eq_true_eq]
   omega
  have aC:=zao aF (g:=w.heap.size) (Nat.le_refl _) (.bool false) (.slice none 0 0) (.slice none 0 0);obtain⟨k0,k1,k2,f0,f1,f2,_⟩:=aG.cells;clear aA;go_wp2
  refine bodyPost_ret (v := .tuple #[.agg #[.bool false,.slice none 0 0,.slice none 0 0],.int .i64 4]) (by simp[results,Tryz.results59,go_sem,k0,k1,k2]) rfl ⟨_,rfl,RatS.zero _ _,aC⟩
theorem zlg(s t:ByteArray)(c1 c2:List UInt8)(neg frac:Bool)(w:World)
 (hc:Calls Tryz.prog 123 #[.string s,.string ⟨#[47]⟩] (w.alloc (.cells #[.bool false,.slice none 0 0,.slice none 0 0] 87)) fun e w'=>(∃ a b:ByteArray,e = .returned (.tuple #[.string a,.string b,.bool frac])∧a.data.toList=c1∧b.data.toList=c2)∧∃ n,w'=(w.alloc (.cells #[.bool false,.slice none 0 0,.slice none 0 0] 87)).drewN n)
 (hcp:∀ (a:ByteArray) (W:World),a.data.toList=c1→Calls Tryz.prog 124 #[.string a,.string ⟨#[45]⟩] W fun e w'=>e = .returned (.tuple #[.string t,.bool neg])∧W=w')
 (D1:zaB t.data.toList=true)(zb:Bool)(z:(t.toList==[48])=zb)(hn:(neg && zb)=false)(hf:frac=false)(d2n:c2=[])(HLN:Hid (t.size≤600∧0≤600)) :
  Calls Tryz.prog 59 #[.string s] w (zaC w ⟨neg,zaj t.data.toList,1⟩ 0):=by
 subst hf
 cases neg<;>cases zb<;>(try cases hn)
 ·have aQ:Below w.heap.size w (w.alloc (.cells #[.bool false,.slice none 0 0,.slice none 0 0] 87)):=Ac
  go_enter Tryz.func59,Tryz.ntmps59
  go_wp2_with fail
  refine hc.mono ?_;rintro e w1 ⟨⟨a,b,rfl,ha,hb⟩,n,rfl⟩
  go_wp2_with fail
  refine(hcp a _ ha).mono ?_;rintro e w2 ⟨rfl,rfl⟩;have aD:=zam t ((w.alloc (.cells #[.bool false,.slice none 0 0,.slice none 0 0] 87)).drewN n);rw[D1] at aD
  go_wp2_with fail
  refine aD.mono ?_;rintro e w3 ⟨rfl,aN⟩;have aL:Below w.heap.size w w3:=(zad aQ n).trans (aN.mono (by simp));have aI:zae w3 w.heap.size false (.slice none 0 0) (.slice none 0 0):=by
   have h:=zae.new w false (.slice none 0 0) (.slice none 0 0);exact zae.below (w:=(w.alloc (.cells #[.bool false,.slice none 0 0,.slice none 0 0] 87)).drewN n) h aN (by simp)
  have aJ:b.size=0:=by
   have:b.data.toList.length=0:=by rw[hb,d2n];rfl
   simpa using this
  have aP:=Aa aJ;clear hb ha aJ;have aU:decide ((600:Int)<max (t.size:Int) (b.size:Int))=false:=by
   have h:=aP.out;have h2:=HLN.out;simp only[decide_eq_false_iff_not]
   omega
  have aH:=zaz D1;have aF:=zaY t w3 aH (by have:=HLN.out;omega);have aO:=Aa aF;clear aD aF aH
  go_wp2_with fail
  refine aO.out.mono ?_;rintro e w5 ⟨A5,m5,c5,rfl,aS,aG⟩;have aK:=aI.below aG aI.cells.2.2.2.2.2.2;have aM:Below w.heap.size w w5:=Ad aL aG
  go_wp2_with fail
  refine(zai 1 w5 (by omega) (by omega)).mono ?_;rintro e w6 ⟨A6,m6,c6,rfl,aR,aC⟩;have aE:=aK.below aC aK.cells.2.2.2.2.2.2;have aT:Below w.heap.size w w6:=Ad aM aC;obtain⟨k0,k1,k2,f0,f1,f2,_⟩:=aE.cells;have aA:=zao aT (g:=w.heap.size) (Nat.le_refl _) (.bool false) (.slice A5 m5 c5) (.slice A6 m6 c6);go_wp2
  refine bodyPost_ret (v := .tuple #[.agg #[.bool false,.slice A5 m5 c5,.slice A6 m6 c6],.int .i64 0]) (by simp[results,Tryz.results59,go_sem,k0,k1,k2]) rfl ⟨_,rfl,⟨A5,m5,c5,A6,m6,c6,rfl,?_,?_⟩,aA⟩
  ·rw[zah];exact(aS.later aC).res aE _ _ _
  ·rw[zah];exact aR.res aE _ _ _
 ·have aQ:Below w.heap.size w (w.alloc (.cells #[.bool false,.slice none 0 0,.slice none 0 0] 87)):=Ac
  go_enter Tryz.func59,Tryz.ntmps59
  go_wp2_with fail
  refine hc.mono ?_;rintro e w1 ⟨⟨a,b,rfl,ha,hb⟩,n,rfl⟩
  go_wp2_with fail
  refine(hcp a _ ha).mono ?_;rintro e w2 ⟨rfl,rfl⟩;have aD:=zam t ((w.alloc (.cells #[.bool false,.slice none 0 0,.slice none 0 0] 87)).drewN n);rw[D1] at aD
  go_wp2_with fail
  refine aD.mono ?_;rintro e w3 ⟨rfl,aN⟩;have aL:Below w.heap.size w w3:=(zad aQ n).trans (aN.mono (by simp));have aI:zae w3 w.heap.size false (.slice none 0 0) (.slice none 0 0):=by
   have h:=zae.new w false (.slice none 0 0) (.slice none 0 0);exact zae.below (w:=(w.alloc (.cells #[.bool false,.slice none 0 0,.slice none 0 0] 87)).drewN n) h aN (by simp)
  have aJ:b.size=0:=by
   have:b.data.toList.length=0:=by rw[hb,d2n];rfl
   simpa using this
  have aP:=Aa aJ;clear hb ha aJ;have aU:decide ((600:Int)<max (t.size:Int) (b.size:Int))=false:=by
   have h:=aP.out;have h2:=HLN.out;simp only[decide_eq_false_iff_not]
   omega
  have aH:=zaz D1;have aF:=zaY t w3 aH (by have:=HLN.out;omega);have aO:=Aa aF;clear aD aF aH
  go_wp2_with fail
  refine aO.out.mono ?_;rintro e w5 ⟨A5,m5,c5,rfl,aS,aG⟩;have aK:=aI.below aG aI.cells.2.2.2.2.2.2;have aM:Below w.heap.size w w5:=Ad aL aG
  go_wp2_with fail
  refine(zai 1 w5 (by omega) (by omega)).mono ?_;rintro e w6 ⟨A6,m6,c6,rfl,aR,aC⟩;have aE:=aK.below aC aK.cells.2.2.2.2.2.2;have aT:Below w.heap.size w w6:=Ad aM aC;obtain⟨k0,k1,k2,f0,f1,f2,_⟩:=aE.cells;have aA:=zao aT (g:=w.heap.size) (Nat.le_refl _) (.bool false) (.slice A5 m5 c5) (.slice A6 m6 c6);go_wp2
  refine bodyPost_ret (v := .tuple #[.agg #[.bool false,.slice A5 m5 c5,.slice A6 m6 c6],.int .i64 0]) (by simp[results,Tryz.results59,go_sem,k0,k1,k2]) rfl ⟨_,rfl,⟨A5,m5,c5,A6,m6,c6,rfl,?_,?_⟩,aA⟩
  ·rw[zah];exact(aS.later aC).res aE _ _ _
  ·rw[zah];exact aR.res aE _ _ _
 ·have aQ:Below w.heap.size w (w.alloc (.cells #[.bool false,.slice none 0 0,.slice none 0 0] 87)):=Ac
  go_enter Tryz.func59,Tryz.ntmps59
  go_wp2_with fail
  refine hc.mono ?_;rintro e w1 ⟨⟨a,b,rfl,ha,hb⟩,n,rfl⟩
  go_wp2_with fail
  refine(hcp a _ ha).mono ?_;rintro e w2 ⟨rfl,rfl⟩;have aD:=zam t ((w.alloc (.cells #[.bool false,.slice none 0 0,.slice none 0 0] 87)).drewN n);rw[D1] at aD
  go_wp2_with fail
  refine aD.mono ?_;rintro e w3 ⟨rfl,aN⟩;have aL:Below w.heap.size w w3:=(zad aQ n).trans (aN.mono (by simp));have aI:zae w3 w.heap.size false (.slice none 0 0) (.slice none 0 0):=by
   have h:=zae.new w false (.slice none 0 0) (.slice none 0 0);exact zae.below (w:=(w.alloc (.cells #[.bool false,.slice none 0 0,.slice none 0 0] 87)).drewN n) h aN (by simp)
  have aJ:b.size=0:=by
   have:b.data.toList.length=0:=by rw[hb,d2n];rfl
   simpa using this
  have aP:=Aa aJ;clear hb ha aJ;have aU:decide ((600:Int)<max (t.size:Int) (b.size:Int))=false:=by
   have h:=aP.out;have h2:=HLN.out;simp only[decide_eq_false_iff_not]
   omega
  have aH:=zaz D1;have aF:=zaY t w3 aH (by have:=HLN.out;omega);have aO:=Aa aF;clear aD aF aH
  go_wp2_with fail
  refine aO.out.mono ?_;rintro e w5 ⟨A5,m5,c5,rfl,aS,aG⟩;have aK:=aI.below aG aI.cells.2.2.2.2.2.2;have aM:Below w.heap.size w w5:=Ad aL aG
  go_wp2_with fail
  refine(zai 1 w5 (by omega) (by omega)).mono ?_;rintro e w6 ⟨A6,m6,c6,rfl,aR,aC⟩;have aE:=aK.below aC aK.cells.2.2.2.2.2.2;have aT:Below w.heap.size w w6:=Ad aM aC;obtain⟨k0,k1,k2,f0,f1,f2,_⟩:=aE.cells;have aA:=zao aT (g:=w.heap.size) (Nat.le_refl _) (.bool true) (.slice A5 m5 c5) (.slice A6 m6 c6);go_wp2
  refine bodyPost_ret (v := .tuple #[.agg #[.bool true,.slice A5 m5 c5,.slice A6 m6 c6],.int .i64 0]) (by simp[results,Tryz.results59,go_sem,k0,k1,k2]) rfl ⟨_,rfl,⟨A5,m5,c5,A6,m6,c6,rfl,?_,?_⟩,aA⟩
  ·rw[zah];exact(aS.later aC).res aE _ _ _
  ·rw[zah];exact aR.res aE _ _ _
end Go.Proofs.YtbkgkoenppkhpaaGreatDoor
