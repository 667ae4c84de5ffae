/- Contract of read: the value of a number, or its error. -/
import Derived.Test.YtbkgkoenppkhpaaGreatDoorGBld
import Derived.Test.YtbkgkoenppkhpaaGreatDoorGStr1
import Derived.Test.YtbkgkoenppkhpaaGreatDoorGRat1
set_option maxRecDepth 100000
set_option maxHeartbeats 4000000
namespace Go.Proofs.YtbkgkoenppkhpaaGreatDoor
open Go.RowKit Bn
def topL (l:List UInt8):List UInt8:=Lib.trimPrefix (cutL l).1 [45]
def negL (l:List UInt8):Bool:=Lib.hasPrefix (cutL l).1 [45]
def botL (l:List UInt8):List UInt8:=(cutL l).2.1
def zdn (l:List UInt8):Bool:=(cutL l).2.2
def za7 (t b:List UInt8) (neg frac:Bool):Int:=
 if zax t=false∨(neg=true∧t=[48]) then 1
 else if frac=true∧(zax b=false∨b=[48]∨b=[49]) then 1
 else if 600<t.length∨600<b.length then 4
 else if frac=true∧Nat.gcd (zah t) (zah b)≠1 then 1 else 0
def zam (l:List UInt8):Int:=za7 (topL l) (botL l) (negL l) (zdn l)
def zak (l:List UInt8):Q:=if zam l=0 then ⟨negL l,zah (topL l),if zdn l then zah (botL l) else 1⟩ else ⟨false,0,0⟩
def zay (w:World) (q:Q) (x:Int) (e:Ending) (w':World):Prop:=∃ v,e = .returned (.tuple #[v,.int .i64 x])∧RatS w' w'.heap.size v q∧Below w.heap.size w w'
theorem zh8 (l:List UInt8) (h:(cutL l).2.2=false):(cutL l).2.1=[]:=by
 unfold cutL at h ⊢
 split
 ·rename_i h1;rw [if_pos h1] at h;cases h
 ·rfl
theorem RatS.zero (w:World) (B:Nat):RatS w B (.agg #[.bool false,.slice none 0 0,.slice none 0 0]) ⟨false,0,0⟩:=⟨none,0,0,none,0,0,rfl,NatS.nil _ _,NatS.nil _ _⟩
theorem zat {l:List UInt8} (h:zax l=true):zaq l=true:=by
 unfold zax at h;rw [Bool.and_eq_true] at h;exact h.1
theorem zhc {l:List UInt8} {N:Nat} (h:zaq l=true) (h6:l.length≤N):(digs (zah l)).length≤N:=by
 refine zad ?_;have h1:=zbu l h;have h2:10 ^ l.length≤10 ^ N:=Nat.pow_le_pow_right (by omega) h6;have h3:10 ^ N≤B ^ N:=Nat.pow_le_pow_left (by rw [zdm];omega) N;omega
theorem zaH {l:List UInt8} (h:zaq l=true) (h6:l.length≤600):(digs (zah l)).length≤600:=zhc h h6
theorem zlc (s t:ByteArray) (c1 c2:List UInt8) (neg frac:Bool) (w:World)
  (hc:Calls Tryz.prog 123 #[.string s,.string ⟨#[47]⟩] (w.alloc (.cells #[.bool false,.slice none 0 0,.slice none 0 0] 87)) fun e w'=>(∃ a b:ByteArray,e = .returned (.tuple #[.string a,.string b,.bool frac])∧a.data.toList=c1∧b.data.toList=c2)∧∃ n,w'=(w.alloc (.cells #[.bool false,.slice none 0 0,.slice none 0 0] 87)).drewN n)
  (hcp:∀ (a:ByteArray) (W:World),a.data.toList=c1→Calls Tryz.prog 124 #[.string a,.string ⟨#[45]⟩] W fun e w'=>e = .returned (.tuple #[.string t,.bool neg])∧W=w')
  (D1:zax t.data.toList=false) :
  Calls Tryz.prog 59 #[.string s] w (zay w ⟨false,0,0⟩ 1):=by
 have aG:Below w.heap.size w (w.alloc (.cells #[.bool false,.slice none 0 0,.slice none 0 0] 87)):=Ac;go_enter Tryz.func59,Tryz.ntmps59
 go_wp2_with fail
 refine hc.mono ?_;rintro e w1 ⟨⟨a,b,rfl,ha,hb⟩,n,rfl⟩
 go_wp2_with fail
 refine (hcp a _ ha).mono ?_;rintro e w2 ⟨rfl,rfl⟩;have aA:=zal t ((w.alloc (.cells #[.bool false,.slice none 0 0,.slice none 0 0] 87)).drewN n);rw [D1] at aA
 go_wp2_with fail
 refine aA.mono ?_;rintro e w3 ⟨rfl,aD⟩;have aF:Below w.heap.size w w3:=(zac aG n).trans (aD.mono (by simp));have aE:zae w3 w.heap.size false (.slice none 0 0) (.slice none 0 0):=by
  have h:=zae.new w false (.slice none 0 0) (.slice none 0 0);exact zae.below (w:=(w.alloc (.cells #[.bool false,.slice none 0 0,.slice none 0 0] 87)).drewN n) h aD (by simp)
 have aC:=zan aF (g:=w.heap.size) (Nat.le_refl _) (.bool false) (.slice none 0 0) (.slice none 0 0);obtain ⟨k0,k1,k2,f0,f1,f2,_⟩:=aE.cells;clear aA;go_wp2
 refine bodyPost_ret (v := .tuple #[.agg #[.bool false,.slice none 0 0,.slice none 0 0],.int .i64 1]) (by simp [results,Tryz.results59,go_sem,k0,k1,k2]) rfl ⟨_,rfl,RatS.zero _ _,aC⟩
theorem zl6 (s t:ByteArray) (c1 c2:List UInt8) (neg frac:Bool) (w:World)
  (hc:Calls Tryz.prog 123 #[.string s,.string ⟨#[47]⟩] (w.alloc (.cells #[.bool false,.slice none 0 0,.slice none 0 0] 87)) fun e w'=>(∃ a b:ByteArray,e = .returned (.tuple #[.string a,.string b,.bool frac])∧a.data.toList=c1∧b.data.toList=c2)∧∃ n,w'=(w.alloc (.cells #[.bool false,.slice none 0 0,.slice none 0 0] 87)).drewN n)
  (hcp:∀ (a:ByteArray) (W:World),a.data.toList=c1→Calls Tryz.prog 124 #[.string a,.string ⟨#[45]⟩] W fun e w'=>e = .returned (.tuple #[.string t,.bool neg])∧W=w')
  (D1:zax t.data.toList=true) (z:(t.toList==[48])=true) (hn:neg=true) :
  Calls Tryz.prog 59 #[.string s] w (zay w ⟨false,0,0⟩ 1):=by
 subst hn;have aG:Below w.heap.size w (w.alloc (.cells #[.bool false,.slice none 0 0,.slice none 0 0] 87)):=Ac;go_enter Tryz.func59,Tryz.ntmps59
 go_wp2_with fail
 refine hc.mono ?_;rintro e w1 ⟨⟨a,b,rfl,ha,hb⟩,n,rfl⟩
 go_wp2_with fail
 refine (hcp a _ ha).mono ?_;rintro e w2 ⟨rfl,rfl⟩;have aA:=zal t ((w.alloc (.cells #[.bool false,.slice none 0 0,.slice none 0 0] 87)).drewN n);rw [D1] at aA
 go_wp2_with fail
 refine aA.mono ?_;rintro e w3 ⟨rfl,aD⟩;have aF:Below w.heap.size w w3:=(zac aG n).trans (aD.mono (by simp));have aE:zae w3 w.heap.size false (.slice none 0 0) (.slice none 0 0):=by
  have h:=zae.new w false (.slice none 0 0) (.slice none 0 0);exact zae.below (w:=(w.alloc (.cells #[.bool false,.slice none 0 0,.slice none 0 0] 87)).drewN n) h aD (by simp)
 have aC:=zan aF (g:=w.heap.size) (Nat.le_refl _) (.bool false) (.slice none 0 0) (.slice none 0 0);obtain ⟨k0,k1,k2,f0,f1,f2,_⟩:=aE.cells;clear aA;go_wp2
 refine bodyPost_ret (v := .tuple #[.agg #[.bool false,.slice none 0 0,.slice none 0 0],.int .i64 1]) (by simp [results,Tryz.results59,go_sem,k0,k1,k2]) rfl ⟨_,rfl,RatS.zero _ _,aC⟩
theorem zmf (s t:ByteArray) (c1 c2:List UInt8) (neg frac:Bool) (w:World)
  (hc:Calls Tryz.prog 123 #[.string s,.string ⟨#[47]⟩] (w.alloc (.cells #[.bool false,.slice none 0 0,.slice none 0 0] 87)) fun e w'=>(∃ a b:ByteArray,e = .returned (.tuple #[.string a,.string b,.bool frac])∧a.data.toList=c1∧b.data.toList=c2)∧∃ n,w'=(w.alloc (.cells #[.bool false,.slice none 0 0,.slice none 0 0] 87)).drewN n)
  (hcp:∀ (a:ByteArray) (W:World),a.data.toList=c1→Calls Tryz.prog 124 #[.string a,.string ⟨#[45]⟩] W fun e w'=>e = .returned (.tuple #[.string t,.bool neg])∧W=w')
  (D1:zax t.data.toList=true) (zb:Bool) (z:(t.toList==[48])=zb) (hn:(neg && zb)=false) (v48 v49:Bool) (hf:frac=true) (D2:zax c2=false) (d48:(c2==[48])=v48) (d49:(c2==[49])=v49)  :
  Calls Tryz.prog 59 #[.string s] w (zay w ⟨false,0,0⟩ 1):=by
 subst hf
 cases neg<;>cases zb<;>(try cases hn)
 all_goals
  have aL:Below w.heap.size w (w.alloc (.cells #[.bool false,.slice none 0 0,.slice none 0 0] 87)):=Ac;go_enter Tryz.func59,Tryz.ntmps59
  go_wp2_with fail
  refine hc.mono ?_;rintro e w1 ⟨⟨a,b,rfl,ha,hb⟩,n,rfl⟩
  go_wp2_with fail
  refine (hcp a _ ha).mono ?_;rintro e w2 ⟨rfl,rfl⟩;have aC:=zal t ((w.alloc (.cells #[.bool false,.slice none 0 0,.slice none 0 0] 87)).drewN n);rw [D1] at aC
  go_wp2_with fail
  refine aC.mono ?_;rintro e w3 ⟨rfl,aI⟩;have aF:Below w.heap.size w w3:=(zac aL n).trans (aI.mono (by simp));have aE:zae w3 w.heap.size false (.slice none 0 0) (.slice none 0 0):=by
   have h:=zae.new w false (.slice none 0 0) (.slice none 0 0);exact zae.below (w:=(w.alloc (.cells #[.bool false,.slice none 0 0,.slice none 0 0] 87)).drewN n) h aI (by simp)
  have aA:=zal b w3;rw [hb,D2] at aA;have aP:(b.toList==[48])=v48:=by rw [ByteArray.toList_eq,hb];exact d48
  have aM:(b.toList==[49])=v49:=by rw [ByteArray.toList_eq,hb];exact d49
  have aH:b.size=c2.length:=by rw [←hb];simp
  have aO:=Aa aH;have aN:=Aa hb;clear hb ha aH
  go_wp2_with fail
  refine aA.mono ?_;rintro e w4 ⟨rfl,aG⟩;have aJ:Below w.heap.size w w4:=Ad aF aG;have aK:=aE.below aG aE.cells.2.2.2.2.2.2;clear aA;have aD:=zan aJ (g:=w.heap.size) (Nat.le_refl _) (.bool false) (.slice none 0 0) (.slice none 0 0);obtain ⟨k0,k1,k2,f0,f1,f2,_⟩:=aK.cells;clear aC;go_wp2
  refine bodyPost_ret (v := .tuple #[.agg #[.bool false,.slice none 0 0,.slice none 0 0],.int .i64 1]) (by simp [results,Tryz.results59,go_sem,k0,k1,k2]) rfl ⟨_,rfl,RatS.zero _ _,aD⟩
theorem zkN (s t:ByteArray) (c1 c2:List UInt8) (neg frac:Bool) (w:World)
  (hc:Calls Tryz.prog 123 #[.string s,.string ⟨#[47]⟩] (w.alloc (.cells #[.bool false,.slice none 0 0,.slice none 0 0] 87)) fun e w'=>(∃ a b:ByteArray,e = .returned (.tuple #[.string a,.string b,.bool frac])∧a.data.toList=c1∧b.data.toList=c2)∧∃ n,w'=(w.alloc (.cells #[.bool false,.slice none 0 0,.slice none 0 0] 87)).drewN n)
  (hcp:∀ (a:ByteArray) (W:World),a.data.toList=c1→Calls Tryz.prog 124 #[.string a,.string ⟨#[45]⟩] W fun e w'=>e = .returned (.tuple #[.string t,.bool neg])∧W=w')
  (D1:zax t.data.toList=true) (zb:Bool) (z:(t.toList==[48])=zb) (hn:(neg && zb)=false) (v49:Bool) (hf:frac=true) (D2:zax c2=true) (d48:(c2==[48])=true) (d49:(c2==[49])=v49)  :
  Calls Tryz.prog 59 #[.string s] w (zay w ⟨false,0,0⟩ 1):=by
 subst hf
 cases neg<;>cases zb<;>(try cases hn)
 all_goals
  have aL:Below w.heap.size w (w.alloc (.cells #[.bool false,.slice none 0 0,.slice none 0 0] 87)):=Ac;go_enter Tryz.func59,Tryz.ntmps59
  go_wp2_with fail
  refine hc.mono ?_;rintro e w1 ⟨⟨a,b,rfl,ha,hb⟩,n,rfl⟩
  go_wp2_with fail
  refine (hcp a _ ha).mono ?_;rintro e w2 ⟨rfl,rfl⟩;have aC:=zal t ((w.alloc (.cells #[.bool false,.slice none 0 0,.slice none 0 0] 87)).drewN n);rw [D1] at aC
  go_wp2_with fail
  refine aC.mono ?_;rintro e w3 ⟨rfl,aI⟩;have aF:Below w.heap.size w w3:=(zac aL n).trans (aI.mono (by simp));have aE:zae w3 w.heap.size false (.slice none 0 0) (.slice none 0 0):=by
   have h:=zae.new w false (.slice none 0 0) (.slice none 0 0);exact zae.below (w:=(w.alloc (.cells #[.bool false,.slice none 0 0,.slice none 0 0] 87)).drewN n) h aI (by simp)
  have aA:=zal b w3;rw [hb,D2] at aA;have aP:(b.toList==[48])=true:=by rw [ByteArray.toList_eq,hb];exact d48
  have aM:(b.toList==[49])=v49:=by rw [ByteArray.toList_eq,hb];exact d49
  have aH:b.size=c2.length:=by rw [←hb];simp
  have aO:=Aa aH;have aN:=Aa hb;clear hb ha aH
  go_wp2_with fail
  refine aA.mono ?_;rintro e w4 ⟨rfl,aG⟩;have aJ:Below w.heap.size w w4:=Ad aF aG;have aK:=aE.below aG aE.cells.2.2.2.2.2.2;clear aA;have aD:=zan aJ (g:=w.heap.size) (Nat.le_refl _) (.bool false) (.slice none 0 0) (.slice none 0 0);obtain ⟨k0,k1,k2,f0,f1,f2,_⟩:=aK.cells;clear aC;go_wp2
  refine bodyPost_ret (v := .tuple #[.agg #[.bool false,.slice none 0 0,.slice none 0 0],.int .i64 1]) (by simp [results,Tryz.results59,go_sem,k0,k1,k2]) rfl ⟨_,rfl,RatS.zero _ _,aD⟩
theorem zlA (s t:ByteArray) (c1 c2:List UInt8) (neg frac:Bool) (w:World)
  (hc:Calls Tryz.prog 123 #[.string s,.string ⟨#[47]⟩] (w.alloc (.cells #[.bool false,.slice none 0 0,.slice none 0 0] 87)) fun e w'=>(∃ a b:ByteArray,e = .returned (.tuple #[.string a,.string b,.bool frac])∧a.data.toList=c1∧b.data.toList=c2)∧∃ n,w'=(w.alloc (.cells #[.bool false,.slice none 0 0,.slice none 0 0] 87)).drewN n)
  (hcp:∀ (a:ByteArray) (W:World),a.data.toList=c1→Calls Tryz.prog 124 #[.string a,.string ⟨#[45]⟩] W fun e w'=>e = .returned (.tuple #[.string t,.bool neg])∧W=w')
  (D1:zax t.data.toList=true) (zb:Bool) (z:(t.toList==[48])=zb) (hn:(neg && zb)=false) (hf:frac=true) (D2:zax c2=true) (d48:(c2==[48])=false) (d49:(c2==[49])=true)  :
  Calls Tryz.prog 59 #[.string s] w (zay w ⟨false,0,0⟩ 1):=by
 subst hf
 cases neg<;>cases zb<;>(try cases hn)
 all_goals
  have aL:Below w.heap.size w (w.alloc (.cells #[.bool false,.slice none 0 0,.slice none 0 0] 87)):=Ac;go_enter Tryz.func59,Tryz.ntmps59
  go_wp2_with fail
  refine hc.mono ?_;rintro e w1 ⟨⟨a,b,rfl,ha,hb⟩,n,rfl⟩
  go_wp2_with fail
  refine (hcp a _ ha).mono ?_;rintro e w2 ⟨rfl,rfl⟩;have aC:=zal t ((w.alloc (.cells #[.bool false,.slice none 0 0,.slice none 0 0] 87)).drewN n);rw [D1] at aC
  go_wp2_with fail
  refine aC.mono ?_;rintro e w3 ⟨rfl,aI⟩;have aF:Below w.heap.size w w3:=(zac aL n).trans (aI.mono (by simp));have aE:zae w3 w.heap.size false (.slice none 0 0) (.slice none 0 0):=by
   have h:=zae.new w false (.slice none 0 0) (.slice none 0 0);exact zae.below (w:=(w.alloc (.cells #[.bool false,.slice none 0 0,.slice none 0 0] 87)).drewN n) h aI (by simp)
  have aA:=zal b w3;rw [hb,D2] at aA;have aP:(b.toList==[48])=false:=by rw [ByteArray.toList_eq,hb];exact d48
  have aM:(b.toList==[49])=true:=by rw [ByteArray.toList_eq,hb];exact d49
  have aH:b.size=c2.length:=by rw [←hb];simp
  have aO:=Aa aH;have aN:=Aa hb;clear hb ha aH
  go_wp2_with fail
  refine aA.mono ?_;rintro e w4 ⟨rfl,aG⟩;have aJ:Below w.heap.size w w4:=Ad aF aG;have aK:=aE.below aG aE.cells.2.2.2.2.2.2;clear aA;have aD:=zan aJ (g:=w.heap.size) (Nat.le_refl _) (.bool false) (.slice none 0 0) (.slice none 0 0);obtain ⟨k0,k1,k2,f0,f1,f2,_⟩:=aK.cells;clear aC;go_wp2
  refine bodyPost_ret (v := .tuple #[.agg #[.bool false,.slice none 0 0,.slice none 0 0],.int .i64 1]) (by simp [results,Tryz.results59,go_sem,k0,k1,k2]) rfl ⟨_,rfl,RatS.zero _ _,aD⟩
theorem zml (s t:ByteArray) (c1 c2:List UInt8) (neg frac:Bool) (w:World)
  (hc:Calls Tryz.prog 123 #[.string s,.string ⟨#[47]⟩] (w.alloc (.cells #[.bool false,.slice none 0 0,.slice none 0 0] 87)) fun e w'=>(∃ a b:ByteArray,e = .returned (.tuple #[.string a,.string b,.bool frac])∧a.data.toList=c1∧b.data.toList=c2)∧∃ n,w'=(w.alloc (.cells #[.bool false,.slice none 0 0,.slice none 0 0] 87)).drewN n)
  (hcp:∀ (a:ByteArray) (W:World),a.data.toList=c1→Calls Tryz.prog 124 #[.string a,.string ⟨#[45]⟩] W fun e w'=>e = .returned (.tuple #[.string t,.bool neg])∧W=w')
  (D1:zax t.data.toList=true) (zb:Bool) (z:(t.toList==[48])=zb) (hn:(neg && zb)=false) (hf:frac=true) (D2:zax c2=true) (d48:(c2==[48])=false) (d49:(c2==[49])=false) (HLN:Hid (600<t.size∨600<c2.length)) :
  Calls Tryz.prog 59 #[.string s] w (zay w ⟨false,0,0⟩ 4):=by
 subst hf
 cases neg<;>cases zb<;>(try cases hn)
 all_goals
  have aM:Below w.heap.size w (w.alloc (.cells #[.bool false,.slice none 0 0,.slice none 0 0] 87)):=Ac;go_enter Tryz.func59,Tryz.ntmps59
  go_wp2_with fail
  refine hc.mono ?_;rintro e w1 ⟨⟨a,b,rfl,ha,hb⟩,n,rfl⟩
  go_wp2_with fail
  refine (hcp a _ ha).mono ?_;rintro e w2 ⟨rfl,rfl⟩;have aC:=zal t ((w.alloc (.cells #[.bool false,.slice none 0 0,.slice none 0 0] 87)).drewN n);rw [D1] at aC
  go_wp2_with fail
  refine aC.mono ?_;rintro e w3 ⟨rfl,aI⟩;have aF:Below w.heap.size w w3:=(zac aM n).trans (aI.mono (by simp));have aE:zae w3 w.heap.size false (.slice none 0 0) (.slice none 0 0):=by
   have h:=zae.new w false (.slice none 0 0) (.slice none 0 0);exact zae.below (w:=(w.alloc (.cells #[.bool false,.slice none 0 0,.slice none 0 0] 87)).drewN n) h aI (by simp)
  have aA:=zal b w3;rw [hb,D2] at aA;have aQ:(b.toList==[48])=false:=by rw [ByteArray.toList_eq,hb];exact d48
  have aN:(b.toList==[49])=false:=by rw [ByteArray.toList_eq,hb];exact d49
  have aH:b.size=c2.length:=by rw [←hb];simp
  have aK:=Aa aH;have aP:=Aa hb;clear hb ha aH
  go_wp2_with fail
  refine aA.mono ?_;rintro e w4 ⟨rfl,aG⟩;have aJ:Below w.heap.size w w4:=Ad aF aG;have aL:=aE.below aG aE.cells.2.2.2.2.2.2;clear aA;have aO:decide ((600:Int)<max (t.size:Int) (b.size:Int))=true:=by
   have h:=aK.out;have h2:=HLN.out;simp only [decide_eq_true_eq]
   omega
  have aD:=zan aJ (g:=w.heap.size) (Nat.le_refl _) (.bool false) (.slice none 0 0) (.slice none 0 0);obtain ⟨k0,k1,k2,f0,f1,f2,_⟩:=aL.cells;clear aC;go_wp2
  refine bodyPost_ret (v := .tuple #[.agg #[.bool false,.slice none 0 0,.slice none 0 0],.int .i64 4]) (by simp [results,Tryz.results59,go_sem,k0,k1,k2]) rfl ⟨_,rfl,RatS.zero _ _,aD⟩
theorem zlL (s t:ByteArray) (c1 c2:List UInt8) (neg frac:Bool) (w:World)
  (hc:Calls Tryz.prog 123 #[.string s,.string ⟨#[47]⟩] (w.alloc (.cells #[.bool false,.slice none 0 0,.slice none 0 0] 87)) fun e w'=>(∃ a b:ByteArray,e = .returned (.tuple #[.string a,.string b,.bool frac])∧a.data.toList=c1∧b.data.toList=c2)∧∃ n,w'=(w.alloc (.cells #[.bool false,.slice none 0 0,.slice none 0 0] 87)).drewN n)
  (hcp:∀ (a:ByteArray) (W:World),a.data.toList=c1→Calls Tryz.prog 124 #[.string a,.string ⟨#[45]⟩] W fun e w'=>e = .returned (.tuple #[.string t,.bool neg])∧W=w')
  (D1:zax t.data.toList=true) (zb:Bool) (z:(t.toList==[48])=zb) (hn:(neg && zb)=false) (hf:frac=false) (d2n:c2=[]) (HLN:Hid (600<t.size∨600<0)) :
  Calls Tryz.prog 59 #[.string s] w (zay w ⟨false,0,0⟩ 4):=by
 subst hf
 cases neg<;>cases zb<;>(try cases hn)
 all_goals
  have aI:Below w.heap.size w (w.alloc (.cells #[.bool false,.slice none 0 0,.slice none 0 0] 87)):=Ac;go_enter Tryz.func59,Tryz.ntmps59
  go_wp2_with fail
  refine hc.mono ?_;rintro e w1 ⟨⟨a,b,rfl,ha,hb⟩,n,rfl⟩
  go_wp2_with fail
  refine (hcp a _ ha).mono ?_;rintro e w2 ⟨rfl,rfl⟩;have aA:=zal t ((w.alloc (.cells #[.bool false,.slice none 0 0,.slice none 0 0] 87)).drewN n);rw [D1] at aA
  go_wp2_with fail
  refine aA.mono ?_;rintro e w3 ⟨rfl,aE⟩;have aG:Below w.heap.size w w3:=(zac aI n).trans (aE.mono (by simp));have aF:zae w3 w.heap.size false (.slice none 0 0) (.slice none 0 0):=by
   have h:=zae.new w false (.slice none 0 0) (.slice none 0 0);exact zae.below (w:=(w.alloc (.cells #[.bool false,.slice none 0 0,.slice none 0 0] 87)).drewN n) h aE (by simp)
  have aD:b.size=0:=by
   have:b.data.toList.length=0:=by rw [hb,d2n];rfl
   simpa using this
  have aH:=Aa aD;clear hb ha aD;have aJ:decide ((600:Int)<max (t.size:Int) (b.size:Int))=true:=by
   have h:=aH.out;have h2:=HLN.out;simp only [decide_eq_true_eq]
   omega
  have aC:=zan aG (g:=w.heap.size) (Nat.le_refl _) (.bool false) (.slice none 0 0) (.slice none 0 0);obtain ⟨k0,k1,k2,f0,f1,f2,_⟩:=aF.cells;clear aA;go_wp2
  refine bodyPost_ret (v := .tuple #[.agg #[.bool false,.slice none 0 0,.slice none 0 0],.int .i64 4]) (by simp [results,Tryz.results59,go_sem,k0,k1,k2]) rfl ⟨_,rfl,RatS.zero _ _,aC⟩
theorem zka (s t:ByteArray) (c1 c2:List UInt8) (neg frac:Bool) (w:World)
  (hc:Calls Tryz.prog 123 #[.string s,.string ⟨#[47]⟩] (w.alloc (.cells #[.bool false,.slice none 0 0,.slice none 0 0] 87)) fun e w'=>(∃ a b:ByteArray,e = .returned (.tuple #[.string a,.string b,.bool frac])∧a.data.toList=c1∧b.data.toList=c2)∧∃ n,w'=(w.alloc (.cells #[.bool false,.slice none 0 0,.slice none 0 0] 87)).drewN n)
  (hcp:∀ (a:ByteArray) (W:World),a.data.toList=c1→Calls Tryz.prog 124 #[.string a,.string ⟨#[45]⟩] W fun e w'=>e = .returned (.tuple #[.string t,.bool neg])∧W=w')
  (D1:zax t.data.toList=true) (zb:Bool) (z:(t.toList==[48])=zb) (hn:(neg && zb)=false) (hf:frac=false) (d2n:c2=[]) (HLN:Hid (t.size≤600∧0≤600)) :
  Calls Tryz.prog 59 #[.string s] w (zay w ⟨neg,zah t.data.toList,1⟩ 0):=by
 subst hf
 cases neg<;>cases zb<;>(try cases hn)
 ·have aR:Below w.heap.size w (w.alloc (.cells #[.bool false,.slice none 0 0,.slice none 0 0] 87)):=Ac
  go_enter Tryz.func59,Tryz.ntmps59
  go_wp2_with fail
  refine hc.mono ?_;rintro e w1 ⟨⟨a,b,rfl,ha,hb⟩,n,rfl⟩
  go_wp2_with fail
  refine (hcp a _ ha).mono ?_;rintro e w2 ⟨rfl,rfl⟩;have aE:=zal t ((w.alloc (.cells #[.bool false,.slice none 0 0,.slice none 0 0] 87)).drewN n);rw [D1] at aE
  go_wp2_with fail
  refine aE.mono ?_;rintro e w3 ⟨rfl,aK⟩;have aJ:Below w.heap.size w w3:=(zac aR n).trans (aK.mono (by simp));have aF:zae w3 w.heap.size false (.slice none 0 0) (.slice none 0 0):=by
   have h:=zae.new w false (.slice none 0 0) (.slice none 0 0);exact zae.below (w:=(w.alloc (.cells #[.bool false,.slice none 0 0,.slice none 0 0] 87)).drewN n) h aK (by simp)
  have aM:b.size=0:=by
   have:b.data.toList.length=0:=by rw [hb,d2n];rfl
   simpa using this
  have aQ:=Aa aM;clear hb ha aM;have aU:decide ((600:Int)<max (t.size:Int) (b.size:Int))=false:=by
   have h:=aQ.out;have h2:=HLN.out;simp only [decide_eq_false_iff_not]
   omega
  have aG:=zat D1;have aL:=zaS t w3 aG (by have:=HLN.out;omega);have aS:=Aa aL;clear aE aL aG
  go_wp2_with fail
  refine aS.out.mono ?_;rintro e w5 ⟨A5,m5,c5,rfl,aT,aI⟩;have aH:=aF.below aI aF.cells.2.2.2.2.2.2;have aN:Below w.heap.size w w5:=Ad aJ aI
  go_wp2_with fail
  refine (zai 1 w5 (by omega) (by omega)).mono ?_;rintro e w6 ⟨A6,m6,c6,rfl,aO,aD⟩;have aA:=aH.below aD aH.cells.2.2.2.2.2.2;have aP:Below w.heap.size w w6:=Ad aN aD;obtain ⟨k0,k1,k2,f0,f1,f2,_⟩:=aA.cells;have aC:=zan aP (g:=w.heap.size) (Nat.le_refl _) (.bool false) (.slice A5 m5 c5) (.slice A6 m6 c6);go_wp2
  refine bodyPost_ret (v := .tuple #[.agg #[.bool false,.slice A5 m5 c5,.slice A6 m6 c6],.int .i64 0]) (by simp [results,Tryz.results59,go_sem,k0,k1,k2]) rfl ⟨_,rfl,⟨A5,m5,c5,A6,m6,c6,rfl,?_,?_⟩,aC⟩
  ·rw [zag];exact (aT.later aD).res aA _ _ _
  ·rw [zag];exact aO.res aA _ _ _
 ·have aR:Below w.heap.size w (w.alloc (.cells #[.bool false,.slice none 0 0,.slice none 0 0] 87)):=Ac
  go_enter Tryz.func59,Tryz.ntmps59
  go_wp2_with fail
  refine hc.mono ?_;rintro e w1 ⟨⟨a,b,rfl,ha,hb⟩,n,rfl⟩
  go_wp2_with fail
  refine (hcp a _ ha).mono ?_;rintro e w2 ⟨rfl,rfl⟩;have aE:=zal t ((w.alloc (.cells #[.bool false,.slice none 0 0,.slice none 0 0] 87)).drewN n);rw [D1] at aE
  go_wp2_with fail
  refine aE.mono ?_;rintro e w3 ⟨rfl,aK⟩;have aJ:Below w.heap.size w w3:=(zac aR n).trans (aK.mono (by simp));have aF:zae w3 w.heap.size false (.slice none 0 0) (.slice none 0 0):=by
   have h:=zae.new w false (.slice none 0 0) (.slice none 0 0);exact zae.below (w:=(w.alloc (.cells #[.bool false,.slice none 0 0,.slice none 0 0] 87)).drewN n) h aK (by simp)
  have aM:b.size=0:=by
   have:b.data.toList.length=0:=by rw [hb,d2n];rfl
   simpa using this
  have aQ:=Aa aM;clear hb ha aM;have aU:decide ((600:Int)<max (t.size:Int) (b.size:Int))=false:=by
   have h:=aQ.out;have h2:=HLN.out;simp only [decide_eq_false_iff_not]
   omega
  have aG:=zat D1;have aL:=zaS t w3 aG (by have:=HLN.out;omega);have aS:=Aa aL;clear aE aL aG
  go_wp2_with fail
  refine aS.out.mono ?_;rintro e w5 ⟨A5,m5,c5,rfl,aT,aI⟩;have aH:=aF.below aI aF.cells.2.2.2.2.2.2;have aN:Below w.heap.size w w5:=Ad aJ aI
  go_wp2_with fail
  refine (zai 1 w5 (by omega) (by omega)).mono ?_;rintro e w6 ⟨A6,m6,c6,rfl,aO,aD⟩;have aA:=aH.below aD aH.cells.2.2.2.2.2.2;have aP:Below w.heap.size w w6:=Ad aN aD;obtain ⟨k0,k1,k2,f0,f1,f2,_⟩:=aA.cells;have aC:=zan aP (g:=w.heap.size) (Nat.le_refl _) (.bool false) (.slice A5 m5 c5) (.slice A6 m6 c6);go_wp2
  refine bodyPost_ret (v := .tuple #[.agg #[.bool false,.slice A5 m5 c5,.slice A6 m6 c6],.int .i64 0]) (by simp [results,Tryz.results59,go_sem,k0,k1,k2]) rfl ⟨_,rfl,⟨A5,m5,c5,A6,m6,c6,rfl,?_,?_⟩,aC⟩
  ·rw [zag];exact (aT.later aD).res aA _ _ _
  ·rw [zag];exact aO.res aA _ _ _
 ·have aR:Below w.heap.size w (w.alloc (.cells #[.bool false,.slice none 0 0,.slice none 0 0] 87)):=Ac
  go_enter Tryz.func59,Tryz.ntmps59
  go_wp2_with fail
  refine hc.mono ?_;rintro e w1 ⟨⟨a,b,rfl,ha,hb⟩,n,rfl⟩
  go_wp2_with fail
  refine (hcp a _ ha).mono ?_;rintro e w2 ⟨rfl,rfl⟩;have aE:=zal t ((w.alloc (.cells #[.bool false,.slice none 0 0,.slice none 0 0] 87)).drewN n);rw [D1] at aE
  go_wp2_with fail
  refine aE.mono ?_;rintro e w3 ⟨rfl,aK⟩;have aJ:Below w.heap.size w w3:=(zac aR n).trans (aK.mono (by simp));have aF:zae w3 w.heap.size false (.slice none 0 0) (.slice none 0 0):=by
   have h:=zae.new w false (.slice none 0 0) (.slice none 0 0);exact zae.below (w:=(w.alloc (.cells #[.bool false,.slice none 0 0,.slice none 0 0] 87)).drewN n) h aK (by simp)
  have aM:b.size=0:=by
   have:b.data.toList.length=0:=by rw [hb,d2n];rfl
   simpa using this
  have aQ:=Aa aM;clear hb ha aM;have aU:decide ((600:Int)<max (t.size:Int) (b.size:Int))=false:=by
   have h:=aQ.out;have h2:=HLN.out;simp only [decide_eq_false_iff_not]
   omega
  have aG:=zat D1;have aL:=zaS t w3 aG (by have:=HLN.out;omega);have aS:=Aa aL;clear aE aL aG
  go_wp2_with fail
  refine aS.out.mono ?_;rintro e w5 ⟨A5,m5,c5,rfl,aT,aI⟩;have aH:=aF.below aI aF.cells.2.2.2.2.2.2;have aN:Below w.heap.size w w5:=Ad aJ aI
  go_wp2_with fail
  refine (zai 1 w5 (by omega) (by omega)).mono ?_;rintro e w6 ⟨A6,m6,c6,rfl,aO,aD⟩;have aA:=aH.below aD aH.cells.2.2.2.2.2.2;have aP:Below w.heap.size w w6:=Ad aN aD;obtain ⟨k0,k1,k2,f0,f1,f2,_⟩:=aA.cells;have aC:=zan aP (g:=w.heap.size) (Nat.le_refl _) (.bool true) (.slice A5 m5 c5) (.slice A6 m6 c6);go_wp2
  refine bodyPost_ret (v := .tuple #[.agg #[.bool true,.slice A5 m5 c5,.slice A6 m6 c6],.int .i64 0]) (by simp [results,Tryz.results59,go_sem,k0,k1,k2]) rfl ⟨_,rfl,⟨A5,m5,c5,A6,m6,c6,rfl,?_,?_⟩,aC⟩
  ·rw [zag];exact (aT.later aD).res aA _ _ _
  ·rw [zag];exact aO.res aA _ _ _
end Go.Proofs.YtbkgkoenppkhpaaGreatDoor
