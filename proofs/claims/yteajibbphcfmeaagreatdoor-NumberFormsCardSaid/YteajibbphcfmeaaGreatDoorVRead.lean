/- Contract of read: the value of a number, or its error. -/
import Derived.Test.YteajibbphcfmeaaGreatDoorVCut
import Derived.Test.YteajibbphcfmeaaGreatDoorVGcd1
namespace Go.Proofs.YteajibbphcfmeaaGreatDoor
open Go.RowKit Bn
def topL (l:List UInt8):List UInt8:=Lib.trimPrefix (cutL l).1 [45]
def negL (l:List UInt8):Bool:=Lib.hasPrefix (cutL l).1 [45]
def botL (l:List UInt8):List UInt8:=(cutL l).2.1
def zel (l:List UInt8):Bool:=(cutL l).2.2
def zbb (t b:List UInt8) (neg frac:Bool):Int:=
 if zaz t=false∨(neg=true∧t=[48]) then 1
 else if frac=true∧(zaz b=false∨b=[48]∨b=[49]) then 1
 else if 600<t.length∨600<b.length then 4
 else if frac=true∧Nat.gcd (zai t) (zai b)≠1 then 1 else 0
def zam (l:List UInt8):Int:=zbb (topL l) (botL l) (negL l) (zel l)
def zag (l:List UInt8):Q:=if zam l=0 then ⟨negL l,zai (topL l),if zel l then zai (botL l) else 1⟩ else ⟨false,0,0⟩
def zay (w:World) (q:Q) (x:Int) (e:Ending) (w':World):Prop:=∃ v,e = .returned (.tuple #[v,.int .i64 x])∧RatS w' w'.heap.size v q∧Below w.heap.size w w'
theorem zhu (l:List UInt8) (h:(cutL l).2.2=false):(cutL l).2.1=[]:=by
 unfold cutL at h ⊢
 split
 ·rename_i h1;rw [if_pos h1] at h;cases h
 ·rfl
theorem RatS.zero (w:World) (B:Nat):RatS w B (.agg #[.bool false,.slice none 0 0,.slice none 0 0]) ⟨false,0,0⟩:=⟨none,0,0,none,0,0,rfl,NatS.nil _ _,NatS.nil _ _⟩
theorem zax {l:List UInt8} (h:zaz l=true):zas l=true:=by
 unfold zaz at h
 rw [Bool.and_eq_true] at h
 exact h.1
theorem zgp {l:List UInt8} {N:Nat} (h:zas l=true) (h6:l.length≤N):(digs (zai l)).length≤N:=by
 refine digs_length_le ?_
 have h1:=zcc l h
 have h2:10 ^ l.length≤10 ^ N:=Nat.pow_le_pow_right (by omega) h6
 have h3:10 ^ N≤B ^ N:=Nat.pow_le_pow_left (by rw [zcN];omega) N
 omega
theorem zaG {l:List UInt8} (h:zas l=true) (h6:l.length≤600):(digs (zai l)).length≤600:=zgp h h6
set_option maxHeartbeats 4000000 in
set_option maxRecDepth 100000 in
theorem zk9 (s t:ByteArray) (c1 c2:List UInt8) (neg frac:Bool) (w:World)
  (hc:Calls Tryz.prog 122 #[.string s,.string { data:=#[47] }] (w.alloc (.cells #[.bool false,.slice none 0 0,.slice none 0 0] 91)) fun e w'=>(∃ a b:ByteArray,e = .returned (.tuple #[.string a,.string b,.bool frac])∧a.data.toList=c1∧b.data.toList=c2)∧∃ n,w'=(w.alloc (.cells #[.bool false,.slice none 0 0,.slice none 0 0] 91)).drewN n)
  (hcp:∀ (a:ByteArray) (W:World),a.data.toList=c1→Calls Tryz.prog 123 #[.string a,.string { data:=#[45] }] W fun e w'=>e = .returned (.tuple #[.string t,.bool neg])∧W=w')
  (D1:zaz t.data.toList=false) :
  Calls Tryz.prog 63 #[.string s] w (zay w ⟨false,0,0⟩ 1):=by
 have aE:Below w.heap.size w (w.alloc (.cells #[.bool false,.slice none 0 0,.slice none 0 0] 91)):=(Below.refl _ _).alloc (Nat.le_refl _) _
 go_enter Tryz.func63,Tryz.ntmps63
 go_wp2_with fail
 refine hc.mono ?_
 rintro e w1 ⟨⟨a,b,rfl,ha,hb⟩,n,rfl⟩
 go_wp2_with fail
 refine (hcp a _ ha).mono ?_
 rintro e w2 ⟨rfl,rfl⟩
 have aC:=zaj t ((w.alloc (.cells #[.bool false,.slice none 0 0,.slice none 0 0] 91)).drewN n)
 rw [D1] at aC
 go_wp2_with fail
 refine aC.mono ?_
 rintro e w3 ⟨rfl,aD⟩
 have aF:Below w.heap.size w w3:=(zab aE n).trans (aD.mono (by simp))
 have aG:zad w3 w.heap.size false (.slice none 0 0) (.slice none 0 0):=by
  have h:=zad.new w false (.slice none 0 0) (.slice none 0 0)
  exact zad.below (w:=(w.alloc (.cells #[.bool false,.slice none 0 0,.slice none 0 0] 91)).drewN n) h aD (by simp)
 have aA:=zak aF (g:=w.heap.size) (Nat.le_refl _) (.bool false) (.slice none 0 0) (.slice none 0 0)
 obtain ⟨k0,k1,k2,f0,f1,f2,_⟩:=aG.cells
 clear aC
 go_wp2
 refine bodyPost_ret (v := .tuple #[.agg #[.bool false,.slice none 0 0,.slice none 0 0],.int .i64 1]) (by simp [results,Tryz.results63,go_sem,k0,k1,k2]) rfl ⟨_,rfl,RatS.zero _ _,aA⟩
set_option maxHeartbeats 4000000 in
set_option maxRecDepth 100000 in
theorem zjY (s t:ByteArray) (c1 c2:List UInt8) (neg frac:Bool) (w:World)
  (hc:Calls Tryz.prog 122 #[.string s,.string { data:=#[47] }] (w.alloc (.cells #[.bool false,.slice none 0 0,.slice none 0 0] 91)) fun e w'=>(∃ a b:ByteArray,e = .returned (.tuple #[.string a,.string b,.bool frac])∧a.data.toList=c1∧b.data.toList=c2)∧∃ n,w'=(w.alloc (.cells #[.bool false,.slice none 0 0,.slice none 0 0] 91)).drewN n)
  (hcp:∀ (a:ByteArray) (W:World),a.data.toList=c1→Calls Tryz.prog 123 #[.string a,.string { data:=#[45] }] W fun e w'=>e = .returned (.tuple #[.string t,.bool neg])∧W=w')
  (D1:zaz t.data.toList=true) (z:(t.toList==[48])=true) (hn:neg=true) :
  Calls Tryz.prog 63 #[.string s] w (zay w ⟨false,0,0⟩ 1):=by
 subst hn
 have aE:Below w.heap.size w (w.alloc (.cells #[.bool false,.slice none 0 0,.slice none 0 0] 91)):=(Below.refl _ _).alloc (Nat.le_refl _) _
 go_enter Tryz.func63,Tryz.ntmps63
 go_wp2_with fail
 refine hc.mono ?_
 rintro e w1 ⟨⟨a,b,rfl,ha,hb⟩,n,rfl⟩
 go_wp2_with fail
 refine (hcp a _ ha).mono ?_
 rintro e w2 ⟨rfl,rfl⟩
 have aC:=zaj t ((w.alloc (.cells #[.bool false,.slice none 0 0,.slice none 0 0] 91)).drewN n)
 rw [D1] at aC
 go_wp2_with fail
 refine aC.mono ?_
 rintro e w3 ⟨rfl,aD⟩
 have aF:Below w.heap.size w w3:=(zab aE n).trans (aD.mono (by simp))
 have aG:zad w3 w.heap.size false (.slice none 0 0) (.slice none 0 0):=by
  have h:=zad.new w false (.slice none 0 0) (.slice none 0 0)
  exact zad.below (w:=(w.alloc (.cells #[.bool false,.slice none 0 0,.slice none 0 0] 91)).drewN n) h aD (by simp)
 have aA:=zak aF (g:=w.heap.size) (Nat.le_refl _) (.bool false) (.slice none 0 0) (.slice none 0 0)
 obtain ⟨k0,k1,k2,f0,f1,f2,_⟩:=aG.cells
 clear aC
 go_wp2
 refine bodyPost_ret (v := .tuple #[.agg #[.bool false,.slice none 0 0,.slice none 0 0],.int .i64 1]) (by simp [results,Tryz.results63,go_sem,k0,k1,k2]) rfl ⟨_,rfl,RatS.zero _ _,aA⟩
set_option maxHeartbeats 4000000 in
set_option maxRecDepth 100000 in
theorem zka (s t:ByteArray) (c1 c2:List UInt8) (neg frac:Bool) (w:World)
  (hc:Calls Tryz.prog 122 #[.string s,.string { data:=#[47] }] (w.alloc (.cells #[.bool false,.slice none 0 0,.slice none 0 0] 91)) fun e w'=>(∃ a b:ByteArray,e = .returned (.tuple #[.string a,.string b,.bool frac])∧a.data.toList=c1∧b.data.toList=c2)∧∃ n,w'=(w.alloc (.cells #[.bool false,.slice none 0 0,.slice none 0 0] 91)).drewN n)
  (hcp:∀ (a:ByteArray) (W:World),a.data.toList=c1→Calls Tryz.prog 123 #[.string a,.string { data:=#[45] }] W fun e w'=>e = .returned (.tuple #[.string t,.bool neg])∧W=w')
  (D1:zaz t.data.toList=true) (zb:Bool) (z:(t.toList==[48])=zb) (hn:(neg && zb)=false) (v48 v49:Bool) (hf:frac=true) (D2:zaz c2=false) (d48:(c2==[48])=v48) (d49:(c2==[49])=v49)  :
  Calls Tryz.prog 63 #[.string s] w (zay w ⟨false,0,0⟩ 1):=by
 subst hf
 cases neg<;>cases zb<;>(try cases hn)
 all_goals
  have aJ:Below w.heap.size w (w.alloc (.cells #[.bool false,.slice none 0 0,.slice none 0 0] 91)):=(Below.refl _ _).alloc (Nat.le_refl _) _
  go_enter Tryz.func63,Tryz.ntmps63
  go_wp2_with fail
  refine hc.mono ?_
  rintro e w1 ⟨⟨a,b,rfl,ha,hb⟩,n,rfl⟩
  go_wp2_with fail
  refine (hcp a _ ha).mono ?_
  rintro e w2 ⟨rfl,rfl⟩
  have aC:=zaj t ((w.alloc (.cells #[.bool false,.slice none 0 0,.slice none 0 0] 91)).drewN n)
  rw [D1] at aC
  go_wp2_with fail
  refine aC.mono ?_
  rintro e w3 ⟨rfl,aG⟩
  have aH:Below w.heap.size w w3:=(zab aJ n).trans (aG.mono (by simp))
  have aI:zad w3 w.heap.size false (.slice none 0 0) (.slice none 0 0):=by
   have h:=zad.new w false (.slice none 0 0) (.slice none 0 0)
   exact zad.below (w:=(w.alloc (.cells #[.bool false,.slice none 0 0,.slice none 0 0] 91)).drewN n) h aG (by simp)
  have aD:=zaj b w3
  rw [hb,D2] at aD
  have aN:(b.toList==[48])=v48:=by rw [ByteArray.toList_eq,hb];exact d48
  have aM:(b.toList==[49])=v49:=by rw [ByteArray.toList_eq,hb];exact d49
  have aE:b.size=c2.length:=by rw [←hb];simp
  have aO:=Lib.hid aE
  have aP:=Lib.hid hb
  clear hb ha aE
  go_wp2_with fail
  refine aD.mono ?_
  rintro e w4 ⟨rfl,aF⟩
  have aL:Below w.heap.size w w4:=aH.trans (aF.mono aH.size)
  have aK:=aI.below aF aI.cells.2.2.2.2.2.2
  clear aD
  have aA:=zak aL (g:=w.heap.size) (Nat.le_refl _) (.bool false) (.slice none 0 0) (.slice none 0 0)
  obtain ⟨k0,k1,k2,f0,f1,f2,_⟩:=aK.cells
  clear aC
  go_wp2
  refine bodyPost_ret (v := .tuple #[.agg #[.bool false,.slice none 0 0,.slice none 0 0],.int .i64 1]) (by simp [results,Tryz.results63,go_sem,k0,k1,k2]) rfl ⟨_,rfl,RatS.zero _ _,aA⟩
set_option maxHeartbeats 4000000 in
set_option maxRecDepth 100000 in
theorem zkH (s t:ByteArray) (c1 c2:List UInt8) (neg frac:Bool) (w:World)
  (hc:Calls Tryz.prog 122 #[.string s,.string { data:=#[47] }] (w.alloc (.cells #[.bool false,.slice none 0 0,.slice none 0 0] 91)) fun e w'=>(∃ a b:ByteArray,e = .returned (.tuple #[.string a,.string b,.bool frac])∧a.data.toList=c1∧b.data.toList=c2)∧∃ n,w'=(w.alloc (.cells #[.bool false,.slice none 0 0,.slice none 0 0] 91)).drewN n)
  (hcp:∀ (a:ByteArray) (W:World),a.data.toList=c1→Calls Tryz.prog 123 #[.string a,.string { data:=#[45] }] W fun e w'=>e = .returned (.tuple #[.string t,.bool neg])∧W=w')
  (D1:zaz t.data.toList=true) (zb:Bool) (z:(t.toList==[48])=zb) (hn:(neg && zb)=false) (v49:Bool) (hf:frac=true) (D2:zaz c2=true) (d48:(c2==[48])=true) (d49:(c2==[49])=v49)  :
  Calls Tryz.prog 63 #[.string s] w (zay w ⟨false,0,0⟩ 1):=by
 subst hf
 cases neg<;>cases zb<;>(try cases hn)
 all_goals
  have aJ:Below w.heap.size w (w.alloc (.cells #[.bool false,.slice none 0 0,.slice none 0 0] 91)):=(Below.refl _ _).alloc (Nat.le_refl _) _
  go_enter Tryz.func63,Tryz.ntmps63
  go_wp2_with fail
  refine hc.mono ?_
  rintro e w1 ⟨⟨a,b,rfl,ha,hb⟩,n,rfl⟩
  go_wp2_with fail
  refine (hcp a _ ha).mono ?_
  rintro e w2 ⟨rfl,rfl⟩
  have aC:=zaj t ((w.alloc (.cells #[.bool false,.slice none 0 0,.slice none 0 0] 91)).drewN n)
  rw [D1] at aC
  go_wp2_with fail
  refine aC.mono ?_
  rintro e w3 ⟨rfl,aG⟩
  have aH:Below w.heap.size w w3:=(zab aJ n).trans (aG.mono (by simp))
  have aI:zad w3 w.heap.size false (.slice none 0 0) (.slice none 0 0):=by
   have h:=zad.new w false (.slice none 0 0) (.slice none 0 0)
   exact zad.below (w:=(w.alloc (.cells #[.bool false,.slice none 0 0,.slice none 0 0] 91)).drewN n) h aG (by simp)
  have aD:=zaj b w3
  rw [hb,D2] at aD
  have aN:(b.toList==[48])=true:=by rw [ByteArray.toList_eq,hb];exact d48
  have aM:(b.toList==[49])=v49:=by rw [ByteArray.toList_eq,hb];exact d49
  have aE:b.size=c2.length:=by rw [←hb];simp
  have aO:=Lib.hid aE
  have aP:=Lib.hid hb
  clear hb ha aE
  go_wp2_with fail
  refine aD.mono ?_
  rintro e w4 ⟨rfl,aF⟩
  have aL:Below w.heap.size w w4:=aH.trans (aF.mono aH.size)
  have aK:=aI.below aF aI.cells.2.2.2.2.2.2
  clear aD
  have aA:=zak aL (g:=w.heap.size) (Nat.le_refl _) (.bool false) (.slice none 0 0) (.slice none 0 0)
  obtain ⟨k0,k1,k2,f0,f1,f2,_⟩:=aK.cells
  clear aC
  go_wp2
  refine bodyPost_ret (v := .tuple #[.agg #[.bool false,.slice none 0 0,.slice none 0 0],.int .i64 1]) (by simp [results,Tryz.results63,go_sem,k0,k1,k2]) rfl ⟨_,rfl,RatS.zero _ _,aA⟩
set_option maxHeartbeats 4000000 in
set_option maxRecDepth 100000 in
theorem zlG (s t:ByteArray) (c1 c2:List UInt8) (neg frac:Bool) (w:World)
  (hc:Calls Tryz.prog 122 #[.string s,.string { data:=#[47] }] (w.alloc (.cells #[.bool false,.slice none 0 0,.slice none 0 0] 91)) fun e w'=>(∃ a b:ByteArray,e = .returned (.tuple #[.string a,.string b,.bool frac])∧a.data.toList=c1∧b.data.toList=c2)∧∃ n,w'=(w.alloc (.cells #[.bool false,.slice none 0 0,.slice none 0 0] 91)).drewN n)
  (hcp:∀ (a:ByteArray) (W:World),a.data.toList=c1→Calls Tryz.prog 123 #[.string a,.string { data:=#[45] }] W fun e w'=>e = .returned (.tuple #[.string t,.bool neg])∧W=w')
  (D1:zaz t.data.toList=true) (zb:Bool) (z:(t.toList==[48])=zb) (hn:(neg && zb)=false) (hf:frac=true) (D2:zaz c2=true) (d48:(c2==[48])=false) (d49:(c2==[49])=true)  :
  Calls Tryz.prog 63 #[.string s] w (zay w ⟨false,0,0⟩ 1):=by
 subst hf
 cases neg<;>cases zb<;>(try cases hn)
 all_goals
  have aJ:Below w.heap.size w (w.alloc (.cells #[.bool false,.slice none 0 0,.slice none 0 0] 91)):=(Below.refl _ _).alloc (Nat.le_refl _) _
  go_enter Tryz.func63,Tryz.ntmps63
  go_wp2_with fail
  refine hc.mono ?_
  rintro e w1 ⟨⟨a,b,rfl,ha,hb⟩,n,rfl⟩
  go_wp2_with fail
  refine (hcp a _ ha).mono ?_
  rintro e w2 ⟨rfl,rfl⟩
  have aC:=zaj t ((w.alloc (.cells #[.bool false,.slice none 0 0,.slice none 0 0] 91)).drewN n)
  rw [D1] at aC
  go_wp2_with fail
  refine aC.mono ?_
  rintro e w3 ⟨rfl,aG⟩
  have aH:Below w.heap.size w w3:=(zab aJ n).trans (aG.mono (by simp))
  have aI:zad w3 w.heap.size false (.slice none 0 0) (.slice none 0 0):=by
   have h:=zad.new w false (.slice none 0 0) (.slice none 0 0)
   exact zad.below (w:=(w.alloc (.cells #[.bool false,.slice none 0 0,.slice none 0 0] 91)).drewN n) h aG (by simp)
  have aD:=zaj b w3
  rw [hb,D2] at aD
  have aN:(b.toList==[48])=false:=by rw [ByteArray.toList_eq,hb];exact d48
  have aM:(b.toList==[49])=true:=by rw [ByteArray.toList_eq,hb];exact d49
  have aE:b.size=c2.length:=by rw [←hb];simp
  have aO:=Lib.hid aE
  have aP:=Lib.hid hb
  clear hb ha aE
  go_wp2_with fail
  refine aD.mono ?_
  rintro e w4 ⟨rfl,aF⟩
  have aL:Below w.heap.size w w4:=aH.trans (aF.mono aH.size)
  have aK:=aI.below aF aI.cells.2.2.2.2.2.2
  clear aD
  have aA:=zak aL (g:=w.heap.size) (Nat.le_refl _) (.bool false) (.slice none 0 0) (.slice none 0 0)
  obtain ⟨k0,k1,k2,f0,f1,f2,_⟩:=aK.cells
  clear aC
  go_wp2
  refine bodyPost_ret (v := .tuple #[.agg #[.bool false,.slice none 0 0,.slice none 0 0],.int .i64 1]) (by simp [results,Tryz.results63,go_sem,k0,k1,k2]) rfl ⟨_,rfl,RatS.zero _ _,aA⟩
set_option maxHeartbeats 4000000 in
set_option maxRecDepth 100000 in
theorem zlv (s t:ByteArray) (c1 c2:List UInt8) (neg frac:Bool) (w:World)
  (hc:Calls Tryz.prog 122 #[.string s,.string { data:=#[47] }] (w.alloc (.cells #[.bool false,.slice none 0 0,.slice none 0 0] 91)) fun e w'=>(∃ a b:ByteArray,e = .returned (.tuple #[.string a,.string b,.bool frac])∧a.data.toList=c1∧b.data.toList=c2)∧∃ n,w'=(w.alloc (.cells #[.bool false,.slice none 0 0,.slice none 0 0] 91)).drewN n)
  (hcp:∀ (a:ByteArray) (W:World),a.data.toList=c1→Calls Tryz.prog 123 #[.string a,.string { data:=#[45] }] W fun e w'=>e = .returned (.tuple #[.string t,.bool neg])∧W=w')
  (D1:zaz t.data.toList=true) (zb:Bool) (z:(t.toList==[48])=zb) (hn:(neg && zb)=false) (hf:frac=true) (D2:zaz c2=true) (d48:(c2==[48])=false) (d49:(c2==[49])=false) (HLN:Hid (600<t.size∨600<c2.length)) :
  Calls Tryz.prog 63 #[.string s] w (zay w ⟨false,0,0⟩ 4):=by
 subst hf
 cases neg<;>cases zb<;>(try cases hn)
 all_goals
  have aJ:Below w.heap.size w (w.alloc (.cells #[.bool false,.slice none 0 0,.slice none 0 0] 91)):=(Below.refl _ _).alloc (Nat.le_refl _) _
  go_enter Tryz.func63,Tryz.ntmps63
  go_wp2_with fail
  refine hc.mono ?_
  rintro e w1 ⟨⟨a,b,rfl,ha,hb⟩,n,rfl⟩
  go_wp2_with fail
  refine (hcp a _ ha).mono ?_
  rintro e w2 ⟨rfl,rfl⟩
  have aC:=zaj t ((w.alloc (.cells #[.bool false,.slice none 0 0,.slice none 0 0] 91)).drewN n)
  rw [D1] at aC
  go_wp2_with fail
  refine aC.mono ?_
  rintro e w3 ⟨rfl,aG⟩
  have aH:Below w.heap.size w w3:=(zab aJ n).trans (aG.mono (by simp))
  have aI:zad w3 w.heap.size false (.slice none 0 0) (.slice none 0 0):=by
   have h:=zad.new w false (.slice none 0 0) (.slice none 0 0)
   exact zad.below (w:=(w.alloc (.cells #[.bool false,.slice none 0 0,.slice none 0 0] 91)).drewN n) h aG (by simp)
  have aD:=zaj b w3
  rw [hb,D2] at aD
  have aO:(b.toList==[48])=false:=by rw [ByteArray.toList_eq,hb];exact d48
  have aN:(b.toList==[49])=false:=by rw [ByteArray.toList_eq,hb];exact d49
  have aE:b.size=c2.length:=by rw [←hb];simp
  have aL:=Lib.hid aE
  have aP:=Lib.hid hb
  clear hb ha aE
  go_wp2_with fail
  refine aD.mono ?_
  rintro e w4 ⟨rfl,aF⟩
  have aM:Below w.heap.size w w4:=aH.trans (aF.mono aH.size)
  have aK:=aI.below aF aI.cells.2.2.2.2.2.2
  clear aD
  have aQ:decide ((600:Int)<max (t.size:Int) (b.size:Int))=true:=by
   have h:=aL.out
   have h2:=HLN.out
   simp only [decide_eq_true_eq]
   omega
  have aA:=zak aM (g:=w.heap.size) (Nat.le_refl _) (.bool false) (.slice none 0 0) (.slice none 0 0)
  obtain ⟨k0,k1,k2,f0,f1,f2,_⟩:=aK.cells
  clear aC
  go_wp2
  refine bodyPost_ret (v := .tuple #[.agg #[.bool false,.slice none 0 0,.slice none 0 0],.int .i64 4]) (by simp [results,Tryz.results63,go_sem,k0,k1,k2]) rfl ⟨_,rfl,RatS.zero _ _,aA⟩
set_option maxHeartbeats 4000000 in
set_option maxRecDepth 100000 in
theorem zlF (s t:ByteArray) (c1 c2:List UInt8) (neg frac:Bool) (w:World)
  (hc:Calls Tryz.prog 122 #[.string s,.string { data:=#[47] }] (w.alloc (.cells #[.bool false,.slice none 0 0,.slice none 0 0] 91)) fun e w'=>(∃ a b:ByteArray,e = .returned (.tuple #[.string a,.string b,.bool frac])∧a.data.toList=c1∧b.data.toList=c2)∧∃ n,w'=(w.alloc (.cells #[.bool false,.slice none 0 0,.slice none 0 0] 91)).drewN n)
  (hcp:∀ (a:ByteArray) (W:World),a.data.toList=c1→Calls Tryz.prog 123 #[.string a,.string { data:=#[45] }] W fun e w'=>e = .returned (.tuple #[.string t,.bool neg])∧W=w')
  (D1:zaz t.data.toList=true) (zb:Bool) (z:(t.toList==[48])=zb) (hn:(neg && zb)=false) (hf:frac=false) (d2n:c2=[]) (HLN:Hid (600<t.size∨600<0)) :
  Calls Tryz.prog 63 #[.string s] w (zay w ⟨false,0,0⟩ 4):=by
 subst hf
 cases neg<;>cases zb<;>(try cases hn)
 all_goals
  have aF:Below w.heap.size w (w.alloc (.cells #[.bool false,.slice none 0 0,.slice none 0 0] 91)):=(Below.refl _ _).alloc (Nat.le_refl _) _
  go_enter Tryz.func63,Tryz.ntmps63
  go_wp2_with fail
  refine hc.mono ?_
  rintro e w1 ⟨⟨a,b,rfl,ha,hb⟩,n,rfl⟩
  go_wp2_with fail
  refine (hcp a _ ha).mono ?_
  rintro e w2 ⟨rfl,rfl⟩
  have aC:=zaj t ((w.alloc (.cells #[.bool false,.slice none 0 0,.slice none 0 0] 91)).drewN n)
  rw [D1] at aC
  go_wp2_with fail
  refine aC.mono ?_
  rintro e w3 ⟨rfl,aE⟩
  have aH:Below w.heap.size w w3:=(zab aF n).trans (aE.mono (by simp))
  have aI:zad w3 w.heap.size false (.slice none 0 0) (.slice none 0 0):=by
   have h:=zad.new w false (.slice none 0 0) (.slice none 0 0)
   exact zad.below (w:=(w.alloc (.cells #[.bool false,.slice none 0 0,.slice none 0 0] 91)).drewN n) h aE (by simp)
  have aD:b.size=0:=by
   have:b.data.toList.length=0:=by rw [hb,d2n];rfl
   simpa using this
  have aG:=Lib.hid aD
  clear hb ha aD
  have aJ:decide ((600:Int)<max (t.size:Int) (b.size:Int))=true:=by
   have h:=aG.out
   have h2:=HLN.out
   simp only [decide_eq_true_eq]
   omega
  have aA:=zak aH (g:=w.heap.size) (Nat.le_refl _) (.bool false) (.slice none 0 0) (.slice none 0 0)
  obtain ⟨k0,k1,k2,f0,f1,f2,_⟩:=aI.cells
  clear aC
  go_wp2
  refine bodyPost_ret (v := .tuple #[.agg #[.bool false,.slice none 0 0,.slice none 0 0],.int .i64 4]) (by simp [results,Tryz.results63,go_sem,k0,k1,k2]) rfl ⟨_,rfl,RatS.zero _ _,aA⟩
set_option maxHeartbeats 4000000 in
set_option maxRecDepth 100000 in
theorem zjG (s t:ByteArray) (c1 c2:List UInt8) (neg frac:Bool) (w:World)
  (hc:Calls Tryz.prog 122 #[.string s,.string { data:=#[47] }] (w.alloc (.cells #[.bool false,.slice none 0 0,.slice none 0 0] 91)) fun e w'=>(∃ a b:ByteArray,e = .returned (.tuple #[.string a,.string b,.bool frac])∧a.data.toList=c1∧b.data.toList=c2)∧∃ n,w'=(w.alloc (.cells #[.bool false,.slice none 0 0,.slice none 0 0] 91)).drewN n)
  (hcp:∀ (a:ByteArray) (W:World),a.data.toList=c1→Calls Tryz.prog 123 #[.string a,.string { data:=#[45] }] W fun e w'=>e = .returned (.tuple #[.string t,.bool neg])∧W=w')
  (D1:zaz t.data.toList=true) (zb:Bool) (z:(t.toList==[48])=zb) (hn:(neg && zb)=false) (hf:frac=false) (d2n:c2=[]) (HLN:Hid (t.size≤600∧0≤600)) :
  Calls Tryz.prog 63 #[.string s] w (zay w ⟨neg,zai t.data.toList,1⟩ 0):=by
 subst hf
 cases neg<;>cases zb<;>(try cases hn)
 ·have aR:Below w.heap.size w (w.alloc (.cells #[.bool false,.slice none 0 0,.slice none 0 0] 91)):=(Below.refl _ _).alloc (Nat.le_refl _) _
  go_enter Tryz.func63,Tryz.ntmps63
  go_wp2_with fail
  refine hc.mono ?_
  rintro e w1 ⟨⟨a,b,rfl,ha,hb⟩,n,rfl⟩
  go_wp2_with fail
  refine (hcp a _ ha).mono ?_
  rintro e w2 ⟨rfl,rfl⟩
  have aD:=zaj t ((w.alloc (.cells #[.bool false,.slice none 0 0,.slice none 0 0] 91)).drewN n)
  rw [D1] at aD
  go_wp2_with fail
  refine aD.mono ?_
  rintro e w3 ⟨rfl,aJ⟩
  have aL:Below w.heap.size w w3:=(zab aR n).trans (aJ.mono (by simp))
  have aN:zad w3 w.heap.size false (.slice none 0 0) (.slice none 0 0):=by
   have h:=zad.new w false (.slice none 0 0) (.slice none 0 0)
   exact zad.below (w:=(w.alloc (.cells #[.bool false,.slice none 0 0,.slice none 0 0] 91)).drewN n) h aJ (by simp)
  have aF:b.size=0:=by
   have:b.data.toList.length=0:=by rw [hb,d2n];rfl
   simpa using this
  have aT:=Lib.hid aF
  clear hb ha aF
  have aU:decide ((600:Int)<max (t.size:Int) (b.size:Int))=false:=by
   have h:=aT.out
   have h2:=HLN.out
   simp only [decide_eq_false_iff_not]
   omega
  have aI:=zax D1
  have aK:=zaQ t w3 aI (by have:=HLN.out;omega)
  have aP:=Lib.hid aK
  clear aD aK aI
  go_wp2_with fail
  refine aP.out.mono ?_
  rintro e w5 ⟨A5,m5,c5,rfl,aQ,aM⟩
  have aH:=aN.below aM aN.cells.2.2.2.2.2.2
  have aG:Below w.heap.size w w5:=aL.trans (aM.mono aL.size)
  go_wp2_with fail
  refine (zah 1 w5 (by omega) (by omega)).mono ?_
  rintro e w6 ⟨A6,m6,c6,rfl,aS,aE⟩
  have aA:=aH.below aE aH.cells.2.2.2.2.2.2
  have aO:Below w.heap.size w w6:=aG.trans (aE.mono aG.size)
  obtain ⟨k0,k1,k2,f0,f1,f2,_⟩:=aA.cells
  have aC:=zak aO (g:=w.heap.size) (Nat.le_refl _) (.bool false) (.slice A5 m5 c5) (.slice A6 m6 c6)
  go_wp2
  refine bodyPost_ret (v := .tuple #[.agg #[.bool false,.slice A5 m5 c5,.slice A6 m6 c6],.int .i64 0]) (by simp [results,Tryz.results63,go_sem,k0,k1,k2]) rfl ⟨_,rfl,⟨A5,m5,c5,A6,m6,c6,rfl,?_,?_⟩,aC⟩
  ·rw [zaf];exact (aQ.later aE).res aA _ _ _
  ·rw [zaf];exact aS.res aA _ _ _
 ·have aR:Below w.heap.size w (w.alloc (.cells #[.bool false,.slice none 0 0,.slice none 0 0] 91)):=(Below.refl _ _).alloc (Nat.le_refl _) _
  go_enter Tryz.func63,Tryz.ntmps63
  go_wp2_with fail
  refine hc.mono ?_
  rintro e w1 ⟨⟨a,b,rfl,ha,hb⟩,n,rfl⟩
  go_wp2_with fail
  refine (hcp a _ ha).mono ?_
  rintro e w2 ⟨rfl,rfl⟩
  have aD:=zaj t ((w.alloc (.cells #[.bool false,.slice none 0 0,.slice none 0 0] 91)).drewN n)
  rw [D1] at aD
  go_wp2_with fail
  refine aD.mono ?_
  rintro e w3 ⟨rfl,aJ⟩
  have aL:Below w.heap.size w w3:=(zab aR n).trans (aJ.mono (by simp))
  have aN:zad w3 w.heap.size false (.slice none 0 0) (.slice none 0 0):=by
   have h:=zad.new w false (.slice none 0 0) (.slice none 0 0)
   exact zad.below (w:=(w.alloc (.cells #[.bool false,.slice none 0 0,.slice none 0 0] 91)).drewN n) h aJ (by simp)
  have aF:b.size=0:=by
   have:b.data.toList.length=0:=by rw [hb,d2n];rfl
   simpa using this
  have aT:=Lib.hid aF
  clear hb ha aF
  have aU:decide ((600:Int)<max (t.size:Int) (b.size:Int))=false:=by
   have h:=aT.out
   have h2:=HLN.out
   simp only [decide_eq_false_iff_not]
   omega
  have aI:=zax D1
  have aK:=zaQ t w3 aI (by have:=HLN.out;omega)
  have aP:=Lib.hid aK
  clear aD aK aI
  go_wp2_with fail
  refine aP.out.mono ?_
  rintro e w5 ⟨A5,m5,c5,rfl,aQ,aM⟩
  have aH:=aN.below aM aN.cells.2.2.2.2.2.2
  have aG:Below w.heap.size w w5:=aL.trans (aM.mono aL.size)
  go_wp2_with fail
  refine (zah 1 w5 (by omega) (by omega)).mono ?_
  rintro e w6 ⟨A6,m6,c6,rfl,aS,aE⟩
  have aA:=aH.below aE aH.cells.2.2.2.2.2.2
  have aO:Below w.heap.size w w6:=aG.trans (aE.mono aG.size)
  obtain ⟨k0,k1,k2,f0,f1,f2,_⟩:=aA.cells
  have aC:=zak aO (g:=w.heap.size) (Nat.le_refl _) (.bool false) (.slice A5 m5 c5) (.slice A6 m6 c6)
  go_wp2
  refine bodyPost_ret (v := .tuple #[.agg #[.bool false,.slice A5 m5 c5,.slice A6 m6 c6],.int .i64 0]) (by simp [results,Tryz.results63,go_sem,k0,k1,k2]) rfl ⟨_,rfl,⟨A5,m5,c5,A6,m6,c6,rfl,?_,?_⟩,aC⟩
  ·rw [zaf];exact (aQ.later aE).res aA _ _ _
  ·rw [zaf];exact aS.res aA _ _ _
 ·have aR:Below w.heap.size w (w.alloc (.cells #[.bool false,.slice none 0 0,.slice none 0 0] 91)):=(Below.refl _ _).alloc (Nat.le_refl _) _
  go_enter Tryz.func63,Tryz.ntmps63
  go_wp2_with fail
  refine hc.mono ?_
  rintro e w1 ⟨⟨a,b,rfl,ha,hb⟩,n,rfl⟩
  go_wp2_with fail
  refine (hcp a _ ha).mono ?_
  rintro e w2 ⟨rfl,rfl⟩
  have aD:=zaj t ((w.alloc (.cells #[.bool false,.slice none 0 0,.slice none 0 0] 91)).drewN n)
  rw [D1] at aD
  go_wp2_with fail
  refine aD.mono ?_
  rintro e w3 ⟨rfl,aJ⟩
  have aL:Below w.heap.size w w3:=(zab aR n).trans (aJ.mono (by simp))
  have aN:zad w3 w.heap.size false (.slice none 0 0) (.slice none 0 0):=by
   have h:=zad.new w false (.slice none 0 0) (.slice none 0 0)
   exact zad.below (w:=(w.alloc (.cells #[.bool false,.slice none 0 0,.slice none 0 0] 91)).drewN n) h aJ (by simp)
  have aF:b.size=0:=by
   have:b.data.toList.length=0:=by rw [hb,d2n];rfl
   simpa using this
  have aT:=Lib.hid aF
  clear hb ha aF
  have aU:decide ((600:Int)<max (t.size:Int) (b.size:Int))=false:=by
   have h:=aT.out
   have h2:=HLN.out
   simp only [decide_eq_false_iff_not]
   omega
  have aI:=zax D1
  have aK:=zaQ t w3 aI (by have:=HLN.out;omega)
  have aP:=Lib.hid aK
  clear aD aK aI
  go_wp2_with fail
  refine aP.out.mono ?_
  rintro e w5 ⟨A5,m5,c5,rfl,aQ,aM⟩
  have aH:=aN.below aM aN.cells.2.2.2.2.2.2
  have aG:Below w.heap.size w w5:=aL.trans (aM.mono aL.size)
  go_wp2_with fail
  refine (zah 1 w5 (by omega) (by omega)).mono ?_
  rintro e w6 ⟨A6,m6,c6,rfl,aS,aE⟩
  have aA:=aH.below aE aH.cells.2.2.2.2.2.2
  have aO:Below w.heap.size w w6:=aG.trans (aE.mono aG.size)
  obtain ⟨k0,k1,k2,f0,f1,f2,_⟩:=aA.cells
  have aC:=zak aO (g:=w.heap.size) (Nat.le_refl _) (.bool true) (.slice A5 m5 c5) (.slice A6 m6 c6)
  go_wp2
  refine bodyPost_ret (v := .tuple #[.agg #[.bool true,.slice A5 m5 c5,.slice A6 m6 c6],.int .i64 0]) (by simp [results,Tryz.results63,go_sem,k0,k1,k2]) rfl ⟨_,rfl,⟨A5,m5,c5,A6,m6,c6,rfl,?_,?_⟩,aC⟩
  ·rw [zaf];exact (aQ.later aE).res aA _ _ _
  ·rw [zaf];exact aS.res aA _ _ _
end Go.Proofs.YteajibbphcfmeaaGreatDoor
