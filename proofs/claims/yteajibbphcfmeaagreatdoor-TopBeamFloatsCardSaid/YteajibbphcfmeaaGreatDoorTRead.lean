/- Contract of read: the value of a number, or its error. -/
import Derived.Test.YteajibbphcfmeaaGreatDoorTRng2
import Derived.Test.YteajibbphcfmeaaGreatDoorTStr2
import Derived.Test.YteajibbphcfmeaaGreatDoorTGcd1
namespace Go.Proofs.YteajibbphcfmeaaGreatDoor
open Go.RowKit Bn
def topL (l:List UInt8):List UInt8:=Lib.trimPrefix (cutL l).1 [45]
def negL (l:List UInt8):Bool:=Lib.hasPrefix (cutL l).1 [45]
def botL (l:List UInt8):List UInt8:=(cutL l).2.1
def fracL (l:List UInt8):Bool:=(cutL l).2.2
def readE' (t b:List UInt8) (neg frac:Bool):Int:=
 if isDec t=false∨(neg=true∧t=[48]) then 1
 else if frac=true∧(isDec b=false∨b=[48]∨b=[49]) then 1
 else if 600<t.length∨600<b.length then 4
 else if frac=true∧Nat.gcd (decVal t) (decVal b)≠1 then 1 else 0
def readE (l:List UInt8):Int:=readE' (topL l) (botL l) (negL l) (fracL l)
def readQ (l:List UInt8):Q:=if readE l=0 then ⟨negL l,decVal (topL l),if fracL l then decVal (botL l) else 1⟩ else ⟨false,0,0⟩
def RetRead (w:World) (q:Q) (x:Int) (e:Ending) (w':World):Prop:=∃ v,e = .returned (.tuple #[v,.int .i64 x])∧RatS w' w'.heap.size v q∧Below w.heap.size w w'
theorem cutL_nofrac (l:List UInt8) (h:(cutL l).2.2=false):(cutL l).2.1=[]:=by
 unfold cutL at h ⊢
 split
 ·rename_i h1;rw [if_pos h1] at h;cases h
 ·rfl
theorem RatS.zero (w:World) (B:Nat):RatS w B (.agg #[.bool false,.slice none 0 0,.slice none 0 0]) ⟨false,0,0⟩:=⟨none,0,0,none,0,0,rfl,NatS.nil _ _,NatS.nil _ _⟩
theorem isDec_digits {l:List UInt8} (h:isDec l=true):digits l=true:=by
 unfold isDec at h
 rw [Bool.and_eq_true] at h
 exact h.1
theorem digs_len_decN {l:List UInt8} {N:Nat} (h:digits l=true) (h6:l.length≤N):(digs (decVal l)).length≤N:=by
 refine digs_length_le ?_
 have h1:=decVal_lt l h
 have h2:10 ^ l.length≤10 ^ N:=Nat.pow_le_pow_right (by omega) h6
 have h3:10 ^ N≤B ^ N:=Nat.pow_le_pow_left (by rw [B_def];omega) N
 omega
theorem digs_len_dec {l:List UInt8} (h:digits l=true) (h6:l.length≤600):(digs (decVal l)).length≤600:=digs_len_decN h h6
set_option maxHeartbeats 4000000 in
set_option maxRecDepth 100000 in
theorem read_badA (s t:ByteArray) (c1 c2:List UInt8) (neg frac:Bool) (w:World)
  (hc:Calls Tryz.prog 122 #[.string s,.string { data:=#[47] }] (w.alloc (.cells #[.bool false,.slice none 0 0,.slice none 0 0] 91)) fun e w'=>(∃ a b:ByteArray,e = .returned (.tuple #[.string a,.string b,.bool frac])∧a.data.toList=c1∧b.data.toList=c2)∧∃ n,w'=(w.alloc (.cells #[.bool false,.slice none 0 0,.slice none 0 0] 91)).drewN n)
  (hcp:∀ (a:ByteArray) (W:World),a.data.toList=c1→Calls Tryz.prog 123 #[.string a,.string { data:=#[45] }] W fun e w'=>e = .returned (.tuple #[.string t,.bool neg])∧W=w')
  (D1:isDec t.data.toList=false) :
  Calls Tryz.prog 63 #[.string s] w (RetRead w ⟨false,0,0⟩ 1):=by
 have hb0:Below w.heap.size w (w.alloc (.cells #[.bool false,.slice none 0 0,.slice none 0 0] 91)):=(Below.refl _ _).alloc (Nat.le_refl _) _
 go_enter Tryz.func63,Tryz.ntmps63
 go_wp2_with fail
 refine hc.mono ?_
 rintro e w1 ⟨⟨a,b,rfl,ha,hb⟩,n,rfl⟩
 go_wp2_with fail
 refine (hcp a _ ha).mono ?_
 rintro e w2 ⟨rfl,rfl⟩
 have hd1:=isDecimal_any t ((w.alloc (.cells #[.bool false,.slice none 0 0,.slice none 0 0] 91)).drewN n)
 rw [D1] at hd1
 go_wp2_with fail
 refine hd1.mono ?_
 rintro e w3 ⟨rfl,hb3⟩
 have hB3:Below w.heap.size w w3:=(below_drewN hb0 n).trans (hb3.mono (by simp))
 have hk3:ResBlk w3 w.heap.size false (.slice none 0 0) (.slice none 0 0):=by
  have h:=ResBlk.new w false (.slice none 0 0) (.slice none 0 0)
  exact ResBlk.below (w:=(w.alloc (.cells #[.bool false,.slice none 0 0,.slice none 0 0] 91)).drewN n) h hb3 (by simp)
 have hset:=three_set hB3 (g:=w.heap.size) (Nat.le_refl _) (.bool false) (.slice none 0 0) (.slice none 0 0)
 obtain ⟨k0,k1,k2,f0,f1,f2,_⟩:=hk3.cells
 clear hd1
 go_wp2
 refine bodyPost_ret (v := .tuple #[.agg #[.bool false,.slice none 0 0,.slice none 0 0],.int .i64 1]) (by simp [results,Tryz.results63,go_sem,k0,k1,k2]) rfl ⟨_,rfl,RatS.zero _ _,hset⟩
set_option maxHeartbeats 4000000 in
set_option maxRecDepth 100000 in
theorem read_badB (s t:ByteArray) (c1 c2:List UInt8) (neg frac:Bool) (w:World)
  (hc:Calls Tryz.prog 122 #[.string s,.string { data:=#[47] }] (w.alloc (.cells #[.bool false,.slice none 0 0,.slice none 0 0] 91)) fun e w'=>(∃ a b:ByteArray,e = .returned (.tuple #[.string a,.string b,.bool frac])∧a.data.toList=c1∧b.data.toList=c2)∧∃ n,w'=(w.alloc (.cells #[.bool false,.slice none 0 0,.slice none 0 0] 91)).drewN n)
  (hcp:∀ (a:ByteArray) (W:World),a.data.toList=c1→Calls Tryz.prog 123 #[.string a,.string { data:=#[45] }] W fun e w'=>e = .returned (.tuple #[.string t,.bool neg])∧W=w')
  (D1:isDec t.data.toList=true) (z:(t.toList==[48])=true) (hn:neg=true) :
  Calls Tryz.prog 63 #[.string s] w (RetRead w ⟨false,0,0⟩ 1):=by
 subst hn
 have hb0:Below w.heap.size w (w.alloc (.cells #[.bool false,.slice none 0 0,.slice none 0 0] 91)):=(Below.refl _ _).alloc (Nat.le_refl _) _
 go_enter Tryz.func63,Tryz.ntmps63
 go_wp2_with fail
 refine hc.mono ?_
 rintro e w1 ⟨⟨a,b,rfl,ha,hb⟩,n,rfl⟩
 go_wp2_with fail
 refine (hcp a _ ha).mono ?_
 rintro e w2 ⟨rfl,rfl⟩
 have hd1:=isDecimal_any t ((w.alloc (.cells #[.bool false,.slice none 0 0,.slice none 0 0] 91)).drewN n)
 rw [D1] at hd1
 go_wp2_with fail
 refine hd1.mono ?_
 rintro e w3 ⟨rfl,hb3⟩
 have hB3:Below w.heap.size w w3:=(below_drewN hb0 n).trans (hb3.mono (by simp))
 have hk3:ResBlk w3 w.heap.size false (.slice none 0 0) (.slice none 0 0):=by
  have h:=ResBlk.new w false (.slice none 0 0) (.slice none 0 0)
  exact ResBlk.below (w:=(w.alloc (.cells #[.bool false,.slice none 0 0,.slice none 0 0] 91)).drewN n) h hb3 (by simp)
 have hset:=three_set hB3 (g:=w.heap.size) (Nat.le_refl _) (.bool false) (.slice none 0 0) (.slice none 0 0)
 obtain ⟨k0,k1,k2,f0,f1,f2,_⟩:=hk3.cells
 clear hd1
 go_wp2
 refine bodyPost_ret (v := .tuple #[.agg #[.bool false,.slice none 0 0,.slice none 0 0],.int .i64 1]) (by simp [results,Tryz.results63,go_sem,k0,k1,k2]) rfl ⟨_,rfl,RatS.zero _ _,hset⟩
set_option maxHeartbeats 4000000 in
set_option maxRecDepth 100000 in
theorem read_badC (s t:ByteArray) (c1 c2:List UInt8) (neg frac:Bool) (w:World)
  (hc:Calls Tryz.prog 122 #[.string s,.string { data:=#[47] }] (w.alloc (.cells #[.bool false,.slice none 0 0,.slice none 0 0] 91)) fun e w'=>(∃ a b:ByteArray,e = .returned (.tuple #[.string a,.string b,.bool frac])∧a.data.toList=c1∧b.data.toList=c2)∧∃ n,w'=(w.alloc (.cells #[.bool false,.slice none 0 0,.slice none 0 0] 91)).drewN n)
  (hcp:∀ (a:ByteArray) (W:World),a.data.toList=c1→Calls Tryz.prog 123 #[.string a,.string { data:=#[45] }] W fun e w'=>e = .returned (.tuple #[.string t,.bool neg])∧W=w')
  (D1:isDec t.data.toList=true) (zb:Bool) (z:(t.toList==[48])=zb) (hn:(neg && zb)=false) (v48 v49:Bool) (hf:frac=true) (D2:isDec c2=false) (d48:(c2==[48])=v48) (d49:(c2==[49])=v49)  :
  Calls Tryz.prog 63 #[.string s] w (RetRead w ⟨false,0,0⟩ 1):=by
 subst hf
 cases neg<;>cases zb<;>(try cases hn)
 all_goals
  have hb0:Below w.heap.size w (w.alloc (.cells #[.bool false,.slice none 0 0,.slice none 0 0] 91)):=(Below.refl _ _).alloc (Nat.le_refl _) _
  go_enter Tryz.func63,Tryz.ntmps63
  go_wp2_with fail
  refine hc.mono ?_
  rintro e w1 ⟨⟨a,b,rfl,ha,hb⟩,n,rfl⟩
  go_wp2_with fail
  refine (hcp a _ ha).mono ?_
  rintro e w2 ⟨rfl,rfl⟩
  have hd1:=isDecimal_any t ((w.alloc (.cells #[.bool false,.slice none 0 0,.slice none 0 0] 91)).drewN n)
  rw [D1] at hd1
  go_wp2_with fail
  refine hd1.mono ?_
  rintro e w3 ⟨rfl,hb3⟩
  have hB3:Below w.heap.size w w3:=(below_drewN hb0 n).trans (hb3.mono (by simp))
  have hk3:ResBlk w3 w.heap.size false (.slice none 0 0) (.slice none 0 0):=by
   have h:=ResBlk.new w false (.slice none 0 0) (.slice none 0 0)
   exact ResBlk.below (w:=(w.alloc (.cells #[.bool false,.slice none 0 0,.slice none 0 0] 91)).drewN n) h hb3 (by simp)
  have hd2:=isDecimal_any b w3
  rw [hb,D2] at hd2
  have e48:(b.toList==[48])=v48:=by rw [ByteArray.toList_eq,hb];exact d48
  have e49:(b.toList==[49])=v49:=by rw [ByteArray.toList_eq,hb];exact d49
  have hbs:b.size=c2.length:=by rw [←hb];simp
  have HBS:=Lib.hid hbs
  have HBB:=Lib.hid hb
  clear hb ha hbs
  go_wp2_with fail
  refine hd2.mono ?_
  rintro e w4 ⟨rfl,hb4⟩
  have hB4:Below w.heap.size w w4:=hB3.trans (hb4.mono hB3.size)
  have hk4:=hk3.below hb4 hk3.cells.2.2.2.2.2.2
  clear hd2
  have hset:=three_set hB4 (g:=w.heap.size) (Nat.le_refl _) (.bool false) (.slice none 0 0) (.slice none 0 0)
  obtain ⟨k0,k1,k2,f0,f1,f2,_⟩:=hk4.cells
  clear hd1
  go_wp2
  refine bodyPost_ret (v := .tuple #[.agg #[.bool false,.slice none 0 0,.slice none 0 0],.int .i64 1]) (by simp [results,Tryz.results63,go_sem,k0,k1,k2]) rfl ⟨_,rfl,RatS.zero _ _,hset⟩
set_option maxHeartbeats 4000000 in
set_option maxRecDepth 100000 in
theorem read_badD (s t:ByteArray) (c1 c2:List UInt8) (neg frac:Bool) (w:World)
  (hc:Calls Tryz.prog 122 #[.string s,.string { data:=#[47] }] (w.alloc (.cells #[.bool false,.slice none 0 0,.slice none 0 0] 91)) fun e w'=>(∃ a b:ByteArray,e = .returned (.tuple #[.string a,.string b,.bool frac])∧a.data.toList=c1∧b.data.toList=c2)∧∃ n,w'=(w.alloc (.cells #[.bool false,.slice none 0 0,.slice none 0 0] 91)).drewN n)
  (hcp:∀ (a:ByteArray) (W:World),a.data.toList=c1→Calls Tryz.prog 123 #[.string a,.string { data:=#[45] }] W fun e w'=>e = .returned (.tuple #[.string t,.bool neg])∧W=w')
  (D1:isDec t.data.toList=true) (zb:Bool) (z:(t.toList==[48])=zb) (hn:(neg && zb)=false) (v49:Bool) (hf:frac=true) (D2:isDec c2=true) (d48:(c2==[48])=true) (d49:(c2==[49])=v49)  :
  Calls Tryz.prog 63 #[.string s] w (RetRead w ⟨false,0,0⟩ 1):=by
 subst hf
 cases neg<;>cases zb<;>(try cases hn)
 all_goals
  have hb0:Below w.heap.size w (w.alloc (.cells #[.bool false,.slice none 0 0,.slice none 0 0] 91)):=(Below.refl _ _).alloc (Nat.le_refl _) _
  go_enter Tryz.func63,Tryz.ntmps63
  go_wp2_with fail
  refine hc.mono ?_
  rintro e w1 ⟨⟨a,b,rfl,ha,hb⟩,n,rfl⟩
  go_wp2_with fail
  refine (hcp a _ ha).mono ?_
  rintro e w2 ⟨rfl,rfl⟩
  have hd1:=isDecimal_any t ((w.alloc (.cells #[.bool false,.slice none 0 0,.slice none 0 0] 91)).drewN n)
  rw [D1] at hd1
  go_wp2_with fail
  refine hd1.mono ?_
  rintro e w3 ⟨rfl,hb3⟩
  have hB3:Below w.heap.size w w3:=(below_drewN hb0 n).trans (hb3.mono (by simp))
  have hk3:ResBlk w3 w.heap.size false (.slice none 0 0) (.slice none 0 0):=by
   have h:=ResBlk.new w false (.slice none 0 0) (.slice none 0 0)
   exact ResBlk.below (w:=(w.alloc (.cells #[.bool false,.slice none 0 0,.slice none 0 0] 91)).drewN n) h hb3 (by simp)
  have hd2:=isDecimal_any b w3
  rw [hb,D2] at hd2
  have e48:(b.toList==[48])=true:=by rw [ByteArray.toList_eq,hb];exact d48
  have e49:(b.toList==[49])=v49:=by rw [ByteArray.toList_eq,hb];exact d49
  have hbs:b.size=c2.length:=by rw [←hb];simp
  have HBS:=Lib.hid hbs
  have HBB:=Lib.hid hb
  clear hb ha hbs
  go_wp2_with fail
  refine hd2.mono ?_
  rintro e w4 ⟨rfl,hb4⟩
  have hB4:Below w.heap.size w w4:=hB3.trans (hb4.mono hB3.size)
  have hk4:=hk3.below hb4 hk3.cells.2.2.2.2.2.2
  clear hd2
  have hset:=three_set hB4 (g:=w.heap.size) (Nat.le_refl _) (.bool false) (.slice none 0 0) (.slice none 0 0)
  obtain ⟨k0,k1,k2,f0,f1,f2,_⟩:=hk4.cells
  clear hd1
  go_wp2
  refine bodyPost_ret (v := .tuple #[.agg #[.bool false,.slice none 0 0,.slice none 0 0],.int .i64 1]) (by simp [results,Tryz.results63,go_sem,k0,k1,k2]) rfl ⟨_,rfl,RatS.zero _ _,hset⟩
set_option maxHeartbeats 4000000 in
set_option maxRecDepth 100000 in
theorem read_badE (s t:ByteArray) (c1 c2:List UInt8) (neg frac:Bool) (w:World)
  (hc:Calls Tryz.prog 122 #[.string s,.string { data:=#[47] }] (w.alloc (.cells #[.bool false,.slice none 0 0,.slice none 0 0] 91)) fun e w'=>(∃ a b:ByteArray,e = .returned (.tuple #[.string a,.string b,.bool frac])∧a.data.toList=c1∧b.data.toList=c2)∧∃ n,w'=(w.alloc (.cells #[.bool false,.slice none 0 0,.slice none 0 0] 91)).drewN n)
  (hcp:∀ (a:ByteArray) (W:World),a.data.toList=c1→Calls Tryz.prog 123 #[.string a,.string { data:=#[45] }] W fun e w'=>e = .returned (.tuple #[.string t,.bool neg])∧W=w')
  (D1:isDec t.data.toList=true) (zb:Bool) (z:(t.toList==[48])=zb) (hn:(neg && zb)=false) (hf:frac=true) (D2:isDec c2=true) (d48:(c2==[48])=false) (d49:(c2==[49])=true)  :
  Calls Tryz.prog 63 #[.string s] w (RetRead w ⟨false,0,0⟩ 1):=by
 subst hf
 cases neg<;>cases zb<;>(try cases hn)
 all_goals
  have hb0:Below w.heap.size w (w.alloc (.cells #[.bool false,.slice none 0 0,.slice none 0 0] 91)):=(Below.refl _ _).alloc (Nat.le_refl _) _
  go_enter Tryz.func63,Tryz.ntmps63
  go_wp2_with fail
  refine hc.mono ?_
  rintro e w1 ⟨⟨a,b,rfl,ha,hb⟩,n,rfl⟩
  go_wp2_with fail
  refine (hcp a _ ha).mono ?_
  rintro e w2 ⟨rfl,rfl⟩
  have hd1:=isDecimal_any t ((w.alloc (.cells #[.bool false,.slice none 0 0,.slice none 0 0] 91)).drewN n)
  rw [D1] at hd1
  go_wp2_with fail
  refine hd1.mono ?_
  rintro e w3 ⟨rfl,hb3⟩
  have hB3:Below w.heap.size w w3:=(below_drewN hb0 n).trans (hb3.mono (by simp))
  have hk3:ResBlk w3 w.heap.size false (.slice none 0 0) (.slice none 0 0):=by
   have h:=ResBlk.new w false (.slice none 0 0) (.slice none 0 0)
   exact ResBlk.below (w:=(w.alloc (.cells #[.bool false,.slice none 0 0,.slice none 0 0] 91)).drewN n) h hb3 (by simp)
  have hd2:=isDecimal_any b w3
  rw [hb,D2] at hd2
  have e48:(b.toList==[48])=false:=by rw [ByteArray.toList_eq,hb];exact d48
  have e49:(b.toList==[49])=true:=by rw [ByteArray.toList_eq,hb];exact d49
  have hbs:b.size=c2.length:=by rw [←hb];simp
  have HBS:=Lib.hid hbs
  have HBB:=Lib.hid hb
  clear hb ha hbs
  go_wp2_with fail
  refine hd2.mono ?_
  rintro e w4 ⟨rfl,hb4⟩
  have hB4:Below w.heap.size w w4:=hB3.trans (hb4.mono hB3.size)
  have hk4:=hk3.below hb4 hk3.cells.2.2.2.2.2.2
  clear hd2
  have hset:=three_set hB4 (g:=w.heap.size) (Nat.le_refl _) (.bool false) (.slice none 0 0) (.slice none 0 0)
  obtain ⟨k0,k1,k2,f0,f1,f2,_⟩:=hk4.cells
  clear hd1
  go_wp2
  refine bodyPost_ret (v := .tuple #[.agg #[.bool false,.slice none 0 0,.slice none 0 0],.int .i64 1]) (by simp [results,Tryz.results63,go_sem,k0,k1,k2]) rfl ⟨_,rfl,RatS.zero _ _,hset⟩
set_option maxHeartbeats 4000000 in
set_option maxRecDepth 100000 in
theorem read_badF (s t:ByteArray) (c1 c2:List UInt8) (neg frac:Bool) (w:World)
  (hc:Calls Tryz.prog 122 #[.string s,.string { data:=#[47] }] (w.alloc (.cells #[.bool false,.slice none 0 0,.slice none 0 0] 91)) fun e w'=>(∃ a b:ByteArray,e = .returned (.tuple #[.string a,.string b,.bool frac])∧a.data.toList=c1∧b.data.toList=c2)∧∃ n,w'=(w.alloc (.cells #[.bool false,.slice none 0 0,.slice none 0 0] 91)).drewN n)
  (hcp:∀ (a:ByteArray) (W:World),a.data.toList=c1→Calls Tryz.prog 123 #[.string a,.string { data:=#[45] }] W fun e w'=>e = .returned (.tuple #[.string t,.bool neg])∧W=w')
  (D1:isDec t.data.toList=true) (zb:Bool) (z:(t.toList==[48])=zb) (hn:(neg && zb)=false) (hf:frac=true) (D2:isDec c2=true) (d48:(c2==[48])=false) (d49:(c2==[49])=false) (HLN:Hid (600<t.size∨600<c2.length)) :
  Calls Tryz.prog 63 #[.string s] w (RetRead w ⟨false,0,0⟩ 4):=by
 subst hf
 cases neg<;>cases zb<;>(try cases hn)
 all_goals
  have hb0:Below w.heap.size w (w.alloc (.cells #[.bool false,.slice none 0 0,.slice none 0 0] 91)):=(Below.refl _ _).alloc (Nat.le_refl _) _
  go_enter Tryz.func63,Tryz.ntmps63
  go_wp2_with fail
  refine hc.mono ?_
  rintro e w1 ⟨⟨a,b,rfl,ha,hb⟩,n,rfl⟩
  go_wp2_with fail
  refine (hcp a _ ha).mono ?_
  rintro e w2 ⟨rfl,rfl⟩
  have hd1:=isDecimal_any t ((w.alloc (.cells #[.bool false,.slice none 0 0,.slice none 0 0] 91)).drewN n)
  rw [D1] at hd1
  go_wp2_with fail
  refine hd1.mono ?_
  rintro e w3 ⟨rfl,hb3⟩
  have hB3:Below w.heap.size w w3:=(below_drewN hb0 n).trans (hb3.mono (by simp))
  have hk3:ResBlk w3 w.heap.size false (.slice none 0 0) (.slice none 0 0):=by
   have h:=ResBlk.new w false (.slice none 0 0) (.slice none 0 0)
   exact ResBlk.below (w:=(w.alloc (.cells #[.bool false,.slice none 0 0,.slice none 0 0] 91)).drewN n) h hb3 (by simp)
  have hd2:=isDecimal_any b w3
  rw [hb,D2] at hd2
  have e48:(b.toList==[48])=false:=by rw [ByteArray.toList_eq,hb];exact d48
  have e49:(b.toList==[49])=false:=by rw [ByteArray.toList_eq,hb];exact d49
  have hbs:b.size=c2.length:=by rw [←hb];simp
  have HBS:=Lib.hid hbs
  have HBB:=Lib.hid hb
  clear hb ha hbs
  go_wp2_with fail
  refine hd2.mono ?_
  rintro e w4 ⟨rfl,hb4⟩
  have hB4:Below w.heap.size w w4:=hB3.trans (hb4.mono hB3.size)
  have hk4:=hk3.below hb4 hk3.cells.2.2.2.2.2.2
  clear hd2
  have hmx:decide ((600:Int)<max (t.size:Int) (b.size:Int))=true:=by
   have h:=HBS.out
   have h2:=HLN.out
   simp only [decide_eq_true_eq]
   omega
  have hset:=three_set hB4 (g:=w.heap.size) (Nat.le_refl _) (.bool false) (.slice none 0 0) (.slice none 0 0)
  obtain ⟨k0,k1,k2,f0,f1,f2,_⟩:=hk4.cells
  clear hd1
  go_wp2
  refine bodyPost_ret (v := .tuple #[.agg #[.bool false,.slice none 0 0,.slice none 0 0],.int .i64 4]) (by simp [results,Tryz.results63,go_sem,k0,k1,k2]) rfl ⟨_,rfl,RatS.zero _ _,hset⟩
set_option maxHeartbeats 4000000 in
set_option maxRecDepth 100000 in
theorem read_badG (s t:ByteArray) (c1 c2:List UInt8) (neg frac:Bool) (w:World)
  (hc:Calls Tryz.prog 122 #[.string s,.string { data:=#[47] }] (w.alloc (.cells #[.bool false,.slice none 0 0,.slice none 0 0] 91)) fun e w'=>(∃ a b:ByteArray,e = .returned (.tuple #[.string a,.string b,.bool frac])∧a.data.toList=c1∧b.data.toList=c2)∧∃ n,w'=(w.alloc (.cells #[.bool false,.slice none 0 0,.slice none 0 0] 91)).drewN n)
  (hcp:∀ (a:ByteArray) (W:World),a.data.toList=c1→Calls Tryz.prog 123 #[.string a,.string { data:=#[45] }] W fun e w'=>e = .returned (.tuple #[.string t,.bool neg])∧W=w')
  (D1:isDec t.data.toList=true) (zb:Bool) (z:(t.toList==[48])=zb) (hn:(neg && zb)=false) (hf:frac=false) (d2n:c2=[]) (HLN:Hid (600<t.size∨600<0)) :
  Calls Tryz.prog 63 #[.string s] w (RetRead w ⟨false,0,0⟩ 4):=by
 subst hf
 cases neg<;>cases zb<;>(try cases hn)
 all_goals
  have hb0:Below w.heap.size w (w.alloc (.cells #[.bool false,.slice none 0 0,.slice none 0 0] 91)):=(Below.refl _ _).alloc (Nat.le_refl _) _
  go_enter Tryz.func63,Tryz.ntmps63
  go_wp2_with fail
  refine hc.mono ?_
  rintro e w1 ⟨⟨a,b,rfl,ha,hb⟩,n,rfl⟩
  go_wp2_with fail
  refine (hcp a _ ha).mono ?_
  rintro e w2 ⟨rfl,rfl⟩
  have hd1:=isDecimal_any t ((w.alloc (.cells #[.bool false,.slice none 0 0,.slice none 0 0] 91)).drewN n)
  rw [D1] at hd1
  go_wp2_with fail
  refine hd1.mono ?_
  rintro e w3 ⟨rfl,hb3⟩
  have hB3:Below w.heap.size w w3:=(below_drewN hb0 n).trans (hb3.mono (by simp))
  have hk3:ResBlk w3 w.heap.size false (.slice none 0 0) (.slice none 0 0):=by
   have h:=ResBlk.new w false (.slice none 0 0) (.slice none 0 0)
   exact ResBlk.below (w:=(w.alloc (.cells #[.bool false,.slice none 0 0,.slice none 0 0] 91)).drewN n) h hb3 (by simp)
  have hbs:b.size=0:=by
   have:b.data.toList.length=0:=by rw [hb,d2n];rfl
   simpa using this
  have HBS:=Lib.hid hbs
  clear hb ha hbs
  have hmx:decide ((600:Int)<max (t.size:Int) (b.size:Int))=true:=by
   have h:=HBS.out
   have h2:=HLN.out
   simp only [decide_eq_true_eq]
   omega
  have hset:=three_set hB3 (g:=w.heap.size) (Nat.le_refl _) (.bool false) (.slice none 0 0) (.slice none 0 0)
  obtain ⟨k0,k1,k2,f0,f1,f2,_⟩:=hk3.cells
  clear hd1
  go_wp2
  refine bodyPost_ret (v := .tuple #[.agg #[.bool false,.slice none 0 0,.slice none 0 0],.int .i64 4]) (by simp [results,Tryz.results63,go_sem,k0,k1,k2]) rfl ⟨_,rfl,RatS.zero _ _,hset⟩
set_option maxHeartbeats 4000000 in
set_option maxRecDepth 100000 in
theorem read_whole (s t:ByteArray) (c1 c2:List UInt8) (neg frac:Bool) (w:World)
  (hc:Calls Tryz.prog 122 #[.string s,.string { data:=#[47] }] (w.alloc (.cells #[.bool false,.slice none 0 0,.slice none 0 0] 91)) fun e w'=>(∃ a b:ByteArray,e = .returned (.tuple #[.string a,.string b,.bool frac])∧a.data.toList=c1∧b.data.toList=c2)∧∃ n,w'=(w.alloc (.cells #[.bool false,.slice none 0 0,.slice none 0 0] 91)).drewN n)
  (hcp:∀ (a:ByteArray) (W:World),a.data.toList=c1→Calls Tryz.prog 123 #[.string a,.string { data:=#[45] }] W fun e w'=>e = .returned (.tuple #[.string t,.bool neg])∧W=w')
  (D1:isDec t.data.toList=true) (zb:Bool) (z:(t.toList==[48])=zb) (hn:(neg && zb)=false) (hf:frac=false) (d2n:c2=[]) (HLN:Hid (t.size≤600∧0≤600)) :
  Calls Tryz.prog 63 #[.string s] w (RetRead w ⟨neg,decVal t.data.toList,1⟩ 0):=by
 subst hf
 cases neg<;>cases zb<;>(try cases hn)
 ·have hb0:Below w.heap.size w (w.alloc (.cells #[.bool false,.slice none 0 0,.slice none 0 0] 91)):=(Below.refl _ _).alloc (Nat.le_refl _) _
  go_enter Tryz.func63,Tryz.ntmps63
  go_wp2_with fail
  refine hc.mono ?_
  rintro e w1 ⟨⟨a,b,rfl,ha,hb⟩,n,rfl⟩
  go_wp2_with fail
  refine (hcp a _ ha).mono ?_
  rintro e w2 ⟨rfl,rfl⟩
  have hd1:=isDecimal_any t ((w.alloc (.cells #[.bool false,.slice none 0 0,.slice none 0 0] 91)).drewN n)
  rw [D1] at hd1
  go_wp2_with fail
  refine hd1.mono ?_
  rintro e w3 ⟨rfl,hb3⟩
  have hB3:Below w.heap.size w w3:=(below_drewN hb0 n).trans (hb3.mono (by simp))
  have hk3:ResBlk w3 w.heap.size false (.slice none 0 0) (.slice none 0 0):=by
   have h:=ResBlk.new w false (.slice none 0 0) (.slice none 0 0)
   exact ResBlk.below (w:=(w.alloc (.cells #[.bool false,.slice none 0 0,.slice none 0 0] 91)).drewN n) h hb3 (by simp)
  have hbs:b.size=0:=by
   have:b.data.toList.length=0:=by rw [hb,d2n];rfl
   simpa using this
  have HBS:=Lib.hid hbs
  clear hb ha hbs
  have hmx:decide ((600:Int)<max (t.size:Int) (b.size:Int))=false:=by
   have h:=HBS.out
   have h2:=HLN.out
   simp only [decide_eq_false_iff_not]
   omega
  have hdt:=isDec_digits D1
  have hp1:=parsed_any t w3 hdt (by have:=HLN.out;omega)
  have HP1:=Lib.hid hp1
  clear hd1 hp1 hdt
  go_wp2_with fail
  refine HP1.out.mono ?_
  rintro e w5 ⟨A5,m5,c5,rfl,hn5,hb5⟩
  have hk5:=hk3.below hb5 hk3.cells.2.2.2.2.2.2
  have hB5:Below w.heap.size w w5:=hB3.trans (hb5.mono hB3.size)
  go_wp2_with fail
  refine (naturalOf_any 1 w5 (by omega) (by omega)).mono ?_
  rintro e w6 ⟨A6,m6,c6,rfl,hn6,hb6⟩
  have hk6:=hk5.below hb6 hk5.cells.2.2.2.2.2.2
  have hB6:Below w.heap.size w w6:=hB5.trans (hb6.mono hB5.size)
  obtain ⟨k0,k1,k2,f0,f1,f2,_⟩:=hk6.cells
  have hset:=three_set hB6 (g:=w.heap.size) (Nat.le_refl _) (.bool false) (.slice A5 m5 c5) (.slice A6 m6 c6)
  go_wp2
  refine bodyPost_ret (v := .tuple #[.agg #[.bool false,.slice A5 m5 c5,.slice A6 m6 c6],.int .i64 0]) (by simp [results,Tryz.results63,go_sem,k0,k1,k2]) rfl ⟨_,rfl,⟨A5,m5,c5,A6,m6,c6,rfl,?_,?_⟩,hset⟩
  ·rw [size_set3];exact (hn5.later hb6).res hk6 _ _ _
  ·rw [size_set3];exact hn6.res hk6 _ _ _
 ·have hb0:Below w.heap.size w (w.alloc (.cells #[.bool false,.slice none 0 0,.slice none 0 0] 91)):=(Below.refl _ _).alloc (Nat.le_refl _) _
  go_enter Tryz.func63,Tryz.ntmps63
  go_wp2_with fail
  refine hc.mono ?_
  rintro e w1 ⟨⟨a,b,rfl,ha,hb⟩,n,rfl⟩
  go_wp2_with fail
  refine (hcp a _ ha).mono ?_
  rintro e w2 ⟨rfl,rfl⟩
  have hd1:=isDecimal_any t ((w.alloc (.cells #[.bool false,.slice none 0 0,.slice none 0 0] 91)).drewN n)
  rw [D1] at hd1
  go_wp2_with fail
  refine hd1.mono ?_
  rintro e w3 ⟨rfl,hb3⟩
  have hB3:Below w.heap.size w w3:=(below_drewN hb0 n).trans (hb3.mono (by simp))
  have hk3:ResBlk w3 w.heap.size false (.slice none 0 0) (.slice none 0 0):=by
   have h:=ResBlk.new w false (.slice none 0 0) (.slice none 0 0)
   exact ResBlk.below (w:=(w.alloc (.cells #[.bool false,.slice none 0 0,.slice none 0 0] 91)).drewN n) h hb3 (by simp)
  have hbs:b.size=0:=by
   have:b.data.toList.length=0:=by rw [hb,d2n];rfl
   simpa using this
  have HBS:=Lib.hid hbs
  clear hb ha hbs
  have hmx:decide ((600:Int)<max (t.size:Int) (b.size:Int))=false:=by
   have h:=HBS.out
   have h2:=HLN.out
   simp only [decide_eq_false_iff_not]
   omega
  have hdt:=isDec_digits D1
  have hp1:=parsed_any t w3 hdt (by have:=HLN.out;omega)
  have HP1:=Lib.hid hp1
  clear hd1 hp1 hdt
  go_wp2_with fail
  refine HP1.out.mono ?_
  rintro e w5 ⟨A5,m5,c5,rfl,hn5,hb5⟩
  have hk5:=hk3.below hb5 hk3.cells.2.2.2.2.2.2
  have hB5:Below w.heap.size w w5:=hB3.trans (hb5.mono hB3.size)
  go_wp2_with fail
  refine (naturalOf_any 1 w5 (by omega) (by omega)).mono ?_
  rintro e w6 ⟨A6,m6,c6,rfl,hn6,hb6⟩
  have hk6:=hk5.below hb6 hk5.cells.2.2.2.2.2.2
  have hB6:Below w.heap.size w w6:=hB5.trans (hb6.mono hB5.size)
  obtain ⟨k0,k1,k2,f0,f1,f2,_⟩:=hk6.cells
  have hset:=three_set hB6 (g:=w.heap.size) (Nat.le_refl _) (.bool false) (.slice A5 m5 c5) (.slice A6 m6 c6)
  go_wp2
  refine bodyPost_ret (v := .tuple #[.agg #[.bool false,.slice A5 m5 c5,.slice A6 m6 c6],.int .i64 0]) (by simp [results,Tryz.results63,go_sem,k0,k1,k2]) rfl ⟨_,rfl,⟨A5,m5,c5,A6,m6,c6,rfl,?_,?_⟩,hset⟩
  ·rw [size_set3];exact (hn5.later hb6).res hk6 _ _ _
  ·rw [size_set3];exact hn6.res hk6 _ _ _
 ·have hb0:Below w.heap.size w (w.alloc (.cells #[.bool false,.slice none 0 0,.slice none 0 0] 91)):=(Below.refl _ _).alloc (Nat.le_refl _) _
  go_enter Tryz.func63,Tryz.ntmps63
  go_wp2_with fail
  refine hc.mono ?_
  rintro e w1 ⟨⟨a,b,rfl,ha,hb⟩,n,rfl⟩
  go_wp2_with fail
  refine (hcp a _ ha).mono ?_
  rintro e w2 ⟨rfl,rfl⟩
  have hd1:=isDecimal_any t ((w.alloc (.cells #[.bool false,.slice none 0 0,.slice none 0 0] 91)).drewN n)
  rw [D1] at hd1
  go_wp2_with fail
  refine hd1.mono ?_
  rintro e w3 ⟨rfl,hb3⟩
  have hB3:Below w.heap.size w w3:=(below_drewN hb0 n).trans (hb3.mono (by simp))
  have hk3:ResBlk w3 w.heap.size false (.slice none 0 0) (.slice none 0 0):=by
   have h:=ResBlk.new w false (.slice none 0 0) (.slice none 0 0)
   exact ResBlk.below (w:=(w.alloc (.cells #[.bool false,.slice none 0 0,.slice none 0 0] 91)).drewN n) h hb3 (by simp)
  have hbs:b.size=0:=by
   have:b.data.toList.length=0:=by rw [hb,d2n];rfl
   simpa using this
  have HBS:=Lib.hid hbs
  clear hb ha hbs
  have hmx:decide ((600:Int)<max (t.size:Int) (b.size:Int))=false:=by
   have h:=HBS.out
   have h2:=HLN.out
   simp only [decide_eq_false_iff_not]
   omega
  have hdt:=isDec_digits D1
  have hp1:=parsed_any t w3 hdt (by have:=HLN.out;omega)
  have HP1:=Lib.hid hp1
  clear hd1 hp1 hdt
  go_wp2_with fail
  refine HP1.out.mono ?_
  rintro e w5 ⟨A5,m5,c5,rfl,hn5,hb5⟩
  have hk5:=hk3.below hb5 hk3.cells.2.2.2.2.2.2
  have hB5:Below w.heap.size w w5:=hB3.trans (hb5.mono hB3.size)
  go_wp2_with fail
  refine (naturalOf_any 1 w5 (by omega) (by omega)).mono ?_
  rintro e w6 ⟨A6,m6,c6,rfl,hn6,hb6⟩
  have hk6:=hk5.below hb6 hk5.cells.2.2.2.2.2.2
  have hB6:Below w.heap.size w w6:=hB5.trans (hb6.mono hB5.size)
  obtain ⟨k0,k1,k2,f0,f1,f2,_⟩:=hk6.cells
  have hset:=three_set hB6 (g:=w.heap.size) (Nat.le_refl _) (.bool true) (.slice A5 m5 c5) (.slice A6 m6 c6)
  go_wp2
  refine bodyPost_ret (v := .tuple #[.agg #[.bool true,.slice A5 m5 c5,.slice A6 m6 c6],.int .i64 0]) (by simp [results,Tryz.results63,go_sem,k0,k1,k2]) rfl ⟨_,rfl,⟨A5,m5,c5,A6,m6,c6,rfl,?_,?_⟩,hset⟩
  ·rw [size_set3];exact (hn5.later hb6).res hk6 _ _ _
  ·rw [size_set3];exact hn6.res hk6 _ _ _
end Go.Proofs.YteajibbphcfmeaaGreatDoor
