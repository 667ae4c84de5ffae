/- Contract of read: fractions; all of it. -/
import Derived.Test.YteajibbphcfmeaaGreatDoorTRead
namespace Go.Proofs.YteajibbphcfmeaaGreatDoor
open Go.RowKit Bn
set_option maxHeartbeats 4000000 in
set_option maxRecDepth 100000 in
theorem read_frac (s t:ByteArray) (c1 c2:List UInt8) (neg frac:Bool) (w:World)
  (hc:Calls Tryz.prog 122 #[.string s,.string { data:=#[47] }] (w.alloc (.cells #[.bool false,.slice none 0 0,.slice none 0 0] 91)) fun e w'=>(∃ a b:ByteArray,e = .returned (.tuple #[.string a,.string b,.bool frac])∧a.data.toList=c1∧b.data.toList=c2)∧∃ n,w'=(w.alloc (.cells #[.bool false,.slice none 0 0,.slice none 0 0] 91)).drewN n)
  (hcp:∀ (a:ByteArray) (W:World),a.data.toList=c1→Calls Tryz.prog 123 #[.string a,.string { data:=#[45] }] W fun e w'=>e = .returned (.tuple #[.string t,.bool neg])∧W=w')
  (D1:isDec t.data.toList=true) (zb:Bool) (z:(t.toList==[48])=zb) (hn:(neg && zb)=false) (hT:Tabs w) (hf:frac=true) (D2:isDec c2=true) (d48:(c2==[48])=false) (d49:(c2==[49])=false) (HLN:Hid (t.size≤600∧c2.length≤600)) (HGC:Hid (decide (Nat.gcd (decVal t.data.toList) (decVal c2)=1)=true)) :
  Calls Tryz.prog 63 #[.string s] w (RetRead w ⟨neg,decVal t.data.toList,decVal c2⟩ 0):=by
 subst hf
 cases neg<;>cases zb<;>(try cases hn)
 ·have hb0:Below w.heap.size w (w.alloc (.cells #[.bool false,.slice none 0 0,.slice none 0 0] 91)):=(Below.refl _ _).alloc (Nat.le_refl _) _
  go_enter Tryz.func63,Tryz.ntmps63
  go_wp2_with fail
  refine hc.mono ?_
  rintro e w1 ⟨⟨a,b,rfl,ha,hb⟩,n,rfl⟩
  go_wp2_with fail
  refine (hcp a _ ha).mono ?_
  rintro e w2 ⟨rfl,rfl⟩
  have hd1:=isDecimal_any t ((w.alloc (.cells #[.bool false,.slice none 0 0,.slice none 0 0] 91)).drewN n)
  rw [D1] at hd1
  go_wp2_with fail
  refine hd1.mono ?_
  rintro e w3 ⟨rfl,hb3⟩
  have hB3:Below w.heap.size w w3:=(below_drewN hb0 n).trans (hb3.mono (by simp))
  have hk3:ResBlk w3 w.heap.size false (.slice none 0 0) (.slice none 0 0):=by
   have h:=ResBlk.new w false (.slice none 0 0) (.slice none 0 0)
   exact ResBlk.below (w:=(w.alloc (.cells #[.bool false,.slice none 0 0,.slice none 0 0] 91)).drewN n) h hb3 (by simp)
  have hd2:=isDecimal_any b w3
  rw [hb,D2] at hd2
  have e48:(b.toList==[48])=false:=by rw [ByteArray.toList_eq,hb];exact d48
  have e49:(b.toList==[49])=false:=by rw [ByteArray.toList_eq,hb];exact d49
  have hbs:b.size=c2.length:=by rw [←hb];simp
  have HBS:=Lib.hid hbs
  have HBB:=Lib.hid hb
  clear hb ha hbs
  go_wp2_with fail
  refine hd2.mono ?_
  rintro e w4 ⟨rfl,hb4⟩
  have hB4:Below w.heap.size w w4:=hB3.trans (hb4.mono hB3.size)
  have hk4:=hk3.below hb4 hk3.cells.2.2.2.2.2.2
  clear hd2
  have hmx:decide ((600:Int)<max (t.size:Int) (b.size:Int))=false:=by
   have h:=HBS.out
   have h2:=HLN.out
   simp only [decide_eq_false_iff_not]
   omega
  have hdt:=isDec_digits D1
  have hdb:digits b.data.toList=true:=by rw [HBB.out];exact isDec_digits D2
  have hls:=HLN.out
  have hbz:b.size≤600:=by have:=HBS.out;omega
  have hp1:=parsed_any t w4 hdt (by omega)
  have hp2:=fun W:World=>parsed_any b W hdb (by omega)
  have hq1:t.data.toList.length=t.size:=by simp
  have hq2:b.data.toList.length=b.size:=by simp
  have htz:(digs (decVal t.data.toList)).length≤600:=digs_len_dec hdt (by omega)
  have hbz2:(digs (decVal b.data.toList)).length≤600:=digs_len_dec hdb (by omega)
  have HP1:=Lib.hid hp1
  have HP2:=Lib.hid hp2
  have HTZ:=Lib.hid htz
  have HBZ:=Lib.hid hbz2
  clear hd1 hp1 hdt hdb hp2 htz hbz2 hls hbz hq1 hq2
  go_wp2_with fail
  refine HP1.out.mono ?_
  rintro e w5 ⟨A5,m5,c5,rfl,hn5,hb5⟩
  have hk5:=hk4.below hb5 hk4.cells.2.2.2.2.2.2
  have hB5:Below w.heap.size w w5:=hB4.trans (hb5.mono hB4.size)
  go_wp2_with fail
  refine (HP2.out w5).mono ?_
  rintro e w6 ⟨A6,m6,c6,rfl,hn6,hb6⟩
  have hk6:=hk5.below hb6 hk5.cells.2.2.2.2.2.2
  have hB6:Below w.heap.size w w6:=hB5.trans (hb6.mono hB5.size)
  have hb7:Below w6.heap.size w6 (w6.alloc (.cells #[.bool false,.slice A5 m5 c5,.slice A6 m6 c6] 91)):=(Below.refl _ _).alloc (Nat.le_refl _) _
  have hg:=gcd_any A5 A6 m5 c5 m6 c6 _ _ (w6.alloc (.cells #[.bool false,.slice A5 m5 c5,.slice A6 m6 c6] 91)) ((hT.later hB6).later hb7) ((hn5.later hb6).later hb7) (hn6.later hb7) (by have:=HTZ.out;rw [hn5.len] at this;omega) (by have:=HBZ.out;rw [hn6.len] at this;omega)
  have HG:=Lib.hid hg
  clear hg
  go_wp2_with fail
  refine HG.out.mono ?_
  rintro e w8 ⟨A8,m8,c8,rfl,hn8,hb8⟩
  have ho:=isOne_any A8 m8 c8 _ w8 hn8
  have hk8:=(hk6.below hb7 hk6.cells.2.2.2.2.2.2).below hb8 (by have:=hk6.cells.2.2.2.2.2.2;simp;omega)
  have hB7:Below w.heap.size w (w6.alloc (.cells #[.bool false,.slice A5 m5 c5,.slice A6 m6 c6] 91)):=hB6.trans (hb7.mono hB6.size)
  have hB8:Below w.heap.size w w8:=hB7.trans (hb8.mono hB7.size)
  have hx8:ResBlk w8 w6.heap.size false (.slice A5 m5 c5) (.slice A6 m6 c6):=(ResBlk.new w6 _ _ _).below hb8 (by simp)
  obtain ⟨k0,k1,k2,f0,f1,f2,_⟩:=hk8.cells
  obtain ⟨x0,x1,x2,_,_,_,_⟩:=hx8.cells
  rw [HBB.out,HGC.out] at ho
  go_wp2_with fail
  refine ho.mono ?_
  rintro e w9 ⟨rfl,rfl⟩
  have hset:=three_set hB8 (g:=w.heap.size) (Nat.le_refl _) (.bool false) (.slice A5 m5 c5) (.slice A6 m6 c6)
  go_wp2
  refine bodyPost_ret (v := .tuple #[.agg #[.bool false,.slice A5 m5 c5,.slice A6 m6 c6],.int .i64 0]) (by simp [results,Tryz.results63,go_sem,k0,k1,k2]) rfl ⟨_,rfl,⟨A5,m5,c5,A6,m6,c6,rfl,?_,?_⟩,hset⟩
  ·rw [size_set3];exact (((hn5.later hb6).later hb7).later hb8).res hk8 _ _ _
  ·rw [size_set3]
   have h:=((hn6.later hb7).later hb8).res hk8 (.bool false) (.slice A5 m5 c5) (.slice A6 m6 c6)
   rw [HBB.out] at h;exact h
 ·have hb0:Below w.heap.size w (w.alloc (.cells #[.bool false,.slice none 0 0,.slice none 0 0] 91)):=(Below.refl _ _).alloc (Nat.le_refl _) _
  go_enter Tryz.func63,Tryz.ntmps63
  go_wp2_with fail
  refine hc.mono ?_
  rintro e w1 ⟨⟨a,b,rfl,ha,hb⟩,n,rfl⟩
  go_wp2_with fail
  refine (hcp a _ ha).mono ?_
  rintro e w2 ⟨rfl,rfl⟩
  have hd1:=isDecimal_any t ((w.alloc (.cells #[.bool false,.slice none 0 0,.slice none 0 0] 91)).drewN n)
  rw [D1] at hd1
  go_wp2_with fail
  refine hd1.mono ?_
  rintro e w3 ⟨rfl,hb3⟩
  have hB3:Below w.heap.size w w3:=(below_drewN hb0 n).trans (hb3.mono (by simp))
  have hk3:ResBlk w3 w.heap.size false (.slice none 0 0) (.slice none 0 0):=by
   have h:=ResBlk.new w false (.slice none 0 0) (.slice none 0 0)
   exact ResBlk.below (w:=(w.alloc (.cells #[.bool false,.slice none 0 0,.slice none 0 0] 91)).drewN n) h hb3 (by simp)
  have hd2:=isDecimal_any b w3
  rw [hb,D2] at hd2
  have e48:(b.toList==[48])=false:=by rw [ByteArray.toList_eq,hb];exact d48
  have e49:(b.toList==[49])=false:=by rw [ByteArray.toList_eq,hb];exact d49
  have hbs:b.size=c2.length:=by rw [←hb];simp
  have HBS:=Lib.hid hbs
  have HBB:=Lib.hid hb
  clear hb ha hbs
  go_wp2_with fail
  refine hd2.mono ?_
  rintro e w4 ⟨rfl,hb4⟩
  have hB4:Below w.heap.size w w4:=hB3.trans (hb4.mono hB3.size)
  have hk4:=hk3.below hb4 hk3.cells.2.2.2.2.2.2
  clear hd2
  have hmx:decide ((600:Int)<max (t.size:Int) (b.size:Int))=false:=by
   have h:=HBS.out
   have h2:=HLN.out
   simp only [decide_eq_false_iff_not]
   omega
  have hdt:=isDec_digits D1
  have hdb:digits b.data.toList=true:=by rw [HBB.out];exact isDec_digits D2
  have hls:=HLN.out
  have hbz:b.size≤600:=by have:=HBS.out;omega
  have hp1:=parsed_any t w4 hdt (by omega)
  have hp2:=fun W:World=>parsed_any b W hdb (by omega)
  have hq1:t.data.toList.length=t.size:=by simp
  have hq2:b.data.toList.length=b.size:=by simp
  have htz:(digs (decVal t.data.toList)).length≤600:=digs_len_dec hdt (by omega)
  have hbz2:(digs (decVal b.data.toList)).length≤600:=digs_len_dec hdb (by omega)
  have HP1:=Lib.hid hp1
  have HP2:=Lib.hid hp2
  have HTZ:=Lib.hid htz
  have HBZ:=Lib.hid hbz2
  clear hd1 hp1 hdt hdb hp2 htz hbz2 hls hbz hq1 hq2
  go_wp2_with fail
  refine HP1.out.mono ?_
  rintro e w5 ⟨A5,m5,c5,rfl,hn5,hb5⟩
  have hk5:=hk4.below hb5 hk4.cells.2.2.2.2.2.2
  have hB5:Below w.heap.size w w5:=hB4.trans (hb5.mono hB4.size)
  go_wp2_with fail
  refine (HP2.out w5).mono ?_
  rintro e w6 ⟨A6,m6,c6,rfl,hn6,hb6⟩
  have hk6:=hk5.below hb6 hk5.cells.2.2.2.2.2.2
  have hB6:Below w.heap.size w w6:=hB5.trans (hb6.mono hB5.size)
  have hb7:Below w6.heap.size w6 (w6.alloc (.cells #[.bool false,.slice A5 m5 c5,.slice A6 m6 c6] 91)):=(Below.refl _ _).alloc (Nat.le_refl _) _
  have hg:=gcd_any A5 A6 m5 c5 m6 c6 _ _ (w6.alloc (.cells #[.bool false,.slice A5 m5 c5,.slice A6 m6 c6] 91)) ((hT.later hB6).later hb7) ((hn5.later hb6).later hb7) (hn6.later hb7) (by have:=HTZ.out;rw [hn5.len] at this;omega) (by have:=HBZ.out;rw [hn6.len] at this;omega)
  have HG:=Lib.hid hg
  clear hg
  go_wp2_with fail
  refine HG.out.mono ?_
  rintro e w8 ⟨A8,m8,c8,rfl,hn8,hb8⟩
  have ho:=isOne_any A8 m8 c8 _ w8 hn8
  have hk8:=(hk6.below hb7 hk6.cells.2.2.2.2.2.2).below hb8 (by have:=hk6.cells.2.2.2.2.2.2;simp;omega)
  have hB7:Below w.heap.size w (w6.alloc (.cells #[.bool false,.slice A5 m5 c5,.slice A6 m6 c6] 91)):=hB6.trans (hb7.mono hB6.size)
  have hB8:Below w.heap.size w w8:=hB7.trans (hb8.mono hB7.size)
  have hx8:ResBlk w8 w6.heap.size false (.slice A5 m5 c5) (.slice A6 m6 c6):=(ResBlk.new w6 _ _ _).below hb8 (by simp)
  obtain ⟨k0,k1,k2,f0,f1,f2,_⟩:=hk8.cells
  obtain ⟨x0,x1,x2,_,_,_,_⟩:=hx8.cells
  rw [HBB.out,HGC.out] at ho
  go_wp2_with fail
  refine ho.mono ?_
  rintro e w9 ⟨rfl,rfl⟩
  have hset:=three_set hB8 (g:=w.heap.size) (Nat.le_refl _) (.bool false) (.slice A5 m5 c5) (.slice A6 m6 c6)
  go_wp2
  refine bodyPost_ret (v := .tuple #[.agg #[.bool false,.slice A5 m5 c5,.slice A6 m6 c6],.int .i64 0]) (by simp [results,Tryz.results63,go_sem,k0,k1,k2]) rfl ⟨_,rfl,⟨A5,m5,c5,A6,m6,c6,rfl,?_,?_⟩,hset⟩
  ·rw [size_set3];exact (((hn5.later hb6).later hb7).later hb8).res hk8 _ _ _
  ·rw [size_set3]
   have h:=((hn6.later hb7).later hb8).res hk8 (.bool false) (.slice A5 m5 c5) (.slice A6 m6 c6)
   rw [HBB.out] at h;exact h
 ·have hb0:Below w.heap.size w (w.alloc (.cells #[.bool false,.slice none 0 0,.slice none 0 0] 91)):=(Below.refl _ _).alloc (Nat.le_refl _) _
  go_enter Tryz.func63,Tryz.ntmps63
  go_wp2_with fail
  refine hc.mono ?_
  rintro e w1 ⟨⟨a,b,rfl,ha,hb⟩,n,rfl⟩
  go_wp2_with fail
  refine (hcp a _ ha).mono ?_
  rintro e w2 ⟨rfl,rfl⟩
  have hd1:=isDecimal_any t ((w.alloc (.cells #[.bool false,.slice none 0 0,.slice none 0 0] 91)).drewN n)
  rw [D1] at hd1
  go_wp2_with fail
  refine hd1.mono ?_
  rintro e w3 ⟨rfl,hb3⟩
  have hB3:Below w.heap.size w w3:=(below_drewN hb0 n).trans (hb3.mono (by simp))
  have hk3:ResBlk w3 w.heap.size false (.slice none 0 0) (.slice none 0 0):=by
   have h:=ResBlk.new w false (.slice none 0 0) (.slice none 0 0)
   exact ResBlk.below (w:=(w.alloc (.cells #[.bool false,.slice none 0 0,.slice none 0 0] 91)).drewN n) h hb3 (by simp)
  have hd2:=isDecimal_any b w3
  rw [hb,D2] at hd2
  have e48:(b.toList==[48])=false:=by rw [ByteArray.toList_eq,hb];exact d48
  have e49:(b.toList==[49])=false:=by rw [ByteArray.toList_eq,hb];exact d49
  have hbs:b.size=c2.length:=by rw [←hb];simp
  have HBS:=Lib.hid hbs
  have HBB:=Lib.hid hb
  clear hb ha hbs
  go_wp2_with fail
  refine hd2.mono ?_
  rintro e w4 ⟨rfl,hb4⟩
  have hB4:Below w.heap.size w w4:=hB3.trans (hb4.mono hB3.size)
  have hk4:=hk3.below hb4 hk3.cells.2.2.2.2.2.2
  clear hd2
  have hmx:decide ((600:Int)<max (t.size:Int) (b.size:Int))=false:=by
   have h:=HBS.out
   have h2:=HLN.out
   simp only [decide_eq_false_iff_not]
   omega
  have hdt:=isDec_digits D1
  have hdb:digits b.data.toList=true:=by rw [HBB.out];exact isDec_digits D2
  have hls:=HLN.out
  have hbz:b.size≤600:=by have:=HBS.out;omega
  have hp1:=parsed_any t w4 hdt (by omega)
  have hp2:=fun W:World=>parsed_any b W hdb (by omega)
  have hq1:t.data.toList.length=t.size:=by simp
  have hq2:b.data.toList.length=b.size:=by simp
  have htz:(digs (decVal t.data.toList)).length≤600:=digs_len_dec hdt (by omega)
  have hbz2:(digs (decVal b.data.toList)).length≤600:=digs_len_dec hdb (by omega)
  have HP1:=Lib.hid hp1
  have HP2:=Lib.hid hp2
  have HTZ:=Lib.hid htz
  have HBZ:=Lib.hid hbz2
  clear hd1 hp1 hdt hdb hp2 htz hbz2 hls hbz hq1 hq2
  go_wp2_with fail
  refine HP1.out.mono ?_
  rintro e w5 ⟨A5,m5,c5,rfl,hn5,hb5⟩
  have hk5:=hk4.below hb5 hk4.cells.2.2.2.2.2.2
  have hB5:Below w.heap.size w w5:=hB4.trans (hb5.mono hB4.size)
  go_wp2_with fail
  refine (HP2.out w5).mono ?_
  rintro e w6 ⟨A6,m6,c6,rfl,hn6,hb6⟩
  have hk6:=hk5.below hb6 hk5.cells.2.2.2.2.2.2
  have hB6:Below w.heap.size w w6:=hB5.trans (hb6.mono hB5.size)
  have hb7:Below w6.heap.size w6 (w6.alloc (.cells #[.bool true,.slice A5 m5 c5,.slice A6 m6 c6] 91)):=(Below.refl _ _).alloc (Nat.le_refl _) _
  have hg:=gcd_any A5 A6 m5 c5 m6 c6 _ _ (w6.alloc (.cells #[.bool true,.slice A5 m5 c5,.slice A6 m6 c6] 91)) ((hT.later hB6).later hb7) ((hn5.later hb6).later hb7) (hn6.later hb7) (by have:=HTZ.out;rw [hn5.len] at this;omega) (by have:=HBZ.out;rw [hn6.len] at this;omega)
  have HG:=Lib.hid hg
  clear hg
  go_wp2_with fail
  refine HG.out.mono ?_
  rintro e w8 ⟨A8,m8,c8,rfl,hn8,hb8⟩
  have ho:=isOne_any A8 m8 c8 _ w8 hn8
  have hk8:=(hk6.below hb7 hk6.cells.2.2.2.2.2.2).below hb8 (by have:=hk6.cells.2.2.2.2.2.2;simp;omega)
  have hB7:Below w.heap.size w (w6.alloc (.cells #[.bool true,.slice A5 m5 c5,.slice A6 m6 c6] 91)):=hB6.trans (hb7.mono hB6.size)
  have hB8:Below w.heap.size w w8:=hB7.trans (hb8.mono hB7.size)
  have hx8:ResBlk w8 w6.heap.size true (.slice A5 m5 c5) (.slice A6 m6 c6):=(ResBlk.new w6 _ _ _).below hb8 (by simp)
  obtain ⟨k0,k1,k2,f0,f1,f2,_⟩:=hk8.cells
  obtain ⟨x0,x1,x2,_,_,_,_⟩:=hx8.cells
  rw [HBB.out,HGC.out] at ho
  go_wp2_with fail
  refine ho.mono ?_
  rintro e w9 ⟨rfl,rfl⟩
  have hset:=three_set hB8 (g:=w.heap.size) (Nat.le_refl _) (.bool true) (.slice A5 m5 c5) (.slice A6 m6 c6)
  go_wp2
  refine bodyPost_ret (v := .tuple #[.agg #[.bool true,.slice A5 m5 c5,.slice A6 m6 c6],.int .i64 0]) (by simp [results,Tryz.results63,go_sem,k0,k1,k2]) rfl ⟨_,rfl,⟨A5,m5,c5,A6,m6,c6,rfl,?_,?_⟩,hset⟩
  ·rw [size_set3];exact (((hn5.later hb6).later hb7).later hb8).res hk8 _ _ _
  ·rw [size_set3]
   have h:=((hn6.later hb7).later hb8).res hk8 (.bool true) (.slice A5 m5 c5) (.slice A6 m6 c6)
   rw [HBB.out] at h;exact h
set_option maxHeartbeats 4000000 in
set_option maxRecDepth 100000 in
theorem read_badH (s t:ByteArray) (c1 c2:List UInt8) (neg frac:Bool) (w:World)
  (hc:Calls Tryz.prog 122 #[.string s,.string { data:=#[47] }] (w.alloc (.cells #[.bool false,.slice none 0 0,.slice none 0 0] 91)) fun e w'=>(∃ a b:ByteArray,e = .returned (.tuple #[.string a,.string b,.bool frac])∧a.data.toList=c1∧b.data.toList=c2)∧∃ n,w'=(w.alloc (.cells #[.bool false,.slice none 0 0,.slice none 0 0] 91)).drewN n)
  (hcp:∀ (a:ByteArray) (W:World),a.data.toList=c1→Calls Tryz.prog 123 #[.string a,.string { data:=#[45] }] W fun e w'=>e = .returned (.tuple #[.string t,.bool neg])∧W=w')
  (D1:isDec t.data.toList=true) (zb:Bool) (z:(t.toList==[48])=zb) (hn:(neg && zb)=false) (hT:Tabs w) (hf:frac=true) (D2:isDec c2=true) (d48:(c2==[48])=false) (d49:(c2==[49])=false) (HLN:Hid (t.size≤600∧c2.length≤600)) (HGC:Hid (decide (Nat.gcd (decVal t.data.toList) (decVal c2)=1)=false)) :
  Calls Tryz.prog 63 #[.string s] w (RetRead w ⟨false,0,0⟩ 1):=by
 subst hf
 cases neg<;>cases zb<;>(try cases hn)
 ·have hb0:Below w.heap.size w (w.alloc (.cells #[.bool false,.slice none 0 0,.slice none 0 0] 91)):=(Below.refl _ _).alloc (Nat.le_refl _) _
  go_enter Tryz.func63,Tryz.ntmps63
  go_wp2_with fail
  refine hc.mono ?_
  rintro e w1 ⟨⟨a,b,rfl,ha,hb⟩,n,rfl⟩
  go_wp2_with fail
  refine (hcp a _ ha).mono ?_
  rintro e w2 ⟨rfl,rfl⟩
  have hd1:=isDecimal_any t ((w.alloc (.cells #[.bool false,.slice none 0 0,.slice none 0 0] 91)).drewN n)
  rw [D1] at hd1
  go_wp2_with fail
  refine hd1.mono ?_
  rintro e w3 ⟨rfl,hb3⟩
  have hB3:Below w.heap.size w w3:=(below_drewN hb0 n).trans (hb3.mono (by simp))
  have hk3:ResBlk w3 w.heap.size false (.slice none 0 0) (.slice none 0 0):=by
   have h:=ResBlk.new w false (.slice none 0 0) (.slice none 0 0)
   exact ResBlk.below (w:=(w.alloc (.cells #[.bool false,.slice none 0 0,.slice none 0 0] 91)).drewN n) h hb3 (by simp)
  have hd2:=isDecimal_any b w3
  rw [hb,D2] at hd2
  have e48:(b.toList==[48])=false:=by rw [ByteArray.toList_eq,hb];exact d48
  have e49:(b.toList==[49])=false:=by rw [ByteArray.toList_eq,hb];exact d49
  have hbs:b.size=c2.length:=by rw [←hb];simp
  have HBS:=Lib.hid hbs
  have HBB:=Lib.hid hb
  clear hb ha hbs
  go_wp2_with fail
  refine hd2.mono ?_
  rintro e w4 ⟨rfl,hb4⟩
  have hB4:Below w.heap.size w w4:=hB3.trans (hb4.mono hB3.size)
  have hk4:=hk3.below hb4 hk3.cells.2.2.2.2.2.2
  clear hd2
  have hmx:decide ((600:Int)<max (t.size:Int) (b.size:Int))=false:=by
   have h:=HBS.out
   have h2:=HLN.out
   simp only [decide_eq_false_iff_not]
   omega
  have hdt:=isDec_digits D1
  have hdb:digits b.data.toList=true:=by rw [HBB.out];exact isDec_digits D2
  have hls:=HLN.out
  have hbz:b.size≤600:=by have:=HBS.out;omega
  have hp1:=parsed_any t w4 hdt (by omega)
  have hp2:=fun W:World=>parsed_any b W hdb (by omega)
  have hq1:t.data.toList.length=t.size:=by simp
  have hq2:b.data.toList.length=b.size:=by simp
  have htz:(digs (decVal t.data.toList)).length≤600:=digs_len_dec hdt (by omega)
  have hbz2:(digs (decVal b.data.toList)).length≤600:=digs_len_dec hdb (by omega)
  have HP1:=Lib.hid hp1
  have HP2:=Lib.hid hp2
  have HTZ:=Lib.hid htz
  have HBZ:=Lib.hid hbz2
  clear hd1 hp1 hdt hdb hp2 htz hbz2 hls hbz hq1 hq2
  go_wp2_with fail
  refine HP1.out.mono ?_
  rintro e w5 ⟨A5,m5,c5,rfl,hn5,hb5⟩
  have hk5:=hk4.below hb5 hk4.cells.2.2.2.2.2.2
  have hB5:Below w.heap.size w w5:=hB4.trans (hb5.mono hB4.size)
  go_wp2_with fail
  refine (HP2.out w5).mono ?_
  rintro e w6 ⟨A6,m6,c6,rfl,hn6,hb6⟩
  have hk6:=hk5.below hb6 hk5.cells.2.2.2.2.2.2
  have hB6:Below w.heap.size w w6:=hB5.trans (hb6.mono hB5.size)
  have hb7:Below w6.heap.size w6 (w6.alloc (.cells #[.bool false,.slice A5 m5 c5,.slice A6 m6 c6] 91)):=(Below.refl _ _).alloc (Nat.le_refl _) _
  have hg:=gcd_any A5 A6 m5 c5 m6 c6 _ _ (w6.alloc (.cells #[.bool false,.slice A5 m5 c5,.slice A6 m6 c6] 91)) ((hT.later hB6).later hb7) ((hn5.later hb6).later hb7) (hn6.later hb7) (by have:=HTZ.out;rw [hn5.len] at this;omega) (by have:=HBZ.out;rw [hn6.len] at this;omega)
  have HG:=Lib.hid hg
  clear hg
  go_wp2_with fail
  refine HG.out.mono ?_
  rintro e w8 ⟨A8,m8,c8,rfl,hn8,hb8⟩
  have ho:=isOne_any A8 m8 c8 _ w8 hn8
  have hk8:=(hk6.below hb7 hk6.cells.2.2.2.2.2.2).below hb8 (by have:=hk6.cells.2.2.2.2.2.2;simp;omega)
  have hB7:Below w.heap.size w (w6.alloc (.cells #[.bool false,.slice A5 m5 c5,.slice A6 m6 c6] 91)):=hB6.trans (hb7.mono hB6.size)
  have hB8:Below w.heap.size w w8:=hB7.trans (hb8.mono hB7.size)
  have hx8:ResBlk w8 w6.heap.size false (.slice A5 m5 c5) (.slice A6 m6 c6):=(ResBlk.new w6 _ _ _).below hb8 (by simp)
  obtain ⟨k0,k1,k2,f0,f1,f2,_⟩:=hk8.cells
  obtain ⟨x0,x1,x2,_,_,_,_⟩:=hx8.cells
  rw [HBB.out,HGC.out] at ho
  go_wp2_with fail
  refine ho.mono ?_
  rintro e w9 ⟨rfl,rfl⟩
  have hset:=three_set hB8 (g:=w.heap.size) (Nat.le_refl _) (.bool false) (.slice none 0 0) (.slice none 0 0)
  go_wp2
  refine bodyPost_ret (v := .tuple #[.agg #[.bool false,.slice none 0 0,.slice none 0 0],.int .i64 1]) (by simp [results,Tryz.results63,go_sem,k0,k1,k2]) rfl ⟨_,rfl,RatS.zero _ _,hset⟩
 ·have hb0:Below w.heap.size w (w.alloc (.cells #[.bool false,.slice none 0 0,.slice none 0 0] 91)):=(Below.refl _ _).alloc (Nat.le_refl _) _
  go_enter Tryz.func63,Tryz.ntmps63
  go_wp2_with fail
  refine hc.mono ?_
  rintro e w1 ⟨⟨a,b,rfl,ha,hb⟩,n,rfl⟩
  go_wp2_with fail
  refine (hcp a _ ha).mono ?_
  rintro e w2 ⟨rfl,rfl⟩
  have hd1:=isDecimal_any t ((w.alloc (.cells #[.bool false,.slice none 0 0,.slice none 0 0] 91)).drewN n)
  rw [D1] at hd1
  go_wp2_with fail
  refine hd1.mono ?_
  rintro e w3 ⟨rfl,hb3⟩
  have hB3:Below w.heap.size w w3:=(below_drewN hb0 n).trans (hb3.mono (by simp))
  have hk3:ResBlk w3 w.heap.size false (.slice none 0 0) (.slice none 0 0):=by
   have h:=ResBlk.new w false (.slice none 0 0) (.slice none 0 0)
   exact ResBlk.below (w:=(w.alloc (.cells #[.bool false,.slice none 0 0,.slice none 0 0] 91)).drewN n) h hb3 (by simp)
  have hd2:=isDecimal_any b w3
  rw [hb,D2] at hd2
  have e48:(b.toList==[48])=false:=by rw [ByteArray.toList_eq,hb];exact d48
  have e49:(b.toList==[49])=false:=by rw [ByteArray.toList_eq,hb];exact d49
  have hbs:b.size=c2.length:=by rw [←hb];simp
  have HBS:=Lib.hid hbs
  have HBB:=Lib.hid hb
  clear hb ha hbs
  go_wp2_with fail
  refine hd2.mono ?_
  rintro e w4 ⟨rfl,hb4⟩
  have hB4:Below w.heap.size w w4:=hB3.trans (hb4.mono hB3.size)
  have hk4:=hk3.below hb4 hk3.cells.2.2.2.2.2.2
  clear hd2
  have hmx:decide ((600:Int)<max (t.size:Int) (b.size:Int))=false:=by
   have h:=HBS.out
   have h2:=HLN.out
   simp only [decide_eq_false_iff_not]
   omega
  have hdt:=isDec_digits D1
  have hdb:digits b.data.toList=true:=by rw [HBB.out];exact isDec_digits D2
  have hls:=HLN.out
  have hbz:b.size≤600:=by have:=HBS.out;omega
  have hp1:=parsed_any t w4 hdt (by omega)
  have hp2:=fun W:World=>parsed_any b W hdb (by omega)
  have hq1:t.data.toList.length=t.size:=by simp
  have hq2:b.data.toList.length=b.size:=by simp
  have htz:(digs (decVal t.data.toList)).length≤600:=digs_len_dec hdt (by omega)
  have hbz2:(digs (decVal b.data.toList)).length≤600:=digs_len_dec hdb (by omega)
  have HP1:=Lib.hid hp1
  have HP2:=Lib.hid hp2
  have HTZ:=Lib.hid htz
  have HBZ:=Lib.hid hbz2
  clear hd1 hp1 hdt hdb hp2 htz hbz2 hls hbz hq1 hq2
  go_wp2_with fail
  refine HP1.out.mono ?_
  rintro e w5 ⟨A5,m5,c5,rfl,hn5,hb5⟩
  have hk5:=hk4.below hb5 hk4.cells.2.2.2.2.2.2
  have hB5:Below w.heap.size w w5:=hB4.trans (hb5.mono hB4.size)
  go_wp2_with fail
  refine (HP2.out w5).mono ?_
  rintro e w6 ⟨A6,m6,c6,rfl,hn6,hb6⟩
  have hk6:=hk5.below hb6 hk5.cells.2.2.2.2.2.2
  have hB6:Below w.heap.size w w6:=hB5.trans (hb6.mono hB5.size)
  have hb7:Below w6.heap.size w6 (w6.alloc (.cells #[.bool false,.slice A5 m5 c5,.slice A6 m6 c6] 91)):=(Below.refl _ _).alloc (Nat.le_refl _) _
  have hg:=gcd_any A5 A6 m5 c5 m6 c6 _ _ (w6.alloc (.cells #[.bool false,.slice A5 m5 c5,.slice A6 m6 c6] 91)) ((hT.later hB6).later hb7) ((hn5.later hb6).later hb7) (hn6.later hb7) (by have:=HTZ.out;rw [hn5.len] at this;omega) (by have:=HBZ.out;rw [hn6.len] at this;omega)
  have HG:=Lib.hid hg
  clear hg
  go_wp2_with fail
  refine HG.out.mono ?_
  rintro e w8 ⟨A8,m8,c8,rfl,hn8,hb8⟩
  have ho:=isOne_any A8 m8 c8 _ w8 hn8
  have hk8:=(hk6.below hb7 hk6.cells.2.2.2.2.2.2).below hb8 (by have:=hk6.cells.2.2.2.2.2.2;simp;omega)
  have hB7:Below w.heap.size w (w6.alloc (.cells #[.bool false,.slice A5 m5 c5,.slice A6 m6 c6] 91)):=hB6.trans (hb7.mono hB6.size)
  have hB8:Below w.heap.size w w8:=hB7.trans (hb8.mono hB7.size)
  have hx8:ResBlk w8 w6.heap.size false (.slice A5 m5 c5) (.slice A6 m6 c6):=(ResBlk.new w6 _ _ _).below hb8 (by simp)
  obtain ⟨k0,k1,k2,f0,f1,f2,_⟩:=hk8.cells
  obtain ⟨x0,x1,x2,_,_,_,_⟩:=hx8.cells
  rw [HBB.out,HGC.out] at ho
  go_wp2_with fail
  refine ho.mono ?_
  rintro e w9 ⟨rfl,rfl⟩
  have hset:=three_set hB8 (g:=w.heap.size) (Nat.le_refl _) (.bool false) (.slice none 0 0) (.slice none 0 0)
  go_wp2
  refine bodyPost_ret (v := .tuple #[.agg #[.bool false,.slice none 0 0,.slice none 0 0],.int .i64 1]) (by simp [results,Tryz.results63,go_sem,k0,k1,k2]) rfl ⟨_,rfl,RatS.zero _ _,hset⟩
 ·have hb0:Below w.heap.size w (w.alloc (.cells #[.bool false,.slice none 0 0,.slice none 0 0] 91)):=(Below.refl _ _).alloc (Nat.le_refl _) _
  go_enter Tryz.func63,Tryz.ntmps63
  go_wp2_with fail
  refine hc.mono ?_
  rintro e w1 ⟨⟨a,b,rfl,ha,hb⟩,n,rfl⟩
  go_wp2_with fail
  refine (hcp a _ ha).mono ?_
  rintro e w2 ⟨rfl,rfl⟩
  have hd1:=isDecimal_any t ((w.alloc (.cells #[.bool false,.slice none 0 0,.slice none 0 0] 91)).drewN n)
  rw [D1] at hd1
  go_wp2_with fail
  refine hd1.mono ?_
  rintro e w3 ⟨rfl,hb3⟩
  have hB3:Below w.heap.size w w3:=(below_drewN hb0 n).trans (hb3.mono (by simp))
  have hk3:ResBlk w3 w.heap.size false (.slice none 0 0) (.slice none 0 0):=by
   have h:=ResBlk.new w false (.slice none 0 0) (.slice none 0 0)
   exact ResBlk.below (w:=(w.alloc (.cells #[.bool false,.slice none 0 0,.slice none 0 0] 91)).drewN n) h hb3 (by simp)
  have hd2:=isDecimal_any b w3
  rw [hb,D2] at hd2
  have e48:(b.toList==[48])=false:=by rw [ByteArray.toList_eq,hb];exact d48
  have e49:(b.toList==[49])=false:=by rw [ByteArray.toList_eq,hb];exact d49
  have hbs:b.size=c2.length:=by rw [←hb];simp
  have HBS:=Lib.hid hbs
  have HBB:=Lib.hid hb
  clear hb ha hbs
  go_wp2_with fail
  refine hd2.mono ?_
  rintro e w4 ⟨rfl,hb4⟩
  have hB4:Below w.heap.size w w4:=hB3.trans (hb4.mono hB3.size)
  have hk4:=hk3.below hb4 hk3.cells.2.2.2.2.2.2
  clear hd2
  have hmx:decide ((600:Int)<max (t.size:Int) (b.size:Int))=false:=by
   have h:=HBS.out
   have h2:=HLN.out
   simp only [decide_eq_false_iff_not]
   omega
  have hdt:=isDec_digits D1
  have hdb:digits b.data.toList=true:=by rw [HBB.out];exact isDec_digits D2
  have hls:=HLN.out
  have hbz:b.size≤600:=by have:=HBS.out;omega
  have hp1:=parsed_any t w4 hdt (by omega)
  have hp2:=fun W:World=>parsed_any b W hdb (by omega)
  have hq1:t.data.toList.length=t.size:=by simp
  have hq2:b.data.toList.length=b.size:=by simp
  have htz:(digs (decVal t.data.toList)).length≤600:=digs_len_dec hdt (by omega)
  have hbz2:(digs (decVal b.data.toList)).length≤600:=digs_len_dec hdb (by omega)
  have HP1:=Lib.hid hp1
  have HP2:=Lib.hid hp2
  have HTZ:=Lib.hid htz
  have HBZ:=Lib.hid hbz2
  clear hd1 hp1 hdt hdb hp2 htz hbz2 hls hbz hq1 hq2
  go_wp2_with fail
  refine HP1.out.mono ?_
  rintro e w5 ⟨A5,m5,c5,rfl,hn5,hb5⟩
  have hk5:=hk4.below hb5 hk4.cells.2.2.2.2.2.2
  have hB5:Below w.heap.size w w5:=hB4.trans (hb5.mono hB4.size)
  go_wp2_with fail
  refine (HP2.out w5).mono ?_
  rintro e w6 ⟨A6,m6,c6,rfl,hn6,hb6⟩
  have hk6:=hk5.below hb6 hk5.cells.2.2.2.2.2.2
  have hB6:Below w.heap.size w w6:=hB5.trans (hb6.mono hB5.size)
  have hb7:Below w6.heap.size w6 (w6.alloc (.cells #[.bool true,.slice A5 m5 c5,.slice A6 m6 c6] 91)):=(Below.refl _ _).alloc (Nat.le_refl _) _
  have hg:=gcd_any A5 A6 m5 c5 m6 c6 _ _ (w6.alloc (.cells #[.bool true,.slice A5 m5 c5,.slice A6 m6 c6] 91)) ((hT.later hB6).later hb7) ((hn5.later hb6).later hb7) (hn6.later hb7) (by have:=HTZ.out;rw [hn5.len] at this;omega) (by have:=HBZ.out;rw [hn6.len] at this;omega)
  have HG:=Lib.hid hg
  clear hg
  go_wp2_with fail
  refine HG.out.mono ?_
  rintro e w8 ⟨A8,m8,c8,rfl,hn8,hb8⟩
  have ho:=isOne_any A8 m8 c8 _ w8 hn8
  have hk8:=(hk6.below hb7 hk6.cells.2.2.2.2.2.2).below hb8 (by have:=hk6.cells.2.2.2.2.2.2;simp;omega)
  have hB7:Below w.heap.size w (w6.alloc (.cells #[.bool true,.slice A5 m5 c5,.slice A6 m6 c6] 91)):=hB6.trans (hb7.mono hB6.size)
  have hB8:Below w.heap.size w w8:=hB7.trans (hb8.mono hB7.size)
  have hx8:ResBlk w8 w6.heap.size true (.slice A5 m5 c5) (.slice A6 m6 c6):=(ResBlk.new w6 _ _ _).below hb8 (by simp)
  obtain ⟨k0,k1,k2,f0,f1,f2,_⟩:=hk8.cells
  obtain ⟨x0,x1,x2,_,_,_,_⟩:=hx8.cells
  rw [HBB.out,HGC.out] at ho
  go_wp2_with fail
  refine ho.mono ?_
  rintro e w9 ⟨rfl,rfl⟩
  have hset:=three_set hB8 (g:=w.heap.size) (Nat.le_refl _) (.bool false) (.slice none 0 0) (.slice none 0 0)
  go_wp2
  refine bodyPost_ret (v := .tuple #[.agg #[.bool false,.slice none 0 0,.slice none 0 0],.int .i64 1]) (by simp [results,Tryz.results63,go_sem,k0,k1,k2]) rfl ⟨_,rfl,RatS.zero _ _,hset⟩
set_option maxHeartbeats 1000000 in
theorem read_any (s:ByteArray) (w:World) (hT:Tabs w) (hs:s.size≤4294967296) :
  Calls Tryz.prog 63 #[.string s] w (RetRead w (readQ s.data.toList) (readE s.data.toList)):=by
 have hc:=cut_slash s (w.alloc (.cells #[.bool false,.slice none 0 0,.slice none 0 0] 91)) hs
 have hnf:=cutL_nofrac s.data.toList
 unfold readQ readE topL negL botL fracL
 generalize cutL s.data.toList=C at hc hnf ⊢
 obtain ⟨c1,c2,c3⟩:=C
 dsimp only at hc hnf ⊢
 obtain ⟨t,ht⟩:∃ t:ByteArray,t=⟨(Lib.trimPrefix c1 [45]).toArray⟩:=⟨_,rfl⟩
 have htl:Lib.trimPrefix c1 [45]=t.data.toList:=by rw [ht]
 obtain ⟨neg,hneg⟩:∃ neg,Lib.hasPrefix c1 [45]=neg:=⟨_,rfl⟩
 have hcp:∀ (a:ByteArray) (W:World),a.data.toList=c1→Calls Tryz.prog 123 #[.string a,.string { data:=#[45] }] W fun e w'=>e = .returned (.tuple #[.string t,.bool neg])∧W=w':=by
  intro a W ha
  have h:=Tryz.strings_CutPrefix a ⟨#[45]⟩ W
  have e45:(⟨#[45]⟩:ByteArray).data.toList=[45]:=rfl
  rw [e45,ha,←ht,hneg] at h
  exact h.mono fun _ _ ⟨x,y⟩=>⟨x,y.symm⟩
 rw [htl,hneg]
 clear ht htl hneg
 have hts:t.data.toList.length=t.size:=by simp
 have htz:(t.toList==[48])=decide (t.data.toList=[48]):=by rw [ByteArray.toList_eq,Bool.eq_iff_iff];simp
 generalize htd:t.data.toList=td at hts htz ⊢
 have hE:∀ x,readE' td c2 neg c3=x→x≠0→Calls Tryz.prog 63 #[.string s] w (RetRead w ⟨false,0,0⟩ x)→Calls Tryz.prog 63 #[.string s] w (RetRead w (if readE' td c2 neg c3=0 then ⟨neg,decVal td,if c3=true then decVal c2 else 1⟩ else ⟨false,0,0⟩) (readE' td c2 neg c3)):=by
  intro x hx h0 h
  rw [hx,if_neg h0];exact h
 by_cases D1:isDec td=true
 ·by_cases hz:neg=true∧td=[48]
  ·refine hE 1 (by unfold readE';rw [if_pos (.inr hz)]) (by omega) (read_badB s t c1 c2 neg c3 w hc hcp (by rw [htd];exact D1) (by rw [htz];simpa using hz.2) hz.1)
  ·have hn:(neg && decide (td=[48]))=false:=by
    rw [Bool.eq_false_iff];intro h;simp at h;exact hz h
   have hfirst:¬ (isDec td=false∨(neg=true∧td=[48])):=by
    rintro (h | h)
    ·rw [D1] at h;cases h
    ·exact hz h
   cases c3
   ·have h2n:=hnf rfl
    by_cases hl:600<td.length
    ·refine hE 4 (by unfold readE';rw [if_neg hfirst,if_neg (by simp),if_pos (.inl hl)]) (by omega) (read_badG s t c1 c2 neg false w hc hcp (by rw [htd];exact D1) _ htz hn rfl h2n (.inl (by omega)))
    ·have hv:readE' td c2 neg false=0:=by unfold readE';rw [if_neg hfirst,if_neg (by simp),if_neg (by rw [h2n];simp;omega),if_neg (by simp)]
     rw [hv,if_pos rfl]
     have h:=read_whole s t c1 c2 neg false w hc hcp (by rw [htd];exact D1) _ htz hn rfl h2n ⟨by omega,by omega⟩
     rw [htd] at h
     simpa using h
   ·by_cases D2:isDec c2=true
    ·by_cases h48:c2=[48]
     ·refine hE 1 (by unfold readE';rw [if_neg hfirst,if_pos ⟨rfl,.inr (.inl h48)⟩]) (by omega) (read_badD s t c1 c2 neg true w hc hcp (by rw [htd];exact D1) _ htz hn (c2==[49]) rfl D2 (by simpa using h48) rfl)
     ·have d48:(c2==[48])=false:=by simpa using h48
      by_cases h49:c2=[49]
      ·refine hE 1 (by unfold readE';rw [if_neg hfirst,if_pos ⟨rfl,.inr (.inr h49)⟩]) (by omega) (read_badE s t c1 c2 neg true w hc hcp (by rw [htd];exact D1) _ htz hn rfl D2 d48 (by simpa using h49))
      ·have d49:(c2==[49])=false:=by simpa using h49
       have hsec:¬ (true=true∧(isDec c2=false∨c2=[48]∨c2=[49])):=by
        rintro ⟨_,h | h | h⟩
        ·rw [D2] at h;cases h
        ·exact h48 h
        ·exact h49 h
       by_cases hl:600<td.length∨600<c2.length
       ·refine hE 4 (by unfold readE';rw [if_neg hfirst,if_neg hsec,if_pos hl]) (by omega) (read_badF s t c1 c2 neg true w hc hcp (by rw [htd];exact D1) _ htz hn rfl D2 d48 d49 (by unfold Hid;omega))
       ·by_cases hg:Nat.gcd (decVal td) (decVal c2)=1
        ·have hv:readE' td c2 neg true=0:=by unfold readE';rw [if_neg hfirst,if_neg hsec,if_neg hl,if_neg (by simp [hg])]
         rw [hv,if_pos rfl]
         have h:=read_frac s t c1 c2 neg true w hc hcp (by rw [htd];exact D1) _ htz hn hT rfl D2 d48 d49 (by unfold Hid;omega) (by unfold Hid;rw [htd];simpa using hg)
         rw [htd] at h
         simpa using h
        ·refine hE 1 (by unfold readE';rw [if_neg hfirst,if_neg hsec,if_neg hl,if_pos ⟨rfl,hg⟩]) (by omega) (read_badH s t c1 c2 neg true w hc hcp (by rw [htd];exact D1) _ htz hn hT rfl D2 d48 d49 (by unfold Hid;omega) (by unfold Hid;rw [htd];simpa using hg))
    ·have D2':isDec c2=false:=by simpa using D2
     refine hE 1 (by unfold readE';rw [if_neg hfirst,if_pos ⟨rfl,.inl D2'⟩]) (by omega) (read_badC s t c1 c2 neg true w hc hcp (by rw [htd];exact D1) _ htz hn (c2==[48]) (c2==[49]) rfl D2' rfl rfl)
 ·have D1':isDec td=false:=by simpa using D1
  refine hE 1 (by unfold readE';rw [if_pos (.inl D1')]) (by omega) (read_badA s t c1 c2 neg c3 w hc hcp (by rw [htd];exact D1'))
end Go.Proofs.YteajibbphcfmeaaGreatDoor
