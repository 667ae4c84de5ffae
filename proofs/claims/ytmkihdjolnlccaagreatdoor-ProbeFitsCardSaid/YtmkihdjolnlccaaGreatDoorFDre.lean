/- Contract of package rational's Read. -/
import Derived.Test.YtmkihdjolnlccaaGreatDoorFDpu
import Derived.Test.YtmkihdjolnlccaaGreatDoorFRb3
import Derived.Test.YtmkihdjolnlccaaGreatDoorFRat4
import Derived.Test.YtmkihdjolnlccaaGreatDoorFRead2
import Derived.Test.YtmkihdjolnlccaaGreatDoorFShelf
namespace Go.Proofs.YtmkihdjolnlccaaGreatDoor
open Go.RowKit Dn
def RetReadD (w:World) (q:Q) (x:Int) (e:Ending) (w':World):Prop:=∃ v,e = .returned (.tuple #[v,.int .i64 x])∧RatD w' w'.heap.size v q∧Below w.heap.size w w'
theorem RatD.zero (w:World) (B:Nat):RatD w B (.agg #[.bool false,.slice none 0 0,.slice none 0 0]) ⟨false,0,0⟩:=⟨none,0,0,none,0,0,rfl,NatD.zero _ _,NatD.zero _ _⟩
theorem decVal_one:decVal [49]=1:=by decide
set_option maxHeartbeats 2000000 in
set_option maxRecDepth 100000 in
theorem dread_any (s:ByteArray) (w:World) (hT:Tabs w) (hs:s.size≤4294967296) :
  Calls Tryz.prog 160 #[.string s] w (RetReadD w (readQ s.data.toList) (readE s.data.toList)):=by
 have hb0:Below w.heap.size w (w.alloc (.cells #[.bool false,.slice none 0 0,.slice none 0 0] 142)):=(Below.refl _ _).alloc (Nat.le_refl _) _
 have hk0:=ResBlD.new w false (.slice none 0 0) (.slice none 0 0)
 have hch:=Lib.hid (check_any s _ (hT.later hb0) hs)
 have HB0:=Lib.hid hb0
 have HK0:=Lib.hid hk0
 clear hb0 hk0
 by_cases hx:readE s.data.toList=0
 ·obtain ⟨d1,d2,_,d4⟩:=readE_zero hx
  have hq:readQ s.data.toList=⟨negL s.data.toList,decVal (topL s.data.toList),if fracL s.data.toList then decVal (botL s.data.toList) else 1⟩:=by unfold readQ;rw [if_pos hx]
  rw [hq]
  rw [hx] at hch ⊢
  have hcut:=fun W=>cut_slash s W hs
  unfold topL negL botL fracL at *
  clear hx hq
  generalize cutL s.data.toList=C at *
  obtain ⟨c1,c2,c3⟩:=C
  dsimp only at *
  obtain ⟨t,ht⟩:∃ t:ByteArray,t=⟨(Lib.trimPrefix c1 [45]).toArray⟩:=⟨_,rfl⟩
  have htl:Lib.trimPrefix c1 [45]=t.data.toList:=by rw [ht]
  obtain ⟨neg,hneg⟩:∃ neg,Lib.hasPrefix c1 [45]=neg:=⟨_,rfl⟩
  have hcp:∀ (a:ByteArray) (W:World),a.data.toList=c1→Calls Tryz.prog 178 #[.string a,.string { data:=#[45] }] W fun e w'=>e = .returned (.tuple #[.string t,.bool neg])∧W=w':=by
   intro a W ha
   have h:=Tryz.strings_CutPrefix a ⟨#[45]⟩ W
   have e45:(⟨#[45]⟩:ByteArray).data.toList=[45]:=rfl
   rw [e45,ha,←ht,hneg] at h
   exact h.mono fun _ _ ⟨x,y⟩=>⟨x,y.symm⟩
  rw [htl,hneg]
  rw [htl] at d1 d2
  have hts:t.data.toList.length=t.size:=by simp
  have hp1:=Lib.hid (fun W=>dparsed_any t W (isDec_digits d1) (by omega))
  have HCP:=Lib.hid hcp
  have HCUT:=Lib.hid hcut
  clear ht htl hneg hcp hcut d1 d2 hts
  cases c3
  ·have hp2:Hid (∀ W,Calls Tryz.prog 213 #[.string { data:=#[49] }] W (RetD W 1)):=fun W=>by
    have h:=dparsed_any ⟨#[49]⟩ W (by decide) (by decide)
    have e:decVal (⟨#[49]⟩:ByteArray).data.toList=1:=decVal_one
    rwa [e] at h
   clear d4
   go_enter Tryz.func160,Tryz.ntmps160
   go_wp2_with fail
   refine hch.out.mono ?_
   rintro e w1 ⟨rfl,hb1⟩
   go_wp2_with fail
   refine (HCUT.out w1).mono ?_
   rintro e w2 ⟨⟨a,b,rfl,ha,hbb⟩,nd,rfl⟩
   have hb2:=below_drewN hb1 nd
   clear hb1 hbb
   generalize w1.drewN nd=w2 at *
   go_wp2_with fail
   refine (HCP.out a _ ha).mono ?_
   rintro e w3 ⟨rfl,rfl⟩
   clear ha
   go_wp2_with fail
   refine (hp1.out _).mono ?_
   rintro e w4 ⟨A4,m4,c4,rfl,hn4,hb4⟩
   go_wp2_with fail
   refine (hp2.out _).mono ?_
   rintro e w5 ⟨A5,m5,c5,rfl,hn5,hb5⟩
   have hk5:=((HK0.out.below hb2 HK0.out.cells.2.2.2.2.2.2).below hb4 (Nat.lt_of_lt_of_le HK0.out.cells.2.2.2.2.2.2 hb2.size)).below hb5 (Nat.lt_of_lt_of_le (Nat.lt_of_lt_of_le HK0.out.cells.2.2.2.2.2.2 hb2.size) hb4.size)
   have s0:=HB0.out.size
   have s2:=hb2.size
   have s4:=hb4.size
   have hB5:Below w.heap.size w w5:=((HB0.out.trans (hb2.mono s0)).trans (hb4.mono (Nat.le_trans s0 s2))).trans (hb5.mono (Nat.le_trans (Nat.le_trans s0 s2) s4))
   obtain ⟨k0,k1,k2,f0,f1,f2,_⟩:=hk5.cells
   have hset:=three_set hB5 (g:=w.heap.size) (Nat.le_refl _) (.bool neg) (.slice A4 m4 c4) (.slice A5 m5 c5)
   have hn4':=hn4.later hb5
   clear s0 s2 s4 hb2 hb4 hb5 hn4
   go_wp2
   refine bodyPost_ret (v := .tuple #[.agg #[.bool neg,.slice A4 m4 c4,.slice A5 m5 c5],.int .i64 0]) (by simp [results,Tryz.results160,go_sem,k0,k1,k2]) rfl ⟨_,rfl,⟨A4,m4,c4,A5,m5,c5,rfl,?_,?_⟩,hset⟩
   ·rw [size_set3];exact hn4'.res hk5 _ _ _
   ·rw [size_set3];exact hn5.res hk5 _ _ _
  ·obtain ⟨d5,_,_,d6,_⟩:=d4 rfl
   have hp2:Hid (∀ (b:ByteArray) (W:World),b.data.toList=c2→Calls Tryz.prog 213 #[.string b] W (RetD W (decVal c2))):=fun b W hb=>by
    have hbl:b.data.toList.length=b.size:=by simp
    have h:=dparsed_any b W (by rw [hb];exact isDec_digits d5) (by rw [hb] at hbl;omega)
    rwa [hb] at h
   clear d4 d5 d6
   go_enter Tryz.func160,Tryz.ntmps160
   go_wp2_with fail
   refine hch.out.mono ?_
   rintro e w1 ⟨rfl,hb1⟩
   go_wp2_with fail
   refine (HCUT.out w1).mono ?_
   rintro e w2 ⟨⟨a,b,rfl,ha,hbb⟩,nd,rfl⟩
   have hb2:=below_drewN hb1 nd
   have HBB:=Lib.hid hbb
   clear hb1 hbb
   generalize w1.drewN nd=w2 at *
   go_wp2_with fail
   refine (HCP.out a _ ha).mono ?_
   rintro e w3 ⟨rfl,rfl⟩
   clear ha
   go_wp2_with fail
   refine (hp1.out _).mono ?_
   rintro e w4 ⟨A4,m4,c4,rfl,hn4,hb4⟩
   go_wp2_with fail
   refine (hp2.out b _ HBB.out).mono ?_
   rintro e w5 ⟨A5,m5,c5,rfl,hn5,hb5⟩
   have hk5:=((HK0.out.below hb2 HK0.out.cells.2.2.2.2.2.2).below hb4 (Nat.lt_of_lt_of_le HK0.out.cells.2.2.2.2.2.2 hb2.size)).below hb5 (Nat.lt_of_lt_of_le (Nat.lt_of_lt_of_le HK0.out.cells.2.2.2.2.2.2 hb2.size) hb4.size)
   have s0:=HB0.out.size
   have s2:=hb2.size
   have s4:=hb4.size
   have hB5:Below w.heap.size w w5:=((HB0.out.trans (hb2.mono s0)).trans (hb4.mono (Nat.le_trans s0 s2))).trans (hb5.mono (Nat.le_trans (Nat.le_trans s0 s2) s4))
   obtain ⟨k0,k1,k2,f0,f1,f2,_⟩:=hk5.cells
   have hset:=three_set hB5 (g:=w.heap.size) (Nat.le_refl _) (.bool neg) (.slice A4 m4 c4) (.slice A5 m5 c5)
   have hn4':=hn4.later hb5
   clear s0 s2 s4 hb2 hb4 hb5 hn4
   go_wp2
   refine bodyPost_ret (v := .tuple #[.agg #[.bool neg,.slice A4 m4 c4,.slice A5 m5 c5],.int .i64 0]) (by simp [results,Tryz.results160,go_sem,k0,k1,k2]) rfl ⟨_,rfl,⟨A4,m4,c4,A5,m5,c5,rfl,?_,?_⟩,hset⟩
   ·rw [size_set3];exact hn4'.res hk5 _ _ _
   ·rw [size_set3];exact hn5.res hk5 _ _ _
 ·have hq:readQ s.data.toList=⟨false,0,0⟩:=by unfold readQ;rw [if_neg hx]
  rw [hq]
  generalize readE s.data.toList=x at *
  have d1:(x==0)=false:=by simpa using hx
  have d2:(x != 0)=true:=by simpa using hx
  clear hx hq
  go_enter Tryz.func160,Tryz.ntmps160
  go_wp2_with fail
  refine hch.out.mono ?_
  rintro e w1 ⟨rfl,hb1⟩
  have hk1:=HK0.out.below hb1 HK0.out.cells.2.2.2.2.2.2
  have hB1:=HB0.out.trans (hb1.mono HB0.out.size)
  obtain ⟨k0,k1,k2,f0,f1,f2,_⟩:=hk1.cells
  have hset:=three_set hB1 (g:=w.heap.size) (Nat.le_refl _) (.bool false) (.slice none 0 0) (.slice none 0 0)
  clear hb1
  go_wp2
  refine bodyPost_ret (v := .tuple #[.agg #[.bool false,.slice none 0 0,.slice none 0 0],.int .i64 x]) (by simp [results,Tryz.results160,go_sem,k0,k1,k2]) rfl ⟨_,rfl,RatD.zero _ _,hset⟩
set_option maxHeartbeats 4000000 in
set_option maxRecDepth 100000 in
theorem dratOver_any (p q:Q) (A1 A2 A3 A4:Option Addr) (n1 c1 n2 c2 n3 c3 n4 c4:Nat) (w:World) (hT:Tabs w)
  (h1:NatD w w.heap.size A1 n1 c1 p.top) (h2:NatD w w.heap.size A2 n2 c2 p.bot) (h3:NatD w w.heap.size A3 n3 c3 q.top) (h4:NatD w w.heap.size A4 n4 c4 q.bot)
  (k1:n1≤268435456) (k2:n2≤268435456) (k3:n3≤268435456) (k4:n4≤268435456) :
  Calls Tryz.prog 94 #[.agg #[.bool p.neg,.slice A1 n1 c1,.slice A2 n2 c2],.agg #[.bool q.neg,.slice A3 n3 c3,.slice A4 n4 c4]] w (RetRatD w (lowQ (p.neg != q.neg) (p.top*q.bot) (p.bot*q.top))):=by
 go_enter Tryz.func94,Tryz.ntmps94
 go_wp2_with fail
 have hb3:Below w.heap.size w (((w.alloc (.cells #[.bool p.neg,.slice A1 n1 c1,.slice A2 n2 c2] 142)).alloc (.cells #[.bool q.neg,.slice A3 n3 c3,.slice A4 n4 c4] 142)).alloc (.cells #[.bool false,.slice none 0 0,.slice none 0 0] 142)):=
  (((Below.refl _ _).alloc (Nat.le_refl _) _).alloc (by simp) _).alloc (by simp;omega) _
 have hx0:ResBlD (((w.alloc (.cells #[.bool p.neg,.slice A1 n1 c1,.slice A2 n2 c2] 142)).alloc (.cells #[.bool q.neg,.slice A3 n3 c3,.slice A4 n4 c4] 142)).alloc (.cells #[.bool false,.slice none 0 0,.slice none 0 0] 142)) w.heap.size p.neg (.slice A1 n1 c1) (.slice A2 n2 c2):=
  (((ResBlD.new w _ _ _).below ((Below.refl _ _).alloc (Nat.le_refl _) _) (by simp))).below ((Below.refl _ _).alloc (Nat.le_refl _) _) (by simp;omega)
 have hx1:ResBlD (((w.alloc (.cells #[.bool p.neg,.slice A1 n1 c1,.slice A2 n2 c2] 142)).alloc (.cells #[.bool q.neg,.slice A3 n3 c3,.slice A4 n4 c4] 142)).alloc (.cells #[.bool false,.slice none 0 0,.slice none 0 0] 142)) (w.heap.size+1) q.neg (.slice A3 n3 c3) (.slice A4 n4 c4):=by
  have h:=(ResBlD.new (w.alloc (.cells #[.bool p.neg,.slice A1 n1 c1,.slice A2 n2 c2] 142)) q.neg (.slice A3 n3 c3) (.slice A4 n4 c4)).below ((Below.refl _ _).alloc (Nat.le_refl _) (.cells #[.bool false,.slice none 0 0,.slice none 0 0] 142)) (by simp)
  simpa using h
 have hx2:ResBlD (((w.alloc (.cells #[.bool p.neg,.slice A1 n1 c1,.slice A2 n2 c2] 142)).alloc (.cells #[.bool q.neg,.slice A3 n3 c3,.slice A4 n4 c4] 142)).alloc (.cells #[.bool false,.slice none 0 0,.slice none 0 0] 142)) (w.heap.size+1+1) false (.slice none 0 0) (.slice none 0 0):=by
  have h:=ResBlD.new ((w.alloc (.cells #[.bool p.neg,.slice A1 n1 c1,.slice A2 n2 c2] 142)).alloc (.cells #[.bool q.neg,.slice A3 n3 c3,.slice A4 n4 c4] 142)) false (.slice none 0 0) (.slice none 0 0)
  simpa using h
 generalize (((w.alloc (.cells #[.bool p.neg,.slice A1 n1 c1,.slice A2 n2 c2] 142)).alloc (.cells #[.bool q.neg,.slice A3 n3 c3,.slice A4 n4 c4] 142)).alloc (.cells #[.bool false,.slice none 0 0,.slice none 0 0] 142))=w3 at *
 obtain ⟨a0,a1,a2,_,_,_,al⟩:=hx0.cells
 obtain ⟨b0,b1,b2,_,_,_,bl⟩:=hx1.cells
 have hb3d:Below w.heap.size w w3.drew:=hb3.drew
 have ht1:=dtimes_nat A1 A4 n1 c1 n4 c4 p.top q.bot w3.drew (h1.later hb3d) (h4.later hb3d) (by omega) (by omega)
 have hx2d:ResBlD w3.drew (w.heap.size+1+1) false (.slice none 0 0) (.slice none 0 0):=hx2
 have cl:w.heap.size+1+1<w3.drew.heap.size:=hx2d.cells.2.2.2.2.2.2
 have HT1:=Lib.hid ht1
 clear ht1
 go_region_held3 (fun w'=>w'.cell? ⟨w.heap.size,0,none⟩=some (.bool p.neg)∧w'.cell? ⟨w.heap.size,1,none⟩=some (.slice A1 n1 c1)∧w'.cell? ⟨w.heap.size,2,none⟩=some (.slice A2 n2 c2)∧w'.cell? ⟨w.heap.size+1,0,none⟩=some (.bool q.neg)∧w'.cell? ⟨w.heap.size+1,1,none⟩=some (.slice A3 n3 c3)∧w'.cell? ⟨w.heap.size+1,2,none⟩=some (.slice A4 n4 c4))
  (first | exact ⟨a0,a1,a2,b0,b1,b2⟩ | exact ⟨((hb5.cell (p:=⟨w.heap.size,0,none⟩) al).trans a0),((hb5.cell (p:=⟨w.heap.size,1,none⟩) al).trans a1),((hb5.cell (p:=⟨w.heap.size,2,none⟩) al).trans a2),((hb5.cell (p:=⟨w.heap.size+1,0,none⟩) bl).trans b0),((hb5.cell (p:=⟨w.heap.size+1,1,none⟩) bl).trans b1),((hb5.cell (p:=⟨w.heap.size+1,2,none⟩) bl).trans b2)⟩ | exact ⟨((hb6.cell (p:=⟨w.heap.size,0,none⟩) (al6)).trans ((hb5.cell (p:=⟨w.heap.size,0,none⟩) al).trans a0)),((hb6.cell (p:=⟨w.heap.size,1,none⟩) (al6)).trans ((hb5.cell (p:=⟨w.heap.size,1,none⟩) al).trans a1)),((hb6.cell (p:=⟨w.heap.size,2,none⟩) (al6)).trans ((hb5.cell (p:=⟨w.heap.size,2,none⟩) al).trans a2)),((hb6.cell (p:=⟨w.heap.size+1,0,none⟩) (bl6)).trans ((hb5.cell (p:=⟨w.heap.size+1,0,none⟩) bl).trans b0)),((hb6.cell (p:=⟨w.heap.size+1,1,none⟩) (bl6)).trans ((hb5.cell (p:=⟨w.heap.size+1,1,none⟩) bl).trans b1)),((hb6.cell (p:=⟨w.heap.size+1,2,none⟩) (bl6)).trans ((hb5.cell (p:=⟨w.heap.size+1,2,none⟩) bl).trans b2))⟩ | exact ⟨((hb7.cell (p:=⟨w.heap.size,0,none⟩) (al7)).trans ((hb6.cell (p:=⟨w.heap.size,0,none⟩) (al6)).trans ((hb5.cell (p:=⟨w.heap.size,0,none⟩) al).trans a0))),((hb7.cell (p:=⟨w.heap.size,1,none⟩) (al7)).trans ((hb6.cell (p:=⟨w.heap.size,1,none⟩) (al6)).trans ((hb5.cell (p:=⟨w.heap.size,1,none⟩) al).trans a1))),((hb7.cell (p:=⟨w.heap.size,2,none⟩) (al7)).trans ((hb6.cell (p:=⟨w.heap.size,2,none⟩) (al6)).trans ((hb5.cell (p:=⟨w.heap.size,2,none⟩) al).trans a2))),((hb7.cell (p:=⟨w.heap.size+1,0,none⟩) (bl7)).trans ((hb6.cell (p:=⟨w.heap.size+1,0,none⟩) (bl6)).trans ((hb5.cell (p:=⟨w.heap.size+1,0,none⟩) bl).trans b0))),((hb7.cell (p:=⟨w.heap.size+1,1,none⟩) (bl7)).trans ((hb6.cell (p:=⟨w.heap.size+1,1,none⟩) (bl6)).trans ((hb5.cell (p:=⟨w.heap.size+1,1,none⟩) bl).trans b1))),((hb7.cell (p:=⟨w.heap.size+1,2,none⟩) (bl7)).trans ((hb6.cell (p:=⟨w.heap.size+1,2,none⟩) (bl6)).trans ((hb5.cell (p:=⟨w.heap.size+1,2,none⟩) bl).trans b2)))⟩ | exact ⟨((far3 _ _ _ _ (by dsimp only;omega)).trans ((hb7.cell (p:=⟨w.heap.size,0,none⟩) (al7)).trans ((hb6.cell (p:=⟨w.heap.size,0,none⟩) (al6)).trans ((hb5.cell (p:=⟨w.heap.size,0,none⟩) al).trans a0)))),((far3 _ _ _ _ (by dsimp only;omega)).trans ((hb7.cell (p:=⟨w.heap.size,1,none⟩) (al7)).trans ((hb6.cell (p:=⟨w.heap.size,1,none⟩) (al6)).trans ((hb5.cell (p:=⟨w.heap.size,1,none⟩) al).trans a1)))),((far3 _ _ _ _ (by dsimp only;omega)).trans ((hb7.cell (p:=⟨w.heap.size,2,none⟩) (al7)).trans ((hb6.cell (p:=⟨w.heap.size,2,none⟩) (al6)).trans ((hb5.cell (p:=⟨w.heap.size,2,none⟩) al).trans a2)))),((far3 _ _ _ _ (by dsimp only;omega)).trans ((hb7.cell (p:=⟨w.heap.size+1,0,none⟩) (bl7)).trans ((hb6.cell (p:=⟨w.heap.size+1,0,none⟩) (bl6)).trans ((hb5.cell (p:=⟨w.heap.size+1,0,none⟩) bl).trans b0)))),((far3 _ _ _ _ (by dsimp only;omega)).trans ((hb7.cell (p:=⟨w.heap.size+1,1,none⟩) (bl7)).trans ((hb6.cell (p:=⟨w.heap.size+1,1,none⟩) (bl6)).trans ((hb5.cell (p:=⟨w.heap.size+1,1,none⟩) bl).trans b1)))),((far3 _ _ _ _ (by dsimp only;omega)).trans ((hb7.cell (p:=⟨w.heap.size+1,2,none⟩) (bl7)).trans ((hb6.cell (p:=⟨w.heap.size+1,2,none⟩) (bl6)).trans ((hb5.cell (p:=⟨w.heap.size+1,2,none⟩) bl).trans b2))))⟩)
  (first
   |(go_at_call_of 163 (Value.slice A1 n1 c1);refine (HT1.out).mono ?_;rintro e w4 ⟨A5,m5,c5,rfl,hn5,hb5⟩;have al6:=Nat.lt_of_lt_of_le al hb5.size;have bl6:=Nat.lt_of_lt_of_le bl hb5.size)
   |(go_at_call_of 163 (Value.slice A2 n2 c2);refine (dtimes_nat A2 A3 n2 c2 n3 c3 p.bot q.top w4 ((h2.later hb3d).later hb5) ((h3.later hb3d).later hb5) (by omega) (by omega)).mono ?_;rintro e w6 ⟨A6,m6,c6,rfl,hn6,hb6⟩;have al7:=Nat.lt_of_lt_of_le al6 hb6.size;have bl7:=Nat.lt_of_lt_of_le bl6 hb6.size)
   |(go_at_call 162;refine (dlowest_any _ A5 A6 m5 c5 m6 c6 _ _ w6 (((hT.later hb3d).later hb5).later hb6) (hn5.later hb6) hn6 (by have:=dtimes_len hn5 (Nat.le_of_eq h1.len) (Nat.le_of_eq h4.len);omega) (by have:=dtimes_len hn6 (Nat.le_of_eq h2.len) (Nat.le_of_eq h3.len);omega)).mono ?_;rintro e w7 ⟨v,rfl,⟨A7,m7,c7,A8,m8,c8,rfl,h7,h8⟩,hb7⟩;have hk7:=((hx2d.below hb5 cl).below hb6 (Nat.lt_of_lt_of_le cl hb5.size)).below hb7 (Nat.lt_of_lt_of_le (Nat.lt_of_lt_of_le cl hb5.size) hb6.size);obtain ⟨e0,e1,e2,g0,g1,g2,gl⟩:=hk7.cells))
 go_wp2_with fail
 have hb7all:Below w.heap.size w w7:=by
  have s5:=hb3d.size
  have s6:=hb5.size
  have s7:=hb6.size
  exact ((hb3d.trans (hb5.mono s5)).trans (hb6.mono (by omega))).trans (hb7.mono (by omega))
 have hset:=three_set hb7all (g:=w.heap.size+1+1) (by omega) (.bool (lowQ (!p.neg==q.neg) (p.top*q.bot) (p.bot*q.top)).neg) (.slice A7 m7 c7) (.slice A8 m8 c8)
 have hne:(!p.neg==q.neg)=(p.neg != q.neg):=by cases p.neg<;>cases q.neg<;>rfl
 refine bodyPost_ret (v := .agg #[.bool (lowQ (!p.neg==q.neg) (p.top*q.bot) (p.bot*q.top)).neg,.slice A7 m7 c7,.slice A8 m8 c8]) (by simp [results,Tryz.results94,go_sem,e0,e1,e2]) rfl ⟨_,rfl,⟨A7,m7,c7,A8,m8,c8,by rw [hne],?_,?_⟩,hset⟩
 ·rw [size_set3,←hne];exact h7.res hk7 _ _ _
 ·rw [size_set3,←hne];exact h8.res hk7 _ _ _
end Go.Proofs.YtmkihdjolnlccaaGreatDoor
namespace Go.Proofs.YtmkihdjolnlccaaGreatDoor
open Go.RowKit Bn
def plusQ (p q:Q):Q:=
 if p.neg=q.neg then lowQ p.neg (p.top*q.bot+q.top*p.bot) (p.bot*q.bot)
 else if p.top*q.bot<q.top*p.bot then lowQ q.neg (q.top*p.bot - p.top*q.bot) (p.bot*q.bot)
 else lowQ p.neg (p.top*q.bot - q.top*p.bot) (p.bot*q.bot)
end Go.Proofs.YtmkihdjolnlccaaGreatDoor
