/- Contracts of package rational's package rational's numbers: times. -/
import Derived.Test.YtmkihdjolnlccaaGreatDoorQDo
import Derived.Deep.RegionHeld3
import Derived.Test.YtmkihdjolnlccaaGreatDoorQDpu
import Derived.Test.YtmkihdjolnlccaaGreatDoorQRat4
import Derived.Test.YtmkihdjolnlccaaGreatDoorQRead2
import Derived.Test.YtmkihdjolnlccaaGreatDoorQShelf
namespace Go.Proofs.YtmkihdjolnlccaaGreatDoor
open Go.RowKit Dn
theorem zdw {A:Option Addr} {n c m k x y:Nat} {w:World} (h:NatD w w.heap.size A n c (x*y)) (hx:(digs x).length≤m) (hy:(digs y).length≤k):n≤m+k:=by
 rw [←h.len]
 refine digs_length_le ?_
 rw [Nat.pow_add]
 have h1:=zaa x
 have h2:=zaa y
 have h3:B ^ (digs x).length≤B ^ m:=Nat.pow_le_pow_right zaA hx
 have h4:B ^ (digs y).length≤B ^ k:=Nat.pow_le_pow_right zaA hy
 exact Nat.mul_lt_mul'' (Nat.lt_of_lt_of_le h1 h3) (Nat.lt_of_lt_of_le h2 h4)
set_option maxHeartbeats 4000000 in
set_option maxRecDepth 100000 in
theorem zd6 (p q:Q) (A1 A2 A3 A4:Option Addr) (n1 c1 n2 c2 n3 c3 n4 c4:Nat) (w:World) (hT:Tabs w)
  (h1:NatD w w.heap.size A1 n1 c1 p.top) (h2:NatD w w.heap.size A2 n2 c2 p.bot) (h3:NatD w w.heap.size A3 n3 c3 q.top) (h4:NatD w w.heap.size A4 n4 c4 q.bot)
  (k1:n1≤268435456) (k2:n2≤268435456) (k3:n3≤268435456) (k4:n4≤268435456) :
  Calls Tryz.prog 97 #[.agg #[.bool p.neg,.slice A1 n1 c1,.slice A2 n2 c2],.agg #[.bool q.neg,.slice A3 n3 c3,.slice A4 n4 c4]] w (zbH w (lowQ (p.neg != q.neg) (p.top*q.top) (p.bot*q.bot))):=by
 go_enter Tryz.func97,Tryz.ntmps97
 go_wp2_with fail
 have hb3:Below w.heap.size w (((w.alloc (.cells #[.bool p.neg,.slice A1 n1 c1,.slice A2 n2 c2] 142)).alloc (.cells #[.bool q.neg,.slice A3 n3 c3,.slice A4 n4 c4] 142)).alloc (.cells #[.bool false,.slice none 0 0,.slice none 0 0] 142)):=
  (((Below.refl _ _).alloc (Nat.le_refl _) _).alloc (by simp) _).alloc (by simp;omega) _
 have hx0:zaQ (((w.alloc (.cells #[.bool p.neg,.slice A1 n1 c1,.slice A2 n2 c2] 142)).alloc (.cells #[.bool q.neg,.slice A3 n3 c3,.slice A4 n4 c4] 142)).alloc (.cells #[.bool false,.slice none 0 0,.slice none 0 0] 142)) w.heap.size p.neg (.slice A1 n1 c1) (.slice A2 n2 c2):=
  (((zaQ.new w _ _ _).below ((Below.refl _ _).alloc (Nat.le_refl _) _) (by simp))).below ((Below.refl _ _).alloc (Nat.le_refl _) _) (by simp;omega)
 have hx1:zaQ (((w.alloc (.cells #[.bool p.neg,.slice A1 n1 c1,.slice A2 n2 c2] 142)).alloc (.cells #[.bool q.neg,.slice A3 n3 c3,.slice A4 n4 c4] 142)).alloc (.cells #[.bool false,.slice none 0 0,.slice none 0 0] 142)) (w.heap.size+1) q.neg (.slice A3 n3 c3) (.slice A4 n4 c4):=by
  have h:=(zaQ.new (w.alloc (.cells #[.bool p.neg,.slice A1 n1 c1,.slice A2 n2 c2] 142)) q.neg (.slice A3 n3 c3) (.slice A4 n4 c4)).below ((Below.refl _ _).alloc (Nat.le_refl _) (.cells #[.bool false,.slice none 0 0,.slice none 0 0] 142)) (by simp)
  simpa using h
 have hx2:zaQ (((w.alloc (.cells #[.bool p.neg,.slice A1 n1 c1,.slice A2 n2 c2] 142)).alloc (.cells #[.bool q.neg,.slice A3 n3 c3,.slice A4 n4 c4] 142)).alloc (.cells #[.bool false,.slice none 0 0,.slice none 0 0] 142)) (w.heap.size+1+1) false (.slice none 0 0) (.slice none 0 0):=by
  have h:=zaQ.new ((w.alloc (.cells #[.bool p.neg,.slice A1 n1 c1,.slice A2 n2 c2] 142)).alloc (.cells #[.bool q.neg,.slice A3 n3 c3,.slice A4 n4 c4] 142)) false (.slice none 0 0) (.slice none 0 0)
  simpa using h
 generalize (((w.alloc (.cells #[.bool p.neg,.slice A1 n1 c1,.slice A2 n2 c2] 142)).alloc (.cells #[.bool q.neg,.slice A3 n3 c3,.slice A4 n4 c4] 142)).alloc (.cells #[.bool false,.slice none 0 0,.slice none 0 0] 142))=w3 at *
 obtain ⟨a0,a1,a2,_,_,_,al⟩:=hx0.cells
 obtain ⟨b0,b1,b2,_,_,_,bl⟩:=hx1.cells
 have hb3d:Below w.heap.size w w3.drew:=hb3.drew
 have ht1:=zbN A1 A3 n1 c1 n3 c3 p.top q.top w3.drew (h1.later hb3d) (h3.later hb3d) (by omega) (by omega)
 have hx2d:zaQ w3.drew (w.heap.size+1+1) false (.slice none 0 0) (.slice none 0 0):=hx2
 have cl:w.heap.size+1+1<w3.drew.heap.size:=hx2d.cells.2.2.2.2.2.2
 have HT1:=Lib.hid ht1
 clear ht1
 go_region_held3 (fun w'=>w'.cell? ⟨w.heap.size,0,none⟩=some (.bool p.neg)∧w'.cell? ⟨w.heap.size,1,none⟩=some (.slice A1 n1 c1)∧w'.cell? ⟨w.heap.size,2,none⟩=some (.slice A2 n2 c2)∧w'.cell? ⟨w.heap.size+1,0,none⟩=some (.bool q.neg)∧w'.cell? ⟨w.heap.size+1,1,none⟩=some (.slice A3 n3 c3)∧w'.cell? ⟨w.heap.size+1,2,none⟩=some (.slice A4 n4 c4))
  (first | exact ⟨a0,a1,a2,b0,b1,b2⟩ | exact ⟨((hb5.cell (p:=⟨w.heap.size,0,none⟩) al).trans a0),((hb5.cell (p:=⟨w.heap.size,1,none⟩) al).trans a1),((hb5.cell (p:=⟨w.heap.size,2,none⟩) al).trans a2),((hb5.cell (p:=⟨w.heap.size+1,0,none⟩) bl).trans b0),((hb5.cell (p:=⟨w.heap.size+1,1,none⟩) bl).trans b1),((hb5.cell (p:=⟨w.heap.size+1,2,none⟩) bl).trans b2)⟩ | exact ⟨((hb6.cell (p:=⟨w.heap.size,0,none⟩) (al6)).trans ((hb5.cell (p:=⟨w.heap.size,0,none⟩) al).trans a0)),((hb6.cell (p:=⟨w.heap.size,1,none⟩) (al6)).trans ((hb5.cell (p:=⟨w.heap.size,1,none⟩) al).trans a1)),((hb6.cell (p:=⟨w.heap.size,2,none⟩) (al6)).trans ((hb5.cell (p:=⟨w.heap.size,2,none⟩) al).trans a2)),((hb6.cell (p:=⟨w.heap.size+1,0,none⟩) (bl6)).trans ((hb5.cell (p:=⟨w.heap.size+1,0,none⟩) bl).trans b0)),((hb6.cell (p:=⟨w.heap.size+1,1,none⟩) (bl6)).trans ((hb5.cell (p:=⟨w.heap.size+1,1,none⟩) bl).trans b1)),((hb6.cell (p:=⟨w.heap.size+1,2,none⟩) (bl6)).trans ((hb5.cell (p:=⟨w.heap.size+1,2,none⟩) bl).trans b2))⟩ | exact ⟨((hb7.cell (p:=⟨w.heap.size,0,none⟩) (al7)).trans ((hb6.cell (p:=⟨w.heap.size,0,none⟩) (al6)).trans ((hb5.cell (p:=⟨w.heap.size,0,none⟩) al).trans a0))),((hb7.cell (p:=⟨w.heap.size,1,none⟩) (al7)).trans ((hb6.cell (p:=⟨w.heap.size,1,none⟩) (al6)).trans ((hb5.cell (p:=⟨w.heap.size,1,none⟩) al).trans a1))),((hb7.cell (p:=⟨w.heap.size,2,none⟩) (al7)).trans ((hb6.cell (p:=⟨w.heap.size,2,none⟩) (al6)).trans ((hb5.cell (p:=⟨w.heap.size,2,none⟩) al).trans a2))),((hb7.cell (p:=⟨w.heap.size+1,0,none⟩) (bl7)).trans ((hb6.cell (p:=⟨w.heap.size+1,0,none⟩) (bl6)).trans ((hb5.cell (p:=⟨w.heap.size+1,0,none⟩) bl).trans b0))),((hb7.cell (p:=⟨w.heap.size+1,1,none⟩) (bl7)).trans ((hb6.cell (p:=⟨w.heap.size+1,1,none⟩) (bl6)).trans ((hb5.cell (p:=⟨w.heap.size+1,1,none⟩) bl).trans b1))),((hb7.cell (p:=⟨w.heap.size+1,2,none⟩) (bl7)).trans ((hb6.cell (p:=⟨w.heap.size+1,2,none⟩) (bl6)).trans ((hb5.cell (p:=⟨w.heap.size+1,2,none⟩) bl).trans b2)))⟩ | exact ⟨((far3 _ _ _ _ (by dsimp only;omega)).trans ((hb7.cell (p:=⟨w.heap.size,0,none⟩) (al7)).trans ((hb6.cell (p:=⟨w.heap.size,0,none⟩) (al6)).trans ((hb5.cell (p:=⟨w.heap.size,0,none⟩) al).trans a0)))),((far3 _ _ _ _ (by dsimp only;omega)).trans ((hb7.cell (p:=⟨w.heap.size,1,none⟩) (al7)).trans ((hb6.cell (p:=⟨w.heap.size,1,none⟩) (al6)).trans ((hb5.cell (p:=⟨w.heap.size,1,none⟩) al).trans a1)))),((far3 _ _ _ _ (by dsimp only;omega)).trans ((hb7.cell (p:=⟨w.heap.size,2,none⟩) (al7)).trans ((hb6.cell (p:=⟨w.heap.size,2,none⟩) (al6)).trans ((hb5.cell (p:=⟨w.heap.size,2,none⟩) al).trans a2)))),((far3 _ _ _ _ (by dsimp only;omega)).trans ((hb7.cell (p:=⟨w.heap.size+1,0,none⟩) (bl7)).trans ((hb6.cell (p:=⟨w.heap.size+1,0,none⟩) (bl6)).trans ((hb5.cell (p:=⟨w.heap.size+1,0,none⟩) bl).trans b0)))),((far3 _ _ _ _ (by dsimp only;omega)).trans ((hb7.cell (p:=⟨w.heap.size+1,1,none⟩) (bl7)).trans ((hb6.cell (p:=⟨w.heap.size+1,1,none⟩) (bl6)).trans ((hb5.cell (p:=⟨w.heap.size+1,1,none⟩) bl).trans b1)))),((far3 _ _ _ _ (by dsimp only;omega)).trans ((hb7.cell (p:=⟨w.heap.size+1,2,none⟩) (bl7)).trans ((hb6.cell (p:=⟨w.heap.size+1,2,none⟩) (bl6)).trans ((hb5.cell (p:=⟨w.heap.size+1,2,none⟩) bl).trans b2))))⟩)
  (first
   |(go_at_call_of 163 (Value.slice A1 n1 c1);refine (HT1.out).mono ?_;rintro e w4 ⟨A5,m5,c5,rfl,hn5,hb5⟩;have al6:=Nat.lt_of_lt_of_le al hb5.size;have bl6:=Nat.lt_of_lt_of_le bl hb5.size)
   |(go_at_call_of 163 (Value.slice A2 n2 c2);refine (zbN A2 A4 n2 c2 n4 c4 p.bot q.bot w4 ((h2.later hb3d).later hb5) ((h4.later hb3d).later hb5) (by omega) (by omega)).mono ?_;rintro e w6 ⟨A6,m6,c6,rfl,hn6,hb6⟩;have al7:=Nat.lt_of_lt_of_le al6 hb6.size;have bl7:=Nat.lt_of_lt_of_le bl6 hb6.size)
   |(go_at_call 162;refine (zce _ A5 A6 m5 c5 m6 c6 _ _ w6 (((hT.later hb3d).later hb5).later hb6) (hn5.later hb6) hn6 (by have:=zdw hn5 (Nat.le_of_eq h1.len) (Nat.le_of_eq h3.len);omega) (by have:=zdw hn6 (Nat.le_of_eq h2.len) (Nat.le_of_eq h4.len);omega)).mono ?_;rintro e w7 ⟨v,rfl,⟨A7,m7,c7,A8,m8,c8,rfl,h7,h8⟩,hb7⟩;have hk7:=((hx2d.below hb5 cl).below hb6 (Nat.lt_of_lt_of_le cl hb5.size)).below hb7 (Nat.lt_of_lt_of_le (Nat.lt_of_lt_of_le cl hb5.size) hb6.size);obtain ⟨e0,e1,e2,g0,g1,g2,gl⟩:=hk7.cells))
 go_wp2_with fail
 have hb7all:Below w.heap.size w w7:=by
  have s5:=hb3d.size
  have s6:=hb5.size
  have s7:=hb6.size
  exact ((hb3d.trans (hb5.mono s5)).trans (hb6.mono (by omega))).trans (hb7.mono (by omega))
 have hset:=zao hb7all (g:=w.heap.size+1+1) (by omega) (.bool (lowQ (!p.neg==q.neg) (p.top*q.top) (p.bot*q.bot)).neg) (.slice A7 m7 c7) (.slice A8 m8 c8)
 have hne:(!p.neg==q.neg)=(p.neg != q.neg):=by cases p.neg<;>cases q.neg<;>rfl
 refine bodyPost_ret (v := .agg #[.bool (lowQ (!p.neg==q.neg) (p.top*q.top) (p.bot*q.bot)).neg,.slice A7 m7 c7,.slice A8 m8 c8]) (by simp [results,Tryz.results97,go_sem,e0,e1,e2]) rfl ⟨_,rfl,⟨A7,m7,c7,A8,m8,c8,by rw [hne],?_,?_⟩,hset⟩
 ·rw [zah,←hne];exact h7.res hk7 _ _ _
 ·rw [zah,←hne];exact h8.res hk7 _ _ _
def zqo (w:World) (q:Q) (x:Int) (e:Ending) (w':World):Prop:=∃ v,e = .returned (.tuple #[v,.int .i64 x])∧RatD w' w'.heap.size v q∧Below w.heap.size w w'
theorem RatD.zero (w:World) (B:Nat):RatD w B (.agg #[.bool false,.slice none 0 0,.slice none 0 0]) ⟨false,0,0⟩:=⟨none,0,0,none,0,0,rfl,NatD.zero _ _,NatD.zero _ _⟩
theorem zmd:zaf [49]=1:=by decide
set_option maxHeartbeats 2000000 in
set_option maxRecDepth 100000 in
theorem zob (s:ByteArray) (w:World) (hT:Tabs w) (hs:s.size≤4294967296) :
  Calls Tryz.prog 160 #[.string s] w (zqo w (zad s.data.toList) (zam s.data.toList)):=by
 have hb0:Below w.heap.size w (w.alloc (.cells #[.bool false,.slice none 0 0,.slice none 0 0] 142)):=(Below.refl _ _).alloc (Nat.le_refl _) _
 have hk0:=zaQ.new w false (.slice none 0 0) (.slice none 0 0)
 have hch:=Lib.hid (zcL s _ (hT.later hb0) hs)
 have HB0:=Lib.hid hb0
 have HK0:=Lib.hid hk0
 clear hb0 hk0
 by_cases hx:zam s.data.toList=0
 ·obtain ⟨d1,d2,_,d4⟩:=zbC hx
  have hq:zad s.data.toList=⟨negL s.data.toList,zaf (topL s.data.toList),if zcF s.data.toList then zaf (botL s.data.toList) else 1⟩:=by unfold zad;rw [if_pos hx]
  rw [hq]
  rw [hx] at hch ⊢
  have hcut:=fun W=>ziM s W hs
  unfold topL negL botL zcF at *
  clear hx hq
  generalize cutL s.data.toList=C at *
  obtain ⟨c1,c2,c3⟩:=C
  dsimp only at *
  obtain ⟨t,ht⟩:∃ t:ByteArray,t=⟨(Lib.trimPrefix c1 [45]).toArray⟩:=⟨_,rfl⟩
  have htl:Lib.trimPrefix c1 [45]=t.data.toList:=by rw [ht]
  obtain ⟨neg,hneg⟩:∃ neg,Lib.hasPrefix c1 [45]=neg:=⟨_,rfl⟩
  have hcp:∀ (a:ByteArray) (W:World),a.data.toList=c1→Calls Tryz.prog 178 #[.string a,.string { data:=#[45] }] W fun e w'=>e = .returned (.tuple #[.string t,.bool neg])∧W=w':=by
   intro a W ha
   have h:=Tryz.strings_CutPrefix a ⟨#[45]⟩ W
   have e45:(⟨#[45]⟩:ByteArray).data.toList=[45]:=rfl
   rw [e45,ha,←ht,hneg] at h
   exact h.mono fun _ _ ⟨x,y⟩=>⟨x,y.symm⟩
  rw [htl,hneg]
  rw [htl] at d1 d2
  have hts:t.data.toList.length=t.size:=by simp
  have hp1:=Lib.hid (fun W=>zdT t W (zaq d1) (by omega))
  have HCP:=Lib.hid hcp
  have HCUT:=Lib.hid hcut
  clear ht htl hneg hcp hcut d1 d2 hts
  cases c3
  ·have hp2:Hid (∀ W,Calls Tryz.prog 213 #[.string { data:=#[49] }] W (RetD W 1)):=fun W=>by
    have h:=zdT ⟨#[49]⟩ W (by decide) (by decide)
    have e:zaf (⟨#[49]⟩:ByteArray).data.toList=1:=zmd
    rwa [e] at h
   clear d4
   go_enter Tryz.func160,Tryz.ntmps160
   go_wp2_with fail
   refine hch.out.mono ?_
   rintro e w1 ⟨rfl,hb1⟩
   go_wp2_with fail
   refine (HCUT.out w1).mono ?_
   rintro e w2 ⟨⟨a,b,rfl,ha,hbb⟩,nd,rfl⟩
   have hb2:=zab hb1 nd
   clear hb1 hbb
   generalize w1.drewN nd=w2 at *
   go_wp2_with fail
   refine (HCP.out a _ ha).mono ?_
   rintro e w3 ⟨rfl,rfl⟩
   clear ha
   go_wp2_with fail
   refine (hp1.out _).mono ?_
   rintro e w4 ⟨A4,m4,c4,rfl,hn4,hb4⟩
   go_wp2_with fail
   refine (hp2.out _).mono ?_
   rintro e w5 ⟨A5,m5,c5,rfl,hn5,hb5⟩
   have hk5:=((HK0.out.below hb2 HK0.out.cells.2.2.2.2.2.2).below hb4 (Nat.lt_of_lt_of_le HK0.out.cells.2.2.2.2.2.2 hb2.size)).below hb5 (Nat.lt_of_lt_of_le (Nat.lt_of_lt_of_le HK0.out.cells.2.2.2.2.2.2 hb2.size) hb4.size)
   have s0:=HB0.out.size
   have s2:=hb2.size
   have s4:=hb4.size
   have hB5:Below w.heap.size w w5:=((HB0.out.trans (hb2.mono s0)).trans (hb4.mono (Nat.le_trans s0 s2))).trans (hb5.mono (Nat.le_trans (Nat.le_trans s0 s2) s4))
   obtain ⟨k0,k1,k2,f0,f1,f2,_⟩:=hk5.cells
   have hset:=zao hB5 (g:=w.heap.size) (Nat.le_refl _) (.bool neg) (.slice A4 m4 c4) (.slice A5 m5 c5)
   have hn4':=hn4.later hb5
   clear s0 s2 s4 hb2 hb4 hb5 hn4
   go_wp2
   refine bodyPost_ret (v := .tuple #[.agg #[.bool neg,.slice A4 m4 c4,.slice A5 m5 c5],.int .i64 0]) (by simp [results,Tryz.results160,go_sem,k0,k1,k2]) rfl ⟨_,rfl,⟨A4,m4,c4,A5,m5,c5,rfl,?_,?_⟩,hset⟩
   ·rw [zah];exact hn4'.res hk5 _ _ _
   ·rw [zah];exact hn5.res hk5 _ _ _
  ·obtain ⟨d5,_,_,d6,_⟩:=d4 rfl
   have hp2:Hid (∀ (b:ByteArray) (W:World),b.data.toList=c2→Calls Tryz.prog 213 #[.string b] W (RetD W (zaf c2))):=fun b W hb=>by
    have hbl:b.data.toList.length=b.size:=by simp
    have h:=zdT b W (by rw [hb];exact zaq d5) (by rw [hb] at hbl;omega)
    rwa [hb] at h
   clear d4 d5 d6
   go_enter Tryz.func160,Tryz.ntmps160
   go_wp2_with fail
   refine hch.out.mono ?_
   rintro e w1 ⟨rfl,hb1⟩
   go_wp2_with fail
   refine (HCUT.out w1).mono ?_
   rintro e w2 ⟨⟨a,b,rfl,ha,hbb⟩,nd,rfl⟩
   have hb2:=zab hb1 nd
   have HBB:=Lib.hid hbb
   clear hb1 hbb
   generalize w1.drewN nd=w2 at *
   go_wp2_with fail
   refine (HCP.out a _ ha).mono ?_
   rintro e w3 ⟨rfl,rfl⟩
   clear ha
   go_wp2_with fail
   refine (hp1.out _).mono ?_
   rintro e w4 ⟨A4,m4,c4,rfl,hn4,hb4⟩
   go_wp2_with fail
   refine (hp2.out b _ HBB.out).mono ?_
   rintro e w5 ⟨A5,m5,c5,rfl,hn5,hb5⟩
   have hk5:=((HK0.out.below hb2 HK0.out.cells.2.2.2.2.2.2).below hb4 (Nat.lt_of_lt_of_le HK0.out.cells.2.2.2.2.2.2 hb2.size)).below hb5 (Nat.lt_of_lt_of_le (Nat.lt_of_lt_of_le HK0.out.cells.2.2.2.2.2.2 hb2.size) hb4.size)
   have s0:=HB0.out.size
   have s2:=hb2.size
   have s4:=hb4.size
   have hB5:Below w.heap.size w w5:=((HB0.out.trans (hb2.mono s0)).trans (hb4.mono (Nat.le_trans s0 s2))).trans (hb5.mono (Nat.le_trans (Nat.le_trans s0 s2) s4))
   obtain ⟨k0,k1,k2,f0,f1,f2,_⟩:=hk5.cells
   have hset:=zao hB5 (g:=w.heap.size) (Nat.le_refl _) (.bool neg) (.slice A4 m4 c4) (.slice A5 m5 c5)
   have hn4':=hn4.later hb5
   clear s0 s2 s4 hb2 hb4 hb5 hn4
   go_wp2
   refine bodyPost_ret (v := .tuple #[.agg #[.bool neg,.slice A4 m4 c4,.slice A5 m5 c5],.int .i64 0]) (by simp [results,Tryz.results160,go_sem,k0,k1,k2]) rfl ⟨_,rfl,⟨A4,m4,c4,A5,m5,c5,rfl,?_,?_⟩,hset⟩
   ·rw [zah];exact hn4'.res hk5 _ _ _
   ·rw [zah];exact hn5.res hk5 _ _ _
 ·have hq:zad s.data.toList=⟨false,0,0⟩:=by unfold zad;rw [if_neg hx]
  rw [hq]
  generalize zam s.data.toList=x at *
  have d1:(x==0)=false:=by simpa using hx
  have d2:(x != 0)=true:=by simpa using hx
  clear hx hq
  go_enter Tryz.func160,Tryz.ntmps160
  go_wp2_with fail
  refine hch.out.mono ?_
  rintro e w1 ⟨rfl,hb1⟩
  have hk1:=HK0.out.below hb1 HK0.out.cells.2.2.2.2.2.2
  have hB1:=HB0.out.trans (hb1.mono HB0.out.size)
  obtain ⟨k0,k1,k2,f0,f1,f2,_⟩:=hk1.cells
  have hset:=zao hB1 (g:=w.heap.size) (Nat.le_refl _) (.bool false) (.slice none 0 0) (.slice none 0 0)
  clear hb1
  go_wp2
  refine bodyPost_ret (v := .tuple #[.agg #[.bool false,.slice none 0 0,.slice none 0 0],.int .i64 x]) (by simp [results,Tryz.results160,go_sem,k0,k1,k2]) rfl ⟨_,rfl,RatD.zero _ _,hset⟩
set_option maxHeartbeats 4000000 in
set_option maxRecDepth 100000 in
theorem zfd (p q:Q) (A1 A2 A3 A4:Option Addr) (n1 c1 n2 c2 n3 c3 n4 c4:Nat) (w:World) (hT:Tabs w)
  (h1:NatD w w.heap.size A1 n1 c1 p.top) (h2:NatD w w.heap.size A2 n2 c2 p.bot) (h3:NatD w w.heap.size A3 n3 c3 q.top) (h4:NatD w w.heap.size A4 n4 c4 q.bot)
  (k1:n1≤268435456) (k2:n2≤268435456) (k3:n3≤268435456) (k4:n4≤268435456) :
  Calls Tryz.prog 94 #[.agg #[.bool p.neg,.slice A1 n1 c1,.slice A2 n2 c2],.agg #[.bool q.neg,.slice A3 n3 c3,.slice A4 n4 c4]] w (zbH w (lowQ (p.neg != q.neg) (p.top*q.bot) (p.bot*q.top))):=by
 go_enter Tryz.func94,Tryz.ntmps94
 go_wp2_with fail
 have hb3:Below w.heap.size w (((w.alloc (.cells #[.bool p.neg,.slice A1 n1 c1,.slice A2 n2 c2] 142)).alloc (.cells #[.bool q.neg,.slice A3 n3 c3,.slice A4 n4 c4] 142)).alloc (.cells #[.bool false,.slice none 0 0,.slice none 0 0] 142)):=
  (((Below.refl _ _).alloc (Nat.le_refl _) _).alloc (by simp) _).alloc (by simp;omega) _
 have hx0:zaQ (((w.alloc (.cells #[.bool p.neg,.slice A1 n1 c1,.slice A2 n2 c2] 142)).alloc (.cells #[.bool q.neg,.slice A3 n3 c3,.slice A4 n4 c4] 142)).alloc (.cells #[.bool false,.slice none 0 0,.slice none 0 0] 142)) w.heap.size p.neg (.slice A1 n1 c1) (.slice A2 n2 c2):=
  (((zaQ.new w _ _ _).below ((Below.refl _ _).alloc (Nat.le_refl _) _) (by simp))).below ((Below.refl _ _).alloc (Nat.le_refl _) _) (by simp;omega)
 have hx1:zaQ (((w.alloc (.cells #[.bool p.neg,.slice A1 n1 c1,.slice A2 n2 c2] 142)).alloc (.cells #[.bool q.neg,.slice A3 n3 c3,.slice A4 n4 c4] 142)).alloc (.cells #[.bool false,.slice none 0 0,.slice none 0 0] 142)) (w.heap.size+1) q.neg (.slice A3 n3 c3) (.slice A4 n4 c4):=by
  have h:=(zaQ.new (w.alloc (.cells #[.bool p.neg,.slice A1 n1 c1,.slice A2 n2 c2] 142)) q.neg (.slice A3 n3 c3) (.slice A4 n4 c4)).below ((Below.refl _ _).alloc (Nat.le_refl _) (.cells #[.bool false,.slice none 0 0,.slice none 0 0] 142)) (by simp)
  simpa using h
 have hx2:zaQ (((w.alloc (.cells #[.bool p.neg,.slice A1 n1 c1,.slice A2 n2 c2] 142)).alloc (.cells #[.bool q.neg,.slice A3 n3 c3,.slice A4 n4 c4] 142)).alloc (.cells #[.bool false,.slice none 0 0,.slice none 0 0] 142)) (w.heap.size+1+1) false (.slice none 0 0) (.slice none 0 0):=by
  have h:=zaQ.new ((w.alloc (.cells #[.bool p.neg,.slice A1 n1 c1,.slice A2 n2 c2] 142)).alloc (.cells #[.bool q.neg,.slice A3 n3 c3,.slice A4 n4 c4] 142)) false (.slice none 0 0) (.slice none 0 0)
  simpa using h
 generalize (((w.alloc (.cells #[.bool p.neg,.slice A1 n1 c1,.slice A2 n2 c2] 142)).alloc (.cells #[.bool q.neg,.slice A3 n3 c3,.slice A4 n4 c4] 142)).alloc (.cells #[.bool false,.slice none 0 0,.slice none 0 0] 142))=w3 at *
 obtain ⟨a0,a1,a2,_,_,_,al⟩:=hx0.cells
 obtain ⟨b0,b1,b2,_,_,_,bl⟩:=hx1.cells
 have hb3d:Below w.heap.size w w3.drew:=hb3.drew
 have ht1:=zbN A1 A4 n1 c1 n4 c4 p.top q.bot w3.drew (h1.later hb3d) (h4.later hb3d) (by omega) (by omega)
 have hx2d:zaQ w3.drew (w.heap.size+1+1) false (.slice none 0 0) (.slice none 0 0):=hx2
 have cl:w.heap.size+1+1<w3.drew.heap.size:=hx2d.cells.2.2.2.2.2.2
 have HT1:=Lib.hid ht1
 clear ht1
 go_region_held3 (fun w'=>w'.cell? ⟨w.heap.size,0,none⟩=some (.bool p.neg)∧w'.cell? ⟨w.heap.size,1,none⟩=some (.slice A1 n1 c1)∧w'.cell? ⟨w.heap.size,2,none⟩=some (.slice A2 n2 c2)∧w'.cell? ⟨w.heap.size+1,0,none⟩=some (.bool q.neg)∧w'.cell? ⟨w.heap.size+1,1,none⟩=some (.slice A3 n3 c3)∧w'.cell? ⟨w.heap.size+1,2,none⟩=some (.slice A4 n4 c4))
  (first | exact ⟨a0,a1,a2,b0,b1,b2⟩ | exact ⟨((hb5.cell (p:=⟨w.heap.size,0,none⟩) al).trans a0),((hb5.cell (p:=⟨w.heap.size,1,none⟩) al).trans a1),((hb5.cell (p:=⟨w.heap.size,2,none⟩) al).trans a2),((hb5.cell (p:=⟨w.heap.size+1,0,none⟩) bl).trans b0),((hb5.cell (p:=⟨w.heap.size+1,1,none⟩) bl).trans b1),((hb5.cell (p:=⟨w.heap.size+1,2,none⟩) bl).trans b2)⟩ | exact ⟨((hb6.cell (p:=⟨w.heap.size,0,none⟩) (al6)).trans ((hb5.cell (p:=⟨w.heap.size,0,none⟩) al).trans a0)),((hb6.cell (p:=⟨w.heap.size,1,none⟩) (al6)).trans ((hb5.cell (p:=⟨w.heap.size,1,none⟩) al).trans a1)),((hb6.cell (p:=⟨w.heap.size,2,none⟩) (al6)).trans ((hb5.cell (p:=⟨w.heap.size,2,none⟩) al).trans a2)),((hb6.cell (p:=⟨w.heap.size+1,0,none⟩) (bl6)).trans ((hb5.cell (p:=⟨w.heap.size+1,0,none⟩) bl).trans b0)),((hb6.cell (p:=⟨w.heap.size+1,1,none⟩) (bl6)).trans ((hb5.cell (p:=⟨w.heap.size+1,1,none⟩) bl).trans b1)),((hb6.cell (p:=⟨w.heap.size+1,2,none⟩) (bl6)).trans ((hb5.cell (p:=⟨w.heap.size+1,2,none⟩) bl).trans b2))⟩ | exact ⟨((hb7.cell (p:=⟨w.heap.size,0,none⟩) (al7)).trans ((hb6.cell (p:=⟨w.heap.size,0,none⟩) (al6)).trans ((hb5.cell (p:=⟨w.heap.size,0,none⟩) al).trans a0))),((hb7.cell (p:=⟨w.heap.size,1,none⟩) (al7)).trans ((hb6.cell (p:=⟨w.heap.size,1,none⟩) (al6)).trans ((hb5.cell (p:=⟨w.heap.size,1,none⟩) al).trans a1))),((hb7.cell (p:=⟨w.heap.size,2,none⟩) (al7)).trans ((hb6.cell (p:=⟨w.heap.size,2,none⟩) (al6)).trans ((hb5.cell (p:=⟨w.heap.size,2,none⟩) al).trans a2))),((hb7.cell (p:=⟨w.heap.size+1,0,none⟩) (bl7)).trans ((hb6.cell (p:=⟨w.heap.size+1,0,none⟩) (bl6)).trans ((hb5.cell (p:=⟨w.heap.size+1,0,none⟩) bl).trans b0))),((hb7.cell (p:=⟨w.heap.size+1,1,none⟩) (bl7)).trans ((hb6.cell (p:=⟨w.heap.size+1,1,none⟩) (bl6)).trans ((hb5.cell (p:=⟨w.heap.size+1,1,none⟩) bl).trans b1))),((hb7.cell (p:=⟨w.heap.size+1,2,none⟩) (bl7)).trans ((hb6.cell (p:=⟨w.heap.size+1,2,none⟩) (bl6)).trans ((hb5.cell (p:=⟨w.heap.size+1,2,none⟩) bl).trans b2)))⟩ | exact ⟨((far3 _ _ _ _ (by dsimp only;omega)).trans ((hb7.cell (p:=⟨w.heap.size,0,none⟩) (al7)).trans ((hb6.cell (p:=⟨w.heap.size,0,none⟩) (al6)).trans ((hb5.cell (p:=⟨w.heap.size,0,none⟩) al).trans a0)))),((far3 _ _ _ _ (by dsimp only;omega)).trans ((hb7.cell (p:=⟨w.heap.size,1,none⟩) (al7)).trans ((hb6.cell (p:=⟨w.heap.size,1,none⟩) (al6)).trans ((hb5.cell (p:=⟨w.heap.size,1,none⟩) al).trans a1)))),((far3 _ _ _ _ (by dsimp only;omega)).trans ((hb7.cell (p:=⟨w.heap.size,2,none⟩) (al7)).trans ((hb6.cell (p:=⟨w.heap.size,2,none⟩) (al6)).trans ((hb5.cell (p:=⟨w.heap.size,2,none⟩) al).trans a2)))),((far3 _ _ _ _ (by dsimp only;omega)).trans ((hb7.cell (p:=⟨w.heap.size+1,0,none⟩) (bl7)).trans ((hb6.cell (p:=⟨w.heap.size+1,0,none⟩) (bl6)).trans ((hb5.cell (p:=⟨w.heap.size+1,0,none⟩) bl).trans b0)))),((far3 _ _ _ _ (by dsimp only;omega)).trans ((hb7.cell (p:=⟨w.heap.size+1,1,none⟩) (bl7)).trans ((hb6.cell (p:=⟨w.heap.size+1,1,none⟩) (bl6)).trans ((hb5.cell (p:=⟨w.heap.size+1,1,none⟩) bl).trans b1)))),((far3 _ _ _ _ (by dsimp only;omega)).trans ((hb7.cell (p:=⟨w.heap.size+1,2,none⟩) (bl7)).trans ((hb6.cell (p:=⟨w.heap.size+1,2,none⟩) (bl6)).trans ((hb5.cell (p:=⟨w.heap.size+1,2,none⟩) bl).trans b2))))⟩)
  (first
   |(go_at_call_of 163 (Value.slice A1 n1 c1);refine (HT1.out).mono ?_;rintro e w4 ⟨A5,m5,c5,rfl,hn5,hb5⟩;have al6:=Nat.lt_of_lt_of_le al hb5.size;have bl6:=Nat.lt_of_lt_of_le bl hb5.size)
   |(go_at_call_of 163 (Value.slice A2 n2 c2);refine (zbN A2 A3 n2 c2 n3 c3 p.bot q.top w4 ((h2.later hb3d).later hb5) ((h3.later hb3d).later hb5) (by omega) (by omega)).mono ?_;rintro e w6 ⟨A6,m6,c6,rfl,hn6,hb6⟩;have al7:=Nat.lt_of_lt_of_le al6 hb6.size;have bl7:=Nat.lt_of_lt_of_le bl6 hb6.size)
   |(go_at_call 162;refine (zce _ A5 A6 m5 c5 m6 c6 _ _ w6 (((hT.later hb3d).later hb5).later hb6) (hn5.later hb6) hn6 (by have:=zdw hn5 (Nat.le_of_eq h1.len) (Nat.le_of_eq h4.len);omega) (by have:=zdw hn6 (Nat.le_of_eq h2.len) (Nat.le_of_eq h3.len);omega)).mono ?_;rintro e w7 ⟨v,rfl,⟨A7,m7,c7,A8,m8,c8,rfl,h7,h8⟩,hb7⟩;have hk7:=((hx2d.below hb5 cl).below hb6 (Nat.lt_of_lt_of_le cl hb5.size)).below hb7 (Nat.lt_of_lt_of_le (Nat.lt_of_lt_of_le cl hb5.size) hb6.size);obtain ⟨e0,e1,e2,g0,g1,g2,gl⟩:=hk7.cells))
 go_wp2_with fail
 have hb7all:Below w.heap.size w w7:=by
  have s5:=hb3d.size
  have s6:=hb5.size
  have s7:=hb6.size
  exact ((hb3d.trans (hb5.mono s5)).trans (hb6.mono (by omega))).trans (hb7.mono (by omega))
 have hset:=zao hb7all (g:=w.heap.size+1+1) (by omega) (.bool (lowQ (!p.neg==q.neg) (p.top*q.bot) (p.bot*q.top)).neg) (.slice A7 m7 c7) (.slice A8 m8 c8)
 have hne:(!p.neg==q.neg)=(p.neg != q.neg):=by cases p.neg<;>cases q.neg<;>rfl
 refine bodyPost_ret (v := .agg #[.bool (lowQ (!p.neg==q.neg) (p.top*q.bot) (p.bot*q.top)).neg,.slice A7 m7 c7,.slice A8 m8 c8]) (by simp [results,Tryz.results94,go_sem,e0,e1,e2]) rfl ⟨_,rfl,⟨A7,m7,c7,A8,m8,c8,by rw [hne],?_,?_⟩,hset⟩
 ·rw [zah,←hne];exact h7.res hk7 _ _ _
 ·rw [zah,←hne];exact h8.res hk7 _ _ _
end Go.Proofs.YtmkihdjolnlccaaGreatDoor
namespace Go.Proofs.YtmkihdjolnlccaaGreatDoor
open Go.RowKit Bn
def zcw (p q:Q):Q:=
 if p.neg=q.neg then lowQ p.neg (p.top*q.bot+q.top*p.bot) (p.bot*q.bot)
 else if p.top*q.bot<q.top*p.bot then lowQ q.neg (q.top*p.bot - p.top*q.bot) (p.bot*q.bot)
 else lowQ p.neg (p.top*q.bot - q.top*p.bot) (p.bot*q.bot)
end Go.Proofs.YtmkihdjolnlccaaGreatDoor
