/- Contract of package number's enclosing. -/
import Derived.Test.YteajibbphcfmeaaGreatDoorTCo4
namespace Go.Proofs.YteajibbphcfmeaaGreatDoor
open Go.RowKit Bn
def encQ (a:Q) (l:List Q):Q × Q:=l.foldl (fun h x=>(if rcmp x h.1<0 then x else h.1,if 0<rcmp x h.2 then x else h.2)) (a,a)
theorem encQ_snoc (a:Q) (l:List Q) (x:Q):encQ a (l++[x])=(if rcmp x (encQ a l).1<0 then x else (encQ a l).1,if 0<rcmp x (encQ a l).2 then x else (encQ a l).2):=by
 unfold encQ;rw [List.foldl_append];rfl
theorem encF_in (P:Q→Prop):∀ (l:List Q) (h:Q × Q),P h.1→P h.2→(∀ x ∈ l,P x)→P (l.foldl (fun h x=>(if rcmp x h.1<0 then x else h.1,if 0<rcmp x h.2 then x else h.2)) h).1∧P (l.foldl (fun h x=>(if rcmp x h.1<0 then x else h.1,if 0<rcmp x h.2 then x else h.2)) h).2
 | [],_,h1,h2,_=>⟨h1,h2⟩
 | x :: l,h,h1,h2,hl=>by
  rw [List.foldl_cons]
  have hx:=hl x List.mem_cons_self
  refine encF_in P l _ ?_ ?_ (fun y hy=>hl y (List.mem_cons_of_mem _ hy))
  ·dsimp only
   split
   ·exact hx
   ·exact h1
  ·dsimp only
   split
   ·exact hx
   ·exact h2
theorem encQ_in (a:Q) (P:Q→Prop) (ha:P a) (l:List Q) (hl:∀ x ∈ l,P x):P (encQ a l).1∧P (encQ a l).2:=encF_in P l (a,a) ha ha hl
def RowQ (w:World) (g:Nat) (qs:List Q):Prop:=
 g<w.heap.size∧∀ i (h:i<qs.length),∃ A m c A' m' c',w.cell? ⟨g,i*3,none⟩=some (.bool qs[i].neg)∧w.cell? ⟨g,i*3+1,none⟩=some (.slice A m c)∧w.cell? ⟨g,i*3+2,none⟩=some (.slice A' m' c')∧NatS w w.heap.size A m c qs[i].top∧NatS w w.heap.size A' m' c' qs[i].bot
theorem RowQ.later {w w':World} {g:Nat} {qs:List Q} (h:RowQ w g qs) (hb:Below w.heap.size w w'):RowQ w' g qs:=by
 refine ⟨Nat.lt_of_lt_of_le h.1 hb.size,fun i hi => ?_⟩
 obtain ⟨A,m,c,A',m',c',h0,h1,h2,h3,h4⟩:=h.2 i hi
 exact ⟨A,m,c,A',m',c',(hb.cell h.1).trans h0,(hb.cell h.1).trans h1,(hb.cell h.1).trans h2,h3.later hb,h4.later hb⟩
theorem RowQ.store {w:World} {g g' i:Nat} {qs:List Q} {cs:Array Value} {t:TypeId} (h:RowQ w g qs) (hk:CBlk w g' cs t) (hn:NoInt cs) (hne:g'≠g) (u:Value):RowQ (w.setCell ⟨g',i,none⟩ u) g qs:=by
 have hsz:(w.setCell ⟨g',i,none⟩ u).heap.size=w.heap.size:=by simp [World.setCell]
 refine ⟨by rw [hsz];exact h.1,fun j hj => ?_⟩
 obtain ⟨A,m,c,A',m',c',h0,h1,h2,h3,h4⟩:=h.2 j hj
 refine ⟨A,m,c,A',m',c',?_,?_,?_,by rw [hsz];exact h3.store hk hn u,by rw [hsz];exact h4.store hk hn u⟩
 ·rw [World.cell?_setCell_far _ _ _ _ (by exact hne)];exact h0
 ·rw [World.cell?_setCell_far _ _ _ _ (by exact hne)];exact h1
 ·rw [World.cell?_setCell_far _ _ _ _ (by exact hne)];exact h2
theorem CBlk.setFar {w:World} {g g' i:Nat} {c:Array Value} {t:TypeId} (h:CBlk w g c t) (hne:g'≠g) (u:Value):CBlk (w.setCell ⟨g',i,none⟩ u) g c t:=
 (Below.heap_setCell w ⟨g',i,none⟩ u g (fun e=>hne e.symm)).trans h
def Hull (w:World) (gh:Nat) (lo hi:Q):Prop:=∃ (A1:Option Addr) (n1 c1:Nat) (A2:Option Addr) (n2 c2:Nat) (A3:Option Addr) (n3 c3:Nat) (A4:Option Addr) (n4 c4:Nat),
 CBlk w gh #[.bool lo.neg,.slice A1 n1 c1,.slice A2 n2 c2,.bool hi.neg,.slice A3 n3 c3,.slice A4 n4 c4] 139∧NatS w w.heap.size A1 n1 c1 lo.top∧NatS w w.heap.size A2 n2 c2 lo.bot∧NatS w w.heap.size A3 n3 c3 hi.top∧NatS w w.heap.size A4 n4 c4 hi.bot
theorem Hull.later {w w':World} {gh:Nat} {lo hi:Q} (h:Hull w gh lo hi) (hb:Below w.heap.size w w'):Hull w' gh lo hi:=by
 obtain ⟨A1,n1,c1,A2,n2,c2,A3,n3,c3,A4,n4,c4,hk,h1,h2,h3,h4⟩:=h
 exact ⟨A1,n1,c1,A2,n2,c2,A3,n3,c3,A4,n4,c4,hk.below hb hk.lt,h1.later hb,h2.later hb,h3.later hb,h4.later hb⟩
theorem Hull.blk {w:World} {gh:Nat} {lo hi:Q} (h:Hull w gh lo hi):∃ cs t,CBlk w gh cs t∧NoInt cs:=by
 obtain ⟨A1,n1,c1,A2,n2,c2,A3,n3,c3,A4,n4,c4,hk,_⟩:=h
 exact ⟨_,_,hk,noInt_six _ _ _ _ _ _ _ _ _ _ _ _ _ _⟩
theorem NatS.store3 {w:World} {n c x g:Nat} {A:Option Addr} {cs:Array Value} {t:TypeId} (h:NatS w w.heap.size A n c x) (hk:CBlk w g cs t) (hn:NoInt cs) (i j k:Nat) (b:Bool) (A1 A2:Option Addr) (n1 c1 n2 c2:Nat) :
  NatS (((w.setCell ⟨g,i,none⟩ (.bool b)).setCell ⟨g,j,none⟩ (.slice A1 n1 c1)).setCell ⟨g,k,none⟩ (.slice A2 n2 c2)) (((w.setCell ⟨g,i,none⟩ (.bool b)).setCell ⟨g,j,none⟩ (.slice A1 n1 c1)).setCell ⟨g,k,none⟩ (.slice A2 n2 c2)).heap.size A n c x:=by
 have k1:=hk.set i (.bool b)
 have n1':=hn.set i (u := .bool b) (fun _ _ h=>by cases h)
 have k2:=k1.set j (.slice A1 n1 c1)
 have n2':=n1'.set j (u := .slice A1 n1 c1) (fun _ _ h=>by cases h)
 rw [size_set3]
 exact ((h.store hk hn _).store k1 n1' _).store k2 n2' _
theorem RowQ.store3 {w:World} {g g':Nat} {qs:List Q} {cs:Array Value} {t:TypeId} (h:RowQ w g qs) (hk:CBlk w g' cs t) (hn:NoInt cs) (hne:g'≠g) (i j k:Nat) (b:Bool) (A1 A2:Option Addr) (n1 c1 n2 c2:Nat) :
  RowQ (((w.setCell ⟨g',i,none⟩ (.bool b)).setCell ⟨g',j,none⟩ (.slice A1 n1 c1)).setCell ⟨g',k,none⟩ (.slice A2 n2 c2)) g qs:=by
 have k1:=hk.set i (.bool b)
 have n1':=hn.set i (u := .bool b) (fun _ _ h=>by cases h)
 have k2:=k1.set j (.slice A1 n1 c1)
 have n2':=n1'.set j (u := .slice A1 n1 c1) (fun _ _ h=>by cases h)
 exact ((h.store hk hn hne _).store k1 n1' hne _).store k2 n2' hne _
theorem Hull.low {w:World} {gh:Nat} {lo hi x:Q} (h:Hull w gh lo hi) {D1 D2:Option Addr} {e1 f1 e2 f2:Nat} (l1:NatS w w.heap.size D1 e1 f1 x.top) (l2:NatS w w.heap.size D2 e2 f2 x.bot) :
  Hull (((w.setCell ⟨gh,0,none⟩ (.bool x.neg)).setCell ⟨gh,1,none⟩ (.slice D1 e1 f1)).setCell ⟨gh,2,none⟩ (.slice D2 e2 f2)) gh x hi:=by
 obtain ⟨A1,n1,c1,A2,n2,c2,A3,n3,c3,A4,n4,c4,hk,h1,h2,h3,h4⟩:=h
 have hn:=noInt_six lo.neg hi.neg A1 A2 A3 A4 n1 c1 n2 c2 n3 c3 n4 c4
 exact ⟨D1,e1,f1,D2,e2,f2,A3,n3,c3,A4,n4,c4,((hk.set 0 _).set 1 _).set 2 _,l1.store3 hk hn 0 1 2 _ _ _ _ _ _ _,l2.store3 hk hn 0 1 2 _ _ _ _ _ _ _,h3.store3 hk hn 0 1 2 _ _ _ _ _ _ _,h4.store3 hk hn 0 1 2 _ _ _ _ _ _ _⟩
theorem Hull.high {w:World} {gh:Nat} {lo hi x:Q} (h:Hull w gh lo hi) {D1 D2:Option Addr} {e1 f1 e2 f2:Nat} (l1:NatS w w.heap.size D1 e1 f1 x.top) (l2:NatS w w.heap.size D2 e2 f2 x.bot) :
  Hull (((w.setCell ⟨gh,3,none⟩ (.bool x.neg)).setCell ⟨gh,4,none⟩ (.slice D1 e1 f1)).setCell ⟨gh,5,none⟩ (.slice D2 e2 f2)) gh lo x:=by
 obtain ⟨A1,n1,c1,A2,n2,c2,A3,n3,c3,A4,n4,c4,hk,h1,h2,h3,h4⟩:=h
 have hn:=noInt_six lo.neg hi.neg A1 A2 A3 A4 n1 c1 n2 c2 n3 c3 n4 c4
 exact ⟨A1,n1,c1,A2,n2,c2,D1,e1,f1,D2,e2,f2,((hk.set 3 _).set 4 _).set 5 _,h1.store3 hk hn 3 4 5 _ _ _ _ _ _ _,h2.store3 hk hn 3 4 5 _ _ _ _ _ _ _,l1.store3 hk hn 3 4 5 _ _ _ _ _ _ _,l2.store3 hk hn 3 4 5 _ _ _ _ _ _ _⟩
theorem set3_below {a w:World} {B g:Nat} (h:Below B a w) (hg:B≤g) (i j k:Nat) (u v x:Value):Below B a (((w.setCell ⟨g,i,none⟩ u).setCell ⟨g,j,none⟩ v).setCell ⟨g,k,none⟩ x):=
 ((h.setCell (p:=⟨g,i,none⟩) hg _).setCell (p:=⟨g,j,none⟩) hg _).setCell (p:=⟨g,k,none⟩) hg _
set_option maxHeartbeats 4000000 in
set_option maxRecDepth 100000 in
theorem enclosing_any (p:Q) (qs:List Q) (v:Value) (g n c:Nat) (w:World) (hv:RatS w w.heap.size v p) (hr:RowQ w g qs) (hl:qs.length=n) (hn:n≤c) (hc:c≤4096) (hp:LenQ p 268435456) (hq:∀ x ∈ qs,LenQ x 268435456) :
  Calls Tryz.prog 159 #[v,.slice (some ⟨g,0,none⟩) n c] w (RetItv w (encQ p qs).1 (encQ p qs).2):=by
 obtain ⟨A1,n1,c1,A2,n2,c2,rfl,h1,h2⟩:=hv
 have HL:=Lib.hid hl
 clear hl
 have hbW:Below w.heap.size w ((w.alloc (.cells #[.bool p.neg,.slice A1 n1 c1,.slice A2 n2 c2] 91)).alloc (.cells #[.bool false,.slice none 0 0,.slice none 0 0,.bool false,.slice none 0 0,.slice none 0 0] 139)):=(((Below.refl _ _).alloc (by simp<;>omega) _).alloc (by simp<;>omega) _)
 have q0:CBlk ((w.alloc (.cells #[.bool p.neg,.slice A1 n1 c1,.slice A2 n2 c2] 91)).alloc (.cells #[.bool false,.slice none 0 0,.slice none 0 0,.bool false,.slice none 0 0,.slice none 0 0] 139)) (w.heap.size) #[.bool p.neg,.slice A1 n1 c1,.slice A2 n2 c2] 91:=((CBlk.new _ _ _ _ (by simp)).alloc _)
 have q1:CBlk ((w.alloc (.cells #[.bool p.neg,.slice A1 n1 c1,.slice A2 n2 c2] 91)).alloc (.cells #[.bool false,.slice none 0 0,.slice none 0 0,.bool false,.slice none 0 0,.slice none 0 0] 139)) (w.heap.size+1) #[.bool false,.slice none 0 0,.slice none 0 0,.bool false,.slice none 0 0,.slice none 0 0] 139:=(CBlk.new _ _ _ _ (by simp))
 have hr1:=hr.later hbW
 have h11:=h1.later hbW
 have h21:=h2.later hbW
 clear hr h1 h2
 go_enter Tryz.func159,Tryz.ntmps159
 go_upto_region 1 with (fail)
 generalize ((w.alloc (.cells #[.bool p.neg,.slice A1 n1 c1,.slice A2 n2 c2] 91)).alloc (.cells #[.bool false,.slice none 0 0,.slice none 0 0,.bool false,.slice none 0 0,.slice none 0 0] 139))=W at *
 have a0:=q0.cell 0
 have a1:=q0.cell 1
 have a2:=q0.cell 2
 go_wp2_with fail
 refine (single_any p _ W (RatS.mk h11 h21)).mono ?_
 rintro e w2 ⟨v2,rfl,⟨B1,m1,d1,B2,m2,d2,B3,m3,d3,B4,m4,d4,rfl,k1,k2,k3,k4⟩,hb2⟩
 have hB2:=hbW.trans (hb2.mono hbW.size)
 have q12:=q1.below hb2 q1.lt
 have hr2:=hr1.later hb2
 clear a0 a1 a2 q0 q1 hr1 h11 h21 hb2 hbW
 obtain ⟨gh,hgh⟩:∃ gh,gh=w2.heap.size:=⟨_,rfl⟩
 have hB3:Below w.heap.size w (w2.alloc (.cells #[.bool p.neg,.slice B1 m1 d1,.slice B2 m2 d2,.bool p.neg,.slice B3 m3 d3,.slice B4 m4 d4] 139)):=hB2.alloc hB2.size _
 have hba:Below w2.heap.size w2 (w2.alloc (.cells #[.bool p.neg,.slice B1 m1 d1,.slice B2 m2 d2,.bool p.neg,.slice B3 m3 d3,.slice B4 m4 d4] 139)):=(Below.refl _ _).alloc (Nat.le_refl _) _
 have qh:CBlk (w2.alloc (.cells #[.bool p.neg,.slice B1 m1 d1,.slice B2 m2 d2,.bool p.neg,.slice B3 m3 d3,.slice B4 m4 d4] 139)) gh #[.bool p.neg,.slice B1 m1 d1,.slice B2 m2 d2,.bool p.neg,.slice B3 m3 d3,.slice B4 m4 d4] 139:=CBlk.new _ _ _ _ hgh
 have q13:=q12.alloc (.cells #[.bool p.neg,.slice B1 m1 d1,.slice B2 m2 d2,.bool p.neg,.slice B3 m3 d3,.slice B4 m4 d4] 139)
 have hr3:=hr2.later hba
 have hgg:gh≠g:=by have:=hr2.1;omega
 have hgh2:w.heap.size+1<gh:=by have:=q12.lt;omega
 have k13:=k1.later hba
 have k23:=k2.later hba
 have k33:=k3.later hba
 have k43:=k4.later hba
 have HG:=Lib.hid hgh
 clear hgh q12 hr2 hB2 k1 k2 k3 k4 hba
 go_upto_region 3 with (fail)
 rw [←HG.out]
 generalize (w2.alloc (.cells #[.bool p.neg,.slice B1 m1 d1,.slice B2 m2 d2,.bool p.neg,.slice B3 m3 d3,.slice B4 m4 d4] 139))=w3 at *
 go_wp2_with fail
 go_loopw [12] (fun iv wr=>∃ k:Nat,k≤n∧iv = .int .i64 (k:Int)∧Hull wr gh (encQ p (qs.take k)).1 (encQ p (qs.take k)).2∧RowQ wr g qs∧CBlk wr (w.heap.size+1) #[.bool false,.slice none 0 0,.slice none 0 0,.bool false,.slice none 0 0,.slice none 0 0] 139∧Below w.heap.size w wr) (fun iv _=>n - (intOf iv).toNat)
 case atStart=>exact ⟨0,Nat.zero_le _,rfl,⟨B1,m1,d1,B2,m2,d2,B3,m3,d3,B4,m4,d4,qh,k13,k23,k33,k43⟩,hr3,q13,hB3⟩
 case round=>
  obtain ⟨k,hk,rfl,hH,hrw,qz,hB⟩:=hrel
  by_cases hlt:k<n
  ·have hkl:k<qs.length:=by rw [HL.out];exact hlt
   obtain ⟨D1,e1,f1,D2,e2,f2,x0,x1,x2,l1,l2⟩:=hrw.2 k hkl
   have hxq:=hq qs[k] (List.getElem_mem hkl)
   have hst:encQ p (qs.take (k+1))=(if rcmp qs[k] (encQ p (qs.take k)).1<0 then qs[k] else (encQ p (qs.take k)).1,if 0<rcmp qs[k] (encQ p (qs.take k)).2 then qs[k] else (encQ p (qs.take k)).2):=by
    rw [List.take_succ_eq_append_getElem hkl,encQ_snoc]
   have hin:=encQ_in p (fun q=>LenQ q 268435456) hp (qs.take k) (fun x hx=>hq x (List.mem_of_mem_take hx))
   generalize qs[k]=x at *
   obtain ⟨lo,hlo⟩:∃ lo,lo=(encQ p (qs.take k)).1:=⟨_,rfl⟩
   obtain ⟨hi,hhi⟩:∃ hi,hi=(encQ p (qs.take k)).2:=⟨_,rfl⟩
   rw [←hlo] at hH hst hin
   rw [←hhi] at hH hst hin
   clear hlo hhi
   have HC1:=Lib.hid (fun v u W h1 h2=>ncompare_s x lo v u W h1 h2 hxq hin.1)
   have HC2:=Lib.hid (fun v u W h1 h2=>ncompare_s x hi v u W h1 h2 hxq hin.2)
   obtain ⟨r1,hr1⟩:∃ r1,r1=rcmp x lo:=⟨_,rfl⟩
   obtain ⟨r2,hr2⟩:∃ r2,r2=rcmp x hi:=⟨_,rfl⟩
   rw [←hr1] at HC1 hst
   rw [←hr2] at HC2 hst
   have HST:=Lib.hid hst
   clear hr1 hr2 hst hin hxq
   have hbx:Below wr.heap.size wr (wr.alloc (.cells #[.bool x.neg,.slice D1 e1 f1,.slice D2 e2 f2] 91)):=(Below.refl _ _).alloc (Nat.le_refl _) _
   have qx:CBlk (wr.alloc (.cells #[.bool x.neg,.slice D1 e1 f1,.slice D2 e2 f2] 91)) wr.heap.size #[.bool x.neg,.slice D1 e1 f1,.slice D2 e2 f2] 91:=CBlk.new _ _ _ _ rfl
   have qzx:=qz.alloc (.cells #[.bool x.neg,.slice D1 e1 f1,.slice D2 e2 f2] 91)
   have hHx:=hH.later hbx
   have hrx:=hrw.later hbx
   have l1x:=l1.later hbx
   have l2x:=l2.later hbx
   have hBx:=hB.trans (hbx.mono hB.size)
   have hghx:gh≠wr.heap.size:=by
    obtain ⟨_,_,_,_,_,_,_,_,_,_,_,_,hk,_⟩:=hH
    have:=hk.lt;omega
   obtain ⟨gx,hgx⟩:∃ gx,gx=wr.heap.size:=⟨_,rfl⟩
   rw [←hgx] at qx hghx
   have HGX:=Lib.hid hgx
   clear hgx hbx hH hrw qz hB l1 l2
   go_upto_region 5 with (fail)
   rw [←HGX.out]
   generalize (wr.alloc (.cells #[.bool x.neg,.slice D1 e1 f1,.slice D2 e2 f2] 91))=wx at *
   clear x0 x1 x2
   by_cases hd1:r1<0
   ·have d1:decide (r1<0)=true:=by simpa using hd1
    have HD1:=Lib.hid hd1
    clear hd1
    by_cases hd2:0<r2
    ·have d2:decide (0<r2)=true:=by simpa using hd2
     have HD2:=Lib.hid hd2
     clear hd2
     obtain ⟨A1,n1,c1,A2,n2,c2,A3,n3,c3,A4,n4,c4,hkb,h1,h2,h3,h4⟩:=id hHx
     have y0:=hkb.cell 0
     have y1:=hkb.cell 1
     have y2:=hkb.cell 2
     have b0:=qx.cell 0
     have b1:=qx.cell 1
     have b2:=qx.cell 2
     go_wp2_with fail
     refine (HC1.out _ _ wx (RatS.mk l1x l2x) (RatS.mk h1 h2)).mono ?_
     rintro e w5 ⟨rfl,hb5⟩
     have hH5:=hHx.later hb5
     have hr5:=hrx.later hb5
     have q5:=qx.below hb5 qx.lt
     have qz5:=qzx.below hb5 qzx.lt
     have l15:=l1x.later hb5
     have l25:=l2x.later hb5
     have hB5:=hBx.trans (hb5.mono hBx.size)
     clear y0 y1 y2 b0 b1 b2 hkb h1 h2 h3 h4 hHx hrx qx qzx l1x l2x hBx hb5
     obtain ⟨A1,n1,c1,A2,n2,c2,A3,n3,c3,A4,n4,c4,hkb,h1,h2,h3,h4⟩:=id hH5
     have y0:=hkb.cell 0
     have y1:=hkb.cell 1
     have y2:=hkb.cell 2
     have z0:=hkb.frozen 0
     have z1:=hkb.frozen 1
     have z2:=hkb.frozen 2
     have b0:=q5.cell 0
     have b1:=q5.cell 1
     have b2:=q5.cell 2
     have hn:=noInt_six lo.neg hi.neg A1 A2 A3 A4 n1 c1 n2 c2 n3 c3 n4 c4
     have hH6:=hH5.low l15 l25
     have hr6:=hr5.store3 hkb hn hgg 0 1 2 x.neg D1 D2 e1 f1 e2 f2
     have q6:=((q5.setFar (i:=0) hghx (.bool x.neg)).setFar (i:=1) hghx (.slice D1 e1 f1)).setFar (i:=2) hghx (.slice D2 e2 f2)
     have qz6:=((qz5.setFar (i:=0) (g':=gh) (by omega) (.bool x.neg)).setFar (i:=1) (g':=gh) (by omega) (.slice D1 e1 f1)).setFar (i:=2) (g':=gh) (by omega) (.slice D2 e2 f2)
     have l16:=l15.store3 hkb hn 0 1 2 x.neg D1 D2 e1 f1 e2 f2
     have l26:=l25.store3 hkb hn 0 1 2 x.neg D1 D2 e1 f1 e2 f2
     have hB6:=set3_below hB5 (g:=gh) (by omega) 0 1 2 (.bool x.neg) (.slice D1 e1 f1) (.slice D2 e2 f2)
     clear hkb h1 h2 h3 h4 hH5 hr5 q5 qz5 l15 l25 hB5 hn
     go_upto_region 7 with (fail)
     generalize (((w5.setCell ⟨gh,0,none⟩ (.bool x.neg)).setCell ⟨gh,1,none⟩ (.slice D1 e1 f1)).setCell ⟨gh,2,none⟩ (.slice D2 e2 f2))=w6 at *
     clear y0 y1 y2 z0 z1 z2 b0 b1 b2
     obtain ⟨A1,n1,c1,A2,n2,c2,A3,n3,c3,A4,n4,c4,hkb,h1,h2,h3,h4⟩:=id hH6
     have y3:=hkb.cell 3
     have y4:=hkb.cell 4
     have y5:=hkb.cell 5
     have b0:=q6.cell 0
     have b1:=q6.cell 1
     have b2:=q6.cell 2
     go_wp2_with fail
     refine (HC2.out _ _ w6 (RatS.mk l16 l26) (RatS.mk h3 h4)).mono ?_
     rintro e w7 ⟨rfl,hb7⟩
     have hH7:=hH6.later hb7
     have hr7:=hr6.later hb7
     have q7:=q6.below hb7 q6.lt
     have qz7:=qz6.below hb7 qz6.lt
     have l17:=l16.later hb7
     have l27:=l26.later hb7
     have hB7:=hB6.trans (hb7.mono hB6.size)
     clear y3 y4 y5 b0 b1 b2 hkb h1 h2 h3 h4 hH6 hr6 q6 qz6 l16 l26 hB6 hb7
     obtain ⟨A1,n1,c1,A2,n2,c2,A3,n3,c3,A4,n4,c4,hkb,h1,h2,h3,h4⟩:=id hH7
     have y3:=hkb.cell 3
     have y4:=hkb.cell 4
     have y5:=hkb.cell 5
     have z3:=hkb.frozen 3
     have z4:=hkb.frozen 4
     have z5:=hkb.frozen 5
     have b0:=q7.cell 0
     have b1:=q7.cell 1
     have b2:=q7.cell 2
     have hn:=noInt_six x.neg hi.neg A1 A2 A3 A4 n1 c1 n2 c2 n3 c3 n4 c4
     have hH8:=hH7.high l17 l27
     have hr8:=hr7.store3 hkb hn hgg 3 4 5 x.neg D1 D2 e1 f1 e2 f2
     have qz8:=((qz7.setFar (i:=3) (g':=gh) (by omega) (.bool x.neg)).setFar (i:=4) (g':=gh) (by omega) (.slice D1 e1 f1)).setFar (i:=5) (g':=gh) (by omega) (.slice D2 e2 f2)
     have hB8:=set3_below hB7 (g:=gh) (by omega) 3 4 5 (.bool x.neg) (.slice D1 e1 f1) (.slice D2 e2 f2)
     clear hkb h1 h2 h3 h4 hH7 hr7 qz7 l17 l27 hB7 hn
     go_wp2_with fail
     go_roundw
     case rel=>exact ⟨k+1,by omega,by go_num,by rw [HST.out];first | (rw [if_pos (by have:=HD1.out;omega),if_pos (by have:=HD2.out;omega)];exact hH8) | (rw [if_pos (by have:=HD1.out;omega),if_neg (by have:=HD2.out;omega)];exact hH8) | (rw [if_neg (by have:=HD1.out;omega),if_pos (by have:=HD2.out;omega)];exact hH8) | (rw [if_neg (by have:=HD1.out;omega),if_neg (by have:=HD2.out;omega)];exact hH8),hr8,qz8,hB8⟩
     case measure=>simp [intOf]<;>omega
    ·have d2:decide (0<r2)=false:=by simpa using hd2
     have HD2:=Lib.hid hd2
     clear hd2
     obtain ⟨A1,n1,c1,A2,n2,c2,A3,n3,c3,A4,n4,c4,hkb,h1,h2,h3,h4⟩:=id hHx
     have y0:=hkb.cell 0
     have y1:=hkb.cell 1
     have y2:=hkb.cell 2
     have b0:=qx.cell 0
     have b1:=qx.cell 1
     have b2:=qx.cell 2
     go_wp2_with fail
     refine (HC1.out _ _ wx (RatS.mk l1x l2x) (RatS.mk h1 h2)).mono ?_
     rintro e w5 ⟨rfl,hb5⟩
     have hH5:=hHx.later hb5
     have hr5:=hrx.later hb5
     have q5:=qx.below hb5 qx.lt
     have qz5:=qzx.below hb5 qzx.lt
     have l15:=l1x.later hb5
     have l25:=l2x.later hb5
     have hB5:=hBx.trans (hb5.mono hBx.size)
     clear y0 y1 y2 b0 b1 b2 hkb h1 h2 h3 h4 hHx hrx qx qzx l1x l2x hBx hb5
     obtain ⟨A1,n1,c1,A2,n2,c2,A3,n3,c3,A4,n4,c4,hkb,h1,h2,h3,h4⟩:=id hH5
     have y0:=hkb.cell 0
     have y1:=hkb.cell 1
     have y2:=hkb.cell 2
     have z0:=hkb.frozen 0
     have z1:=hkb.frozen 1
     have z2:=hkb.frozen 2
     have b0:=q5.cell 0
     have b1:=q5.cell 1
     have b2:=q5.cell 2
     have hn:=noInt_six lo.neg hi.neg A1 A2 A3 A4 n1 c1 n2 c2 n3 c3 n4 c4
     have hH6:=hH5.low l15 l25
     have hr6:=hr5.store3 hkb hn hgg 0 1 2 x.neg D1 D2 e1 f1 e2 f2
     have q6:=((q5.setFar (i:=0) hghx (.bool x.neg)).setFar (i:=1) hghx (.slice D1 e1 f1)).setFar (i:=2) hghx (.slice D2 e2 f2)
     have qz6:=((qz5.setFar (i:=0) (g':=gh) (by omega) (.bool x.neg)).setFar (i:=1) (g':=gh) (by omega) (.slice D1 e1 f1)).setFar (i:=2) (g':=gh) (by omega) (.slice D2 e2 f2)
     have l16:=l15.store3 hkb hn 0 1 2 x.neg D1 D2 e1 f1 e2 f2
     have l26:=l25.store3 hkb hn 0 1 2 x.neg D1 D2 e1 f1 e2 f2
     have hB6:=set3_below hB5 (g:=gh) (by omega) 0 1 2 (.bool x.neg) (.slice D1 e1 f1) (.slice D2 e2 f2)
     clear hkb h1 h2 h3 h4 hH5 hr5 q5 qz5 l15 l25 hB5 hn
     go_upto_region 7 with (fail)
     generalize (((w5.setCell ⟨gh,0,none⟩ (.bool x.neg)).setCell ⟨gh,1,none⟩ (.slice D1 e1 f1)).setCell ⟨gh,2,none⟩ (.slice D2 e2 f2))=w6 at *
     clear y0 y1 y2 z0 z1 z2 b0 b1 b2
     obtain ⟨A1,n1,c1,A2,n2,c2,A3,n3,c3,A4,n4,c4,hkb,h1,h2,h3,h4⟩:=id hH6
     have y3:=hkb.cell 3
     have y4:=hkb.cell 4
     have y5:=hkb.cell 5
     have b0:=q6.cell 0
     have b1:=q6.cell 1
     have b2:=q6.cell 2
     go_wp2_with fail
     refine (HC2.out _ _ w6 (RatS.mk l16 l26) (RatS.mk h3 h4)).mono ?_
     rintro e w7 ⟨rfl,hb7⟩
     have hH7:=hH6.later hb7
     have hr7:=hr6.later hb7
     have q7:=q6.below hb7 q6.lt
     have qz7:=qz6.below hb7 qz6.lt
     have l17:=l16.later hb7
     have l27:=l26.later hb7
     have hB7:=hB6.trans (hb7.mono hB6.size)
     clear y3 y4 y5 b0 b1 b2 hkb h1 h2 h3 h4 hH6 hr6 q6 qz6 l16 l26 hB6 hb7
     have hH8:=hH7
     have hr8:=hr7
     have qz8:=qz7
     have hB8:=hB7
     go_wp2_with fail
     go_roundw
     case rel=>exact ⟨k+1,by omega,by go_num,by rw [HST.out];first | (rw [if_pos (by have:=HD1.out;omega),if_pos (by have:=HD2.out;omega)];exact hH8) | (rw [if_pos (by have:=HD1.out;omega),if_neg (by have:=HD2.out;omega)];exact hH8) | (rw [if_neg (by have:=HD1.out;omega),if_pos (by have:=HD2.out;omega)];exact hH8) | (rw [if_neg (by have:=HD1.out;omega),if_neg (by have:=HD2.out;omega)];exact hH8),hr8,qz8,hB8⟩
     case measure=>simp [intOf]<;>omega
   ·have d1:decide (r1<0)=false:=by simpa using hd1
    have HD1:=Lib.hid hd1
    clear hd1
    by_cases hd2:0<r2
    ·have d2:decide (0<r2)=true:=by simpa using hd2
     have HD2:=Lib.hid hd2
     clear hd2
     obtain ⟨A1,n1,c1,A2,n2,c2,A3,n3,c3,A4,n4,c4,hkb,h1,h2,h3,h4⟩:=id hHx
     have y0:=hkb.cell 0
     have y1:=hkb.cell 1
     have y2:=hkb.cell 2
     have b0:=qx.cell 0
     have b1:=qx.cell 1
     have b2:=qx.cell 2
     go_wp2_with fail
     refine (HC1.out _ _ wx (RatS.mk l1x l2x) (RatS.mk h1 h2)).mono ?_
     rintro e w5 ⟨rfl,hb5⟩
     have hH5:=hHx.later hb5
     have hr5:=hrx.later hb5
     have q5:=qx.below hb5 qx.lt
     have qz5:=qzx.below hb5 qzx.lt
     have l15:=l1x.later hb5
     have l25:=l2x.later hb5
     have hB5:=hBx.trans (hb5.mono hBx.size)
     clear y0 y1 y2 b0 b1 b2 hkb h1 h2 h3 h4 hHx hrx qx qzx l1x l2x hBx hb5
     have hH6:=hH5
     have hr6:=hr5
     have q6:=q5
     have qz6:=qz5
     have l16:=l15
     have l26:=l25
     have hB6:=hB5
     clear hH5 hr5 q5 qz5 l15 l25 hB5
     obtain ⟨A1,n1,c1,A2,n2,c2,A3,n3,c3,A4,n4,c4,hkb,h1,h2,h3,h4⟩:=id hH6
     have y3:=hkb.cell 3
     have y4:=hkb.cell 4
     have y5:=hkb.cell 5
     have b0:=q6.cell 0
     have b1:=q6.cell 1
     have b2:=q6.cell 2
     go_wp2_with fail
     refine (HC2.out _ _ w5 (RatS.mk l16 l26) (RatS.mk h3 h4)).mono ?_
     rintro e w7 ⟨rfl,hb7⟩
     have hH7:=hH6.later hb7
     have hr7:=hr6.later hb7
     have q7:=q6.below hb7 q6.lt
     have qz7:=qz6.below hb7 qz6.lt
     have l17:=l16.later hb7
     have l27:=l26.later hb7
     have hB7:=hB6.trans (hb7.mono hB6.size)
     clear y3 y4 y5 b0 b1 b2 hkb h1 h2 h3 h4 hH6 hr6 q6 qz6 l16 l26 hB6 hb7
     obtain ⟨A1,n1,c1,A2,n2,c2,A3,n3,c3,A4,n4,c4,hkb,h1,h2,h3,h4⟩:=id hH7
     have y3:=hkb.cell 3
     have y4:=hkb.cell 4
     have y5:=hkb.cell 5
     have z3:=hkb.frozen 3
     have z4:=hkb.frozen 4
     have z5:=hkb.frozen 5
     have b0:=q7.cell 0
     have b1:=q7.cell 1
     have b2:=q7.cell 2
     have hn:=noInt_six lo.neg hi.neg A1 A2 A3 A4 n1 c1 n2 c2 n3 c3 n4 c4
     have hH8:=hH7.high l17 l27
     have hr8:=hr7.store3 hkb hn hgg 3 4 5 x.neg D1 D2 e1 f1 e2 f2
     have qz8:=((qz7.setFar (i:=3) (g':=gh) (by omega) (.bool x.neg)).setFar (i:=4) (g':=gh) (by omega) (.slice D1 e1 f1)).setFar (i:=5) (g':=gh) (by omega) (.slice D2 e2 f2)
     have hB8:=set3_below hB7 (g:=gh) (by omega) 3 4 5 (.bool x.neg) (.slice D1 e1 f1) (.slice D2 e2 f2)
     clear hkb h1 h2 h3 h4 hH7 hr7 qz7 l17 l27 hB7 hn
     go_wp2_with fail
     go_roundw
     case rel=>exact ⟨k+1,by omega,by go_num,by rw [HST.out];first | (rw [if_pos (by have:=HD1.out;omega),if_pos (by have:=HD2.out;omega)];exact hH8) | (rw [if_pos (by have:=HD1.out;omega),if_neg (by have:=HD2.out;omega)];exact hH8) | (rw [if_neg (by have:=HD1.out;omega),if_pos (by have:=HD2.out;omega)];exact hH8) | (rw [if_neg (by have:=HD1.out;omega),if_neg (by have:=HD2.out;omega)];exact hH8),hr8,qz8,hB8⟩
     case measure=>simp [intOf]<;>omega
    ·have d2:decide (0<r2)=false:=by simpa using hd2
     have HD2:=Lib.hid hd2
     clear hd2
     obtain ⟨A1,n1,c1,A2,n2,c2,A3,n3,c3,A4,n4,c4,hkb,h1,h2,h3,h4⟩:=id hHx
     have y0:=hkb.cell 0
     have y1:=hkb.cell 1
     have y2:=hkb.cell 2
     have b0:=qx.cell 0
     have b1:=qx.cell 1
     have b2:=qx.cell 2
     go_wp2_with fail
     refine (HC1.out _ _ wx (RatS.mk l1x l2x) (RatS.mk h1 h2)).mono ?_
     rintro e w5 ⟨rfl,hb5⟩
     have hH5:=hHx.later hb5
     have hr5:=hrx.later hb5
     have q5:=qx.below hb5 qx.lt
     have qz5:=qzx.below hb5 qzx.lt
     have l15:=l1x.later hb5
     have l25:=l2x.later hb5
     have hB5:=hBx.trans (hb5.mono hBx.size)
     clear y0 y1 y2 b0 b1 b2 hkb h1 h2 h3 h4 hHx hrx qx qzx l1x l2x hBx hb5
     have hH6:=hH5
     have hr6:=hr5
     have q6:=q5
     have qz6:=qz5
     have l16:=l15
     have l26:=l25
     have hB6:=hB5
     clear hH5 hr5 q5 qz5 l15 l25 hB5
     obtain ⟨A1,n1,c1,A2,n2,c2,A3,n3,c3,A4,n4,c4,hkb,h1,h2,h3,h4⟩:=id hH6
     have y3:=hkb.cell 3
     have y4:=hkb.cell 4
     have y5:=hkb.cell 5
     have b0:=q6.cell 0
     have b1:=q6.cell 1
     have b2:=q6.cell 2
     go_wp2_with fail
     refine (HC2.out _ _ w5 (RatS.mk l16 l26) (RatS.mk h3 h4)).mono ?_
     rintro e w7 ⟨rfl,hb7⟩
     have hH7:=hH6.later hb7
     have hr7:=hr6.later hb7
     have q7:=q6.below hb7 q6.lt
     have qz7:=qz6.below hb7 qz6.lt
     have l17:=l16.later hb7
     have l27:=l26.later hb7
     have hB7:=hB6.trans (hb7.mono hB6.size)
     clear y3 y4 y5 b0 b1 b2 hkb h1 h2 h3 h4 hH6 hr6 q6 qz6 l16 l26 hB6 hb7
     have hH8:=hH7
     have hr8:=hr7
     have qz8:=qz7
     have hB8:=hB7
     go_wp2_with fail
     go_roundw
     case rel=>exact ⟨k+1,by omega,by go_num,by rw [HST.out];first | (rw [if_pos (by have:=HD1.out;omega),if_pos (by have:=HD2.out;omega)];exact hH8) | (rw [if_pos (by have:=HD1.out;omega),if_neg (by have:=HD2.out;omega)];exact hH8) | (rw [if_neg (by have:=HD1.out;omega),if_pos (by have:=HD2.out;omega)];exact hH8) | (rw [if_neg (by have:=HD1.out;omega),if_neg (by have:=HD2.out;omega)];exact hH8),hr8,qz8,hB8⟩
     case measure=>simp [intOf]<;>omega
  ·obtain rfl:k=n:=by omega
   have hfin:encQ p (qs.take k)=encQ p qs:=by rw [List.take_of_length_le (by rw [HL.out];exact Nat.le_refl _)]
   rw [hfin] at hH
   have HF:=Lib.hid hfin
   obtain ⟨A1,n1,c1,A2,n2,c2,A3,n3,c3,A4,n4,c4,hkb,h1,h2,h3,h4⟩:=hH
   obtain ⟨E,hE⟩:∃ E,E=encQ p qs:=⟨_,rfl⟩
   rw [←hE] at hkb h1 h2 h3 h4
   have HEQ:=Lib.hid hE
   clear hE hfin
   have a0:=hkb.cell 0
   have a1:=hkb.cell 1
   have a2:=hkb.cell 2
   have a3:=hkb.cell 3
   have a4:=hkb.cell 4
   have a5:=hkb.cell 5
   have y0:=qz.cell 0
   have y1:=qz.cell 1
   have y2:=qz.cell 2
   have y3:=qz.cell 3
   have y4:=qz.cell 4
   have y5:=qz.cell 5
   have z0:=qz.frozen 0
   have z1:=qz.frozen 1
   have z2:=qz.frozen 2
   have z3:=qz.frozen 3
   have z4:=qz.frozen 4
   have z5:=qz.frozen 5
   have hI:=itv_end (p:=E.1) (q:=E.2) qz hB (by omega) rfl h1 h2 h3 h4
   unfold Go.Proofs.YteajibbphcfmeaaGreatDoor.set6 at hI
   have HI:=Lib.hid hI
   clear hI h1 h2 h3 h4 hB hrw
   go_wp2
   refine bodyPost_ret (v := .agg #[.bool E.1.neg,.slice A1 n1 c1,.slice A2 n2 c2,.bool E.2.neg,.slice A3 n3 c3,.slice A4 n4 c4]) (by simp [results,Tryz.results159,go_sem,y0,y1,y2,y3,y4,y5]) rfl ⟨_,rfl,by rw [←HEQ.out];exact HI.out⟩
end Go.Proofs.YteajibbphcfmeaaGreatDoor
