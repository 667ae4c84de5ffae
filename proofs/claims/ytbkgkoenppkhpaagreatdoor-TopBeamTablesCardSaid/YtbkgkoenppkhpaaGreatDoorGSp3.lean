/- Contract of package number's enclosing. -/
import Derived.Test.YtbkgkoenppkhpaaGreatDoorGNa1
namespace Go.Proofs.YtbkgkoenppkhpaaGreatDoor
open Go.RowKit Bn
def encQ (a:Q) (l:List Q):Q × Q:=l.foldl (fun h x=>(if rcmp x h.1<0 then x else h.1,if 0<rcmp x h.2 then x else h.2)) (a,a)
theorem zlW (a:Q) (l:List Q) (x:Q):encQ a (l++[x])=(if rcmp x (encQ a l).1<0 then x else (encQ a l).1,if 0<rcmp x (encQ a l).2 then x else (encQ a l).2):=by
 unfold encQ;rw [List.foldl_append];rfl
theorem zmc (P:Q→Prop):∀ (l:List Q) (h:Q × Q),P h.1→P h.2→(∀ x ∈ l,P x)→P (l.foldl (fun h x=>(if rcmp x h.1<0 then x else h.1,if 0<rcmp x h.2 then x else h.2)) h).1∧P (l.foldl (fun h x=>(if rcmp x h.1<0 then x else h.1,if 0<rcmp x h.2 then x else h.2)) h).2
 | [],_,h1,h2,_=>⟨h1,h2⟩
 | x :: l,h,h1,h2,hl=>by
  rw [List.foldl_cons];have hx:=hl x List.mem_cons_self;refine zmc P l _ ?_ ?_ (fun y hy=>hl y (List.mem_cons_of_mem _ hy))
  ·dsimp only
   split
   ·exact hx
   ·exact h1
  ·dsimp only
   split
   ·exact hx
   ·exact h2
theorem zl1 (a:Q) (P:Q→Prop) (ha:P a) (l:List Q) (hl:∀ x ∈ l,P x):P (encQ a l).1∧P (encQ a l).2:=zmc P l (a,a) ha ha hl
def RowQ (w:World) (g:Nat) (qs:List Q):Prop:=
 g<w.heap.size∧∀ i (h:i<qs.length),∃ A m c A' m' c',w.cell? ⟨g,i*3,none⟩=some (.bool qs[i].neg)∧w.cell? ⟨g,i*3+1,none⟩=some (.slice A m c)∧w.cell? ⟨g,i*3+2,none⟩=some (.slice A' m' c')∧NatS w w.heap.size A m c qs[i].top∧NatS w w.heap.size A' m' c' qs[i].bot
theorem RowQ.later {w w':World} {g:Nat} {qs:List Q} (h:RowQ w g qs) (hb:Below w.heap.size w w'):RowQ w' g qs:=by
 refine ⟨Nat.lt_of_lt_of_le h.1 hb.size,fun i hi => ?_⟩;obtain ⟨A,m,c,A',m',c',h0,h1,h2,h3,h4⟩:=h.2 i hi;exact ⟨A,m,c,A',m',c',(hb.cell h.1).trans h0,(hb.cell h.1).trans h1,(hb.cell h.1).trans h2,h3.later hb,h4.later hb⟩
theorem RowQ.store {w:World} {g g' i:Nat} {qs:List Q} {cs:Array Value} {t:TypeId} (h:RowQ w g qs) (hk:CBlk w g' cs t) (hn:zcV cs) (hne:g'≠g) (u:Value):RowQ (w.setCell ⟨g',i,none⟩ u) g qs:=by
 have aA:(w.setCell ⟨g',i,none⟩ u).heap.size=w.heap.size:=by simp [World.setCell]
 refine ⟨by rw [aA];exact h.1,fun j hj => ?_⟩;obtain ⟨A,m,c,A',m',c',h0,h1,h2,h3,h4⟩:=h.2 j hj;refine ⟨A,m,c,A',m',c',?_,?_,?_,by rw [aA];exact h3.store hk hn u,by rw [aA];exact h4.store hk hn u⟩
 ·rw [World.cell?_setCell_far _ _ _ _ (by exact hne)];exact h0
 ·rw [World.cell?_setCell_far _ _ _ _ (by exact hne)];exact h1
 ·rw [World.cell?_setCell_far _ _ _ _ (by exact hne)];exact h2
theorem CBlk.setFar {w:World} {g g' i:Nat} {c:Array Value} {t:TypeId} (h:CBlk w g c t) (hne:g'≠g) (u:Value):CBlk (w.setCell ⟨g',i,none⟩ u) g c t:=
 (Below.heap_setCell w ⟨g',i,none⟩ u g (fun e=>hne e.symm)).trans h
def Hull (w:World) (gh:Nat) (lo hi:Q):Prop:=∃ (A1:Option Addr) (n1 c1:Nat) (A2:Option Addr) (n2 c2:Nat) (A3:Option Addr) (n3 c3:Nat) (A4:Option Addr) (n4 c4:Nat),
 CBlk w gh #[.bool lo.neg,.slice A1 n1 c1,.slice A2 n2 c2,.bool hi.neg,.slice A3 n3 c3,.slice A4 n4 c4] 91∧NatS w w.heap.size A1 n1 c1 lo.top∧NatS w w.heap.size A2 n2 c2 lo.bot∧NatS w w.heap.size A3 n3 c3 hi.top∧NatS w w.heap.size A4 n4 c4 hi.bot
theorem Hull.later {w w':World} {gh:Nat} {lo hi:Q} (h:Hull w gh lo hi) (hb:Below w.heap.size w w'):Hull w' gh lo hi:=by
 obtain ⟨A1,n1,c1,A2,n2,c2,A3,n3,c3,A4,n4,c4,hk,h1,h2,h3,h4⟩:=h;exact ⟨A1,n1,c1,A2,n2,c2,A3,n3,c3,A4,n4,c4,hk.below hb hk.lt,h1.later hb,h2.later hb,h3.later hb,h4.later hb⟩
theorem Hull.blk {w:World} {gh:Nat} {lo hi:Q} (h:Hull w gh lo hi):∃ cs t,CBlk w gh cs t∧zcV cs:=by
 obtain ⟨A1,n1,c1,A2,n2,c2,A3,n3,c3,A4,n4,c4,hk,_⟩:=h;exact ⟨_,_,hk,za4 _ _ _ _ _ _ _ _ _ _ _ _ _ _⟩
theorem NatS.store3 {w:World} {n c x g:Nat} {A:Option Addr} {cs:Array Value} {t:TypeId} (h:NatS w w.heap.size A n c x) (hk:CBlk w g cs t) (hn:zcV cs) (i j k:Nat) (b:Bool) (A1 A2:Option Addr) (n1 c1 n2 c2:Nat) :
  NatS (((w.setCell ⟨g,i,none⟩ (.bool b)).setCell ⟨g,j,none⟩ (.slice A1 n1 c1)).setCell ⟨g,k,none⟩ (.slice A2 n2 c2)) (((w.setCell ⟨g,i,none⟩ (.bool b)).setCell ⟨g,j,none⟩ (.slice A1 n1 c1)).setCell ⟨g,k,none⟩ (.slice A2 n2 c2)).heap.size A n c x:=by
 have k1:=hk.set i (.bool b);have aA:=hn.set i (u := .bool b) (fun _ _ h=>by cases h);have k2:=k1.set j (.slice A1 n1 c1);have aC:=aA.set j (u := .slice A1 n1 c1) (fun _ _ h=>by cases h);rw [zag];exact ((h.store hk hn _).store k1 aA _).store k2 aC _
theorem RowQ.store3 {w:World} {g g':Nat} {qs:List Q} {cs:Array Value} {t:TypeId} (h:RowQ w g qs) (hk:CBlk w g' cs t) (hn:zcV cs) (hne:g'≠g) (i j k:Nat) (b:Bool) (A1 A2:Option Addr) (n1 c1 n2 c2:Nat) :
  RowQ (((w.setCell ⟨g',i,none⟩ (.bool b)).setCell ⟨g',j,none⟩ (.slice A1 n1 c1)).setCell ⟨g',k,none⟩ (.slice A2 n2 c2)) g qs:=by
 have k1:=hk.set i (.bool b);have aA:=hn.set i (u := .bool b) (fun _ _ h=>by cases h);have k2:=k1.set j (.slice A1 n1 c1);have aC:=aA.set j (u := .slice A1 n1 c1) (fun _ _ h=>by cases h);exact ((h.store hk hn hne _).store k1 aA hne _).store k2 aC hne _
theorem Hull.low {w:World} {gh:Nat} {lo hi x:Q} (h:Hull w gh lo hi) {D1 D2:Option Addr} {e1 f1 e2 f2:Nat} (l1:NatS w w.heap.size D1 e1 f1 x.top) (l2:NatS w w.heap.size D2 e2 f2 x.bot) :
  Hull (((w.setCell ⟨gh,0,none⟩ (.bool x.neg)).setCell ⟨gh,1,none⟩ (.slice D1 e1 f1)).setCell ⟨gh,2,none⟩ (.slice D2 e2 f2)) gh x hi:=by
 obtain ⟨A1,n1,c1,A2,n2,c2,A3,n3,c3,A4,n4,c4,hk,h1,h2,h3,h4⟩:=h;have hn:=za4 lo.neg hi.neg A1 A2 A3 A4 n1 c1 n2 c2 n3 c3 n4 c4;exact ⟨D1,e1,f1,D2,e2,f2,A3,n3,c3,A4,n4,c4,((hk.set 0 _).set 1 _).set 2 _,l1.store3 hk hn 0 1 2 _ _ _ _ _ _ _,l2.store3 hk hn 0 1 2 _ _ _ _ _ _ _,h3.store3 hk hn 0 1 2 _ _ _ _ _ _ _,h4.store3 hk hn 0 1 2 _ _ _ _ _ _ _⟩
theorem Hull.high {w:World} {gh:Nat} {lo hi x:Q} (h:Hull w gh lo hi) {D1 D2:Option Addr} {e1 f1 e2 f2:Nat} (l1:NatS w w.heap.size D1 e1 f1 x.top) (l2:NatS w w.heap.size D2 e2 f2 x.bot) :
  Hull (((w.setCell ⟨gh,3,none⟩ (.bool x.neg)).setCell ⟨gh,4,none⟩ (.slice D1 e1 f1)).setCell ⟨gh,5,none⟩ (.slice D2 e2 f2)) gh lo x:=by
 obtain ⟨A1,n1,c1,A2,n2,c2,A3,n3,c3,A4,n4,c4,hk,h1,h2,h3,h4⟩:=h;have hn:=za4 lo.neg hi.neg A1 A2 A3 A4 n1 c1 n2 c2 n3 c3 n4 c4;exact ⟨A1,n1,c1,A2,n2,c2,D1,e1,f1,D2,e2,f2,((hk.set 3 _).set 4 _).set 5 _,h1.store3 hk hn 3 4 5 _ _ _ _ _ _ _,h2.store3 hk hn 3 4 5 _ _ _ _ _ _ _,l1.store3 hk hn 3 4 5 _ _ _ _ _ _ _,l2.store3 hk hn 3 4 5 _ _ _ _ _ _ _⟩
theorem zdK {a w:World} {B g:Nat} (h:Below B a w) (hg:B≤g) (i j k:Nat) (u v x:Value):Below B a (((w.setCell ⟨g,i,none⟩ u).setCell ⟨g,j,none⟩ v).setCell ⟨g,k,none⟩ x):=
 ((h.setCell (p:=⟨g,i,none⟩) hg _).setCell (p:=⟨g,j,none⟩) hg _).setCell (p:=⟨g,k,none⟩) hg _
set_option maxHeartbeats 4000000 in
set_option maxRecDepth 100000 in
theorem zhd (p:Q) (qs:List Q) (v:Value) (g n c:Nat) (w:World) (hv:RatS w w.heap.size v p) (hr:RowQ w g qs) (hl:qs.length=n) (hn:n≤c) (hc:c≤4096) (hp:LenQ p 268435456) (hq:∀ x ∈ qs,LenQ x 268435456) :
  Calls Tryz.prog 144 #[v,.slice (some ⟨g,0,none⟩) n c] w (zd4 w (encQ p qs).1 (encQ p qs).2):=by
 obtain ⟨A1,n1,c1,A2,n2,c2,rfl,h1,h2⟩:=hv;have HL:=Aa hl;clear hl;have bK:Below w.heap.size w ((w.alloc (.cells #[.bool p.neg,.slice A1 n1 c1,.slice A2 n2 c2] 87)).alloc (.cells #[.bool false,.slice none 0 0,.slice none 0 0,.bool false,.slice none 0 0,.slice none 0 0] 91)):=(((Below.refl _ _).alloc (by simp<;>omega) _).alloc (by simp<;>omega) _);have q0:CBlk ((w.alloc (.cells #[.bool p.neg,.slice A1 n1 c1,.slice A2 n2 c2] 87)).alloc (.cells #[.bool false,.slice none 0 0,.slice none 0 0,.bool false,.slice none 0 0,.slice none 0 0] 91)) (w.heap.size) #[.bool p.neg,.slice A1 n1 c1,.slice A2 n2 c2] 87:=((CBlk.new _ _ _ _ (by simp)).alloc _);have q1:CBlk ((w.alloc (.cells #[.bool p.neg,.slice A1 n1 c1,.slice A2 n2 c2] 87)).alloc (.cells #[.bool false,.slice none 0 0,.slice none 0 0,.bool false,.slice none 0 0,.slice none 0 0] 91)) (w.heap.size+1) #[.bool false,.slice none 0 0,.slice none 0 0,.bool false,.slice none 0 0,.slice none 0 0] 91:=(CBlk.new _ _ _ _ (by simp));have bR:=hr.later bK;have cE:=h1.later bK;have cG:=h2.later bK;clear hr h1 h2;go_enter Tryz.func144,Tryz.ntmps144
 go_upto_region 1 with (fail)
 generalize ((w.alloc (.cells #[.bool p.neg,.slice A1 n1 c1,.slice A2 n2 c2] 87)).alloc (.cells #[.bool false,.slice none 0 0,.slice none 0 0,.bool false,.slice none 0 0,.slice none 0 0] 91))=W at *;have a0:=q0.cell 0;have a1:=q0.cell 1;have a2:=q0.cell 2
 go_wp2_with fail
 refine (zkr p _ W (RatS.mk cE cG)).mono ?_;rintro e w2 ⟨v2,rfl,⟨B1,m1,d1,B2,m2,d2,B3,m3,d3,B4,m4,d4,rfl,k1,k2,k3,k4⟩,bU⟩;have bY:=Ad bK bU;have cB:=q1.below bU q1.lt;have bL:=bR.later bU;clear a0 a1 a2 q0 q1 bR cE cG bU bK;obtain ⟨gh,bZ⟩:∃ gh,gh=w2.heap.size:=⟨_,rfl⟩;have cN:Below w.heap.size w (w2.alloc (.cells #[.bool p.neg,.slice B1 m1 d1,.slice B2 m2 d2,.bool p.neg,.slice B3 m3 d3,.slice B4 m4 d4] 91)):=bY.alloc bY.size _;have bO:Below w2.heap.size w2 (w2.alloc (.cells #[.bool p.neg,.slice B1 m1 d1,.slice B2 m2 d2,.bool p.neg,.slice B3 m3 d3,.slice B4 m4 d4] 91)):=Ac;have qh:CBlk (w2.alloc (.cells #[.bool p.neg,.slice B1 m1 d1,.slice B2 m2 d2,.bool p.neg,.slice B3 m3 d3,.slice B4 m4 d4] 91)) gh #[.bool p.neg,.slice B1 m1 d1,.slice B2 m2 d2,.bool p.neg,.slice B3 m3 d3,.slice B4 m4 d4] 91:=CBlk.new _ _ _ _ bZ;have cM:=cB.alloc (.cells #[.bool p.neg,.slice B1 m1 d1,.slice B2 m2 d2,.bool p.neg,.slice B3 m3 d3,.slice B4 m4 d4] 91);have cQ:=bL.later bO;have bT:gh≠g:=by have:=bL.1;omega
 have cI:w.heap.size+1<gh:=by have:=cB.lt;omega
 have cK:=k1.later bO;have cP:=k2.later bO;have cJ:=k3.later bO;have cR:=k4.later bO;have HG:=Aa bZ;clear bZ cB bL bY k1 k2 k3 k4 bO;go_upto_region 3 with (fail)
 rw [←HG.out];generalize (w2.alloc (.cells #[.bool p.neg,.slice B1 m1 d1,.slice B2 m2 d2,.bool p.neg,.slice B3 m3 d3,.slice B4 m4 d4] 91))=w3 at *
 go_wp2_with fail
 go_loopw [12] (fun iv wr=>∃ k:Nat,k≤n∧iv = .int .i64 (k:Int)∧Hull wr gh (encQ p (qs.take k)).1 (encQ p (qs.take k)).2∧RowQ wr g qs∧CBlk wr (w.heap.size+1) #[.bool false,.slice none 0 0,.slice none 0 0,.bool false,.slice none 0 0,.slice none 0 0] 91∧Below w.heap.size w wr) (fun iv _=>n - (intOf iv).toNat)
 case atStart=>exact ⟨0,Nat.zero_le _,rfl,⟨B1,m1,d1,B2,m2,d2,B3,m3,d3,B4,m4,d4,qh,cK,cP,cJ,cR⟩,cQ,cM,cN⟩
 case round=>
  obtain ⟨k,hk,rfl,hH,bV,qz,hB⟩:=hrel
  by_cases hlt:k<n
  ·have cC:k<qs.length:=by rw [HL.out];exact hlt
   obtain ⟨D1,e1,f1,D2,e2,f2,x0,x1,x2,l1,l2⟩:=bV.2 k cC;have cA:=hq qs[k] (List.getElem_mem cC);have bN:encQ p (qs.take (k+1))=(if rcmp qs[k] (encQ p (qs.take k)).1<0 then qs[k] else (encQ p (qs.take k)).1,if 0<rcmp qs[k] (encQ p (qs.take k)).2 then qs[k] else (encQ p (qs.take k)).2):=by
    rw [List.take_succ_eq_append_getElem cC,zlW]
   have bS:=zl1 p (fun q=>LenQ q 268435456) hp (qs.take k) (fun x hx=>hq x (List.mem_of_mem_take hx));generalize qs[k]=x at *;obtain ⟨lo,cH⟩:∃ lo,lo=(encQ p (qs.take k)).1:=⟨_,rfl⟩;obtain ⟨hi,cF⟩:∃ hi,hi=(encQ p (qs.take k)).2:=⟨_,rfl⟩;rw [←cH] at hH bN bS;rw [←cF] at hH bN bS;clear cH cF;have bQ:=Aa (fun v u W h1 h2=>zbw x lo v u W h1 h2 cA bS.1);have bP:=Aa (fun v u W h1 h2=>zbw x hi v u W h1 h2 cA bS.2);obtain ⟨r1,bR⟩:∃ r1,r1=rcmp x lo:=⟨_,rfl⟩;obtain ⟨r2,bL⟩:∃ r2,r2=rcmp x hi:=⟨_,rfl⟩;rw [←bR] at bQ bN;rw [←bL] at bP bN;have bW:=Aa bN;clear bR bL bN bS cA;have bM:Below wr.heap.size wr (wr.alloc (.cells #[.bool x.neg,.slice D1 e1 f1,.slice D2 e2 f2] 87)):=Ac;have qx:CBlk (wr.alloc (.cells #[.bool x.neg,.slice D1 e1 f1,.slice D2 e2 f2] 87)) wr.heap.size #[.bool x.neg,.slice D1 e1 f1,.slice D2 e2 f2] 87:=CBlk.new _ _ _ _ rfl;have aT:=qz.alloc (.cells #[.bool x.neg,.slice D1 e1 f1,.slice D2 e2 f2] 87);have aR:=hH.later bM;have bD:=bV.later bM;have aQ:=l1.later bM;have aU:=l2.later bM;have aS:=Ad hB bM;have aM:gh≠wr.heap.size:=by
    obtain ⟨_,_,_,_,_,_,_,_,_,_,_,_,hk,_⟩:=hH;have:=hk.lt;omega
   obtain ⟨gx,bX⟩:∃ gx,gx=wr.heap.size:=⟨_,rfl⟩;rw [←bX] at qx aM;have cO:=Aa bX;clear bX bM hH bV qz hB l1 l2;go_upto_region 5 with (fail)
   rw [←cO.out];generalize (wr.alloc (.cells #[.bool x.neg,.slice D1 e1 f1,.slice D2 e2 f2] 87))=wx at *;clear x0 x1 x2
   by_cases hd1:r1<0
   ·have d1:decide (r1<0)=true:=by simpa using hd1
    have aG:=Aa hd1;clear hd1
    by_cases hd2:0<r2
    ·have d2:decide (0<r2)=true:=by simpa using hd2
     have aF:=Aa hd2;clear hd2;obtain ⟨A1,n1,c1,A2,n2,c2,A3,n3,c3,A4,n4,c4,aA,h1,h2,h3,h4⟩:=id aR;have y0:=aA.cell 0;have y1:=aA.cell 1;have y2:=aA.cell 2;have b0:=qx.cell 0;have b1:=qx.cell 1;have b2:=qx.cell 2
     go_wp2_with fail
     refine (bQ.out _ _ wx (RatS.mk aQ aU) (RatS.mk h1 h2)).mono ?_;rintro e w5 ⟨rfl,aC⟩;have aN:=aR.later aC;have aY:=bD.later aC;have q5:=qx.below aC qx.lt;have aW:=aT.below aC aT.lt;have aP:=aQ.later aC;have aO:=aU.later aC;have aZ:=Ad aS aC;clear y0 y1 y2 b0 b1 b2 aA h1 h2 h3 h4 aR bD qx aT aQ aU aS aC;obtain ⟨A1,n1,c1,A2,n2,c2,A3,n3,c3,A4,n4,c4,aA,h1,h2,h3,h4⟩:=id aN;have y0:=aA.cell 0;have y1:=aA.cell 1;have y2:=aA.cell 2;have z0:=aA.frozen 0;have z1:=aA.frozen 1;have z2:=aA.frozen 2;have b0:=q5.cell 0;have b1:=q5.cell 1;have b2:=q5.cell 2;have hn:=za4 lo.neg hi.neg A1 A2 A3 A4 n1 c1 n2 c2 n3 c3 n4 c4;have aL:=aN.low aP aO;have aV:=aY.store3 aA hn bT 0 1 2 x.neg D1 D2 e1 f1 e2 f2;have q6:=((q5.setFar (i:=0) aM (.bool x.neg)).setFar (i:=1) aM (.slice D1 e1 f1)).setFar (i:=2) aM (.slice D2 e2 f2);have aK:=((aW.setFar (i:=0) (g':=gh) (by omega) (.bool x.neg)).setFar (i:=1) (g':=gh) (by omega) (.slice D1 e1 f1)).setFar (i:=2) (g':=gh) (by omega) (.slice D2 e2 f2);have aJ:=aP.store3 aA hn 0 1 2 x.neg D1 D2 e1 f1 e2 f2;have aH:=aO.store3 aA hn 0 1 2 x.neg D1 D2 e1 f1 e2 f2;have aI:=zdK aZ (g:=gh) (by omega) 0 1 2 (.bool x.neg) (.slice D1 e1 f1) (.slice D2 e2 f2);clear aA h1 h2 h3 h4 aN aY q5 aW aP aO aZ hn;go_upto_region 7 with (fail)
     generalize (((w5.setCell ⟨gh,0,none⟩ (.bool x.neg)).setCell ⟨gh,1,none⟩ (.slice D1 e1 f1)).setCell ⟨gh,2,none⟩ (.slice D2 e2 f2))=w6 at *;clear y0 y1 y2 z0 z1 z2 b0 b1 b2;obtain ⟨A1,n1,c1,A2,n2,c2,A3,n3,c3,A4,n4,c4,aA,h1,h2,h3,h4⟩:=id aL;have y3:=aA.cell 3;have y4:=aA.cell 4;have y5:=aA.cell 5;have b0:=q6.cell 0;have b1:=q6.cell 1;have b2:=q6.cell 2
     go_wp2_with fail
     refine (bP.out _ _ w6 (RatS.mk aJ aH) (RatS.mk h3 h4)).mono ?_;rintro e w7 ⟨rfl,aD⟩;have aX:=aL.later aD;have bA:=aV.later aD;have q7:=q6.below aD q6.lt;have bC:=aK.below aD aK.lt;have bH:=aJ.later aD;have bG:=aH.later aD;have bB:=Ad aI aD;clear y3 y4 y5 b0 b1 b2 aA h1 h2 h3 h4 aL aV q6 aK aJ aH aI aD;obtain ⟨A1,n1,c1,A2,n2,c2,A3,n3,c3,A4,n4,c4,aA,h1,h2,h3,h4⟩:=id aX;have y3:=aA.cell 3;have y4:=aA.cell 4;have y5:=aA.cell 5;have z3:=aA.frozen 3;have z4:=aA.frozen 4;have z5:=aA.frozen 5;have b0:=q7.cell 0;have b1:=q7.cell 1;have b2:=q7.cell 2;have hn:=za4 x.neg hi.neg A1 A2 A3 A4 n1 c1 n2 c2 n3 c3 n4 c4;have aE:=aX.high bH bG;have bI:=bA.store3 aA hn bT 3 4 5 x.neg D1 D2 e1 f1 e2 f2;have bE:=((bC.setFar (i:=3) (g':=gh) (by omega) (.bool x.neg)).setFar (i:=4) (g':=gh) (by omega) (.slice D1 e1 f1)).setFar (i:=5) (g':=gh) (by omega) (.slice D2 e2 f2);have bJ:=zdK bB (g:=gh) (by omega) 3 4 5 (.bool x.neg) (.slice D1 e1 f1) (.slice D2 e2 f2);clear aA h1 h2 h3 h4 aX bA bC bH bG bB hn
     go_wp2_with fail
     go_roundw
     case rel=>exact ⟨k+1,by omega,by go_num,by rw [bW.out];first | (rw [if_pos (by have:=aG.out;omega),if_pos (by have:=aF.out;omega)];exact aE) | (rw [if_pos (by have:=aG.out;omega),if_neg (by have:=aF.out;omega)];exact aE) | (rw [if_neg (by have:=aG.out;omega),if_pos (by have:=aF.out;omega)];exact aE) | (rw [if_neg (by have:=aG.out;omega),if_neg (by have:=aF.out;omega)];exact aE),bI,bE,bJ⟩
     case measure=>simp [intOf]<;>omega
    ·have d2:decide (0<r2)=false:=by simpa using hd2
     have aF:=Aa hd2;clear hd2;obtain ⟨A1,n1,c1,A2,n2,c2,A3,n3,c3,A4,n4,c4,aA,h1,h2,h3,h4⟩:=id aR;have y0:=aA.cell 0;have y1:=aA.cell 1;have y2:=aA.cell 2;have b0:=qx.cell 0;have b1:=qx.cell 1;have b2:=qx.cell 2
     go_wp2_with fail
     refine (bQ.out _ _ wx (RatS.mk aQ aU) (RatS.mk h1 h2)).mono ?_;rintro e w5 ⟨rfl,aC⟩;have aN:=aR.later aC;have aY:=bD.later aC;have q5:=qx.below aC qx.lt;have aW:=aT.below aC aT.lt;have aP:=aQ.later aC;have aO:=aU.later aC;have aZ:=Ad aS aC;clear y0 y1 y2 b0 b1 b2 aA h1 h2 h3 h4 aR bD qx aT aQ aU aS aC;obtain ⟨A1,n1,c1,A2,n2,c2,A3,n3,c3,A4,n4,c4,aA,h1,h2,h3,h4⟩:=id aN;have y0:=aA.cell 0;have y1:=aA.cell 1;have y2:=aA.cell 2;have z0:=aA.frozen 0;have z1:=aA.frozen 1;have z2:=aA.frozen 2;have b0:=q5.cell 0;have b1:=q5.cell 1;have b2:=q5.cell 2;have hn:=za4 lo.neg hi.neg A1 A2 A3 A4 n1 c1 n2 c2 n3 c3 n4 c4;have aL:=aN.low aP aO;have aV:=aY.store3 aA hn bT 0 1 2 x.neg D1 D2 e1 f1 e2 f2;have q6:=((q5.setFar (i:=0) aM (.bool x.neg)).setFar (i:=1) aM (.slice D1 e1 f1)).setFar (i:=2) aM (.slice D2 e2 f2);have aK:=((aW.setFar (i:=0) (g':=gh) (by omega) (.bool x.neg)).setFar (i:=1) (g':=gh) (by omega) (.slice D1 e1 f1)).setFar (i:=2) (g':=gh) (by omega) (.slice D2 e2 f2);have aJ:=aP.store3 aA hn 0 1 2 x.neg D1 D2 e1 f1 e2 f2;have aH:=aO.store3 aA hn 0 1 2 x.neg D1 D2 e1 f1 e2 f2;have aI:=zdK aZ (g:=gh) (by omega) 0 1 2 (.bool x.neg) (.slice D1 e1 f1) (.slice D2 e2 f2);clear aA h1 h2 h3 h4 aN aY q5 aW aP aO aZ hn;go_upto_region 7 with (fail)
     generalize (((w5.setCell ⟨gh,0,none⟩ (.bool x.neg)).setCell ⟨gh,1,none⟩ (.slice D1 e1 f1)).setCell ⟨gh,2,none⟩ (.slice D2 e2 f2))=w6 at *;clear y0 y1 y2 z0 z1 z2 b0 b1 b2;obtain ⟨A1,n1,c1,A2,n2,c2,A3,n3,c3,A4,n4,c4,aA,h1,h2,h3,h4⟩:=id aL;have y3:=aA.cell 3;have y4:=aA.cell 4;have y5:=aA.cell 5;have b0:=q6.cell 0;have b1:=q6.cell 1;have b2:=q6.cell 2
     go_wp2_with fail
     refine (bP.out _ _ w6 (RatS.mk aJ aH) (RatS.mk h3 h4)).mono ?_;rintro e w7 ⟨rfl,aD⟩;have aX:=aL.later aD;have bA:=aV.later aD;have q7:=q6.below aD q6.lt;have bC:=aK.below aD aK.lt;have bH:=aJ.later aD;have bG:=aH.later aD;have bB:=Ad aI aD;clear y3 y4 y5 b0 b1 b2 aA h1 h2 h3 h4 aL aV q6 aK aJ aH aI aD;have aE:=aX;have bI:=bA;have bE:=bC;have bJ:=bB
     go_wp2_with fail
     go_roundw
     case rel=>exact ⟨k+1,by omega,by go_num,by rw [bW.out];first | (rw [if_pos (by have:=aG.out;omega),if_pos (by have:=aF.out;omega)];exact aE) | (rw [if_pos (by have:=aG.out;omega),if_neg (by have:=aF.out;omega)];exact aE) | (rw [if_neg (by have:=aG.out;omega),if_pos (by have:=aF.out;omega)];exact aE) | (rw [if_neg (by have:=aG.out;omega),if_neg (by have:=aF.out;omega)];exact aE),bI,bE,bJ⟩
     case measure=>simp [intOf]<;>omega
   ·have d1:decide (r1<0)=false:=by simpa using hd1
    have aG:=Aa hd1;clear hd1
    by_cases hd2:0<r2
    ·have d2:decide (0<r2)=true:=by simpa using hd2
     have aF:=Aa hd2;clear hd2;obtain ⟨A1,n1,c1,A2,n2,c2,A3,n3,c3,A4,n4,c4,aA,h1,h2,h3,h4⟩:=id aR;have y0:=aA.cell 0;have y1:=aA.cell 1;have y2:=aA.cell 2;have b0:=qx.cell 0;have b1:=qx.cell 1;have b2:=qx.cell 2
     go_wp2_with fail
     refine (bQ.out _ _ wx (RatS.mk aQ aU) (RatS.mk h1 h2)).mono ?_;rintro e w5 ⟨rfl,aC⟩;have aN:=aR.later aC;have aY:=bD.later aC;have q5:=qx.below aC qx.lt;have aW:=aT.below aC aT.lt;have aP:=aQ.later aC;have aO:=aU.later aC;have aZ:=Ad aS aC;clear y0 y1 y2 b0 b1 b2 aA h1 h2 h3 h4 aR bD qx aT aQ aU aS aC;have aL:=aN;have aV:=aY;have q6:=q5;have aK:=aW;have aJ:=aP;have aH:=aO;have aI:=aZ;clear aN aY q5 aW aP aO aZ;obtain ⟨A1,n1,c1,A2,n2,c2,A3,n3,c3,A4,n4,c4,aA,h1,h2,h3,h4⟩:=id aL;have y3:=aA.cell 3;have y4:=aA.cell 4;have y5:=aA.cell 5;have b0:=q6.cell 0;have b1:=q6.cell 1;have b2:=q6.cell 2
     go_wp2_with fail
     refine (bP.out _ _ w5 (RatS.mk aJ aH) (RatS.mk h3 h4)).mono ?_;rintro e w7 ⟨rfl,aD⟩;have aX:=aL.later aD;have bA:=aV.later aD;have q7:=q6.below aD q6.lt;have bC:=aK.below aD aK.lt;have bH:=aJ.later aD;have bG:=aH.later aD;have bB:=Ad aI aD;clear y3 y4 y5 b0 b1 b2 aA h1 h2 h3 h4 aL aV q6 aK aJ aH aI aD;obtain ⟨A1,n1,c1,A2,n2,c2,A3,n3,c3,A4,n4,c4,aA,h1,h2,h3,h4⟩:=id aX;have y3:=aA.cell 3;have y4:=aA.cell 4;have y5:=aA.cell 5;have z3:=aA.frozen 3;have z4:=aA.frozen 4;have z5:=aA.frozen 5;have b0:=q7.cell 0;have b1:=q7.cell 1;have b2:=q7.cell 2;have hn:=za4 lo.neg hi.neg A1 A2 A3 A4 n1 c1 n2 c2 n3 c3 n4 c4;have aE:=aX.high bH bG;have bI:=bA.store3 aA hn bT 3 4 5 x.neg D1 D2 e1 f1 e2 f2;have bE:=((bC.setFar (i:=3) (g':=gh) (by omega) (.bool x.neg)).setFar (i:=4) (g':=gh) (by omega) (.slice D1 e1 f1)).setFar (i:=5) (g':=gh) (by omega) (.slice D2 e2 f2);have bJ:=zdK bB (g:=gh) (by omega) 3 4 5 (.bool x.neg) (.slice D1 e1 f1) (.slice D2 e2 f2);clear aA h1 h2 h3 h4 aX bA bC bH bG bB hn
     go_wp2_with fail
     go_roundw
     case rel=>exact ⟨k+1,by omega,by go_num,by rw [bW.out];first | (rw [if_pos (by have:=aG.out;omega),if_pos (by have:=aF.out;omega)];exact aE) | (rw [if_pos (by have:=aG.out;omega),if_neg (by have:=aF.out;omega)];exact aE) | (rw [if_neg (by have:=aG.out;omega),if_pos (by have:=aF.out;omega)];exact aE) | (rw [if_neg (by have:=aG.out;omega),if_neg (by have:=aF.out;omega)];exact aE),bI,bE,bJ⟩
     case measure=>simp [intOf]<;>omega
    ·have d2:decide (0<r2)=false:=by simpa using hd2
     have aF:=Aa hd2;clear hd2;obtain ⟨A1,n1,c1,A2,n2,c2,A3,n3,c3,A4,n4,c4,aA,h1,h2,h3,h4⟩:=id aR;have y0:=aA.cell 0;have y1:=aA.cell 1;have y2:=aA.cell 2;have b0:=qx.cell 0;have b1:=qx.cell 1;have b2:=qx.cell 2
     go_wp2_with fail
     refine (bQ.out _ _ wx (RatS.mk aQ aU) (RatS.mk h1 h2)).mono ?_;rintro e w5 ⟨rfl,aC⟩;have aN:=aR.later aC;have aY:=bD.later aC;have q5:=qx.below aC qx.lt;have aW:=aT.below aC aT.lt;have aP:=aQ.later aC;have aO:=aU.later aC;have aZ:=Ad aS aC;clear y0 y1 y2 b0 b1 b2 aA h1 h2 h3 h4 aR bD qx aT aQ aU aS aC;have aL:=aN;have aV:=aY;have q6:=q5;have aK:=aW;have aJ:=aP;have aH:=aO;have aI:=aZ;clear aN aY q5 aW aP aO aZ;obtain ⟨A1,n1,c1,A2,n2,c2,A3,n3,c3,A4,n4,c4,aA,h1,h2,h3,h4⟩:=id aL;have y3:=aA.cell 3;have y4:=aA.cell 4;have y5:=aA.cell 5;have b0:=q6.cell 0;have b1:=q6.cell 1;have b2:=q6.cell 2
     go_wp2_with fail
     refine (bP.out _ _ w5 (RatS.mk aJ aH) (RatS.mk h3 h4)).mono ?_;rintro e w7 ⟨rfl,aD⟩;have aX:=aL.later aD;have bA:=aV.later aD;have q7:=q6.below aD q6.lt;have bC:=aK.below aD aK.lt;have bH:=aJ.later aD;have bG:=aH.later aD;have bB:=Ad aI aD;clear y3 y4 y5 b0 b1 b2 aA h1 h2 h3 h4 aL aV q6 aK aJ aH aI aD;have aE:=aX;have bI:=bA;have bE:=bC;have bJ:=bB
     go_wp2_with fail
     go_roundw
     case rel=>exact ⟨k+1,by omega,by go_num,by rw [bW.out];first | (rw [if_pos (by have:=aG.out;omega),if_pos (by have:=aF.out;omega)];exact aE) | (rw [if_pos (by have:=aG.out;omega),if_neg (by have:=aF.out;omega)];exact aE) | (rw [if_neg (by have:=aG.out;omega),if_pos (by have:=aF.out;omega)];exact aE) | (rw [if_neg (by have:=aG.out;omega),if_neg (by have:=aF.out;omega)];exact aE),bI,bE,bJ⟩
     case measure=>simp [intOf]<;>omega
  ·obtain rfl:k=n:=by omega
   have bF:encQ p (qs.take k)=encQ p qs:=by rw [List.take_of_length_le (by rw [HL.out];exact Nat.le_refl _)]
   rw [bF] at hH;have HF:=Aa bF;obtain ⟨A1,n1,c1,A2,n2,c2,A3,n3,c3,A4,n4,c4,aA,h1,h2,h3,h4⟩:=hH;obtain ⟨E,hE⟩:∃ E,E=encQ p qs:=⟨_,rfl⟩;rw [←hE] at aA h1 h2 h3 h4;have cL:=Aa hE;clear hE bF;have a0:=aA.cell 0;have a1:=aA.cell 1;have a2:=aA.cell 2;have a3:=aA.cell 3;have a4:=aA.cell 4;have a5:=aA.cell 5;have y0:=qz.cell 0;have y1:=qz.cell 1;have y2:=qz.cell 2;have y3:=qz.cell 3;have y4:=qz.cell 4;have y5:=qz.cell 5;have z0:=qz.frozen 0;have z1:=qz.frozen 1;have z2:=qz.frozen 2;have z3:=qz.frozen 3;have z4:=qz.frozen 4;have z5:=qz.frozen 5;have hI:=zdj (p:=E.1) (q:=E.2) qz hB (by omega) rfl h1 h2 h3 h4;unfold Go.Proofs.YtbkgkoenppkhpaaGreatDoor.set6 at hI;have HI:=Aa hI;clear hI h1 h2 h3 h4 hB bV;go_wp2
   refine bodyPost_ret (v := .agg #[.bool E.1.neg,.slice A1 n1 c1,.slice A2 n2 c2,.bool E.2.neg,.slice A3 n3 c3,.slice A4 n4 c4]) (by simp [results,Tryz.results144,go_sem,y0,y1,y2,y3,y4,y5]) rfl ⟨_,rfl,by rw [←cL.out];exact HI.out⟩
end Go.Proofs.YtbkgkoenppkhpaaGreatDoor
