/- Contract of package number's enclosing. -/
import Derived.Test.YtmkondcdejlhcaaGreatDoorFSp1
namespace Go.Proofs.YtmkondcdejlhcaaGreatDoor
open Go.RowKit Bn
def encQ (a:Q) (l:List Q):Q × Q:=l.foldl (fun h x=>(if rcmp x h.1<0 then x else h.1,if 0<rcmp x h.2 then x else h.2)) (a,a)
theorem zmS(a:Q)(l:List Q)(x:Q):encQ a (l++[x])=(if rcmp x (encQ a l).1<0 then x else(encQ a l).1,if 0<rcmp x (encQ a l).2 then x else(encQ a l).2):=by
 unfold encQ;rw[List.foldl_append];rfl
theorem zhw(P:Q→Prop):∀ (l:List Q) (h:Q × Q),P h.1→P h.2→(∀ x ∈ l,P x)→P (l.foldl (fun h x=>(if rcmp x h.1<0 then x else h.1,if 0<rcmp x h.2 then x else h.2)) h).1∧P (l.foldl (fun h x=>(if rcmp x h.1<0 then x else h.1,if 0<rcmp x h.2 then x else h.2)) h).2
 | [],_,h1,h2,_=>⟨h1,h2⟩
 | x :: l,h,h1,h2,hl=>by
  rw[List.foldl_cons];have hx:=hl x List.mem_cons_self;refine zhw P l _ ?_ ?_ (fun y hy=>hl y (List.mem_cons_of_mem _ hy))
  ·dsimp only
   split
   ·exact hx
   ·exact h1
  ·dsimp only
   split
   ·exact hx
   ·exact h2
theorem ziz (a:Q) (P:Q→Prop) (ha:P a) (l:List Q) (hl:∀ x ∈ l,P x):P (encQ a l).1∧P (encQ a l).2:=zhw P l (a,a) ha ha hl
def RowQ (w:World) (g:Nat) (qs:List Q):Prop:=
 g<w.heap.size∧∀ i (h:i<qs.length),∃ A m c A' m' c',w.cell? ⟨g,i*3,none⟩=some (.bool qs[i].neg)∧w.cell? ⟨g,i*3+1,none⟩=some (.slice A m c)∧w.cell? ⟨g,i*3+2,none⟩=some (.slice A' m' c')∧NatS w w.heap.size A m c qs[i].top∧NatS w w.heap.size A' m' c' qs[i].bot
theorem RowQ.later {w w':World} {g:Nat} {qs:List Q} (h:RowQ w g qs) (hb:Below w.heap.size w w'):RowQ w' g qs:=by
 refine⟨Nat.lt_of_lt_of_le h.1 hb.size,fun i hi => ?_⟩;obtain⟨A,m,c,A',m',c',h0,h1,h2,h3,h4⟩:=h.2 i hi;exact⟨A,m,c,A',m',c',(hb.cell h.1).trans h0,(hb.cell h.1).trans h1,(hb.cell h.1).trans h2,h3.later hb,h4.later hb⟩
theorem RowQ.store{w:World}{g g' i:Nat}{qs:List Q}{cs:Array Value}{t:TypeId}(h:RowQ w g qs)(hk:CBlk w g' cs t)(hn:zds cs)(hne:g'≠g)(u:Value):RowQ (w.setCell ⟨g',i,none⟩ u) g qs:=by
 have aA:(w.setCell ⟨g',i,none⟩ u).heap.size=w.heap.size:=by simp[World.setCell]
 refine⟨by rw[aA];exact h.1,fun j hj => ?_⟩;obtain⟨A,m,c,A',m',c',h0,h1,h2,h3,h4⟩:=h.2 j hj;refine⟨A,m,c,A',m',c',?_,?_,?_,by rw[aA];exact h3.store hk hn u,by rw[aA];exact h4.store hk hn u⟩
 ·rw[World.cell?_setCell_far _ _ _ _ (by exact hne)];exact h0
 ·rw[World.cell?_setCell_far _ _ _ _ (by exact hne)];exact h1
 ·rw[World.cell?_setCell_far _ _ _ _ (by exact hne)];exact h2
theorem CBlk.setFar{w:World}{g g' i:Nat}{c:Array Value}{t:TypeId}(h:CBlk w g c t)(hne:g'≠g)(u:Value):CBlk (w.setCell ⟨g',i,none⟩ u) g c t:=
 (Below.heap_setCell w ⟨g',i,none⟩ u g (fun e=>hne e.symm)).trans h
def Hull (w:World) (gh:Nat) (lo hi:Q):Prop:=∃ (A1:Option Addr) (n1 c1:Nat) (A2:Option Addr) (n2 c2:Nat) (A3:Option Addr) (n3 c3:Nat) (A4:Option Addr) (n4 c4:Nat),
 CBlk w gh #[.bool lo.neg,.slice A1 n1 c1,.slice A2 n2 c2,.bool hi.neg,.slice A3 n3 c3,.slice A4 n4 c4] 107∧NatS w w.heap.size A1 n1 c1 lo.top∧NatS w w.heap.size A2 n2 c2 lo.bot∧NatS w w.heap.size A3 n3 c3 hi.top∧NatS w w.heap.size A4 n4 c4 hi.bot
theorem Hull.later {w w':World} {gh:Nat} {lo hi:Q} (h:Hull w gh lo hi) (hb:Below w.heap.size w w'):Hull w' gh lo hi:=by
 obtain⟨A1,n1,c1,A2,n2,c2,A3,n3,c3,A4,n4,c4,hk,h1,h2,h3,h4⟩:=h;exact⟨A1,n1,c1,A2,n2,c2,A3,n3,c3,A4,n4,c4,hk.below hb hk.lt,h1.later hb,h2.later hb,h3.later hb,h4.later hb⟩
theorem NatS.store3{w:World}{n c x g:Nat}{A:Option Addr}{cs:Array Value}{t:TypeId}(h:NatS w w.heap.size A n c x)(hk:CBlk w g cs t)(hn:zds cs)(i j k:Nat)(b:Bool)(A1 A2:Option Addr)(n1 c1 n2 c2:Nat) :
  NatS (((w.setCell ⟨g,i,none⟩ (.bool b)).setCell ⟨g,j,none⟩ (.slice A1 n1 c1)).setCell ⟨g,k,none⟩ (.slice A2 n2 c2)) (((w.setCell ⟨g,i,none⟩ (.bool b)).setCell ⟨g,j,none⟩ (.slice A1 n1 c1)).setCell ⟨g,k,none⟩ (.slice A2 n2 c2)).heap.size A n c x:=by
 have k1:=hk.set i (.bool b);have aA:=hn.set i (u := .bool b) (fun _ _ h=>by cases h);have k2:=k1.set j (.slice A1 n1 c1);have aC:=aA.set j (u := .slice A1 n1 c1) (fun _ _ h=>by cases h);rw[zah];exact((h.store hk hn _).store k1 aA _).store k2 aC _
theorem RowQ.store3{w:World}{g g':Nat}{qs:List Q}{cs:Array Value}{t:TypeId}(h:RowQ w g qs)(hk:CBlk w g' cs t)(hn:zds cs)(hne:g'≠g)(i j k:Nat)(b:Bool)(A1 A2:Option Addr)(n1 c1 n2 c2:Nat) :
  RowQ (((w.setCell ⟨g',i,none⟩ (.bool b)).setCell ⟨g',j,none⟩ (.slice A1 n1 c1)).setCell ⟨g',k,none⟩ (.slice A2 n2 c2)) g qs:=by
 have k1:=hk.set i (.bool b);have aA:=hn.set i (u := .bool b) (fun _ _ h=>by cases h);have k2:=k1.set j (.slice A1 n1 c1);have aC:=aA.set j (u := .slice A1 n1 c1) (fun _ _ h=>by cases h);exact((h.store hk hn hne _).store k1 aA hne _).store k2 aC hne _
theorem Hull.low{w:World}{gh:Nat}{lo hi x:Q}(h:Hull w gh lo hi){D1 D2:Option Addr}{e1 f1 e2 f2:Nat}(l1:NatS w w.heap.size D1 e1 f1 x.top)(l2:NatS w w.heap.size D2 e2 f2 x.bot) :
  Hull (((w.setCell ⟨gh,0,none⟩ (.bool x.neg)).setCell ⟨gh,1,none⟩ (.slice D1 e1 f1)).setCell ⟨gh,2,none⟩ (.slice D2 e2 f2)) gh x hi:=by
 obtain⟨A1,n1,c1,A2,n2,c2,A3,n3,c3,A4,n4,c4,hk,h1,h2,h3,h4⟩:=h;have hn:=zbf lo.neg hi.neg A1 A2 A3 A4 n1 c1 n2 c2 n3 c3 n4 c4;exact⟨D1,e1,f1,D2,e2,f2,A3,n3,c3,A4,n4,c4,((hk.set 0 _).set 1 _).set 2 _,l1.store3 hk hn 0 1 2 _ _ _ _ _ _ _,l2.store3 hk hn 0 1 2 _ _ _ _ _ _ _,h3.store3 hk hn 0 1 2 _ _ _ _ _ _ _,h4.store3 hk hn 0 1 2 _ _ _ _ _ _ _⟩
theorem Hull.high{w:World}{gh:Nat}{lo hi x:Q}(h:Hull w gh lo hi){D1 D2:Option Addr}{e1 f1 e2 f2:Nat}(l1:NatS w w.heap.size D1 e1 f1 x.top)(l2:NatS w w.heap.size D2 e2 f2 x.bot) :
  Hull (((w.setCell ⟨gh,3,none⟩ (.bool x.neg)).setCell ⟨gh,4,none⟩ (.slice D1 e1 f1)).setCell ⟨gh,5,none⟩ (.slice D2 e2 f2)) gh lo x:=by
 obtain⟨A1,n1,c1,A2,n2,c2,A3,n3,c3,A4,n4,c4,hk,h1,h2,h3,h4⟩:=h;have hn:=zbf lo.neg hi.neg A1 A2 A3 A4 n1 c1 n2 c2 n3 c3 n4 c4;exact⟨A1,n1,c1,A2,n2,c2,D1,e1,f1,D2,e2,f2,((hk.set 3 _).set 4 _).set 5 _,h1.store3 hk hn 3 4 5 _ _ _ _ _ _ _,h2.store3 hk hn 3 4 5 _ _ _ _ _ _ _,l1.store3 hk hn 3 4 5 _ _ _ _ _ _ _,l2.store3 hk hn 3 4 5 _ _ _ _ _ _ _⟩
theorem zdV{a w:World}{B g:Nat}(h:Below B a w)(hg:B≤g)(i j k:Nat)(u v x:Value):Below B a (((w.setCell ⟨g,i,none⟩ u).setCell ⟨g,j,none⟩ v).setCell ⟨g,k,none⟩ x):=
 ((h.setCell (p:=⟨g,i,none⟩) hg _).setCell (p:=⟨g,j,none⟩) hg _).setCell (p:=⟨g,k,none⟩) hg _
set_option maxHeartbeats 4000000 in
set_option maxRecDepth 100000 in
theorem zev (p:Q) (qs:List Q) (v:Value) (g n c:Nat) (w:World) (hv:RatS w w.heap.size v p) (hr:RowQ w g qs) (hl:qs.length=n) (hn:n≤c) (hc:c≤4096) (hp:LenQ p 268435456) (hq:∀ x ∈ qs,LenQ x 268435456) :
  Calls Tryz.prog 139 #[v,.slice (some ⟨g,0,none⟩) n c] w (zb3 w (encQ p qs).1 (encQ p qs).2):=by
 obtain⟨A1,n1,c1,A2,n2,c2,rfl,h1,h2⟩:=hv;have HL:=Aa hl;clear hl;have bN:Below w.heap.size w ((w.alloc (.cells #[.bool p.neg,.slice A1 n1 c1,.slice A2 n2 c2] 91)).alloc (.cells #[.bool false,.slice none 0 0,.slice none 0 0,.bool false,.slice none 0 0,.slice none 0 0] 107)):=(((Below.refl _ _).alloc (by simp<;>omega) _).alloc (by simp<;>omega) _);have q0:CBlk ((w.alloc (.cells #[.bool p.neg,.slice A1 n1 c1,.slice A2 n2 c2] 91)).alloc (.cells #[.bool false,.slice none 0 0,.slice none 0 0,.bool false,.slice none 0 0,.slice none 0 0] 107)) (w.heap.size) #[.bool p.neg,.slice A1 n1 c1,.slice A2 n2 c2] 91:=((CBlk.new _ _ _ _ (by simp)).alloc _);have q1:CBlk ((w.alloc (.cells #[.bool p.neg,.slice A1 n1 c1,.slice A2 n2 c2] 91)).alloc (.cells #[.bool false,.slice none 0 0,.slice none 0 0,.bool false,.slice none 0 0,.slice none 0 0] 107)) (w.heap.size+1) #[.bool false,.slice none 0 0,.slice none 0 0,.bool false,.slice none 0 0,.slice none 0 0] 107:=(CBlk.new _ _ _ _ (by simp));have bP:=hr.later bN;have cG:=h1.later bN;have cH:=h2.later bN;clear hr h1 h2;go_enter Tryz.func139,Tryz.ntmps139
 go_upto_region 1 with(fail)
 generalize ((w.alloc (.cells #[.bool p.neg,.slice A1 n1 c1,.slice A2 n2 c2] 91)).alloc (.cells #[.bool false,.slice none 0 0,.slice none 0 0,.bool false,.slice none 0 0,.slice none 0 0] 107))=W at *;have a0:=q0.cell 0;have a1:=q0.cell 1;have a2:=q0.cell 2
 go_wp2_with fail
 refine(zkR p _ W (RatS.mk cG cH)).mono ?_;rintro e w2 ⟨v2,rfl,⟨B1,m1,d1,B2,m2,d2,B3,m3,d3,B4,m4,d4,rfl,k1,k2,k3,k4⟩,bW⟩;have cC:=Ad bN bW;have bZ:=q1.below bW q1.lt;have bM:=bP.later bW;clear a0 a1 a2 q0 q1 bP cG cH bW bN;obtain⟨gh,bY⟩:∃ gh,gh=w2.heap.size:=⟨_,rfl⟩;have cM:Below w.heap.size w (w2.alloc (.cells #[.bool p.neg,.slice B1 m1 d1,.slice B2 m2 d2,.bool p.neg,.slice B3 m3 d3,.slice B4 m4 d4] 107)):=cC.alloc cC.size _;have bK:Below w2.heap.size w2 (w2.alloc (.cells #[.bool p.neg,.slice B1 m1 d1,.slice B2 m2 d2,.bool p.neg,.slice B3 m3 d3,.slice B4 m4 d4] 107)):=Ac;have qh:CBlk (w2.alloc (.cells #[.bool p.neg,.slice B1 m1 d1,.slice B2 m2 d2,.bool p.neg,.slice B3 m3 d3,.slice B4 m4 d4] 107)) gh #[.bool p.neg,.slice B1 m1 d1,.slice B2 m2 d2,.bool p.neg,.slice B3 m3 d3,.slice B4 m4 d4] 107:=CBlk.new _ _ _ _ bY;have cR:=bZ.alloc (.cells #[.bool p.neg,.slice B1 m1 d1,.slice B2 m2 d2,.bool p.neg,.slice B3 m3 d3,.slice B4 m4 d4] 107);have cJ:=bM.later bK;have bU:gh≠g:=by have:=bM.1;omega
 have cI:w.heap.size+1<gh:=by have:=bZ.lt;omega
 have cL:=k1.later bK;have cK:=k2.later bK;have cO:=k3.later bK;have cN:=k4.later bK;have HG:=Aa bY;clear bY bZ bM cC k1 k2 k3 k4 bK;go_upto_region 3 with(fail)
 rw[←HG.out];generalize (w2.alloc (.cells #[.bool p.neg,.slice B1 m1 d1,.slice B2 m2 d2,.bool p.neg,.slice B3 m3 d3,.slice B4 m4 d4] 107))=w3 at *
 go_wp2_with fail
 go_loopw [12] (fun iv wr=>∃ k:Nat,k≤n∧iv = .int .i64 (k:Int)∧Hull wr gh (encQ p (qs.take k)).1 (encQ p (qs.take k)).2∧RowQ wr g qs∧CBlk wr (w.heap.size+1) #[.bool false,.slice none 0 0,.slice none 0 0,.bool false,.slice none 0 0,.slice none 0 0] 107∧Below w.heap.size w wr) (fun iv _=>n-(intOf iv).toNat)
 case atStart=>exact⟨0,Nat.zero_le _,rfl,⟨B1,m1,d1,B2,m2,d2,B3,m3,d3,B4,m4,d4,qh,cL,cK,cO,cN⟩,cJ,cR,cM⟩
 case round=>
  obtain⟨k,hk,rfl,hH,bV,qz,hB⟩:=hrel
  by_cases hlt:k<n
  ·have cA:k<qs.length:=by rw[HL.out];exact hlt
   obtain⟨D1,e1,f1,D2,e2,f2,x0,x1,x2,l1,l2⟩:=bV.2 k cA;have bX:=hq qs[k] (List.getElem_mem cA);have bO:encQ p (qs.take (k+1))=(if rcmp qs[k] (encQ p (qs.take k)).1<0 then qs[k] else(encQ p (qs.take k)).1,if 0<rcmp qs[k] (encQ p (qs.take k)).2 then qs[k] else(encQ p (qs.take k)).2):=by
    rw[List.take_succ_eq_append_getElem cA,zmS]
   have bR:=ziz p (fun q=>LenQ q 268435456) hp (qs.take k) (fun x hx=>hq x (List.mem_of_mem_take hx));generalize qs[k]=x at *;obtain⟨lo,cF⟩:∃ lo,lo=(encQ p (qs.take k)).1:=⟨_,rfl⟩;obtain⟨hi,cE⟩:∃ hi,hi=(encQ p (qs.take k)).2:=⟨_,rfl⟩;rw[←cF] at hH bO bR;rw[←cE] at hH bO bR;clear cF cE;have bQ:=Aa (fun v u W h1 h2=>zbq x lo v u W h1 h2 bX bR.1);have bS:=Aa (fun v u W h1 h2=>zbq x hi v u W h1 h2 bX bR.2);obtain⟨r1,bP⟩:∃ r1,r1=rcmp x lo:=⟨_,rfl⟩;obtain⟨r2,bM⟩:∃ r2,r2=rcmp x hi:=⟨_,rfl⟩;rw[←bP] at bQ bO;rw[←bM] at bS bO;have bT:=Aa bO;clear bP bM bO bR bX;have bL:Below wr.heap.size wr (wr.alloc (.cells #[.bool x.neg,.slice D1 e1 f1,.slice D2 e2 f2] 91)):=Ac;have qx:CBlk (wr.alloc (.cells #[.bool x.neg,.slice D1 e1 f1,.slice D2 e2 f2] 91)) wr.heap.size #[.bool x.neg,.slice D1 e1 f1,.slice D2 e2 f2] 91:=CBlk.new _ _ _ _ rfl;have aT:=qz.alloc (.cells #[.bool x.neg,.slice D1 e1 f1,.slice D2 e2 f2] 91);have aR:=hH.later bL;have bD:=bV.later bL;have aS:=l1.later bL;have aQ:=l2.later bL;have aU:=Ad hB bL;have aL:gh≠wr.heap.size:=by
    obtain⟨_,_,_,_,_,_,_,_,_,_,_,_,hk,_⟩:=hH;have:=hk.lt;omega
   obtain⟨gx,cB⟩:∃ gx,gx=wr.heap.size:=⟨_,rfl⟩;rw[←cB] at qx aL;have cQ:=Aa cB;clear cB bL hH bV qz hB l1 l2;go_upto_region 5 with(fail)
   rw[←cQ.out];generalize (wr.alloc (.cells #[.bool x.neg,.slice D1 e1 f1,.slice D2 e2 f2] 91))=wx at *;clear x0 x1 x2
   by_cases hd1:r1<0
   ·have d1:decide (r1<0)=true:=by simpa using hd1
    have aG:=Aa hd1;clear hd1
    by_cases hd2:0<r2
    ·have d2:decide (0<r2)=true:=by simpa using hd2
     have aF:=Aa hd2;clear hd2;obtain⟨A1,n1,c1,A2,n2,c2,A3,n3,c3,A4,n4,c4,aA,h1,h2,h3,h4⟩:=id aR;have y0:=aA.cell 0;have y1:=aA.cell 1;have y2:=aA.cell 2;have b0:=qx.cell 0;have b1:=qx.cell 1;have b2:=qx.cell 2
     go_wp2_with fail
     refine(bQ.out _ _ wx (RatS.mk aS aQ) (RatS.mk h1 h2)).mono ?_;rintro e w5 ⟨rfl,aD⟩;have aN:=aR.later aD;have aY:=bD.later aD;have q5:=qx.below aD qx.lt;have aX:=aT.below aD aT.lt;have aP:=aS.later aD;have aO:=aQ.later aD;have aW:=Ad aU aD;clear y0 y1 y2 b0 b1 b2 aA h1 h2 h3 h4 aR bD qx aT aS aQ aU aD;obtain⟨A1,n1,c1,A2,n2,c2,A3,n3,c3,A4,n4,c4,aA,h1,h2,h3,h4⟩:=id aN;have y0:=aA.cell 0;have y1:=aA.cell 1;have y2:=aA.cell 2;have z0:=aA.frozen 0;have z1:=aA.frozen 1;have z2:=aA.frozen 2;have b0:=q5.cell 0;have b1:=q5.cell 1;have b2:=q5.cell 2;have hn:=zbf lo.neg hi.neg A1 A2 A3 A4 n1 c1 n2 c2 n3 c3 n4 c4;have aM:=aN.low aP aO;have aV:=aY.store3 aA hn bU 0 1 2 x.neg D1 D2 e1 f1 e2 f2;have q6:=((q5.setFar (i:=0) aL (.bool x.neg)).setFar (i:=1) aL (.slice D1 e1 f1)).setFar (i:=2) aL (.slice D2 e2 f2);have aJ:=((aX.setFar (i:=0) (g':=gh) (by omega) (.bool x.neg)).setFar (i:=1) (g':=gh) (by omega) (.slice D1 e1 f1)).setFar (i:=2) (g':=gh) (by omega) (.slice D2 e2 f2);have aK:=aP.store3 aA hn 0 1 2 x.neg D1 D2 e1 f1 e2 f2;have aI:=aO.store3 aA hn 0 1 2 x.neg D1 D2 e1 f1 e2 f2;have aH:=zdV aW (g:=gh) (by omega) 0 1 2 (.bool x.neg) (.slice D1 e1 f1) (.slice D2 e2 f2);clear aA h1 h2 h3 h4 aN aY q5 aX aP aO aW hn;go_upto_region 7 with(fail)
     generalize (((w5.setCell ⟨gh,0,none⟩ (.bool x.neg)).setCell ⟨gh,1,none⟩ (.slice D1 e1 f1)).setCell ⟨gh,2,none⟩ (.slice D2 e2 f2))=w6 at *;clear y0 y1 y2 z0 z1 z2 b0 b1 b2;obtain⟨A1,n1,c1,A2,n2,c2,A3,n3,c3,A4,n4,c4,aA,h1,h2,h3,h4⟩:=id aM;have y3:=aA.cell 3;have y4:=aA.cell 4;have y5:=aA.cell 5;have b0:=q6.cell 0;have b1:=q6.cell 1;have b2:=q6.cell 2
     go_wp2_with fail
     refine(bS.out _ _ w6 (RatS.mk aK aI) (RatS.mk h3 h4)).mono ?_;rintro e w7 ⟨rfl,aC⟩;have aZ:=aM.later aC;have bB:=aV.later aC;have q7:=q6.below aC q6.lt;have bA:=aJ.below aC aJ.lt;have bG:=aK.later aC;have bH:=aI.later aC;have bC:=Ad aH aC;clear y3 y4 y5 b0 b1 b2 aA h1 h2 h3 h4 aM aV q6 aJ aK aI aH aC;obtain⟨A1,n1,c1,A2,n2,c2,A3,n3,c3,A4,n4,c4,aA,h1,h2,h3,h4⟩:=id aZ;have y3:=aA.cell 3;have y4:=aA.cell 4;have y5:=aA.cell 5;have z3:=aA.frozen 3;have z4:=aA.frozen 4;have z5:=aA.frozen 5;have b0:=q7.cell 0;have b1:=q7.cell 1;have b2:=q7.cell 2;have hn:=zbf x.neg hi.neg A1 A2 A3 A4 n1 c1 n2 c2 n3 c3 n4 c4;have aE:=aZ.high bG bH;have bE:=bB.store3 aA hn bU 3 4 5 x.neg D1 D2 e1 f1 e2 f2;have bI:=((bA.setFar (i:=3) (g':=gh) (by omega) (.bool x.neg)).setFar (i:=4) (g':=gh) (by omega) (.slice D1 e1 f1)).setFar (i:=5) (g':=gh) (by omega) (.slice D2 e2 f2);have bF:=zdV bC (g:=gh) (by omega) 3 4 5 (.bool x.neg) (.slice D1 e1 f1) (.slice D2 e2 f2);clear aA h1 h2 h3 h4 aZ bB bA bG bH bC hn
     go_wp2_with fail
     go_roundw
     case rel=>exact⟨k+1,by omega,by go_num,by rw[bT.out];first | (rw[if_pos (by have:=aG.out;omega),if_pos (by have:=aF.out;omega)];exact aE) | (rw[if_pos (by have:=aG.out;omega),if_neg (by have:=aF.out;omega)];exact aE) | (rw[if_neg (by have:=aG.out;omega),if_pos (by have:=aF.out;omega)];exact aE) | (rw[if_neg (by have:=aG.out;omega),if_neg (by have:=aF.out;omega)];exact aE),bE,bI,bF⟩
     case measure=>simp[intOf]<;>omega
    ·have d2:decide (0<r2)=false:=by simpa using hd2
     have aF:=Aa hd2;clear hd2;obtain⟨A1,n1,c1,A2,n2,c2,A3,n3,c3,A4,n4,c4,aA,h1,h2,h3,h4⟩:=id aR;have y0:=aA.cell 0;have y1:=aA.cell 1;have y2:=aA.cell 2;have b0:=qx.cell 0;have b1:=qx.cell 1;have b2:=qx.cell 2
     go_wp2_with fail
     refine(bQ.out _ _ wx (RatS.mk aS aQ) (RatS.mk h1 h2)).mono ?_;rintro e w5 ⟨rfl,aD⟩;have aN:=aR.later aD;have aY:=bD.later aD;have q5:=qx.below aD qx.lt;have aX:=aT.below aD aT.lt;have aP:=aS.later aD;have aO:=aQ.later aD;have aW:=Ad aU aD;clear y0 y1 y2 b0 b1 b2 aA h1 h2 h3 h4 aR bD qx aT aS aQ aU aD;obtain⟨A1,n1,c1,A2,n2,c2,A3,n3,c3,A4,n4,c4,aA,h1,h2,h3,h4⟩:=id aN;have y0:=aA.cell 0;have y1:=aA.cell 1;have y2:=aA.cell 2;have z0:=aA.frozen 0;have z1:=aA.frozen 1;have z2:=aA.frozen 2;have b0:=q5.cell 0;have b1:=q5.cell 1;have b2:=q5.cell 2;have hn:=zbf lo.neg hi.neg A1 A2 A3 A4 n1 c1 n2 c2 n3 c3 n4 c4;have aM:=aN.low aP aO;have aV:=aY.store3 aA hn bU 0 1 2 x.neg D1 D2 e1 f1 e2 f2;have q6:=((q5.setFar (i:=0) aL (.bool x.neg)).setFar (i:=1) aL (.slice D1 e1 f1)).setFar (i:=2) aL (.slice D2 e2 f2);have aJ:=((aX.setFar (i:=0) (g':=gh) (by omega) (.bool x.neg)).setFar (i:=1) (g':=gh) (by omega) (.slice D1 e1 f1)).setFar (i:=2) (g':=gh) (by omega) (.slice D2 e2 f2);have aK:=aP.store3 aA hn 0 1 2 x.neg D1 D2 e1 f1 e2 f2;have aI:=aO.store3 aA hn 0 1 2 x.neg D1 D2 e1 f1 e2 f2;have aH:=zdV aW (g:=gh) (by omega) 0 1 2 (.bool x.neg) (.slice D1 e1 f1) (.slice D2 e2 f2);clear aA h1 h2 h3 h4 aN aY q5 aX aP aO aW hn;go_upto_region 7 with(fail)
     generalize (((w5.setCell ⟨gh,0,none⟩ (.bool x.neg)).setCell ⟨gh,1,none⟩ (.slice D1 e1 f1)).setCell ⟨gh,2,none⟩ (.slice D2 e2 f2))=w6 at *;clear y0 y1 y2 z0 z1 z2 b0 b1 b2;obtain⟨A1,n1,c1,A2,n2,c2,A3,n3,c3,A4,n4,c4,aA,h1,h2,h3,h4⟩:=id aM;have y3:=aA.cell 3;have y4:=aA.cell 4;have y5:=aA.cell 5;have b0:=q6.cell 0;have b1:=q6.cell 1;have b2:=q6.cell 2
     go_wp2_with fail
     refine(bS.out _ _ w6 (RatS.mk aK aI) (RatS.mk h3 h4)).mono ?_;rintro e w7 ⟨rfl,aC⟩;have aZ:=aM.later aC;have bB:=aV.later aC;have q7:=q6.below aC q6.lt;have bA:=aJ.below aC aJ.lt;have bG:=aK.later aC;have bH:=aI.later aC;have bC:=Ad aH aC;clear y3 y4 y5 b0 b1 b2 aA h1 h2 h3 h4 aM aV q6 aJ aK aI aH aC;have aE:=aZ;have bE:=bB;have bI:=bA;have bF:=bC
     go_wp2_with fail
     go_roundw
     case rel=>exact⟨k+1,by omega,by go_num,by rw[bT.out];first | (rw[if_pos (by have:=aG.out;omega),if_pos (by have:=aF.out;omega)];exact aE) | (rw[if_pos (by have:=aG.out;omega),if_neg (by have:=aF.out;omega)];exact aE) | (rw[if_neg (by have:=aG.out;omega),if_pos (by have:=aF.out;omega)];exact aE) | (rw[if_neg (by have:=aG.out;omega),if_neg (by have:=aF.out;omega)];exact aE),bE,bI,bF⟩
     case measure=>simp[intOf]<;>omega
   ·have d1:decide (r1<0)=false:=by simpa using hd1
    have aG:=Aa hd1;clear hd1
    by_cases hd2:0<r2
    ·have d2:decide (0<r2)=true:=by simpa using hd2
     have aF:=Aa hd2;clear hd2;obtain⟨A1,n1,c1,A2,n2,c2,A3,n3,c3,A4,n4,c4,aA,h1,h2,h3,h4⟩:=id aR;have y0:=aA.cell 0;have y1:=aA.cell 1;have y2:=aA.cell 2;have b0:=qx.cell 0;have b1:=qx.cell 1;have b2:=qx.cell 2
     go_wp2_with fail
     refine(bQ.out _ _ wx (RatS.mk aS aQ) (RatS.mk h1 h2)).mono ?_;rintro e w5 ⟨rfl,aD⟩;have aN:=aR.later aD;have aY:=bD.later aD;have q5:=qx.below aD qx.lt;have aX:=aT.below aD aT.lt;have aP:=aS.later aD;have aO:=aQ.later aD;have aW:=Ad aU aD;clear y0 y1 y2 b0 b1 b2 aA h1 h2 h3 h4 aR bD qx aT aS aQ aU aD;have aM:=aN;have aV:=aY;have q6:=q5;have aJ:=aX;have aK:=aP;have aI:=aO;have aH:=aW;clear aN aY q5 aX aP aO aW;obtain⟨A1,n1,c1,A2,n2,c2,A3,n3,c3,A4,n4,c4,aA,h1,h2,h3,h4⟩:=id aM;have y3:=aA.cell 3;have y4:=aA.cell 4;have y5:=aA.cell 5;have b0:=q6.cell 0;have b1:=q6.cell 1;have b2:=q6.cell 2
     go_wp2_with fail
     refine(bS.out _ _ w5 (RatS.mk aK aI) (RatS.mk h3 h4)).mono ?_;rintro e w7 ⟨rfl,aC⟩;have aZ:=aM.later aC;have bB:=aV.later aC;have q7:=q6.below aC q6.lt;have bA:=aJ.below aC aJ.lt;have bG:=aK.later aC;have bH:=aI.later aC;have bC:=Ad aH aC;clear y3 y4 y5 b0 b1 b2 aA h1 h2 h3 h4 aM aV q6 aJ aK aI aH aC;obtain⟨A1,n1,c1,A2,n2,c2,A3,n3,c3,A4,n4,c4,aA,h1,h2,h3,h4⟩:=id aZ;have y3:=aA.cell 3;have y4:=aA.cell 4;have y5:=aA.cell 5;have z3:=aA.frozen 3;have z4:=aA.frozen 4;have z5:=aA.frozen 5;have b0:=q7.cell 0;have b1:=q7.cell 1;have b2:=q7.cell 2;have hn:=zbf lo.neg hi.neg A1 A2 A3 A4 n1 c1 n2 c2 n3 c3 n4 c4;have aE:=aZ.high bG bH;have bE:=bB.store3 aA hn bU 3 4 5 x.neg D1 D2 e1 f1 e2 f2;have bI:=((bA.setFar (i:=3) (g':=gh) (by omega) (.bool x.neg)).setFar (i:=4) (g':=gh) (by omega) (.slice D1 e1 f1)).setFar (i:=5) (g':=gh) (by omega) (.slice D2 e2 f2);have bF:=zdV bC (g:=gh) (by omega) 3 4 5 (.bool x.neg) (.slice D1 e1 f1) (.slice D2 e2 f2);clear aA h1 h2 h3 h4 aZ bB bA bG bH bC hn
     go_wp2_with fail
     go_roundw
     case rel=>exact⟨k+1,by omega,by go_num,by rw[bT.out];first | (rw[if_pos (by have:=aG.out;omega),if_pos (by have:=aF.out;omega)];exact aE) | (rw[if_pos (by have:=aG.out;omega),if_neg (by have:=aF.out;omega)];exact aE) | (rw[if_neg (by have:=aG.out;omega),if_pos (by have:=aF.out;omega)];exact aE) | (rw[if_neg (by have:=aG.out;omega),if_neg (by have:=aF.out;omega)];exact aE),bE,bI,bF⟩
     case measure=>simp[intOf]<;>omega
    ·have d2:decide (0<r2)=false:=by simpa using hd2
     have aF:=Aa hd2;clear hd2;obtain⟨A1,n1,c1,A2,n2,c2,A3,n3,c3,A4,n4,c4,aA,h1,h2,h3,h4⟩:=id aR;have y0:=aA.cell 0;have y1:=aA.cell 1;have y2:=aA.cell 2;have b0:=qx.cell 0;have b1:=qx.cell 1;have b2:=qx.cell 2
     go_wp2_with fail
     refine(bQ.out _ _ wx (RatS.mk aS aQ) (RatS.mk h1 h2)).mono ?_;rintro e w5 ⟨rfl,aD⟩;have aN:=aR.later aD;have aY:=bD.later aD;have q5:=qx.below aD qx.lt;have aX:=aT.below aD aT.lt;have aP:=aS.later aD;have aO:=aQ.later aD;have aW:=Ad aU aD;clear y0 y1 y2 b0 b1 b2 aA h1 h2 h3 h4 aR bD qx aT aS aQ aU aD;have aM:=aN;have aV:=aY;have q6:=q5;have aJ:=aX;have aK:=aP;have aI:=aO;have aH:=aW;clear aN aY q5 aX aP aO aW;obtain⟨A1,n1,c1,A2,n2,c2,A3,n3,c3,A4,n4,c4,aA,h1,h2,h3,h4⟩:=id aM;have y3:=aA.cell 3;have y4:=aA.cell 4;have y5:=aA.cell 5;have b0:=q6.cell 0;have b1:=q6.cell 1;have b2:=q6.cell 2
     go_wp2_with fail
     refine(bS.out _ _ w5 (RatS.mk aK aI) (RatS.mk h3 h4)).mono ?_;rintro e w7 ⟨rfl,aC⟩;have aZ:=aM.later aC;have bB:=aV.later aC;have q7:=q6.below aC q6.lt;have bA:=aJ.below aC aJ.lt;have bG:=aK.later aC;have bH:=aI.later aC;have bC:=Ad aH aC;clear y3 y4 y5 b0 b1 b2 aA h1 h2 h3 h4 aM aV q6 aJ aK aI aH aC;have aE:=aZ;have bE:=bB;have bI:=bA;have bF:=bC
     go_wp2_with fail
     go_roundw
     case rel=>exact⟨k+1,by omega,by go_num,by rw[bT.out];first | (rw[if_pos (by have:=aG.out;omega),if_pos (by have:=aF.out;omega)];exact aE) | (rw[if_pos (by have:=aG.out;omega),if_neg (by have:=aF.out;omega)];exact aE) | (rw[if_neg (by have:=aG.out;omega),if_pos (by have:=aF.out;omega)];exact aE) | (rw[if_neg (by have:=aG.out;omega),if_neg (by have:=aF.out;omega)];exact aE),bE,bI,bF⟩
     case measure=>simp[intOf]<;>omega
  ·obtain rfl:k=n:=by omega
   have bJ:encQ p (qs.take k)=encQ p qs:=by rw[List.take_of_length_le (by rw[HL.out];exact Nat.le_refl _)]
   rw[bJ] at hH;have HF:=Aa bJ;obtain⟨A1,n1,c1,A2,n2,c2,A3,n3,c3,A4,n4,c4,aA,h1,h2,h3,h4⟩:=hH;obtain⟨E,hE⟩:∃ E,E=encQ p qs:=⟨_,rfl⟩;rw[←hE] at aA h1 h2 h3 h4;have cP:=Aa hE;clear hE bJ;have a0:=aA.cell 0;have a1:=aA.cell 1;have a2:=aA.cell 2;have a3:=aA.cell 3;have a4:=aA.cell 4;have a5:=aA.cell 5;have y0:=qz.cell 0;have y1:=qz.cell 1;have y2:=qz.cell 2;have y3:=qz.cell 3;have y4:=qz.cell 4;have y5:=qz.cell 5;have z0:=qz.frozen 0;have z1:=qz.frozen 1;have z2:=qz.frozen 2;have z3:=qz.frozen 3;have z4:=qz.frozen 4;have z5:=qz.frozen 5;have hI:=zbS (p:=E.1) (q:=E.2) qz hB (by omega) rfl h1 h2 h3 h4;unfold Go.Proofs.YtmkondcdejlhcaaGreatDoor.set6 at hI;have HI:=Aa hI;clear hI h1 h2 h3 h4 hB bV;go_wp2
   refine bodyPost_ret (v := .agg #[.bool E.1.neg,.slice A1 n1 c1,.slice A2 n2 c2,.bool E.2.neg,.slice A3 n3 c3,.slice A4 n4 c4]) (by simp[results,Tryz.results139,go_sem,y0,y1,y2,y3,y4,y5]) rfl ⟨_,rfl,by rw[←cP.out];exact HI.out⟩
end Go.Proofs.YtmkondcdejlhcaaGreatDoor
