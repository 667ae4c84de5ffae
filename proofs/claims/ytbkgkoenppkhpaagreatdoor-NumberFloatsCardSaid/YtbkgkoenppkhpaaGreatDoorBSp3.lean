/- Contract of package number's enclosing. -/
import Derived.Test.YtbkgkoenppkhpaaGreatDoorBSp1
namespace Go.Proofs.YtbkgkoenppkhpaaGreatDoor
open Go.RowKit Bn
def encQ (a:Q) (l:List Q):Q × Q:=l.foldl (fun h x=>(if rcmp x h.1<0 then x else h.1,if 0<rcmp x h.2 then x else h.2)) (a,a)
theorem zmf(a:Q)(l:List Q)(x:Q):encQ a (l++[x])=(if rcmp x (encQ a l).1<0 then x else(encQ a l).1,if 0<rcmp x (encQ a l).2 then x else(encQ a l).2):=by
 unfold encQ;rw[List.foldl_append];rfl
theorem zmF(P:Q→Prop):∀ (l:List Q) (h:Q × Q),P h.1→P h.2→(∀ x ∈ l,P x)→P (l.foldl (fun h x=>(if rcmp x h.1<0 then x else h.1,if 0<rcmp x h.2 then x else h.2)) h).1∧P (l.foldl (fun h x=>(if rcmp x h.1<0 then x else h.1,if 0<rcmp x h.2 then x else h.2)) h).2
 | [],_,h1,h2,_=>⟨h1,h2⟩
 | x :: l,h,h1,h2,hl=>by
  rw[List.foldl_cons];have hx:=hl x List.mem_cons_self;refine zmF P l _ ?_ ?_ (fun y hy=>hl y (List.mem_cons_of_mem _ hy))
  ·dsimp only
   split
   ·exact hx
   ·exact h1
  ·dsimp only
   split
   ·exact hx
   ·exact h2
theorem zju (a:Q) (P:Q→Prop) (ha:P a) (l:List Q) (hl:∀ x ∈ l,P x):P (encQ a l).1∧P (encQ a l).2:=zmF P l (a,a) ha ha hl
def RowQ (w:World) (g:Nat) (qs:List Q):Prop:=
 g<w.heap.size∧∀ i (h:i<qs.length),∃ A m c A' m' c',w.cell? ⟨g,i*3,none⟩=some (.bool qs[i].neg)∧w.cell? ⟨g,i*3+1,none⟩=some (.slice A m c)∧w.cell? ⟨g,i*3+2,none⟩=some (.slice A' m' c')∧NatS w w.heap.size A m c qs[i].top∧NatS w w.heap.size A' m' c' qs[i].bot
theorem RowQ.later {w w':World} {g:Nat} {qs:List Q} (h:RowQ w g qs) (hb:Below w.heap.size w w'):RowQ w' g qs:=by
 refine⟨Nat.lt_of_lt_of_le h.1 hb.size,fun i hi => ?_⟩;obtain⟨A,m,c,A',m',c',h0,h1,h2,h3,h4⟩:=h.2 i hi;exact⟨A,m,c,A',m',c',(hb.cell h.1).trans h0,(hb.cell h.1).trans h1,(hb.cell h.1).trans h2,h3.later hb,h4.later hb⟩
theorem RowQ.store{w:World}{g g' i:Nat}{qs:List Q}{cs:Array Value}{t:TypeId}(h:RowQ w g qs)(hk:CBlk w g' cs t)(hn:zdE cs)(hne:g'≠g)(u:Value):RowQ (w.setCell ⟨g',i,none⟩ u) g qs:=by
 have aA:(w.setCell ⟨g',i,none⟩ u).heap.size=w.heap.size:=by simp[World.setCell]
 refine⟨by rw[aA];exact h.1,fun j hj => ?_⟩;obtain⟨A,m,c,A',m',c',h0,h1,h2,h3,h4⟩:=h.2 j hj;refine⟨A,m,c,A',m',c',?_,?_,?_,by rw[aA];exact h3.store hk hn u,by rw[aA];exact h4.store hk hn u⟩
 ·rw[World.cell?_setCell_far _ _ _ _ (by exact hne)];exact h0
 ·rw[World.cell?_setCell_far _ _ _ _ (by exact hne)];exact h1
 ·rw[World.cell?_setCell_far _ _ _ _ (by exact hne)];exact h2
theorem CBlk.setFar{w:World}{g g' i:Nat}{c:Array Value}{t:TypeId}(h:CBlk w g c t)(hne:g'≠g)(u:Value):CBlk (w.setCell ⟨g',i,none⟩ u) g c t:=
 (Below.heap_setCell w ⟨g',i,none⟩ u g (fun e=>hne e.symm)).trans h
def Hull (w:World) (gh:Nat) (lo hi:Q):Prop:=∃ (A1:Option Addr) (n1 c1:Nat) (A2:Option Addr) (n2 c2:Nat) (A3:Option Addr) (n3 c3:Nat) (A4:Option Addr) (n4 c4:Nat),
 CBlk w gh #[.bool lo.neg,.slice A1 n1 c1,.slice A2 n2 c2,.bool hi.neg,.slice A3 n3 c3,.slice A4 n4 c4] 91∧NatS w w.heap.size A1 n1 c1 lo.top∧NatS w w.heap.size A2 n2 c2 lo.bot∧NatS w w.heap.size A3 n3 c3 hi.top∧NatS w w.heap.size A4 n4 c4 hi.bot
theorem Hull.later {w w':World} {gh:Nat} {lo hi:Q} (h:Hull w gh lo hi) (hb:Below w.heap.size w w'):Hull w' gh lo hi:=by
 obtain⟨A1,n1,c1,A2,n2,c2,A3,n3,c3,A4,n4,c4,hk,h1,h2,h3,h4⟩:=h;exact⟨A1,n1,c1,A2,n2,c2,A3,n3,c3,A4,n4,c4,hk.below hb hk.lt,h1.later hb,h2.later hb,h3.later hb,h4.later hb⟩
theorem NatS.store3{w:World}{n c x g:Nat}{A:Option Addr}{cs:Array Value}{t:TypeId}(h:NatS w w.heap.size A n c x)(hk:CBlk w g cs t)(hn:zdE cs)(i j k:Nat)(b:Bool)(A1 A2:Option Addr)(n1 c1 n2 c2:Nat) :
  NatS (((w.setCell ⟨g,i,none⟩ (.bool b)).setCell ⟨g,j,none⟩ (.slice A1 n1 c1)).setCell ⟨g,k,none⟩ (.slice A2 n2 c2)) (((w.setCell ⟨g,i,none⟩ (.bool b)).setCell ⟨g,j,none⟩ (.slice A1 n1 c1)).setCell ⟨g,k,none⟩ (.slice A2 n2 c2)).heap.size A n c x:=by
 have k1:=hk.set i (.bool b);have aA:=hn.set i (u := .bool b) (fun _ _ h=>by cases h);have k2:=k1.set j (.slice A1 n1 c1);have aC:=aA.set j (u := .slice A1 n1 c1) (fun _ _ h=>by cases h);rw[zah];exact((h.store hk hn _).store k1 aA _).store k2 aC _
theorem RowQ.store3{w:World}{g g':Nat}{qs:List Q}{cs:Array Value}{t:TypeId}(h:RowQ w g qs)(hk:CBlk w g' cs t)(hn:zdE cs)(hne:g'≠g)(i j k:Nat)(b:Bool)(A1 A2:Option Addr)(n1 c1 n2 c2:Nat) :
  RowQ (((w.setCell ⟨g',i,none⟩ (.bool b)).setCell ⟨g',j,none⟩ (.slice A1 n1 c1)).setCell ⟨g',k,none⟩ (.slice A2 n2 c2)) g qs:=by
 have k1:=hk.set i (.bool b);have aA:=hn.set i (u := .bool b) (fun _ _ h=>by cases h);have k2:=k1.set j (.slice A1 n1 c1);have aC:=aA.set j (u := .slice A1 n1 c1) (fun _ _ h=>by cases h);exact((h.store hk hn hne _).store k1 aA hne _).store k2 aC hne _
theorem Hull.low{w:World}{gh:Nat}{lo hi x:Q}(h:Hull w gh lo hi){D1 D2:Option Addr}{e1 f1 e2 f2:Nat}(l1:NatS w w.heap.size D1 e1 f1 x.top)(l2:NatS w w.heap.size D2 e2 f2 x.bot) :
  Hull (((w.setCell ⟨gh,0,none⟩ (.bool x.neg)).setCell ⟨gh,1,none⟩ (.slice D1 e1 f1)).setCell ⟨gh,2,none⟩ (.slice D2 e2 f2)) gh x hi:=by
 obtain⟨A1,n1,c1,A2,n2,c2,A3,n3,c3,A4,n4,c4,hk,h1,h2,h3,h4⟩:=h;have hn:=zbc lo.neg hi.neg A1 A2 A3 A4 n1 c1 n2 c2 n3 c3 n4 c4;exact⟨D1,e1,f1,D2,e2,f2,A3,n3,c3,A4,n4,c4,((hk.set 0 _).set 1 _).set 2 _,l1.store3 hk hn 0 1 2 _ _ _ _ _ _ _,l2.store3 hk hn 0 1 2 _ _ _ _ _ _ _,h3.store3 hk hn 0 1 2 _ _ _ _ _ _ _,h4.store3 hk hn 0 1 2 _ _ _ _ _ _ _⟩
theorem Hull.high{w:World}{gh:Nat}{lo hi x:Q}(h:Hull w gh lo hi){D1 D2:Option Addr}{e1 f1 e2 f2:Nat}(l1:NatS w w.heap.size D1 e1 f1 x.top)(l2:NatS w w.heap.size D2 e2 f2 x.bot) :
  Hull (((w.setCell ⟨gh,3,none⟩ (.bool x.neg)).setCell ⟨gh,4,none⟩ (.slice D1 e1 f1)).setCell ⟨gh,5,none⟩ (.slice D2 e2 f2)) gh lo x:=by
 obtain⟨A1,n1,c1,A2,n2,c2,A3,n3,c3,A4,n4,c4,hk,h1,h2,h3,h4⟩:=h;have hn:=zbc lo.neg hi.neg A1 A2 A3 A4 n1 c1 n2 c2 n3 c3 n4 c4;exact⟨A1,n1,c1,A2,n2,c2,D1,e1,f1,D2,e2,f2,((hk.set 3 _).set 4 _).set 5 _,h1.store3 hk hn 3 4 5 _ _ _ _ _ _ _,h2.store3 hk hn 3 4 5 _ _ _ _ _ _ _,l1.store3 hk hn 3 4 5 _ _ _ _ _ _ _,l2.store3 hk hn 3 4 5 _ _ _ _ _ _ _⟩
theorem zek{a w:World}{B g:Nat}(h:Below B a w)(hg:B≤g)(i j k:Nat)(u v x:Value):Below B a (((w.setCell ⟨g,i,none⟩ u).setCell ⟨g,j,none⟩ v).setCell ⟨g,k,none⟩ x):=
 ((h.setCell (p:=⟨g,i,none⟩) hg _).setCell (p:=⟨g,j,none⟩) hg _).setCell (p:=⟨g,k,none⟩) hg _
set_option maxHeartbeats 4000000 in
set_option maxRecDepth 100000 in
theorem zeV (p:Q) (qs:List Q) (v:Value) (g n c:Nat) (w:World) (hv:RatS w w.heap.size v p) (hr:RowQ w g qs) (hl:qs.length=n) (hn:n≤c) (hc:c≤4096) (hp:LenQ p 268435456) (hq:∀ x ∈ qs,LenQ x 268435456) :
  Calls Tryz.prog 144 #[v,.slice (some ⟨g,0,none⟩) n c] w (zch w (encQ p qs).1 (encQ p qs).2):=by
 obtain⟨A1,n1,c1,A2,n2,c2,rfl,h1,h2⟩:=hv;have HL:=Aa hl;clear hl;have bM:Below w.heap.size w ((w.alloc (.cells #[.bool p.neg,.slice A1 n1 c1,.slice A2 n2 c2] 87)).alloc (.cells #[.bool false,.slice none 0 0,.slice none 0 0,.bool false,.slice none 0 0,.slice none 0 0] 91)):=(((Below.refl _ _).alloc (by simp<;>omega) _).alloc (by simp<;>omega) _);have q0:CBlk ((w.alloc (.cells #[.bool p.neg,.slice A1 n1 c1,.slice A2 n2 c2] 87)).alloc (.cells #[.bool false,.slice none 0 0,.slice none 0 0,.bool false,.slice none 0 0,.slice none 0 0] 91)) (w.heap.size) #[.bool p.neg,.slice A1 n1 c1,.slice A2 n2 c2] 87:=((CBlk.new _ _ _ _ (by simp)).alloc _);have q1:CBlk ((w.alloc (.cells #[.bool p.neg,.slice A1 n1 c1,.slice A2 n2 c2] 87)).alloc (.cells #[.bool false,.slice none 0 0,.slice none 0 0,.bool false,.slice none 0 0,.slice none 0 0] 91)) (w.heap.size+1) #[.bool false,.slice none 0 0,.slice none 0 0,.bool false,.slice none 0 0,.slice none 0 0] 91:=(CBlk.new _ _ _ _ (by simp));have bQ:=hr.later bM;have cH:=h1.later bM;have cE:=h2.later bM;clear hr h1 h2;go_enter Tryz.func144,Tryz.ntmps144
 go_upto_region 1 with(fail)
 generalize ((w.alloc (.cells #[.bool p.neg,.slice A1 n1 c1,.slice A2 n2 c2] 87)).alloc (.cells #[.bool false,.slice none 0 0,.slice none 0 0,.bool false,.slice none 0 0,.slice none 0 0] 91))=W at *;have a0:=q0.cell 0;have a1:=q0.cell 1;have a2:=q0.cell 2
 go_wp2_with fail
 refine(zlX p _ W (RatS.mk cH cE)).mono ?_;rintro e w2 ⟨v2,rfl,⟨B1,m1,d1,B2,m2,d2,B3,m3,d3,B4,m4,d4,rfl,k1,k2,k3,k4⟩,bW⟩;have bY:=Ad bM bW;have bZ:=q1.below bW q1.lt;have bO:=bQ.later bW;clear a0 a1 a2 q0 q1 bQ cH cE bW bM;obtain⟨gh,cA⟩:∃ gh,gh=w2.heap.size:=⟨_,rfl⟩;have cP:Below w.heap.size w (w2.alloc (.cells #[.bool p.neg,.slice B1 m1 d1,.slice B2 m2 d2,.bool p.neg,.slice B3 m3 d3,.slice B4 m4 d4] 91)):=bY.alloc bY.size _;have bK:Below w2.heap.size w2 (w2.alloc (.cells #[.bool p.neg,.slice B1 m1 d1,.slice B2 m2 d2,.bool p.neg,.slice B3 m3 d3,.slice B4 m4 d4] 91)):=Ac;have qh:CBlk (w2.alloc (.cells #[.bool p.neg,.slice B1 m1 d1,.slice B2 m2 d2,.bool p.neg,.slice B3 m3 d3,.slice B4 m4 d4] 91)) gh #[.bool p.neg,.slice B1 m1 d1,.slice B2 m2 d2,.bool p.neg,.slice B3 m3 d3,.slice B4 m4 d4] 91:=CBlk.new _ _ _ _ cA;have cO:=bZ.alloc (.cells #[.bool p.neg,.slice B1 m1 d1,.slice B2 m2 d2,.bool p.neg,.slice B3 m3 d3,.slice B4 m4 d4] 91);have cI:=bO.later bK;have bT:gh≠g:=by have:=bO.1;omega
 have cL:w.heap.size+1<gh:=by have:=bZ.lt;omega
 have cN:=k1.later bK;have cR:=k2.later bK;have cQ:=k3.later bK;have cJ:=k4.later bK;have HG:=Aa cA;clear cA bZ bO bY k1 k2 k3 k4 bK;go_upto_region 3 with(fail)
 rw[←HG.out];generalize (w2.alloc (.cells #[.bool p.neg,.slice B1 m1 d1,.slice B2 m2 d2,.bool p.neg,.slice B3 m3 d3,.slice B4 m4 d4] 91))=w3 at *
 go_wp2_with fail
 go_loopw [12] (fun iv wr=>∃ k:Nat,k≤n∧iv = .int .i64 (k:Int)∧Hull wr gh (encQ p (qs.take k)).1 (encQ p (qs.take k)).2∧RowQ wr g qs∧CBlk wr (w.heap.size+1) #[.bool false,.slice none 0 0,.slice none 0 0,.bool false,.slice none 0 0,.slice none 0 0] 91∧Below w.heap.size w wr) (fun iv _=>n-(intOf iv).toNat)
 case atStart=>exact⟨0,Nat.zero_le _,rfl,⟨B1,m1,d1,B2,m2,d2,B3,m3,d3,B4,m4,d4,qh,cN,cR,cQ,cJ⟩,cI,cO,cP⟩
 case round=>
  obtain⟨k,hk,rfl,hH,bV,qz,hB⟩:=hrel
  by_cases hlt:k<n
  ·have bX:k<qs.length:=by rw[HL.out];exact hlt
   obtain⟨D1,e1,f1,D2,e2,f2,x0,x1,x2,l1,l2⟩:=bV.2 k bX;have cC:=hq qs[k] (List.getElem_mem bX);have bN:encQ p (qs.take (k+1))=(if rcmp qs[k] (encQ p (qs.take k)).1<0 then qs[k] else(encQ p (qs.take k)).1,if 0<rcmp qs[k] (encQ p (qs.take k)).2 then qs[k] else(encQ p (qs.take k)).2):=by
    rw[List.take_succ_eq_append_getElem bX,zmf]
   have bR:=zju p (fun q=>LenQ q 268435456) hp (qs.take k) (fun x hx=>hq x (List.mem_of_mem_take hx));generalize qs[k]=x at *;obtain⟨lo,cG⟩:∃ lo,lo=(encQ p (qs.take k)).1:=⟨_,rfl⟩;obtain⟨hi,cF⟩:∃ hi,hi=(encQ p (qs.take k)).2:=⟨_,rfl⟩;rw[←cG] at hH bN bR;rw[←cF] at hH bN bR;clear cG cF;have bS:=Aa (fun v u W h1 h2=>zbp x lo v u W h1 h2 cC bR.1);have bP:=Aa (fun v u W h1 h2=>zbp x hi v u W h1 h2 cC bR.2);obtain⟨r1,bQ⟩:∃ r1,r1=rcmp x lo:=⟨_,rfl⟩;obtain⟨r2,bO⟩:∃ r2,r2=rcmp x hi:=⟨_,rfl⟩;rw[←bQ] at bS bN;rw[←bO] at bP bN;have bU:=Aa bN;clear bQ bO bN bR cC;have bL:Below wr.heap.size wr (wr.alloc (.cells #[.bool x.neg,.slice D1 e1 f1,.slice D2 e2 f2] 87)):=Ac;have qx:CBlk (wr.alloc (.cells #[.bool x.neg,.slice D1 e1 f1,.slice D2 e2 f2] 87)) wr.heap.size #[.bool x.neg,.slice D1 e1 f1,.slice D2 e2 f2] 87:=CBlk.new _ _ _ _ rfl;have aQ:=qz.alloc (.cells #[.bool x.neg,.slice D1 e1 f1,.slice D2 e2 f2] 87);have aU:=hH.later bL;have bD:=bV.later bL;have aT:=l1.later bL;have aR:=l2.later bL;have aS:=Ad hB bL;have aH:gh≠wr.heap.size:=by
    obtain⟨_,_,_,_,_,_,_,_,_,_,_,_,hk,_⟩:=hH;have:=hk.lt;omega
   obtain⟨gx,cB⟩:∃ gx,gx=wr.heap.size:=⟨_,rfl⟩;rw[←cB] at qx aH;have cK:=Aa cB;clear cB bL hH bV qz hB l1 l2;go_upto_region 5 with(fail)
   rw[←cK.out];generalize (wr.alloc (.cells #[.bool x.neg,.slice D1 e1 f1,.slice D2 e2 f2] 87))=wx at *;clear x0 x1 x2
   by_cases hd1:r1<0
   ·have d1:decide (r1<0)=true:=by simpa using hd1
    have aG:=Aa hd1;clear hd1
    by_cases hd2:0<r2
    ·have d2:decide (0<r2)=true:=by simpa using hd2
     have aF:=Aa hd2;clear hd2;obtain⟨A1,n1,c1,A2,n2,c2,A3,n3,c3,A4,n4,c4,aA,h1,h2,h3,h4⟩:=id aU;have y0:=aA.cell 0;have y1:=aA.cell 1;have y2:=aA.cell 2;have b0:=qx.cell 0;have b1:=qx.cell 1;have b2:=qx.cell 2
     go_wp2_with fail
     refine(bS.out _ _ wx (RatS.mk aT aR) (RatS.mk h1 h2)).mono ?_;rintro e w5 ⟨rfl,aD⟩;have aP:=aU.later aD;have aW:=bD.later aD;have q5:=qx.below aD qx.lt;have aY:=aQ.below aD aQ.lt;have aN:=aT.later aD;have aO:=aR.later aD;have aZ:=Ad aS aD;clear y0 y1 y2 b0 b1 b2 aA h1 h2 h3 h4 aU bD qx aQ aT aR aS aD;obtain⟨A1,n1,c1,A2,n2,c2,A3,n3,c3,A4,n4,c4,aA,h1,h2,h3,h4⟩:=id aP;have y0:=aA.cell 0;have y1:=aA.cell 1;have y2:=aA.cell 2;have z0:=aA.frozen 0;have z1:=aA.frozen 1;have z2:=aA.frozen 2;have b0:=q5.cell 0;have b1:=q5.cell 1;have b2:=q5.cell 2;have hn:=zbc lo.neg hi.neg A1 A2 A3 A4 n1 c1 n2 c2 n3 c3 n4 c4;have aI:=aP.low aN aO;have aX:=aW.store3 aA hn bT 0 1 2 x.neg D1 D2 e1 f1 e2 f2;have q6:=((q5.setFar (i:=0) aH (.bool x.neg)).setFar (i:=1) aH (.slice D1 e1 f1)).setFar (i:=2) aH (.slice D2 e2 f2);have aJ:=((aY.setFar (i:=0) (g':=gh) (by omega) (.bool x.neg)).setFar (i:=1) (g':=gh) (by omega) (.slice D1 e1 f1)).setFar (i:=2) (g':=gh) (by omega) (.slice D2 e2 f2);have aL:=aN.store3 aA hn 0 1 2 x.neg D1 D2 e1 f1 e2 f2;have aK:=aO.store3 aA hn 0 1 2 x.neg D1 D2 e1 f1 e2 f2;have aM:=zek aZ (g:=gh) (by omega) 0 1 2 (.bool x.neg) (.slice D1 e1 f1) (.slice D2 e2 f2);clear aA h1 h2 h3 h4 aP aW q5 aY aN aO aZ hn;go_upto_region 7 with(fail)
     generalize (((w5.setCell ⟨gh,0,none⟩ (.bool x.neg)).setCell ⟨gh,1,none⟩ (.slice D1 e1 f1)).setCell ⟨gh,2,none⟩ (.slice D2 e2 f2))=w6 at *;clear y0 y1 y2 z0 z1 z2 b0 b1 b2;obtain⟨A1,n1,c1,A2,n2,c2,A3,n3,c3,A4,n4,c4,aA,h1,h2,h3,h4⟩:=id aI;have y3:=aA.cell 3;have y4:=aA.cell 4;have y5:=aA.cell 5;have b0:=q6.cell 0;have b1:=q6.cell 1;have b2:=q6.cell 2
     go_wp2_with fail
     refine(bP.out _ _ w6 (RatS.mk aL aK) (RatS.mk h3 h4)).mono ?_;rintro e w7 ⟨rfl,aC⟩;have aV:=aI.later aC;have bB:=aX.later aC;have q7:=q6.below aC q6.lt;have bA:=aJ.below aC aJ.lt;have bJ:=aL.later aC;have bG:=aK.later aC;have bC:=Ad aM aC;clear y3 y4 y5 b0 b1 b2 aA h1 h2 h3 h4 aI aX q6 aJ aL aK aM aC;obtain⟨A1,n1,c1,A2,n2,c2,A3,n3,c3,A4,n4,c4,aA,h1,h2,h3,h4⟩:=id aV;have y3:=aA.cell 3;have y4:=aA.cell 4;have y5:=aA.cell 5;have z3:=aA.frozen 3;have z4:=aA.frozen 4;have z5:=aA.frozen 5;have b0:=q7.cell 0;have b1:=q7.cell 1;have b2:=q7.cell 2;have hn:=zbc x.neg hi.neg A1 A2 A3 A4 n1 c1 n2 c2 n3 c3 n4 c4;have aE:=aV.high bJ bG;have bE:=bB.store3 aA hn bT 3 4 5 x.neg D1 D2 e1 f1 e2 f2;have bH:=((bA.setFar (i:=3) (g':=gh) (by omega) (.bool x.neg)).setFar (i:=4) (g':=gh) (by omega) (.slice D1 e1 f1)).setFar (i:=5) (g':=gh) (by omega) (.slice D2 e2 f2);have bF:=zek bC (g:=gh) (by omega) 3 4 5 (.bool x.neg) (.slice D1 e1 f1) (.slice D2 e2 f2);clear aA h1 h2 h3 h4 aV bB bA bJ bG bC hn
     go_wp2_with fail
     go_roundw
     case rel=>exact⟨k+1,by omega,by go_num,by rw[bU.out];first | (rw[if_pos (by have:=aG.out;omega),if_pos (by have:=aF.out;omega)];exact aE) | (rw[if_pos (by have:=aG.out;omega),if_neg (by have:=aF.out;omega)];exact aE) | (rw[if_neg (by have:=aG.out;omega),if_pos (by have:=aF.out;omega)];exact aE) | (rw[if_neg (by have:=aG.out;omega),if_neg (by have:=aF.out;omega)];exact aE),bE,bH,bF⟩
     case measure=>simp[intOf]<;>omega
    ·have d2:decide (0<r2)=false:=by simpa using hd2
     have aF:=Aa hd2;clear hd2;obtain⟨A1,n1,c1,A2,n2,c2,A3,n3,c3,A4,n4,c4,aA,h1,h2,h3,h4⟩:=id aU;have y0:=aA.cell 0;have y1:=aA.cell 1;have y2:=aA.cell 2;have b0:=qx.cell 0;have b1:=qx.cell 1;have b2:=qx.cell 2
     go_wp2_with fail
     refine(bS.out _ _ wx (RatS.mk aT aR) (RatS.mk h1 h2)).mono ?_;rintro e w5 ⟨rfl,aD⟩;have aP:=aU.later aD;have aW:=bD.later aD;have q5:=qx.below aD qx.lt;have aY:=aQ.below aD aQ.lt;have aN:=aT.later aD;have aO:=aR.later aD;have aZ:=Ad aS aD;clear y0 y1 y2 b0 b1 b2 aA h1 h2 h3 h4 aU bD qx aQ aT aR aS aD;obtain⟨A1,n1,c1,A2,n2,c2,A3,n3,c3,A4,n4,c4,aA,h1,h2,h3,h4⟩:=id aP;have y0:=aA.cell 0;have y1:=aA.cell 1;have y2:=aA.cell 2;have z0:=aA.frozen 0;have z1:=aA.frozen 1;have z2:=aA.frozen 2;have b0:=q5.cell 0;have b1:=q5.cell 1;have b2:=q5.cell 2;have hn:=zbc lo.neg hi.neg A1 A2 A3 A4 n1 c1 n2 c2 n3 c3 n4 c4;have aI:=aP.low aN aO;have aX:=aW.store3 aA hn bT 0 1 2 x.neg D1 D2 e1 f1 e2 f2;have q6:=((q5.setFar (i:=0) aH (.bool x.neg)).setFar (i:=1) aH (.slice D1 e1 f1)).setFar (i:=2) aH (.slice D2 e2 f2);have aJ:=((aY.setFar (i:=0) (g':=gh) (by omega) (.bool x.neg)).setFar (i:=1) (g':=gh) (by omega) (.slice D1 e1 f1)).setFar (i:=2) (g':=gh) (by omega) (.slice D2 e2 f2);have aL:=aN.store3 aA hn 0 1 2 x.neg D1 D2 e1 f1 e2 f2;have aK:=aO.store3 aA hn 0 1 2 x.neg D1 D2 e1 f1 e2 f2;have aM:=zek aZ (g:=gh) (by omega) 0 1 2 (.bool x.neg) (.slice D1 e1 f1) (.slice D2 e2 f2);clear aA h1 h2 h3 h4 aP aW q5 aY aN aO aZ hn;go_upto_region 7 with(fail)
     generalize (((w5.setCell ⟨gh,0,none⟩ (.bool x.neg)).setCell ⟨gh,1,none⟩ (.slice D1 e1 f1)).setCell ⟨gh,2,none⟩ (.slice D2 e2 f2))=w6 at *;clear y0 y1 y2 z0 z1 z2 b0 b1 b2;obtain⟨A1,n1,c1,A2,n2,c2,A3,n3,c3,A4,n4,c4,aA,h1,h2,h3,h4⟩:=id aI;have y3:=aA.cell 3;have y4:=aA.cell 4;have y5:=aA.cell 5;have b0:=q6.cell 0;have b1:=q6.cell 1;have b2:=q6.cell 2
     go_wp2_with fail
     refine(bP.out _ _ w6 (RatS.mk aL aK) (RatS.mk h3 h4)).mono ?_;rintro e w7 ⟨rfl,aC⟩;have aV:=aI.later aC;have bB:=aX.later aC;have q7:=q6.below aC q6.lt;have bA:=aJ.below aC aJ.lt;have bJ:=aL.later aC;have bG:=aK.later aC;have bC:=Ad aM aC;clear y3 y4 y5 b0 b1 b2 aA h1 h2 h3 h4 aI aX q6 aJ aL aK aM aC;have aE:=aV;have bE:=bB;have bH:=bA;have bF:=bC
     go_wp2_with fail
     go_roundw
     case rel=>exact⟨k+1,by omega,by go_num,by rw[bU.out];first | (rw[if_pos (by have:=aG.out;omega),if_pos (by have:=aF.out;omega)];exact aE) | (rw[if_pos (by have:=aG.out;omega),if_neg (by have:=aF.out;omega)];exact aE) | (rw[if_neg (by have:=aG.out;omega),if_pos (by have:=aF.out;omega)];exact aE) | (rw[if_neg (by have:=aG.out;omega),if_neg (by have:=aF.out;omega)];exact aE),bE,bH,bF⟩
     case measure=>simp[intOf]<;>omega
   ·have d1:decide (r1<0)=false:=by simpa using hd1
    have aG:=Aa hd1;clear hd1
    by_cases hd2:0<r2
    ·have d2:decide (0<r2)=true:=by simpa using hd2
     have aF:=Aa hd2;clear hd2;obtain⟨A1,n1,c1,A2,n2,c2,A3,n3,c3,A4,n4,c4,aA,h1,h2,h3,h4⟩:=id aU;have y0:=aA.cell 0;have y1:=aA.cell 1;have y2:=aA.cell 2;have b0:=qx.cell 0;have b1:=qx.cell 1;have b2:=qx.cell 2
     go_wp2_with fail
     refine(bS.out _ _ wx (RatS.mk aT aR) (RatS.mk h1 h2)).mono ?_;rintro e w5 ⟨rfl,aD⟩;have aP:=aU.later aD;have aW:=bD.later aD;have q5:=qx.below aD qx.lt;have aY:=aQ.below aD aQ.lt;have aN:=aT.later aD;have aO:=aR.later aD;have aZ:=Ad aS aD;clear y0 y1 y2 b0 b1 b2 aA h1 h2 h3 h4 aU bD qx aQ aT aR aS aD;have aI:=aP;have aX:=aW;have q6:=q5;have aJ:=aY;have aL:=aN;have aK:=aO;have aM:=aZ;clear aP aW q5 aY aN aO aZ;obtain⟨A1,n1,c1,A2,n2,c2,A3,n3,c3,A4,n4,c4,aA,h1,h2,h3,h4⟩:=id aI;have y3:=aA.cell 3;have y4:=aA.cell 4;have y5:=aA.cell 5;have b0:=q6.cell 0;have b1:=q6.cell 1;have b2:=q6.cell 2
     go_wp2_with fail
     refine(bP.out _ _ w5 (RatS.mk aL aK) (RatS.mk h3 h4)).mono ?_;rintro e w7 ⟨rfl,aC⟩;have aV:=aI.later aC;have bB:=aX.later aC;have q7:=q6.below aC q6.lt;have bA:=aJ.below aC aJ.lt;have bJ:=aL.later aC;have bG:=aK.later aC;have bC:=Ad aM aC;clear y3 y4 y5 b0 b1 b2 aA h1 h2 h3 h4 aI aX q6 aJ aL aK aM aC;obtain⟨A1,n1,c1,A2,n2,c2,A3,n3,c3,A4,n4,c4,aA,h1,h2,h3,h4⟩:=id aV;have y3:=aA.cell 3;have y4:=aA.cell 4;have y5:=aA.cell 5;have z3:=aA.frozen 3;have z4:=aA.frozen 4;have z5:=aA.frozen 5;have b0:=q7.cell 0;have b1:=q7.cell 1;have b2:=q7.cell 2;have hn:=zbc lo.neg hi.neg A1 A2 A3 A4 n1 c1 n2 c2 n3 c3 n4 c4;have aE:=aV.high bJ bG;have bE:=bB.store3 aA hn bT 3 4 5 x.neg D1 D2 e1 f1 e2 f2;have bH:=((bA.setFar (i:=3) (g':=gh) (by omega) (.bool x.neg)).setFar (i:=4) (g':=gh) (by omega) (.slice D1 e1 f1)).setFar (i:=5) (g':=gh) (by omega) (.slice D2 e2 f2);have bF:=zek bC (g:=gh) (by omega) 3 4 5 (.bool x.neg) (.slice D1 e1 f1) (.slice D2 e2 f2);clear aA h1 h2 h3 h4 aV bB bA bJ bG bC hn
     go_wp2_with fail
     go_roundw
     case rel=>exact⟨k+1,by omega,by go_num,by rw[bU.out];first | (rw[if_pos (by have:=aG.out;omega),if_pos (by have:=aF.out;omega)];exact aE) | (rw[if_pos (by have:=aG.out;omega),if_neg (by have:=aF.out;omega)];exact aE) | (rw[if_neg (by have:=aG.out;omega),if_pos (by have:=aF.out;omega)];exact aE) | (rw[if_neg (by have:=aG.out;omega),if_neg (by have:=aF.out;omega)];exact aE),bE,bH,bF⟩
     case measure=>simp[intOf]<;>omega
    ·have d2:decide (0<r2)=false:=by simpa using hd2
     have aF:=Aa hd2;clear hd2;obtain⟨A1,n1,c1,A2,n2,c2,A3,n3,c3,A4,n4,c4,aA,h1,h2,h3,h4⟩:=id aU;have y0:=aA.cell 0;have y1:=aA.cell 1;have y2:=aA.cell 2;have b0:=qx.cell 0;have b1:=qx.cell 1;have b2:=qx.cell 2
     go_wp2_with fail
     refine(bS.out _ _ wx (RatS.mk aT aR) (RatS.mk h1 h2)).mono ?_;rintro e w5 ⟨rfl,aD⟩;have aP:=aU.later aD;have aW:=bD.later aD;have q5:=qx.below aD qx.lt;have aY:=aQ.below aD aQ.lt;have aN:=aT.later aD;have aO:=aR.later aD;have aZ:=Ad aS aD;clear y0 y1 y2 b0 b1 b2 aA h1 h2 h3 h4 aU bD qx aQ aT aR aS aD;have aI:=aP;have aX:=aW;have q6:=q5;have aJ:=aY;have aL:=aN;have aK:=aO;have aM:=aZ;clear aP aW q5 aY aN aO aZ;obtain⟨A1,n1,c1,A2,n2,c2,A3,n3,c3,A4,n4,c4,aA,h1,h2,h3,h4⟩:=id aI;have y3:=aA.cell 3;have y4:=aA.cell 4;have y5:=aA.cell 5;have b0:=q6.cell 0;have b1:=q6.cell 1;have b2:=q6.cell 2
     go_wp2_with fail
     refine(bP.out _ _ w5 (RatS.mk aL aK) (RatS.mk h3 h4)).mono ?_;rintro e w7 ⟨rfl,aC⟩;have aV:=aI.later aC;have bB:=aX.later aC;have q7:=q6.below aC q6.lt;have bA:=aJ.below aC aJ.lt;have bJ:=aL.later aC;have bG:=aK.later aC;have bC:=Ad aM aC;clear y3 y4 y5 b0 b1 b2 aA h1 h2 h3 h4 aI aX q6 aJ aL aK aM aC;have aE:=aV;have bE:=bB;have bH:=bA;have bF:=bC
     go_wp2_with fail
     go_roundw
     case rel=>exact⟨k+1,by omega,by go_num,by rw[bU.out];first | (rw[if_pos (by have:=aG.out;omega),if_pos (by have:=aF.out;omega)];exact aE) | (rw[if_pos (by have:=aG.out;omega),if_neg (by have:=aF.out;omega)];exact aE) | (rw[if_neg (by have:=aG.out;omega),if_pos (by have:=aF.out;omega)];exact aE) | (rw[if_neg (by have:=aG.out;omega),if_neg (by have:=aF.out;omega)];exact aE),bE,bH,bF⟩
     case measure=>simp[intOf]<;>omega
  ·obtain rfl:k=n:=by omega
   have bI:encQ p (qs.take k)=encQ p qs:=by rw[List.take_of_length_le (by rw[HL.out];exact Nat.le_refl _)]
   rw[bI] at hH;have HF:=Aa bI;obtain⟨A1,n1,c1,A2,n2,c2,A3,n3,c3,A4,n4,c4,aA,h1,h2,h3,h4⟩:=hH;obtain⟨E,hE⟩:∃ E,E=encQ p qs:=⟨_,rfl⟩;rw[←hE] at aA h1 h2 h3 h4;have cM:=Aa hE;clear hE bI;have a0:=aA.cell 0;have a1:=aA.cell 1;have a2:=aA.cell 2;have a3:=aA.cell 3;have a4:=aA.cell 4;have a5:=aA.cell 5;have y0:=qz.cell 0;have y1:=qz.cell 1;have y2:=qz.cell 2;have y3:=qz.cell 3;have y4:=qz.cell 4;have y5:=qz.cell 5;have z0:=qz.frozen 0;have z1:=qz.frozen 1;have z2:=qz.frozen 2;have z3:=qz.frozen 3;have z4:=qz.frozen 4;have z5:=qz.frozen 5;have hI:=zbX (p:=E.1) (q:=E.2) qz hB (by omega) rfl h1 h2 h3 h4;unfold Go.Proofs.YtbkgkoenppkhpaaGreatDoor.set6 at hI;have HI:=Aa hI;clear hI h1 h2 h3 h4 hB bV;go_wp2
   refine bodyPost_ret (v := .agg #[.bool E.1.neg,.slice A1 n1 c1,.slice A2 n2 c2,.bool E.2.neg,.slice A3 n3 c3,.slice A4 n4 c4]) (by simp[results,Tryz.results144,go_sem,y0,y1,y2,y3,y4,y5]) rfl ⟨_,rfl,by rw[←cM.out];exact HI.out⟩
end Go.Proofs.YtbkgkoenppkhpaaGreatDoor
