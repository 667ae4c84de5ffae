/- Package number's rational numbers by what they read as; minus. -/
import Derived.Test.YtbkgkoenppkhpaaGreatDoorGRat1
import Derived.Test.YtbkgkoenppkhpaaGreatDoorGRat5
import Derived.Test.YtbkgkoenppkhpaaGreatDoorGBld
import Derived.Test.YtbkgkoenppkhpaaGreatDoorGRead2
import Derived.Test.YtbkgkoenppkhpaaGreatDoorGWords
import Derived.Deep.RegionHeld3
set_option maxRecDepth 100000
set_option maxHeartbeats 4000000
namespace Go.Proofs.YtbkgkoenppkhpaaGreatDoor
section
open Go.RowKit Bn
def LenQ (q:Q) (K:Nat):Prop:=(digs q.top).length≤K∧(digs q.bot).length≤K
theorem LenQ.mono {q:Q} {K L:Nat} (h:LenQ q K) (hl:K≤L):LenQ q L:=⟨Nat.le_trans h.1 hl,Nat.le_trans h.2 hl⟩
theorem RatS.later {w w':World} {v:Value} {q:Q} (h:RatS w w.heap.size v q) (hb:Below w.heap.size w w'):RatS w' w'.heap.size v q:=by
 obtain ⟨A,n,c,A',n',c',rfl,h1,h2⟩:=h;exact ⟨A,n,c,A',n',c',rfl,h1.later hb,h2.later hb⟩
theorem zck:(digs 1).length≤1:=zad (by decide)
theorem zdT {b:Bool} {x y K:Nat} (hx:(digs x).length≤K) (hy:(digs y).length≤K) (hK:1≤K):LenQ (lowQ b x y) K:=by
 unfold lowQ
 split
 ·exact ⟨by show (digs 0).length≤K;rw [zao];exact Nat.zero_le _,by show (digs 0).length≤K;rw [zao];exact Nat.zero_le _⟩
 ·split
  ·exact ⟨by show (digs 0).length≤K;rw [zao];exact Nat.zero_le _,Nat.le_trans zck hK⟩
  ·exact ⟨Nat.le_trans (zaa (Nat.div_le_self _ _)) hx,Nat.le_trans (zaa (Nat.div_le_self _ _)) hy⟩
def zcS (q:Q):Q:=⟨!q.neg && !decide (q.top=0),q.top,q.bot⟩
def za1 (p q:Q):Q:=zdo p (zcS q)
theorem zbS {q:Q} {K:Nat} (h:LenQ q K):LenQ (zcS q) K:=h
theorem zbk {p q:Q} {K L:Nat} (b:Bool) (hp:LenQ p K) (hq:LenQ q L) (h1:1≤K+L):LenQ (lowQ b (p.top*q.top) (p.bot*q.bot)) (K+L):=
 zdT (zaD hp.1 hq.1) (zaD hp.2 hq.2) h1
theorem zhn {p q:Q} {K L:Nat} (b:Bool) (hp:LenQ p K) (hq:LenQ q L) (h1:1≤K+L):LenQ (lowQ b (p.top*q.bot) (p.bot*q.top)) (K+L):=
 zdT (zaD hp.1 hq.2) (zaD hp.2 hq.1) h1
theorem zbI {p q:Q} {K L:Nat} (hp:LenQ p K) (hq:LenQ q L):LenQ (zdo p q) (K+L+K+L+1):=by
 have hb:(digs (p.bot*q.bot)).length≤K+L:=zaD hp.2 hq.2;have h1:(digs (p.top*q.bot)).length≤K+L:=zaD hp.1 hq.2;have h2:(digs (q.top*p.bot)).length≤L+K:=zaD hq.1 hp.2;have h3:=zeD h1 h2;have h4:=zdG (p.top*q.bot) (q.top*p.bot);have h5:=zdG (q.top*p.bot) (p.top*q.bot);unfold zdo
 split
 ·exact zdT (by omega) (by omega) (by omega)
 ·split
  ·exact zdT (by omega) (by omega) (by omega)
  ·exact zdT (by omega) (by omega) (by omega)
theorem zmr (p q:Q) (v u:Value) (w:World) (hT:Tabs w) (hv:RatS w w.heap.size v p) (hu:RatS w w.heap.size u q) (hp:LenQ p 134217728) (hq:LenQ q 134217728) :
  Calls Tryz.prog 142 #[v,u] w (za2 w (zdo p q)):=by
 obtain ⟨A1,n1,c1,A2,n2,c2,rfl,h1,h2⟩:=hv;obtain ⟨A3,n3,c3,A4,n4,c4,rfl,h3,h4⟩:=hu;exact zit p q A1 A2 A3 A4 n1 c1 n2 c2 n3 c3 n4 c4 w hT h1 h2 h3 h4 (by rw [←h1.len];exact hp.1) (by rw [←h2.len];exact hp.2) (by rw [←h3.len];exact hq.1) (by rw [←h4.len];exact hq.2)
theorem zez (p q:Q) (v u:Value) (w:World) (hT:Tabs w) (hv:RatS w w.heap.size v p) (hu:RatS w w.heap.size u q) (hp:LenQ p 268435456) (hq:LenQ q 268435456) :
  Calls Tryz.prog 145 #[v,u] w (za2 w (lowQ (p.neg != q.neg) (p.top*q.top) (p.bot*q.bot))):=by
 obtain ⟨A1,n1,c1,A2,n2,c2,rfl,h1,h2⟩:=hv;obtain ⟨A3,n3,c3,A4,n4,c4,rfl,h3,h4⟩:=hu;exact zhL p q A1 A2 A3 A4 n1 c1 n2 c2 n3 c3 n4 c4 w hT h1 h2 h3 h4 (by rw [←h1.len];exact hp.1) (by rw [←h2.len];exact hp.2) (by rw [←h3.len];exact hq.1) (by rw [←h4.len];exact hq.2)
theorem zou (p q:Q) (v u:Value) (w:World) (hT:Tabs w) (hv:RatS w w.heap.size v p) (hu:RatS w w.heap.size u q) (hp:LenQ p 268435456) (hq:LenQ q 268435456) :
  Calls Tryz.prog 112 #[v,u] w (za2 w (lowQ (p.neg != q.neg) (p.top*q.bot) (p.bot*q.top))):=by
 obtain ⟨A1,n1,c1,A2,n2,c2,rfl,h1,h2⟩:=hv;obtain ⟨A3,n3,c3,A4,n4,c4,rfl,h3,h4⟩:=hu;exact zih p q A1 A2 A3 A4 n1 c1 n2 c2 n3 c3 n4 c4 w hT h1 h2 h3 h4 (by rw [←h1.len];exact hp.1) (by rw [←h2.len];exact hp.2) (by rw [←h3.len];exact hq.1) (by rw [←h4.len];exact hq.2)
theorem zbw (p q:Q) (v u:Value) (w:World) (hv:RatS w w.heap.size v p) (hu:RatS w w.heap.size u q) (hp:LenQ p 268435456) (hq:LenQ q 268435456) :
  Calls Tryz.prog 81 #[v,u] w fun e w'=>e = .returned (.int .i64 (rcmp p q))∧Below w.heap.size w w':=by
 obtain ⟨A1,n1,c1,A2,n2,c2,rfl,h1,h2⟩:=hv;obtain ⟨A3,n3,c3,A4,n4,c4,rfl,h3,h4⟩:=hu;exact zgh p q A1 A2 A3 A4 n1 c1 n2 c2 n3 c3 n4 c4 w h1 h2 h3 h4 (by rw [←h1.len];exact hp.1) (by rw [←h2.len];exact hp.2) (by rw [←h3.len];exact hq.1) (by rw [←h4.len];exact hq.2)
theorem zmy (p:Q) (v:Value) (w:World) (hv:RatS w w.heap.size v p) :
  Calls Tryz.prog 174 #[v] w (za2 w (zcS p)):=by
 obtain ⟨A1,n1,c1,A2,n2,c2,rfl,h1,h2⟩:=hv;exact zgj p.neg p.top p.bot A1 A2 n1 c1 n2 c2 w h1 h2
theorem zmT (p:Q) (v:Value) (w:World) (hv:RatS w w.heap.size v p) (hy:0<p.bot) (hp:LenQ p 268435456) :
  Calls Tryz.prog 113 #[v] w (za2 w (zbp p)):=by
 obtain ⟨A1,n1,c1,A2,n2,c2,rfl,h1,h2⟩:=hv;exact zh2 p.neg p.top p.bot A1 A2 n1 c1 n2 c2 w h1 h2 hy (by rw [←h1.len];exact hp.1)
theorem zcz (p:Q) (v:Value) (w:World) (hT:Tabs w) (hv:RatS w w.heap.size v p) (hp:LenQ p 268435456) :
  Calls Tryz.prog 89 #[v] w (zco w (zbz p) (zaB p)):=by
 obtain ⟨A1,n1,c1,A2,n2,c2,rfl,h1,h2⟩:=hv;exact zfH p A1 A2 n1 c1 n2 c2 w hT h1 h2 (by rw [←h1.len];exact hp.1) (by rw [←h2.len];exact hp.2)
end
section
open Go.RowKit
def natv (d:Nat):Value := .int .i64 (d:Int)
theorem znz:∀ l:List Nat,∀ u ∈ l.map natv,u.oneCell'=true:=by
 intro l u hu;obtain ⟨d,_,rfl⟩:=List.mem_map.1 hu;rfl
theorem zaY.cellM {α:Type} {w:World} {B n:Nat} {A:Option Addr} {l:List α} {f : α→Value} (h:zaY w B 1 A n (l.map f)) {k:Nat} (hk:k<n) :
  ∃ (ad:Addr) (hl:k<l.length),A=some ad∧ad.block<B∧w.cell? (ad.add k)=some (f l[k]):=by
 obtain ⟨ad,u,hA,hb,hu,hc⟩:=h.at_ hk;have hl:k<l.length:=by have:=h.1;rw [List.length_map] at this;omega
 rw [List.getElem?_map,List.getElem?_eq_getElem hl] at hu;injection hu with hu
 exact ⟨ad,hl,hA,hb,by rw [hc,←hu]⟩
theorem zaY.lenM {α:Type} {w:World} {B n:Nat} {A:Option Addr} {l:List α} {f : α→Value} (h:zaY w B 1 A n (l.map f)):l.length=n:=by
 have:=h.1;rw [List.length_map] at this;omega
theorem zaY.later {w w':World} {size n:Nat} {A:Option Addr} {xs:List Value} (h:zaY w w.heap.size size A n xs) (hb:Below w.heap.size w w'):zaY w' w'.heap.size size A n xs:=(h.below hb).more hb.size
section
variable {α:Type} {f : α→Value} {w w':World} {B B' n:Nat} {A:Option Addr} {rows:List (List α)}
end
theorem zlS {w:World} {base g n c size:Nat} {e:TypeId} {xs:List Value} (h:w.ownsRow base e size (.slice (some ⟨g,0,none⟩) n c) n xs):base≤g∧g<w.heap.size:=World.ownsRow.lt h g rfl
theorem zfn {w:World} {base g n c:Nat} {e:TypeId} {xs:List Value} (h:w.ownsRow base e 1 (.slice (some ⟨g,0,none⟩) n c) n xs) (k:Nat):w.frozen? ⟨g,k,none⟩=false:=World.ownsRow.frozenAt h k
def CBlk (w:World) (g:Nat) (c:Array Value) (t:TypeId):Prop:=w.heap[g]? = some (.cells c t (0,0))
section
variable {w w':World} {g B:Nat} {c:Array Value} {t:TypeId}
theorem CBlk.new (w:World) (c:Array Value) (t:TypeId) (g:Nat) (hg:g=w.heap.size):CBlk (w.alloc (.cells c t)) g c t:=by subst hg;exact heap_alloc_new w _
theorem CBlk.below (h:CBlk w g c t) (hb:Below B w w') (hg:g<B):CBlk w' g c t:=(hb.block g hg).trans h
theorem CBlk.grown {row:Option Nat} (h:CBlk w g c t) (hb:w.grownBy w' row) (hg:g<w.heap.size) (hr:row≠some g):CBlk w' g c t:=(hb.block g hg (fun e=>hr e.symm)).trans h
theorem CBlk.cell (h:CBlk w g c t) (i:Nat):w.cell? ⟨g,i,none⟩=c[i]? := cell_of_row w g i _ _ _ h
theorem CBlk.frozen (h:CBlk w g c t) (i:Nat):w.frozen? ⟨g,i,none⟩=false:=by
 unfold CBlk at h;simp [World.frozen?,h]
theorem CBlk.lt (h:CBlk w g c t):g<w.heap.size:=by
 unfold CBlk at h
 rcases Nat.lt_or_ge g w.heap.size with aA | aC
 ·exact aA
 ·rw [Array.getElem?_eq_none aC] at h;cases h
theorem CBlk.set0 {v u:Value} (h:CBlk w g #[v] t):CBlk (w.setCell ⟨g,0,none⟩ u) g #[u] t:=heap_setCell_same w g 0 #[v] t u h
end
theorem zcs {w:World} {base size n:Nat} {e:TypeId} {v:Value} {xs:List Value} (h:w.ownsRow base e size v n xs):∃ A c,v = .slice A n c∧n≤c∧c≤maxLen∧zaY w w.heap.size size A n xs:=by
 rcases h.2 with ⟨rfl,rfl⟩ | ⟨g,aD,aG,rfl,hb,hg,aE,aC,aF,aA⟩
 ·exact ⟨none,0,rfl,Nat.le_refl _,by unfold maxLen;omega,h.1,fun h0=>absurd h0 (by omega)⟩
 ·exact ⟨some ⟨g,0,none⟩,aD,rfl,aE,aC,zaY.of_own h⟩
theorem zfe {w:World} {base size n g:Nat} {e:TypeId} {xs:List Value} (h:w.heap[g]? = some (.cells xs.toArray e (0,0))) (hb:base≤g) (hn:n≤maxLen) (hl:xs.length=n*size):w.ownsRow base e size (.slice (some ⟨g,0,none⟩) n n) n xs:=
 ⟨hl,.inr ⟨g,n,xs.toArray,rfl,hb,h,Nat.le_refl _,hn,by simpa using hl,by rw [List.take_of_length_le (by simp;omega)]⟩⟩
end
section
open Go.RowKit Bn
def zcV (cs:Array Value):Prop:=∀ (i:Nat) (v:Value),cs[i]? = some v→∀ (k:IntKind) (d:Int),v ≠ .int k d
theorem zcV.set {cs:Array Value} (h:zcV cs) (i:Nat) {u:Value} (hu:∀ (k:IntKind) (d:Int),u ≠ .int k d):zcV (cs.setIfInBounds i u):=by
 intro j v hv;rw [Array.getElem?_setIfInBounds] at hv
 split at hv
 ·split at hv
  ·injection hv with hv;subst hv;exact hu
  ·cases hv
 ·exact h j v hv
theorem NatS.store {w:World} {B n c x g i:Nat} {A:Option Addr} {cs:Array Value} {t:TypeId} (h:NatS w B A n c x) (hk:CBlk w g cs t) (hn:zcV cs) (u:Value):NatS (w.setCell ⟨g,i,none⟩ u) B A n c x:=by
 refine ⟨⟨h.words.1,fun h0 => ?_⟩,h.nc,h.cm⟩;obtain ⟨ad,e,hb,hc⟩:=h.words.2 h0;refine ⟨ad,e,hb,fun j z hz => ?_⟩;have aA:=hc j z hz;have aC:∃ d:Nat,z = .int .u64 (d:Int):=by
  rw [List.getElem?_map] at hz
  cases hd:(digs x)[j]? with
  | none=>rw [hd] at hz;cases hz
  | some d=>rw [hd] at hz;injection hz with hz;exact ⟨d,hz.symm⟩
 obtain ⟨d,rfl⟩:=aC;rw [World.cell?_setCell_other _ _ _ _ (fun e0=>by
  rw [←e0,hk.cell i] at aA;exact hn i _ aA _ _ rfl)]
 exact aA
theorem CBlk.alloc {w:World} {g:Nat} {c:Array Value} {t:TypeId} (h:CBlk w g c t) (o:Obj):CBlk (w.alloc o) g c t:=h.below ((Below.refl _ _).alloc (Nat.le_refl _) o) h.lt
theorem CBlk.drew {w:World} {g:Nat} {c:Array Value} {t:TypeId} (h:CBlk w g c t):CBlk w.drew g c t:=h
theorem CBlk.set {w:World} {g:Nat} {c:Array Value} {t:TypeId} (h:CBlk w g c t) (i:Nat) (u:Value):CBlk (w.setCell ⟨g,i,none⟩ u) g (c.setIfInBounds i u) t:=heap_setCell_same w g i c t u h
def set6 (w:World) (g:Nat) (a b c d e f:Value):World:=
 (((((w.setCell ⟨g,0,none⟩ a).setCell ⟨g,1,none⟩ b).setCell ⟨g,2,none⟩ c).setCell ⟨g,3,none⟩ d).setCell ⟨g,4,none⟩ e).setCell ⟨g,5,none⟩ f
theorem zeC (w:World) (g:Nat) (a b c d e f:Value):(set6 w g a b c d e f).heap.size=w.heap.size:=by simp [set6,World.setCell]
theorem zok {a w:World} {B g:Nat} (h:Below B a w) (hg:B≤g) (u1 u2 u3 u4 u5 u6:Value):Below B a (set6 w g u1 u2 u3 u4 u5 u6):=
 (((((h.setCell (p:=⟨g,0,none⟩) hg _).setCell (p:=⟨g,1,none⟩) hg _).setCell (p:=⟨g,2,none⟩) hg _).setCell (p:=⟨g,3,none⟩) hg _).setCell (p:=⟨g,4,none⟩) hg _).setCell (p:=⟨g,5,none⟩) hg _
theorem za4 (b b':Bool) (A1 A2 A3 A4:Option Addr) (n1 c1 n2 c2 n3 c3 n4 c4:Nat):zcV #[.bool b,.slice A1 n1 c1,.slice A2 n2 c2,.bool b',.slice A3 n3 c3,.slice A4 n4 c4]:=by
 intro i v hv k d
 rcases (show i=0∨i=1∨i=2∨i=3∨i=4∨i=5∨6≤i from by omega) with rfl | rfl | rfl | rfl | rfl | rfl | h
 ·injection hv with hv;subst hv;intro h;cases h
 ·injection hv with hv;subst hv;intro h;cases h
 ·injection hv with hv;subst hv;intro h;cases h
 ·injection hv with hv;subst hv;intro h;cases h
 ·injection hv with hv;subst hv;intro h;cases h
 ·injection hv with hv;subst hv;intro h;cases h
 ·rw [Array.getElem?_eq_none h] at hv;cases hv
theorem zf9 (b:Bool) (A1 A2:Option Addr) (n1 c1 n2 c2:Nat):zcV #[.bool b,.slice A1 n1 c1,.slice A2 n2 c2]:=by
 intro i v hv k d
 rcases (show i=0∨i=1∨i=2∨3≤i from by omega) with rfl | rfl | rfl | h
 ·injection hv with hv;subst hv;intro h;cases h
 ·injection hv with hv;subst hv;intro h;cases h
 ·injection hv with hv;subst hv;intro h;cases h
 ·rw [Array.getElem?_eq_none h] at hv;cases hv
theorem NatS.set6 {w:World} {B n c x g:Nat} {A:Option Addr} {b0 b0':Bool} {a1 a2 a3 a4:Option Addr} {m1 d1 m2 d2 m3 d3 m4 d4:Nat} {t:TypeId} (h:NatS w B A n c x)
  (hk:CBlk w g #[.bool b0,.slice a1 m1 d1,.slice a2 m2 d2,.bool b0',.slice a3 m3 d3,.slice a4 m4 d4] t)
  (b b':Bool) (A1 A2 A3 A4:Option Addr) (n1 c1 n2 c2 n3 c3 n4 c4:Nat) :
  NatS (set6 w g (.bool b) (.slice A1 n1 c1) (.slice A2 n2 c2) (.bool b') (.slice A3 n3 c3) (.slice A4 n4 c4)) B A n c x:=by
 unfold Go.Proofs.YtbkgkoenppkhpaaGreatDoor.set6;have k0:=hk;have k1:CBlk _ g #[.bool b,.slice a1 m1 d1,.slice a2 m2 d2,.bool b0',.slice a3 m3 d3,.slice a4 m4 d4] t:=k0.set 0 (.bool b);have k2:CBlk _ g #[.bool b,.slice A1 n1 c1,.slice a2 m2 d2,.bool b0',.slice a3 m3 d3,.slice a4 m4 d4] t:=k1.set 1 (.slice A1 n1 c1);have k3:CBlk _ g #[.bool b,.slice A1 n1 c1,.slice A2 n2 c2,.bool b0',.slice a3 m3 d3,.slice a4 m4 d4] t:=k2.set 2 (.slice A2 n2 c2);have k4:CBlk _ g #[.bool b,.slice A1 n1 c1,.slice A2 n2 c2,.bool b',.slice a3 m3 d3,.slice a4 m4 d4] t:=k3.set 3 (.bool b');have k5:CBlk _ g #[.bool b,.slice A1 n1 c1,.slice A2 n2 c2,.bool b',.slice A3 n3 c3,.slice a4 m4 d4] t:=k4.set 4 (.slice A3 n3 c3);exact (((((h.store k0 (za4 _ _ _ _ _ _ _ _ _ _ _ _ _ _) _).store k1 (za4 _ _ _ _ _ _ _ _ _ _ _ _ _ _) _).store k2 (za4 _ _ _ _ _ _ _ _ _ _ _ _ _ _) _).store k3 (za4 _ _ _ _ _ _ _ _ _ _ _ _ _ _) _).store k4 (za4 _ _ _ _ _ _ _ _ _ _ _ _ _ _) _).store k5 (za4 _ _ _ _ _ _ _ _ _ _ _ _ _ _) _
theorem CBlk.set6 {w:World} {g:Nat} {u1 u2 u3 u4 u5 u6:Value} {t:TypeId} (hk:CBlk w g #[u1,u2,u3,u4,u5,u6] t) (v1 v2 v3 v4 v5 v6:Value):CBlk (set6 w g v1 v2 v3 v4 v5 v6) g #[v1,v2,v3,v4,v5,v6] t:=by
 unfold Go.Proofs.YtbkgkoenppkhpaaGreatDoor.set6;exact (((((hk.set 0 v1).set 1 v2).set 2 v3).set 3 v4).set 4 v5).set 5 v6
def ItvS (w:World) (B:Nat) (v:Value) (p q:Q):Prop:=
 ∃ A1 n1 c1 A2 n2 c2 A3 n3 c3 A4 n4 c4,v = .agg #[.bool p.neg,.slice A1 n1 c1,.slice A2 n2 c2,.bool q.neg,.slice A3 n3 c3,.slice A4 n4 c4]∧NatS w B A1 n1 c1 p.top∧NatS w B A2 n2 c2 p.bot∧NatS w B A3 n3 c3 q.top∧NatS w B A4 n4 c4 q.bot
theorem ItvS.later {w w':World} {v:Value} {p q:Q} (h:ItvS w w.heap.size v p q) (hb:Below w.heap.size w w'):ItvS w' w'.heap.size v p q:=by
 obtain ⟨A1,n1,c1,A2,n2,c2,A3,n3,c3,A4,n4,c4,rfl,h1,h2,h3,h4⟩:=h;exact ⟨A1,n1,c1,A2,n2,c2,A3,n3,c3,A4,n4,c4,rfl,h1.later hb,h2.later hb,h3.later hb,h4.later hb⟩
def zd4 (w:World) (p q:Q) (e:Ending) (w':World):Prop:=∃ v,e = .returned v∧ItvS w' w'.heap.size v p q∧Below w.heap.size w w'
def zgl:Q:=⟨false,0,0⟩
theorem zdj {w W:World} {B g:Nat} {p q:Q} {v:Value} {b0 b0':Bool} {a1 a2 a3 a4:Option Addr} {m1 d1 m2 d2 m3 d3 m4 d4:Nat} {t:TypeId} {A1 A2 A3 A4:Option Addr} {n1 c1 n2 c2 n3 c3 n4 c4:Nat}
  (hk:CBlk W g #[.bool b0,.slice a1 m1 d1,.slice a2 m2 d2,.bool b0',.slice a3 m3 d3,.slice a4 m4 d4] t) (hB:Below B w W) (hg:B≤g)
  (hv:v = .agg #[.bool p.neg,.slice A1 n1 c1,.slice A2 n2 c2,.bool q.neg,.slice A3 n3 c3,.slice A4 n4 c4])
  (h1:NatS W W.heap.size A1 n1 c1 p.top) (h2:NatS W W.heap.size A2 n2 c2 p.bot) (h3:NatS W W.heap.size A3 n3 c3 q.top) (h4:NatS W W.heap.size A4 n4 c4 q.bot) :
  ItvS (set6 W g (.bool p.neg) (.slice A1 n1 c1) (.slice A2 n2 c2) (.bool q.neg) (.slice A3 n3 c3) (.slice A4 n4 c4)) (set6 W g (.bool p.neg) (.slice A1 n1 c1) (.slice A2 n2 c2) (.bool q.neg) (.slice A3 n3 c3) (.slice A4 n4 c4)).heap.size v p q∧Below B w (set6 W g (.bool p.neg) (.slice A1 n1 c1) (.slice A2 n2 c2) (.bool q.neg) (.slice A3 n3 c3) (.slice A4 n4 c4)):=by
 refine ⟨⟨A1,n1,c1,A2,n2,c2,A3,n3,c3,A4,n4,c4,hv,?_,?_,?_,?_⟩,zok hB hg _ _ _ _ _ _⟩
 ·rw [zeC];exact h1.set6 hk _ _ _ _ _ _ _ _ _ _ _ _ _ _
 ·rw [zeC];exact h2.set6 hk _ _ _ _ _ _ _ _ _ _ _ _ _ _
 ·rw [zeC];exact h3.set6 hk _ _ _ _ _ _ _ _ _ _ _ _ _ _
 ·rw [zeC];exact h4.set6 hk _ _ _ _ _ _ _ _ _ _ _ _ _ _
theorem zkr (p:Q) (v:Value) (w:World) (hv:RatS w w.heap.size v p) :
  Calls Tryz.prog 131 #[v] w (zd4 w p p):=by
 obtain ⟨A1,n1,c1,A2,n2,c2,rfl,h1,h2⟩:=hv;have aC:Below w.heap.size w (w.alloc (.cells #[.bool p.neg,.slice A1 n1 c1,.slice A2 n2 c2] 87)):=Ac;have aA:Below w.heap.size w ((w.alloc (.cells #[.bool p.neg,.slice A1 n1 c1,.slice A2 n2 c2] 87)).alloc (.cells #[.bool false,.slice none 0 0,.slice none 0 0,.bool false,.slice none 0 0,.slice none 0 0] 91)):=aC.alloc (by simp) _;have q0:CBlk ((w.alloc (.cells #[.bool p.neg,.slice A1 n1 c1,.slice A2 n2 c2] 87)).alloc (.cells #[.bool false,.slice none 0 0,.slice none 0 0,.bool false,.slice none 0 0,.slice none 0 0] 91)) w.heap.size #[.bool p.neg,.slice A1 n1 c1,.slice A2 n2 c2] 87:=(CBlk.new w _ _ _ rfl).below ((Below.refl _ _).alloc (Nat.le_refl _) _) (by simp);have q1:CBlk ((w.alloc (.cells #[.bool p.neg,.slice A1 n1 c1,.slice A2 n2 c2] 87)).alloc (.cells #[.bool false,.slice none 0 0,.slice none 0 0,.bool false,.slice none 0 0,.slice none 0 0] 91)) (w.heap.size+1) #[.bool false,.slice none 0 0,.slice none 0 0,.bool false,.slice none 0 0,.slice none 0 0] 91:=CBlk.new _ _ _ _ (by simp);go_enter Tryz.func131,Tryz.ntmps131
 go_upto_region 1 with (fail)
 generalize ((w.alloc (.cells #[.bool p.neg,.slice A1 n1 c1,.slice A2 n2 c2] 87)).alloc (.cells #[.bool false,.slice none 0 0,.slice none 0 0,.bool false,.slice none 0 0,.slice none 0 0] 91))=W at *;have x0:=q0.cell 0;have x1:=q0.cell 1;have x2:=q0.cell 2;have y0:=q1.cell 0;have y1:=q1.cell 1;have y2:=q1.cell 2;have y3:=q1.cell 3;have y4:=q1.cell 4;have y5:=q1.cell 5;have z0:=q1.frozen 0;have z1:=q1.frozen 1;have z2:=q1.frozen 2;have z3:=q1.frozen 3;have z4:=q1.frozen 4;have z5:=q1.frozen 5;have hI:=zdj (p:=p) (q:=p) q1 aA (by omega) rfl (h1.later aA) (h2.later aA) (h1.later aA) (h2.later aA);have hD:=q1.set6 (.bool p.neg) (.slice A1 n1 c1) (.slice A2 n2 c2) (.bool p.neg) (.slice A1 n1 c1) (.slice A2 n2 c2);unfold Go.Proofs.YtbkgkoenppkhpaaGreatDoor.set6 at hI hD;have r0:=hD.cell 0;have r1:=hD.cell 1;have r2:=hD.cell 2;have r3:=hD.cell 3;have r4:=hD.cell 4;have r5:=hD.cell 5;have HI:=Aa hI;clear hI hD aC aA h1 h2 q0 q1;go_wp2
 refine bodyPost_ret (v := .agg #[.bool p.neg,.slice A1 n1 c1,.slice A2 n2 c2,.bool p.neg,.slice A1 n1 c1,.slice A2 n2 c2]) (by simp [results,Tryz.results131,go_sem,y0,y1,y2,y3,y4,y5]) rfl ⟨_,rfl,HI.out⟩
theorem zdp {g:Nat} (w:World) (u1 u2 u3 u4 u5 u6:Value) {q:Addr} (h:g≠q.block):((((((w.setCell ⟨g,0,none⟩ u1).setCell ⟨g,1,none⟩ u2).setCell ⟨g,2,none⟩ u3).setCell ⟨g,3,none⟩ u4).setCell ⟨g,4,none⟩ u5).setCell ⟨g,5,none⟩ u6).cell? q=w.cell? q:=by
 rw [World.cell?_setCell_far _ _ _ _ (by exact h),World.cell?_setCell_far _ _ _ _ (by exact h),World.cell?_setCell_far _ _ _ _ (by exact h),World.cell?_setCell_far _ _ _ _ (by exact h),World.cell?_setCell_far _ _ _ _ (by exact h),World.cell?_setCell_far _ _ _ _ (by exact h)]
theorem RatS.mk {w:World} {B:Nat} {q:Q} {A A':Option Addr} {n c n' c':Nat} (h1:NatS w B A n c q.top) (h2:NatS w B A' n' c' q.bot):RatS w B (.agg #[.bool q.neg,.slice A n c,.slice A' n' c']) q:=⟨A,n,c,A',n',c',rfl,h1,h2⟩
theorem zdN (p q:Q) (v u:Value) (w:World) (hT:Tabs w) (hv:RatS w w.heap.size v p) (hu:RatS w w.heap.size u q) (hp:LenQ p 134217728) (hq:LenQ q 134217728) :
  Calls Tryz.prog 117 #[v,u] w (za2 w (za1 p q)):=by
 obtain ⟨A1,n1,c1,A2,n2,c2,rfl,h1,h2⟩:=hv;obtain ⟨A3,n3,c3,A4,n4,c4,rfl,h3,h4⟩:=hu;have aZ:Below w.heap.size w (((w.alloc (.cells #[.bool p.neg,.slice A1 n1 c1,.slice A2 n2 c2] 87)).alloc (.cells #[.bool q.neg,.slice A3 n3 c3,.slice A4 n4 c4] 87)).alloc (.cells #[.bool false,.slice none 0 0,.slice none 0 0] 87)):=((((Below.refl _ _).alloc (by simp<;>omega) _).alloc (by simp<;>omega) _).alloc (by simp<;>omega) _);have q0:CBlk (((w.alloc (.cells #[.bool p.neg,.slice A1 n1 c1,.slice A2 n2 c2] 87)).alloc (.cells #[.bool q.neg,.slice A3 n3 c3,.slice A4 n4 c4] 87)).alloc (.cells #[.bool false,.slice none 0 0,.slice none 0 0] 87)) (w.heap.size) #[.bool p.neg,.slice A1 n1 c1,.slice A2 n2 c2] 87:=(((CBlk.new _ _ _ _ (by simp)).alloc _).alloc _);have q1:CBlk (((w.alloc (.cells #[.bool p.neg,.slice A1 n1 c1,.slice A2 n2 c2] 87)).alloc (.cells #[.bool q.neg,.slice A3 n3 c3,.slice A4 n4 c4] 87)).alloc (.cells #[.bool false,.slice none 0 0,.slice none 0 0] 87)) (w.heap.size+1) #[.bool q.neg,.slice A3 n3 c3,.slice A4 n4 c4] 87:=((CBlk.new _ _ _ _ (by simp)).alloc _);have q2:CBlk (((w.alloc (.cells #[.bool p.neg,.slice A1 n1 c1,.slice A2 n2 c2] 87)).alloc (.cells #[.bool q.neg,.slice A3 n3 c3,.slice A4 n4 c4] 87)).alloc (.cells #[.bool false,.slice none 0 0,.slice none 0 0] 87)) (w.heap.size+1+1) #[.bool false,.slice none 0 0,.slice none 0 0] 87:=(CBlk.new _ _ _ _ (by simp));go_enter Tryz.func117,Tryz.ntmps117
 go_wp2_with fail
 generalize (((w.alloc (.cells #[.bool p.neg,.slice A1 n1 c1,.slice A2 n2 c2] 87)).alloc (.cells #[.bool q.neg,.slice A3 n3 c3,.slice A4 n4 c4] 87)).alloc (.cells #[.bool false,.slice none 0 0,.slice none 0 0] 87))=W at *;have aW:w.heap.size<W.drew.heap.size:=q0.lt;have aF:W.drew.cell? ⟨w.heap.size,0,none⟩=some (.bool p.neg):=q0.cell 0;have aS:W.drew.cell? ⟨w.heap.size,1,none⟩=some (.slice A1 n1 c1):=q0.cell 1;have aN:W.drew.cell? ⟨w.heap.size,2,none⟩=some (.slice A2 n2 c2):=q0.cell 2;have aY:w.heap.size+1<W.drew.heap.size:=q1.lt;have aT:W.drew.cell? ⟨w.heap.size+1,0,none⟩=some (.bool q.neg):=q1.cell 0;have aK:W.drew.cell? ⟨w.heap.size+1,1,none⟩=some (.slice A3 n3 c3):=q1.cell 1;have aI:W.drew.cell? ⟨w.heap.size+1,2,none⟩=some (.slice A4 n4 c4):=q1.cell 2
 go_region_held3 (fun w'=>w'.cell? ⟨w.heap.size,0,none⟩=some (.bool p.neg)∧w'.cell? ⟨w.heap.size,1,none⟩=some (.slice A1 n1 c1)∧w'.cell? ⟨w.heap.size,2,none⟩=some (.slice A2 n2 c2)∧w'.cell? ⟨w.heap.size+1,0,none⟩=some (.bool q.neg)∧w'.cell? ⟨w.heap.size+1,1,none⟩=some (.slice A3 n3 c3)∧w'.cell? ⟨w.heap.size+1,2,none⟩=some (.slice A4 n4 c4))
  (first | with_reducible exact ⟨aF,aS,aN,aT,aK,aI⟩ | with_reducible exact ⟨aL,aD,aE,aQ,aC,aM⟩ | with_reducible exact ⟨aJ,aG,aP,aO,aH,aR⟩ | exact ⟨((far3 _ _ _ _ (by dsimp only;omega)).trans aJ),((far3 _ _ _ _ (by dsimp only;omega)).trans aG),((far3 _ _ _ _ (by dsimp only;omega)).trans aP),((far3 _ _ _ _ (by dsimp only;omega)).trans aO),((far3 _ _ _ _ (by dsimp only;omega)).trans aH),((far3 _ _ _ _ (by dsimp only;omega)).trans aR)⟩)
  (first
   |(go_at_call 174;refine (zmy q _ _ (RatS.mk (h3.later aZ.drew) (h4.later aZ.drew))).mono ?_;rintro e w4 ⟨v4,rfl,⟨A5,m5,c5,A6,m6,c6,rfl,h5,h6⟩,aA⟩;have aX:w.heap.size<w4.heap.size:=Nat.lt_of_lt_of_le aW aA.size;have aL:w4.cell? ⟨w.heap.size,0,none⟩=some (.bool p.neg):=(aA.cell (p:=⟨w.heap.size,0,none⟩) aW).trans aF;have aD:w4.cell? ⟨w.heap.size,1,none⟩=some (.slice A1 n1 c1):=(aA.cell (p:=⟨w.heap.size,1,none⟩) aW).trans aS;have aE:w4.cell? ⟨w.heap.size,2,none⟩=some (.slice A2 n2 c2):=(aA.cell (p:=⟨w.heap.size,2,none⟩) aW).trans aN;have aV:w.heap.size+1<w4.heap.size:=Nat.lt_of_lt_of_le aY aA.size;have aQ:w4.cell? ⟨w.heap.size+1,0,none⟩=some (.bool q.neg):=(aA.cell (p:=⟨w.heap.size+1,0,none⟩) aY).trans aT;have aC:w4.cell? ⟨w.heap.size+1,1,none⟩=some (.slice A3 n3 c3):=(aA.cell (p:=⟨w.heap.size+1,1,none⟩) aY).trans aK;have aM:w4.cell? ⟨w.heap.size+1,2,none⟩=some (.slice A4 n4 c4):=(aA.cell (p:=⟨w.heap.size+1,2,none⟩) aY).trans aI)
   |(go_at_call 142;refine (zmr p (zcS q) _ _ w4 ((hT.later aZ.drew).later aA) (RatS.mk ((h1.later aZ.drew).later aA) ((h2.later aZ.drew).later aA)) (RatS.mk h5 h6) hp hq).mono ?_;rintro e w5 ⟨v5,rfl,⟨A7,m7,c7,A8,m8,c8,rfl,h7,h8⟩,aU⟩;have qR:=((q2.drew.below aA q2.lt).below aU (Nat.lt_of_lt_of_le q2.lt aA.size));have y0:=qR.cell 0;have y1:=qR.cell 1;have y2:=qR.cell 2;have z0:=qR.frozen 0;have z1:=qR.frozen 1;have z2:=qR.frozen 2;have bD:w.heap.size<w5.heap.size:=Nat.lt_of_lt_of_le aX aU.size;have aJ:w5.cell? ⟨w.heap.size,0,none⟩=some (.bool p.neg):=(aU.cell (p:=⟨w.heap.size,0,none⟩) aX).trans aL;have aG:w5.cell? ⟨w.heap.size,1,none⟩=some (.slice A1 n1 c1):=(aU.cell (p:=⟨w.heap.size,1,none⟩) aX).trans aD;have aP:w5.cell? ⟨w.heap.size,2,none⟩=some (.slice A2 n2 c2):=(aU.cell (p:=⟨w.heap.size,2,none⟩) aX).trans aE;have bC:w.heap.size+1<w5.heap.size:=Nat.lt_of_lt_of_le aV aU.size;have aO:w5.cell? ⟨w.heap.size+1,0,none⟩=some (.bool q.neg):=(aU.cell (p:=⟨w.heap.size+1,0,none⟩) aV).trans aQ;have aH:w5.cell? ⟨w.heap.size+1,1,none⟩=some (.slice A3 n3 c3):=(aU.cell (p:=⟨w.heap.size+1,1,none⟩) aV).trans aC;have aR:w5.cell? ⟨w.heap.size+1,2,none⟩=some (.slice A4 n4 c4):=(aU.cell (p:=⟨w.heap.size+1,2,none⟩) aV).trans aM))
 have bA:=((aZ.drew.trans (aA.mono aZ.drew.size)).trans (aU.mono (Nat.le_trans aZ.drew.size aA.size)));have bB:=zan bA (g:=w.heap.size+1+1) (by omega) (.bool (zdo p (zcS q)).neg) (.slice A7 m7 c7) (.slice A8 m8 c8)
 go_wp2_with fail
 refine bodyPost_ret (v := .agg #[.bool (zdo p (zcS q)).neg,.slice A7 m7 c7,.slice A8 m8 c8]) (by simp [results,Tryz.results117,go_sem,y0,y1,y2]) rfl ⟨_,rfl,⟨A7,m7,c7,A8,m8,c8,rfl,?_,?_⟩,bB⟩
 ·rw [zag];exact h7.res qR _ _ _
 ·rw [zag];exact h8.res qR _ _ _
theorem zmG (p q:Q) (v:Value) (w:World) (hv:ItvS w w.heap.size v p q) :
  Calls Tryz.prog 143 #[v] w (zd4 w (zcS q) (zcS p)):=by
 obtain ⟨A1,n1,c1,A2,n2,c2,A3,n3,c3,A4,n4,c4,rfl,h1,h2,h3,h4⟩:=hv;have aX:Below w.heap.size w ((w.alloc (.cells #[.bool p.neg,.slice A1 n1 c1,.slice A2 n2 c2,.bool q.neg,.slice A3 n3 c3,.slice A4 n4 c4] 91)).alloc (.cells #[.bool false,.slice none 0 0,.slice none 0 0,.bool false,.slice none 0 0,.slice none 0 0] 91)):=(((Below.refl _ _).alloc (by simp<;>omega) _).alloc (by simp<;>omega) _);have q0:CBlk ((w.alloc (.cells #[.bool p.neg,.slice A1 n1 c1,.slice A2 n2 c2,.bool q.neg,.slice A3 n3 c3,.slice A4 n4 c4] 91)).alloc (.cells #[.bool false,.slice none 0 0,.slice none 0 0,.bool false,.slice none 0 0,.slice none 0 0] 91)) (w.heap.size) #[.bool p.neg,.slice A1 n1 c1,.slice A2 n2 c2,.bool q.neg,.slice A3 n3 c3,.slice A4 n4 c4] 91:=((CBlk.new _ _ _ _ (by simp)).alloc _);have q1:CBlk ((w.alloc (.cells #[.bool p.neg,.slice A1 n1 c1,.slice A2 n2 c2,.bool q.neg,.slice A3 n3 c3,.slice A4 n4 c4] 91)).alloc (.cells #[.bool false,.slice none 0 0,.slice none 0 0,.bool false,.slice none 0 0,.slice none 0 0] 91)) (w.heap.size+1) #[.bool false,.slice none 0 0,.slice none 0 0,.bool false,.slice none 0 0,.slice none 0 0] 91:=(CBlk.new _ _ _ _ (by simp));go_enter Tryz.func143,Tryz.ntmps143
 go_wp2_with fail
 generalize ((w.alloc (.cells #[.bool p.neg,.slice A1 n1 c1,.slice A2 n2 c2,.bool q.neg,.slice A3 n3 c3,.slice A4 n4 c4] 91)).alloc (.cells #[.bool false,.slice none 0 0,.slice none 0 0,.bool false,.slice none 0 0,.slice none 0 0] 91))=W at *;have aA:w.heap.size<W.drew.heap.size:=q0.lt;have aJ:W.drew.cell? ⟨w.heap.size,0,none⟩=some (.bool p.neg):=q0.cell 0;have aV:W.drew.cell? ⟨w.heap.size,1,none⟩=some (.slice A1 n1 c1):=q0.cell 1;have aR:W.drew.cell? ⟨w.heap.size,2,none⟩=some (.slice A2 n2 c2):=q0.cell 2;have aF:W.drew.cell? ⟨w.heap.size,3,none⟩=some (.bool q.neg):=q0.cell 3;have aW:W.drew.cell? ⟨w.heap.size,4,none⟩=some (.slice A3 n3 c3):=q0.cell 4;have aP:W.drew.cell? ⟨w.heap.size,5,none⟩=some (.slice A4 n4 c4):=q0.cell 5
 go_region_held3 (fun w'=>w'.cell? ⟨w.heap.size,0,none⟩=some (.bool p.neg)∧w'.cell? ⟨w.heap.size,1,none⟩=some (.slice A1 n1 c1)∧w'.cell? ⟨w.heap.size,2,none⟩=some (.slice A2 n2 c2)∧w'.cell? ⟨w.heap.size,3,none⟩=some (.bool q.neg)∧w'.cell? ⟨w.heap.size,4,none⟩=some (.slice A3 n3 c3)∧w'.cell? ⟨w.heap.size,5,none⟩=some (.slice A4 n4 c4))
  (first | with_reducible exact ⟨aJ,aV,aR,aF,aW,aP⟩ | with_reducible exact ⟨aQ,aG,aH,aL,aN,aM⟩ | with_reducible exact ⟨aO,aK,aS,aU,aE,aT⟩ | exact ⟨((zdp _ _ _ _ _ _ _ (by dsimp only;omega)).trans aO),((zdp _ _ _ _ _ _ _ (by dsimp only;omega)).trans aK),((zdp _ _ _ _ _ _ _ (by dsimp only;omega)).trans aS),((zdp _ _ _ _ _ _ _ (by dsimp only;omega)).trans aU),((zdp _ _ _ _ _ _ _ (by dsimp only;omega)).trans aE),((zdp _ _ _ _ _ _ _ (by dsimp only;omega)).trans aT)⟩)
  (first
   |(go_at_call 174;refine (zmy p _ w4 (RatS.mk ((h1.later aX.drew).later aD) ((h2.later aX.drew).later aD))).mono ?_;rintro e w5 ⟨v5,rfl,⟨A7,m7,c7,A8,m8,c8,rfl,h7,h8⟩,aI⟩;have qR:=((q1.drew.below aD q1.lt).below aI (Nat.lt_of_lt_of_le q1.lt aD.size));have y0:=qR.cell 0;have y1:=qR.cell 1;have y2:=qR.cell 2;have y3:=qR.cell 3;have y4:=qR.cell 4;have y5:=qR.cell 5;have z0:=qR.frozen 0;have z1:=qR.frozen 1;have z2:=qR.frozen 2;have z3:=qR.frozen 3;have z4:=qR.frozen 4;have z5:=qR.frozen 5;have aZ:w.heap.size<w5.heap.size:=Nat.lt_of_lt_of_le aC aI.size;have aO:w5.cell? ⟨w.heap.size,0,none⟩=some (.bool p.neg):=(aI.cell (p:=⟨w.heap.size,0,none⟩) aC).trans aQ;have aK:w5.cell? ⟨w.heap.size,1,none⟩=some (.slice A1 n1 c1):=(aI.cell (p:=⟨w.heap.size,1,none⟩) aC).trans aG;have aS:w5.cell? ⟨w.heap.size,2,none⟩=some (.slice A2 n2 c2):=(aI.cell (p:=⟨w.heap.size,2,none⟩) aC).trans aH;have aU:w5.cell? ⟨w.heap.size,3,none⟩=some (.bool q.neg):=(aI.cell (p:=⟨w.heap.size,3,none⟩) aC).trans aL;have aE:w5.cell? ⟨w.heap.size,4,none⟩=some (.slice A3 n3 c3):=(aI.cell (p:=⟨w.heap.size,4,none⟩) aC).trans aN;have aT:w5.cell? ⟨w.heap.size,5,none⟩=some (.slice A4 n4 c4):=(aI.cell (p:=⟨w.heap.size,5,none⟩) aC).trans aM)
   |(go_at_call_of 174 (Value.agg #[.bool q.neg,.slice A3 n3 c3,.slice A4 n4 c4]);refine (zmy q _ _ (RatS.mk (h3.later aX.drew) (h4.later aX.drew))).mono ?_;rintro e w4 ⟨v4,rfl,⟨A5,m5,c5,A6,m6,c6,rfl,h5,h6⟩,aD⟩;have aC:w.heap.size<w4.heap.size:=Nat.lt_of_lt_of_le aA aD.size;have aQ:w4.cell? ⟨w.heap.size,0,none⟩=some (.bool p.neg):=(aD.cell (p:=⟨w.heap.size,0,none⟩) aA).trans aJ;have aG:w4.cell? ⟨w.heap.size,1,none⟩=some (.slice A1 n1 c1):=(aD.cell (p:=⟨w.heap.size,1,none⟩) aA).trans aV;have aH:w4.cell? ⟨w.heap.size,2,none⟩=some (.slice A2 n2 c2):=(aD.cell (p:=⟨w.heap.size,2,none⟩) aA).trans aR;have aL:w4.cell? ⟨w.heap.size,3,none⟩=some (.bool q.neg):=(aD.cell (p:=⟨w.heap.size,3,none⟩) aA).trans aF;have aN:w4.cell? ⟨w.heap.size,4,none⟩=some (.slice A3 n3 c3):=(aD.cell (p:=⟨w.heap.size,4,none⟩) aA).trans aW;have aM:w4.cell? ⟨w.heap.size,5,none⟩=some (.slice A4 n4 c4):=(aD.cell (p:=⟨w.heap.size,5,none⟩) aA).trans aP))
 have aY:=((aX.drew.trans (aD.mono aX.drew.size)).trans (aI.mono (Nat.le_trans aX.drew.size aD.size)));have hI:=zdj (p:=(zcS q)) (q:=(zcS p)) qR aY (by omega) rfl (h5.later aI) (h6.later aI) h7 h8;unfold Go.Proofs.YtbkgkoenppkhpaaGreatDoor.set6 at hI
 go_wp2_with fail
 refine bodyPost_ret (v := .agg #[.bool (zcS q).neg,.slice A5 m5 c5,.slice A6 m6 c6,.bool (zcS p).neg,.slice A7 m7 c7,.slice A8 m8 c8]) (by simp [results,Tryz.results143,go_sem,y0,y1,y2,y3,y4,y5]) rfl ⟨_,rfl,hI⟩
end
end Go.Proofs.YtbkgkoenppkhpaaGreatDoor
