/- Spans of package number: a value that reads as two rational numbers; blocks of six cells; single. -/
import Derived.Test.YteajibbphcfmeaaGreatDoorVCsp
import Derived.Test.YteajibbphcfmeaaGreatDoorVRtx
import Derived.Test.YteajibbphcfmeaaGreatDoorVDiv1
import Derived.Test.YteajibbphcfmeaaGreatDoorVNum1
namespace Go.Proofs.YteajibbphcfmeaaGreatDoor
open Go.RowKit Bn
def zcw (cs:Array Value):Prop:=∀ (i:Nat) (v:Value),cs[i]? = some v→∀ (k:IntKind) (d:Int),v ≠ .int k d
theorem zcw.set {cs:Array Value} (h:zcw cs) (i:Nat) {u:Value} (hu:∀ (k:IntKind) (d:Int),u ≠ .int k d):zcw (cs.setIfInBounds i u):=by
 intro j v hv
 rw [Array.getElem?_setIfInBounds] at hv
 split at hv
 ·split at hv
  ·injection hv with hv;subst hv;exact hu
  ·cases hv
 ·exact h j v hv
theorem NatS.store {w:World} {B n c x g i:Nat} {A:Option Addr} {cs:Array Value} {t:TypeId} (h:NatS w B A n c x) (hk:CBlk w g cs t) (hn:zcw cs) (u:Value):NatS (w.setCell ⟨g,i,none⟩ u) B A n c x:=by
 refine ⟨⟨h.words.1,fun h0 => ?_⟩,h.nc,h.cm⟩
 obtain ⟨ad,e,hb,hc⟩:=h.words.2 h0
 refine ⟨ad,e,hb,fun j z hz => ?_⟩
 have aA:=hc j z hz
 have aC:∃ d:Nat,z = .int .u64 (d:Int):=by
  rw [List.getElem?_map] at hz
  cases hd:(digs x)[j]? with
  | none=>rw [hd] at hz;cases hz
  | some d=>rw [hd] at hz;injection hz with hz;exact ⟨d,hz.symm⟩
 obtain ⟨d,rfl⟩:=aC
 rw [World.cell?_setCell_other _ _ _ _ (fun e0=>by
  rw [←e0,hk.cell i] at aA
  exact hn i _ aA _ _ rfl)]
 exact aA
theorem RatS.store {w:World} {B g i:Nat} {v:Value} {q:Q} {cs:Array Value} {t:TypeId} (h:RatS w B v q) (hk:CBlk w g cs t) (hn:zcw cs) (u:Value):RatS (w.setCell ⟨g,i,none⟩ u) B v q:=by
 obtain ⟨A,n,c,A',n',c',rfl,h1,h2⟩:=h
 exact ⟨A,n,c,A',n',c',rfl,h1.store hk hn u,h2.store hk hn u⟩
theorem CBlk.alloc {w:World} {g:Nat} {c:Array Value} {t:TypeId} (h:CBlk w g c t) (o:Obj):CBlk (w.alloc o) g c t:=h.below ((Below.refl _ _).alloc (Nat.le_refl _) o) h.lt
theorem CBlk.drew {w:World} {g:Nat} {c:Array Value} {t:TypeId} (h:CBlk w g c t):CBlk w.drew g c t:=h
theorem CBlk.set {w:World} {g:Nat} {c:Array Value} {t:TypeId} (h:CBlk w g c t) (i:Nat) (u:Value):CBlk (w.setCell ⟨g,i,none⟩ u) g (c.setIfInBounds i u) t:=heap_setCell_same w g i c t u h
def set6 (w:World) (g:Nat) (a b c d e f:Value):World:=
 (((((w.setCell ⟨g,0,none⟩ a).setCell ⟨g,1,none⟩ b).setCell ⟨g,2,none⟩ c).setCell ⟨g,3,none⟩ d).setCell ⟨g,4,none⟩ e).setCell ⟨g,5,none⟩ f
theorem zd3 (w:World) (g:Nat) (a b c d e f:Value):(set6 w g a b c d e f).heap.size=w.heap.size:=by simp [set6,World.setCell]
theorem znv {a w:World} {B g:Nat} (h:Below B a w) (hg:B≤g) (u1 u2 u3 u4 u5 u6:Value):Below B a (set6 w g u1 u2 u3 u4 u5 u6):=
 (((((h.setCell (p:=⟨g,0,none⟩) hg _).setCell (p:=⟨g,1,none⟩) hg _).setCell (p:=⟨g,2,none⟩) hg _).setCell (p:=⟨g,3,none⟩) hg _).setCell (p:=⟨g,4,none⟩) hg _).setCell (p:=⟨g,5,none⟩) hg _
theorem zaW (b b':Bool) (A1 A2 A3 A4:Option Addr) (n1 c1 n2 c2 n3 c3 n4 c4:Nat):zcw #[.bool b,.slice A1 n1 c1,.slice A2 n2 c2,.bool b',.slice A3 n3 c3,.slice A4 n4 c4]:=by
 intro i v hv k d
 rcases (show i=0∨i=1∨i=2∨i=3∨i=4∨i=5∨6≤i from by omega) with rfl | rfl | rfl | rfl | rfl | rfl | h
 ·injection hv with hv;subst hv;intro h;cases h
 ·injection hv with hv;subst hv;intro h;cases h
 ·injection hv with hv;subst hv;intro h;cases h
 ·injection hv with hv;subst hv;intro h;cases h
 ·injection hv with hv;subst hv;intro h;cases h
 ·injection hv with hv;subst hv;intro h;cases h
 ·rw [Array.getElem?_eq_none h] at hv;cases hv
theorem zfd (b:Bool) (A1 A2:Option Addr) (n1 c1 n2 c2:Nat):zcw #[.bool b,.slice A1 n1 c1,.slice A2 n2 c2]:=by
 intro i v hv k d
 rcases (show i=0∨i=1∨i=2∨3≤i from by omega) with rfl | rfl | rfl | h
 ·injection hv with hv;subst hv;intro h;cases h
 ·injection hv with hv;subst hv;intro h;cases h
 ·injection hv with hv;subst hv;intro h;cases h
 ·rw [Array.getElem?_eq_none h] at hv;cases hv
theorem NatS.set6 {w:World} {B n c x g:Nat} {A:Option Addr} {b0 b0':Bool} {a1 a2 a3 a4:Option Addr} {m1 d1 m2 d2 m3 d3 m4 d4:Nat} {t:TypeId} (h:NatS w B A n c x)
  (hk:CBlk w g #[.bool b0,.slice a1 m1 d1,.slice a2 m2 d2,.bool b0',.slice a3 m3 d3,.slice a4 m4 d4] t)
  (b b':Bool) (A1 A2 A3 A4:Option Addr) (n1 c1 n2 c2 n3 c3 n4 c4:Nat) :
  NatS (set6 w g (.bool b) (.slice A1 n1 c1) (.slice A2 n2 c2) (.bool b') (.slice A3 n3 c3) (.slice A4 n4 c4)) B A n c x:=by
 unfold Go.Proofs.YteajibbphcfmeaaGreatDoor.set6
 have k0:=hk
 have k1:CBlk _ g #[.bool b,.slice a1 m1 d1,.slice a2 m2 d2,.bool b0',.slice a3 m3 d3,.slice a4 m4 d4] t:=k0.set 0 (.bool b)
 have k2:CBlk _ g #[.bool b,.slice A1 n1 c1,.slice a2 m2 d2,.bool b0',.slice a3 m3 d3,.slice a4 m4 d4] t:=k1.set 1 (.slice A1 n1 c1)
 have k3:CBlk _ g #[.bool b,.slice A1 n1 c1,.slice A2 n2 c2,.bool b0',.slice a3 m3 d3,.slice a4 m4 d4] t:=k2.set 2 (.slice A2 n2 c2)
 have k4:CBlk _ g #[.bool b,.slice A1 n1 c1,.slice A2 n2 c2,.bool b',.slice a3 m3 d3,.slice a4 m4 d4] t:=k3.set 3 (.bool b')
 have k5:CBlk _ g #[.bool b,.slice A1 n1 c1,.slice A2 n2 c2,.bool b',.slice A3 n3 c3,.slice a4 m4 d4] t:=k4.set 4 (.slice A3 n3 c3)
 exact (((((h.store k0 (zaW _ _ _ _ _ _ _ _ _ _ _ _ _ _) _).store k1 (zaW _ _ _ _ _ _ _ _ _ _ _ _ _ _) _).store k2 (zaW _ _ _ _ _ _ _ _ _ _ _ _ _ _) _).store k3 (zaW _ _ _ _ _ _ _ _ _ _ _ _ _ _) _).store k4 (zaW _ _ _ _ _ _ _ _ _ _ _ _ _ _) _).store k5 (zaW _ _ _ _ _ _ _ _ _ _ _ _ _ _) _
theorem CBlk.set6 {w:World} {g:Nat} {u1 u2 u3 u4 u5 u6:Value} {t:TypeId} (hk:CBlk w g #[u1,u2,u3,u4,u5,u6] t) (v1 v2 v3 v4 v5 v6:Value):CBlk (set6 w g v1 v2 v3 v4 v5 v6) g #[v1,v2,v3,v4,v5,v6] t:=by
 unfold Go.Proofs.YteajibbphcfmeaaGreatDoor.set6
 exact (((((hk.set 0 v1).set 1 v2).set 2 v3).set 3 v4).set 4 v5).set 5 v6
def ItvS (w:World) (B:Nat) (v:Value) (p q:Q):Prop:=
 ∃ A1 n1 c1 A2 n2 c2 A3 n3 c3 A4 n4 c4,v = .agg #[.bool p.neg,.slice A1 n1 c1,.slice A2 n2 c2,.bool q.neg,.slice A3 n3 c3,.slice A4 n4 c4]∧NatS w B A1 n1 c1 p.top∧NatS w B A2 n2 c2 p.bot∧NatS w B A3 n3 c3 q.top∧NatS w B A4 n4 c4 q.bot
theorem ItvS.later {w w':World} {v:Value} {p q:Q} (h:ItvS w w.heap.size v p q) (hb:Below w.heap.size w w'):ItvS w' w'.heap.size v p q:=by
 obtain ⟨A1,n1,c1,A2,n2,c2,A3,n3,c3,A4,n4,c4,rfl,h1,h2,h3,h4⟩:=h
 exact ⟨A1,n1,c1,A2,n2,c2,A3,n3,c3,A4,n4,c4,rfl,h1.later hb,h2.later hb,h3.later hb,h4.later hb⟩
def zb0 (w:World) (p q:Q) (e:Ending) (w':World):Prop:=∃ v,e = .returned v∧ItvS w' w'.heap.size v p q∧Below w.heap.size w w'
def zck:Q:=⟨false,0,0⟩
theorem ItvS.zero (w:World) (B:Nat):ItvS w B (.agg #[.bool false,.slice none 0 0,.slice none 0 0,.bool false,.slice none 0 0,.slice none 0 0]) zck zck:=
 ⟨none,0,0,none,0,0,none,0,0,none,0,0,rfl,NatS.nil _ _,NatS.nil _ _,NatS.nil _ _,NatS.nil _ _⟩
theorem zbK {w W:World} {B g:Nat} {p q:Q} {v:Value} {b0 b0':Bool} {a1 a2 a3 a4:Option Addr} {m1 d1 m2 d2 m3 d3 m4 d4:Nat} {t:TypeId} {A1 A2 A3 A4:Option Addr} {n1 c1 n2 c2 n3 c3 n4 c4:Nat}
  (hk:CBlk W g #[.bool b0,.slice a1 m1 d1,.slice a2 m2 d2,.bool b0',.slice a3 m3 d3,.slice a4 m4 d4] t) (hB:Below B w W) (hg:B≤g)
  (hv:v = .agg #[.bool p.neg,.slice A1 n1 c1,.slice A2 n2 c2,.bool q.neg,.slice A3 n3 c3,.slice A4 n4 c4])
  (h1:NatS W W.heap.size A1 n1 c1 p.top) (h2:NatS W W.heap.size A2 n2 c2 p.bot) (h3:NatS W W.heap.size A3 n3 c3 q.top) (h4:NatS W W.heap.size A4 n4 c4 q.bot) :
  ItvS (set6 W g (.bool p.neg) (.slice A1 n1 c1) (.slice A2 n2 c2) (.bool q.neg) (.slice A3 n3 c3) (.slice A4 n4 c4)) (set6 W g (.bool p.neg) (.slice A1 n1 c1) (.slice A2 n2 c2) (.bool q.neg) (.slice A3 n3 c3) (.slice A4 n4 c4)).heap.size v p q∧Below B w (set6 W g (.bool p.neg) (.slice A1 n1 c1) (.slice A2 n2 c2) (.bool q.neg) (.slice A3 n3 c3) (.slice A4 n4 c4)):=by
 refine ⟨⟨A1,n1,c1,A2,n2,c2,A3,n3,c3,A4,n4,c4,hv,?_,?_,?_,?_⟩,znv hB hg _ _ _ _ _ _⟩
 ·rw [zd3];exact h1.set6 hk _ _ _ _ _ _ _ _ _ _ _ _ _ _
 ·rw [zd3];exact h2.set6 hk _ _ _ _ _ _ _ _ _ _ _ _ _ _
 ·rw [zd3];exact h3.set6 hk _ _ _ _ _ _ _ _ _ _ _ _ _ _
 ·rw [zd3];exact h4.set6 hk _ _ _ _ _ _ _ _ _ _ _ _ _ _
set_option maxHeartbeats 1000000 in
set_option maxRecDepth 100000 in
theorem zjD (p:Q) (v:Value) (w:World) (hv:RatS w w.heap.size v p) :
  Calls Tryz.prog 161 #[v] w (zb0 w p p):=by
 obtain ⟨A1,n1,c1,A2,n2,c2,rfl,h1,h2⟩:=hv
 have aC:Below w.heap.size w (w.alloc (.cells #[.bool p.neg,.slice A1 n1 c1,.slice A2 n2 c2] 91)):=(Below.refl _ _).alloc (Nat.le_refl _) _
 have aA:Below w.heap.size w ((w.alloc (.cells #[.bool p.neg,.slice A1 n1 c1,.slice A2 n2 c2] 91)).alloc (.cells #[.bool false,.slice none 0 0,.slice none 0 0,.bool false,.slice none 0 0,.slice none 0 0] 139)):=aC.alloc (by simp) _
 have q0:CBlk ((w.alloc (.cells #[.bool p.neg,.slice A1 n1 c1,.slice A2 n2 c2] 91)).alloc (.cells #[.bool false,.slice none 0 0,.slice none 0 0,.bool false,.slice none 0 0,.slice none 0 0] 139)) w.heap.size #[.bool p.neg,.slice A1 n1 c1,.slice A2 n2 c2] 91:=(CBlk.new w _ _ _ rfl).below ((Below.refl _ _).alloc (Nat.le_refl _) _) (by simp)
 have q1:CBlk ((w.alloc (.cells #[.bool p.neg,.slice A1 n1 c1,.slice A2 n2 c2] 91)).alloc (.cells #[.bool false,.slice none 0 0,.slice none 0 0,.bool false,.slice none 0 0,.slice none 0 0] 139)) (w.heap.size+1) #[.bool false,.slice none 0 0,.slice none 0 0,.bool false,.slice none 0 0,.slice none 0 0] 139:=CBlk.new _ _ _ _ (by simp)
 go_enter Tryz.func161,Tryz.ntmps161
 go_upto_region 1 with (fail)
 generalize ((w.alloc (.cells #[.bool p.neg,.slice A1 n1 c1,.slice A2 n2 c2] 91)).alloc (.cells #[.bool false,.slice none 0 0,.slice none 0 0,.bool false,.slice none 0 0,.slice none 0 0] 139))=W at *
 have x0:=q0.cell 0
 have x1:=q0.cell 1
 have x2:=q0.cell 2
 have y0:=q1.cell 0
 have y1:=q1.cell 1
 have y2:=q1.cell 2
 have y3:=q1.cell 3
 have y4:=q1.cell 4
 have y5:=q1.cell 5
 have z0:=q1.frozen 0
 have z1:=q1.frozen 1
 have z2:=q1.frozen 2
 have z3:=q1.frozen 3
 have z4:=q1.frozen 4
 have z5:=q1.frozen 5
 have hI:=zbK (p:=p) (q:=p) q1 aA (by omega) rfl (h1.later aA) (h2.later aA) (h1.later aA) (h2.later aA)
 have hD:=q1.set6 (.bool p.neg) (.slice A1 n1 c1) (.slice A2 n2 c2) (.bool p.neg) (.slice A1 n1 c1) (.slice A2 n2 c2)
 unfold Go.Proofs.YteajibbphcfmeaaGreatDoor.set6 at hI hD
 have r0:=hD.cell 0
 have r1:=hD.cell 1
 have r2:=hD.cell 2
 have r3:=hD.cell 3
 have r4:=hD.cell 4
 have r5:=hD.cell 5
 have HI:=Lib.hid hI
 clear hI hD aC aA h1 h2 q0 q1
 go_wp2
 refine bodyPost_ret (v := .agg #[.bool p.neg,.slice A1 n1 c1,.slice A2 n2 c2,.bool p.neg,.slice A1 n1 c1,.slice A2 n2 c2]) (by simp [results,Tryz.results161,go_sem,y0,y1,y2,y3,y4,y5]) rfl ⟨_,rfl,HI.out⟩
theorem zkt {x K:Nat} (h:x<2 ^ (64*K)):(digs x).length≤K:=by
 refine digs_length_le ?_
 rw [show B=2 ^ 64 from rfl,←Nat.pow_mul];exact h
theorem zaP (A1 A2:Option Addr) (n1 c1 n2 c2:Nat):zcw #[.slice A1 n1 c1,.slice A2 n2 c2]:=by
 intro i v hv k d
 rcases (show i=0∨i=1∨2≤i from by omega) with rfl | rfl | h
 ·injection hv with hv;subst hv;intro h;cases h
 ·injection hv with hv;subst hv;intro h;cases h
 ·rw [Array.getElem?_eq_none h] at hv;cases hv
theorem zcz {n bits k:Nat} (hn:2≤n) (hb:bits≤1048576):(digs (Cs.tanAt n bits k).1).length≤1048576∧(digs (Cs.tanAt n bits k).2.1).length≤1048576∧(digs (Cs.tanAt n bits k).2.2).length≤1048576:=by
 have h:=Cs.tan_bound n bits hn k
 obtain ⟨N,hN⟩:∃ N,N=64*1048576:=⟨_,rfl⟩
 have h2:2*2 ^ bits<2 ^ N:=by
  rw [show 2*2 ^ bits=2 ^ (bits+1) by rw [Nat.pow_succ,Nat.mul_comm]]
  exact Nat.pow_lt_pow_right (by omega) (by omega)
 generalize 2*2 ^ bits=X at h h2
 have h3:∀ x,x≤X→(digs x).length≤1048576:=fun x hx=>zkt (by rw [←hN];exact Nat.lt_of_le_of_lt hx h2)
 exact ⟨h3 _ (by omega),h3 _ (by omega),h3 _ (by omega)⟩
theorem znL {bits:Nat} (hb:bits≤1048576):(digs (2 ^ bits)).length≤1048576:=by
 obtain ⟨N,hN⟩:∃ N,N=64*1048576:=⟨_,rfl⟩
 exact zkt (by rw [←hN];exact Nat.pow_lt_pow_right (by omega) (by omega))
theorem zdD {z:Int} (h0:0≤z) (h1:z<18446744073709551616):IntKind.u64.wrap z=z:=by rw [zgm];omega
set_option maxHeartbeats 4000000 in
set_option maxRecDepth 100000 in
theorem zeW (n bits k0:Nat) (w:World) (hok:Cs.TanOk n bits k0) (hn:2≤n) (hn2:n<4294967296) (hb:bits≤1048576) (hk0:k0<4294967296) :
  Calls Tryz.prog 223 #[.int .u64 (n:Int),.int .i64 (bits:Int)] w (zbX w (Cs.tanVal n bits k0)):=by
 have hZ:=Lib.hid hok.zero
 have bJ:=Lib.hid hok.pos
 have bX:=Lib.hid hok.le
 have hV:Hid (Cs.tanVal n bits k0=(Cs.tanAt n bits k0).1 - (Cs.tanAt n bits k0).2.1):=rfl
 clear hok
 obtain ⟨nn,aS⟩:∃ nn,nn=n*n:=⟨_,rfl⟩
 have bV:4≤nn:=by rw [aS];exact Nat.mul_le_mul hn hn
 have cA:nn<18446744073709551616:=by
  rw [aS]
  have:n*n<4294967296*4294967296:=Nat.mul_lt_mul'' hn2 hn2
  omega
 have cB:IntKind.u64.wrap ((n:Int)*(n:Int))=(nn:Int):=by
  rw [zdD (Int.mul_nonneg (by omega) (by omega)) (by rw [←Int.natCast_mul,←aS];omega),←Int.natCast_mul,←aS]
 have bU:=Lib.hid aS
 clear aS
 go_enter Tryz.func223,Tryz.ntmps223
 go_wp2_with fail
 refine (zah 1 w (by omega) (by omega)).mono ?_
 rintro e w1 ⟨A1,m1,c1,rfl,bM,bK⟩
 go_wp2_with fail
 refine (zau A1 m1 c1 _ bits w1 bM (by rw [←bM.len];exact Nat.le_trans zbm (by omega)) (by omega)).mono ?_
 rintro e w2 ⟨A2,m2,c2,rfl,aM,aC⟩
 have aE:=bK.trans (aC.mono bK.size)
 rw [show Int.toNat 1*2 ^ bits=2 ^ bits by simp] at aM
 have bW:m2≤1048576:=by
  rw [←aM.len]
  exact znL hb
 go_wp2_with fail
 refine (za2 A2 m2 c2 _ n w2 aM (by omega) (by omega) (by omega)).mono ?_
 rintro e w3 ⟨m3,c3,rfl,bS,aD⟩
 have bP:=bS.nat
 have aI:=aE.trans (aD.mono aE.size)
 have bY:Below w.heap.size w (w3.alloc (.cells #[.slice none 0 0,.slice none 0 0] 229)):=aI.alloc aI.size _
 have bR:CBlk (w3.alloc (.cells #[.slice none 0 0,.slice none 0 0] 229)) w3.heap.size #[.slice none 0 0,.slice none 0 0] 229:=CBlk.new _ _ _ _ rfl
 have bZ:=bP.later ((Below.refl _ _).alloc (Nat.le_refl _) (.cells #[.slice none 0 0,.slice none 0 0] 229))
 obtain ⟨g,bG⟩:∃ g,g=w3.heap.size:=⟨_,rfl⟩
 have hg:w.heap.size≤g:=by rw [bG];exact aI.size
 rw [←bG] at bR
 have HG:=Lib.hid bG
 clear bG aE aI bS bM aM bW bK aC aD bP
 go_upto_region 4 with (fail)
 rw [←HG.out]
 generalize (w3.alloc (.cells #[.slice none 0 0,.slice none 0 0] 229))=wa at *
 go_wp2_with fail
 go_loopw [5,8] (fun pv kv wr=>∃ (k:Nat) (A:Option Addr) (m c:Nat) (A0:Option Addr) (m0 c0:Nat) (A1:Option Addr) (m1 c1:Nat),k≤k0∧pv = .slice A m c∧kv = .int .u64 (k:Int)∧NatS wr wr.heap.size A m c (Cs.tanAt n bits k).2.2∧NatS wr wr.heap.size A0 m0 c0 (Cs.tanAt n bits k).1∧NatS wr wr.heap.size A1 m1 c1 (Cs.tanAt n bits k).2.1∧CBlk wr g #[.slice A0 m0 c0,.slice A1 m1 c1] 229∧Below w.heap.size w wr) (fun _ kv _=>k0 - (intOf kv).toNat)
 case atStart=>exact ⟨0,_,m3,c3,none,0,0,none,0,0,Nat.zero_le _,rfl,rfl,bZ,NatS.nil _ _,NatS.nil _ _,bR,bY⟩
 case round=>
  obtain ⟨k,A,m,c,A0,m0,c0,A1,m1,c1,cC,rfl,rfl,hp,h0,h1,hk,hB⟩:=hrel
  by_cases hlt:k<k0
  ·have bQ:=Lib.hid (bJ.out k hlt)
   obtain ⟨k2,bA⟩:∃ k2,k2=2*k:=⟨_,rfl⟩
   obtain ⟨aG,aK⟩:∃ aG,aG=2*k+1:=⟨_,rfl⟩
   obtain ⟨kk,aH⟩:∃ kk,kk=k+1:=⟨_,rfl⟩
   have f1:IntKind.u64.wrap (2*(k:Int))=(k2:Int):=by rw [zdD (by omega) (by omega)];omega
   have f2:IntKind.u64.wrap ((k2:Int)+1)=(aG:Int):=by rw [zdD (by omega) (by omega)];omega
   have f3:IntKind.u64.wrap ((k:Int)+1)=(kk:Int):=by rw [zdD (by omega) (by omega)];omega
   have aX:0<aG∧aG<18446744073709551616:=by omega
   have bI:Hid (kk=k+1∧k<k0):=⟨aH,hlt⟩
   obtain ⟨bT,bO⟩:=aX
   rcases Nat.mod_two_eq_zero_or_one k with aJ | aJ
   ·have f4:Int.tmod (k:Int) 2=0:=by rw [Int.tmod_eq_emod_of_nonneg (by omega)];omega
    have aO:Cs.tanAt n bits kk=((Cs.tanAt n bits k).1+(Cs.tanAt n bits k).2.2 / aG,(Cs.tanAt n bits k).2.1,(Cs.tanAt n bits k).2.2 / nn):=by
     rw [aH];simp only [Cs.tanAt];rw [if_pos aJ,aK,bU.out]
    clear bA aK aH hlt aJ
    go_wp2_with fail
    refine (zaK A m c (Cs.tanAt n bits k).2.2 _ hp).mono ?_
    rintro e w1 ⟨rfl,rfl⟩
    rw [decide_eq_false (by have:=bQ.out;omega)]
    go_wp2_with fail
    refine (za2 A m c _ aG _ hp (by have h:=hp.len;have h2:=(zcz (k:=k) hn hb).2.2;omega) (by omega) (by omega)).mono ?_
    rintro e w2 ⟨m2,c2,rfl,aZ,aC⟩
    have aN:=aZ.nat
    have aE:=hB.trans (aC.mono hB.size)
    have aF:=hk.below aC hk.lt
    have aT:=hp.later aC
    have aR:=h0.later aC
    have aP:=h1.later aC
    clear aZ hk hp h0 h1
    have x0:=aF.cell 0
    have x1:=aF.cell 1
    go_wp2_with fail
    refine (zb3 A0 _ m0 c0 _ _ _ _ _ aR aN (by have h:=aR.len;have h2:=(zcz (k:=k) hn hb).1;omega) (by
     have h:=aN.len
     have h2:=(zcz (k:=k) hn hb).2.2
     have h3:=zaa (Nat.div_le_self (Cs.tanAt n bits k).2.2 aG)
     omega)).mono ?_
    rintro e w3 ⟨A3,m3,c3,rfl,aY,aD⟩
    have aI:=aE.trans (aD.mono aE.size)
    have aA:=aF.below aD aF.lt
    have aV:=aT.later aD
    have bD:=aR.later aD
    have bC:=aP.later aD
    clear x0 x1 aF aT aR aP aN aE
    have x0:=aA.cell 0
    have x1:=aA.cell 1
    have y0:=aA.frozen 0
    have y1:=aA.frozen 1
    have bE:=aI.setCell (p:=⟨g,0,none⟩) hg (.slice A3 m3 c3)
    have aU:=aA.set 0 (.slice A3 m3 c3)
    have aQ:=aV.store (i:=0) aA (zaP _ _ _ _ _ _) (.slice A3 m3 c3)
    have bF:=bD.store (i:=0) aA (zaP _ _ _ _ _ _) (.slice A3 m3 c3)
    have bH:=bC.store (i:=0) aA (zaP _ _ _ _ _ _) (.slice A3 m3 c3)
    have bB:=aY.store (i:=0) aA (zaP _ _ _ _ _ _) (.slice A3 m3 c3)
    have aW:(w3.setCell ⟨g,0,none⟩ (.slice A3 m3 c3)).heap.size=w3.heap.size:=by simp [World.setCell]
    clear aV bD bC aY aI aA
    go_upto_region 8 with (fail)
    generalize (w3.setCell ⟨g,0,none⟩ (.slice A3 m3 c3))=w4 at *
    rw [←aW] at aQ bF bH bB
    go_wp2_with fail
    refine (za2 A m c _ nn _ aQ (by have h:=aQ.len;have h2:=(zcz (k:=k) hn hb).2.2;omega) (by omega) (by omega)).mono ?_
    rintro e w5 ⟨m5,c5,rfl,bN,aL⟩
    have bL:=bN.nat
    go_wp2_with fail
    go_roundw
    case rel=>
     refine ⟨kk,_,m5,c5,A3,m3,c3,A1,m1,c1,by have:=bI.out;omega,rfl,rfl,?_,?_,?_,aU.below aL aU.lt,bE.trans (aL.mono bE.size)⟩
     ·rw [aO,←aW];exact bL
     ·rw [aO];exact bB.later aL
     ·rw [aO];exact bH.later aL
    case measure=>have:=bI.out;simp [intOf]<;>omega
   ·have f4:Int.tmod (k:Int) 2=1:=by rw [Int.tmod_eq_emod_of_nonneg (by omega)];omega
    have aO:Cs.tanAt n bits kk=((Cs.tanAt n bits k).1,(Cs.tanAt n bits k).2.1+(Cs.tanAt n bits k).2.2 / aG,(Cs.tanAt n bits k).2.2 / nn):=by
     rw [aH];simp only [Cs.tanAt];rw [if_neg (by omega),aK,bU.out]
    clear bA aK aH hlt aJ
    go_wp2_with fail
    refine (zaK A m c (Cs.tanAt n bits k).2.2 _ hp).mono ?_
    rintro e w1 ⟨rfl,rfl⟩
    rw [decide_eq_false (by have:=bQ.out;omega)]
    go_wp2_with fail
    refine (za2 A m c _ aG _ hp (by have h:=hp.len;have h2:=(zcz (k:=k) hn hb).2.2;omega) (by omega) (by omega)).mono ?_
    rintro e w2 ⟨m2,c2,rfl,aZ,aC⟩
    have aN:=aZ.nat
    have aE:=hB.trans (aC.mono hB.size)
    have aF:=hk.below aC hk.lt
    have aT:=hp.later aC
    have aR:=h0.later aC
    have aP:=h1.later aC
    clear aZ hk hp h0 h1
    have x0:=aF.cell 0
    have x1:=aF.cell 1
    go_wp2_with fail
    refine (zb3 A1 _ m1 c1 _ _ _ _ _ aP aN (by have h:=aP.len;have h2:=(zcz (k:=k) hn hb).2.1;omega) (by
     have h:=aN.len
     have h2:=(zcz (k:=k) hn hb).2.2
     have h3:=zaa (Nat.div_le_self (Cs.tanAt n bits k).2.2 aG)
     omega)).mono ?_
    rintro e w3 ⟨A3,m3,c3,rfl,aY,aD⟩
    have aI:=aE.trans (aD.mono aE.size)
    have aA:=aF.below aD aF.lt
    have aV:=aT.later aD
    have bD:=aR.later aD
    have bC:=aP.later aD
    clear x0 x1 aF aT aR aP aN aE
    have x0:=aA.cell 0
    have x1:=aA.cell 1
    have y0:=aA.frozen 0
    have y1:=aA.frozen 1
    have bE:=aI.setCell (p:=⟨g,1,none⟩) hg (.slice A3 m3 c3)
    have aU:=aA.set 1 (.slice A3 m3 c3)
    have aQ:=aV.store (i:=1) aA (zaP _ _ _ _ _ _) (.slice A3 m3 c3)
    have bF:=bD.store (i:=1) aA (zaP _ _ _ _ _ _) (.slice A3 m3 c3)
    have bH:=bC.store (i:=1) aA (zaP _ _ _ _ _ _) (.slice A3 m3 c3)
    have bB:=aY.store (i:=1) aA (zaP _ _ _ _ _ _) (.slice A3 m3 c3)
    have aW:(w3.setCell ⟨g,1,none⟩ (.slice A3 m3 c3)).heap.size=w3.heap.size:=by simp [World.setCell]
    clear aV bD bC aY aI aA
    go_upto_region 8 with (fail)
    generalize (w3.setCell ⟨g,1,none⟩ (.slice A3 m3 c3))=w4 at *
    rw [←aW] at aQ bF bH bB
    go_wp2_with fail
    refine (za2 A m c _ nn _ aQ (by have h:=aQ.len;have h2:=(zcz (k:=k) hn hb).2.2;omega) (by omega) (by omega)).mono ?_
    rintro e w5 ⟨m5,c5,rfl,bN,aL⟩
    have bL:=bN.nat
    go_wp2_with fail
    go_roundw
    case rel=>
     refine ⟨kk,_,m5,c5,A0,m0,c0,A3,m3,c3,by have:=bI.out;omega,rfl,rfl,?_,?_,?_,aU.below aL aU.lt,bE.trans (aL.mono bE.size)⟩
     ·rw [aO,←aW];exact bL
     ·rw [aO];exact bF.later aL
     ·rw [aO];exact bB.later aL
    case measure=>have:=bI.out;simp [intOf]<;>omega
  ·obtain rfl:k=k0:=by omega
   go_wp2_with fail
   refine (zaK A m c (Cs.tanAt n bits k).2.2 _ hp).mono ?_
   rintro e w1 ⟨rfl,rfl⟩
   rw [decide_eq_true hZ.out]
   have x0:=hk.cell 0
   have x1:=hk.cell 1
   go_wp2_with fail
   refine (zcC A0 A1 m0 c0 m1 c1 _ _ _ h0 h1 bX.out (by have h:=h0.len;have h2:=(zcz (k:=k) hn hb).1;omega)).mono ?_
   rintro e w2 ⟨A2,m2,c2,rfl,hn2,aC⟩
   go_wp2
   go_ret
   exact ⟨A2,m2,c2,rfl,by rw [hV.out];exact hn2,hB.trans (aC.mono hB.size)⟩
theorem zei {n bits k:Nat} (hn:2≤n) (hb:bits≤1048576):(digs (Cs.tanVal n bits k)).length≤1048576:=
 Nat.le_trans (zaa (Nat.sub_le _ _)) (zcz (k:=k) hn hb).1
set_option maxHeartbeats 2000000 in
set_option maxRecDepth 100000 in
theorem zjL (bits k l:Nat) (w:World) (h5:Cs.TanOk 5 bits k) (h239:Cs.TanOk 239 bits l) (hc:Cs.tanVal 239 bits l*8≤Cs.tanVal 5 bits k*32) (hb:bits≤1048576) (hk:k<4294967296) (hl:l<4294967296) :
  Calls Tryz.prog 210 #[.int .i64 (bits:Int)] w (zbX w (Cs.circleOf bits k l)):=by
 have H5:=Lib.hid (zeW 5 bits k w h5 (by omega) (by omega) hb hk)
 have H9:=Lib.hid (fun W=>zeW 239 bits l W h239 (by omega) (by omega) hb hl)
 have l5:=zei (n:=5) (k:=k) (by omega) hb
 have l9:=zei (n:=239) (k:=l) (by omega) hb
 have HV:Hid (Cs.circleOf bits k l=Cs.tanVal 5 bits k*32 - Cs.tanVal 239 bits l*8):=rfl
 clear h5 h239
 generalize Cs.tanVal 5 bits k=x at *
 generalize Cs.tanVal 239 bits l=y at *
 generalize Cs.circleOf bits k l=z at *
 have aW:(digs 32).length≤1:=digs_length_le (by decide)
 have e8:(digs 8).length≤1:=digs_length_le (by decide)
 go_enter Tryz.func210,Tryz.ntmps210
 go_wp2_with fail
 refine H5.out.mono ?_
 rintro e w1 ⟨A1,m1,c1,rfl,aY,aM⟩
 go_wp2_with fail
 refine (H9.out w1).mono ?_
 rintro e w2 ⟨A2,m2,c2,rfl,aV,aT⟩
 have aL:=aM.trans (aT.mono aM.size)
 have aG:=aY.later aT
 clear aY aM aT
 go_wp2_with fail
 refine (zah 32 w2 (by omega) (by omega)).mono ?_
 rintro e w3 ⟨A3,m3,c3,rfl,aP,aI⟩
 have aQ:=aL.trans (aI.mono aL.size)
 have aA:=aG.later aI
 have aF:=aV.later aI
 clear aG aV aL aI
 go_wp2_with fail
 refine (zaE A1 A3 m1 c1 m3 c3 x 32 w3 aA aP (by have:=aA.len;omega) (by have h:=aP.len;have h2:(digs (Int.toNat 32)).length≤1:=aW;omega)).mono ?_
 rintro e w4 ⟨A4,m4,c4,rfl,aX,aO⟩
 have aS:=aQ.trans (aO.mono aQ.size)
 have aE:=aF.later aO
 clear aA aP aF aQ aO
 go_wp2_with fail
 refine (zah 8 w4 (by omega) (by omega)).mono ?_
 rintro e w5 ⟨A5,m5,c5,rfl,aR,aJ⟩
 have aK:=aS.trans (aJ.mono aS.size)
 have aH:=aX.later aJ
 have aC:=aE.later aJ
 clear aX aE aS aJ
 go_wp2_with fail
 refine (zaE A2 A5 m2 c2 m5 c5 y 8 w5 aC aR (by have:=aC.len;omega) (by have h:=aR.len;have h2:(digs (Int.toNat 8)).length≤1:=e8;omega)).mono ?_
 rintro e w6 ⟨A6,m6,c6,rfl,bB,aN⟩
 have aU:=aK.trans (aN.mono aK.size)
 have aD:=aH.later aN
 clear aH aC aR aK aN
 go_wp2_with fail
 refine (zcC A4 A6 m4 c4 m6 c6 _ _ w6 aD bB hc (by have:=aD.len;have:=zaA l5 aW;omega)).mono ?_
 rintro e w7 ⟨A7,m7,c7,rfl,bA,aZ⟩
 go_wp2
 go_ret
 exact ⟨A7,m7,c7,rfl,by rw [HV.out];exact bA,aU.trans (aZ.mono aU.size)⟩
end Go.Proofs.YteajibbphcfmeaaGreatDoor
