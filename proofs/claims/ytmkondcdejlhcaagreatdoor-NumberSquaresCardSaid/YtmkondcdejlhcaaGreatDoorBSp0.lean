/- Spans of package number: a value that reads as two rational numbers; blocks of six cells; single. -/
import Derived.Test.YtmkondcdejlhcaaGreatDoorBRat3
import Derived.Test.YtmkondcdejlhcaaGreatDoorBDw
import Derived.Test.YtmkondcdejlhcaaGreatDoorBRb24
import Derived.Test.YtmkondcdejlhcaaGreatDoorBNum3
import Derived.Test.YtmkondcdejlhcaaGreatDoorBNat5
import Derived.Test.YtmkondcdejlhcaaGreatDoorBDiv4
import Derived.Deep.RegionHeld3
set_option maxRecDepth 100000
set_option maxHeartbeats 8000000
namespace Go.Proofs.YtmkondcdejlhcaaGreatDoor
open Go.RowKit Bn
def zdY (cs:Array Value):Prop:=∀ (i:Nat) (v:Value),cs[i]? = some v→∀ (k:IntKind) (d:Int),v ≠ .int k d
theorem zdY.set {cs:Array Value} (h:zdY cs) (i:Nat) {u:Value} (hu:∀ (k:IntKind) (d:Int),u ≠ .int k d):zdY (cs.setIfInBounds i u):=by
 intro j v hv;rw [Array.getElem?_setIfInBounds] at hv
 split at hv
 ·split at hv
  ·injection hv with hv;subst hv;exact hu
  ·cases hv
 ·exact h j v hv
theorem NatS.store {w:World} {B n c x g i:Nat} {A:Option Addr} {cs:Array Value} {t:TypeId} (h:NatS w B A n c x) (hk:CBlk w g cs t) (hn:zdY cs) (u:Value):NatS (w.setCell ⟨g,i,none⟩ u) B A n c x:=by
 refine ⟨⟨h.words.1,fun h0 => ?_⟩,h.nc,h.cm⟩;obtain ⟨ad,e,hb,hc⟩:=h.words.2 h0;refine ⟨ad,e,hb,fun j z hz => ?_⟩;have aA:=hc j z hz;have aC:∃ d:Nat,z = .int .u64 (d:Int):=by
  rw [List.getElem?_map] at hz
  cases hd:(digs x)[j]? with
  | none=>rw [hd] at hz;cases hz
  | some d=>rw [hd] at hz;injection hz with hz;exact ⟨d,hz.symm⟩
 obtain ⟨d,rfl⟩:=aC;rw [World.cell?_setCell_other _ _ _ _ (fun e0=>by
  rw [←e0,hk.cell i] at aA;exact hn i _ aA _ _ rfl)]
 exact aA
theorem CBlk.alloc {w:World} {g:Nat} {c:Array Value} {t:TypeId} (h:CBlk w g c t) (o:Obj):CBlk (w.alloc o) g c t:=h.below ((Below.refl _ _).alloc (Nat.le_refl _) o) h.lt
theorem CBlk.drew {w:World} {g:Nat} {c:Array Value} {t:TypeId} (h:CBlk w g c t):CBlk w.drew g c t:=h
theorem CBlk.set {w:World} {g:Nat} {c:Array Value} {t:TypeId} (h:CBlk w g c t) (i:Nat) (u:Value):CBlk (w.setCell ⟨g,i,none⟩ u) g (c.setIfInBounds i u) t:=heap_setCell_same w g i c t u h
def set6 (w:World) (g:Nat) (a b c d e f:Value):World:=
 (((((w.setCell ⟨g,0,none⟩ a).setCell ⟨g,1,none⟩ b).setCell ⟨g,2,none⟩ c).setCell ⟨g,3,none⟩ d).setCell ⟨g,4,none⟩ e).setCell ⟨g,5,none⟩ f
theorem zfa (w:World) (g:Nat) (a b c d e f:Value):(set6 w g a b c d e f).heap.size=w.heap.size:=by simp [set6,World.setCell]
theorem zqu {a w:World} {B g:Nat} (h:Below B a w) (hg:B≤g) (u1 u2 u3 u4 u5 u6:Value):Below B a (set6 w g u1 u2 u3 u4 u5 u6):=
 (((((h.setCell (p:=⟨g,0,none⟩) hg _).setCell (p:=⟨g,1,none⟩) hg _).setCell (p:=⟨g,2,none⟩) hg _).setCell (p:=⟨g,3,none⟩) hg _).setCell (p:=⟨g,4,none⟩) hg _).setCell (p:=⟨g,5,none⟩) hg _
theorem zbh (b b':Bool) (A1 A2 A3 A4:Option Addr) (n1 c1 n2 c2 n3 c3 n4 c4:Nat):zdY #[.bool b,.slice A1 n1 c1,.slice A2 n2 c2,.bool b',.slice A3 n3 c3,.slice A4 n4 c4]:=by
 intro i v hv k d
 rcases (show i=0∨i=1∨i=2∨i=3∨i=4∨i=5∨6≤i from by omega) with rfl | rfl | rfl | rfl | rfl | rfl | h
 ·injection hv with hv;subst hv;intro h;cases h
 ·injection hv with hv;subst hv;intro h;cases h
 ·injection hv with hv;subst hv;intro h;cases h
 ·injection hv with hv;subst hv;intro h;cases h
 ·injection hv with hv;subst hv;intro h;cases h
 ·injection hv with hv;subst hv;intro h;cases h
 ·rw [Array.getElem?_eq_none h] at hv;cases hv
theorem zgH (b:Bool) (A1 A2:Option Addr) (n1 c1 n2 c2:Nat):zdY #[.bool b,.slice A1 n1 c1,.slice A2 n2 c2]:=by
 intro i v hv k d
 rcases (show i=0∨i=1∨i=2∨3≤i from by omega) with rfl | rfl | rfl | h
 ·injection hv with hv;subst hv;intro h;cases h
 ·injection hv with hv;subst hv;intro h;cases h
 ·injection hv with hv;subst hv;intro h;cases h
 ·rw [Array.getElem?_eq_none h] at hv;cases hv
theorem NatS.set6 {w:World} {B n c x g:Nat} {A:Option Addr} {b0 b0':Bool} {a1 a2 a3 a4:Option Addr} {m1 d1 m2 d2 m3 d3 m4 d4:Nat} {t:TypeId} (h:NatS w B A n c x)
  (hk:CBlk w g #[.bool b0,.slice a1 m1 d1,.slice a2 m2 d2,.bool b0',.slice a3 m3 d3,.slice a4 m4 d4] t)
  (b b':Bool) (A1 A2 A3 A4:Option Addr) (n1 c1 n2 c2 n3 c3 n4 c4:Nat) :
  NatS (set6 w g (.bool b) (.slice A1 n1 c1) (.slice A2 n2 c2) (.bool b') (.slice A3 n3 c3) (.slice A4 n4 c4)) B A n c x:=by
 unfold Go.Proofs.YtmkondcdejlhcaaGreatDoor.set6;have k0:=hk;have k1:CBlk _ g #[.bool b,.slice a1 m1 d1,.slice a2 m2 d2,.bool b0',.slice a3 m3 d3,.slice a4 m4 d4] t:=k0.set 0 (.bool b);have k2:CBlk _ g #[.bool b,.slice A1 n1 c1,.slice a2 m2 d2,.bool b0',.slice a3 m3 d3,.slice a4 m4 d4] t:=k1.set 1 (.slice A1 n1 c1);have k3:CBlk _ g #[.bool b,.slice A1 n1 c1,.slice A2 n2 c2,.bool b0',.slice a3 m3 d3,.slice a4 m4 d4] t:=k2.set 2 (.slice A2 n2 c2);have k4:CBlk _ g #[.bool b,.slice A1 n1 c1,.slice A2 n2 c2,.bool b',.slice a3 m3 d3,.slice a4 m4 d4] t:=k3.set 3 (.bool b');have k5:CBlk _ g #[.bool b,.slice A1 n1 c1,.slice A2 n2 c2,.bool b',.slice A3 n3 c3,.slice a4 m4 d4] t:=k4.set 4 (.slice A3 n3 c3);exact (((((h.store k0 (zbh _ _ _ _ _ _ _ _ _ _ _ _ _ _) _).store k1 (zbh _ _ _ _ _ _ _ _ _ _ _ _ _ _) _).store k2 (zbh _ _ _ _ _ _ _ _ _ _ _ _ _ _) _).store k3 (zbh _ _ _ _ _ _ _ _ _ _ _ _ _ _) _).store k4 (zbh _ _ _ _ _ _ _ _ _ _ _ _ _ _) _).store k5 (zbh _ _ _ _ _ _ _ _ _ _ _ _ _ _) _
theorem CBlk.set6 {w:World} {g:Nat} {u1 u2 u3 u4 u5 u6:Value} {t:TypeId} (hk:CBlk w g #[u1,u2,u3,u4,u5,u6] t) (v1 v2 v3 v4 v5 v6:Value):CBlk (set6 w g v1 v2 v3 v4 v5 v6) g #[v1,v2,v3,v4,v5,v6] t:=by
 unfold Go.Proofs.YtmkondcdejlhcaaGreatDoor.set6;exact (((((hk.set 0 v1).set 1 v2).set 2 v3).set 3 v4).set 4 v5).set 5 v6
def ItvS (w:World) (B:Nat) (v:Value) (p q:Q):Prop:=
 ∃ A1 n1 c1 A2 n2 c2 A3 n3 c3 A4 n4 c4,v = .agg #[.bool p.neg,.slice A1 n1 c1,.slice A2 n2 c2,.bool q.neg,.slice A3 n3 c3,.slice A4 n4 c4]∧NatS w B A1 n1 c1 p.top∧NatS w B A2 n2 c2 p.bot∧NatS w B A3 n3 c3 q.top∧NatS w B A4 n4 c4 q.bot
theorem ItvS.later {w w':World} {v:Value} {p q:Q} (h:ItvS w w.heap.size v p q) (hb:Below w.heap.size w w'):ItvS w' w'.heap.size v p q:=by
 obtain ⟨A1,n1,c1,A2,n2,c2,A3,n3,c3,A4,n4,c4,rfl,h1,h2,h3,h4⟩:=h;exact ⟨A1,n1,c1,A2,n2,c2,A3,n3,c3,A4,n4,c4,rfl,h1.later hb,h2.later hb,h3.later hb,h4.later hb⟩
def zb5 (w:World) (p q:Q) (e:Ending) (w':World):Prop:=∃ v,e = .returned v∧ItvS w' w'.heap.size v p q∧Below w.heap.size w w'
def zdc:Q:=⟨false,0,0⟩
theorem zbS {w W:World} {B g:Nat} {p q:Q} {v:Value} {b0 b0':Bool} {a1 a2 a3 a4:Option Addr} {m1 d1 m2 d2 m3 d3 m4 d4:Nat} {t:TypeId} {A1 A2 A3 A4:Option Addr} {n1 c1 n2 c2 n3 c3 n4 c4:Nat}
  (hk:CBlk W g #[.bool b0,.slice a1 m1 d1,.slice a2 m2 d2,.bool b0',.slice a3 m3 d3,.slice a4 m4 d4] t) (hB:Below B w W) (hg:B≤g)
  (hv:v = .agg #[.bool p.neg,.slice A1 n1 c1,.slice A2 n2 c2,.bool q.neg,.slice A3 n3 c3,.slice A4 n4 c4])
  (h1:NatS W W.heap.size A1 n1 c1 p.top) (h2:NatS W W.heap.size A2 n2 c2 p.bot) (h3:NatS W W.heap.size A3 n3 c3 q.top) (h4:NatS W W.heap.size A4 n4 c4 q.bot) :
  ItvS (set6 W g (.bool p.neg) (.slice A1 n1 c1) (.slice A2 n2 c2) (.bool q.neg) (.slice A3 n3 c3) (.slice A4 n4 c4)) (set6 W g (.bool p.neg) (.slice A1 n1 c1) (.slice A2 n2 c2) (.bool q.neg) (.slice A3 n3 c3) (.slice A4 n4 c4)).heap.size v p q∧Below B w (set6 W g (.bool p.neg) (.slice A1 n1 c1) (.slice A2 n2 c2) (.bool q.neg) (.slice A3 n3 c3) (.slice A4 n4 c4)):=by
 refine ⟨⟨A1,n1,c1,A2,n2,c2,A3,n3,c3,A4,n4,c4,hv,?_,?_,?_,?_⟩,zqu hB hg _ _ _ _ _ _⟩
 ·rw [zfa];exact h1.set6 hk _ _ _ _ _ _ _ _ _ _ _ _ _ _
 ·rw [zfa];exact h2.set6 hk _ _ _ _ _ _ _ _ _ _ _ _ _ _
 ·rw [zfa];exact h3.set6 hk _ _ _ _ _ _ _ _ _ _ _ _ _ _
 ·rw [zfa];exact h4.set6 hk _ _ _ _ _ _ _ _ _ _ _ _ _ _
theorem zht (p:Q) (v:Value) (w:World) (hv:RatS w w.heap.size v p) :
  Calls Tryz.prog 141 #[v] w (zb5 w p p):=by
 obtain ⟨A1,n1,c1,A2,n2,c2,rfl,h1,h2⟩:=hv;have aC:Below w.heap.size w (w.alloc (.cells #[.bool p.neg,.slice A1 n1 c1,.slice A2 n2 c2] 91)):=Ac;have aA:Below w.heap.size w ((w.alloc (.cells #[.bool p.neg,.slice A1 n1 c1,.slice A2 n2 c2] 91)).alloc (.cells #[.bool false,.slice none 0 0,.slice none 0 0,.bool false,.slice none 0 0,.slice none 0 0] 107)):=aC.alloc (by simp) _;have q0:CBlk ((w.alloc (.cells #[.bool p.neg,.slice A1 n1 c1,.slice A2 n2 c2] 91)).alloc (.cells #[.bool false,.slice none 0 0,.slice none 0 0,.bool false,.slice none 0 0,.slice none 0 0] 107)) w.heap.size #[.bool p.neg,.slice A1 n1 c1,.slice A2 n2 c2] 91:=(CBlk.new w _ _ _ rfl).below ((Below.refl _ _).alloc (Nat.le_refl _) _) (by simp);have q1:CBlk ((w.alloc (.cells #[.bool p.neg,.slice A1 n1 c1,.slice A2 n2 c2] 91)).alloc (.cells #[.bool false,.slice none 0 0,.slice none 0 0,.bool false,.slice none 0 0,.slice none 0 0] 107)) (w.heap.size+1) #[.bool false,.slice none 0 0,.slice none 0 0,.bool false,.slice none 0 0,.slice none 0 0] 107:=CBlk.new _ _ _ _ (by simp);go_enter Tryz.func141,Tryz.ntmps141
 go_upto_region 1 with (fail)
 generalize ((w.alloc (.cells #[.bool p.neg,.slice A1 n1 c1,.slice A2 n2 c2] 91)).alloc (.cells #[.bool false,.slice none 0 0,.slice none 0 0,.bool false,.slice none 0 0,.slice none 0 0] 107))=W at *;have x0:=q0.cell 0;have x1:=q0.cell 1;have x2:=q0.cell 2;have y0:=q1.cell 0;have y1:=q1.cell 1;have y2:=q1.cell 2;have y3:=q1.cell 3;have y4:=q1.cell 4;have y5:=q1.cell 5;have z0:=q1.frozen 0;have z1:=q1.frozen 1;have z2:=q1.frozen 2;have z3:=q1.frozen 3;have z4:=q1.frozen 4;have z5:=q1.frozen 5;have hI:=zbS (p:=p) (q:=p) q1 aA (by omega) rfl (h1.later aA) (h2.later aA) (h1.later aA) (h2.later aA);have hD:=q1.set6 (.bool p.neg) (.slice A1 n1 c1) (.slice A2 n2 c2) (.bool p.neg) (.slice A1 n1 c1) (.slice A2 n2 c2);unfold Go.Proofs.YtmkondcdejlhcaaGreatDoor.set6 at hI hD;have r0:=hD.cell 0;have r1:=hD.cell 1;have r2:=hD.cell 2;have r3:=hD.cell 3;have r4:=hD.cell 4;have r5:=hD.cell 5;have HI:=Aa hI;clear hI hD aC aA h1 h2 q0 q1;go_wp2
 refine bodyPost_ret (v := .agg #[.bool p.neg,.slice A1 n1 c1,.slice A2 n2 c2,.bool p.neg,.slice A1 n1 c1,.slice A2 n2 c2]) (by simp [results,Tryz.results141,go_sem,y0,y1,y2,y3,y4,y5]) rfl ⟨_,rfl,HI.out⟩
theorem zmQ {x K:Nat} (h:x<2 ^ (64*K)):(digs x).length≤K:=by
 refine digs_length_le ?_;rw [show B=2 ^ 64 from rfl,←Nat.pow_mul];exact h
theorem zaZ (A1 A2:Option Addr) (n1 c1 n2 c2:Nat):zdY #[.slice A1 n1 c1,.slice A2 n2 c2]:=by
 intro i v hv k d
 rcases (show i=0∨i=1∨2≤i from by omega) with rfl | rfl | h
 ·injection hv with hv;subst hv;intro h;cases h
 ·injection hv with hv;subst hv;intro h;cases h
 ·rw [Array.getElem?_eq_none h] at hv;cases hv
theorem zdg {n bits k:Nat} (hn:2≤n) (hb:bits≤1048576):(digs (Cs.tanAt n bits k).1).length≤1048576∧(digs (Cs.tanAt n bits k).2.1).length≤1048576∧(digs (Cs.tanAt n bits k).2.2).length≤1048576:=by
 have h:=Cs.tan_bound n bits hn k;obtain ⟨N,hN⟩:∃ N,N=64*1048576:=⟨_,rfl⟩;have h2:2*2 ^ bits<2 ^ N:=by
  rw [show 2*2 ^ bits=2 ^ (bits+1) by rw [Nat.pow_succ,Nat.mul_comm]];exact Nat.pow_lt_pow_right (by omega) (by omega)
 generalize 2*2 ^ bits=X at h h2;have h3:∀ x,x≤X→(digs x).length≤1048576:=fun x hx=>zmQ (by rw [←hN];exact Nat.lt_of_le_of_lt hx h2)
 exact ⟨h3 _ (by omega),h3 _ (by omega),h3 _ (by omega)⟩
theorem zqH {bits:Nat} (hb:bits≤1048576):(digs (2 ^ bits)).length≤1048576:=by
 obtain ⟨N,hN⟩:∃ N,N=64*1048576:=⟨_,rfl⟩;exact zmQ (by rw [←hN];exact Nat.pow_lt_pow_right (by omega) (by omega))
theorem zeJ {z:Int} (h0:0≤z) (h1:z<18446744073709551616):IntKind.u64.wrap z=z:=by rw [zh2];omega
theorem zgt (n bits k0:Nat) (w:World) (hok:Cs.TanOk n bits k0) (hn:2≤n) (hn2:n<4294967296) (hb:bits≤1048576) (hk0:k0<4294967296) :
  Calls Tryz.prog 220 #[.int .u64 (n:Int),.int .i64 (bits:Int)] w (zcy w (Cs.tanVal n bits k0)):=by
 have hZ:=Aa hok.zero;have bL:=Aa hok.pos;have cF:=Aa hok.le;have hV:Hid (Cs.tanVal n bits k0=(Cs.tanAt n bits k0).1 - (Cs.tanAt n bits k0).2.1):=rfl;clear hok;obtain ⟨nn,aS⟩:∃ nn,nn=n*n:=⟨_,rfl⟩;have bZ:4≤nn:=by rw [aS];exact Nat.mul_le_mul hn hn
 have cC:nn<18446744073709551616:=by
  rw [aS];have:n*n<4294967296*4294967296:=Nat.mul_lt_mul'' hn2 hn2;omega
 have cG:IntKind.u64.wrap ((n:Int)*(n:Int))=(nn:Int):=by
  rw [zeJ (Int.mul_nonneg (by omega) (by omega)) (by rw [←Int.natCast_mul,←aS];omega),←Int.natCast_mul,←aS]
 have bV:=Aa aS;clear aS;go_enter Tryz.func220,Tryz.ntmps220
 go_wp2_with fail
 refine (zah 1 w (by omega) (by omega)).mono ?_;rintro e w1 ⟨A1,m1,c1,rfl,bP,bO⟩
 go_wp2_with fail
 refine (zay A1 m1 c1 _ bits w1 bP (by rw [←bP.len];exact Nat.le_trans zbL (by omega)) (by omega)).mono ?_;rintro e w2 ⟨A2,m2,c2,rfl,aK,aC⟩;have aE:=Ad bO aC;rw [show Int.toNat 1*2 ^ bits=2 ^ bits by simp] at aK;have cA:m2≤1048576:=by
  rw [←aK.len];exact zqH hb
 go_wp2_with fail
 refine (zbl A2 m2 c2 _ n w2 aK (by omega) (by omega) (by omega)).mono ?_;rintro e w3 ⟨m3,c3,rfl,bR,aD⟩;have bU:=bR.nat;have aI:=Ad aE aD;have cB:Below w.heap.size w (w3.alloc (.cells #[.slice none 0 0,.slice none 0 0] 229)):=aI.alloc aI.size _;have bS:CBlk (w3.alloc (.cells #[.slice none 0 0,.slice none 0 0] 229)) w3.heap.size #[.slice none 0 0,.slice none 0 0] 229:=CBlk.new _ _ _ _ rfl;have cE:=bU.later ((Below.refl _ _).alloc (Nat.le_refl _) (.cells #[.slice none 0 0,.slice none 0 0] 229));obtain ⟨g,bJ⟩:∃ g,g=w3.heap.size:=⟨_,rfl⟩;have hg:w.heap.size≤g:=by rw [bJ];exact aI.size
 rw [←bJ] at bS;have HG:=Aa bJ;clear bJ aE aI bR bP aK cA bO aC aD bU;go_upto_region 4 with (fail)
 rw [←HG.out];generalize (w3.alloc (.cells #[.slice none 0 0,.slice none 0 0] 229))=wa at *
 go_wp2_with fail
 go_loopw [5,8] (fun pv kv wr=>∃ (k:Nat) (A:Option Addr) (m c:Nat) (A0:Option Addr) (m0 c0:Nat) (A1:Option Addr) (m1 c1:Nat),k≤k0∧pv = .slice A m c∧kv = .int .u64 (k:Int)∧NatS wr wr.heap.size A m c (Cs.tanAt n bits k).2.2∧NatS wr wr.heap.size A0 m0 c0 (Cs.tanAt n bits k).1∧NatS wr wr.heap.size A1 m1 c1 (Cs.tanAt n bits k).2.1∧CBlk wr g #[.slice A0 m0 c0,.slice A1 m1 c1] 229∧Below w.heap.size w wr) (fun _ kv _=>k0 - (intOf kv).toNat)
 case atStart=>exact ⟨0,_,m3,c3,none,0,0,none,0,0,Nat.zero_le _,rfl,rfl,cE,NatS.nil _ _,NatS.nil _ _,bS,cB⟩
 case round=>
  obtain ⟨k,A,m,c,A0,m0,c0,A1,m1,c1,cH,rfl,rfl,hp,h0,h1,hk,hB⟩:=hrel
  by_cases hlt:k<k0
  ·have bT:=Aa (bL.out k hlt)
   obtain ⟨k2,bD⟩:∃ k2,k2=2*k:=⟨_,rfl⟩;obtain ⟨aH,aM⟩:∃ aH,aH=2*k+1:=⟨_,rfl⟩;obtain ⟨kk,aF⟩:∃ kk,kk=k+1:=⟨_,rfl⟩;have f1:IntKind.u64.wrap (2*(k:Int))=(k2:Int):=by rw [zeJ (by omega) (by omega)];omega
   have f2:IntKind.u64.wrap ((k2:Int)+1)=(aH:Int):=by rw [zeJ (by omega) (by omega)];omega
   have f3:IntKind.u64.wrap ((k:Int)+1)=(kk:Int):=by rw [zeJ (by omega) (by omega)];omega
   have bG:0<aH∧aH<18446744073709551616:=by omega
   have bI:Hid (kk=k+1∧k<k0):=⟨aF,hlt⟩;obtain ⟨bQ,bW⟩:=bG
   rcases Nat.mod_two_eq_zero_or_one k with aL | aL
   ·have f4:Int.tmod (k:Int) 2=0:=by rw [Int.tmod_eq_emod_of_nonneg (by omega)];omega
    have aO:Cs.tanAt n bits kk=((Cs.tanAt n bits k).1+(Cs.tanAt n bits k).2.2 / aH,(Cs.tanAt n bits k).2.1,(Cs.tanAt n bits k).2.2 / nn):=by
     rw [aF];simp only [Cs.tanAt];rw [if_pos aL,aM,bV.out]
    clear bD aM aF hlt aL
    go_wp2_with fail
    refine (zaU A m c (Cs.tanAt n bits k).2.2 _ hp).mono ?_;rintro e w1 ⟨rfl,rfl⟩;rw [decide_eq_false (by have:=bT.out;omega)]
    go_wp2_with fail
    refine (zbl A m c _ aH _ hp (by have h:=hp.len;have h2:=(zdg (k:=k) hn hb).2.2;omega) (by omega) (by omega)).mono ?_;rintro e w2 ⟨m2,c2,rfl,aV,aC⟩;have aP:=aV.nat;have aE:=Ad hB aC;have aG:=hk.below aC hk.lt;have bB:=hp.later aC;have aR:=h0.later aC;have aQ:=h1.later aC;clear aV hk hp h0 h1;have x0:=aG.cell 0;have x1:=aG.cell 1
    go_wp2_with fail
    refine (zcJ A0 _ m0 c0 _ _ _ _ _ aR aP (by have h:=aR.len;have h2:=(zdg (k:=k) hn hb).1;omega) (by
     have h:=aP.len;have h2:=(zdg (k:=k) hn hb).2.2;have h3:=zaa (Nat.div_le_self (Cs.tanAt n bits k).2.2 aH);omega)).mono ?_
    rintro e w3 ⟨A3,m3,c3,rfl,aZ,aD⟩;have aI:=Ad aE aD;have aA:=aG.below aD aG.lt;have aT:=bB.later aD;have aU:=aR.later aD;have bE:=aQ.later aD;clear x0 x1 aG bB aR aQ aP aE;have x0:=aA.cell 0;have x1:=aA.cell 1;have y0:=aA.frozen 0;have y1:=aA.frozen 1;have bA:=aI.setCell (p:=⟨g,0,none⟩) hg (.slice A3 m3 c3);have bC:=aA.set 0 (.slice A3 m3 c3);have aN:=aT.store (i:=0) aA (zaZ _ _ _ _ _ _) (.slice A3 m3 c3);have bK:=aU.store (i:=0) aA (zaZ _ _ _ _ _ _) (.slice A3 m3 c3);have bH:=bE.store (i:=0) aA (zaZ _ _ _ _ _ _) (.slice A3 m3 c3);have bF:=aZ.store (i:=0) aA (zaZ _ _ _ _ _ _) (.slice A3 m3 c3);have aW:(w3.setCell ⟨g,0,none⟩ (.slice A3 m3 c3)).heap.size=w3.heap.size:=by simp [World.setCell]
    clear aT aU bE aZ aI aA;go_upto_region 8 with (fail)
    generalize (w3.setCell ⟨g,0,none⟩ (.slice A3 m3 c3))=w4 at *;rw [←aW] at aN bK bH bF
    go_wp2_with fail
    refine (zbl A m c _ nn _ aN (by have h:=aN.len;have h2:=(zdg (k:=k) hn hb).2.2;omega) (by omega) (by omega)).mono ?_;rintro e w5 ⟨m5,c5,rfl,bM,aJ⟩;have bN:=bM.nat
    go_wp2_with fail
    go_roundw
    case rel=>
     refine ⟨kk,_,m5,c5,A3,m3,c3,A1,m1,c1,by have:=bI.out;omega,rfl,rfl,?_,?_,?_,bC.below aJ bC.lt,bA.trans (aJ.mono bA.size)⟩
     ·rw [aO,←aW];exact bN
     ·rw [aO];exact bF.later aJ
     ·rw [aO];exact bH.later aJ
    case measure=>have:=bI.out;simp [intOf]<;>omega
   ·have f4:Int.tmod (k:Int) 2=1:=by rw [Int.tmod_eq_emod_of_nonneg (by omega)];omega
    have aO:Cs.tanAt n bits kk=((Cs.tanAt n bits k).1,(Cs.tanAt n bits k).2.1+(Cs.tanAt n bits k).2.2 / aH,(Cs.tanAt n bits k).2.2 / nn):=by
     rw [aF];simp only [Cs.tanAt];rw [if_neg (by omega),aM,bV.out]
    clear bD aM aF hlt aL
    go_wp2_with fail
    refine (zaU A m c (Cs.tanAt n bits k).2.2 _ hp).mono ?_;rintro e w1 ⟨rfl,rfl⟩;rw [decide_eq_false (by have:=bT.out;omega)]
    go_wp2_with fail
    refine (zbl A m c _ aH _ hp (by have h:=hp.len;have h2:=(zdg (k:=k) hn hb).2.2;omega) (by omega) (by omega)).mono ?_;rintro e w2 ⟨m2,c2,rfl,aV,aC⟩;have aP:=aV.nat;have aE:=Ad hB aC;have aG:=hk.below aC hk.lt;have bB:=hp.later aC;have aR:=h0.later aC;have aQ:=h1.later aC;clear aV hk hp h0 h1;have x0:=aG.cell 0;have x1:=aG.cell 1
    go_wp2_with fail
    refine (zcJ A1 _ m1 c1 _ _ _ _ _ aQ aP (by have h:=aQ.len;have h2:=(zdg (k:=k) hn hb).2.1;omega) (by
     have h:=aP.len;have h2:=(zdg (k:=k) hn hb).2.2;have h3:=zaa (Nat.div_le_self (Cs.tanAt n bits k).2.2 aH);omega)).mono ?_
    rintro e w3 ⟨A3,m3,c3,rfl,aZ,aD⟩;have aI:=Ad aE aD;have aA:=aG.below aD aG.lt;have aT:=bB.later aD;have aU:=aR.later aD;have bE:=aQ.later aD;clear x0 x1 aG bB aR aQ aP aE;have x0:=aA.cell 0;have x1:=aA.cell 1;have y0:=aA.frozen 0;have y1:=aA.frozen 1;have bA:=aI.setCell (p:=⟨g,1,none⟩) hg (.slice A3 m3 c3);have bC:=aA.set 1 (.slice A3 m3 c3);have aN:=aT.store (i:=1) aA (zaZ _ _ _ _ _ _) (.slice A3 m3 c3);have bK:=aU.store (i:=1) aA (zaZ _ _ _ _ _ _) (.slice A3 m3 c3);have bH:=bE.store (i:=1) aA (zaZ _ _ _ _ _ _) (.slice A3 m3 c3);have bF:=aZ.store (i:=1) aA (zaZ _ _ _ _ _ _) (.slice A3 m3 c3);have aW:(w3.setCell ⟨g,1,none⟩ (.slice A3 m3 c3)).heap.size=w3.heap.size:=by simp [World.setCell]
    clear aT aU bE aZ aI aA;go_upto_region 8 with (fail)
    generalize (w3.setCell ⟨g,1,none⟩ (.slice A3 m3 c3))=w4 at *;rw [←aW] at aN bK bH bF
    go_wp2_with fail
    refine (zbl A m c _ nn _ aN (by have h:=aN.len;have h2:=(zdg (k:=k) hn hb).2.2;omega) (by omega) (by omega)).mono ?_;rintro e w5 ⟨m5,c5,rfl,bM,aJ⟩;have bN:=bM.nat
    go_wp2_with fail
    go_roundw
    case rel=>
     refine ⟨kk,_,m5,c5,A0,m0,c0,A3,m3,c3,by have:=bI.out;omega,rfl,rfl,?_,?_,?_,bC.below aJ bC.lt,bA.trans (aJ.mono bA.size)⟩
     ·rw [aO,←aW];exact bN
     ·rw [aO];exact bK.later aJ
     ·rw [aO];exact bF.later aJ
    case measure=>have:=bI.out;simp [intOf]<;>omega
  ·obtain rfl:k=k0:=by omega
   go_wp2_with fail
   refine (zaU A m c (Cs.tanAt n bits k).2.2 _ hp).mono ?_;rintro e w1 ⟨rfl,rfl⟩;rw [decide_eq_true hZ.out];have x0:=hk.cell 0;have x1:=hk.cell 1
   go_wp2_with fail
   refine (zdq A0 A1 m0 c0 m1 c1 _ _ _ h0 h1 cF.out (by have h:=h0.len;have h2:=(zdg (k:=k) hn hb).1;omega)).mono ?_;rintro e w2 ⟨A2,m2,c2,rfl,hn2,aC⟩;go_wp2
   go_ret;exact ⟨A2,m2,c2,rfl,by rw [hV.out];exact hn2,hB.trans (aC.mono hB.size)⟩
theorem zfE {n bits k:Nat} (hn:2≤n) (hb:bits≤1048576):(digs (Cs.tanVal n bits k)).length≤1048576:=
 Nat.le_trans (zaa (Nat.sub_le _ _)) (zdg (k:=k) hn hb).1
theorem zl7 (bits k l:Nat) (w:World) (h5:Cs.TanOk 5 bits k) (h239:Cs.TanOk 239 bits l) (hc:Cs.tanVal 239 bits l*8≤Cs.tanVal 5 bits k*32) (hb:bits≤1048576) (hk:k<4294967296) (hl:l<4294967296) :
  Calls Tryz.prog 207 #[.int .i64 (bits:Int)] w (zcy w (Cs.circleOf bits k l)):=by
 have H5:=Aa (zgt 5 bits k w h5 (by omega) (by omega) hb hk);have H9:=Aa (fun W=>zgt 239 bits l W h239 (by omega) (by omega) hb hl);have l5:=zfE (n:=5) (k:=k) (by omega) hb;have l9:=zfE (n:=239) (k:=l) (by omega) hb;have HV:Hid (Cs.circleOf bits k l=Cs.tanVal 5 bits k*32 - Cs.tanVal 239 bits l*8):=rfl;clear h5 h239;generalize Cs.tanVal 5 bits k=x at *;generalize Cs.tanVal 239 bits l=y at *;generalize Cs.circleOf bits k l=z at *;have aZ:(digs 32).length≤1:=digs_length_le (by decide);have e8:(digs 8).length≤1:=digs_length_le (by decide);go_enter Tryz.func207,Tryz.ntmps207
 go_wp2_with fail
 refine H5.out.mono ?_;rintro e w1 ⟨A1,m1,c1,rfl,aW,aO⟩
 go_wp2_with fail
 refine (H9.out w1).mono ?_;rintro e w2 ⟨A2,m2,c2,rfl,aV,aN⟩;have aK:=Ad aO aN;have aH:=aW.later aN;clear aW aO aN
 go_wp2_with fail
 refine (zah 32 w2 (by omega) (by omega)).mono ?_;rintro e w3 ⟨A3,m3,c3,rfl,aP,aI⟩;have aM:=Ad aK aI;have aC:=aH.later aI;have aF:=aV.later aI;clear aH aV aK aI
 go_wp2_with fail
 refine (zaE A1 A3 m1 c1 m3 c3 x 32 w3 aC aP (by have:=aC.len;omega) (by have h:=aP.len;have h2:(digs (Int.toNat 32)).length≤1:=aZ;omega)).mono ?_;rintro e w4 ⟨A4,m4,c4,rfl,bA,aL⟩;have aQ:=Ad aM aL;have aG:=aF.later aL;clear aC aP aF aM aL
 go_wp2_with fail
 refine (zah 8 w4 (by omega) (by omega)).mono ?_;rintro e w5 ⟨A5,m5,c5,rfl,aT,aJ⟩;have aS:=Ad aQ aJ;have aD:=bA.later aJ;have aA:=aG.later aJ;clear bA aG aQ aJ
 go_wp2_with fail
 refine (zaE A2 A5 m2 c2 m5 c5 y 8 w5 aA aT (by have:=aA.len;omega) (by have h:=aT.len;have h2:(digs (Int.toNat 8)).length≤1:=e8;omega)).mono ?_;rintro e w6 ⟨A6,m6,c6,rfl,bC,aR⟩;have aU:=Ad aS aR;have aE:=aD.later aR;clear aD aA aT aS aR
 go_wp2_with fail
 refine (zdq A4 A6 m4 c4 m6 c6 _ _ w6 aE bC hc (by have:=aE.len;have:=zaB l5 aZ;omega)).mono ?_;rintro e w7 ⟨A7,m7,c7,rfl,bB,bD⟩;go_wp2
 go_ret;exact ⟨A7,m7,c7,rfl,by rw [HV.out];exact bB,aU.trans (bD.mono aU.size)⟩
theorem zcC {x M:Nat} (h:x<2 ^ M) (hM:M≤1048576):(digs x).length≤1048576:=by
 obtain ⟨N,hN⟩:∃ N,N=64*1048576:=⟨_,rfl⟩;exact zmQ (by rw [←hN];exact Nat.lt_of_lt_of_le h (Nat.pow_le_pow_right (by omega) (by omega)))
theorem zmr (neg:Bool) (top bot bits k l mm M:Nat) (At Ab:Option Addr) (nt ct nb cb:Nat) (w:World) (h5:Cs.TanOk 5 bits k) (h239:Cs.TanOk 239 bits l) (hc:Cs.tanVal 239 bits l*8≤Cs.tanVal 5 bits k*32)
  (hok:Cs.SerOk (Cs.sqOf (Cs.circleOf bits k l) top bot bits) bits mm M) (hM:M≤1048576) (hb:bits≤1048576) (hk0:k<4294967296) (hl0:l<4294967296) (hmm:mm<1073741824)
  (ht:NatS w w.heap.size At nt ct top) (hbo:NatS w w.heap.size Ab nb cb bot) (hbot:0<bot) (hnt:nt≤1048576) :
  Calls Tryz.prog 186 #[.agg #[.bool neg,.slice At nt ct,.slice Ab nb cb],.int .i64 (bits:Int)] w (zcy w (Cs.serVal (Cs.sqOf (Cs.circleOf bits k l) top bot bits) bits mm)):=by
 have cY:(digs (Cs.circleOf bits k l)).length≤1048578:=by
  have h:=zaB (zfE (n:=5) (k:=k) (by omega) hb) (show (digs 32).length≤1 from digs_length_le (by decide));exact Nat.le_trans (Nat.le_trans (zaa (Nat.sub_le _ _)) h) (by omega)
 have cU:=ht.len;have cW:=zaB cY (Nat.le_of_eq cU);have HC:=Aa (fun W=>zl7 bits k l W h5 h239 hc hb hk0 hl0);have cG:Hid (Cs.sqOf (Cs.circleOf bits k l) top bot bits=Cs.circleOf bits k l*top / bot*(Cs.circleOf bits k l*top / bot) / 2 ^ bits):=rfl;clear h5 h239 hc;generalize Cs.circleOf bits k l=ci at *;obtain ⟨sq,bO⟩:∃ sq,sq=Cs.sqOf ci top bot bits:=⟨_,rfl⟩;rw [←bO] at hok cG ⊢;have aT:(digs (ci*top / bot)).length≤1048578+nt:=Nat.le_trans (zaa (Nat.div_le_self _ _)) cW;have cE:(digs sq).length≤1048578+nt+(1048578+nt):=by
  rw [cG.out];exact Nat.le_trans (zaa (Nat.div_le_self _ _)) (zaB aT aT)
 have hZ:=Aa hok.zero;have cQ:=Aa hok.pos;have dF:=Aa hok.le;have bU:=hok.bound;have aJ:∀ j,j≤mm→_:=fun j hj=>bU j (by omega)
 have hV:Hid (Cs.serVal sq bits mm=(Cs.serAt sq bits mm).1 - (Cs.serAt sq bits mm).2.1):=rfl;clear hok bO bU cU;have dI:Below w.heap.size w (w.alloc (.cells #[.bool neg,.slice At nt ct,.slice Ab nb cb] 91)):=Ac;have q0:CBlk (w.alloc (.cells #[.bool neg,.slice At nt ct,.slice Ab nb cb] 91)) w.heap.size #[.bool neg,.slice At nt ct,.slice Ab nb cb] 91:=CBlk.new w _ _ _ rfl;go_enter Tryz.func186,Tryz.ntmps186
 go_wp2_with fail
 generalize (w.alloc (.cells #[.bool neg,.slice At nt ct,.slice Ab nb cb] 91))=w3 at *;have a1:=q0.cell 1;have a2:=q0.cell 2;have al:=q0.lt;have aD:Below w.heap.size w w3.drew:=dI.drew
 go_region_held3 (fun w'=>w'.cell? ⟨w.heap.size,1,none⟩=some (.slice At nt ct)∧w'.cell? ⟨w.heap.size,2,none⟩=some (.slice Ab nb cb))
  (first | exact ⟨a1,a2⟩ | exact ⟨(aH.cell (p:=⟨w.heap.size,1,none⟩) al).trans a1,(aH.cell (p:=⟨w.heap.size,2,none⟩) al).trans a2⟩ | exact ⟨(aC.cell (p:=⟨w.heap.size,1,none⟩) bF).trans ((aH.cell (p:=⟨w.heap.size,1,none⟩) al).trans a1),(aC.cell (p:=⟨w.heap.size,2,none⟩) bF).trans ((aH.cell (p:=⟨w.heap.size,2,none⟩) al).trans a2)⟩ | exact ⟨(aF.cell (p:=⟨w.heap.size,1,none⟩) cP).trans ((aC.cell (p:=⟨w.heap.size,1,none⟩) bF).trans ((aH.cell (p:=⟨w.heap.size,1,none⟩) al).trans a1)),(aF.cell (p:=⟨w.heap.size,2,none⟩) cP).trans ((aC.cell (p:=⟨w.heap.size,2,none⟩) bF).trans ((aH.cell (p:=⟨w.heap.size,2,none⟩) al).trans a2))⟩)
  (first
   |(go_at_call 207;refine (HC.out w3.drew).mono ?_;rintro e w4 ⟨A4,m4,c4,rfl,aP,aH⟩;have bF:=Nat.lt_of_lt_of_le al aH.size)
   |(go_at_call 113;refine (zaE A4 At m4 c4 nt ct ci top w4 aP ((ht.later aD).later aH) (by have:=aP.len;omega) (by omega)).mono ?_;rintro e w5 ⟨A5,m5,c5,rfl,aO,aC⟩;have cP:=Nat.lt_of_lt_of_le bF aC.size)
   |(go_at_call 142;refine (zcM A5 Ab m5 c5 nb cb (ci*top) bot w5 aO (((hbo.later aD).later aH).later aC) hbot (by have:=aO.len;omega)).mono ?_;rintro e w6 ⟨A6,m6,c6,A7,m7,c7,rfl,aK,dN,aF⟩))
 have cN:Below w.heap.size w w6:=((aD.trans (aH.mono aD.size)).trans (aC.mono (Nat.le_trans aD.size aH.size))).trans (aF.mono (Nat.le_trans aD.size (Nat.le_trans aH.size aC.size)));clear aD aH aC aF aP aO dN q0 a1 a2 al ht hbo HC cY cW
 try clear bF cP
 go_wp2_with fail
 refine (zaE A6 A6 m6 c6 m6 c6 _ _ w6 aK aK (by have:=aK.len;omega) (by have:=aK.len;omega)).mono ?_;rintro e w8 ⟨A8,m8,c8,rfl,cK,cS⟩;have cH:=Ad cN cS
 go_wp2_with fail
 refine (zaY A8 m8 c8 _ bits w8 cK (by have:=cK.len;have:=zaB aT aT;omega) (by omega)).mono ?_;rintro e w9 ⟨bT,cB⟩;obtain ⟨As,ms,cs,rfl,cI,cB⟩:=cB.ret bT;rw [←cG.out] at cI;have cM:=Ad cH cB;clear cS cB bT cN cH aK cK
 go_wp2_with fail
 refine (zah 1 w9 (by omega) (by omega)).mono ?_;rintro e dL ⟨dA,dB,dD,rfl,bC,bA⟩;have bI:=cI.later bA;have bB:=Ad cM bA
 go_wp2_with fail
 refine (zay dA dB dD _ bits dL bC (by rw [←bC.len];exact Nat.le_trans zbL (by omega)) (by omega)).mono ?_;rintro e bN ⟨cZ,dG,dH,rfl,bE,bD⟩;have bH:=bI.later bD;have aR:=Ad bB bD;rw [show Int.toNat 1*2 ^ bits=2 ^ bits by simp] at bE;have dJ:Below w.heap.size w (bN.alloc (.cells #[.slice none 0 0,.slice none 0 0] 229)):=aR.alloc aR.size _;have cT:CBlk (bN.alloc (.cells #[.slice none 0 0,.slice none 0 0] 229)) bN.heap.size #[.slice none 0 0,.slice none 0 0] 229:=CBlk.new _ _ _ _ rfl;have dQ:=bE.later ((Below.refl _ _).alloc (Nat.le_refl _) (.cells #[.slice none 0 0,.slice none 0 0] 229));have dK:=bH.later ((Below.refl _ _).alloc (Nat.le_refl _) (.cells #[.slice none 0 0,.slice none 0 0] 229));obtain ⟨g,cF⟩:∃ g,g=bN.heap.size:=⟨_,rfl⟩;have hg:w.heap.size≤g:=by rw [cF];exact aR.size
 rw [←cF] at cT;have HG:=Aa cF;clear cF cM bB aR cI bI bH bC bE bA bD;go_upto_region 6 with (fail)
 rw [←HG.out];generalize (bN.alloc (.cells #[.slice none 0 0,.slice none 0 0] 229))=wa at *
 go_wp2_with fail
 go_loopw [8,10] (fun pv kv wr=>∃ (k:Nat) (A:Option Addr) (m c:Nat) (A0:Option Addr) (m0 c0:Nat) (A1:Option Addr) (m1 c1:Nat),k≤mm∧pv = .slice A m c∧kv = .int .u64 (k:Int)∧NatS wr wr.heap.size A m c (Cs.serAt sq bits k).2.2∧NatS wr wr.heap.size A0 m0 c0 (Cs.serAt sq bits k).1∧NatS wr wr.heap.size A1 m1 c1 (Cs.serAt sq bits k).2.1∧CBlk wr g #[.slice A0 m0 c0,.slice A1 m1 c1] 229∧NatS wr wr.heap.size As ms cs sq∧Below w.heap.size w wr) (fun _ kv _=>mm - (intOf kv).toNat)
 case atStart=>exact ⟨0,cZ,dG,dH,none,0,0,none,0,0,Nat.zero_le _,rfl,rfl,dQ,NatS.nil _ _,NatS.nil _ _,cT,dK,dJ⟩
 case round=>
  obtain ⟨k,A,m,c,A0,m0,c0,A1,m1,c1,dT,rfl,rfl,hp,h0,h1,hk,hs,hB⟩:=hrel
  by_cases hlt:k<mm
  ·have cV:=Aa (cQ.out k hlt)
   obtain ⟨k2,bQ⟩:∃ k2,k2=2*k:=⟨_,rfl⟩;obtain ⟨bV,aN⟩:∃ bV,bV=2*k+1:=⟨_,rfl⟩;obtain ⟨bZ,aQ⟩:∃ bZ,bZ=2*k+2:=⟨_,rfl⟩;obtain ⟨kp,aU⟩:∃ kp,kp=bV*bZ:=⟨_,rfl⟩;obtain ⟨kk,aL⟩:∃ kk,kk=k+1:=⟨_,rfl⟩;have f1:IntKind.u64.wrap (2*(k:Int))=(k2:Int):=by rw [zeJ (by omega) (by omega)];omega
   have f2:IntKind.u64.wrap ((k2:Int)+1)=(bV:Int):=by rw [zeJ (by omega) (by omega)];omega
   have dS:IntKind.u64.wrap ((k2:Int)+2)=(bZ:Int):=by rw [zeJ (by omega) (by omega)];omega
   have f3:IntKind.u64.wrap ((k:Int)+1)=(kk:Int):=by rw [zeJ (by omega) (by omega)];omega
   have bW:kp<4294967296*4294967296:=by rw [aU];exact Nat.mul_lt_mul'' (by omega) (by omega)
   have dM:0<kp:=by rw [aU];exact Nat.mul_pos (by omega) (by omega)
   have f5:IntKind.u64.wrap ((bV:Int)*(bZ:Int))=(kp:Int):=by
    rw [zeJ (Int.mul_nonneg (by omega) (by omega)) (by rw [←Int.natCast_mul,←aU];omega),←Int.natCast_mul,←aU]
   have dR:kp<18446744073709551616:=by omega
   have aE:Hid (kk=k+1∧k<mm):=⟨aL,hlt⟩
   rcases Nat.mod_two_eq_zero_or_one k with aS | aS
   ·have f4:Int.tmod (k:Int) 2=0:=by rw [Int.tmod_eq_emod_of_nonneg (by omega)];omega
    have aW:Cs.serAt sq bits kk=((Cs.serAt sq bits k).1+(Cs.serAt sq bits k).2.2,(Cs.serAt sq bits k).2.1,(Cs.serAt sq bits k).2.2*sq / 2 ^ bits / kp):=by
     rw [aL,aU,aN,aQ];simp only [Cs.serAt];rw [if_pos aS]
    clear bQ aN aQ aU bW aL hlt aS;have x0:=hk.cell 0;have x1:=hk.cell 1
    go_wp2_with fail
    refine (zaU A m c (Cs.serAt sq bits k).2.2 _ hp).mono ?_;rintro e w1 ⟨rfl,rfl⟩;rw [decide_eq_false (by have:=cV.out;omega)]
    go_wp2_with fail
    refine (zcJ A0 A m0 c0 m c _ _ _ h0 hp (by have h:=h0.len;have h2:=zcC (aJ k (by have:=aE.out;omega)).1 hM;omega) (by have h:=hp.len;have h2:=zcC (aJ k (by have:=aE.out;omega)).2.2 hM;omega)).mono ?_;rintro e w3 ⟨A3,m3,c3,rfl,bK,aG⟩;have bJ:=Ad hB aG;have aA:=hk.below aG hk.lt;have bG:=hp.later aG;have bS:=h0.later aG;have bR:=h1.later aG;have bM:=hs.later aG;clear x0 x1 hk hp h0 h1 hB hs;have x0:=aA.cell 0;have x1:=aA.cell 1;have y0:=aA.frozen 0;have y1:=aA.frozen 1;have bL:=bJ.setCell (p:=⟨g,0,none⟩) hg (.slice A3 m3 c3);have bP:=aA.set 0 (.slice A3 m3 c3);have aV:=bG.store (i:=0) aA (zaZ _ _ _ _ _ _) (.slice A3 m3 c3);have cC:=bS.store (i:=0) aA (zaZ _ _ _ _ _ _) (.slice A3 m3 c3);have cA:=bR.store (i:=0) aA (zaZ _ _ _ _ _ _) (.slice A3 m3 c3);have aP:=bK.store (i:=0) aA (zaZ _ _ _ _ _ _) (.slice A3 m3 c3);have aM:=bM.store (i:=0) aA (zaZ _ _ _ _ _ _) (.slice A3 m3 c3);have cO:(w3.setCell ⟨g,0,none⟩ (.slice A3 m3 c3)).heap.size=w3.heap.size:=by simp [World.setCell]
    clear bG bS bR bK bJ aA bM;go_upto_region 9 with (fail)
    generalize (w3.setCell ⟨g,0,none⟩ (.slice A3 m3 c3))=w4 at *;rw [←cO] at aV cC cA aP aM
    go_wp2_with fail
    refine (zaE A As m c ms cs _ _ w4 aV aM (by have h:=aV.len;have h2:=zcC (aJ k (by have:=aE.out;omega)).2.2 hM;omega) (by have h:=aM.len;omega)).mono ?_;rintro e w5 ⟨A5,m5,c5,rfl,aO,aC⟩
    go_wp2_with fail
    refine (zaY A5 m5 c5 _ bits w5 aO (by
     have h:=aO.len;have h2:=zaB (zcC (aJ k (by have:=aE.out;omega)).2.2 hM) cE;omega) (by omega)).mono ?_
    rintro e w6 ⟨aZ,aF⟩;obtain ⟨A6,m6,c6,rfl,aK,aF⟩:=aF.ret aZ
    go_wp2_with fail
    refine (zbl A6 m6 c6 _ kp w6 aK (by
     have h:=aK.len;have h2:=zaB (zcC (aJ k (by have:=aE.out;omega)).2.2 hM) cE;have h3:=zaa (Nat.div_le_self ((Cs.serAt sq bits k).2.2*sq) (2 ^ bits));omega) (by omega) (by omega)).mono ?_
    rintro e w7 ⟨m7,c7,rfl,cL,cR⟩;have cJ:=cL.nat;have aI:=(aC.trans (aF.mono aC.size)).trans (cR.mono (Nat.le_trans aC.size aF.size))
    go_wp2_with fail
    go_roundw
    case rel=>
     refine ⟨kk,_,m7,c7,A3,m3,c3,A1,m1,c1,by have:=aE.out;omega,rfl,rfl,?_,?_,?_,bP.below aI bP.lt,aM.later aI,bL.trans (aI.mono bL.size)⟩
     ·rw [aW];exact cJ
     ·rw [aW];exact aP.later aI
     ·rw [aW];exact cA.later aI
    case measure=>have:=aE.out;simp [intOf]<;>omega
   ·have f4:Int.tmod (k:Int) 2=1:=by rw [Int.tmod_eq_emod_of_nonneg (by omega)];omega
    have aW:Cs.serAt sq bits kk=((Cs.serAt sq bits k).1,(Cs.serAt sq bits k).2.1+(Cs.serAt sq bits k).2.2,(Cs.serAt sq bits k).2.2*sq / 2 ^ bits / kp):=by
     rw [aL,aU,aN,aQ];simp only [Cs.serAt];rw [if_neg (by omega)]
    clear bQ aN aQ aU bW aL hlt aS;have x0:=hk.cell 0;have x1:=hk.cell 1
    go_wp2_with fail
    refine (zaU A m c (Cs.serAt sq bits k).2.2 _ hp).mono ?_;rintro e w1 ⟨rfl,rfl⟩;rw [decide_eq_false (by have:=cV.out;omega)]
    go_wp2_with fail
    refine (zcJ A1 A m1 c1 m c _ _ _ h1 hp (by have h:=h1.len;have h2:=zcC (aJ k (by have:=aE.out;omega)).2.1 hM;omega) (by have h:=hp.len;have h2:=zcC (aJ k (by have:=aE.out;omega)).2.2 hM;omega)).mono ?_;rintro e w3 ⟨A3,m3,c3,rfl,bK,aG⟩;have bJ:=Ad hB aG;have aA:=hk.below aG hk.lt;have bG:=hp.later aG;have bS:=h0.later aG;have bR:=h1.later aG;have bM:=hs.later aG;clear x0 x1 hk hp h0 h1 hB hs;have x0:=aA.cell 0;have x1:=aA.cell 1;have y0:=aA.frozen 0;have y1:=aA.frozen 1;have bL:=bJ.setCell (p:=⟨g,1,none⟩) hg (.slice A3 m3 c3);have bP:=aA.set 1 (.slice A3 m3 c3);have aV:=bG.store (i:=1) aA (zaZ _ _ _ _ _ _) (.slice A3 m3 c3);have cC:=bS.store (i:=1) aA (zaZ _ _ _ _ _ _) (.slice A3 m3 c3);have cA:=bR.store (i:=1) aA (zaZ _ _ _ _ _ _) (.slice A3 m3 c3);have aP:=bK.store (i:=1) aA (zaZ _ _ _ _ _ _) (.slice A3 m3 c3);have aM:=bM.store (i:=1) aA (zaZ _ _ _ _ _ _) (.slice A3 m3 c3);have cO:(w3.setCell ⟨g,1,none⟩ (.slice A3 m3 c3)).heap.size=w3.heap.size:=by simp [World.setCell]
    clear bG bS bR bK bJ aA bM;go_upto_region 9 with (fail)
    generalize (w3.setCell ⟨g,1,none⟩ (.slice A3 m3 c3))=w4 at *;rw [←cO] at aV cC cA aP aM
    go_wp2_with fail
    refine (zaE A As m c ms cs _ _ w4 aV aM (by have h:=aV.len;have h2:=zcC (aJ k (by have:=aE.out;omega)).2.2 hM;omega) (by have h:=aM.len;omega)).mono ?_;rintro e w5 ⟨A5,m5,c5,rfl,aO,aC⟩
    go_wp2_with fail
    refine (zaY A5 m5 c5 _ bits w5 aO (by
     have h:=aO.len;have h2:=zaB (zcC (aJ k (by have:=aE.out;omega)).2.2 hM) cE;omega) (by omega)).mono ?_
    rintro e w6 ⟨aZ,aF⟩;obtain ⟨A6,m6,c6,rfl,aK,aF⟩:=aF.ret aZ
    go_wp2_with fail
    refine (zbl A6 m6 c6 _ kp w6 aK (by
     have h:=aK.len;have h2:=zaB (zcC (aJ k (by have:=aE.out;omega)).2.2 hM) cE;have h3:=zaa (Nat.div_le_self ((Cs.serAt sq bits k).2.2*sq) (2 ^ bits));omega) (by omega) (by omega)).mono ?_
    rintro e w7 ⟨m7,c7,rfl,cL,cR⟩;have cJ:=cL.nat;have aI:=(aC.trans (aF.mono aC.size)).trans (cR.mono (Nat.le_trans aC.size aF.size))
    go_wp2_with fail
    go_roundw
    case rel=>
     refine ⟨kk,_,m7,c7,A0,m0,c0,A3,m3,c3,by have:=aE.out;omega,rfl,rfl,?_,?_,?_,bP.below aI bP.lt,aM.later aI,bL.trans (aI.mono bL.size)⟩
     ·rw [aW];exact cJ
     ·rw [aW];exact cC.later aI
     ·rw [aW];exact aP.later aI
    case measure=>have:=aE.out;simp [intOf]<;>omega
  ·obtain rfl:k=mm:=by omega
   go_wp2_with fail
   refine (zaU A m c (Cs.serAt sq bits k).2.2 _ hp).mono ?_;rintro e w1 ⟨rfl,rfl⟩;rw [decide_eq_true hZ.out];have x0:=hk.cell 0;have x1:=hk.cell 1
   go_wp2_with fail
   refine (zdq A0 A1 m0 c0 m1 c1 _ _ _ h0 h1 dF.out (by have h:=h0.len;have h2:=zcC (aJ k (by omega)).1 hM;omega)).mono ?_;rintro e w2 ⟨A2,m2,c2,rfl,dP,dO⟩;go_wp2
   go_ret;exact ⟨A2,m2,c2,rfl,by rw [hV.out];exact dP,hB.trans (dO.mono hB.size)⟩
end Go.Proofs.YtmkondcdejlhcaaGreatDoor
