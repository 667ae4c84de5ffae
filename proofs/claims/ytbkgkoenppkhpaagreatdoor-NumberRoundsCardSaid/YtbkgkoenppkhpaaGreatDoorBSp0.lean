/- Spans of package number: a value that reads as two rational numbers; blocks of six cells; single. -/
import Derived.Test.YtbkgkoenppkhpaaGreatDoorBRat3
import Derived.Test.YtbkgkoenppkhpaaGreatDoorBRb24
set_option maxRecDepth 100000
set_option maxHeartbeats 8000000
namespace Go.Proofs.YtbkgkoenppkhpaaGreatDoor
open Go.RowKit Bn
def zdE (cs:Array Value):Prop:=∀ (i:Nat) (v:Value),cs[i]? = some v→∀ (k:IntKind) (d:Int),v ≠ .int k d
theorem zdE.set{cs:Array Value}(h:zdE cs)(i:Nat){u:Value}(hu:∀ (k:IntKind) (d:Int),u ≠ .int k d):zdE (cs.setIfInBounds i u):=by
 intro j v hv;rw[Array.getElem?_setIfInBounds] at hv
 split at hv
 ·split at hv
  ·injection hv with hv;subst hv;exact hu
  ·cases hv
 ·exact h j v hv
theorem NatS.store{w:World}{B n c x g i:Nat}{A:Option Addr}{cs:Array Value}{t:TypeId}(h:NatS w B A n c x)(hk:CBlk w g cs t)(hn:zdE cs)(u:Value):NatS (w.setCell ⟨g,i,none⟩ u) B A n c x:=by
 refine⟨⟨h.words.1,fun h0 => ?_⟩,h.nc,h.cm⟩;obtain⟨ad,e,hb,hc⟩:=h.words.2 h0;refine⟨ad,e,hb,fun j z hz => ?_⟩;have aA:=hc j z hz;have aC:∃ d:Nat,z = .int .u64 (d:Int):=by
  rw[List.getElem?_map] at hz
  cases hd:(digs x)[j]? with
  | none=>rw[hd] at hz;cases hz
  | some d=>rw[hd] at hz;injection hz with hz;exact⟨d,hz.symm⟩
 obtain⟨d,rfl⟩:=aC;rw[World.cell?_setCell_other _ _ _ _ (fun e0=>by
  rw[←e0,hk.cell i] at aA;exact hn i _ aA _ _ rfl)]
 exact aA
theorem CBlk.alloc{w:World}{g:Nat}{c:Array Value}{t:TypeId}(h:CBlk w g c t)(o:Obj):CBlk (w.alloc o) g c t:=h.below ((Below.refl _ _).alloc (Nat.le_refl _) o) h.lt
theorem CBlk.drew {w:World} {g:Nat} {c:Array Value} {t:TypeId} (h:CBlk w g c t):CBlk w.drew g c t:=h
theorem CBlk.set {w:World} {g:Nat} {c:Array Value} {t:TypeId} (h:CBlk w g c t) (i:Nat) (u:Value):CBlk (w.setCell ⟨g,i,none⟩ u) g (c.setIfInBounds i u) t:=heap_setCell_same w g i c t u h
def set6 (w:World) (g:Nat) (a b c d e f:Value):World:=
 (((((w.setCell ⟨g,0,none⟩ a).setCell ⟨g,1,none⟩ b).setCell ⟨g,2,none⟩ c).setCell ⟨g,3,none⟩ d).setCell ⟨g,4,none⟩ e).setCell ⟨g,5,none⟩ f
theorem zeQ (w:World) (g:Nat) (a b c d e f:Value):(set6 w g a b c d e f).heap.size=w.heap.size:=by simp[set6,World.setCell]
theorem zrh{a w:World}{B g:Nat}(h:Below B a w)(hg:B≤g)(u1 u2 u3 u4 u5 u6:Value):Below B a (set6 w g u1 u2 u3 u4 u5 u6):=
 (((((h.setCell (p:=⟨g,0,none⟩) hg _).setCell (p:=⟨g,1,none⟩) hg _).setCell (p:=⟨g,2,none⟩) hg _).setCell (p:=⟨g,3,none⟩) hg _).setCell (p:=⟨g,4,none⟩) hg _).setCell (p:=⟨g,5,none⟩) hg _
theorem zbc (b b':Bool) (A1 A2 A3 A4:Option Addr) (n1 c1 n2 c2 n3 c3 n4 c4:Nat):zdE #[.bool b,.slice A1 n1 c1,.slice A2 n2 c2,.bool b',.slice A3 n3 c3,.slice A4 n4 c4]:=by
 intro i v hv k d
 rcases (show i=0∨i=1∨i=2∨i=3∨i=4∨i=5∨6≤i from by omega) with rfl | rfl | rfl | rfl | rfl | rfl | h
 ·injection hv with hv;subst hv;intro h;cases h
 ·injection hv with hv;subst hv;intro h;cases h
 ·injection hv with hv;subst hv;intro h;cases h
 ·injection hv with hv;subst hv;intro h;cases h
 ·injection hv with hv;subst hv;intro h;cases h
 ·injection hv with hv;subst hv;intro h;cases h
 ·rw[Array.getElem?_eq_none h] at hv;cases hv
theorem zgJ(b:Bool)(A1 A2:Option Addr)(n1 c1 n2 c2:Nat):zdE #[.bool b,.slice A1 n1 c1,.slice A2 n2 c2]:=by
 intro i v hv k d
 rcases (show i=0∨i=1∨i=2∨3≤i from by omega) with rfl | rfl | rfl | h
 ·injection hv with hv;subst hv;intro h;cases h
 ·injection hv with hv;subst hv;intro h;cases h
 ·injection hv with hv;subst hv;intro h;cases h
 ·rw[Array.getElem?_eq_none h] at hv;cases hv
theorem NatS.set6{w:World}{B n c x g:Nat}{A:Option Addr}{b0 b0':Bool}{a1 a2 a3 a4:Option Addr}{m1 d1 m2 d2 m3 d3 m4 d4:Nat}{t:TypeId}(h:NatS w B A n c x)
 (hk:CBlk w g #[.bool b0,.slice a1 m1 d1,.slice a2 m2 d2,.bool b0',.slice a3 m3 d3,.slice a4 m4 d4] t)
 (b b':Bool)(A1 A2 A3 A4:Option Addr)(n1 c1 n2 c2 n3 c3 n4 c4:Nat) :
  NatS (set6 w g (.bool b) (.slice A1 n1 c1) (.slice A2 n2 c2) (.bool b') (.slice A3 n3 c3) (.slice A4 n4 c4)) B A n c x:=by
 unfold Go.Proofs.YtbkgkoenppkhpaaGreatDoor.set6;have k0:=hk;have k1:CBlk _ g #[.bool b,.slice a1 m1 d1,.slice a2 m2 d2,.bool b0',.slice a3 m3 d3,.slice a4 m4 d4] t:=k0.set 0 (.bool b);have k2:CBlk _ g #[.bool b,.slice A1 n1 c1,.slice a2 m2 d2,.bool b0',.slice a3 m3 d3,.slice a4 m4 d4] t:=k1.set 1 (.slice A1 n1 c1);have k3:CBlk _ g #[.bool b,.slice A1 n1 c1,.slice A2 n2 c2,.bool b0',.slice a3 m3 d3,.slice a4 m4 d4] t:=k2.set 2 (.slice A2 n2 c2);have k4:CBlk _ g #[.bool b,.slice A1 n1 c1,.slice A2 n2 c2,.bool b',.slice a3 m3 d3,.slice a4 m4 d4] t:=k3.set 3 (.bool b');have k5:CBlk _ g #[.bool b,.slice A1 n1 c1,.slice A2 n2 c2,.bool b',.slice A3 n3 c3,.slice a4 m4 d4] t:=k4.set 4 (.slice A3 n3 c3);exact(((((h.store k0 (zbc _ _ _ _ _ _ _ _ _ _ _ _ _ _) _).store k1 (zbc _ _ _ _ _ _ _ _ _ _ _ _ _ _) _).store k2 (zbc _ _ _ _ _ _ _ _ _ _ _ _ _ _) _).store k3 (zbc _ _ _ _ _ _ _ _ _ _ _ _ _ _) _).store k4 (zbc _ _ _ _ _ _ _ _ _ _ _ _ _ _) _).store k5 (zbc _ _ _ _ _ _ _ _ _ _ _ _ _ _) _
theorem CBlk.set6{w:World}{g:Nat}{u1 u2 u3 u4 u5 u6:Value}{t:TypeId}(hk:CBlk w g #[u1,u2,u3,u4,u5,u6] t)(v1 v2 v3 v4 v5 v6:Value):CBlk (set6 w g v1 v2 v3 v4 v5 v6) g #[v1,v2,v3,v4,v5,v6] t:=by
 unfold Go.Proofs.YtbkgkoenppkhpaaGreatDoor.set6;exact(((((hk.set 0 v1).set 1 v2).set 2 v3).set 3 v4).set 4 v5).set 5 v6
def ItvS (w:World) (B:Nat) (v:Value) (p q:Q):Prop:=
 ∃ A1 n1 c1 A2 n2 c2 A3 n3 c3 A4 n4 c4,v = .agg #[.bool p.neg,.slice A1 n1 c1,.slice A2 n2 c2,.bool q.neg,.slice A3 n3 c3,.slice A4 n4 c4]∧NatS w B A1 n1 c1 p.top∧NatS w B A2 n2 c2 p.bot∧NatS w B A3 n3 c3 q.top∧NatS w B A4 n4 c4 q.bot
theorem ItvS.later{w w':World}{v:Value}{p q:Q}(h:ItvS w w.heap.size v p q)(hb:Below w.heap.size w w'):ItvS w' w'.heap.size v p q:=by
 obtain⟨A1,n1,c1,A2,n2,c2,A3,n3,c3,A4,n4,c4,rfl,h1,h2,h3,h4⟩:=h;exact⟨A1,n1,c1,A2,n2,c2,A3,n3,c3,A4,n4,c4,rfl,h1.later hb,h2.later hb,h3.later hb,h4.later hb⟩
def zch (w:World) (p q:Q) (e:Ending) (w':World):Prop:=∃ v,e = .returned v∧ItvS w' w'.heap.size v p q∧Below w.heap.size w w'
def zc7:Q:=⟨false,0,0⟩
theorem zbX{w W:World}{B g:Nat}{p q:Q}{v:Value}{b0 b0':Bool}{a1 a2 a3 a4:Option Addr}{m1 d1 m2 d2 m3 d3 m4 d4:Nat}{t:TypeId}{A1 A2 A3 A4:Option Addr}{n1 c1 n2 c2 n3 c3 n4 c4:Nat}
 (hk:CBlk W g #[.bool b0,.slice a1 m1 d1,.slice a2 m2 d2,.bool b0',.slice a3 m3 d3,.slice a4 m4 d4] t)(hB:Below B w W)(hg:B≤g)
 (hv:v = .agg #[.bool p.neg,.slice A1 n1 c1,.slice A2 n2 c2,.bool q.neg,.slice A3 n3 c3,.slice A4 n4 c4])
 (h1:NatS W W.heap.size A1 n1 c1 p.top)(h2:NatS W W.heap.size A2 n2 c2 p.bot)(h3:NatS W W.heap.size A3 n3 c3 q.top)(h4:NatS W W.heap.size A4 n4 c4 q.bot) :
  ItvS (set6 W g (.bool p.neg) (.slice A1 n1 c1) (.slice A2 n2 c2) (.bool q.neg) (.slice A3 n3 c3) (.slice A4 n4 c4)) (set6 W g (.bool p.neg) (.slice A1 n1 c1) (.slice A2 n2 c2) (.bool q.neg) (.slice A3 n3 c3) (.slice A4 n4 c4)).heap.size v p q∧Below B w (set6 W g (.bool p.neg) (.slice A1 n1 c1) (.slice A2 n2 c2) (.bool q.neg) (.slice A3 n3 c3) (.slice A4 n4 c4)):=by
 refine⟨⟨A1,n1,c1,A2,n2,c2,A3,n3,c3,A4,n4,c4,hv,?_,?_,?_,?_⟩,zrh hB hg _ _ _ _ _ _⟩
 ·rw[zeQ];exact h1.set6 hk _ _ _ _ _ _ _ _ _ _ _ _ _ _
 ·rw[zeQ];exact h2.set6 hk _ _ _ _ _ _ _ _ _ _ _ _ _ _
 ·rw[zeQ];exact h3.set6 hk _ _ _ _ _ _ _ _ _ _ _ _ _ _
 ·rw[zeQ];exact h4.set6 hk _ _ _ _ _ _ _ _ _ _ _ _ _ _
theorem zlX(p:Q)(v:Value)(w:World)(hv:RatS w w.heap.size v p) :
  Calls Tryz.prog 131 #[v] w (zch w p p):=by
 obtain⟨A1,n1,c1,A2,n2,c2,rfl,h1,h2⟩:=hv;have aC:Below w.heap.size w (w.alloc (.cells #[.bool p.neg,.slice A1 n1 c1,.slice A2 n2 c2] 87)):=Ac;have aA:Below w.heap.size w ((w.alloc (.cells #[.bool p.neg,.slice A1 n1 c1,.slice A2 n2 c2] 87)).alloc (.cells #[.bool false,.slice none 0 0,.slice none 0 0,.bool false,.slice none 0 0,.slice none 0 0] 91)):=aC.alloc (by simp) _;have q0:CBlk ((w.alloc (.cells #[.bool p.neg,.slice A1 n1 c1,.slice A2 n2 c2] 87)).alloc (.cells #[.bool false,.slice none 0 0,.slice none 0 0,.bool false,.slice none 0 0,.slice none 0 0] 91)) w.heap.size #[.bool p.neg,.slice A1 n1 c1,.slice A2 n2 c2] 87:=(CBlk.new w _ _ _ rfl).below ((Below.refl _ _).alloc (Nat.le_refl _) _) (by simp);have q1:CBlk ((w.alloc (.cells #[.bool p.neg,.slice A1 n1 c1,.slice A2 n2 c2] 87)).alloc (.cells #[.bool false,.slice none 0 0,.slice none 0 0,.bool false,.slice none 0 0,.slice none 0 0] 91)) (w.heap.size+1) #[.bool false,.slice none 0 0,.slice none 0 0,.bool false,.slice none 0 0,.slice none 0 0] 91:=CBlk.new _ _ _ _ (by simp);go_enter Tryz.func131,Tryz.ntmps131
 go_upto_region 1 with(fail)
 generalize ((w.alloc (.cells #[.bool p.neg,.slice A1 n1 c1,.slice A2 n2 c2] 87)).alloc (.cells #[.bool false,.slice none 0 0,.slice none 0 0,.bool false,.slice none 0 0,.slice none 0 0] 91))=W at *;have x0:=q0.cell 0;have x1:=q0.cell 1;have x2:=q0.cell 2;have y0:=q1.cell 0;have y1:=q1.cell 1;have y2:=q1.cell 2;have y3:=q1.cell 3;have y4:=q1.cell 4;have y5:=q1.cell 5;have z0:=q1.frozen 0;have z1:=q1.frozen 1;have z2:=q1.frozen 2;have z3:=q1.frozen 3;have z4:=q1.frozen 4;have z5:=q1.frozen 5;have hI:=zbX (p:=p) (q:=p) q1 aA (by omega) rfl (h1.later aA) (h2.later aA) (h1.later aA) (h2.later aA);have hD:=q1.set6 (.bool p.neg) (.slice A1 n1 c1) (.slice A2 n2 c2) (.bool p.neg) (.slice A1 n1 c1) (.slice A2 n2 c2);unfold Go.Proofs.YtbkgkoenppkhpaaGreatDoor.set6 at hI hD;have r0:=hD.cell 0;have r1:=hD.cell 1;have r2:=hD.cell 2;have r3:=hD.cell 3;have r4:=hD.cell 4;have r5:=hD.cell 5;have HI:=Aa hI;clear hI hD aC aA h1 h2 q0 q1;go_wp2
 refine bodyPost_ret (v := .agg #[.bool p.neg,.slice A1 n1 c1,.slice A2 n2 c2,.bool p.neg,.slice A1 n1 c1,.slice A2 n2 c2]) (by simp[results,Tryz.results131,go_sem,y0,y1,y2,y3,y4,y5]) rfl ⟨_,rfl,HI.out⟩
theorem zmt{x K:Nat}(h:x<2^(64*K)):(digs x).length≤K:=by
 refine zab ?_;rw[show B=2^64 from rfl,←Nat.pow_mul];exact h
theorem zaW(A1 A2:Option Addr)(n1 c1 n2 c2:Nat):zdE #[.slice A1 n1 c1,.slice A2 n2 c2]:=by
 intro i v hv k d
 rcases (show i=0∨i=1∨2≤i from by omega) with rfl | rfl | h
 ·injection hv with hv;subst hv;intro h;cases h
 ·injection hv with hv;subst hv;intro h;cases h
 ·rw[Array.getElem?_eq_none h] at hv;cases hv
theorem zc5{n bits k:Nat}(hn:2≤n)(hb:bits≤1048576):(digs (Cs.tanAt n bits k).1).length≤1048576∧(digs (Cs.tanAt n bits k).2.1).length≤1048576∧(digs (Cs.tanAt n bits k).2.2).length≤1048576:=by
 have h:=Cs.tan_bound n bits hn k;obtain⟨N,hN⟩:∃ N,N=64*1048576:=⟨_,rfl⟩;have h2:2*2^bits<2^N:=by
  rw[show 2*2^bits=2^(bits+1) by rw[Nat.pow_succ,Nat.mul_comm]];exact Nat.pow_lt_pow_right (by omega) (by omega)
 generalize 2*2^bits=X at h h2;have h3:∀ x,x≤X→(digs x).length≤1048576:=fun x hx=>zmt (by rw[←hN];exact Nat.lt_of_le_of_lt hx h2)
 exact⟨h3 _ (by omega),h3 _ (by omega),h3 _ (by omega)⟩
theorem zrf{bits:Nat}(hb:bits≤1048576):(digs (2^bits)).length≤1048576:=by
 obtain⟨N,hN⟩:∃ N,N=64*1048576:=⟨_,rfl⟩;exact zmt (by rw[←hN];exact Nat.pow_lt_pow_right (by omega) (by omega))
theorem zex{z:Int}(h0:0≤z)(h1:z<18446744073709551616):IntKind.u64.wrap z=z:=by rw[zhP];omega
theorem zf8(n bits k0:Nat)(w:World)(hok:Cs.TanOk n bits k0)(hn:2≤n)(hn2:n<4294967296)(hb:bits≤1048576)(hk0:k0<4294967296) :
  Calls Tryz.prog 236 #[.int .u64 (n:Int),.int .i64 (bits:Int)] w (zcj w (Cs.tanVal n bits k0)):=by
 have hZ:=Aa hok.zero;have bN:=Aa hok.pos;have bZ:=Aa hok.le;have hV:Hid (Cs.tanVal n bits k0=(Cs.tanAt n bits k0).1-(Cs.tanAt n bits k0).2.1):=rfl;clear hok;obtain⟨nn,aS⟩:∃ nn,nn=n*n:=⟨_,rfl⟩;have bW:4≤nn:=by rw[aS];exact Nat.mul_le_mul hn hn
 have cA:nn<18446744073709551616:=by
  rw[aS];have:n*n<4294967296*4294967296:=Nat.mul_lt_mul'' hn2 hn2;omega
 have cC:IntKind.u64.wrap ((n:Int)*(n:Int))=(nn:Int):=by
  rw[zex (Int.mul_nonneg (by omega) (by omega)) (by rw[←Int.natCast_mul,←aS];omega),←Int.natCast_mul,←aS]
 have bS:=Aa aS;clear aS;go_enter Tryz.func236,Tryz.ntmps236
 go_wp2_with fail
 refine(zai 1 w (by omega) (by omega)).mono ?_;rintro e w1 ⟨A1,m1,c1,rfl,bM,bK⟩
 go_wp2_with fail
 refine(zaw A1 m1 c1 _ bits w1 bM (by rw[←bM.len];exact Nat.le_trans zbF (by omega)) (by omega)).mono ?_;rintro e w2 ⟨A2,m2,c2,rfl,aK,aC⟩;have aG:=Ad bK aC;rw[show Int.toNat 1*2^bits=2^bits by simp] at aK;have bV:m2≤1048576:=by
  rw[←aK.len];exact zrf hb
 go_wp2_with fail
 refine(zbb A2 m2 c2 _ n w2 aK (by omega) (by omega) (by omega)).mono ?_;rintro e w3 ⟨m3,c3,rfl,bO,aD⟩;have bQ:=bO.nat;have aI:=Ad aG aD;have bX:Below w.heap.size w (w3.alloc (.cells #[.slice none 0 0,.slice none 0 0] 237)):=aI.alloc aI.size _;have bT:CBlk (w3.alloc (.cells #[.slice none 0 0,.slice none 0 0] 237)) w3.heap.size #[.slice none 0 0,.slice none 0 0] 237:=CBlk.new _ _ _ _ rfl;have bY:=bQ.later ((Below.refl _ _).alloc (Nat.le_refl _) (.cells #[.slice none 0 0,.slice none 0 0] 237));obtain⟨g,bG⟩:∃ g,g=w3.heap.size:=⟨_,rfl⟩;have hg:w.heap.size≤g:=by rw[bG];exact aI.size
 rw[←bG] at bT;have HG:=Aa bG;clear bG aG aI bO bM aK bV bK aC aD bQ;go_upto_region 4 with(fail)
 rw[←HG.out];generalize (w3.alloc (.cells #[.slice none 0 0,.slice none 0 0] 237))=wa at *
 go_wp2_with fail
 go_loopw [5,8] (fun pv kv wr=>∃ (k:Nat) (A:Option Addr) (m c:Nat) (A0:Option Addr) (m0 c0:Nat) (A1:Option Addr) (m1 c1:Nat),k≤k0∧pv = .slice A m c∧kv = .int .u64 (k:Int)∧NatS wr wr.heap.size A m c (Cs.tanAt n bits k).2.2∧NatS wr wr.heap.size A0 m0 c0 (Cs.tanAt n bits k).1∧NatS wr wr.heap.size A1 m1 c1 (Cs.tanAt n bits k).2.1∧CBlk wr g #[.slice A0 m0 c0,.slice A1 m1 c1] 237∧Below w.heap.size w wr) (fun _ kv _=>k0-(intOf kv).toNat)
 case atStart=>exact⟨0,_,m3,c3,none,0,0,none,0,0,Nat.zero_le _,rfl,rfl,bY,NatS.nil _ _,NatS.nil _ _,bT,bX⟩
 case round=>
  obtain⟨k,A,m,c,A0,m0,c0,A1,m1,c1,cB,rfl,rfl,hp,h0,h1,hk,hB⟩:=hrel
  by_cases hlt:k<k0
  ·have bU:=Aa (bN.out k hlt)
   obtain⟨k2,aZ⟩:∃ k2,k2=2*k:=⟨_,rfl⟩;obtain⟨aF,aL⟩:∃ aF,aF=2*k+1:=⟨_,rfl⟩;obtain⟨kk,aH⟩:∃ kk,kk=k+1:=⟨_,rfl⟩;have f1:IntKind.u64.wrap (2*(k:Int))=(k2:Int):=by rw[zex (by omega) (by omega)];omega
   have f2:IntKind.u64.wrap ((k2:Int)+1)=(aF:Int):=by rw[zex (by omega) (by omega)];omega
   have f3:IntKind.u64.wrap ((k:Int)+1)=(kk:Int):=by rw[zex (by omega) (by omega)];omega
   have aV:0<aF∧aF<18446744073709551616:=by omega
   have bI:Hid (kk=k+1∧k<k0):=⟨aH,hlt⟩;obtain⟨bR,bP⟩:=aV
   rcases Nat.mod_two_eq_zero_or_one k with aM | aM
   ·have f4:Int.tmod (k:Int) 2=0:=by rw[Int.tmod_eq_emod_of_nonneg (by omega)];omega
    have aR:Cs.tanAt n bits kk=((Cs.tanAt n bits k).1+(Cs.tanAt n bits k).2.2/aF,(Cs.tanAt n bits k).2.1,(Cs.tanAt n bits k).2.2/nn):=by
     rw[aH];simp only[Cs.tanAt];rw[if_pos aM,aL,bS.out]
    clear aZ aL aH hlt aM
    go_wp2_with fail
    refine(zaR A m c (Cs.tanAt n bits k).2.2 _ hp).mono ?_;rintro e w1 ⟨rfl,rfl⟩;rw[decide_eq_false (by have:=bU.out;omega)]
    go_wp2_with fail
    refine(zbb A m c _ aF _ hp (by have h:=hp.len;have h2:=(zc5 (k:=k) hn hb).2.2;omega) (by omega) (by omega)).mono ?_;rintro e w2 ⟨m2,c2,rfl,aY,aC⟩;have aQ:=aY.nat;have aG:=Ad hB aC;have aE:=hk.below aC hk.lt;have bB:=hp.later aC;have aN:=h0.later aC;have aO:=h1.later aC;clear aY hk hp h0 h1;have x0:=aE.cell 0;have x1:=aE.cell 1
    go_wp2_with fail
    refine(zcw A0 _ m0 c0 _ _ _ _ _ aN aQ (by have h:=aN.len;have h2:=(zc5 (k:=k) hn hb).1;omega) (by
     have h:=aQ.len;have h2:=(zc5 (k:=k) hn hb).2.2;have h3:=zaa (Nat.div_le_self (Cs.tanAt n bits k).2.2 aF);omega)).mono ?_
    rintro e w3 ⟨A3,m3,c3,rfl,bA,aD⟩;have aI:=Ad aG aD;have aA:=aE.below aD aE.lt;have aW:=bB.later aD;have aX:=aN.later aD;have bE:=aO.later aD;clear x0 x1 aE bB aN aO aQ aG;have x0:=aA.cell 0;have x1:=aA.cell 1;have y0:=aA.frozen 0;have y1:=aA.frozen 1;have bD:=aI.setCell (p:=⟨g,0,none⟩) hg (.slice A3 m3 c3);have bC:=aA.set 0 (.slice A3 m3 c3);have aP:=aW.store (i:=0) aA (zaW _ _ _ _ _ _) (.slice A3 m3 c3);have bH:=aX.store (i:=0) aA (zaW _ _ _ _ _ _) (.slice A3 m3 c3);have bF:=bE.store (i:=0) aA (zaW _ _ _ _ _ _) (.slice A3 m3 c3);have aT:=bA.store (i:=0) aA (zaW _ _ _ _ _ _) (.slice A3 m3 c3);have aU:(w3.setCell ⟨g,0,none⟩ (.slice A3 m3 c3)).heap.size=w3.heap.size:=by simp[World.setCell]
    clear aW aX bE bA aI aA;go_upto_region 8 with(fail)
    generalize (w3.setCell ⟨g,0,none⟩ (.slice A3 m3 c3))=w4 at *;rw[←aU] at aP bH bF aT
    go_wp2_with fail
    refine(zbb A m c _ nn _ aP (by have h:=aP.len;have h2:=(zc5 (k:=k) hn hb).2.2;omega) (by omega) (by omega)).mono ?_;rintro e w5 ⟨m5,c5,rfl,bJ,aJ⟩;have bL:=bJ.nat
    go_wp2_with fail
    go_roundw
    case rel=>
     refine⟨kk,_,m5,c5,A3,m3,c3,A1,m1,c1,by have:=bI.out;omega,rfl,rfl,?_,?_,?_,bC.below aJ bC.lt,bD.trans (aJ.mono bD.size)⟩
     ·rw[aR,←aU];exact bL
     ·rw[aR];exact aT.later aJ
     ·rw[aR];exact bF.later aJ
    case measure=>have:=bI.out;simp[intOf]<;>omega
   ·have f4:Int.tmod (k:Int) 2=1:=by rw[Int.tmod_eq_emod_of_nonneg (by omega)];omega
    have aR:Cs.tanAt n bits kk=((Cs.tanAt n bits k).1,(Cs.tanAt n bits k).2.1+(Cs.tanAt n bits k).2.2/aF,(Cs.tanAt n bits k).2.2/nn):=by
     rw[aH];simp only[Cs.tanAt];rw[if_neg (by omega),aL,bS.out]
    clear aZ aL aH hlt aM
    go_wp2_with fail
    refine(zaR A m c (Cs.tanAt n bits k).2.2 _ hp).mono ?_;rintro e w1 ⟨rfl,rfl⟩;rw[decide_eq_false (by have:=bU.out;omega)]
    go_wp2_with fail
    refine(zbb A m c _ aF _ hp (by have h:=hp.len;have h2:=(zc5 (k:=k) hn hb).2.2;omega) (by omega) (by omega)).mono ?_;rintro e w2 ⟨m2,c2,rfl,aY,aC⟩;have aQ:=aY.nat;have aG:=Ad hB aC;have aE:=hk.below aC hk.lt;have bB:=hp.later aC;have aN:=h0.later aC;have aO:=h1.later aC;clear aY hk hp h0 h1;have x0:=aE.cell 0;have x1:=aE.cell 1
    go_wp2_with fail
    refine(zcw A1 _ m1 c1 _ _ _ _ _ aO aQ (by have h:=aO.len;have h2:=(zc5 (k:=k) hn hb).2.1;omega) (by
     have h:=aQ.len;have h2:=(zc5 (k:=k) hn hb).2.2;have h3:=zaa (Nat.div_le_self (Cs.tanAt n bits k).2.2 aF);omega)).mono ?_
    rintro e w3 ⟨A3,m3,c3,rfl,bA,aD⟩;have aI:=Ad aG aD;have aA:=aE.below aD aE.lt;have aW:=bB.later aD;have aX:=aN.later aD;have bE:=aO.later aD;clear x0 x1 aE bB aN aO aQ aG;have x0:=aA.cell 0;have x1:=aA.cell 1;have y0:=aA.frozen 0;have y1:=aA.frozen 1;have bD:=aI.setCell (p:=⟨g,1,none⟩) hg (.slice A3 m3 c3);have bC:=aA.set 1 (.slice A3 m3 c3);have aP:=aW.store (i:=1) aA (zaW _ _ _ _ _ _) (.slice A3 m3 c3);have bH:=aX.store (i:=1) aA (zaW _ _ _ _ _ _) (.slice A3 m3 c3);have bF:=bE.store (i:=1) aA (zaW _ _ _ _ _ _) (.slice A3 m3 c3);have aT:=bA.store (i:=1) aA (zaW _ _ _ _ _ _) (.slice A3 m3 c3);have aU:(w3.setCell ⟨g,1,none⟩ (.slice A3 m3 c3)).heap.size=w3.heap.size:=by simp[World.setCell]
    clear aW aX bE bA aI aA;go_upto_region 8 with(fail)
    generalize (w3.setCell ⟨g,1,none⟩ (.slice A3 m3 c3))=w4 at *;rw[←aU] at aP bH bF aT
    go_wp2_with fail
    refine(zbb A m c _ nn _ aP (by have h:=aP.len;have h2:=(zc5 (k:=k) hn hb).2.2;omega) (by omega) (by omega)).mono ?_;rintro e w5 ⟨m5,c5,rfl,bJ,aJ⟩;have bL:=bJ.nat
    go_wp2_with fail
    go_roundw
    case rel=>
     refine⟨kk,_,m5,c5,A0,m0,c0,A3,m3,c3,by have:=bI.out;omega,rfl,rfl,?_,?_,?_,bC.below aJ bC.lt,bD.trans (aJ.mono bD.size)⟩
     ·rw[aR,←aU];exact bL
     ·rw[aR];exact bH.later aJ
     ·rw[aR];exact aT.later aJ
    case measure=>have:=bI.out;simp[intOf]<;>omega
  ·obtain rfl:k=k0:=by omega
   go_wp2_with fail
   refine(zaR A m c (Cs.tanAt n bits k).2.2 _ hp).mono ?_;rintro e w1 ⟨rfl,rfl⟩;rw[decide_eq_true hZ.out];have x0:=hk.cell 0;have x1:=hk.cell 1
   go_wp2_with fail
   refine(zdd A0 A1 m0 c0 m1 c1 _ _ _ h0 h1 bZ.out (by have h:=h0.len;have h2:=(zc5 (k:=k) hn hb).1;omega)).mono ?_;rintro e w2 ⟨A2,m2,c2,rfl,hn2,aC⟩;go_wp2
   go_ret;exact⟨A2,m2,c2,rfl,by rw[hV.out];exact hn2,hB.trans (aC.mono hB.size)⟩
theorem zfv{n bits k:Nat}(hn:2≤n)(hb:bits≤1048576):(digs (Cs.tanVal n bits k)).length≤1048576:=
 Nat.le_trans (zaa (Nat.sub_le _ _)) (zc5 (k:=k) hn hb).1
theorem zlt (bits k l:Nat) (w:World) (h5:Cs.TanOk 5 bits k) (h239:Cs.TanOk 239 bits l) (hc:Cs.tanVal 239 bits l*8≤Cs.tanVal 5 bits k*32) (hb:bits≤1048576) (hk:k<4294967296) (hl:l<4294967296) :
  Calls Tryz.prog 223 #[.int .i64 (bits:Int)] w (zcj w (Cs.circleOf bits k l)):=by
 have H5:=Aa (zf8 5 bits k w h5 (by omega) (by omega) hb hk);have H9:=Aa (fun W=>zf8 239 bits l W h239 (by omega) (by omega) hb hl);have l5:=zfv (n:=5) (k:=k) (by omega) hb;have l9:=zfv (n:=239) (k:=l) (by omega) hb;have HV:Hid (Cs.circleOf bits k l=Cs.tanVal 5 bits k*32-Cs.tanVal 239 bits l*8):=rfl;clear h5 h239;generalize Cs.tanVal 5 bits k=x at *;generalize Cs.tanVal 239 bits l=y at *;generalize Cs.circleOf bits k l=z at *;have aX:(digs 32).length≤1:=zab (by decide);have e8:(digs 8).length≤1:=zab (by decide);go_enter Tryz.func223,Tryz.ntmps223
 go_wp2_with fail
 refine H5.out.mono ?_;rintro e w1 ⟨A1,m1,c1,rfl,aW,aL⟩
 go_wp2_with fail
 refine(H9.out w1).mono ?_;rintro e w2 ⟨A2,m2,c2,rfl,aV,aT⟩;have aO:=Ad aL aT;have aD:=aW.later aT;clear aW aL aT
 go_wp2_with fail
 refine(zai 32 w2 (by omega) (by omega)).mono ?_;rintro e w3 ⟨A3,m3,c3,rfl,aM,aJ⟩;have aR:=Ad aO aJ;have aA:=aD.later aJ;have aG:=aV.later aJ;clear aD aV aO aJ
 go_wp2_with fail
 refine(zaJ A1 A3 m1 c1 m3 c3 x 32 w3 aA aM (by have:=aA.len;omega) (by have h:=aM.len;have h2:(digs (Int.toNat 32)).length≤1:=aX;omega)).mono ?_;rintro e w4 ⟨A4,m4,c4,rfl,aU,aK⟩;have aP:=Ad aR aK;have aE:=aG.later aK;clear aA aM aG aR aK
 go_wp2_with fail
 refine(zai 8 w4 (by omega) (by omega)).mono ?_;rintro e w5 ⟨A5,m5,c5,rfl,aQ,aI⟩;have aS:=Ad aP aI;have aF:=aU.later aI;have aC:=aE.later aI;clear aU aE aP aI
 go_wp2_with fail
 refine(zaJ A2 A5 m2 c2 m5 c5 y 8 w5 aC aQ (by have:=aC.len;omega) (by have h:=aQ.len;have h2:(digs (Int.toNat 8)).length≤1:=e8;omega)).mono ?_;rintro e w6 ⟨A6,m6,c6,rfl,bB,aN⟩;have aY:=Ad aS aN;have aH:=aF.later aN;clear aF aC aQ aS aN
 go_wp2_with fail
 refine(zdd A4 A6 m4 c4 m6 c6 _ _ w6 aH bB hc (by have:=aH.len;have:=zaD l5 aX;omega)).mono ?_;rintro e w7 ⟨A7,m7,c7,rfl,bA,aZ⟩;go_wp2
 go_ret;exact⟨A7,m7,c7,rfl,by rw[HV.out];exact bA,aY.trans (aZ.mono aY.size)⟩
theorem zcp{x M:Nat}(h:x<2^M)(hM:M≤1048576):(digs x).length≤1048576:=by
 obtain⟨N,hN⟩:∃ N,N=64*1048576:=⟨_,rfl⟩;exact zmt (by rw[←hN];exact Nat.lt_of_lt_of_le h (Nat.pow_le_pow_right (by omega) (by omega)))
theorem zlF(neg:Bool)(top bot bits k l mm M:Nat)(At Ab:Option Addr)(nt ct nb cb:Nat)(w:World)(h5:Cs.TanOk 5 bits k)(h239:Cs.TanOk 239 bits l)(hc:Cs.tanVal 239 bits l*8≤Cs.tanVal 5 bits k*32)
 (hok:Cs.SerOk (Cs.sqOf (Cs.circleOf bits k l) top bot bits) bits mm M)(hM:M≤1048576)(hb:bits≤1048576)(hk0:k<4294967296)(hl0:l<4294967296)(hmm:mm<1073741824)
 (ht:NatS w w.heap.size At nt ct top)(hbo:NatS w w.heap.size Ab nb cb bot)(hbot:0<bot)(hnt:nt≤1048576) :
  Calls Tryz.prog 208 #[.agg #[.bool neg,.slice At nt ct,.slice Ab nb cb],.int .i64 (bits:Int)] w (zcj w (Cs.serVal (Cs.sqOf (Cs.circleOf bits k l) top bot bits) bits mm)):=by
 have cP:(digs (Cs.circleOf bits k l)).length≤1048578:=by
  have h:=zaD (zfv (n:=5) (k:=k) (by omega) hb) (show(digs 32).length≤1 from zab (by decide));exact Nat.le_trans (Nat.le_trans (zaa (Nat.sub_le _ _)) h) (by omega)
 have cQ:=ht.len;have cO:=zaD cP (Nat.le_of_eq cQ);have HC:=Aa (fun W=>zlt bits k l W h5 h239 hc hb hk0 hl0);have cB:Hid (Cs.sqOf (Cs.circleOf bits k l) top bot bits=Cs.circleOf bits k l*top/bot*(Cs.circleOf bits k l*top/bot)/2^bits):=rfl;clear h5 h239 hc;generalize Cs.circleOf bits k l=ci at *;obtain⟨sq,bV⟩:∃ sq,sq=Cs.sqOf ci top bot bits:=⟨_,rfl⟩;rw[←bV] at hok cB ⊢;have aQ:(digs (ci*top/bot)).length≤1048578+nt:=Nat.le_trans (zaa (Nat.div_le_self _ _)) cO;have bX:(digs sq).length≤1048578+nt+(1048578+nt):=by
  rw[cB.out];exact Nat.le_trans (zaa (Nat.div_le_self _ _)) (zaD aQ aQ)
 have hZ:=Aa hok.zero;have cM:=Aa hok.pos;have cV:=Aa hok.le;have bO:=hok.bound;have aL:∀ j,j≤mm→_:=fun j hj=>bO j (by omega)
 have hV:Hid (Cs.serVal sq bits mm=(Cs.serAt sq bits mm).1-(Cs.serAt sq bits mm).2.1):=rfl;clear hok bV bO cQ;have dB:Below w.heap.size w (w.alloc (.cells #[.bool neg,.slice At nt ct,.slice Ab nb cb] 87)):=Ac;have q0:CBlk (w.alloc (.cells #[.bool neg,.slice At nt ct,.slice Ab nb cb] 87)) w.heap.size #[.bool neg,.slice At nt ct,.slice Ab nb cb] 87:=CBlk.new w _ _ _ rfl;go_enter Tryz.func208,Tryz.ntmps208
 go_wp2_with fail
 generalize (w.alloc (.cells #[.bool neg,.slice At nt ct,.slice Ab nb cb] 87))=w3 at *;have a1:=q0.cell 1;have a2:=q0.cell 2;have al:=q0.lt;have aD:Below w.heap.size w w3.drew:=dB.drew
 go_region_held3 (fun w'=>w'.cell? ⟨w.heap.size,1,none⟩=some (.slice At nt ct)∧w'.cell? ⟨w.heap.size,2,none⟩=some (.slice Ab nb cb))
  (first | exact⟨a1,a2⟩ | exact⟨(aG.cell (p:=⟨w.heap.size,1,none⟩) al).trans a1,(aG.cell (p:=⟨w.heap.size,2,none⟩) al).trans a2⟩ | exact⟨(aC.cell (p:=⟨w.heap.size,1,none⟩) bD).trans ((aG.cell (p:=⟨w.heap.size,1,none⟩) al).trans a1),(aC.cell (p:=⟨w.heap.size,2,none⟩) bD).trans ((aG.cell (p:=⟨w.heap.size,2,none⟩) al).trans a2)⟩ | exact⟨(aF.cell (p:=⟨w.heap.size,1,none⟩) cI).trans ((aC.cell (p:=⟨w.heap.size,1,none⟩) bD).trans ((aG.cell (p:=⟨w.heap.size,1,none⟩) al).trans a1)),(aF.cell (p:=⟨w.heap.size,2,none⟩) cI).trans ((aC.cell (p:=⟨w.heap.size,2,none⟩) bD).trans ((aG.cell (p:=⟨w.heap.size,2,none⟩) al).trans a2))⟩)
  (first
   |(go_at_call 223;refine(HC.out w3.drew).mono ?_;rintro e w4 ⟨A4,m4,c4,rfl,aP,aG⟩;have bD:=Nat.lt_of_lt_of_le al aG.size)
   |(go_at_call 90;refine(zaJ A4 At m4 c4 nt ct ci top w4 aP ((ht.later aD).later aG) (by have:=aP.len;omega) (by omega)).mono ?_;rintro e w5 ⟨A5,m5,c5,rfl,aS,aC⟩;have cI:=Nat.lt_of_lt_of_le bD aC.size)
   |(go_at_call 132;refine(zcU A5 Ab m5 c5 nb cb (ci*top) bot w5 aS (((hbo.later aD).later aG).later aC) hbot (by have:=aS.len;omega)).mono ?_;rintro e w6 ⟨A6,m6,c6,A7,m7,c7,rfl,aJ,dA,aF⟩))
 have cN:Below w.heap.size w w6:=((aD.trans (aG.mono aD.size)).trans (aC.mono (Nat.le_trans aD.size aG.size))).trans (aF.mono (Nat.le_trans aD.size (Nat.le_trans aG.size aC.size)));clear aD aG aC aF aP aS dA q0 a1 a2 al ht hbo HC cP cO
 try clear bD cI
 go_wp2_with fail
 refine(zaJ A6 A6 m6 c6 m6 c6 _ _ w6 aJ aJ (by have:=aJ.len;omega) (by have:=aJ.len;omega)).mono ?_;rintro e w8 ⟨A8,m8,c8,rfl,cE,cS⟩;have cF:=Ad cN cS
 go_wp2_with fail
 refine(zaV A8 m8 c8 _ bits w8 cE (by have:=cE.len;have:=zaD aQ aQ;omega) (by omega)).mono ?_;rintro e w9 ⟨bJ,bY⟩;obtain⟨As,ms,cs,rfl,cH,bY⟩:=bY.ret bJ;rw[←cB.out] at cH;have cK:=Ad cF bY;clear cS bY bJ cN cF aJ cE
 go_wp2_with fail
 refine(zai 1 w9 (by omega) (by omega)).mono ?_;rintro e cY ⟨dL,dI,cW,rfl,bC,aZ⟩;have bN:=cH.later aZ;have bA:=Ad cK aZ
 go_wp2_with fail
 refine(zaw dL dI cW _ bits cY bC (by rw[←bC.len];exact Nat.le_trans zbF (by omega)) (by omega)).mono ?_;rintro e bU ⟨dC,dD,cU,rfl,aV,bB⟩;have bG:=bN.later bB;have aR:=Ad bA bB;rw[show Int.toNat 1*2^bits=2^bits by simp] at aV;have dJ:Below w.heap.size w (bU.alloc (.cells #[.slice none 0 0,.slice none 0 0] 237)):=aR.alloc aR.size _;have cT:CBlk (bU.alloc (.cells #[.slice none 0 0,.slice none 0 0] 237)) bU.heap.size #[.slice none 0 0,.slice none 0 0] 237:=CBlk.new _ _ _ _ rfl;have dH:=aV.later ((Below.refl _ _).alloc (Nat.le_refl _) (.cells #[.slice none 0 0,.slice none 0 0] 237));have dF:=bG.later ((Below.refl _ _).alloc (Nat.le_refl _) (.cells #[.slice none 0 0,.slice none 0 0] 237));obtain⟨g,bW⟩:∃ g,g=bU.heap.size:=⟨_,rfl⟩;have hg:w.heap.size≤g:=by rw[bW];exact aR.size
 rw[←bW] at cT;have HG:=Aa bW;clear bW cK bA aR cH bN bG bC aV aZ bB;go_upto_region 6 with(fail)
 rw[←HG.out];generalize (bU.alloc (.cells #[.slice none 0 0,.slice none 0 0] 237))=wa at *
 go_wp2_with fail
 go_loopw [8,10] (fun pv kv wr=>∃ (k:Nat) (A:Option Addr) (m c:Nat) (A0:Option Addr) (m0 c0:Nat) (A1:Option Addr) (m1 c1:Nat),k≤mm∧pv = .slice A m c∧kv = .int .u64 (k:Int)∧NatS wr wr.heap.size A m c (Cs.serAt sq bits k).2.2∧NatS wr wr.heap.size A0 m0 c0 (Cs.serAt sq bits k).1∧NatS wr wr.heap.size A1 m1 c1 (Cs.serAt sq bits k).2.1∧CBlk wr g #[.slice A0 m0 c0,.slice A1 m1 c1] 237∧NatS wr wr.heap.size As ms cs sq∧Below w.heap.size w wr) (fun _ kv _=>mm-(intOf kv).toNat)
 case atStart=>exact⟨0,dC,dD,cU,none,0,0,none,0,0,Nat.zero_le _,rfl,rfl,dH,NatS.nil _ _,NatS.nil _ _,cT,dF,dJ⟩
 case round=>
  obtain⟨k,A,m,c,A0,m0,c0,A1,m1,c1,dN,rfl,rfl,hp,h0,h1,hk,hs,hB⟩:=hrel
  by_cases hlt:k<mm
  ·have cR:=Aa (cM.out k hlt)
   obtain⟨k2,bR⟩:∃ k2,k2=2*k:=⟨_,rfl⟩;obtain⟨bT,aO⟩:∃ bT,bT=2*k+1:=⟨_,rfl⟩;obtain⟨bL,aM⟩:∃ bL,bL=2*k+2:=⟨_,rfl⟩;obtain⟨kp,aU⟩:∃ kp,kp=bT*bL:=⟨_,rfl⟩;obtain⟨kk,aI⟩:∃ kk,kk=k+1:=⟨_,rfl⟩;have f1:IntKind.u64.wrap (2*(k:Int))=(k2:Int):=by rw[zex (by omega) (by omega)];omega
   have f2:IntKind.u64.wrap ((k2:Int)+1)=(bT:Int):=by rw[zex (by omega) (by omega)];omega
   have dO:IntKind.u64.wrap ((k2:Int)+2)=(bL:Int):=by rw[zex (by omega) (by omega)];omega
   have f3:IntKind.u64.wrap ((k:Int)+1)=(kk:Int):=by rw[zex (by omega) (by omega)];omega
   have bM:kp<4294967296*4294967296:=by rw[aU];exact Nat.mul_lt_mul'' (by omega) (by omega)
   have cZ:0<kp:=by rw[aU];exact Nat.mul_pos (by omega) (by omega)
   have f5:IntKind.u64.wrap ((bT:Int)*(bL:Int))=(kp:Int):=by
    rw[zex (Int.mul_nonneg (by omega) (by omega)) (by rw[←Int.natCast_mul,←aU];omega),←Int.natCast_mul,←aU]
   have dK:kp<18446744073709551616:=by omega
   have aE:Hid (kk=k+1∧k<mm):=⟨aI,hlt⟩
   rcases Nat.mod_two_eq_zero_or_one k with aT | aT
   ·have f4:Int.tmod (k:Int) 2=0:=by rw[Int.tmod_eq_emod_of_nonneg (by omega)];omega
    have aY:Cs.serAt sq bits kk=((Cs.serAt sq bits k).1+(Cs.serAt sq bits k).2.2,(Cs.serAt sq bits k).2.1,(Cs.serAt sq bits k).2.2*sq/2^bits/kp):=by
     rw[aI,aU,aO,aM];simp only[Cs.serAt];rw[if_pos aT]
    clear bR aO aM aU bM aI hlt aT;have x0:=hk.cell 0;have x1:=hk.cell 1
    go_wp2_with fail
    refine(zaR A m c (Cs.serAt sq bits k).2.2 _ hp).mono ?_;rintro e w1 ⟨rfl,rfl⟩;rw[decide_eq_false (by have:=cR.out;omega)]
    go_wp2_with fail
    refine(zcw A0 A m0 c0 m c _ _ _ h0 hp (by have h:=h0.len;have h2:=zcp (aL k (by have:=aE.out;omega)).1 hM;omega) (by have h:=hp.len;have h2:=zcp (aL k (by have:=aE.out;omega)).2.2 hM;omega)).mono ?_;rintro e w3 ⟨A3,m3,c3,rfl,bS,aH⟩;have bK:=Ad hB aH;have aA:=hk.below aH hk.lt;have bQ:=hp.later aH;have bI:=h0.later aH;have bP:=h1.later aH;have bH:=hs.later aH;clear x0 x1 hk hp h0 h1 hB hs;have x0:=aA.cell 0;have x1:=aA.cell 1;have y0:=aA.frozen 0;have y1:=aA.frozen 1;have bF:=bK.setCell (p:=⟨g,0,none⟩) hg (.slice A3 m3 c3);have bE:=aA.set 0 (.slice A3 m3 c3);have aW:=bQ.store (i:=0) aA (zaW _ _ _ _ _ _) (.slice A3 m3 c3);have cA:=bI.store (i:=0) aA (zaW _ _ _ _ _ _) (.slice A3 m3 c3);have bZ:=bP.store (i:=0) aA (zaW _ _ _ _ _ _) (.slice A3 m3 c3);have aP:=bS.store (i:=0) aA (zaW _ _ _ _ _ _) (.slice A3 m3 c3);have aN:=bH.store (i:=0) aA (zaW _ _ _ _ _ _) (.slice A3 m3 c3);have cC:(w3.setCell ⟨g,0,none⟩ (.slice A3 m3 c3)).heap.size=w3.heap.size:=by simp[World.setCell]
    clear bQ bI bP bS bK aA bH;go_upto_region 9 with(fail)
    generalize (w3.setCell ⟨g,0,none⟩ (.slice A3 m3 c3))=w4 at *;rw[←cC] at aW cA bZ aP aN
    go_wp2_with fail
    refine(zaJ A As m c ms cs _ _ w4 aW aN (by have h:=aW.len;have h2:=zcp (aL k (by have:=aE.out;omega)).2.2 hM;omega) (by have h:=aN.len;omega)).mono ?_;rintro e w5 ⟨A5,m5,c5,rfl,aS,aC⟩
    go_wp2_with fail
    refine(zaV A5 m5 c5 _ bits w5 aS (by
     have h:=aS.len;have h2:=zaD (zcp (aL k (by have:=aE.out;omega)).2.2 hM) bX;omega) (by omega)).mono ?_
    rintro e w6 ⟨aX,aF⟩;obtain⟨A6,m6,c6,rfl,aJ,aF⟩:=aF.ret aX
    go_wp2_with fail
    refine(zbb A6 m6 c6 _ kp w6 aJ (by
     have h:=aJ.len;have h2:=zaD (zcp (aL k (by have:=aE.out;omega)).2.2 hM) bX;have h3:=zaa (Nat.div_le_self ((Cs.serAt sq bits k).2.2*sq) (2^bits));omega) (by omega) (by omega)).mono ?_
    rintro e w7 ⟨m7,c7,rfl,cL,cJ⟩;have cG:=cL.nat;have aK:=(aC.trans (aF.mono aC.size)).trans (cJ.mono (Nat.le_trans aC.size aF.size))
    go_wp2_with fail
    go_roundw
    case rel=>
     refine⟨kk,_,m7,c7,A3,m3,c3,A1,m1,c1,by have:=aE.out;omega,rfl,rfl,?_,?_,?_,bE.below aK bE.lt,aN.later aK,bF.trans (aK.mono bF.size)⟩
     ·rw[aY];exact cG
     ·rw[aY];exact aP.later aK
     ·rw[aY];exact bZ.later aK
    case measure=>have:=aE.out;simp[intOf]<;>omega
   ·have f4:Int.tmod (k:Int) 2=1:=by rw[Int.tmod_eq_emod_of_nonneg (by omega)];omega
    have aY:Cs.serAt sq bits kk=((Cs.serAt sq bits k).1,(Cs.serAt sq bits k).2.1+(Cs.serAt sq bits k).2.2,(Cs.serAt sq bits k).2.2*sq/2^bits/kp):=by
     rw[aI,aU,aO,aM];simp only[Cs.serAt];rw[if_neg (by omega)]
    clear bR aO aM aU bM aI hlt aT;have x0:=hk.cell 0;have x1:=hk.cell 1
    go_wp2_with fail
    refine(zaR A m c (Cs.serAt sq bits k).2.2 _ hp).mono ?_;rintro e w1 ⟨rfl,rfl⟩;rw[decide_eq_false (by have:=cR.out;omega)]
    go_wp2_with fail
    refine(zcw A1 A m1 c1 m c _ _ _ h1 hp (by have h:=h1.len;have h2:=zcp (aL k (by have:=aE.out;omega)).2.1 hM;omega) (by have h:=hp.len;have h2:=zcp (aL k (by have:=aE.out;omega)).2.2 hM;omega)).mono ?_;rintro e w3 ⟨A3,m3,c3,rfl,bS,aH⟩;have bK:=Ad hB aH;have aA:=hk.below aH hk.lt;have bQ:=hp.later aH;have bI:=h0.later aH;have bP:=h1.later aH;have bH:=hs.later aH;clear x0 x1 hk hp h0 h1 hB hs;have x0:=aA.cell 0;have x1:=aA.cell 1;have y0:=aA.frozen 0;have y1:=aA.frozen 1;have bF:=bK.setCell (p:=⟨g,1,none⟩) hg (.slice A3 m3 c3);have bE:=aA.set 1 (.slice A3 m3 c3);have aW:=bQ.store (i:=1) aA (zaW _ _ _ _ _ _) (.slice A3 m3 c3);have cA:=bI.store (i:=1) aA (zaW _ _ _ _ _ _) (.slice A3 m3 c3);have bZ:=bP.store (i:=1) aA (zaW _ _ _ _ _ _) (.slice A3 m3 c3);have aP:=bS.store (i:=1) aA (zaW _ _ _ _ _ _) (.slice A3 m3 c3);have aN:=bH.store (i:=1) aA (zaW _ _ _ _ _ _) (.slice A3 m3 c3);have cC:(w3.setCell ⟨g,1,none⟩ (.slice A3 m3 c3)).heap.size=w3.heap.size:=by simp[World.setCell]
    clear bQ bI bP bS bK aA bH;go_upto_region 9 with(fail)
    generalize (w3.setCell ⟨g,1,none⟩ (.slice A3 m3 c3))=w4 at *;rw[←cC] at aW cA bZ aP aN
    go_wp2_with fail
    refine(zaJ A As m c ms cs _ _ w4 aW aN (by have h:=aW.len;have h2:=zcp (aL k (by have:=aE.out;omega)).2.2 hM;omega) (by have h:=aN.len;omega)).mono ?_;rintro e w5 ⟨A5,m5,c5,rfl,aS,aC⟩
    go_wp2_with fail
    refine(zaV A5 m5 c5 _ bits w5 aS (by
     have h:=aS.len;have h2:=zaD (zcp (aL k (by have:=aE.out;omega)).2.2 hM) bX;omega) (by omega)).mono ?_
    rintro e w6 ⟨aX,aF⟩;obtain⟨A6,m6,c6,rfl,aJ,aF⟩:=aF.ret aX
    go_wp2_with fail
    refine(zbb A6 m6 c6 _ kp w6 aJ (by
     have h:=aJ.len;have h2:=zaD (zcp (aL k (by have:=aE.out;omega)).2.2 hM) bX;have h3:=zaa (Nat.div_le_self ((Cs.serAt sq bits k).2.2*sq) (2^bits));omega) (by omega) (by omega)).mono ?_
    rintro e w7 ⟨m7,c7,rfl,cL,cJ⟩;have cG:=cL.nat;have aK:=(aC.trans (aF.mono aC.size)).trans (cJ.mono (Nat.le_trans aC.size aF.size))
    go_wp2_with fail
    go_roundw
    case rel=>
     refine⟨kk,_,m7,c7,A0,m0,c0,A3,m3,c3,by have:=aE.out;omega,rfl,rfl,?_,?_,?_,bE.below aK bE.lt,aN.later aK,bF.trans (aK.mono bF.size)⟩
     ·rw[aY];exact cG
     ·rw[aY];exact cA.later aK
     ·rw[aY];exact aP.later aK
    case measure=>have:=aE.out;simp[intOf]<;>omega
  ·obtain rfl:k=mm:=by omega
   go_wp2_with fail
   refine(zaR A m c (Cs.serAt sq bits k).2.2 _ hp).mono ?_;rintro e w1 ⟨rfl,rfl⟩;rw[decide_eq_true hZ.out];have x0:=hk.cell 0;have x1:=hk.cell 1
   go_wp2_with fail
   refine(zdd A0 A1 m0 c0 m1 c1 _ _ _ h0 h1 cV.out (by have h:=h0.len;have h2:=zcp (aL k (by omega)).1 hM;omega)).mono ?_;rintro e w2 ⟨A2,m2,c2,rfl,dG,dM⟩;go_wp2
   go_ret;exact⟨A2,m2,c2,rfl,by rw[hV.out];exact dG,hB.trans (dM.mono hB.size)⟩
end Go.Proofs.YtbkgkoenppkhpaaGreatDoor
