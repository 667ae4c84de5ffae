/- Plain: numbers in lowest terms by their values; the value of an edge of a converter is the reference's. No program. -/
import Derived.Test.YtmkihdjolnlccaaGreatDoorQRb30
import Derived.Test.YtmkihdjolnlccaaGreatDoorQPr2
import Derived.Test.YtmkihdjolnlccaaGreatDoorQPr4
import Derived.Test.YtmkihdjolnlccaaGreatDoorQTrn
import Derived.Test.YtmkihdjolnlccaaGreatDoorQRb24
import Derived.Laws.StructEq
import Derived.Deep.RegionHeld3
namespace Go.Proofs.YtmkihdjolnlccaaGreatDoor
open Go.RowKit Bn
open Flt
def Val (p:Q) (num:Int) (den:Nat):Prop:=sI p*(den:Int)=num*(p.bot:Int)∧0<den∧0<p.bot
theorem Val.frac {num:Int} {den:Nat} (h:0<den):Val (zb4 num den) num den:=⟨znz h,h,(zbf num h).1⟩
theorem Val.trans {p:Q} {a b:Int} {x y:Nat} (h:Val p a x) (hy:0<y) (e:a*(y:Int)=b*(x:Int)):Val p b y:=by
 obtain ⟨h1,h2,h3⟩:=h
 refine ⟨?_,hy,h3⟩
 have hx:(x:Int)≠0:=by omega
 apply Int.eq_of_mul_eq_mul_right hx
 grind
theorem Val.eq {p q:Q} {a b:Int} {x y:Nat} (h:Val p a x) (h':Val q b y) (hp:LowQ p) (hq:LowQ q) (e:a*(y:Int)=b*(x:Int)):p=q:=by
 obtain ⟨h1,h2,h3⟩:=h
 obtain ⟨k1,k2,k3⟩:=h'
 refine zeN hp hq ?_
 have hx:((x:Int)*(y:Int))≠0:=Int.mul_ne_zero (by omega) (by omega)
 apply Int.eq_of_mul_eq_mul_right hx
 grind
theorem Val.mul {p q:Q} {a b:Int} {x y:Nat} (h:Val p a x) (h':Val q b y):Val (mulQ p q) (a*b) (x*y):=by
 obtain ⟨h1,h2,h3⟩:=h
 obtain ⟨k1,k2,k3⟩:=h'
 have hv:Val (mulQ p q) (sI p*sI q) (p.bot*q.bot):=Val.frac (Nat.mul_pos h3 k3)
 refine hv.trans (Nat.mul_pos h2 k2) ?_
 rw [Int.natCast_mul,Int.natCast_mul]
 grind
theorem Val.add {p q:Q} {a b:Int} {x y:Nat} (h:Val p a x) (h':Val q b y):Val (addQ p q) (a*y+b*x) (x*y):=by
 obtain ⟨h1,h2,h3⟩:=h
 obtain ⟨k1,k2,k3⟩:=h'
 have hv:Val (addQ p q) (sI p*(q.bot:Int)+sI q*(p.bot:Int)) (p.bot*q.bot):=Val.frac (Nat.mul_pos h3 k3)
 refine hv.trans (Nat.mul_pos h2 k2) ?_
 rw [Int.natCast_mul,Int.natCast_mul]
 grind
theorem Val.sub {p q:Q} {a b:Int} {x y:Nat} (h:Val p a x) (h':Val q b y):Val (subQ p q) (a*y - b*x) (x*y):=by
 obtain ⟨h1,h2,h3⟩:=h
 obtain ⟨k1,k2,k3⟩:=h'
 have hv:Val (subQ p q) (sI p*(q.bot:Int) - sI q*(p.bot:Int)) (p.bot*q.bot):=Val.frac (Nat.mul_pos h3 k3)
 refine hv.trans (Nat.mul_pos h2 k2) ?_
 rw [Int.natCast_mul,Int.natCast_mul]
 grind
theorem Val.int (z:Int):Val (intQ z) z 1:=by
 refine ⟨?_,Nat.one_pos,Nat.one_pos⟩
 show sgn (decide (z<0)) z.natAbs*1=z*1
 unfold sgn
 by_cases h:z<0
 ·rw [decide_eq_true h,if_pos rfl]
  omega
 ·rw [decide_eq_false h,if_neg (by simp)]
  omega
theorem Val.half:Val zgx 1 2:=⟨by decide,by decide,by decide⟩
theorem Val.lsb {st:Int} (h : -20≤st∧st≤4):Val (lsbQ st) ((2 ^ (st+149).toNat:Nat):Int) (2 ^ 149):=by
 unfold lsbQ
 split
 ·refine ⟨?_,Nat.two_pow_pos _,Nat.pow_pos (by decide)⟩
  show ((2 ^ st.toNat:Nat):Int)*((2 ^ 149:Nat):Int)=((2 ^ (st+149).toNat:Nat):Int)*((1 ^ st.toNat:Nat):Int)
  rw [Nat.one_pow,←Int.natCast_mul,←Int.natCast_mul,←Nat.pow_add,Nat.mul_one,show st.toNat+149=(st+149).toNat by omega]
 ·rw [zeB]
  refine ⟨?_,Nat.two_pow_pos _,Nat.pow_pos (by decide)⟩
  show ((1 ^ (-st).toNat:Nat):Int)*((2 ^ 149:Nat):Int)=((2 ^ (st+149).toNat:Nat):Int)*((2 ^ (-st).toNat:Nat):Int)
  rw [Nat.one_pow,←Int.natCast_mul,←Int.natCast_mul,←Nat.pow_add,Nat.one_mul,show (st+149).toNat+(-st).toNat=149 by omega]
theorem zgf {d e:Int} (hd:d≠0) (hd2:d.natAbs<16777216) (he : -149≤e) (he2:e+d.natAbs.log2≤127) {p:Q} (hp:LowQ p) (hv:Val p (d*((2 ^ (e+149).toNat:Nat):Int)) (2 ^ 149)) :
  exT (nomW d e)=zay p:=by
 obtain ⟨n',e',hw,hr,hn0,hR,hval,hn2,he3⟩:=zh9 hd hd2 he he2
 have hread:=zb2 (decide (d<0)) hr hn2 hR
 have hplace:=hr.place
 rw [←hw] at hread
 obtain ⟨x1,x2,x3,x4,x5⟩:=zj4 hread hn0 hn2 (by omega) he3
 rw [hval] at x3
 have hq:exQ (nomW d e)=p:=by
  have hq1:Val (exQ (nomW d e)) (d*((2 ^ (e+149).toNat:Nat):Int)) (2 ^ 149):=by
   refine ⟨?_,Nat.two_pow_pos _,x1.1⟩
   generalize exQ (nomW d e)=E at *
   generalize 2 ^ (e+149).toNat=u at *
   generalize (2:Nat) ^ 149=T at *
   unfold sI
   rw [x2]
   have x3':(E.top:Int)*(T:Int)=((d.natAbs*u:Nat):Int)*(E.bot:Int):=by rw [←Int.natCast_mul,x3,Int.natCast_mul]
   rw [Int.natCast_mul] at x3'
   by_cases h:d<0
   ·rw [decide_eq_true h,if_pos rfl,Int.neg_mul,x3',show (d.natAbs:Int) = -d by omega]
    grind
   ·rw [decide_eq_false h,if_neg (by simp),x3',show (d.natAbs:Int)=d by omega]
  exact hq1.eq hv x1 hp rfl
 have hf:=zaH hread
 have hE:zaO (exQ (nomW d e))=0:=by
  unfold zaO
  rw [if_neg (by have:=x1.1;omega),if_neg (by have:=zey x4;have:=zey x5;omega)]
 unfold exT
 rw [if_pos hf]
 unfold zaS
 rw [if_pos hE,hq]
theorem Val.below {L:Q} {u:Int} {T:Nat} (h:Val L (u*2) T) (d:Int):Val (subQ (mulQ L (intQ d)) (mulQ L zgx)) ((2*d - 1)*u) T:=by
 have hT:=h.2.1
 refine Val.trans ((h.mul (Val.int d)).sub (h.mul Val.half)) hT ?_
 simp only [Int.natCast_mul]
 clear h
 generalize (T:Int)=t
 grind
theorem Val.above {L:Q} {u:Int} {T:Nat} (h:Val L (u*2) T) (d:Int):Val (addQ (mulQ L (intQ d)) (mulQ L zgx)) ((2*(d+1) - 1)*u) T:=by
 have hT:=h.2.1
 refine Val.trans ((h.mul (Val.int d)).add (h.mul Val.half)) hT ?_
 simp only [Int.natCast_mul]
 clear h
 generalize (T:Int)=t
 grind
theorem znb {st:Int} (h : -20≤st∧st≤4):Val (lsbQ st) (((2 ^ (st - 1+149).toNat:Nat):Int)*2) (2 ^ 149):=by
 have h1:=Val.lsb h
 rw [show (st+149).toNat=(st - 1+149).toNat+1 by omega,Nat.pow_succ,Int.natCast_mul] at h1
 exact h1
theorem zpo {st z c:Int} (h : -20≤st∧st≤4):Val (lowE st z c) ((2*(c - z) - 1)*((2 ^ (st - 1+149).toNat:Nat):Int)) (2 ^ 149):=(znb h).below (c - z)
theorem znD {st z c:Int} (h : -20≤st∧st≤4):Val (zfK st z c) ((2*(c+1 - z) - 1)*((2 ^ (st - 1+149).toNat:Nat):Int)) (2 ^ 149):=by
 have h1:=(znb h).above (c - z)
 rw [show c - z+1=c+1 - z by omega] at h1
 exact h1
theorem zkJ (st z c:Int):LowQ (lowE st z c):=zbf _ (Nat.mul_pos (zbx st z c).1 (zej st).1)
theorem ziv (st z c:Int):LowQ (zfK st z c):=zbf _ (Nat.mul_pos (zbx st z c).1 (zej st).1)
theorem zes {d:Int} (h:d.natAbs<65536):d.natAbs.log2≤16:=by
 rcases Nat.eq_zero_or_pos d.natAbs with h0 | h0
 ·rw [h0]
  decide
 ·have e16:(2:Nat) ^ 16=65536:=by decide
  have h9:d.natAbs.log2<16:=(Nat.log2_lt (Nat.ne_of_gt h0)).2 (by rw [e16];exact h)
  omega
theorem zpg {st z c:Int} (h : -20≤st∧st≤4) (hz:0≤z∧z≤4096) (hc:0≤c∧c≤4096):exT (nomW (2*(c - z) - 1) (st - 1))=zay (lowE st z c):=
 zgf (by omega) (by omega) (by omega) (by have:=zes (d:=2*(c - z) - 1) (by omega);omega) (zkJ st z c) (zpo h)
theorem zoh {st z c:Int} (h : -20≤st∧st≤4) (hz:0≤z∧z≤4096) (hc:0≤c∧c≤4096):exT (nomW (2*(c+1 - z) - 1) (st - 1))=zay (zfK st z c):=
 zgf (by omega) (by omega) (by omega) (by have:=zes (d:=2*(c+1 - z) - 1) (by omega);omega) (ziv st z c) (znD h)
theorem zj9 (w:World) (t:TypeId) (g:Nat) (hg:w.heap.size=g) :
  Calls Tryz.prog 64 #[.slice (some ⟨g,0,none⟩) 4 4] (w.alloc (.cells #[.int .i64 0,.int .i64 0,.int .i64 0,.int .i64 0] t)) fun e w'=>e = .returned (.int .i64 0)∧w.alloc (.cells #[.int .i64 0,.int .i64 0,.int .i64 0,.int .i64 0] t)=w':=by
 subst hg
 exact zcb (some ⟨w.heap.size,0,none⟩) 4 4 [0,0,0,0] (w.alloc (.cells #[.int .i64 0,.int .i64 0,.int .i64 0,.int .i64 0] t)) (zae.lit w [.int .i64 0,.int .i64 0,.int .i64 0,.int .i64 0] t) (by unfold maxLen;omega)
theorem CBlk.alloc {w:World} {g:Nat} {c:Array Value} {t:TypeId} (h:CBlk w g c t) (o:Obj):CBlk (w.alloc o) g c t:=h.below ((Below.refl _ _).alloc (Nat.le_refl _) o) h.lt
theorem CBlk.drew {w:World} {g:Nat} {c:Array Value} {t:TypeId} (h:CBlk w g c t):CBlk w.drew g c t:=h
theorem CBlk.far3 {w:World} {g g':Nat} {c:Array Value} {t:TypeId} (h:CBlk w g c t) (hne:g'≠g) (u v x:Value):CBlk (((w.setCell ⟨g',0,none⟩ u).setCell ⟨g',1,none⟩ v).setCell ⟨g',2,none⟩ x) g c t:=
 (Below.heap_setCell _ ⟨g',2,none⟩ x g (fun e=>hne e.symm)).trans (h.far2 hne u v)
theorem CBlk.set3 {w:World} {g:Nat} {a b c:Value} {t:TypeId} (h:CBlk w g #[a,b,c] t) (u v x:Value):CBlk (((w.setCell ⟨g,0,none⟩ u).setCell ⟨g,1,none⟩ v).setCell ⟨g,2,none⟩ x) g #[u,v,x] t:=
 heap_setCell_same _ g 2 #[u,v,c] t x (heap_setCell_same _ g 1 #[u,b,c] t v (heap_setCell_same w g 0 #[a,b,c] t u h))
theorem RatD.res3 {w:World} {g:Nat} {v:Value} {q:Q} (h:RatD w w.heap.size v q) (hz:CBlk w g #[.bool false,.slice none 0 0,.slice none 0 0] 142) (u x y:Value) :
  RatD (((w.setCell ⟨g,0,none⟩ u).setCell ⟨g,1,none⟩ x).setCell ⟨g,2,none⟩ y) (((w.setCell ⟨g,0,none⟩ u).setCell ⟨g,1,none⟩ x).setCell ⟨g,2,none⟩ y).heap.size v q:=by
 obtain ⟨A,n,c,A',n',c',rfl,h1,h2⟩:=h
 refine ⟨A,n,c,A',n',c',rfl,?_,?_⟩
 ·rw [zah];exact h1.res hz _ _ _
 ·rw [zah];exact h2.res hz _ _ _
def RetN (w:World) (b:Bool) (x y:Nat) (e:Ending) (w':World):Prop:=
 ∃ A n c A' n' c',e = .returned (.agg #[.bool b,.slice A n c,.slice A' n' c'])∧RatD w' w'.heap.size (.agg #[.bool b,.slice A n c,.slice A' n' c']) ⟨b,x,y⟩∧Below w.heap.size w w'
theorem RetN.of {w w':World} {q:Q} {b:Bool} {x y:Nat} {e:Ending} (h:zbH w q e w') (hq:q=⟨b,x,y⟩):RetN w b x y e w':=by
 subst hq
 obtain ⟨v,rfl,hv,hb⟩:=h
 have hv2:=hv
 obtain ⟨A,n,c,A',n',c',rfl,_,_⟩:=hv2
 exact ⟨A,n,c,A',n',c',rfl,hv,hb⟩
theorem zfy (s:ByteArray) (b:Bool) (x y:Nat) (hs:s.size≤4294967296) (hq:zad s.data.toList=⟨b,x,y⟩) (w:World) (hT:Tabs w):Calls Tryz.prog 91 #[.string s] w (RetN w b x y):=
 (zec s w hT hs).mono fun _ _ h=>RetN.of h hq
theorem zhj (p q:Q) (b:Bool) (x y:Nat) (hz:zcw p ⟨!q.neg,q.top,q.bot⟩=⟨b,x,y⟩) (hp:Sml p) (hq:Sml q) (v u:Value) (w:World) (hT:Tabs w) (hv:RatD w w.heap.size v p) (hu:RatD w w.heap.size u q) :
  Calls Tryz.prog 93 #[v,u] w (RetN w b x y):=
 (zqF p q v u w hT hv hu hp hq).mono fun _ _ h=>RetN.of h hz
theorem zrn (p q:Q) (b:Bool) (x y:Nat) (hz:lowQ (p.neg != q.neg) (p.top*q.bot) (p.bot*q.top)=⟨b,x,y⟩) (hp:Sml p) (hq:Sml q) (v u:Value) (w:World) (hT:Tabs w) (hv:RatD w w.heap.size v p) (hu:RatD w w.heap.size u q) :
  Calls Tryz.prog 94 #[v,u] w (RetN w b x y):=
 (zrG p q v u w hT hv hu hp hq).mono fun _ _ h=>RetN.of h hz
theorem zpx (p q:Q) (b:Bool) (x y:Nat) (hz:lowQ (p.neg != q.neg) (p.top*q.top) (p.bot*q.bot)=⟨b,x,y⟩) (hp:Sml p) (hq:Sml q) (v u:Value) (w:World) (hT:Tabs w) (hv:RatD w w.heap.size v p) (hu:RatD w w.heap.size u q) :
  Calls Tryz.prog 97 #[v,u] w (RetN w b x y):=
 (zk0 p q v u w hT hv hu hp hq).mono fun _ _ h=>RetN.of h hz
theorem zki (p:Q) (l:List UInt8) (hl:zaS p=l∧zaO p=0) (hp:Sml p) (v:Value) (w:World) (hT:Tabs w) (hv:RatD w w.heap.size v p) :
  Calls Tryz.prog 96 #[v] w fun e w'=>e = .returned (.tuple #[.string ⟨l.toArray⟩,.int .i64 0])∧Below w.heap.size w w':=by
 refine (zk7 p v w hT hv hp).mono ?_
 rintro e w' ⟨s,rfl,hs,hb⟩
 rw [hl.1] at hs
 rw [hl.2]
 obtain rfl:=zqh hs
 exact ⟨rfl,hb⟩
theorem zrX (p:Q) (i:Int) (hi:zgy p=i) (v:Value) (w:World) (hv:RatD w w.heap.size v p):Calls Tryz.prog 95 #[v] w fun e w'=>e = .returned (.int .i64 i)∧Below w.heap.size w w':=by
 rw [←hi]
 exact znf p v w hv
theorem zld (s:ByteArray) (hs:s.size≤4294967296) (h0:zam s.data.toList=0) (w:World) (hT:Tabs w):Calls Tryz.prog 82 #[.string s] w fun e w'=>e = .returned (.int .i64 0)∧Below w.heap.size w w':=by
 rw [←h0]
 exact zcL s w hT hs
theorem zk8 (c:Int) (hc:0≤c∧c≤((2 ^ 8 - 1:Nat):Int)) (w:World) (hT:Tabs w):Calls Tryz.prog 90 #[.agg #[.int .i64 8,.int .i64 (-3),.int .i64 128,.string { data:=#[49] },.string { data:=#[48] }],.int .i64 c] w fun e w'=>e = .returned (.int .i64 0)∧Below w.heap.size w w':=
 zdf 8 (-3) 128 c { data:=#[49] } { data:=#[48] } w hT zch hc
theorem zgH (c:Int) (y:Nat) (hc:0≤c∧c≤255) (hy:nomW (c - 128) (-3)=y) (w:World):Calls Tryz.prog 80 #[.agg #[.int .i64 8,.int .i64 (-3),.int .i64 128,.string { data:=#[49] },.string { data:=#[48] }],.int .i64 c] w fun e w'=>e = .returned (.float .f32 y)∧Below w.heap.size w w':=by
 rw [←hy]
 exact zbR 8 (-3) 128 c _ _ w (by omega) (by omega) (by omega) (by omega)
theorem zsV (q:Q):sI ⟨!q.neg,q.top,q.bot⟩ = - sI q:=by
 unfold sI
 dsimp only
 cases q.neg<;>simp
theorem zop (p q:Q):zcw p ⟨!q.neg,q.top,q.bot⟩=subQ p q:=by
 rw [zm2]
 unfold addQ subQ
 rw [zsV,Int.neg_mul,←Int.sub_eq_add_neg]
theorem zmJ (p q:Q):lowQ (p.neg != q.neg) (p.top*q.bot) (p.bot*q.top)=mulQ p (recS q):=zg3 p (recS q)
theorem zpc {N:Nat} (p q:Q) (v u:Value) (w:World) (hT:Tabs w) (hv:RatD w w.heap.size v p) (hu:RatD w w.heap.size u q) (hp:Small p N) (hq:Small q N) (hN:N≤100000) :
  Calls Tryz.prog 93 #[v,u] w (zbH w (subQ p q)):=by
 obtain ⟨A1,n1,c1,A2,n2,c2,rfl,h1,h2⟩:=hv
 obtain ⟨A3,n3,c3,A4,n4,c4,rfl,h3,h4⟩:=hu
 have b1:=zbj h1 hp.1
 have b2:=zbj h2 hp.2
 have b3:=zbj h3 hq.1
 have b4:=zbj h4 hq.2
 rw [←zop]
 exact zev p q _ _ _ _ _ _ _ _ _ _ _ _ w hT h1 h2 h3 h4 (by omega) (by omega) (by omega) (by omega)
theorem zrt {N:Nat} (p q:Q) (v u:Value) (w:World) (hT:Tabs w) (hv:RatD w w.heap.size v p) (hu:RatD w w.heap.size u q) (hp:Small p N) (hq:Small q N) (hN:N≤100000) :
  Calls Tryz.prog 94 #[v,u] w (zbH w (mulQ p (recS q))):=by
 obtain ⟨A1,n1,c1,A2,n2,c2,rfl,h1,h2⟩:=hv
 obtain ⟨A3,n3,c3,A4,n4,c4,rfl,h3,h4⟩:=hu
 have b1:=zbj h1 hp.1
 have b2:=zbj h2 hp.2
 have b3:=zbj h3 hq.1
 have b4:=zbj h4 hq.2
 rw [←zmJ]
 exact zfd p q _ _ _ _ _ _ _ _ _ _ _ _ w hT h1 h2 h3 h4 (by omega) (by omega) (by omega) (by omega)
def zeD (s:ByteArray) (p:Q):Prop:=∀ W,Tabs W→Calls Tryz.prog 91 #[.string s] W (RetN W p.neg p.top p.bot)
def zen (p q r:Q):Prop:=∀ v u W,Tabs W→RatD W W.heap.size v p→RatD W W.heap.size u q→Calls Tryz.prog 93 #[v,u] W (RetN W r.neg r.top r.bot)
def zjz (p q r:Q):Prop:=∀ v u W,Tabs W→RatD W W.heap.size v p→RatD W W.heap.size u q→Calls Tryz.prog 94 #[v,u] W (RetN W r.neg r.top r.bot)
def zhw (p q r:Q):Prop:=∀ v u W,Tabs W→RatD W W.heap.size v p→RatD W W.heap.size u q→Calls Tryz.prog 97 #[v,u] W (RetN W r.neg r.top r.bot)
def zfr (p:Q) (s:ByteArray):Prop:=∀ v W,Tabs W→RatD W W.heap.size v p→Calls Tryz.prog 96 #[v] W fun e w'=>e = .returned (.tuple #[.string s,.int .i64 0])∧Below W.heap.size W w'
def zjN (p:Q) (i:Int):Prop:=∀ v W,RatD W W.heap.size v p→Calls Tryz.prog 95 #[v] W fun e w'=>e = .returned (.int .i64 i)∧Below W.heap.size W w'
theorem zeD.of {s:ByteArray} {p:Q} (hs:s.size≤4294967296) (h:zad s.data.toList=p):zeD s p:=fun W hT=>zfy s _ _ _ hs (by rw [h]) W hT
theorem zen.of {N:Nat} {p q:Q} (hp:Small p N) (hq:Small q N) (hN:N≤100000):zen p q (subQ p q):=fun v u W hT hv hu=>(zpc p q v u W hT hv hu hp hq hN).mono fun _ _ h=>RetN.of h rfl
theorem zjz.of {N:Nat} {p q:Q} (hp:Small p N) (hq:Small q N) (hN:N≤100000):zjz p q (mulQ p (recS q)):=fun v u W hT hv hu=>(zrt p q v u W hT hv hu hp hq hN).mono fun _ _ h=>RetN.of h rfl
theorem zhw.of {N:Nat} {p q:Q} (hp:Small p N) (hq:Small q N) (hN:N≤100000):zhw p q (mulQ p q):=fun v u W hT hv hu=>(zpO p q v u W hT hv hu hp hq hN).mono fun _ _ h=>RetN.of h rfl
theorem zjN.of (p:Q):zjN p (zgy p):=fun v W hv=>znf p v W hv
theorem zfr.of {N:Nat} {p:Q} (hp:Small p N) (hN:N≤600) (hN0:0<N) (hb:0<p.bot):zfr p ⟨(zay p).toArray⟩:=fun v W hT hv=>by
 obtain ⟨we,wt⟩:=zmc hp hN hN0 hb
 refine (zqg p v W hT hv hp (by omega)).mono ?_
 rintro e w' ⟨s,rfl,hs,hb⟩
 rw [wt] at hs
 rw [we]
 obtain rfl:=zqh hs
 exact ⟨rfl,hb⟩
def zsa (a st z c:Int) (g o:ByteArray) (E:Int):Prop:=∀ W,Tabs W→Calls Tryz.prog 86 #[.agg #[.int .i64 a,.int .i64 st,.int .i64 z,.string g,.string o],.int .i64 c] W fun e w'=>e = .returned (.int .i64 E)∧Below W.heap.size W w'
set_option maxHeartbeats 1000000 in
theorem zi5 (a st z c E:Int) (g o:ByteArray) (w:World) (hT:Tabs w) (hI:zsa a st z c g o E) (h0:E≠0) :
  Calls Tryz.prog 38 #[.agg #[.int .i64 a,.int .i64 st,.int .i64 z,.string g,.string o],.int .i64 c] w fun e w'=>e = .returned (.tuple #[.agg #[.string { data:=#[] },.string { data:=#[] }],.int .i64 E])∧Below w.heap.size w w':=by
 have hb0:Below w.heap.size w ((w.alloc (.cells #[.int .i64 a,.int .i64 st,.int .i64 z,.string g,.string o] 33)).alloc (.cells #[.string { data:=#[] },.string { data:=#[] }] 55)):=((Below.refl _ _).alloc (Nat.le_refl _) _).alloc (by simp) _
 have q0:CBlk ((w.alloc (.cells #[.int .i64 a,.int .i64 st,.int .i64 z,.string g,.string o] 33)).alloc (.cells #[.string { data:=#[] },.string { data:=#[] }] 55)) w.heap.size #[.int .i64 a,.int .i64 st,.int .i64 z,.string g,.string o] 33:=(CBlk.new w _ _ _ rfl).below ((Below.refl _ _).alloc (Nat.le_refl _) _) (by simp)
 have s0:CBlk ((w.alloc (.cells #[.int .i64 a,.int .i64 st,.int .i64 z,.string g,.string o] 33)).alloc (.cells #[.string { data:=#[] },.string { data:=#[] }] 55)) (w.heap.size+1) #[.string { data:=#[] },.string { data:=#[] }] 55:=CBlk.new _ _ _ _ (by simp)
 have hT1:=hT.later hb0
 have x0:=q0.cell 0
 have x1:=q0.cell 1
 have x2:=q0.cell 2
 have x3:=q0.cell 3
 have x4:=q0.cell 4
 have HC:=Lib.hid (hI _ hT1)
 have d0:(E==0)=false:=beq_eq_false_iff_ne.2 h0
 have d1:(E != 0)=true:=by simpa using h0
 clear h0 hI
 go_enter Tryz.func38,Tryz.ntmps38
 go_wp2_with fail
 generalize (w.alloc (.cells #[.int .i64 a,.int .i64 st,.int .i64 z,.string g,.string o] 33)).alloc (.cells #[.string { data:=#[] },.string { data:=#[] }] 55)=w1 at *
 refine HC.out.mono ?_
 rintro e w2 ⟨rfl,hb2⟩
 have s6:=s0.below hb2 s0.lt
 have hB6:=hb0.trans (hb2.mono hb0.size)
 clear x0 x1 x2 x3 x4
 have r0:=s6.cell 0
 have r1:=s6.cell 1
 have f0:=s6.frozen 0
 have f1:=s6.frozen 1
 have hset:=zbc hB6 (g:=w.heap.size+1) (by omega) (.string { data:=#[] }) (.string { data:=#[] })
 clear HC
 go_wp2_with fail
 refine bodyPost_ret (v := .tuple #[.agg #[.string { data:=#[] },.string { data:=#[] }],.int .i64 E]) (by simp [results,Tryz.results38,go_sem,r0,r1]) rfl ⟨rfl,hset⟩
theorem zlJ (a:Nat) (st z c:Int) (g o:ByteArray) (w:World) (hT:Tabs w) (hc:0≤c∧c≤4095) (hz:0≤z∧z≤4095) (hst : -20≤st∧st≤4) :
  Calls Tryz.prog 87 #[.agg #[.int .i64 a,.int .i64 st,.int .i64 z,.string g,.string o],.int .i64 c] w (zr3 w (lowE st z c) (zfK st z c)):=by
 refine (zfU a st z c g o _ _ _ _ w hT hc hz hst rfl rfl (zpg hst (by omega) (by omega)) (zoh hst (by omega) (by omega))).mono ?_
 rintro e w' ⟨rfl,hb⟩
 exact ⟨⟨_,_,rfl,⟨by simp,zkJ st z c⟩,⟨by simp,ziv st z c⟩⟩,hb⟩
set_option maxHeartbeats 1000000 in
theorem zh8 (a:Nat) (st z c:Int) (g o:ByteArray) (w:World) (hT:Tabs w) (hI:zsa a st z c g o 0) (hc:0≤c∧c≤4095) (hz:0≤z∧z≤4095) (hst : -20≤st∧st≤4) :
  Calls Tryz.prog 38 #[.agg #[.int .i64 a,.int .i64 st,.int .i64 z,.string g,.string o],.int .i64 c] w fun e w'=>(∃ s t:ByteArray,e = .returned (.tuple #[.agg #[.string s,.string t],.int .i64 0])∧NumQ s (lowE st z c)∧NumQ t (zfK st z c))∧Below w.heap.size w w':=by
 have hb0:Below w.heap.size w ((w.alloc (.cells #[.int .i64 a,.int .i64 st,.int .i64 z,.string g,.string o] 33)).alloc (.cells #[.string { data:=#[] },.string { data:=#[] }] 55)):=((Below.refl _ _).alloc (Nat.le_refl _) _).alloc (by simp) _
 have q0:CBlk ((w.alloc (.cells #[.int .i64 a,.int .i64 st,.int .i64 z,.string g,.string o] 33)).alloc (.cells #[.string { data:=#[] },.string { data:=#[] }] 55)) w.heap.size #[.int .i64 a,.int .i64 st,.int .i64 z,.string g,.string o] 33:=(CBlk.new w _ _ _ rfl).below ((Below.refl _ _).alloc (Nat.le_refl _) _) (by simp)
 have s0:CBlk ((w.alloc (.cells #[.int .i64 a,.int .i64 st,.int .i64 z,.string g,.string o] 33)).alloc (.cells #[.string { data:=#[] },.string { data:=#[] }] 55)) (w.heap.size+1) #[.string { data:=#[] },.string { data:=#[] }] 55:=CBlk.new _ _ _ _ (by simp)
 have hT1:=hT.later hb0
 have x0:=q0.cell 0
 have x1:=q0.cell 1
 have x2:=q0.cell 2
 have x3:=q0.cell 3
 have x4:=q0.cell 4
 have HC:=Lib.hid (hI _ hT1)
 have HQ:=Lib.hid (fun W hT=>zlJ a st z c g o W hT hc hz hst)
 generalize lowE st z c=P at *
 generalize zfK st z c=Q at *
 clear hI hc hz hst
 go_enter Tryz.func38,Tryz.ntmps38
 go_wp2_with fail
 generalize (w.alloc (.cells #[.int .i64 a,.int .i64 st,.int .i64 z,.string g,.string o] 33)).alloc (.cells #[.string { data:=#[] },.string { data:=#[] }] 55)=w1 at *
 refine HC.out.mono ?_
 rintro e w2 ⟨rfl,hb2⟩
 have q2:=q0.below hb2 q0.lt
 have s2:=s0.below hb2 s0.lt
 have hT2:=hT1.later hb2
 have hB2:=hb0.trans (hb2.mono hb0.size)
 clear x0 x1 x2 x3 x4
 have x0:=q2.cell 0
 have x1:=q2.cell 1
 have x2:=q2.cell 2
 have x3:=q2.cell 3
 have x4:=q2.cell 4
 go_wp2_with fail
 refine (HQ.out w2 hT2).mono ?_
 rintro e w3 ⟨⟨s,t,rfl,hs,ht⟩,hb3⟩
 have s6:=s2.below hb3 s2.lt
 have hB6:=hB2.trans (hb3.mono hB2.size)
 clear x0 x1 x2 x3 x4
 have r0:=s6.cell 0
 have r1:=s6.cell 1
 have f0:=s6.frozen 0
 have f1:=s6.frozen 1
 have hset:=zbc hB6 (g:=w.heap.size+1) (by omega) (.string s) (.string t)
 have HS:=Lib.hid hs
 have HT:=Lib.hid ht
 clear HC HQ hs ht
 go_wp2_with fail
 refine bodyPost_ret (v := .tuple #[.agg #[.string s,.string t],.int .i64 0]) (by simp [results,Tryz.results38,go_sem,r0,r1]) rfl ?_
 exact ⟨⟨s,t,rfl,HS.out,HT.out⟩,hset⟩
def zmI:Prop:=∀ W:World,Tabs W→Calls Tryz.prog 10 #[] W fun e w'=>e = .returned (.bool true)∧Below W.heap.size W w'
theorem NumQ.one {s t:ByteArray} {p:Q} (h:NumQ s p) (h':NumQ t p):t=s:=by
 obtain ⟨⟨x⟩⟩:=s
 obtain ⟨⟨y⟩⟩:=t
 have e:x=y:=h.1.trans h'.1.symm
 rw [e]
theorem zhI {st z c:Int} (h : -20≤st∧st≤4):Val (nomQ st z c) ((c - z)*((2 ^ (st+149).toNat:Nat):Int)) (2 ^ 149):=by
 have hT:0<(2:Nat) ^ 149:=Nat.two_pow_pos _
 have h1:=(Val.lsb h).mul (Val.int (c - z))
 refine Val.trans h1 hT ?_
 generalize (2:Nat) ^ 149=t
 generalize (2 ^ (st+149).toNat:Nat)=u
 rw [Nat.mul_one]
 grind
theorem zkK {st z c:Int} (h : -20≤st∧st≤4) (hz:0≤z∧z≤4096) (hc:0≤c∧c≤4096):exT (nomW (c - z) st)=zay (nomQ st z c):=by
 by_cases hd:c - z=0
 ·have e1:nomQ st z c=⟨false,0,1⟩:=by
   have hv:=zhI (z:=z) (c:=c) h
   rw [hd,Int.zero_mul] at hv
   refine LowQ.zero (zbx st z c) ?_
   have h2:=hv.1
   have hT:((2 ^ 149:Nat):Int)≠0:=by decide
   rw [Int.zero_mul] at h2
   have h3:=(Int.mul_eq_zero.1 h2).resolve_right hT
   have h4:=zgT (nomQ st z c)
   rw [h3] at h4
   exact h4.symm
  rw [e1,hd]
  have e2:nomW 0 st=0:=by unfold nomW;rw [if_pos rfl]
  rw [e2]
  decide +kernel
 ·exact zgf hd (by omega) (by omega) (by have:=zes (d:=c - z) (by omega);omega) (zbx st z c) (zhI h)
theorem zsz {p q:Q} (hp:0<p.bot) (hq:0<q.bot):LowQ (subQ p q):=zbf _ (Nat.mul_pos hp hq)
theorem zoA {p:Q} (h:LowQ p):NumQ ⟨(zay p).toArray⟩ p:=⟨by simp,h⟩
end Go.Proofs.YtmkihdjolnlccaaGreatDoor
namespace Go.Proofs.YtmkihdjolnlccaaGreatDoor
open Go.RowKit Dn
end Go.Proofs.YtmkihdjolnlccaaGreatDoor
namespace Go.Proofs.YtmkihdjolnlccaaGreatDoor
open Go.RowKit Bn
open Flt
theorem Val.sign {q:Q} {num:Int} {den:Nat} (h:Val q num den):(num<0→zbs q = -1)∧(num=0→zbs q=0)∧(0<num→zbs q=1):=by
 obtain ⟨h1,h2,h3⟩:=h
 have hb:(0:Int)<(q.bot:Int):=by omega
 have hd:(0:Int)<(den:Int):=by omega
 have hs:sI q=if q.neg then -(q.top:Int) else (q.top:Int):=rfl
 unfold zbs
 refine ⟨fun hn => ?_,fun hn => ?_,fun hn => ?_⟩
 ·have hlt:sI q*(den:Int)<0:=by rw [h1];exact Int.mul_neg_of_neg_of_pos hn hb
  have hsl:sI q<0:=by
   rcases Int.lt_or_le (sI q) 0 with h9 | h9
   ·exact h9
   ·have:=Int.mul_nonneg h9 (Int.le_of_lt hd);omega
  rw [hs] at hsl
  have ht:q.top≠0:=by intro h9;rw [h9] at hsl;simp at hsl
  rw [if_neg ht]
  cases hq:q.neg
  ·rw [hq] at hsl;simp at hsl;omega
  ·simp
 ·rw [hn,Int.zero_mul] at h1
  have h0:=(Int.mul_eq_zero.1 h1).resolve_right (by omega)
  rw [hs] at h0
  have ht:q.top=0:=by split at h0<;>omega
  rw [if_pos ht]
 ·have hlt:0<sI q*(den:Int):=by rw [h1];exact Int.mul_pos hn hb
  have hsl:0<sI q:=by
   rcases Int.lt_or_le 0 (sI q) with h9 | h9
   ·exact h9
   ·have:=Int.mul_nonpos_of_nonpos_of_nonneg h9 (Int.le_of_lt hd);omega
  rw [hs] at hsl
  have ht:q.top≠0:=by intro h9;rw [h9] at hsl;simp at hsl
  rw [if_neg ht]
  cases hq:q.neg
  ·simp
  ·rw [hq] at hsl;simp at hsl;omega
end Go.Proofs.YtmkihdjolnlccaaGreatDoor
