/- Plain: the reference's code of a voltage is the boundary of the code's. No program. -/
import Derived.Test.YtjhgadajpliclaaGreatDoorORv1
import Derived.Test.YtjhgadajpliclaaGreatDoorORb44
import Derived.Test.YtjhgadajpliclaaGreatDoorORb24
import Derived.Test.YtjhgadajpliclaaGreatDoorOTrn
import Derived.Deep.RegionHeld3
import Derived.Test.YtjhgadajpliclaaGreatDoorODp
import Derived.Test.YtjhgadajpliclaaGreatDoorORb27
import Derived.Laws.StructEq
namespace Go.Proofs.YtjhgadajpliclaaGreatDoor
open Go.RowKit Bn
open Flt
theorem floorI_le (b:Bool) (x y:Nat) (hy:0<y) (t:Int):t≤floorI b x y↔t*(y:Int)≤sgn b x:=by
 have hd:(x:Int)=(y:Int)*((x / y:Nat):Int)+((x % y:Nat):Int):=by rw [←Int.natCast_mul,←Int.natCast_add,Nat.div_add_mod]
 have hm:((x % y:Nat):Int)<(y:Int):=by have:=Nat.mod_lt x hy;omega
 have hm0:(0:Int)≤((x % y:Nat):Int):=Int.natCast_nonneg _
 have hy':(0:Int)<(y:Int):=by omega
 unfold floorI sgn
 generalize ((x / y:Nat):Int)=d at *
 generalize x % y=r at *
 rw [hd]
 generalize (y:Int)=Y at *
 clear hd
 cases b
 ·simp only [Bool.false_eq_true,false_and,if_false]
  constructor
  ·intro h
   have:=Int.mul_le_mul_of_nonneg_right h (Int.le_of_lt hy')
   rw [Int.mul_comm d] at this
   omega
  ·intro h
   rcases Int.lt_or_le d t with h9 | h9
   ·have:=Int.mul_le_mul_of_nonneg_right (show d+1≤t by omega) (Int.le_of_lt hy')
    rw [Int.add_mul,Int.one_mul,Int.mul_comm d] at this
    omega
   ·exact h9
 ·simp only [true_and,if_true]
  by_cases hr:0<r
  ·rw [if_pos hr]
   constructor
   ·intro h
    have:=Int.mul_le_mul_of_nonneg_right h (Int.le_of_lt hy')
    rw [Int.sub_mul,Int.neg_mul,Int.one_mul,Int.mul_comm d] at this
    omega
   ·intro h
    rcases Int.lt_or_le (-d - 1) t with h9 | h9
    ·have:=Int.mul_le_mul_of_nonneg_right (show -d≤t by omega) (Int.le_of_lt hy')
     rw [Int.neg_mul,Int.mul_comm d] at this
     omega
    ·exact h9
  ·rw [if_neg hr]
   constructor
   ·intro h
    have:=Int.mul_le_mul_of_nonneg_right h (Int.le_of_lt hy')
    rw [Int.neg_mul,Int.mul_comm d] at this
    omega
   ·intro h
    rcases Int.lt_or_le (-d) t with h9 | h9
    ·have:=Int.mul_le_mul_of_nonneg_right (show -d+1≤t by omega) (Int.le_of_lt hy')
     rw [Int.add_mul,Int.neg_mul,Int.one_mul,Int.mul_comm d] at this
     omega
    ·exact h9
theorem floor_val {q:Q} {num:Int} {den:Nat} (h:Val q num den) (t:Int):t≤floorZ q↔t*(den:Int)≤num:=by
 obtain ⟨h1,h2,h3⟩:=h
 unfold floorZ
 rw [floorI_le _ _ _ h3]
 have e:sgn q.neg q.top=sI q:=rfl
 rw [e]
 have hb:(0:Int)<(q.bot:Int):=by omega
 have hd:(0:Int)<(den:Int):=by omega
 generalize (q.bot:Int)=B at *
 generalize (den:Int)=D at *
 generalize sI q=S at *
 constructor
 ·intro h
  have h9:=Int.mul_le_mul_of_nonneg_right h (Int.le_of_lt hd)
  rw [h1,Int.mul_right_comm] at h9
  exact Int.le_of_mul_le_mul_right h9 hb
 ·intro h
  have h9:=Int.mul_le_mul_of_nonneg_right h (Int.le_of_lt hb)
  rw [←h1,Int.mul_right_comm] at h9
  exact Int.le_of_mul_le_mul_right h9 hd
theorem Val.inv {q:Q} {a:Nat} {x:Nat} (h:Val q (a:Int) x) (hl:LowQ q) (ha:0<a):Val (recQ q) (x:Int) a:=by
 have hs:sI q*(x:Int)=(a:Int)*(q.bot:Int):=h.1
 have hx:=h.2.1
 have hb:=h.2.2
 have hpos:0<sI q:=by
  rcases Int.lt_or_le 0 (sI q) with h9 | h9
  ·exact h9
  ·have h8:=Int.mul_nonpos_of_nonpos_of_nonneg h9 (show (0:Int)≤(x:Int) by omega)
   have h7:(0:Int)<(a:Int)*(q.bot:Int):=Int.mul_pos (by omega) (by omega)
   omega
 have hn:q.neg=false:=by
  cases hq:q.neg
  ·rfl
  ·unfold sI at hpos;rw [hq] at hpos;simp at hpos;omega
 have ht:sI q=(q.top:Int):=by unfold sI;rw [hn];simp
 have ht0:0<q.top:=by omega
 rw [rec_pos hl hn ht0]
 refine ⟨?_,ha,ht0⟩
 show sgn false q.bot*(a:Int)=(x:Int)*(q.top:Int)
 rw [ht] at hs
 show (q.bot:Int)*(a:Int)=(x:Int)*(q.top:Int)
 rw [Int.mul_comm,←hs,Int.mul_comm]
theorem code_iff {q:Q} {st z:Int} (h : -20≤st∧st≤4) (hq:LowQ q) (t:Nat):edgeI q z (st - 1) t≤sI q*((2 ^ 149:Nat):Int)↔(t:Int)≤codeZ st z q:=by
 have hl:=lsb_two h
 obtain ⟨u,hu⟩:∃ u:Nat,u=2 ^ (st - 1+149).toNat:=⟨_,rfl⟩
 have hu0:0<u:=by rw [hu];exact Nat.two_pow_pos _
 rw [←hu,show ((u:Int)*2)=((u*2:Nat):Int) by rw [Int.natCast_mul];rfl] at hl
 have hr:=hl.inv (lsb_low st) (by omega)
 have hv:Val q (sI q) q.bot:=⟨rfl,hq.1,hq.1⟩
 have hc:=((hv.mul hr).add (Val.int z)).add Val.half
 unfold codeZ
 show _↔(t:Int)≤floorZ (addQ (addQ (mulQ q (recQ (lsbQ st))) (intQ z)) halfQ)
 rw [floor_val hc]
 unfold edgeI
 rw [←hu]
 have hT:(0:Int)<((2 ^ 149:Nat):Int):=by decide
 generalize ((2 ^ 149:Nat):Int)=T at *
 generalize sI q=S at *
 simp only [Int.natCast_mul,Int.natCast_one,Int.mul_one]
 generalize (q.bot:Int)=B at *
 generalize (u:Int)=U at *
 have e2:((2:Nat):Int)=2:=rfl
 rw [e2]
 constructor
 ·intro h9
  grind
 ·intro h9
  grind
end Go.Proofs.YtjhgadajpliclaaGreatDoor
namespace Go.Proofs.YtjhgadajpliclaaGreatDoor
open Go.RowKit Dn
def recS (p:Q):Q:=⟨p.neg,p.bot,p.top⟩
end Go.Proofs.YtjhgadajpliclaaGreatDoor
namespace Go.Proofs.YtjhgadajpliclaaGreatDoor
open Go.RowKit
theorem cnt_set:∀ (l:List Bool) (i:Nat),l[i]? = some false→(l.set i true).countP (fun b => !b)+1=l.countP (fun b => !b)
 | [],_,h=>by simp at h
 | b :: l,0,h=>by
  simp at h
  subst h
  simp
 | b :: l,i+1,h=>by
  have h2:=cnt_set l i (by simpa using h)
  rw [List.set_cons_succ,List.countP_cons,List.countP_cons]
  omega
theorem cnt_zero:∀ (l:List Bool),l.countP (fun b => !b)=0→∀ (i:Nat) (b:Bool),l[i]? = some b→b=true
 | [],_,i,b,h=>by simp at h
 | c :: l,h0,i,b,h=>by
  rw [List.countP_cons] at h0
  cases i with
  | zero=>
   simp at h
   subst h
   cases c
   ·simp at h0
   ·rfl
  | succ i=>exact cnt_zero l (by omega) i b (by simpa using h)
theorem wpAny_inv {P:Program} {ops:Array Oper} {Q:Exit→Act→World→Prop} (Inv:Array Bool→Act→World→Prop)
  (hstep:∀ (i:Nat) (o:Oper) (listed:Array Bool) (a:Act) (w:World),ops[i]? = some o→Inv listed a w→listed[i]? = some false →
   (∀ e ∈ o.after,Region.binds .any e=true→listed.getD e.on false=true)→wpOp P ops Q i (fun a' w'=>Inv (listed.setIfInBounds i true) a' w') a w)
  (hdone:∀ (listed:Array Bool) (a:Act) (w:World),Inv listed a w→Region.ready .any ops listed=[]→Q .normal a w) :
  ∀ (fuel:Nat) (listed:Array Bool) (a:Act) (w:World),listed.toList.countP (fun b => !b)≤fuel→Inv listed a w→wpAny P .any ops Q fuel listed a w:=by
 have hun:∀ (listed:Array Bool) (i:Nat),listed.getD i true=false→listed[i]? = some false:=by
  intro listed i h
  rw [Array.getD_eq_getD_getElem?] at h
  cases hl:listed[i]? with
  | none=>rw [hl] at h;cases h
  | some b=>rw [hl] at h;simp at h;rw [h]
 intro fuel
 induction fuel with
 | zero=>
  intro listed a w hc hI
  have hr:Region.ready .any ops listed=[]:=by
   cases hq:Region.ready .any ops listed with
   | nil=>rfl
   | cons j l=>
    have hj:j ∈ Region.ready .any ops listed:=by rw [hq];exact List.mem_cons_self
    have h1:=hun listed j (mem_ready.1 hj).1
    have h2:=cnt_zero listed.toList (by omega) j false (by simpa using h1)
    cases h2
  exact ⟨hr,hdone listed a w hI hr⟩
 | succ fuel ih=>
  intro listed a w hc hI
  refine ⟨fun hr=>hdone listed a w hI hr,fun i hi => ?_⟩
  obtain ⟨hu,o,ho,hall⟩:=mem_ready.1 hi
  have h1:=hun listed i hu
  refine wpOp_mono (fun a' w' h=>ih _ a' w' ?_ h) (hstep i o listed a w ho hI h1 hall)
  have h3:=cnt_set listed.toList i (by simpa using h1)
  rw [Array.toList_setIfInBounds]
  omega
theorem all_listed {ops:Array Oper} {listed:Array Bool} (htop:∀ (i:Nat) (o:Oper),ops[i]? = some o→∀ e ∈ o.after,e.on<i) (hr:Region.ready .any ops listed=[]) :
  ∀ (n i:Nat),i<n→i<ops.size→∀ b,listed[i]? = some b→b=true:=by
 intro n
 induction n with
 | zero=>intro i h;omega
 | succ n ih=>
  intro i hi hs b hb
  cases b with
  | true=>rfl
  | false=>
   exfalso
   have hlt:i<listed.size:=(Array.getElem?_eq_some_iff.1 hb).1
   have hm:i ∈ Region.ready .any ops listed:=by
    refine mem_ready.2 ⟨by rw [Array.getD_eq_getD_getElem?,hb];rfl,ops[i],Array.getElem?_eq_getElem hs,fun e he _ => ?_⟩
    have h1:=htop i ops[i] (Array.getElem?_eq_getElem hs) e he
    have h2:listed[e.on]? = some listed[e.on]:=Array.getElem?_eq_getElem (by omega)
    have h3:=ih e.on (by omega) (by omega) _ h2
    rw [Array.getD_eq_getD_getElem?,h2,h3]
    rfl
   rw [hr] at hm
   cases hm
theorem top_of {ops:Array Oper} (h:(List.range ops.size).all (fun i=>((ops[i]?).map (fun o=>o.after.toList.all (fun e=>decide (e.on<i)))).getD true)=true) :
  ∀ (i:Nat) (o:Oper),ops[i]? = some o→∀ e ∈ o.after,e.on<i:=by
 intro i o ho e he
 have hi:i<ops.size:=(Array.getElem?_eq_some_iff.1 ho).1
 have h1:=List.all_eq_true.1 h i (List.mem_range.2 hi)
 rw [ho] at h1
 have h2:=List.all_eq_true.1 h1 e (by simpa using he)
 simpa using h2
theorem wp_region_inv {P:Program} {id:Nat} {ops:Array Oper} {Q:Exit→Act→World→Prop} {a:Act} {w:World} (hm:P.follows .mixedOrders=true) (Inv:Array Bool→Act→World→Prop)
  (htop:(List.range ops.size).all (fun i=>((ops[i]?).map (fun o=>o.after.toList.all (fun e=>decide (e.on<i)))).getD true)=true)
  (h0:Inv (Array.replicate ops.size false) a w.drew)
  (hstep:∀ (i:Nat) (o:Oper) (listed:Array Bool) (a:Act) (w:World),ops[i]? = some o→Inv listed a w→listed[i]? = some false →
   (∀ e ∈ o.after,Region.binds .any e=true→listed.getD e.on false=true)→wpOp P ops Q i (fun a' w'=>Inv (listed.setIfInBounds i true) a' w') a w)
  (hdone:∀ (listed:Array Bool) (a:Act) (w:World),Inv listed a w→(∀ i b,i<ops.size→listed[i]? = some b→b=true)→Q .normal a w) :
  (Code.region id ops true).wp P Q a w:=by
 refine wp_region_any hm (wpAny_inv Inv hstep (fun listed a w hI hr=>hdone listed a w hI fun i b hi hb=>all_listed (top_of htop) hr (i+1) i (by omega) hi b hb) _ _ _ _ ?_ h0)
 rw [Array.toList_replicate]
 exact Nat.le_trans List.countP_le_length (by rw [List.length_replicate];exact Nat.le_refl _)
theorem step_of {P:Program} {ops:Array Oper} {Q:Exit→Act→World→Prop} {Inv:Array Bool→Act→World→Prop} {i:Nat} {o:Oper} {listed:Array Bool} {a:Act} {w:World} (ho:ops[i]? = some o)
  (h:∀ K':Act→World→Prop,Hid (∀ a' w',Inv (listed.setIfInBounds i true) a' w'→K' a' w')→if Region.wanted o (yielded ops a.tmps)=true then Oper.wp P o a w K' Q else K' (a.put o.dst undef) w) :
  wpOp P ops Q i (fun a' w'=>Inv (listed.setIfInBounds i true) a' w') a w:=wpOp_step ho fun K' hK=>h K' (Lib.hid hK)
end Go.Proofs.YtjhgadajpliclaaGreatDoor
namespace Go.Proofs.YtjhgadajpliclaaGreatDoor
open Go.RowKit Bn
open Flt
theorem cfirst_four (w:World) (t:TypeId) (g:Nat) (hg:w.heap.size=g) :
  Calls Tryz.prog 42 #[.slice (some ⟨g,0,none⟩) 4 4] (w.alloc (.cells #[.int .i64 0,.int .i64 0,.int .i64 0,.int .i64 0] t)) fun e w'=>e = .returned (.int .i64 0)∧w.alloc (.cells #[.int .i64 0,.int .i64 0,.int .i64 0,.int .i64 0] t)=w':=by
 subst hg
 exact cfirst_any (some ⟨w.heap.size,0,none⟩) 4 4 [0,0,0,0] (w.alloc (.cells #[.int .i64 0,.int .i64 0,.int .i64 0,.int .i64 0] t)) (Reads.lit w [.int .i64 0,.int .i64 0,.int .i64 0,.int .i64 0] t) (by unfold maxLen;omega)
theorem CBlk.alloc {w:World} {g:Nat} {c:Array Value} {t:TypeId} (h:CBlk w g c t) (o:Obj):CBlk (w.alloc o) g c t:=h.below ((Below.refl _ _).alloc (Nat.le_refl _) o) h.lt
theorem CBlk.drew {w:World} {g:Nat} {c:Array Value} {t:TypeId} (h:CBlk w g c t):CBlk w.drew g c t:=h
theorem CBlk.far3 {w:World} {g g':Nat} {c:Array Value} {t:TypeId} (h:CBlk w g c t) (hne:g'≠g) (u v x:Value):CBlk (((w.setCell ⟨g',0,none⟩ u).setCell ⟨g',1,none⟩ v).setCell ⟨g',2,none⟩ x) g c t:=
 (Below.heap_setCell _ ⟨g',2,none⟩ x g (fun e=>hne e.symm)).trans (h.far2 hne u v)
theorem CBlk.set3 {w:World} {g:Nat} {a b c:Value} {t:TypeId} (h:CBlk w g #[a,b,c] t) (u v x:Value):CBlk (((w.setCell ⟨g,0,none⟩ u).setCell ⟨g,1,none⟩ v).setCell ⟨g,2,none⟩ x) g #[u,v,x] t:=
 heap_setCell_same _ g 2 #[u,v,c] t x (heap_setCell_same _ g 1 #[u,b,c] t v (heap_setCell_same w g 0 #[a,b,c] t u h))
theorem RatD.res3 {w:World} {g:Nat} {v:Value} {q:Q} (h:RatD w w.heap.size v q) (hz:CBlk w g #[.bool false,.slice none 0 0,.slice none 0 0] 127) (u x y:Value) :
  RatD (((w.setCell ⟨g,0,none⟩ u).setCell ⟨g,1,none⟩ x).setCell ⟨g,2,none⟩ y) (((w.setCell ⟨g,0,none⟩ u).setCell ⟨g,1,none⟩ x).setCell ⟨g,2,none⟩ y).heap.size v q:=by
 obtain ⟨A,n,c,A',n',c',rfl,h1,h2⟩:=h
 refine ⟨A,n,c,A',n',c',rfl,?_,?_⟩
 ·rw [size_set3];exact h1.res hz _ _ _
 ·rw [size_set3];exact h2.res hz _ _ _
def RetN (w:World) (b:Bool) (x y:Nat) (e:Ending) (w':World):Prop:=
 ∃ A n c A' n' c',e = .returned (.agg #[.bool b,.slice A n c,.slice A' n' c'])∧RatD w' w'.heap.size (.agg #[.bool b,.slice A n c,.slice A' n' c']) ⟨b,x,y⟩∧Below w.heap.size w w'
theorem RetN.of {w w':World} {q:Q} {b:Bool} {x y:Nat} {e:Ending} (h:RetRatD w q e w') (hq:q=⟨b,x,y⟩):RetN w b x y e w':=by
 subst hq
 obtain ⟨v,rfl,hv,hb⟩:=h
 have hv2:=hv
 obtain ⟨A,n,c,A',n',c',rfl,_,_⟩:=hv2
 exact ⟨A,n,c,A',n',c',rfl,hv,hb⟩
theorem aw_read (s:ByteArray) (b:Bool) (x y:Nat) (hs:s.size≤4294967296) (hq:readQ s.data.toList=⟨b,x,y⟩) (w:World) (hT:Tabs w):Calls Tryz.prog 70 #[.string s] w (RetN w b x y):=
 (pread_any s w hT hs).mono fun _ _ h=>RetN.of h hq
theorem aw_minus (p q:Q) (b:Bool) (x y:Nat) (hz:plusQ p ⟨!q.neg,q.top,q.bot⟩=⟨b,x,y⟩) (hp:Sml p) (hq:Sml q) (v u:Value) (w:World) (hT:Tabs w) (hv:RatD w w.heap.size v p) (hu:RatD w w.heap.size u q) :
  Calls Tryz.prog 72 #[v,u] w (RetN w b x y):=
 (dminus_s p q v u w hT hv hu hp hq).mono fun _ _ h=>RetN.of h hz
theorem aw_over (p q:Q) (b:Bool) (x y:Nat) (hz:lowQ (p.neg != q.neg) (p.top*q.bot) (p.bot*q.top)=⟨b,x,y⟩) (hp:Sml p) (hq:Sml q) (v u:Value) (w:World) (hT:Tabs w) (hv:RatD w w.heap.size v p) (hu:RatD w w.heap.size u q) :
  Calls Tryz.prog 73 #[v,u] w (RetN w b x y):=
 (dover_s p q v u w hT hv hu hp hq).mono fun _ _ h=>RetN.of h hz
theorem aw_times (p q:Q) (b:Bool) (x y:Nat) (hz:lowQ (p.neg != q.neg) (p.top*q.top) (p.bot*q.bot)=⟨b,x,y⟩) (hp:Sml p) (hq:Sml q) (v u:Value) (w:World) (hT:Tabs w) (hv:RatD w w.heap.size v p) (hu:RatD w w.heap.size u q) :
  Calls Tryz.prog 76 #[v,u] w (RetN w b x y):=
 (dtimes_s p q v u w hT hv hu hp hq).mono fun _ _ h=>RetN.of h hz
theorem aw_write (p:Q) (l:List UInt8) (hl:writeT p=l∧writeE p=0) (hp:Sml p) (v:Value) (w:World) (hT:Tabs w) (hv:RatD w w.heap.size v p) :
  Calls Tryz.prog 75 #[v] w fun e w'=>e = .returned (.tuple #[.string ⟨l.toArray⟩,.int .i64 0])∧Below w.heap.size w w':=by
 refine (dwrite_s p v w hT hv hp).mono ?_
 rintro e w' ⟨s,rfl,hs,hb⟩
 rw [hl.1] at hs
 rw [hl.2]
 obtain rfl:=ba_of hs
 exact ⟨rfl,hb⟩
theorem aw_sign (p:Q) (i:Int) (hi:signQ p=i) (v:Value) (w:World) (hv:RatD w w.heap.size v p):Calls Tryz.prog 74 #[v] w fun e w'=>e = .returned (.int .i64 i)∧Below w.heap.size w w':=by
 rw [←hi]
 exact dsign_s p v w hv
theorem aw_check (s:ByteArray) (hs:s.size≤4294967296) (h0:readE s.data.toList=0) (w:World) (hT:Tabs w):Calls Tryz.prog 43 #[.string s] w fun e w'=>e = .returned (.int .i64 0)∧Below w.heap.size w w':=by
 rw [←h0]
 exact check_any s w hT hs
theorem aw_ccode (c:Int) (hc:0≤c∧c≤((2 ^ 8 - 1:Nat):Int)) (w:World) (hT:Tabs w):Calls Tryz.prog 45 #[.agg #[.int .i64 8,.int .i64 (-3),.int .i64 128,.string { data:=#[49] },.string { data:=#[48] }],.int .i64 c] w fun e w'=>e = .returned (.int .i64 0)∧Below w.heap.size w w':=
 checkCode_ok 8 (-3) 128 c { data:=#[49] } { data:=#[48] } w hT aw_conv hc
theorem aw_nominal (c:Int) (y:Nat) (hc:0≤c∧c≤255) (hy:nomW (c - 128) (-3)=y) (w:World):Calls Tryz.prog 40 #[.agg #[.int .i64 8,.int .i64 (-3),.int .i64 128,.string { data:=#[49] },.string { data:=#[48] }],.int .i64 c] w fun e w'=>e = .returned (.float .f32 y)∧Below w.heap.size w w':=by
 rw [←hy]
 exact nominal_any 8 (-3) 128 c _ _ w (by omega) (by omega) (by omega) (by omega)
theorem sI_not (q:Q):sI ⟨!q.neg,q.top,q.bot⟩ = - sI q:=by
 unfold sI
 dsimp only
 cases q.neg<;>simp
theorem plus_subQ (p q:Q):plusQ p ⟨!q.neg,q.top,q.bot⟩=subQ p q:=by
 rw [plus_addQ]
 unfold addQ subQ
 rw [sI_not,Int.neg_mul,←Int.sub_eq_add_neg]
theorem over_mulQ (p q:Q):lowQ (p.neg != q.neg) (p.top*q.bot) (p.bot*q.top)=mulQ p (recS q):=times_mulQ p (recS q)
theorem dminus_n {N:Nat} (p q:Q) (v u:Value) (w:World) (hT:Tabs w) (hv:RatD w w.heap.size v p) (hu:RatD w w.heap.size u q) (hp:Small p N) (hq:Small q N) (hN:N≤100000) :
  Calls Tryz.prog 72 #[v,u] w (RetRatD w (subQ p q)):=by
 obtain ⟨A1,n1,c1,A2,n2,c2,rfl,h1,h2⟩:=hv
 obtain ⟨A3,n3,c3,A4,n4,c4,rfl,h3,h4⟩:=hu
 have b1:=natD_len h1 hp.1
 have b2:=natD_len h2 hp.2
 have b3:=natD_len h3 hq.1
 have b4:=natD_len h4 hq.2
 rw [←plus_subQ]
 exact dratMinus_any p q _ _ _ _ _ _ _ _ _ _ _ _ w hT h1 h2 h3 h4 (by omega) (by omega) (by omega) (by omega)
theorem dover_n {N:Nat} (p q:Q) (v u:Value) (w:World) (hT:Tabs w) (hv:RatD w w.heap.size v p) (hu:RatD w w.heap.size u q) (hp:Small p N) (hq:Small q N) (hN:N≤100000) :
  Calls Tryz.prog 73 #[v,u] w (RetRatD w (mulQ p (recS q))):=by
 obtain ⟨A1,n1,c1,A2,n2,c2,rfl,h1,h2⟩:=hv
 obtain ⟨A3,n3,c3,A4,n4,c4,rfl,h3,h4⟩:=hu
 have b1:=natD_len h1 hp.1
 have b2:=natD_len h2 hp.2
 have b3:=natD_len h3 hq.1
 have b4:=natD_len h4 hq.2
 rw [←over_mulQ]
 exact dratOver_any p q _ _ _ _ _ _ _ _ _ _ _ _ w hT h1 h2 h3 h4 (by omega) (by omega) (by omega) (by omega)
def HasRead (s:ByteArray) (p:Q):Prop:=∀ W,Tabs W→Calls Tryz.prog 70 #[.string s] W (RetN W p.neg p.top p.bot)
def HasMinus (p q r:Q):Prop:=∀ v u W,Tabs W→RatD W W.heap.size v p→RatD W W.heap.size u q→Calls Tryz.prog 72 #[v,u] W (RetN W r.neg r.top r.bot)
def HasOver (p q r:Q):Prop:=∀ v u W,Tabs W→RatD W W.heap.size v p→RatD W W.heap.size u q→Calls Tryz.prog 73 #[v,u] W (RetN W r.neg r.top r.bot)
def HasTimes (p q r:Q):Prop:=∀ v u W,Tabs W→RatD W W.heap.size v p→RatD W W.heap.size u q→Calls Tryz.prog 76 #[v,u] W (RetN W r.neg r.top r.bot)
def HasWrite (p:Q) (s:ByteArray):Prop:=∀ v W,Tabs W→RatD W W.heap.size v p→Calls Tryz.prog 75 #[v] W fun e w'=>e = .returned (.tuple #[.string s,.int .i64 0])∧Below W.heap.size W w'
def HasSign (p:Q) (i:Int):Prop:=∀ v W,RatD W W.heap.size v p→Calls Tryz.prog 74 #[v] W fun e w'=>e = .returned (.int .i64 i)∧Below W.heap.size W w'
theorem HasRead.of {s:ByteArray} {p:Q} (hs:s.size≤4294967296) (h:readQ s.data.toList=p):HasRead s p:=fun W hT=>aw_read s _ _ _ hs (by rw [h]) W hT
theorem HasMinus.of {N:Nat} {p q:Q} (hp:Small p N) (hq:Small q N) (hN:N≤100000):HasMinus p q (subQ p q):=fun v u W hT hv hu=>(dminus_n p q v u W hT hv hu hp hq hN).mono fun _ _ h=>RetN.of h rfl
theorem HasOver.of {N:Nat} {p q:Q} (hp:Small p N) (hq:Small q N) (hN:N≤100000):HasOver p q (mulQ p (recS q)):=fun v u W hT hv hu=>(dover_n p q v u W hT hv hu hp hq hN).mono fun _ _ h=>RetN.of h rfl
theorem HasTimes.of {N:Nat} {p q:Q} (hp:Small p N) (hq:Small q N) (hN:N≤100000):HasTimes p q (mulQ p q):=fun v u W hT hv hu=>(dtimes_n p q v u W hT hv hu hp hq hN).mono fun _ _ h=>RetN.of h rfl
theorem HasSign.of (p:Q):HasSign p (signQ p):=fun v W hv=>dsign_s p v W hv
theorem HasWrite.of {N:Nat} {p:Q} (hp:Small p N) (hN:N≤600) (hN0:0<N) (hb:0<p.bot):HasWrite p ⟨(writeS p).toArray⟩:=fun v W hT hv=>by
 obtain ⟨we,wt⟩:=write_fits hp hN hN0 hb
 refine (dwrite_n p v W hT hv hp (by omega)).mono ?_
 rintro e w' ⟨s,rfl,hs,hb⟩
 rw [wt] at hs
 rw [we]
 obtain rfl:=ba_of hs
 exact ⟨rfl,hb⟩
def AwakeK:Prop:=∀ W:World,Tabs W→Calls Tryz.prog 7 #[] W fun e w'=>e = .returned (.bool true)∧Below W.heap.size W w'
set_option maxHeartbeats 1000000 in
theorem rShort_any (a st z:Int) (g o:ByteArray) (b:Bool) (w:World) (hb:decide (g.size≤60∧o.size≤60)=b) :
  Calls Tryz.prog 6 #[.agg #[.int .i64 a,.int .i64 st,.int .i64 z,.string g,.string o]] w fun e w'=>e = .returned (.bool b)∧Below w.heap.size w w':=by
 have hb0:Below w.heap.size w (w.alloc (.cells #[.int .i64 a,.int .i64 st,.int .i64 z,.string g,.string o] 24)):=(Below.refl _ _).alloc (Nat.le_refl _) _
 have hcase:(decide ((g.size:Int)≤60)=false∧b=false)∨(decide ((g.size:Int)≤60)=true∧decide ((o.size:Int)≤60)=b):=by
  rw [←hb]
  by_cases h1:g.size≤60
  ·refine .inr ⟨decide_eq_true (by omega),?_⟩
   by_cases h2:o.size≤60
   ·rw [decide_eq_true (by omega),decide_eq_true ⟨h1,h2⟩]
   ·rw [decide_eq_false (by omega),decide_eq_false (fun h=>h2 h.2)]
  ·exact .inl ⟨decide_eq_false (by omega),decide_eq_false (fun h=>h1 h.1)⟩
 clear hb
 rcases hcase with ⟨d1,rfl⟩ | ⟨d1,d2⟩
 all_goals
  go_enter Tryz.func6,Tryz.ntmps6
  go_wp2
  go_ret
  exact ⟨rfl,hb0⟩
theorem NumQ.one {s t:ByteArray} {p:Q} (h:NumQ s p) (h':NumQ t p):t=s:=by
 obtain ⟨⟨x⟩⟩:=s
 obtain ⟨⟨y⟩⟩:=t
 have e:x=y:=h.1.trans h'.1.symm
 rw [e]
theorem nomQ_val {st z c:Int} (h : -20≤st∧st≤4):Val (nomQ st z c) ((c - z)*((2 ^ (st+149).toNat:Nat):Int)) (2 ^ 149):=by
 have hT:0<(2:Nat) ^ 149:=Nat.two_pow_pos _
 have h1:=(Val.lsb h).mul (Val.int (c - z))
 refine Val.trans h1 hT ?_
 generalize (2:Nat) ^ 149=t
 generalize (2 ^ (st+149).toNat:Nat)=u
 rw [Nat.mul_one]
 grind
theorem nom_text {st z c:Int} (h : -20≤st∧st≤4) (hz:0≤z∧z≤4096) (hc:0≤c∧c≤4096):exT (nomW (c - z) st)=writeS (nomQ st z c):=by
 by_cases hd:c - z=0
 ·have e1:nomQ st z c=⟨false,0,1⟩:=by
   have hv:=nomQ_val (z:=z) (c:=c) h
   rw [hd,Int.zero_mul] at hv
   refine LowQ.zero (nomQ_low st z c) ?_
   have h2:=hv.1
   have hT:((2 ^ 149:Nat):Int)≠0:=by decide
   rw [Int.zero_mul] at h2
   have h3:=(Int.mul_eq_zero.1 h2).resolve_right hT
   have h4:=sI_abs (nomQ st z c)
   rw [h3] at h4
   exact h4.symm
  rw [e1,hd]
  have e2:nomW 0 st=0:=by unfold nomW;rw [if_pos rfl]
  rw [e2]
  decide +kernel
 ·exact nom_exact hd (by omega) (by omega) (by have:=log_small (d:=c - z) (by omega);omega) (nomQ_low st z c) (nomQ_val h)
theorem ba_text {p:Q} (h:LowQ p):NumQ ⟨(writeS p).toArray⟩ p:=⟨by simp,h⟩
end Go.Proofs.YtjhgadajpliclaaGreatDoor
namespace Go.Proofs.YtjhgadajpliclaaGreatDoor
open Go.RowKit
open Flt
theorem nom_parts {st d:Int} (h : -20≤st∧st≤4) (hd:d≠0) (hd2:d.natAbs≤4096) :
  ∃ n J:Nat,nomW d st=Ieee.single.word (decide (d<0)) (rung n (-(J:Int)))∧8388608≤n∧n<16777216∧J≤149∧(d.natAbs*2 ^ (st+149).toNat)*2 ^ J=n*2 ^ 149:=by
 have hlog:d.natAbs.log2≤16:=log_small (by omega)
 obtain ⟨n',e',hw,hr,hn0,hR,hval,hn2,he3⟩:=nom_word hd (by omega) (e:=st) (by omega) (by omega)
 have hpl:=hr.place
 have t149:(2:Nat) ^ 149=2 ^ 129*2 ^ 20:=by rw [←Nat.pow_add]
 have hlo:2 ^ 129≤d.natAbs*2 ^ (st+149).toNat:=by
  have h1:2 ^ 129≤2 ^ (st+149).toNat:=Nat.pow_le_pow_right (by omega) (by omega)
  exact Nat.le_trans h1 (Nat.le_mul_of_pos_left _ (by omega))
 have hhi:d.natAbs*2 ^ (st+149).toNat≤2 ^ 165:=by
  have h1:2 ^ (st+149).toNat≤2 ^ 153:=Nat.pow_le_pow_right (by omega) (by omega)
  have e:(2:Nat) ^ 165=2 ^ 12*2 ^ 153:=by rw [←Nat.pow_add]
  rw [e]
  exact Nat.mul_le_mul (by have:(2:Nat) ^ 12=4096:=(by decide);omega) h1
 have hne:e' ≠ -149:=by
  intro h9
  rw [h9] at hval
  have e0:((-149:Int)+149).toNat=0:=by decide
  rw [e0,Nat.pow_zero,Nat.mul_one] at hval
  rw [←hval] at hlo
  have e:(2:Nat) ^ 129=2 ^ 24*2 ^ 105:=by rw [←Nat.pow_add]
  have e24:(2:Nat) ^ 24=16777216:=by decide
  have h105:0<(2:Nat) ^ 105:=Nat.two_pow_pos _
  rw [e,e24] at hlo
  have:16777216*1≤16777216*2 ^ 105:=Nat.mul_le_mul_left _ h105
  omega
 have hn1:8388608≤n':=by
  rcases hr.lo with h9 | h9
  ·exact absurd h9 hne
  ·exact h9
 have he0:e'≤0:=by
  rcases Int.lt_or_le 0 e' with h9 | h9
  ·exfalso
   have h1:2 ^ 150≤2 ^ (e'+149).toNat:=Nat.pow_le_pow_right (by omega) (by omega)
   have h2:8388608*2 ^ 150≤n'*2 ^ (e'+149).toNat:=Nat.mul_le_mul hn1 h1
   have e:(8388608:Nat)=2 ^ 23:=by decide
   rw [hval,e,←Nat.pow_add] at h2
   have h3:(2:Nat) ^ 165<2 ^ (23+150):=Nat.pow_lt_pow_right (by omega) (by omega)
   generalize (2:Nat) ^ 165=A at *
   generalize (2:Nat) ^ (23+150)=B at *
   generalize d.natAbs*2 ^ (st+149).toNat=C at *
   omega
  ·exact h9
 refine ⟨n',(-e').toNat,?_,hn1,hn2,by omega,?_⟩
 ·rw [hw,show (-(((-e').toNat:Nat):Int))=e' by omega]
 ·rw [←hval,Nat.mul_assoc,←Nat.pow_add,show (e'+149).toNat+(-e').toNat=149 by omega]
theorem nomQ_zero {st z c:Int} (h : -20≤st∧st≤4) (hd:c - z=0):nomQ st z c=⟨false,0,1⟩:=by
 have hv:=nomQ_val (z:=z) (c:=c) h
 rw [hd,Int.zero_mul] at hv
 refine LowQ.zero (nomQ_low st z c) ?_
 have h2:=hv.1
 have hT:((2 ^ 149:Nat):Int)≠0:=by decide
 rw [Int.zero_mul] at h2
 have h3:=(Int.mul_eq_zero.1 h2).resolve_right hT
 have h4:=sI_abs (nomQ st z c)
 rw [h3] at h4
 exact h4.symm
def FloatIs (s:ByteArray) (f:Nat):Prop:=∀ W,Calls Tryz.prog 62 #[.string s] W fun e w'=>e = .returned (.tuple #[.float .f32 f,.bool true])∧Below W.heap.size W w'
theorem float_abs (s:ByteArray) (q:Q) (d:Nat) (st:Int) (n J:Nat) (h:NumQ s q) (hst : -20≤st∧st≤4) (hd:0<d∧d≤4096) (hv:Val q ((d*2 ^ (st+149).toNat:Nat):Int) (2 ^ 149))
  (h1:8388608≤n) (h2:n<16777216) (hJ:J≤149) (hn:(d*2 ^ (st+149).toNat)*2 ^ J=n*2 ^ 149):FloatIs s (Ieee.single.word false (rung n (-(J:Int)))):=by
 intro W
 obtain ⟨K,hK⟩:∃ K,K=60:=⟨_,rfl⟩
 have hT:(2:Nat) ^ 149<10 ^ K:=by rw [hK];decide
 have hnT:n*2 ^ 149<10 ^ K:=by
  have h9:n*2 ^ 149<16777216*2 ^ 149:=Nat.mul_lt_mul_of_pos_right h2 (Nat.two_pow_pos _)
  have h8:16777216*(2:Nat) ^ 149<10 ^ K:=by rw [hK];decide
  exact Nat.lt_trans h9 h8
 have h0:1≤2 ^ (st+149).toNat:=Nat.two_pow_pos _
 refine rFloat_pos s q (d*2 ^ (st+149).toNat) 149 n J K W h hv hn h1 h2 hJ (by omega) (by omega) (by rw [hn];exact hnT) hT ?_ ?_
 ·have h9:2 ^ 149≤2 ^ 151:=Nat.pow_le_pow_right (by omega) (by omega)
  exact Nat.le_trans h9 (Nat.le_mul_of_pos_left _ (Nat.mul_pos hd.1 h0))
 ·have h9:d*2 ^ (st+149).toNat≤4096*2 ^ 153:=Nat.mul_le_mul hd.2 (Nat.pow_le_pow_right (by omega) (by omega))
  have h8:4096*(2:Nat) ^ 153<2 ^ 128*2 ^ 149:=by decide
  exact Nat.lt_of_le_of_lt h9 h8
theorem not_zero {n:Nat} {e:Int} (h1:8388608≤n) (h2:n<16777216) (he : -149≤e) (he2:e≤104):(FloatKind.f32.format.order (Ieee.single.word false (rung n e)) 0==some .eq)=false:=by
 obtain ⟨f1,k1⟩:=key_word0 false (rnd24 h1 h2 he) h2 (rung_fin h2 he he2)
 have f0:fin Ieee.single 0=true:=by decide
 have k0:key Ieee.single 0=0:=by decide
 show (Ieee.single.order (Ieee.single.word false (rung n e)) 0==some .eq)=false
 rw [order_fin f1 f0,k1,k0]
 have hp:0<n*2 ^ (e+149).toNat:=Nat.mul_pos (by omega) (Nat.two_pow_pos _)
 simp only [Bool.false_eq_true,if_false]
 rw [cmp_gt (by omega)]
 rfl
set_option maxHeartbeats 2000000 in
set_option maxRecDepth 100000 in
theorem float_zero (s:ByteArray) (h:NumQ s ⟨false,0,1⟩):FloatIs s 0:=by
 intro w
 have hv:Val ⟨false,0,1⟩ 0 1:=⟨rfl,Nat.one_pos,Nat.one_pos⟩
 have sp:Small ⟨false,0,1⟩ 10:=⟨by decide,by decide⟩
 have hsz:=h.sizeN sp (by omega) (by omega)
 have hs2:Small twoQ 1:=⟨by decide,by decide⟩
 have HSG:=rSign_q s _ w h (by omega)
 rw [hv.sign.2.1 rfl] at HSG
 have P128:=Lib.hid (fun W=>rPow_posB ⟨#[50]⟩ twoQ 128 1 W two_num rfl hs2 (by omega) (by omega))
 have P151:=Lib.hid (fun W=>rPow_negB ⟨#[50]⟩ twoQ 151 1 W two_num rfl (by decide) hs2 (by omega) (by omega) (by omega) (by decide))
 have c128:cmpI ⟨false,0,1⟩ (powQ twoQ 128) = -1:=(cmp_val hv (Val.pow 128)).1 (by decide)
 have c151:cmpI ⟨false,0,1⟩ (powQ (recQ twoQ) 151) = -1:=(cmp_val hv (Val.powN 151)).1 (by decide)
 have sz128:Small (powQ twoQ 128) 100:=⟨by decide,by decide⟩
 have sz151:Small (powQ (recQ twoQ) 151) 100:=by rw [rec_two];exact ⟨by decide,by decide⟩
 have C128:=Lib.hid (fun t (hs:NumQ t (powQ twoQ 128)) W=>rCmp_q s t _ _ W h hs (by omega) (by have:=hs.sizeN sz128 (by omega) (by omega);omega))
 have C151:=Lib.hid (fun t (hs:NumQ t (powQ (recQ twoQ) 151)) W=>rCmp_q s t _ _ W h hs (by omega) (by have:=hs.sizeN sz151 (by omega) (by omega);omega))
 rw [c128] at C128
 rw [c151] at C151
 have HS:=Lib.hid HSG
 generalize powQ twoQ 128=x128 at *
 generalize powQ (recQ twoQ) 151=x151 at *
 clear hv sp hsz hs2 HSG c128 c151 sz128 sz151 h
 go_enter Tryz.func62,Tryz.ntmps62
 go_wp2_with fail
 refine HS.out.mono ?_
 rintro e w1 ⟨rfl,rfl⟩
 go_wp2_with fail
 refine (P128.out w).mono ?_
 rintro e w1 ⟨⟨s1,rfl,i1⟩,hb1⟩
 go_wp2_with fail
 refine (C128.out s1 i1 w1).mono ?_
 rintro e w2 ⟨rfl,hb2⟩
 have hB2:=hb1.trans (hb2.mono hb1.size)
 go_wp2_with fail
 refine (P151.out w2).mono ?_
 rintro e w3 ⟨⟨s3,rfl,i3⟩,hb3⟩
 have hB3:=hB2.trans (hb3.mono hB2.size)
 go_wp2_with fail
 refine (C151.out s3 i3 w3).mono ?_
 rintro e w4 ⟨rfl,hb4⟩
 have hB4:=hB3.trans (hb4.mono hB3.size)
 go_wp2
 go_ret2
 exact ⟨rfl,hB4⟩
set_option maxHeartbeats 2000000 in
set_option maxRecDepth 100000 in
theorem float_neg (s:ByteArray) (q:Q) (n:Nat) (e:Int) (h:NumQ s q) (hsg:signI q = -1) (hsz:s.size≤99999) (hf:∀ t,NumQ t (negQ q)→FloatIs t (Ieee.single.word false (rung n e)))
  (h1:8388608≤n) (h2:n<16777216) (he : -149≤e) (he2:e≤104):FloatIs s (Ieee.single.word true (rung n e)):=by
 intro w
 have HSG:=rSign_q s _ w h (by omega)
 rw [hsg] at HSG
 have HS:=Lib.hid HSG
 have HN:=Lib.hid (rNeg_q s _ w h (by omega))
 have HF:=Lib.hid hf
 have dz:=not_zero h1 h2 he he2
 have hm:=minus_word false h1 h2 he he2
 have e1:(!false)=true:=rfl
 rw [e1] at hm
 generalize Ieee.single.word false (rung n e)=F at *
 generalize Ieee.single.word true (rung n e)=G at *
 have ha:=fun W=>run_float_arith (P:=Tryz.prog) W .sub 35 .f32 0 F G hm
 clear HSG hf h hsg hsz h1 h2 he he2 hm e1
 go_enter Tryz.func62,Tryz.ntmps62
 go_wp2_with fail
 refine HS.out.mono ?_
 rintro e w1 ⟨rfl,rfl⟩
 go_wp2_with fail
 refine HN.out.mono ?_
 rintro e w1 ⟨⟨s1,rfl,i1⟩,hb1⟩
 go_wp2_with fail
 refine (HF.out s1 i1 w1).mono ?_
 rintro e w2 ⟨rfl,hb2⟩
 have hB2:=hb1.trans (hb2.mono hb1.size)
 go_wp2
 go_ret2
 exact ⟨rfl,hB2⟩
theorem float_nom (s:ByteArray) (st z c:Int) (h:NumQ s (nomQ st z c)) (hst : -20≤st∧st≤4) (hz:0≤z∧z≤4096) (hc:0≤c∧c≤4096):FloatIs s (nomW (c - z) st):=by
 have hv:=nomQ_val (z:=z) (c:=c) hst
 have sm:Small (nomQ st z c) 20:=nomQ_small hst (by omega)
 rcases Int.lt_trichotomy (c - z) 0 with hd | hd | hd
 ·obtain ⟨n,J,hw,h1,h2,hJ,hn⟩:=nom_parts hst (show c - z≠0 by omega) (by omega)
  rw [hw,decide_eq_true hd]
  have hT:(0:Int)<((2 ^ (st+149).toNat:Nat):Int):=Int.natCast_pos.2 (Nat.two_pow_pos _)
  refine float_neg s _ n _ h (hv.sign.1 (Int.mul_neg_of_neg_of_pos hd hT)) (by have:=h.sizeN sm (by omega) (by omega);omega) (fun t ht => ?_) h1 h2 (by omega) (by omega)
  refine float_abs t _ (c - z).natAbs st n J ht hst (by omega) ?_ h1 h2 hJ hn
  obtain ⟨v1,v2,v3⟩:=hv
  refine ⟨?_,v2,v3⟩
  rw [sI_neg,Int.neg_mul,v1,Int.natCast_mul,show (((c - z).natAbs:Nat):Int) = -(c - z) by omega,Int.neg_mul,Int.neg_mul]
  rfl
 ·rw [nomQ_zero hst hd] at h
  have e:nomW (c - z) st=0:=by rw [hd];unfold nomW;rw [if_pos rfl]
  rw [e]
  exact float_zero s h
 ·obtain ⟨n,J,hw,h1,h2,hJ,hn⟩:=nom_parts hst (show c - z≠0 by omega) (by omega)
  rw [hw,decide_eq_false (by omega)]
  refine float_abs s _ (c - z).natAbs st n J h hst (by omega) ?_ h1 h2 hJ hn
  rw [Int.natCast_mul,show (((c - z).natAbs:Nat):Int)=c - z by omega]
  exact hv
set_option maxHeartbeats 1000000 in
theorem rVolts_any (a st z c:Int) (g o:ByteArray) (w:World) (hst : -20≤st∧st≤4) (hz:0≤z∧z≤4096) (hc:0≤c∧c≤4096) :
  Calls Tryz.prog 17 #[.agg #[.int .i64 a,.int .i64 st,.int .i64 z,.string g,.string o],.int .i64 c] w fun e w'=>e = .returned (.float .f32 (nomW (c - z) st))∧Below w.heap.size w w':=by
 have hb0:Below w.heap.size w (w.alloc (.cells #[.int .i64 a,.int .i64 st,.int .i64 z,.string g,.string o] 24)):=(Below.refl _ _).alloc (Nat.le_refl _) _
 have q0:CBlk (w.alloc (.cells #[.int .i64 a,.int .i64 st,.int .i64 z,.string g,.string o] 24)) w.heap.size #[.int .i64 a,.int .i64 st,.int .i64 z,.string g,.string o] 24:=CBlk.new w _ _ _ rfl
 have x0:=q0.cell 0
 have x1:=q0.cell 1
 have x2:=q0.cell 2
 have x3:=q0.cell 3
 have x4:=q0.cell 4
 have HN:=Lib.hid (fun W=>rNominal_any a st z c g o W hst hz hc)
 have HF:=Lib.hid (fun s (hs:NumQ s (nomQ st z c))=>float_nom s st z c hs hst hz hc)
 generalize nomQ st z c=q at *
 generalize nomW (c - z) st=F at *
 clear hst hz hc
 go_enter Tryz.func17,Tryz.ntmps17
 go_wp2_with fail
 generalize w.alloc (.cells #[.int .i64 a,.int .i64 st,.int .i64 z,.string g,.string o] 24)=w1 at *
 refine (HN.out w1).mono ?_
 rintro e w2 ⟨⟨s,rfl,hs⟩,hb2⟩
 have hB2:=hb0.trans (hb2.mono hb0.size)
 go_wp2_with fail
 refine (HF.out s hs w2).mono ?_
 rintro e w3 ⟨rfl,hb3⟩
 go_wp2
 go_ret
 exact ⟨rfl,hB2.trans (hb3.mono hB2.size)⟩
end Go.Proofs.YtjhgadajpliclaaGreatDoor
