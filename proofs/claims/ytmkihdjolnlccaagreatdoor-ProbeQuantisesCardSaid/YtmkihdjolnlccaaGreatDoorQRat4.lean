/- Contracts of compare, isZero and negated of rational numbers. -/
import Derived.Test.YtmkihdjolnlccaaGreatDoorQRead2
import Derived.Test.YtmkihdjolnlccaaGreatDoorQWords
import Derived.Lib.ItoaNum
import Derived.Test.YtmkihdjolnlccaaGreatDoorQShelf
import Derived.Shelf.Strings.Builder1
import Derived.Test.YtmkihdjolnlccaaGreatDoorQNat5
import Derived.Lib.ItoaMem
import Derived.Lib.AppendIntMem
import Derived.Shelf.Strconv.Itoa2
namespace Go.Proofs.YtmkihdjolnlccaaGreatDoor
open Go.RowKit Bn
def rcmp (p q:Q):Int:=if p.neg=q.neg then (if p.neg then -(ncmp (p.top*q.bot) (q.top*p.bot)) else ncmp (p.top*q.bot) (q.top*p.bot)) else (if q.neg then 1 else -1)
theorem zlo (x y:Nat):ncmp x y = -1∨ncmp x y=0∨ncmp x y=1:=by
 unfold ncmp;split<;>(try split)<;>simp
theorem ztc:wrap64 1=1:=by simp [wrap64]
theorem zsG:wrap64 0=0:=by simp [wrap64]
theorem zrM:wrap64 (-1) = -1:=by simp [wrap64]
set_option maxHeartbeats 4000000 in
set_option maxRecDepth 100000 in
theorem zfX (b:Bool) (t1 u1 t2 u2:Nat) (A1 A2 A3 A4:Option Addr) (n1 c1 n2 c2 n3 c3 n4 c4:Nat) (w:World)
  (h1:NatS w w.heap.size A1 n1 c1 t1) (h2:NatS w w.heap.size A2 n2 c2 u1) (h3:NatS w w.heap.size A3 n3 c3 t2) (h4:NatS w w.heap.size A4 n4 c4 u2)
  (k1:n1≤268435456) (k2:n2≤268435456) (k3:n3≤268435456) (k4:n4≤268435456) :
  Calls Tryz.prog 108 #[.agg #[.bool b,.slice A1 n1 c1,.slice A2 n2 c2],.agg #[.bool b,.slice A3 n3 c3,.slice A4 n4 c4]] w
   fun e w'=>e = .returned (.int .i64 (if b then -(ncmp (t1*u2) (t2*u1)) else ncmp (t1*u2) (t2*u1)))∧Below w.heap.size w w':=by
 go_enter Tryz.func108,Tryz.ntmps108
 cases b
 ·go_wp2_with fail
  have hb3:Below w.heap.size w ((w.alloc (.cells #[.bool false,.slice A1 n1 c1,.slice A2 n2 c2] 159)).alloc (.cells #[.bool false,.slice A3 n3 c3,.slice A4 n4 c4] 159)):=((Below.refl _ _).alloc (Nat.le_refl _) _).alloc (by simp) _
  have hx0:zaj ((w.alloc (.cells #[.bool false,.slice A1 n1 c1,.slice A2 n2 c2] 159)).alloc (.cells #[.bool false,.slice A3 n3 c3,.slice A4 n4 c4] 159)) w.heap.size false (.slice A1 n1 c1) (.slice A2 n2 c2):=(zaj.new w _ _ _).below ((Below.refl _ _).alloc (Nat.le_refl _) _) (by simp)
  have hx1:zaj ((w.alloc (.cells #[.bool false,.slice A1 n1 c1,.slice A2 n2 c2] 159)).alloc (.cells #[.bool false,.slice A3 n3 c3,.slice A4 n4 c4] 159)) (w.heap.size+1) false (.slice A3 n3 c3) (.slice A4 n4 c4):=by
   have h:=zaj.new (w.alloc (.cells #[.bool false,.slice A1 n1 c1,.slice A2 n2 c2] 159)) false (.slice A3 n3 c3) (.slice A4 n4 c4)
   simpa using h
  generalize ((w.alloc (.cells #[.bool false,.slice A1 n1 c1,.slice A2 n2 c2] 159)).alloc (.cells #[.bool false,.slice A3 n3 c3,.slice A4 n4 c4] 159))=w3 at *
  obtain ⟨a0,a1,a2,_,_,_,al⟩:=hx0.cells
  obtain ⟨b0,b1,b2,_,_,_,bl⟩:=hx1.cells
  have hb3d:Below w.heap.size w w3.drew:=hb3.drew
  have ht1:=zde A1 A4 n1 c1 n4 c4 t1 u2 w3.drew (h1.later hb3d) (h4.later hb3d) (by omega) (by omega)
  have HT1:=Lib.hid ht1
  clear ht1
  go_region_held3 (fun w'=>w'.cell? ⟨w.heap.size,0,none⟩=some (.bool false)∧w'.cell? ⟨w.heap.size,1,none⟩=some (.slice A1 n1 c1)∧w'.cell? ⟨w.heap.size,2,none⟩=some (.slice A2 n2 c2)∧w'.cell? ⟨w.heap.size+1,0,none⟩=some (.bool false)∧w'.cell? ⟨w.heap.size+1,1,none⟩=some (.slice A3 n3 c3)∧w'.cell? ⟨w.heap.size+1,2,none⟩=some (.slice A4 n4 c4))
   (first | exact ⟨a0,a1,a2,b0,b1,b2⟩ | exact ⟨((hb5.cell (p:=⟨w.heap.size,0,none⟩) al).trans a0),((hb5.cell (p:=⟨w.heap.size,1,none⟩) al).trans a1),((hb5.cell (p:=⟨w.heap.size,2,none⟩) al).trans a2),((hb5.cell (p:=⟨w.heap.size+1,0,none⟩) bl).trans b0),((hb5.cell (p:=⟨w.heap.size+1,1,none⟩) bl).trans b1),((hb5.cell (p:=⟨w.heap.size+1,2,none⟩) bl).trans b2)⟩ | exact ⟨((hb6.cell (p:=⟨w.heap.size,0,none⟩) (al6)).trans ((hb5.cell (p:=⟨w.heap.size,0,none⟩) al).trans a0)),((hb6.cell (p:=⟨w.heap.size,1,none⟩) (al6)).trans ((hb5.cell (p:=⟨w.heap.size,1,none⟩) al).trans a1)),((hb6.cell (p:=⟨w.heap.size,2,none⟩) (al6)).trans ((hb5.cell (p:=⟨w.heap.size,2,none⟩) al).trans a2)),((hb6.cell (p:=⟨w.heap.size+1,0,none⟩) (bl6)).trans ((hb5.cell (p:=⟨w.heap.size+1,0,none⟩) bl).trans b0)),((hb6.cell (p:=⟨w.heap.size+1,1,none⟩) (bl6)).trans ((hb5.cell (p:=⟨w.heap.size+1,1,none⟩) bl).trans b1)),((hb6.cell (p:=⟨w.heap.size+1,2,none⟩) (bl6)).trans ((hb5.cell (p:=⟨w.heap.size+1,2,none⟩) bl).trans b2))⟩)
   (first
    |(go_at_call_of 116 (Value.slice A1 n1 c1);refine (HT1.out).mono ?_;rintro e w4 ⟨A5,m5,c5,rfl,hn5,hb5⟩;have al6:=Nat.lt_of_lt_of_le al hb5.size;have bl6:=Nat.lt_of_lt_of_le bl hb5.size)
    |(go_at_call_of 116 (Value.slice A3 n3 c3);refine (zde A3 A2 n3 c3 n2 c2 t2 u1 w4 ((h3.later hb3d).later hb5) ((h2.later hb3d).later hb5) (by omega) (by omega)).mono ?_;rintro e w6 ⟨A6,m6,c6,rfl,hn6,hb6⟩;have al7:=Nat.lt_of_lt_of_le al6 hb6.size;have bl7:=Nat.lt_of_lt_of_le bl6 hb6.size)
    |(go_at_call 184;refine (zbd A5 A6 m5 c5 m6 c6 _ _ w6 (hn5.later hb6) hn6).mono ?_;rintro e w7 ⟨rfl,nq,rfl⟩))
  have hb7all:Below w.heap.size w (w6.drewN nq):=by
   have s5:=hb3d.size
   have s6:=hb5.size
   exact zab ((hb3d.trans (hb5.mono s5)).trans (hb6.mono (by omega))) nq
  go_wp2
  refine bodyPost_ret (v := .int .i64 (ncmp (t1*u2) (t2*u1))) (by simp [results,Tryz.results108,go_sem]) rfl ⟨rfl,hb7all⟩
 ·go_wp2_with fail
  have hb3:Below w.heap.size w ((w.alloc (.cells #[.bool true,.slice A1 n1 c1,.slice A2 n2 c2] 159)).alloc (.cells #[.bool true,.slice A3 n3 c3,.slice A4 n4 c4] 159)):=((Below.refl _ _).alloc (Nat.le_refl _) _).alloc (by simp) _
  have hx0:zaj ((w.alloc (.cells #[.bool true,.slice A1 n1 c1,.slice A2 n2 c2] 159)).alloc (.cells #[.bool true,.slice A3 n3 c3,.slice A4 n4 c4] 159)) w.heap.size true (.slice A1 n1 c1) (.slice A2 n2 c2):=(zaj.new w _ _ _).below ((Below.refl _ _).alloc (Nat.le_refl _) _) (by simp)
  have hx1:zaj ((w.alloc (.cells #[.bool true,.slice A1 n1 c1,.slice A2 n2 c2] 159)).alloc (.cells #[.bool true,.slice A3 n3 c3,.slice A4 n4 c4] 159)) (w.heap.size+1) true (.slice A3 n3 c3) (.slice A4 n4 c4):=by
   have h:=zaj.new (w.alloc (.cells #[.bool true,.slice A1 n1 c1,.slice A2 n2 c2] 159)) true (.slice A3 n3 c3) (.slice A4 n4 c4)
   simpa using h
  generalize ((w.alloc (.cells #[.bool true,.slice A1 n1 c1,.slice A2 n2 c2] 159)).alloc (.cells #[.bool true,.slice A3 n3 c3,.slice A4 n4 c4] 159))=w3 at *
  obtain ⟨a0,a1,a2,_,_,_,al⟩:=hx0.cells
  obtain ⟨b0,b1,b2,_,_,_,bl⟩:=hx1.cells
  have hb3d:Below w.heap.size w w3.drew:=hb3.drew
  have ht1:=zde A1 A4 n1 c1 n4 c4 t1 u2 w3.drew (h1.later hb3d) (h4.later hb3d) (by omega) (by omega)
  have HT1:=Lib.hid ht1
  clear ht1
  go_region_held3 (fun w'=>w'.cell? ⟨w.heap.size,0,none⟩=some (.bool true)∧w'.cell? ⟨w.heap.size,1,none⟩=some (.slice A1 n1 c1)∧w'.cell? ⟨w.heap.size,2,none⟩=some (.slice A2 n2 c2)∧w'.cell? ⟨w.heap.size+1,0,none⟩=some (.bool true)∧w'.cell? ⟨w.heap.size+1,1,none⟩=some (.slice A3 n3 c3)∧w'.cell? ⟨w.heap.size+1,2,none⟩=some (.slice A4 n4 c4))
   (first | exact ⟨a0,a1,a2,b0,b1,b2⟩ | exact ⟨((hb5.cell (p:=⟨w.heap.size,0,none⟩) al).trans a0),((hb5.cell (p:=⟨w.heap.size,1,none⟩) al).trans a1),((hb5.cell (p:=⟨w.heap.size,2,none⟩) al).trans a2),((hb5.cell (p:=⟨w.heap.size+1,0,none⟩) bl).trans b0),((hb5.cell (p:=⟨w.heap.size+1,1,none⟩) bl).trans b1),((hb5.cell (p:=⟨w.heap.size+1,2,none⟩) bl).trans b2)⟩ | exact ⟨((hb6.cell (p:=⟨w.heap.size,0,none⟩) (al6)).trans ((hb5.cell (p:=⟨w.heap.size,0,none⟩) al).trans a0)),((hb6.cell (p:=⟨w.heap.size,1,none⟩) (al6)).trans ((hb5.cell (p:=⟨w.heap.size,1,none⟩) al).trans a1)),((hb6.cell (p:=⟨w.heap.size,2,none⟩) (al6)).trans ((hb5.cell (p:=⟨w.heap.size,2,none⟩) al).trans a2)),((hb6.cell (p:=⟨w.heap.size+1,0,none⟩) (bl6)).trans ((hb5.cell (p:=⟨w.heap.size+1,0,none⟩) bl).trans b0)),((hb6.cell (p:=⟨w.heap.size+1,1,none⟩) (bl6)).trans ((hb5.cell (p:=⟨w.heap.size+1,1,none⟩) bl).trans b1)),((hb6.cell (p:=⟨w.heap.size+1,2,none⟩) (bl6)).trans ((hb5.cell (p:=⟨w.heap.size+1,2,none⟩) bl).trans b2))⟩)
   (first
    |(go_at_call_of 116 (Value.slice A1 n1 c1);refine (HT1.out).mono ?_;rintro e w4 ⟨A5,m5,c5,rfl,hn5,hb5⟩;have al6:=Nat.lt_of_lt_of_le al hb5.size;have bl6:=Nat.lt_of_lt_of_le bl hb5.size)
    |(go_at_call_of 116 (Value.slice A3 n3 c3);refine (zde A3 A2 n3 c3 n2 c2 t2 u1 w4 ((h3.later hb3d).later hb5) ((h2.later hb3d).later hb5) (by omega) (by omega)).mono ?_;rintro e w6 ⟨A6,m6,c6,rfl,hn6,hb6⟩;have al7:=Nat.lt_of_lt_of_le al6 hb6.size;have bl7:=Nat.lt_of_lt_of_le bl6 hb6.size)
    |(go_at_call 184;refine (zbd A5 A6 m5 c5 m6 c6 _ _ w6 (hn5.later hb6) hn6).mono ?_;rintro e w7 ⟨rfl,nq,rfl⟩))
  have hb7all:Below w.heap.size w (w6.drewN nq):=by
   have s5:=hb3d.size
   have s6:=hb5.size
   exact zab ((hb3d.trans (hb5.mono s5)).trans (hb6.mono (by omega))) nq
  go_wp2_with fail
  rcases zlo (t1*u2) (t2*u1) with e3 | e3 | e3
  all_goals
   rw [e3]
   go_wp2
   exact bodyPost_ret (by simp [results,Tryz.results108,go_sem,zrM,zsG,ztc];try rfl) rfl ⟨by simp,hb7all⟩
set_option maxHeartbeats 4000000 in
set_option maxRecDepth 100000 in
theorem zfE (b:Bool) (A1 A2 A3 A4:Option Addr) (n1 c1 n2 c2 n3 c3 n4 c4:Nat) (w:World) :
  Calls Tryz.prog 108 #[.agg #[.bool (!b),.slice A1 n1 c1,.slice A2 n2 c2],.agg #[.bool b,.slice A3 n3 c3,.slice A4 n4 c4]] w
   fun e w'=>e = .returned (.int .i64 (if b then 1 else -1))∧Below w.heap.size w w':=by
 go_enter Tryz.func108,Tryz.ntmps108
 cases b
 ·go_wp2_with fail
  refine (zct _ _).mono ?_
  rintro e w2 ⟨rfl,rfl⟩
  go_wp2
  exact bodyPost_ret (by simp [results,Tryz.results108,go_sem];try rfl) rfl ⟨rfl,(((Below.refl _ _).alloc (Nat.le_refl _) _).alloc (by simp) _)⟩
 ·go_wp2_with fail
  refine (zct _ _).mono ?_
  rintro e w2 ⟨rfl,rfl⟩
  go_wp2
  exact bodyPost_ret (by simp [results,Tryz.results108,go_sem];try rfl) rfl ⟨rfl,(((Below.refl _ _).alloc (Nat.le_refl _) _).alloc (by simp) _)⟩
theorem zgv (p q:Q) (A1 A2 A3 A4:Option Addr) (n1 c1 n2 c2 n3 c3 n4 c4:Nat) (w:World)
  (h1:NatS w w.heap.size A1 n1 c1 p.top) (h2:NatS w w.heap.size A2 n2 c2 p.bot) (h3:NatS w w.heap.size A3 n3 c3 q.top) (h4:NatS w w.heap.size A4 n4 c4 q.bot)
  (k1:n1≤268435456) (k2:n2≤268435456) (k3:n3≤268435456) (k4:n4≤268435456) :
  Calls Tryz.prog 108 #[.agg #[.bool p.neg,.slice A1 n1 c1,.slice A2 n2 c2],.agg #[.bool q.neg,.slice A3 n3 c3,.slice A4 n4 c4]] w
   fun e w'=>e = .returned (.int .i64 (rcmp p q))∧Below w.heap.size w w':=by
 unfold rcmp
 by_cases h:p.neg=q.neg
 ·rw [if_pos h,←h]
  exact zfX p.neg p.top p.bot q.top q.bot A1 A2 A3 A4 n1 c1 n2 c2 n3 c3 n4 c4 w h1 h2 h3 h4 k1 k2 k3 k4
 ·rw [if_neg h]
  have hq:p.neg = !q.neg:=by revert h;cases p.neg<;>cases q.neg<;>simp
  rw [hq]
  exact zfE q.neg A1 A2 A3 A4 n1 c1 n2 c2 n3 c3 n4 c4 w
theorem zd4 (b:Bool) (x:Nat) (A1 A2:Option Addr) (n1 c1 n2 c2:Nat) (w:World) (h1:NatS w w.heap.size A1 n1 c1 x) :
  Calls Tryz.prog 117 #[.agg #[.bool b,.slice A1 n1 c1,.slice A2 n2 c2]] w
   fun e w'=>e = .returned (.bool (decide (x=0)))∧Below w.heap.size w w':=by
 go_enter Tryz.func117,Tryz.ntmps117
 go_wp2_with fail
 have hb:=(Below.refl w.heap.size w).alloc (Nat.le_refl _) (.cells #[.bool b,.slice A1 n1 c1,.slice A2 n2 c2] 159)
 refine (zbh A1 n1 c1 x _ (h1.later hb)).mono ?_
 rintro e w2 ⟨rfl,rfl⟩
 go_wp2
 exact bodyPost_ret (by simp [results,Tryz.results117,go_sem];try rfl) rfl ⟨rfl,hb⟩
end Go.Proofs.YtmkihdjolnlccaaGreatDoor
namespace Go.Proofs.YtmkihdjolnlccaaGreatDoor
open Go.RowKit
def i64v (d:Int):Value := .int .i64 d
def zaW:List Int→Int
 | []=>0
 | x :: t=>if x≠0 then x else zaW t
def zax (n a b:Int):Int:=if n<a∨b<n then 3 else 0
theorem zae.lit (w:World) (l:List Value) (t:TypeId):zae (w.alloc (.cells l.toArray t)) (w.alloc (.cells l.toArray t)).heap.size 1 (some ⟨w.heap.size,0,none⟩) l.length l:=by
 refine ⟨by simp,fun _=>⟨_,rfl,by simp,fun j u hu => ?_⟩⟩
 have h:=cell_of_row (w.alloc (.cells l.toArray t)) w.heap.size j l.toArray t (0,0) (heap_alloc_new w _)
 have e:(⟨w.heap.size,0,none⟩:Addr).add j=⟨w.heap.size,j,none⟩:=by
  unfold Addr.add
  by_cases hj:j=0<;>simp [hj]
 rw [e,h]
 simpa using hu
set_option maxHeartbeats 400000 in
theorem zmy (A:Option Addr) (n c:Nat) (l:List Int) (w:World) (h:zae w w.heap.size 1 A n (l.map i64v)) (hn:n≤maxLen) :
  Calls Tryz.prog 107 #[.slice A n c] w fun e w'=>e = .returned (.int .i64 (zaW l))∧w=w':=by
 unfold maxLen at hn
 have hl:l.length=n:=by have:=h.1;rw [List.length_map] at this;omega
 go_enter Tryz.func107,Tryz.ntmps107
 go_wp2
 have HL:=Lib.hid hl
 clear hl
 go_loop [7] (fun s=>∃ k:Nat,k≤n∧s = .int .i64 k∧Hid (zaW l=zaW (l.drop k))) (fun s=>n - (intOf s).toNat)
 case atStart=>exact ⟨0,Nat.zero_le _,rfl,rfl⟩
 case round=>
  obtain ⟨k,hk,rfl,hf⟩:=hrel
  by_cases h0:k<n
  ·obtain ⟨ad,u,rfl,hb,hu,hcell⟩:=h.at_ h0
   have hkl:k<l.length:=by have:=HL.out;omega
   have hu2:u = .int .i64 l[k]:=by
    rw [List.getElem?_map,List.getElem?_eq_getElem hkl] at hu
    injection hu with hu;exact hu.symm
   have hf2:=hf.out
   rw [List.drop_eq_getElem_cons hkl] at hf2
   generalize l[k]=x at hu2 hf2
   subst hu2
   by_cases hx:x=0
   ·subst hx
    have hf3:Hid (zaW l=zaW (l.drop (k+1))):=by unfold Hid;rw [hf2];rfl
    clear hf2 hu
    go_wp2
    go_round
    case rel=>exact ⟨k+1,by omega,by go_num,hf3⟩
    case measure=>simp [intOf];omega
   ·have hf3:Hid (zaW l=x):=by unfold Hid;rw [hf2];unfold zaW;rw [if_pos hx]
    have hx1:(x != 0)=true:=by simpa using hx
    clear hf2 hu hx
    go_wp2
    go_ret
    exact ⟨by rw [hf3.out];rfl,rfl⟩
  ·have hk2:k=n:=by omega
   have hf3:Hid (zaW l=0):=by
    unfold Hid;rw [hf.out,List.drop_eq_nil_of_le (by have:=HL.out;omega)];rfl
   clear hk2
   go_wp2
   go_ret
   exact ⟨by rw [hf3.out];rfl,rfl⟩
theorem zeT (x y:Int) (w:World) (t:TypeId) (g:Nat) (hg:w.heap.size=g) :
  Calls Tryz.prog 107 #[.slice (some ⟨g,0,none⟩) 2 2] (w.alloc (.cells #[.int .i64 x,.int .i64 y] t)) fun e w'=>e = .returned (.int .i64 (if x≠0 then x else y))∧w.alloc (.cells #[.int .i64 x,.int .i64 y] t)=w':=by
 subst hg
 have h:=zmy (some ⟨w.heap.size,0,none⟩) 2 2 [x,y] (w.alloc (.cells #[.int .i64 x,.int .i64 y] t)) (zae.lit w [.int .i64 x,.int .i64 y] t) (by unfold maxLen;omega)
 have e:zaW [x,y]=if x≠0 then x else y:=by unfold zaW;split<;>(try rfl);unfold zaW;split<;>simp_all [zaW]
 rwa [e] at h
end Go.Proofs.YtmkihdjolnlccaaGreatDoor
namespace Go.Proofs.YtmkihdjolnlccaaGreatDoor
open Go.RowKit Bn
theorem zbC {l:List UInt8} (h:zam l=0) :
  zaw (topL l)=true∧(topL l).length≤600∧(negL l=true→topL l≠[48]) ∧
   (zcF l=true→zaw (botL l)=true∧botL l≠[48]∧botL l≠[49]∧(botL l).length≤600∧Nat.gcd (zaf (topL l)) (zaf (botL l))=1):=by
 unfold zam zaY at h
 by_cases h1:zaw (topL l)=false∨(negL l=true∧topL l=[48])
 ·rw [if_pos h1] at h;cases h
 ·rw [if_neg h1] at h
  by_cases h2:zcF l=true∧(zaw (botL l)=false∨botL l=[48]∨botL l=[49])
  ·rw [if_pos h2] at h;cases h
  ·rw [if_neg h2] at h
   by_cases h3:600<(topL l).length∨600<(botL l).length
   ·rw [if_pos h3] at h;cases h
   ·rw [if_neg h3] at h
    by_cases h4:zcF l=true∧Nat.gcd (zaf (topL l)) (zaf (botL l))≠1
    ·rw [if_pos h4] at h;cases h
    ·refine ⟨by cases hd:zaw (topL l)<;>simp_all,by omega,fun hn e=>h1 (.inr ⟨hn,e⟩),fun hf=>⟨?_,fun e=>h2 ⟨hf,.inr (.inl e)⟩,fun e=>h2 ⟨hf,.inr (.inr e)⟩,by omega,?_⟩⟩
     ·cases hd:zaw (botL l)
      ·exact absurd ⟨hf,.inl hd⟩ h2
      ·rfl
     ·exact Classical.byContradiction fun e=>h4 ⟨hf,e⟩
theorem zcC {l:List UInt8} (h:zaw l=true) (h0:l≠[48]):0<zaf l:=by
 unfold zaw at h
 rw [Bool.and_eq_true,Bool.or_eq_true] at h
 obtain ⟨hd,h | h⟩:=h
 ·exact absurd (by simpa using h) h0
 ·cases l with
  | nil=>simp at h
  | cons c t=>
   simp at h
   have e:zap (c :: t)=(digB (c.toNat:Int) && zap t):=rfl
   rw [e,Bool.and_eq_true] at hd
   have hc:=hd.1
   unfold digB at hc
   simp only [Bool.and_eq_true,decide_eq_true_eq] at hc
   have hne:c.toNat≠48:=fun e=>h (UInt8.toNat_inj.1 (by rw [e];rfl))
   rw [zdY]
   have:0<(c.toNat - 48)*10 ^ t.length:=Nat.mul_pos (by omega) (Nat.pow_pos (by omega))
   omega
theorem zgk {l:List UInt8} (h:zam l=0):0<(zad l).bot:=by
 obtain ⟨_,_,_,hf⟩:=zbC h
 unfold zad
 rw [if_pos h]
 cases hb:zcF l
 ·simp
 ·obtain ⟨h1,h2,_⟩:=hf hb
  simpa using zcC h1 h2
theorem zed {l:List UInt8} (h:zam l=0):(digs (zad l).top).length≤600∧(digs (zad l).bot).length≤600:=by
 obtain ⟨h1,h2,_,hf⟩:=zbC h
 unfold zad
 rw [if_pos h]
 refine ⟨zaD (zaq h1) h2,?_⟩
 cases hb:zcF l
 ·simp only [Bool.false_eq_true,if_false]
  exact Nat.le_trans (digs_length_le (k:=1) (by rw [zfV];omega)) (by omega)
 ·obtain ⟨h3,_,_,h4,_⟩:=hf hb
  simpa using zaD (zaq h3) h4
theorem zok {l:List UInt8} (h:zam l=0):Nat.gcd (zad l).top (zad l).bot=1:=by
 obtain ⟨_,_,_,hf⟩:=zbC h
 unfold zad
 rw [if_pos h]
 cases hb:zcF l
 ·simp
 ·simpa using (hf hb).2.2.2.2
theorem zoo {l:List UInt8} (h:zam l=0):(zad l).neg=true→0<(zad l).top:=by
 obtain ⟨h1,_,h3,_⟩:=zbC h
 unfold zad
 rw [if_pos h]
 intro hn
 exact zcC h1 (h3 hn)
theorem zcL (s:ByteArray) (w:World) (hT:Tabs w) (hs:s.size≤4294967296) :
  Calls Tryz.prog 82 #[.string s] w fun e w'=>e = .returned (.int .i64 (zam s.data.toList))∧Below w.heap.size w w':=by
 have hr:=zdu s w hT hs
 generalize zam s.data.toList=x at hr ⊢
 generalize zad s.data.toList=q at hr
 go_enter Tryz.func82,Tryz.ntmps82
 go_wp2_with fail
 refine hr.mono ?_
 rintro e w1 ⟨v,rfl,⟨A,n,c,A',n',c',rfl,h1,h2⟩,hb⟩
 go_wp2
 go_ret
 exact ⟨rfl,hb.alloc hb.size _⟩
set_option maxHeartbeats 2000000 in
set_option maxRecDepth 100000 in
theorem zft (s t:ByteArray) (w:World) (hT:Tabs w) (hs:s.size≤4294967296) (ht:t.size≤4294967296) :
  Calls Tryz.prog 46 #[.string s,.string t] w fun e w'=>
   e = .returned (.tuple #[.int .i64 (if zam s.data.toList≠0 then 0 else if zam t.data.toList≠0 then 0 else rcmp (zad s.data.toList) (zad t.data.toList)),.int .i64 (if zam s.data.toList≠0 then zam s.data.toList else zam t.data.toList)])∧Below w.heap.size w w':=by
 have hr:=zdu s w hT hs
 have hr2:=fun W:World=>fun h:Tabs W=>zdu t W h ht
 have hl1:=@zed s.data.toList
 have hl2:=@zed t.data.toList
 generalize zam s.data.toList=x at hr hl1 ⊢
 generalize zad s.data.toList=p at hr hl1 ⊢
 generalize zam t.data.toList=y at hr2 hl2 ⊢
 generalize zad t.data.toList=q at hr2 hl2 ⊢
 by_cases hx:x=0
 ·subst hx
  by_cases hy:y=0
  ·subst hy
   obtain ⟨l1,l2⟩:=hl1 rfl
   obtain ⟨l3,l4⟩:=hl2 rfl
   clear hl1 hl2
   simp only [ne_eq,not_true_eq_false,if_false]
   go_enter Tryz.func46,Tryz.ntmps46
   go_wp2_with fail
   refine hr.mono ?_
   rintro e w1 ⟨v,rfl,⟨A1,n1,c1,A2,n2,c2,rfl,h1,h2⟩,hb1⟩
   rw [h1.len] at l1
   rw [h2.len] at l2
   have hb2:Below w1.heap.size w1 (w1.alloc (.cells #[.bool p.neg,.slice A1 n1 c1,.slice A2 n2 c2] 159)):=(Below.refl _ _).alloc (Nat.le_refl _) _
   have hr3:=hr2 _ ((hT.later hb1).later hb2)
   have HR3:=Lib.hid hr3
   clear hr2 hr3 hr
   go_wp2_with fail
   refine HR3.out.mono ?_
   rintro e w3 ⟨v,rfl,⟨A3,n3,c3,A4,n4,c4,rfl,h3,h4⟩,hb3⟩
   rw [h3.len] at l3
   rw [h4.len] at l4
   have hx1:zaj w3 w1.heap.size p.neg (.slice A1 n1 c1) (.slice A2 n2 c2):=(zaj.new w1 _ _ _).below hb3 (by simp)
   have hB3:Below w.heap.size w w3:=(hb1.trans (hb2.mono hb1.size)).trans (hb3.mono (by have:=hb1.size;simp;omega))
   have hb4:Below w3.heap.size w3 (w3.alloc (.cells #[.bool q.neg,.slice A3 n3 c3,.slice A4 n4 c4] 159)):=(Below.refl _ _).alloc (Nat.le_refl _) _
   obtain ⟨x0,x1,x2,_,_,_,xl⟩:=hx1.cells
   clear HR3
   go_wp2_with fail
   refine (zeT 0 0 _ _ _ (by simp)).mono ?_
   rintro e w5 ⟨rfl,rfl⟩
   have hb5:Below w3.heap.size w3 ((w3.alloc (.cells #[.bool q.neg,.slice A3 n3 c3,.slice A4 n4 c4] 159)).alloc (.cells #[.int .i64 0,.int .i64 0] 30)):=hb4.alloc (by simp) _
   have hcm:=zgv p q A1 A2 A3 A4 n1 c1 n2 c2 n3 c3 n4 c4 _ (((((h1.later hb2).later hb3)).later hb5)) (((((h2.later hb2).later hb3)).later hb5)) (h3.later hb5) (h4.later hb5) (by omega) (by omega) (by omega) (by omega)
   have HCM:=Lib.hid hcm
   clear hcm
   go_wp2_with fail
   refine HCM.out.mono ?_
   rintro e w6 ⟨rfl,hb6⟩
   go_wp2
   go_ret2
   exact ⟨rfl,(hB3.trans (hb5.mono hB3.size)).trans (hb6.mono (by have:=hB3.size;simp;omega))⟩
  ·have HV:Hid (y≠0):=hy
   have hyb:(y != 0)=true:=by simpa using hy
   simp only [ne_eq,not_true_eq_false,if_false,hy,not_false_eq_true,if_true]
   clear hl1 hl2 hy
   go_enter Tryz.func46,Tryz.ntmps46
   go_wp2_with fail
   refine hr.mono ?_
   rintro e w1 ⟨v,rfl,⟨A1,n1,c1,A2,n2,c2,rfl,h1,h2⟩,hb1⟩
   have hb2:Below w1.heap.size w1 (w1.alloc (.cells #[.bool p.neg,.slice A1 n1 c1,.slice A2 n2 c2] 159)):=(Below.refl _ _).alloc (Nat.le_refl _) _
   have hr3:=hr2 _ ((hT.later hb1).later hb2)
   have HR3:=Lib.hid hr3
   clear hr2 hr3 hr
   go_wp2_with fail
   refine HR3.out.mono ?_
   rintro e w3 ⟨v,rfl,⟨A3,n3,c3,A4,n4,c4,rfl,h3,h4⟩,hb3⟩
   have hB3:Below w.heap.size w w3:=(hb1.trans (hb2.mono hb1.size)).trans (hb3.mono (by have:=hb1.size;simp;omega))
   clear HR3
   go_wp2_with fail
   refine (zeT 0 y _ _ _ (by simp)).mono ?_
   rintro e w5 ⟨rfl,rfl⟩
   go_wp2
   go_ret2
   exact ⟨rfl,(hB3.alloc hB3.size _).alloc (by have:=hB3.size;simp;omega) _⟩
 ·have hxb:(x != 0)=true:=by simpa using hx
  simp only [ne_eq,hx,not_false_eq_true,if_true]
  clear hl1 hl2
  go_enter Tryz.func46,Tryz.ntmps46
  go_wp2_with fail
  refine hr.mono ?_
  rintro e w1 ⟨v,rfl,⟨A1,n1,c1,A2,n2,c2,rfl,h1,h2⟩,hb1⟩
  have hb2:Below w1.heap.size w1 (w1.alloc (.cells #[.bool p.neg,.slice A1 n1 c1,.slice A2 n2 c2] 159)):=(Below.refl _ _).alloc (Nat.le_refl _) _
  have hr3:=hr2 _ ((hT.later hb1).later hb2)
  have HR3:=Lib.hid hr3
  clear hr2 hr3 hr
  go_wp2_with fail
  refine HR3.out.mono ?_
  rintro e w3 ⟨v,rfl,⟨A3,n3,c3,A4,n4,c4,rfl,h3,h4⟩,hb3⟩
  have hB3:Below w.heap.size w w3:=(hb1.trans (hb2.mono hb1.size)).trans (hb3.mono (by have:=hb1.size;simp;omega))
  clear HR3
  go_wp2_with fail
  refine (zeT x y _ _ _ (by simp)).mono ?_
  rintro e w5 ⟨rfl,rfl⟩
  simp only [ne_eq,hx,not_false_eq_true,if_true]
  go_wp2
  go_ret2
  exact ⟨rfl,(hB3.alloc hB3.size _).alloc (by have:=hB3.size;simp;omega) _⟩
end Go.Proofs.YtmkihdjolnlccaaGreatDoor
namespace Go.Proofs.YtmkihdjolnlccaaGreatDoor.Dec
open Go.Lib
def dgt (n:Nat):UInt8:=UInt8.ofNat (48+n)
def pad:Nat→Nat→List UInt8
 | 0,_=>[]
 | k+1,r=>pad k (r / 10)++[dgt (r % 10)]
theorem dec_lt {u:Nat} (h:u<10):decDigits u=[dgt u]:=by rw [decDigits,dif_pos h];rfl
theorem dec_ge {u:Nat} (h:¬ u<10):decDigits u=decDigits (u / 10)++[dgt (u % 10)]:=by rw [decDigits,dif_neg h];rfl
theorem pad_length (k r:Nat):(pad k r).length=k:=by
 induction k generalizing r with
 | zero=>rfl
 | succ k ih=>simp [pad,ih]
theorem dec_append (k q r:Nat) (hq:0<q) (hr:r<10 ^ k):decDigits (q*10 ^ k+r)=decDigits q++pad k r:=by
 induction k generalizing r with
 | zero=>
  have:r=0:=by simpa using hr
  subst this
  simp [pad]
 | succ k ih=>
  rw [Nat.pow_succ] at hr
  have hp:0<10 ^ k:=Nat.pow_pos (by omega)
  have h1:¬ q*10 ^ (k+1)+r<10:=by
   rw [Nat.pow_succ]
   have:1*(10 ^ k*10)≤q*(10 ^ k*10):=Nat.mul_le_mul_right _ hq
   omega
  have h2:(q*10 ^ (k+1)+r) / 10=q*10 ^ k+r / 10:=by
   rw [Nat.pow_succ,←Nat.mul_assoc];omega
  have h3:(q*10 ^ (k+1)+r) % 10=r % 10:=by
   rw [Nat.pow_succ,←Nat.mul_assoc];omega
  rw [dec_ge h1,h2,h3,ih (r / 10) (by omega),pad,List.append_assoc]
theorem pad_dec (k r:Nat) (hk:0<k) (hr:r<10 ^ k):pad k r=List.replicate (k - (decDigits r).length) 48++decDigits r:=by
 induction k generalizing r with
 | zero=>omega
 | succ k ih=>
  rw [pad]
  rcases Nat.eq_zero_or_pos k with rfl | hk0
  ·have h1:r<10:=by simpa using hr
   rw [dec_lt h1,Nat.mod_eq_of_lt h1];simp [pad]
  ·rw [Nat.pow_succ] at hr
   rw [ih (r / 10) hk0 (by omega)]
   by_cases h1:r<10
   ·have h0:r / 10=0:=by omega
    rw [h0,dec_lt h1,dec_lt (by omega:0<10),Nat.mod_eq_of_lt h1]
    simp only [List.length_singleton,Nat.add_sub_cancel]
    have e:k=(k - 1)+1:=by omega
    rw [show List.replicate k (48:UInt8)=List.replicate (k - 1) 48++[48] from by rw [←List.replicate_succ',←e]]
    rfl
   ·rw [dec_ge h1,List.length_append,List.length_singleton]
    have hl:(decDigits (r / 10)).length+1≤k+1∨True := .inr trivial
    rw [show k+1 - ((decDigits (r / 10)).length+1)=k - (decDigits (r / 10)).length from by omega,List.append_assoc]
theorem dec_length_le {k r:Nat} (hk:0<k) (hr:r<10 ^ k):(decDigits r).length≤k:=by
 have h:=congrArg List.length (pad_dec k r hk hr)
 rw [pad_length,List.length_append,List.length_replicate] at h
 omega
theorem dec_length_pos (r:Nat):0<(decDigits r).length:=by
 by_cases h:r<10
 ·rw [dec_lt h];simp
 ·rw [dec_ge h];simp
def T:Nat:=10000000000000000000
theorem T_def:T=10000000000000000000:=rfl
theorem T_pow:T=10 ^ 19:=by decide
theorem T_pos:0<T:=by decide
theorem dec_chunk (x k:Nat) (hq:0<x / T ^ (k+1)) :
  decDigits (x / T ^ k)=decDigits (x / T ^ (k+1))++(List.replicate (19 - (decDigits (x / T ^ k % T)).length) 48++decDigits (x / T ^ k % T)):=by
 have h1:x / T ^ (k+1)=x / T ^ k / T:=by rw [Nat.pow_succ,Nat.div_div_eq_div_mul]
 rw [h1] at hq ⊢
 generalize x / T ^ k=y at *
 have hr:y % T<10 ^ 19:=by rw [←T_pow];exact Nat.mod_lt _ T_pos
 rw [←pad_dec 19 (y % T) (by omega) hr,←dec_append 19 (y / T) (y % T) hq hr,←T_pow,Nat.mul_comm (y / T) T,Nat.div_add_mod]
def chunks (x k:Nat):List Nat:=(List.range k).map fun j=>x / T ^ j % T
theorem chunks_succ (x k:Nat):chunks x (k+1)=chunks x k++[x / T ^ k % T]:=by simp [chunks,List.range_succ]
theorem chunks_get (x k j:Nat) (h:j<k):(chunks x k).getD j 0=x / T ^ j % T:=by simp [chunks,List.getD,h]
end Go.Proofs.YtmkihdjolnlccaaGreatDoor.Dec
namespace Go.Proofs.YtmkihdjolnlccaaGreatDoor
open Go.RowKit
theorem zn4:(Tryz.prog.info? 257).map (·.size)=some 2:=by kernel_rfl
theorem zsp:liesAt Tryz.prog Tryz.prog.depth 257 (2 / Tryz.prog.cellsOf 257) 0 257 1=true:=by kernel_rfl
set_option maxHeartbeats 1000000 in
theorem zgD (b:Nat) (w:World) (h0:w.cell? ⟨b,0,none⟩=some (.pointer (some ⟨b,0,none⟩))) :
  Calls Tryz.prog 253 #[.pointer (some ⟨b,0,none⟩)] w fun e w'=>e = .returned (.tuple #[])∧w'=w:=by
 obtain ⟨j,hj,_⟩:=Option.map_eq_some_iff.1 zn4
 have hne:=Lib.run_neq_ptr_same w ⟨b,0,none⟩ Tryz.underlying254 hj
 go_enter Tryz.func253,Tryz.ntmps253
 go_wp2
 go_end0
 exact ⟨rfl,rfl⟩
set_option maxHeartbeats 1000000 in
theorem zfW (b:Nat) (w:World) (h0:w.cell? ⟨b,0,none⟩=some (.pointer none)) (hsh:w.shape? b=some (257,2)) (hfz:w.frozen? ⟨b,0,none⟩=false) :
  Calls Tryz.prog 253 #[.pointer (some ⟨b,0,none⟩)] w fun e w'=>e = .returned (.tuple #[])∧w'=w.setCell ⟨b,0,none⟩ (.pointer (some ⟨b,0,none⟩)):=by
 obtain ⟨j,hj,hjs⟩:=Option.map_eq_some_iff.1 zn4
 have a1:=Lib.run_to_unsafe w ⟨b,0,none⟩ Tryz.underlying254 Tryz.underlying293 hj (by rw [hjs];decide) hsh (Nat.zero_lt_succ 1)
 have a2:=Lib.run_from_unsafe w ⟨b,0,none⟩ Tryz.underlying293 Tryz.underlying254 hj hsh zsp
 have a3:∀ x:Value,(callFunc 265 #[x]).run Tryz.prog w = .ok (.value x) w:=fun x=>by
  rw [run_callFunc_extern Tryz.func265 (by kernel_rfl) (by kernel_rfl) (by kernel_rfl) (e:=Extern.AbiNoEscape.same) (by kernel_rfl),Lib.run_noEscape]
  rfl
 have hne:∀ W:World,(binOp .neq 254 (.pointer (some ⟨b,0,none⟩)) (.pointer (some ⟨b,0,none⟩))).run Tryz.prog W = .ok (.bool false) W:=fun W=>Lib.run_neq_ptr_same W ⟨b,0,none⟩ Tryz.underlying254 hj
 clear hjs hj
 go_enter Tryz.func253,Tryz.ntmps253
 go_wp2
 go_end0
 exact ⟨rfl,rfl⟩
theorem zhh (B b:Nat) (bs:List Value) (w:World) (h:Lib.IsBuilder 257 5 B b bs w) :
  Calls Tryz.prog 253 #[.pointer (some ⟨b,0,none⟩)] w fun e w'=>e = .returned (.tuple #[])∧(Lib.BuilderAt 257 5 B b (.pointer (some ⟨b,0,none⟩)) bs w'∧Below B w w'):=by
 rcases h with h | h
 ·refine (zfW b w h.cell0 h.shape h.frozen0).mono ?_
  rintro e w' ⟨rfl,rfl⟩
  exact ⟨rfl,h.used _,(Below.refl B w).setCell (p:=⟨b,0,none⟩) h.1 _⟩
 ·refine (zgD b w h.cell0).mono ?_
  rintro e w' ⟨rfl,rfl⟩
  exact ⟨rfl,h,Below.refl B _⟩
theorem zse:(Tryz.prog.info? 5).map (fun i=>(i.zero,i.size,i.bytes))=some (some (.int .u8 0),1,1):=by kernel_rfl
set_option maxHeartbeats 1000000 in
theorem zbq (B b:Nat) (bs:List Value) (s:ByteArray) (w:World) (h:Lib.IsBuilder 257 5 B b bs w) (hlen:bs.length+s.size≤140737488355328) (hBw:B≤w.heap.size) :
  Calls Tryz.prog 220 #[.pointer (some ⟨b,0,none⟩),.string s] w fun e w'=>e = .returned (.tuple #[.int .i64 s.size,.nilIface])∧(Lib.BuilderAt 257 5 B b (.pointer (some ⟨b,0,none⟩)) (bs++Lib.strCells s) w'∧Below B w w'):=by
 obtain ⟨i0,hi,hz0,hz1,hz2⟩:=info_parts zse
 go_enter Tryz.func220,Tryz.ntmps220
 go_wp2_with fail
 refine (zhh B b bs _ h).mono ?_
 rintro e w1 ⟨rfl,h1,hb1⟩
 obtain ⟨hB,v,hbk,hown,hne⟩:=h1
 have c0:w1.cell? ⟨b,0,none⟩=some (.pointer (some ⟨b,0,none⟩)):=by rw [Lib.cell_of_heap hbk];rfl
 have c1:w1.cell? ⟨b,1,none⟩=some v:=by rw [Lib.cell_of_heap hbk];rfl
 go_wp2_with (at_builtin;refine Lib.wpList_append_own_string _ rfl _ _ 255 9 rfl B 5 i0 Tryz.underlying255 Tryz.underlying9 hi hz0 hz1 hz2 _ _ _ rfl hown s rfl ?c3 ?c4 ?c5 ?_)
 case c3=>unfold maxLen;omega
 case c4=>omega
 case c5=>have:=hb1.size;omega
 intro v' w2 hown' hgrow _
 have hlt:b<w1.heap.size:=by
  rcases Nat.lt_or_ge b w1.heap.size with h' | h'
  ·exact h'
  ·simp [Array.getElem?_eq_none h'] at hbk
 have hb2:w2.heap[b]? = some (.cells #[.pointer (some ⟨b,0,none⟩),v] 257 (0,0)):=by
  rw [hgrow.block b hlt (fun e=>hne e.symm)]
  exact hbk
 have d0:w2.cell? ⟨b,0,none⟩=some (.pointer (some ⟨b,0,none⟩)):=by rw [Lib.cell_of_heap hb2];rfl
 have d1:w2.cell? ⟨b,1,none⟩=some v:=by rw [Lib.cell_of_heap hb2];rfl
 have f1:w2.frozen? ⟨b,1,none⟩=false:=Lib.frozen_of_heap hb2 1
 obtain ⟨ao,n',cap,rfl⟩:∃ ao n' cap,v' = .slice ao n' cap:=by
  rcases hown'.2 with ⟨hv,_⟩ | ⟨g,cap,cur,hv,_⟩
  ·exact ⟨_,_,_,hv⟩
  ·exact ⟨_,_,_,hv⟩
 go_wp2
 go_ret2
 refine ⟨rfl,?_,?_⟩
 ·exact Lib.BuilderAt.put (T:=257) (e:=5) hB hb2 (bs':=bs++Lib.strCells s) (by simpa [Lib.strCells_length] using hown') (by decide)
 ·exact (hb1.grown hgrow (by have:=hb1.size;omega) (fun k hk=>(hown.lt k hk).1)).setCell (p:=⟨b,1,none⟩) hB _
end Go.Proofs.YtmkihdjolnlccaaGreatDoor
namespace Go.Proofs.YtmkihdjolnlccaaGreatDoor
open Go.RowKit Go.Lib Go.Sort
set_option maxHeartbeats 2000000 in
set_option maxRecDepth 100000 in
theorem zhG (u:Nat) (hu64:u<18446744073709551616) (w:World) (hT:Tabs w) :
  Calls Tryz.prog 254 #[.int .u64 u,.int .i64 10] w fun e w'=>e = .returned (.string ⟨(Lib.decDigits u).toArray⟩)∧Below w.heap.size w w':=by
 by_cases hs:u<100
 ·have hw:IntKind.i64.wrap (u:Int)=(u:Int):=IntWalk.i64_in _ (by omega)
  have hd:decide ((u:Int)<100)=true:=by simp;omega
  go_enter Tryz.func254,Tryz.ntmps254
  go_wp2_with fail
  refine (Tryz.internal_strconv_small u hs _).mono ?_
  rintro e w1 ⟨rfl,rfl⟩
  go_wp2
  go_ret
  exact ⟨rfl,Below.refl _ _⟩
 ·have hd:decide ((u:Int)<100)=false:=by simp;omega
  have hu1:1≤u:=by omega
  have hnd20:Lib.nDigits u≤20:=by have:=Lib.numDigits_eq u hu1 hu64;split at this<;>omega
  have hal:Tryz.prog.arrayLen 296=24:=by kernel_rfl
  have hsl:∀ W,(Instr.sliceAt 296 (.pointer (some ⟨w.heap.size,0,none⟩)) none (some (.int .i64 (Lib.nDigits u:Int))) none).run Tryz.prog W = .ok (.slice (some ⟨w.heap.size,0,none⟩) (Lib.nDigits u) 24) W:=fun W=>by
   rw [run_sliceAt_array_h W 296 ⟨w.heap.size,0,none⟩ (by kernel_rfl) .i64 (Lib.nDigits u:Int) (by omega) (by rw [hal];omega)]
   go_simp
  have hH0:=Lib.holds_zero0 w 296 (Lib.nDigits u) (by omega)
  have hfmt:=Tryz.internal_strconv_formatBase10 w.heap.size 0 24 u (Array.replicate (Lib.nDigits u) 0) (w.alloc (.cells Lib.zeros24 296)) hH0 (by rw [Array.size_replicate];exact Lib.lt_pow_nDigits u) hu64 (by rw [Array.size_replicate];omega)
  rw [Array.size_replicate] at hfmt
  have HH0:=Lib.hid hH0
  have HN:=Lib.hid (Tryz.internal_strconv_numDigits u hu1 hu64 (w.alloc (.cells Lib.zeros24 296)) (Lib.tabIs_alloc hT.pow _))
  clear hH0 hal hu1
  go_enter Tryz.func254,Tryz.ntmps254
  go_wp2_with fail
  refine HN.out.mono ?_
  rintro e w1 ⟨rfl,rfl⟩
  go_wp2_with fail
  refine hfmt.mono ?_
  rintro e w' ⟨rfl,k,v',dk,rfl,hF⟩
  have hcv:(convert 255 9 (.slice (some ⟨w.heap.size,0,none⟩) (Lib.nDigits u) 24)).run Tryz.prog ((putRow (fun (b:UInt8)=>Value.int .u8 (b.toNat:Int)) (w.alloc (.cells Lib.zeros24 296)) w.heap.size 0 dk).drewN k) = .ok (.string ⟨(Lib.decDigits u).toArray⟩) ((putRow (fun (b:UInt8)=>Value.int .u8 (b.toNat:Int)) (w.alloc (.cells Lib.zeros24 296)) w.heap.size 0 dk).drewN k):=by
   have h:=run_convert_bytes_back (P:=Tryz.prog) ((putRow (fun (b:UInt8)=>Value.int .u8 (b.toNat:Int)) (w.alloc (.cells Lib.zeros24 296)) w.heap.size 0 dk).drewN k) 255 9 5 ⟨w.heap.size,0,none⟩ 24 (Lib.decDigits u) Tryz.underlying255 Tryz.underlying5 Tryz.underlying9 (fun j hj=>by
    rw [Lib.row_is_numeral hF j hj,Lib.add_plain,World.cell?_drewN]
    exact cell?_putRow (fun (b:UInt8)=>Value.int .u8 (b.toNat:Int)) _ w.heap.size 0 _ dk HH0.out (by rw [hF.size,Array.size_replicate]) j (by rw [hF.size];rw [Lib.decDigits_length] at hj;exact hj))
   rw [Lib.decDigits_length] at h
   exact h
  have hB:Below w.heap.size w ((putRow (fun (b:UInt8)=>Value.int .u8 (b.toNat:Int)) (w.alloc (.cells Lib.zeros24 296)) w.heap.size 0 dk).drewN k):=by
   refine zab ?_ k
   rw [alloc_eq_grow]
   obtain ⟨os',_,e⟩:=putRow_grow_new (fun (b:UInt8)=>Value.int .u8 (b.toNat:Int)) w #[.cells Lib.zeros24 296] w.heap.size 0 dk (Nat.le_refl _)
   rw [e]
   have h:=below_grow w.heap.size w (Nat.le_refl _) 0 os'
   rwa [World.drewN_zero] at h
  go_wp2
  go_ret
  exact ⟨rfl,hB⟩
theorem zcz (u:Nat) (hu64:u<18446744073709551616) (w:World) (hT:Tabs w) :
  Calls Tryz.prog 221 #[.int .u64 u,.int .i64 10] w fun e w'=>e = .returned (.string ⟨(Lib.decDigits u).toArray⟩)∧Below w.heap.size w w':=by
 have h:=zhG u hu64 w hT
 generalize (⟨(Lib.decDigits u).toArray⟩:ByteArray)=s at h ⊢
 go_enter Tryz.func221,Tryz.ntmps221
 go_wp2_with fail
 refine h.mono ?_
 rintro e w1 ⟨rfl,hb⟩
 go_wp2
 go_ret
 exact ⟨rfl,hb⟩
end Go.Proofs.YtmkihdjolnlccaaGreatDoor
