/- Contracts of probe's checkRecords, checkSkews, commonTimes, of valid records and skews. -/
import Derived.Test.YtmkihdjolnlccaaGreatDoorQRkd4
import Derived.Test.YtmkihdjolnlccaaGreatDoorQTrn
import Derived.IntWalk
import Derived.Test.YtmkihdjolnlccaaGreatDoorQDp
namespace Go.Proofs.YtmkihdjolnlccaaGreatDoor
open Go.RowKit
open Flt
structure Valid (rows:List (List Nat)) (sk:List Int):Prop where
 some_:1≤rows.length
 few:rows.length≤8
 len:∀ r ∈ rows,r.length≤4096
 fin:∀ r ∈ rows,∀ x ∈ r,fin Ieee.single x=true
 same:sk.length=rows.length
 small:∀ s ∈ sk, -1000≤s∧s≤1000
theorem ze5 (n:Nat):zaW (List.replicate n 0)=0:=by
 induction n with
 | zero=>rfl
 | succ n ih=>rw [List.replicate_succ];unfold zaW;rw [if_neg (fun h=>h rfl)];exact ih
theorem znn (args:Array Value) (w:World):(callFunc 69 args).run Tryz.prog w = .ok (.enter 69 args) w:=by kernel_rfl
theorem zoT (args:Array Value) (w:World):(callFunc 207 args).run Tryz.prog w = .ok (.enter 207 args) w:=by kernel_rfl
theorem zrY (s:Int) (w:World) (h1 : -1000≤s) (h2:s≤1000):Calls Tryz.prog 207 #[.int .i64 s] w fun e w'=>e = .returned (.int .i64 0)∧w=w':=by
 have hR:=zbb s (-1000) 1000 w
 have e:zax s (-1000) 1000=0:=by unfold zax;rw [if_neg (by omega)]
 rw [e] at hR
 have HR:=Lib.hid hR
 clear hR e
 go_enter Tryz.func207,Tryz.ntmps207
 go_wp2_with fail
 refine HR.out.mono ?_
 rintro e w1 ⟨rfl,rfl⟩
 go_wp2_with fail
 go_ret
 exact ⟨rfl,rfl⟩
theorem zeM (w:World) (row:Option Nat):w.grownBy w row:=⟨rfl,rfl,rfl,Nat.le_refl _,fun _ _ _=>rfl⟩
set_option maxHeartbeats 1000000 in
theorem zfA (A:Option Addr) (n c:Nat) (rows:List (List Nat)) (w:World) (h:zcG f32v w w.heap.size A n rows) (h1:1≤n) (h8:n≤8) (hlen:∀ r ∈ rows,r.length≤4096) (hfin:∀ r ∈ rows,∀ x ∈ r,fin Ieee.single x=true) :
  Calls Tryz.prog 139 #[.slice A n c] w fun e w'=>e = .returned (.int .i64 0)∧Below w.heap.size w w':=by
 have hd0:((n:Int)==0)=false:=by rw [beq_eq_false_iff_ne];omega
 have e1:(if (8:Int)<(n:Int) then (5:Int) else 0)=0:=if_neg (by omega)
 have H1:=zgE A n c 8 w
 rw [e1] at H1
 have K1:=Lib.hid H1
 obtain ⟨hl,vs,hr,hv⟩:=h
 have HT:=ztC 69 #[] none (fun _ _=>True) A n c vs (List.replicate n 0) w znn (by omega) hr (by simp) (fun b hb=>by cases hb) trivial (fun _ _ _ _ _=>trivial) (by
  intro W i x y hi hg _ hx hy
  rw [List.getElem?_replicate,if_pos hi] at hy
  injection hy with hy
  subst hy
  obtain ⟨A',c',h2,h3,h4,h5⟩:=hv i (by omega)
  rw [hx] at h2
  injection h2 with h2
  subst h2
  have hm:=List.getElem_mem (l:=rows) (n:=i) (by omega)
  have hc:=zbz A' rows[i].length c' rows[i] W (h5.later (zgr hg (Nat.le_refl _))) (hfin _ hm) (hlen _ hm)
  refine hc.mono ?_
  rintro e w' ⟨rfl,rfl⟩
  exact ⟨rfl,zeM _ _,trivial⟩)
 have K2:=Lib.hid HT
 clear H1 HT e1 hr hv hl hlen hfin
 go_enter Tryz.func139,Tryz.ntmps139
 go_wp2_with fail
 refine K1.out.mono ?_
 rintro e w1 ⟨rfl,rfl⟩
 go_wp2_with fail
 refine K2.out.mono ?_
 rintro e w1 ⟨rfl,ho,hg,_⟩
 have hf:=zcb (some ⟨w.heap.size,0,none⟩) n n (List.replicate n 0) w1 (zae.of_own ho) (by unfold maxLen;omega)
 rw [ze5] at hf
 have K3:=Lib.hid hf
 clear hf ho
 have hb:=zgr hg (Nat.le_refl _)
 clear hg
 go_wp2_with fail
 refine K3.out.mono ?_
 rintro e w2 ⟨rfl,rfl⟩
 go_wp2_with fail
 go_ret
 exact ⟨rfl,hb⟩
set_option maxHeartbeats 1000000 in
theorem zhN (A:Option Addr) (n c:Nat) (sk:List Int) (w:World) (h:zae w w.heap.size 1 A n (sk.map i64v)) (hn:n≤8) (hs:∀ s ∈ sk, -1000≤s∧s≤1000) :
  Calls Tryz.prog 140 #[.slice A n c,.int .i64 n] w fun e w'=>e = .returned (.int .i64 0)∧Below w.heap.size w w':=by
 have hd0:((n:Int) != (n:Int))=false:=by simp
 have HT:=zsS 207 #[] none (fun _ _=>True) A n c (sk.map i64v) (List.replicate n 0) w zoT (by omega) h (by simp) (fun b hb=>by cases hb) trivial (fun _ _ _ _ _=>trivial) (by
  intro W i x y hi hg _ hx hy
  rw [List.getElem?_replicate,if_pos hi] at hy
  injection hy with hy
  subst hy
  have hil:i<sk.length:=by have:=h.lenM;omega
  rw [List.getElem?_map,List.getElem?_eq_getElem hil] at hx
  injection hx with hx
  subst hx
  have hm:=hs _ (List.getElem_mem hil)
  refine (zrY sk[i] W hm.1 hm.2).mono ?_
  rintro e w' ⟨rfl,rfl⟩
  exact ⟨rfl,zeM _ _,trivial⟩)
 have K2:=Lib.hid HT
 clear HT h hs
 go_enter Tryz.func140,Tryz.ntmps140
 go_wp2_with fail
 refine K2.out.mono ?_
 rintro e w1 ⟨rfl,ho,hg,_⟩
 have hf:=zcb (some ⟨w.heap.size,0,none⟩) n n (List.replicate n 0) w1 (zae.of_own ho) (by unfold maxLen;omega)
 rw [ze5] at hf
 have K3:=Lib.hid hf
 clear hf ho
 have hb:=zgr hg (Nat.le_refl _)
 clear hg
 go_wp2_with fail
 refine K3.out.mono ?_
 rintro e w2 ⟨rfl,rfl⟩
 go_wp2_with fail
 go_ret
 exact ⟨rfl,hb⟩
def frT (sk:List Int):Int:=sk.foldl (fun a s=>max a (-s)) (-1000)
def toT (rows:List (List Nat)) (sk:List Int):Int:=(rows.zip sk).foldl (fun a p=>min a ((p.1.length:Int) - p.2)) 5096
set_option maxHeartbeats 1000000 in
theorem zgw (A A':Option Addr) (n c c':Nat) (rows:List (List Nat)) (sk:List Int) (w:World) (h:zcG f32v w w.heap.size A n rows) (h':zae w w.heap.size 1 A' n (sk.map i64v)) (hn:n≤8) (hlen:∀ r ∈ rows,r.length≤4096) (hs:∀ s ∈ sk, -1000≤s∧s≤1000) :
  Calls Tryz.prog 141 #[.slice A n c,.slice A' n c'] w fun e w'=>e = .returned (.tuple #[.int .i64 (frT sk),.int .i64 (toT rows sk)])∧w=w':=by
 have hl:=h.1
 have hl':=h'.lenM
 have HL:=Lib.hid hl
 have HL':=Lib.hid hl'
 have HLEN:=Lib.hid hlen
 have HS:=Lib.hid hs
 clear hl hl' hlen hs
 go_enter Tryz.func141,Tryz.ntmps141
 go_wp2
 go_loop [6,7,12] (fun p q s=>∃ k:Nat,k≤n∧s = .int .i64 k∧∃ a b:Int,p = .int .i64 a∧q = .int .i64 b∧Hid (a=frT (sk.take k))∧Hid (b=toT (rows.take k) (sk.take k)) ∧ -1000≤a∧a≤1000 ∧ -1000≤b∧b≤5096) (fun _ _ s=>n - (intOf s).toNat)
 case atStart=>exact ⟨0,Nat.zero_le _,rfl, -1000,5096,rfl,rfl,by simp [Hid,frT],by simp [Hid,toT],by omega,by omega,by omega,by omega⟩
 case round=>
  obtain ⟨k,hk,rfl,a,b,rfl,rfl,ha,hb,a1,a2,b1,b2⟩:=hrel
  by_cases h0:k<n
  ·obtain ⟨ad,hkl,A1,c1,rfl,hbb,hcell,hlc,hcm,hrd⟩:=h.row h0
   obtain ⟨ad',hkl',rfl,hbb',hcell'⟩:=h'.cellM h0
   have hL:=HLEN.out rows[k] (List.getElem_mem hkl)
   have hS:=HS.out sk[k] (List.getElem_mem hkl')
   have hfa:frT (sk.take (k+1))=max a (-sk[k]):=by
    unfold frT at ha ⊢
    rw [List.take_succ_eq_append_getElem hkl',List.foldl_append,←ha.out];rfl
   have hfb:toT (rows.take (k+1)) (sk.take (k+1))=min b ((rows[k].length:Int) - sk[k]):=by
    unfold toT at hb ⊢
    rw [List.take_succ_eq_append_getElem hkl',List.take_succ_eq_append_getElem hkl,List.zip_append (by rw [List.length_take,List.length_take];omega),List.foldl_append,←hb.out];rfl
   unfold i64v at hcell'
   generalize rows[k].length=L at *
   generalize sk[k]=s at *
   have HFA:=Lib.hid hfa
   have HFB:=Lib.hid hfb
   clear hfa hfb
   go_wp2
   go_round
   case rel=>
    exact ⟨k+1,by omega,by go_num,_,_,rfl,rfl,HFA.out.symm,HFB.out.symm,by omega,by omega,by omega,by omega⟩
   case measure=>simp [intOf];omega
  ·obtain rfl:k=n:=by omega
   have h5:=ha.out
   have h6:=hb.out
   have t1:sk.take k=sk:=List.take_of_length_le (by rw [HL'.out];exact Nat.le_refl _)
   have t2:rows.take k=rows:=List.take_of_length_le (by rw [HL.out];exact Nat.le_refl _)
   rw [t1] at h5 h6
   rw [t2] at h6
   clear t1 t2
   have H5:=Lib.hid h5
   have H6:=Lib.hid h6
   clear h5 h6
   go_wp2
   go_ret2
   exact ⟨by rw [←H5.out,←H6.out];rfl,rfl⟩
theorem ztn (sk:List Int):∀ s ∈ sk, -s≤frT sk:=by
 have h:∀ (l:List Int) (a:Int),a≤l.foldl (fun a s=>max a (-s)) a∧∀ s ∈ l, -s≤l.foldl (fun a s=>max a (-s)) a:=by
  intro l
  induction l with
  | nil=>intro a;exact ⟨Int.le_refl _,fun s hs=>by cases hs⟩
  | cons x t ih=>
   intro a
   rw [List.foldl_cons]
   obtain ⟨h1,h2⟩:=ih (max a (-x))
   refine ⟨by omega,fun s hs => ?_⟩
   rcases List.mem_cons.1 hs with rfl | hs
   ·omega
   ·exact h2 s hs
 exact (h sk (-1000)).2
theorem zsP (sk:List Int) (hs:∀ s ∈ sk, -1000≤s∧s≤1000) : -1000≤frT sk∧frT sk≤1000:=by
 have h:∀ (l:List Int) (a:Int),(∀ s ∈ l, -1000≤s∧s≤1000) → -1000≤a→a≤1000 → -1000≤l.foldl (fun a s=>max a (-s)) a∧l.foldl (fun a s=>max a (-s)) a≤1000:=by
  intro l
  induction l with
  | nil=>intro a _ h1 h2;exact ⟨h1,h2⟩
  | cons x t ih=>
   intro a hl h1 h2
   rw [List.foldl_cons]
   have:=hl x (by simp)
   exact ih _ (fun s hs=>hl s (by simp [hs])) (by omega) (by omega)
 exact h sk (-1000) hs (by omega) (by omega)
theorem zs8 (rows:List (List Nat)) (sk:List Int) (hl:sk.length=rows.length) (i:Nat) (h:i<rows.length) (h2:i<sk.length):toT rows sk≤(rows[i].length:Int) - sk[i]:=by
 have hg:∀ (l:List (List Nat × Int)) (a:Int),l.foldl (fun a p=>min a ((p.1.length:Int) - p.2)) a≤a∧∀ p ∈ l,l.foldl (fun a p=>min a ((p.1.length:Int) - p.2)) a≤(p.1.length:Int) - p.2:=by
  intro l
  induction l with
  | nil=>intro a;exact ⟨Int.le_refl _,fun s hs=>by cases hs⟩
  | cons x t ih=>
   intro a
   rw [List.foldl_cons]
   obtain ⟨h1,h2⟩:=ih (min a ((x.1.length:Int) - x.2))
   refine ⟨by omega,fun s hs => ?_⟩
   rcases List.mem_cons.1 hs with rfl | hs
   ·omega
   ·exact h2 s hs
 have hm:(rows[i],sk[i]) ∈ rows.zip sk:=by
  rw [List.mem_iff_getElem]
  exact ⟨i,by rw [List.length_zip];omega,by rw [List.getElem_zip]⟩
 exact (hg (rows.zip sk) 5096).2 _ hm
theorem zsZ (rows:List (List Nat)) (sk:List Int):toT rows sk≤5096:=by
 have hg:∀ (l:List (List Nat × Int)) (a:Int),l.foldl (fun a p=>min a ((p.1.length:Int) - p.2)) a≤a:=by
  intro l
  induction l with
  | nil=>intro a;exact Int.le_refl _
  | cons x t ih=>
   intro a
   rw [List.foldl_cons]
   have:=ih (min a ((x.1.length:Int) - x.2))
   omega
 exact hg _ _
def alg1 (fr tt:Int) (r:List Nat) (s:Int):List Nat:=((r.drop (fr+s).toNat).take (tt - fr).toNat).map posz
def algR (rows:List (List Nat)) (sk:List Int):List (List Nat):=List.zipWith (alg1 (frT sk) (toT rows sk)) rows sk
end Go.Proofs.YtmkihdjolnlccaaGreatDoor
namespace Go.Proofs.YtmkihdjolnlccaaGreatDoor
open Go.RowKit
def Grow {α:Type} (f : α→Value) (tS tE:TypeId) (W:World) (B:Nat) (v:Value) (n:Nat) (rows:List (List α)):Prop:=
 rows.length=n∧∃ vs:List Value,W.ownsRow B tS 1 v n vs∧∀ i (h:i<rows.length),∃ u,vs[i]? = some u∧W.ownsRow B tE 1 u rows[i].length (rows[i].map f)
section
variable {α:Type} {f : α→Value} {tS tE:TypeId} {W W':World} {B n:Nat} {v:Value} {rows:List (List α)}
theorem Grow.nil:Grow f tS tE W B (.slice none 0 0) 0 ([]:List (List α)):=
 ⟨rfl,[],⟨rfl,.inl ⟨rfl,rfl⟩⟩,fun i hi=>absurd hi (by simp)⟩
theorem zeg {w w':World} {base size n:Nat} {e:TypeId} {v:Value} {xs:List Value} (h:w.ownsRow base e size v n xs) (hb:Below w.heap.size w w'):w'.ownsRow base e size v n xs:=
 h.kept (za0 hb none) (by cases v.ownBlock<;>simp)
theorem Grow.below (h:Grow f tS tE W B v n rows) (hb:Below W.heap.size W W'):Grow f tS tE W' B v n rows:=by
 obtain ⟨hl,vs,ho,hv⟩:=h
 exact ⟨hl,vs,zeg ho hb,fun i hi=>by
  obtain ⟨u,h1,h2⟩:=hv i hi
  exact ⟨u,h1,zeg h2 hb⟩⟩
theorem zif {w:World} {b1 b2 s1 s2 n1 n2:Nat} {e1 e2:TypeId} {v1 v2:Value} {x1 x2:List Value} (h1:w.ownsRow b1 e1 s1 v1 n1 x1) (h2:w.ownsRow b2 e2 s2 v2 n2 x2) (hne:e1≠e2):v1.ownBlock=none∨v1.ownBlock≠v2.ownBlock:=by
 rcases h1.2 with ⟨rfl,_⟩ | ⟨g,cap,cur,rfl,hb,hg,_⟩
 ·exact .inl rfl
 ·right
  rcases h2.2 with ⟨rfl,_⟩ | ⟨g',cap',cur',rfl,hb',hg',_⟩
  ·simp [Value.ownBlock]
  ·intro e
   have e':g=g':=by simpa [Value.ownBlock] using e
   subst e'
   rw [hg] at hg'
   injection hg' with hg'
   injection hg' with _ h3
   exact hne h3
theorem Grow.snoc {v' u:Value} {r:List α} {vs:List Value} (h:rows.length=n) (hown:W.ownsRow B tS 1 v n vs) (hin:∀ i (h:i<rows.length),∃ u,vs[i]? = some u∧W.ownsRow B tE 1 u rows[i].length (rows[i].map f))
  (hu:W.ownsRow B tE 1 u r.length (r.map f)) (ht:tE≠tS) (hg:W.grownBy W' v.ownBlock) (ho':W'.ownsRow B tS 1 v' (n+1) (vs++[u])):Grow f tS tE W' B v' (n+1) (rows++[r]):=by
 refine ⟨by rw [List.length_append,h];rfl,_,ho',fun i hi => ?_⟩
 have hvl:vs.length=n:=by have:=hown.1;omega
 by_cases hlt:i<rows.length
 ·obtain ⟨u',h1,h2⟩:=hin i hlt
  rw [List.getElem_append_left hlt,List.getElem?_append_left (by omega)]
  exact ⟨u',h1,h2.kept hg (zif h2 hown ht)⟩
 ·have e:i=rows.length:=by rw [List.length_append] at hi;simp at hi;omega
  subst e
  rw [List.getElem_append_right (Nat.le_refl _),List.getElem?_append_right (by omega)]
  simp only [h,hvl,Nat.sub_self,List.getElem_singleton]
  exact ⟨u,rfl,hu.kept hg (zif hu hown ht)⟩
end
theorem ziT (w:World) (B:Nat) (e:TypeId) (hB:B≤w.heap.size):(w.alloc (.cells #[] e)).ownsRow B e 1 (.slice (some ⟨w.heap.size,0,none⟩) 0 0) 0 []:=
 zb1 (heap_alloc_new w _) hB (Nat.zero_le _) rfl
end Go.Proofs.YtmkihdjolnlccaaGreatDoor
