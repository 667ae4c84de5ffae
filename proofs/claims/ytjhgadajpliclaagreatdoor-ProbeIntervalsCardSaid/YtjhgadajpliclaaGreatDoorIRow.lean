/- Rows of one's own: a block that the call made, which holds words; what is kept while only such a block turns. -/
import Derived.Test.YtjhgadajpliclaaGreatDoorIWords
namespace Go.Proofs.YtjhgadajpliclaaGreatDoor
open Go.RowKit Bn
def RowAt (w:World) (base g n c:Nat) (l:List Nat):Prop:=w.ownsRow base 199 1 (.slice (some ⟨g,0,none⟩) n c) n (l.map u64v)
section
variable {w w':World} {base g n c:Nat} {l:List Nat}
theorem RowAt.len (h:RowAt w base g n c l):l.length=n:=by
 have:=h.1;rw [List.length_map] at this;omega
theorem RowAt.cell (h:RowAt w base g n c l) (k:Nat) (hk:k<n):w.cell? ⟨g,k,none⟩=some (.int .u64 ((l.getD k 0:Nat):Int)):=by
 have hl:k<l.length:=by rw [h.len];exact hk
 rw [World.ownsRow.cellAt h k (by omega)]
 simp [u64v,List.getD,hl]
theorem RowAt.free (h:RowAt w base g n c l) (k:Nat):w.frozen? ⟨g,k,none⟩=false:=World.ownsRow.frozenAt h k
theorem RowAt.set (h:RowAt w base g n c l) (k x:Nat):RowAt (w.setCell ⟨g,k,none⟩ (.int .u64 (x:Int))) base g n c (l.set k x):=by
 have:=(World.ownsRow.stored h k (u64v x)).1
 unfold RowAt
 rw [List.map_set]
 exact this
theorem RowAt.lt (h:RowAt w base g n c l):base≤g∧g<w.heap.size:=World.ownsRow.lt h g rfl
theorem RowAt.words (h:RowAt w base g n c l):WordsAt w w.heap.size (some ⟨g,0,none⟩) n l:=Reads.of_own h
theorem RowAt.kept {row:Option Nat} (h:RowAt w base g n c l) (hg:w.grownBy w' row) (hr:row≠some g):RowAt w' base g n c l:=
 World.ownsRow.kept h hg (.inr (by simpa [Value.ownBlock] using fun e=>hr e.symm))
theorem RowAt.below (h:RowAt w base g n c l) (hb:Below w.heap.size w w'):RowAt w' base g n c l:=
 h.kept (World.grownBy.mk hb.os hb.tape hb.output hb.size (fun i hi _=>hb.block i hi):w.grownBy w' none) (by simp)
theorem RowAt.drewN (h:RowAt w base g n c l) (q:Nat):RowAt (w.drewN q) base g n c l:=h
theorem RowAt.alloc (h:RowAt w base g n c l) (o:Obj):RowAt (w.alloc o) base g n c l:=World.ownsRow.alloc h o
theorem RowAt.caps (h:RowAt w base g n c l):n≤c∧c≤maxLen:=by
 rcases h.2 with ⟨h',_⟩ | ⟨g',cap',cur,h',hb,hg,hnc,hcm,hcs,htake⟩
 ·simp at h'
 ·simp only [Value.slice.injEq] at h'
  obtain ⟨_,_,rfl⟩:=h'
  exact ⟨hnc,hcm⟩
theorem RowAt.mono {base':Nat} (h:RowAt w base g n c l) (hb:base'≤base):RowAt w base' g n c l:=by
 refine ⟨h.1,?_⟩
 rcases h.2 with h' | ⟨g',cap',cur,h',hb',r⟩
 ·exact .inl h'
 ·exact .inr ⟨g',cap',cur,h',by omega,r⟩
theorem RowAt.take {m:Nat} (h:RowAt w base g n c l) (hm:m≤n):RowAt w base g m c (l.take m):=by
 refine ⟨by rw [List.length_map,List.length_take,h.len];omega,?_⟩
 rcases h.2 with ⟨h',_⟩ | ⟨g',cap',cur,h',hb,hg,hnc,hcm,hcs,htake⟩
 ·simp at h'
 ·simp only [Value.slice.injEq,Option.some.injEq,Addr.mk.injEq,and_true,true_and] at h'
  obtain ⟨rfl,rfl⟩:=h'
  refine .inr ⟨g,c,cur,rfl,hb,hg,by omega,hcm,hcs,?_⟩
  rw [List.map_take,←htake,List.take_take]
  congr 1
  omega
theorem RowAt.nat {x:Nat} (h:RowAt w base g n c (digs x)):NatS w w.heap.size (some ⟨g,0,none⟩) n c x:=⟨h.words,h.caps.1,h.caps.2⟩
end
theorem RowAt.made {w1:World} {base g n:Nat} (h:w1.ownsRow base 199 1 (.slice (some ⟨g,0,none⟩) n n) n (madeCells #[Value.int .u64 0] n).toList) :
  RowAt w1 base g n n (List.replicate n 0):=by
 unfold RowAt
 rw [List.map_replicate]
 rwa [toList_madeCells_one] at h
theorem trimmed_row (base g n c:Nat) (l:List Nat) (w:World) (hr:RowAt w base g n c l) (hw:Wf l) :
  Calls Tryz.prog 197 #[.slice (some ⟨g,0,none⟩) n c] w fun e w'=>∃ m,e = .returned (.slice (some ⟨g,0,none⟩) m c)∧RowAt w base g m c (digs (val l))∧w=w':=
 (trimmed_any w.heap.size _ n c l w hr.words hw hr.caps.1 hr.caps.2).mono fun e w' ⟨m,he,hm,ht,hww⟩=>⟨m,he,by
  have h:=hr.take hm
  rwa [ht] at h,hww⟩
theorem only_drewN {a w:World} {row:Option Nat} (h:a.grownBy w row) (n:Nat):a.grownBy (w.drewN n) row:=⟨h.os,h.tape,h.output,h.size,h.block⟩
theorem only_drew {a w:World} {row:Option Nat} (h:a.grownBy w row):a.grownBy w.drew row:=⟨h.os,h.tape,h.output,h.size,h.block⟩
theorem only_setCell {a w:World} {g:Nat} (h:a.grownBy w (some g)) {p:Addr} (hp:p.block=g∨a.heap.size≤p.block) (u:Value):a.grownBy (w.setCell p u) (some g):=
 ⟨h.os,h.tape,h.output,by simpa [World.setCell] using h.size,fun i hi hne=>(Below.heap_setCell w p u i (by
  rintro rfl
  rcases hp with hp | hp
  ·exact hne (by rw [hp])
  ·omega)).trans (h.block i hi hne)⟩
theorem only_of_below {a w:World} (h:Below a.heap.size a w) (row:Option Nat):a.grownBy w row:=⟨h.os,h.tape,h.output,h.size,fun i hi _=>h.block i hi⟩
theorem only_trans {a b c:World} {g:Nat} (h:a.grownBy b (some g)) (k:b.grownBy c (some g)):a.grownBy c (some g):=
 ⟨k.os.trans h.os,k.tape.trans h.tape,k.output.trans h.output,Nat.le_trans h.size k.size,fun i hi hne=>(k.block i (Nat.lt_of_lt_of_le hi h.size) hne).trans (h.block i hi hne)⟩
def Off (A:Option Addr) (g:Nat):Prop:=∀ ad,A=some ad→ad.block≠g
theorem WordsAt.kept {w w':World} {B n g:Nat} {A:Option Addr} {l:List Nat} (h:WordsAt w B A n l) (hg:w.grownBy w' (some g)) (hB:B≤w.heap.size) (ho:0<n→Off A g):WordsAt w' B A n l:=
 ⟨h.1,fun hn=>by
  obtain ⟨ad,e,hb,hc⟩:=h.2 hn
  refine ⟨ad,e,hb,fun j u hu => ?_⟩
  rw [←hc j u hu]
  exact World.cell?_of_block (hg.block (ad.add j).block (by rw [block_of_add];omega) (by rw [block_of_add];intro e';exact ho hn ad e (by injection e')))⟩
theorem NatS.kept {w w':World} {n c x g:Nat} {A:Option Addr} (h:NatS w w.heap.size A n c x) (hg:w.grownBy w' (some g)) (ho:0<n→Off A g):NatS w' w'.heap.size A n c x:=
 ⟨(h.words.kept hg (Nat.le_refl _) ho).more hg.size,h.nc,h.cm⟩
theorem NatS.off {w:World} {n c x g:Nat} {A:Option Addr} (h:NatS w w.heap.size A n c x) (hg:w.heap.size≤g):0<n→Off A g:=by
 intro h0 ad e he
 obtain ⟨ad',e',hb,_⟩:=h.words.2 h0
 rw [e] at e'
 injection e' with e'
 subst e'
 omega
def NatRow (base x:Nat) (e:Ending) (w':World):Prop:=
 (e = .returned (.slice none 0 0)∧x=0)∨∃ g m c,e = .returned (.slice (some ⟨g,0,none⟩) m c)∧RowAt w' base g m c (digs x)
theorem NatS.nil (w:World) (B:Nat):NatS w B none 0 0 0:=⟨by rw [digs_zero];exact Reads.none_,Nat.le_refl _,by unfold maxLen;omega⟩
theorem NatRow.ret {w w':World} {x:Nat} {e:Ending} (h:NatRow w.heap.size x e w') (hb:Below w.heap.size w w'):RetNat w x e w':=by
 rcases h with ⟨rfl,rfl⟩ | ⟨g,m,c,rfl,hr⟩
 ·exact ⟨none,0,0,rfl,NatS.nil _ _,hb⟩
 ·exact ⟨_,m,c,rfl,hr.nat,hb⟩
end Go.Proofs.YtjhgadajpliclaaGreatDoor
