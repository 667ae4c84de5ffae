/- Plain mathematics of words of nine digits: their order by single words; the words of a quotient; an estimate of a quotient. -/
import Derived.Test.YteajibbphcfmeaaGreatDoorTErr0
import Derived.Test.YteajibbphcfmeaaGreatDoorTRow
import Derived.Test.YteajibbphcfmeaaGreatDoorTDiv1
import Derived.Test.YteajibbphcfmeaaGreatDoorTNat4
import Derived.Test.YteajibbphcfmeaaGreatDoorTRat2
import Derived.Shelf.Strconv.ParseUint10At
import Derived.Test.YteajibbphcfmeaaGreatDoorProg
import Derived.Test.YteajibbphcfmeaaGreatDoorTStr2
import Derived.Lib.AtoiErrMem
import Derived.Test.YteajibbphcfmeaaGreatDoorTText
namespace Go.Proofs.YteajibbphcfmeaaGreatDoor.Dn
def pad (l:List Nat) (N:Nat):List Nat:=l++List.replicate (N - l.length) 0
theorem val_pad (l:List Nat) (N:Nat):val (pad l N)=val l:=by unfold pad;rw [val_append,val_replicate_zero];simp
theorem pad_len {l:List Nat} {N:Nat} (h:l.length≤N):(pad l N).length=N:=by unfold pad;rw [List.length_append,List.length_replicate];omega
theorem pad_get (l:List Nat) (N j:Nat) (h:j<(pad l N).length):(pad l N)[j]=l.getD j 0:=by
 have h':j<(l++List.replicate (N - l.length) 0).length:=h
 show (l++List.replicate (N - l.length) 0)[j]'h'=_
 by_cases hj:j<l.length
 ·rw [List.getElem_append_left hj,getD_in hj]
 ·rw [List.getElem_append_right (by omega),getD_out (by omega)];simp
theorem wf_pad {l:List Nat} (h:Wf l) (N:Nat):Wf (pad l N):=h.append (Wf.replicate _)
theorem lt_getD {x y:Nat} (i:Nat) (habove:∀ j,i<j→(digs x).getD j 0=(digs y).getD j 0) (hlt:(digs x).getD i 0<(digs y).getD i 0):x<y:=by
 have hi:i<(digs y).length:=by
  rcases Nat.lt_or_ge i (digs y).length with h | h
  ·exact h
  ·rw [getD_out h] at hlt;omega
 obtain ⟨N,hN⟩:∃ N,N=max (digs x).length (digs y).length:=⟨_,rfl⟩
 have h1:=pad_len (l:=digs x) (N:=N) (by omega)
 have h2:=pad_len (l:=digs y) (N:=N) (by omega)
 have h:=lt_of_word (x:=pad (digs x) N) (y:=pad (digs y) N) (wf_pad (wf_digs x) N) (by omega) i (by omega) (fun j h h' hj=>by rw [pad_get,pad_get];exact habove j hj) (by rw [pad_get,pad_get];exact hlt)
 rwa [val_pad,val_pad,val_digs,val_digs] at h
theorem eq_getD {x y:Nat} (h:∀ j,(digs x).getD j 0=(digs y).getD j 0):x=y:=by
 obtain ⟨N,hN⟩:∃ N,N=max (digs x).length (digs y).length:=⟨_,rfl⟩
 have h1:=pad_len (l:=digs x) (N:=N) (by omega)
 have h2:=pad_len (l:=digs y) (N:=N) (by omega)
 have e:pad (digs x) N=pad (digs y) N:=eq_of_words (by omega) (fun j h3 h4=>by rw [pad_get,pad_get];exact h j)
 have:=congrArg val e
 rwa [val_pad,val_pad,val_digs,val_digs] at this
theorem digs_getD:∀ (k x:Nat),(digs x).getD k 0=x / B ^ k % B
 | 0,x=>by
  rcases Nat.eq_zero_or_pos x with rfl | h
  ·simp [digs_zero]
  ·rw [digs_pos h];simp
 | k+1,x=>by
  rcases Nat.eq_zero_or_pos x with rfl | h
  ·simp [digs_zero]
  ·rw [digs_pos h,List.getD_cons_succ,digs_getD k (x / B),Nat.div_div_eq_div_mul,Nat.pow_succ,Nat.mul_comm]
theorem div_pow (x k:Nat):x / B ^ k=(digs x).getD k 0+B*(x / B ^ (k+1)):=by
 rw [digs_getD,Nat.pow_succ,←Nat.div_div_eq_div_mul]
 exact (Nat.mod_add_div _ _).symm
end Go.Proofs.YteajibbphcfmeaaGreatDoor.Dn
namespace Go.Proofs.YteajibbphcfmeaaGreatDoor
open Go.RowKit
structure NatD (w:World) (B:Nat) (A:Option Addr) (n c:Nat) (x:Nat):Prop where
 words:WordsAt w B A n (Dn.digs x)
 nc:n≤c
 cm:c≤maxLen
section
variable {w w':World} {B B' n c x:Nat} {A:Option Addr}
theorem NatD.len (h:NatD w B A n c x):(Dn.digs x).length=n:=h.words.len
theorem NatD.below (h:NatD w B A n c x) (hb:Below B w w'):NatD w' B A n c x:=⟨h.words.below hb,h.nc,h.cm⟩
theorem NatD.more (h:NatD w B A n c x) (hB:B≤B'):NatD w B' A n c x:=⟨h.words.more hB,h.nc,h.cm⟩
theorem NatD.later (h:NatD w w.heap.size A n c x) (hb:Below w.heap.size w w'):NatD w' w'.heap.size A n c x:=(h.below hb).more hb.size
theorem NatD.alloc (h:NatD w w.heap.size A n c x) (o:Obj):NatD (w.alloc o) (w.heap.size+1) A n c x:=⟨(h.words.alloc (Nat.le_refl _) o).more (by omega),h.nc,h.cm⟩
theorem NatD.zero (w:World) (B:Nat):NatD w B none 0 0 0:=⟨by rw [Dn.digs_zero];exact Reads.none_,Nat.le_refl _,Nat.zero_le _⟩
end
def RetD (w:World) (x:Nat) (e:Ending) (w':World):Prop:=∃ A m c,e = .returned (.slice A m c)∧NatD w' w'.heap.size A m c x∧Below w.heap.size w w'
def RetDs (w:World) (x:Nat) (e:Ending) (w':World):Prop:=∃ g m c,e = .returned (.slice (some ⟨g,0,none⟩) m c)∧w.heap.size≤g∧NatD w' w'.heap.size (some ⟨g,0,none⟩) m c x∧Below w.heap.size w w'
theorem RetDs.ret {w w':World} {x:Nat} {e:Ending} (h:RetDs w x e w'):RetD w x e w':=by
 obtain ⟨g,m,c,h1,_,h2,h3⟩:=h
 exact ⟨_,m,c,h1,h2,h3⟩
section
open Dn
end
end Go.Proofs.YteajibbphcfmeaaGreatDoor
namespace Go.Proofs.YteajibbphcfmeaaGreatDoor
open Go.RowKit Dn
def Weak (l:List Nat):Prop:=(∀ k,l.getD k 0≤B)∧val l≤B ^ l.length
theorem Weak.wf {l:List Nat} (h:Wf l):Weak l:=⟨fun k=>Nat.le_of_lt (getD_lt h k),Nat.le_of_lt (val_lt h)⟩
theorem Weak.one {x:Nat} (h:x≤B):Weak [x]:=⟨fun k=>by
 rcases k with _ | k
 ·simpa using h
 ·simp,by simpa using h⟩
theorem carry_lt (l la lb:List Nat) (i n' c:Nat) (hk:i+n'<l.length) (hv:val (l.set (i+n') c)=val (la.take (i+1))*val lb) (hwa:Wf la) (hb:val lb≤B ^ n'):c<B:=by
 have h1:=val_split (l.set (i+n') c) (i+n'+1) (by rw [List.length_set];exact hk)
 rw [val_take_set l (i+n') c hk] at h1
 have h2:val (la.take (i+1))<B ^ (i+1):=Nat.lt_of_lt_of_le (val_lt (hwa.take _)) (Nat.pow_le_pow_right B_pos (by rw [List.length_take];omega))
 have h3:val (la.take (i+1))*val lb≤val (la.take (i+1))*B ^ n':=Nat.mul_le_mul_left _ hb
 have h4:val (la.take (i+1))*B ^ n'<B ^ (i+1)*B ^ n':=Nat.mul_lt_mul_of_pos_right h2 (Nat.pow_pos B_pos)
 have e5:B ^ (i+n')*B=B ^ (i+1)*B ^ n':=by
  rw [←Nat.pow_succ,show (i+n').succ=i+1+n' from by omega,Nat.pow_add]
 have h5:B ^ (i+n')*c<B ^ (i+n')*B:=by
  rw [e5]
  omega
 exact Nat.lt_of_mul_lt_mul_left h5
end Go.Proofs.YteajibbphcfmeaaGreatDoor
namespace Go.Proofs.YteajibbphcfmeaaGreatDoor
open Go.RowKit
def natv (d:Nat):Value := .int .i64 (d:Int)
theorem natv_one:∀ l:List Nat,∀ u ∈ l.map natv,u.oneCell'=true:=by
 intro l u hu
 obtain ⟨d,_,rfl⟩:=List.mem_map.1 hu
 rfl
theorem Reads.cellM {α:Type} {w:World} {B n:Nat} {A:Option Addr} {l:List α} {f : α→Value} (h:Reads w B 1 A n (l.map f)) {k:Nat} (hk:k<n) :
  ∃ (ad:Addr) (hl:k<l.length),A=some ad∧ad.block<B∧w.cell? (ad.add k)=some (f l[k]):=by
 obtain ⟨ad,u,hA,hb,hu,hc⟩:=h.at_ hk
 have hl:k<l.length:=by have:=h.1;rw [List.length_map] at this;omega
 rw [List.getElem?_map,List.getElem?_eq_getElem hl] at hu
 injection hu with hu
 exact ⟨ad,hl,hA,hb,by rw [hc,←hu]⟩
theorem Reads.lenM {α:Type} {w:World} {B n:Nat} {A:Option Addr} {l:List α} {f : α→Value} (h:Reads w B 1 A n (l.map f)):l.length=n:=by
 have:=h.1;rw [List.length_map] at this;omega
theorem Reads.later {w w':World} {size n:Nat} {A:Option Addr} {xs:List Value} (h:Reads w w.heap.size size A n xs) (hb:Below w.heap.size w w'):Reads w' w'.heap.size size A n xs:=(h.below hb).more hb.size
def RowsR {α:Type} (f : α→Value) (w:World) (B:Nat) (A:Option Addr) (n:Nat) (rows:List (List α)):Prop:=
 rows.length=n∧∃ vs:List Value,Reads w B 1 A n vs∧∀ i (h:i<rows.length),∃ A' c',vs[i]? = some (.slice A' rows[i].length c')∧rows[i].length≤c'∧c'≤maxLen∧Reads w B 1 A' rows[i].length (rows[i].map f)
section
variable {α:Type} {f : α→Value} {w w':World} {B B' n:Nat} {A:Option Addr} {rows:List (List α)}
theorem RowsR.below (h:RowsR f w B A n rows) (hb:Below B w w'):RowsR f w' B A n rows:=by
 obtain ⟨hl,vs,hr,hv⟩:=h
 exact ⟨hl,vs,hr.below hb,fun i hi=>by
  obtain ⟨A',c',h1,h2,h3,h4⟩:=hv i hi
  exact ⟨A',c',h1,h2,h3,h4.below hb⟩⟩
theorem RowsR.more (h:RowsR f w B A n rows) (hB:B≤B'):RowsR f w B' A n rows:=by
 obtain ⟨hl,vs,hr,hv⟩:=h
 exact ⟨hl,vs,hr.more hB,fun i hi=>by
  obtain ⟨A',c',h1,h2,h3,h4⟩:=hv i hi
  exact ⟨A',c',h1,h2,h3,h4.more hB⟩⟩
theorem RowsR.later (h:RowsR f w w.heap.size A n rows) (hb:Below w.heap.size w w'):RowsR f w' w'.heap.size A n rows:=(h.below hb).more hb.size
theorem RowsR.row (h:RowsR f w B A n rows) {k:Nat} (hk:k<n) :
  ∃ (ad:Addr) (hl:k<rows.length) (A':Option Addr) (c':Nat),A=some ad∧ad.block<B∧w.cell? (ad.add k)=some (.slice A' rows[k].length c')∧rows[k].length≤c'∧c'≤maxLen∧Reads w B 1 A' rows[k].length (rows[k].map f):=by
 obtain ⟨hl,vs,hr,hv⟩:=h
 have hk2:k<rows.length:=by omega
 obtain ⟨A',c',h1,h2,h3,h4⟩:=hv k hk2
 obtain ⟨ad,u,hA,hb,hu,hc⟩:=hr.at_ hk
 rw [h1] at hu
 injection hu with hu
 exact ⟨ad,hk2,A',c',hA,hb,by rw [hc,←hu],h2,h3,h4⟩
end
theorem own_lt {w:World} {base g n c size:Nat} {e:TypeId} {xs:List Value} (h:w.ownsRow base e size (.slice (some ⟨g,0,none⟩) n c) n xs):base≤g∧g<w.heap.size:=World.ownsRow.lt h g rfl
theorem own_free {w:World} {base g n c:Nat} {e:TypeId} {xs:List Value} (h:w.ownsRow base e 1 (.slice (some ⟨g,0,none⟩) n c) n xs) (k:Nat):w.frozen? ⟨g,k,none⟩=false:=World.ownsRow.frozenAt h k
def CBlk (w:World) (g:Nat) (c:Array Value) (t:TypeId):Prop:=w.heap[g]? = some (.cells c t (0,0))
section
variable {w w':World} {g B:Nat} {c:Array Value} {t:TypeId}
theorem CBlk.new (w:World) (c:Array Value) (t:TypeId) (g:Nat) (hg:g=w.heap.size):CBlk (w.alloc (.cells c t)) g c t:=by subst hg;exact heap_alloc_new w _
theorem CBlk.below (h:CBlk w g c t) (hb:Below B w w') (hg:g<B):CBlk w' g c t:=(hb.block g hg).trans h
theorem CBlk.grown {row:Option Nat} (h:CBlk w g c t) (hb:w.grownBy w' row) (hg:g<w.heap.size) (hr:row≠some g):CBlk w' g c t:=(hb.block g hg (fun e=>hr e.symm)).trans h
theorem CBlk.cell (h:CBlk w g c t) (i:Nat):w.cell? ⟨g,i,none⟩=c[i]? := cell_of_row w g i _ _ _ h
theorem CBlk.frozen (h:CBlk w g c t) (i:Nat):w.frozen? ⟨g,i,none⟩=false:=by
 unfold CBlk at h
 simp [World.frozen?,h]
theorem CBlk.lt (h:CBlk w g c t):g<w.heap.size:=by
 unfold CBlk at h
 rcases Nat.lt_or_ge g w.heap.size with hlt | hge
 ·exact hlt
 ·rw [Array.getElem?_eq_none hge] at h;cases h
end
theorem own_slice {w:World} {base size n:Nat} {e:TypeId} {v:Value} {xs:List Value} (h:w.ownsRow base e size v n xs):∃ A c,v = .slice A n c∧n≤c∧c≤maxLen∧Reads w w.heap.size size A n xs:=by
 rcases h.2 with ⟨rfl,rfl⟩ | ⟨g,cap,cur,rfl,hb,hg,hnc,hcm,hcs,htake⟩
 ·exact ⟨none,0,rfl,Nat.le_refl _,by unfold maxLen;omega,h.1,fun h0=>absurd h0 (by omega)⟩
 ·exact ⟨some ⟨g,0,none⟩,cap,rfl,hnc,hcm,Reads.of_own h⟩
theorem own_of_block {w:World} {base size n g:Nat} {e:TypeId} {xs:List Value} (h:w.heap[g]? = some (.cells xs.toArray e (0,0))) (hb:base≤g) (hn:n≤maxLen) (hl:xs.length=n*size):w.ownsRow base e size (.slice (some ⟨g,0,none⟩) n n) n xs:=
 ⟨hl,.inr ⟨g,n,xs.toArray,rfl,hb,h,Nat.le_refl _,hn,by simpa using hl,by rw [List.take_of_length_le (by simp;omega)]⟩⟩
end Go.Proofs.YteajibbphcfmeaaGreatDoor
namespace Go.Proofs.YteajibbphcfmeaaGreatDoor
open Go.RowKit Dn
theorem val_drop_set (l:List Nat) (k x:Nat) (hk:k<l.length):val ((l.set k x).drop k)=x+B*val (l.drop (k+1)):=by
 have h1:(l.set k x).drop k=x :: (l.set k x).drop (k+1):=by
  rw [List.drop_eq_getElem_cons (by simpa using hk)]
  simp
 rw [h1,val_cons,List.drop_set_of_lt (by omega)]
theorem WordsAt.zero {w:World} {B:Nat} {A:Option Addr}:WordsAt w B A 0 []:=⟨rfl,fun h=>absurd h (by omega)⟩
theorem Reads.cellsD {w:World} {B n:Nat} {a:Addr} {xs:List Value} (h:Reads w B 1 (some a) n xs):∀ j u,xs[j]? = some u→w.cell? (a.add j)=some u:=by
 intro j u hu
 have hl:=h.1
 have hj:j<xs.length:=by
  rcases Nat.lt_or_ge j xs.length with h1 | h1
  ·exact h1
  ·rw [List.getElem?_eq_none h1] at hu;cases hu
 obtain ⟨ad,e,_,hc⟩:=h.2 (by omega)
 injection e with e
 subst e
 exact hc j u hu
theorem own_some {w:World} {base size n:Nat} {e:TypeId} {v:Value} {xs:List Value} (h:w.ownsRow base e size v n xs) (hn:0<n):∃ g c,v = .slice (some ⟨g,0,none⟩) n c∧base≤g:=by
 rcases h.2 with ⟨rfl,h0⟩ | ⟨g,cap,cur,rfl,hb,_⟩
 ·omega
 ·exact ⟨g,cap,rfl,hb⟩
theorem NatD.kept {w w':World} {n c x g:Nat} {A:Option Addr} (h:NatD w w.heap.size A n c x) (hg:w.grownBy w' (some g)) (ho:0<n→Off A g):NatD w' w'.heap.size A n c x:=
 ⟨(h.words.kept hg (Nat.le_refl _) ho).more hg.size,h.nc,h.cm⟩
theorem NatD.stored {w:World} {n c x g g' i:Nat} {u:Value} (h:NatD w w.heap.size (some ⟨g,0,none⟩) n c x) (hne:g≠g'):NatD (w.setCell ⟨g',i,none⟩ u) (w.setCell ⟨g',i,none⟩ u).heap.size (some ⟨g,0,none⟩) n c x:=
 h.kept (only_setCell (World.grownBy.refl w _) (.inl rfl) u) (fun _ ad e=>by injection e with e;subst e;exact hne)
def RatD (w:World) (B:Nat) (v:Value) (q:Q):Prop:=
 ∃ A n c A' n' c',v = .agg #[.bool q.neg,.slice A n c,.slice A' n' c']∧NatD w B A n c q.top∧NatD w B A' n' c' q.bot
theorem lowQ_pos (neg:Bool) (x y:Nat) (hy:0<y):lowQ neg x y=⟨neg && !decide (x / Nat.gcd x y=0),x / Nat.gcd x y,y / Nat.gcd x y⟩:=by
 unfold lowQ
 rw [if_neg (by omega)]
 by_cases hx:x=0
 ·subst hx
  rw [if_pos rfl,Nat.gcd_zero_left,Nat.zero_div,Nat.div_self hy]
  simp
 ·rw [if_neg hx]
  have h1:0<x / Nat.gcd x y:=Nat.div_pos (Nat.gcd_le_left _ (by omega)) (Nat.gcd_pos_of_pos_right _ hy)
  have h2:decide (x / Nat.gcd x y=0)=false:=decide_eq_false (Nat.ne_of_gt h1)
  rw [h2]
  simp
end Go.Proofs.YteajibbphcfmeaaGreatDoor
namespace Go.Proofs
open Go.Shelf
end Go.Proofs
namespace Go.Proofs.YteajibbphcfmeaaGreatDoor
open Go.RowKit Dn
theorem B_nine:B=10 ^ 9:=by decide
theorem digits_sub (l:List UInt8) (h:digits l=true) (a b:Nat):digits ((l.drop a).take b)=true:=by
 unfold digits at *
 rw [List.all_eq_true] at *
 intro x hx
 exact h x (List.mem_of_mem_drop (List.mem_of_mem_take hx))
theorem chunk_step (l:List UInt8) (ws:List Nat) (e d:Nat) (hd:d≤e) (_he:e≤l.length) (hk:l.length - e=9*ws.length) (hv:val ws=decVal (l.drop e)) :
  val (ws++[decVal ((l.drop d).take (e - d))])=decVal (l.drop d):=by
 have h1:l.drop d=(l.drop d).take (e - d)++l.drop e:=by
  have h:=(List.take_append_drop (e - d) (l.drop d)).symm
  rw [List.drop_drop] at h
  rw [show d+(e - d)=e from by omega] at h
  exact h
 have h2:=decVal_append ((l.drop d).take (e - d)) (l.drop e)
 rw [←h1,List.length_drop,hk] at h2
 rw [val_append,val_single,hv,h2,B_nine,←Nat.pow_mul,Nat.mul_comm (10 ^ (9*ws.length))]
 omega
theorem ext_list (s:ByteArray) (d e:Nat):(s.extract d e).data.toList=(s.data.toList.drop d).take (e - d):=by
 rw [ByteArray.data_extract,Array.toList_extract]
theorem own_belwD {w w':World} {base size n:Nat} {e:TypeId} {v:Value} {xs:List Value} (h:w.ownsRow base e size v n xs) (hb:Below w.heap.size w w'):w'.ownsRow base e size v n xs:=
 h.kept (only_of_below hb none) (by cases v.ownBlock<;>simp)
theorem B_dec:B=10 ^ 9:=by decide
theorem ddec_step (x q:Nat) (h:0<x / B ^ (q+1)):Lib.decDigits (x / B ^ q)=Lib.decDigits (x / B ^ (q+1))++Dec.pad 9 (x / B ^ q % B):=by
 have h1:=div_pow x q
 rw [digs_getD] at h1
 have h2:x / B ^ q % B<10 ^ 9:=by rw [←B_dec];exact Nat.mod_lt _ B_pos
 have h3:=Dec.dec_append 9 (x / B ^ (q+1)) (x / B ^ q % B) h h2
 rw [←B_dec,show x / B ^ (q+1)*B+x / B ^ q % B=x / B ^ q by rw [Nat.mul_comm];omega] at h3
 exact h3
theorem ddec_len {x n:Nat} (hn:0<n) (h:x<B ^ n) (j:Nat):(Lib.decDigits (x / B ^ j)).length≤9*n:=by
 refine Dec.dec_length_le (by omega) (Nat.lt_of_le_of_lt (Nat.div_le_self _ _) ?_)
 rwa [B_dec,←Nat.pow_mul] at h
end Go.Proofs.YteajibbphcfmeaaGreatDoor
namespace Go.Proofs.YteajibbphcfmeaaGreatDoor
open Go.RowKit Bn
open Flt
structure Parts (b x y y2:Nat) (i z:Int):Prop where
 fine:Fine b x
 frx:∀ W:World,Calls Tryz.prog 101 #[.float .f64 x] W fun e w'=>e = .returned (.tuple #[.float .f64 y,.int .i64 i])∧W=w'
 mul:floatBits .mul .f64 y 4715268809856909312=some y2
 int:floatToIntVal .f64 y2 .i64=some z
 z0 : -16777216<z
 z1:z<16777216
 i0 : -1000≤i
 i1:i≤1000
theorem lowQ_top_le (g:Bool) (t b:Nat):(lowQ g t b).top≤t:=by
 unfold lowQ;split
 ·exact Nat.zero_le _
 ·split
  ·exact Nat.zero_le _
  ·exact Nat.div_le_self _ _
theorem lowQ_bot_le (g:Bool) (t b:Nat):(lowQ g t b).bot≤b+1:=by
 unfold lowQ;split
 ·exact Nat.zero_le _
 ·split
  ·show 1≤_;omega
  ·exact Nat.le_trans (Nat.div_le_self _ _) (Nat.le_succ _)
theorem digs_pow_le {x s k:Nat} (h:x≤2 ^ s) (hk:s<64*k):(digs x).length≤k:=by
 refine digs_length_le ?_
 have e:B ^ k=2 ^ (64*k):=by rw [Nat.pow_mul];rfl
 rw [e]
 exact Nat.lt_of_le_of_lt h (Nat.pow_lt_pow_right (by omega) hk)
theorem digs_one_len {x:Nat} (h:x≤16777216):(digs x).length≤1:=digs_length_le (k:=1) (by rw [B_def];omega)
set_option maxHeartbeats 4000000 in
set_option maxRecDepth 100000 in
theorem Exact_down {b x y y2:Nat} {i z:Int} (w:World) (hT:Tabs w) (h:Parts b x y y2 i z) (hi:i<24) :
  Calls Tryz.prog 40 #[.float .f32 b] w (RetText w (writeT (lowQ (decide (z<0)) z.natAbs (2 ^ (24 - i).toNat))) (writeE (lowQ (decide (z<0)) z.natAbs (2 ^ (24 - i).toNat)))):=by
 have hcv:=fun W:World=>run_convert_float_float (P:=Tryz.prog) W 55 118 .f32 .f64 b x (by kernel_rfl) (by kernel_rfl) h.fine.conv
 have hif:=isFinite_fine w h.fine
 have hml:=fun W:World=>run_float_arith (P:=Tryz.prog) W .mul 118 .f64 y 4715268809856909312 y2 h.mul
 have hci:=fun W:World=>run_convert_float_int (P:=Tryz.prog) W 118 3 .f64 .i64 y2 z (by kernel_rfl) (by kernel_rfl) h.int
 obtain ⟨_,hfx,_,_,z0,z1,i0,i1⟩:=h
 have w1:wrap64 (i - 24)=i - 24:=IntWalk.wrap64_in _ (by omega)
 have w2:wrap64 (-(i - 24)) = -(i - 24):=IntWalk.wrap64_in _ (by omega)
 obtain ⟨s,hs⟩:∃ s:Nat,(24 - i).toNat=s∧i=24 - (s:Int):=⟨(24 - i).toNat,rfl,by omega⟩
 have hs1:s≤2000:=by omega
 have hmx:max (i - 24) (-(i - 24))=(s:Int):=by omega
 rw [hs.1]
 have HI:=Lib.hid hif
 have HFX:=Lib.hid hfx
 have HS:=Lib.hid hs
 clear hif hfx hs
 go_enter Tryz.func40,Tryz.ntmps40
 go_wp2_with fail
 refine HI.out.mono ?_
 rintro e w0 ⟨rfl,rfl⟩
 go_wp2_with fail
 refine (HFX.out _).mono ?_
 rintro e w0 ⟨rfl,rfl⟩
 go_wp2_with fail
 refine (integer_any z _ (by omega) (by omega)).mono ?_
 rintro e wa ⟨v,rfl,⟨A,n,c,A',n',c',rfl,h1,h2⟩,hb⟩
 have hb2:Below wa.heap.size wa (wa.alloc (.cells #[.bool (decide (z<0)),.slice A n c,.slice A' n' c'] 91)):=(Below.refl _ _).alloc (Nat.le_refl _) _
 go_wp2_with fail
 refine (naturalOf_any 1 _ (by omega) (by omega)).mono ?_
 rintro e wc ⟨A3,n3,c3,rfl,h3,hb3⟩
 go_wp2_with fail
 have h3':NatS wc wc.heap.size A3 n3 c3 1:=h3
 have l3:n3≤1:=by rw [←h3'.len];exact digs_one_len (by omega)
 have lz:z.natAbs≤16777216:=by omega
 have l1:n≤1:=by rw [←h1.len];exact digs_one_len lz
 refine (shiftedLeft_any A3 n3 c3 1 s wc h3' (by omega) (by omega)).mono ?_
 rintro e wd ⟨A4,n4,c4,rfl,h4,hb4⟩
 rw [Nat.one_mul] at h4
 have l4:n4≤64:=by rw [←h4.len];exact digs_pow_le (Nat.le_refl _) (by omega)
 have hsc:wa.heap.size<wc.heap.size:=by have:=hb3.size;simp at this;omega
 have hx4:ResBlk wd wa.heap.size (decide (z<0)) (.slice A n c) (.slice A' n' c'):=((ResBlk.new wa _ _ _).below hb3 (by simp)).below hb4 hsc
 have hTd:Tabs wd:=(((hT.later hb).later hb2).later hb3).later hb4
 have hBd:Below w.heap.size w wd:=(((hb.trans (hb2.mono hb.size)).trans (hb3.mono (by have:=hb.size;simp;omega)))).trans (hb4.mono (by have:=hb.size;omega))
 have hlo:=lowest_any (decide (z<0)) A A4 n c n4 c4 z.natAbs (2 ^ s) wd hTd (((h1.later hb2).later hb3).later hb4) h4 (by omega) (by omega)
 have lt:=lowQ_top_le (decide (z<0)) z.natAbs (2 ^ s)
 have lb:=lowQ_bot_le (decide (z<0)) z.natAbs (2 ^ s)
 have k1:(digs (lowQ (decide (z<0)) z.natAbs (2 ^ s)).top).length≤1:=digs_one_len (by omega)
 have k2:(digs (lowQ (decide (z<0)) z.natAbs (2 ^ s)).bot).length≤64:=digs_pow_le (s:=s+1) (by have:=Nat.two_pow_pos s;rw [Nat.pow_succ];omega) (by omega)
 generalize lowQ (decide (z<0)) z.natAbs (2 ^ s)=q at *
 obtain ⟨x0,x1,x2,_,_,_,xl⟩:=hx4.cells
 have HLO:=Lib.hid hlo
 clear hlo
 go_wp2_with fail
 refine HLO.out.mono ?_
 rintro e we ⟨v,rfl,⟨A5,n5,c5,A6,n6,c6,rfl,h5,h6⟩,hb5⟩
 have hwr:=write_any q A5 A6 n5 c5 n6 c6 we (hTd.later hb5) h5 h6 (by rw [←h5.len];omega) (by rw [←h6.len];omega)
 have HWR:=Lib.hid hwr
 clear hwr HLO
 go_wp2_with fail
 refine HWR.out.mono ?_
 rintro e wf ⟨S,rfl,hS,hb6⟩
 go_wp2_with fail
 go_ret2
 exact ⟨S,rfl,hS,(hBd.trans (hb5.mono hBd.size)).trans (hb6.mono (by have:=hBd.size;have:=hb5.size;omega))⟩
set_option maxHeartbeats 4000000 in
set_option maxRecDepth 100000 in
theorem Exact_up {b x y y2:Nat} {i z:Int} (w:World) (hT:Tabs w) (h:Parts b x y y2 i z) (hi:24≤i) :
  Calls Tryz.prog 40 #[.float .f32 b] w (RetText w (writeT ⟨decide (z<0),z.natAbs*2 ^ (i - 24).toNat,1⟩) (writeE ⟨decide (z<0),z.natAbs*2 ^ (i - 24).toNat,1⟩)):=by
 have hcv:=fun W:World=>run_convert_float_float (P:=Tryz.prog) W 55 118 .f32 .f64 b x (by kernel_rfl) (by kernel_rfl) h.fine.conv
 have hif:=isFinite_fine w h.fine
 have hml:=fun W:World=>run_float_arith (P:=Tryz.prog) W .mul 118 .f64 y 4715268809856909312 y2 h.mul
 have hci:=fun W:World=>run_convert_float_int (P:=Tryz.prog) W 118 3 .f64 .i64 y2 z (by kernel_rfl) (by kernel_rfl) h.int
 obtain ⟨_,hfx,_,_,z0,z1,i0,i1⟩:=h
 have w1:wrap64 (i - 24)=i - 24:=IntWalk.wrap64_in _ (by omega)
 have w2:wrap64 (-(i - 24)) = -(i - 24):=IntWalk.wrap64_in _ (by omega)
 obtain ⟨s,hs⟩:∃ s:Nat,(i - 24).toNat=s∧i=24+(s:Int):=⟨(i - 24).toNat,rfl,by omega⟩
 have hs1:s≤2000:=by omega
 have hmx:max (i - 24) (-(i - 24))=(s:Int):=by omega
 rw [hs.1]
 have HI:=Lib.hid hif
 have HFX:=Lib.hid hfx
 have HS:=Lib.hid hs
 clear hif hfx hs
 go_enter Tryz.func40,Tryz.ntmps40
 go_wp2_with fail
 refine HI.out.mono ?_
 rintro e w0 ⟨rfl,rfl⟩
 go_wp2_with fail
 refine (HFX.out _).mono ?_
 rintro e w0 ⟨rfl,rfl⟩
 go_wp2_with fail
 refine (integer_any z _ (by omega) (by omega)).mono ?_
 rintro e wa ⟨v,rfl,⟨A,n,c,A',n',c',rfl,h1,h2⟩,hb⟩
 have hb2:Below wa.heap.size wa (wa.alloc (.cells #[.bool (decide (z<0)),.slice A n c,.slice A' n' c'] 91)):=(Below.refl _ _).alloc (Nat.le_refl _) _
 go_wp2_with fail
 refine (naturalOf_any 1 _ (by omega) (by omega)).mono ?_
 rintro e wc ⟨A3,n3,c3,rfl,h3,hb3⟩
 go_wp2_with fail
 have h3':NatS wc wc.heap.size A3 n3 c3 1:=h3
 have l3:n3≤1:=by rw [←h3'.len];exact digs_one_len (by omega)
 have lz:z.natAbs≤16777216:=by omega
 have l1:n≤1:=by rw [←h1.len];exact digs_one_len lz
 refine (shiftedLeft_any A3 n3 c3 1 s wc h3' (by omega) (by omega)).mono ?_
 rintro e wd ⟨A4,n4,c4,rfl,h4,hb4⟩
 rw [Nat.one_mul] at h4
 have l4:n4≤64:=by rw [←h4.len];exact digs_pow_le (Nat.le_refl _) (by omega)
 have hsc:wa.heap.size<wc.heap.size:=by have:=hb3.size;simp at this;omega
 have hx4:ResBlk wd wa.heap.size (decide (z<0)) (.slice A n c) (.slice A' n' c'):=((ResBlk.new wa _ _ _).below hb3 (by simp)).below hb4 hsc
 have hTd:Tabs wd:=(((hT.later hb).later hb2).later hb3).later hb4
 have hBd:Below w.heap.size w wd:=(((hb.trans (hb2.mono hb.size)).trans (hb3.mono (by have:=hb.size;simp;omega)))).trans (hb4.mono (by have:=hb.size;omega))
 have ht1:=times_any A A4 n c n4 c4 z.natAbs (2 ^ s) wd.drew ((((h1.later hb2).later hb3).later hb4).later (Below.refl _ _).drew) (h4.later (Below.refl _ _).drew) (by omega) (by omega)
 have hBdd:Below w.heap.size w wd.drew:=hBd.drew
 have hTdd:Tabs wd.drew:=hTd.later (Below.refl _ _).drew
 obtain ⟨x0,x1,x2,_,_,_,xl⟩:=hx4.cells
 have HT1:=Lib.hid ht1
 clear ht1
 go_wp2_with fail
 go_region_held3 (fun w'=>w'.cell? ⟨wa.heap.size,0,none⟩=some (.bool (decide (z<0)))∧w'.cell? ⟨wa.heap.size,1,none⟩=some (.slice A n c))
  ((first | exact ⟨x0,x1⟩ | exact ⟨((hb5.cell (p:=⟨wa.heap.size,0,none⟩) xl).trans x0),((hb5.cell (p:=⟨wa.heap.size,1,none⟩) xl).trans x1)⟩ | exact ⟨((hb6.cell (p:=⟨wa.heap.size,0,none⟩) al6).trans ((hb5.cell (p:=⟨wa.heap.size,0,none⟩) xl).trans x0)),((hb6.cell (p:=⟨wa.heap.size,1,none⟩) al6).trans ((hb5.cell (p:=⟨wa.heap.size,1,none⟩) xl).trans x1))⟩ | exact ⟨((hb7.cell (p:=⟨wa.heap.size,0,none⟩) al7).trans ((hb6.cell (p:=⟨wa.heap.size,0,none⟩) al6).trans ((hb5.cell (p:=⟨wa.heap.size,0,none⟩) xl).trans x0))),((hb7.cell (p:=⟨wa.heap.size,1,none⟩) al7).trans ((hb6.cell (p:=⟨wa.heap.size,1,none⟩) al6).trans ((hb5.cell (p:=⟨wa.heap.size,1,none⟩) xl).trans x1)))⟩))
  (first
   |(go_at_call 105;refine (HT1.out).mono ?_;rintro e w5 ⟨A5,m5,c5,rfl,hn5,hb5⟩;have al6:=Nat.lt_of_lt_of_le xl hb5.size)
   |(go_at_call 102;refine (naturalOf_any 1 w5 (by omega) (by omega)).mono ?_;rintro e w6 ⟨A6,m6,c6,rfl,hn6,hb6⟩;have al7:=Nat.lt_of_lt_of_le al6 hb6.size)
   |(go_at_call 66;refine (write_any ⟨decide (z<0),z.natAbs*2 ^ s,1⟩ A5 A6 m5 c5 m6 c6 w6 ((hTdd.later hb5).later hb6) (hn5.later hb6) hn6 (by have:=times_len hn5 (Nat.le_of_eq h1.len) (Nat.le_of_eq h4.len);omega) (by have:=hn6.len;have:=digs_one_len (x:=1) (by omega);have e1:Int.toNat 1=1:=rfl;rw [←hn6.len,e1];omega)).mono ?_;rintro e w7 ⟨S,rfl,hS,hb7⟩))
 go_wp2_with fail
 go_ret2
 exact ⟨S,rfl,hS,((hBdd.trans (hb5.mono hBdd.size)).trans (hb6.mono (by have:=hBdd.size;have:=hb5.size;omega))).trans (hb7.mono (by have:=hBdd.size;have:=hb5.size;have:=hb6.size;omega))⟩
def exQ (b:Nat):Q:=
 match Ieee.single.read b with
 | .number s m p=>if m=0 then ⟨false,0,1⟩ else if p+m.log2<23 then lowQ s (m*2 ^ (23 - m.log2)) (2 ^ (23 - (p+m.log2)).toNat) else ⟨s,m*2 ^ (23 - m.log2)*2 ^ (p+m.log2 - 23).toNat,1⟩
 | _=>⟨false,0,1⟩
theorem parts_pos {b m:Nat} {s:Bool} {p:Int} (h:Ieee.single.read b = .number s m p) (hm:0<m) :
  Parts b (dw s (sg m) (p+m.log2 - 52)) (dw s (sg m) (-53)) (dw s (sg m) (-29)) (p+m.log2+1) (Ieee.signed s (m*2 ^ (23 - m.log2)) 0) ∧
   decide (Ieee.signed s (m*2 ^ (23 - m.log2)) 0<0)=s∧(Ieee.signed s (m*2 ^ (23 - m.log2)) 0).natAbs=m*2 ^ (23 - m.log2):=by
 obtain ⟨_,hn,hl⟩:=widen h hm
 obtain ⟨h1,h2,h3⟩:=sgl_fin h
 obtain ⟨hi,hj,hp⟩:=int_29 s hm hl h1
 have hf:∀ W:World,Calls Tryz.prog 101 #[.float .f64 (dw s (sg m) (p+m.log2 - 52))] W fun e w'=>e = .returned (.tuple #[.float .f64 (dw s (sg m) (-53)),.int .i64 (p+m.log2+1)])∧W=w':=by
  intro W
  have:=Frexp_of W (frexp_dw s W hn)
  rw [show p+(m.log2:Int) - 52+53=p+m.log2+1 from by omega] at this
  exact this
 have hmul:=mul_24 s (m:=sg m) ⟨hn.lo,hn.hi,by omega,by omega⟩
 have hfine:=fine_pos h hm
 generalize m*2 ^ (23 - m.log2)=J at *
 have hv:Ieee.signed s J 0=if s then -(J:Int) else (J:Int):=by unfold Ieee.signed;rw [Nat.shiftLeft_zero]
 have hb : -16777216<Ieee.signed s J 0∧Ieee.signed s J 0<16777216:=by rw [hv];split<;>omega
 refine ⟨⟨hfine,hf,hmul,hi,hb.1,hb.2,by omega,by omega⟩,?_,?_⟩
 ·rw [hv];cases s
  ·exact decide_eq_false (by rw [if_neg (by decide)];omega)
  ·exact decide_eq_true (by rw [if_pos rfl];omega)
 ·rw [hv];split<;>omega
theorem parts_zero {b:Nat} {s:Bool} {p:Int} (h:Ieee.single.read b = .number s 0 p) :
  Parts b (Ieee.double.word s 0) (Ieee.double.word s 0) (Ieee.double.word s 0) 0 0:=
 ⟨fine_zero h,fun W=>Frexp_of W (frexp_zero _ W (eq_zero s)),mul_zero_24 s,int_zero s,by omega,by omega,by omega,by omega⟩
theorem Exact_fin {b m:Nat} {s:Bool} {p:Int} (w:World) (hT:Tabs w) (h:Ieee.single.read b = .number s m p) :
  Calls Tryz.prog 40 #[.float .f32 b] w (RetText w (writeT (exQ b)) (writeE (exQ b))):=by
 unfold exQ
 rw [h]
 dsimp only
 by_cases hm:m=0
 ·subst hm
  have:=Exact_down w hT (parts_zero h) (by omega)
  rw [if_pos rfl]
  have e:lowQ (decide ((0:Int)<0)) (0:Int).natAbs (2 ^ (24 - 0:Int).toNat)=⟨false,0,1⟩:=by
   unfold lowQ
   rw [if_neg (by have:=Nat.two_pow_pos (24 - 0:Int).toNat;omega),if_pos (by rfl)]
  rw [e] at this
  exact this
 ·rw [if_neg hm]
  obtain ⟨hP,hs,hz⟩:=parts_pos h (by omega)
  by_cases hc:p+m.log2<23
  ·have:=Exact_down w hT hP (by omega)
   rw [hs,hz,show (24 - (p+(m.log2:Int)+1))=23 - (p+m.log2) from by omega] at this
   rw [if_pos hc]
   exact this
  ·have:=Exact_up w hT hP (by omega)
   rw [hs,hz,show (p+(m.log2:Int)+1 - 24)=p+m.log2 - 23 from by omega] at this
   rw [if_neg hc]
   exact this
theorem isFinite_inf {b x:Nat} (w:World) (hc:floatToFloatBits .f32 b .f64=some x) (hx:x<18446744073709551616)
  (hn:(FloatKind.f64.format.order x x != some .eq)=false) (hi:(FloatKind.f64.format.order (absB x) 9218868437227405311==some .gt)=true) :
  Calls Tryz.prog 100 #[.float .f32 b] w fun e w'=>e = .returned (.bool false)∧w=w':=by
 have hcv:=fun W:World=>run_convert_float_float (P:=Tryz.prog) W 55 118 .f32 .f64 b x (by kernel_rfl) (by kernel_rfl) hc
 have hnn:=isNaN_any x w
 rw [hn] at hnn
 have hin:=isInf_any x w hx
 rw [hi] at hin
 have HN:=Lib.hid hnn
 have HI:=Lib.hid hin
 clear hnn hin hn hi hc
 go_enter Tryz.func100,Tryz.ntmps100
 go_wp2_with fail
 refine HN.out.mono ?_
 rintro e w1 ⟨rfl,rfl⟩
 go_wp2_with fail
 refine HI.out.mono ?_
 rintro e w1 ⟨rfl,rfl⟩
 go_wp2_with fail
 go_ret
 exact ⟨rfl,rfl⟩
theorem inf_fine (s:Bool) {b:Nat} (h:Ieee.single.read b = .infinity s) (w:World):Calls Tryz.prog 100 #[.float .f32 b] w fun e w'=>e = .returned (.bool false)∧w=w':=by
 refine isFinite_inf (x:=Ieee.double.word s 9218868437227405312) w ?_ ?_ ?_ ?_
 ·have h':FloatKind.f32.decode b = .infinity s:=h
  unfold floatToFloatBits
  rw [if_neg (by decide),h']
  show some (Ieee.double.word s Ieee.double.infRung)=_
  rw [dbl_inf]
 ·cases s<;>decide +kernel
 ·cases s<;>decide +kernel
 ·cases s<;>decide +kernel
end Go.Proofs.YteajibbphcfmeaaGreatDoor
