/- Rows of one's own: a block that the call made, which holds words; what is kept while only such a block turns. -/
import Derived.Test.YteajibbphcfmeaaGreatDoorTWords
namespace Go.Proofs.YteajibbphcfmeaaGreatDoor
open Go.RowKit Bn
def RowAt (w:World) (base g n c:Nat) (l:List Nat):Prop:=w.ownsRow base 120 1 (.slice (some ⟨g,0,none⟩) n c) n (l.map u64v)
section
variable {w w':World} {base g n c:Nat} {l:List Nat}
theorem RowAt.len (h:RowAt w base g n c l):l.length=n:=by
 have:=h.1;rw [List.length_map] at this;omega
theorem RowAt.cell (h:RowAt w base g n c l) (k:Nat) (hk:k<n):w.cell? ⟨g,k,none⟩=some (.int .u64 ((l.getD k 0:Nat):Int)):=by
 have hl:k<l.length:=by rw [h.len];exact hk
 rw [World.ownsRow.cellAt h k (by omega)]
 simp [u64v,List.getD,hl]
theorem RowAt.free (h:RowAt w base g n c l) (k:Nat):w.frozen? ⟨g,k,none⟩=false:=World.ownsRow.frozenAt h k
theorem RowAt.set (h:RowAt w base g n c l) (k x:Nat):RowAt (w.setCell ⟨g,k,none⟩ (.int .u64 (x:Int))) base g n c (l.set k x):=by
 have:=(World.ownsRow.stored h k (u64v x)).1
 unfold RowAt
 rw [List.map_set]
 exact this
theorem RowAt.lt (h:RowAt w base g n c l):base≤g∧g<w.heap.size:=World.ownsRow.lt h g rfl
theorem RowAt.words (h:RowAt w base g n c l):WordsAt w w.heap.size (some ⟨g,0,none⟩) n l:=Reads.of_own h
theorem RowAt.kept {row:Option Nat} (h:RowAt w base g n c l) (hg:w.grownBy w' row) (hr:row≠some g):RowAt w' base g n c l:=
 World.ownsRow.kept h hg (.inr (by simpa [Value.ownBlock] using fun e=>hr e.symm))
theorem RowAt.below (h:RowAt w base g n c l) (hb:Below w.heap.size w w'):RowAt w' base g n c l:=
 h.kept (World.grownBy.mk hb.os hb.tape hb.output hb.size (fun i hi _=>hb.block i hi):w.grownBy w' none) (by simp)
theorem RowAt.drewN (h:RowAt w base g n c l) (q:Nat):RowAt (w.drewN q) base g n c l:=h
theorem RowAt.alloc (h:RowAt w base g n c l) (o:Obj):RowAt (w.alloc o) base g n c l:=World.ownsRow.alloc h o
theorem RowAt.caps (h:RowAt w base g n c l):n≤c∧c≤maxLen:=by
 rcases h.2 with ⟨h',_⟩ | ⟨g',cap',cur,h',hb,hg,hnc,hcm,hcs,htake⟩
 ·simp at h'
 ·simp only [Value.slice.injEq] at h'
  obtain ⟨_,_,rfl⟩:=h'
  exact ⟨hnc,hcm⟩
theorem RowAt.mono {base':Nat} (h:RowAt w base g n c l) (hb:base'≤base):RowAt w base' g n c l:=by
 refine ⟨h.1,?_⟩
 rcases h.2 with h' | ⟨g',cap',cur,h',hb',r⟩
 ·exact .inl h'
 ·exact .inr ⟨g',cap',cur,h',by omega,r⟩
theorem RowAt.take {m:Nat} (h:RowAt w base g n c l) (hm:m≤n):RowAt w base g m c (l.take m):=by
 refine ⟨by rw [List.length_map,List.length_take,h.len];omega,?_⟩
 rcases h.2 with ⟨h',_⟩ | ⟨g',cap',cur,h',hb,hg,hnc,hcm,hcs,htake⟩
 ·simp at h'
 ·simp only [Value.slice.injEq,Option.some.injEq,Addr.mk.injEq,and_true,true_and] at h'
  obtain ⟨rfl,rfl⟩:=h'
  refine .inr ⟨g,c,cur,rfl,hb,hg,by omega,hcm,hcs,?_⟩
  rw [List.map_take,←htake,List.take_take]
  congr 1
  omega
theorem RowAt.nat {x:Nat} (h:RowAt w base g n c (digs x)):NatS w w.heap.size (some ⟨g,0,none⟩) n c x:=⟨h.words,h.caps.1,h.caps.2⟩
end
theorem RowAt.made {w1:World} {base g n:Nat} (h:w1.ownsRow base 120 1 (.slice (some ⟨g,0,none⟩) n n) n (madeCells #[Value.int .u64 0] n).toList) :
  RowAt w1 base g n n (List.replicate n 0):=by
 unfold RowAt
 rw [List.map_replicate]
 rwa [toList_madeCells_one] at h
theorem trimmed_row (base g n c:Nat) (l:List Nat) (w:World) (hr:RowAt w base g n c l) (hw:Wf l) :
  Calls Tryz.prog 155 #[.slice (some ⟨g,0,none⟩) n c] w fun e w'=>∃ m,e = .returned (.slice (some ⟨g,0,none⟩) m c)∧RowAt w base g m c (digs (val l))∧w=w':=
 (trimmed_any w.heap.size _ n c l w hr.words hw hr.caps.1 hr.caps.2).mono fun e w' ⟨m,he,hm,ht,hww⟩=>⟨m,he,by
  have h:=hr.take hm
  rwa [ht] at h,hww⟩
theorem only_drewN {a w:World} {row:Option Nat} (h:a.grownBy w row) (n:Nat):a.grownBy (w.drewN n) row:=⟨h.os,h.tape,h.output,h.size,h.block⟩
theorem only_drew {a w:World} {row:Option Nat} (h:a.grownBy w row):a.grownBy w.drew row:=⟨h.os,h.tape,h.output,h.size,h.block⟩
theorem only_setCell {a w:World} {g:Nat} (h:a.grownBy w (some g)) {p:Addr} (hp:p.block=g∨a.heap.size≤p.block) (u:Value):a.grownBy (w.setCell p u) (some g):=
 ⟨h.os,h.tape,h.output,by simpa [World.setCell] using h.size,fun i hi hne=>(Below.heap_setCell w p u i (by
  rintro rfl
  rcases hp with hp | hp
  ·exact hne (by rw [hp])
  ·omega)).trans (h.block i hi hne)⟩
theorem only_of_below {a w:World} (h:Below a.heap.size a w) (row:Option Nat):a.grownBy w row:=⟨h.os,h.tape,h.output,h.size,fun i hi _=>h.block i hi⟩
theorem only_trans {a b c:World} {g:Nat} (h:a.grownBy b (some g)) (k:b.grownBy c (some g)):a.grownBy c (some g):=
 ⟨k.os.trans h.os,k.tape.trans h.tape,k.output.trans h.output,Nat.le_trans h.size k.size,fun i hi hne=>(k.block i (Nat.lt_of_lt_of_le hi h.size) hne).trans (h.block i hi hne)⟩
def Off (A:Option Addr) (g:Nat):Prop:=∀ ad,A=some ad→ad.block≠g
theorem WordsAt.kept {w w':World} {B n g:Nat} {A:Option Addr} {l:List Nat} (h:WordsAt w B A n l) (hg:w.grownBy w' (some g)) (hB:B≤w.heap.size) (ho:0<n→Off A g):WordsAt w' B A n l:=
 ⟨h.1,fun hn=>by
  obtain ⟨ad,e,hb,hc⟩:=h.2 hn
  refine ⟨ad,e,hb,fun j u hu => ?_⟩
  rw [←hc j u hu]
  exact World.cell?_of_block (hg.block (ad.add j).block (by rw [block_of_add];omega) (by rw [block_of_add];intro e';exact ho hn ad e (by injection e')))⟩
theorem NatS.kept {w w':World} {n c x g:Nat} {A:Option Addr} (h:NatS w w.heap.size A n c x) (hg:w.grownBy w' (some g)) (ho:0<n→Off A g):NatS w' w'.heap.size A n c x:=
 ⟨(h.words.kept hg (Nat.le_refl _) ho).more hg.size,h.nc,h.cm⟩
theorem NatS.off {w:World} {n c x g:Nat} {A:Option Addr} (h:NatS w w.heap.size A n c x) (hg:w.heap.size≤g):0<n→Off A g:=by
 intro h0 ad e he
 obtain ⟨ad',e',hb,_⟩:=h.words.2 h0
 rw [e] at e'
 injection e' with e'
 subst e'
 omega
def NatRow (base x:Nat) (e:Ending) (w':World):Prop:=
 (e = .returned (.slice none 0 0)∧x=0)∨∃ g m c,e = .returned (.slice (some ⟨g,0,none⟩) m c)∧RowAt w' base g m c (digs x)
theorem NatS.nil (w:World) (B:Nat):NatS w B none 0 0 0:=⟨by rw [digs_zero];exact Reads.none_,Nat.le_refl _,by unfold maxLen;omega⟩
theorem NatRow.ret {w w':World} {x:Nat} {e:Ending} (h:NatRow w.heap.size x e w') (hb:Below w.heap.size w w'):RetNat w x e w':=by
 rcases h with ⟨rfl,rfl⟩ | ⟨g,m,c,rfl,hr⟩
 ·exact ⟨none,0,0,rfl,NatS.nil _ _,hb⟩
 ·exact ⟨_,m,c,rfl,hr.nat,hb⟩
end Go.Proofs.YteajibbphcfmeaaGreatDoor
namespace Go.Proofs.YteajibbphcfmeaaGreatDoor.Bn
theorem B_two:B=2 ^ 64:=by decide
theorem B_split (r:Nat) (h:r≤64):B=2 ^ r*2 ^ (64 - r):=by rw [B_two,←Nat.pow_add];congr 1;omega
theorem shr_eq (f r:Nat) (h:r≤64):f / 2 ^ (64 - r)=f*2 ^ r / B:=by
 rw [B_split r h,Nat.mul_comm f,Nat.mul_div_mul_left _ _ (Nat.two_pow_pos r)]
theorem shl_mod (f r:Nat) (h:r≤64):f*2 ^ r % B=2 ^ r*(f % 2 ^ (64 - r)):=by
 rw [B_split r h,Nat.mul_comm f,Nat.mul_mod_mul_left]
theorem shl_le (f r:Nat) (h:r≤64):f*2 ^ r % B+2 ^ r≤B:=by
 have h1:f % 2 ^ (64 - r)+1≤2 ^ (64 - r):=Nat.mod_lt _ (Nat.two_pow_pos _)
 have h2:=Nat.mul_le_mul_left (2 ^ r) h1
 rw [←B_split r h,Nat.mul_add,Nat.mul_one] at h2
 rw [shl_mod f r h]
 exact h2
theorem shr_lt (f r:Nat) (h:r≤64) (hf:f<B):f / 2 ^ (64 - r)<2 ^ r:=by
 rw [Nat.div_lt_iff_lt_mul (Nat.two_pow_pos _),←B_split r h]
 exact hf
theorem shl_round (l la:List Nat) (i p r f o:Nat) (hk:i+p+1<l.length) (hr:r≤64) (hf:la.getD i 0=f) (ho:l.getD (i+p) 0=o) (hz:l.getD (i+p+1) 0=0)
  (hinv:val l=val (la.take i)*2 ^ r*B ^ p) :
  val ((l.set (i+p) (o+f*2 ^ r % B)).set (i+p+1) (f / 2 ^ (64 - r)))=val (la.take (i+1))*2 ^ r*B ^ p:=by
 have h1:=val_set l (i+p) (o+f*2 ^ r % B) (by omega)
 have h2:=val_set (l.set (i+p) (o+f*2 ^ r % B)) (i+p+1) (f / 2 ^ (64 - r)) (by simpa using hk)
 rw [lgetD_set_ne _ _ _ _ (by omega),hz,Nat.mul_zero,Nat.add_zero] at h2
 rw [ho,Nat.mul_add] at h1
 have h3:B ^ (i+p+1)*(f / 2 ^ (64 - r))+B ^ (i+p)*(f*2 ^ r % B)=B ^ (i+p)*(f*2 ^ r):=by
  rw [shr_eq f r hr,Nat.pow_succ,Nat.mul_assoc,←Nat.mul_add,Nat.div_add_mod]
 have h4:val (la.take (i+1))*2 ^ r*B ^ p=val (la.take i)*2 ^ r*B ^ p+B ^ (i+p)*(f*2 ^ r):=by
  rw [val_take_getD,hf,Nat.add_mul,Nat.add_mul,Nat.pow_add]
  congr 1
  rw [Nat.mul_assoc (B ^ i) f,Nat.mul_assoc (B ^ i),Nat.mul_comm (f*2 ^ r) (B ^ p),←Nat.mul_assoc]
 rw [h4,h2]
 generalize B ^ (i+p+1)*(f / 2 ^ (64 - r))=a1 at *
 generalize B ^ (i+p)*(f*2 ^ r % B)=a2 at *
 generalize B ^ (i+p)*(f*2 ^ r)=a3 at *
 generalize B ^ (i+p)*o=a4 at *
 generalize val (la.take i)*2 ^ r*B ^ p=a5 at *
 omega
theorem shl_done (x s p r:Nat) (h:s=64*p+r):x*2 ^ r*B ^ p=x*2 ^ s:=by
 rw [h,B_two,←Nat.pow_mul,Nat.mul_assoc,←Nat.pow_add]
 congr 2
 omega
theorem shr_word (z z' r:Nat) (hr:r<64) (hz:z<B):z / 2 ^ r+z'*2 ^ (64 - r) % B<B ∧
  (z / 2 ^ r+z'*2 ^ (64 - r) % B)*2 ^ r+z % 2 ^ r=z+B*(z' % 2 ^ r):=by
 have e:z'*2 ^ (64 - r) % B=2 ^ (64 - r)*(z' % 2 ^ r):=by
  have:=shl_mod z' (64 - r) (by omega)
  rwa [show 64 - (64 - r)=r from by omega] at this
 have h1:z / 2 ^ r<2 ^ (64 - r):=by
  rw [Nat.div_lt_iff_lt_mul (Nat.two_pow_pos _),Nat.mul_comm,←B_split r (by omega)];exact hz
 have h2:z' % 2 ^ r+1≤2 ^ r:=Nat.mod_lt _ (Nat.two_pow_pos _)
 have h3:=Nat.mul_le_mul_left (2 ^ (64 - r)) h2
 have h4:=B_split r (by omega)
 rw [Nat.mul_comm] at h4
 rw [←h4,Nat.mul_add,Nat.mul_one] at h3
 rw [e]
 refine ⟨by omega,?_⟩
 have h5:2 ^ (64 - r)*(z' % 2 ^ r)*2 ^ r=B*(z' % 2 ^ r):=by
  rw [h4,Nat.mul_assoc,Nat.mul_assoc,Nat.mul_comm (z' % 2 ^ r)]
 have h6:=Nat.div_add_mod z (2 ^ r)
 rw [Nat.add_mul,h5,Nat.mul_comm (z / 2 ^ r)]
 omega
theorem shr_round (l la:List Nat) (p k r t:Nat) (hk:k<l.length) (hr:r<64) (hw:Wf la)
  (ht:t=la.getD (p+k) 0 / 2 ^ r+la.getD (p+k+1) 0*2 ^ (64 - r) % B)
  (hinv:val (l.take k)*2 ^ r+la.getD p 0 % 2 ^ r=val ((la.drop p).take k)+B ^ k*(la.getD (p+k) 0 % 2 ^ r)) :
  val ((l.set k t).take (k+1))*2 ^ r+la.getD p 0 % 2 ^ r=val ((la.drop p).take (k+1))+B ^ (k+1)*(la.getD (p+(k+1)) 0 % 2 ^ r):=by
 have h1:=(shr_word (la.getD (p+k) 0) (la.getD (p+k+1) 0) r hr (getD_lt hw _)).2
 rw [←ht] at h1
 have hd:(la.drop p).getD k 0=la.getD (p+k) 0:=by simp [List.getD,List.getElem?_drop]
 rw [val_take_set l k t hk,val_take_getD,hd,Nat.add_mul,←Nat.add_assoc p k 1]
 have h2:B ^ k*t*2 ^ r+B ^ k*(la.getD (p+k) 0 % 2 ^ r)=B ^ k*la.getD (p+k) 0+B ^ (k+1)*(la.getD (p+k+1) 0 % 2 ^ r):=by
  rw [Nat.pow_succ,Nat.mul_assoc,Nat.mul_assoc,←Nat.mul_add,←Nat.mul_add,h1]
 generalize B ^ k*t*2 ^ r=a1 at *
 generalize B ^ k*(la.getD (p+k) 0 % 2 ^ r)=a2 at *
 generalize B ^ k*la.getD (p+k) 0=a3 at *
 generalize B ^ (k+1)*(la.getD (p+k+1) 0 % 2 ^ r)=a4 at *
 generalize val (l.take k)*2 ^ r=a5 at *
 omega
theorem val_drop_div {l:List Nat} (hw:Wf l) (p:Nat) (hp:p≤l.length):val (l.drop p)=val l / B ^ p:=by
 have h:=val_split l p hp
 have h2:=val_lt (hw.take p)
 rw [List.length_take,Nat.min_eq_left hp] at h2
 rw [h,Nat.add_mul_div_left _ _ (Nat.pow_pos B_pos),Nat.div_eq_of_lt h2,Nat.zero_add]
theorem shr_done (l la:List Nat) (x s p r m:Nat) (h:s=64*p+r) (hla:la=digs x) (hp:p≤la.length) (hm:m=la.length - p)
  (hinv:val (l.take m)*2 ^ r+la.getD p 0 % 2 ^ r=val ((la.drop p).take m)+B ^ m*(la.getD (p+m) 0 % 2 ^ r)):val (l.take m)=x / 2 ^ s:=by
 subst hla
 rw [getD_out (l:=digs x) (k:=p+m) (by omega),Nat.zero_mod,Nat.mul_zero,Nat.add_zero,List.take_of_length_le (l:=(digs x).drop p) (by rw [List.length_drop];omega),val_drop_div (wf_digs x) p hp,val_digs] at hinv
 have e:x / 2 ^ s=x / B ^ p / 2 ^ r:=by
  rw [Nat.div_div_eq_div_mul,h,B_two,←Nat.pow_mul,←Nat.pow_add]
 have hlt:=Nat.mod_lt ((digs x).getD p 0) (Nat.two_pow_pos r)
 rw [e,←hinv,Nat.mul_comm,Nat.mul_add_div (Nat.two_pow_pos r),Nat.div_eq_of_lt hlt,Nat.add_zero]
theorem shr_gone (x s p:Nat) (h:64*p≤s) (hp:(digs x).length≤p):x / 2 ^ s=0:=by
 rw [Nat.div_eq_zero_iff]
 right
 have h1:=lt_of_digs_length x
 have h2:B ^ (digs x).length≤B ^ p:=Nat.pow_le_pow_right B_pos hp
 have h3:B ^ p≤2 ^ s:=by rw [B_two,←Nat.pow_mul];exact Nat.pow_le_pow_right (by omega) h
 omega
def ntz (n:Nat):Nat:=if n=0 then 0 else if n % 2=1 then 0 else ntz (n / 2)+1
termination_by n
decreasing_by
 rename_i h _
 omega
theorem ntz_odd (m:Nat):ntz (2*m+1)=0:=by
 rw [ntz,if_neg (by omega),if_pos (by omega)]
theorem ntz_two {n:Nat} (h:0<n):ntz (2*n)=ntz n+1:=by
 rw [ntz,if_neg (by omega),if_neg (by omega),Nat.mul_div_cancel_left _ (by omega)]
theorem ntz_pow (t m:Nat):ntz (2 ^ t*(2*m+1))=t:=by
 induction t with
 | zero=>rw [Nat.pow_zero,Nat.one_mul,ntz_odd]
 | succ t ih=>
  rw [Nat.pow_succ,Nat.mul_comm (2 ^ t) 2,Nat.mul_assoc,ntz_two (Nat.mul_pos (Nat.two_pow_pos _) (by omega)),ih]
theorem ntz_spec {n:Nat} (h:0<n):∃ m,n=2 ^ ntz n*(2*m+1):=by
 induction n using Nat.strongRecOn with
 | ind n ih=>
  rcases Nat.mod_two_eq_zero_or_one n with h0 | h1
  ·obtain ⟨m,hm⟩:=ih (n / 2) (by omega) (by omega)
   refine ⟨m,?_⟩
   have e:n=2*(n / 2):=by omega
   have e2:ntz n=ntz (n / 2)+1:=by rw [e,ntz_two (by omega)];congr 2;omega
   rw [e2,Nat.pow_succ,Nat.mul_comm (2 ^ _) 2,Nat.mul_assoc,←hm]
   omega
  ·refine ⟨n / 2,?_⟩
   have e:ntz n=0:=by rw [ntz,if_neg (by omega),if_pos h1]
   rw [e]
   omega
def nbits (n:Nat):Nat:=if n=0 then 0 else Nat.log2 n+1
theorem nbits_eq {n k:Nat} (h1:2 ^ k≤n) (h2:n<2 ^ (k+1)):nbits n=k+1:=by
 have hn:n≠0:=by have:=Nat.two_pow_pos k;omega
 rw [nbits,if_neg hn]
 congr 1
 have a:=Nat.log2_self_le hn
 have b:=Nat.lt_log2_self (n:=n)
 have c:¬ k+1≤n.log2:=fun hh=>by have:=Nat.pow_le_pow_right (n:=2) (by omega) hh;omega
 have d:¬ n.log2+1≤k:=fun hh=>by have:=Nat.pow_le_pow_right (n:=2) (by omega) hh;omega
 omega
theorem lt_nbits (n:Nat):n<2 ^ nbits n:=by
 by_cases h:n=0
 ·subst h;simp [nbits]
 ·rw [nbits,if_neg h];exact Nat.lt_log2_self
theorem nbits_le {n:Nat} (h:0<n):2 ^ (nbits n - 1)≤n:=by
 rw [nbits,if_neg (by omega),Nat.add_sub_cancel];exact Nat.log2_self_le (by omega)
theorem nbits_pos {n:Nat} (h:0<n):0<nbits n:=by rw [nbits,if_neg (by omega)];omega
theorem val_zero_take {l:List Nat}:∀ (i:Nat),(∀ j,j<i→l.getD j 0=0)→val (l.take i)=0
 | 0,_=>by simp
 | i+1,h=>by rw [val_take_getD,val_zero_take i (fun j hj=>h j (by omega)),h i (by omega),Nat.mul_zero]
theorem top_word {x:Nat} (hx:0<x) (i:Nat) (hi:i<(digs x).length) (hz:∀ j,j<i→(digs x).getD j 0=0) (h0:(digs x).getD i 0=0):i+1<(digs x).length:=by
 rcases Nat.lt_or_ge (i+1) (digs x).length with h | h
 ·exact h
 ·exfalso
  have e:=val_zero_take (l:=digs x) (i+1) (fun j hj=>by
   rcases Nat.lt_or_ge j i with h1 | h1
   ·exact hz j h1
   ·obtain rfl:j=i:=by omega
    exact h0)
  rw [List.take_of_length_le h,val_digs] at e
  omega
theorem val_at {x:Nat} (i:Nat) (hi:i<(digs x).length):x=val ((digs x).take i)+B ^ i*((digs x).getD i 0+B*val ((digs x).drop (i+1))):=by
 have h:=val_split (digs x) i (by omega)
 rw [val_digs,List.drop_eq_getElem_cons hi,val_cons,←getD_in hi] at h
 exact h
theorem ntz_words {x:Nat} (hx:0<x) (i:Nat) (hi:i<(digs x).length) (hz:∀ j,j<i→(digs x).getD j 0=0) (z m c:Nat) (hg:(digs x).getD i 0=z) (hm:z=2 ^ c*(2*m+1)) (hc:c<64) :
  ntz x=64*i+c:=by
 have _:=hx
 have h:=val_at i hi
 rw [val_zero_take i hz,Nat.zero_add,hg,hm] at h
 generalize val ((digs x).drop (i+1))=y at h
 have e:2 ^ c*(2*m+1)+B*y=2 ^ c*(2*(m+2 ^ (63 - c)*y)+1):=by
  have hb:B=2 ^ c*(2*2 ^ (63 - c)):=by
   rw [B_two,←Nat.pow_succ',←Nat.pow_add]
   congr 1
   omega
  rw [hb,Nat.mul_assoc,←Nat.mul_add,Nat.mul_add 2 m,Nat.mul_assoc 2]
  congr 1
  omega
 rw [e,B_two,←Nat.pow_mul,←Nat.mul_assoc,←Nat.pow_add] at h
 rw [h,ntz_pow]
theorem nbits_words {x:Nat} (hx:0<x) (i:Nat) (hi:i+1=(digs x).length) (z b:Nat) (hg:(digs x).getD i 0=z) (hb:1≤b) (h1:2 ^ (b - 1)≤z) (h2:z<2 ^ b) :
  nbits x=64*i+b:=by
 have _:=hx
 have h:=val_at (x:=x) i (by omega)
 rw [hg,List.drop_of_length_le (by omega),val_nil,Nat.mul_zero,Nat.add_zero] at h
 have h3:=val_lt ((wf_digs x).take i)
 rw [List.length_take,Nat.min_eq_left (by omega)] at h3
 generalize val ((digs x).take i)=y at *
 have h4:B ^ i*z+B ^ i≤B ^ i*2 ^ b:=by
  have:=Nat.mul_le_mul_left (B ^ i) h2
  rwa [Nat.mul_succ] at this
 have h5:=Nat.mul_le_mul_left (B ^ i) h1
 have e:B ^ i=2 ^ (64*i):=by rw [B_two,←Nat.pow_mul]
 rw [e,←Nat.pow_add] at h4 h5
 rw [e] at h h3
 rw [show 64*i+b=64*i+b - 1+1 from by omega]
 apply nbits_eq
 ·rw [show 64*i+b - 1=64*i+(b - 1) from by omega];omega
 ·rw [show 64*i+b - 1+1=64*i+b from by omega];omega
end Go.Proofs.YteajibbphcfmeaaGreatDoor.Bn
