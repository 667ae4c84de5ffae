/- Contracts of copyCheck and WriteString of a strings.Builder (after the shelf's own, whose text another Go had). -/
import Derived.Test.YtjhgadajpliclaaGreatDoorIRow
import Derived.Test.YtjhgadajpliclaaGreatDoorIShelf
import Derived.Shelf.Strings.Builder1
import Derived.Test.YtjhgadajpliclaaGreatDoorINat5
import Derived.Lib.ItoaMem
import Derived.Lib.AppendIntMem
import Derived.Shelf.Strconv.Itoa2
import Derived.Test.YtjhgadajpliclaaGreatDoorIGcd1
import Derived.Test.YtjhgadajpliclaaGreatDoorIRat2
namespace Go.Proofs.YtjhgadajpliclaaGreatDoor
open Go.RowKit
theorem bldSize:(Tryz.prog.info? 229).map (·.size)=some 2:=by kernel_rfl
theorem bldLies:liesAt Tryz.prog Tryz.prog.depth 229 (2 / Tryz.prog.cellsOf 229) 0 229 1=true:=by kernel_rfl
set_option maxHeartbeats 1000000 in
theorem copyCheck_used (b:Nat) (w:World) (h0:w.cell? ⟨b,0,none⟩=some (.pointer (some ⟨b,0,none⟩))) :
  Calls Tryz.prog 217 #[.pointer (some ⟨b,0,none⟩)] w fun e w'=>e = .returned (.tuple #[])∧w'=w:=by
 obtain ⟨j,hj,_⟩:=Option.map_eq_some_iff.1 bldSize
 have hne:=Lib.run_neq_ptr_same w ⟨b,0,none⟩ Tryz.underlying226 hj
 go_enter Tryz.func217,Tryz.ntmps217
 go_wp2
 go_end0
 exact ⟨rfl,rfl⟩
set_option maxHeartbeats 1000000 in
theorem copyCheck_fresh (b:Nat) (w:World) (h0:w.cell? ⟨b,0,none⟩=some (.pointer none)) (hsh:w.shape? b=some (229,2)) (hfz:w.frozen? ⟨b,0,none⟩=false) :
  Calls Tryz.prog 217 #[.pointer (some ⟨b,0,none⟩)] w fun e w'=>e = .returned (.tuple #[])∧w'=w.setCell ⟨b,0,none⟩ (.pointer (some ⟨b,0,none⟩)):=by
 obtain ⟨j,hj,hjs⟩:=Option.map_eq_some_iff.1 bldSize
 have a1:=Lib.run_to_unsafe w ⟨b,0,none⟩ Tryz.underlying226 Tryz.underlying266 hj (by rw [hjs];decide) hsh (Nat.zero_lt_succ 1)
 have a2:=Lib.run_from_unsafe w ⟨b,0,none⟩ Tryz.underlying266 Tryz.underlying226 hj hsh bldLies
 have a3:∀ x:Value,(callFunc 235 #[x]).run Tryz.prog w = .ok (.value x) w:=fun x=>by
  rw [run_callFunc_extern Tryz.func235 (by kernel_rfl) (by kernel_rfl) (by kernel_rfl) (e:=Extern.AbiNoEscape.same) (by kernel_rfl),Lib.run_noEscape]
  rfl
 have hne:∀ W:World,(binOp .neq 226 (.pointer (some ⟨b,0,none⟩)) (.pointer (some ⟨b,0,none⟩))).run Tryz.prog W = .ok (.bool false) W:=fun W=>Lib.run_neq_ptr_same W ⟨b,0,none⟩ Tryz.underlying226 hj
 clear hjs hj
 go_enter Tryz.func217,Tryz.ntmps217
 go_wp2
 go_end0
 exact ⟨rfl,rfl⟩
theorem copyCheck_any (B b:Nat) (bs:List Value) (w:World) (h:Lib.IsBuilder 229 5 B b bs w) :
  Calls Tryz.prog 217 #[.pointer (some ⟨b,0,none⟩)] w fun e w'=>e = .returned (.tuple #[])∧(Lib.BuilderAt 229 5 B b (.pointer (some ⟨b,0,none⟩)) bs w'∧Below B w w'):=by
 rcases h with h | h
 ·refine (copyCheck_fresh b w h.cell0 h.shape h.frozen0).mono ?_
  rintro e w' ⟨rfl,rfl⟩
  exact ⟨rfl,h.used _,(Below.refl B w).setCell (p:=⟨b,0,none⟩) h.1 _⟩
 ·refine (copyCheck_used b w h.cell0).mono ?_
  rintro e w' ⟨rfl,rfl⟩
  exact ⟨rfl,h,Below.refl B _⟩
theorem info_u8:(Tryz.prog.info? 5).map (fun i=>(i.zero,i.size,i.bytes))=some (some (.int .u8 0),1,1):=by kernel_rfl
set_option maxHeartbeats 1000000 in
theorem writeString_any (B b:Nat) (bs:List Value) (s:ByteArray) (w:World) (h:Lib.IsBuilder 229 5 B b bs w) (hlen:bs.length+s.size≤140737488355328) (hBw:B≤w.heap.size) :
  Calls Tryz.prog 181 #[.pointer (some ⟨b,0,none⟩),.string s] w fun e w'=>e = .returned (.tuple #[.int .i64 s.size,.nilIface])∧(Lib.BuilderAt 229 5 B b (.pointer (some ⟨b,0,none⟩)) (bs++Lib.strCells s) w'∧Below B w w'):=by
 obtain ⟨i0,hi,hz0,hz1,hz2⟩:=info_parts info_u8
 go_enter Tryz.func181,Tryz.ntmps181
 go_wp2_with fail
 refine (copyCheck_any B b bs _ h).mono ?_
 rintro e w1 ⟨rfl,h1,hb1⟩
 obtain ⟨hB,v,hbk,hown,hne⟩:=h1
 have c0:w1.cell? ⟨b,0,none⟩=some (.pointer (some ⟨b,0,none⟩)):=by rw [Lib.cell_of_heap hbk];rfl
 have c1:w1.cell? ⟨b,1,none⟩=some v:=by rw [Lib.cell_of_heap hbk];rfl
 go_wp2_with (at_builtin;refine Lib.wpList_append_own_string _ rfl _ _ 227 9 rfl B 5 i0 Tryz.underlying227 Tryz.underlying9 hi hz0 hz1 hz2 _ _ _ rfl hown s rfl ?c3 ?c4 ?c5 ?_)
 case c3=>unfold maxLen;omega
 case c4=>omega
 case c5=>have:=hb1.size;omega
 intro v' w2 hown' hgrow _
 have hlt:b<w1.heap.size:=by
  rcases Nat.lt_or_ge b w1.heap.size with h' | h'
  ·exact h'
  ·simp [Array.getElem?_eq_none h'] at hbk
 have hb2:w2.heap[b]? = some (.cells #[.pointer (some ⟨b,0,none⟩),v] 229 (0,0)):=by
  rw [hgrow.block b hlt (fun e=>hne e.symm)]
  exact hbk
 have d0:w2.cell? ⟨b,0,none⟩=some (.pointer (some ⟨b,0,none⟩)):=by rw [Lib.cell_of_heap hb2];rfl
 have d1:w2.cell? ⟨b,1,none⟩=some v:=by rw [Lib.cell_of_heap hb2];rfl
 have f1:w2.frozen? ⟨b,1,none⟩=false:=Lib.frozen_of_heap hb2 1
 obtain ⟨ao,n',cap,rfl⟩:∃ ao n' cap,v' = .slice ao n' cap:=by
  rcases hown'.2 with ⟨hv,_⟩ | ⟨g,cap,cur,hv,_⟩
  ·exact ⟨_,_,_,hv⟩
  ·exact ⟨_,_,_,hv⟩
 go_wp2
 go_ret2
 refine ⟨rfl,?_,?_⟩
 ·exact Lib.BuilderAt.put (T:=229) (e:=5) hB hb2 (bs':=bs++Lib.strCells s) (by simpa [Lib.strCells_length] using hown') (by decide)
 ·exact (hb1.grown hgrow (by have:=hb1.size;omega) (fun k hk=>(hown.lt k hk).1)).setCell (p:=⟨b,1,none⟩) hB _
end Go.Proofs.YtjhgadajpliclaaGreatDoor
namespace Go.Proofs.YtjhgadajpliclaaGreatDoor
open Go.RowKit Go.Lib Go.Sort
set_option maxHeartbeats 2000000 in
set_option maxRecDepth 100000 in
theorem formatUint_in (u:Nat) (hu64:u<18446744073709551616) (w:World) (hT:Tabs w) :
  Calls Tryz.prog 218 #[.int .u64 u,.int .i64 10] w fun e w'=>e = .returned (.string ⟨(Lib.decDigits u).toArray⟩)∧Below w.heap.size w w':=by
 by_cases hs:u<100
 ·have hw:IntKind.i64.wrap (u:Int)=(u:Int):=IntWalk.i64_in _ (by omega)
  have hd:decide ((u:Int)<100)=true:=by simp;omega
  go_enter Tryz.func218,Tryz.ntmps218
  go_wp2_with fail
  refine (Tryz.internal_strconv_small u hs _).mono ?_
  rintro e w1 ⟨rfl,rfl⟩
  go_wp2
  go_ret
  exact ⟨rfl,Below.refl _ _⟩
 ·have hd:decide ((u:Int)<100)=false:=by simp;omega
  have hu1:1≤u:=by omega
  have hnd20:Lib.nDigits u≤20:=by have:=Lib.numDigits_eq u hu1 hu64;split at this<;>omega
  have hal:Tryz.prog.arrayLen 269=24:=by kernel_rfl
  have hsl:∀ W,(Instr.sliceAt 269 (.pointer (some ⟨w.heap.size,0,none⟩)) none (some (.int .i64 (Lib.nDigits u:Int))) none).run Tryz.prog W = .ok (.slice (some ⟨w.heap.size,0,none⟩) (Lib.nDigits u) 24) W:=fun W=>by
   rw [run_sliceAt_array_h W 269 ⟨w.heap.size,0,none⟩ (by kernel_rfl) .i64 (Lib.nDigits u:Int) (by omega) (by rw [hal];omega)]
   go_simp
  have hH0:=Lib.holds_zero0 w 269 (Lib.nDigits u) (by omega)
  have hfmt:=Tryz.internal_strconv_formatBase10 w.heap.size 0 24 u (Array.replicate (Lib.nDigits u) 0) (w.alloc (.cells Lib.zeros24 269)) hH0 (by rw [Array.size_replicate];exact Lib.lt_pow_nDigits u) hu64 (by rw [Array.size_replicate];omega)
  rw [Array.size_replicate] at hfmt
  have HH0:=Lib.hid hH0
  have HN:=Lib.hid (Tryz.internal_strconv_numDigits u hu1 hu64 (w.alloc (.cells Lib.zeros24 269)) (Lib.tabIs_alloc hT.pow _))
  clear hH0 hal hu1
  go_enter Tryz.func218,Tryz.ntmps218
  go_wp2_with fail
  refine HN.out.mono ?_
  rintro e w1 ⟨rfl,rfl⟩
  go_wp2_with fail
  refine hfmt.mono ?_
  rintro e w' ⟨rfl,k,v',dk,rfl,hF⟩
  have hcv:(convert 227 9 (.slice (some ⟨w.heap.size,0,none⟩) (Lib.nDigits u) 24)).run Tryz.prog ((putRow (fun (b:UInt8)=>Value.int .u8 (b.toNat:Int)) (w.alloc (.cells Lib.zeros24 269)) w.heap.size 0 dk).drewN k) = .ok (.string ⟨(Lib.decDigits u).toArray⟩) ((putRow (fun (b:UInt8)=>Value.int .u8 (b.toNat:Int)) (w.alloc (.cells Lib.zeros24 269)) w.heap.size 0 dk).drewN k):=by
   have h:=run_convert_bytes_back (P:=Tryz.prog) ((putRow (fun (b:UInt8)=>Value.int .u8 (b.toNat:Int)) (w.alloc (.cells Lib.zeros24 269)) w.heap.size 0 dk).drewN k) 227 9 5 ⟨w.heap.size,0,none⟩ 24 (Lib.decDigits u) Tryz.underlying227 Tryz.underlying5 Tryz.underlying9 (fun j hj=>by
    rw [Lib.row_is_numeral hF j hj,Lib.add_plain,World.cell?_drewN]
    exact cell?_putRow (fun (b:UInt8)=>Value.int .u8 (b.toNat:Int)) _ w.heap.size 0 _ dk HH0.out (by rw [hF.size,Array.size_replicate]) j (by rw [hF.size];rw [Lib.decDigits_length] at hj;exact hj))
   rw [Lib.decDigits_length] at h
   exact h
  have hB:Below w.heap.size w ((putRow (fun (b:UInt8)=>Value.int .u8 (b.toNat:Int)) (w.alloc (.cells Lib.zeros24 269)) w.heap.size 0 dk).drewN k):=by
   refine below_drewN ?_ k
   rw [alloc_eq_grow]
   obtain ⟨os',_,e⟩:=putRow_grow_new (fun (b:UInt8)=>Value.int .u8 (b.toNat:Int)) w #[.cells Lib.zeros24 269] w.heap.size 0 dk (Nat.le_refl _)
   rw [e]
   have h:=below_grow w.heap.size w (Nat.le_refl _) 0 os'
   rwa [World.drewN_zero] at h
  go_wp2
  go_ret
  exact ⟨rfl,hB⟩
theorem formatUint_any (u:Nat) (hu64:u<18446744073709551616) (w:World) (hT:Tabs w) :
  Calls Tryz.prog 182 #[.int .u64 u,.int .i64 10] w fun e w'=>e = .returned (.string ⟨(Lib.decDigits u).toArray⟩)∧Below w.heap.size w w':=by
 have h:=formatUint_in u hu64 w hT
 generalize (⟨(Lib.decDigits u).toArray⟩:ByteArray)=s at h ⊢
 go_enter Tryz.func182,Tryz.ntmps182
 go_wp2_with fail
 refine h.mono ?_
 rintro e w1 ⟨rfl,hb⟩
 go_wp2
 go_ret
 exact ⟨rfl,hb⟩
end Go.Proofs.YtjhgadajpliclaaGreatDoor
namespace Go.Proofs.YtjhgadajpliclaaGreatDoor
open Go.RowKit Bn
theorem T_pow_zero {x n k:Nat} (hx:x<B ^ n) (hk:2*n≤k):x / Dec.T ^ k=0:=by
 refine Nat.div_eq_of_lt (Nat.lt_of_lt_of_le hx ?_)
 have h1:B≤Dec.T ^ 2:=by rw [B_def,Dec.T_def];omega
 have h2:B ^ n≤(Dec.T ^ 2) ^ n:=Nat.pow_le_pow_left h1 n
 rw [←Nat.pow_mul] at h2
 exact Nat.le_trans h2 (Nat.pow_le_pow_right Dec.T_pos hk)
theorem own_below {w w':World} {base:Nat} {e:TypeId} {size n:Nat} {v:Value} {xs:List Value} (h:w.ownsRow base e size v n xs) (hb:Below w.heap.size w w'):w'.ownsRow base e size v n xs:=
 World.ownsRow.kept h (only_of_below hb none) (Classical.em _)
theorem isBuilder_below {T e:TypeId} {B b:Nat} {bs:List Value} {w w':World} (h:Lib.IsBuilder T e B b bs w) (hb:Below w.heap.size w w'):Lib.IsBuilder T e B b bs w':=by
 have key:∀ p,Lib.BuilderAt T e B b p bs w→Lib.BuilderAt T e B b p bs w':=by
  rintro p ⟨hB,v,hbk,hown,hne⟩
  refine ⟨hB,v,?_,own_below hown hb,hne⟩
  rw [hb.block b ?_]
  ·exact hbk
  ·rcases Nat.lt_or_ge b w.heap.size with h | h
   ·exact h
   ·rw [Array.getElem?_eq_none h] at hbk;cases hbk
 rcases h with h | h
 ·exact .inl (key _ h)
 ·exact .inr (key _ h)
theorem isBuilder_new (w:World) (T e:TypeId):Lib.IsBuilder T e w.heap.size w.heap.size [] (w.alloc (.cells #[.pointer none,.slice none 0 0] T)):=
 .inl ⟨Nat.le_refl _,.slice none 0 0,heap_alloc_new w _,World.ownsRow_nil _ _ _ _,by simp [Value.ownBlock]⟩
theorem repeatL_zeros (k:Nat):Lib.repeatL [48] k=List.replicate k 48:=by
 induction k with
 | zero=>rfl
 | succ k ih=>rw [Lib.repeatL,ih,List.replicate_succ];rfl
def textAt (x k j:Nat):List UInt8:=if j=k then [] else Lib.decDigits (x / Dec.T ^ j)
theorem textAt_len {x k:Nat} (j:Nat) (hk:0<k) (h:x / Dec.T ^ k=0):(textAt x k j).length≤19*k:=by
 unfold textAt
 split
 ·simp
 ·refine Dec.dec_length_le (by omega) (Nat.lt_of_le_of_lt (Nat.div_le_self _ _) ?_)
  have h1:x<Dec.T ^ k:=by
   rcases Nat.lt_or_ge x (Dec.T ^ k) with h2 | h2
   ·exact h2
   ·have:=Nat.div_pos h2 (Nat.pow_pos Dec.T_pos);omega
  rwa [Dec.T_pow,←Nat.pow_mul] at h1
theorem T_div (x k:Nat):x / Dec.T ^ k / Dec.T=x / Dec.T ^ (k+1):=by rw [Nat.pow_succ,Nat.div_div_eq_div_mul]
set_option maxHeartbeats 4000000 in
set_option maxRecDepth 100000 in
theorem text_any (A:Option Addr) (n c x:Nat) (w:World) (hT:Tabs w) (ha:NatS w w.heap.size A n c x) (hn:n≤1073741824) :
  Calls Tryz.prog 215 #[.slice A n c] w fun e w'=>e = .returned (.string ⟨(Lib.decDigits x).toArray⟩)∧Below w.heap.size w w':=by
 obtain ⟨i0,hi0,hz0,hz1,hz2⟩:=info_parts info_u64
 by_cases hx:x=0
 ·subst hx
  have hz:=isZero_val A n c 0 w ha
  have hd:Hid ((⟨(Lib.decDigits 0).toArray⟩:ByteArray)=⟨#[48]⟩):=by unfold Hid;rw [Dec.dec_lt (by omega)];rfl
  go_enter Tryz.func215,Tryz.ntmps215
  go_wp2_with fail
  refine hz.mono ?_
  rintro e w1 ⟨rfl,rfl⟩
  go_wp2
  go_ret
  exact ⟨by rw [hd.out];rfl,Below.refl _ _⟩
 ·have hz:=isZero_val A n c x w ha
  have hd:decide (x=0)=false:=by simpa using hx
  rw [hd] at hz
  have hxB:x<B ^ n:=by have:=lt_of_digs_length x;rw [ha.len] at this;exact this
  have HXB:=Lib.hid hxB
  have HX:=Lib.hid hx
  clear hd hxB hx
  go_enter Tryz.func215,Tryz.ntmps215
  go_wp2_with fail
  refine hz.mono ?_
  rintro e w1 ⟨rfl,rfl⟩
  go_wp2_with fail
  clear hz
  go_loopg [0,3] x (fun G sa sc we=>∃ A2 m2 c2 k ao cap,sa = .slice A2 m2 c2∧NatS we we.heap.size A2 m2 c2 (x / Dec.T ^ k)∧sc = .slice ao k cap∧we.ownsRow w.heap.size 199 1 (.slice ao k cap) k ((Dec.chunks x k).map u64v)∧Hid (0<k→x / Dec.T ^ (k - 1)≠0)∧x / Dec.T ^ k≤G∧m2≤n∧k≤2*n∧Below w.heap.size w we)
  case atStart=>exact ⟨A,n,c,0,none,0,rfl,by simpa using ha,rfl,World.ownsRow_nil _ _ _ _,fun h=>absurd h (by omega),by simp,Nat.le_refl _,Nat.zero_le _,Below.refl _ _⟩
  case round=>
   clear ha
   obtain ⟨A2,m2,c2,k,ao,cap,rfl,hn2,rfl,hown,hlast,hG,hm2,hk,hbel⟩:=hrel
   obtain ⟨we,rfl⟩:∃ we:World,we=wr:=⟨_,rfl⟩
   have hz:=isZero_val A2 m2 c2 (x / Dec.T ^ k) we hn2
   by_cases h0:x / Dec.T ^ k=0
   ·have hd:decide (x / Dec.T ^ k=0)=true:=by simpa using h0
    rw [hd] at hz
    have H0:=Lib.hid h0
    have HN2:=Lib.hid hn2
    clear hd h0 hG hn2
    go_wp2_with fail
    refine hz.mono ?_
    rintro e w1 ⟨rfl,rfl⟩
    clear hz
    have hk0:0<k:=by
     rcases Nat.eq_zero_or_pos k with h | h
     ·subst h;exact absurd (by simpa using H0.out) HX.out
     ·exact h
    have hrd:WordsAt we we.heap.size ao k (Dec.chunks x k):=Reads.of_own hown
    have hb0:Below we.heap.size we (we.alloc (.cells #[.pointer none,.slice none 0 0] 229)):=(Below.refl _ _).alloc (Nat.le_refl _) _
    have hlastx:=hlast.out hk0
    have HLAST:=Lib.hid hlastx
    have hbn:=isBuilder_new we 229 5
    clear hlastx hlast
    go_wp2_with fail
    go_loopw [6] (fun si wb=>∃ (j:Nat) (i:Int),i=(j:Int) - 1∧j≤k∧si = .int .i64 i∧Lib.IsBuilder 229 5 we.heap.size we.heap.size (Lib.byteCells (textAt x k j)) wb∧Below we.heap.size we wb) (fun si _=>(intOf si+1).toNat)
    case atStart=>exact ⟨k,(k:Int) - 1,rfl,Nat.le_refl _,by first | rfl | simp,by unfold textAt;rw [if_pos rfl];exact hbn,hb0⟩
    case round=>
     clear hbn hb0
     obtain ⟨j,i,hi,hj,rfl,hbl,hbb⟩:=hrel
     obtain ⟨wb,rfl⟩:∃ wb:World,wb=wr:=⟨_,rfl⟩
     have hsz:=hbb.size
     have hlt:we.heap.size<wb.heap.size:=by
      have h9:∃ p,Lib.BuilderAt 229 5 we.heap.size we.heap.size p (Lib.byteCells (textAt x k j)) wb:=by
       rcases hbl with h | h
       ·exact ⟨_,h⟩
       ·exact ⟨_,h⟩
      obtain ⟨p,_,v,hbk,_⟩:=h9
      rcases Nat.lt_or_ge we.heap.size wb.heap.size with h | h
      ·exact h
      ·rw [Array.getElem?_eq_none h] at hbk;cases hbk
     by_cases hj0:0<j
     ·obtain ⟨q,rfl⟩:∃ q,j=q+1:=⟨j - 1,by omega⟩
      have hi2:i=(q:Int):=by omega
      subst hi2
      obtain ⟨ad,rfl,_,hcell⟩:=WordsAt.word (w:=wb) (B:=we.heap.size) (A:=ao) (n:=k) (l:=Dec.chunks x k) (Reads.below hrd hbb) (k:=q) (by omega)
      have hcv:=Dec.chunks_get x k q (by omega)
      have hcvT:(Dec.chunks x k).getD q 0<Dec.T:=by rw [hcv];exact Nat.mod_lt _ Dec.T_pos
      generalize (Dec.chunks x k).getD q 0=cv at hcell hcv hcvT
      have hcvB:cv<18446744073709551616:=by rw [Dec.T_def] at hcvT;omega
      have hf:=formatUint_any cv hcvB wb ((hT.later hbel).later hbb)
      have hdl:(Lib.decDigits cv).length≤19:=Dec.dec_length_le (by omega) (by rw [←Dec.T_pow];exact hcvT)
      obtain ⟨sd,hsd⟩:∃ sd:ByteArray,sd=⟨(Lib.decDigits cv).toArray⟩:=⟨_,rfl⟩
      have hsdl:sd.data.toList=Lib.decDigits cv:=by rw [hsd]
      have hsds:sd.size≤19:=by
       have:sd.data.toList.length=sd.size:=by simp
       rw [hsdl] at this;omega
      rw [←hsd] at hf
      have htl:=textAt_len (q+1) hk0 H0.out
      have HTL:=Lib.hid htl
      have HF:=Lib.hid hf
      have HCV:=Lib.hid hcv
      have HSDL:=Lib.hid hsdl
      clear hf hcv hcvT hcvB hdl hsd hsdl hj0 hi htl
      go_wp2_with fail
      refine HF.out.mono ?_
      rintro e w1 ⟨rfl,hb1⟩
      have hbl1:=isBuilder_below hbl hb1
      have hB1:Below we.heap.size we w1:=hbb.trans (hb1.mono hsz)
      by_cases hq:q+1=k
      ·have ht0:textAt x k (q+1)=[]:=by unfold textAt;rw [if_pos hq]
       rw [ht0] at hbl1
       have hl:=Tryz.Builder_Len we.heap.size we.heap.size _ w1 hbl1
       have hl0:(Lib.byteCells []).length=0:=rfl
       have hfin:Hid (Lib.byteCells []++Lib.strCells sd=Lib.byteCells (textAt x k q)):=by
        have h1:x / Dec.T ^ q<Dec.T:=by
         have h2:=H0.out
         rw [←hq,←T_div] at h2
         exact (Nat.div_eq_zero_iff_lt Dec.T_pos).1 h2
        have h3:cv=x / Dec.T ^ q:=by rw [HCV.out,Nat.mod_eq_of_lt h1]
        unfold Hid textAt
        rw [if_neg (by omega),←h3,←HSDL.out]
        rfl
       rw [hl0] at hl
       have HL:=Lib.hid hl
       clear hl hl0 ht0 hbl
       go_wp2_with fail
       refine HL.out.mono ?_
       rintro e w2 ⟨rfl,hw2⟩
       subst hw2
       go_wp2_with fail
       refine (writeString_any we.heap.size we.heap.size _ sd _ hbl1 (by rw [Lib.byteCells_length,List.length_nil];omega) hB1.size).mono ?_
       rintro e w3 ⟨rfl,hbl3,hb3⟩
       have hbl4:Lib.IsBuilder 229 5 we.heap.size we.heap.size (Lib.byteCells (textAt x k q)) w3:=by rw [←hfin.out];exact .inr hbl3
       have hB3:=hB1.trans hb3
       clear hbl3 hbl1
       go_wp2
       go_roundw
       case rel=>exact ⟨q,(q:Int) - 1,rfl,by omega,by go_num,hbl4,hB3⟩
       case measure=>simp [intOf]
      ·have hpos:0<x / Dec.T ^ (q+1):=by
        refine Nat.pos_of_ne_zero fun h=>HLAST.out ?_
        have h1:x / Dec.T ^ (k - 1)=x / Dec.T ^ (q+1) / Dec.T ^ (k - 1 - (q+1)):=by rw [Nat.div_div_eq_div_mul,←Nat.pow_add];congr 2;omega
        rw [h1,h];simp
       have hl:=Tryz.Builder_Len we.heap.size we.heap.size _ w1 hbl1
       rw [Lib.byteCells_length] at hl
       have hlp:0<(textAt x k (q+1)).length:=by unfold textAt;rw [if_neg hq];exact Dec.dec_length_pos _
       have e19:(19:Int) - (sd.size:Int)=((19 - sd.size:Nat):Int):=by omega
       have hrep:Calls Tryz.prog 233 #[.string { data:=#[48] },.int .i64 (19 - (sd.size:Int))] w1 fun e w'=>e = .returned (.string ⟨(Lib.repeatL [48] (19 - sd.size)).toArray⟩)∧Below w1.heap.size w1 w':=by
        rw [e19]
        have e1:(⟨#[48]⟩:ByteArray).size=1:=rfl
        exact Tryz.strings_Repeat ⟨#[48]⟩ (19 - sd.size) w1 (by omega) (by rw [e1];omega)
       have hfin:Hid (Lib.byteCells (textAt x k (q+1))++Lib.strCells ⟨(Lib.repeatL [48] (19 - sd.size)).toArray⟩++Lib.strCells sd=Lib.byteCells (textAt x k q)):=by
        have h1:=Dec.dec_chunk x q hpos
        have h2:sd.size=(Lib.decDigits cv).length:=by rw [←HSDL.out];simp
        rw [←HCV.out,←h2,←HSDL.out] at h1
        unfold Hid textAt
        rw [if_neg hq,if_neg (by omega),h1,repeatL_zeros,Lib.strCells_toArray,Lib.strCells_eq]
        simp [Lib.byteCells]
       have hrl:(⟨(Lib.repeatL [48] (19 - sd.size)).toArray⟩:ByteArray).size≤19:=by
        show (Lib.repeatL [48] (19 - sd.size)).length≤19
        rw [Lib.repeatL_length];simp
       generalize (⟨(Lib.repeatL [48] (19 - sd.size)).toArray⟩:ByteArray)=sr at hrep hfin hrl
       generalize htx:textAt x k (q+1)=tx at hl hlp hbl1 hfin HTL
       have HL:=Lib.hid hl
       have HREP:=Lib.hid hrep
       clear hl hrep e19 hpos htx hbl
       go_wp2_with fail
       refine HL.out.mono ?_
       rintro e w2 ⟨rfl,hw2⟩
       subst hw2
       go_wp2_with fail
       refine HREP.out.mono ?_
       rintro e w4 ⟨rfl,hb4⟩
       have hbl4:=isBuilder_below hbl1 hb4
       have hB4:Below we.heap.size we w4:=hB1.trans (hb4.mono hB1.size)
       have htn:=HTL.out
       go_wp2_with fail
       refine (writeString_any we.heap.size we.heap.size _ sr w4 hbl4 (by rw [Lib.byteCells_length];omega) hB4.size).mono ?_
       rintro e w5 ⟨rfl,hbl5,hb5⟩
       have hB5:=hB4.trans hb5
       go_wp2_with fail
       refine (writeString_any we.heap.size we.heap.size _ sd w5 (.inr hbl5) (by rw [List.length_append,Lib.byteCells_length,Lib.strCells_length];omega) hB5.size).mono ?_
       rintro e w6 ⟨rfl,hbl6,hb6⟩
       have hbl7:Lib.IsBuilder 229 5 we.heap.size we.heap.size (Lib.byteCells (textAt x k q)) w6:=by rw [←hfin.out];exact .inr hbl6
       have hB6:=hB5.trans hb6
       clear hbl6 hbl5 hbl4 hbl1
       go_wp2
       go_roundw
       case rel=>exact ⟨q,(q:Int) - 1,rfl,by omega,by go_num,hbl7,hB6⟩
       case measure=>simp [intOf]
     ·have hj00:j=0:=by omega
      subst hj00
      have hi2:i = -1:=by omega
      subst hi2
      have htx:textAt x k 0=Lib.decDigits x:=by unfold textAt;rw [if_neg (by omega)];simp
      rw [htx] at hbl
      have hs:=Tryz.Builder_String_any we.heap.size we.heap.size (Lib.decDigits x) wb hbl hsz
      have HS:=Lib.hid hs
      clear hs htx hi hj0
      go_wp2_with fail
      refine HS.out.mono ?_
      rintro e w9 ⟨rfl,hb9⟩
      go_wp2
      go_ret
      exact ⟨rfl,hbel.trans ((hbb.trans hb9).mono hbel.size)⟩
   ·have hd:decide (x / Dec.T ^ k=0)=false:=by simpa using h0
    rw [hd] at hz
    have how:Calls Tryz.prog 223 #[.slice A2 m2 c2,.int .u64 10000000000000000000] we _:=overWord_any A2 m2 c2 (x / Dec.T ^ k) 10000000000000000000 we hn2 (by omega) (by omega) (by omega)
    have hT2:x / Dec.T ^ k / 10000000000000000000=x / Dec.T ^ (k+1):=T_div x k
    rw [hT2] at how
    have hlt:x / Dec.T ^ (k+1)<x / Dec.T ^ k:=by rw [←hT2];exact Nat.div_lt_self (Nat.pos_of_ne_zero h0) (by omega)
    have hch:x / Dec.T ^ k % 10000000000000000000=(Dec.chunks x (k+1)).getD k 0:=by rw [Dec.chunks_get x (k+1) k (by omega)];rfl
    have hk1:k+1≤2*n:=by
     rcases Nat.lt_or_ge k (2*n) with h | h
     ·omega
     ·exact absurd (T_pow_zero HXB.out h) h0
    have hcs:=Dec.chunks_succ x k
    generalize hcv:x / Dec.T ^ k % 10000000000000000000=cv at how hch
    have hcs2:Hid (Dec.chunks x (k+1)=Dec.chunks x k++[cv]):=by unfold Hid;rw [hcs,←hcv];rfl
    have HL:Hid (0<k+1→x / Dec.T ^ (k+1 - 1)≠0):=by intro _;simpa using h0
    have HOW:=Lib.hid how
    have HLT:=Lib.hid hlt
    have HG:=Lib.hid hG
    clear hd h0 how hT2 hlt hch hcs hcv hG hlast
    go_wp2_with fail
    refine hz.mono ?_
    rintro e w1 ⟨rfl,rfl⟩
    clear hz
    go_wp2_with fail
    refine HOW.out.mono ?_
    rintro e w4 ⟨m4,c4,rfl,hr4,hb4⟩
    have hown4:=own_below hown hb4
    have hlen4:m4≤n:=by
     rw [←hr4.nat.len]
     refine Nat.le_trans (digs_length_mono (Nat.div_le_self _ _)) ?_
     have:=HXB.out
     exact digs_length_le this
    have hbel4:=hbel.trans (hb4.mono hbel.size)
    go_wp2_with (at_builtin;refine wpList_append_own _ rfl _ _ 124 rfl w.heap.size 199 i0 (.int .u64 0) 1 8 Tryz.underlying124 hi0 hz0 hz1 hz2 rfl (by decide) _ _ _ rfl (hown4.alloc _) ⟨w4.heap.size,0,none⟩ 1 1 [.int .u64 (cv:Int)] rfl rfl (cell_one_new _ _ _) ?c2 ?c3 ?c4 ?c5 ?_)
    case c2=>intro u hu;simp at hu;subst hu;rfl
    case c3=>unfold maxLen;omega
    case c4=>omega
    case c5=>have:=hbel4.size;simp;omega
    intro v' w5 hown' hgrow _
    have hbel5:Below w.heap.size w w5:=(hbel4.alloc hbel4.size _).grown hgrow (by have:=hbel4.size;simp;omega) (fun q hq=>(hown4.lt q hq).1)
    have hnat5:NatS w5 w5.heap.size (some ⟨we.heap.size,0,none⟩) m4 c4 (x / Dec.T ^ (k+1)):=
     ((hr4.alloc _).kept hgrow (fun e=>by have:=(hown.lt _ e).2;omega)).nat
    have hown5:w5.ownsRow w.heap.size 199 1 v' (k+1) ((Dec.chunks x (k+1)).map u64v):=by
     rw [hcs2.out,List.map_append];exact hown'
    obtain ⟨ao5,cap5,rfl⟩:∃ ao5 cap5,v' = .slice ao5 (k+1) cap5:=by
     rcases hown5.2 with ⟨_,h0⟩ | ⟨g,cap,cur,hv,_⟩
     ·exact absurd h0 (by omega)
     ·exact ⟨_,_,hv⟩
    clear hown' hgrow hown4 hown hr4
    go_wp2_with fail
    go_roundg (x / Dec.T ^ (k+1))
    case measure=>exact Nat.lt_of_lt_of_le HLT.out HG.out
    case rel=>exact ⟨_,m4,c4,k+1,ao5,cap5,rfl,hnat5,rfl,hown5,HL,Nat.le_refl _,hlen4,hk1,hbel5⟩
end Go.Proofs.YtjhgadajpliclaaGreatDoor
