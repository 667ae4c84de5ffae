/- Contracts of copyCheck and WriteString of a strings.Builder (after the shelf's own, whose text another Go had). -/
import Derived.Test.YteajibbphcfmeaaGreatDoorVWords
import Derived.Test.YteajibbphcfmeaaGreatDoorVStr1
import Derived.Shelf.Strings.Builder1
import Derived.Test.YteajibbphcfmeaaGreatDoorVNum1
import Derived.Lib.ItoaMem
import Derived.Lib.AppendIntMem
import Derived.Shelf.Strconv.Itoa2
import Derived.Test.YteajibbphcfmeaaGreatDoorVGcd1
import Derived.Test.YteajibbphcfmeaaGreatDoorVRat2
import Derived.Deep.RegionHeld3
namespace Go.Proofs.YteajibbphcfmeaaGreatDoor
open Go.RowKit
theorem zjN:(Tryz.prog.info? 198).map (·.size)=some 2:=by kernel_rfl
theorem znl:liesAt Tryz.prog Tryz.prog.depth 198 (2 / Tryz.prog.cellsOf 198) 0 198 1=true:=by kernel_rfl
set_option maxHeartbeats 1000000 in
theorem zfA (b:Nat) (w:World) (h0:w.cell? ⟨b,0,none⟩=some (.pointer (some ⟨b,0,none⟩))) :
  Calls Tryz.prog 203 #[.pointer (some ⟨b,0,none⟩)] w fun e w'=>e = .returned (.tuple #[])∧w'=w:=by
 obtain ⟨j,hj,_⟩:=Option.map_eq_some_iff.1 zjN
 have aA:=Lib.run_neq_ptr_same w ⟨b,0,none⟩ Tryz.underlying195 hj
 go_enter Tryz.func203,Tryz.ntmps203
 go_wp2
 go_end0
 exact ⟨rfl,rfl⟩
set_option maxHeartbeats 1000000 in
theorem zeV (b:Nat) (w:World) (h0:w.cell? ⟨b,0,none⟩=some (.pointer none)) (hsh:w.shape? b=some (198,2)) (hfz:w.frozen? ⟨b,0,none⟩=false) :
  Calls Tryz.prog 203 #[.pointer (some ⟨b,0,none⟩)] w fun e w'=>e = .returned (.tuple #[])∧w'=w.setCell ⟨b,0,none⟩ (.pointer (some ⟨b,0,none⟩)):=by
 obtain ⟨j,hj,aA⟩:=Option.map_eq_some_iff.1 zjN
 have a1:=Lib.run_to_unsafe w ⟨b,0,none⟩ Tryz.underlying195 Tryz.underlying237 hj (by rw [aA];decide) hsh (Nat.zero_lt_succ 1)
 have a2:=Lib.run_from_unsafe w ⟨b,0,none⟩ Tryz.underlying237 Tryz.underlying195 hj hsh znl
 have a3:∀ x:Value,(callFunc 219 #[x]).run Tryz.prog w = .ok (.value x) w:=fun x=>by
  rw [run_callFunc_extern Tryz.func219 (by kernel_rfl) (by kernel_rfl) (by kernel_rfl) (e:=Extern.AbiNoEscape.same) (by kernel_rfl),Lib.run_noEscape]
  rfl
 have aC:∀ W:World,(binOp .neq 195 (.pointer (some ⟨b,0,none⟩)) (.pointer (some ⟨b,0,none⟩))).run Tryz.prog W = .ok (.bool false) W:=fun W=>Lib.run_neq_ptr_same W ⟨b,0,none⟩ Tryz.underlying195 hj
 clear aA hj
 go_enter Tryz.func203,Tryz.ntmps203
 go_wp2
 go_end0
 exact ⟨rfl,rfl⟩
theorem zgn (B b:Nat) (bs:List Value) (w:World) (h:Lib.IsBuilder 198 5 B b bs w) :
  Calls Tryz.prog 203 #[.pointer (some ⟨b,0,none⟩)] w fun e w'=>e = .returned (.tuple #[])∧(Lib.BuilderAt 198 5 B b (.pointer (some ⟨b,0,none⟩)) bs w'∧Below B w w'):=by
 rcases h with h | h
 ·refine (zeV b w h.cell0 h.shape h.frozen0).mono ?_
  rintro e w' ⟨rfl,rfl⟩
  exact ⟨rfl,h.used _,(Below.refl B w).setCell (p:=⟨b,0,none⟩) h.1 _⟩
 ·refine (zfA b w h.cell0).mono ?_
  rintro e w' ⟨rfl,rfl⟩
  exact ⟨rfl,h,Below.refl B _⟩
theorem znr:(Tryz.prog.info? 5).map (fun i=>(i.zero,i.size,i.bytes))=some (some (.int .u8 0),1,1):=by kernel_rfl
set_option maxHeartbeats 1000000 in
theorem zcb (B b:Nat) (bs:List Value) (s:ByteArray) (w:World) (h:Lib.IsBuilder 198 5 B b bs w) (hlen:bs.length+s.size≤140737488355328) (hBw:B≤w.heap.size) :
  Calls Tryz.prog 180 #[.pointer (some ⟨b,0,none⟩),.string s] w fun e w'=>e = .returned (.tuple #[.int .i64 s.size,.nilIface])∧(Lib.BuilderAt 198 5 B b (.pointer (some ⟨b,0,none⟩)) (bs++Lib.strCells s) w'∧Below B w w'):=by
 obtain ⟨i0,hi,aL,aJ,aM⟩:=info_parts znr
 go_enter Tryz.func180,Tryz.ntmps180
 go_wp2_with fail
 refine (zgn B b bs _ h).mono ?_
 rintro e w1 ⟨rfl,h1,aG⟩
 obtain ⟨hB,v,aF,aD,aI⟩:=h1
 have c0:w1.cell? ⟨b,0,none⟩=some (.pointer (some ⟨b,0,none⟩)):=by rw [Lib.cell_of_heap aF];rfl
 have c1:w1.cell? ⟨b,1,none⟩=some v:=by rw [Lib.cell_of_heap aF];rfl
 go_wp2_with (at_builtin;refine Lib.wpList_append_own_string _ rfl _ _ 196 9 rfl B 5 i0 Tryz.underlying196 Tryz.underlying9 hi aL aJ aM _ _ _ rfl aD s rfl ?c3 ?c4 ?c5 ?_)
 case c3=>unfold maxLen;omega
 case c4=>omega
 case c5=>have:=aG.size;omega
 intro v' w2 aC aA _
 have aK:b<w1.heap.size:=by
  rcases Nat.lt_or_ge b w1.heap.size with h' | h'
  ·exact h'
  ·simp [Array.getElem?_eq_none h'] at aF
 have aE:w2.heap[b]? = some (.cells #[.pointer (some ⟨b,0,none⟩),v] 198 (0,0)):=by
  rw [aA.block b aK (fun e=>aI e.symm)]
  exact aF
 have d0:w2.cell? ⟨b,0,none⟩=some (.pointer (some ⟨b,0,none⟩)):=by rw [Lib.cell_of_heap aE];rfl
 have d1:w2.cell? ⟨b,1,none⟩=some v:=by rw [Lib.cell_of_heap aE];rfl
 have f1:w2.frozen? ⟨b,1,none⟩=false:=Lib.frozen_of_heap aE 1
 obtain ⟨ao,n',aH,rfl⟩:∃ ao n' aH,v' = .slice ao n' aH:=by
  rcases aC.2 with ⟨hv,_⟩ | ⟨g,aH,aN,hv,_⟩
  ·exact ⟨_,_,_,hv⟩
  ·exact ⟨_,_,_,hv⟩
 go_wp2
 go_ret2
 refine ⟨rfl,?_,?_⟩
 ·exact Lib.BuilderAt.put (T:=198) (e:=5) hB aE (bs':=bs++Lib.strCells s) (by simpa [Lib.strCells_length] using aC) (by decide)
 ·exact (aG.grown aA (by have:=aG.size;omega) (fun k hk=>(aD.lt k hk).1)).setCell (p:=⟨b,1,none⟩) hB _
end Go.Proofs.YteajibbphcfmeaaGreatDoor
namespace Go.Proofs.YteajibbphcfmeaaGreatDoor
open Go.RowKit Go.Lib Go.Sort
set_option maxHeartbeats 2000000 in
set_option maxRecDepth 100000 in
theorem zgq (u:Nat) (hu64:u<18446744073709551616) (w:World) (hT:Tabs w) :
  Calls Tryz.prog 202 #[.int .u64 u,.int .i64 10] w fun e w'=>e = .returned (.string ⟨(Lib.decDigits u).toArray⟩)∧Below w.heap.size w w':=by
 by_cases hs:u<100
 ·have hw:IntKind.i64.wrap (u:Int)=(u:Int):=IntWalk.i64_in _ (by omega)
  have hd:decide ((u:Int)<100)=true:=by simp;omega
  go_enter Tryz.func202,Tryz.ntmps202
  go_wp2_with fail
  refine (Tryz.internal_strconv_small u hs _).mono ?_
  rintro e w1 ⟨rfl,rfl⟩
  go_wp2
  go_ret
  exact ⟨rfl,Below.refl _ _⟩
 ·have hd:decide ((u:Int)<100)=false:=by simp;omega
  have aD:1≤u:=by omega
  have aE:Lib.nDigits u≤20:=by have:=Lib.numDigits_eq u aD hu64;split at this<;>omega
  have aF:Tryz.prog.arrayLen 233=24:=by kernel_rfl
  have aJ:∀ W,(Instr.sliceAt 233 (.pointer (some ⟨w.heap.size,0,none⟩)) none (some (.int .i64 (Lib.nDigits u:Int))) none).run Tryz.prog W = .ok (.slice (some ⟨w.heap.size,0,none⟩) (Lib.nDigits u) 24) W:=fun W=>by
   rw [run_sliceAt_array_h W 233 ⟨w.heap.size,0,none⟩ (by kernel_rfl) .i64 (Lib.nDigits u:Int) (by omega) (by rw [aF];omega)]
   go_simp
  have aC:=Lib.holds_zero0 w 233 (Lib.nDigits u) (by omega)
  have aA:=Tryz.internal_strconv_formatBase10 w.heap.size 0 24 u (Array.replicate (Lib.nDigits u) 0) (w.alloc (.cells Lib.zeros24 233)) aC (by rw [Array.size_replicate];exact Lib.lt_pow_nDigits u) hu64 (by rw [Array.size_replicate];omega)
  rw [Array.size_replicate] at aA
  have aG:=Lib.hid aC
  have HN:=Lib.hid (Tryz.internal_strconv_numDigits u aD hu64 (w.alloc (.cells Lib.zeros24 233)) (Lib.tabIs_alloc hT.pow _))
  clear aC aF aD
  go_enter Tryz.func202,Tryz.ntmps202
  go_wp2_with fail
  refine HN.out.mono ?_
  rintro e w1 ⟨rfl,rfl⟩
  go_wp2_with fail
  refine aA.mono ?_
  rintro e w' ⟨rfl,k,v',dk,rfl,hF⟩
  have aI:(convert 196 9 (.slice (some ⟨w.heap.size,0,none⟩) (Lib.nDigits u) 24)).run Tryz.prog ((putRow (fun (b:UInt8)=>Value.int .u8 (b.toNat:Int)) (w.alloc (.cells Lib.zeros24 233)) w.heap.size 0 dk).drewN k) = .ok (.string ⟨(Lib.decDigits u).toArray⟩) ((putRow (fun (b:UInt8)=>Value.int .u8 (b.toNat:Int)) (w.alloc (.cells Lib.zeros24 233)) w.heap.size 0 dk).drewN k):=by
   have h:=run_convert_bytes_back (P:=Tryz.prog) ((putRow (fun (b:UInt8)=>Value.int .u8 (b.toNat:Int)) (w.alloc (.cells Lib.zeros24 233)) w.heap.size 0 dk).drewN k) 196 9 5 ⟨w.heap.size,0,none⟩ 24 (Lib.decDigits u) Tryz.underlying196 Tryz.underlying5 Tryz.underlying9 (fun j hj=>by
    rw [Lib.row_is_numeral hF j hj,Lib.add_plain,World.cell?_drewN]
    exact cell?_putRow (fun (b:UInt8)=>Value.int .u8 (b.toNat:Int)) _ w.heap.size 0 _ dk aG.out (by rw [hF.size,Array.size_replicate]) j (by rw [hF.size];rw [Lib.decDigits_length] at hj;exact hj))
   rw [Lib.decDigits_length] at h
   exact h
  have hB:Below w.heap.size w ((putRow (fun (b:UInt8)=>Value.int .u8 (b.toNat:Int)) (w.alloc (.cells Lib.zeros24 233)) w.heap.size 0 dk).drewN k):=by
   refine zab ?_ k
   rw [alloc_eq_grow]
   obtain ⟨aH,_,e⟩:=putRow_grow_new (fun (b:UInt8)=>Value.int .u8 (b.toNat:Int)) w #[.cells Lib.zeros24 233] w.heap.size 0 dk (Nat.le_refl _)
   rw [e]
   have h:=below_grow w.heap.size w (Nat.le_refl _) 0 aH
   rwa [World.drewN_zero] at h
  go_wp2
  go_ret
  exact ⟨rfl,hB⟩
theorem zfw (u:Nat) (hu64:u<18446744073709551616) (w:World) (hT:Tabs w) :
  Calls Tryz.prog 178 #[.int .u64 u,.int .i64 10] w fun e w'=>e = .returned (.string ⟨(Lib.decDigits u).toArray⟩)∧Below w.heap.size w w':=by
 have h:=zgq u hu64 w hT
 generalize (⟨(Lib.decDigits u).toArray⟩:ByteArray)=s at h ⊢
 go_enter Tryz.func178,Tryz.ntmps178
 go_wp2_with fail
 refine h.mono ?_
 rintro e w1 ⟨rfl,hb⟩
 go_wp2
 go_ret
 exact ⟨rfl,hb⟩
end Go.Proofs.YteajibbphcfmeaaGreatDoor
namespace Go.Proofs.YteajibbphcfmeaaGreatDoor
open Go.RowKit Bn
theorem zjq {x n k:Nat} (hx:x<B ^ n) (hk:2*n≤k):x / Dec.T ^ k=0:=by
 refine Nat.div_eq_of_lt (Nat.lt_of_lt_of_le hx ?_)
 have h1:B≤Dec.T ^ 2:=by rw [zcN,Dec.T_def];omega
 have h2:B ^ n≤(Dec.T ^ 2) ^ n:=Nat.pow_le_pow_left h1 n
 rw [←Nat.pow_mul] at h2
 exact Nat.le_trans h2 (Nat.pow_le_pow_right Dec.T_pos hk)
theorem zgU {w w':World} {base:Nat} {e:TypeId} {size n:Nat} {v:Value} {xs:List Value} (h:w.ownsRow base e size v n xs) (hb:Below w.heap.size w w'):w'.ownsRow base e size v n xs:=
 World.ownsRow.kept h (zc5 hb none) (Classical.em _)
theorem zdl {T e:TypeId} {B b:Nat} {bs:List Value} {w w':World} (h:Lib.IsBuilder T e B b bs w) (hb:Below w.heap.size w w'):Lib.IsBuilder T e B b bs w':=by
 have key:∀ p,Lib.BuilderAt T e B b p bs w→Lib.BuilderAt T e B b p bs w':=by
  rintro p ⟨hB,v,aC,aA,aD⟩
  refine ⟨hB,v,?_,zgU aA hb,aD⟩
  rw [hb.block b ?_]
  ·exact aC
  ·rcases Nat.lt_or_ge b w.heap.size with h | h
   ·exact h
   ·rw [Array.getElem?_eq_none h] at aC;cases aC
 rcases h with h | h
 ·exact .inl (key _ h)
 ·exact .inr (key _ h)
theorem zgj (w:World) (T e:TypeId):Lib.IsBuilder T e w.heap.size w.heap.size [] (w.alloc (.cells #[.pointer none,.slice none 0 0] T)):=
 .inl ⟨Nat.le_refl _,.slice none 0 0,heap_alloc_new w _,World.ownsRow_nil _ _ _ _,by simp [Value.ownBlock]⟩
theorem zge (k:Nat):Lib.repeatL [48] k=List.replicate k 48:=by
 induction k with
 | zero=>rfl
 | succ k ih=>rw [Lib.repeatL,ih,List.replicate_succ];rfl
def zbD (x k j:Nat):List UInt8:=if j=k then [] else Lib.decDigits (x / Dec.T ^ j)
theorem ziN {x k:Nat} (j:Nat) (hk:0<k) (h:x / Dec.T ^ k=0):(zbD x k j).length≤19*k:=by
 unfold zbD
 split
 ·simp
 ·refine Dec.dec_length_le (by omega) (Nat.lt_of_le_of_lt (Nat.div_le_self _ _) ?_)
  have h1:x<Dec.T ^ k:=by
   rcases Nat.lt_or_ge x (Dec.T ^ k) with h2 | h2
   ·exact h2
   ·have:=Nat.div_pos h2 (Nat.pow_pos Dec.T_pos);omega
  rwa [Dec.T_pow,←Nat.pow_mul] at h1
theorem zor (x k:Nat):x / Dec.T ^ k / Dec.T=x / Dec.T ^ (k+1):=by rw [Nat.pow_succ,Nat.div_div_eq_div_mul]
set_option maxHeartbeats 4000000 in
set_option maxRecDepth 100000 in
theorem zia (A:Option Addr) (n c x:Nat) (w:World) (hT:Tabs w) (ha:NatS w w.heap.size A n c x) (hn:n≤1073741824) :
  Calls Tryz.prog 132 #[.slice A n c] w fun e w'=>e = .returned (.string ⟨(Lib.decDigits x).toArray⟩)∧Below w.heap.size w w':=by
 obtain ⟨i0,dD,dA,dB,cS⟩:=info_parts zb2
 by_cases hx:x=0
 ·subst hx
  have hz:=zaK A n c 0 w ha
  have hd:Hid ((⟨(Lib.decDigits 0).toArray⟩:ByteArray)=⟨#[48]⟩):=by unfold Hid;rw [Dec.dec_lt (by omega)];rfl
  go_enter Tryz.func132,Tryz.ntmps132
  go_wp2_with fail
  refine hz.mono ?_
  rintro e w1 ⟨rfl,rfl⟩
  go_wp2
  go_ret
  exact ⟨by rw [hd.out];rfl,Below.refl _ _⟩
 ·have hz:=zaK A n c x w ha
  have hd:decide (x=0)=false:=by simpa using hx
  rw [hd] at hz
  have cA:x<B ^ n:=by have:=zac x;rw [ha.len] at this;exact this
  have cL:=Lib.hid cA
  have HX:=Lib.hid hx
  clear hd cA hx
  go_enter Tryz.func132,Tryz.ntmps132
  go_wp2_with fail
  refine hz.mono ?_
  rintro e w1 ⟨rfl,rfl⟩
  go_wp2_with fail
  clear hz
  go_loopg [0,3] x (fun G sa sc we=>∃ A2 m2 c2 k ao bI,sa = .slice A2 m2 c2∧NatS we we.heap.size A2 m2 c2 (x / Dec.T ^ k)∧sc = .slice ao k bI∧we.ownsRow w.heap.size 120 1 (.slice ao k bI) k ((Dec.chunks x k).map u64v)∧Hid (0<k→x / Dec.T ^ (k - 1)≠0)∧x / Dec.T ^ k≤G∧m2≤n∧k≤2*n∧Below w.heap.size w we)
  case atStart=>exact ⟨A,n,c,0,none,0,rfl,by simpa using ha,rfl,World.ownsRow_nil _ _ _ _,fun h=>absurd h (by omega),by simp,Nat.le_refl _,Nat.zero_le _,Below.refl _ _⟩
  case round=>
   clear ha
   obtain ⟨A2,m2,c2,k,ao,bI,rfl,bJ,rfl,aJ,aE,hG,dL,hk,aH⟩:=hrel
   obtain ⟨we,rfl⟩:∃ we:World,we=wr:=⟨_,rfl⟩
   have hz:=zaK A2 m2 c2 (x / Dec.T ^ k) we bJ
   by_cases h0:x / Dec.T ^ k=0
   ·have hd:decide (x / Dec.T ^ k=0)=true:=by simpa using h0
    rw [hd] at hz
    have H0:=Lib.hid h0
    have dI:=Lib.hid bJ
    clear hd h0 hG bJ
    go_wp2_with fail
    refine hz.mono ?_
    rintro e w1 ⟨rfl,rfl⟩
    clear hz
    have cH:0<k:=by
     rcases Nat.eq_zero_or_pos k with h | h
     ·subst h;exact absurd (by simpa using H0.out) HX.out
     ·exact h
    have cZ:zbe we we.heap.size ao k (Dec.chunks x k):=zat.of_own aJ
    have cK:Below we.heap.size we (we.alloc (.cells #[.pointer none,.slice none 0 0] 198)):=(Below.refl _ _).alloc (Nat.le_refl _) _
    have aI:=aE.out cH
    have bE:=Lib.hid aI
    have cJ:=zgj we 198 5
    clear aI aE
    go_wp2_with fail
    go_loopw [6] (fun si wb=>∃ (j:Nat) (i:Int),i=(j:Int) - 1∧j≤k∧si = .int .i64 i∧Lib.IsBuilder 198 5 we.heap.size we.heap.size (Lib.byteCells (zbD x k j)) wb∧Below we.heap.size we wb) (fun si _=>(intOf si+1).toNat)
    case atStart=>exact ⟨k,(k:Int) - 1,rfl,Nat.le_refl _,by first | rfl | simp,by unfold zbD;rw [if_pos rfl];exact cJ,cK⟩
    case round=>
     clear cJ cK
     obtain ⟨j,i,hi,hj,rfl,aT,aZ⟩:=hrel
     obtain ⟨wb,rfl⟩:∃ wb:World,wb=wr:=⟨_,rfl⟩
     have bX:=aZ.size
     have bP:we.heap.size<wb.heap.size:=by
      have h9:∃ p,Lib.BuilderAt 198 5 we.heap.size we.heap.size p (Lib.byteCells (zbD x k j)) wb:=by
       rcases aT with h | h
       ·exact ⟨_,h⟩
       ·exact ⟨_,h⟩
      obtain ⟨p,_,v,cF,_⟩:=h9
      rcases Nat.lt_or_ge we.heap.size wb.heap.size with h | h
      ·exact h
      ·rw [Array.getElem?_eq_none h] at cF;cases cF
     by_cases hj0:0<j
     ·obtain ⟨q,rfl⟩:∃ q,j=q+1:=⟨j - 1,by omega⟩
      have bL:i=(q:Int):=by omega
      subst bL
      obtain ⟨ad,rfl,_,bF⟩:=zbe.word (w:=wb) (B:=we.heap.size) (A:=ao) (n:=k) (l:=Dec.chunks x k) (zat.below cZ aZ) (k:=q) (by omega)
      have aO:=Dec.chunks_get x k q (by omega)
      have aL:(Dec.chunks x k).getD q 0<Dec.T:=by rw [aO];exact Nat.mod_lt _ Dec.T_pos
      generalize (Dec.chunks x k).getD q 0=cv at bF aO aL
      have bC:cv<18446744073709551616:=by rw [Dec.T_def] at aL;omega
      have hf:=zfw cv bC wb ((hT.later aH).later aZ)
      have cV:(Lib.decDigits cv).length≤19:=Dec.dec_length_le (by omega) (by rw [←Dec.T_pow];exact aL)
      obtain ⟨sd,bO⟩:∃ sd:ByteArray,sd=⟨(Lib.decDigits cv).toArray⟩:=⟨_,rfl⟩
      have aR:sd.data.toList=Lib.decDigits cv:=by rw [bO]
      have dG:sd.size≤19:=by
       have:sd.data.toList.length=sd.size:=by simp
       rw [aR] at this;omega
      rw [←bO] at hf
      have cG:=ziN (q+1) cH H0.out
      have bY:=Lib.hid cG
      have HF:=Lib.hid hf
      have cM:=Lib.hid aO
      have aQ:=Lib.hid aR
      clear hf aO aL bC cV bO aR hj0 hi cG
      go_wp2_with fail
      refine HF.out.mono ?_
      rintro e w1 ⟨rfl,cE⟩
      have aA:=zdl aT cE
      have bG:Below we.heap.size we w1:=aZ.trans (cE.mono bX)
      by_cases hq:q+1=k
      ·have cO:zbD x k (q+1)=[]:=by unfold zbD;rw [if_pos hq]
       rw [cO] at aA
       have hl:=Tryz.Builder_Len we.heap.size we.heap.size _ w1 aA
       have cN:(Lib.byteCells []).length=0:=rfl
       have aF:Hid (Lib.byteCells []++Lib.strCells sd=Lib.byteCells (zbD x k q)):=by
        have h1:x / Dec.T ^ q<Dec.T:=by
         have h2:=H0.out
         rw [←hq,←zor] at h2
         exact (Nat.div_eq_zero_iff_lt Dec.T_pos).1 h2
        have h3:cv=x / Dec.T ^ q:=by rw [cM.out,Nat.mod_eq_of_lt h1]
        unfold Hid zbD
        rw [if_neg (by omega),←h3,←aQ.out]
        rfl
       rw [cN] at hl
       have HL:=Lib.hid hl
       clear hl cN cO aT
       go_wp2_with fail
       refine HL.out.mono ?_
       rintro e w2 ⟨rfl,bR⟩
       subst bR
       go_wp2_with fail
       refine (zcb we.heap.size we.heap.size _ sd _ aA (by rw [Lib.byteCells_length,List.length_nil];omega) bG.size).mono ?_
       rintro e w3 ⟨rfl,aY,dF⟩
       have aK:Lib.IsBuilder 198 5 we.heap.size we.heap.size (Lib.byteCells (zbD x k q)) w3:=by rw [←aF.out];exact .inr aY
       have cP:=bG.trans dF
       clear aY aA
       go_wp2
       go_roundw
       case rel=>exact ⟨q,(q:Int) - 1,rfl,by omega,by go_num,aK,cP⟩
       case measure=>simp [intOf]
      ·have bA:0<x / Dec.T ^ (q+1):=by
        refine Nat.pos_of_ne_zero fun h=>bE.out ?_
        have h1:x / Dec.T ^ (k - 1)=x / Dec.T ^ (q+1) / Dec.T ^ (k - 1 - (q+1)):=by rw [Nat.div_div_eq_div_mul,←Nat.pow_add];congr 2;omega
        rw [h1,h];simp
       have hl:=Tryz.Builder_Len we.heap.size we.heap.size _ w1 aA
       rw [Lib.byteCells_length] at hl
       have cW:0<(zbD x k (q+1)).length:=by unfold zbD;rw [if_neg hq];exact Dec.dec_length_pos _
       have cI:(19:Int) - (sd.size:Int)=((19 - sd.size:Nat):Int):=by omega
       have aP:Calls Tryz.prog 181 #[.string { data:=#[48] },.int .i64 (19 - (sd.size:Int))] w1 fun e w'=>e = .returned (.string ⟨(Lib.repeatL [48] (19 - sd.size)).toArray⟩)∧Below w1.heap.size w1 w':=by
        rw [cI]
        have e1:(⟨#[48]⟩:ByteArray).size=1:=rfl
        exact Tryz.strings_Repeat ⟨#[48]⟩ (19 - sd.size) w1 (by omega) (by rw [e1];omega)
       have aF:Hid (Lib.byteCells (zbD x k (q+1))++Lib.strCells ⟨(Lib.repeatL [48] (19 - sd.size)).toArray⟩++Lib.strCells sd=Lib.byteCells (zbD x k q)):=by
        have h1:=Dec.dec_chunk x q bA
        have h2:sd.size=(Lib.decDigits cv).length:=by rw [←aQ.out];simp
        rw [←cM.out,←h2,←aQ.out] at h1
        unfold Hid zbD
        rw [if_neg hq,if_neg (by omega),h1,zge,Lib.strCells_toArray,Lib.strCells_eq]
        simp [Lib.byteCells]
       have cR:(⟨(Lib.repeatL [48] (19 - sd.size)).toArray⟩:ByteArray).size≤19:=by
        show (Lib.repeatL [48] (19 - sd.size)).length≤19
        rw [Lib.repeatL_length];simp
       generalize (⟨(Lib.repeatL [48] (19 - sd.size)).toArray⟩:ByteArray)=sr at aP aF cR
       generalize bH:zbD x k (q+1)=tx at hl cW aA aF bY
       have HL:=Lib.hid hl
       have bV:=Lib.hid aP
       clear hl aP cI bA bH aT
       go_wp2_with fail
       refine HL.out.mono ?_
       rintro e w2 ⟨rfl,bR⟩
       subst bR
       go_wp2_with fail
       refine bV.out.mono ?_
       rintro e w4 ⟨rfl,bD⟩
       have aK:=zdl aA bD
       have cB:Below we.heap.size we w4:=bG.trans (bD.mono bG.size)
       have dJ:=bY.out
       go_wp2_with fail
       refine (zcb we.heap.size we.heap.size _ sr w4 aK (by rw [Lib.byteCells_length];omega) cB.size).mono ?_
       rintro e w5 ⟨rfl,bB,cY⟩
       have bW:=cB.trans cY
       go_wp2_with fail
       refine (zcb we.heap.size we.heap.size _ sd w5 (.inr bB) (by rw [List.length_append,Lib.byteCells_length,Lib.strCells_length];omega) bW.size).mono ?_
       rintro e w6 ⟨rfl,aU,cU⟩
       have bN:Lib.IsBuilder 198 5 we.heap.size we.heap.size (Lib.byteCells (zbD x k q)) w6:=by rw [←aF.out];exact .inr aU
       have cT:=bW.trans cU
       clear aU bB aK aA
       go_wp2
       go_roundw
       case rel=>exact ⟨q,(q:Int) - 1,rfl,by omega,by go_num,bN,cT⟩
       case measure=>simp [intOf]
     ·have bU:j=0:=by omega
      subst bU
      have bL:i = -1:=by omega
      subst bL
      have bH:zbD x k 0=Lib.decDigits x:=by unfold zbD;rw [if_neg (by omega)];simp
      rw [bH] at aT
      have hs:=Tryz.Builder_String_any we.heap.size we.heap.size (Lib.decDigits x) wb aT bX
      have HS:=Lib.hid hs
      clear hs bH hi hj0
      go_wp2_with fail
      refine HS.out.mono ?_
      rintro e w9 ⟨rfl,cQ⟩
      go_wp2
      go_ret
      exact ⟨rfl,aH.trans ((aZ.trans cQ).mono aH.size)⟩
   ·have hd:decide (x / Dec.T ^ k=0)=false:=by simpa using h0
    rw [hd] at hz
    have bK:Calls Tryz.prog 177 #[.slice A2 m2 c2,.int .u64 10000000000000000000] we _:=za2 A2 m2 c2 (x / Dec.T ^ k) 10000000000000000000 we bJ (by omega) (by omega) (by omega)
    have bQ:x / Dec.T ^ k / 10000000000000000000=x / Dec.T ^ (k+1):=zor x k
    rw [bQ] at bK
    have bP:x / Dec.T ^ (k+1)<x / Dec.T ^ k:=by rw [←bQ];exact Nat.div_lt_self (Nat.pos_of_ne_zero h0) (by omega)
    have bZ:x / Dec.T ^ k % 10000000000000000000=(Dec.chunks x (k+1)).getD k 0:=by rw [Dec.chunks_get x (k+1) k (by omega)];rfl
    have dE:k+1≤2*n:=by
     rcases Nat.lt_or_ge k (2*n) with h | h
     ·omega
     ·exact absurd (zjq cL.out h) h0
    have cC:=Dec.chunks_succ x k
    generalize aO:x / Dec.T ^ k % 10000000000000000000=cv at bK bZ
    have bM:Hid (Dec.chunks x (k+1)=Dec.chunks x k++[cv]):=by unfold Hid;rw [cC,←aO];rfl
    have HL:Hid (0<k+1→x / Dec.T ^ (k+1 - 1)≠0):=by intro _;simpa using h0
    have dH:=Lib.hid bK
    have dC:=Lib.hid bP
    have HG:=Lib.hid hG
    clear hd h0 bK bQ bP bZ cC aO hG aE
    go_wp2_with fail
    refine hz.mono ?_
    rintro e w1 ⟨rfl,rfl⟩
    clear hz
    go_wp2_with fail
    refine dH.out.mono ?_
    rintro e w4 ⟨m4,c4,rfl,bT,bD⟩
    have aG:=zgU aJ bD
    have aV:m4≤n:=by
     rw [←bT.nat.len]
     refine Nat.le_trans (zaa (Nat.div_le_self _ _)) ?_
     have:=cL.out
     exact digs_length_le this
    have aC:=aH.trans (bD.mono aH.size)
    go_wp2_with (at_builtin;refine wpList_append_own _ rfl _ _ 88 rfl w.heap.size 120 i0 (.int .u64 0) 1 8 Tryz.underlying88 dD dA dB cS rfl (by decide) _ _ _ rfl (aG.alloc _) ⟨w4.heap.size,0,none⟩ 1 1 [.int .u64 (cv:Int)] rfl rfl (cell_one_new _ _ _) ?c2 ?c3 ?c4 ?c5 ?_)
    case c2=>intro u hu;simp at hu;subst hu;rfl
    case c3=>unfold maxLen;omega
    case c4=>omega
    case c5=>have:=aC.size;simp;omega
    intro v' w5 aM aD _
    have aW:Below w.heap.size w w5:=(aC.alloc aC.size _).grown aD (by have:=aC.size;simp;omega) (fun q hq=>(aG.lt q hq).1)
    have aX:NatS w5 w5.heap.size (some ⟨we.heap.size,0,none⟩) m4 c4 (x / Dec.T ^ (k+1)):=
     ((bT.alloc _).kept aD (fun e=>by have:=(aJ.lt _ e).2;omega)).nat
    have aN:w5.ownsRow w.heap.size 120 1 v' (k+1) ((Dec.chunks x (k+1)).map u64v):=by
     rw [bM.out,List.map_append];exact aM
    obtain ⟨bS,aS,rfl⟩:∃ bS aS,v' = .slice bS (k+1) aS:=by
     rcases aN.2 with ⟨_,h0⟩ | ⟨g,bI,dK,hv,_⟩
     ·exact absurd h0 (by omega)
     ·exact ⟨_,_,hv⟩
    clear aM aD aG aJ bT
    go_wp2_with fail
    go_roundg (x / Dec.T ^ (k+1))
    case measure=>exact Nat.lt_of_lt_of_le dC.out HG.out
    case rel=>exact ⟨_,m4,c4,k+1,bS,aS,rfl,aX,rfl,aN,HL,Nat.le_refl _,aV,dE,aW⟩
def zbU (q:Q):List UInt8:=(if q.neg then 45 :: Lib.decDigits q.top else Lib.decDigits q.top)++(if q.bot=1 then [] else 47 :: Lib.decDigits q.bot)
def zao (q:Q):Int:=if q.bot=0 then 6 else if 600<(Lib.decDigits q.top).length∨600<(Lib.decDigits q.bot).length then 4 else 0
def za0 (q:Q):List UInt8:=if zao q=0 then zbU q else []
def zbj (w:World) (l:List UInt8) (x:Int) (e:Ending) (w':World):Prop:=∃ s:ByteArray,e = .returned (.tuple #[.string s,.int .i64 x])∧s.data.toList=l∧Below w.heap.size w w'
set_option maxHeartbeats 4000000 in
set_option maxRecDepth 100000 in
theorem zfo (q:Q) (A1 A2:Option Addr) (n1 c1 n2 c2:Nat) (w:World) (hT:Tabs w) (h1:NatS w w.heap.size A1 n1 c1 q.top) (h2:NatS w w.heap.size A2 n2 c2 q.bot) (k1:n1≤268435456) (k2:n2≤268435456) :
  Calls Tryz.prog 66 #[.agg #[.bool q.neg,.slice A1 n1 c1,.slice A2 n2 c2]] w (zbj w (za0 q) (zao q)):=by
 obtain ⟨neg,top,bot⟩:=q
 dsimp only at h1 h2 ⊢
 have aD:Below w.heap.size w (w.alloc (.cells #[.bool neg,.slice A1 n1 c1,.slice A2 n2 c2] 91)):=(Below.refl _ _).alloc (Nat.le_refl _) _
 have aS:zad (w.alloc (.cells #[.bool neg,.slice A1 n1 c1,.slice A2 n2 c2] 91)) w.heap.size neg (.slice A1 n1 c1) (.slice A2 n2 c2):=zad.new w _ _ _
 have hz:=zaK A2 n2 c2 bot _ (h2.later aD)
 by_cases hb0:bot=0
 ·have hE:zao ⟨neg,top,bot⟩=6:=by unfold zao;rw [if_pos hb0]
  have hW:za0 ⟨neg,top,bot⟩=[]:=by unfold za0;rw [hE];rfl
  have hd:decide (bot=0)=true:=by simpa using hb0
  rw [hE,hW]
  rw [hd] at hz
  clear hE hW hb0 hd
  go_enter Tryz.func66,Tryz.ntmps66
  go_wp2_with fail
  refine hz.mono ?_
  rintro e w1 ⟨rfl,rfl⟩
  go_wp2
  go_ret2
  exact ⟨⟨#[]⟩,rfl,rfl,aD⟩
 ·have hd:decide (bot=0)=false:=by simpa using hb0
  rw [hd] at hz
  have aQ:=hT.later aD
  have aM:=fun (W:World) (hb:Below (w.alloc (.cells #[.bool neg,.slice A1 n1 c1,.slice A2 n2 c2] 91)).heap.size (w.alloc (.cells #[.bool neg,.slice A1 n1 c1,.slice A2 n2 c2] 91)) W)=>zia A1 n1 c1 top W (aQ.later hb) ((h1.later aD).later hb) (by omega)
  have aP:=fun (W:World) (hb:Below (w.alloc (.cells #[.bool neg,.slice A1 n1 c1,.slice A2 n2 c2] 91)).heap.size (w.alloc (.cells #[.bool neg,.slice A1 n1 c1,.slice A2 n2 c2] 91)) W)=>zia A2 n2 c2 bot W (aQ.later hb) ((h2.later aD).later hb) (by omega)
  have ho:=fun (W:World) (hb:Below (w.alloc (.cells #[.bool neg,.slice A1 n1 c1,.slice A2 n2 c2] 91)).heap.size (w.alloc (.cells #[.bool neg,.slice A1 n1 c1,.slice A2 n2 c2] 91)) W)=>zbo A2 n2 c2 bot W ((h2.later aD).later hb)
  obtain ⟨s1,aO⟩:∃ s1:ByteArray,s1=⟨(Lib.decDigits top).toArray⟩:=⟨_,rfl⟩
  obtain ⟨s2,aK⟩:∃ s2:ByteArray,s2=⟨(Lib.decDigits bot).toArray⟩:=⟨_,rfl⟩
  have e1:s1.data.toList=Lib.decDigits top:=by rw [aO]
  have e2:s2.data.toList=Lib.decDigits bot:=by rw [aK]
  simp only [←aO] at aM
  simp only [←aK] at aP
  have hE:Hid (zao ⟨neg,top,bot⟩=if 600<s1.size∨600<s2.size then 4 else 0):=by
   unfold Hid zao
   rw [if_neg hb0,←e1,←e2];simp
  have hS:Hid (zbU ⟨neg,top,bot⟩=(if neg then 45 :: s1.data.toList else s1.data.toList)++(if bot=1 then [] else 47 :: s2.data.toList)):=by
   unfold Hid zbU;rw [←e1,←e2]
  have aE:s1.size<8589934592:=by
   have h0:s1.size=(Lib.decDigits top).length:=by rw [←e1];simp
   have h3:=Dec.dec_length_le (k:=20*n1+1) (r:=top) (by omega) (by
    have h4:=zac top
    rw [h1.len] at h4
    refine Nat.lt_of_lt_of_le h4 ?_
    have h5:B≤10 ^ 20:=by rw [zcN];omega
    have h6:=Nat.pow_le_pow_left h5 n1
    rw [←Nat.pow_mul] at h6
    exact Nat.le_trans h6 (Nat.pow_le_pow_right (by omega) (by omega)))
   omega
  have aH:s2.size<8589934592:=by
   have h0:s2.size=(Lib.decDigits bot).length:=by rw [←e2];simp
   have h3:=Dec.dec_length_le (k:=20*n2+1) (r:=bot) (by omega) (by
    have h4:=zac bot
    rw [h2.len] at h4
    refine Nat.lt_of_lt_of_le h4 ?_
    have h5:B≤10 ^ 20:=by rw [zcN];omega
    have h6:=Nat.pow_le_pow_left h5 n2
    rw [←Nat.pow_mul] at h6
    exact Nat.le_trans h6 (Nat.pow_le_pow_right (by omega) (by omega)))
   omega
  have aU:=Lib.hid aM
  have aT:=Lib.hid aP
  have HO:=Lib.hid ho
  have bB:=Lib.hid aE
  have bA:=Lib.hid aH
  have aY:=Lib.hid e1
  clear aM aP ho aO aK e1 e2 hd hb0 aQ aE aH
  go_enter Tryz.func66,Tryz.ntmps66
  go_wp2_with fail
  refine hz.mono ?_
  rintro e w1 ⟨rfl,rfl⟩
  clear hz
  generalize (w.alloc (.cells #[.bool neg,.slice A1 n1 c1,.slice A2 n2 c2] 91))=w3 at *
  obtain ⟨a0,a1,a2,_,_,_,al⟩:=aS.cells
  go_wp2_with fail
  go_region_held3 (fun w'=>w'.cell? ⟨w.heap.size,0,none⟩=some (.bool neg)∧w'.cell? ⟨w.heap.size,1,none⟩=some (.slice A1 n1 c1)∧w'.cell? ⟨w.heap.size,2,none⟩=some (.slice A2 n2 c2))
   (first | exact ⟨a0,a1,a2⟩ | exact ⟨((aC.cell (p:=⟨w.heap.size,0,none⟩) al).trans a0),((aC.cell (p:=⟨w.heap.size,1,none⟩) al).trans a1),((aC.cell (p:=⟨w.heap.size,2,none⟩) al).trans a2)⟩ | exact ⟨((aF.cell (p:=⟨w.heap.size,0,none⟩) (aN)).trans ((aC.cell (p:=⟨w.heap.size,0,none⟩) al).trans a0)),((aF.cell (p:=⟨w.heap.size,1,none⟩) (aN)).trans ((aC.cell (p:=⟨w.heap.size,1,none⟩) al).trans a1)),((aF.cell (p:=⟨w.heap.size,2,none⟩) (aN)).trans ((aC.cell (p:=⟨w.heap.size,2,none⟩) al).trans a2))⟩)
   (first
    |(go_at_call_of 132 (Value.slice A1 n1 c1);refine (aU.out w3.drew (Below.drew (Below.refl _ _))).mono ?_;rintro e w4 ⟨rfl,aC⟩;have aN:=Nat.lt_of_lt_of_le al aC.size)
    |(go_at_call_of 132 (Value.slice A2 n2 c2);refine (aT.out w4 (Below.trans (Below.drew (Below.refl _ _)) aC)).mono ?_;rintro e w6 ⟨rfl,aF⟩))
  have aI:Below w3.heap.size w3 w6:=(Below.trans (Below.drew (Below.refl _ _)) aC).trans (aF.mono (by have:=aC.size;exact this))
  have b0:=(aI.cell (p:=⟨w.heap.size,0,none⟩) al).trans a0
  have b2:=(aI.cell (p:=⟨w.heap.size,2,none⟩) al).trans a2
  have ho:=HO.out w6 aI
  have aG:=aD.trans (aI.mono aD.size)
  clear a0 a1 a2 aC aF aS
  by_cases hl:600<s1.size∨600<s2.size
  ·have aV:decide ((600:Int)<max (s1.size:Int) (s2.size:Int))=true:=by simp only [decide_eq_true_eq];omega
   have aR:zao ⟨neg,top,bot⟩=4:=by rw [hE.out,if_pos hl]
   have hW:za0 ⟨neg,top,bot⟩=[]:=by unfold za0;rw [aR];rfl
   have aW:=Lib.hid aR
   have HW:=Lib.hid hW
   clear aR hW hl ho
   go_wp2
   go_ret2
   exact ⟨⟨#[]⟩,by rw [aW.out];rfl,by rw [HW.out],aG⟩
  ·have aV:decide ((600:Int)<max (s1.size:Int) (s2.size:Int))=false:=by simp only [decide_eq_false_iff_not];omega
   have aL:zao ⟨neg,top,bot⟩=0:=by rw [hE.out,if_neg hl]
   have aA:za0 ⟨neg,top,bot⟩=(if neg then 45 :: s1.data.toList else s1.data.toList)++(if bot=1 then [] else 47 :: s2.data.toList):=by
    unfold za0;rw [if_pos aL];exact hS.out
   have aJ:=Lib.hid aL
   have aX:s1.size≤600:=by omega
   have aZ:s2.size≤600:=by omega
   clear aL hl
   by_cases h1:bot=1<;>cases neg
   ·rw [show decide (bot=1)=true from by simpa using h1] at ho
    rw [if_neg (by simp),if_pos h1] at aA
    have HW:=Lib.hid aA
    clear h1 aA
    go_wp2_with fail
    refine ho.mono ?_
    rintro e w7 ⟨rfl,rfl⟩
    go_wp2
    go_ret2
    refine ⟨_,by rw [aJ.out];rfl,?_,aG⟩
    rw [HW.out]
    simp
   ·rw [show decide (bot=1)=true from by simpa using h1] at ho
    rw [if_pos rfl,if_pos h1] at aA
    have HW:=Lib.hid aA
    clear h1 aA
    go_wp2_with fail
    refine ho.mono ?_
    rintro e w7 ⟨rfl,rfl⟩
    go_wp2
    go_ret2
    refine ⟨_,by rw [aJ.out];rfl,?_,aG⟩
    rw [HW.out]
    simp
   ·rw [show decide (bot=1)=false from by simpa using h1] at ho
    rw [if_neg (by simp),if_neg h1] at aA
    have HW:=Lib.hid aA
    clear h1 aA
    go_wp2_with fail
    refine ho.mono ?_
    rintro e w7 ⟨rfl,rfl⟩
    go_wp2
    go_ret2
    refine ⟨_,by rw [aJ.out];rfl,?_,aG⟩
    rw [HW.out]
    simp
   ·rw [show decide (bot=1)=false from by simpa using h1] at ho
    rw [if_pos rfl,if_neg h1] at aA
    have HW:=Lib.hid aA
    clear h1 aA
    go_wp2_with fail
    refine ho.mono ?_
    rintro e w7 ⟨rfl,rfl⟩
    go_wp2
    go_ret2
    refine ⟨_,by rw [aJ.out];rfl,?_,aG⟩
    rw [HW.out]
    simp
end Go.Proofs.YteajibbphcfmeaaGreatDoor
