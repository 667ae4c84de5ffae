/- Contracts of copyCheck and WriteString of a strings.Builder (after the shelf's own, whose text another Go had). -/
import Derived.Test.YtbkgkoenppkhpaaGreatDoorGWords
import Derived.Test.YtbkgkoenppkhpaaGreatDoorGNum1
import Derived.Shelf.Strings.Builder1
import Derived.Test.YtbkgkoenppkhpaaGreatDoorGNat5
import Derived.Lib.ItoaMem
import Derived.Lib.AppendIntMem
import Derived.Shelf.Strconv.Itoa2
import Derived.Test.YtbkgkoenppkhpaaGreatDoorGRat1
import Derived.Test.YtbkgkoenppkhpaaGreatDoorGRat5
import Derived.Deep.RegionHeld3
import Derived.Lib.IndexLaws
set_option maxRecDepth 100000
set_option maxHeartbeats 4000000
namespace Go.Proofs.YtbkgkoenppkhpaaGreatDoor
section
open Go.RowKit
theorem zlV:(Tryz.prog.info? 212).map (·.size)=some 2:=by kernel_rfl
theorem zoi:liesAt Tryz.prog Tryz.prog.depth 212 (2 / Tryz.prog.cellsOf 212) 0 212 1=true:=by kernel_rfl
theorem zgg (b:Nat) (w:World) (h0:w.cell? ⟨b,0,none⟩=some (.pointer (some ⟨b,0,none⟩))) :
  Calls Tryz.prog 219 #[.pointer (some ⟨b,0,none⟩)] w fun e w'=>e = .returned (.tuple #[])∧w'=w:=by
 obtain ⟨j,hj,_⟩:=Option.map_eq_some_iff.1 zlV;have aA:=Lib.run_neq_ptr_same w ⟨b,0,none⟩ Tryz.underlying209 hj;go_enter Tryz.func219,Tryz.ntmps219
 go_wp2
 go_end0
 exact ⟨rfl,rfl⟩
theorem zfV (b:Nat) (w:World) (h0:w.cell? ⟨b,0,none⟩=some (.pointer none)) (hsh:w.shape? b=some (212,2)) (hfz:w.frozen? ⟨b,0,none⟩=false) :
  Calls Tryz.prog 219 #[.pointer (some ⟨b,0,none⟩)] w fun e w'=>e = .returned (.tuple #[])∧w'=w.setCell ⟨b,0,none⟩ (.pointer (some ⟨b,0,none⟩)):=by
 obtain ⟨j,hj,aA⟩:=Option.map_eq_some_iff.1 zlV;have a1:=Lib.run_to_unsafe w ⟨b,0,none⟩ Tryz.underlying209 Tryz.underlying245 hj (by rw [aA];decide) hsh (Nat.zero_lt_succ 1);have a2:=Lib.run_from_unsafe w ⟨b,0,none⟩ Tryz.underlying245 Tryz.underlying209 hj hsh zoi;have a3:∀ x:Value,(callFunc 233 #[x]).run Tryz.prog w = .ok (.value x) w:=fun x=>by
  rw [run_callFunc_extern Tryz.func233 (by kernel_rfl) (by kernel_rfl) (by kernel_rfl) (e:=Extern.AbiNoEscape.same) (by kernel_rfl),Lib.run_noEscape];rfl
 have aC:∀ W:World,(binOp .neq 209 (.pointer (some ⟨b,0,none⟩)) (.pointer (some ⟨b,0,none⟩))).run Tryz.prog W = .ok (.bool false) W:=fun W=>Lib.run_neq_ptr_same W ⟨b,0,none⟩ Tryz.underlying209 hj
 clear aA hj;go_enter Tryz.func219,Tryz.ntmps219
 go_wp2
 go_end0
 exact ⟨rfl,rfl⟩
theorem zhh (B b:Nat) (bs:List Value) (w:World) (h:Lib.IsBuilder 212 5 B b bs w) :
  Calls Tryz.prog 219 #[.pointer (some ⟨b,0,none⟩)] w fun e w'=>e = .returned (.tuple #[])∧(Lib.BuilderAt 212 5 B b (.pointer (some ⟨b,0,none⟩)) bs w'∧Below B w w'):=by
 rcases h with h | h
 ·refine (zfV b w h.cell0 h.shape h.frozen0).mono ?_
  rintro e w' ⟨rfl,rfl⟩;exact ⟨rfl,h.used _,(Below.refl B w).setCell (p:=⟨b,0,none⟩) h.1 _⟩
 ·refine (zgg b w h.cell0).mono ?_
  rintro e w' ⟨rfl,rfl⟩;exact ⟨rfl,h,Below.refl B _⟩
theorem zom:(Tryz.prog.info? 5).map (fun i=>(i.zero,i.size,i.bytes))=some (some (.int .u8 0),1,1):=by kernel_rfl
theorem zcw (B b:Nat) (bs:List Value) (s:ByteArray) (w:World) (h:Lib.IsBuilder 212 5 B b bs w) (hlen:bs.length+s.size≤140737488355328) (hBw:B≤w.heap.size) :
  Calls Tryz.prog 199 #[.pointer (some ⟨b,0,none⟩),.string s] w fun e w'=>e = .returned (.tuple #[.int .i64 s.size,.nilIface])∧(Lib.BuilderAt 212 5 B b (.pointer (some ⟨b,0,none⟩)) (bs++Lib.strCells s) w'∧Below B w w'):=by
 obtain ⟨i0,hi,aM,aJ,aL⟩:=info_parts zom;go_enter Tryz.func199,Tryz.ntmps199
 go_wp2_with fail
 refine (zhh B b bs _ h).mono ?_;rintro e w1 ⟨rfl,h1,aH⟩;obtain ⟨hB,v,aE,aD,aK⟩:=h1;have c0:w1.cell? ⟨b,0,none⟩=some (.pointer (some ⟨b,0,none⟩)):=by rw [Lib.cell_of_heap aE];rfl
 have c1:w1.cell? ⟨b,1,none⟩=some v:=by rw [Lib.cell_of_heap aE];rfl
 go_wp2_with (at_builtin;refine Lib.wpList_append_own_string _ rfl _ _ 210 9 rfl B 5 i0 Tryz.underlying210 Tryz.underlying9 hi aM aJ aL _ _ _ rfl aD s rfl ?c3 ?c4 ?c5 ?_)
 case c3=>unfold maxLen;omega
 case c4=>omega
 case c5=>have:=aH.size;omega
 intro v' w2 aA aC _;have aI:b<w1.heap.size:=by
  rcases Nat.lt_or_ge b w1.heap.size with h' | h'
  ·exact h'
  ·simp [Array.getElem?_eq_none h'] at aE
 have aF:w2.heap[b]? = some (.cells #[.pointer (some ⟨b,0,none⟩),v] 212 (0,0)):=by
  rw [aC.block b aI (fun e=>aK e.symm)];exact aE
 have d0:w2.cell? ⟨b,0,none⟩=some (.pointer (some ⟨b,0,none⟩)):=by rw [Lib.cell_of_heap aF];rfl
 have d1:w2.cell? ⟨b,1,none⟩=some v:=by rw [Lib.cell_of_heap aF];rfl
 have f1:w2.frozen? ⟨b,1,none⟩=false:=Lib.frozen_of_heap aF 1;obtain ⟨ao,n',aG,rfl⟩:∃ ao n' aG,v' = .slice ao n' aG:=by
  rcases aA.2 with ⟨hv,_⟩ | ⟨g,aG,aN,hv,_⟩
  ·exact ⟨_,_,_,hv⟩
  ·exact ⟨_,_,_,hv⟩
 go_wp2
 go_ret2
 refine ⟨rfl,?_,?_⟩
 ·exact Lib.BuilderAt.put (T:=212) (e:=5) hB aF (bs':=bs++Lib.strCells s) (by simpa [Lib.strCells_length] using aA) (by decide)
 ·exact (aH.grown aC (by have:=aH.size;omega) (fun k hk=>(aD.lt k hk).1)).setCell (p:=⟨b,1,none⟩) hB _
end
section
open Go.RowKit Go.Lib Go.Sort
theorem zhe (u:Nat) (hu64:u<18446744073709551616) (w:World) (hT:Tabs w) :
  Calls Tryz.prog 218 #[.int .u64 u,.int .i64 10] w fun e w'=>e = .returned (.string ⟨(Lib.decDigits u).toArray⟩)∧Below w.heap.size w w':=by
 by_cases hs:u<100
 ·have hw:IntKind.i64.wrap (u:Int)=(u:Int):=IntWalk.i64_in _ (by omega)
  have hd:decide ((u:Int)<100)=true:=by simp;omega
  go_enter Tryz.func218,Tryz.ntmps218
  go_wp2_with fail
  refine (Tryz.internal_strconv_small u hs _).mono ?_;rintro e w1 ⟨rfl,rfl⟩;go_wp2
  go_ret;exact ⟨rfl,Below.refl _ _⟩
 ·have hd:decide ((u:Int)<100)=false:=by simp;omega
  have aD:1≤u:=by omega
  have aE:Lib.nDigits u≤20:=by have:=Lib.numDigits_eq u aD hu64;split at this<;>omega
  have aF:Tryz.prog.arrayLen 241=24:=by kernel_rfl
  have aJ:∀ W,(Instr.sliceAt 241 (.pointer (some ⟨w.heap.size,0,none⟩)) none (some (.int .i64 (Lib.nDigits u:Int))) none).run Tryz.prog W = .ok (.slice (some ⟨w.heap.size,0,none⟩) (Lib.nDigits u) 24) W:=fun W=>by
   rw [run_sliceAt_array_h W 241 ⟨w.heap.size,0,none⟩ (by kernel_rfl) .i64 (Lib.nDigits u:Int) (by omega) (by rw [aF];omega)]
   go_simp
  have aC:=Lib.holds_zero0 w 241 (Lib.nDigits u) (by omega);have aA:=Tryz.internal_strconv_formatBase10 w.heap.size 0 24 u (Array.replicate (Lib.nDigits u) 0) (w.alloc (.cells Lib.zeros24 241)) aC (by rw [Array.size_replicate];exact Lib.lt_pow_nDigits u) hu64 (by rw [Array.size_replicate];omega);rw [Array.size_replicate] at aA;have aH:=Aa aC;have HN:=Aa (Tryz.internal_strconv_numDigits u aD hu64 (w.alloc (.cells Lib.zeros24 241)) (Lib.tabIs_alloc hT.pow _));clear aC aF aD;go_enter Tryz.func218,Tryz.ntmps218
  go_wp2_with fail
  refine HN.out.mono ?_;rintro e w1 ⟨rfl,rfl⟩
  go_wp2_with fail
  refine aA.mono ?_;rintro e w' ⟨rfl,k,v',dk,rfl,hF⟩;have aI:(convert 210 9 (.slice (some ⟨w.heap.size,0,none⟩) (Lib.nDigits u) 24)).run Tryz.prog ((putRow (fun (b:UInt8)=>Value.int .u8 (b.toNat:Int)) (w.alloc (.cells Lib.zeros24 241)) w.heap.size 0 dk).drewN k) = .ok (.string ⟨(Lib.decDigits u).toArray⟩) ((putRow (fun (b:UInt8)=>Value.int .u8 (b.toNat:Int)) (w.alloc (.cells Lib.zeros24 241)) w.heap.size 0 dk).drewN k):=by
   have h:=run_convert_bytes_back (P:=Tryz.prog) ((putRow (fun (b:UInt8)=>Value.int .u8 (b.toNat:Int)) (w.alloc (.cells Lib.zeros24 241)) w.heap.size 0 dk).drewN k) 210 9 5 ⟨w.heap.size,0,none⟩ 24 (Lib.decDigits u) Tryz.underlying210 Tryz.underlying5 Tryz.underlying9 (fun j hj=>by
    rw [Lib.row_is_numeral hF j hj,Lib.add_plain,World.cell?_drewN];exact cell?_putRow (fun (b:UInt8)=>Value.int .u8 (b.toNat:Int)) _ w.heap.size 0 _ dk aH.out (by rw [hF.size,Array.size_replicate]) j (by rw [hF.size];rw [Lib.decDigits_length] at hj;exact hj))
   rw [Lib.decDigits_length] at h;exact h
  have hB:Below w.heap.size w ((putRow (fun (b:UInt8)=>Value.int .u8 (b.toNat:Int)) (w.alloc (.cells Lib.zeros24 241)) w.heap.size 0 dk).drewN k):=by
   refine zac ?_ k;rw [alloc_eq_grow];obtain ⟨aG,_,e⟩:=putRow_grow_new (fun (b:UInt8)=>Value.int .u8 (b.toNat:Int)) w #[.cells Lib.zeros24 241] w.heap.size 0 dk (Nat.le_refl _);rw [e];have h:=below_grow w.heap.size w (Nat.le_refl _) 0 aG
   rwa [World.drewN_zero] at h
  go_wp2
  go_ret;exact ⟨rfl,hB⟩
theorem zgk (u:Nat) (hu64:u<18446744073709551616) (w:World) (hT:Tabs w) :
  Calls Tryz.prog 197 #[.int .u64 u,.int .i64 10] w fun e w'=>e = .returned (.string ⟨(Lib.decDigits u).toArray⟩)∧Below w.heap.size w w':=by
 have h:=zhe u hu64 w hT;generalize (⟨(Lib.decDigits u).toArray⟩:ByteArray)=s at h ⊢;go_enter Tryz.func197,Tryz.ntmps197
 go_wp2_with fail
 refine h.mono ?_;rintro e w1 ⟨rfl,hb⟩;go_wp2
 go_ret;exact ⟨rfl,hb⟩
end
section
open Go.RowKit Bn
theorem zj7 {x n k:Nat} (hx:x<B ^ n) (hk:2*n≤k):x / Dec.T ^ k=0:=by
 refine Nat.div_eq_of_lt (Nat.lt_of_lt_of_le hx ?_);have h1:B≤Dec.T ^ 2:=by rw [zdm,Dec.T_def];omega
 have h2:B ^ n≤(Dec.T ^ 2) ^ n:=Nat.pow_le_pow_left h1 n;rw [←Nat.pow_mul] at h2;exact Nat.le_trans h2 (Nat.pow_le_pow_right Dec.T_pos hk)
theorem zhV {w w':World} {base:Nat} {e:TypeId} {size n:Nat} {v:Value} {xs:List Value} (h:w.ownsRow base e size v n xs) (hb:Below w.heap.size w w'):w'.ownsRow base e size v n xs:=
 World.ownsRow.kept h (zey hb none) (Classical.em _)
theorem zdr {T e:TypeId} {B b:Nat} {bs:List Value} {w w':World} (h:Lib.IsBuilder T e B b bs w) (hb:Below w.heap.size w w'):Lib.IsBuilder T e B b bs w':=by
 have key:∀ p,Lib.BuilderAt T e B b p bs w→Lib.BuilderAt T e B b p bs w':=by
  rintro p ⟨hB,v,aA,aC,aD⟩;refine ⟨hB,v,?_,zhV aC hb,aD⟩;rw [hb.block b ?_]
  ·exact aA
  ·rcases Nat.lt_or_ge b w.heap.size with h | h
   ·exact h
   ·rw [Array.getElem?_eq_none h] at aA;cases aA
 rcases h with h | h
 ·exact .inl (key _ h)
 ·exact .inr (key _ h)
theorem zg6 (w:World) (T e:TypeId):Lib.IsBuilder T e w.heap.size w.heap.size [] (w.alloc (.cells #[.pointer none,.slice none 0 0] T)):=
 .inl ⟨Nat.le_refl _,.slice none 0 0,heap_alloc_new w _,World.ownsRow_nil _ _ _ _,by simp [Value.ownBlock]⟩
theorem zgM (k:Nat):Lib.repeatL [48] k=List.replicate k 48:=by
 induction k with
 | zero=>rfl
 | succ k ih=>rw [Lib.repeatL,ih,List.replicate_succ];rfl
def zbR (x k j:Nat):List UInt8:=if j=k then [] else Lib.decDigits (x / Dec.T ^ j)
theorem zj9 {x k:Nat} (j:Nat) (hk:0<k) (h:x / Dec.T ^ k=0):(zbR x k j).length≤19*k:=by
 unfold zbR
 split
 ·simp
 ·refine Dec.dec_length_le (by omega) (Nat.lt_of_le_of_lt (Nat.div_le_self _ _) ?_)
  have h1:x<Dec.T ^ k:=by
   rcases Nat.lt_or_ge x (Dec.T ^ k) with h2 | h2
   ·exact h2
   ·have:=Nat.div_pos h2 (Nat.pow_pos Dec.T_pos);omega
  rwa [Dec.T_pow,←Nat.pow_mul] at h1
theorem zo1 (x k:Nat):x / Dec.T ^ k / Dec.T=x / Dec.T ^ (k+1):=by rw [Nat.pow_succ,Nat.div_div_eq_div_mul]
theorem zjp (A:Option Addr) (n c x:Nat) (w:World) (hT:Tabs w) (ha:NatS w w.heap.size A n c x) (hn:n≤1073741824) :
  Calls Tryz.prog 155 #[.slice A n c] w fun e w'=>e = .returned (.string ⟨(Lib.decDigits x).toArray⟩)∧Below w.heap.size w w':=by
 obtain ⟨i0,cV,dG,cZ,cR⟩:=info_parts zca
 by_cases hx:x=0
 ·subst hx
  have hz:=zaJ A n c 0 w ha;have hd:Hid ((⟨(Lib.decDigits 0).toArray⟩:ByteArray)=⟨#[48]⟩):=by unfold Hid;rw [Dec.dec_lt (by omega)];rfl
  go_enter Tryz.func155,Tryz.ntmps155
  go_wp2_with fail
  refine hz.mono ?_;rintro e w1 ⟨rfl,rfl⟩;go_wp2
  go_ret;exact ⟨by rw [hd.out];rfl,Below.refl _ _⟩
 ·have hz:=zaJ A n c x w ha
  have hd:decide (x=0)=false:=by simpa using hx
  rw [hd] at hz;have cI:x<B ^ n:=by have:=zab x;rw [ha.len] at this;exact this
  have bX:=Aa cI;have HX:=Aa hx;clear hd cI hx;go_enter Tryz.func155,Tryz.ntmps155
  go_wp2_with fail
  refine hz.mono ?_;rintro e w1 ⟨rfl,rfl⟩
  go_wp2_with fail
  clear hz
  go_loopg [0,3] x (fun G sa sc we=>∃ A2 m2 c2 k ao bH,sa = .slice A2 m2 c2∧NatS we we.heap.size A2 m2 c2 (x / Dec.T ^ k)∧sc = .slice ao k bH∧we.ownsRow w.heap.size 116 1 (.slice ao k bH) k ((Dec.chunks x k).map u64v)∧Hid (0<k→x / Dec.T ^ (k - 1)≠0)∧x / Dec.T ^ k≤G∧m2≤n∧k≤2*n∧Below w.heap.size w we)
  case atStart=>exact ⟨A,n,c,0,none,0,rfl,by simpa using ha,rfl,World.ownsRow_nil _ _ _ _,fun h=>absurd h (by omega),by simp,Nat.le_refl _,Nat.zero_le _,Below.refl _ _⟩
  case round=>
   clear ha;obtain ⟨A2,m2,c2,k,ao,bH,rfl,bG,rfl,aJ,aG,hG,dM,hk,aH⟩:=hrel;obtain ⟨we,rfl⟩:∃ we:World,we=wr:=⟨_,rfl⟩;have hz:=zaJ A2 m2 c2 (x / Dec.T ^ k) we bG
   by_cases h0:x / Dec.T ^ k=0
   ·have hd:decide (x / Dec.T ^ k=0)=true:=by simpa using h0
    rw [hd] at hz;have H0:=Aa h0;have dK:=Aa bG;clear hd h0 hG bG
    go_wp2_with fail
    refine hz.mono ?_;rintro e w1 ⟨rfl,rfl⟩;clear hz;have bZ:0<k:=by
     rcases Nat.eq_zero_or_pos k with h | h
     ·subst h;exact absurd (by simpa using H0.out) HX.out
     ·exact h
    have cT:zbB we we.heap.size ao k (Dec.chunks x k):=zaY.of_own aJ;have bY:Below we.heap.size we (we.alloc (.cells #[.pointer none,.slice none 0 0] 212)):=Ac;have aE:=aG.out bZ;have bE:=Aa aE;have cE:=zg6 we 212 5;clear aE aG
    go_wp2_with fail
    go_loopw [6] (fun si wb=>∃ (j:Nat) (i:Int),i=(j:Int) - 1∧j≤k∧si = .int .i64 i∧Lib.IsBuilder 212 5 we.heap.size we.heap.size (Lib.byteCells (zbR x k j)) wb∧Below we.heap.size we wb) (fun si _=>(intOf si+1).toNat)
    case atStart=>exact ⟨k,(k:Int) - 1,rfl,Nat.le_refl _,by first | rfl | simp,by unfold zbR;rw [if_pos rfl];exact cE,bY⟩
    case round=>
     clear cE bY;obtain ⟨j,i,hi,hj,rfl,aT,aW⟩:=hrel;obtain ⟨wb,rfl⟩:∃ wb:World,wb=wr:=⟨_,rfl⟩;have bW:=aW.size;have bL:we.heap.size<wb.heap.size:=by
      have h9:∃ p,Lib.BuilderAt 212 5 we.heap.size we.heap.size p (Lib.byteCells (zbR x k j)) wb:=by
       rcases aT with h | h
       ·exact ⟨_,h⟩
       ·exact ⟨_,h⟩
      obtain ⟨p,_,v,cJ,_⟩:=h9
      rcases Nat.lt_or_ge we.heap.size wb.heap.size with h | h
      ·exact h
      ·rw [Array.getElem?_eq_none h] at cJ;cases cJ
     by_cases hj0:0<j
     ·obtain ⟨q,rfl⟩:∃ q,j=q+1:=⟨j - 1,by omega⟩
      have bN:i=(q:Int):=by omega
      subst bN;obtain ⟨ad,rfl,_,bA⟩:=zbB.word (w:=wb) (B:=we.heap.size) (A:=ao) (n:=k) (l:=Dec.chunks x k) (zaY.below cT aW) (k:=q) (by omega);have aS:=Dec.chunks_get x k q (by omega);have aL:(Dec.chunks x k).getD q 0<Dec.T:=by rw [aS];exact Nat.mod_lt _ Dec.T_pos
      generalize (Dec.chunks x k).getD q 0=cv at bA aS aL;have aY:cv<18446744073709551616:=by rw [Dec.T_def] at aL;omega
      have hf:=zgk cv aY wb ((hT.later aH).later aW);have dF:(Lib.decDigits cv).length≤19:=Dec.dec_length_le (by omega) (by rw [←Dec.T_pow];exact aL);obtain ⟨sd,bM⟩:∃ sd:ByteArray,sd=⟨(Lib.decDigits cv).toArray⟩:=⟨_,rfl⟩;have aP:sd.data.toList=Lib.decDigits cv:=by rw [bM]
      have cS:sd.size≤19:=by
       have:sd.data.toList.length=sd.size:=by simp
       rw [aP] at this;omega
      rw [←bM] at hf;have cK:=zj9 (q+1) bZ H0.out;have cM:=Aa cK;have HF:=Aa hf;have cO:=Aa aS;have aQ:=Aa aP;clear hf aS aL aY dF bM aP hj0 hi cK
      go_wp2_with fail
      refine HF.out.mono ?_;rintro e w1 ⟨rfl,cH⟩;have aA:=zdr aT cH;have bJ:Below we.heap.size we w1:=aW.trans (cH.mono bW)
      by_cases hq:q+1=k
      ·have cG:zbR x k (q+1)=[]:=by unfold zbR;rw [if_pos hq]
       rw [cG] at aA;have hl:=Tryz.Builder_Len we.heap.size we.heap.size _ w1 aA;have cB:(Lib.byteCells []).length=0:=rfl;have aD:Hid (Lib.byteCells []++Lib.strCells sd=Lib.byteCells (zbR x k q)):=by
        have h1:x / Dec.T ^ q<Dec.T:=by
         have h2:=H0.out;rw [←hq,←zo1] at h2;exact (Nat.div_eq_zero_iff_lt Dec.T_pos).1 h2
        have h3:cv=x / Dec.T ^ q:=by rw [cO.out,Nat.mod_eq_of_lt h1]
        unfold Hid zbR;rw [if_neg (by omega),←h3,←aQ.out];rfl
       rw [cB] at hl;have HL:=Aa hl;clear hl cB cG aT
       go_wp2_with fail
       refine HL.out.mono ?_;rintro e w2 ⟨rfl,bU⟩;subst bU
       go_wp2_with fail
       refine (zcw we.heap.size we.heap.size _ sd _ aA (by rw [Lib.byteCells_length,List.length_nil];omega) bJ.size).mono ?_;rintro e w3 ⟨rfl,aU,dJ⟩;have aK:Lib.IsBuilder 212 5 we.heap.size we.heap.size (Lib.byteCells (zbR x k q)) w3:=by rw [←aD.out];exact .inr aU
       have cU:=bJ.trans dJ;clear aU aA;go_wp2
       go_roundw
       case rel=>exact ⟨q,(q:Int) - 1,rfl,by omega,by go_num,aK,cU⟩
       case measure=>simp [intOf]
      ·have bB:0<x / Dec.T ^ (q+1):=by
        refine Nat.pos_of_ne_zero fun h=>bE.out ?_
        have h1:x / Dec.T ^ (k - 1)=x / Dec.T ^ (q+1) / Dec.T ^ (k - 1 - (q+1)):=by rw [Nat.div_div_eq_div_mul,←Nat.pow_add];congr 2;omega
        rw [h1,h];simp
       have hl:=Tryz.Builder_Len we.heap.size we.heap.size _ w1 aA;rw [Lib.byteCells_length] at hl;have cW:0<(zbR x k (q+1)).length:=by unfold zbR;rw [if_neg hq];exact Dec.dec_length_pos _
       have cN:(19:Int) - (sd.size:Int)=((19 - sd.size:Nat):Int):=by omega
       have aO:Calls Tryz.prog 200 #[.string ⟨#[48]⟩,.int .i64 (19 - (sd.size:Int))] w1 fun e w'=>e = .returned (.string ⟨(Lib.repeatL [48] (19 - sd.size)).toArray⟩)∧Below w1.heap.size w1 w':=by
        rw [cN];have e1:(⟨#[48]⟩:ByteArray).size=1:=rfl;exact Tryz.strings_Repeat ⟨#[48]⟩ (19 - sd.size) w1 (by omega) (by rw [e1];omega)
       have aD:Hid (Lib.byteCells (zbR x k (q+1))++Lib.strCells ⟨(Lib.repeatL [48] (19 - sd.size)).toArray⟩++Lib.strCells sd=Lib.byteCells (zbR x k q)):=by
        have h1:=Dec.dec_chunk x q bB;have h2:sd.size=(Lib.decDigits cv).length:=by rw [←aQ.out];simp
        rw [←cO.out,←h2,←aQ.out] at h1;unfold Hid zbR;rw [if_neg hq,if_neg (by omega),h1,zgM,Lib.strCells_toArray,Lib.strCells_eq];simp [Lib.byteCells]
       have dI:(⟨(Lib.repeatL [48] (19 - sd.size)).toArray⟩:ByteArray).size≤19:=by
        show (Lib.repeatL [48] (19 - sd.size)).length≤19
        rw [Lib.repeatL_length];simp
       generalize (⟨(Lib.repeatL [48] (19 - sd.size)).toArray⟩:ByteArray)=sr at aO aD dI;generalize bI:zbR x k (q+1)=tx at hl cW aA aD cM;have HL:=Aa hl;have bO:=Aa aO;clear hl aO cN bB bI aT
       go_wp2_with fail
       refine HL.out.mono ?_;rintro e w2 ⟨rfl,bU⟩;subst bU
       go_wp2_with fail
       refine bO.out.mono ?_;rintro e w4 ⟨rfl,aZ⟩;have aK:=zdr aA aZ;have cF:Below we.heap.size we w4:=Ad bJ aZ;have dN:=cM.out
       go_wp2_with fail
       refine (zcw we.heap.size we.heap.size _ sr w4 aK (by rw [Lib.byteCells_length];omega) cF.size).mono ?_;rintro e w5 ⟨rfl,bF,dH⟩;have cC:=cF.trans dH
       go_wp2_with fail
       refine (zcw we.heap.size we.heap.size _ sd w5 (.inr bF) (by rw [List.length_append,Lib.byteCells_length,Lib.strCells_length];omega) cC.size).mono ?_;rintro e w6 ⟨rfl,bC,dD⟩;have bV:Lib.IsBuilder 212 5 we.heap.size we.heap.size (Lib.byteCells (zbR x k q)) w6:=by rw [←aD.out];exact .inr bC
       have dB:=cC.trans dD;clear bC bF aK aA;go_wp2
       go_roundw
       case rel=>exact ⟨q,(q:Int) - 1,rfl,by omega,by go_num,bV,dB⟩
       case measure=>simp [intOf]
     ·have bS:j=0:=by omega
      subst bS;have bN:i = -1:=by omega
      subst bN;have bI:zbR x k 0=Lib.decDigits x:=by unfold zbR;rw [if_neg (by omega)];simp
      rw [bI] at aT;have hs:=Tryz.Builder_String_any we.heap.size we.heap.size (Lib.decDigits x) wb aT bW;have HS:=Aa hs;clear hs bI hi hj0
      go_wp2_with fail
      refine HS.out.mono ?_;rintro e w9 ⟨rfl,cQ⟩;go_wp2
      go_ret;exact ⟨rfl,aH.trans ((aW.trans cQ).mono aH.size)⟩
   ·have hd:decide (x / Dec.T ^ k=0)=false:=by simpa using h0
    rw [hd] at hz;have bK:Calls Tryz.prog 186 #[.slice A2 m2 c2,.int .u64 10000000000000000000] we _:=za9 A2 m2 c2 (x / Dec.T ^ k) 10000000000000000000 we bG (by omega) (by omega) (by omega);have bR:x / Dec.T ^ k / 10000000000000000000=x / Dec.T ^ (k+1):=zo1 x k;rw [bR] at bK;have bL:x / Dec.T ^ (k+1)<x / Dec.T ^ k:=by rw [←bR];exact Nat.div_lt_self (Nat.pos_of_ne_zero h0) (by omega)
    have cL:x / Dec.T ^ k % 10000000000000000000=(Dec.chunks x (k+1)).getD k 0:=by rw [Dec.chunks_get x (k+1) k (by omega)];rfl
    have dA:k+1≤2*n:=by
     rcases Nat.lt_or_ge k (2*n) with h | h
     ·omega
     ·exact absurd (zj7 bX.out h) h0
    have cA:=Dec.chunks_succ x k;generalize aS:x / Dec.T ^ k % 10000000000000000000=cv at bK cL;have bP:Hid (Dec.chunks x (k+1)=Dec.chunks x k++[cv]):=by unfold Hid;rw [cA,←aS];rfl
    have HL:Hid (0<k+1→x / Dec.T ^ (k+1 - 1)≠0):=by intro _;simpa using h0
    have cY:=Aa bK;have cP:=Aa bL;have HG:=Aa hG;clear hd h0 bK bR bL cL cA aS hG aG
    go_wp2_with fail
    refine hz.mono ?_;rintro e w1 ⟨rfl,rfl⟩;clear hz
    go_wp2_with fail
    refine cY.out.mono ?_;rintro e w4 ⟨m4,c4,rfl,bQ,aZ⟩;have aF:=zhV aJ aZ;have aV:m4≤n:=by
     rw [←bQ.nat.len];refine Nat.le_trans (zaa (Nat.div_le_self _ _)) ?_;have:=bX.out;exact zad this
    have aC:=Ad aH aZ
    go_wp2_with (at_builtin;refine wpList_append_own _ rfl _ _ 84 rfl w.heap.size 116 i0 (.int .u64 0) 1 8 Tryz.underlying84 cV dG cZ cR rfl (by decide) _ _ _ rfl (aF.alloc _) ⟨w4.heap.size,0,none⟩ 1 1 [.int .u64 (cv:Int)] rfl rfl (cell_one_new _ _ _) ?c2 ?c3 ?c4 ?c5 ?_)
    case c2=>intro u hu;simp at hu;subst hu;rfl
    case c3=>unfold maxLen;omega
    case c4=>omega
    case c5=>have:=aC.size;simp;omega
    intro v' w5 aN aI _;have bD:Below w.heap.size w w5:=(aC.alloc aC.size _).grown aI (by have:=aC.size;simp;omega) (fun q hq=>(aF.lt q hq).1);have aX:NatS w5 w5.heap.size (some ⟨we.heap.size,0,none⟩) m4 c4 (x / Dec.T ^ (k+1)):=
     ((bQ.alloc _).kept aI (fun e=>by have:=(aJ.lt _ e).2;omega)).nat
    have aM:w5.ownsRow w.heap.size 116 1 v' (k+1) ((Dec.chunks x (k+1)).map u64v):=by
     rw [bP.out,List.map_append];exact aN
    obtain ⟨bT,aR,rfl⟩:∃ bT aR,v' = .slice bT (k+1) aR:=by
     rcases aM.2 with ⟨_,h0⟩ | ⟨g,bH,dL,hv,_⟩
     ·exact absurd h0 (by omega)
     ·exact ⟨_,_,hv⟩
    clear aN aI aF aJ bQ
    go_wp2_with fail
    go_roundg (x / Dec.T ^ (k+1))
    case measure=>exact Nat.lt_of_lt_of_le cP.out HG.out
    case rel=>exact ⟨_,m4,c4,k+1,bT,aR,rfl,aX,rfl,aM,HL,Nat.le_refl _,aV,dA,bD⟩
def zaE (q:Q):List UInt8:=(if q.neg then 45 :: Lib.decDigits q.top else Lib.decDigits q.top)++(if q.bot=1 then [] else 47 :: Lib.decDigits q.bot)
def zaB (q:Q):Int:=if q.bot=0 then 6 else if 600<(Lib.decDigits q.top).length∨600<(Lib.decDigits q.bot).length then 4 else 0
def zbz (q:Q):List UInt8:=if zaB q=0 then zaE q else []
def zco (w:World) (l:List UInt8) (x:Int) (e:Ending) (w':World):Prop:=∃ s:ByteArray,e = .returned (.tuple #[.string s,.int .i64 x])∧s.data.toList=l∧Below w.heap.size w w'
theorem zfH (q:Q) (A1 A2:Option Addr) (n1 c1 n2 c2:Nat) (w:World) (hT:Tabs w) (h1:NatS w w.heap.size A1 n1 c1 q.top) (h2:NatS w w.heap.size A2 n2 c2 q.bot) (k1:n1≤268435456) (k2:n2≤268435456) :
  Calls Tryz.prog 89 #[.agg #[.bool q.neg,.slice A1 n1 c1,.slice A2 n2 c2]] w (zco w (zbz q) (zaB q)):=by
 obtain ⟨neg,top,bot⟩:=q
 dsimp only at h1 h2 ⊢
 have aD:Below w.heap.size w (w.alloc (.cells #[.bool neg,.slice A1 n1 c1,.slice A2 n2 c2] 87)):=Ac;have aS:zae (w.alloc (.cells #[.bool neg,.slice A1 n1 c1,.slice A2 n2 c2] 87)) w.heap.size neg (.slice A1 n1 c1) (.slice A2 n2 c2):=zae.new w _ _ _;have hz:=zaJ A2 n2 c2 bot _ (h2.later aD)
 by_cases hb0:bot=0
 ·have hE:zaB ⟨neg,top,bot⟩=6:=by unfold zaB;rw [if_pos hb0]
  have hW:zbz ⟨neg,top,bot⟩=[]:=by unfold zbz;rw [hE];rfl
  have hd:decide (bot=0)=true:=by simpa using hb0
  rw [hE,hW];rw [hd] at hz;clear hE hW hb0 hd;go_enter Tryz.func89,Tryz.ntmps89
  go_wp2_with fail
  refine hz.mono ?_;rintro e w1 ⟨rfl,rfl⟩;go_wp2
  go_ret2
  exact ⟨⟨#[]⟩,rfl,rfl,aD⟩
 ·have hd:decide (bot=0)=false:=by simpa using hb0
  rw [hd] at hz;have aO:=hT.later aD;have aK:=fun (W:World) (hb:Below (w.alloc (.cells #[.bool neg,.slice A1 n1 c1,.slice A2 n2 c2] 87)).heap.size (w.alloc (.cells #[.bool neg,.slice A1 n1 c1,.slice A2 n2 c2] 87)) W)=>zjp A1 n1 c1 top W (aO.later hb) ((h1.later aD).later hb) (by omega)
  have aR:=fun (W:World) (hb:Below (w.alloc (.cells #[.bool neg,.slice A1 n1 c1,.slice A2 n2 c2] 87)).heap.size (w.alloc (.cells #[.bool neg,.slice A1 n1 c1,.slice A2 n2 c2] 87)) W)=>zjp A2 n2 c2 bot W (aO.later hb) ((h2.later aD).later hb) (by omega)
  have ho:=fun (W:World) (hb:Below (w.alloc (.cells #[.bool neg,.slice A1 n1 c1,.slice A2 n2 c2] 87)).heap.size (w.alloc (.cells #[.bool neg,.slice A1 n1 c1,.slice A2 n2 c2] 87)) W)=>zbq A2 n2 c2 bot W ((h2.later aD).later hb)
  obtain ⟨s1,aQ⟩:∃ s1:ByteArray,s1=⟨(Lib.decDigits top).toArray⟩:=⟨_,rfl⟩;obtain ⟨s2,aP⟩:∃ s2:ByteArray,s2=⟨(Lib.decDigits bot).toArray⟩:=⟨_,rfl⟩;have e1:s1.data.toList=Lib.decDigits top:=by rw [aQ]
  have e2:s2.data.toList=Lib.decDigits bot:=by rw [aP]
  simp only [←aQ] at aK
  simp only [←aP] at aR
  have hE:Hid (zaB ⟨neg,top,bot⟩=if 600<s1.size∨600<s2.size then 4 else 0):=by
   unfold Hid zaB;rw [if_neg hb0,←e1,←e2];simp
  have hS:Hid (zaE ⟨neg,top,bot⟩=(if neg then 45 :: s1.data.toList else s1.data.toList)++(if bot=1 then [] else 47 :: s2.data.toList)):=by
   unfold Hid zaE;rw [←e1,←e2]
  have aH:s1.size<8589934592:=by
   have h0:s1.size=(Lib.decDigits top).length:=by rw [←e1];simp
   have h3:=Dec.dec_length_le (k:=20*n1+1) (r:=top) (by omega) (by
    have h4:=zab top;rw [h1.len] at h4;refine Nat.lt_of_lt_of_le h4 ?_;have h5:B≤10 ^ 20:=by rw [zdm];omega
    have h6:=Nat.pow_le_pow_left h5 n1;rw [←Nat.pow_mul] at h6;exact Nat.le_trans h6 (Nat.pow_le_pow_right (by omega) (by omega)))
   omega
  have aG:s2.size<8589934592:=by
   have h0:s2.size=(Lib.decDigits bot).length:=by rw [←e2];simp
   have h3:=Dec.dec_length_le (k:=20*n2+1) (r:=bot) (by omega) (by
    have h4:=zab bot;rw [h2.len] at h4;refine Nat.lt_of_lt_of_le h4 ?_;have h5:B≤10 ^ 20:=by rw [zdm];omega
    have h6:=Nat.pow_le_pow_left h5 n2;rw [←Nat.pow_mul] at h6;exact Nat.le_trans h6 (Nat.pow_le_pow_right (by omega) (by omega)))
   omega
  have aU:=Aa aK;have aT:=Aa aR;have HO:=Aa ho;have bA:=Aa aH;have aX:=Aa aG;have aZ:=Aa e1;clear aK aR ho aQ aP e1 e2 hd hb0 aO aH aG;go_enter Tryz.func89,Tryz.ntmps89
  go_wp2_with fail
  refine hz.mono ?_;rintro e w1 ⟨rfl,rfl⟩;clear hz;generalize (w.alloc (.cells #[.bool neg,.slice A1 n1 c1,.slice A2 n2 c2] 87))=w3 at *;obtain ⟨a0,a1,a2,_,_,_,al⟩:=aS.cells
  go_wp2_with fail
  go_region_held3 (fun w'=>w'.cell? ⟨w.heap.size,0,none⟩=some (.bool neg)∧w'.cell? ⟨w.heap.size,1,none⟩=some (.slice A1 n1 c1)∧w'.cell? ⟨w.heap.size,2,none⟩=some (.slice A2 n2 c2))
   (first | exact ⟨a0,a1,a2⟩ | exact ⟨((aC.cell (p:=⟨w.heap.size,0,none⟩) al).trans a0),((aC.cell (p:=⟨w.heap.size,1,none⟩) al).trans a1),((aC.cell (p:=⟨w.heap.size,2,none⟩) al).trans a2)⟩ | exact ⟨((aF.cell (p:=⟨w.heap.size,0,none⟩) (aN)).trans ((aC.cell (p:=⟨w.heap.size,0,none⟩) al).trans a0)),((aF.cell (p:=⟨w.heap.size,1,none⟩) (aN)).trans ((aC.cell (p:=⟨w.heap.size,1,none⟩) al).trans a1)),((aF.cell (p:=⟨w.heap.size,2,none⟩) (aN)).trans ((aC.cell (p:=⟨w.heap.size,2,none⟩) al).trans a2))⟩)
   (first
    |(go_at_call_of 155 (Value.slice A1 n1 c1);refine (aU.out w3.drew (Below.drew (Below.refl _ _))).mono ?_;rintro e w4 ⟨rfl,aC⟩;have aN:=Nat.lt_of_lt_of_le al aC.size)
    |(go_at_call_of 155 (Value.slice A2 n2 c2);refine (aT.out w4 (Below.trans (Below.drew (Below.refl _ _)) aC)).mono ?_;rintro e w6 ⟨rfl,aF⟩))
  have aJ:Below w3.heap.size w3 w6:=(Below.trans (Below.drew (Below.refl _ _)) aC).trans (aF.mono (by have:=aC.size;exact this));have b0:=(aJ.cell (p:=⟨w.heap.size,0,none⟩) al).trans a0;have b2:=(aJ.cell (p:=⟨w.heap.size,2,none⟩) al).trans a2;have ho:=HO.out w6 aJ;have aE:=Ad aD aJ;clear a0 a1 a2 aC aF aS
  by_cases hl:600<s1.size∨600<s2.size
  ·have aW:decide ((600:Int)<max (s1.size:Int) (s2.size:Int))=true:=by simp only [decide_eq_true_eq];omega
   have aL:zaB ⟨neg,top,bot⟩=4:=by rw [hE.out,if_pos hl]
   have hW:zbz ⟨neg,top,bot⟩=[]:=by unfold zbz;rw [aL];rfl
   have aV:=Aa aL;have HW:=Aa hW;clear aL hW hl ho;go_wp2
   go_ret2
   exact ⟨⟨#[]⟩,by rw [aV.out];rfl,by rw [HW.out],aE⟩
  ·have aW:decide ((600:Int)<max (s1.size:Int) (s2.size:Int))=false:=by simp only [decide_eq_false_iff_not];omega
   have aM:zaB ⟨neg,top,bot⟩=0:=by rw [hE.out,if_neg hl]
   have aA:zbz ⟨neg,top,bot⟩=(if neg then 45 :: s1.data.toList else s1.data.toList)++(if bot=1 then [] else 47 :: s2.data.toList):=by
    unfold zbz;rw [if_pos aM];exact hS.out
   have aI:=Aa aM;have aY:s1.size≤600:=by omega
   have bB:s2.size≤600:=by omega
   clear aM hl
   by_cases h1:bot=1<;>cases neg
   ·rw [show decide (bot=1)=true from by simpa using h1] at ho
    rw [if_neg (by simp),if_pos h1] at aA;have HW:=Aa aA;clear h1 aA
    go_wp2_with fail
    refine ho.mono ?_;rintro e w7 ⟨rfl,rfl⟩;go_wp2
    go_ret2
    refine ⟨_,by rw [aI.out];rfl,?_,aE⟩;rw [HW.out];simp
   ·rw [show decide (bot=1)=true from by simpa using h1] at ho
    rw [if_pos rfl,if_pos h1] at aA;have HW:=Aa aA;clear h1 aA
    go_wp2_with fail
    refine ho.mono ?_;rintro e w7 ⟨rfl,rfl⟩;go_wp2
    go_ret2
    refine ⟨_,by rw [aI.out];rfl,?_,aE⟩;rw [HW.out];simp
   ·rw [show decide (bot=1)=false from by simpa using h1] at ho
    rw [if_neg (by simp),if_neg h1] at aA;have HW:=Aa aA;clear h1 aA
    go_wp2_with fail
    refine ho.mono ?_;rintro e w7 ⟨rfl,rfl⟩;go_wp2
    go_ret2
    refine ⟨_,by rw [aI.out];rfl,?_,aE⟩;rw [HW.out];simp
   ·rw [show decide (bot=1)=false from by simpa using h1] at ho
    rw [if_pos rfl,if_neg h1] at aA;have HW:=Aa aA;clear h1 aA
    go_wp2_with fail
    refine ho.mono ?_;rintro e w7 ⟨rfl,rfl⟩;go_wp2
    go_ret2
    refine ⟨_,by rw [aI.out];rfl,?_,aE⟩;rw [HW.out];simp
end
section
open Go.RowKit
def cutL (l:List UInt8):List UInt8 × List UInt8 × Bool:=
 if 0≤Lib.indexByte l 47 then (l.take (Lib.indexByte l 47).toNat,l.drop ((Lib.indexByte l 47).toNat+1),true) else (l,[],false)
theorem zhK (l:List UInt8) (c:UInt8):Lib.indexByte l c<l.length∨Lib.indexByte l c = -1:=by
 by_cases h:Lib.indexByte l c<0
 ·have:=Lib.indexByte_ge l c;omega
 ·obtain ⟨o,ho⟩:=Int.eq_ofNat_of_zero_le (Int.not_lt.1 h)
  have:=(Lib.indexByte_some ho).1;have h2:o<l.length:=by
   rcases Nat.lt_or_ge o l.length with h3 | h3
   ·exact h3
   ·rw [List.getElem?_eq_none h3] at this;cases this
  omega
theorem ziO (s:ByteArray) (w:World) :
  Calls Tryz.prog 211 #[.string s,.string ⟨#[47]⟩] w fun e w'=>e = .returned (.int .i64 (Lib.indexByte s.data.toList 47))∧w=w':=by
 have h:=fun W:World=>Tryz.stringslite_IndexByte s 47 W
 have aA:(47:Int).toNat.toUInt8=47:=by decide
 rw [aA] at h;clear aA
 by_cases hs:s.data.toList=[47]
 ·have hb:([47]==s.toList)=true:=by
   have:s.toList=s.data.toList:=ByteArray.toList_eq s;rw [this,hs];rfl
  have hv:Hid (Lib.indexByte s.data.toList 47=0):=by unfold Hid;rw [hs];rfl
  clear hs h;go_enter Tryz.func211,Tryz.ntmps211
  go_wp2
  go_ret;exact ⟨by rw [hv.out];rfl,rfl⟩
 ·have hb:([47]==s.toList)=false:=by
   have:s.toList=s.data.toList:=ByteArray.toList_eq s;rw [this];exact beq_eq_false_iff_ne.2 fun e=>hs e.symm
  clear hs;generalize Lib.indexByte s.data.toList 47=i at h ⊢;go_enter Tryz.func211,Tryz.ntmps211
  go_wp2_with fail
  refine (h _).mono ?_;rintro e w1 ⟨rfl,hw⟩;subst hw;go_wp2
  go_ret;exact ⟨rfl,rfl⟩
theorem ziJ (s:ByteArray) (w:World) (hs:s.size≤4294967296) :
  Calls Tryz.prog 179 #[.string s,.string ⟨#[47]⟩] w fun e w'=>(∃ a b:ByteArray,e = .returned (.tuple #[.string a,.string b,.bool (cutL s.data.toList).2.2])∧a.data.toList=(cutL s.data.toList).1∧b.data.toList=(cutL s.data.toList).2.1)∧∃ n,w'=w.drewN n:=by
 obtain ⟨i,hi⟩:∃ i,i=Lib.indexByte s.data.toList 47:=⟨_,rfl⟩;have hc:=fun W:World=>ziO s W
 rw [←hi] at hc;have aC:s.data.toList.length=s.size:=by simp
 have aA:=zhK s.data.toList 47;rw [←hi,aC] at aA;go_enter Tryz.func179,Tryz.ntmps179
 by_cases h0:i<0
 ·have hcut:Hid (cutL s.data.toList=(s.data.toList,[],false)):=by unfold Hid cutL;rw [←hi,if_neg (by omega)]
  clear hi aA aC
  go_wp2_with fail
  refine (hc _).mono ?_;rintro e w1 ⟨rfl,rfl⟩;go_wp2
  go_ret3
  exact ⟨⟨s,⟨#[]⟩,by rw [hcut.out];rfl,by rw [hcut.out],by rw [hcut.out]⟩,0,rfl⟩
 ·obtain ⟨k,rfl⟩:=Int.eq_ofNat_of_zero_le (Int.not_lt.1 h0)
  have hk:k<s.size:=by omega
  have hcut:Hid (cutL s.data.toList=(s.data.toList.take k,s.data.toList.drop (k+1),true)):=by unfold Hid cutL;rw [←hi,if_pos (by omega)];simp
  clear hi aA aC;have a1:IntKind.i64.wrap ((k:Int)+1)=(k:Int)+1:=IntWalk.i64_in _ (by omega);have a2:((k:Int)+1).toNat=k+1:=by omega
  go_wp2_with fail
  refine (hc _).mono ?_;rintro e w1 ⟨rfl,rfl⟩
  go_wp2_with fail
  go_quiet (fail)
  go_wp2
  go_ret3
  refine ⟨⟨s.extract 0 k,s.extract (k+1) s.size,by rw [hcut.out];rfl,?_,?_⟩,nq,rfl⟩
  ·rw [hcut.out,Lib.extract_data];simp
  ·rw [hcut.out,Lib.extract_data];exact List.take_of_length_le (by simp)
theorem zls (s:ByteArray) (w:World) (hs:s.size≤4294967296) :
  Calls Tryz.prog 123 #[.string s,.string ⟨#[47]⟩] w fun e w'=>(∃ a b:ByteArray,e = .returned (.tuple #[.string a,.string b,.bool (cutL s.data.toList).2.2])∧a.data.toList=(cutL s.data.toList).1∧b.data.toList=(cutL s.data.toList).2.1)∧∃ n,w'=w.drewN n:=by
 have hc:=ziJ s w hs;generalize cutL s.data.toList=C at hc ⊢;obtain ⟨c1,c2,c3⟩:=C;go_enter Tryz.func123,Tryz.ntmps123
 go_wp2_with fail
 refine hc.mono ?_;rintro e w1 ⟨⟨a,b,rfl,h1,h2⟩,n,rfl⟩;go_wp2
 go_ret3
 exact ⟨⟨a,b,rfl,h1,h2⟩,n,rfl⟩
end
end Go.Proofs.YtbkgkoenppkhpaaGreatDoor
