/- Contract of strconv.FormatUint at base 10. -/
import Derived.Test.YteajibbphcfmeaaGreatDoorXNat5
import Derived.Lib.ItoaMem
import Derived.Lib.AppendIntMem
import Derived.Shelf.Strconv.Itoa2
import Derived.Test.YteajibbphcfmeaaGreatDoorXRat1
import Derived.Test.YteajibbphcfmeaaGreatDoorXRat2
import Derived.Deep.RegionHeld3
namespace Go.Proofs.YteajibbphcfmeaaGreatDoor
open Go.RowKit Go.Lib Go.Sort
set_option maxHeartbeats 2000000 in
set_option maxRecDepth 100000 in
theorem zgF (u:Nat) (hu64:u<18446744073709551616) (w:World) (hT:Tabs w) :
  Calls Tryz.prog 202 #[.int .u64 u,.int .i64 10] w fun e w'=>e = .returned (.string ⟨(Lib.decDigits u).toArray⟩)∧Below w.heap.size w w':=by
 by_cases hs:u<100
 ·have hw:IntKind.i64.wrap (u:Int)=(u:Int):=IntWalk.i64_in _ (by omega)
  have hd:decide ((u:Int)<100)=true:=by simp;omega
  go_enter Tryz.func202,Tryz.ntmps202
  go_wp2_with fail
  refine (Tryz.internal_strconv_small u hs _).mono ?_;rintro e w1 ⟨rfl,rfl⟩;go_wp2
  go_ret;exact ⟨rfl,Below.refl _ _⟩
 ·have hd:decide ((u:Int)<100)=false:=by simp;omega
  have aD:1≤u:=by omega
  have aE:Lib.nDigits u≤20:=by have:=Lib.numDigits_eq u aD hu64;split at this<;>omega
  have aF:Tryz.prog.arrayLen 233=24:=by kernel_rfl
  have aJ:∀ W,(Instr.sliceAt 233 (.pointer (some ⟨w.heap.size,0,none⟩)) none (some (.int .i64 (Lib.nDigits u:Int))) none).run Tryz.prog W = .ok (.slice (some ⟨w.heap.size,0,none⟩) (Lib.nDigits u) 24) W:=fun W=>by
   rw [run_sliceAt_array_h W 233 ⟨w.heap.size,0,none⟩ (by kernel_rfl) .i64 (Lib.nDigits u:Int) (by omega) (by rw [aF];omega)]
   go_simp
  have aC:=Lib.holds_zero0 w 233 (Lib.nDigits u) (by omega);have aA:=Tryz.internal_strconv_formatBase10 w.heap.size 0 24 u (Array.replicate (Lib.nDigits u) 0) (w.alloc (.cells Lib.zeros24 233)) aC (by rw [Array.size_replicate];exact Lib.lt_pow_nDigits u) hu64 (by rw [Array.size_replicate];omega);rw [Array.size_replicate] at aA;have aG:=Lib.hid aC;have HN:=Lib.hid (Tryz.internal_strconv_numDigits u aD hu64 (w.alloc (.cells Lib.zeros24 233)) (Lib.tabIs_alloc hT.pow _));clear aC aF aD;go_enter Tryz.func202,Tryz.ntmps202
  go_wp2_with fail
  refine HN.out.mono ?_;rintro e w1 ⟨rfl,rfl⟩
  go_wp2_with fail
  refine aA.mono ?_;rintro e w' ⟨rfl,k,v',dk,rfl,hF⟩;have aI:(convert 196 9 (.slice (some ⟨w.heap.size,0,none⟩) (Lib.nDigits u) 24)).run Tryz.prog ((putRow (fun (b:UInt8)=>Value.int .u8 (b.toNat:Int)) (w.alloc (.cells Lib.zeros24 233)) w.heap.size 0 dk).drewN k) = .ok (.string ⟨(Lib.decDigits u).toArray⟩) ((putRow (fun (b:UInt8)=>Value.int .u8 (b.toNat:Int)) (w.alloc (.cells Lib.zeros24 233)) w.heap.size 0 dk).drewN k):=by
   have h:=run_convert_bytes_back (P:=Tryz.prog) ((putRow (fun (b:UInt8)=>Value.int .u8 (b.toNat:Int)) (w.alloc (.cells Lib.zeros24 233)) w.heap.size 0 dk).drewN k) 196 9 5 ⟨w.heap.size,0,none⟩ 24 (Lib.decDigits u) Tryz.underlying196 Tryz.underlying5 Tryz.underlying9 (fun j hj=>by
    rw [Lib.row_is_numeral hF j hj,Lib.add_plain,World.cell?_drewN];exact cell?_putRow (fun (b:UInt8)=>Value.int .u8 (b.toNat:Int)) _ w.heap.size 0 _ dk aG.out (by rw [hF.size,Array.size_replicate]) j (by rw [hF.size];rw [Lib.decDigits_length] at hj;exact hj))
   rw [Lib.decDigits_length] at h;exact h
  have hB:Below w.heap.size w ((putRow (fun (b:UInt8)=>Value.int .u8 (b.toNat:Int)) (w.alloc (.cells Lib.zeros24 233)) w.heap.size 0 dk).drewN k):=by
   refine zad ?_ k;rw [alloc_eq_grow];obtain ⟨aH,_,e⟩:=putRow_grow_new (fun (b:UInt8)=>Value.int .u8 (b.toNat:Int)) w #[.cells Lib.zeros24 233] w.heap.size 0 dk (Nat.le_refl _);rw [e];have h:=below_grow w.heap.size w (Nat.le_refl _) 0 aH
   rwa [World.drewN_zero] at h
  go_wp2
  go_ret;exact ⟨rfl,hB⟩
theorem zfS (u:Nat) (hu64:u<18446744073709551616) (w:World) (hT:Tabs w) :
  Calls Tryz.prog 178 #[.int .u64 u,.int .i64 10] w fun e w'=>e = .returned (.string ⟨(Lib.decDigits u).toArray⟩)∧Below w.heap.size w w':=by
 have h:=zgF u hu64 w hT;generalize (⟨(Lib.decDigits u).toArray⟩:ByteArray)=s at h ⊢;go_enter Tryz.func178,Tryz.ntmps178
 go_wp2_with fail
 refine h.mono ?_;rintro e w1 ⟨rfl,hb⟩;go_wp2
 go_ret;exact ⟨rfl,hb⟩
end Go.Proofs.YteajibbphcfmeaaGreatDoor
namespace Go.Proofs.YteajibbphcfmeaaGreatDoor
open Go.RowKit Bn
theorem zka {x n k:Nat} (hx:x<B ^ n) (hk:2*n≤k):x / Dec.T ^ k=0:=by
 refine Nat.div_eq_of_lt (Nat.lt_of_lt_of_le hx ?_);have h1:B≤Dec.T ^ 2:=by rw [zdf,Dec.T_def];omega
 have h2:B ^ n≤(Dec.T ^ 2) ^ n:=Nat.pow_le_pow_left h1 n;rw [←Nat.pow_mul] at h2;exact Nat.le_trans h2 (Nat.pow_le_pow_right Dec.T_pos hk)
theorem zhf {w w':World} {base:Nat} {e:TypeId} {size n:Nat} {v:Value} {xs:List Value} (h:w.ownsRow base e size v n xs) (hb:Below w.heap.size w w'):w'.ownsRow base e size v n xs:=
 World.ownsRow.kept h (zc5 hb none) (Classical.em _)
theorem zdl {T e:TypeId} {B b:Nat} {bs:List Value} {w w':World} (h:Lib.IsBuilder T e B b bs w) (hb:Below w.heap.size w w'):Lib.IsBuilder T e B b bs w':=by
 have key:∀ p,Lib.BuilderAt T e B b p bs w→Lib.BuilderAt T e B b p bs w':=by
  rintro p ⟨hB,v,aA,aC,aD⟩;refine ⟨hB,v,?_,zhf aC hb,aD⟩;rw [hb.block b ?_]
  ·exact aA
  ·rcases Nat.lt_or_ge b w.heap.size with h | h
   ·exact h
   ·rw [Array.getElem?_eq_none h] at aA;cases aA
 rcases h with h | h
 ·exact .inl (key _ h)
 ·exact .inr (key _ h)
theorem zgR (w:World) (T e:TypeId):Lib.IsBuilder T e w.heap.size w.heap.size [] (w.alloc (.cells #[.pointer none,.slice none 0 0] T)):=
 .inl ⟨Nat.le_refl _,.slice none 0 0,heap_alloc_new w _,World.ownsRow_nil _ _ _ _,by simp [Value.ownBlock]⟩
theorem zgo (k:Nat):Lib.repeatL [48] k=List.replicate k 48:=by
 induction k with
 | zero=>rfl
 | succ k ih=>rw [Lib.repeatL,ih,List.replicate_succ];rfl
def zbL (x k j:Nat):List UInt8:=if j=k then [] else Lib.decDigits (x / Dec.T ^ j)
theorem zkb {x k:Nat} (j:Nat) (hk:0<k) (h:x / Dec.T ^ k=0):(zbL x k j).length≤19*k:=by
 unfold zbL
 split
 ·simp
 ·refine Dec.dec_length_le (by omega) (Nat.lt_of_le_of_lt (Nat.div_le_self _ _) ?_)
  have h1:x<Dec.T ^ k:=by
   rcases Nat.lt_or_ge x (Dec.T ^ k) with h2 | h2
   ·exact h2
   ·have:=Nat.div_pos h2 (Nat.pow_pos Dec.T_pos);omega
  rwa [Dec.T_pow,←Nat.pow_mul] at h1
theorem zpa (x k:Nat):x / Dec.T ^ k / Dec.T=x / Dec.T ^ (k+1):=by rw [Nat.pow_succ,Nat.div_div_eq_div_mul]
set_option maxHeartbeats 4000000 in
set_option maxRecDepth 100000 in
theorem ziK (A:Option Addr) (n c x:Nat) (w:World) (hT:Tabs w) (ha:NatS w w.heap.size A n c x) (hn:n≤1073741824) :
  Calls Tryz.prog 132 #[.slice A n c] w fun e w'=>e = .returned (.string ⟨(Lib.decDigits x).toArray⟩)∧Below w.heap.size w w':=by
 obtain ⟨i0,cW,cS,dA,dE⟩:=info_parts zcg
 by_cases hx:x=0
 ·subst hx
  have hz:=zaM A n c 0 w ha;have hd:Hid ((⟨(Lib.decDigits 0).toArray⟩:ByteArray)=⟨#[48]⟩):=by unfold Hid;rw [Dec.dec_lt (by omega)];rfl
  go_enter Tryz.func132,Tryz.ntmps132
  go_wp2_with fail
  refine hz.mono ?_;rintro e w1 ⟨rfl,rfl⟩;go_wp2
  go_ret;exact ⟨by rw [hd.out];rfl,Below.refl _ _⟩
 ·have hz:=zaM A n c x w ha
  have hd:decide (x=0)=false:=by simpa using hx
  rw [hd] at hz;have cK:x<B ^ n:=by have:=zac x;rw [ha.len] at this;exact this
  have bW:=Lib.hid cK;have HX:=Lib.hid hx;clear hd cK hx;go_enter Tryz.func132,Tryz.ntmps132
  go_wp2_with fail
  refine hz.mono ?_;rintro e w1 ⟨rfl,rfl⟩
  go_wp2_with fail
  clear hz
  go_loopg [0,3] x (fun G sa sc we=>∃ A2 m2 c2 k ao bG,sa = .slice A2 m2 c2∧NatS we we.heap.size A2 m2 c2 (x / Dec.T ^ k)∧sc = .slice ao k bG∧we.ownsRow w.heap.size 120 1 (.slice ao k bG) k ((Dec.chunks x k).map u64v)∧Hid (0<k→x / Dec.T ^ (k - 1)≠0)∧x / Dec.T ^ k≤G∧m2≤n∧k≤2*n∧Below w.heap.size w we)
  case atStart=>exact ⟨A,n,c,0,none,0,rfl,by simpa using ha,rfl,World.ownsRow_nil _ _ _ _,fun h=>absurd h (by omega),by simp,Nat.le_refl _,Nat.zero_le _,Below.refl _ _⟩
  case round=>
   clear ha;obtain ⟨A2,m2,c2,k,ao,bG,rfl,bJ,rfl,aL,aF,hG,dL,hk,aH⟩:=hrel;obtain ⟨we,rfl⟩:∃ we:World,we=wr:=⟨_,rfl⟩;have hz:=zaM A2 m2 c2 (x / Dec.T ^ k) we bJ
   by_cases h0:x / Dec.T ^ k=0
   ·have hd:decide (x / Dec.T ^ k=0)=true:=by simpa using h0
    rw [hd] at hz;have H0:=Lib.hid h0;have dI:=Lib.hid bJ;clear hd h0 hG bJ
    go_wp2_with fail
    refine hz.mono ?_;rintro e w1 ⟨rfl,rfl⟩;clear hz;have cN:0<k:=by
     rcases Nat.eq_zero_or_pos k with h | h
     ·subst h;exact absurd (by simpa using H0.out) HX.out
     ·exact h
    have dF:zbk we we.heap.size ao k (Dec.chunks x k):=zav.of_own aL;have cB:Below we.heap.size we (we.alloc (.cells #[.pointer none,.slice none 0 0] 198)):=(Below.refl _ _).alloc (Nat.le_refl _) _;have aG:=aF.out cN;have aW:=Lib.hid aG;have cE:=zgR we 198 5;clear aG aF
    go_wp2_with fail
    go_loopw [6] (fun si wb=>∃ (j:Nat) (i:Int),i=(j:Int) - 1∧j≤k∧si = .int .i64 i∧Lib.IsBuilder 198 5 we.heap.size we.heap.size (Lib.byteCells (zbL x k j)) wb∧Below we.heap.size we wb) (fun si _=>(intOf si+1).toNat)
    case atStart=>exact ⟨k,(k:Int) - 1,rfl,Nat.le_refl _,by first | rfl | simp,by unfold zbL;rw [if_pos rfl];exact cE,cB⟩
    case round=>
     clear cE cB;obtain ⟨j,i,hi,hj,rfl,aT,bD⟩:=hrel;obtain ⟨wb,rfl⟩:∃ wb:World,wb=wr:=⟨_,rfl⟩;have cC:=bD.size;have bS:we.heap.size<wb.heap.size:=by
      have h9:∃ p,Lib.BuilderAt 198 5 we.heap.size we.heap.size p (Lib.byteCells (zbL x k j)) wb:=by
       rcases aT with h | h
       ·exact ⟨_,h⟩
       ·exact ⟨_,h⟩
      obtain ⟨p,_,v,cH,_⟩:=h9
      rcases Nat.lt_or_ge we.heap.size wb.heap.size with h | h
      ·exact h
      ·rw [Array.getElem?_eq_none h] at cH;cases cH
     by_cases hj0:0<j
     ·obtain ⟨q,rfl⟩:∃ q,j=q+1:=⟨j - 1,by omega⟩
      have bV:i=(q:Int):=by omega
      subst bV;obtain ⟨ad,rfl,_,bC⟩:=zbk.word (w:=wb) (B:=we.heap.size) (A:=ao) (n:=k) (l:=Dec.chunks x k) (zav.below dF bD) (k:=q) (by omega);have aO:=Dec.chunks_get x k q (by omega);have aK:(Dec.chunks x k).getD q 0<Dec.T:=by rw [aO];exact Nat.mod_lt _ Dec.T_pos
      generalize (Dec.chunks x k).getD q 0=cv at bC aO aK;have aV:cv<18446744073709551616:=by rw [Dec.T_def] at aK;omega
      have hf:=zfS cv aV wb ((hT.later aH).later bD);have cV:(Lib.decDigits cv).length≤19:=Dec.dec_length_le (by omega) (by rw [←Dec.T_pow];exact aK);obtain ⟨sd,bO⟩:∃ sd:ByteArray,sd=⟨(Lib.decDigits cv).toArray⟩:=⟨_,rfl⟩;have aP:sd.data.toList=Lib.decDigits cv:=by rw [bO]
      have dB:sd.size≤19:=by
       have:sd.data.toList.length=sd.size:=by simp
       rw [aP] at this;omega
      rw [←bO] at hf;have cL:=zkb (q+1) cN H0.out;have cG:=Lib.hid cL;have HF:=Lib.hid hf;have cO:=Lib.hid aO;have aQ:=Lib.hid aP;clear hf aO aK aV cV bO aP hj0 hi cL
      go_wp2_with fail
      refine HF.out.mono ?_;rintro e w1 ⟨rfl,cA⟩;have aA:=zdl aT cA;have bI:Below we.heap.size we w1:=bD.trans (cA.mono cC)
      by_cases hq:q+1=k
      ·have bX:zbL x k (q+1)=[]:=by unfold zbL;rw [if_pos hq]
       rw [bX] at aA;have hl:=Tryz.Builder_Len we.heap.size we.heap.size _ w1 aA;have cF:(Lib.byteCells []).length=0:=rfl;have aI:Hid (Lib.byteCells []++Lib.strCells sd=Lib.byteCells (zbL x k q)):=by
        have h1:x / Dec.T ^ q<Dec.T:=by
         have h2:=H0.out;rw [←hq,←zpa] at h2;exact (Nat.div_eq_zero_iff_lt Dec.T_pos).1 h2
        have h3:cv=x / Dec.T ^ q:=by rw [cO.out,Nat.mod_eq_of_lt h1]
        unfold Hid zbL;rw [if_neg (by omega),←h3,←aQ.out];rfl
       rw [cF] at hl;have HL:=Lib.hid hl;clear hl cF bX aT
       go_wp2_with fail
       refine HL.out.mono ?_;rintro e w2 ⟨rfl,bP⟩;subst bP
       go_wp2_with fail
       refine (zct we.heap.size we.heap.size _ sd _ aA (by rw [Lib.byteCells_length,List.length_nil];omega) bI.size).mono ?_;rintro e w3 ⟨rfl,aU,cY⟩;have aJ:Lib.IsBuilder 198 5 we.heap.size we.heap.size (Lib.byteCells (zbL x k q)) w3:=by rw [←aI.out];exact .inr aU
       have cT:=bI.trans cY;clear aU aA;go_wp2
       go_roundw
       case rel=>exact ⟨q,(q:Int) - 1,rfl,by omega,by go_num,aJ,cT⟩
       case measure=>simp [intOf]
      ·have aY:0<x / Dec.T ^ (q+1):=by
        refine Nat.pos_of_ne_zero fun h=>aW.out ?_
        have h1:x / Dec.T ^ (k - 1)=x / Dec.T ^ (q+1) / Dec.T ^ (k - 1 - (q+1)):=by rw [Nat.div_div_eq_div_mul,←Nat.pow_add];congr 2;omega
        rw [h1,h];simp
       have hl:=Tryz.Builder_Len we.heap.size we.heap.size _ w1 aA;rw [Lib.byteCells_length] at hl;have dD:0<(zbL x k (q+1)).length:=by unfold zbL;rw [if_neg hq];exact Dec.dec_length_pos _
       have cI:(19:Int) - (sd.size:Int)=((19 - sd.size:Nat):Int):=by omega
       have aR:Calls Tryz.prog 181 #[.string { data:=#[48] },.int .i64 (19 - (sd.size:Int))] w1 fun e w'=>e = .returned (.string ⟨(Lib.repeatL [48] (19 - sd.size)).toArray⟩)∧Below w1.heap.size w1 w':=by
        rw [cI];have e1:(⟨#[48]⟩:ByteArray).size=1:=rfl;exact Tryz.strings_Repeat ⟨#[48]⟩ (19 - sd.size) w1 (by omega) (by rw [e1];omega)
       have aI:Hid (Lib.byteCells (zbL x k (q+1))++Lib.strCells ⟨(Lib.repeatL [48] (19 - sd.size)).toArray⟩++Lib.strCells sd=Lib.byteCells (zbL x k q)):=by
        have h1:=Dec.dec_chunk x q aY;have h2:sd.size=(Lib.decDigits cv).length:=by rw [←aQ.out];simp
        rw [←cO.out,←h2,←aQ.out] at h1;unfold Hid zbL;rw [if_neg hq,if_neg (by omega),h1,zgo,Lib.strCells_toArray,Lib.strCells_eq];simp [Lib.byteCells]
       have cZ:(⟨(Lib.repeatL [48] (19 - sd.size)).toArray⟩:ByteArray).size≤19:=by
        show (Lib.repeatL [48] (19 - sd.size)).length≤19
        rw [Lib.repeatL_length];simp
       generalize (⟨(Lib.repeatL [48] (19 - sd.size)).toArray⟩:ByteArray)=sr at aR aI cZ;generalize bH:zbL x k (q+1)=tx at hl dD aA aI cG;have HL:=Lib.hid hl;have bR:=Lib.hid aR;clear hl aR cI aY bH aT
       go_wp2_with fail
       refine HL.out.mono ?_;rintro e w2 ⟨rfl,bP⟩;subst bP
       go_wp2_with fail
       refine bR.out.mono ?_;rintro e w4 ⟨rfl,bE⟩;have aJ:=zdl aA bE;have bZ:Below we.heap.size we w4:=bI.trans (bE.mono bI.size);have dK:=cG.out
       go_wp2_with fail
       refine (zct we.heap.size we.heap.size _ sr w4 aJ (by rw [Lib.byteCells_length];omega) bZ.size).mono ?_;rintro e w5 ⟨rfl,aZ,dH⟩;have cM:=bZ.trans dH
       go_wp2_with fail
       refine (zct we.heap.size we.heap.size _ sd w5 (.inr aZ) (by rw [List.length_append,Lib.byteCells_length,Lib.strCells_length];omega) cM.size).mono ?_;rintro e w6 ⟨rfl,bB,cP⟩;have bU:Lib.IsBuilder 198 5 we.heap.size we.heap.size (Lib.byteCells (zbL x k q)) w6:=by rw [←aI.out];exact .inr bB
       have cR:=cM.trans cP;clear bB aZ aJ aA;go_wp2
       go_roundw
       case rel=>exact ⟨q,(q:Int) - 1,rfl,by omega,by go_num,bU,cR⟩
       case measure=>simp [intOf]
     ·have bT:j=0:=by omega
      subst bT;have bV:i = -1:=by omega
      subst bV;have bH:zbL x k 0=Lib.decDigits x:=by unfold zbL;rw [if_neg (by omega)];simp
      rw [bH] at aT;have hs:=Tryz.Builder_String_any we.heap.size we.heap.size (Lib.decDigits x) wb aT cC;have HS:=Lib.hid hs;clear hs bH hi hj0
      go_wp2_with fail
      refine HS.out.mono ?_;rintro e w9 ⟨rfl,dC⟩;go_wp2
      go_ret;exact ⟨rfl,aH.trans ((bD.trans dC).mono aH.size)⟩
   ·have hd:decide (x / Dec.T ^ k=0)=false:=by simpa using h0
    rw [hd] at hz;have bK:Calls Tryz.prog 177 #[.slice A2 m2 c2,.int .u64 10000000000000000000] we _:=za5 A2 m2 c2 (x / Dec.T ^ k) 10000000000000000000 we bJ (by omega) (by omega) (by omega);have bQ:x / Dec.T ^ k / 10000000000000000000=x / Dec.T ^ (k+1):=zpa x k;rw [bQ] at bK;have bS:x / Dec.T ^ (k+1)<x / Dec.T ^ k:=by rw [←bQ];exact Nat.div_lt_self (Nat.pos_of_ne_zero h0) (by omega)
    have bY:x / Dec.T ^ k % 10000000000000000000=(Dec.chunks x (k+1)).getD k 0:=by rw [Dec.chunks_get x (k+1) k (by omega)];rfl
    have dG:k+1≤2*n:=by
     rcases Nat.lt_or_ge k (2*n) with h | h
     ·omega
     ·exact absurd (zka bW.out h) h0
    have cJ:=Dec.chunks_succ x k;generalize aO:x / Dec.T ^ k % 10000000000000000000=cv at bK bY;have bM:Hid (Dec.chunks x (k+1)=Dec.chunks x k++[cv]):=by unfold Hid;rw [cJ,←aO];rfl
    have HL:Hid (0<k+1→x / Dec.T ^ (k+1 - 1)≠0):=by intro _;simpa using h0
    have cQ:=Lib.hid bK;have cU:=Lib.hid bS;have HG:=Lib.hid hG;clear hd h0 bK bQ bS bY cJ aO hG aF
    go_wp2_with fail
    refine hz.mono ?_;rintro e w1 ⟨rfl,rfl⟩;clear hz
    go_wp2_with fail
    refine cQ.out.mono ?_;rintro e w4 ⟨m4,c4,rfl,bL,bE⟩;have aE:=zhf aL bE;have bA:m4≤n:=by
     rw [←bL.nat.len];refine Nat.le_trans (zaa (Nat.div_le_self _ _)) ?_;have:=bW.out;exact digs_length_le this
    have aC:=aH.trans (bE.mono aH.size)
    go_wp2_with (at_builtin;refine wpList_append_own _ rfl _ _ 88 rfl w.heap.size 120 i0 (.int .u64 0) 1 8 Tryz.underlying88 cW cS dA dE rfl (by decide) _ _ _ rfl (aE.alloc _) ⟨w4.heap.size,0,none⟩ 1 1 [.int .u64 (cv:Int)] rfl rfl (cell_one_new _ _ _) ?c2 ?c3 ?c4 ?c5 ?_)
    case c2=>intro u hu;simp at hu;subst hu;rfl
    case c3=>unfold maxLen;omega
    case c4=>omega
    case c5=>have:=aC.size;simp;omega
    intro v' w5 aN aD _;have aX:Below w.heap.size w w5:=(aC.alloc aC.size _).grown aD (by have:=aC.size;simp;omega) (fun q hq=>(aE.lt q hq).1);have bF:NatS w5 w5.heap.size (some ⟨we.heap.size,0,none⟩) m4 c4 (x / Dec.T ^ (k+1)):=
     ((bL.alloc _).kept aD (fun e=>by have:=(aL.lt _ e).2;omega)).nat
    have aM:w5.ownsRow w.heap.size 120 1 v' (k+1) ((Dec.chunks x (k+1)).map u64v):=by
     rw [bM.out,List.map_append];exact aN
    obtain ⟨bN,aS,rfl⟩:∃ bN aS,v' = .slice bN (k+1) aS:=by
     rcases aM.2 with ⟨_,h0⟩ | ⟨g,bG,dJ,hv,_⟩
     ·exact absurd h0 (by omega)
     ·exact ⟨_,_,hv⟩
    clear aN aD aE aL bL
    go_wp2_with fail
    go_roundg (x / Dec.T ^ (k+1))
    case measure=>exact Nat.lt_of_lt_of_le cU.out HG.out
    case rel=>exact ⟨_,m4,c4,k+1,bN,aS,rfl,bF,rfl,aM,HL,Nat.le_refl _,bA,dG,aX⟩
def zbr (q:Q):List UInt8:=(if q.neg then 45 :: Lib.decDigits q.top else Lib.decDigits q.top)++(if q.bot=1 then [] else 47 :: Lib.decDigits q.bot)
def zao (q:Q):Int:=if q.bot=0 then 6 else if 600<(Lib.decDigits q.top).length∨600<(Lib.decDigits q.bot).length then 4 else 0
def zaI (q:Q):List UInt8:=if zao q=0 then zbr q else []
def zaR (w:World) (l:List UInt8) (x:Int) (e:Ending) (w':World):Prop:=∃ s:ByteArray,e = .returned (.tuple #[.string s,.int .i64 x])∧s.data.toList=l∧Below w.heap.size w w'
set_option maxHeartbeats 4000000 in
set_option maxRecDepth 100000 in
theorem ze1 (q:Q) (A1 A2:Option Addr) (n1 c1 n2 c2:Nat) (w:World) (hT:Tabs w) (h1:NatS w w.heap.size A1 n1 c1 q.top) (h2:NatS w w.heap.size A2 n2 c2 q.bot) (k1:n1≤268435456) (k2:n2≤268435456) :
  Calls Tryz.prog 66 #[.agg #[.bool q.neg,.slice A1 n1 c1,.slice A2 n2 c2]] w (zaR w (zaI q) (zao q)):=by
 obtain ⟨neg,top,bot⟩:=q
 dsimp only at h1 h2 ⊢
 have aD:Below w.heap.size w (w.alloc (.cells #[.bool neg,.slice A1 n1 c1,.slice A2 n2 c2] 91)):=(Below.refl _ _).alloc (Nat.le_refl _) _;have aS:zaf (w.alloc (.cells #[.bool neg,.slice A1 n1 c1,.slice A2 n2 c2] 91)) w.heap.size neg (.slice A1 n1 c1) (.slice A2 n2 c2):=zaf.new w _ _ _;have hz:=zaM A2 n2 c2 bot _ (h2.later aD)
 by_cases hb0:bot=0
 ·have hE:zao ⟨neg,top,bot⟩=6:=by unfold zao;rw [if_pos hb0]
  have hW:zaI ⟨neg,top,bot⟩=[]:=by unfold zaI;rw [hE];rfl
  have hd:decide (bot=0)=true:=by simpa using hb0
  rw [hE,hW];rw [hd] at hz;clear hE hW hb0 hd;go_enter Tryz.func66,Tryz.ntmps66
  go_wp2_with fail
  refine hz.mono ?_;rintro e w1 ⟨rfl,rfl⟩;go_wp2
  go_ret2
  exact ⟨⟨#[]⟩,rfl,rfl,aD⟩
 ·have hd:decide (bot=0)=false:=by simpa using hb0
  rw [hd] at hz;have aR:=hT.later aD;have aK:=fun (W:World) (hb:Below (w.alloc (.cells #[.bool neg,.slice A1 n1 c1,.slice A2 n2 c2] 91)).heap.size (w.alloc (.cells #[.bool neg,.slice A1 n1 c1,.slice A2 n2 c2] 91)) W)=>ziK A1 n1 c1 top W (aR.later hb) ((h1.later aD).later hb) (by omega)
  have aL:=fun (W:World) (hb:Below (w.alloc (.cells #[.bool neg,.slice A1 n1 c1,.slice A2 n2 c2] 91)).heap.size (w.alloc (.cells #[.bool neg,.slice A1 n1 c1,.slice A2 n2 c2] 91)) W)=>ziK A2 n2 c2 bot W (aR.later hb) ((h2.later aD).later hb) (by omega)
  have ho:=fun (W:World) (hb:Below (w.alloc (.cells #[.bool neg,.slice A1 n1 c1,.slice A2 n2 c2] 91)).heap.size (w.alloc (.cells #[.bool neg,.slice A1 n1 c1,.slice A2 n2 c2] 91)) W)=>zbu A2 n2 c2 bot W ((h2.later aD).later hb)
  obtain ⟨s1,aM⟩:∃ s1:ByteArray,s1=⟨(Lib.decDigits top).toArray⟩:=⟨_,rfl⟩;obtain ⟨s2,aO⟩:∃ s2:ByteArray,s2=⟨(Lib.decDigits bot).toArray⟩:=⟨_,rfl⟩;have e1:s1.data.toList=Lib.decDigits top:=by rw [aM]
  have e2:s2.data.toList=Lib.decDigits bot:=by rw [aO]
  simp only [←aM] at aK
  simp only [←aO] at aL
  have hE:Hid (zao ⟨neg,top,bot⟩=if 600<s1.size∨600<s2.size then 4 else 0):=by
   unfold Hid zao;rw [if_neg hb0,←e1,←e2];simp
  have hS:Hid (zbr ⟨neg,top,bot⟩=(if neg then 45 :: s1.data.toList else s1.data.toList)++(if bot=1 then [] else 47 :: s2.data.toList)):=by
   unfold Hid zbr;rw [←e1,←e2]
  have aF:s1.size<8589934592:=by
   have h0:s1.size=(Lib.decDigits top).length:=by rw [←e1];simp
   have h3:=Dec.dec_length_le (k:=20*n1+1) (r:=top) (by omega) (by
    have h4:=zac top;rw [h1.len] at h4;refine Nat.lt_of_lt_of_le h4 ?_;have h5:B≤10 ^ 20:=by rw [zdf];omega
    have h6:=Nat.pow_le_pow_left h5 n1;rw [←Nat.pow_mul] at h6;exact Nat.le_trans h6 (Nat.pow_le_pow_right (by omega) (by omega)))
   omega
  have aH:s2.size<8589934592:=by
   have h0:s2.size=(Lib.decDigits bot).length:=by rw [←e2];simp
   have h3:=Dec.dec_length_le (k:=20*n2+1) (r:=bot) (by omega) (by
    have h4:=zac bot;rw [h2.len] at h4;refine Nat.lt_of_lt_of_le h4 ?_;have h5:B≤10 ^ 20:=by rw [zdf];omega
    have h6:=Nat.pow_le_pow_left h5 n2;rw [←Nat.pow_mul] at h6;exact Nat.le_trans h6 (Nat.pow_le_pow_right (by omega) (by omega)))
   omega
  have aU:=Lib.hid aK;have aV:=Lib.hid aL;have HO:=Lib.hid ho;have aX:=Lib.hid aF;have aZ:=Lib.hid aH;have bB:=Lib.hid e1;clear aK aL ho aM aO e1 e2 hd hb0 aR aF aH;go_enter Tryz.func66,Tryz.ntmps66
  go_wp2_with fail
  refine hz.mono ?_;rintro e w1 ⟨rfl,rfl⟩;clear hz;generalize (w.alloc (.cells #[.bool neg,.slice A1 n1 c1,.slice A2 n2 c2] 91))=w3 at *;obtain ⟨a0,a1,a2,_,_,_,al⟩:=aS.cells
  go_wp2_with fail
  go_region_held3 (fun w'=>w'.cell? ⟨w.heap.size,0,none⟩=some (.bool neg)∧w'.cell? ⟨w.heap.size,1,none⟩=some (.slice A1 n1 c1)∧w'.cell? ⟨w.heap.size,2,none⟩=some (.slice A2 n2 c2))
   (first | exact ⟨a0,a1,a2⟩ | exact ⟨((aC.cell (p:=⟨w.heap.size,0,none⟩) al).trans a0),((aC.cell (p:=⟨w.heap.size,1,none⟩) al).trans a1),((aC.cell (p:=⟨w.heap.size,2,none⟩) al).trans a2)⟩ | exact ⟨((aG.cell (p:=⟨w.heap.size,0,none⟩) (aP)).trans ((aC.cell (p:=⟨w.heap.size,0,none⟩) al).trans a0)),((aG.cell (p:=⟨w.heap.size,1,none⟩) (aP)).trans ((aC.cell (p:=⟨w.heap.size,1,none⟩) al).trans a1)),((aG.cell (p:=⟨w.heap.size,2,none⟩) (aP)).trans ((aC.cell (p:=⟨w.heap.size,2,none⟩) al).trans a2))⟩)
   (first
    |(go_at_call_of 132 (Value.slice A1 n1 c1);refine (aU.out w3.drew (Below.drew (Below.refl _ _))).mono ?_;rintro e w4 ⟨rfl,aC⟩;have aP:=Nat.lt_of_lt_of_le al aC.size)
    |(go_at_call_of 132 (Value.slice A2 n2 c2);refine (aV.out w4 (Below.trans (Below.drew (Below.refl _ _)) aC)).mono ?_;rintro e w6 ⟨rfl,aG⟩))
  have aJ:Below w3.heap.size w3 w6:=(Below.trans (Below.drew (Below.refl _ _)) aC).trans (aG.mono (by have:=aC.size;exact this));have b0:=(aJ.cell (p:=⟨w.heap.size,0,none⟩) al).trans a0;have b2:=(aJ.cell (p:=⟨w.heap.size,2,none⟩) al).trans a2;have ho:=HO.out w6 aJ;have aE:=aD.trans (aJ.mono aD.size);clear a0 a1 a2 aC aG aS
  by_cases hl:600<s1.size∨600<s2.size
  ·have aW:decide ((600:Int)<max (s1.size:Int) (s2.size:Int))=true:=by simp only [decide_eq_true_eq];omega
   have aN:zao ⟨neg,top,bot⟩=4:=by rw [hE.out,if_pos hl]
   have hW:zaI ⟨neg,top,bot⟩=[]:=by unfold zaI;rw [aN];rfl
   have aT:=Lib.hid aN;have HW:=Lib.hid hW;clear aN hW hl ho;go_wp2
   go_ret2
   exact ⟨⟨#[]⟩,by rw [aT.out];rfl,by rw [HW.out],aE⟩
  ·have aW:decide ((600:Int)<max (s1.size:Int) (s2.size:Int))=false:=by simp only [decide_eq_false_iff_not];omega
   have aQ:zao ⟨neg,top,bot⟩=0:=by rw [hE.out,if_neg hl]
   have aA:zaI ⟨neg,top,bot⟩=(if neg then 45 :: s1.data.toList else s1.data.toList)++(if bot=1 then [] else 47 :: s2.data.toList):=by
    unfold zaI;rw [if_pos aQ];exact hS.out
   have aI:=Lib.hid aQ;have bA:s1.size≤600:=by omega
   have aY:s2.size≤600:=by omega
   clear aQ hl
   by_cases h1:bot=1<;>cases neg
   ·rw [show decide (bot=1)=true from by simpa using h1] at ho
    rw [if_neg (by simp),if_pos h1] at aA;have HW:=Lib.hid aA;clear h1 aA
    go_wp2_with fail
    refine ho.mono ?_;rintro e w7 ⟨rfl,rfl⟩;go_wp2
    go_ret2
    refine ⟨_,by rw [aI.out];rfl,?_,aE⟩;rw [HW.out];simp
   ·rw [show decide (bot=1)=true from by simpa using h1] at ho
    rw [if_pos rfl,if_pos h1] at aA;have HW:=Lib.hid aA;clear h1 aA
    go_wp2_with fail
    refine ho.mono ?_;rintro e w7 ⟨rfl,rfl⟩;go_wp2
    go_ret2
    refine ⟨_,by rw [aI.out];rfl,?_,aE⟩;rw [HW.out];simp
   ·rw [show decide (bot=1)=false from by simpa using h1] at ho
    rw [if_neg (by simp),if_neg h1] at aA;have HW:=Lib.hid aA;clear h1 aA
    go_wp2_with fail
    refine ho.mono ?_;rintro e w7 ⟨rfl,rfl⟩;go_wp2
    go_ret2
    refine ⟨_,by rw [aI.out];rfl,?_,aE⟩;rw [HW.out];simp
   ·rw [show decide (bot=1)=false from by simpa using h1] at ho
    rw [if_pos rfl,if_neg h1] at aA;have HW:=Lib.hid aA;clear h1 aA
    go_wp2_with fail
    refine ho.mono ?_;rintro e w7 ⟨rfl,rfl⟩;go_wp2
    go_ret2
    refine ⟨_,by rw [aI.out];rfl,?_,aE⟩;rw [HW.out];simp
theorem zen {n:Nat} (h:n<10):(UInt8.ofNat (48+n)).toNat=48+n:=by
 rw [UInt8.toNat_ofNat'];omega
theorem zhn {n:Nat} (h:n<10):digB ((UInt8.ofNat (48+n)).toNat:Int)=true:=by
 rw [zen h];unfold digB;simp
 omega
theorem zl4 {c:UInt8} (h:digB (c.toNat:Int)=true):48≤c.toNat∧c.toNat≤57∧c=UInt8.ofNat (48+(c.toNat - 48)):=by
 unfold digB at h;simp at h
 have h1:48≤c.toNat:=by omega
 have h2:c.toNat≤57:=by omega
 refine ⟨h1,h2,?_⟩
 apply UInt8.toNat_inj.1
 rw [UInt8.toNat_ofNat'];omega
theorem zaX (n:Nat):zar (Lib.decDigits n)=true:=by
 induction n using Nat.strongRecOn with
 | ind n ih=>
  rw [Lib.decDigits]
  split
  ·rename_i h
   unfold zar;simp only [List.all_cons,List.all_nil,Bool.and_true]
   exact zhn h
  ·rename_i h
   rw [zbw,ih _ (by omega),Bool.true_and];unfold zar;simp only [List.all_cons,List.all_nil,Bool.and_true]
   exact zhn (by omega)
theorem zbU (n:Nat):zaj (Lib.decDigits n)=n:=by
 induction n using Nat.strongRecOn with
 | ind n ih=>
  rw [Lib.decDigits]
  split
  ·rename_i h
   show 0*10+((UInt8.ofNat (48+n)).toNat - 48)=n
   rw [zen h];omega
  ·rename_i h
   rw [zcZ,ih _ (by omega),zen (by omega)];omega
theorem zbq:∀ (l:List UInt8),zaA l=true→Lib.decDigits (zaj l)=l:=by
 intro l
 induction hn:l.length using Nat.strongRecOn generalizing l with
 | ind n ih=>
  intro h;subst hn
  by_cases h48:l=[48]
  ·subst h48
   decide +kernel
  ·have hd:zar l=true:=zaz h
   have aE:l≠[]:=by
    intro e;subst e;simp [zaA] at h
   have hh:l.head? ≠ some 48:=by
    unfold zaA at h;rw [hd] at h;simp [h48] at h
    exact h.2
   obtain ⟨a,c,rfl⟩:∃ a c,l=a++[c]:=⟨l.dropLast,l.getLast aE,(List.dropLast_concat_getLast aE).symm⟩;rw [zbw] at hd;have aD:zar a=true:=by
    cases hq:zar a
    ·rw [hq] at hd;simp at hd
    ·rfl
   have aF:digB (c.toNat:Int)=true:=by
    rw [aD,Bool.true_and] at hd;unfold zar at hd
    simpa using hd
   obtain ⟨h1,h2,h3⟩:=zl4 aF;rw [zcZ]
   cases a with
   | nil=>
    have e0:zaj []=0:=rfl;rw [e0,Nat.zero_mul,Nat.zero_add,Lib.decDigits,dif_pos (by omega),List.nil_append];rw [←h3]
   | cons x t=>
    have hx:(x :: t).head? ≠ some 48:=by simpa using hh
    have aA:zaA (x :: t)=true:=by
     unfold zaA;rw [aD,Bool.true_and];simp only [Bool.or_eq_true,Bool.and_eq_true,decide_eq_true_eq]
     exact .inr ⟨by simp,hx⟩
    have hp:0<zaj (x :: t):=zcQ aA (by intro e;rw [e] at hx;simp at hx);have aC:=ih (x :: t).length (by simp) (x :: t) rfl aA;rw [Lib.decDigits,dif_neg (by omega),show (zaj (x :: t)*10+(c.toNat - 48)) / 10=zaj (x :: t) by omega,show (zaj (x :: t)*10+(c.toNat - 48)) % 10=c.toNat - 48 by omega,aC,←h3]
theorem zdJ:∀ (l:List UInt8),(∀ c ∈ l,c≠47)→Lib.indexByte l 47 = -1
 | [],_=>rfl
 | b :: l,h=>by
  have h1:(b==47)=false:=beq_eq_false_iff_ne.2 (h b (List.mem_cons_self ..));have h2:=zdJ l (fun c hc=>h c (List.mem_cons_of_mem _ hc));unfold Lib.indexByte;rw [h1,h2];rfl
theorem zdm:∀ (l r:List UInt8),(∀ c ∈ l,c≠47)→Lib.indexByte (l++47 :: r) 47=l.length
 | [],_,_=>rfl
 | b :: l,r,h=>by
  have h1:(b==47)=false:=beq_eq_false_iff_ne.2 (h b (List.mem_cons_self ..));have h2:=zdm l r (fun c hc=>h c (List.mem_cons_of_mem _ hc));show (if b==47 then (0:Int) else if Lib.indexByte (l++47 :: r) 47 == -1 then -1 else Lib.indexByte (l++47 :: r) 47+1)=_
  rw [h1,h2];have h3:((l.length:Int) == -1)=false:=by rw [beq_eq_false_iff_ne];omega
  simp [h3]
theorem zkG {l:List UInt8} (h:∀ c ∈ l,c≠47):cutL l=(l,[],false):=by
 unfold cutL;rw [zdJ l h];rfl
theorem zjW {l r:List UInt8} (h:∀ c ∈ l,c≠47):cutL (l++47 :: r)=(l,r,true):=by
 unfold cutL;rw [zdm l r h,if_pos (by omega),Int.toNat_natCast];simp
theorem zef {l:List UInt8} (h:zar l=true) {c:UInt8} (hc:c ∈ l):48≤c.toNat∧c.toNat≤57:=by
 unfold zar at h;have:=zl4 (List.all_eq_true.1 h c hc);exact ⟨this.1,this.2.1⟩
def sgnT (neg:Bool) (t:List UInt8):List UInt8:=if neg then 45 :: t else t
theorem zdG {neg:Bool} {t:List UInt8} (h:zar t=true):∀ c ∈ sgnT neg t,c≠47:=by
 have h1:∀ c ∈ t,c≠47:=fun c hc e=>by
  have:=(zef h hc).1;rw [e] at this;exact absurd this (by decide)
 unfold sgnT
 cases neg
 ·exact h1
 ·intro c hc
  rcases List.mem_cons.1 hc with rfl | hc
  ·decide
  ·exact h1 c hc
def LowQ (p:Q):Prop:=0<p.bot∧Nat.gcd p.top p.bot=1∧(p.neg=true→0<p.top)
theorem za1 (p:Q):zbr p=sgnT p.neg (Lib.decDigits p.top)++(if p.bot=1 then [] else 47 :: Lib.decDigits p.bot):=rfl
theorem zm4 {n:Nat} (h:0<n):Lib.decDigits n≠[48]:=fun e=>by
 have:=zbU n;rw [e] at this;have h48:zaj [48]=0:=by decide
 omega
theorem zkS (l:List UInt8):l=(cutL l).1++(if (cutL l).2.2=true then 47 :: (cutL l).2.1 else []):=by
 unfold cutL
 split
 ·rename_i h
  obtain ⟨o,ho⟩:=Int.eq_ofNat_of_zero_le h;obtain ⟨h1,_⟩:=Lib.indexByte_some ho;rw [ho];simp only [Int.toNat_natCast,if_true]
  have aA:o<l.length:=by
   rcases Nat.lt_or_ge o l.length with h3 | h3
   ·exact h3
   ·rw [List.getElem?_eq_none h3] at h1;cases h1
  rw [List.getElem?_eq_getElem aA] at h1;injection h1 with h1
  conv=>lhs;rw [←List.take_append_drop o l,List.drop_eq_getElem_cons aA,h1]
 ·simp
theorem zni (t:List UInt8):t=sgnT (Lib.hasPrefix t [45]) (Lib.trimPrefix t [45]):=by
 unfold sgnT Lib.trimPrefix
 cases h:Lib.hasPrefix t [45]
 ·rfl
 ·cases t with
  | nil=>cases h
  | cons x r=>
   unfold Lib.hasPrefix at h;simp [List.isPrefixOf] at h
   subst h;rfl
theorem ziu (l:List UInt8) (h:zae l=0):zbr (zab l)=l:=by
 obtain ⟨h1,_,_,h4⟩:=zcW h;have e0:zab l=⟨negL l,zaj (topL l),if zex l then zaj (botL l) else 1⟩:=by unfold zab;rw [if_pos h]
 have ej:=zkS l;have es:=zni (cutL l).1;rw [za1,e0]
 dsimp only
 rw [zbq _ h1];have e1:sgnT (negL l) (topL l)=(cutL l).1:=es.symm;rw [e1]
 cases hf:zex l
 ·have aA:(cutL l).2.2=false:=hf
  rw [aA] at ej
  simpa using ej.symm
 ·have aA:(cutL l).2.2=true:=hf
  obtain ⟨h5,h6,h7,_⟩:=h4 hf;have aC:zaj (botL l)≠1:=fun e=>by
   have:=zbq _ h5;rw [e] at this;exact h7 (this.symm.trans (by decide +kernel))
  rw [aA] at ej;simp only [if_true] at ej
  rw [if_pos rfl,if_neg aC,zbq _ h5];exact ej.symm
end Go.Proofs.YteajibbphcfmeaaGreatDoor
