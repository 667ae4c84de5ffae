/- Contract of text: the decimal digits of a natural number. -/
import Derived.Test.YteajibbphcfmeaaGreatDoorTGcd1
import Derived.Test.YteajibbphcfmeaaGreatDoorTLdx2
import Derived.Test.YteajibbphcfmeaaGreatDoorTRat2
import Derived.Deep.RegionHeld3
namespace Go.Proofs.YteajibbphcfmeaaGreatDoor
open Go.RowKit Bn
theorem T_pow_zero {x n k:Nat} (hx:x<B ^ n) (hk:2*n≤k):x / Dec.T ^ k=0:=by
 refine Nat.div_eq_of_lt (Nat.lt_of_lt_of_le hx ?_)
 have h1:B≤Dec.T ^ 2:=by rw [B_def,Dec.T_def];omega
 have h2:B ^ n≤(Dec.T ^ 2) ^ n:=Nat.pow_le_pow_left h1 n
 rw [←Nat.pow_mul] at h2
 exact Nat.le_trans h2 (Nat.pow_le_pow_right Dec.T_pos hk)
theorem own_below {w w':World} {base:Nat} {e:TypeId} {size n:Nat} {v:Value} {xs:List Value} (h:w.ownsRow base e size v n xs) (hb:Below w.heap.size w w'):w'.ownsRow base e size v n xs:=
 World.ownsRow.kept h (only_of_below hb none) (Classical.em _)
theorem isBuilder_below {T e:TypeId} {B b:Nat} {bs:List Value} {w w':World} (h:Lib.IsBuilder T e B b bs w) (hb:Below w.heap.size w w'):Lib.IsBuilder T e B b bs w':=by
 have key:∀ p,Lib.BuilderAt T e B b p bs w→Lib.BuilderAt T e B b p bs w':=by
  rintro p ⟨hB,v,hbk,hown,hne⟩
  refine ⟨hB,v,?_,own_below hown hb,hne⟩
  rw [hb.block b ?_]
  ·exact hbk
  ·rcases Nat.lt_or_ge b w.heap.size with h | h
   ·exact h
   ·rw [Array.getElem?_eq_none h] at hbk;cases hbk
 rcases h with h | h
 ·exact .inl (key _ h)
 ·exact .inr (key _ h)
theorem isBuilder_new (w:World) (T e:TypeId):Lib.IsBuilder T e w.heap.size w.heap.size [] (w.alloc (.cells #[.pointer none,.slice none 0 0] T)):=
 .inl ⟨Nat.le_refl _,.slice none 0 0,heap_alloc_new w _,World.ownsRow_nil _ _ _ _,by simp [Value.ownBlock]⟩
theorem repeatL_zeros (k:Nat):Lib.repeatL [48] k=List.replicate k 48:=by
 induction k with
 | zero=>rfl
 | succ k ih=>rw [Lib.repeatL,ih,List.replicate_succ];rfl
def textAt (x k j:Nat):List UInt8:=if j=k then [] else Lib.decDigits (x / Dec.T ^ j)
theorem textAt_len {x k:Nat} (j:Nat) (hk:0<k) (h:x / Dec.T ^ k=0):(textAt x k j).length≤19*k:=by
 unfold textAt
 split
 ·simp
 ·refine Dec.dec_length_le (by omega) (Nat.lt_of_le_of_lt (Nat.div_le_self _ _) ?_)
  have h1:x<Dec.T ^ k:=by
   rcases Nat.lt_or_ge x (Dec.T ^ k) with h2 | h2
   ·exact h2
   ·have:=Nat.div_pos h2 (Nat.pow_pos Dec.T_pos);omega
  rwa [Dec.T_pow,←Nat.pow_mul] at h1
theorem T_div (x k:Nat):x / Dec.T ^ k / Dec.T=x / Dec.T ^ (k+1):=by rw [Nat.pow_succ,Nat.div_div_eq_div_mul]
set_option maxHeartbeats 4000000 in
set_option maxRecDepth 100000 in
theorem text_any (A:Option Addr) (n c x:Nat) (w:World) (hT:Tabs w) (ha:NatS w w.heap.size A n c x) (hn:n≤1073741824) :
  Calls Tryz.prog 132 #[.slice A n c] w fun e w'=>e = .returned (.string ⟨(Lib.decDigits x).toArray⟩)∧Below w.heap.size w w':=by
 obtain ⟨i0,hi0,hz0,hz1,hz2⟩:=info_parts info_u64
 by_cases hx:x=0
 ·subst hx
  have hz:=isZero_val A n c 0 w ha
  have hd:Hid ((⟨(Lib.decDigits 0).toArray⟩:ByteArray)=⟨#[48]⟩):=by unfold Hid;rw [Dec.dec_lt (by omega)];rfl
  go_enter Tryz.func132,Tryz.ntmps132
  go_wp2_with fail
  refine hz.mono ?_
  rintro e w1 ⟨rfl,rfl⟩
  go_wp2
  go_ret
  exact ⟨by rw [hd.out];rfl,Below.refl _ _⟩
 ·have hz:=isZero_val A n c x w ha
  have hd:decide (x=0)=false:=by simpa using hx
  rw [hd] at hz
  have hxB:x<B ^ n:=by have:=lt_of_digs_length x;rw [ha.len] at this;exact this
  have HXB:=Lib.hid hxB
  have HX:=Lib.hid hx
  clear hd hxB hx
  go_enter Tryz.func132,Tryz.ntmps132
  go_wp2_with fail
  refine hz.mono ?_
  rintro e w1 ⟨rfl,rfl⟩
  go_wp2_with fail
  clear hz
  go_loopg [0,3] x (fun G sa sc we=>∃ A2 m2 c2 k ao cap,sa = .slice A2 m2 c2∧NatS we we.heap.size A2 m2 c2 (x / Dec.T ^ k)∧sc = .slice ao k cap∧we.ownsRow w.heap.size 120 1 (.slice ao k cap) k ((Dec.chunks x k).map u64v)∧Hid (0<k→x / Dec.T ^ (k - 1)≠0)∧x / Dec.T ^ k≤G∧m2≤n∧k≤2*n∧Below w.heap.size w we)
  case atStart=>exact ⟨A,n,c,0,none,0,rfl,by simpa using ha,rfl,World.ownsRow_nil _ _ _ _,fun h=>absurd h (by omega),by simp,Nat.le_refl _,Nat.zero_le _,Below.refl _ _⟩
  case round=>
   clear ha
   obtain ⟨A2,m2,c2,k,ao,cap,rfl,hn2,rfl,hown,hlast,hG,hm2,hk,hbel⟩:=hrel
   obtain ⟨we,rfl⟩:∃ we:World,we=wr:=⟨_,rfl⟩
   have hz:=isZero_val A2 m2 c2 (x / Dec.T ^ k) we hn2
   by_cases h0:x / Dec.T ^ k=0
   ·have hd:decide (x / Dec.T ^ k=0)=true:=by simpa using h0
    rw [hd] at hz
    have H0:=Lib.hid h0
    have HN2:=Lib.hid hn2
    clear hd h0 hG hn2
    go_wp2_with fail
    refine hz.mono ?_
    rintro e w1 ⟨rfl,rfl⟩
    clear hz
    have hk0:0<k:=by
     rcases Nat.eq_zero_or_pos k with h | h
     ·subst h;exact absurd (by simpa using H0.out) HX.out
     ·exact h
    have hrd:WordsAt we we.heap.size ao k (Dec.chunks x k):=Reads.of_own hown
    have hb0:Below we.heap.size we (we.alloc (.cells #[.pointer none,.slice none 0 0] 198)):=(Below.refl _ _).alloc (Nat.le_refl _) _
    have hlastx:=hlast.out hk0
    have HLAST:=Lib.hid hlastx
    have hbn:=isBuilder_new we 198 5
    clear hlastx hlast
    go_wp2_with fail
    go_loopw [6] (fun si wb=>∃ (j:Nat) (i:Int),i=(j:Int) - 1∧j≤k∧si = .int .i64 i∧Lib.IsBuilder 198 5 we.heap.size we.heap.size (Lib.byteCells (textAt x k j)) wb∧Below we.heap.size we wb) (fun si _=>(intOf si+1).toNat)
    case atStart=>exact ⟨k,(k:Int) - 1,rfl,Nat.le_refl _,by first | rfl | simp,by unfold textAt;rw [if_pos rfl];exact hbn,hb0⟩
    case round=>
     clear hbn hb0
     obtain ⟨j,i,hi,hj,rfl,hbl,hbb⟩:=hrel
     obtain ⟨wb,rfl⟩:∃ wb:World,wb=wr:=⟨_,rfl⟩
     have hsz:=hbb.size
     have hlt:we.heap.size<wb.heap.size:=by
      have h9:∃ p,Lib.BuilderAt 198 5 we.heap.size we.heap.size p (Lib.byteCells (textAt x k j)) wb:=by
       rcases hbl with h | h
       ·exact ⟨_,h⟩
       ·exact ⟨_,h⟩
      obtain ⟨p,_,v,hbk,_⟩:=h9
      rcases Nat.lt_or_ge we.heap.size wb.heap.size with h | h
      ·exact h
      ·rw [Array.getElem?_eq_none h] at hbk;cases hbk
     by_cases hj0:0<j
     ·obtain ⟨q,rfl⟩:∃ q,j=q+1:=⟨j - 1,by omega⟩
      have hi2:i=(q:Int):=by omega
      subst hi2
      obtain ⟨ad,rfl,_,hcell⟩:=WordsAt.word (w:=wb) (B:=we.heap.size) (A:=ao) (n:=k) (l:=Dec.chunks x k) (Reads.below hrd hbb) (k:=q) (by omega)
      have hcv:=Dec.chunks_get x k q (by omega)
      have hcvT:(Dec.chunks x k).getD q 0<Dec.T:=by rw [hcv];exact Nat.mod_lt _ Dec.T_pos
      generalize (Dec.chunks x k).getD q 0=cv at hcell hcv hcvT
      have hcvB:cv<18446744073709551616:=by rw [Dec.T_def] at hcvT;omega
      have hf:=formatUint_any cv hcvB wb ((hT.later hbel).later hbb)
      have hdl:(Lib.decDigits cv).length≤19:=Dec.dec_length_le (by omega) (by rw [←Dec.T_pow];exact hcvT)
      obtain ⟨sd,hsd⟩:∃ sd:ByteArray,sd=⟨(Lib.decDigits cv).toArray⟩:=⟨_,rfl⟩
      have hsdl:sd.data.toList=Lib.decDigits cv:=by rw [hsd]
      have hsds:sd.size≤19:=by
       have:sd.data.toList.length=sd.size:=by simp
       rw [hsdl] at this;omega
      rw [←hsd] at hf
      have htl:=textAt_len (q+1) hk0 H0.out
      have HTL:=Lib.hid htl
      have HF:=Lib.hid hf
      have HCV:=Lib.hid hcv
      have HSDL:=Lib.hid hsdl
      clear hf hcv hcvT hcvB hdl hsd hsdl hj0 hi htl
      go_wp2_with fail
      refine HF.out.mono ?_
      rintro e w1 ⟨rfl,hb1⟩
      have hbl1:=isBuilder_below hbl hb1
      have hB1:Below we.heap.size we w1:=hbb.trans (hb1.mono hsz)
      by_cases hq:q+1=k
      ·have ht0:textAt x k (q+1)=[]:=by unfold textAt;rw [if_pos hq]
       rw [ht0] at hbl1
       have hl:=Tryz.Builder_Len we.heap.size we.heap.size _ w1 hbl1
       have hl0:(Lib.byteCells []).length=0:=rfl
       have hfin:Hid (Lib.byteCells []++Lib.strCells sd=Lib.byteCells (textAt x k q)):=by
        have h1:x / Dec.T ^ q<Dec.T:=by
         have h2:=H0.out
         rw [←hq,←T_div] at h2
         exact (Nat.div_eq_zero_iff_lt Dec.T_pos).1 h2
        have h3:cv=x / Dec.T ^ q:=by rw [HCV.out,Nat.mod_eq_of_lt h1]
        unfold Hid textAt
        rw [if_neg (by omega),←h3,←HSDL.out]
        rfl
       rw [hl0] at hl
       have HL:=Lib.hid hl
       clear hl hl0 ht0 hbl
       go_wp2_with fail
       refine HL.out.mono ?_
       rintro e w2 ⟨rfl,hw2⟩
       subst hw2
       go_wp2_with fail
       refine (writeString_any we.heap.size we.heap.size _ sd _ hbl1 (by rw [Lib.byteCells_length,List.length_nil];omega) hB1.size).mono ?_
       rintro e w3 ⟨rfl,hbl3,hb3⟩
       have hbl4:Lib.IsBuilder 198 5 we.heap.size we.heap.size (Lib.byteCells (textAt x k q)) w3:=by rw [←hfin.out];exact .inr hbl3
       have hB3:=hB1.trans hb3
       clear hbl3 hbl1
       go_wp2
       go_roundw
       case rel=>exact ⟨q,(q:Int) - 1,rfl,by omega,by go_num,hbl4,hB3⟩
       case measure=>simp [intOf]
      ·have hpos:0<x / Dec.T ^ (q+1):=by
        refine Nat.pos_of_ne_zero fun h=>HLAST.out ?_
        have h1:x / Dec.T ^ (k - 1)=x / Dec.T ^ (q+1) / Dec.T ^ (k - 1 - (q+1)):=by rw [Nat.div_div_eq_div_mul,←Nat.pow_add];congr 2;omega
        rw [h1,h];simp
       have hl:=Tryz.Builder_Len we.heap.size we.heap.size _ w1 hbl1
       rw [Lib.byteCells_length] at hl
       have hlp:0<(textAt x k (q+1)).length:=by unfold textAt;rw [if_neg hq];exact Dec.dec_length_pos _
       have e19:(19:Int) - (sd.size:Int)=((19 - sd.size:Nat):Int):=by omega
       have hrep:Calls Tryz.prog 181 #[.string { data:=#[48] },.int .i64 (19 - (sd.size:Int))] w1 fun e w'=>e = .returned (.string ⟨(Lib.repeatL [48] (19 - sd.size)).toArray⟩)∧Below w1.heap.size w1 w':=by
        rw [e19]
        have e1:(⟨#[48]⟩:ByteArray).size=1:=rfl
        exact Tryz.strings_Repeat ⟨#[48]⟩ (19 - sd.size) w1 (by omega) (by rw [e1];omega)
       have hfin:Hid (Lib.byteCells (textAt x k (q+1))++Lib.strCells ⟨(Lib.repeatL [48] (19 - sd.size)).toArray⟩++Lib.strCells sd=Lib.byteCells (textAt x k q)):=by
        have h1:=Dec.dec_chunk x q hpos
        have h2:sd.size=(Lib.decDigits cv).length:=by rw [←HSDL.out];simp
        rw [←HCV.out,←h2,←HSDL.out] at h1
        unfold Hid textAt
        rw [if_neg hq,if_neg (by omega),h1,repeatL_zeros,Lib.strCells_toArray,Lib.strCells_eq]
        simp [Lib.byteCells]
       have hrl:(⟨(Lib.repeatL [48] (19 - sd.size)).toArray⟩:ByteArray).size≤19:=by
        show (Lib.repeatL [48] (19 - sd.size)).length≤19
        rw [Lib.repeatL_length];simp
       generalize (⟨(Lib.repeatL [48] (19 - sd.size)).toArray⟩:ByteArray)=sr at hrep hfin hrl
       generalize htx:textAt x k (q+1)=tx at hl hlp hbl1 hfin HTL
       have HL:=Lib.hid hl
       have HREP:=Lib.hid hrep
       clear hl hrep e19 hpos htx hbl
       go_wp2_with fail
       refine HL.out.mono ?_
       rintro e w2 ⟨rfl,hw2⟩
       subst hw2
       go_wp2_with fail
       refine HREP.out.mono ?_
       rintro e w4 ⟨rfl,hb4⟩
       have hbl4:=isBuilder_below hbl1 hb4
       have hB4:Below we.heap.size we w4:=hB1.trans (hb4.mono hB1.size)
       have htn:=HTL.out
       go_wp2_with fail
       refine (writeString_any we.heap.size we.heap.size _ sr w4 hbl4 (by rw [Lib.byteCells_length];omega) hB4.size).mono ?_
       rintro e w5 ⟨rfl,hbl5,hb5⟩
       have hB5:=hB4.trans hb5
       go_wp2_with fail
       refine (writeString_any we.heap.size we.heap.size _ sd w5 (.inr hbl5) (by rw [List.length_append,Lib.byteCells_length,Lib.strCells_length];omega) hB5.size).mono ?_
       rintro e w6 ⟨rfl,hbl6,hb6⟩
       have hbl7:Lib.IsBuilder 198 5 we.heap.size we.heap.size (Lib.byteCells (textAt x k q)) w6:=by rw [←hfin.out];exact .inr hbl6
       have hB6:=hB5.trans hb6
       clear hbl6 hbl5 hbl4 hbl1
       go_wp2
       go_roundw
       case rel=>exact ⟨q,(q:Int) - 1,rfl,by omega,by go_num,hbl7,hB6⟩
       case measure=>simp [intOf]
     ·have hj00:j=0:=by omega
      subst hj00
      have hi2:i = -1:=by omega
      subst hi2
      have htx:textAt x k 0=Lib.decDigits x:=by unfold textAt;rw [if_neg (by omega)];simp
      rw [htx] at hbl
      have hs:=Tryz.Builder_String_any we.heap.size we.heap.size (Lib.decDigits x) wb hbl hsz
      have HS:=Lib.hid hs
      clear hs htx hi hj0
      go_wp2_with fail
      refine HS.out.mono ?_
      rintro e w9 ⟨rfl,hb9⟩
      go_wp2
      go_ret
      exact ⟨rfl,hbel.trans ((hbb.trans hb9).mono hbel.size)⟩
   ·have hd:decide (x / Dec.T ^ k=0)=false:=by simpa using h0
    rw [hd] at hz
    have how:Calls Tryz.prog 177 #[.slice A2 m2 c2,.int .u64 10000000000000000000] we _:=overWord_any A2 m2 c2 (x / Dec.T ^ k) 10000000000000000000 we hn2 (by omega) (by omega) (by omega)
    have hT2:x / Dec.T ^ k / 10000000000000000000=x / Dec.T ^ (k+1):=T_div x k
    rw [hT2] at how
    have hlt:x / Dec.T ^ (k+1)<x / Dec.T ^ k:=by rw [←hT2];exact Nat.div_lt_self (Nat.pos_of_ne_zero h0) (by omega)
    have hch:x / Dec.T ^ k % 10000000000000000000=(Dec.chunks x (k+1)).getD k 0:=by rw [Dec.chunks_get x (k+1) k (by omega)];rfl
    have hk1:k+1≤2*n:=by
     rcases Nat.lt_or_ge k (2*n) with h | h
     ·omega
     ·exact absurd (T_pow_zero HXB.out h) h0
    have hcs:=Dec.chunks_succ x k
    generalize hcv:x / Dec.T ^ k % 10000000000000000000=cv at how hch
    have hcs2:Hid (Dec.chunks x (k+1)=Dec.chunks x k++[cv]):=by unfold Hid;rw [hcs,←hcv];rfl
    have HL:Hid (0<k+1→x / Dec.T ^ (k+1 - 1)≠0):=by intro _;simpa using h0
    have HOW:=Lib.hid how
    have HLT:=Lib.hid hlt
    have HG:=Lib.hid hG
    clear hd h0 how hT2 hlt hch hcs hcv hG hlast
    go_wp2_with fail
    refine hz.mono ?_
    rintro e w1 ⟨rfl,rfl⟩
    clear hz
    go_wp2_with fail
    refine HOW.out.mono ?_
    rintro e w4 ⟨m4,c4,rfl,hr4,hb4⟩
    have hown4:=own_below hown hb4
    have hlen4:m4≤n:=by
     rw [←hr4.nat.len]
     refine Nat.le_trans (digs_length_mono (Nat.div_le_self _ _)) ?_
     have:=HXB.out
     exact digs_length_le this
    have hbel4:=hbel.trans (hb4.mono hbel.size)
    go_wp2_with (at_builtin;refine wpList_append_own _ rfl _ _ 88 rfl w.heap.size 120 i0 (.int .u64 0) 1 8 Tryz.underlying88 hi0 hz0 hz1 hz2 rfl (by decide) _ _ _ rfl (hown4.alloc _) ⟨w4.heap.size,0,none⟩ 1 1 [.int .u64 (cv:Int)] rfl rfl (cell_one_new _ _ _) ?c2 ?c3 ?c4 ?c5 ?_)
    case c2=>intro u hu;simp at hu;subst hu;rfl
    case c3=>unfold maxLen;omega
    case c4=>omega
    case c5=>have:=hbel4.size;simp;omega
    intro v' w5 hown' hgrow _
    have hbel5:Below w.heap.size w w5:=(hbel4.alloc hbel4.size _).grown hgrow (by have:=hbel4.size;simp;omega) (fun q hq=>(hown4.lt q hq).1)
    have hnat5:NatS w5 w5.heap.size (some ⟨we.heap.size,0,none⟩) m4 c4 (x / Dec.T ^ (k+1)):=
     ((hr4.alloc _).kept hgrow (fun e=>by have:=(hown.lt _ e).2;omega)).nat
    have hown5:w5.ownsRow w.heap.size 120 1 v' (k+1) ((Dec.chunks x (k+1)).map u64v):=by
     rw [hcs2.out,List.map_append];exact hown'
    obtain ⟨ao5,cap5,rfl⟩:∃ ao5 cap5,v' = .slice ao5 (k+1) cap5:=by
     rcases hown5.2 with ⟨_,h0⟩ | ⟨g,cap,cur,hv,_⟩
     ·exact absurd h0 (by omega)
     ·exact ⟨_,_,hv⟩
    clear hown' hgrow hown4 hown hr4
    go_wp2_with fail
    go_roundg (x / Dec.T ^ (k+1))
    case measure=>exact Nat.lt_of_lt_of_le HLT.out HG.out
    case rel=>exact ⟨_,m4,c4,k+1,ao5,cap5,rfl,hnat5,rfl,hown5,HL,Nat.le_refl _,hlen4,hk1,hbel5⟩
def writeS (q:Q):List UInt8:=(if q.neg then 45 :: Lib.decDigits q.top else Lib.decDigits q.top)++(if q.bot=1 then [] else 47 :: Lib.decDigits q.bot)
def writeE (q:Q):Int:=if q.bot=0 then 6 else if 600<(Lib.decDigits q.top).length∨600<(Lib.decDigits q.bot).length then 4 else 0
def writeT (q:Q):List UInt8:=if writeE q=0 then writeS q else []
def RetText (w:World) (l:List UInt8) (x:Int) (e:Ending) (w':World):Prop:=∃ s:ByteArray,e = .returned (.tuple #[.string s,.int .i64 x])∧s.data.toList=l∧Below w.heap.size w w'
set_option maxHeartbeats 4000000 in
set_option maxRecDepth 100000 in
theorem write_any (q:Q) (A1 A2:Option Addr) (n1 c1 n2 c2:Nat) (w:World) (hT:Tabs w) (h1:NatS w w.heap.size A1 n1 c1 q.top) (h2:NatS w w.heap.size A2 n2 c2 q.bot) (k1:n1≤268435456) (k2:n2≤268435456) :
  Calls Tryz.prog 66 #[.agg #[.bool q.neg,.slice A1 n1 c1,.slice A2 n2 c2]] w (RetText w (writeT q) (writeE q)):=by
 obtain ⟨neg,top,bot⟩:=q
 dsimp only at h1 h2 ⊢
 have hb1:Below w.heap.size w (w.alloc (.cells #[.bool neg,.slice A1 n1 c1,.slice A2 n2 c2] 91)):=(Below.refl _ _).alloc (Nat.le_refl _) _
 have hx1:ResBlk (w.alloc (.cells #[.bool neg,.slice A1 n1 c1,.slice A2 n2 c2] 91)) w.heap.size neg (.slice A1 n1 c1) (.slice A2 n2 c2):=ResBlk.new w _ _ _
 have hz:=isZero_val A2 n2 c2 bot _ (h2.later hb1)
 by_cases hb0:bot=0
 ·have hE:writeE ⟨neg,top,bot⟩=6:=by unfold writeE;rw [if_pos hb0]
  have hW:writeT ⟨neg,top,bot⟩=[]:=by unfold writeT;rw [hE];rfl
  have hd:decide (bot=0)=true:=by simpa using hb0
  rw [hE,hW]
  rw [hd] at hz
  clear hE hW hb0 hd
  go_enter Tryz.func66,Tryz.ntmps66
  go_wp2_with fail
  refine hz.mono ?_
  rintro e w1 ⟨rfl,rfl⟩
  go_wp2
  go_ret2
  exact ⟨⟨#[]⟩,rfl,rfl,hb1⟩
 ·have hd:decide (bot=0)=false:=by simpa using hb0
  rw [hd] at hz
  have hT1:=hT.later hb1
  have ht1:=fun (W:World) (hb:Below (w.alloc (.cells #[.bool neg,.slice A1 n1 c1,.slice A2 n2 c2] 91)).heap.size (w.alloc (.cells #[.bool neg,.slice A1 n1 c1,.slice A2 n2 c2] 91)) W)=>text_any A1 n1 c1 top W (hT1.later hb) ((h1.later hb1).later hb) (by omega)
  have ht2:=fun (W:World) (hb:Below (w.alloc (.cells #[.bool neg,.slice A1 n1 c1,.slice A2 n2 c2] 91)).heap.size (w.alloc (.cells #[.bool neg,.slice A1 n1 c1,.slice A2 n2 c2] 91)) W)=>text_any A2 n2 c2 bot W (hT1.later hb) ((h2.later hb1).later hb) (by omega)
  have ho:=fun (W:World) (hb:Below (w.alloc (.cells #[.bool neg,.slice A1 n1 c1,.slice A2 n2 c2] 91)).heap.size (w.alloc (.cells #[.bool neg,.slice A1 n1 c1,.slice A2 n2 c2] 91)) W)=>isOne_any A2 n2 c2 bot W ((h2.later hb1).later hb)
  obtain ⟨s1,hs1⟩:∃ s1:ByteArray,s1=⟨(Lib.decDigits top).toArray⟩:=⟨_,rfl⟩
  obtain ⟨s2,hs2⟩:∃ s2:ByteArray,s2=⟨(Lib.decDigits bot).toArray⟩:=⟨_,rfl⟩
  have e1:s1.data.toList=Lib.decDigits top:=by rw [hs1]
  have e2:s2.data.toList=Lib.decDigits bot:=by rw [hs2]
  simp only [←hs1] at ht1
  simp only [←hs2] at ht2
  have hE:Hid (writeE ⟨neg,top,bot⟩=if 600<s1.size∨600<s2.size then 4 else 0):=by
   unfold Hid writeE
   rw [if_neg hb0,←e1,←e2];simp
  have hS:Hid (writeS ⟨neg,top,bot⟩=(if neg then 45 :: s1.data.toList else s1.data.toList)++(if bot=1 then [] else 47 :: s2.data.toList)):=by
   unfold Hid writeS;rw [←e1,←e2]
  have hsz1:s1.size<8589934592:=by
   have h0:s1.size=(Lib.decDigits top).length:=by rw [←e1];simp
   have h3:=Dec.dec_length_le (k:=20*n1+1) (r:=top) (by omega) (by
    have h4:=lt_of_digs_length top
    rw [h1.len] at h4
    refine Nat.lt_of_lt_of_le h4 ?_
    have h5:B≤10 ^ 20:=by rw [B_def];omega
    have h6:=Nat.pow_le_pow_left h5 n1
    rw [←Nat.pow_mul] at h6
    exact Nat.le_trans h6 (Nat.pow_le_pow_right (by omega) (by omega)))
   omega
  have hsz2:s2.size<8589934592:=by
   have h0:s2.size=(Lib.decDigits bot).length:=by rw [←e2];simp
   have h3:=Dec.dec_length_le (k:=20*n2+1) (r:=bot) (by omega) (by
    have h4:=lt_of_digs_length bot
    rw [h2.len] at h4
    refine Nat.lt_of_lt_of_le h4 ?_
    have h5:B≤10 ^ 20:=by rw [B_def];omega
    have h6:=Nat.pow_le_pow_left h5 n2
    rw [←Nat.pow_mul] at h6
    exact Nat.le_trans h6 (Nat.pow_le_pow_right (by omega) (by omega)))
   omega
  have HT1:=Lib.hid ht1
  have HT2:=Lib.hid ht2
  have HO:=Lib.hid ho
  have HS1:=Lib.hid hsz1
  have HS2:=Lib.hid hsz2
  have HE2:=Lib.hid e1
  clear ht1 ht2 ho hs1 hs2 e1 e2 hd hb0 hT1 hsz1 hsz2
  go_enter Tryz.func66,Tryz.ntmps66
  go_wp2_with fail
  refine hz.mono ?_
  rintro e w1 ⟨rfl,rfl⟩
  clear hz
  generalize (w.alloc (.cells #[.bool neg,.slice A1 n1 c1,.slice A2 n2 c2] 91))=w3 at *
  obtain ⟨a0,a1,a2,_,_,_,al⟩:=hx1.cells
  go_wp2_with fail
  go_region_held3 (fun w'=>w'.cell? ⟨w.heap.size,0,none⟩=some (.bool neg)∧w'.cell? ⟨w.heap.size,1,none⟩=some (.slice A1 n1 c1)∧w'.cell? ⟨w.heap.size,2,none⟩=some (.slice A2 n2 c2))
   (first | exact ⟨a0,a1,a2⟩ | exact ⟨((hb5.cell (p:=⟨w.heap.size,0,none⟩) al).trans a0),((hb5.cell (p:=⟨w.heap.size,1,none⟩) al).trans a1),((hb5.cell (p:=⟨w.heap.size,2,none⟩) al).trans a2)⟩ | exact ⟨((hb6.cell (p:=⟨w.heap.size,0,none⟩) (al6)).trans ((hb5.cell (p:=⟨w.heap.size,0,none⟩) al).trans a0)),((hb6.cell (p:=⟨w.heap.size,1,none⟩) (al6)).trans ((hb5.cell (p:=⟨w.heap.size,1,none⟩) al).trans a1)),((hb6.cell (p:=⟨w.heap.size,2,none⟩) (al6)).trans ((hb5.cell (p:=⟨w.heap.size,2,none⟩) al).trans a2))⟩)
   (first
    |(go_at_call_of 132 (Value.slice A1 n1 c1);refine (HT1.out w3.drew (Below.drew (Below.refl _ _))).mono ?_;rintro e w4 ⟨rfl,hb5⟩;have al6:=Nat.lt_of_lt_of_le al hb5.size)
    |(go_at_call_of 132 (Value.slice A2 n2 c2);refine (HT2.out w4 (Below.trans (Below.drew (Below.refl _ _)) hb5)).mono ?_;rintro e w6 ⟨rfl,hb6⟩))
  have hB6:Below w3.heap.size w3 w6:=(Below.trans (Below.drew (Below.refl _ _)) hb5).trans (hb6.mono (by have:=hb5.size;exact this))
  have b0:=(hB6.cell (p:=⟨w.heap.size,0,none⟩) al).trans a0
  have b2:=(hB6.cell (p:=⟨w.heap.size,2,none⟩) al).trans a2
  have ho:=HO.out w6 hB6
  have hBw:=hb1.trans (hB6.mono hb1.size)
  clear a0 a1 a2 hb5 hb6 hx1
  by_cases hl:600<s1.size∨600<s2.size
  ·have hmx:decide ((600:Int)<max (s1.size:Int) (s2.size:Int))=true:=by simp only [decide_eq_true_eq];omega
   have hE4:writeE ⟨neg,top,bot⟩=4:=by rw [hE.out,if_pos hl]
   have hW:writeT ⟨neg,top,bot⟩=[]:=by unfold writeT;rw [hE4];rfl
   have HE4:=Lib.hid hE4
   have HW:=Lib.hid hW
   clear hE4 hW hl ho
   go_wp2
   go_ret2
   exact ⟨⟨#[]⟩,by rw [HE4.out];rfl,by rw [HW.out],hBw⟩
  ·have hmx:decide ((600:Int)<max (s1.size:Int) (s2.size:Int))=false:=by simp only [decide_eq_false_iff_not];omega
   have hE3:writeE ⟨neg,top,bot⟩=0:=by rw [hE.out,if_neg hl]
   have hS2:writeT ⟨neg,top,bot⟩=(if neg then 45 :: s1.data.toList else s1.data.toList)++(if bot=1 then [] else 47 :: s2.data.toList):=by
    unfold writeT;rw [if_pos hE3];exact hS.out
   have HE3:=Lib.hid hE3
   have hz1:s1.size≤600:=by omega
   have hz2:s2.size≤600:=by omega
   clear hE3 hl
   by_cases h1:bot=1<;>cases neg
   ·rw [show decide (bot=1)=true from by simpa using h1] at ho
    rw [if_neg (by simp),if_pos h1] at hS2
    have HW:=Lib.hid hS2
    clear h1 hS2
    go_wp2_with fail
    refine ho.mono ?_
    rintro e w7 ⟨rfl,rfl⟩
    go_wp2
    go_ret2
    refine ⟨_,by rw [HE3.out];rfl,?_,hBw⟩
    rw [HW.out]
    simp
   ·rw [show decide (bot=1)=true from by simpa using h1] at ho
    rw [if_pos rfl,if_pos h1] at hS2
    have HW:=Lib.hid hS2
    clear h1 hS2
    go_wp2_with fail
    refine ho.mono ?_
    rintro e w7 ⟨rfl,rfl⟩
    go_wp2
    go_ret2
    refine ⟨_,by rw [HE3.out];rfl,?_,hBw⟩
    rw [HW.out]
    simp
   ·rw [show decide (bot=1)=false from by simpa using h1] at ho
    rw [if_neg (by simp),if_neg h1] at hS2
    have HW:=Lib.hid hS2
    clear h1 hS2
    go_wp2_with fail
    refine ho.mono ?_
    rintro e w7 ⟨rfl,rfl⟩
    go_wp2
    go_ret2
    refine ⟨_,by rw [HE3.out];rfl,?_,hBw⟩
    rw [HW.out]
    simp
   ·rw [show decide (bot=1)=false from by simpa using h1] at ho
    rw [if_pos rfl,if_neg h1] at hS2
    have HW:=Lib.hid hS2
    clear h1 hS2
    go_wp2_with fail
    refine ho.mono ?_
    rintro e w7 ⟨rfl,rfl⟩
    go_wp2
    go_ret2
    refine ⟨_,by rw [HE3.out];rfl,?_,hBw⟩
    rw [HW.out]
    simp
end Go.Proofs.YteajibbphcfmeaaGreatDoor
namespace Go.Proofs.YteajibbphcfmeaaGreatDoor
open Go.RowKit
open Flt
theorem write_sg (s:Bool) {n:Nat} {e:Int} (h0:0<n) (h1:n<9007199254740992) (he : -1022≤e+n.log2) (he2:e+n.log2≤1023):Ieee.double.write (.number s n e)=dw s (sg n) (e+n.log2 - 52):=by
 have hn:=sg_nrm h0 h1 he he2
 have hr:=hn.rung
 have e53:(2:Nat) ^ 53=9007199254740992:=by decide
 have a3:n.log2<53:=(Nat.log2_lt (by omega)).2 (by omega)
 show Ieee.double.nearest s n e=_
 rw [nearest_up Ieee.double s n (52 - n.log2) e h0 (by rw [dbl_least];show max (e+(n.log2:Int) - ((52:Nat):Int)) (-1074)=_;omega) (by rw [dbl_least,dbl_binade,dbl_inf,show e - ((52 - n.log2:Nat):Int) - -1074=e+n.log2 - 52+1074 from by omega];exact Nat.le_of_lt hr)]
 unfold dw sg
 rw [dbl_least,dbl_binade,show e - ((52 - n.log2:Nat):Int) - -1074=e+n.log2 - 52+1074 from by omega]
theorem sgl_fin {b m:Nat} {s:Bool} {p:Int} (h:Ieee.single.read b = .number s m p):m<16777216 ∧ -149≤p∧p≤104:=by
 unfold Ieee.Format.read at h
 rw [sgl_sign,sgl_binade,sgl_inf,sgl_least] at h
 dsimp only at h
 generalize hr:b % 2147483648=r at h
 by_cases h1:r<8388608
 ·rw [if_pos h1] at h
  injection h with _ h2 h3
  omega
 ·rw [if_neg h1] at h
  by_cases h2:r<2139095040
  ·rw [if_pos h2] at h
   injection h with _ h3 h4
   omega
  ·rw [if_neg h2] at h
   split at h<;>cases h
theorem f2d_number {b m r:Nat} {s t:Bool} {e p:Int} {n:Nat} (h:Ieee.single.read b = .number s m e) (hw:Ieee.double.write (.number s m e)=r) (hi:Ieee.double.read r = .number t n p):floatToFloatBits .f32 b .f64=some r:=by
 have h':FloatKind.f32.decode b = .number s m e:=h
 have hw':FloatKind.f64.encode (.number s m e)=r:=hw
 have hi':FloatKind.f64.decode r = .number t n p:=hi
 unfold floatToFloatBits
 rw [if_neg (by decide),h']
 simp only [hw',hi']
 rfl
theorem widen {b m:Nat} {s:Bool} {p:Int} (h:Ieee.single.read b = .number s m p) (hm:0<m):floatToFloatBits .f32 b .f64=some (dw s (sg m) (p+m.log2 - 52))∧Nrm (sg m) (p+m.log2 - 52)∧m.log2≤23:=by
 have e24:(2:Nat) ^ 24=16777216:=by decide
 obtain ⟨h1,h2,h3⟩:=sgl_fin h
 have hl:m.log2<24:=(Nat.log2_lt (by omega)).2 (by omega)
 have hn:=sg_nrm (n:=m) (e:=p) hm (by omega) (by omega) (by omega)
 exact ⟨f2d_number h (write_sg s hm (by omega) (by omega) (by omega)) (read_dw s hn),hn,by omega⟩
theorem write_zero (s:Bool) (p:Int):Ieee.double.write (.number s 0 p)=Ieee.double.word s 0:=by
 show Ieee.double.nearest s 0 p=_
 unfold Ieee.Format.nearest
 rw [if_pos rfl]
theorem read_zero_word (s:Bool):Ieee.double.read (Ieee.double.word s 0) = .number s 0 (-1074):=by
 cases s<;>decide +kernel
theorem widen_zero {b:Nat} {s:Bool} {p:Int} (h:Ieee.single.read b = .number s 0 p):floatToFloatBits .f32 b .f64=some (Ieee.double.word s 0):=
 f2d_number h (write_zero s p) (read_zero_word s)
structure Fine (b x:Nat):Prop where
 conv:floatToFloatBits .f32 b .f64=some x
 lt:x<18446744073709551616
 inf:(FloatKind.f64.format.order (absB x) 9218868437227405311==some .gt)=false
 nan:(FloatKind.f64.format.order x x != some .eq)=false
theorem fine_pos {b m:Nat} {s:Bool} {p:Int} (h:Ieee.single.read b = .number s m p) (hm:0<m):Fine b (dw s (sg m) (p+m.log2 - 52)):=by
 obtain ⟨h1,h2,_⟩:=widen h hm
 have hN:=norm_dw s h2
 exact ⟨h1,hN.lt,hN.inf,hN.nan⟩
theorem fine_zero {b:Nat} {s:Bool} {p:Int} (h:Ieee.single.read b = .number s 0 p):Fine b (Ieee.double.word s 0):=by
 refine ⟨widen_zero h,?_,?_,?_⟩<;>cases s<;>decide +kernel
theorem isFinite_fine {b x:Nat} (w:World) (h:Fine b x):Calls Tryz.prog 100 #[.float .f32 b] w fun e w'=>e = .returned (.bool true)∧w=w':=by
 have hcv:=fun W:World=>run_convert_float_float (P:=Tryz.prog) W 55 118 .f32 .f64 b x (by kernel_rfl) (by kernel_rfl) h.conv
 have hnn:=isNaN_any x w
 rw [h.nan] at hnn
 have hin:=isInf_any x w h.lt
 rw [h.inf] at hin
 have HN:=Lib.hid hnn
 have HI:=Lib.hid hin
 clear hnn hin h
 go_enter Tryz.func100,Tryz.ntmps100
 go_wp2_with fail
 refine HN.out.mono ?_
 rintro e w1 ⟨rfl,rfl⟩
 go_wp2_with fail
 refine HI.out.mono ?_
 rintro e w1 ⟨rfl,rfl⟩
 go_wp2_with fail
 go_ret
 exact ⟨rfl,rfl⟩
theorem mul_24 (s:Bool) {m:Nat} (h:Nrm m (-53)):floatBits .mul .f64 (dw s m (-53)) 4715268809856909312=some (dw s m (-29)):=by
 show (((Ieee.double.read (dw s m (-53))).product (Ieee.double.read 4715268809856909312)).map Ieee.double.write)=_
 have e1:Ieee.double.read 4715268809856909312 = .number false 4503599627370496 (-28):=by decide +kernel
 rw [e1,read_dw s h]
 show some (Ieee.double.write (.number (s ^^ false) (m*4503599627370496) (-53 + -28)))=_
 have e2:m*4503599627370496=m*2 ^ 52:=by rfl
 rw [e2,write_dw (s ^^ false) 52 (q := -29) ⟨h.lo,h.hi,by omega,by omega⟩ (by omega)]
 simp
theorem cut_zero_exact (s:Bool) (n d:Nat) (hn:0<n):Ieee.Toward.zero.cut s (n*2 ^ d) d=n:=by
 unfold Ieee.Toward.cut
 have e:min d ((n*2 ^ d).log2+2)=d:=by rw [log2_mul_pow n d hn];omega
 have hp:=Nat.two_pow_pos d
 simp only [e,Nat.shiftLeft_eq,Nat.one_mul,Nat.mul_div_cancel _ hp]
 rfl
theorem int_29 (s:Bool) {m:Nat} (h0:0<m) (hl:m.log2≤23) (hm:m<16777216):floatToIntVal .f64 (dw s (sg m) (-29)) .i64=some (Ieee.signed s (m*2 ^ (23 - m.log2)) 0)∧m*2 ^ (23 - m.log2)<16777216∧0<m*2 ^ (23 - m.log2):=by
 have e24:(2:Nat) ^ 24=16777216:=by decide
 have hp:0<m*2 ^ (23 - m.log2):=Nat.mul_pos h0 (Nat.two_pow_pos _)
 have hlt:m*2 ^ (23 - m.log2)<16777216:=by
  have a2:=(Nat.log2_lt (n:=m) (k:=m.log2+1) (by omega)).1 (by omega)
  have:=Nat.mul_lt_mul_of_pos_right a2 (Nat.two_pow_pos (23 - m.log2))
  rw [←Nat.pow_add,show m.log2+1+(23 - m.log2)=24 from by omega,e24] at this
  exact this
 have hn:=sg_nrm (n:=m) (e:=0) h0 (by omega) (by omega) (by omega)
 have hr:=read_dw s (m:=sg m) (p := -29) ⟨hn.lo,hn.hi,by omega,by omega⟩
 have hsg:sg m=m*2 ^ (23 - m.log2)*2 ^ 29:=by
  unfold sg
  rw [Nat.mul_assoc,←Nat.pow_add,show 23 - m.log2+29=52 - m.log2 from by omega]
 refine ⟨?_,hlt,hp⟩
 generalize m*2 ^ (23 - m.log2)=J at *
 have hv:FloatKind.f64.decode (dw s (sg m) (-29)) = .number s (sg m) (-29):=hr
 have hti:(FloatKind.f64.decode (dw s (sg m) (-29))).toInt .zero=some (Ieee.signed s J 0):=by
  rw [hv,hsg]
  unfold Ieee.Datum.toInt Ieee.Datum.integral
  have e1:(-29:Int).toNat=0:=by decide
  have e2:(- (-29:Int)).toNat=29:=by decide
  simp only [e1,e2,Nat.shiftLeft_zero,cut_zero_exact s J 29 hp]
 unfold floatToIntVal
 rw [hti]
 have hb:IntKind.i64.min≤Ieee.signed s J 0∧Ieee.signed s J 0≤IntKind.i64.max:=by
  have h1:IntKind.i64.min = -9223372036854775808:=by decide
  have h2:IntKind.i64.max=9223372036854775807:=by decide
  rw [h1,h2]
  unfold Ieee.signed
  rw [Nat.shiftLeft_zero]
  split<;>omega
 simp only [hb,and_self,if_true]
theorem mul_zero_24 (s:Bool):floatBits .mul .f64 (Ieee.double.word s 0) 4715268809856909312=some (Ieee.double.word s 0):=by cases s<;>decide +kernel
theorem int_zero (s:Bool):floatToIntVal .f64 (Ieee.double.word s 0) .i64=some 0:=by cases s<;>decide +kernel
theorem eq_zero (s:Bool):(FloatKind.f64.format.order (Ieee.double.word s 0) 0==some .eq)=true:=by cases s<;>decide +kernel
end Go.Proofs.YteajibbphcfmeaaGreatDoor
