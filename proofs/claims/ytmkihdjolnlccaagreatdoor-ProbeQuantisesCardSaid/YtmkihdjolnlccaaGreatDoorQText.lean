/- Contract of text: the decimal digits of a natural number. -/
import Derived.Test.YtmkihdjolnlccaaGreatDoorQGcd1
import Derived.Test.YtmkihdjolnlccaaGreatDoorQRat4
import Derived.Test.YtmkihdjolnlccaaGreatDoorQRead2
import Derived.Deep.RegionHeld3
namespace Go.Proofs.YtmkihdjolnlccaaGreatDoor
open Go.RowKit Bn
theorem zlC {x n k:Nat} (hx:x<B ^ n) (hk:2*n≤k):x / Dec.T ^ k=0:=by
 refine Nat.div_eq_of_lt (Nat.lt_of_lt_of_le hx ?_)
 have h1:B≤Dec.T ^ 2:=by rw [zfV,Dec.T_def];omega
 have h2:B ^ n≤(Dec.T ^ 2) ^ n:=Nat.pow_le_pow_left h1 n
 rw [←Nat.pow_mul] at h2
 exact Nat.le_trans h2 (Nat.pow_le_pow_right Dec.T_pos hk)
theorem zjj {w w':World} {base:Nat} {e:TypeId} {size n:Nat} {v:Value} {xs:List Value} (h:w.ownsRow base e size v n xs) (hb:Below w.heap.size w w'):w'.ownsRow base e size v n xs:=
 World.ownsRow.kept h (za0 hb none) (Classical.em _)
theorem zbJ {T e:TypeId} {B b:Nat} {bs:List Value} {w w':World} (h:Lib.IsBuilder T e B b bs w) (hb:Below w.heap.size w w'):Lib.IsBuilder T e B b bs w':=by
 have key:∀ p,Lib.BuilderAt T e B b p bs w→Lib.BuilderAt T e B b p bs w':=by
  rintro p ⟨hB,v,hbk,hown,hne⟩
  refine ⟨hB,v,?_,zjj hown hb,hne⟩
  rw [hb.block b ?_]
  ·exact hbk
  ·rcases Nat.lt_or_ge b w.heap.size with h | h
   ·exact h
   ·rw [Array.getElem?_eq_none h] at hbk;cases hbk
 rcases h with h | h
 ·exact .inl (key _ h)
 ·exact .inr (key _ h)
theorem zef (w:World) (T e:TypeId):Lib.IsBuilder T e w.heap.size w.heap.size [] (w.alloc (.cells #[.pointer none,.slice none 0 0] T)):=
 .inl ⟨Nat.le_refl _,.slice none 0 0,heap_alloc_new w _,World.ownsRow_nil _ _ _ _,by simp [Value.ownBlock]⟩
theorem zhJ (k:Nat):Lib.repeatL [48] k=List.replicate k 48:=by
 induction k with
 | zero=>rfl
 | succ k ih=>rw [Lib.repeatL,ih,List.replicate_succ];rfl
def zbG (x k j:Nat):List UInt8:=if j=k then [] else Lib.decDigits (x / Dec.T ^ j)
theorem zmg {x k:Nat} (j:Nat) (hk:0<k) (h:x / Dec.T ^ k=0):(zbG x k j).length≤19*k:=by
 unfold zbG
 split
 ·simp
 ·refine Dec.dec_length_le (by omega) (Nat.lt_of_le_of_lt (Nat.div_le_self _ _) ?_)
  have h1:x<Dec.T ^ k:=by
   rcases Nat.lt_or_ge x (Dec.T ^ k) with h2 | h2
   ·exact h2
   ·have:=Nat.div_pos h2 (Nat.pow_pos Dec.T_pos);omega
  rwa [Dec.T_pow,←Nat.pow_mul] at h1
theorem zsI (x k:Nat):x / Dec.T ^ k / Dec.T=x / Dec.T ^ (k+1):=by rw [Nat.pow_succ,Nat.div_div_eq_div_mul]
set_option maxHeartbeats 4000000 in
set_option maxRecDepth 100000 in
theorem zkA (A:Option Addr) (n c x:Nat) (w:World) (hT:Tabs w) (ha:NatS w w.heap.size A n c x) (hn:n≤1073741824) :
  Calls Tryz.prog 192 #[.slice A n c] w fun e w'=>e = .returned (.string ⟨(Lib.decDigits x).toArray⟩)∧Below w.heap.size w w':=by
 obtain ⟨i0,hi0,hz0,hz1,hz2⟩:=info_parts zbA
 by_cases hx:x=0
 ·subst hx
  have hz:=zbh A n c 0 w ha
  have hd:Hid ((⟨(Lib.decDigits 0).toArray⟩:ByteArray)=⟨#[48]⟩):=by unfold Hid;rw [Dec.dec_lt (by omega)];rfl
  go_enter Tryz.func192,Tryz.ntmps192
  go_wp2_with fail
  refine hz.mono ?_
  rintro e w1 ⟨rfl,rfl⟩
  go_wp2
  go_ret
  exact ⟨by rw [hd.out];rfl,Below.refl _ _⟩
 ·have hz:=zbh A n c x w ha
  have hd:decide (x=0)=false:=by simpa using hx
  rw [hd] at hz
  have hxB:x<B ^ n:=by have:=zaa x;rw [ha.len] at this;exact this
  have HXB:=Lib.hid hxB
  have HX:=Lib.hid hx
  clear hd hxB hx
  go_enter Tryz.func192,Tryz.ntmps192
  go_wp2_with fail
  refine hz.mono ?_
  rintro e w1 ⟨rfl,rfl⟩
  go_wp2_with fail
  clear hz
  go_loopg [0,3] x (fun G sa sc we=>∃ A2 m2 c2 k ao cap,sa = .slice A2 m2 c2∧NatS we we.heap.size A2 m2 c2 (x / Dec.T ^ k)∧sc = .slice ao k cap∧we.ownsRow w.heap.size 168 1 (.slice ao k cap) k ((Dec.chunks x k).map u64v)∧Hid (0<k→x / Dec.T ^ (k - 1)≠0)∧x / Dec.T ^ k≤G∧m2≤n∧k≤2*n∧Below w.heap.size w we)
  case atStart=>exact ⟨A,n,c,0,none,0,rfl,by simpa using ha,rfl,World.ownsRow_nil _ _ _ _,fun h=>absurd h (by omega),by simp,Nat.le_refl _,Nat.zero_le _,Below.refl _ _⟩
  case round=>
   clear ha
   obtain ⟨A2,m2,c2,k,ao,cap,rfl,hn2,rfl,hown,hlast,hG,hm2,hk,hbel⟩:=hrel
   obtain ⟨we,rfl⟩:∃ we:World,we=wr:=⟨_,rfl⟩
   have hz:=zbh A2 m2 c2 (x / Dec.T ^ k) we hn2
   by_cases h0:x / Dec.T ^ k=0
   ·have hd:decide (x / Dec.T ^ k=0)=true:=by simpa using h0
    rw [hd] at hz
    have H0:=Lib.hid h0
    have HN2:=Lib.hid hn2
    clear hd h0 hG hn2
    go_wp2_with fail
    refine hz.mono ?_
    rintro e w1 ⟨rfl,rfl⟩
    clear hz
    have hk0:0<k:=by
     rcases Nat.eq_zero_or_pos k with h | h
     ·subst h;exact absurd (by simpa using H0.out) HX.out
     ·exact h
    have hrd:zaB we we.heap.size ao k (Dec.chunks x k):=zae.of_own hown
    have hb0:Below we.heap.size we (we.alloc (.cells #[.pointer none,.slice none 0 0] 257)):=(Below.refl _ _).alloc (Nat.le_refl _) _
    have hlastx:=hlast.out hk0
    have HLAST:=Lib.hid hlastx
    have hbn:=zef we 257 5
    clear hlastx hlast
    go_wp2_with fail
    go_loopw [6] (fun si wb=>∃ (j:Nat) (i:Int),i=(j:Int) - 1∧j≤k∧si = .int .i64 i∧Lib.IsBuilder 257 5 we.heap.size we.heap.size (Lib.byteCells (zbG x k j)) wb∧Below we.heap.size we wb) (fun si _=>(intOf si+1).toNat)
    case atStart=>exact ⟨k,(k:Int) - 1,rfl,Nat.le_refl _,by first | rfl | simp,by unfold zbG;rw [if_pos rfl];exact hbn,hb0⟩
    case round=>
     clear hbn hb0
     obtain ⟨j,i,hi,hj,rfl,hbl,hbb⟩:=hrel
     obtain ⟨wb,rfl⟩:∃ wb:World,wb=wr:=⟨_,rfl⟩
     have hsz:=hbb.size
     have hlt:we.heap.size<wb.heap.size:=by
      have h9:∃ p,Lib.BuilderAt 257 5 we.heap.size we.heap.size p (Lib.byteCells (zbG x k j)) wb:=by
       rcases hbl with h | h
       ·exact ⟨_,h⟩
       ·exact ⟨_,h⟩
      obtain ⟨p,_,v,hbk,_⟩:=h9
      rcases Nat.lt_or_ge we.heap.size wb.heap.size with h | h
      ·exact h
      ·rw [Array.getElem?_eq_none h] at hbk;cases hbk
     by_cases hj0:0<j
     ·obtain ⟨q,rfl⟩:∃ q,j=q+1:=⟨j - 1,by omega⟩
      have hi2:i=(q:Int):=by omega
      subst hi2
      obtain ⟨ad,rfl,_,hcell⟩:=zaB.word (w:=wb) (B:=we.heap.size) (A:=ao) (n:=k) (l:=Dec.chunks x k) (zae.below hrd hbb) (k:=q) (by omega)
      have hcv:=Dec.chunks_get x k q (by omega)
      have hcvT:(Dec.chunks x k).getD q 0<Dec.T:=by rw [hcv];exact Nat.mod_lt _ Dec.T_pos
      generalize (Dec.chunks x k).getD q 0=cv at hcell hcv hcvT
      have hcvB:cv<18446744073709551616:=by rw [Dec.T_def] at hcvT;omega
      have hf:=zcz cv hcvB wb ((hT.later hbel).later hbb)
      have hdl:(Lib.decDigits cv).length≤19:=Dec.dec_length_le (by omega) (by rw [←Dec.T_pow];exact hcvT)
      obtain ⟨sd,hsd⟩:∃ sd:ByteArray,sd=⟨(Lib.decDigits cv).toArray⟩:=⟨_,rfl⟩
      have hsdl:sd.data.toList=Lib.decDigits cv:=by rw [hsd]
      have hsds:sd.size≤19:=by
       have:sd.data.toList.length=sd.size:=by simp
       rw [hsdl] at this;omega
      rw [←hsd] at hf
      have htl:=zmg (q+1) hk0 H0.out
      have HTL:=Lib.hid htl
      have HF:=Lib.hid hf
      have HCV:=Lib.hid hcv
      have HSDL:=Lib.hid hsdl
      clear hf hcv hcvT hcvB hdl hsd hsdl hj0 hi htl
      go_wp2_with fail
      refine HF.out.mono ?_
      rintro e w1 ⟨rfl,hb1⟩
      have hbl1:=zbJ hbl hb1
      have hB1:Below we.heap.size we w1:=hbb.trans (hb1.mono hsz)
      by_cases hq:q+1=k
      ·have ht0:zbG x k (q+1)=[]:=by unfold zbG;rw [if_pos hq]
       rw [ht0] at hbl1
       have hl:=Tryz.Builder_Len we.heap.size we.heap.size _ w1 hbl1
       have hl0:(Lib.byteCells []).length=0:=rfl
       have hfin:Hid (Lib.byteCells []++Lib.strCells sd=Lib.byteCells (zbG x k q)):=by
        have h1:x / Dec.T ^ q<Dec.T:=by
         have h2:=H0.out
         rw [←hq,←zsI] at h2
         exact (Nat.div_eq_zero_iff_lt Dec.T_pos).1 h2
        have h3:cv=x / Dec.T ^ q:=by rw [HCV.out,Nat.mod_eq_of_lt h1]
        unfold Hid zbG
        rw [if_neg (by omega),←h3,←HSDL.out]
        rfl
       rw [hl0] at hl
       have HL:=Lib.hid hl
       clear hl hl0 ht0 hbl
       go_wp2_with fail
       refine HL.out.mono ?_
       rintro e w2 ⟨rfl,hw2⟩
       subst hw2
       go_wp2_with fail
       refine (zbq we.heap.size we.heap.size _ sd _ hbl1 (by rw [Lib.byteCells_length,List.length_nil];omega) hB1.size).mono ?_
       rintro e w3 ⟨rfl,hbl3,hb3⟩
       have hbl4:Lib.IsBuilder 257 5 we.heap.size we.heap.size (Lib.byteCells (zbG x k q)) w3:=by rw [←hfin.out];exact .inr hbl3
       have hB3:=hB1.trans hb3
       clear hbl3 hbl1
       go_wp2
       go_roundw
       case rel=>exact ⟨q,(q:Int) - 1,rfl,by omega,by go_num,hbl4,hB3⟩
       case measure=>simp [intOf]
      ·have hpos:0<x / Dec.T ^ (q+1):=by
        refine Nat.pos_of_ne_zero fun h=>HLAST.out ?_
        have h1:x / Dec.T ^ (k - 1)=x / Dec.T ^ (q+1) / Dec.T ^ (k - 1 - (q+1)):=by rw [Nat.div_div_eq_div_mul,←Nat.pow_add];congr 2;omega
        rw [h1,h];simp
       have hl:=Tryz.Builder_Len we.heap.size we.heap.size _ w1 hbl1
       rw [Lib.byteCells_length] at hl
       have hlp:0<(zbG x k (q+1)).length:=by unfold zbG;rw [if_neg hq];exact Dec.dec_length_pos _
       have e19:(19:Int) - (sd.size:Int)=((19 - sd.size:Nat):Int):=by omega
       have hrep:Calls Tryz.prog 242 #[.string { data:=#[48] },.int .i64 (19 - (sd.size:Int))] w1 fun e w'=>e = .returned (.string ⟨(Lib.repeatL [48] (19 - sd.size)).toArray⟩)∧Below w1.heap.size w1 w':=by
        rw [e19]
        have e1:(⟨#[48]⟩:ByteArray).size=1:=rfl
        exact Tryz.strings_Repeat ⟨#[48]⟩ (19 - sd.size) w1 (by omega) (by rw [e1];omega)
       have hfin:Hid (Lib.byteCells (zbG x k (q+1))++Lib.strCells ⟨(Lib.repeatL [48] (19 - sd.size)).toArray⟩++Lib.strCells sd=Lib.byteCells (zbG x k q)):=by
        have h1:=Dec.dec_chunk x q hpos
        have h2:sd.size=(Lib.decDigits cv).length:=by rw [←HSDL.out];simp
        rw [←HCV.out,←h2,←HSDL.out] at h1
        unfold Hid zbG
        rw [if_neg hq,if_neg (by omega),h1,zhJ,Lib.strCells_toArray,Lib.strCells_eq]
        simp [Lib.byteCells]
       have hrl:(⟨(Lib.repeatL [48] (19 - sd.size)).toArray⟩:ByteArray).size≤19:=by
        show (Lib.repeatL [48] (19 - sd.size)).length≤19
        rw [Lib.repeatL_length];simp
       generalize (⟨(Lib.repeatL [48] (19 - sd.size)).toArray⟩:ByteArray)=sr at hrep hfin hrl
       generalize htx:zbG x k (q+1)=tx at hl hlp hbl1 hfin HTL
       have HL:=Lib.hid hl
       have HREP:=Lib.hid hrep
       clear hl hrep e19 hpos htx hbl
       go_wp2_with fail
       refine HL.out.mono ?_
       rintro e w2 ⟨rfl,hw2⟩
       subst hw2
       go_wp2_with fail
       refine HREP.out.mono ?_
       rintro e w4 ⟨rfl,hb4⟩
       have hbl4:=zbJ hbl1 hb4
       have hB4:Below we.heap.size we w4:=hB1.trans (hb4.mono hB1.size)
       have htn:=HTL.out
       go_wp2_with fail
       refine (zbq we.heap.size we.heap.size _ sr w4 hbl4 (by rw [Lib.byteCells_length];omega) hB4.size).mono ?_
       rintro e w5 ⟨rfl,hbl5,hb5⟩
       have hB5:=hB4.trans hb5
       go_wp2_with fail
       refine (zbq we.heap.size we.heap.size _ sd w5 (.inr hbl5) (by rw [List.length_append,Lib.byteCells_length,Lib.strCells_length];omega) hB5.size).mono ?_
       rintro e w6 ⟨rfl,hbl6,hb6⟩
       have hbl7:Lib.IsBuilder 257 5 we.heap.size we.heap.size (Lib.byteCells (zbG x k q)) w6:=by rw [←hfin.out];exact .inr hbl6
       have hB6:=hB5.trans hb6
       clear hbl6 hbl5 hbl4 hbl1
       go_wp2
       go_roundw
       case rel=>exact ⟨q,(q:Int) - 1,rfl,by omega,by go_num,hbl7,hB6⟩
       case measure=>simp [intOf]
     ·have hj00:j=0:=by omega
      subst hj00
      have hi2:i = -1:=by omega
      subst hi2
      have htx:zbG x k 0=Lib.decDigits x:=by unfold zbG;rw [if_neg (by omega)];simp
      rw [htx] at hbl
      have hs:=Tryz.Builder_String_any we.heap.size we.heap.size (Lib.decDigits x) wb hbl hsz
      have HS:=Lib.hid hs
      clear hs htx hi hj0
      go_wp2_with fail
      refine HS.out.mono ?_
      rintro e w9 ⟨rfl,hb9⟩
      go_wp2
      go_ret
      exact ⟨rfl,hbel.trans ((hbb.trans hb9).mono hbel.size)⟩
   ·have hd:decide (x / Dec.T ^ k=0)=false:=by simpa using h0
    rw [hd] at hz
    have how:Calls Tryz.prog 238 #[.slice A2 m2 c2,.int .u64 10000000000000000000] we _:=zfc A2 m2 c2 (x / Dec.T ^ k) 10000000000000000000 we hn2 (by omega) (by omega) (by omega)
    have hT2:x / Dec.T ^ k / 10000000000000000000=x / Dec.T ^ (k+1):=zsI x k
    rw [hT2] at how
    have hlt:x / Dec.T ^ (k+1)<x / Dec.T ^ k:=by rw [←hT2];exact Nat.div_lt_self (Nat.pos_of_ne_zero h0) (by omega)
    have hch:x / Dec.T ^ k % 10000000000000000000=(Dec.chunks x (k+1)).getD k 0:=by rw [Dec.chunks_get x (k+1) k (by omega)];rfl
    have hk1:k+1≤2*n:=by
     rcases Nat.lt_or_ge k (2*n) with h | h
     ·omega
     ·exact absurd (zlC HXB.out h) h0
    have hcs:=Dec.chunks_succ x k
    generalize hcv:x / Dec.T ^ k % 10000000000000000000=cv at how hch
    have hcs2:Hid (Dec.chunks x (k+1)=Dec.chunks x k++[cv]):=by unfold Hid;rw [hcs,←hcv];rfl
    have HL:Hid (0<k+1→x / Dec.T ^ (k+1 - 1)≠0):=by intro _;simpa using h0
    have HOW:=Lib.hid how
    have HLT:=Lib.hid hlt
    have HG:=Lib.hid hG
    clear hd h0 how hT2 hlt hch hcs hcv hG hlast
    go_wp2_with fail
    refine hz.mono ?_
    rintro e w1 ⟨rfl,rfl⟩
    clear hz
    go_wp2_with fail
    refine HOW.out.mono ?_
    rintro e w4 ⟨m4,c4,rfl,hr4,hb4⟩
    have hown4:=zjj hown hb4
    have hlen4:m4≤n:=by
     rw [←hr4.nat.len]
     refine Nat.le_trans (zac (Nat.div_le_self _ _)) ?_
     have:=HXB.out
     exact digs_length_le this
    have hbel4:=hbel.trans (hb4.mono hbel.size)
    go_wp2_with (at_builtin;refine wpList_append_own _ rfl _ _ 139 rfl w.heap.size 168 i0 (.int .u64 0) 1 8 Tryz.underlying139 hi0 hz0 hz1 hz2 rfl (by decide) _ _ _ rfl (hown4.alloc _) ⟨w4.heap.size,0,none⟩ 1 1 [.int .u64 (cv:Int)] rfl rfl (cell_one_new _ _ _) ?c2 ?c3 ?c4 ?c5 ?_)
    case c2=>intro u hu;simp at hu;subst hu;rfl
    case c3=>unfold maxLen;omega
    case c4=>omega
    case c5=>have:=hbel4.size;simp;omega
    intro v' w5 hown' hgrow _
    have hbel5:Below w.heap.size w w5:=(hbel4.alloc hbel4.size _).grown hgrow (by have:=hbel4.size;simp;omega) (fun q hq=>(hown4.lt q hq).1)
    have hnat5:NatS w5 w5.heap.size (some ⟨we.heap.size,0,none⟩) m4 c4 (x / Dec.T ^ (k+1)):=
     ((hr4.alloc _).kept hgrow (fun e=>by have:=(hown.lt _ e).2;omega)).nat
    have hown5:w5.ownsRow w.heap.size 168 1 v' (k+1) ((Dec.chunks x (k+1)).map u64v):=by
     rw [hcs2.out,List.map_append];exact hown'
    obtain ⟨ao5,cap5,rfl⟩:∃ ao5 cap5,v' = .slice ao5 (k+1) cap5:=by
     rcases hown5.2 with ⟨_,h0⟩ | ⟨g,cap,cur,hv,_⟩
     ·exact absurd h0 (by omega)
     ·exact ⟨_,_,hv⟩
    clear hown' hgrow hown4 hown hr4
    go_wp2_with fail
    go_roundg (x / Dec.T ^ (k+1))
    case measure=>exact Nat.lt_of_lt_of_le HLT.out HG.out
    case rel=>exact ⟨_,m4,c4,k+1,ao5,cap5,rfl,hnat5,rfl,hown5,HL,Nat.le_refl _,hlen4,hk1,hbel5⟩
def zay (q:Q):List UInt8:=(if q.neg then 45 :: Lib.decDigits q.top else Lib.decDigits q.top)++(if q.bot=1 then [] else 47 :: Lib.decDigits q.bot)
def zaO (q:Q):Int:=if q.bot=0 then 6 else if 600<(Lib.decDigits q.top).length∨600<(Lib.decDigits q.bot).length then 4 else 0
def zaS (q:Q):List UInt8:=if zaO q=0 then zay q else []
def zcY (w:World) (l:List UInt8) (x:Int) (e:Ending) (w':World):Prop:=∃ s:ByteArray,e = .returned (.tuple #[.string s,.int .i64 x])∧s.data.toList=l∧Below w.heap.size w w'
set_option maxHeartbeats 4000000 in
set_option maxRecDepth 100000 in
theorem zi8 (q:Q) (A1 A2:Option Addr) (n1 c1 n2 c2:Nat) (w:World) (hT:Tabs w) (h1:NatS w w.heap.size A1 n1 c1 q.top) (h2:NatS w w.heap.size A2 n2 c2 q.bot) (k1:n1≤268435456) (k2:n2≤268435456) :
  Calls Tryz.prog 115 #[.agg #[.bool q.neg,.slice A1 n1 c1,.slice A2 n2 c2]] w (zcY w (zaS q) (zaO q)):=by
 obtain ⟨neg,top,bot⟩:=q
 dsimp only at h1 h2 ⊢
 have hb1:Below w.heap.size w (w.alloc (.cells #[.bool neg,.slice A1 n1 c1,.slice A2 n2 c2] 159)):=(Below.refl _ _).alloc (Nat.le_refl _) _
 have hx1:zaj (w.alloc (.cells #[.bool neg,.slice A1 n1 c1,.slice A2 n2 c2] 159)) w.heap.size neg (.slice A1 n1 c1) (.slice A2 n2 c2):=zaj.new w _ _ _
 have hz:=zbh A2 n2 c2 bot _ (h2.later hb1)
 by_cases hb0:bot=0
 ·have hE:zaO ⟨neg,top,bot⟩=6:=by unfold zaO;rw [if_pos hb0]
  have hW:zaS ⟨neg,top,bot⟩=[]:=by unfold zaS;rw [hE];rfl
  have hd:decide (bot=0)=true:=by simpa using hb0
  rw [hE,hW]
  rw [hd] at hz
  clear hE hW hb0 hd
  go_enter Tryz.func115,Tryz.ntmps115
  go_wp2_with fail
  refine hz.mono ?_
  rintro e w1 ⟨rfl,rfl⟩
  go_wp2
  go_ret2
  exact ⟨⟨#[]⟩,rfl,rfl,hb1⟩
 ·have hd:decide (bot=0)=false:=by simpa using hb0
  rw [hd] at hz
  have hT1:=hT.later hb1
  have ht1:=fun (W:World) (hb:Below (w.alloc (.cells #[.bool neg,.slice A1 n1 c1,.slice A2 n2 c2] 159)).heap.size (w.alloc (.cells #[.bool neg,.slice A1 n1 c1,.slice A2 n2 c2] 159)) W)=>zkA A1 n1 c1 top W (hT1.later hb) ((h1.later hb1).later hb) (by omega)
  have ht2:=fun (W:World) (hb:Below (w.alloc (.cells #[.bool neg,.slice A1 n1 c1,.slice A2 n2 c2] 159)).heap.size (w.alloc (.cells #[.bool neg,.slice A1 n1 c1,.slice A2 n2 c2] 159)) W)=>zkA A2 n2 c2 bot W (hT1.later hb) ((h2.later hb1).later hb) (by omega)
  have ho:=fun (W:World) (hb:Below (w.alloc (.cells #[.bool neg,.slice A1 n1 c1,.slice A2 n2 c2] 159)).heap.size (w.alloc (.cells #[.bool neg,.slice A1 n1 c1,.slice A2 n2 c2] 159)) W)=>zbm A2 n2 c2 bot W ((h2.later hb1).later hb)
  obtain ⟨s1,hs1⟩:∃ s1:ByteArray,s1=⟨(Lib.decDigits top).toArray⟩:=⟨_,rfl⟩
  obtain ⟨s2,hs2⟩:∃ s2:ByteArray,s2=⟨(Lib.decDigits bot).toArray⟩:=⟨_,rfl⟩
  have e1:s1.data.toList=Lib.decDigits top:=by rw [hs1]
  have e2:s2.data.toList=Lib.decDigits bot:=by rw [hs2]
  simp only [←hs1] at ht1
  simp only [←hs2] at ht2
  have hE:Hid (zaO ⟨neg,top,bot⟩=if 600<s1.size∨600<s2.size then 4 else 0):=by
   unfold Hid zaO
   rw [if_neg hb0,←e1,←e2];simp
  have hS:Hid (zay ⟨neg,top,bot⟩=(if neg then 45 :: s1.data.toList else s1.data.toList)++(if bot=1 then [] else 47 :: s2.data.toList)):=by
   unfold Hid zay;rw [←e1,←e2]
  have hsz1:s1.size<8589934592:=by
   have h0:s1.size=(Lib.decDigits top).length:=by rw [←e1];simp
   have h3:=Dec.dec_length_le (k:=20*n1+1) (r:=top) (by omega) (by
    have h4:=zaa top
    rw [h1.len] at h4
    refine Nat.lt_of_lt_of_le h4 ?_
    have h5:B≤10 ^ 20:=by rw [zfV];omega
    have h6:=Nat.pow_le_pow_left h5 n1
    rw [←Nat.pow_mul] at h6
    exact Nat.le_trans h6 (Nat.pow_le_pow_right (by omega) (by omega)))
   omega
  have hsz2:s2.size<8589934592:=by
   have h0:s2.size=(Lib.decDigits bot).length:=by rw [←e2];simp
   have h3:=Dec.dec_length_le (k:=20*n2+1) (r:=bot) (by omega) (by
    have h4:=zaa bot
    rw [h2.len] at h4
    refine Nat.lt_of_lt_of_le h4 ?_
    have h5:B≤10 ^ 20:=by rw [zfV];omega
    have h6:=Nat.pow_le_pow_left h5 n2
    rw [←Nat.pow_mul] at h6
    exact Nat.le_trans h6 (Nat.pow_le_pow_right (by omega) (by omega)))
   omega
  have HT1:=Lib.hid ht1
  have HT2:=Lib.hid ht2
  have HO:=Lib.hid ho
  have HS1:=Lib.hid hsz1
  have HS2:=Lib.hid hsz2
  have HE2:=Lib.hid e1
  clear ht1 ht2 ho hs1 hs2 e1 e2 hd hb0 hT1 hsz1 hsz2
  go_enter Tryz.func115,Tryz.ntmps115
  go_wp2_with fail
  refine hz.mono ?_
  rintro e w1 ⟨rfl,rfl⟩
  clear hz
  generalize (w.alloc (.cells #[.bool neg,.slice A1 n1 c1,.slice A2 n2 c2] 159))=w3 at *
  obtain ⟨a0,a1,a2,_,_,_,al⟩:=hx1.cells
  go_wp2_with fail
  go_region_held3 (fun w'=>w'.cell? ⟨w.heap.size,0,none⟩=some (.bool neg)∧w'.cell? ⟨w.heap.size,1,none⟩=some (.slice A1 n1 c1)∧w'.cell? ⟨w.heap.size,2,none⟩=some (.slice A2 n2 c2))
   (first | exact ⟨a0,a1,a2⟩ | exact ⟨((hb5.cell (p:=⟨w.heap.size,0,none⟩) al).trans a0),((hb5.cell (p:=⟨w.heap.size,1,none⟩) al).trans a1),((hb5.cell (p:=⟨w.heap.size,2,none⟩) al).trans a2)⟩ | exact ⟨((hb6.cell (p:=⟨w.heap.size,0,none⟩) (al6)).trans ((hb5.cell (p:=⟨w.heap.size,0,none⟩) al).trans a0)),((hb6.cell (p:=⟨w.heap.size,1,none⟩) (al6)).trans ((hb5.cell (p:=⟨w.heap.size,1,none⟩) al).trans a1)),((hb6.cell (p:=⟨w.heap.size,2,none⟩) (al6)).trans ((hb5.cell (p:=⟨w.heap.size,2,none⟩) al).trans a2))⟩)
   (first
    |(go_at_call_of 192 (Value.slice A1 n1 c1);refine (HT1.out w3.drew (Below.drew (Below.refl _ _))).mono ?_;rintro e w4 ⟨rfl,hb5⟩;have al6:=Nat.lt_of_lt_of_le al hb5.size)
    |(go_at_call_of 192 (Value.slice A2 n2 c2);refine (HT2.out w4 (Below.trans (Below.drew (Below.refl _ _)) hb5)).mono ?_;rintro e w6 ⟨rfl,hb6⟩))
  have hB6:Below w3.heap.size w3 w6:=(Below.trans (Below.drew (Below.refl _ _)) hb5).trans (hb6.mono (by have:=hb5.size;exact this))
  have b0:=(hB6.cell (p:=⟨w.heap.size,0,none⟩) al).trans a0
  have b2:=(hB6.cell (p:=⟨w.heap.size,2,none⟩) al).trans a2
  have ho:=HO.out w6 hB6
  have hBw:=hb1.trans (hB6.mono hb1.size)
  clear a0 a1 a2 hb5 hb6 hx1
  by_cases hl:600<s1.size∨600<s2.size
  ·have hmx:decide ((600:Int)<max (s1.size:Int) (s2.size:Int))=true:=by simp only [decide_eq_true_eq];omega
   have hE4:zaO ⟨neg,top,bot⟩=4:=by rw [hE.out,if_pos hl]
   have hW:zaS ⟨neg,top,bot⟩=[]:=by unfold zaS;rw [hE4];rfl
   have HE4:=Lib.hid hE4
   have HW:=Lib.hid hW
   clear hE4 hW hl ho
   go_wp2
   go_ret2
   exact ⟨⟨#[]⟩,by rw [HE4.out];rfl,by rw [HW.out],hBw⟩
  ·have hmx:decide ((600:Int)<max (s1.size:Int) (s2.size:Int))=false:=by simp only [decide_eq_false_iff_not];omega
   have hE3:zaO ⟨neg,top,bot⟩=0:=by rw [hE.out,if_neg hl]
   have hS2:zaS ⟨neg,top,bot⟩=(if neg then 45 :: s1.data.toList else s1.data.toList)++(if bot=1 then [] else 47 :: s2.data.toList):=by
    unfold zaS;rw [if_pos hE3];exact hS.out
   have HE3:=Lib.hid hE3
   have hz1:s1.size≤600:=by omega
   have hz2:s2.size≤600:=by omega
   clear hE3 hl
   by_cases h1:bot=1<;>cases neg
   ·rw [show decide (bot=1)=true from by simpa using h1] at ho
    rw [if_neg (by simp),if_pos h1] at hS2
    have HW:=Lib.hid hS2
    clear h1 hS2
    go_wp2_with fail
    refine ho.mono ?_
    rintro e w7 ⟨rfl,rfl⟩
    go_wp2
    go_ret2
    refine ⟨_,by rw [HE3.out];rfl,?_,hBw⟩
    rw [HW.out]
    simp
   ·rw [show decide (bot=1)=true from by simpa using h1] at ho
    rw [if_pos rfl,if_pos h1] at hS2
    have HW:=Lib.hid hS2
    clear h1 hS2
    go_wp2_with fail
    refine ho.mono ?_
    rintro e w7 ⟨rfl,rfl⟩
    go_wp2
    go_ret2
    refine ⟨_,by rw [HE3.out];rfl,?_,hBw⟩
    rw [HW.out]
    simp
   ·rw [show decide (bot=1)=false from by simpa using h1] at ho
    rw [if_neg (by simp),if_neg h1] at hS2
    have HW:=Lib.hid hS2
    clear h1 hS2
    go_wp2_with fail
    refine ho.mono ?_
    rintro e w7 ⟨rfl,rfl⟩
    go_wp2
    go_ret2
    refine ⟨_,by rw [HE3.out];rfl,?_,hBw⟩
    rw [HW.out]
    simp
   ·rw [show decide (bot=1)=false from by simpa using h1] at ho
    rw [if_pos rfl,if_neg h1] at hS2
    have HW:=Lib.hid hS2
    clear h1 hS2
    go_wp2_with fail
    refine ho.mono ?_
    rintro e w7 ⟨rfl,rfl⟩
    go_wp2
    go_ret2
    refine ⟨_,by rw [HE3.out];rfl,?_,hBw⟩
    rw [HW.out]
    simp
theorem zdo {n:Nat} (h:n<10):(UInt8.ofNat (48+n)).toNat=48+n:=by
 rw [UInt8.toNat_ofNat']
 omega
theorem zij {n:Nat} (h:n<10):digB ((UInt8.ofNat (48+n)).toNat:Int)=true:=by
 rw [zdo h]
 unfold digB
 simp
 omega
theorem znK {c:UInt8} (h:digB (c.toNat:Int)=true):48≤c.toNat∧c.toNat≤57∧c=UInt8.ofNat (48+(c.toNat - 48)):=by
 unfold digB at h
 simp at h
 have h1:48≤c.toNat:=by omega
 have h2:c.toNat≤57:=by omega
 refine ⟨h1,h2,?_⟩
 apply UInt8.toNat_inj.1
 rw [UInt8.toNat_ofNat']
 omega
theorem zaC (n:Nat):zap (Lib.decDigits n)=true:=by
 induction n using Nat.strongRecOn with
 | ind n ih=>
  rw [Lib.decDigits]
  split
  ·rename_i h
   unfold zap
   simp only [List.all_cons,List.all_nil,Bool.and_true]
   exact zij h
  ·rename_i h
   rw [zbu,ih _ (by omega),Bool.true_and]
   unfold zap
   simp only [List.all_cons,List.all_nil,Bool.and_true]
   exact zij (by omega)
theorem zaR (n:Nat):zaf (Lib.decDigits n)=n:=by
 induction n using Nat.strongRecOn with
 | ind n ih=>
  rw [Lib.decDigits]
  split
  ·rename_i h
   show 0*10+((UInt8.ofNat (48+n)).toNat - 48)=n
   rw [zdo h]
   omega
  ·rename_i h
   rw [zc1,ih _ (by omega),zdo (by omega)]
   omega
theorem zqM (n:Nat):Lib.decDigits n≠[]:=by
 have:=Dec.dec_length_pos n
 intro h
 rw [h] at this
 simp at this
theorem zpI {n:Nat} (h:0<n):(Lib.decDigits n).head? ≠ some 48:=by
 induction n using Nat.strongRecOn with
 | ind n ih=>
  rw [Lib.decDigits]
  split
  ·rename_i h1
   intro e
   simp only [List.head?_cons,Option.some.injEq] at e
   have:=congrArg UInt8.toNat e
   rw [zdo h1] at this
   have h48:(48:UInt8).toNat=48:=by decide
   omega
  ·rename_i h1
   have h2:=ih (n / 10) (by omega) (by omega)
   obtain ⟨x,t,hxt⟩:=List.exists_cons_of_ne_nil (zqM (n / 10))
   rw [hxt] at h2 ⊢
   exact h2
theorem zf8 (n:Nat):zaw (Lib.decDigits n)=true:=by
 unfold zaw
 rw [zaC,Bool.true_and]
 rcases Nat.eq_zero_or_pos n with rfl | h
 ·have e:Lib.decDigits 0=[48]:=by rw [Lib.decDigits];rfl
  simp [e]
 ·simp [zqM,zpI h]
theorem zbi:∀ (l:List UInt8),zaw l=true→Lib.decDigits (zaf l)=l:=by
 intro l
 induction hn:l.length using Nat.strongRecOn generalizing l with
 | ind n ih=>
  intro h
  subst hn
  by_cases h48:l=[48]
  ·subst h48
   decide +kernel
  ·have hd:zap l=true:=zaq h
   have hne:l≠[]:=by
    intro e
    subst e
    simp [zaw] at h
   have hh:l.head? ≠ some 48:=by
    unfold zaw at h
    rw [hd] at h
    simp [h48] at h
    exact h.2
   obtain ⟨a,c,rfl⟩:∃ a c,l=a++[c]:=⟨l.dropLast,l.getLast hne,(List.dropLast_concat_getLast hne).symm⟩
   rw [zbu] at hd
   have hda:zap a=true:=by
    cases hq:zap a
    ·rw [hq] at hd;simp at hd
    ·rfl
   have hdc:digB (c.toNat:Int)=true:=by
    rw [hda,Bool.true_and] at hd
    unfold zap at hd
    simpa using hd
   obtain ⟨h1,h2,h3⟩:=znK hdc
   rw [zc1]
   cases a with
   | nil=>
    have e0:zaf []=0:=rfl
    rw [e0,Nat.zero_mul,Nat.zero_add,Lib.decDigits,dif_pos (by omega),List.nil_append]
    rw [←h3]
   | cons x t=>
    have hx:(x :: t).head? ≠ some 48:=by simpa using hh
    have hda2:zaw (x :: t)=true:=by
     unfold zaw
     rw [hda,Bool.true_and]
     simp only [Bool.or_eq_true,Bool.and_eq_true,decide_eq_true_eq]
     exact .inr ⟨by simp,hx⟩
    have hp:0<zaf (x :: t):=zcC hda2 (by intro e;rw [e] at hx;simp at hx)
    have hrec:=ih (x :: t).length (by simp) (x :: t) rfl hda2
    rw [Lib.decDigits,dif_neg (by omega),show (zaf (x :: t)*10+(c.toNat - 48)) / 10=zaf (x :: t) by omega,show (zaf (x :: t)*10+(c.toNat - 48)) % 10=c.toNat - 48 by omega,hrec,←h3]
theorem zdD:∀ (l:List UInt8),(∀ c ∈ l,c≠47)→Lib.indexByte l 47 = -1
 | [],_=>rfl
 | b :: l,h=>by
  have h1:(b==47)=false:=beq_eq_false_iff_ne.2 (h b (List.mem_cons_self ..))
  have h2:=zdD l (fun c hc=>h c (List.mem_cons_of_mem _ hc))
  unfold Lib.indexByte
  rw [h1,h2]
  rfl
theorem zdc:∀ (l r:List UInt8),(∀ c ∈ l,c≠47)→Lib.indexByte (l++47 :: r) 47=l.length
 | [],_,_=>rfl
 | b :: l,r,h=>by
  have h1:(b==47)=false:=beq_eq_false_iff_ne.2 (h b (List.mem_cons_self ..))
  have h2:=zdc l r (fun c hc=>h c (List.mem_cons_of_mem _ hc))
  show (if b==47 then (0:Int) else if Lib.indexByte (l++47 :: r) 47 == -1 then -1 else Lib.indexByte (l++47 :: r) 47+1)=_
  rw [h1,h2]
  have h3:((l.length:Int) == -1)=false:=by rw [beq_eq_false_iff_ne];omega
  simp [h3]
theorem ziA {l:List UInt8} (h:∀ c ∈ l,c≠47):cutL l=(l,[],false):=by
 unfold cutL
 rw [zdD l h]
 rfl
theorem zg4 {l r:List UInt8} (h:∀ c ∈ l,c≠47):cutL (l++47 :: r)=(l,r,true):=by
 unfold cutL
 rw [zdc l r h,if_pos (by omega),Int.toNat_natCast]
 simp
theorem zdd {l:List UInt8} (h:zap l=true) {c:UInt8} (hc:c ∈ l):48≤c.toNat∧c.toNat≤57:=by
 unfold zap at h
 have:=znK (List.all_eq_true.1 h c hc)
 exact ⟨this.1,this.2.1⟩
def sgnT (neg:Bool) (t:List UInt8):List UInt8:=if neg then 45 :: t else t
theorem zcc {neg:Bool} {t:List UInt8} (h:zap t=true):∀ c ∈ sgnT neg t,c≠47:=by
 have h1:∀ c ∈ t,c≠47:=fun c hc e=>by
  have:=(zdd h hc).1
  rw [e] at this
  exact absurd this (by decide)
 unfold sgnT
 cases neg
 ·exact h1
 ·intro c hc
  rcases List.mem_cons.1 hc with rfl | hc
  ·decide
  ·exact h1 c hc
theorem zp2 {neg:Bool} {t:List UInt8} (h:zap t=true):Lib.hasPrefix (sgnT neg t) [45]=neg∧Lib.trimPrefix (sgnT neg t) [45]=t:=by
 have h0:∀ neg,Lib.hasPrefix (sgnT neg t) [45]=neg:=by
  intro neg
  cases neg
  ·unfold sgnT Lib.hasPrefix
   cases t with
   | nil=>rfl
   | cons x r=>
    have:=(zdd h (List.mem_cons_self ..)).1
    have hx:((45:UInt8)==x)=false:=by
     rw [beq_eq_false_iff_ne]
     intro e
     rw [←e] at this
     exact absurd this (by decide)
    simp [List.isPrefixOf,hx]
  ·rfl
 refine ⟨h0 neg,?_⟩
 unfold Lib.trimPrefix
 rw [h0 neg]
 cases neg<;>rfl
def LowQ (p:Q):Prop:=0<p.bot∧Nat.gcd p.top p.bot=1∧(p.neg=true→0<p.top)
theorem zaV (p:Q):zay p=sgnT p.neg (Lib.decDigits p.top)++(if p.bot=1 then [] else 47 :: Lib.decDigits p.bot):=rfl
theorem zfo {n:Nat} (h:0<n):Lib.decDigits n≠[48]:=fun e=>by
 have:=zaR n
 rw [e] at this
 have h48:zaf [48]=0:=by decide
 omega
theorem zpt {n:Nat} (h:n≠1):Lib.decDigits n≠[49]:=fun e=>by
 have:=zaR n
 rw [e] at this
 have h49:zaf [49]=1:=by decide
 omega
theorem zdZ (p:Q) (h:LowQ p) (h1:(Lib.decDigits p.top).length≤600) (h2:(Lib.decDigits p.bot).length≤600):zam (zay p)=0∧zad (zay p)=p:=by
 obtain ⟨hb,hg,hn⟩:=h
 obtain ⟨hp,ht⟩:=zp2 (neg:=p.neg) (zaC p.top)
 by_cases hb1:p.bot=1
 ·have hc:cutL (zay p)=(sgnT p.neg (Lib.decDigits p.top),[],false):=by
   rw [zaV,if_pos hb1,List.append_nil]
   exact ziA (zcc (zaC _))
  have e1:topL (zay p)=Lib.decDigits p.top:=by unfold topL;rw [hc];exact ht
  have e2:negL (zay p)=p.neg:=by unfold negL;rw [hc];exact hp
  have e3:botL (zay p)=[]:=by unfold botL;rw [hc]
  have e4:zcF (zay p)=false:=by unfold zcF;rw [hc]
  have he:zam (zay p)=0:=by
   unfold zam zaY
   rw [e1,e2,e3,e4,if_neg,if_neg,if_neg,if_neg]
   ·simp
   ·simp;exact h1
   ·simp
   ·rw [zf8]
    rintro (h | ⟨h,h'⟩)
    ·cases h
    ·exact zfo (hn h) h'
  refine ⟨he,?_⟩
  unfold zad
  rw [if_pos he,e1,e2,e4,zaR]
  cases p
  simp_all
 ·have hc:cutL (zay p)=(sgnT p.neg (Lib.decDigits p.top),Lib.decDigits p.bot,true):=by
   rw [zaV,if_neg hb1]
   exact zg4 (zcc (zaC _))
  have e1:topL (zay p)=Lib.decDigits p.top:=by unfold topL;rw [hc];exact ht
  have e2:negL (zay p)=p.neg:=by unfold negL;rw [hc];exact hp
  have e3:botL (zay p)=Lib.decDigits p.bot:=by unfold botL;rw [hc]
  have e4:zcF (zay p)=true:=by unfold zcF;rw [hc]
  have he:zam (zay p)=0:=by
   unfold zam zaY
   rw [e1,e2,e3,e4,if_neg,if_neg,if_neg,if_neg]
   ·rw [zaR,zaR]
    simp [hg]
   ·omega
   ·rw [zf8]
    rintro ⟨_,h | h | h⟩
    ·cases h
    ·exact zfo hb h
    ·exact zpt hb1 h
   ·rw [zf8]
    rintro (h | ⟨h,h'⟩)
    ·cases h
    ·exact zfo (hn h) h'
  refine ⟨he,?_⟩
  unfold zad
  rw [if_pos he,e1,e2,e3,e4,zaR,zaR]
  rfl
theorem ziG (l:List UInt8):l=(cutL l).1++(if (cutL l).2.2=true then 47 :: (cutL l).2.1 else []):=by
 unfold cutL
 split
 ·rename_i h
  obtain ⟨o,ho⟩:=Int.eq_ofNat_of_zero_le h
  obtain ⟨h1,_⟩:=Lib.indexByte_some ho
  rw [ho]
  simp only [Int.toNat_natCast,if_true]
  have hlt:o<l.length:=by
   rcases Nat.lt_or_ge o l.length with h3 | h3
   ·exact h3
   ·rw [List.getElem?_eq_none h3] at h1;cases h1
  rw [List.getElem?_eq_getElem hlt] at h1
  injection h1 with h1
  conv=>lhs;rw [←List.take_append_drop o l,List.drop_eq_getElem_cons hlt,h1]
 ·simp
theorem zpT (t:List UInt8):t=sgnT (Lib.hasPrefix t [45]) (Lib.trimPrefix t [45]):=by
 unfold sgnT Lib.trimPrefix
 cases h:Lib.hasPrefix t [45]
 ·rfl
 ·cases t with
  | nil=>cases h
  | cons x r=>
   unfold Lib.hasPrefix at h
   simp [List.isPrefixOf] at h
   subst h
   rfl
theorem zjC (l:List UInt8) (h:zam l=0):zay (zad l)=l:=by
 obtain ⟨h1,_,_,h4⟩:=zbC h
 have e0:zad l=⟨negL l,zaf (topL l),if zcF l then zaf (botL l) else 1⟩:=by unfold zad;rw [if_pos h]
 have ej:=ziG l
 have es:=zpT (cutL l).1
 rw [zaV,e0]
 dsimp only
 rw [zbi _ h1]
 have e1:sgnT (negL l) (topL l)=(cutL l).1:=es.symm
 rw [e1]
 cases hf:zcF l
 ·have hf2:(cutL l).2.2=false:=hf
  rw [hf2] at ej
  simpa using ej.symm
 ·have hf2:(cutL l).2.2=true:=hf
  obtain ⟨h5,h6,h7,_⟩:=h4 hf
  have hne:zaf (botL l)≠1:=fun e=>by
   have:=zbi _ h5
   rw [e] at this
   exact h7 (this.symm.trans (by decide +kernel))
  rw [hf2] at ej
  simp only [if_true] at ej
  rw [if_pos rfl,if_neg hne,zbi _ h5]
  exact ej.symm
end Go.Proofs.YtmkihdjolnlccaaGreatDoor
