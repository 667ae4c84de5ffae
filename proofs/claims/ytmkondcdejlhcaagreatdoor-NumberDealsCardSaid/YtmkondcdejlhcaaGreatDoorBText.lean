/- Contract of text: the decimal digits of a natural number. -/
import Derived.Test.YtmkondcdejlhcaaGreatDoorBRat1
import Derived.Test.YtmkondcdejlhcaaGreatDoorBRat2
import Derived.Deep.RegionHeld3
set_option maxRecDepth 100000
set_option maxHeartbeats 4000000
namespace Go.Proofs.YtmkondcdejlhcaaGreatDoor
open Go.RowKit Bn
theorem zlL {x n k:Nat} (hx:x<B ^ n) (hk:2*n≤k):x / Dec.T ^ k=0:=by
 refine Nat.div_eq_of_lt (Nat.lt_of_lt_of_le hx ?_);have h1:B≤Dec.T ^ 2:=by rw [B_def,Dec.T_def];omega
 have h2:B ^ n≤(Dec.T ^ 2) ^ n:=Nat.pow_le_pow_left h1 n;rw [←Nat.pow_mul] at h2;exact Nat.le_trans h2 (Nat.pow_le_pow_right Dec.T_pos hk)
theorem zjb {w w':World} {base:Nat} {e:TypeId} {size n:Nat} {v:Value} {xs:List Value} (h:w.ownsRow base e size v n xs) (hb:Below w.heap.size w w'):w'.ownsRow base e size v n xs:=
 World.ownsRow.kept h (zfd hb none) (Classical.em _)
theorem zed {T e:TypeId} {B b:Nat} {bs:List Value} {w w':World} (h:Lib.IsBuilder T e B b bs w) (hb:Below w.heap.size w w'):Lib.IsBuilder T e B b bs w':=by
 have key:∀ p,Lib.BuilderAt T e B b p bs w→Lib.BuilderAt T e B b p bs w':=by
  rintro p ⟨hB,v,aC,aA,aD⟩;refine ⟨hB,v,?_,zjb aA hb,aD⟩;rw [hb.block b ?_]
  ·exact aC
  ·rcases Nat.lt_or_ge b w.heap.size with h | h
   ·exact h
   ·rw [Array.getElem?_eq_none h] at aC;cases aC
 rcases h with h | h
 ·exact .inl (key _ h)
 ·exact .inr (key _ h)
theorem ziB (w:World) (T e:TypeId):Lib.IsBuilder T e w.heap.size w.heap.size [] (w.alloc (.cells #[.pointer none,.slice none 0 0] T)):=
 .inl ⟨Nat.le_refl _,.slice none 0 0,heap_alloc_new w _,World.ownsRow_nil _ _ _ _,by simp [Value.ownBlock]⟩
theorem zif (k:Nat):Lib.repeatL [48] k=List.replicate k 48:=by
 induction k with
 | zero=>rfl
 | succ k ih=>rw [Lib.repeatL,ih,List.replicate_succ];rfl
def zce (x k j:Nat):List UInt8:=if j=k then [] else Lib.decDigits (x / Dec.T ^ j)
theorem zlF {x k:Nat} (j:Nat) (hk:0<k) (h:x / Dec.T ^ k=0):(zce x k j).length≤19*k:=by
 unfold zce
 split
 ·simp
 ·refine Dec.dec_length_le (by omega) (Nat.lt_of_le_of_lt (Nat.div_le_self _ _) ?_)
  have h1:x<Dec.T ^ k:=by
   rcases Nat.lt_or_ge x (Dec.T ^ k) with h2 | h2
   ·exact h2
   ·have:=Nat.div_pos h2 (Nat.pow_pos Dec.T_pos);omega
  rwa [Dec.T_pow,←Nat.pow_mul] at h1
theorem zrD (x k:Nat):x / Dec.T ^ k / Dec.T=x / Dec.T ^ (k+1):=by rw [Nat.pow_succ,Nat.div_div_eq_div_mul]
theorem zkY (A:Option Addr) (n c x:Nat) (w:World) (hT:Tabs w) (ha:NatS w w.heap.size A n c x) (hn:n≤1073741824) :
  Calls Tryz.prog 127 #[.slice A n c] w fun e w'=>e = .returned (.string ⟨(Lib.decDigits x).toArray⟩)∧Below w.heap.size w w':=by
 obtain ⟨i0,dG,dL,dK,cU⟩:=info_parts zcF
 by_cases hx:x=0
 ·subst hx
  have hz:=zaU A n c 0 w ha;have hd:Hid ((⟨(Lib.decDigits 0).toArray⟩:ByteArray)=⟨#[48]⟩):=by unfold Hid;rw [Dec.dec_lt (by omega)];rfl
  go_enter Tryz.func127,Tryz.ntmps127
  go_wp2_with fail
  refine hz.mono ?_;rintro e w1 ⟨rfl,rfl⟩;go_wp2
  go_ret;exact ⟨by rw [hd.out];rfl,Below.refl _ _⟩
 ·have hz:=zaU A n c x w ha
  have hd:decide (x=0)=false:=by simpa using hx
  rw [hd] at hz;have cI:x<B ^ n:=by have:=zae x;rw [ha.len] at this;exact this
  have cF:=Aa cI;have HX:=Aa hx;clear hd cI hx;go_enter Tryz.func127,Tryz.ntmps127
  go_wp2_with fail
  refine hz.mono ?_;rintro e w1 ⟨rfl,rfl⟩
  go_wp2_with fail
  clear hz
  go_loopg [0,3] x (fun G sa sc we=>∃ A2 m2 c2 k ao bI,sa = .slice A2 m2 c2∧NatS we we.heap.size A2 m2 c2 (x / Dec.T ^ k)∧sc = .slice ao k bI∧we.ownsRow w.heap.size 136 1 (.slice ao k bI) k ((Dec.chunks x k).map u64v)∧Hid (0<k→x / Dec.T ^ (k - 1)≠0)∧x / Dec.T ^ k≤G∧m2≤n∧k≤2*n∧Below w.heap.size w we)
  case atStart=>exact ⟨A,n,c,0,none,0,rfl,by simpa using ha,rfl,World.ownsRow_nil _ _ _ _,fun h=>absurd h (by omega),by simp,Nat.le_refl _,Nat.zero_le _,Below.refl _ _⟩
  case round=>
   clear ha;obtain ⟨A2,m2,c2,k,ao,bI,rfl,bM,rfl,aK,aE,hG,dR,hk,aH⟩:=hrel;obtain ⟨we,rfl⟩:∃ we:World,we=wr:=⟨_,rfl⟩;have hz:=zaU A2 m2 c2 (x / Dec.T ^ k) we bM
   by_cases h0:x / Dec.T ^ k=0
   ·have hd:decide (x / Dec.T ^ k=0)=true:=by simpa using h0
    rw [hd] at hz;have H0:=Aa h0;have dQ:=Aa bM;clear hd h0 hG bM
    go_wp2_with fail
    refine hz.mono ?_;rintro e w1 ⟨rfl,rfl⟩;clear hz;have cS:0<k:=by
     rcases Nat.eq_zero_or_pos k with h | h
     ·subst h;exact absurd (by simpa using H0.out) HX.out
     ·exact h
    have cY:zbU we we.heap.size ao k (Dec.chunks x k):=zaC.of_own aK;have cQ:Below we.heap.size we (we.alloc (.cells #[.pointer none,.slice none 0 0] 198)):=Ac;have aD:=aE.out cS;have bA:=Aa aD;have cO:=ziB we 198 5;clear aD aE
    go_wp2_with fail
    go_loopw [6] (fun si wb=>∃ (j:Nat) (i:Int),i=(j:Int) - 1∧j≤k∧si = .int .i64 i∧Lib.IsBuilder 198 5 we.heap.size we.heap.size (Lib.byteCells (zce x k j)) wb∧Below we.heap.size we wb) (fun si _=>(intOf si+1).toNat)
    case atStart=>exact ⟨k,(k:Int) - 1,rfl,Nat.le_refl _,by first | rfl | simp,by unfold zce;rw [if_pos rfl];exact cO,cQ⟩
    case round=>
     clear cO cQ;obtain ⟨j,i,hi,hj,rfl,aT,aV⟩:=hrel;obtain ⟨wb,rfl⟩:∃ wb:World,wb=wr:=⟨_,rfl⟩;have cM:=aV.size;have bV:we.heap.size<wb.heap.size:=by
      have h9:∃ p,Lib.BuilderAt 198 5 we.heap.size we.heap.size p (Lib.byteCells (zce x k j)) wb:=by
       rcases aT with h | h
       ·exact ⟨_,h⟩
       ·exact ⟨_,h⟩
      obtain ⟨p,_,v,cK,_⟩:=h9
      rcases Nat.lt_or_ge we.heap.size wb.heap.size with h | h
      ·exact h
      ·rw [Array.getElem?_eq_none h] at cK;cases cK
     by_cases hj0:0<j
     ·obtain ⟨q,rfl⟩:∃ q,j=q+1:=⟨j - 1,by omega⟩
      have bO:i=(q:Int):=by omega
      subst bO;obtain ⟨ad,rfl,_,aU⟩:=zbU.word (w:=wb) (B:=we.heap.size) (A:=ao) (n:=k) (l:=Dec.chunks x k) (zaC.below cY aV) (k:=q) (by omega);have aP:=Dec.chunks_get x k q (by omega);have aL:(Dec.chunks x k).getD q 0<Dec.T:=by rw [aP];exact Nat.mod_lt _ Dec.T_pos
      generalize (Dec.chunks x k).getD q 0=cv at aU aP aL;have aW:cv<18446744073709551616:=by rw [Dec.T_def] at aL;omega
      have hf:=zhj cv aW wb ((hT.later aH).later aV);have cV:(Lib.decDigits cv).length≤19:=Dec.dec_length_le (by omega) (by rw [←Dec.T_pow];exact aL);obtain ⟨sd,bP⟩:∃ sd:ByteArray,sd=⟨(Lib.decDigits cv).toArray⟩:=⟨_,rfl⟩;have aS:sd.data.toList=Lib.decDigits cv:=by rw [bP]
      have dI:sd.size≤19:=by
       have:sd.data.toList.length=sd.size:=by simp
       rw [aS] at this;omega
      rw [←bP] at hf;have cH:=zlF (q+1) cS H0.out;have cN:=Aa cH;have HF:=Aa hf;have cR:=Aa aP;have aO:=Aa aS;clear hf aP aL aW cV bP aS hj0 hi cH
      go_wp2_with fail
      refine HF.out.mono ?_;rintro e w1 ⟨rfl,cL⟩;have aA:=zed aT cL;have bK:Below we.heap.size we w1:=aV.trans (cL.mono cM)
      by_cases hq:q+1=k
      ·have cG:zce x k (q+1)=[]:=by unfold zce;rw [if_pos hq]
       rw [cG] at aA;have hl:=Tryz.Builder_Len we.heap.size we.heap.size _ w1 aA;have cE:(Lib.byteCells []).length=0:=rfl;have aG:Hid (Lib.byteCells []++Lib.strCells sd=Lib.byteCells (zce x k q)):=by
        have h1:x / Dec.T ^ q<Dec.T:=by
         have h2:=H0.out;rw [←hq,←zrD] at h2;exact (Nat.div_eq_zero_iff_lt Dec.T_pos).1 h2
        have h3:cv=x / Dec.T ^ q:=by rw [cR.out,Nat.mod_eq_of_lt h1]
        unfold Hid zce;rw [if_neg (by omega),←h3,←aO.out];rfl
       rw [cE] at hl;have HL:=Aa hl;clear hl cE cG aT
       go_wp2_with fail
       refine HL.out.mono ?_;rintro e w2 ⟨rfl,bW⟩;subst bW
       go_wp2_with fail
       refine (zcU we.heap.size we.heap.size _ sd _ aA (by rw [Lib.byteCells_length,List.length_nil];omega) bK.size).mono ?_;rintro e w3 ⟨rfl,bF,dJ⟩;have aJ:Lib.IsBuilder 198 5 we.heap.size we.heap.size (Lib.byteCells (zce x k q)) w3:=by rw [←aG.out];exact .inr bF
       have cT:=bK.trans dJ;clear bF aA;go_wp2
       go_roundw
       case rel=>exact ⟨q,(q:Int) - 1,rfl,by omega,by go_num,aJ,cT⟩
       case measure=>simp [intOf]
      ·have bH:0<x / Dec.T ^ (q+1):=by
        refine Nat.pos_of_ne_zero fun h=>bA.out ?_
        have h1:x / Dec.T ^ (k - 1)=x / Dec.T ^ (q+1) / Dec.T ^ (k - 1 - (q+1)):=by rw [Nat.div_div_eq_div_mul,←Nat.pow_add];congr 2;omega
        rw [h1,h];simp
       have hl:=Tryz.Builder_Len we.heap.size we.heap.size _ w1 aA;rw [Lib.byteCells_length] at hl;have dH:0<(zce x k (q+1)).length:=by unfold zce;rw [if_neg hq];exact Dec.dec_length_pos _
       have cA:(19:Int) - (sd.size:Int)=((19 - sd.size:Nat):Int):=by omega
       have aR:Calls Tryz.prog 178 #[.string ⟨#[48]⟩,.int .i64 (19 - (sd.size:Int))] w1 fun e w'=>e = .returned (.string ⟨(Lib.repeatL [48] (19 - sd.size)).toArray⟩)∧Below w1.heap.size w1 w':=by
        rw [cA];have e1:(⟨#[48]⟩:ByteArray).size=1:=rfl;exact Tryz.strings_Repeat ⟨#[48]⟩ (19 - sd.size) w1 (by omega) (by rw [e1];omega)
       have aG:Hid (Lib.byteCells (zce x k (q+1))++Lib.strCells ⟨(Lib.repeatL [48] (19 - sd.size)).toArray⟩++Lib.strCells sd=Lib.byteCells (zce x k q)):=by
        have h1:=Dec.dec_chunk x q bH;have h2:sd.size=(Lib.decDigits cv).length:=by rw [←aO.out];simp
        rw [←cR.out,←h2,←aO.out] at h1;unfold Hid zce;rw [if_neg hq,if_neg (by omega),h1,zif,Lib.strCells_toArray,Lib.strCells_eq];simp [Lib.byteCells]
       have dA:(⟨(Lib.repeatL [48] (19 - sd.size)).toArray⟩:ByteArray).size≤19:=by
        show (Lib.repeatL [48] (19 - sd.size)).length≤19
        rw [Lib.repeatL_length];simp
       generalize (⟨(Lib.repeatL [48] (19 - sd.size)).toArray⟩:ByteArray)=sr at aR aG dA;generalize bL:zce x k (q+1)=tx at hl dH aA aG cN;have HL:=Aa hl;have bT:=Aa aR;clear hl aR cA bH bL aT
       go_wp2_with fail
       refine HL.out.mono ?_;rintro e w2 ⟨rfl,bW⟩;subst bW
       go_wp2_with fail
       refine bT.out.mono ?_;rintro e w4 ⟨rfl,bG⟩;have aJ:=zed aA bG;have cC:Below we.heap.size we w4:=Ad bK bG;have dO:=cN.out
       go_wp2_with fail
       refine (zcU we.heap.size we.heap.size _ sr w4 aJ (by rw [Lib.byteCells_length];omega) cC.size).mono ?_;rintro e w5 ⟨rfl,bE,dB⟩;have cJ:=cC.trans dB
       go_wp2_with fail
       refine (zcU we.heap.size we.heap.size _ sd w5 (.inr bE) (by rw [List.length_append,Lib.byteCells_length,Lib.strCells_length];omega) cJ.size).mono ?_;rintro e w6 ⟨rfl,aZ,dN⟩;have bZ:Lib.IsBuilder 198 5 we.heap.size we.heap.size (Lib.byteCells (zce x k q)) w6:=by rw [←aG.out];exact .inr aZ
       have dD:=cJ.trans dN;clear aZ bE aJ aA;go_wp2
       go_roundw
       case rel=>exact ⟨q,(q:Int) - 1,rfl,by omega,by go_num,bZ,dD⟩
       case measure=>simp [intOf]
     ·have bQ:j=0:=by omega
      subst bQ;have bO:i = -1:=by omega
      subst bO;have bL:zce x k 0=Lib.decDigits x:=by unfold zce;rw [if_neg (by omega)];simp
      rw [bL] at aT;have hs:=Tryz.Builder_String_any we.heap.size we.heap.size (Lib.decDigits x) wb aT cM;have HS:=Aa hs;clear hs bL hi hj0
      go_wp2_with fail
      refine HS.out.mono ?_;rintro e w9 ⟨rfl,cZ⟩;go_wp2
      go_ret;exact ⟨rfl,aH.trans ((aV.trans cZ).mono aH.size)⟩
   ·have hd:decide (x / Dec.T ^ k=0)=false:=by simpa using h0
    rw [hd] at hz;have bJ:Calls Tryz.prog 174 #[.slice A2 m2 c2,.int .u64 10000000000000000000] we _:=zbl A2 m2 c2 (x / Dec.T ^ k) 10000000000000000000 we bM (by omega) (by omega) (by omega);have bN:x / Dec.T ^ k / 10000000000000000000=x / Dec.T ^ (k+1):=zrD x k;rw [bN] at bJ;have bV:x / Dec.T ^ (k+1)<x / Dec.T ^ k:=by rw [←bN];exact Nat.div_lt_self (Nat.pos_of_ne_zero h0) (by omega)
    have cP:x / Dec.T ^ k % 10000000000000000000=(Dec.chunks x (k+1)).getD k 0:=by rw [Dec.chunks_get x (k+1) k (by omega)];rfl
    have dF:k+1≤2*n:=by
     rcases Nat.lt_or_ge k (2*n) with h | h
     ·omega
     ·exact absurd (zlL cF.out h) h0
    have cB:=Dec.chunks_succ x k;generalize aP:x / Dec.T ^ k % 10000000000000000000=cv at bJ cP;have bU:Hid (Dec.chunks x (k+1)=Dec.chunks x k++[cv]):=by unfold Hid;rw [cB,←aP];rfl
    have HL:Hid (0<k+1→x / Dec.T ^ (k+1 - 1)≠0):=by intro _;simpa using h0
    have cW:=Aa bJ;have dM:=Aa bV;have HG:=Aa hG;clear hd h0 bJ bN bV cP cB aP hG aE
    go_wp2_with fail
    refine hz.mono ?_;rintro e w1 ⟨rfl,rfl⟩;clear hz
    go_wp2_with fail
    refine cW.out.mono ?_;rintro e w4 ⟨m4,c4,rfl,bS,bG⟩;have aI:=zjb aK bG;have bB:m4≤n:=by
     rw [←bS.nat.len];refine Nat.le_trans (zaa (Nat.div_le_self _ _)) ?_;have:=cF.out;exact digs_length_le this
    have aC:=Ad aH bG
    go_wp2_with (at_builtin;refine wpList_append_own _ rfl _ _ 88 rfl w.heap.size 136 i0 (.int .u64 0) 1 8 Tryz.underlying88 dG dL dK cU rfl (by decide) _ _ _ rfl (aI.alloc _) ⟨w4.heap.size,0,none⟩ 1 1 [.int .u64 (cv:Int)] rfl rfl (cell_one_new _ _ _) ?c2 ?c3 ?c4 ?c5 ?_)
    case c2=>intro u hu;simp at hu;subst hu;rfl
    case c3=>unfold maxLen;omega
    case c4=>omega
    case c5=>have:=aC.size;simp;omega
    intro v' w5 aN aF _;have bC:Below w.heap.size w w5:=(aC.alloc aC.size _).grown aF (by have:=aC.size;simp;omega) (fun q hq=>(aI.lt q hq).1);have bD:NatS w5 w5.heap.size (some ⟨we.heap.size,0,none⟩) m4 c4 (x / Dec.T ^ (k+1)):=
     ((bS.alloc _).kept aF (fun e=>by have:=(aK.lt _ e).2;omega)).nat
    have aM:w5.ownsRow w.heap.size 136 1 v' (k+1) ((Dec.chunks x (k+1)).map u64v):=by
     rw [bU.out,List.map_append];exact aN
    obtain ⟨bR,aQ,rfl⟩:∃ bR aQ,v' = .slice bR (k+1) aQ:=by
     rcases aM.2 with ⟨_,h0⟩ | ⟨g,bI,dP,hv,_⟩
     ·exact absurd h0 (by omega)
     ·exact ⟨_,_,hv⟩
    clear aN aF aI aK bS
    go_wp2_with fail
    go_roundg (x / Dec.T ^ (k+1))
    case measure=>exact Nat.lt_of_lt_of_le dM.out HG.out
    case rel=>exact ⟨_,m4,c4,k+1,bR,aQ,rfl,bD,rfl,aM,HL,Nat.le_refl _,bB,dF,bC⟩
def zaq (q:Q):List UInt8:=(if q.neg then 45 :: Lib.decDigits q.top else Lib.decDigits q.top)++(if q.bot=1 then [] else 47 :: Lib.decDigits q.bot)
def zao (q:Q):Int:=if q.bot=0 then 6 else if 600<(Lib.decDigits q.top).length∨600<(Lib.decDigits q.bot).length then 4 else 0
def zaJ (q:Q):List UInt8:=if zao q=0 then zaq q else []
def za0 (w:World) (l:List UInt8) (x:Int) (e:Ending) (w':World):Prop:=∃ s:ByteArray,e = .returned (.tuple #[.string s,.int .i64 x])∧s.data.toList=l∧Below w.heap.size w w'
theorem zgh (q:Q) (A1 A2:Option Addr) (n1 c1 n2 c2:Nat) (w:World) (hT:Tabs w) (h1:NatS w w.heap.size A1 n1 c1 q.top) (h2:NatS w w.heap.size A2 n2 c2 q.bot) (k1:n1≤268435456) (k2:n2≤268435456) :
  Calls Tryz.prog 65 #[.agg #[.bool q.neg,.slice A1 n1 c1,.slice A2 n2 c2]] w (za0 w (zaJ q) (zao q)):=by
 obtain ⟨neg,top,bot⟩:=q
 dsimp only at h1 h2 ⊢
 have aD:Below w.heap.size w (w.alloc (.cells #[.bool neg,.slice A1 n1 c1,.slice A2 n2 c2] 91)):=Ac;have aS:zaf (w.alloc (.cells #[.bool neg,.slice A1 n1 c1,.slice A2 n2 c2] 91)) w.heap.size neg (.slice A1 n1 c1) (.slice A2 n2 c2):=zaf.new w _ _ _;have hz:=zaU A2 n2 c2 bot _ (h2.later aD)
 by_cases hb0:bot=0
 ·have hE:zao ⟨neg,top,bot⟩=6:=by unfold zao;rw [if_pos hb0]
  have hW:zaJ ⟨neg,top,bot⟩=[]:=by unfold zaJ;rw [hE];rfl
  have hd:decide (bot=0)=true:=by simpa using hb0
  rw [hE,hW];rw [hd] at hz;clear hE hW hb0 hd;go_enter Tryz.func65,Tryz.ntmps65
  go_wp2_with fail
  refine hz.mono ?_;rintro e w1 ⟨rfl,rfl⟩;go_wp2
  go_ret2
  exact ⟨⟨#[]⟩,rfl,rfl,aD⟩
 ·have hd:decide (bot=0)=false:=by simpa using hb0
  rw [hd] at hz;have aN:=hT.later aD;have aR:=fun (W:World) (hb:Below (w.alloc (.cells #[.bool neg,.slice A1 n1 c1,.slice A2 n2 c2] 91)).heap.size (w.alloc (.cells #[.bool neg,.slice A1 n1 c1,.slice A2 n2 c2] 91)) W)=>zkY A1 n1 c1 top W (aN.later hb) ((h1.later aD).later hb) (by omega)
  have aL:=fun (W:World) (hb:Below (w.alloc (.cells #[.bool neg,.slice A1 n1 c1,.slice A2 n2 c2] 91)).heap.size (w.alloc (.cells #[.bool neg,.slice A1 n1 c1,.slice A2 n2 c2] 91)) W)=>zkY A2 n2 c2 bot W (aN.later hb) ((h2.later aD).later hb) (by omega)
  have ho:=fun (W:World) (hb:Below (w.alloc (.cells #[.bool neg,.slice A1 n1 c1,.slice A2 n2 c2] 91)).heap.size (w.alloc (.cells #[.bool neg,.slice A1 n1 c1,.slice A2 n2 c2] 91)) W)=>zbN A2 n2 c2 bot W ((h2.later aD).later hb)
  obtain ⟨s1,aO⟩:∃ s1:ByteArray,s1=⟨(Lib.decDigits top).toArray⟩:=⟨_,rfl⟩;obtain ⟨s2,aP⟩:∃ s2:ByteArray,s2=⟨(Lib.decDigits bot).toArray⟩:=⟨_,rfl⟩;have e1:s1.data.toList=Lib.decDigits top:=by rw [aO]
  have e2:s2.data.toList=Lib.decDigits bot:=by rw [aP]
  simp only [←aO] at aR
  simp only [←aP] at aL
  have hE:Hid (zao ⟨neg,top,bot⟩=if 600<s1.size∨600<s2.size then 4 else 0):=by
   unfold Hid zao;rw [if_neg hb0,←e1,←e2];simp
  have hS:Hid (zaq ⟨neg,top,bot⟩=(if neg then 45 :: s1.data.toList else s1.data.toList)++(if bot=1 then [] else 47 :: s2.data.toList)):=by
   unfold Hid zaq;rw [←e1,←e2]
  have aE:s1.size<8589934592:=by
   have h0:s1.size=(Lib.decDigits top).length:=by rw [←e1];simp
   have h3:=Dec.dec_length_le (k:=20*n1+1) (r:=top) (by omega) (by
    have h4:=zae top;rw [h1.len] at h4;refine Nat.lt_of_lt_of_le h4 ?_;have h5:B≤10 ^ 20:=by rw [B_def];omega
    have h6:=Nat.pow_le_pow_left h5 n1;rw [←Nat.pow_mul] at h6;exact Nat.le_trans h6 (Nat.pow_le_pow_right (by omega) (by omega)))
   omega
  have aG:s2.size<8589934592:=by
   have h0:s2.size=(Lib.decDigits bot).length:=by rw [←e2];simp
   have h3:=Dec.dec_length_le (k:=20*n2+1) (r:=bot) (by omega) (by
    have h4:=zae bot;rw [h2.len] at h4;refine Nat.lt_of_lt_of_le h4 ?_;have h5:B≤10 ^ 20:=by rw [B_def];omega
    have h6:=Nat.pow_le_pow_left h5 n2;rw [←Nat.pow_mul] at h6;exact Nat.le_trans h6 (Nat.pow_le_pow_right (by omega) (by omega)))
   omega
  have aV:=Aa aR;have aU:=Aa aL;have HO:=Aa ho;have bD:=Aa aE;have bB:=Aa aG;have bC:=Aa e1;clear aR aL ho aO aP e1 e2 hd hb0 aN aE aG;go_enter Tryz.func65,Tryz.ntmps65
  go_wp2_with fail
  refine hz.mono ?_;rintro e w1 ⟨rfl,rfl⟩;clear hz;generalize (w.alloc (.cells #[.bool neg,.slice A1 n1 c1,.slice A2 n2 c2] 91))=w3 at *;obtain ⟨a0,a1,a2,_,_,_,al⟩:=aS.cells
  go_wp2_with fail
  go_region_held3 (fun w'=>w'.cell? ⟨w.heap.size,0,none⟩=some (.bool neg)∧w'.cell? ⟨w.heap.size,1,none⟩=some (.slice A1 n1 c1)∧w'.cell? ⟨w.heap.size,2,none⟩=some (.slice A2 n2 c2))
   (first | exact ⟨a0,a1,a2⟩ | exact ⟨((aC.cell (p:=⟨w.heap.size,0,none⟩) al).trans a0),((aC.cell (p:=⟨w.heap.size,1,none⟩) al).trans a1),((aC.cell (p:=⟨w.heap.size,2,none⟩) al).trans a2)⟩ | exact ⟨((aF.cell (p:=⟨w.heap.size,0,none⟩) (aQ)).trans ((aC.cell (p:=⟨w.heap.size,0,none⟩) al).trans a0)),((aF.cell (p:=⟨w.heap.size,1,none⟩) (aQ)).trans ((aC.cell (p:=⟨w.heap.size,1,none⟩) al).trans a1)),((aF.cell (p:=⟨w.heap.size,2,none⟩) (aQ)).trans ((aC.cell (p:=⟨w.heap.size,2,none⟩) al).trans a2))⟩)
   (first
    |(go_at_call_of 127 (Value.slice A1 n1 c1);refine (aV.out w3.drew (Below.drew (Below.refl _ _))).mono ?_;rintro e w4 ⟨rfl,aC⟩;have aQ:=Nat.lt_of_lt_of_le al aC.size)
    |(go_at_call_of 127 (Value.slice A2 n2 c2);refine (aU.out w4 (Below.trans (Below.drew (Below.refl _ _)) aC)).mono ?_;rintro e w6 ⟨rfl,aF⟩))
  have aI:Below w3.heap.size w3 w6:=(Below.trans (Below.drew (Below.refl _ _)) aC).trans (aF.mono (by have:=aC.size;exact this));have b0:=(aI.cell (p:=⟨w.heap.size,0,none⟩) al).trans a0;have b2:=(aI.cell (p:=⟨w.heap.size,2,none⟩) al).trans a2;have ho:=HO.out w6 aI;have aH:=Ad aD aI;clear a0 a1 a2 aC aF aS
  by_cases hl:600<s1.size∨600<s2.size
  ·have aW:decide ((600:Int)<max (s1.size:Int) (s2.size:Int))=true:=by simp only [decide_eq_true_eq];omega
   have aK:zao ⟨neg,top,bot⟩=4:=by rw [hE.out,if_pos hl]
   have hW:zaJ ⟨neg,top,bot⟩=[]:=by unfold zaJ;rw [aK];rfl
   have aT:=Aa aK;have HW:=Aa hW;clear aK hW hl ho;go_wp2
   go_ret2
   exact ⟨⟨#[]⟩,by rw [aT.out];rfl,by rw [HW.out],aH⟩
  ·have aW:decide ((600:Int)<max (s1.size:Int) (s2.size:Int))=false:=by simp only [decide_eq_false_iff_not];omega
   have aM:zao ⟨neg,top,bot⟩=0:=by rw [hE.out,if_neg hl]
   have aA:zaJ ⟨neg,top,bot⟩=(if neg then 45 :: s1.data.toList else s1.data.toList)++(if bot=1 then [] else 47 :: s2.data.toList):=by
    unfold zaJ;rw [if_pos aM];exact hS.out
   have aJ:=Aa aM;have aZ:s1.size≤600:=by omega
   have bA:s2.size≤600:=by omega
   clear aM hl
   by_cases h1:bot=1<;>cases neg
   ·rw [show decide (bot=1)=true from by simpa using h1] at ho
    rw [if_neg (by simp),if_pos h1] at aA;have HW:=Aa aA;clear h1 aA
    go_wp2_with fail
    refine ho.mono ?_;rintro e w7 ⟨rfl,rfl⟩;go_wp2
    go_ret2
    refine ⟨_,by rw [aJ.out];rfl,?_,aH⟩;rw [HW.out];simp
   ·rw [show decide (bot=1)=true from by simpa using h1] at ho
    rw [if_pos rfl,if_pos h1] at aA;have HW:=Aa aA;clear h1 aA
    go_wp2_with fail
    refine ho.mono ?_;rintro e w7 ⟨rfl,rfl⟩;go_wp2
    go_ret2
    refine ⟨_,by rw [aJ.out];rfl,?_,aH⟩;rw [HW.out];simp
   ·rw [show decide (bot=1)=false from by simpa using h1] at ho
    rw [if_neg (by simp),if_neg h1] at aA;have HW:=Aa aA;clear h1 aA
    go_wp2_with fail
    refine ho.mono ?_;rintro e w7 ⟨rfl,rfl⟩;go_wp2
    go_ret2
    refine ⟨_,by rw [aJ.out];rfl,?_,aH⟩;rw [HW.out];simp
   ·rw [show decide (bot=1)=false from by simpa using h1] at ho
    rw [if_pos rfl,if_neg h1] at aA;have HW:=Aa aA;clear h1 aA
    go_wp2_with fail
    refine ho.mono ?_;rintro e w7 ⟨rfl,rfl⟩;go_wp2
    go_ret2
    refine ⟨_,by rw [aJ.out];rfl,?_,aH⟩;rw [HW.out];simp
theorem zds {n:Nat} (h:n<10):(UInt8.ofNat (48+n)).toNat=48+n:=by
 rw [UInt8.toNat_ofNat'];omega
theorem zjm {n:Nat} (h:n<10):digB ((UInt8.ofNat (48+n)).toNat:Int)=true:=by
 rw [zds h];unfold digB;simp
 omega
theorem znN {c:UInt8} (h:digB (c.toNat:Int)=true):48≤c.toNat∧c.toNat≤57∧c=UInt8.ofNat (48+(c.toNat - 48)):=by
 unfold digB at h;simp at h
 have h1:48≤c.toNat:=by omega
 have h2:c.toNat≤57:=by omega
 refine ⟨h1,h2,?_⟩
 apply UInt8.toNat_inj.1
 rw [UInt8.toNat_ofNat'];omega
theorem zaA (n:Nat):zau (Lib.decDigits n)=true:=by
 induction n using Nat.strongRecOn with
 | ind n ih=>
  rw [Lib.decDigits]
  split
  ·rename_i h
   unfold zau;simp only [List.all_cons,List.all_nil,Bool.and_true]
   exact zjm h
  ·rename_i h
   rw [zbP,ih _ (by omega),Bool.true_and];unfold zau;simp only [List.all_cons,List.all_nil,Bool.and_true]
   exact zjm (by omega)
theorem zaG (n:Nat):zaj (Lib.decDigits n)=n:=by
 induction n using Nat.strongRecOn with
 | ind n ih=>
  rw [Lib.decDigits]
  split
  ·rename_i h
   show 0*10+((UInt8.ofNat (48+n)).toNat - 48)=n
   rw [zds h];omega
  ·rename_i h
   rw [zdG,ih _ (by omega),zds (by omega)];omega
theorem zbF:∀ (l:List UInt8),zaF l=true→Lib.decDigits (zaj l)=l:=by
 intro l
 induction hn:l.length using Nat.strongRecOn generalizing l with
 | ind n ih=>
  intro h;subst hn
  by_cases h48:l=[48]
  ·subst h48
   decide +kernel
  ·have hd:zau l=true:=zas h
   have aD:l≠[]:=by
    intro e;subst e;simp [zaF] at h
   have hh:l.head? ≠ some 48:=by
    unfold zaF at h;rw [hd] at h;simp [h48] at h
    exact h.2
   obtain ⟨a,c,rfl⟩:∃ a c,l=a++[c]:=⟨l.dropLast,l.getLast aD,(List.dropLast_concat_getLast aD).symm⟩;rw [zbP] at hd;have aE:zau a=true:=by
    cases hq:zau a
    ·rw [hq] at hd;simp at hd
    ·rfl
   have aF:digB (c.toNat:Int)=true:=by
    rw [aE,Bool.true_and] at hd;unfold zau at hd
    simpa using hd
   obtain ⟨h1,h2,h3⟩:=znN aF;rw [zdG]
   cases a with
   | nil=>
    have e0:zaj []=0:=rfl;rw [e0,Nat.zero_mul,Nat.zero_add,Lib.decDigits,dif_pos (by omega),List.nil_append];rw [←h3]
   | cons x t=>
    have hx:(x :: t).head? ≠ some 48:=by simpa using hh
    have aA:zaF (x :: t)=true:=by
     unfold zaF;rw [aE,Bool.true_and];simp only [Bool.or_eq_true,Bool.and_eq_true,decide_eq_true_eq]
     exact .inr ⟨by simp,hx⟩
    have hp:0<zaj (x :: t):=zdy aA (by intro e;rw [e] at hx;simp at hx);have aC:=ih (x :: t).length (by simp) (x :: t) rfl aA;rw [Lib.decDigits,dif_neg (by omega),show (zaj (x :: t)*10+(c.toNat - 48)) / 10=zaj (x :: t) by omega,show (zaj (x :: t)*10+(c.toNat - 48)) % 10=c.toNat - 48 by omega,aC,←h3]
theorem zeI:∀ (l:List UInt8),(∀ c ∈ l,c≠47)→Lib.indexByte l 47 = -1
 | [],_=>rfl
 | b :: l,h=>by
  have h1:(b==47)=false:=beq_eq_false_iff_ne.2 (h b (List.mem_cons_self ..));have h2:=zeI l (fun c hc=>h c (List.mem_cons_of_mem _ hc));unfold Lib.indexByte;rw [h1,h2];rfl
theorem zel:∀ (l r:List UInt8),(∀ c ∈ l,c≠47)→Lib.indexByte (l++47 :: r) 47=l.length
 | [],_,_=>rfl
 | b :: l,r,h=>by
  have h1:(b==47)=false:=beq_eq_false_iff_ne.2 (h b (List.mem_cons_self ..));have h2:=zel l r (fun c hc=>h c (List.mem_cons_of_mem _ hc));show (if b==47 then (0:Int) else if Lib.indexByte (l++47 :: r) 47 == -1 then -1 else Lib.indexByte (l++47 :: r) 47+1)=_
  rw [h1,h2];have h3:((l.length:Int) == -1)=false:=by rw [beq_eq_false_iff_ne];omega
  simp [h3]
theorem zgv {l:List UInt8} (h:∀ c ∈ l,c≠47):cutL l=(l,[],false):=by
 unfold cutL;rw [zeI l h];rfl
theorem zfy {l r:List UInt8} (h:∀ c ∈ l,c≠47):cutL (l++47 :: r)=(l,r,true):=by
 unfold cutL;rw [zel l r h,if_pos (by omega),Int.toNat_natCast];simp
theorem zdm {l:List UInt8} (h:zau l=true) {c:UInt8} (hc:c ∈ l):48≤c.toNat∧c.toNat≤57:=by
 unfold zau at h;have:=znN (List.all_eq_true.1 h c hc);exact ⟨this.1,this.2.1⟩
def sgnT (neg:Bool) (t:List UInt8):List UInt8:=if neg then 45 :: t else t
theorem zb8 {neg:Bool} {t:List UInt8} (h:zau t=true):∀ c ∈ sgnT neg t,c≠47:=by
 have h1:∀ c ∈ t,c≠47:=fun c hc e=>by
  have:=(zdm h hc).1;rw [e] at this;exact absurd this (by decide)
 unfold sgnT
 cases neg
 ·exact h1
 ·intro c hc
  rcases List.mem_cons.1 hc with rfl | hc
  ·decide
  ·exact h1 c hc
def LowQ (p:Q):Prop:=0<p.bot∧Nat.gcd p.top p.bot=1∧(p.neg=true→0<p.top)
theorem zaP (p:Q):zaq p=sgnT p.neg (Lib.decDigits p.top)++(if p.bot=1 then [] else 47 :: Lib.decDigits p.bot):=rfl
theorem zdV {n:Nat} (h:0<n):Lib.decDigits n≠[48]:=fun e=>by
 have:=zaG n;rw [e] at this;have h48:zaj [48]=0:=by decide
 omega
theorem znT (l:List UInt8):l=(cutL l).1++(if (cutL l).2.2=true then 47 :: (cutL l).2.1 else []):=by
 unfold cutL
 split
 ·rename_i h
  obtain ⟨o,ho⟩:=Int.eq_ofNat_of_zero_le h;obtain ⟨h1,_⟩:=Lib.indexByte_some ho;rw [ho];simp only [Int.toNat_natCast,if_true]
  have aA:o<l.length:=by
   rcases Nat.lt_or_ge o l.length with h3 | h3
   ·exact h3
   ·rw [List.getElem?_eq_none h3] at h1;cases h1
  rw [List.getElem?_eq_getElem aA] at h1;injection h1 with h1
  conv=>lhs;rw [←List.take_append_drop o l,List.drop_eq_getElem_cons aA,h1]
 ·simp
theorem zpT (t:List UInt8):t=sgnT (Lib.hasPrefix t [45]) (Lib.trimPrefix t [45]):=by
 unfold sgnT Lib.trimPrefix
 cases h:Lib.hasPrefix t [45]
 ·rfl
 ·cases t with
  | nil=>cases h
  | cons x r=>
   unfold Lib.hasPrefix at h;simp [List.isPrefixOf] at h
   subst h;rfl
theorem zj1 (l:List UInt8) (h:zad l=0):zaq (zab l)=l:=by
 obtain ⟨h1,_,_,h4⟩:=zct h;have e0:zab l=⟨negL l,zaj (topL l),if zc3 l then zaj (botL l) else 1⟩:=by unfold zab;rw [if_pos h]
 have ej:=znT l;have es:=zpT (cutL l).1;rw [zaP,e0]
 dsimp only
 rw [zbF _ h1];have e1:sgnT (negL l) (topL l)=(cutL l).1:=es.symm;rw [e1]
 cases hf:zc3 l
 ·have aA:(cutL l).2.2=false:=hf
  rw [aA] at ej
  simpa using ej.symm
 ·have aA:(cutL l).2.2=true:=hf
  obtain ⟨h5,h6,h7,_⟩:=h4 hf;have aC:zaj (botL l)≠1:=fun e=>by
   have:=zbF _ h5;rw [e] at this;exact h7 (this.symm.trans (by decide +kernel))
  rw [aA] at ej;simp only [if_true] at ej
  rw [if_pos rfl,if_neg aC,zbF _ h5];exact ej.symm
end Go.Proofs.YtmkondcdejlhcaaGreatDoor
