/- Contract of text: the decimal digits of a natural number. -/
import Derived.Test.YtmkondcdejlhcaaGreatDoorFRat2
set_option maxRecDepth 100000
set_option maxHeartbeats 4000000
namespace Go.Proofs.YtmkondcdejlhcaaGreatDoor
open Go.RowKit Bn
theorem zkd{x n k:Nat}(hx:x<B^n)(hk:2*n≤k):x/Dec.T^k=0:=by
 refine Nat.div_eq_of_lt (Nat.lt_of_lt_of_le hx ?_);have h1:B≤Dec.T^2:=by rw[zdi,Dec.T_def];omega
 have h2:B^n≤(Dec.T^2)^n:=Nat.pow_le_pow_left h1 n;rw[←Nat.pow_mul] at h2;exact Nat.le_trans h2 (Nat.pow_le_pow_right Dec.T_pos hk)
theorem zhV{w w':World}{base:Nat}{e:TypeId}{size n:Nat}{v:Value}{xs:List Value}(h:w.ownsRow base e size v n xs)(hb:Below w.heap.size w w'):w'.ownsRow base e size v n xs:=
 World.ownsRow.kept h (zeA hb none) (Classical.em _)
theorem zdI {T e:TypeId} {B b:Nat} {bs:List Value} {w w':World} (h:Lib.IsBuilder T e B b bs w) (hb:Below w.heap.size w w'):Lib.IsBuilder T e B b bs w':=by
 have key:∀ p,Lib.BuilderAt T e B b p bs w→Lib.BuilderAt T e B b p bs w':=by
  rintro p ⟨hB,v,aA,aC,aD⟩;refine⟨hB,v,?_,zhV aC hb,aD⟩;rw[hb.block b ?_]
  ·exact aA
  ·rcases Nat.lt_or_ge b w.heap.size with h | h
   ·exact h
   ·rw[Array.getElem?_eq_none h] at aA;cases aA
 rcases h with h | h
 ·exact .inl (key _ h)
 ·exact .inr (key _ h)
theorem zgX(w:World)(T e:TypeId):Lib.IsBuilder T e w.heap.size w.heap.size [] (w.alloc (.cells #[.pointer none,.slice none 0 0] T)):=
 .inl ⟨Nat.le_refl _,.slice none 0 0,heap_alloc_new w _,World.ownsRow_nil _ _ _ _,by simp[Value.ownBlock]⟩
theorem zg1 (k:Nat):Lib.repeatL [48] k=List.replicate k 48:=by
 induction k with
 | zero=>rfl
 | succ k ih=>rw[Lib.repeatL,ih,List.replicate_succ];rfl
def zb1 (x k j:Nat):List UInt8:=if j=k then[] else Lib.decDigits (x/Dec.T^j)
theorem zkz{x k:Nat}(j:Nat)(hk:0<k)(h:x/Dec.T^k=0):(zb1 x k j).length≤19*k:=by
 unfold zb1
 split
 ·simp
 ·refine Dec.dec_length_le (by omega) (Nat.lt_of_le_of_lt (Nat.div_le_self _ _) ?_)
  have h1:x<Dec.T^k:=by
   rcases Nat.lt_or_ge x (Dec.T^k) with h2 | h2
   ·exact h2
   ·have:=Nat.div_pos h2 (Nat.pow_pos Dec.T_pos);omega
  rwa [Dec.T_pow,←Nat.pow_mul] at h1
theorem zpN(x k:Nat):x/Dec.T^k/Dec.T=x/Dec.T^(k+1):=by rw[Nat.pow_succ,Nat.div_div_eq_div_mul]
theorem zjp(A:Option Addr)(n c x:Nat)(w:World)(hT:Tabs w)(ha:NatS w w.heap.size A n c x)(hn:n≤1073741824) :
  Calls Tryz.prog 127 #[.slice A n c] w fun e w'=>e = .returned (.string ⟨(Lib.decDigits x).toArray⟩)∧Below w.heap.size w w':=by
 obtain⟨i0,dH,dE,cR,dB⟩:=info_parts zcm
 by_cases hx:x=0
 ·subst hx
  have hz:=zaO A n c 0 w ha;have hd:Hid ((⟨(Lib.decDigits 0).toArray⟩:ByteArray)=⟨#[48]⟩):=by unfold Hid;rw[Dec.dec_lt (by omega)];rfl
  go_enter Tryz.func127,Tryz.ntmps127
  go_wp2_with fail
  refine hz.mono ?_;rintro e w1 ⟨rfl,rfl⟩;go_wp2
  go_ret;exact⟨by rw[hd.out];rfl,Below.refl _ _⟩
 ·have hz:=zaO A n c x w ha
  have hd:decide (x=0)=false:=by simpa using hx
  rw[hd] at hz;have cF:x<B^n:=by have:=zad x;rw[ha.len] at this;exact this
  have cH:=Aa cF;have HX:=Aa hx;clear hd cF hx;go_enter Tryz.func127,Tryz.ntmps127
  go_wp2_with fail
  refine hz.mono ?_;rintro e w1 ⟨rfl,rfl⟩
  go_wp2_with fail
  clear hz
  go_loopg [0,3] x (fun G sa sc we=>∃ A2 m2 c2 k ao bJ,sa = .slice A2 m2 c2∧NatS we we.heap.size A2 m2 c2 (x/Dec.T^k)∧sc = .slice ao k bJ∧we.ownsRow w.heap.size 136 1 (.slice ao k bJ) k ((Dec.chunks x k).map u64v)∧Hid (0<k→x/Dec.T^(k-1)≠0)∧x/Dec.T^k≤G∧m2≤n∧k≤2*n∧Below w.heap.size w we)
  case atStart=>exact⟨A,n,c,0,none,0,rfl,by simpa using ha,rfl,World.ownsRow_nil _ _ _ _,fun h=>absurd h (by omega),by simp,Nat.le_refl _,Nat.zero_le _,Below.refl _ _⟩
  case round=>
   clear ha;obtain⟨A2,m2,c2,k,ao,bJ,rfl,bI,rfl,aL,aG,hG,dI,hk,aD⟩:=hrel;obtain⟨we,rfl⟩:∃ we:World,we=wr:=⟨_,rfl⟩;have hz:=zaO A2 m2 c2 (x/Dec.T^k) we bI
   by_cases h0:x/Dec.T^k=0
   ·have hd:decide (x/Dec.T^k=0)=true:=by simpa using h0
    rw[hd] at hz;have H0:=Aa h0;have dK:=Aa bI;clear hd h0 hG bI
    go_wp2_with fail
    refine hz.mono ?_;rintro e w1 ⟨rfl,rfl⟩;clear hz;have cJ:0<k:=by
     rcases Nat.eq_zero_or_pos k with h | h
     ·subst h;exact absurd (by simpa using H0.out) HX.out
     ·exact h
    have cW:zbM we we.heap.size ao k (Dec.chunks x k):=zaA.of_own aL;have cI:Below we.heap.size we (we.alloc (.cells #[.pointer none,.slice none 0 0] 198)):=Ac;have aE:=aG.out cJ;have aW:=Aa aE;have cM:=zgX we 198 5;clear aE aG
    go_wp2_with fail
    go_loopw [6] (fun si wb=>∃ (j:Nat) (i:Int),i=(j:Int)-1∧j≤k∧si = .int .i64 i∧Lib.IsBuilder 198 5 we.heap.size we.heap.size (Lib.byteCells (zb1 x k j)) wb∧Below we.heap.size we wb) (fun si _=>(intOf si+1).toNat)
    case atStart=>exact⟨k,(k:Int)-1,rfl,Nat.le_refl _,by first | rfl | simp,by unfold zb1;rw[if_pos rfl];exact cM,cI⟩
    case round=>
     clear cM cI;obtain⟨j,i,hi,hj,rfl,aT,aV⟩:=hrel;obtain⟨wb,rfl⟩:∃ wb:World,wb=wr:=⟨_,rfl⟩;have bX:=aV.size;have bS:we.heap.size<wb.heap.size:=by
      have h9:∃ p,Lib.BuilderAt 198 5 we.heap.size we.heap.size p (Lib.byteCells (zb1 x k j)) wb:=by
       rcases aT with h | h
       ·exact⟨_,h⟩
       ·exact⟨_,h⟩
      obtain⟨p,_,v,cC,_⟩:=h9
      rcases Nat.lt_or_ge we.heap.size wb.heap.size with h | h
      ·exact h
      ·rw[Array.getElem?_eq_none h] at cC;cases cC
     by_cases hj0:0<j
     ·obtain⟨q,rfl⟩:∃ q,j=q+1:=⟨j-1,by omega⟩
      have bQ:i=(q:Int):=by omega
      subst bQ;obtain⟨ad,rfl,_,bF⟩:=zbM.word (w:=wb) (B:=we.heap.size) (A:=ao) (n:=k) (l:=Dec.chunks x k) (zaA.below cW aV) (k:=q) (by omega);have aP:=Dec.chunks_get x k q (by omega);have aK:(Dec.chunks x k).getD q 0<Dec.T:=by rw[aP];exact Nat.mod_lt _ Dec.T_pos
      generalize (Dec.chunks x k).getD q 0=cv at bF aP aK;have bC:cv<18446744073709551616:=by rw[Dec.T_def] at aK;omega
      have hf:=zgg cv bC wb ((hT.later aD).later aV);have cP:(Lib.decDigits cv).length≤19:=Dec.dec_length_le (by omega) (by rw[←Dec.T_pow];exact aK);obtain⟨sd,bR⟩:∃ sd:ByteArray,sd=⟨(Lib.decDigits cv).toArray⟩:=⟨_,rfl⟩;have aO:sd.data.toList=Lib.decDigits cv:=by rw[bR]
      have cT:sd.size≤19:=by
       have:sd.data.toList.length=sd.size:=by simp
       rw[aO] at this;omega
      rw[←bR] at hf;have cA:=zkz (q+1) cJ H0.out;have bZ:=Aa cA;have HF:=Aa hf;have cG:=Aa aP;have aQ:=Aa aO;clear hf aP aK bC cP bR aO hj0 hi cA
      go_wp2_with fail
      refine HF.out.mono ?_;rintro e w1 ⟨rfl,cK⟩;have aA:=zdI aT cK;have bH:Below we.heap.size we w1:=aV.trans (cK.mono bX)
      by_cases hq:q+1=k
      ·have cL:zb1 x k (q+1)=[]:=by unfold zb1;rw[if_pos hq]
       rw[cL] at aA;have hl:=Tryz.Builder_Len we.heap.size we.heap.size _ w1 aA;have cB:(Lib.byteCells []).length=0:=rfl;have aH:Hid (Lib.byteCells []++Lib.strCells sd=Lib.byteCells (zb1 x k q)):=by
        have h1:x/Dec.T^q<Dec.T:=by
         have h2:=H0.out;rw[←hq,←zpN] at h2;exact(Nat.div_eq_zero_iff_lt Dec.T_pos).1 h2
        have h3:cv=x/Dec.T^q:=by rw[cG.out,Nat.mod_eq_of_lt h1]
        unfold Hid zb1;rw[if_neg (by omega),←h3,←aQ.out];rfl
       rw[cB] at hl;have HL:=Aa hl;clear hl cB cL aT
       go_wp2_with fail
       refine HL.out.mono ?_;rintro e w2 ⟨rfl,bM⟩;subst bM
       go_wp2_with fail
       refine(zcA we.heap.size we.heap.size _ sd _ aA (by rw[Lib.byteCells_length,List.length_nil];omega) bH.size).mono ?_;rintro e w3 ⟨rfl,aZ,cV⟩;have aJ:Lib.IsBuilder 198 5 we.heap.size we.heap.size (Lib.byteCells (zb1 x k q)) w3:=by rw[←aH.out];exact .inr aZ
       have dA:=bH.trans cV;clear aZ aA;go_wp2
       go_roundw
       case rel=>exact⟨q,(q:Int)-1,rfl,by omega,by go_num,aJ,dA⟩
       case measure=>simp[intOf]
      ·have bB:0<x/Dec.T^(q+1):=by
        refine Nat.pos_of_ne_zero fun h=>aW.out ?_
        have h1:x/Dec.T^(k-1)=x/Dec.T^(q+1)/Dec.T^(k-1-(q+1)):=by rw[Nat.div_div_eq_div_mul,←Nat.pow_add];congr 2;omega
        rw[h1,h];simp
       have hl:=Tryz.Builder_Len we.heap.size we.heap.size _ w1 aA;rw[Lib.byteCells_length] at hl;have cZ:0<(zb1 x k (q+1)).length:=by unfold zb1;rw[if_neg hq];exact Dec.dec_length_pos _
       have cO:(19:Int)-(sd.size:Int)=((19-sd.size:Nat):Int):=by omega
       have aS:Calls Tryz.prog 178 #[.string ⟨#[48]⟩,.int .i64 (19-(sd.size:Int))] w1 fun e w'=>e = .returned (.string ⟨(Lib.repeatL [48] (19-sd.size)).toArray⟩)∧Below w1.heap.size w1 w':=by
        rw[cO];have e1:(⟨#[48]⟩:ByteArray).size=1:=rfl;exact Tryz.strings_Repeat ⟨#[48]⟩ (19-sd.size) w1 (by omega) (by rw[e1];omega)
       have aH:Hid (Lib.byteCells (zb1 x k (q+1))++Lib.strCells ⟨(Lib.repeatL [48] (19-sd.size)).toArray⟩++Lib.strCells sd=Lib.byteCells (zb1 x k q)):=by
        have h1:=Dec.dec_chunk x q bB;have h2:sd.size=(Lib.decDigits cv).length:=by rw[←aQ.out];simp
        rw[←cG.out,←h2,←aQ.out] at h1;unfold Hid zb1;rw[if_neg hq,if_neg (by omega),h1,zg1,Lib.strCells_toArray,Lib.strCells_eq];simp[Lib.byteCells]
       have cS:(⟨(Lib.repeatL [48] (19-sd.size)).toArray⟩:ByteArray).size≤19:=by
        show(Lib.repeatL [48] (19-sd.size)).length≤19
        rw[Lib.repeatL_length];simp
       generalize (⟨(Lib.repeatL [48] (19-sd.size)).toArray⟩:ByteArray)=sr at aS aH cS;generalize bG:zb1 x k (q+1)=tx at hl cZ aA aH bZ;have HL:=Aa hl;have bU:=Aa aS;clear hl aS cO bB bG aT
       go_wp2_with fail
       refine HL.out.mono ?_;rintro e w2 ⟨rfl,bM⟩;subst bM
       go_wp2_with fail
       refine bU.out.mono ?_;rintro e w4 ⟨rfl,aY⟩;have aJ:=zdI aA aY;have bY:Below we.heap.size we w4:=Ad bH aY;have dJ:=bZ.out
       go_wp2_with fail
       refine(zcA we.heap.size we.heap.size _ sr w4 aJ (by rw[Lib.byteCells_length];omega) bY.size).mono ?_;rintro e w5 ⟨rfl,aU,cQ⟩;have bW:=bY.trans cQ
       go_wp2_with fail
       refine(zcA we.heap.size we.heap.size _ sd w5 (.inr aU) (by rw[List.length_append,Lib.byteCells_length,Lib.strCells_length];omega) bW.size).mono ?_;rintro e w6 ⟨rfl,bD,cU⟩;have bV:Lib.IsBuilder 198 5 we.heap.size we.heap.size (Lib.byteCells (zb1 x k q)) w6:=by rw[←aH.out];exact .inr bD
       have dG:=bW.trans cU;clear bD aU aJ aA;go_wp2
       go_roundw
       case rel=>exact⟨q,(q:Int)-1,rfl,by omega,by go_num,bV,dG⟩
       case measure=>simp[intOf]
     ·have bP:j=0:=by omega
      subst bP;have bQ:i = -1:=by omega
      subst bQ;have bG:zb1 x k 0=Lib.decDigits x:=by unfold zb1;rw[if_neg (by omega)];simp
      rw[bG] at aT;have hs:=Tryz.Builder_String_any we.heap.size we.heap.size (Lib.decDigits x) wb aT bX;have HS:=Aa hs;clear hs bG hi hj0
      go_wp2_with fail
      refine HS.out.mono ?_;rintro e w9 ⟨rfl,dF⟩;go_wp2
      go_ret;exact⟨rfl,aD.trans ((aV.trans dF).mono aD.size)⟩
   ·have hd:decide (x/Dec.T^k=0)=false:=by simpa using h0
    rw[hd] at hz;have bK:Calls Tryz.prog 174 #[.slice A2 m2 c2,.int .u64 10000000000000000000] we _:=zbe A2 m2 c2 (x/Dec.T^k) 10000000000000000000 we bI (by omega) (by omega) (by omega);have bL:x/Dec.T^k/10000000000000000000=x/Dec.T^(k+1):=zpN x k;rw[bL] at bK;have bS:x/Dec.T^(k+1)<x/Dec.T^k:=by rw[←bL];exact Nat.div_lt_self (Nat.pos_of_ne_zero h0) (by omega)
    have cN:x/Dec.T^k%10000000000000000000=(Dec.chunks x (k+1)).getD k 0:=by rw[Dec.chunks_get x (k+1) k (by omega)];rfl
    have cY:k+1≤2*n:=by
     rcases Nat.lt_or_ge k (2*n) with h | h
     ·omega
     ·exact absurd (zkd cH.out h) h0
    have cE:=Dec.chunks_succ x k;generalize aP:x/Dec.T^k%10000000000000000000=cv at bK cN;have bO:Hid (Dec.chunks x (k+1)=Dec.chunks x k++[cv]):=by unfold Hid;rw[cE,←aP];rfl
    have HL:Hid (0<k+1→x/Dec.T^(k+1-1)≠0):=by intro _;simpa using h0
    have dC:=Aa bK;have dD:=Aa bS;have HG:=Aa hG;clear hd h0 bK bL bS cN cE aP hG aG
    go_wp2_with fail
    refine hz.mono ?_;rintro e w1 ⟨rfl,rfl⟩;clear hz
    go_wp2_with fail
    refine dC.out.mono ?_;rintro e w4 ⟨m4,c4,rfl,bN,aY⟩;have aI:=zhV aL aY;have bE:m4≤n:=by
     rw[←bN.nat.len];refine Nat.le_trans (zaa (Nat.div_le_self _ _)) ?_;have:=cH.out;exact zab this
    have aC:=Ad aD aY
    go_wp2_with (at_builtin;refine wpList_append_own _ rfl _ _ 88 rfl w.heap.size 136 i0 (.int .u64 0) 1 8 Tryz.underlying88 dH dE cR dB rfl (by decide) _ _ _ rfl (aI.alloc _) ⟨w4.heap.size,0,none⟩ 1 1 [.int .u64 (cv:Int)] rfl rfl (cell_one_new _ _ _) ?c2 ?c3 ?c4 ?c5 ?_)
    case c2=>intro u hu;simp at hu;subst hu;rfl
    case c3=>unfold maxLen;omega
    case c4=>omega
    case c5=>have:=aC.size;simp;omega
    intro v' w5 aM aF _;have bA:Below w.heap.size w w5:=(aC.alloc aC.size _).grown aF (by have:=aC.size;simp;omega) (fun q hq=>(aI.lt q hq).1);have aX:NatS w5 w5.heap.size (some ⟨we.heap.size,0,none⟩) m4 c4 (x/Dec.T^(k+1)):=
     ((bN.alloc _).kept aF (fun e=>by have:=(aL.lt _ e).2;omega)).nat
    have aN:w5.ownsRow w.heap.size 136 1 v' (k+1) ((Dec.chunks x (k+1)).map u64v):=by
     rw[bO.out,List.map_append];exact aM
    obtain⟨bT,aR,rfl⟩:∃ bT aR,v' = .slice bT (k+1) aR:=by
     rcases aN.2 with⟨_,h0⟩ | ⟨g,bJ,dL,hv,_⟩
     ·exact absurd h0 (by omega)
     ·exact⟨_,_,hv⟩
    clear aM aF aI aL bN
    go_wp2_with fail
    go_roundg (x/Dec.T^(k+1))
    case measure=>exact Nat.lt_of_lt_of_le dD.out HG.out
    case rel=>exact⟨_,m4,c4,k+1,bT,aR,rfl,aX,rfl,aN,HL,Nat.le_refl _,bE,cY,bA⟩
def zaE (q:Q):List UInt8:=(if q.neg then 45 :: Lib.decDigits q.top else Lib.decDigits q.top)++(if q.bot=1 then[] else 47 :: Lib.decDigits q.bot)
def zaC (q:Q):Int:=if q.bot=0 then 6 else if 600<(Lib.decDigits q.top).length∨600<(Lib.decDigits q.bot).length then 4 else 0
def zbx (q:Q):List UInt8:=if zaC q=0 then zaE q else[]
def zb5 (w:World) (l:List UInt8) (x:Int) (e:Ending) (w':World):Prop:=∃ s:ByteArray,e = .returned (.tuple #[.string s,.int .i64 x])∧s.data.toList=l∧Below w.heap.size w w'
theorem zfF(q:Q)(A1 A2:Option Addr)(n1 c1 n2 c2:Nat)(w:World)(hT:Tabs w)(h1:NatS w w.heap.size A1 n1 c1 q.top)(h2:NatS w w.heap.size A2 n2 c2 q.bot)(k1:n1≤268435456)(k2:n2≤268435456) :
  Calls Tryz.prog 65 #[.agg #[.bool q.neg,.slice A1 n1 c1,.slice A2 n2 c2]] w (zb5 w (zbx q) (zaC q)):=by
 obtain⟨neg,top,bot⟩:=q
 dsimp only at h1 h2 ⊢
 have aD:Below w.heap.size w (w.alloc (.cells #[.bool neg,.slice A1 n1 c1,.slice A2 n2 c2] 91)):=Ac;have aS:zae (w.alloc (.cells #[.bool neg,.slice A1 n1 c1,.slice A2 n2 c2] 91)) w.heap.size neg (.slice A1 n1 c1) (.slice A2 n2 c2):=zae.new w _ _ _;have hz:=zaO A2 n2 c2 bot _ (h2.later aD)
 by_cases hb0:bot=0
 ·have hE:zaC ⟨neg,top,bot⟩=6:=by unfold zaC;rw[if_pos hb0]
  have hW:zbx ⟨neg,top,bot⟩=[]:=by unfold zbx;rw[hE];rfl
  have hd:decide (bot=0)=true:=by simpa using hb0
  rw[hE,hW];rw[hd] at hz;clear hE hW hb0 hd;go_enter Tryz.func65,Tryz.ntmps65
  go_wp2_with fail
  refine hz.mono ?_;rintro e w1 ⟨rfl,rfl⟩;go_wp2
  go_ret2
  exact⟨⟨#[]⟩,rfl,rfl,aD⟩
 ·have hd:decide (bot=0)=false:=by simpa using hb0
  rw[hd] at hz;have aP:=hT.later aD;have aR:=fun (W:World) (hb:Below (w.alloc (.cells #[.bool neg,.slice A1 n1 c1,.slice A2 n2 c2] 91)).heap.size (w.alloc (.cells #[.bool neg,.slice A1 n1 c1,.slice A2 n2 c2] 91)) W)=>zjp A1 n1 c1 top W (aP.later hb) ((h1.later aD).later hb) (by omega)
  have aL:=fun (W:World) (hb:Below (w.alloc (.cells #[.bool neg,.slice A1 n1 c1,.slice A2 n2 c2] 91)).heap.size (w.alloc (.cells #[.bool neg,.slice A1 n1 c1,.slice A2 n2 c2] 91)) W)=>zjp A2 n2 c2 bot W (aP.later hb) ((h2.later aD).later hb) (by omega)
  have ho:=fun (W:World) (hb:Below (w.alloc (.cells #[.bool neg,.slice A1 n1 c1,.slice A2 n2 c2] 91)).heap.size (w.alloc (.cells #[.bool neg,.slice A1 n1 c1,.slice A2 n2 c2] 91)) W)=>zbA A2 n2 c2 bot W ((h2.later aD).later hb)
  obtain⟨s1,aN⟩:∃ s1:ByteArray,s1=⟨(Lib.decDigits top).toArray⟩:=⟨_,rfl⟩;obtain⟨s2,aM⟩:∃ s2:ByteArray,s2=⟨(Lib.decDigits bot).toArray⟩:=⟨_,rfl⟩;have e1:s1.data.toList=Lib.decDigits top:=by rw[aN]
  have e2:s2.data.toList=Lib.decDigits bot:=by rw[aM]
  simp only[←aN] at aR
  simp only[←aM] at aL
  have hE:Hid (zaC ⟨neg,top,bot⟩=if 600<s1.size∨600<s2.size then 4 else 0):=by
   unfold Hid zaC;rw[if_neg hb0,←e1,←e2];simp
  have hS:Hid (zaE ⟨neg,top,bot⟩=(if neg then 45 :: s1.data.toList else s1.data.toList)++(if bot=1 then[] else 47 :: s2.data.toList)):=by
   unfold Hid zaE;rw[←e1,←e2]
  have aE:s1.size<8589934592:=by
   have h0:s1.size=(Lib.decDigits top).length:=by rw[←e1];simp
   have h3:=Dec.dec_length_le (k:=20*n1+1) (r:=top) (by omega) (by
    have h4:=zad top;rw[h1.len] at h4;refine Nat.lt_of_lt_of_le h4 ?_;have h5:B≤10^20:=by rw[zdi];omega
    have h6:=Nat.pow_le_pow_left h5 n1;rw[←Nat.pow_mul] at h6;exact Nat.le_trans h6 (Nat.pow_le_pow_right (by omega) (by omega)))
   omega
  have aH:s2.size<8589934592:=by
   have h0:s2.size=(Lib.decDigits bot).length:=by rw[←e2];simp
   have h3:=Dec.dec_length_le (k:=20*n2+1) (r:=bot) (by omega) (by
    have h4:=zad bot;rw[h2.len] at h4;refine Nat.lt_of_lt_of_le h4 ?_;have h5:B≤10^20:=by rw[zdi];omega
    have h6:=Nat.pow_le_pow_left h5 n2;rw[←Nat.pow_mul] at h6;exact Nat.le_trans h6 (Nat.pow_le_pow_right (by omega) (by omega)))
   omega
  have aW:=Aa aR;have aV:=Aa aL;have HO:=Aa ho;have aY:=Aa aE;have bB:=Aa aH;have aX:=Aa e1;clear aR aL ho aN aM e1 e2 hd hb0 aP aE aH;go_enter Tryz.func65,Tryz.ntmps65
  go_wp2_with fail
  refine hz.mono ?_;rintro e w1 ⟨rfl,rfl⟩;clear hz;generalize (w.alloc (.cells #[.bool neg,.slice A1 n1 c1,.slice A2 n2 c2] 91))=w3 at *;obtain⟨a0,a1,a2,_,_,_,al⟩:=aS.cells
  go_wp2_with fail
  go_region_held3 (fun w'=>w'.cell? ⟨w.heap.size,0,none⟩=some (.bool neg)∧w'.cell? ⟨w.heap.size,1,none⟩=some (.slice A1 n1 c1)∧w'.cell? ⟨w.heap.size,2,none⟩=some (.slice A2 n2 c2))
   (first | exact⟨a0,a1,a2⟩ | exact⟨((aC.cell (p:=⟨w.heap.size,0,none⟩) al).trans a0),((aC.cell (p:=⟨w.heap.size,1,none⟩) al).trans a1),((aC.cell (p:=⟨w.heap.size,2,none⟩) al).trans a2)⟩ | exact⟨((aF.cell (p:=⟨w.heap.size,0,none⟩) (aO)).trans ((aC.cell (p:=⟨w.heap.size,0,none⟩) al).trans a0)),((aF.cell (p:=⟨w.heap.size,1,none⟩) (aO)).trans ((aC.cell (p:=⟨w.heap.size,1,none⟩) al).trans a1)),((aF.cell (p:=⟨w.heap.size,2,none⟩) (aO)).trans ((aC.cell (p:=⟨w.heap.size,2,none⟩) al).trans a2))⟩)
   (first
    |(go_at_call_of 127 (Value.slice A1 n1 c1);refine(aW.out w3.drew (Below.drew (Below.refl _ _))).mono ?_;rintro e w4 ⟨rfl,aC⟩;have aO:=Nat.lt_of_lt_of_le al aC.size)
    |(go_at_call_of 127 (Value.slice A2 n2 c2);refine(aV.out w4 (Below.trans (Below.drew (Below.refl _ _)) aC)).mono ?_;rintro e w6 ⟨rfl,aF⟩))
  have aI:Below w3.heap.size w3 w6:=(Below.trans (Below.drew (Below.refl _ _)) aC).trans (aF.mono (by have:=aC.size;exact this));have b0:=(aI.cell (p:=⟨w.heap.size,0,none⟩) al).trans a0;have b2:=(aI.cell (p:=⟨w.heap.size,2,none⟩) al).trans a2;have ho:=HO.out w6 aI;have aG:=Ad aD aI;clear a0 a1 a2 aC aF aS
  by_cases hl:600<s1.size∨600<s2.size
  ·have aU:decide ((600:Int)<max (s1.size:Int) (s2.size:Int))=true:=by simp only[decide_eq_true_eq];omega
   have aK:zaC ⟨neg,top,bot⟩=4:=by rw[hE.out,if_pos hl]
   have hW:zbx ⟨neg,top,bot⟩=[]:=by unfold zbx;rw[aK];rfl
   have aT:=Aa aK;have HW:=Aa hW;clear aK hW hl ho;go_wp2
   go_ret2
   exact⟨⟨#[]⟩,by rw[aT.out];rfl,by rw[HW.out],aG⟩
  ·have aU:decide ((600:Int)<max (s1.size:Int) (s2.size:Int))=false:=by simp only[decide_eq_false_iff_not];omega
   have aQ:zaC ⟨neg,top,bot⟩=0:=by rw[hE.out,if_neg hl]
   have aA:zbx ⟨neg,top,bot⟩=(if neg then 45 :: s1.data.toList else s1.data.toList)++(if bot=1 then[] else 47 :: s2.data.toList):=by
    unfold zbx;rw[if_pos aQ];exact hS.out
   have aJ:=Aa aQ;have bA:s1.size≤600:=by omega
   have aZ:s2.size≤600:=by omega
   clear aQ hl
   by_cases h1:bot=1<;>cases neg
   ·rw[show decide (bot=1)=true from by simpa using h1] at ho
    rw[if_neg (by simp),if_pos h1] at aA;have HW:=Aa aA;clear h1 aA
    go_wp2_with fail
    refine ho.mono ?_;rintro e w7 ⟨rfl,rfl⟩;go_wp2
    go_ret2
    refine⟨_,by rw[aJ.out];rfl,?_,aG⟩;rw[HW.out];simp
   ·rw[show decide (bot=1)=true from by simpa using h1] at ho
    rw[if_pos rfl,if_pos h1] at aA;have HW:=Aa aA;clear h1 aA
    go_wp2_with fail
    refine ho.mono ?_;rintro e w7 ⟨rfl,rfl⟩;go_wp2
    go_ret2
    refine⟨_,by rw[aJ.out];rfl,?_,aG⟩;rw[HW.out];simp
   ·rw[show decide (bot=1)=false from by simpa using h1] at ho
    rw[if_neg (by simp),if_neg h1] at aA;have HW:=Aa aA;clear h1 aA
    go_wp2_with fail
    refine ho.mono ?_;rintro e w7 ⟨rfl,rfl⟩;go_wp2
    go_ret2
    refine⟨_,by rw[aJ.out];rfl,?_,aG⟩;rw[HW.out];simp
   ·rw[show decide (bot=1)=false from by simpa using h1] at ho
    rw[if_pos rfl,if_neg h1] at aA;have HW:=Aa aA;clear h1 aA
    go_wp2_with fail
    refine ho.mono ?_;rintro e w7 ⟨rfl,rfl⟩;go_wp2
    go_ret2
    refine⟨_,by rw[aJ.out];rfl,?_,aG⟩;rw[HW.out];simp
theorem zdX{n:Nat}(h:n<10):(UInt8.ofNat (48+n)).toNat=48+n:=by
 rw[UInt8.toNat_ofNat'];omega
theorem zia{n:Nat}(h:n<10):digB ((UInt8.ofNat (48+n)).toNat:Int)=true:=by
 rw[zdX h];unfold digB;simp
 omega
theorem zmV{c:UInt8}(h:digB (c.toNat:Int)=true):48≤c.toNat∧c.toNat≤57∧c=UInt8.ofNat (48+(c.toNat-48)):=by
 unfold digB at h;simp at h
 have h1:48≤c.toNat:=by omega
 have h2:c.toNat≤57:=by omega
 refine⟨h1,h2,?_⟩
 apply UInt8.toNat_inj.1
 rw[UInt8.toNat_ofNat'];omega
theorem zaH(n:Nat):zar (Lib.decDigits n)=true:=by
 induction n using Nat.strongRecOn with
 | ind n ih=>
  rw[Lib.decDigits]
  split
  ·rename_i h
   unfold zar;simp only[List.all_cons,List.all_nil,Bool.and_true]
   exact zia h
  ·rename_i h
   rw[zbK,ih _ (by omega),Bool.true_and];unfold zar;simp only[List.all_cons,List.all_nil,Bool.and_true]
   exact zia (by omega)
theorem za0(n:Nat):zaj (Lib.decDigits n)=n:=by
 induction n using Nat.strongRecOn with
 | ind n ih=>
  rw[Lib.decDigits]
  split
  ·rename_i h
   show 0*10+((UInt8.ofNat (48+n)).toNat-48)=n
   rw[zdX h];omega
  ·rename_i h
   rw[zdn,ih _ (by omega),zdX (by omega)];omega
theorem zou(n:Nat):Lib.decDigits n≠[]:=by
 have:=Dec.dec_length_pos n;intro h;rw[h] at this;simp at this
theorem znR{n:Nat}(h:0<n):(Lib.decDigits n).head? ≠ some 48:=by
 induction n using Nat.strongRecOn with
 | ind n ih=>
  rw[Lib.decDigits]
  split
  ·rename_i h1
   intro e;simp only[List.head?_cons,Option.some.injEq] at e
   have:=congrArg UInt8.toNat e;rw[zdX h1] at this;have aC:(48:UInt8).toNat=48:=by decide
   omega
  ·rename_i h1
   have h2:=ih (n/10) (by omega) (by omega);obtain⟨x,t,aA⟩:=List.exists_cons_of_ne_nil (zou (n/10));rw[aA] at h2 ⊢;exact h2
theorem zfJ(n:Nat):zay (Lib.decDigits n)=true:=by
 unfold zay;rw[zaH,Bool.true_and]
 rcases Nat.eq_zero_or_pos n with rfl | h
 ·have e:Lib.decDigits 0=[48]:=by rw[Lib.decDigits];rfl
  simp[e]
 ·simp[zou,znR h]
theorem zbu:∀ (l:List UInt8),zay l=true→Lib.decDigits (zaj l)=l:=by
 intro l
 induction hn:l.length using Nat.strongRecOn generalizing l with
 | ind n ih=>
  intro h;subst hn
  by_cases h48:l=[48]
  ·subst h48
   decide +kernel
  ·have hd:zar l=true:=zau h
   have aE:l≠[]:=by
    intro e;subst e;simp[zay] at h
   have hh:l.head? ≠ some 48:=by
    unfold zay at h;rw[hd] at h;simp[h48] at h
    exact h.2
   obtain⟨a,c,rfl⟩:∃ a c,l=a++[c]:=⟨l.dropLast,l.getLast aE,(List.dropLast_concat_getLast aE).symm⟩;rw[zbK] at hd;have aD:zar a=true:=by
    cases hq:zar a
    ·rw[hq] at hd;simp at hd
    ·rfl
   have aF:digB (c.toNat:Int)=true:=by
    rw[aD,Bool.true_and] at hd;unfold zar at hd
    simpa using hd
   obtain⟨h1,h2,h3⟩:=zmV aF;rw[zdn]
   cases a with
   | nil=>
    have e0:zaj []=0:=rfl;rw[e0,Nat.zero_mul,Nat.zero_add,Lib.decDigits,dif_pos (by omega),List.nil_append];rw[←h3]
   | cons x t=>
    have hx:(x :: t).head? ≠ some 48:=by simpa using hh
    have aA:zay (x :: t)=true:=by
     unfold zay;rw[aD,Bool.true_and];simp only[Bool.or_eq_true,Bool.and_eq_true,decide_eq_true_eq]
     exact .inr ⟨by simp,hx⟩
    have hp:0<zaj (x :: t):=zc6 aA (by intro e;rw[e] at hx;simp at hx);have aC:=ih (x :: t).length (by simp) (x :: t) rfl aA;rw[Lib.decDigits,dif_neg (by omega),show(zaj (x :: t)*10+(c.toNat-48))/10=zaj (x :: t) by omega,show(zaj (x :: t)*10+(c.toNat-48))%10=c.toNat-48 by omega,aC,←h3]
theorem zd4:∀ (l:List UInt8),(∀ c ∈ l,c≠47)→Lib.indexByte l 47 = -1
 | [],_=>rfl
 | b :: l,h=>by
  have h1:(b==47)=false:=beq_eq_false_iff_ne.2 (h b (List.mem_cons_self ..));have h2:=zd4 l (fun c hc=>h c (List.mem_cons_of_mem _ hc));unfold Lib.indexByte;rw[h1,h2];rfl
theorem zdM:∀ (l r:List UInt8),(∀ c ∈ l,c≠47)→Lib.indexByte (l++47 :: r) 47=l.length
 | [],_,_=>rfl
 | b :: l,r,h=>by
  have h1:(b==47)=false:=beq_eq_false_iff_ne.2 (h b (List.mem_cons_self ..));have h2:=zdM l r (fun c hc=>h c (List.mem_cons_of_mem _ hc));show(if b==47 then(0:Int) else if Lib.indexByte (l++47 :: r) 47 == -1 then -1 else Lib.indexByte (l++47 :: r) 47+1)=_
  rw[h1,h2];have h3:((l.length:Int) == -1)=false:=by rw[beq_eq_false_iff_ne];omega
  simp[h3]
theorem zic{l:List UInt8}(h:∀ c ∈ l,c≠47):cutL l=(l,[],false):=by
 unfold cutL;rw[zd4 l h];rfl
theorem zgv{l r:List UInt8}(h:∀ c ∈ l,c≠47):cutL (l++47 :: r)=(l,r,true):=by
 unfold cutL;rw[zdM l r h,if_pos (by omega),Int.toNat_natCast];simp
theorem zdC{l:List UInt8}(h:zar l=true){c:UInt8}(hc:c ∈ l):48≤c.toNat∧c.toNat≤57:=by
 unfold zar at h;have:=zmV (List.all_eq_true.1 h c hc);exact⟨this.1,this.2.1⟩
def sgnT (neg:Bool) (t:List UInt8):List UInt8:=if neg then 45 :: t else t
theorem zcx{neg:Bool}{t:List UInt8}(h:zar t=true):∀ c ∈ sgnT neg t,c≠47:=by
 have h1:∀ c ∈ t,c≠47:=fun c hc e=>by
  have:=(zdC h hc).1;rw[e] at this;exact absurd this (by decide)
 unfold sgnT
 cases neg
 ·exact h1
 ·intro c hc
  rcases List.mem_cons.1 hc with rfl | hc
  ·decide
  ·exact h1 c hc
theorem znx{neg:Bool}{t:List UInt8}(h:zar t=true):Lib.hasPrefix (sgnT neg t) [45]=neg∧Lib.trimPrefix (sgnT neg t) [45]=t:=by
 have h0:∀ neg,Lib.hasPrefix (sgnT neg t) [45]=neg:=by
  intro neg
  cases neg
  ·unfold sgnT Lib.hasPrefix
   cases t with
   | nil=>rfl
   | cons x r=>
    have:=(zdC h (List.mem_cons_self ..)).1;have hx:((45:UInt8)==x)=false:=by
     rw[beq_eq_false_iff_ne];intro e;rw[←e] at this;exact absurd this (by decide)
    simp[List.isPrefixOf,hx]
  ·rfl
 refine⟨h0 neg,?_⟩;unfold Lib.trimPrefix;rw[h0 neg]
 cases neg<;>rfl
def LowQ (p:Q):Prop:=0<p.bot∧Nat.gcd p.top p.bot=1∧(p.neg=true→0<p.top)
theorem zaR(p:Q):zaE p=sgnT p.neg (Lib.decDigits p.top)++(if p.bot=1 then[] else 47 :: Lib.decDigits p.bot):=rfl
theorem zfl {n:Nat} (h:0<n):Lib.decDigits n≠[48]:=fun e=>by
 have:=za0 n;rw[e] at this;have h48:zaj [48]=0:=by decide
 omega
theorem zmY{n:Nat}(h:n≠1):Lib.decDigits n≠[49]:=fun e=>by
 have:=za0 n;rw[e] at this;have h49:zaj [49]=1:=by decide
 omega
theorem ziN(p:Q)(h:LowQ p)(h1:(Lib.decDigits p.top).length≤600)(h2:(Lib.decDigits p.bot).length≤600):zap (zaE p)=0∧zaf (zaE p)=p:=by
 obtain⟨hb,hg,hn⟩:=h;obtain⟨hp,ht⟩:=znx (neg:=p.neg) (zaH p.top)
 by_cases hb1:p.bot=1
 ·have hc:cutL (zaE p)=(sgnT p.neg (Lib.decDigits p.top),[],false):=by
   rw[zaR,if_pos hb1,List.append_nil];exact zic (zcx (zaH _))
  have e1:topL (zaE p)=Lib.decDigits p.top:=by unfold topL;rw[hc];exact ht
  have e2:negL (zaE p)=p.neg:=by unfold negL;rw[hc];exact hp
  have e3:botL (zaE p)=[]:=by unfold botL;rw[hc]
  have e4:zdz (zaE p)=false:=by unfold zdz;rw[hc]
  have he:zap (zaE p)=0:=by
   unfold zap zba;rw[e1,e2,e3,e4,if_neg,if_neg,if_neg,if_neg]
   ·simp
   ·simp;exact h1
   ·simp
   ·rw[zfJ]
    rintro(h | ⟨h,h'⟩)
    ·cases h
    ·exact zfl (hn h) h'
  refine⟨he,?_⟩;unfold zaf;rw[if_pos he,e1,e2,e4,za0]
  cases p
  simp_all
 ·have hc:cutL (zaE p)=(sgnT p.neg (Lib.decDigits p.top),Lib.decDigits p.bot,true):=by
   rw[zaR,if_neg hb1];exact zgv (zcx (zaH _))
  have e1:topL (zaE p)=Lib.decDigits p.top:=by unfold topL;rw[hc];exact ht
  have e2:negL (zaE p)=p.neg:=by unfold negL;rw[hc];exact hp
  have e3:botL (zaE p)=Lib.decDigits p.bot:=by unfold botL;rw[hc]
  have e4:zdz (zaE p)=true:=by unfold zdz;rw[hc]
  have he:zap (zaE p)=0:=by
   unfold zap zba;rw[e1,e2,e3,e4,if_neg,if_neg,if_neg,if_neg]
   ·rw[za0,za0]
    simp[hg]
   ·omega
   ·rw[zfJ]
    rintro⟨_,h | h | h⟩
    ·cases h
    ·exact zfl hb h
    ·exact zmY hb1 h
   ·rw[zfJ]
    rintro(h | ⟨h,h'⟩)
    ·cases h
    ·exact zfl (hn h) h'
  refine⟨he,?_⟩;unfold zaf;rw[if_pos he,e1,e2,e3,e4,za0,za0];rfl
theorem zmr(l:List UInt8):l=(cutL l).1++(if (cutL l).2.2=true then 47 :: (cutL l).2.1 else[]):=by
 unfold cutL
 split
 ·rename_i h
  obtain⟨o,ho⟩:=Int.eq_ofNat_of_zero_le h;obtain⟨h1,_⟩:=Lib.indexByte_some ho;rw[ho];simp only[Int.toNat_natCast,if_true]
  have aA:o<l.length:=by
   rcases Nat.lt_or_ge o l.length with h3 | h3
   ·exact h3
   ·rw[List.getElem?_eq_none h3] at h1;cases h1
  rw[List.getElem?_eq_getElem aA] at h1;injection h1 with h1
  conv=>lhs;rw[←List.take_append_drop o l,List.drop_eq_getElem_cons aA,h1]
 ·simp
theorem zng(t:List UInt8):t=sgnT (Lib.hasPrefix t [45]) (Lib.trimPrefix t [45]):=by
 unfold sgnT Lib.trimPrefix
 cases h:Lib.hasPrefix t [45]
 ·rfl
 ·cases t with
  | nil=>cases h
  | cons x r=>
   unfold Lib.hasPrefix at h;simp[List.isPrefixOf] at h
   subst h;rfl
theorem ziK(l:List UInt8)(h:zap l=0):zaE (zaf l)=l:=by
 obtain⟨h1,_,_,h4⟩:=zcu h;have e0:zaf l=⟨negL l,zaj (topL l),if zdz l then zaj (botL l) else 1⟩:=by unfold zaf;rw[if_pos h]
 have ej:=zmr l;have es:=zng (cutL l).1;rw[zaR,e0]
 dsimp only
 rw[zbu _ h1];have e1:sgnT (negL l) (topL l)=(cutL l).1:=es.symm;rw[e1]
 cases hf:zdz l
 ·have aA:(cutL l).2.2=false:=hf
  rw[aA] at ej
  simpa using ej.symm
 ·have aA:(cutL l).2.2=true:=hf
  obtain⟨h5,h6,h7,_⟩:=h4 hf;have aC:zaj (botL l)≠1:=fun e=>by
   have:=zbu _ h5;rw[e] at this;exact h7 (this.symm.trans (by decide +kernel))
  rw[aA] at ej;simp only[if_true] at ej
  rw[if_pos rfl,if_neg aC,zbu _ h5];exact ej.symm
end Go.Proofs.YtmkondcdejlhcaaGreatDoor
