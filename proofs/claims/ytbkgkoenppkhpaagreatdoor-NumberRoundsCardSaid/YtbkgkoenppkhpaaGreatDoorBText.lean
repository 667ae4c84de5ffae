/- Contract of text: the decimal digits of a natural number. -/
import Derived.Test.YtbkgkoenppkhpaaGreatDoorBRat2
set_option maxRecDepth 100000
set_option maxHeartbeats 4000000
namespace Go.Proofs.YtbkgkoenppkhpaaGreatDoor
open Go.RowKit Bn
theorem zlr{x n k:Nat}(hx:x<B^n)(hk:2*n≤k):x/Dec.T^k=0:=by
 refine Nat.div_eq_of_lt (Nat.lt_of_lt_of_le hx ?_);have h1:B≤Dec.T^2:=by rw[zdC,Dec.T_def];omega
 have h2:B^n≤(Dec.T^2)^n:=Nat.pow_le_pow_left h1 n;rw[←Nat.pow_mul] at h2;exact Nat.le_trans h2 (Nat.pow_le_pow_right Dec.T_pos hk)
theorem zio{w w':World}{base:Nat}{e:TypeId}{size n:Nat}{v:Value}{xs:List Value}(h:w.ownsRow base e size v n xs)(hb:Below w.heap.size w w'):w'.ownsRow base e size v n xs:=
 World.ownsRow.kept h (ze7 hb none) (Classical.em _)
theorem zdU {T e:TypeId} {B b:Nat} {bs:List Value} {w w':World} (h:Lib.IsBuilder T e B b bs w) (hb:Below w.heap.size w w'):Lib.IsBuilder T e B b bs w':=by
 have key:∀ p,Lib.BuilderAt T e B b p bs w→Lib.BuilderAt T e B b p bs w':=by
  rintro p ⟨hB,v,aC,aA,aD⟩;refine⟨hB,v,?_,zio aA hb,aD⟩;rw[hb.block b ?_]
  ·exact aC
  ·rcases Nat.lt_or_ge b w.heap.size with h | h
   ·exact h
   ·rw[Array.getElem?_eq_none h] at aC;cases aC
 rcases h with h | h
 ·exact .inl (key _ h)
 ·exact .inr (key _ h)
theorem zh3(w:World)(T e:TypeId):Lib.IsBuilder T e w.heap.size w.heap.size [] (w.alloc (.cells #[.pointer none,.slice none 0 0] T)):=
 .inl ⟨Nat.le_refl _,.slice none 0 0,heap_alloc_new w _,World.ownsRow_nil _ _ _ _,by simp[Value.ownBlock]⟩
theorem zib (k:Nat):Lib.repeatL [48] k=List.replicate k 48:=by
 induction k with
 | zero=>rfl
 | succ k ih=>rw[Lib.repeatL,ih,List.replicate_succ];rfl
def zb0 (x k j:Nat):List UInt8:=if j=k then[] else Lib.decDigits (x/Dec.T^j)
theorem zlh{x k:Nat}(j:Nat)(hk:0<k)(h:x/Dec.T^k=0):(zb0 x k j).length≤19*k:=by
 unfold zb0
 split
 ·simp
 ·refine Dec.dec_length_le (by omega) (Nat.lt_of_le_of_lt (Nat.div_le_self _ _) ?_)
  have h1:x<Dec.T^k:=by
   rcases Nat.lt_or_ge x (Dec.T^k) with h2 | h2
   ·exact h2
   ·have:=Nat.div_pos h2 (Nat.pow_pos Dec.T_pos);omega
  rwa [Dec.T_pow,←Nat.pow_mul] at h1
theorem zsc(x k:Nat):x/Dec.T^k/Dec.T=x/Dec.T^(k+1):=by rw[Nat.pow_succ,Nat.div_div_eq_div_mul]
theorem zkt(A:Option Addr)(n c x:Nat)(w:World)(hT:Tabs w)(ha:NatS w w.heap.size A n c x)(hn:n≤1073741824) :
  Calls Tryz.prog 155 #[.slice A n c] w fun e w'=>e = .returned (.string ⟨(Lib.decDigits x).toArray⟩)∧Below w.heap.size w w':=by
 obtain⟨i0,cW,cP,cU,dA⟩:=info_parts zct
 by_cases hx:x=0
 ·subst hx
  have hz:=zaR A n c 0 w ha;have hd:Hid ((⟨(Lib.decDigits 0).toArray⟩:ByteArray)=⟨#[48]⟩):=by unfold Hid;rw[Dec.dec_lt (by omega)];rfl
  go_enter Tryz.func155,Tryz.ntmps155
  go_wp2_with fail
  refine hz.mono ?_;rintro e w1 ⟨rfl,rfl⟩;go_wp2
  go_ret;exact⟨by rw[hd.out];rfl,Below.refl _ _⟩
 ·have hz:=zaR A n c x w ha
  have hd:decide (x=0)=false:=by simpa using hx
  rw[hd] at hz;have cG:x<B^n:=by have:=zac x;rw[ha.len] at this;exact this
  have bZ:=Aa cG;have HX:=Aa hx;clear hd cG hx;go_enter Tryz.func155,Tryz.ntmps155
  go_wp2_with fail
  refine hz.mono ?_;rintro e w1 ⟨rfl,rfl⟩
  go_wp2_with fail
  clear hz
  go_loopg [0,3] x (fun G sa sc we=>∃ A2 m2 c2 k ao bK,sa = .slice A2 m2 c2∧NatS we we.heap.size A2 m2 c2 (x/Dec.T^k)∧sc = .slice ao k bK∧we.ownsRow w.heap.size 116 1 (.slice ao k bK) k ((Dec.chunks x k).map u64v)∧Hid (0<k→x/Dec.T^(k-1)≠0)∧x/Dec.T^k≤G∧m2≤n∧k≤2*n∧Below w.heap.size w we)
  case atStart=>exact⟨A,n,c,0,none,0,rfl,by simpa using ha,rfl,World.ownsRow_nil _ _ _ _,fun h=>absurd h (by omega),by simp,Nat.le_refl _,Nat.zero_le _,Below.refl _ _⟩
  case round=>
   clear ha;obtain⟨A2,m2,c2,k,ao,bK,rfl,bJ,rfl,aL,aI,hG,dK,hk,aD⟩:=hrel;obtain⟨we,rfl⟩:∃ we:World,we=wr:=⟨_,rfl⟩;have hz:=zaR A2 m2 c2 (x/Dec.T^k) we bJ
   by_cases h0:x/Dec.T^k=0
   ·have hd:decide (x/Dec.T^k=0)=true:=by simpa using h0
    rw[hd] at hz;have H0:=Aa h0;have dL:=Aa bJ;clear hd h0 hG bJ
    go_wp2_with fail
    refine hz.mono ?_;rintro e w1 ⟨rfl,rfl⟩;clear hz;have cC:0<k:=by
     rcases Nat.eq_zero_or_pos k with h | h
     ·subst h;exact absurd (by simpa using H0.out) HX.out
     ·exact h
    have cS:zbJ we we.heap.size ao k (Dec.chunks x k):=zaA.of_own aL;have bW:Below we.heap.size we (we.alloc (.cells #[.pointer none,.slice none 0 0] 212)):=Ac;have aG:=aI.out cC;have bE:=Aa aG;have cH:=zh3 we 212 5;clear aG aI
    go_wp2_with fail
    go_loopw [6] (fun si wb=>∃ (j:Nat) (i:Int),i=(j:Int)-1∧j≤k∧si = .int .i64 i∧Lib.IsBuilder 212 5 we.heap.size we.heap.size (Lib.byteCells (zb0 x k j)) wb∧Below we.heap.size we wb) (fun si _=>(intOf si+1).toNat)
    case atStart=>exact⟨k,(k:Int)-1,rfl,Nat.le_refl _,by first | rfl | simp,by unfold zb0;rw[if_pos rfl];exact cH,bW⟩
    case round=>
     clear cH bW;obtain⟨j,i,hi,hj,rfl,aT,bB⟩:=hrel;obtain⟨wb,rfl⟩:∃ wb:World,wb=wr:=⟨_,rfl⟩;have cB:=bB.size;have bV:we.heap.size<wb.heap.size:=by
      have h9:∃ p,Lib.BuilderAt 212 5 we.heap.size we.heap.size p (Lib.byteCells (zb0 x k j)) wb:=by
       rcases aT with h | h
       ·exact⟨_,h⟩
       ·exact⟨_,h⟩
      obtain⟨p,_,v,cF,_⟩:=h9
      rcases Nat.lt_or_ge we.heap.size wb.heap.size with h | h
      ·exact h
      ·rw[Array.getElem?_eq_none h] at cF;cases cF
     by_cases hj0:0<j
     ·obtain⟨q,rfl⟩:∃ q,j=q+1:=⟨j-1,by omega⟩
      have bT:i=(q:Int):=by omega
      subst bT;obtain⟨ad,rfl,_,bD⟩:=zbJ.word (w:=wb) (B:=we.heap.size) (A:=ao) (n:=k) (l:=Dec.chunks x k) (zaA.below cS bB) (k:=q) (by omega);have aS:=Dec.chunks_get x k q (by omega);have aJ:(Dec.chunks x k).getD q 0<Dec.T:=by rw[aS];exact Nat.mod_lt _ Dec.T_pos
      generalize (Dec.chunks x k).getD q 0=cv at bD aS aJ;have aX:cv<18446744073709551616:=by rw[Dec.T_def] at aJ;omega
      have hf:=zgQ cv aX wb ((hT.later aD).later bB);have cZ:(Lib.decDigits cv).length≤19:=Dec.dec_length_le (by omega) (by rw[←Dec.T_pow];exact aJ);obtain⟨sd,bR⟩:∃ sd:ByteArray,sd=⟨(Lib.decDigits cv).toArray⟩:=⟨_,rfl⟩;have aP:sd.data.toList=Lib.decDigits cv:=by rw[bR]
      have dG:sd.size≤19:=by
       have:sd.data.toList.length=sd.size:=by simp
       rw[aP] at this;omega
      rw[←bR] at hf;have cE:=zlh (q+1) cC H0.out;have cL:=Aa cE;have HF:=Aa hf;have bY:=Aa aS;have aQ:=Aa aP;clear hf aS aJ aX cZ bR aP hj0 hi cE
      go_wp2_with fail
      refine HF.out.mono ?_;rintro e w1 ⟨rfl,cI⟩;have aA:=zdU aT cI;have bH:Below we.heap.size we w1:=bB.trans (cI.mono cB)
      by_cases hq:q+1=k
      ·have cJ:zb0 x k (q+1)=[]:=by unfold zb0;rw[if_pos hq]
       rw[cJ] at aA;have hl:=Tryz.Builder_Len we.heap.size we.heap.size _ w1 aA;have cN:(Lib.byteCells []).length=0:=rfl;have aH:Hid (Lib.byteCells []++Lib.strCells sd=Lib.byteCells (zb0 x k q)):=by
        have h1:x/Dec.T^q<Dec.T:=by
         have h2:=H0.out;rw[←hq,←zsc] at h2;exact(Nat.div_eq_zero_iff_lt Dec.T_pos).1 h2
        have h3:cv=x/Dec.T^q:=by rw[bY.out,Nat.mod_eq_of_lt h1]
        unfold Hid zb0;rw[if_neg (by omega),←h3,←aQ.out];rfl
       rw[cN] at hl;have HL:=Aa hl;clear hl cN cJ aT
       go_wp2_with fail
       refine HL.out.mono ?_;rintro e w2 ⟨rfl,bU⟩;subst bU
       go_wp2_with fail
       refine(zcE we.heap.size we.heap.size _ sd _ aA (by rw[Lib.byteCells_length,List.length_nil];omega) bH.size).mono ?_;rintro e w3 ⟨rfl,bF,dC⟩;have aK:Lib.IsBuilder 212 5 we.heap.size we.heap.size (Lib.byteCells (zb0 x k q)) w3:=by rw[←aH.out];exact .inr bF
       have dB:=bH.trans dC;clear bF aA;go_wp2
       go_roundw
       case rel=>exact⟨q,(q:Int)-1,rfl,by omega,by go_num,aK,dB⟩
       case measure=>simp[intOf]
      ·have aZ:0<x/Dec.T^(q+1):=by
        refine Nat.pos_of_ne_zero fun h=>bE.out ?_
        have h1:x/Dec.T^(k-1)=x/Dec.T^(q+1)/Dec.T^(k-1-(q+1)):=by rw[Nat.div_div_eq_div_mul,←Nat.pow_add];congr 2;omega
        rw[h1,h];simp
       have hl:=Tryz.Builder_Len we.heap.size we.heap.size _ w1 aA;rw[Lib.byteCells_length] at hl;have cT:0<(zb0 x k (q+1)).length:=by unfold zb0;rw[if_neg hq];exact Dec.dec_length_pos _
       have cK:(19:Int)-(sd.size:Int)=((19-sd.size:Nat):Int):=by omega
       have aR:Calls Tryz.prog 200 #[.string ⟨#[48]⟩,.int .i64 (19-(sd.size:Int))] w1 fun e w'=>e = .returned (.string ⟨(Lib.repeatL [48] (19-sd.size)).toArray⟩)∧Below w1.heap.size w1 w':=by
        rw[cK];have e1:(⟨#[48]⟩:ByteArray).size=1:=rfl;exact Tryz.strings_Repeat ⟨#[48]⟩ (19-sd.size) w1 (by omega) (by rw[e1];omega)
       have aH:Hid (Lib.byteCells (zb0 x k (q+1))++Lib.strCells ⟨(Lib.repeatL [48] (19-sd.size)).toArray⟩++Lib.strCells sd=Lib.byteCells (zb0 x k q)):=by
        have h1:=Dec.dec_chunk x q aZ;have h2:sd.size=(Lib.decDigits cv).length:=by rw[←aQ.out];simp
        rw[←bY.out,←h2,←aQ.out] at h1;unfold Hid zb0;rw[if_neg hq,if_neg (by omega),h1,zib,Lib.strCells_toArray,Lib.strCells_eq];simp[Lib.byteCells]
       have cR:(⟨(Lib.repeatL [48] (19-sd.size)).toArray⟩:ByteArray).size≤19:=by
        show(Lib.repeatL [48] (19-sd.size)).length≤19
        rw[Lib.repeatL_length];simp
       generalize (⟨(Lib.repeatL [48] (19-sd.size)).toArray⟩:ByteArray)=sr at aR aH cR;generalize bG:zb0 x k (q+1)=tx at hl cT aA aH cL;have HL:=Aa hl;have bO:=Aa aR;clear hl aR cK aZ bG aT
       go_wp2_with fail
       refine HL.out.mono ?_;rintro e w2 ⟨rfl,bU⟩;subst bU
       go_wp2_with fail
       refine bO.out.mono ?_;rintro e w4 ⟨rfl,aV⟩;have aK:=zdU aA aV;have bX:Below we.heap.size we w4:=Ad bH aV;have dJ:=cL.out
       go_wp2_with fail
       refine(zcE we.heap.size we.heap.size _ sr w4 aK (by rw[Lib.byteCells_length];omega) bX.size).mono ?_;rintro e w5 ⟨rfl,aY,cV⟩;have cO:=bX.trans cV
       go_wp2_with fail
       refine(zcE we.heap.size we.heap.size _ sd w5 (.inr aY) (by rw[List.length_append,Lib.byteCells_length,Lib.strCells_length];omega) cO.size).mono ?_;rintro e w6 ⟨rfl,aW,cY⟩;have bN:Lib.IsBuilder 212 5 we.heap.size we.heap.size (Lib.byteCells (zb0 x k q)) w6:=by rw[←aH.out];exact .inr aW
       have dI:=cO.trans cY;clear aW aY aK aA;go_wp2
       go_roundw
       case rel=>exact⟨q,(q:Int)-1,rfl,by omega,by go_num,bN,dI⟩
       case measure=>simp[intOf]
     ·have bL:j=0:=by omega
      subst bL;have bT:i = -1:=by omega
      subst bT;have bG:zb0 x k 0=Lib.decDigits x:=by unfold zb0;rw[if_neg (by omega)];simp
      rw[bG] at aT;have hs:=Tryz.Builder_String_any we.heap.size we.heap.size (Lib.decDigits x) wb aT cB;have HS:=Aa hs;clear hs bG hi hj0
      go_wp2_with fail
      refine HS.out.mono ?_;rintro e w9 ⟨rfl,dF⟩;go_wp2
      go_ret;exact⟨rfl,aD.trans ((bB.trans dF).mono aD.size)⟩
   ·have hd:decide (x/Dec.T^k=0)=false:=by simpa using h0
    rw[hd] at hz;have bI:Calls Tryz.prog 186 #[.slice A2 m2 c2,.int .u64 10000000000000000000] we _:=zbb A2 m2 c2 (x/Dec.T^k) 10000000000000000000 we bJ (by omega) (by omega) (by omega);have bP:x/Dec.T^k/10000000000000000000=x/Dec.T^(k+1):=zsc x k;rw[bP] at bI;have bV:x/Dec.T^(k+1)<x/Dec.T^k:=by rw[←bP];exact Nat.div_lt_self (Nat.pos_of_ne_zero h0) (by omega)
    have cM:x/Dec.T^k%10000000000000000000=(Dec.chunks x (k+1)).getD k 0:=by rw[Dec.chunks_get x (k+1) k (by omega)];rfl
    have dD:k+1≤2*n:=by
     rcases Nat.lt_or_ge k (2*n) with h | h
     ·omega
     ·exact absurd (zlr bZ.out h) h0
    have cA:=Dec.chunks_succ x k;generalize aS:x/Dec.T^k%10000000000000000000=cv at bI cM;have bQ:Hid (Dec.chunks x (k+1)=Dec.chunks x k++[cv]):=by unfold Hid;rw[cA,←aS];rfl
    have HL:Hid (0<k+1→x/Dec.T^(k+1-1)≠0):=by intro _;simpa using h0
    have dH:=Aa bI;have cQ:=Aa bV;have HG:=Aa hG;clear hd h0 bI bP bV cM cA aS hG aI
    go_wp2_with fail
    refine hz.mono ?_;rintro e w1 ⟨rfl,rfl⟩;clear hz
    go_wp2_with fail
    refine dH.out.mono ?_;rintro e w4 ⟨m4,c4,rfl,bM,aV⟩;have aE:=zio aL aV;have aU:m4≤n:=by
     rw[←bM.nat.len];refine Nat.le_trans (zaa (Nat.div_le_self _ _)) ?_;have:=bZ.out;exact zab this
    have aC:=Ad aD aV
    go_wp2_with (at_builtin;refine wpList_append_own _ rfl _ _ 84 rfl w.heap.size 116 i0 (.int .u64 0) 1 8 Tryz.underlying84 cW cP cU dA rfl (by decide) _ _ _ rfl (aE.alloc _) ⟨w4.heap.size,0,none⟩ 1 1 [.int .u64 (cv:Int)] rfl rfl (cell_one_new _ _ _) ?c2 ?c3 ?c4 ?c5 ?_)
    case c2=>intro u hu;simp at hu;subst hu;rfl
    case c3=>unfold maxLen;omega
    case c4=>omega
    case c5=>have:=aC.size;simp;omega
    intro v' w5 aM aF _;have bA:Below w.heap.size w w5:=(aC.alloc aC.size _).grown aF (by have:=aC.size;simp;omega) (fun q hq=>(aE.lt q hq).1);have bC:NatS w5 w5.heap.size (some ⟨we.heap.size,0,none⟩) m4 c4 (x/Dec.T^(k+1)):=
     ((bM.alloc _).kept aF (fun e=>by have:=(aL.lt _ e).2;omega)).nat
    have aN:w5.ownsRow w.heap.size 116 1 v' (k+1) ((Dec.chunks x (k+1)).map u64v):=by
     rw[bQ.out,List.map_append];exact aM
    obtain⟨bS,aO,rfl⟩:∃ bS aO,v' = .slice bS (k+1) aO:=by
     rcases aN.2 with⟨_,h0⟩ | ⟨g,bK,dM,hv,_⟩
     ·exact absurd h0 (by omega)
     ·exact⟨_,_,hv⟩
    clear aM aF aE aL bM
    go_wp2_with fail
    go_roundg (x/Dec.T^(k+1))
    case measure=>exact Nat.lt_of_lt_of_le cQ.out HG.out
    case rel=>exact⟨_,m4,c4,k+1,bS,aO,rfl,bC,rfl,aN,HL,Nat.le_refl _,aU,dD,bA⟩
def zaO (q:Q):List UInt8:=(if q.neg then 45 :: Lib.decDigits q.top else Lib.decDigits q.top)++(if q.bot=1 then[] else 47 :: Lib.decDigits q.bot)
def zau (q:Q):Int:=if q.bot=0 then 6 else if 600<(Lib.decDigits q.top).length∨600<(Lib.decDigits q.bot).length then 4 else 0
def zbr (q:Q):List UInt8:=if zau q=0 then zaO q else[]
def zb7 (w:World) (l:List UInt8) (x:Int) (e:Ending) (w':World):Prop:=∃ s:ByteArray,e = .returned (.tuple #[.string s,.int .i64 x])∧s.data.toList=l∧Below w.heap.size w w'
theorem zgh(q:Q)(A1 A2:Option Addr)(n1 c1 n2 c2:Nat)(w:World)(hT:Tabs w)(h1:NatS w w.heap.size A1 n1 c1 q.top)(h2:NatS w w.heap.size A2 n2 c2 q.bot)(k1:n1≤268435456)(k2:n2≤268435456) :
  Calls Tryz.prog 89 #[.agg #[.bool q.neg,.slice A1 n1 c1,.slice A2 n2 c2]] w (zb7 w (zbr q) (zau q)):=by
 obtain⟨neg,top,bot⟩:=q
 dsimp only at h1 h2 ⊢
 have aD:Below w.heap.size w (w.alloc (.cells #[.bool neg,.slice A1 n1 c1,.slice A2 n2 c2] 87)):=Ac;have aS:zae (w.alloc (.cells #[.bool neg,.slice A1 n1 c1,.slice A2 n2 c2] 87)) w.heap.size neg (.slice A1 n1 c1) (.slice A2 n2 c2):=zae.new w _ _ _;have hz:=zaR A2 n2 c2 bot _ (h2.later aD)
 by_cases hb0:bot=0
 ·have hE:zau ⟨neg,top,bot⟩=6:=by unfold zau;rw[if_pos hb0]
  have hW:zbr ⟨neg,top,bot⟩=[]:=by unfold zbr;rw[hE];rfl
  have hd:decide (bot=0)=true:=by simpa using hb0
  rw[hE,hW];rw[hd] at hz;clear hE hW hb0 hd;go_enter Tryz.func89,Tryz.ntmps89
  go_wp2_with fail
  refine hz.mono ?_;rintro e w1 ⟨rfl,rfl⟩;go_wp2
  go_ret2
  exact⟨⟨#[]⟩,rfl,rfl,aD⟩
 ·have hd:decide (bot=0)=false:=by simpa using hb0
  rw[hd] at hz;have aR:=hT.later aD;have aP:=fun (W:World) (hb:Below (w.alloc (.cells #[.bool neg,.slice A1 n1 c1,.slice A2 n2 c2] 87)).heap.size (w.alloc (.cells #[.bool neg,.slice A1 n1 c1,.slice A2 n2 c2] 87)) W)=>zkt A1 n1 c1 top W (aR.later hb) ((h1.later aD).later hb) (by omega)
  have aO:=fun (W:World) (hb:Below (w.alloc (.cells #[.bool neg,.slice A1 n1 c1,.slice A2 n2 c2] 87)).heap.size (w.alloc (.cells #[.bool neg,.slice A1 n1 c1,.slice A2 n2 c2] 87)) W)=>zkt A2 n2 c2 bot W (aR.later hb) ((h2.later aD).later hb) (by omega)
  have ho:=fun (W:World) (hb:Below (w.alloc (.cells #[.bool neg,.slice A1 n1 c1,.slice A2 n2 c2] 87)).heap.size (w.alloc (.cells #[.bool neg,.slice A1 n1 c1,.slice A2 n2 c2] 87)) W)=>zbE A2 n2 c2 bot W ((h2.later aD).later hb)
  obtain⟨s1,aL⟩:∃ s1:ByteArray,s1=⟨(Lib.decDigits top).toArray⟩:=⟨_,rfl⟩;obtain⟨s2,aK⟩:∃ s2:ByteArray,s2=⟨(Lib.decDigits bot).toArray⟩:=⟨_,rfl⟩;have e1:s1.data.toList=Lib.decDigits top:=by rw[aL]
  have e2:s2.data.toList=Lib.decDigits bot:=by rw[aK]
  simp only[←aL] at aP
  simp only[←aK] at aO
  have hE:Hid (zau ⟨neg,top,bot⟩=if 600<s1.size∨600<s2.size then 4 else 0):=by
   unfold Hid zau;rw[if_neg hb0,←e1,←e2];simp
  have hS:Hid (zaO ⟨neg,top,bot⟩=(if neg then 45 :: s1.data.toList else s1.data.toList)++(if bot=1 then[] else 47 :: s2.data.toList)):=by
   unfold Hid zaO;rw[←e1,←e2]
  have aF:s1.size<8589934592:=by
   have h0:s1.size=(Lib.decDigits top).length:=by rw[←e1];simp
   have h3:=Dec.dec_length_le (k:=20*n1+1) (r:=top) (by omega) (by
    have h4:=zac top;rw[h1.len] at h4;refine Nat.lt_of_lt_of_le h4 ?_;have h5:B≤10^20:=by rw[zdC];omega
    have h6:=Nat.pow_le_pow_left h5 n1;rw[←Nat.pow_mul] at h6;exact Nat.le_trans h6 (Nat.pow_le_pow_right (by omega) (by omega)))
   omega
  have aH:s2.size<8589934592:=by
   have h0:s2.size=(Lib.decDigits bot).length:=by rw[←e2];simp
   have h3:=Dec.dec_length_le (k:=20*n2+1) (r:=bot) (by omega) (by
    have h4:=zac bot;rw[h2.len] at h4;refine Nat.lt_of_lt_of_le h4 ?_;have h5:B≤10^20:=by rw[zdC];omega
    have h6:=Nat.pow_le_pow_left h5 n2;rw[←Nat.pow_mul] at h6;exact Nat.le_trans h6 (Nat.pow_le_pow_right (by omega) (by omega)))
   omega
  have aU:=Aa aP;have aW:=Aa aO;have HO:=Aa ho;have aZ:=Aa aF;have aY:=Aa aH;have aX:=Aa e1;clear aP aO ho aL aK e1 e2 hd hb0 aR aF aH;go_enter Tryz.func89,Tryz.ntmps89
  go_wp2_with fail
  refine hz.mono ?_;rintro e w1 ⟨rfl,rfl⟩;clear hz;generalize (w.alloc (.cells #[.bool neg,.slice A1 n1 c1,.slice A2 n2 c2] 87))=w3 at *;obtain⟨a0,a1,a2,_,_,_,al⟩:=aS.cells
  go_wp2_with fail
  go_region_held3 (fun w'=>w'.cell? ⟨w.heap.size,0,none⟩=some (.bool neg)∧w'.cell? ⟨w.heap.size,1,none⟩=some (.slice A1 n1 c1)∧w'.cell? ⟨w.heap.size,2,none⟩=some (.slice A2 n2 c2))
   (first | exact⟨a0,a1,a2⟩ | exact⟨((aC.cell (p:=⟨w.heap.size,0,none⟩) al).trans a0),((aC.cell (p:=⟨w.heap.size,1,none⟩) al).trans a1),((aC.cell (p:=⟨w.heap.size,2,none⟩) al).trans a2)⟩ | exact⟨((aG.cell (p:=⟨w.heap.size,0,none⟩) (aN)).trans ((aC.cell (p:=⟨w.heap.size,0,none⟩) al).trans a0)),((aG.cell (p:=⟨w.heap.size,1,none⟩) (aN)).trans ((aC.cell (p:=⟨w.heap.size,1,none⟩) al).trans a1)),((aG.cell (p:=⟨w.heap.size,2,none⟩) (aN)).trans ((aC.cell (p:=⟨w.heap.size,2,none⟩) al).trans a2))⟩)
   (first
    |(go_at_call_of 155 (Value.slice A1 n1 c1);refine(aU.out w3.drew (Below.drew (Below.refl _ _))).mono ?_;rintro e w4 ⟨rfl,aC⟩;have aN:=Nat.lt_of_lt_of_le al aC.size)
    |(go_at_call_of 155 (Value.slice A2 n2 c2);refine(aW.out w4 (Below.trans (Below.drew (Below.refl _ _)) aC)).mono ?_;rintro e w6 ⟨rfl,aG⟩))
  have aJ:Below w3.heap.size w3 w6:=(Below.trans (Below.drew (Below.refl _ _)) aC).trans (aG.mono (by have:=aC.size;exact this));have b0:=(aJ.cell (p:=⟨w.heap.size,0,none⟩) al).trans a0;have b2:=(aJ.cell (p:=⟨w.heap.size,2,none⟩) al).trans a2;have ho:=HO.out w6 aJ;have aE:=Ad aD aJ;clear a0 a1 a2 aC aG aS
  by_cases hl:600<s1.size∨600<s2.size
  ·have aT:decide ((600:Int)<max (s1.size:Int) (s2.size:Int))=true:=by simp only[decide_eq_true_eq];omega
   have aQ:zau ⟨neg,top,bot⟩=4:=by rw[hE.out,if_pos hl]
   have hW:zbr ⟨neg,top,bot⟩=[]:=by unfold zbr;rw[aQ];rfl
   have aV:=Aa aQ;have HW:=Aa hW;clear aQ hW hl ho;go_wp2
   go_ret2
   exact⟨⟨#[]⟩,by rw[aV.out];rfl,by rw[HW.out],aE⟩
  ·have aT:decide ((600:Int)<max (s1.size:Int) (s2.size:Int))=false:=by simp only[decide_eq_false_iff_not];omega
   have aM:zau ⟨neg,top,bot⟩=0:=by rw[hE.out,if_neg hl]
   have aA:zbr ⟨neg,top,bot⟩=(if neg then 45 :: s1.data.toList else s1.data.toList)++(if bot=1 then[] else 47 :: s2.data.toList):=by
    unfold zbr;rw[if_pos aM];exact hS.out
   have aI:=Aa aM;have bB:s1.size≤600:=by omega
   have bA:s2.size≤600:=by omega
   clear aM hl
   by_cases h1:bot=1<;>cases neg
   ·rw[show decide (bot=1)=true from by simpa using h1] at ho
    rw[if_neg (by simp),if_pos h1] at aA;have HW:=Aa aA;clear h1 aA
    go_wp2_with fail
    refine ho.mono ?_;rintro e w7 ⟨rfl,rfl⟩;go_wp2
    go_ret2
    refine⟨_,by rw[aI.out];rfl,?_,aE⟩;rw[HW.out];simp
   ·rw[show decide (bot=1)=true from by simpa using h1] at ho
    rw[if_pos rfl,if_pos h1] at aA;have HW:=Aa aA;clear h1 aA
    go_wp2_with fail
    refine ho.mono ?_;rintro e w7 ⟨rfl,rfl⟩;go_wp2
    go_ret2
    refine⟨_,by rw[aI.out];rfl,?_,aE⟩;rw[HW.out];simp
   ·rw[show decide (bot=1)=false from by simpa using h1] at ho
    rw[if_neg (by simp),if_neg h1] at aA;have HW:=Aa aA;clear h1 aA
    go_wp2_with fail
    refine ho.mono ?_;rintro e w7 ⟨rfl,rfl⟩;go_wp2
    go_ret2
    refine⟨_,by rw[aI.out];rfl,?_,aE⟩;rw[HW.out];simp
   ·rw[show decide (bot=1)=false from by simpa using h1] at ho
    rw[if_pos rfl,if_neg h1] at aA;have HW:=Aa aA;clear h1 aA
    go_wp2_with fail
    refine ho.mono ?_;rintro e w7 ⟨rfl,rfl⟩;go_wp2
    go_ret2
    refine⟨_,by rw[aI.out];rfl,?_,aE⟩;rw[HW.out];simp
theorem zep{n:Nat}(h:n<10):(UInt8.ofNat (48+n)).toNat=48+n:=by
 rw[UInt8.toNat_ofNat'];omega
theorem ziL{n:Nat}(h:n<10):digB ((UInt8.ofNat (48+n)).toNat:Int)=true:=by
 rw[zep h];unfold digB;simp
 omega
theorem zng{c:UInt8}(h:digB (c.toNat:Int)=true):48≤c.toNat∧c.toNat≤57∧c=UInt8.ofNat (48+(c.toNat-48)):=by
 unfold digB at h;simp at h
 have h1:48≤c.toNat:=by omega
 have h2:c.toNat≤57:=by omega
 refine⟨h1,h2,?_⟩
 apply UInt8.toNat_inj.1
 rw[UInt8.toNat_ofNat'];omega
theorem zaF(n:Nat):zar (Lib.decDigits n)=true:=by
 induction n using Nat.strongRecOn with
 | ind n ih=>
  rw[Lib.decDigits]
  split
  ·rename_i h
   unfold zar;simp only[List.all_cons,List.all_nil,Bool.and_true]
   exact ziL h
  ·rename_i h
   rw[zbI,ih _ (by omega),Bool.true_and];unfold zar;simp only[List.all_cons,List.all_nil,Bool.and_true]
   exact ziL (by omega)
theorem za1(n:Nat):zaj (Lib.decDigits n)=n:=by
 induction n using Nat.strongRecOn with
 | ind n ih=>
  rw[Lib.decDigits]
  split
  ·rename_i h
   show 0*10+((UInt8.ofNat (48+n)).toNat-48)=n
   rw[zep h];omega
  ·rename_i h
   rw[zdF,ih _ (by omega),zep (by omega)];omega
theorem zbx:∀ (l:List UInt8),zaB l=true→Lib.decDigits (zaj l)=l:=by
 intro l
 induction hn:l.length using Nat.strongRecOn generalizing l with
 | ind n ih=>
  intro h;subst hn
  by_cases h48:l=[48]
  ·subst h48
   decide +kernel
  ·have hd:zar l=true:=zaz h
   have aE:l≠[]:=by
    intro e;subst e;simp[zaB] at h
   have hh:l.head? ≠ some 48:=by
    unfold zaB at h;rw[hd] at h;simp[h48] at h
    exact h.2
   obtain⟨a,c,rfl⟩:∃ a c,l=a++[c]:=⟨l.dropLast,l.getLast aE,(List.dropLast_concat_getLast aE).symm⟩;rw[zbI] at hd;have aD:zar a=true:=by
    cases hq:zar a
    ·rw[hq] at hd;simp at hd
    ·rfl
   have aF:digB (c.toNat:Int)=true:=by
    rw[aD,Bool.true_and] at hd;unfold zar at hd
    simpa using hd
   obtain⟨h1,h2,h3⟩:=zng aF;rw[zdF]
   cases a with
   | nil=>
    have e0:zaj []=0:=rfl;rw[e0,Nat.zero_mul,Nat.zero_add,Lib.decDigits,dif_pos (by omega),List.nil_append];rw[←h3]
   | cons x t=>
    have hx:(x :: t).head? ≠ some 48:=by simpa using hh
    have aA:zaB (x :: t)=true:=by
     unfold zaB;rw[aD,Bool.true_and];simp only[Bool.or_eq_true,Bool.and_eq_true,decide_eq_true_eq]
     exact .inr ⟨by simp,hx⟩
    have hp:0<zaj (x :: t):=zdh aA (by intro e;rw[e] at hx;simp at hx);have aC:=ih (x :: t).length (by simp) (x :: t) rfl aA;rw[Lib.decDigits,dif_neg (by omega),show(zaj (x :: t)*10+(c.toNat-48))/10=zaj (x :: t) by omega,show(zaj (x :: t)*10+(c.toNat-48))%10=c.toNat-48 by omega,aC,←h3]
theorem zew:∀ (l:List UInt8),(∀ c ∈ l,c≠47)→Lib.indexByte l 47 = -1
 | [],_=>rfl
 | b :: l,h=>by
  have h1:(b==47)=false:=beq_eq_false_iff_ne.2 (h b (List.mem_cons_self ..));have h2:=zew l (fun c hc=>h c (List.mem_cons_of_mem _ hc));unfold Lib.indexByte;rw[h1,h2];rfl
theorem zdZ:∀ (l r:List UInt8),(∀ c ∈ l,c≠47)→Lib.indexByte (l++47 :: r) 47=l.length
 | [],_,_=>rfl
 | b :: l,r,h=>by
  have h1:(b==47)=false:=beq_eq_false_iff_ne.2 (h b (List.mem_cons_self ..));have h2:=zdZ l r (fun c hc=>h c (List.mem_cons_of_mem _ hc));show(if b==47 then(0:Int) else if Lib.indexByte (l++47 :: r) 47 == -1 then -1 else Lib.indexByte (l++47 :: r) 47+1)=_
  rw[h1,h2];have h3:((l.length:Int) == -1)=false:=by rw[beq_eq_false_iff_ne];omega
  simp[h3]
theorem ziR{l:List UInt8}(h:∀ c ∈ l,c≠47):cutL l=(l,[],false):=by
 unfold cutL;rw[zew l h];rfl
theorem zhn{l r:List UInt8}(h:∀ c ∈ l,c≠47):cutL (l++47 :: r)=(l,r,true):=by
 unfold cutL;rw[zdZ l r h,if_pos (by omega),Int.toNat_natCast];simp
theorem zd9{l:List UInt8}(h:zar l=true){c:UInt8}(hc:c ∈ l):48≤c.toNat∧c.toNat≤57:=by
 unfold zar at h;have:=zng (List.all_eq_true.1 h c hc);exact⟨this.1,this.2.1⟩
def sgnT (neg:Bool) (t:List UInt8):List UInt8:=if neg then 45 :: t else t
theorem zb4{neg:Bool}{t:List UInt8}(h:zar t=true):∀ c ∈ sgnT neg t,c≠47:=by
 have h1:∀ c ∈ t,c≠47:=fun c hc e=>by
  have:=(zd9 h hc).1;rw[e] at this;exact absurd this (by decide)
 unfold sgnT
 cases neg
 ·exact h1
 ·intro c hc
  rcases List.mem_cons.1 hc with rfl | hc
  ·decide
  ·exact h1 c hc
def LowQ (p:Q):Prop:=0<p.bot∧Nat.gcd p.top p.bot=1∧(p.neg=true→0<p.top)
theorem zaZ(p:Q):zaO p=sgnT p.neg (Lib.decDigits p.top)++(if p.bot=1 then[] else 47 :: Lib.decDigits p.bot):=rfl
theorem zfX {n:Nat} (h:0<n):Lib.decDigits n≠[48]:=fun e=>by
 have:=za1 n;rw[e] at this;have h48:zaj [48]=0:=by decide
 omega
theorem zoc(l:List UInt8):l=(cutL l).1++(if (cutL l).2.2=true then 47 :: (cutL l).2.1 else[]):=by
 unfold cutL
 split
 ·rename_i h
  obtain⟨o,ho⟩:=Int.eq_ofNat_of_zero_le h;obtain⟨h1,_⟩:=Lib.indexByte_some ho;rw[ho];simp only[Int.toNat_natCast,if_true]
  have aA:o<l.length:=by
   rcases Nat.lt_or_ge o l.length with h3 | h3
   ·exact h3
   ·rw[List.getElem?_eq_none h3] at h1;cases h1
  rw[List.getElem?_eq_getElem aA] at h1;injection h1 with h1
  conv=>lhs;rw[←List.take_append_drop o l,List.drop_eq_getElem_cons aA,h1]
 ·simp
theorem zos(t:List UInt8):t=sgnT (Lib.hasPrefix t [45]) (Lib.trimPrefix t [45]):=by
 unfold sgnT Lib.trimPrefix
 cases h:Lib.hasPrefix t [45]
 ·rfl
 ·cases t with
  | nil=>cases h
  | cons x r=>
   unfold Lib.hasPrefix at h;simp[List.isPrefixOf] at h
   subst h;rfl
theorem zjF(l:List UInt8)(h:zan l=0):zaO (zaf l)=l:=by
 obtain⟨h1,_,_,h4⟩:=zdn h;have e0:zaf l=⟨negL l,zaj (topL l),if zd4 l then zaj (botL l) else 1⟩:=by unfold zaf;rw[if_pos h]
 have ej:=zoc l;have es:=zos (cutL l).1;rw[zaZ,e0]
 dsimp only
 rw[zbx _ h1];have e1:sgnT (negL l) (topL l)=(cutL l).1:=es.symm;rw[e1]
 cases hf:zd4 l
 ·have aA:(cutL l).2.2=false:=hf
  rw[aA] at ej
  simpa using ej.symm
 ·have aA:(cutL l).2.2=true:=hf
  obtain⟨h5,h6,h7,_⟩:=h4 hf;have aC:zaj (botL l)≠1:=fun e=>by
   have:=zbx _ h5;rw[e] at this;exact h7 (this.symm.trans (by decide +kernel))
  rw[aA] at ej;simp only[if_true] at ej
  rw[if_pos rfl,if_neg aC,zbx _ h5];exact ej.symm
end Go.Proofs.YtbkgkoenppkhpaaGreatDoor
