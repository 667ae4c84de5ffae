/- Contract of the reference's parse: the integer of a text. -/
import Derived.Test.YtbkgkoenppkhpaaGreatDoorBRb9
set_option maxRecDepth 100000
set_option maxHeartbeats 4000000
namespace Go.Proofs.YtbkgkoenppkhpaaGreatDoor
open Go.RowKit Dn
theorem zmR{b:Bool}{x:Nat}{s:ByteArray}(hs:s.data.toList=sgnT b (Lib.decDigits x)):∃ h:0<s.size,(((s[0]'h).toNat:Int)==45)=b:=by
 have hl:=congrArg List.length hs;rw[Array.length_toList] at hl;have hd:=zaF x;have hp:=Dec.dec_length_pos x
 cases b
 ·have aA:s.data.size=(Lib.decDigits x).length:=hl
  have h0:0<s.size:=by show 0<s.data.size;omega
  refine⟨h0,?_⟩;have he:s[0]'h0=(Lib.decDigits x)[0]'hp:=by
   have:s[0]'h0=s.data.toList[0]'(by rw[Array.length_toList];exact h0):=rfl;rw[this];simp only[hs]
   rfl
  have hm:=zd9 hd (List.getElem_mem hp);rw[he,beq_eq_false_iff_ne];omega
 ·have aA:s.data.size=(Lib.decDigits x).length+1:=hl
  have h0:0<s.size:=by show 0<s.data.size;omega
  refine⟨h0,?_⟩;have he:s[0]'h0=45:=by
   have:s[0]'h0=s.data.toList[0]'(by rw[Array.length_toList];exact h0):=rfl;rw[this];simp only[hs]
   rfl
  rw[he]
  decide
def zcu (l:List UInt8) (t:ByteArray) (ws:List Nat):Prop:=t.data.toList=l.take t.size∧t.size≤l.length∧Wf ws∧l.length-t.size=9*ws.length∧val ws=zaj (l.drop t.size)
theorem zcu.start{l:List UInt8}{t:ByteArray}(h:t.data.toList=l):zcu l t []:=by
 have hl:l.length=t.size:=by rw[←h,Array.length_toList];rfl
 refine⟨by rw[←hl,List.take_length];exact h,by omega,Wf.nil,by simp;omega,?_⟩;rw[←hl,List.drop_length];rfl
theorem zij{l:List UInt8}(hd:zar l=true)(a b:Nat)(hb:b≤9):zaj ((l.drop a).take b)<B:=by
 have h1:=zbW _ (zeq l hd a b);have h2:10^((l.drop a).take b).length≤10^9:=Nat.pow_le_pow_right (by omega) (by rw[List.length_take];omega);rw[zqc];omega
theorem zcu.next{l:List UInt8}{t u v:ByteArray}{ws:List Nat}{d:Nat}(h:zcu l t ws)(hd:zar l=true)(h9:9<t.size)(hdd:d=t.size-9)(hu:u=t.extract 0 d)(hv:v=t.extract d t.size) :
  v.data.toList=(l.drop d).take 9∧v.size=9∧u.size=d∧zcu l u (ws++[zaj ((l.drop d).take 9)]):=by
 obtain⟨h1,h2,h3,h4,h5⟩:=h;have aD:v.data.toList=(l.drop d).take 9:=by
  rw[hv,zb9,h1,List.drop_take,List.take_take]
  congr 1
  omega
 have aA:u.size=d:=by rw[hu];simp;omega
 refine⟨aD,by rw[hv];simp;omega,aA,?_⟩;have aC:=zg2 l ws t.size d (by omega) h2 h4 h5;rw[show t.size-d=9 from by omega] at aC;refine⟨?_,by rw[aA];omega,h3.append (Wf.cons (zij hd _ _ (by omega)) Wf.nil),?_,?_⟩
 ·rw[aA,hu,zb9,List.drop_zero,Nat.sub_zero,h1,List.take_take]
  congr 1
  omega
 ·rw[aA,List.length_append]
  simp only[List.length_cons,List.length_nil]
  omega
 ·rw[aA]
  exact aC
theorem zcu.done{l:List UInt8}{t:ByteArray}{ws:List Nat}(h:zcu l t ws)(hd:zar l=true)(h9:t.size≤9):Wf (ws++[zaj t.data.toList])∧val (ws++[zaj t.data.toList])=zaj l:=by
 obtain⟨h1,h2,h3,h4,h5⟩:=h;have aA:=zg2 l ws t.size 0 (by omega) h2 h4 h5;rw[List.drop_zero,Nat.sub_zero,←h1] at aA;refine⟨h3.append (Wf.cons ?_ Wf.nil),aA⟩;have:=zij hd 0 t.size h9;rw[List.drop_zero,←h1] at this;exact this
theorem zei(s:ByteArray)(b:Bool)(x:Nat)(w:World)(hs:s.data.toList=sgnT b (Lib.decDigits x))(hsz:s.size≤1000000) :
  Calls Tryz.prog 135 #[.string s] w (RetZ w (sgn b x)):=by
 obtain⟨i0,aW,aV,bA,aY⟩:=info_parts zcc;have aX:Below w.heap.size w (w.alloc (.cells #[.bool false,.slice none 0 0] 97)):=Ac;have hk:=CBlk.new w #[.bool false,.slice none 0 0] 97 _ rfl;obtain⟨h0,bB⟩:=zmR hs;obtain⟨c0,aL⟩:∃ c0:Nat,(s[0]'h0).toNat=c0:=⟨_,rfl⟩;rw[aL] at bB;have d0:decide (0<s.size)=true:=by simpa using h0
 obtain⟨l,hl⟩:∃ l,l=Lib.decDigits x:=⟨_,rfl⟩;have aZ:zar l=true:=by rw[hl];exact zaF x
 have aT:zaj l=x:=by rw[hl];exact za1 x
 rw[←hl] at hs;have aJ:=Aa aZ;have bN:=Aa aT;have hcut:∃ t:ByteArray,t.data.toList=l∧t.size≤s.size∧t=(if b then s.extract 1 s.size else s):=by
  cases b
  ·exact⟨s,hs,Nat.le_refl _,rfl⟩
  ·refine⟨s.extract 1 s.size,?_,by simp,rfl⟩
   have bE:l.length+1=s.size:=by
    have:=congrArg List.length hs;rw[Array.length_toList] at this;exact this.symm
   rw[zb9,hs];show(l.take (s.size-1))=l
   exact List.take_of_length_le (by omega)
 obtain⟨t0,aR,bO,aI⟩:=hcut;have bP:=Aa (zcu.start aR);have LB:Hid (l.length≤1000000):=by
  show l.length≤1000000
  rw[←aR,Array.length_toList];exact Nat.le_trans bO hsz
 have bR:=Aa aL;have bK:=Aa aI;clear hs hl aZ aT aR aL aI;have bF:(1:Int)≤(s.size:Int):=by omega
 cases b
 all_goals
  have aI:=bK.out;simp only[if_true,Bool.false_eq_true,if_false] at aI
  first
   |(subst aI)
   |(have bG:=aI.symm)
  have aL:=bR.out;go_enter Tryz.func135,Tryz.ntmps135
  go_wp2
  clear aL d0 bF bB;generalize (w.alloc (.cells #[.bool false,.slice none 0 0] 97))=w0 at *
  go_loopg [0,4] 1000000 (fun g v0 v4 W=>∃ (t:ByteArray) (ws:List Nat),v0 = .string t∧t.size≤g∧t.size≤1000000∧W.ownsRow w0.heap.size 3 1 v4 ws.length (ws.map natv)∧Hid (zcu l t ws)∧Below w0.heap.size w0 W)
  case atStart=>exact⟨_,[],rfl,by omega,by omega,World.ownsRow_nil _ _ _ _,bP.out,Below.refl _ _⟩
  case round=>
   obtain⟨t,ws,rfl,hg,ht,aE,aC,aH⟩:=hrel;have hsz:=aH.size;have bH:ws.length≤1000000∨True := .inr trivial
   by_cases h9:9<t.size
   ·obtain⟨d,hd⟩:∃ d,d=t.size-9:=⟨_,rfl⟩
    obtain⟨p1,p2,p3,p4⟩:=aC.out.next aJ.out h9 hd rfl rfl;have aM:zar (t.extract d t.size).data.toList=true:=by rw[p1];exact zeq l aJ.out d 9
    have aG:=zeg (t.extract d t.size) wr aM (by omega);rw[p1] at aG;have bD:=zij aJ.out d 9 (by omega);have bJ:ws.length≤1000000:=by
     have h1:=aC.out.2.2.2.1;have h2:=p4.2.2.2.1;have h3:=LB.out;omega
    generalize zaj ((l.drop d).take 9)=v at *;have ed:(t.size:Int)-9=(d:Int):=by omega
    have d9:decide ((9:Int)<(t.size:Int))=true:=by simp;omega
    have HV:=Aa aG;have HP:=Aa p4;have aS:=Aa p3;have bS:d≤t.size:=by omega
    have bT:v<1000000000:=bD;have HD:=Aa hd;clear p1 p2 p3 p4 aM aG hd aC
    go_wp2_with fail
    refine HV.out.mono ?_;rintro e w2 ⟨rfl,aO⟩;obtain rfl:wr=w2:=aO
    go_wp2_with (at_builtin;refine wpList_append_own _ rfl _ _ 78 rfl w0.heap.size 3 i0 (.int .i64 0) 1 8 Tryz.underlying78 aW aV bA aY rfl (by decide) _ _ _ rfl (aE.alloc _) ⟨wr.heap.size,0,none⟩ 1 1 [.int .i64 (v:Int)] rfl rfl ?c1 ?c2 ?c3 ?c4 ?c5 ?_)
    case c1=>exact cell_one_new _ _ _
    case c2=>intro u hu;simp at hu;subst hu;rfl
    case c3=>unfold maxLen;omega
    case c4=>omega
    case c5=>simp;omega
    intro v' w2 aD aA _;have aN:Below w0.heap.size w0 w2:=(aH.alloc hsz _).grown aA (by simp;omega) (fun g hg=>(World.ownsRow.lt aE g hg).1);clear aA aE;go_wp2
    go_roundg d
    case measure=>have:=HD.out;omega
    case rel=>exact⟨t.extract 0 d,ws++[v],rfl,by rw[aS.out];exact Nat.le_refl _,by rw[aS.out];omega,by rw[List.length_append,List.map_append];exact aD,HP.out,aN⟩
   ·obtain⟨q1,q2⟩:=aC.out.done aJ.out (by omega)
    have aM:zar t.data.toList=true:=by
     rw[aC.out.1];have:=zeq l aJ.out 0 t.size
     rwa [List.drop_zero] at this
    have bJ:ws.length≤1000000:=by
     have h1:=aC.out.2.2.2.1;have h3:=LB.out;omega
    have HV:=Aa (zeg t wr aM (by omega));have d9:decide ((9:Int)<(t.size:Int))=false:=by simp;omega
    generalize zaj t.data.toList=v at *;have HQ:=Aa q1;have bM:=Aa q2;clear aM q1 q2 aC
    go_wp2_with fail
    refine HV.out.mono ?_;rintro e w2 ⟨rfl,aO⟩;obtain rfl:wr=w2:=aO
    go_wp2_with (at_builtin;refine wpList_append_own _ rfl _ _ 78 rfl w0.heap.size 3 i0 (.int .i64 0) 1 8 Tryz.underlying78 aW aV bA aY rfl (by decide) _ _ _ rfl (aE.alloc _) ⟨wr.heap.size,0,none⟩ 1 1 [.int .i64 (v:Int)] rfl rfl ?c1 ?c2 ?c3 ?c4 ?c5 ?_)
    case c1=>exact cell_one_new _ _ _
    case c2=>intro u hu;simp at hu;subst hu;rfl
    case c3=>unfold maxLen;omega
    case c4=>omega
    case c5=>simp;omega
    intro v' w2 aD aA _;have aN:Below w0.heap.size w0 w2:=(aH.alloc hsz _).grown aA (by simp;omega) (fun g hg=>(World.ownsRow.lt aE g hg).1);clear aA aE;have aF:w2.ownsRow w0.heap.size 3 1 v' (ws.length+1) ((ws++[v]).map natv):=by rw[List.map_append];exact aD
    obtain⟨A9,c9,rfl,bL,bI,bC⟩:=zcF aF;have aP:=fun b=>za3 b A9 (ws.length+1) c9 (ws++[v]) w2 ⟨bC,bL,bI,HQ.out⟩ (by omega)
    simp only[bM.out,bN.out] at aP
    have HS:=Aa aP;have aU:=hk.below aN hk.lt;clear aP aD aF bC
    go_wp2_with fail
    refine(HS.out _).mono ?_;rintro e w6 ⟨A6,m6,c6,rfl,bQ,aQ⟩;have aK:=aU.below aQ aU.lt;have e0:w6.cell? ⟨w.heap.size,0,none⟩=some (.bool false):=aK.cell 0;have e1:w6.cell? ⟨w.heap.size,1,none⟩=some (.slice none 0 0):=aK.cell 1;have f0:w6.frozen? ⟨w.heap.size,0,none⟩=false:=aK.frozen 0;have f1:w6.frozen? ⟨w.heap.size,1,none⟩=false:=aK.frozen 1;have hB:=aX.trans ((aN.trans (aQ.mono aN.size)).mono aX.size);clear aQ
    go_wp2_with fail
    refine bodyPost_ret (v := .agg #[.bool (decide (sgn _ x<0)),.slice A6 m6 c6]) (by simp[results,Tryz.results135,go_sem,e0,e1];first | rfl | done) rfl ?_
    exact⟨A6,m6,c6,rfl,bQ.box aK _ _,zbO hB (by omega) _ _⟩
theorem zmL(b:Bool)(x y:Nat)(hy:0<y):zcn (sgn b x) y=⟨decide (sgn b (x/Nat.gcd x y)<0),x/Nat.gcd x y,y/Nat.gcd x y⟩:=by
 unfold zcn;rw[zb2,zdp,zdp,zpN _ _ _ hy]
 congr 1
 rcases Nat.eq_zero_or_pos x with h | h
 ·subst h
  simp
 ·have h1:0<x/Nat.gcd x y:=Nat.div_pos (Nat.gcd_le_left _ h) (Nat.gcd_pos_of_pos_right _ hy)
  have h2:decide (0<x)=true:=by simpa using h
  have h3:decide (x/Nat.gcd x y=0)=false:=by simp only[decide_eq_false_iff_not];omega
  have h4:decide (0<x/Nat.gcd x y)=true:=by simpa using h1
  rw[h2,h3,h4]
  cases b<;>rfl
theorem zkX{x n:Nat}(h:(digs x).length=n):(Lib.decDigits x).length≤9*n+1:=by
 rcases Nat.eq_zero_or_pos n with h0 | h0
 ·have:x=0:=za4.1 (by omega)
  subst this;rw[Dec.dec_lt (by omega)];simp
 ·have h1:=zac x
  rw[h] at h1;have h2:=zkP h0 h1 0;rw[Nat.pow_zero,Nat.div_one] at h2;omega
theorem zfL(b:Bool)(t:List UInt8):(sgnT b t).length≤t.length+1:=by
 unfold sgnT
 cases b<;>simp
theorem zeZ(b:Bool)(x y:Nat)(A1 A2:Option Addr)(n1 c1 n2 c2:Nat)(w:World)(h1:DigI w A1 n1 c1 (digs x))(h2:DigI w A2 n2 c2 (digs y))(hy:0<y)(k1:n1≤500000)(k2:n2≤500000) :
  Calls Tryz.prog 104 #[.agg #[.bool b,.slice A1 n1 c1],.agg #[.bool false,.slice A2 n2 c2]] w fun e w'=>(∃ s:ByteArray,e = .returned (.string s)∧s.data.toList=zaO (zcn (sgn b x) y))∧Below w.heap.size w w':=by
 rw[zmL b x y hy];have hB:Below w.heap.size w ((w.alloc (.cells #[.bool b,.slice A1 n1 c1] 97)).alloc (.cells #[.bool false,.slice A2 n2 c2] 97)):=((Below.refl _ _).alloc (Nat.le_refl _) _).alloc (by simp) _;have aP:CBlk ((w.alloc (.cells #[.bool b,.slice A1 n1 c1] 97)).alloc (.cells #[.bool false,.slice A2 n2 c2] 97)) w.heap.size #[.bool b,.slice A1 n1 c1] 97:=(CBlk.new w _ _ _ rfl).below ((Below.refl _ _).alloc (Nat.le_refl _) _) (by simp);have aR:CBlk ((w.alloc (.cells #[.bool b,.slice A1 n1 c1] 97)).alloc (.cells #[.bool false,.slice A2 n2 c2] 97)) (w.heap.size+1) #[.bool false,.slice A2 n2 c2] 97:=CBlk.new (w.alloc (.cells #[.bool b,.slice A1 n1 c1] 97)) _ _ (w.heap.size+1) (by simp);have bR:=Aa h1;have bU:=Aa h2;obtain⟨g,hg⟩:∃ g,g=Nat.gcd x y:=⟨_,rfl⟩;have bJ:0<g:=by rw[hg];exact Nat.gcd_pos_of_pos_right _ hy
 have bM:g≤y:=by rw[hg];exact Nat.gcd_le_right _ hy
 have bS:(digs g).length≤n2:=by rw[←h2.len];exact zaa bM
 have bN:(digs (x/g)).length≤n1:=by rw[←h1.len];exact zaa (Nat.div_le_self _ _)
 have bI:(digs (y/g)).length≤n2:=by rw[←h2.len];exact zaa (Nat.div_le_self _ _)
 have bZ:=Aa bS;have bD:=Aa bN;have bA:=Aa bI;rw[←hg];obtain⟨X,hX⟩:∃ X,X=x/g:=⟨_,rfl⟩;obtain⟨Y,hY⟩:∃ Y,Y=y/g:=⟨_,rfl⟩;obtain⟨z,hz⟩:∃ z,z=sgn b X:=⟨_,rfl⟩;rw[←hX,←hY,←hz];have HX:=Aa hX;have HY:=Aa hY;have HZ:=Aa hz;have HG:=Aa hg;have bO:=Aa bJ;rw[←hX] at bD;rw[←hY] at bA;clear h1 h2 hg bS bN bI bM bJ hX hY hz;go_enter Tryz.func104,Tryz.ntmps104
 go_upto_region 1 with(fail)
 generalize ((w.alloc (.cells #[.bool b,.slice A1 n1 c1] 97)).alloc (.cells #[.bool false,.slice A2 n2 c2] 97))=w3 at *;have a0:w3.cell? ⟨w.heap.size,0,none⟩=some (.bool b):=aP.cell 0;have a1:w3.cell? ⟨w.heap.size,1,none⟩=some (.slice A1 n1 c1):=aP.cell 1;have q0:w3.cell? ⟨w.heap.size+1,0,none⟩=some (.bool false):=aR.cell 0;have q1:w3.cell? ⟨w.heap.size+1,1,none⟩=some (.slice A2 n2 c2):=aR.cell 1;have al:=aP.lt;have bl:=aR.lt;clear aP aR
 go_wp2_with fail
 refine(zeL A1 A2 n1 c1 n2 c2 x y w3 (bR.out.later hB) (bU.out.later hB) (by omega) (by omega)).mono ?_;rintro e w4 ⟨A5,m5,c5,rfl,aH,aI⟩;rw[←HG.out] at aH;clear q0
 replace a0:=(aI.cell (p:=⟨w.heap.size,0,none⟩) al).trans a0
 replace a1:=(aI.cell (p:=⟨w.heap.size,1,none⟩) al).trans a1
 replace q1:=(aI.cell (p:=⟨w.heap.size+1,1,none⟩) bl).trans q1
 replace hB:=Ad hB aI
 replace al:=Nat.lt_of_lt_of_le al aI.size
 replace bl:=Nat.lt_of_lt_of_le bl aI.size
 have cI:m5≤n2:=by rw[←aH.len];exact bZ.out
 clear aI
 go_wp2_with fail
 refine(zce A1 A5 n1 c1 m5 c5 x g w4 (bR.out.later hB) aH bO.out (by omega) (by omega)).mono ?_;rintro e w5 ⟨Ap,mp,cp,Ar,mr,cr,rfl,aJ,_,aE⟩;rw[←HX.out] at aJ
 replace a0:=(aE.cell (p:=⟨w.heap.size,0,none⟩) al).trans a0
 replace a1:=(aE.cell (p:=⟨w.heap.size,1,none⟩) al).trans a1
 replace q1:=(aE.cell (p:=⟨w.heap.size+1,1,none⟩) bl).trans q1
 replace hB:=Ad hB aE
 replace al:=Nat.lt_of_lt_of_le al aE.size
 replace bl:=Nat.lt_of_lt_of_le bl aE.size
 replace aH:=aH.later aE
 clear aE
 go_wp2_with fail
 refine(zce A2 A5 n2 c2 m5 c5 y g w5 (bU.out.later hB) aH bO.out (by omega) (by omega)).mono ?_;rintro e w6 ⟨Aq,mq,cq,cE,cH,cN,rfl,aC,_,aF⟩;rw[←HY.out] at aC
 replace a0:=(aF.cell (p:=⟨w.heap.size,0,none⟩) al).trans a0
 replace a1:=(aF.cell (p:=⟨w.heap.size,1,none⟩) al).trans a1
 replace q1:=(aF.cell (p:=⟨w.heap.size+1,1,none⟩) bl).trans q1
 replace hB:=Ad hB aF
 replace al:=Nat.lt_of_lt_of_le al aF.size
 replace bl:=Nat.lt_of_lt_of_le bl aF.size
 replace aJ:=aJ.later aF
 clear aF aH;have bW:mp≤n1:=by rw[←aJ.len];exact bD.out
 have cL:mq≤n2:=by rw[←aC.len];exact bA.out
 have aK:=aC.len;have aN:=zkX aJ.len;have aO:=zkX aC.len;have bC:=za3 b Ap mp cp (digs X) w6 aJ (by omega);rw[zak,←HZ.out] at bC;have aW:=zb2 b X;have aY:=zdp b X;rw[←HZ.out] at aW aY;have HS:=Aa bC;have aU:=Aa aW;have bE:=Aa aY;have bB:=Aa aK;have aM:=Aa aN;have aV:=Aa aO;clear bC aW aY aJ aK aN aO
 go_wp2_with fail
 refine HS.out.mono ?_;rintro e w7 ⟨A7,m7,c7,rfl,aQ,aD⟩
 replace a0:=(aD.cell (p:=⟨w.heap.size,0,none⟩) al).trans a0
 replace a1:=(aD.cell (p:=⟨w.heap.size,1,none⟩) al).trans a1
 replace q1:=(aD.cell (p:=⟨w.heap.size+1,1,none⟩) bl).trans q1
 replace hB:=Ad hB aD
 replace al:=Nat.lt_of_lt_of_le al aD.size
 replace bl:=Nat.lt_of_lt_of_le bl aD.size
 replace aC:=aC.later aD
 clear aD HS;rw[aU.out] at aQ;have bX:m7≤n1∨True := .inr trivial;have bP:=zeP (decide (z<0)) X A7 m7 c7 w7 aQ (by rw[bE.out];simp) (by rw[←aQ.len];have:=bD.out;have:=aM.out;have:=bW;omega);have HT:=Aa bP;clear bP bX
 go_wp2_with fail
 refine HT.out.mono ?_;rintro e w8 ⟨⟨s,rfl,hs⟩,aG⟩
 replace a0:=(aG.cell (p:=⟨w.heap.size,0,none⟩) al).trans a0
 replace a1:=(aG.cell (p:=⟨w.heap.size,1,none⟩) al).trans a1
 replace q1:=(aG.cell (p:=⟨w.heap.size+1,1,none⟩) bl).trans q1
 replace hB:=Ad hB aG
 replace al:=Nat.lt_of_lt_of_le al aG.size
 replace bl:=Nat.lt_of_lt_of_le bl aG.size
 replace aC:=aC.later aG
 have cF:s.size≤4500003:=by
  have h9:s.data.toList.length=s.size:=Array.length_toList;have h8:=zfL (decide (z<0)) (Lib.decDigits X);rw[←hs] at h8;have:=aM.out;omega
 have bH:=Aa hs;clear aG HT hs aQ a0 a1 q1
 by_cases hY:Y=1
 ·subst hY
  have bT:(digs 1).length=1:=by rw[zbt (by omega) (by decide)];rfl
  obtain rfl:mq=1:=by rw[←bB.out];exact bT
  obtain⟨ad,bK,rfl,cB,aA⟩:=aC.rd.cellM (k:=0) (by omega);have he:(digs 1)[0]=1:=by
   have:digs 1=[1]:=zbt (by omega) (by decide);simp[this]
  unfold natv at aA;rw[he] at aA
  replace aA:w8.cell? ad=some (.int .i64 1):=aA
  have HR:Hid (s.data.toList=zaO ⟨decide (z<0),X,1⟩):=by
   show s.data.toList=_
   rw[zaZ,bH.out];simp
  clear bT bK he;go_wp2
  go_ret;exact⟨⟨s,rfl,HR.out⟩,hB⟩
 ·have aL:(((mq:Int)==1)=false)∨(mq=1∧∃ ad v:_,Aq=some ad∧w8.cell? ad=some (.int .i64 (v:Int))∧((v==1)=false)):=by
   by_cases hm:mq=1
   ·subst hm
    obtain⟨ad,bK,rfl,cB,aA⟩:=aC.rd.cellM (k:=0) (by omega);refine .inr ⟨rfl,ad,(((digs Y)[0]:Nat):Int),rfl,aA,?_⟩;rw[beq_eq_false_iff_ne];intro h9
    apply hY
    have h8:(digs Y)[0]=1:=by omega
    have h7:digs Y=[1]:=by
     apply List.ext_getElem
     ·rw[bB.out];rfl
     ·intro i cK bV
      have:i=0:=by simp at bV;omega
      subst this
      simpa using h8
    rw[←zak Y,h7];simp
   ·exact .inl (by rw[beq_eq_false_iff_ne];omega)
  have aZ:=za3 false Aq mq cq (digs Y) w8 aC (by omega);rw[zak] at aZ;have bF:=Aa aZ;have bQ:=Aa hB;have bG:Hid ((sgn false Y).natAbs=Y∧decide (sgn false Y<0)=false):=⟨zb2 _ _,by rw[zdp];rfl⟩;generalize sgn false Y=z2 at *;have bY:=Aa hY;clear aZ hY hB
  rcases aL with d1 | ⟨rfl,ad,v,rfl,cJ,cM⟩
  all_goals
   go_wp2_with fail
   refine bF.out.mono ?_;rintro e w9 ⟨A9,m9,c9,rfl,aS,bL⟩;rw[bG.out.1] at aS;rw[bG.out.2];have cC:=Aa (zeP false Y A9 m9 c9 w9 aS (by intro h;cases h) (by rw[←aS.len];have:=bA.out;have:=bB.out;omega))
   go_wp2_with fail
   refine cC.out.mono ?_;rintro e cG ⟨⟨s2,rfl,aT⟩,aX⟩;have cA:s2.size≤4500003:=by
    have h9:s2.data.toList.length=s2.size:=Array.length_toList;rw[aT] at h9;have h8:=zfL false (Lib.decDigits Y);have:=aV.out;omega
   have HR:Hid (((s++⟨#[47]⟩)++s2).data.toList=zaO ⟨decide (z<0),X,Y⟩):=by
    show((s++⟨#[47]⟩)++s2).data.toList=_
    rw[zaZ,if_neg bY.out,ByteArray.data_append,ByteArray.data_append,Array.toList_append,Array.toList_append,bH.out,aT,List.append_assoc];rfl
   clear aT aS;go_wp2
   go_ret;exact⟨⟨_,rfl,HR.out⟩,bQ.out.trans ((bL.trans (aX.mono bL.size)).mono bQ.out.size)⟩
theorem zow(x y:Nat)(w:World)(hx:x≤4000000000000000000)(hy:y≤4000000000000000000) :
  Calls Tryz.prog 108 #[.int .i64 (x:Int),.int .i64 (y:Int)] w fun e w'=>e = .returned (.int .i64 ((Nat.gcd x y:Nat):Int))∧Below w.heap.size w w':=by
 go_enter Tryz.func108,Tryz.ntmps108
 go_wp2
 go_loopg [0,1] y (fun q v0 v1 W=>∃ u v:Nat,v0 = .int .i64 (u:Int)∧v1 = .int .i64 (v:Int)∧v≤q∧u≤4000000000000000000∧v≤4000000000000000000∧Hid (Nat.gcd u v=Nat.gcd x y)∧Below w.heap.size w W)
 case atStart=>exact⟨x,y,rfl,rfl,Nat.le_refl _,hx,hy,rfl,Below.refl _ _⟩
 case round=>
  obtain⟨u,v,rfl,rfl,hq,hu,hv,hg,aA⟩:=hrel
  by_cases h0:v=0
  ·subst h0
   have hR:Nat.gcd x y=u:=by rw[←hg.out,Nat.gcd_zero_right]
   have HR:=Aa hR;clear hR hg;go_wp2
   go_ret;exact⟨by rw[HR.out];rfl,aA⟩
  ·have d1:decide (0<v)=true:=by simp;omega
   obtain⟨r,hr⟩:∃ r,r=u%v:=⟨_,rfl⟩;have aC:r<v:=by rw[hr];exact Nat.mod_lt _ (by omega)
   have HG:Hid (Nat.gcd v r=Nat.gcd x y):=by
    show Nat.gcd v r=Nat.gcd x y
    rw[hr,←hg.out,Nat.gcd_comm v (u%v),←Nat.gcd_rec,Nat.gcd_comm]
   have z1:((v:Int)==0)=false:=by rw[beq_eq_false_iff_ne];omega
   have f1:Int.tmod (u:Int) (v:Int)=(r:Int):=by rw[Int.tmod_eq_emod_of_nonneg (by omega),←Int.natCast_emod,←hr]
   clear hr hg h0;go_upto_region 2 with(fail)
   go_quiet (fail)
   clear f1;go_wp2
   go_roundg r
   case measure=>omega
   case rel=>exact⟨v,r,rfl,rfl,Nat.le_refl _,hv,by omega,HG.out,zad aA _⟩
theorem zob(b:Bool)(x y:Nat)(w:World)(hx:x≤4000000000000000000)(hy:y≤4000000000000000000)(hy0:0<y) :
  Calls Tryz.prog 49 #[.int .i64 (sgn b x),.int .i64 (y:Int)] w fun e w'=>(∃ s:ByteArray,e = .returned (.string s)∧s.data.toList=zaO (zcn (sgn b x) y))∧Below w.heap.size w w':=by
 rw[zmL b x y hy0];obtain⟨g,hg⟩:∃ g,g=Nat.gcd x y:=⟨_,rfl⟩;have aW:0<g:=by rw[hg];exact Nat.gcd_pos_of_pos_right _ hy0
 have aM:g≤y:=by rw[hg];exact Nat.gcd_le_right _ hy0
 have HC:=zow x y w hx hy;rw[←hg] at HC ⊢;obtain⟨X,hX⟩:∃ X,X=x/g:=⟨_,rfl⟩;obtain⟨Y,hY⟩:∃ Y,Y=y/g:=⟨_,rfl⟩;obtain⟨z,hz⟩:∃ z,z=sgn b x:=⟨_,rfl⟩;obtain⟨z1,aE⟩:∃ z1,z1=sgn b X:=⟨_,rfl⟩;have bL:X≤x:=by rw[hX];exact Nat.div_le_self _ _
 have bI:Y≤y:=by rw[hY];exact Nat.div_le_self _ _
 have bG:0<Y:=by rw[hY];exact Nat.div_pos aM aW
 have aU:z=(x:Int)∨z = -(x:Int):=by rw[hz];unfold sgn;cases b<;>simp
 have aH:z1=(X:Int)∨z1 = -(X:Int):=by rw[aE];unfold sgn;cases b<;>simp
 have f1:Int.tdiv z (g:Int)=z1:=by
  have h9:Int.tdiv (x:Int) (g:Int)=(X:Int):=by rw[Int.tdiv_eq_ediv_of_nonneg (by omega),←Int.natCast_ediv,←hX]
  rw[hz,aE];unfold sgn
  cases b
  ·simp[h9]
  ·simp[Int.neg_tdiv,h9]
 have f2:Int.tdiv (y:Int) (g:Int)=(Y:Int):=by rw[Int.tdiv_eq_ediv_of_nonneg (by omega),←Int.natCast_ediv,←hY]
 have f3:IntKind.i64.wrap z1=z1:=IntWalk.i64_in _ (by omega);have f4:IntKind.i64.wrap (Y:Int)=(Y:Int):=IntWalk.i64_in _ (by omega);have f5:((g:Int)==0)=false:=by rw[beq_eq_false_iff_ne];omega
 rw[←hX,←hY,←hz,←aE];have em:max z (-z)=(x:Int):=by omega
 have aX:max z1 (-z1)=(X:Int):=by omega
 have d1:decide (z < -4000000000000000000)=false:=by simp<;>omega
 have d2:decide (4000000000000000000<z)=false:=by simp<;>omega
 have d3:decide ((y:Int) < -4000000000000000000)=false:=by simp only[decide_eq_false_iff_not];omega
 have d4:decide ((4000000000000000000:Int)<(y:Int))=false:=by simp only[decide_eq_false_iff_not];omega
 have d5:decide ((y:Int)<0)=false:=by simp
 have bF : -4000000000000000000≤z:=by omega
 have aY:z≤4000000000000000000:=by omega
 have aN : -4000000000000000000≤z1:=by omega
 have aQ:z1≤4000000000000000000:=by omega
 have bH:X≤4000000000000000000:=by omega
 have bK:Y≤4000000000000000000:=by omega
 have aT:=Aa HC;clear HC hg hX hY hz aE aU aH aM;have bC:=Aa (fun W=>zc0 X 1 W (by omega) (by omega));have bB:=Aa (fun W=>zc0 Y 1 W (by omega) (by omega));have aP:(Lib.decDigits X).length≤19:=Dec.dec_length_le (by omega) (by have e:(10:Nat)^19=10000000000000000000:=(by decide);omega);have aJ:(Lib.decDigits Y).length≤19:=Dec.dec_length_le (by omega) (by have e:(10:Nat)^19=10000000000000000000:=(by decide);omega);have bD:=Aa aP;have bA:=Aa aJ;clear aP aJ;go_enter Tryz.func49,Tryz.ntmps49
 go_wp2_with fail
 refine aT.out.mono ?_;rintro e w1 ⟨rfl,aL⟩;clear em d1 d2 d3 d4 d5;go_upto_region 6 with(fail)
 go_quiet (fail)
 clear f1 f2 f3 f4;have aK:=zad aL;generalize aO:w1.drewN _=w2 at *;have aR:Below w.heap.size w w2:=by rw[←aO];exact aK _
 clear aK aO aL;have aS:∀ s:ByteArray,s.data.toList=Lib.decDigits X→s.size≤19:=fun s hs=>by
  have h9:s.data.toList.length=s.size:=Array.length_toList;rw[hs] at h9;have:=bD.out;omega
 have aI:∀ s:ByteArray,s.data.toList=Lib.decDigits Y→s.size≤19:=fun s hs=>by
  have h9:s.data.toList.length=s.size:=Array.length_toList;rw[hs] at h9;have:=bA.out;omega
 have bE:=Aa aS;have aV:=Aa aI;have bM:=Aa aX;clear aS aI
 by_cases hneg:z1<0
 case' pos=>have dn:decide (z1<0)=true:=by simpa using hneg
 case' neg=>have dn:decide (z1<0)=false:=by simpa using hneg
 case' pos=>obtain⟨pr,aA⟩:∃ pr:List UInt8,pr=[45]:=⟨_,rfl⟩
 case' neg=>obtain⟨pr,aA⟩:∃ pr:List UInt8,pr=[]:=⟨_,rfl⟩
 case' pos=>have aG:Hid (∀ l,sgnT (decide (z1<0)) l=[45]++l):=fun l=>by rw[dn];rfl
 case' neg=>have aG:Hid (∀ l,sgnT (decide (z1<0)) l=[]++l):=fun l=>by rw[dn];rfl
 all_goals
  go_wp2_with fail
  refine(bC.out w2).mono ?_;rintro e w3 ⟨⟨s,rfl,hs⟩,hw⟩;obtain rfl:w2=w3:=hw;rw[zih] at hs;have bJ:=bE.out s hs;have HS:=Aa hs;clear hs
  by_cases hY1:Y=1
  ·have dy:decide ((1:Int)<(Y:Int))=false:=by simp only[decide_eq_false_iff_not];omega
   have aF:=Aa hY1;clear hY1;have HR:Hid (∀ t:ByteArray,t.data.toList=pr++s.data.toList→t.data.toList=zaO ⟨decide (z1<0),X,Y⟩):=fun t ht=>by
    rw[zaZ,if_pos aF.out,aG.out,List.append_nil,ht,aA,HS.out]
   have aD:=Aa aA;clear aA;go_wp2
   go_ret;exact⟨⟨_,rfl,HR.out _ (by rw[aD.out];first | rfl | (rw[ByteArray.data_append,Array.toList_append];rfl))⟩,aR⟩
  ·have dy:decide ((1:Int)<(Y:Int))=true:=by simp only[decide_eq_true_eq];omega
   have aF:=Aa hY1;clear hY1;have aD:=Aa aA;clear aA
   go_wp2_with fail
   refine(bB.out w2).mono ?_;rintro e w3 ⟨⟨s2,rfl,aC⟩,hw⟩;obtain rfl:w2=w3:=hw;rw[zih] at aC;have aZ:=aV.out s2 aC;have HR:Hid (∀ t:ByteArray,t.data.toList=(pr++s.data.toList)++[47]++s2.data.toList→t.data.toList=zaO ⟨decide (z1<0),X,Y⟩):=fun t ht=>by
    rw[zaZ,if_neg aF.out,aG.out,ht,aD.out,HS.out,aC,List.append_assoc];rfl
   clear aC;go_wp2
   go_ret;exact⟨⟨_,rfl,HR.out _ (by rw[aD.out];simp only[ByteArray.data_append,Array.toList_append])⟩,aR⟩
def zcT (y:Nat):List UInt8:=if y=1 then[] else 47 :: Lib.decDigits y
def NumT (a:ByteArray) (b:Bool) (x y:Nat):Prop:=a.data.toList=sgnT b (Lib.decDigits x)++zcT y
def absT (a:ByteArray) (b:Bool):ByteArray:=if b then a.extract 1 a.size else a
theorem NumT.abs{a:ByteArray}{b:Bool}{x y:Nat}(h:NumT a b x y):(absT a b).data.toList=Lib.decDigits x++zcT y:=by
 unfold absT
 cases b
 ·exact h
 ·simp only[if_true]
  rw[zb9,h];have hl:(sgnT true (Lib.decDigits x)++zcT y).length=a.size:=by rw[←h,Array.length_toList];rfl
  show List.take (a.size-1) (Lib.decDigits x++zcT y)=_
  refine List.take_of_length_le ?_;have:(sgnT true (Lib.decDigits x)++zcT y).length=(Lib.decDigits x++zcT y).length+1:=rfl;omega
theorem ziw(a:ByteArray)(b:Bool):(absT a b).size≤a.size:=by
 unfold absT
 cases b<;>simp
theorem NumT.head{a:ByteArray}{b:Bool}{x y:Nat}(h:NumT a b x y):∃ h:0<a.size,(((a[0]'h).toNat:Int)==45)=b:=by
 have hl:=congrArg List.length h;rw[Array.length_toList,List.length_append] at hl;have hd:=zaF x;have hp:=Dec.dec_length_pos x
 cases b
 ·have aA:a.data.size=(Lib.decDigits x).length+(zcT y).length:=hl
  have h0:0<a.size:=by show 0<a.data.size;omega
  refine⟨h0,?_⟩;have he:a[0]'h0=(Lib.decDigits x)[0]'hp:=by
   have:a[0]'h0=a.data.toList[0]'(by rw[Array.length_toList];exact h0):=rfl;rw[this];have h':a.data.toList=Lib.decDigits x++zcT y:=h;simp only[h']
   exact List.getElem_append_left hp
  have hm:=zd9 hd (List.getElem_mem hp);rw[he,beq_eq_false_iff_ne];omega
 ·have aA:a.data.size=(Lib.decDigits x).length+1+(zcT y).length:=hl
  have h0:0<a.size:=by show 0<a.data.size;omega
  refine⟨h0,?_⟩;have he:a[0]'h0=45:=by
   have:a[0]'h0=a.data.toList[0]'(by rw[Array.length_toList];exact h0):=rfl;rw[this];have h':a.data.toList=45 :: (Lib.decDigits x++zcT y):=h;simp only[h']
   rfl
  rw[he]
  decide
theorem zjW(x:Nat):∀ c ∈ Lib.decDigits x,c≠47:=zb4 (neg:=false) (zaF x)
theorem zcI (l:List UInt8) (y:Nat) (h:∀ c ∈ l,c≠47):zbB (l++zcT y)=l.length:=by
 unfold zcT
 split
 ·rw[List.append_nil];exact zb6 h
 ·exact zcQ h
theorem zdX{t:ByteArray}{l:List UInt8}{y k:Nat}(h:t.data.toList=l++zcT y)(hk:k=l.length) :
  (t.extract 0 k).data.toList=l∧(y=1→t.size=k)∧(y≠1→k<t.size∧(t.extract (k+1) t.size).data.toList=Lib.decDigits y∧t.size=k+1+(Lib.decDigits y).length):=by
 subst hk;have hl:t.size=l.length+(zcT y).length:=by
  have:=congrArg List.length h;rw[Array.length_toList,List.length_append] at this;exact this
 refine⟨?_,fun hy => ?_,fun hy => ?_⟩
 ·rw[zb9,h,List.drop_zero,Nat.sub_zero,List.take_left]
 ·rw[hl,hy];simp[zcT]
 ·have ht:zcT y=47 :: Lib.decDigits y:=by unfold zcT;rw[if_neg hy]
  rw[ht,List.length_cons] at hl;refine⟨by omega,?_,by omega⟩;rw[zb9,h,ht,←List.drop_drop,List.drop_left];simp only[List.drop_succ_cons,List.drop_zero]
  exact List.take_of_length_le (by omega)
def RetQ (w:World) (b:Bool) (x y:Nat) (e:Ending) (w':World):Prop:=
 w=w'∧(e = .returned (.tuple #[.int .i64 0,.int .i64 0,.bool false])∨(e = .returned (.tuple #[.int .i64 (sgn b x),.int .i64 (y:Int),.bool true])∧x<1000000000∧y<1000000000))
theorem RetQ.no(w:World)(b:Bool)(x y:Nat):RetQ w b x y (.returned (.tuple #[.int .i64 0,.int .i64 0,.bool false])) w:=⟨rfl,.inl rfl⟩
theorem zix {x:Nat} (h:(Lib.decDigits x).length≤9):x<1000000000:=by
 have h1:=zbW _ (zaF x);rw[za1] at h1;have h2:10^(Lib.decDigits x).length≤10^9:=Nat.pow_le_pow_right (by omega) h;have e:(10:Nat)^9=1000000000:=by decide
 omega
theorem zel(a:ByteArray)(b:Bool)(x y:Nat)(w:World)(h:NumT a b x y)(ha:a.size≤1000000) :
  Calls Tryz.prog 103 #[.string a] w (RetQ w b x y):=by
 by_cases h20:20<a.size
 ·have d1:decide ((20:Int)<(a.size:Int))=true:=by simp only[decide_eq_true_eq];omega
  have HR:=Aa (RetQ.no w b x y);go_enter Tryz.func103,Tryz.ntmps103
  go_wp2
  go_ret3
  exact HR.out
 ·have d1:decide ((20:Int)<(a.size:Int))=false:=by simp only[decide_eq_false_iff_not];omega
  obtain⟨h0,aV⟩:=h.head;have aE:=h.abs;have aN:=ziw a b;obtain⟨c0,aT⟩:∃ c0:Nat,(a[0]'h0).toNat=c0:=⟨_,rfl⟩;rw[aT] at aV;have d0:decide (0<a.size)=true:=by simpa using h0
  obtain⟨k,hk⟩:∃ k,k=(Lib.decDigits x).length:=⟨_,rfl⟩;obtain⟨p1,p2,p3⟩:=zdX aE hk;have aH:zbB (absT a b).data.toList=k:=by rw[aE,zcI _ _ (zjW x),hk]
  have aQ:k≤(absT a b).size:=by
   by_cases hy:y=1
   ·rw[p2 hy];exact Nat.le_refl _
   ·exact Nat.le_of_lt (p3 hy).1
  obtain⟨t,ht⟩:∃ t,t=absT a b:=⟨_,rfl⟩;rw[←ht] at aE aN p1 p2 p3 aH aQ;have aA:=zbS t w (by omega);rw[aH] at aA;have aR:=Aa aA;have HT:=Aa ht;have HK:=Aa hk;have P1:=Aa p1;have P2:=Aa p2;have P3:=Aa p3;have aW:t.size≤20:=by omega
  have aX:(1:Int)≤(a.size:Int):=by omega
  obtain⟨m,hm⟩:∃ m,m=t.size-k:=⟨_,rfl⟩;have em:(t.size:Int)-(k:Int)=(m:Int):=by omega
  have HM:=Aa hm;clear h aE aA aH ht hk p1 p2 p3 hm h20;have aY:1≤k:=by rw[HK.out];exact Dec.dec_length_pos x
  have aC:=HT.out;unfold absT at aC;clear HT
  cases b
  case' false=>simp only[Bool.false_eq_true,if_false] at aC
  case' true=>simp only[if_true] at aC
  case' false=>subst aC
  case' true=>have aO:=aC.symm
  case' true=>clear aC
  all_goals
   go_enter Tryz.func103,Tryz.ntmps103
   go_wp2_with fail
   refine aR.out.mono ?_;rintro e w1 ⟨rfl,rfl⟩
   by_cases hbig:9<k∨10<m
   ·have aD:(decide ((9:Int)<(k:Int))=true)∨(decide ((9:Int)<(k:Int))=false∧decide ((10:Int)<(m:Int))=true):=by
     simp only[decide_eq_true_eq,decide_eq_false_iff_not]
     omega
    have HR:=Aa (fun b=>RetQ.no w b x y);clear hbig
    rcases aD with d2 | ⟨d2,d3⟩
    all_goals
     go_wp2
     go_ret3
     exact HR.out _
   ·have d2:decide ((9:Int)<(k:Int))=false:=by simp only[decide_eq_false_iff_not];omega
    have d3:decide ((10:Int)<(m:Int))=false:=by simp only[decide_eq_false_iff_not];omega
    have aL:x<1000000000:=zix (by rw[←HK.out];omega);have aK:zar (t.extract 0 k).data.toList=true:=by rw[P1.out];exact zaF x
    have aI:=zeg (t.extract 0 k) w aK (by simp;omega);rw[P1.out,za1] at aI;have aP:=Aa aI;have HR:=Aa (fun (b:Bool) (v:Int) (hv:v=sgn b x) (u:Nat) (hu:u=y) (aF:y<1000000000)=>(show RetQ w b x y (.returned (.tuple #[.int .i64 v,.int .i64 (u:Int),.bool true])) w from ⟨rfl,.inr ⟨by rw[hv,hu],aL,aF⟩⟩));have aM:m≤10:=by omega
    clear aK aI hbig
    go_wp2_with fail
    refine aP.out.mono ?_;rintro e w1 ⟨rfl,rfl⟩
    by_cases hy:y=1
    ·have h9:=P2.out hy
     have d4:decide (k<t.size)=false:=by simp only[decide_eq_false_iff_not];omega
     have HY:=Aa hy;clear hy h9;go_wp2
     go_ret3
     exact HR.out _ _ (by simp[sgn]) 1 HY.out.symm (by rw[HY.out];decide)
    ·obtain⟨q1,q2,q3⟩:=P3.out hy
     have d4:decide (k<t.size)=true:=by simpa using q1
     have aJ:zar (t.extract (k+1) t.size).data.toList=true:=by rw[q2];exact zaF y
     have aG:=zeg (t.extract (k+1) t.size) w aJ (by simp;omega);rw[q2,za1] at aG;have aU:=Aa aG;have aF:y<1000000000:=zix (by have:=HM.out;omega);have aS:k+1≤t.size:=q1;clear q1 q2 q3 aJ aG hy
     go_wp2_with fail
     refine aU.out.mono ?_;rintro e w1 ⟨rfl,rfl⟩;go_wp2
     go_ret3
     exact HR.out _ _ (by simp[sgn]) y rfl aF
end Go.Proofs.YtbkgkoenppkhpaaGreatDoor
