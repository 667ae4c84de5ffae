/- Contract of the reference's parse: the integer of a text. -/
import Derived.Test.YtmkondcdejlhcaaGreatDoorBRb9
set_option maxRecDepth 100000
set_option maxHeartbeats 4000000
namespace Go.Proofs.YtmkondcdejlhcaaGreatDoor
open Go.RowKit Dn
theorem zna {b:Bool} {x:Nat} {s:ByteArray} (hs:s.data.toList=sgnT b (Lib.decDigits x)):∃ h:0<s.size,(((s[0]'h).toNat:Int)==45)=b:=by
 have hl:=congrArg List.length hs;rw [Array.length_toList] at hl;have hd:=zaA x;have hp:=Dec.dec_length_pos x
 cases b
 ·have aA:s.data.size=(Lib.decDigits x).length:=hl
  have h0:0<s.size:=by show 0<s.data.size;omega
  refine ⟨h0,?_⟩;have he:s[0]'h0=(Lib.decDigits x)[0]'hp:=by
   have:s[0]'h0=s.data.toList[0]'(by rw [Array.length_toList];exact h0):=rfl;rw [this];simp only [hs]
   rfl
  have hm:=zdm hd (List.getElem_mem hp);rw [he,beq_eq_false_iff_ne];omega
 ·have aA:s.data.size=(Lib.decDigits x).length+1:=hl
  have h0:0<s.size:=by show 0<s.data.size;omega
  refine ⟨h0,?_⟩;have he:s[0]'h0=45:=by
   have:s[0]'h0=s.data.toList[0]'(by rw [Array.length_toList];exact h0):=rfl;rw [this];simp only [hs]
   rfl
  rw [he]
  decide
def zcH (l:List UInt8) (t:ByteArray) (ws:List Nat):Prop:=t.data.toList=l.take t.size∧t.size≤l.length∧Wf ws∧l.length - t.size=9*ws.length∧val ws=zaj (l.drop t.size)
theorem zcH.start {l:List UInt8} {t:ByteArray} (h:t.data.toList=l):zcH l t []:=by
 have hl:l.length=t.size:=by rw [←h,Array.length_toList];rfl
 refine ⟨by rw [←hl,List.take_length];exact h,by omega,Wf.nil,by simp;omega,?_⟩;rw [←hl,List.drop_length];rfl
theorem zii {l:List UInt8} (hd:zau l=true) (a b:Nat) (hb:b≤9):zaj ((l.drop a).take b)<B:=by
 have h1:=zbo _ (zet l hd a b);have h2:10 ^ ((l.drop a).take b).length≤10 ^ 9:=Nat.pow_le_pow_right (by omega) (by rw [List.length_take];omega);rw [zp5];omega
theorem zcH.next {l:List UInt8} {t u v:ByteArray} {ws:List Nat} {d:Nat} (h:zcH l t ws) (hd:zau l=true) (h9:9<t.size) (hdd:d=t.size - 9) (hu:u=t.extract 0 d) (hv:v=t.extract d t.size) :
  v.data.toList=(l.drop d).take 9∧v.size=9∧u.size=d∧zcH l u (ws++[zaj ((l.drop d).take 9)]):=by
 obtain ⟨h1,h2,h3,h4,h5⟩:=h;have aD:v.data.toList=(l.drop d).take 9:=by
  rw [hv,zcu,h1,List.drop_take,List.take_take]
  congr 1
  omega
 have aA:u.size=d:=by rw [hu];simp;omega
 refine ⟨aD,by rw [hv];simp;omega,aA,?_⟩;have aC:=zhy l ws t.size d (by omega) h2 h4 h5;rw [show t.size - d=9 from by omega] at aC;refine ⟨?_,by rw [aA];omega,h3.append (Wf.cons (zii hd _ _ (by omega)) Wf.nil),?_,?_⟩
 ·rw [aA,hu,zcu,List.drop_zero,Nat.sub_zero,h1,List.take_take]
  congr 1
  omega
 ·rw [aA,List.length_append]
  simp only [List.length_cons,List.length_nil]
  omega
 ·rw [aA]
  exact aC
theorem zcH.done {l:List UInt8} {t:ByteArray} {ws:List Nat} (h:zcH l t ws) (hd:zau l=true) (h9:t.size≤9):Wf (ws++[zaj t.data.toList])∧val (ws++[zaj t.data.toList])=zaj l:=by
 obtain ⟨h1,h2,h3,h4,h5⟩:=h;have aA:=zhy l ws t.size 0 (by omega) h2 h4 h5;rw [List.drop_zero,Nat.sub_zero,←h1] at aA;refine ⟨h3.append (Wf.cons ?_ Wf.nil),aA⟩;have:=zii hd 0 t.size h9;rw [List.drop_zero,←h1] at this;exact this
theorem zfx (s:ByteArray) (b:Bool) (x:Nat) (w:World) (hs:s.data.toList=sgnT b (Lib.decDigits x)) (hsz:s.size≤1000000) :
  Calls Tryz.prog 115 #[.string s] w (RetZ w (sgn b x)):=by
 obtain ⟨i0,bC,aV,aT,aU⟩:=info_parts zcL;have bA:Below w.heap.size w (w.alloc (.cells #[.bool false,.slice none 0 0] 84)):=Ac;have hk:=CBlk.new w #[.bool false,.slice none 0 0] 84 _ rfl;obtain ⟨h0,aZ⟩:=zna hs;obtain ⟨c0,aK⟩:∃ c0:Nat,(s[0]'h0).toNat=c0:=⟨_,rfl⟩;rw [aK] at aZ;have d0:decide (0<s.size)=true:=by simpa using h0
 obtain ⟨l,hl⟩:∃ l,l=Lib.decDigits x:=⟨_,rfl⟩;have aW:zau l=true:=by rw [hl];exact zaA x
 have bB:zaj l=x:=by rw [hl];exact zaG x
 rw [←hl] at hs;have aM:=Aa aW;have bG:=Aa bB;have hcut:∃ t:ByteArray,t.data.toList=l∧t.size≤s.size∧t=(if b then s.extract 1 s.size else s):=by
  cases b
  ·exact ⟨s,hs,Nat.le_refl _,rfl⟩
  ·refine ⟨s.extract 1 s.size,?_,by simp,rfl⟩
   have bH:l.length+1=s.size:=by
    have:=congrArg List.length hs;rw [Array.length_toList] at this;exact this.symm
   rw [zcu,hs];show (l.take (s.size - 1))=l
   exact List.take_of_length_le (by omega)
 obtain ⟨t0,aQ,bM,aI⟩:=hcut;have bP:=Aa (zcH.start aQ);have LB:Hid (l.length≤1000000):=by
  show l.length≤1000000
  rw [←aQ,Array.length_toList];exact Nat.le_trans bM hsz
 have bJ:=Aa aK;have bI:=Aa aI;clear hs hl aW bB aQ aK aI;have bR:(1:Int)≤(s.size:Int):=by omega
 cases b
 all_goals
  have aI:=bI.out;simp only [if_true,Bool.false_eq_true,if_false] at aI
  first
   |(subst aI)
   |(have bO:=aI.symm)
  have aK:=bJ.out;go_enter Tryz.func115,Tryz.ntmps115
  go_wp2
  clear aK d0 bR aZ;generalize (w.alloc (.cells #[.bool false,.slice none 0 0] 84))=w0 at *
  go_loopg [0,4] 1000000 (fun g v0 v4 W=>∃ (t:ByteArray) (ws:List Nat),v0 = .string t∧t.size≤g∧t.size≤1000000∧W.ownsRow w0.heap.size 3 1 v4 ws.length (ws.map natv)∧Hid (zcH l t ws)∧Below w0.heap.size w0 W)
  case atStart=>exact ⟨_,[],rfl,by omega,by omega,World.ownsRow_nil _ _ _ _,bP.out,Below.refl _ _⟩
  case round=>
   obtain ⟨t,ws,rfl,hg,ht,aE,aC,aH⟩:=hrel;have hsz:=aH.size;have bN:ws.length≤1000000∨True := .inr trivial
   by_cases h9:9<t.size
   ·obtain ⟨d,hd⟩:∃ d,d=t.size - 9:=⟨_,rfl⟩
    obtain ⟨p1,p2,p3,p4⟩:=aC.out.next aM.out h9 hd rfl rfl;have aJ:zau (t.extract d t.size).data.toList=true:=by rw [p1];exact zet l aM.out d 9
    have aG:=zeA (t.extract d t.size) wr aJ (by omega);rw [p1] at aG;have bQ:=zii aM.out d 9 (by omega);have bK:ws.length≤1000000:=by
     have h1:=aC.out.2.2.2.1;have h2:=p4.2.2.2.1;have h3:=LB.out;omega
    generalize zaj ((l.drop d).take 9)=v at *;have ed:(t.size:Int) - 9=(d:Int):=by omega
    have d9:decide ((9:Int)<(t.size:Int))=true:=by simp;omega
    have HV:=Aa aG;have HP:=Aa p4;have bD:=Aa p3;have bU:d≤t.size:=by omega
    have bV:v<1000000000:=bQ;have HD:=Aa hd;clear p1 p2 p3 p4 aJ aG hd aC
    go_wp2_with fail
    refine HV.out.mono ?_;rintro e w2 ⟨rfl,aP⟩;obtain rfl:wr=w2:=aP
    go_wp2_with (at_builtin;refine wpList_append_own _ rfl _ _ 60 rfl w0.heap.size 3 i0 (.int .i64 0) 1 8 Tryz.underlying60 bC aV aT aU rfl (by decide) _ _ _ rfl (aE.alloc _) ⟨wr.heap.size,0,none⟩ 1 1 [.int .i64 (v:Int)] rfl rfl ?c1 ?c2 ?c3 ?c4 ?c5 ?_)
    case c1=>exact cell_one_new _ _ _
    case c2=>intro u hu;simp at hu;subst hu;rfl
    case c3=>unfold maxLen;omega
    case c4=>omega
    case c5=>simp;omega
    intro v' w2 aD aA _;have aL:Below w0.heap.size w0 w2:=(aH.alloc hsz _).grown aA (by simp;omega) (fun g hg=>(World.ownsRow.lt aE g hg).1);clear aA aE;go_wp2
    go_roundg d
    case measure=>have:=HD.out;omega
    case rel=>exact ⟨t.extract 0 d,ws++[v],rfl,by rw [bD.out];exact Nat.le_refl _,by rw [bD.out];omega,by rw [List.length_append,List.map_append];exact aD,HP.out,aL⟩
   ·obtain ⟨q1,q2⟩:=aC.out.done aM.out (by omega)
    have aJ:zau t.data.toList=true:=by
     rw [aC.out.1];have:=zet l aM.out 0 t.size
     rwa [List.drop_zero] at this
    have bK:ws.length≤1000000:=by
     have h1:=aC.out.2.2.2.1;have h3:=LB.out;omega
    have HV:=Aa (zeA t wr aJ (by omega));have d9:decide ((9:Int)<(t.size:Int))=false:=by simp;omega
    generalize zaj t.data.toList=v at *;have HQ:=Aa q1;have bS:=Aa q2;clear aJ q1 q2 aC
    go_wp2_with fail
    refine HV.out.mono ?_;rintro e w2 ⟨rfl,aP⟩;obtain rfl:wr=w2:=aP
    go_wp2_with (at_builtin;refine wpList_append_own _ rfl _ _ 60 rfl w0.heap.size 3 i0 (.int .i64 0) 1 8 Tryz.underlying60 bC aV aT aU rfl (by decide) _ _ _ rfl (aE.alloc _) ⟨wr.heap.size,0,none⟩ 1 1 [.int .i64 (v:Int)] rfl rfl ?c1 ?c2 ?c3 ?c4 ?c5 ?_)
    case c1=>exact cell_one_new _ _ _
    case c2=>intro u hu;simp at hu;subst hu;rfl
    case c3=>unfold maxLen;omega
    case c4=>omega
    case c5=>simp;omega
    intro v' w2 aD aA _;have aL:Below w0.heap.size w0 w2:=(aH.alloc hsz _).grown aA (by simp;omega) (fun g hg=>(World.ownsRow.lt aE g hg).1);clear aA aE;have aF:w2.ownsRow w0.heap.size 3 1 v' (ws.length+1) ((ws++[v]).map natv):=by rw [List.map_append];exact aD
    obtain ⟨A9,c9,rfl,bF,bL,aS⟩:=zdr aF;have aO:=fun b=>zbc b A9 (ws.length+1) c9 (ws++[v]) w2 ⟨aS,bF,bL,HQ.out⟩ (by omega)
    simp only [bS.out,bG.out] at aO
    have HS:=Aa aO;have bE:=hk.below aL hk.lt;clear aO aD aF aS
    go_wp2_with fail
    refine (HS.out _).mono ?_;rintro e w6 ⟨A6,m6,c6,rfl,bT,aR⟩;have aN:=bE.below aR bE.lt;have e0:w6.cell? ⟨w.heap.size,0,none⟩=some (.bool false):=aN.cell 0;have e1:w6.cell? ⟨w.heap.size,1,none⟩=some (.slice none 0 0):=aN.cell 1;have f0:w6.frozen? ⟨w.heap.size,0,none⟩=false:=aN.frozen 0;have f1:w6.frozen? ⟨w.heap.size,1,none⟩=false:=aN.frozen 1;have hB:=bA.trans ((aL.trans (aR.mono aL.size)).mono bA.size);clear aR
    go_wp2_with fail
    refine bodyPost_ret (v := .agg #[.bool (decide (sgn _ x<0)),.slice A6 m6 c6]) (by simp [results,Tryz.results115,go_sem,e0,e1];first | rfl | done) rfl ?_
    exact ⟨A6,m6,c6,rfl,bT.box aN _ _,zcf hB (by omega) _ _⟩
theorem zhU (b:Bool) (x y:Nat) (hy:0<y):zbg (sgn b x) y=⟨decide (sgn b (x / Nat.gcd x y)<0),x / Nat.gcd x y,y / Nat.gcd x y⟩:=by
 unfold zbg;rw [zbT,zc1,zc1,zo5 _ _ _ hy]
 congr 1
 rcases Nat.eq_zero_or_pos x with h | h
 ·subst h
  simp
 ·have h1:0<x / Nat.gcd x y:=Nat.div_pos (Nat.gcd_le_left _ h) (Nat.gcd_pos_of_pos_right _ hy)
  have h2:decide (0<x)=true:=by simpa using h
  have h3:decide (x / Nat.gcd x y=0)=false:=by simp only [decide_eq_false_iff_not];omega
  have h4:decide (0<x / Nat.gcd x y)=true:=by simpa using h1
  rw [h2,h3,h4]
  cases b<;>rfl
theorem zgc {x n:Nat} (h:(digs x).length=n):(Lib.decDigits x).length≤9*n+1:=by
 rcases Nat.eq_zero_or_pos n with h0 | h0
 ·have:x=0:=za8.1 (by omega)
  subst this;rw [Dec.dec_lt (by omega)];simp
 ·have h1:=zae x
  rw [h] at h1;have h2:=zkQ h0 h1 0;rw [Nat.pow_zero,Nat.div_one] at h2;omega
theorem zeC (b:Bool) (t:List UInt8):(sgnT b t).length≤t.length+1:=by
 unfold sgnT
 cases b<;>simp
theorem zfl (b:Bool) (x y:Nat) (A1 A2:Option Addr) (n1 c1 n2 c2:Nat) (w:World) (h1:DigI w A1 n1 c1 (digs x)) (h2:DigI w A2 n2 c2 (digs y)) (hy:0<y) (k1:n1≤500000) (k2:n2≤500000) :
  Calls Tryz.prog 73 #[.agg #[.bool b,.slice A1 n1 c1],.agg #[.bool false,.slice A2 n2 c2]] w fun e w'=>(∃ s:ByteArray,e = .returned (.string s)∧s.data.toList=zaq (zbg (sgn b x) y))∧Below w.heap.size w w':=by
 rw [zhU b x y hy];have hB:Below w.heap.size w ((w.alloc (.cells #[.bool b,.slice A1 n1 c1] 84)).alloc (.cells #[.bool false,.slice A2 n2 c2] 84)):=((Below.refl _ _).alloc (Nat.le_refl _) _).alloc (by simp) _;have aR:CBlk ((w.alloc (.cells #[.bool b,.slice A1 n1 c1] 84)).alloc (.cells #[.bool false,.slice A2 n2 c2] 84)) w.heap.size #[.bool b,.slice A1 n1 c1] 84:=(CBlk.new w _ _ _ rfl).below ((Below.refl _ _).alloc (Nat.le_refl _) _) (by simp);have aS:CBlk ((w.alloc (.cells #[.bool b,.slice A1 n1 c1] 84)).alloc (.cells #[.bool false,.slice A2 n2 c2] 84)) (w.heap.size+1) #[.bool false,.slice A2 n2 c2] 84:=CBlk.new (w.alloc (.cells #[.bool b,.slice A1 n1 c1] 84)) _ _ (w.heap.size+1) (by simp);have bT:=Aa h1;have bJ:=Aa h2;obtain ⟨g,hg⟩:∃ g,g=Nat.gcd x y:=⟨_,rfl⟩;have bV:0<g:=by rw [hg];exact Nat.gcd_pos_of_pos_right _ hy
 have bM:g≤y:=by rw [hg];exact Nat.gcd_le_right _ hy
 have bP:(digs g).length≤n2:=by rw [←h2.len];exact zaa bM
 have bW:(digs (x / g)).length≤n1:=by rw [←h1.len];exact zaa (Nat.div_le_self _ _)
 have bS:(digs (y / g)).length≤n2:=by rw [←h2.len];exact zaa (Nat.div_le_self _ _)
 have cA:=Aa bP;have aW:=Aa bW;have aU:=Aa bS;rw [←hg];obtain ⟨X,hX⟩:∃ X,X=x / g:=⟨_,rfl⟩;obtain ⟨Y,hY⟩:∃ Y,Y=y / g:=⟨_,rfl⟩;obtain ⟨z,hz⟩:∃ z,z=sgn b X:=⟨_,rfl⟩;rw [←hX,←hY,←hz];have HX:=Aa hX;have HY:=Aa hY;have HZ:=Aa hz;have HG:=Aa hg;have bQ:=Aa bV;rw [←hX] at aW;rw [←hY] at aU;clear h1 h2 hg bP bW bS bM bV hX hY hz;go_enter Tryz.func73,Tryz.ntmps73
 go_upto_region 1 with (fail)
 generalize ((w.alloc (.cells #[.bool b,.slice A1 n1 c1] 84)).alloc (.cells #[.bool false,.slice A2 n2 c2] 84))=w3 at *;have a0:w3.cell? ⟨w.heap.size,0,none⟩=some (.bool b):=aR.cell 0;have a1:w3.cell? ⟨w.heap.size,1,none⟩=some (.slice A1 n1 c1):=aR.cell 1;have q0:w3.cell? ⟨w.heap.size+1,0,none⟩=some (.bool false):=aS.cell 0;have q1:w3.cell? ⟨w.heap.size+1,1,none⟩=some (.slice A2 n2 c2):=aS.cell 1;have al:=aR.lt;have bl:=aS.lt;clear aR aS
 go_wp2_with fail
 refine (zdF A1 A2 n1 c1 n2 c2 x y w3 (bT.out.later hB) (bJ.out.later hB) (by omega) (by omega)).mono ?_;rintro e w4 ⟨A5,m5,c5,rfl,aI,aH⟩;rw [←HG.out] at aI;clear q0
 replace a0:=(aH.cell (p:=⟨w.heap.size,0,none⟩) al).trans a0
 replace a1:=(aH.cell (p:=⟨w.heap.size,1,none⟩) al).trans a1
 replace q1:=(aH.cell (p:=⟨w.heap.size+1,1,none⟩) bl).trans q1
 replace hB:=Ad hB aH
 replace al:=Nat.lt_of_lt_of_le al aH.size
 replace bl:=Nat.lt_of_lt_of_le bl aH.size
 have cQ:m5≤n2:=by rw [←aI.len];exact cA.out
 clear aH
 go_wp2_with fail
 refine (zbY A1 A5 n1 c1 m5 c5 x g w4 (bT.out.later hB) aI bQ.out (by omega) (by omega)).mono ?_;rintro e w5 ⟨Ap,mp,cp,Ar,mr,cr,rfl,aJ,_,aD⟩;rw [←HX.out] at aJ
 replace a0:=(aD.cell (p:=⟨w.heap.size,0,none⟩) al).trans a0
 replace a1:=(aD.cell (p:=⟨w.heap.size,1,none⟩) al).trans a1
 replace q1:=(aD.cell (p:=⟨w.heap.size+1,1,none⟩) bl).trans q1
 replace hB:=Ad hB aD
 replace al:=Nat.lt_of_lt_of_le al aD.size
 replace bl:=Nat.lt_of_lt_of_le bl aD.size
 replace aI:=aI.later aD
 clear aD
 go_wp2_with fail
 refine (zbY A2 A5 n2 c2 m5 c5 y g w5 (bJ.out.later hB) aI bQ.out (by omega) (by omega)).mono ?_;rintro e w6 ⟨Aq,mq,cq,cO,cI,cP,rfl,aC,_,aF⟩;rw [←HY.out] at aC
 replace a0:=(aF.cell (p:=⟨w.heap.size,0,none⟩) al).trans a0
 replace a1:=(aF.cell (p:=⟨w.heap.size,1,none⟩) al).trans a1
 replace q1:=(aF.cell (p:=⟨w.heap.size+1,1,none⟩) bl).trans q1
 replace hB:=Ad hB aF
 replace al:=Nat.lt_of_lt_of_le al aF.size
 replace bl:=Nat.lt_of_lt_of_le bl aF.size
 replace aJ:=aJ.later aF
 clear aF aI;have cF:mp≤n1:=by rw [←aJ.len];exact aW.out
 have cK:mq≤n2:=by rw [←aC.len];exact aU.out
 have aM:=aC.len;have aO:=zgc aJ.len;have aK:=zgc aC.len;have bG:=zbc b Ap mp cp (digs X) w6 aJ (by omega);rw [zak,←HZ.out] at bG;have aT:=zbT b X;have bD:=zc1 b X;rw [←HZ.out] at aT bD;have HS:=Aa bG;have bB:=Aa aT;have aZ:=Aa bD;have bE:=Aa aM;have aL:=Aa aO;have bH:=Aa aK;clear bG aT bD aJ aM aO aK
 go_wp2_with fail
 refine HS.out.mono ?_;rintro e w7 ⟨A7,m7,c7,rfl,aQ,aG⟩
 replace a0:=(aG.cell (p:=⟨w.heap.size,0,none⟩) al).trans a0
 replace a1:=(aG.cell (p:=⟨w.heap.size,1,none⟩) al).trans a1
 replace q1:=(aG.cell (p:=⟨w.heap.size+1,1,none⟩) bl).trans q1
 replace hB:=Ad hB aG
 replace al:=Nat.lt_of_lt_of_le al aG.size
 replace bl:=Nat.lt_of_lt_of_le bl aG.size
 replace aC:=aC.later aG
 clear aG HS;rw [bB.out] at aQ;have cH:m7≤n1∨True := .inr trivial;have bK:=ze4 (decide (z<0)) X A7 m7 c7 w7 aQ (by rw [aZ.out];simp) (by rw [←aQ.len];have:=aW.out;have:=aL.out;have:=cF;omega);have HT:=Aa bK;clear bK cH
 go_wp2_with fail
 refine HT.out.mono ?_;rintro e w8 ⟨⟨s,rfl,hs⟩,aE⟩
 replace a0:=(aE.cell (p:=⟨w.heap.size,0,none⟩) al).trans a0
 replace a1:=(aE.cell (p:=⟨w.heap.size,1,none⟩) al).trans a1
 replace q1:=(aE.cell (p:=⟨w.heap.size+1,1,none⟩) bl).trans q1
 replace hB:=Ad hB aE
 replace al:=Nat.lt_of_lt_of_le al aE.size
 replace bl:=Nat.lt_of_lt_of_le bl aE.size
 replace aC:=aC.later aE
 have cN:s.size≤4500003:=by
  have h9:s.data.toList.length=s.size:=Array.length_toList;have h8:=zeC (decide (z<0)) (Lib.decDigits X);rw [←hs] at h8;have:=aL.out;omega
 have bL:=Aa hs;clear aE HT hs aQ a0 a1 q1
 by_cases hY:Y=1
 ·subst hY
  have bU:(digs 1).length=1:=by rw [zbq (by omega) (by decide)];rfl
  obtain rfl:mq=1:=by rw [←bE.out];exact bU
  obtain ⟨ad,bO,rfl,cC,aA⟩:=aC.rd.cellM (k:=0) (by omega);have he:(digs 1)[0]=1:=by
   have:digs 1=[1]:=zbq (by omega) (by decide);simp [this]
  unfold natv at aA;rw [he] at aA
  replace aA:w8.cell? ad=some (.int .i64 1):=aA
  have HR:Hid (s.data.toList=zaq ⟨decide (z<0),X,1⟩):=by
   show s.data.toList=_
   rw [zaP,bL.out];simp
  clear bU bO he;go_wp2
  go_ret;exact ⟨⟨s,rfl,HR.out⟩,hB⟩
 ·have aN:(((mq:Int)==1)=false)∨(mq=1∧∃ ad v:_,Aq=some ad∧w8.cell? ad=some (.int .i64 (v:Int))∧((v==1)=false)):=by
   by_cases hm:mq=1
   ·subst hm
    obtain ⟨ad,bO,rfl,cC,aA⟩:=aC.rd.cellM (k:=0) (by omega);refine .inr ⟨rfl,ad,(((digs Y)[0]:Nat):Int),rfl,aA,?_⟩;rw [beq_eq_false_iff_ne];intro h9
    apply hY
    have h8:(digs Y)[0]=1:=by omega
    have h7:digs Y=[1]:=by
     apply List.ext_getElem
     ·rw [bE.out];rfl
     ·intro i cL cE
      have:i=0:=by simp at cE;omega
      subst this
      simpa using h8
    rw [←zak Y,h7];simp
   ·exact .inl (by rw [beq_eq_false_iff_ne];omega)
  have aV:=zbc false Aq mq cq (digs Y) w8 aC (by omega);rw [zak] at aV;have bA:=Aa aV;have bR:=Aa hB;have bI:Hid ((sgn false Y).natAbs=Y∧decide (sgn false Y<0)=false):=⟨zbT _ _,by rw [zc1];rfl⟩;generalize sgn false Y=z2 at *;have cB:=Aa hY;clear aV hY hB
  rcases aN with d1 | ⟨rfl,ad,v,rfl,cJ,cM⟩
  all_goals
   go_wp2_with fail
   refine bA.out.mono ?_;rintro e w9 ⟨A9,m9,c9,rfl,aP,bN⟩;rw [bI.out.1] at aP;rw [bI.out.2];have bZ:=Aa (ze4 false Y A9 m9 c9 w9 aP (by intro h;cases h) (by rw [←aP.len];have:=aU.out;have:=bE.out;omega))
   go_wp2_with fail
   refine bZ.out.mono ?_;rintro e cR ⟨⟨s2,rfl,bC⟩,bF⟩;have cG:s2.size≤4500003:=by
    have h9:s2.data.toList.length=s2.size:=Array.length_toList;rw [bC] at h9;have h8:=zeC false (Lib.decDigits Y);have:=bH.out;omega
   have HR:Hid (((s++⟨#[47]⟩)++s2).data.toList=zaq ⟨decide (z<0),X,Y⟩):=by
    show ((s++⟨#[47]⟩)++s2).data.toList=_
    rw [zaP,if_neg cB.out,ByteArray.data_append,ByteArray.data_append,Array.toList_append,Array.toList_append,bL.out,bC,List.append_assoc];rfl
   clear bC aP;go_wp2
   go_ret;exact ⟨⟨_,rfl,HR.out⟩,bR.out.trans ((bN.trans (bF.mono bN.size)).mono bR.out.size)⟩
theorem zkT (x y:Nat) (w:World) (hx:x≤4000000000000000000) (hy:y≤4000000000000000000) :
  Calls Tryz.prog 97 #[.int .i64 (x:Int),.int .i64 (y:Int)] w fun e w'=>e = .returned (.int .i64 ((Nat.gcd x y:Nat):Int))∧Below w.heap.size w w':=by
 go_enter Tryz.func97,Tryz.ntmps97
 go_wp2
 go_loopg [0,1] y (fun q v0 v1 W=>∃ u v:Nat,v0 = .int .i64 (u:Int)∧v1 = .int .i64 (v:Int)∧v≤q∧u≤4000000000000000000∧v≤4000000000000000000∧Hid (Nat.gcd u v=Nat.gcd x y)∧Below w.heap.size w W)
 case atStart=>exact ⟨x,y,rfl,rfl,Nat.le_refl _,hx,hy,rfl,Below.refl _ _⟩
 case round=>
  obtain ⟨u,v,rfl,rfl,hq,hu,hv,hg,aA⟩:=hrel
  by_cases h0:v=0
  ·subst h0
   have hR:Nat.gcd x y=u:=by rw [←hg.out,Nat.gcd_zero_right]
   have HR:=Aa hR;clear hR hg;go_wp2
   go_ret;exact ⟨by rw [HR.out];rfl,aA⟩
  ·have d1:decide (0<v)=true:=by simp;omega
   obtain ⟨r,hr⟩:∃ r,r=u % v:=⟨_,rfl⟩;have aC:r<v:=by rw [hr];exact Nat.mod_lt _ (by omega)
   have HG:Hid (Nat.gcd v r=Nat.gcd x y):=by
    show Nat.gcd v r=Nat.gcd x y
    rw [hr,←hg.out,Nat.gcd_comm v (u % v),←Nat.gcd_rec,Nat.gcd_comm]
   have z1:((v:Int)==0)=false:=by rw [beq_eq_false_iff_ne];omega
   have f1:Int.tmod (u:Int) (v:Int)=(r:Int):=by rw [Int.tmod_eq_emod_of_nonneg (by omega),←Int.natCast_emod,←hr]
   clear hr hg h0;go_upto_region 2 with (fail)
   go_quiet (fail)
   clear f1;go_wp2
   go_roundg r
   case measure=>omega
   case rel=>exact ⟨v,r,rfl,rfl,Nat.le_refl _,hv,by omega,HG.out,zac aA _⟩
theorem zkD (b:Bool) (x y:Nat) (w:World) (hx:x≤4000000000000000000) (hy:y≤4000000000000000000) (hy0:0<y) :
  Calls Tryz.prog 49 #[.int .i64 (sgn b x),.int .i64 (y:Int)] w fun e w'=>(∃ s:ByteArray,e = .returned (.string s)∧s.data.toList=zaq (zbg (sgn b x) y))∧Below w.heap.size w w':=by
 rw [zhU b x y hy0];obtain ⟨g,hg⟩:∃ g,g=Nat.gcd x y:=⟨_,rfl⟩;have bG:0<g:=by rw [hg];exact Nat.gcd_pos_of_pos_right _ hy0
 have aM:g≤y:=by rw [hg];exact Nat.gcd_le_right _ hy0
 have HC:=zkT x y w hx hy;rw [←hg] at HC ⊢;obtain ⟨X,hX⟩:∃ X,X=x / g:=⟨_,rfl⟩;obtain ⟨Y,hY⟩:∃ Y,Y=y / g:=⟨_,rfl⟩;obtain ⟨z,hz⟩:∃ z,z=sgn b x:=⟨_,rfl⟩;obtain ⟨z1,aC⟩:∃ z1,z1=sgn b X:=⟨_,rfl⟩;have bO:X≤x:=by rw [hX];exact Nat.div_le_self _ _
 have bJ:Y≤y:=by rw [hY];exact Nat.div_le_self _ _
 have bN:0<Y:=by rw [hY];exact Nat.div_pos aM bG
 have bB:z=(x:Int)∨z = -(x:Int):=by rw [hz];unfold sgn;cases b<;>simp
 have aG:z1=(X:Int)∨z1 = -(X:Int):=by rw [aC];unfold sgn;cases b<;>simp
 have f1:Int.tdiv z (g:Int)=z1:=by
  have h9:Int.tdiv (x:Int) (g:Int)=(X:Int):=by rw [Int.tdiv_eq_ediv_of_nonneg (by omega),←Int.natCast_ediv,←hX]
  rw [hz,aC];unfold sgn
  cases b
  ·simp [h9]
  ·simp [Int.neg_tdiv,h9]
 have f2:Int.tdiv (y:Int) (g:Int)=(Y:Int):=by rw [Int.tdiv_eq_ediv_of_nonneg (by omega),←Int.natCast_ediv,←hY]
 have f3:IntKind.i64.wrap z1=z1:=IntWalk.i64_in _ (by omega);have f4:IntKind.i64.wrap (Y:Int)=(Y:Int):=IntWalk.i64_in _ (by omega);have f5:((g:Int)==0)=false:=by rw [beq_eq_false_iff_ne];omega
 rw [←hX,←hY,←hz,←aC];have em:max z (-z)=(x:Int):=by omega
 have aU:max z1 (-z1)=(X:Int):=by omega
 have d1:decide (z < -4000000000000000000)=false:=by simp<;>omega
 have d2:decide (4000000000000000000<z)=false:=by simp<;>omega
 have d3:decide ((y:Int) < -4000000000000000000)=false:=by simp only [decide_eq_false_iff_not];omega
 have d4:decide ((4000000000000000000:Int)<(y:Int))=false:=by simp only [decide_eq_false_iff_not];omega
 have d5:decide ((y:Int)<0)=false:=by simp
 have aT : -4000000000000000000≤z:=by omega
 have bC:z≤4000000000000000000:=by omega
 have aQ : -4000000000000000000≤z1:=by omega
 have aS:z1≤4000000000000000000:=by omega
 have bK:X≤4000000000000000000:=by omega
 have bL:Y≤4000000000000000000:=by omega
 have bD:=Aa HC;clear HC hg hX hY hz aC bB aG aM;have aW:=Aa (fun W=>zb3 X 1 W (by omega) (by omega));have aV:=Aa (fun W=>zb3 Y 1 W (by omega) (by omega));have aJ:(Lib.decDigits X).length≤19:=Dec.dec_length_le (by omega) (by have e:(10:Nat) ^ 19=10000000000000000000:=(by decide);omega);have aO:(Lib.decDigits Y).length≤19:=Dec.dec_length_le (by omega) (by have e:(10:Nat) ^ 19=10000000000000000000:=(by decide);omega);have bA:=Aa aJ;have aZ:=Aa aO;clear aJ aO;go_enter Tryz.func49,Tryz.ntmps49
 go_wp2_with fail
 refine bD.out.mono ?_;rintro e w1 ⟨rfl,aR⟩;clear em d1 d2 d3 d4 d5;go_upto_region 6 with (fail)
 go_quiet (fail)
 clear f1 f2 f3 f4;have aL:=zac aR;generalize aN:w1.drewN _=w2 at *;have aP:Below w.heap.size w w2:=by rw [←aN];exact aL _
 clear aL aN aR;have aK:∀ s:ByteArray,s.data.toList=Lib.decDigits X→s.size≤19:=fun s hs=>by
  have h9:s.data.toList.length=s.size:=Array.length_toList;rw [hs] at h9;have:=bA.out;omega
 have aI:∀ s:ByteArray,s.data.toList=Lib.decDigits Y→s.size≤19:=fun s hs=>by
  have h9:s.data.toList.length=s.size:=Array.length_toList;rw [hs] at h9;have:=aZ.out;omega
 have bH:=Aa aK;have bF:=Aa aI;have bI:=Aa aU;clear aK aI
 by_cases hneg:z1<0
 case' pos=>have dn:decide (z1<0)=true:=by simpa using hneg
 case' neg=>have dn:decide (z1<0)=false:=by simpa using hneg
 case' pos=>obtain ⟨pr,aA⟩:∃ pr:List UInt8,pr=[45]:=⟨_,rfl⟩
 case' neg=>obtain ⟨pr,aA⟩:∃ pr:List UInt8,pr=[]:=⟨_,rfl⟩
 case' pos=>have aF:Hid (∀ l,sgnT (decide (z1<0)) l=[45]++l):=fun l=>by rw [dn];rfl
 case' neg=>have aF:Hid (∀ l,sgnT (decide (z1<0)) l=[]++l):=fun l=>by rw [dn];rfl
 all_goals
  go_wp2_with fail
  refine (aW.out w2).mono ?_;rintro e w3 ⟨⟨s,rfl,hs⟩,hw⟩;obtain rfl:w2=w3:=hw;rw [zfe] at hs;have bM:=bH.out s hs;have HS:=Aa hs;clear hs
  by_cases hY1:Y=1
  ·have dy:decide ((1:Int)<(Y:Int))=false:=by simp only [decide_eq_false_iff_not];omega
   have aH:=Aa hY1;clear hY1;have HR:Hid (∀ t:ByteArray,t.data.toList=pr++s.data.toList→t.data.toList=zaq ⟨decide (z1<0),X,Y⟩):=fun t ht=>by
    rw [zaP,if_pos aH.out,aF.out,List.append_nil,ht,aA,HS.out]
   have aE:=Aa aA;clear aA;go_wp2
   go_ret;exact ⟨⟨_,rfl,HR.out _ (by rw [aE.out];first | rfl | (rw [ByteArray.data_append,Array.toList_append];rfl))⟩,aP⟩
  ·have dy:decide ((1:Int)<(Y:Int))=true:=by simp only [decide_eq_true_eq];omega
   have aH:=Aa hY1;clear hY1;have aE:=Aa aA;clear aA
   go_wp2_with fail
   refine (aV.out w2).mono ?_;rintro e w3 ⟨⟨s2,rfl,aD⟩,hw⟩;obtain rfl:w2=w3:=hw;rw [zfe] at aD;have bE:=bF.out s2 aD;have HR:Hid (∀ t:ByteArray,t.data.toList=(pr++s.data.toList)++[47]++s2.data.toList→t.data.toList=zaq ⟨decide (z1<0),X,Y⟩):=fun t ht=>by
    rw [zaP,if_neg aH.out,aF.out,ht,aE.out,HS.out,aD,List.append_assoc];rfl
   clear aD;go_wp2
   go_ret;exact ⟨⟨_,rfl,HR.out _ (by rw [aE.out];simp only [ByteArray.data_append,Array.toList_append])⟩,aP⟩
def zdh (y:Nat):List UInt8:=if y=1 then [] else 47 :: Lib.decDigits y
def NumT (a:ByteArray) (b:Bool) (x y:Nat):Prop:=a.data.toList=sgnT b (Lib.decDigits x)++zdh y
def absT (a:ByteArray) (b:Bool):ByteArray:=if b then a.extract 1 a.size else a
theorem NumT.abs {a:ByteArray} {b:Bool} {x y:Nat} (h:NumT a b x y):(absT a b).data.toList=Lib.decDigits x++zdh y:=by
 unfold absT
 cases b
 ·exact h
 ·simp only [if_true]
  rw [zcu,h];have hl:(sgnT true (Lib.decDigits x)++zdh y).length=a.size:=by rw [←h,Array.length_toList];rfl
  show List.take (a.size - 1) (Lib.decDigits x++zdh y)=_
  refine List.take_of_length_le ?_;have:(sgnT true (Lib.decDigits x)++zdh y).length=(Lib.decDigits x++zdh y).length+1:=rfl;omega
theorem zjF (a:ByteArray) (b:Bool):(absT a b).size≤a.size:=by
 unfold absT
 cases b<;>simp
theorem NumT.head {a:ByteArray} {b:Bool} {x y:Nat} (h:NumT a b x y):∃ h:0<a.size,(((a[0]'h).toNat:Int)==45)=b:=by
 have hl:=congrArg List.length h;rw [Array.length_toList,List.length_append] at hl;have hd:=zaA x;have hp:=Dec.dec_length_pos x
 cases b
 ·have aA:a.data.size=(Lib.decDigits x).length+(zdh y).length:=hl
  have h0:0<a.size:=by show 0<a.data.size;omega
  refine ⟨h0,?_⟩;have he:a[0]'h0=(Lib.decDigits x)[0]'hp:=by
   have:a[0]'h0=a.data.toList[0]'(by rw [Array.length_toList];exact h0):=rfl;rw [this];have h':a.data.toList=Lib.decDigits x++zdh y:=h;simp only [h']
   exact List.getElem_append_left hp
  have hm:=zdm hd (List.getElem_mem hp);rw [he,beq_eq_false_iff_ne];omega
 ·have aA:a.data.size=(Lib.decDigits x).length+1+(zdh y).length:=hl
  have h0:0<a.size:=by show 0<a.data.size;omega
  refine ⟨h0,?_⟩;have he:a[0]'h0=45:=by
   have:a[0]'h0=a.data.toList[0]'(by rw [Array.length_toList];exact h0):=rfl;rw [this];have h':a.data.toList=45 :: (Lib.decDigits x++zdh y):=h;simp only [h']
   rfl
  rw [he]
  decide
theorem zkA (x:Nat):∀ c ∈ Lib.decDigits x,c≠47:=zb8 (neg:=false) (zaA x)
theorem zd1 (l:List UInt8) (y:Nat) (h:∀ c ∈ l,c≠47):zbJ (l++zdh y)=l.length:=by
 unfold zdh
 split
 ·rw [List.append_nil];exact zck h
 ·exact zcR h
theorem ze1 {t:ByteArray} {l:List UInt8} {y k:Nat} (h:t.data.toList=l++zdh y) (hk:k=l.length) :
  (t.extract 0 k).data.toList=l∧(y=1→t.size=k)∧(y≠1→k<t.size∧(t.extract (k+1) t.size).data.toList=Lib.decDigits y∧t.size=k+1+(Lib.decDigits y).length):=by
 subst hk;have hl:t.size=l.length+(zdh y).length:=by
  have:=congrArg List.length h;rw [Array.length_toList,List.length_append] at this;exact this
 refine ⟨?_,fun hy => ?_,fun hy => ?_⟩
 ·rw [zcu,h,List.drop_zero,Nat.sub_zero,List.take_left]
 ·rw [hl,hy];simp [zdh]
 ·have ht:zdh y=47 :: Lib.decDigits y:=by unfold zdh;rw [if_neg hy]
  rw [ht,List.length_cons] at hl;refine ⟨by omega,?_,by omega⟩;rw [zcu,h,ht,←List.drop_drop,List.drop_left];simp only [List.drop_succ_cons,List.drop_zero]
  exact List.take_of_length_le (by omega)
def RetQ (w:World) (b:Bool) (x y:Nat) (e:Ending) (w':World):Prop:=
 w=w'∧(e = .returned (.tuple #[.int .i64 0,.int .i64 0,.bool false])∨(e = .returned (.tuple #[.int .i64 (sgn b x),.int .i64 (y:Int),.bool true])∧x<1000000000∧y<1000000000))
theorem RetQ.no (w:World) (b:Bool) (x y:Nat):RetQ w b x y (.returned (.tuple #[.int .i64 0,.int .i64 0,.bool false])) w:=⟨rfl,.inl rfl⟩
theorem zjl {x:Nat} (h:(Lib.decDigits x).length≤9):x<1000000000:=by
 have h1:=zbo _ (zaA x);rw [zaG] at h1;have h2:10 ^ (Lib.decDigits x).length≤10 ^ 9:=Nat.pow_le_pow_right (by omega) h;have e:(10:Nat) ^ 9=1000000000:=by decide
 omega
theorem zew (a:ByteArray) (b:Bool) (x y:Nat) (w:World) (h:NumT a b x y) (ha:a.size≤1000000) :
  Calls Tryz.prog 72 #[.string a] w (RetQ w b x y):=by
 by_cases h20:20<a.size
 ·have d1:decide ((20:Int)<(a.size:Int))=true:=by simp only [decide_eq_true_eq];omega
  have HR:=Aa (RetQ.no w b x y);go_enter Tryz.func72,Tryz.ntmps72
  go_wp2
  go_ret3
  exact HR.out
 ·have d1:decide ((20:Int)<(a.size:Int))=false:=by simp only [decide_eq_false_iff_not];omega
  obtain ⟨h0,aS⟩:=h.head;have aE:=h.abs;have aT:=zjF a b;obtain ⟨c0,aM⟩:∃ c0:Nat,(a[0]'h0).toNat=c0:=⟨_,rfl⟩;rw [aM] at aS;have d0:decide (0<a.size)=true:=by simpa using h0
  obtain ⟨k,hk⟩:∃ k,k=(Lib.decDigits x).length:=⟨_,rfl⟩;obtain ⟨p1,p2,p3⟩:=ze1 aE hk;have aI:zbJ (absT a b).data.toList=k:=by rw [aE,zd1 _ _ (zkA x),hk]
  have aW:k≤(absT a b).size:=by
   by_cases hy:y=1
   ·rw [p2 hy];exact Nat.le_refl _
   ·exact Nat.le_of_lt (p3 hy).1
  obtain ⟨t,ht⟩:∃ t,t=absT a b:=⟨_,rfl⟩;rw [←ht] at aE aT p1 p2 p3 aI aW;have aA:=zcs t w (by omega);rw [aI] at aA;have aU:=Aa aA;have HT:=Aa ht;have HK:=Aa hk;have P1:=Aa p1;have P2:=Aa p2;have P3:=Aa p3;have aN:t.size≤20:=by omega
  have bA:(1:Int)≤(a.size:Int):=by omega
  obtain ⟨m,hm⟩:∃ m,m=t.size - k:=⟨_,rfl⟩;have em:(t.size:Int) - (k:Int)=(m:Int):=by omega
  have HM:=Aa hm;clear h aE aA aI ht hk p1 p2 p3 hm h20;have aZ:1≤k:=by rw [HK.out];exact Dec.dec_length_pos x
  have aC:=HT.out;unfold absT at aC;clear HT
  cases b
  case' false=>simp only [Bool.false_eq_true,if_false] at aC
  case' true=>simp only [if_true] at aC
  case' false=>subst aC
  case' true=>have aQ:=aC.symm
  case' true=>clear aC
  all_goals
   go_enter Tryz.func72,Tryz.ntmps72
   go_wp2_with fail
   refine aU.out.mono ?_;rintro e w1 ⟨rfl,rfl⟩
   by_cases hbig:9<k∨10<m
   ·have aD:(decide ((9:Int)<(k:Int))=true)∨(decide ((9:Int)<(k:Int))=false∧decide ((10:Int)<(m:Int))=true):=by
     simp only [decide_eq_true_eq,decide_eq_false_iff_not]
     omega
    have HR:=Aa (fun b=>RetQ.no w b x y);clear hbig
    rcases aD with d2 | ⟨d2,d3⟩
    all_goals
     go_wp2
     go_ret3
     exact HR.out _
   ·have d2:decide ((9:Int)<(k:Int))=false:=by simp only [decide_eq_false_iff_not];omega
    have d3:decide ((10:Int)<(m:Int))=false:=by simp only [decide_eq_false_iff_not];omega
    have aO:x<1000000000:=zjl (by rw [←HK.out];omega);have aK:zau (t.extract 0 k).data.toList=true:=by rw [P1.out];exact zaA x
    have aF:=zeA (t.extract 0 k) w aK (by simp;omega);rw [P1.out,zaG] at aF;have aL:=Aa aF;have HR:=Aa (fun (b:Bool) (v:Int) (hv:v=sgn b x) (u:Nat) (hu:u=y) (aH:y<1000000000)=>(show RetQ w b x y (.returned (.tuple #[.int .i64 v,.int .i64 (u:Int),.bool true])) w from ⟨rfl,.inr ⟨by rw [hv,hu],aO,aH⟩⟩));have aV:m≤10:=by omega
    clear aK aF hbig
    go_wp2_with fail
    refine aL.out.mono ?_;rintro e w1 ⟨rfl,rfl⟩
    by_cases hy:y=1
    ·have h9:=P2.out hy
     have d4:decide (k<t.size)=false:=by simp only [decide_eq_false_iff_not];omega
     have HY:=Aa hy;clear hy h9;go_wp2
     go_ret3
     exact HR.out _ _ (by simp [sgn]) 1 HY.out.symm (by rw [HY.out];decide)
    ·obtain ⟨q1,q2,q3⟩:=P3.out hy
     have d4:decide (k<t.size)=true:=by simpa using q1
     have aJ:zau (t.extract (k+1) t.size).data.toList=true:=by rw [q2];exact zaA y
     have aG:=zeA (t.extract (k+1) t.size) w aJ (by simp;omega);rw [q2,zaG] at aG;have aR:=Aa aG;have aH:y<1000000000:=zjl (by have:=HM.out;omega);have aP:k+1≤t.size:=q1;clear q1 q2 q3 aJ aG hy
     go_wp2_with fail
     refine aR.out.mono ?_;rintro e w1 ⟨rfl,rfl⟩;go_wp2
     go_ret3
     exact HR.out _ _ (by simp [sgn]) y rfl aH
end Go.Proofs.YtmkondcdejlhcaaGreatDoor
