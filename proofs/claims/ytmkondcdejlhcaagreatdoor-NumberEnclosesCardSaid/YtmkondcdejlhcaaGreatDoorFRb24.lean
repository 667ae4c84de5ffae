/- Contract of the reference's Check of whatever text. -/
import Derived.Test.YtmkondcdejlhcaaGreatDoorFRb20
namespace Go.Proofs.YtmkondcdejlhcaaGreatDoor
section
open Go.RowKit Dn
def RetC (w:World) (x:Int) (e:Ending) (w':World):Prop:=e = .returned (.int .i64 x)∧Below w.heap.size w w'
theorem RetC.same(w:World)(x:Int):RetC w x (.returned (.int .i64 x)) w:=⟨rfl,Below.refl _ _⟩
theorem RetC.eq {w:World} {x y:Int} (h:x=y):RetC w x (.returned (.int .i64 y)) w:=⟨by rw[h],Below.refl _ _⟩
theorem RetC.at {w w':World} {x y:Int} (h:x=y) (hb:Below w.heap.size w w'):RetC w x (.returned (.int .i64 y)) w':=⟨by rw[h],hb⟩
def zhm (neg:Bool) (tl:List UInt8):Prop:=zay tl=false∨(neg=true∧tl=[48])
theorem zbt {neg fr:Bool} {tl bl:List UInt8} (h:¬ zhm neg tl):zba tl bl neg fr=if fr=true∧(zay bl=false∨bl=[48]∨bl=[49]) then 1 else if 600<tl.length∨600<bl.length then 4 else if fr=true∧Nat.gcd (zaj tl) (zaj bl)≠1 then 1 else 0:=by
 unfold zba;exact if_neg h
theorem zf2(s:ByteArray)(l:List UInt8):(s.toList==l)=decide (s.data.toList=l):=by
 rw[ByteArray.toList_eq,Bool.eq_iff_iff];simp
theorem zkj(a:ByteArray)(h0:0<a.size)(neg:Bool)(hn:(((a[0]'h0).toNat:Int)==45)=neg) :
  a.data.toList=sgnT neg (absT a neg).data.toList∧(neg=false→(absT a neg).data.toList.head? ≠ some 45):=by
 have aC:a.data.toList.length=a.size:=by simp
 have aA:a.data.toList=(a[0]'h0) :: a.data.toList.drop 1:=by
  have h9:0<a.data.toList.length:=by omega
  have e:=List.drop_eq_getElem_cons h9;rw[List.drop_zero] at e;exact e
 cases neg
 ·refine⟨rfl,fun _ => ?_⟩
  show a.data.toList.head? ≠ some 45
  rw[aA];rw[beq_eq_false_iff_ne] at hn;intro e;have:a[0]'h0=45:=by simpa using e
  exact hn (by rw[this];rfl)
 ·refine⟨?_,fun h=>by cases h⟩
  have hc:a[0]'h0=45:=by
   rw[beq_iff_eq] at hn;exact UInt8.toNat_inj.1 (by have:((45:UInt8).toNat:Int)=45:=rfl;omega)
  show a.data.toList=45 :: (a.extract 1 a.size).data.toList
  rw[zce,List.take_of_length_le (by rw[List.length_drop];omega),←hc];exact aA
theorem NumT.ofParts{t:ByteArray}{tl bl:List UInt8}(ht:t.data.toList=tl++47 :: bl)(h1:zay tl=true)(h2:zay bl=true)(h49:bl≠[49]) :
  NumT t false (zaj tl) (zaj bl):=by
 unfold NumT zcW sgnT;have aA:zaj bl≠1:=fun e=>h49 (by rw[←zbu bl h2,e];decide +kernel)
 rw[zbu tl h1,zbu bl h2,if_neg aA];exact ht
theorem zit{l:List UInt8}(h:zbE l<l.length):l=l.take (zbE l)++47 :: l.drop (zbE l+1):=by
 rcases zdh l with h1 | ⟨t,r,rfl,h1⟩
 ·rw[zb7 h1] at h
  omega
 ·rw[zcE h1,List.take_left,←List.drop_drop,List.drop_left]
  rfl
set_option maxHeartbeats 8000000 in
set_option maxRecDepth 100000 in
theorem zd1(a:ByteArray)(w:World)(ha:a.size≤9223372036854775807) :
  Calls Tryz.prog 11 #[.string a] w (RetC w (zap a.data.toList)):=by
 obtain⟨X,hX⟩:∃ X,X=zap a.data.toList:=⟨_,rfl⟩;rw[←hX]
 by_cases hz0:a.size=0
 ·have hl:a.data.toList=[]:=List.eq_nil_of_length_eq_zero (by simpa using hz0)
  have h1:X=1:=by rw[hX,hl];rfl
  obtain⟨k,hk⟩:∃ k,k=zbE a.data.toList:=⟨_,rfl⟩;have dD:k=0:=by rw[hk,hl];rfl
  have cB:=zb9 a w (by omega);rw[←hk] at cB;have cA:=Aa cB;obtain⟨T1,bT⟩:∃ T1,a.extract 0 k=T1:=⟨_,rfl⟩;have cJ:=zcj T1 w (by rw[←bT];simp;omega);have cY:zay T1.data.toList=false:=by
   have:T1.data.toList=[]:=by rw[←bT,zce,hl];simp
   rw[this];rfl
  rw[cY] at cJ;have dA:=Aa cJ;have g1:(0:Int)≤(k:Int):=by omega
  have g2:(k:Int)≤(a.size:Int):=by omega
  have HR:=Aa (RetC.same w 1);have d0:decide (0<a.size)=false:=by simp only[decide_eq_false_iff_not];omega
  subst h1;clear hX hl cB cJ cY hk dD hz0;go_enter Tryz.func11,Tryz.ntmps11
  go_wp2_with fail
  refine cA.out.mono ?_;rintro e w1 ⟨rfl,rfl⟩
  go_wp2_with fail
  refine dA.out.mono ?_;rintro e w1 ⟨rfl,rfl⟩;go_wp2
  go_ret;exact HR.out
 ·have h0:0<a.size:=by omega
  obtain⟨bE,cT⟩:∃ bE,(((a[0]'h0).toNat:Int)==45)=bE:=⟨_,rfl⟩;obtain⟨bA,cC⟩:=zkj a h0 bE cT;obtain⟨c0,dF⟩:∃ c0:Nat,(a[0]'h0).toNat=c0:=⟨_,rfl⟩;rw[dF] at cT;have d0:decide (0<a.size)=true:=by simpa using h0
  have cQ:=zii a bE;obtain⟨t,ht⟩:∃ t,t=absT a bE:=⟨_,rfl⟩;rw[←ht] at bA cC cQ;obtain⟨k,hk⟩:∃ k,k=zbE t.data.toList:=⟨_,rfl⟩;have aG:=zjZ bA cC;rw[←hk] at aG;have aR:t.data.toList.length=t.size:=by simp
  have dI:k≤t.size:=by
   rw[hk,←aR]
   rcases zdh t.data.toList with h1 | ⟨u,r,h2,h1⟩
   ·rw[zb7 h1];exact Nat.le_refl _
   ·rw[h2,zcE h1,List.length_append];omega
  have aF:k<t.size→t.data.toList=t.data.toList.take k++47 :: t.data.toList.drop (k+1):=by
   intro h;have:=zit (l:=t.data.toList) (by rw[←hk,aR];exact h);rw[←hk] at this;exact this
  have aY:=zb9 t w (by omega);rw[←hk] at aY;have cA:=Aa aY;obtain⟨T1,bT⟩:∃ T1,t.extract 0 k=T1:=⟨_,rfl⟩;obtain⟨kk,cR⟩:∃ kk,kk=k+1:=⟨_,rfl⟩;obtain⟨T2,cP⟩:∃ T2,t.extract kk t.size=T2:=⟨_,rfl⟩;have l1:T1.data.toList=t.data.toList.take k:=by rw[←bT,zce,List.drop_zero,Nat.sub_zero]
  have l2:T2.data.toList=t.data.toList.drop (k+1):=by
   rw[←cP,zce,cR];exact List.take_of_length_le (by rw[List.length_drop];omega)
  obtain⟨tl,bD⟩:∃ tl,tl=T1.data.toList:=⟨_,rfl⟩;obtain⟨bl,bB⟩:∃ bl,bl=T2.data.toList:=⟨_,rfl⟩;have cS:T1.size≤9223372036854775807:=by rw[←bT];simp;omega
  have cU:T2.size≤9223372036854775807:=by rw[←cP];simp;omega
  rw[←l1,←l2,←bD,←bB,aR] at aG;rw[←l1,←l2,←bD,←bB] at aF;have bI:tl.length=k:=by rw[bD,l1,List.length_take];omega
  have cK:bl.length=t.size-(k+1):=by rw[bB,l2,List.length_drop];omega
  have s1:(T1.toList==[48])=decide (tl=[48]):=by rw[zf2,bD]
  have s2:(T2.toList==[48])=decide (bl=[48]):=by rw[zf2,bB]
  have s3:(T2.toList==[49])=decide (bl=[49]):=by rw[zf2,bB]
  have cI:=zcj T1 w cS;have cH:=zcj T2 w cU;rw[←bD] at cI;rw[←bB] at cH;have cW:=Aa cI;have cV:=Aa cH;obtain⟨q,hq⟩:∃ q:Int,q=(t.size:Int)-(k:Int)-1:=⟨_,rfl⟩;obtain⟨m,hm⟩:∃ m:Nat,m=t.size-k:=⟨_,rfl⟩;have em:(t.size:Int)-(k:Int)=(m:Int):=by omega
  have dG:(m:Int)-1=q:=by omega
  have dJ : -1≤q∧q≤9223372036854775807:=by omega
  have bX:(k<t.size→(bl.length:Int)=q)∧(¬ k<t.size→q = -1∧bl.length=0):=by omega
  have f1:k<t.size→IntKind.i64.wrap ((k:Int)+1)=(kk:Int):=fun h=>by rw[IntWalk.i64_in _ (by omega)];omega
  have bL:=Aa f1;clear f1;have f2:IntKind.i64.wrap ((t.size:Int)-(k:Int))=(m:Int):=by rw[IntWalk.i64_in _ (by omega)];omega
  have f3:IntKind.i64.wrap ((m:Int)-1)=q:=by rw[IntWalk.i64_in _ (by omega)];omega
  have g1:(0:Int)≤(k:Int):=by omega
  have g2:(k:Int)≤(t.size:Int):=by omega
  have g3:(0:Int)≤(kk:Int):=by omega
  have g4:k<t.size→(kk:Int)≤(t.size:Int):=by omega
  have dK:t.size≤9223372036854775807:=by omega
  have dH:(1:Int)≤(a.size:Int):=by omega
  rw[aG] at hX;have HX:=Aa hX;clear hX aG bA cC aR hk cR l1 l2 bD bB aY cI cH hq hm hz0 cS cU cQ;have aP:=Aa bI;have bZ:=Aa bX;have cO:=Aa aF;have bF:=ht;unfold absT at bF;clear ht bI cK bX aF
  cases bE
  ·simp only[Bool.false_eq_true,if_false] at bF
   subst bF;have aM:(zay tl=false∧X=1)∨(zay tl=true∧Hid (¬ zhm false tl)):=by
    cases h:zay tl
    ·exact .inl ⟨rfl,by rw[HX.out];unfold zba;rw[if_pos (.inl h)]⟩
    ·refine .inr ⟨rfl,?_⟩
     rintro(h9 | ⟨h9,_⟩)
     ·rw[h] at h9;cases h9
     ·cases h9
   go_enter Tryz.func11,Tryz.ntmps11
   go_wp2_with fail
   refine cA.out.mono ?_;rintro e w1 ⟨rfl,rfl⟩
   go_wp2_with fail
   refine cW.out.mono ?_;rintro e w1 ⟨rfl,rfl⟩
   rcases aM with⟨aT,hr⟩ | ⟨aT,aA⟩
   ·have HR:=Aa (RetC.eq (w:=w) hr)
    clear hr;go_wp2
    go_ret;exact HR.out
   ·by_cases hfr:k<t.size
    ·have d4:decide (k<t.size)=true:=by simpa using hfr
     have g5:=g4 hfr;have f1:=bL.out hfr;have aN:X=zba tl bl false true:=by rw[HX.out,d4]
     have aI:=Aa aN;have cF:=Aa hfr;have bW:=bZ.out.1 hfr;have aX:=Aa bW;clear aN hfr g4 bW
     go_wp2_with fail
     refine cV.out.mono ?_;rintro e w1 ⟨rfl,rfl⟩
     by_cases hbad:zay bl=false∨bl=[48]∨bl=[49]
     ·have hr:X=1:=by rw[aI.out,zbt aA.out,if_pos ⟨rfl,hbad⟩]
      have HR:=Aa (RetC.eq (w:=w) hr);have hc:zay bl=false∨(zay bl=true∧decide (bl=[48])=true)∨(zay bl=true∧decide (bl=[48])=false∧decide (bl=[49])=true):=by
       rcases hbad with h | h | h
       ·exact .inl h
       ·exact .inr (.inl ⟨by rw[h];rfl,by rw[h];rfl⟩)
       ·exact .inr (.inr ⟨by rw[h];rfl,by rw[h];rfl,by rw[h];rfl⟩)
      clear hr hbad
      rcases hc with b1 | ⟨b1,b2⟩ | ⟨b1,b2,b3⟩
      all_goals
       go_wp2
       go_ret;exact HR.out
     ·have b1:zay bl=true:=by
       cases h:zay bl
       ·exact absurd (.inl h) hbad
       ·rfl
      have n2:bl≠[48]:=fun h=>hbad (.inr (.inl h))
      have n3:bl≠[49]:=fun h=>hbad (.inr (.inr h))
      have b2:decide (bl=[48])=false:=decide_eq_false n2;have b3:decide (bl=[49])=false:=decide_eq_false n3;have bQ:=Aa hbad
      by_cases hlg:600<tl.length∨600<bl.length
      ·have hr:X=4:=by rw[aI.out,zbt aA.out,if_neg (fun h=>bQ.out h.2),if_pos hlg]
       have HR:=Aa (RetC.eq (w:=w) hr);have hc:decide ((600:Int)<(k:Int))=true∨(decide ((600:Int)<(k:Int))=false∧decide ((600:Int)<q)=true):=by
        have:=aP.out;have:=aX.out;simp only[decide_eq_true_eq,decide_eq_false_iff_not]
        omega
       clear hr hlg n2 n3 hbad
       rcases hc with d6 | ⟨d6,d7⟩
       all_goals
        go_wp2
        go_ret;exact HR.out
      ·obtain⟨g,aV⟩:∃ g,Nat.gcd (zaj tl) (zaj bl)=g:=⟨_,rfl⟩
       have bO:(g=1→X=0)∧(g≠1→X=1):=by
        rw[aI.out,zbt aA.out,if_neg (fun h=>bQ.out h.2),if_neg hlg,←aV];exact⟨fun h=>if_neg (fun h9=>h9.2 h),fun h=>if_pos ⟨rfl,h⟩⟩
       have aK:=NumT.ofParts (cO.out cF.out) aT b1 n3;have bP:=zc6 b1 n2;have bS:(Lib.decDigits (zaj tl)).length≤600:=by rw[zbu tl aT];omega
       have bN:(Lib.decDigits (zaj bl)).length≤600:=by rw[zbu bl b1];omega
       have d6:decide ((600:Int)<(k:Int))=false:=by have:=aP.out;simp only[decide_eq_false_iff_not];omega
       have d7:decide ((600:Int)<q)=false:=by have:=aX.out;simp only[decide_eq_false_iff_not];omega
       generalize zaj tl=x at *;generalize zaj bl=y at *;have bJ:=Nat.le_trans (zbU x) bS;have bV:=Nat.le_trans (zbU y) bN;have cG:=Aa bJ;have cM:=Aa bV;have HP:=Aa (zbV t false x y w aK (fun h=>by cases h) bP (by have:=aP.out;have:=aX.out;omega));have aH:=Aa bO;have bH:=Aa aV;clear aV bO aK bP bS bN bJ bV hbad hlg n2 n3
       go_wp2_with fail
       refine HP.out.mono ?_;rintro e w1 ⟨A1,n1,c1,A2,n2,c2,rfl,aJ,aL,bC⟩;have aQ:Below w1.heap.size w1 ((w1.alloc (.cells #[.bool false,.slice A1 n1 c1] 84)).alloc (.cells #[.bool false,.slice A2 n2 c2] 84)):=((Below.refl _ _).alloc (Nat.le_refl _) _).alloc (by simp) _;have aU:CBlk ((w1.alloc (.cells #[.bool false,.slice A1 n1 c1] 84)).alloc (.cells #[.bool false,.slice A2 n2 c2] 84)) w1.heap.size #[.bool false,.slice A1 n1 c1] 84:=(CBlk.new w1 _ _ _ rfl).below ((Below.refl _ _).alloc (Nat.le_refl _) _) (by simp);have aW:CBlk ((w1.alloc (.cells #[.bool false,.slice A1 n1 c1] 84)).alloc (.cells #[.bool false,.slice A2 n2 c2] 84)) (w1.heap.size+1) #[.bool false,.slice A2 n2 c2] 84:=CBlk.new (w1.alloc (.cells #[.bool false,.slice A1 n1 c1] 84)) _ _ (w1.heap.size+1) (by simp);have bK:n1≤1048576:=by rw[←aJ.len];have:=cG.out;omega
       have bM:n2≤1048576:=by rw[←aL.len];have:=cM.out;omega
       replace aJ:=aJ.later aQ
       replace aL:=aL.later aQ
       have bY:=Ad bC aQ;have bU:=Aa bY;clear aQ bC bY;go_upto_region 13 with(fail)
       generalize ((w1.alloc (.cells #[.bool false,.slice A1 n1 c1] 84)).alloc (.cells #[.bool false,.slice A2 n2 c2] 84))=w3 at *;have q0:w3.cell? ⟨w1.heap.size,0,none⟩=some (.bool false):=aU.cell 0;have q1:w3.cell? ⟨w1.heap.size,1,none⟩=some (.slice A1 n1 c1):=aU.cell 1;have q2:w3.cell? ⟨w1.heap.size+1,0,none⟩=some (.bool false):=aW.cell 0;have q3:w3.cell? ⟨w1.heap.size+1,1,none⟩=some (.slice A2 n2 c2):=aW.cell 1;have aZ:=zdg A1 A2 n1 c1 n2 c2 x y w3 aJ aL bK bM;rw[bH.out] at aZ;have HG:=Aa aZ;clear aZ;clear aU aW aJ aL bK bM
       go_wp2_with fail
       refine HG.out.mono ?_;rintro e w4 ⟨A5,n5,c5,rfl,aS,bG⟩;have aE:=bU.out.trans (bG.mono bU.out.size);have aO:=aS.len;clear bH HP bG q0 q1 q2 q3
       by_cases h51:n5=1
       ·subst h51
        obtain⟨v,hv⟩:=List.length_eq_one_iff.1 aO;have cN:g=v:=by rw[←zak g,hv,zaX]
        subst cN;rw[hv] at aS;obtain⟨ad,dC,rfl,cZ,aC⟩:=aS.rd.cellM (k:=0) (by omega)
        replace aC:w4.cell? ad=some (.int .i64 (g:Int)):=aC
        have dE:=Aa aE
        by_cases aD:g=1
        ·have hr:X=0:=aH.out.1 aD
         have HR:=Aa (RetC.at hr aE);have d8:((g:Int)==1)=true:=by rw[beq_iff_eq];omega
         clear hr aE aD hv aO aH;go_wp2
         go_ret;exact HR.out
        ·have hr:X=1:=aH.out.2 aD
         have HR:=Aa (RetC.at hr aE);have d8:((g:Int)==1)=false:=by rw[beq_eq_false_iff_ne];omega
         clear hr aE aD hv aO aH;go_wp2
         go_ret;exact HR.out
       ·have aD:g≠1:=fun e=>h51 (by rw[←aO,e,zbj (by omega) (by decide)];rfl)
        have hr:X=1:=aH.out.2 aD;have HR:=Aa (RetC.at hr aE);have d8:((n5:Int)==1)=false:=by rw[beq_eq_false_iff_ne];omega
        clear hr aE aD aO aH aS;go_wp2
        go_ret;exact HR.out
    ·have d4:decide (k<t.size)=false:=decide_eq_false hfr
     have aN:X=zba tl bl false false:=by rw[HX.out,d4]
     have aI:=Aa aN;obtain⟨cL,bR⟩:=bZ.out.2 hfr;have cE:=Aa bR;subst cL;clear aN bR hfr g4
     by_cases hlg:600<tl.length
     ·have hr:X=4:=by rw[aI.out,zbt aA.out,if_neg (fun h=>by cases h.1),if_pos (.inl hlg)]
      have HR:=Aa (RetC.eq (w:=w) hr);have d6:decide ((600:Int)<(k:Int))=true:=by have:=aP.out;simp only[decide_eq_true_eq];omega
      clear hr hlg;go_wp2
      go_ret;exact HR.out
     ·have hr:X=0:=by rw[aI.out,zbt aA.out,if_neg (fun h=>by cases h.1),if_neg (by have:=cE.out;omega),if_neg (fun h=>by cases h.1)]
      have HR:=Aa (RetC.eq (w:=w) hr);have d6:decide ((600:Int)<(k:Int))=false:=by have:=aP.out;simp only[decide_eq_false_iff_not];omega
      clear hr hlg;go_wp2
      go_ret;exact HR.out
  ·simp only[if_true] at bF
   have dB:=bF.symm;clear bF;have aM:(zay tl=false∧X=1)∨(zay tl=true∧decide (tl=[48])=true∧X=1)∨(zay tl=true∧decide (tl=[48])=false∧Hid (¬ zhm true tl)):=by
    cases h:zay tl
    ·exact .inl ⟨rfl,by rw[HX.out];unfold zba;rw[if_pos (.inl h)]⟩
    ·by_cases hz:tl=[48]
     ·exact .inr (.inl ⟨rfl,decide_eq_true hz,by rw[HX.out];unfold zba;rw[if_pos (.inr ⟨rfl,hz⟩)]⟩)
     ·refine .inr (.inr ⟨rfl,decide_eq_false hz,?_⟩)
      rintro(h9 | ⟨_,h9⟩)
      ·rw[h] at h9;cases h9
      ·exact hz h9
   go_enter Tryz.func11,Tryz.ntmps11
   go_wp2_with fail
   refine cA.out.mono ?_;rintro e w1 ⟨rfl,rfl⟩
   go_wp2_with fail
   refine cW.out.mono ?_;rintro e w1 ⟨rfl,rfl⟩
   rcases aM with⟨aT,hr⟩ | ⟨aT,hz,hr⟩ | ⟨aT,hz,aA⟩
   ·have HR:=Aa (RetC.eq (w:=w) hr)
    clear hr;go_wp2
    go_ret;exact HR.out
   ·have HR:=Aa (RetC.eq (w:=w) hr)
    clear hr;go_wp2
    go_ret;exact HR.out
   ·by_cases hfr:k<t.size
    ·have d4:decide (k<t.size)=true:=by simpa using hfr
     have g5:=g4 hfr;have f1:=bL.out hfr;have aN:X=zba tl bl true true:=by rw[HX.out,d4]
     have aI:=Aa aN;have cF:=Aa hfr;have bW:=bZ.out.1 hfr;have aX:=Aa bW;clear aN hfr g4 bW
     go_wp2_with fail
     refine cV.out.mono ?_;rintro e w1 ⟨rfl,rfl⟩
     by_cases hbad:zay bl=false∨bl=[48]∨bl=[49]
     ·have hr:X=1:=by rw[aI.out,zbt aA.out,if_pos ⟨rfl,hbad⟩]
      have HR:=Aa (RetC.eq (w:=w) hr);have hc:zay bl=false∨(zay bl=true∧decide (bl=[48])=true)∨(zay bl=true∧decide (bl=[48])=false∧decide (bl=[49])=true):=by
       rcases hbad with h | h | h
       ·exact .inl h
       ·exact .inr (.inl ⟨by rw[h];rfl,by rw[h];rfl⟩)
       ·exact .inr (.inr ⟨by rw[h];rfl,by rw[h];rfl,by rw[h];rfl⟩)
      clear hr hbad
      rcases hc with b1 | ⟨b1,b2⟩ | ⟨b1,b2,b3⟩
      all_goals
       go_wp2
       go_ret;exact HR.out
     ·have b1:zay bl=true:=by
       cases h:zay bl
       ·exact absurd (.inl h) hbad
       ·rfl
      have n2:bl≠[48]:=fun h=>hbad (.inr (.inl h))
      have n3:bl≠[49]:=fun h=>hbad (.inr (.inr h))
      have b2:decide (bl=[48])=false:=decide_eq_false n2;have b3:decide (bl=[49])=false:=decide_eq_false n3;have bQ:=Aa hbad
      by_cases hlg:600<tl.length∨600<bl.length
      ·have hr:X=4:=by rw[aI.out,zbt aA.out,if_neg (fun h=>bQ.out h.2),if_pos hlg]
       have HR:=Aa (RetC.eq (w:=w) hr);have hc:decide ((600:Int)<(k:Int))=true∨(decide ((600:Int)<(k:Int))=false∧decide ((600:Int)<q)=true):=by
        have:=aP.out;have:=aX.out;simp only[decide_eq_true_eq,decide_eq_false_iff_not]
        omega
       clear hr hlg n2 n3 hbad
       rcases hc with d6 | ⟨d6,d7⟩
       all_goals
        go_wp2
        go_ret;exact HR.out
      ·obtain⟨g,aV⟩:∃ g,Nat.gcd (zaj tl) (zaj bl)=g:=⟨_,rfl⟩
       have bO:(g=1→X=0)∧(g≠1→X=1):=by
        rw[aI.out,zbt aA.out,if_neg (fun h=>bQ.out h.2),if_neg hlg,←aV];exact⟨fun h=>if_neg (fun h9=>h9.2 h),fun h=>if_pos ⟨rfl,h⟩⟩
       have aK:=NumT.ofParts (cO.out cF.out) aT b1 n3;have bP:=zc6 b1 n2;have bS:(Lib.decDigits (zaj tl)).length≤600:=by rw[zbu tl aT];omega
       have bN:(Lib.decDigits (zaj bl)).length≤600:=by rw[zbu bl b1];omega
       have d6:decide ((600:Int)<(k:Int))=false:=by have:=aP.out;simp only[decide_eq_false_iff_not];omega
       have d7:decide ((600:Int)<q)=false:=by have:=aX.out;simp only[decide_eq_false_iff_not];omega
       generalize zaj tl=x at *;generalize zaj bl=y at *;have bJ:=Nat.le_trans (zbU x) bS;have bV:=Nat.le_trans (zbU y) bN;have cG:=Aa bJ;have cM:=Aa bV;have HP:=Aa (zbV t false x y w aK (fun h=>by cases h) bP (by have:=aP.out;have:=aX.out;omega));have aH:=Aa bO;have bH:=Aa aV;clear aV bO aK bP bS bN bJ bV hbad hlg n2 n3
       go_wp2_with fail
       refine HP.out.mono ?_;rintro e w1 ⟨A1,n1,c1,A2,n2,c2,rfl,aJ,aL,bC⟩;have aQ:Below w1.heap.size w1 ((w1.alloc (.cells #[.bool false,.slice A1 n1 c1] 84)).alloc (.cells #[.bool false,.slice A2 n2 c2] 84)):=((Below.refl _ _).alloc (Nat.le_refl _) _).alloc (by simp) _;have aU:CBlk ((w1.alloc (.cells #[.bool false,.slice A1 n1 c1] 84)).alloc (.cells #[.bool false,.slice A2 n2 c2] 84)) w1.heap.size #[.bool false,.slice A1 n1 c1] 84:=(CBlk.new w1 _ _ _ rfl).below ((Below.refl _ _).alloc (Nat.le_refl _) _) (by simp);have aW:CBlk ((w1.alloc (.cells #[.bool false,.slice A1 n1 c1] 84)).alloc (.cells #[.bool false,.slice A2 n2 c2] 84)) (w1.heap.size+1) #[.bool false,.slice A2 n2 c2] 84:=CBlk.new (w1.alloc (.cells #[.bool false,.slice A1 n1 c1] 84)) _ _ (w1.heap.size+1) (by simp);have bK:n1≤1048576:=by rw[←aJ.len];have:=cG.out;omega
       have bM:n2≤1048576:=by rw[←aL.len];have:=cM.out;omega
       replace aJ:=aJ.later aQ
       replace aL:=aL.later aQ
       have bY:=Ad bC aQ;have bU:=Aa bY;clear aQ bC bY;go_upto_region 13 with(fail)
       generalize ((w1.alloc (.cells #[.bool false,.slice A1 n1 c1] 84)).alloc (.cells #[.bool false,.slice A2 n2 c2] 84))=w3 at *;have q0:w3.cell? ⟨w1.heap.size,0,none⟩=some (.bool false):=aU.cell 0;have q1:w3.cell? ⟨w1.heap.size,1,none⟩=some (.slice A1 n1 c1):=aU.cell 1;have q2:w3.cell? ⟨w1.heap.size+1,0,none⟩=some (.bool false):=aW.cell 0;have q3:w3.cell? ⟨w1.heap.size+1,1,none⟩=some (.slice A2 n2 c2):=aW.cell 1;have aZ:=zdg A1 A2 n1 c1 n2 c2 x y w3 aJ aL bK bM;rw[bH.out] at aZ;have HG:=Aa aZ;clear aZ;clear aU aW aJ aL bK bM
       go_wp2_with fail
       refine HG.out.mono ?_;rintro e w4 ⟨A5,n5,c5,rfl,aS,bG⟩;have aE:=bU.out.trans (bG.mono bU.out.size);have aO:=aS.len;clear bH HP bG q0 q1 q2 q3
       by_cases h51:n5=1
       ·subst h51
        obtain⟨v,hv⟩:=List.length_eq_one_iff.1 aO;have cN:g=v:=by rw[←zak g,hv,zaX]
        subst cN;rw[hv] at aS;obtain⟨ad,dC,rfl,cZ,aC⟩:=aS.rd.cellM (k:=0) (by omega)
        replace aC:w4.cell? ad=some (.int .i64 (g:Int)):=aC
        have dE:=Aa aE
        by_cases aD:g=1
        ·have hr:X=0:=aH.out.1 aD
         have HR:=Aa (RetC.at hr aE);have d8:((g:Int)==1)=true:=by rw[beq_iff_eq];omega
         clear hr aE aD hv aO aH;go_wp2
         go_ret;exact HR.out
        ·have hr:X=1:=aH.out.2 aD
         have HR:=Aa (RetC.at hr aE);have d8:((g:Int)==1)=false:=by rw[beq_eq_false_iff_ne];omega
         clear hr aE aD hv aO aH;go_wp2
         go_ret;exact HR.out
       ·have aD:g≠1:=fun e=>h51 (by rw[←aO,e,zbj (by omega) (by decide)];rfl)
        have hr:X=1:=aH.out.2 aD;have HR:=Aa (RetC.at hr aE);have d8:((n5:Int)==1)=false:=by rw[beq_eq_false_iff_ne];omega
        clear hr aE aD aO aH aS;go_wp2
        go_ret;exact HR.out
    ·have d4:decide (k<t.size)=false:=decide_eq_false hfr
     have aN:X=zba tl bl true false:=by rw[HX.out,d4]
     have aI:=Aa aN;obtain⟨cL,bR⟩:=bZ.out.2 hfr;have cE:=Aa bR;subst cL;clear aN bR hfr g4
     by_cases hlg:600<tl.length
     ·have hr:X=4:=by rw[aI.out,zbt aA.out,if_neg (fun h=>by cases h.1),if_pos (.inl hlg)]
      have HR:=Aa (RetC.eq (w:=w) hr);have d6:decide ((600:Int)<(k:Int))=true:=by have:=aP.out;simp only[decide_eq_true_eq];omega
      clear hr hlg;go_wp2
      go_ret;exact HR.out
     ·have hr:X=0:=by rw[aI.out,zbt aA.out,if_neg (fun h=>by cases h.1),if_neg (by have:=cE.out;omega),if_neg (fun h=>by cases h.1)]
      have HR:=Aa (RetC.eq (w:=w) hr);have d6:decide ((600:Int)<(k:Int))=false:=by have:=aP.out;simp only[decide_eq_false_iff_not];omega
      clear hr hlg;go_wp2
      go_ret;exact HR.out
def recS (p:Q):Q:=⟨p.neg,p.bot,p.top⟩
theorem zhr{p:Q}(h:LowQ p)(h0:0<p.top):LowQ (recS p):=⟨h0,by have:=h.2.1;rwa [Nat.gcd_comm] at this,fun _=>h.1⟩
theorem zdQ {p:Q} {N:Nat} (h:Small p N):Small (recS p) N:=⟨h.2,h.1⟩
end
section
open Go.RowKit
theorem zlr:∀ (l:List Bool) (i:Nat),l[i]? = some false→(l.set i true).countP (fun b => !b)+1=l.countP (fun b => !b)
 | [],_,h=>by simp at h
 | b :: l,0,h=>by
  simp at h
  subst h;simp
 | b :: l,i+1,h=>by
  have h2:=zlr l i (by simpa using h);rw[List.set_cons_succ,List.countP_cons,List.countP_cons];omega
theorem zjc:∀ (l:List Bool),l.countP (fun b => !b)=0→∀ (i:Nat) (b:Bool),l[i]? = some b→b=true
 | [],_,i,b,h=>by simp at h
 | c :: l,h0,i,b,h=>by
  rw[List.countP_cons] at h0
  cases i with
  | zero=>
   simp at h
   subst h
   cases c
   ·simp at h0
   ·rfl
  | succ i=>exact zjc l (by omega) i b (by simpa using h)
theorem zle {P:Program} {ops:Array Oper} {Q:Exit→Act→World→Prop} (Inv:Array Bool→Act→World→Prop)
  (hstep:∀ (i:Nat) (o:Oper) (listed:Array Bool) (a:Act) (w:World),ops[i]? = some o→Inv listed a w→listed[i]? = some false →
   (∀ e ∈ o.after,Region.binds .any e=true→listed.getD e.on false=true)→wpOp P ops Q i (fun a' w'=>Inv (listed.setIfInBounds i true) a' w') a w)
  (hdone:∀ (listed:Array Bool) (a:Act) (w:World),Inv listed a w→Region.ready .any ops listed=[]→Q .normal a w) :
  ∀ (fuel:Nat) (listed:Array Bool) (a:Act) (w:World),listed.toList.countP (fun b => !b)≤fuel→Inv listed a w→wpAny P .any ops Q fuel listed a w:=by
 have aC:∀ (listed:Array Bool) (i:Nat),listed.getD i true=false→listed[i]? = some false:=by
  intro listed i h;rw[Array.getD_eq_getD_getElem?] at h
  cases hl:listed[i]? with
  | none=>rw[hl] at h;cases h
  | some b=>rw[hl] at h;simp at h;rw[h]
 intro fuel
 induction fuel with
 | zero=>
  intro listed a w hc hI;have hr:Region.ready .any ops listed=[]:=by
   cases hq:Region.ready .any ops listed with
   | nil=>rfl
   | cons j l=>
    have hj:j ∈ Region.ready .any ops listed:=by rw[hq];exact List.mem_cons_self
    have h1:=aC listed j (mem_ready.1 hj).1;have h2:=zjc listed.toList (by omega) j false (by simpa using h1)
    cases h2
  exact⟨hr,hdone listed a w hI hr⟩
 | succ fuel ih=>
  intro listed a w hc hI;refine⟨fun hr=>hdone listed a w hI hr,fun i hi => ?_⟩;obtain⟨hu,o,ho,aA⟩:=mem_ready.1 hi;have h1:=aC listed i hu;refine wpOp_mono (fun a' w' h=>ih _ a' w' ?_ h) (hstep i o listed a w ho hI h1 aA);have h3:=zlr listed.toList i (by simpa using h1);rw[Array.toList_setIfInBounds];omega
theorem zjV{ops:Array Oper}{listed:Array Bool}(htop:∀ (i:Nat) (o:Oper),ops[i]? = some o→∀ e ∈ o.after,e.on<i)(hr:Region.ready .any ops listed=[]) :
  ∀ (n i:Nat),i<n→i<ops.size→∀ b,listed[i]? = some b→b=true:=by
 intro n
 induction n with
 | zero=>intro i h;omega
 | succ n ih=>
  intro i hi hs b hb
  cases b with
  | true=>rfl
  | false=>
   exfalso
   have aA:i<listed.size:=(Array.getElem?_eq_some_iff.1 hb).1;have hm:i ∈ Region.ready .any ops listed:=by
    refine mem_ready.2 ⟨by rw[Array.getD_eq_getD_getElem?,hb];rfl,ops[i],Array.getElem?_eq_getElem hs,fun e he _ => ?_⟩;have h1:=htop i ops[i] (Array.getElem?_eq_getElem hs) e he;have h2:listed[e.on]? = some listed[e.on]:=Array.getElem?_eq_getElem (by omega);have h3:=ih e.on (by omega) (by omega) _ h2;rw[Array.getD_eq_getD_getElem?,h2,h3];rfl
   rw[hr] at hm
   cases hm
theorem zp2{ops:Array Oper}(h:(List.range ops.size).all (fun i=>((ops[i]?).map (fun o=>o.after.toList.all (fun e=>decide (e.on<i)))).getD true)=true) :
  ∀ (i:Nat) (o:Oper),ops[i]? = some o→∀ e ∈ o.after,e.on<i:=by
 intro i o ho e he;have hi:i<ops.size:=(Array.getElem?_eq_some_iff.1 ho).1;have h1:=List.all_eq_true.1 h i (List.mem_range.2 hi);rw[ho] at h1;have h2:=List.all_eq_true.1 h1 e (by simpa using he)
 simpa using h2
theorem zbI{P:Program}{id:Nat}{ops:Array Oper}{Q:Exit→Act→World→Prop}{a:Act}{w:World}(hm:P.follows .mixedOrders=true)(Inv:Array Bool→Act→World→Prop)
 (htop:(List.range ops.size).all (fun i=>((ops[i]?).map (fun o=>o.after.toList.all (fun e=>decide (e.on<i)))).getD true)=true)
 (h0:Inv (Array.replicate ops.size false) a w.drew)
 (hstep:∀ (i:Nat) (o:Oper) (listed:Array Bool) (a:Act) (w:World),ops[i]? = some o→Inv listed a w→listed[i]? = some false →
   (∀ e ∈ o.after,Region.binds .any e=true→listed.getD e.on false=true)→wpOp P ops Q i (fun a' w'=>Inv (listed.setIfInBounds i true) a' w') a w)
 (hdone:∀ (listed:Array Bool) (a:Act) (w:World),Inv listed a w→(∀ i b,i<ops.size→listed[i]? = some b→b=true)→Q .normal a w) :
  (Code.region id ops true).wp P Q a w:=by
 refine wp_region_any hm (zle Inv hstep (fun listed a w hI hr=>hdone listed a w hI fun i b hi hb=>zjV (zp2 htop) hr (i+1) i (by omega) hi b hb) _ _ _ _ ?_ h0);rw[Array.toList_replicate];exact Nat.le_trans List.countP_le_length (by rw[List.length_replicate];exact Nat.le_refl _)
theorem zao {P:Program} {ops:Array Oper} {Q:Exit→Act→World→Prop} {Inv:Array Bool→Act→World→Prop} {i:Nat} {o:Oper} {listed:Array Bool} {a:Act} {w:World} (ho:ops[i]? = some o)
  (h:∀ K':Act→World→Prop,Hid (∀ a' w',Inv (listed.setIfInBounds i true) a' w'→K' a' w')→if Region.wanted o (yielded ops a.tmps)=true then Oper.wp P o a w K' Q else K' (a.put o.dst undef) w) :
  wpOp P ops Q i (fun a' w'=>Inv (listed.setIfInBounds i true) a' w') a w:=wpOp_step ho fun K' hK=>h K' (Aa hK)
end
end Go.Proofs.YtmkondcdejlhcaaGreatDoor
