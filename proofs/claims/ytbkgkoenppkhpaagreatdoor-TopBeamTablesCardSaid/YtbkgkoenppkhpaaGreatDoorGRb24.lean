/- Contract of the reference's Check of whatever text. -/
import Derived.Test.YtbkgkoenppkhpaaGreatDoorGRb20
import Derived.Test.YtbkgkoenppkhpaaGreatDoorGRtx
import Derived.Test.YtbkgkoenppkhpaaGreatDoorGRead2
import Derived.Laws.Cover2
import Derived.Test.YtbkgkoenppkhpaaGreatDoorGCo2
set_option maxRecDepth 100000
set_option maxHeartbeats 8000000
namespace Go.Proofs.YtbkgkoenppkhpaaGreatDoor
section
open Go.RowKit Dn
def RetC (w:World) (x:Int) (e:Ending) (w':World):Prop:=e = .returned (.int .i64 x)∧Below w.heap.size w w'
theorem RetC.same (w:World) (x:Int):RetC w x (.returned (.int .i64 x)) w:=⟨rfl,Below.refl _ _⟩
theorem RetC.eq {w:World} {x y:Int} (h:x=y):RetC w x (.returned (.int .i64 y)) w:=⟨by rw [h],Below.refl _ _⟩
theorem RetC.at {w w':World} {x y:Int} (h:x=y) (hb:Below w.heap.size w w'):RetC w x (.returned (.int .i64 y)) w':=⟨by rw [h],hb⟩
def zg9 (neg:Bool) (tl:List UInt8):Prop:=zax tl=false∨(neg=true∧tl=[48])
theorem zbj {neg fr:Bool} {tl bl:List UInt8} (h:¬ zg9 neg tl):za7 tl bl neg fr=if fr=true∧(zax bl=false∨bl=[48]∨bl=[49]) then 1 else if 600<tl.length∨600<bl.length then 4 else if fr=true∧Nat.gcd (zah tl) (zah bl)≠1 then 1 else 0:=by
 unfold za7;exact if_neg h
theorem zfR (s:ByteArray) (l:List UInt8):(s.toList==l)=decide (s.data.toList=l):=by
 rw [ByteArray.toList_eq,Bool.eq_iff_iff];simp
theorem zkc (a:ByteArray) (h0:0<a.size) (neg:Bool) (hn:(((a[0]'h0).toNat:Int)==45)=neg) :
  a.data.toList=sgnT neg (absT a neg).data.toList∧(neg=false→(absT a neg).data.toList.head? ≠ some 45):=by
 have aC:a.data.toList.length=a.size:=by simp
 have aA:a.data.toList=(a[0]'h0) :: a.data.toList.drop 1:=by
  have h9:0<a.data.toList.length:=by omega
  have e:=List.drop_eq_getElem_cons h9;rw [List.drop_zero] at e;exact e
 cases neg
 ·refine ⟨rfl,fun _ => ?_⟩
  show a.data.toList.head? ≠ some 45
  rw [aA];rw [beq_eq_false_iff_ne] at hn;intro e;have:a[0]'h0=45:=by simpa using e
  exact hn (by rw [this];rfl)
 ·refine ⟨?_,fun h=>by cases h⟩
  have hc:a[0]'h0=45:=by
   rw [beq_iff_eq] at hn;exact UInt8.toNat_inj.1 (by have:((45:UInt8).toNat:Int)=45:=rfl;omega)
  show a.data.toList=45 :: (a.extract 1 a.size).data.toList
  rw [zb3,List.take_of_length_le (by rw [List.length_drop];omega),←hc];exact aA
theorem NumT.ofParts {t:ByteArray} {tl bl:List UInt8} (ht:t.data.toList=tl++47 :: bl) (h1:zax tl=true) (h2:zax bl=true) (h49:bl≠[49]) :
  NumT t false (zah tl) (zah bl):=by
 unfold NumT zcM sgnT;have aA:zah bl≠1:=fun e=>h49 (by rw [←zbi bl h2,e];decide +kernel)
 rw [zbi tl h1,zbi bl h2,if_neg aA];exact ht
theorem ziu {l:List UInt8} (h:zbs l<l.length):l=l.take (zbs l)++47 :: l.drop (zbs l+1):=by
 rcases zdd l with h1 | ⟨t,r,rfl,h1⟩
 ·rw [zbZ h1] at h
  omega
 ·rw [zcr h1,List.take_left,←List.drop_drop,List.drop_left]
  rfl
theorem zcX (a:ByteArray) (w:World) (ha:a.size≤9223372036854775807) :
  Calls Tryz.prog 10 #[.string a] w (RetC w (zam a.data.toList)):=by
 obtain ⟨X,hX⟩:∃ X,X=zam a.data.toList:=⟨_,rfl⟩;rw [←hX]
 by_cases hz0:a.size=0
 ·have hl:a.data.toList=[]:=List.eq_nil_of_length_eq_zero (by simpa using hz0)
  have h1:X=1:=by rw [hX,hl];rfl
  obtain ⟨k,hk⟩:∃ k,k=zbs a.data.toList:=⟨_,rfl⟩;have cZ:k=0:=by rw [hk,hl];rfl
  have cJ:=zbY a w (by omega);rw [←hk] at cJ;have bY:=Aa cJ;obtain ⟨T1,bH⟩:∃ T1,a.extract 0 k=T1:=⟨_,rfl⟩;have cM:=zb7 T1 w (by rw [←bH];simp;omega);have cU:zax T1.data.toList=false:=by
   have:T1.data.toList=[]:=by rw [←bH,zb3,hl];simp
   rw [this];rfl
  rw [cU] at cM;have dB:=Aa cM;have g1:(0:Int)≤(k:Int):=by omega
  have g2:(k:Int)≤(a.size:Int):=by omega
  have HR:=Aa (RetC.same w 1);have d0:decide (0<a.size)=false:=by simp only [decide_eq_false_iff_not];omega
  subst h1;clear hX hl cJ cM cU hk cZ hz0;go_enter Tryz.func10,Tryz.ntmps10
  go_wp2_with fail
  refine bY.out.mono ?_;rintro e w1 ⟨rfl,rfl⟩
  go_wp2_with fail
  refine dB.out.mono ?_;rintro e w1 ⟨rfl,rfl⟩;go_wp2
  go_ret;exact HR.out
 ·have h0:0<a.size:=by omega
  obtain ⟨neg,cW⟩:∃ neg,(((a[0]'h0).toNat:Int)==45)=neg:=⟨_,rfl⟩;obtain ⟨aW,cI⟩:=zkc a h0 neg cW;obtain ⟨c0,dG⟩:∃ c0:Nat,(a[0]'h0).toNat=c0:=⟨_,rfl⟩;rw [dG] at cW;have d0:decide (0<a.size)=true:=by simpa using h0
  have cN:=zhz a neg;obtain ⟨t,ht⟩:∃ t,t=absT a neg:=⟨_,rfl⟩;rw [←ht] at aW cI cN;obtain ⟨k,hk⟩:∃ k,k=zbs t.data.toList:=⟨_,rfl⟩;have aG:=zjX aW cI;rw [←hk] at aG;have aQ:t.data.toList.length=t.size:=by simp
  have dK:k≤t.size:=by
   rw [hk,←aQ]
   rcases zdd t.data.toList with h1 | ⟨u,r,h2,h1⟩
   ·rw [zbZ h1];exact Nat.le_refl _
   ·rw [h2,zcr h1,List.length_append];omega
  have aF:k<t.size→t.data.toList=t.data.toList.take k++47 :: t.data.toList.drop (k+1):=by
   intro h;have:=ziu (l:=t.data.toList) (by rw [←hk,aQ];exact h);rw [←hk] at this;exact this
  have aY:=zbY t w (by omega);rw [←hk] at aY;have bY:=Aa aY;obtain ⟨T1,bH⟩:∃ T1,t.extract 0 k=T1:=⟨_,rfl⟩;obtain ⟨kk,cS⟩:∃ kk,kk=k+1:=⟨_,rfl⟩;obtain ⟨T2,cT⟩:∃ T2,t.extract kk t.size=T2:=⟨_,rfl⟩;have l1:T1.data.toList=t.data.toList.take k:=by rw [←bH,zb3,List.drop_zero,Nat.sub_zero]
  have l2:T2.data.toList=t.data.toList.drop (k+1):=by
   rw [←cT,zb3,cS];exact List.take_of_length_le (by rw [List.length_drop];omega)
  obtain ⟨tl,bD⟩:∃ tl,tl=T1.data.toList:=⟨_,rfl⟩;obtain ⟨bl,bB⟩:∃ bl,bl=T2.data.toList:=⟨_,rfl⟩;have cV:T1.size≤9223372036854775807:=by rw [←bH];simp;omega
  have cO:T2.size≤9223372036854775807:=by rw [←cT];simp;omega
  rw [←l1,←l2,←bD,←bB,aQ] at aG;rw [←l1,←l2,←bD,←bB] at aF;have bG:tl.length=k:=by rw [bD,l1,List.length_take];omega
  have cC:bl.length=t.size - (k+1):=by rw [bB,l2,List.length_drop];omega
  have s1:(T1.toList==[48])=decide (tl=[48]):=by rw [zfR,bD]
  have s2:(T2.toList==[48])=decide (bl=[48]):=by rw [zfR,bB]
  have s3:(T2.toList==[49])=decide (bl=[49]):=by rw [zfR,bB]
  have cL:=zb7 T1 w cV;have cB:=zb7 T2 w cO;rw [←bD] at cL;rw [←bB] at cB;have cR:=Aa cL;have cQ:=Aa cB;obtain ⟨q,hq⟩:∃ q:Int,q=(t.size:Int) - (k:Int) - 1:=⟨_,rfl⟩;obtain ⟨m,hm⟩:∃ m:Nat,m=t.size - k:=⟨_,rfl⟩;have em:(t.size:Int) - (k:Int)=(m:Int):=by omega
  have dJ:(m:Int) - 1=q:=by omega
  have dH : -1≤q∧q≤9223372036854775807:=by omega
  have bT:(k<t.size→(bl.length:Int)=q)∧(¬ k<t.size→q = -1∧bl.length=0):=by omega
  have f1:k<t.size→IntKind.i64.wrap ((k:Int)+1)=(kk:Int):=fun h=>by rw [IntWalk.i64_in _ (by omega)];omega
  have bU:=Aa f1;clear f1;have f2:IntKind.i64.wrap ((t.size:Int) - (k:Int))=(m:Int):=by rw [IntWalk.i64_in _ (by omega)];omega
  have f3:IntKind.i64.wrap ((m:Int) - 1)=q:=by rw [IntWalk.i64_in _ (by omega)];omega
  have g1:(0:Int)≤(k:Int):=by omega
  have g2:(k:Int)≤(t.size:Int):=by omega
  have g3:(0:Int)≤(kk:Int):=by omega
  have g4:k<t.size→(kk:Int)≤(t.size:Int):=by omega
  have dI:t.size≤9223372036854775807:=by omega
  have dL:(1:Int)≤(a.size:Int):=by omega
  rw [aG] at hX;have HX:=Aa hX;clear hX aG aW cI aQ hk cS l1 l2 bD bB aY cL cB hq hm hz0 cV cO cN;have aP:=Aa bG;have bZ:=Aa bT;have cP:=Aa aF;have bE:=ht;unfold absT at bE;clear ht bG cC bT aF
  cases neg
  ·simp only [Bool.false_eq_true,if_false] at bE
   subst bE;have aL:(zax tl=false∧X=1)∨(zax tl=true∧Hid (¬ zg9 false tl)):=by
    cases h:zax tl
    ·exact .inl ⟨rfl,by rw [HX.out];unfold za7;rw [if_pos (.inl h)]⟩
    ·refine .inr ⟨rfl,?_⟩
     rintro (h9 | ⟨h9,_⟩)
     ·rw [h] at h9;cases h9
     ·cases h9
   go_enter Tryz.func10,Tryz.ntmps10
   go_wp2_with fail
   refine bY.out.mono ?_;rintro e w1 ⟨rfl,rfl⟩
   go_wp2_with fail
   refine cR.out.mono ?_;rintro e w1 ⟨rfl,rfl⟩
   rcases aL with ⟨aT,hr⟩ | ⟨aT,aA⟩
   ·have HR:=Aa (RetC.eq (w:=w) hr)
    clear hr;go_wp2
    go_ret;exact HR.out
   ·by_cases hfr:k<t.size
    ·have d4:decide (k<t.size)=true:=by simpa using hfr
     have g5:=g4 hfr;have f1:=bU.out hfr;have aM:X=za7 tl bl false true:=by rw [HX.out,d4]
     have aH:=Aa aM;have cA:=Aa hfr;have bK:=bZ.out.1 hfr;have aX:=Aa bK;clear aM hfr g4 bK
     go_wp2_with fail
     refine cQ.out.mono ?_;rintro e w1 ⟨rfl,rfl⟩
     by_cases hbad:zax bl=false∨bl=[48]∨bl=[49]
     ·have hr:X=1:=by rw [aH.out,zbj aA.out,if_pos ⟨rfl,hbad⟩]
      have HR:=Aa (RetC.eq (w:=w) hr);have hc:zax bl=false∨(zax bl=true∧decide (bl=[48])=true)∨(zax bl=true∧decide (bl=[48])=false∧decide (bl=[49])=true):=by
       rcases hbad with h | h | h
       ·exact .inl h
       ·exact .inr (.inl ⟨by rw [h];rfl,by rw [h];rfl⟩)
       ·exact .inr (.inr ⟨by rw [h];rfl,by rw [h];rfl,by rw [h];rfl⟩)
      clear hr hbad
      rcases hc with b1 | ⟨b1,b2⟩ | ⟨b1,b2,b3⟩
      all_goals
       go_wp2
       go_ret;exact HR.out
     ·have b1:zax bl=true:=by
       cases h:zax bl
       ·exact absurd (.inl h) hbad
       ·rfl
      have n2:bl≠[48]:=fun h=>hbad (.inr (.inl h))
      have n3:bl≠[49]:=fun h=>hbad (.inr (.inr h))
      have b2:decide (bl=[48])=false:=decide_eq_false n2;have b3:decide (bl=[49])=false:=decide_eq_false n3;have bS:=Aa hbad
      by_cases hlg:600<tl.length∨600<bl.length
      ·have hr:X=4:=by rw [aH.out,zbj aA.out,if_neg (fun h=>bS.out h.2),if_pos hlg]
       have HR:=Aa (RetC.eq (w:=w) hr);have hc:decide ((600:Int)<(k:Int))=true∨(decide ((600:Int)<(k:Int))=false∧decide ((600:Int)<q)=true):=by
        have:=aP.out;have:=aX.out;simp only [decide_eq_true_eq,decide_eq_false_iff_not]
        omega
       clear hr hlg n2 n3 hbad
       rcases hc with d6 | ⟨d6,d7⟩
       all_goals
        go_wp2
        go_ret;exact HR.out
      ·obtain ⟨g,bA⟩:∃ g,Nat.gcd (zah tl) (zah bl)=g:=⟨_,rfl⟩
       have bM:(g=1→X=0)∧(g≠1→X=1):=by
        rw [aH.out,zbj aA.out,if_neg (fun h=>bS.out h.2),if_neg hlg,←bA];exact ⟨fun h=>if_neg (fun h9=>h9.2 h),fun h=>if_pos ⟨rfl,h⟩⟩
       have aJ:=NumT.ofParts (cP.out cA.out) aT b1 n3;have bN:=zc3 b1 n2;have bP:(Lib.decDigits (zah tl)).length≤600:=by rw [zbi tl aT];omega
       have bL:(Lib.decDigits (zah bl)).length≤600:=by rw [zbi bl b1];omega
       have d6:decide ((600:Int)<(k:Int))=false:=by have:=aP.out;simp only [decide_eq_false_iff_not];omega
       have d7:decide ((600:Int)<q)=false:=by have:=aX.out;simp only [decide_eq_false_iff_not];omega
       generalize zah tl=x at *;generalize zah bl=y at *;have bI:=Nat.le_trans (zbO x) bP;have bO:=Nat.le_trans (zbO y) bL;have cF:=Aa bI;have cE:=Aa bO;have HP:=Aa (zci t false x y w aJ (fun h=>by cases h) bN (by have:=aP.out;have:=aX.out;omega));have aI:=Aa bM;have bR:=Aa bA;clear bA bM aJ bN bP bL bI bO hbad hlg n2 n3
       go_wp2_with fail
       refine HP.out.mono ?_;rintro e w1 ⟨A1,n1,c1,A2,n2,c2,rfl,aO,aK,bC⟩;have aR:Below w1.heap.size w1 ((w1.alloc (.cells #[.bool false,.slice A1 n1 c1] 97)).alloc (.cells #[.bool false,.slice A2 n2 c2] 97)):=((Below.refl _ _).alloc (Nat.le_refl _) _).alloc (by simp) _;have aZ:CBlk ((w1.alloc (.cells #[.bool false,.slice A1 n1 c1] 97)).alloc (.cells #[.bool false,.slice A2 n2 c2] 97)) w1.heap.size #[.bool false,.slice A1 n1 c1] 97:=(CBlk.new w1 _ _ _ rfl).below ((Below.refl _ _).alloc (Nat.le_refl _) _) (by simp);have aU:CBlk ((w1.alloc (.cells #[.bool false,.slice A1 n1 c1] 97)).alloc (.cells #[.bool false,.slice A2 n2 c2] 97)) (w1.heap.size+1) #[.bool false,.slice A2 n2 c2] 97:=CBlk.new (w1.alloc (.cells #[.bool false,.slice A1 n1 c1] 97)) _ _ (w1.heap.size+1) (by simp);have bF:n1≤1048576:=by rw [←aO.len];have:=cF.out;omega
       have bQ:n2≤1048576:=by rw [←aK.len];have:=cE.out;omega
       replace aO:=aO.later aR
       replace aK:=aK.later aR
       have bX:=Ad bC aR;have bW:=Aa bX;clear aR bC bX;go_upto_region 13 with (fail)
       generalize ((w1.alloc (.cells #[.bool false,.slice A1 n1 c1] 97)).alloc (.cells #[.bool false,.slice A2 n2 c2] 97))=w3 at *;have q0:w3.cell? ⟨w1.heap.size,0,none⟩=some (.bool false):=aZ.cell 0;have q1:w3.cell? ⟨w1.heap.size,1,none⟩=some (.slice A1 n1 c1):=aZ.cell 1;have q2:w3.cell? ⟨w1.heap.size+1,0,none⟩=some (.bool false):=aU.cell 0;have q3:w3.cell? ⟨w1.heap.size+1,1,none⟩=some (.slice A2 n2 c2):=aU.cell 1;have aV:=zd9 A1 A2 n1 c1 n2 c2 x y w3 aO aK bF bQ;rw [bR.out] at aV;have HG:=Aa aV;clear aV;clear aZ aU aO aK bF bQ
       go_wp2_with fail
       refine HG.out.mono ?_;rintro e w4 ⟨A5,n5,c5,rfl,aS,bV⟩;have aE:=bW.out.trans (bV.mono bW.out.size);have aN:=aS.len;clear bR HP bV q0 q1 q2 q3
       by_cases h51:n5=1
       ·subst h51
        obtain ⟨v,hv⟩:=List.length_eq_one_iff.1 aN;have cG:g=v:=by rw [←zaj g,hv,zaQ]
        subst cG;rw [hv] at aS;obtain ⟨ad,dA,rfl,cY,aC⟩:=aS.rd.cellM (k:=0) (by omega)
        replace aC:w4.cell? ad=some (.int .i64 (g:Int)):=aC
        have dF:=Aa aE
        by_cases aD:g=1
        ·have hr:X=0:=aI.out.1 aD
         have HR:=Aa (RetC.at hr aE);have d8:((g:Int)==1)=true:=by rw [beq_iff_eq];omega
         clear hr aE aD hv aN aI;go_wp2
         go_ret;exact HR.out
        ·have hr:X=1:=aI.out.2 aD
         have HR:=Aa (RetC.at hr aE);have d8:((g:Int)==1)=false:=by rw [beq_eq_false_iff_ne];omega
         clear hr aE aD hv aN aI;go_wp2
         go_ret;exact HR.out
       ·have aD:g≠1:=fun e=>h51 (by rw [←aN,e,zbv (by omega) (by decide)];rfl)
        have hr:X=1:=aI.out.2 aD;have HR:=Aa (RetC.at hr aE);have d8:((n5:Int)==1)=false:=by rw [beq_eq_false_iff_ne];omega
        clear hr aE aD aN aI aS;go_wp2
        go_ret;exact HR.out
    ·have d4:decide (k<t.size)=false:=decide_eq_false hfr
     have aM:X=za7 tl bl false false:=by rw [HX.out,d4]
     have aH:=Aa aM;obtain ⟨cK,bJ⟩:=bZ.out.2 hfr;have cH:=Aa bJ;subst cK;clear aM bJ hfr g4
     by_cases hlg:600<tl.length
     ·have hr:X=4:=by rw [aH.out,zbj aA.out,if_neg (fun h=>by cases h.1),if_pos (.inl hlg)]
      have HR:=Aa (RetC.eq (w:=w) hr);have d6:decide ((600:Int)<(k:Int))=true:=by have:=aP.out;simp only [decide_eq_true_eq];omega
      clear hr hlg;go_wp2
      go_ret;exact HR.out
     ·have hr:X=0:=by rw [aH.out,zbj aA.out,if_neg (fun h=>by cases h.1),if_neg (by have:=cH.out;omega),if_neg (fun h=>by cases h.1)]
      have HR:=Aa (RetC.eq (w:=w) hr);have d6:decide ((600:Int)<(k:Int))=false:=by have:=aP.out;simp only [decide_eq_false_iff_not];omega
      clear hr hlg;go_wp2
      go_ret;exact HR.out
  ·simp only [if_true] at bE
   have dD:=bE.symm;clear bE;have aL:(zax tl=false∧X=1)∨(zax tl=true∧decide (tl=[48])=true∧X=1)∨(zax tl=true∧decide (tl=[48])=false∧Hid (¬ zg9 true tl)):=by
    cases h:zax tl
    ·exact .inl ⟨rfl,by rw [HX.out];unfold za7;rw [if_pos (.inl h)]⟩
    ·by_cases hz:tl=[48]
     ·exact .inr (.inl ⟨rfl,decide_eq_true hz,by rw [HX.out];unfold za7;rw [if_pos (.inr ⟨rfl,hz⟩)]⟩)
     ·refine .inr (.inr ⟨rfl,decide_eq_false hz,?_⟩)
      rintro (h9 | ⟨_,h9⟩)
      ·rw [h] at h9;cases h9
      ·exact hz h9
   go_enter Tryz.func10,Tryz.ntmps10
   go_wp2_with fail
   refine bY.out.mono ?_;rintro e w1 ⟨rfl,rfl⟩
   go_wp2_with fail
   refine cR.out.mono ?_;rintro e w1 ⟨rfl,rfl⟩
   rcases aL with ⟨aT,hr⟩ | ⟨aT,hz,hr⟩ | ⟨aT,hz,aA⟩
   ·have HR:=Aa (RetC.eq (w:=w) hr)
    clear hr;go_wp2
    go_ret;exact HR.out
   ·have HR:=Aa (RetC.eq (w:=w) hr)
    clear hr;go_wp2
    go_ret;exact HR.out
   ·by_cases hfr:k<t.size
    ·have d4:decide (k<t.size)=true:=by simpa using hfr
     have g5:=g4 hfr;have f1:=bU.out hfr;have aM:X=za7 tl bl true true:=by rw [HX.out,d4]
     have aH:=Aa aM;have cA:=Aa hfr;have bK:=bZ.out.1 hfr;have aX:=Aa bK;clear aM hfr g4 bK
     go_wp2_with fail
     refine cQ.out.mono ?_;rintro e w1 ⟨rfl,rfl⟩
     by_cases hbad:zax bl=false∨bl=[48]∨bl=[49]
     ·have hr:X=1:=by rw [aH.out,zbj aA.out,if_pos ⟨rfl,hbad⟩]
      have HR:=Aa (RetC.eq (w:=w) hr);have hc:zax bl=false∨(zax bl=true∧decide (bl=[48])=true)∨(zax bl=true∧decide (bl=[48])=false∧decide (bl=[49])=true):=by
       rcases hbad with h | h | h
       ·exact .inl h
       ·exact .inr (.inl ⟨by rw [h];rfl,by rw [h];rfl⟩)
       ·exact .inr (.inr ⟨by rw [h];rfl,by rw [h];rfl,by rw [h];rfl⟩)
      clear hr hbad
      rcases hc with b1 | ⟨b1,b2⟩ | ⟨b1,b2,b3⟩
      all_goals
       go_wp2
       go_ret;exact HR.out
     ·have b1:zax bl=true:=by
       cases h:zax bl
       ·exact absurd (.inl h) hbad
       ·rfl
      have n2:bl≠[48]:=fun h=>hbad (.inr (.inl h))
      have n3:bl≠[49]:=fun h=>hbad (.inr (.inr h))
      have b2:decide (bl=[48])=false:=decide_eq_false n2;have b3:decide (bl=[49])=false:=decide_eq_false n3;have bS:=Aa hbad
      by_cases hlg:600<tl.length∨600<bl.length
      ·have hr:X=4:=by rw [aH.out,zbj aA.out,if_neg (fun h=>bS.out h.2),if_pos hlg]
       have HR:=Aa (RetC.eq (w:=w) hr);have hc:decide ((600:Int)<(k:Int))=true∨(decide ((600:Int)<(k:Int))=false∧decide ((600:Int)<q)=true):=by
        have:=aP.out;have:=aX.out;simp only [decide_eq_true_eq,decide_eq_false_iff_not]
        omega
       clear hr hlg n2 n3 hbad
       rcases hc with d6 | ⟨d6,d7⟩
       all_goals
        go_wp2
        go_ret;exact HR.out
      ·obtain ⟨g,bA⟩:∃ g,Nat.gcd (zah tl) (zah bl)=g:=⟨_,rfl⟩
       have bM:(g=1→X=0)∧(g≠1→X=1):=by
        rw [aH.out,zbj aA.out,if_neg (fun h=>bS.out h.2),if_neg hlg,←bA];exact ⟨fun h=>if_neg (fun h9=>h9.2 h),fun h=>if_pos ⟨rfl,h⟩⟩
       have aJ:=NumT.ofParts (cP.out cA.out) aT b1 n3;have bN:=zc3 b1 n2;have bP:(Lib.decDigits (zah tl)).length≤600:=by rw [zbi tl aT];omega
       have bL:(Lib.decDigits (zah bl)).length≤600:=by rw [zbi bl b1];omega
       have d6:decide ((600:Int)<(k:Int))=false:=by have:=aP.out;simp only [decide_eq_false_iff_not];omega
       have d7:decide ((600:Int)<q)=false:=by have:=aX.out;simp only [decide_eq_false_iff_not];omega
       generalize zah tl=x at *;generalize zah bl=y at *;have bI:=Nat.le_trans (zbO x) bP;have bO:=Nat.le_trans (zbO y) bL;have cF:=Aa bI;have cE:=Aa bO;have HP:=Aa (zci t false x y w aJ (fun h=>by cases h) bN (by have:=aP.out;have:=aX.out;omega));have aI:=Aa bM;have bR:=Aa bA;clear bA bM aJ bN bP bL bI bO hbad hlg n2 n3
       go_wp2_with fail
       refine HP.out.mono ?_;rintro e w1 ⟨A1,n1,c1,A2,n2,c2,rfl,aO,aK,bC⟩;have aR:Below w1.heap.size w1 ((w1.alloc (.cells #[.bool false,.slice A1 n1 c1] 97)).alloc (.cells #[.bool false,.slice A2 n2 c2] 97)):=((Below.refl _ _).alloc (Nat.le_refl _) _).alloc (by simp) _;have aZ:CBlk ((w1.alloc (.cells #[.bool false,.slice A1 n1 c1] 97)).alloc (.cells #[.bool false,.slice A2 n2 c2] 97)) w1.heap.size #[.bool false,.slice A1 n1 c1] 97:=(CBlk.new w1 _ _ _ rfl).below ((Below.refl _ _).alloc (Nat.le_refl _) _) (by simp);have aU:CBlk ((w1.alloc (.cells #[.bool false,.slice A1 n1 c1] 97)).alloc (.cells #[.bool false,.slice A2 n2 c2] 97)) (w1.heap.size+1) #[.bool false,.slice A2 n2 c2] 97:=CBlk.new (w1.alloc (.cells #[.bool false,.slice A1 n1 c1] 97)) _ _ (w1.heap.size+1) (by simp);have bF:n1≤1048576:=by rw [←aO.len];have:=cF.out;omega
       have bQ:n2≤1048576:=by rw [←aK.len];have:=cE.out;omega
       replace aO:=aO.later aR
       replace aK:=aK.later aR
       have bX:=Ad bC aR;have bW:=Aa bX;clear aR bC bX;go_upto_region 13 with (fail)
       generalize ((w1.alloc (.cells #[.bool false,.slice A1 n1 c1] 97)).alloc (.cells #[.bool false,.slice A2 n2 c2] 97))=w3 at *;have q0:w3.cell? ⟨w1.heap.size,0,none⟩=some (.bool false):=aZ.cell 0;have q1:w3.cell? ⟨w1.heap.size,1,none⟩=some (.slice A1 n1 c1):=aZ.cell 1;have q2:w3.cell? ⟨w1.heap.size+1,0,none⟩=some (.bool false):=aU.cell 0;have q3:w3.cell? ⟨w1.heap.size+1,1,none⟩=some (.slice A2 n2 c2):=aU.cell 1;have aV:=zd9 A1 A2 n1 c1 n2 c2 x y w3 aO aK bF bQ;rw [bR.out] at aV;have HG:=Aa aV;clear aV;clear aZ aU aO aK bF bQ
       go_wp2_with fail
       refine HG.out.mono ?_;rintro e w4 ⟨A5,n5,c5,rfl,aS,bV⟩;have aE:=bW.out.trans (bV.mono bW.out.size);have aN:=aS.len;clear bR HP bV q0 q1 q2 q3
       by_cases h51:n5=1
       ·subst h51
        obtain ⟨v,hv⟩:=List.length_eq_one_iff.1 aN;have cG:g=v:=by rw [←zaj g,hv,zaQ]
        subst cG;rw [hv] at aS;obtain ⟨ad,dA,rfl,cY,aC⟩:=aS.rd.cellM (k:=0) (by omega)
        replace aC:w4.cell? ad=some (.int .i64 (g:Int)):=aC
        have dF:=Aa aE
        by_cases aD:g=1
        ·have hr:X=0:=aI.out.1 aD
         have HR:=Aa (RetC.at hr aE);have d8:((g:Int)==1)=true:=by rw [beq_iff_eq];omega
         clear hr aE aD hv aN aI;go_wp2
         go_ret;exact HR.out
        ·have hr:X=1:=aI.out.2 aD
         have HR:=Aa (RetC.at hr aE);have d8:((g:Int)==1)=false:=by rw [beq_eq_false_iff_ne];omega
         clear hr aE aD hv aN aI;go_wp2
         go_ret;exact HR.out
       ·have aD:g≠1:=fun e=>h51 (by rw [←aN,e,zbv (by omega) (by decide)];rfl)
        have hr:X=1:=aI.out.2 aD;have HR:=Aa (RetC.at hr aE);have d8:((n5:Int)==1)=false:=by rw [beq_eq_false_iff_ne];omega
        clear hr aE aD aN aI aS;go_wp2
        go_ret;exact HR.out
    ·have d4:decide (k<t.size)=false:=decide_eq_false hfr
     have aM:X=za7 tl bl true false:=by rw [HX.out,d4]
     have aH:=Aa aM;obtain ⟨cK,bJ⟩:=bZ.out.2 hfr;have cH:=Aa bJ;subst cK;clear aM bJ hfr g4
     by_cases hlg:600<tl.length
     ·have hr:X=4:=by rw [aH.out,zbj aA.out,if_neg (fun h=>by cases h.1),if_pos (.inl hlg)]
      have HR:=Aa (RetC.eq (w:=w) hr);have d6:decide ((600:Int)<(k:Int))=true:=by have:=aP.out;simp only [decide_eq_true_eq];omega
      clear hr hlg;go_wp2
      go_ret;exact HR.out
     ·have hr:X=0:=by rw [aH.out,zbj aA.out,if_neg (fun h=>by cases h.1),if_neg (by have:=cH.out;omega),if_neg (fun h=>by cases h.1)]
      have HR:=Aa (RetC.eq (w:=w) hr);have d6:decide ((600:Int)<(k:Int))=false:=by have:=aP.out;simp only [decide_eq_false_iff_not];omega
      clear hr hlg;go_wp2
      go_ret;exact HR.out
def recS (p:Q):Q:=⟨p.neg,p.bot,p.top⟩
theorem zmD {p:Q} (h:LowQ p) (h0:0<p.top):LowQ (recS p):=⟨h0,by have:=h.2.1;rwa [Nat.gcd_comm] at this,fun _=>h.1⟩
theorem zjW {p:Q} {N:Nat} (h:Small p N):Small (recS p) N:=⟨h.2,h.1⟩
def numQ (p:Q):Q:=⟨p.neg,p.top,1⟩
theorem NumQ.top_eq {a:ByteArray} {p:Q} (h:NumQ a p):a.data.toList=sgnT p.neg (Lib.decDigits p.top)++zcM p.bot:=h.num
theorem zoO (a:ByteArray) (p:Q) (w:World) (h:NumQ a p) (ha:a.size≤1000000) :
  Calls Tryz.prog 69 #[.string a] w fun e w'=>(∃ s:ByteArray,e = .returned (.string s)∧NumQ s (numQ p)∧s.size≤a.size)∧w=w':=by
 obtain ⟨k,hk⟩:∃ k,k=(sgnT p.neg (Lib.decDigits p.top)).length:=⟨_,rfl⟩;obtain ⟨p1,p2,p3⟩:=zev (t:=a) (l:=sgnT p.neg (Lib.decDigits p.top)) h.num hk;have aA:zbs a.data.toList=k:=by rw [h.top_eq,zdh _ _ (zcg (zaC p.top)),hk]
 have aE:k≤a.size:=by
  have:=zld a.data.toList;rw [aA,Array.length_toList] at this;exact this
 have aC:=fun W=>zbY a W (by omega)
 simp only [aA] at aC
 have aD:=Aa aC;have HN:Hid (NumQ (a.extract 0 k) (numQ p)):=by
  refine ⟨?_,Nat.one_pos,Nat.gcd_one_right _,h.2.2.2⟩;rw [p1,zaV];show _=_++(if (1:Nat)=1 then [] else _)
  rw [if_pos rfl,List.append_nil];rfl
 have HS:Hid ((a.extract 0 k).size≤a.size):=by show (a.extract 0 k).size≤a.size;rw [ByteArray.size_extract];omega
 clear aC aA p1 p2 p3 hk h;go_enter Tryz.func69,Tryz.ntmps69
 go_wp2_with fail
 refine (aD.out w).mono ?_;rintro e w4 ⟨rfl,rfl⟩;go_wp2
 go_ret;exact ⟨⟨_,rfl,HN.out,HS.out⟩,rfl⟩
theorem zo7 (a:ByteArray) (p:Q) (w:World) (h:NumQ a p) (ha:a.size≤1000000) :
  Calls Tryz.prog 70 #[.string a] w fun e w'=>(∃ s:ByteArray,e = .returned (.string s)∧s.size=(Lib.decDigits p.bot).length)∧w=w':=by
 obtain ⟨k,hk⟩:∃ k,k=(sgnT p.neg (Lib.decDigits p.top)).length:=⟨_,rfl⟩;obtain ⟨p1,p2,p3⟩:=zev (t:=a) (l:=sgnT p.neg (Lib.decDigits p.top)) h.num hk;have aD:zbs a.data.toList=k:=by rw [h.top_eq,zdh _ _ (zcg (zaC p.top)),hk]
 have aC:=fun W=>zbY a W (by omega)
 simp only [aD] at aC
 have aE:=Aa aC
 by_cases hy:p.bot=1
 ·have aH:=p2 hy
  have dk:((k:Int)==(a.size:Int))=true:=by rw [beq_iff_eq];omega
  have HR:Hid ((⟨#[49]⟩:ByteArray).size=(Lib.decDigits p.bot).length):=by show _=_;rw [hy,Dec.dec_lt (by omega)];rfl
  clear aC aD p1 p2 p3 hk h aH hy;go_enter Tryz.func70,Tryz.ntmps70
  go_wp2_with fail
  refine (aE.out w).mono ?_;rintro e w4 ⟨rfl,rfl⟩;go_wp2
  go_ret;exact ⟨⟨_,rfl,HR.out⟩,rfl⟩
 ·obtain ⟨aJ,aA,aG⟩:=p3 hy
  have dk:((k:Int)==(a.size:Int))=false:=by rw [beq_eq_false_iff_ne];omega
  obtain ⟨kk,aF⟩:∃ kk,kk=k+1:=⟨_,rfl⟩;have ew:IntKind.i64.wrap ((k:Int)+1)=(kk:Int):=by rw [IntWalk.i64_in _ (by omega)];omega
  have aI:(0:Int)≤(kk:Int)∧(kk:Int)≤(a.size:Int):=by omega
  have HR:Hid ((a.extract kk a.size).size=(Lib.decDigits p.bot).length):=by
   show _=_
   rw [aF,←aA,Array.length_toList];rfl
  clear aC aD p1 p2 p3 hk h aA aG hy aF;go_enter Tryz.func70,Tryz.ntmps70
  go_wp2_with fail
  refine (aE.out w).mono ?_;rintro e w4 ⟨rfl,rfl⟩;go_wp2
  go_ret;exact ⟨⟨_,rfl,HR.out⟩,rfl⟩
end
section
open Go.RowKit Bn
theorem zk2 (neg:Bool) (top bot k l mm scale low d:Nat) (At Ab:Option Addr) (nt ct nb cb:Nat) (w:World) (hT:Tabs w) (hok:Cs.AcOk top bot 112 k l mm scale low) (hd:d≤12) (hsc:scale=10 ^ d)
  (hk0:k<4294967296) (hl0:l<4294967296) (hmm:mm<1073741824) (ht:NatS w w.heap.size At nt ct top) (hbo:NatS w w.heap.size Ab nb cb bot) (hbot:0<bot) (hnt:nt≤1048576) :
  Calls Tryz.prog 173 #[.agg #[.bool neg,.slice At nt ct,.slice Ab nb cb],.int .i64 (d:Int)] w (zd4 w (lowQ false low scale) (lowQ false (low+1) scale)):=by
 obtain ⟨M,hM,cP⟩:=hok.s;have bM:=(cP.bound mm (by omega)).1;obtain ⟨V,hV⟩:∃ V,V=Cs.serVal (Cs.sqOf (Cs.circleOf 112 k l) top bot 112) 112 mm:=⟨_,rfl⟩;have dP:(digs V).length≤1048576:=by
  rw [hV];exact Nat.le_trans (zaa (Nat.sub_le _ _)) (zb8 bM hM)
 have hs:∀ W,NatS W W.heap.size At nt ct top→NatS W W.heap.size Ab nb cb bot→Calls Tryz.prog 208 #[.agg #[.bool neg,.slice At nt ct,.slice Ab nb cb],.int .i64 112] W (zb9 W V):=fun W h1 h2=>by
  rw [hV];exact zj4 neg top bot 112 k l mm M At Ab nt ct nb cb W hok.a hok.b hok.c cP hM (by omega) hk0 hl0 hmm h1 h2 hbot hnt
 have HS:=Aa hs;obtain ⟨X,hX⟩:∃ X,X=2 ^ 64:=⟨_,rfl⟩;have fD:(digs X).length≤2:=by rw [hX];exact zad (by decide)
 obtain ⟨Y,hY⟩:∃ Y,Y=2 ^ 112:=⟨_,rfl⟩;have bG:=hok.big;have dX:=hok.lo;have cZ:=hok.hi;rw [←hV,←hX] at bG;rw [←hV,←hX,←hY] at dX cZ;have dU:∀ W A n c,NatS W W.heap.size A n c 1→n≤1→Calls Tryz.prog 87 #[.slice A n c,.int .i64 64] W (zb9 W X):=fun W A n c h h1=>by
  have h2:=zaw A n c 1 64 W h (by omega) (by omega);rw [Nat.one_mul,←hX] at h2;exact h2
 have dW:∀ W A n c x,NatS W W.heap.size A n c x→n≤1099511627776→Calls Tryz.prog 182 #[.slice A n c,.int .i64 112] W (zb9 W (x / Y)):=fun W A n c x h h1=>by
  have h2:=zaZ A n c x 112 W h h1 (by omega);rw [←hY] at h2;exact h2.mono fun e w' ⟨h3,h4⟩=>h4.ret h3
 have fI:=Aa dU;have dI:=Aa dW;clear hs cP dU dW hok hV hX hY bM;have fQ:scale≤1000000000000:=by
  rw [hsc];have h1:10 ^ d≤10 ^ 12:=Nat.pow_le_pow_right (by omega) hd;omega
 have aU:(digs scale).length≤1:=zad (by rw [zdm,Nat.pow_one];omega);have dO:=Aa hsc;clear hsc;have bD:Below w.heap.size w ((w.alloc (.cells #[.bool neg,.slice At nt ct,.slice Ab nb cb] 87)).alloc (.cells #[.bool false,.slice none 0 0,.slice none 0 0,.bool false,.slice none 0 0,.slice none 0 0] 91)):=((Below.refl _ _).alloc (Nat.le_refl _) _).alloc (by simp) _;have q0:CBlk ((w.alloc (.cells #[.bool neg,.slice At nt ct,.slice Ab nb cb] 87)).alloc (.cells #[.bool false,.slice none 0 0,.slice none 0 0,.bool false,.slice none 0 0,.slice none 0 0] 91)) w.heap.size #[.bool neg,.slice At nt ct,.slice Ab nb cb] 87:=(CBlk.new w _ _ _ rfl).below ((Below.refl _ _).alloc (Nat.le_refl _) _) (by simp);have q1:CBlk ((w.alloc (.cells #[.bool neg,.slice At nt ct,.slice Ab nb cb] 87)).alloc (.cells #[.bool false,.slice none 0 0,.slice none 0 0,.bool false,.slice none 0 0,.slice none 0 0] 91)) (w.heap.size+1) #[.bool false,.slice none 0 0,.slice none 0 0,.bool false,.slice none 0 0,.slice none 0 0] 91:=CBlk.new _ _ _ _ (by simp);have dN:=ht.later bD;have bJ:=hbo.later bD;have cG:=hT.later bD;clear ht hbo hT;go_enter Tryz.func173,Tryz.ntmps173
 go_wp2
 go_step3
 go_wp2
 generalize ((w.alloc (.cells #[.bool neg,.slice At nt ct,.slice Ab nb cb] 87)).alloc (.cells #[.bool false,.slice none 0 0,.slice none 0 0,.bool false,.slice none 0 0,.slice none 0 0] 91))=w1 at *
 go_loop [5,13] (fun s i=>∃ j t:Nat,j≤d∧i = .int .i64 (j:Int)∧s = .int .u64 (t:Int)∧Hid (t=10 ^ j)) (fun _ i=>d - (intOf i).toNat)
 case atStart=>exact ⟨0,1,Nat.zero_le _,rfl,rfl,rfl⟩
 case round=>
  obtain ⟨j,t,hj,rfl,rfl,ht⟩:=hrel
  by_cases hlt:j<d
  ·obtain ⟨t2,cJ⟩:∃ t2,t2=t*10:=⟨_,rfl⟩
   have fR:t2≤1000000000000:=by
    rw [cJ,ht.out,←Nat.pow_succ];have h1:10 ^ (j+1)≤10 ^ 12:=Nat.pow_le_pow_right (by omega) (by omega);omega
   have f1:IntKind.u64.wrap ((t:Int)*10)=(t2:Int):=by rw [zd1 (by omega) (by omega)];omega
   have fC:Hid (t2=10 ^ (j+1)):=by unfold Hid;rw [cJ,ht.out,Nat.pow_succ]
   clear cJ;go_wp2
   go_round
   case rel=>exact ⟨j+1,t2,by omega,by go_num,rfl,fC⟩
   case measure=>simp [intOf];omega
  ·obtain rfl:j=d:=by omega
   obtain rfl:t=scale:=by rw [ht.out,dO.out]
   clear ht dO;go_wp2
   go_step3
   go_wp2
   go_loopw [7] (fun a wr=>a = .int .i64 0∧wr=w1) (fun _ _=>0)
   case atStart=>exact ⟨rfl,rfl⟩
   case round=>
    obtain ⟨rfl,rfl⟩:=hrel
    go_wp2_with fail
    refine (zgi _ cG).mono ?_;rintro e w2 ⟨rfl,rfl⟩;have x0:=q0.cell 0;have x1:=q0.cell 1;have x2:=q0.cell 2
    go_wp2_with fail
    refine (HS.out _ dN bJ).mono ?_;rintro e w2 ⟨A2,m2,c2,rfl,dJ,aQ⟩;have cB:=Ad bD aQ;have cW:=q1.below aQ q1.lt;have dM:=cG.later aQ;clear x0 x1 x2 q0 q1 dN bJ cG bD aQ
    go_wp2_with fail
    refine (zai 1 w2 (by omega) (by omega)).mono ?_;rintro e w3 ⟨A3,m3,c3,rfl,cH,aL⟩;have cM:=Ad cB aL;have cF:=cW.below aL cW.lt;have dY:=dM.later aL;have bT:=dJ.later aL;clear cW dM cB aL dJ
    go_wp2_with fail
    refine (fI.out w3 A3 m3 c3 cH (by rw [←cH.len];exact zck)).mono ?_;rintro e w4 ⟨A4,m4,c4,rfl,cU,aN⟩;have cS:=Ad cM aN;have dD:=cF.below aN cF.lt;have dL:=dY.later aN;have aP:=bT.later aN;clear cF dY cM aN bT cH
    go_wp2_with fail
    refine (zc0 A2 A4 m2 c2 m4 c4 V X w4 aP cU bG (by have:=aP.len;omega)).mono ?_;rintro e w5 ⟨A5,m5,c5,rfl,dG,aI⟩;have cO:=Ad cS aI;have cC:=dD.below aI dD.lt;have dH:=dL.later aI;have bH:=aP.later aI;have bP:=cU.later aI;clear dD dL cS aI aP cU
    go_wp2_with fail
    refine (zai (t:Int) w5 (by omega) (by omega)).mono ?_;rintro e w6 ⟨A6,m6,c6,rfl,bZ,aF⟩;rw [Int.toNat_natCast] at bZ;have cT:=Ad cO aF;have cQ:=cC.below aF cC.lt;have dT:=dH.later aF;have bK:=bH.later aF;have bN:=bP.later aF;have aX:=dG.later aF;clear cC dH cO aF bH bP dG;have fK:(digs (V - X)).length≤1048576:=Nat.le_trans (zdG _ _) dP
    go_wp2_with fail
    refine (zaL A5 A6 m5 c5 m6 c6 (V - X) t w6 aX bZ (by have:=aX.len;omega) (by have:=bZ.len;omega)).mono ?_;rintro e w7 ⟨A7,m7,c7,rfl,dA,aG⟩;have cV:=Ad cT aG;have cY:=cQ.below aG cQ.lt;have dS:=dT.later aG;have bR:=bK.later aG;have bS:=bN.later aG;clear cQ dT cT aG bK bN aX bZ
    go_wp2_with fail
    refine (dI.out w7 A7 m7 c7 _ dA (by have:=dA.len;have:=zaD fK aU;omega)).mono ?_;rintro e w8 ⟨A8,m8,c8,rfl,dB,aH⟩;rw [dX] at dB;have cI:=Ad cV aH;have cR:=cY.below aH cY.lt;have dR:=dS.later aH;have bB:=bR.later aH;have bC:=bS.later aH;clear cY dS cV aH bR bS dA
    go_wp2_with fail
    refine (zcF A2 A4 m2 c2 m4 c4 V X w8 bB bC (by have:=bB.len;omega) (by have:=bC.len;omega)).mono ?_;rintro e w9 ⟨A9,m9,c9,rfl,dK,aM⟩;have cN:=Ad cI aM;have cE:=cR.below aM cR.lt;have dF:=dR.later aM;have bU:=dB.later aM;clear cR dR cI aM bB bC dB
    go_wp2_with fail
    refine (zai (t:Int) w9 (by omega) (by omega)).mono ?_;rintro e fB ⟨fH,dZ,fP,rfl,aO,aC⟩;rw [Int.toNat_natCast] at aO;have bA:=Ad cN aC;have aZ:=cE.below aC cE.lt;have bE:=dF.later aC;have aS:=bU.later aC;have aJ:=dK.later aC;clear cE dF cN aC bU dK;have dQ:(digs (V+X)).length≤1048576+2+1:=zeD dP fD
    go_wp2_with fail
    refine (zaL A9 fH m9 c9 dZ fP (V+X) t fB aJ aO (by have:=aJ.len;omega) (by have:=aO.len;omega)).mono ?_;rintro e fN ⟨fO,fA,fF,rfl,aY,aE⟩;have aW:=Ad bA aE;have aV:=aZ.below aE aZ.lt;have bL:=bE.later aE;have aT:=aS.later aE;clear aZ bE bA aE aS aJ aO
    go_wp2_with fail
    refine (dI.out fN fO fA fF _ aY (by have:=aY.len;have:=zaD dQ aU;omega)).mono ?_;rintro e bW ⟨fM,fG,fE,rfl,bV,aD⟩;rw [cZ] at bV;have bO:=Ad aW aD;have bQ:=aV.below aD aV.lt;have cL:=bL.later aD;have aK:=aT.later aD;clear aV bL aW aD aT aY
    go_wp2_with fail
    refine (zaR A8 fM m8 c8 fG fE low low bW aK bV).mono ?_;rintro e fU ⟨rfl,nq,rfl⟩;rw [ncmp_eq]
    go_wp2_with fail
    have dV:(digs low).length≤1048580:=by
     rw [←cZ];refine Nat.le_trans (zaa (Nat.div_le_self _ _)) ?_;exact Nat.le_trans (zaD dQ aU) (by omega)
    have bY:Below bW.heap.size bW (bW.drewN nq):=zac (Below.refl _ _) nq;have bF:=Ad bO bY;have bI:=bQ.below bY bQ.lt;refine (znu low t A8 m8 c8 _ (cL.later bY) (aK.later bY) (by have:=aK.len;omega) (by omega)).mono ?_;rintro e fT ⟨fS,rfl,⟨A3,m3,c3,A4,m4,c4,A7,m7,c7,A8,m8,c8,rfl,h3,h4,h7,h8⟩,aR⟩;have cK:=Ad bF aR;have aA:=bI.below aR bI.lt;obtain ⟨qa,cA⟩:∃ qa,qa=lowQ false low t:=⟨_,rfl⟩;obtain ⟨qb,bX⟩:∃ qb,qb=lowQ false (low+1) t:=⟨_,rfl⟩;rw [←cA] at h3 h4;rw [←bX] at h7 h8
    try rw [←cA]
    try rw [←bX]
    have fJ:=Aa cA;have fL:=Aa bX;clear cA bX;have y0:=aA.cell 0;have y1:=aA.cell 1;have y2:=aA.cell 2;have y3:=aA.cell 3;have y4:=aA.cell 4;have y5:=aA.cell 5;have z0:=aA.frozen 0;have z1:=aA.frozen 1;have z2:=aA.frozen 2;have z3:=aA.frozen 3;have z4:=aA.frozen 4;have z5:=aA.frozen 5;have hI:=zdj (p:=qa) (q:=qb) aA cK (by omega) rfl h3 h4 h7 h8;have hD:=aA.set6 (.bool qa.neg) (.slice A3 m3 c3) (.slice A4 m4 c4) (.bool qb.neg) (.slice A7 m7 c7) (.slice A8 m8 c8);unfold Go.Proofs.YtbkgkoenppkhpaaGreatDoor.set6 at hI hD;have r0:=hD.cell 0;have r1:=hD.cell 1;have r2:=hD.cell 2;have r3:=hD.cell 3;have r4:=hD.cell 4;have r5:=hD.cell 5;have HI:=Aa hI;clear hI hD;go_wp2
    refine bodyPost_ret (v := .agg #[.bool qa.neg,.slice A3 m3 c3,.slice A4 m4 c4,.bool qb.neg,.slice A7 m7 c7,.slice A8 m8 c8]) (by simp [results,Tryz.results173,go_sem,y0,y1,y2,y3,y4,y5]) rfl ⟨_,rfl,by obtain rfl:=fJ.out;obtain rfl:=fL.out;exact HI.out⟩
end
end Go.Proofs.YtbkgkoenppkhpaaGreatDoor
