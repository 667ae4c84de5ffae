/- Contract of the reference's Check of whatever text. -/
import Derived.Test.YtbkgkoenppkhpaaGreatDoorBRb20
set_option maxHeartbeats 8000000
namespace Go.Proofs.YtbkgkoenppkhpaaGreatDoor
section
open Go.RowKit Dn
def RetC (w:World) (x:Int) (e:Ending) (w':World):Prop:=e = .returned (.int .i64 x)∧Below w.heap.size w w'
theorem RetC.same(w:World)(x:Int):RetC w x (.returned (.int .i64 x)) w:=⟨rfl,Below.refl _ _⟩
theorem RetC.eq {w:World} {x y:Int} (h:x=y):RetC w x (.returned (.int .i64 y)) w:=⟨by rw[h],Below.refl _ _⟩
theorem RetC.at {w w':World} {x y:Int} (h:x=y) (hb:Below w.heap.size w w'):RetC w x (.returned (.int .i64 y)) w':=⟨by rw[h],hb⟩
def zif (neg:Bool) (tl:List UInt8):Prop:=zaB tl=false∨(neg=true∧tl=[48])
theorem zbz {neg fr:Bool} {tl bl:List UInt8} (h:¬ zif neg tl):zbg tl bl neg fr=if fr=true∧(zaB bl=false∨bl=[48]∨bl=[49]) then 1 else if 600<tl.length∨600<bl.length then 4 else if fr=true∧Nat.gcd (zaj tl) (zaj bl)≠1 then 1 else 0:=by
 unfold zbg;exact if_neg h
theorem zgv(s:ByteArray)(l:List UInt8):(s.toList==l)=decide (s.data.toList=l):=by
 rw[ByteArray.toList_eq,Bool.eq_iff_iff];simp
theorem zlJ(a:ByteArray)(h0:0<a.size)(neg:Bool)(hn:(((a[0]'h0).toNat:Int)==45)=neg) :
  a.data.toList=sgnT neg (absT a neg).data.toList∧(neg=false→(absT a neg).data.toList.head? ≠ some 45):=by
 have aC:a.data.toList.length=a.size:=by simp
 have aA:a.data.toList=(a[0]'h0) :: a.data.toList.drop 1:=by
  have h9:0<a.data.toList.length:=by omega
  have e:=List.drop_eq_getElem_cons h9;rw[List.drop_zero] at e;exact e
 cases neg
 ·refine⟨rfl,fun _ => ?_⟩
  show a.data.toList.head? ≠ some 45
  rw[aA];rw[beq_eq_false_iff_ne] at hn;intro e;have:a[0]'h0=45:=by simpa using e
  exact hn (by rw[this];rfl)
 ·refine⟨?_,fun h=>by cases h⟩
  have hc:a[0]'h0=45:=by
   rw[beq_iff_eq] at hn;exact UInt8.toNat_inj.1 (by have:((45:UInt8).toNat:Int)=45:=rfl;omega)
  show a.data.toList=45 :: (a.extract 1 a.size).data.toList
  rw[zb9,List.take_of_length_le (by rw[List.length_drop];omega),←hc];exact aA
theorem NumT.ofParts{t:ByteArray}{tl bl:List UInt8}(ht:t.data.toList=tl++47 :: bl)(h1:zaB tl=true)(h2:zaB bl=true)(h49:bl≠[49]) :
  NumT t false (zaj tl) (zaj bl):=by
 unfold NumT zcT sgnT;have aA:zaj bl≠1:=fun e=>h49 (by rw[←zbx bl h2,e];decide +kernel)
 rw[zbx tl h1,zbx bl h2,if_neg aA];exact ht
theorem zjm{l:List UInt8}(h:zbB l<l.length):l=l.take (zbB l)++47 :: l.drop (zbB l+1):=by
 rcases zdy l with h1 | ⟨t,r,rfl,h1⟩
 ·rw[zb6 h1] at h
  omega
 ·rw[zcQ h1,List.take_left,←List.drop_drop,List.drop_left]
  rfl
set_option maxRecDepth 100000 in
theorem zej(a:ByteArray)(w:World)(ha:a.size≤9223372036854775807) :
  Calls Tryz.prog 10 #[.string a] w (RetC w (zan a.data.toList)):=by
 obtain⟨X,hX⟩:∃ X,X=zan a.data.toList:=⟨_,rfl⟩;rw[←hX]
 by_cases hz0:a.size=0
 ·have hl:a.data.toList=[]:=List.eq_nil_of_length_eq_zero (by simpa using hz0)
  have h1:X=1:=by rw[hX,hl];rfl
  obtain⟨k,hk⟩:∃ k,k=zbB a.data.toList:=⟨_,rfl⟩;have dB:k=0:=by rw[hk,hl];rfl
  have cN:=zbS a w (by omega);rw[←hk] at cN;have bZ:=Aa cN;obtain⟨T1,bY⟩:∃ T1,a.extract 0 k=T1:=⟨_,rfl⟩;have cG:=zco T1 w (by rw[←bY];simp;omega);have cR:zaB T1.data.toList=false:=by
   have:T1.data.toList=[]:=by rw[←bY,zb9,hl];simp
   rw[this];rfl
  rw[cR] at cG;have dA:=Aa cG;have g1:(0:Int)≤(k:Int):=by omega
  have g2:(k:Int)≤(a.size:Int):=by omega
  have HR:=Aa (RetC.same w 1);have d0:decide (0<a.size)=false:=by simp only[decide_eq_false_iff_not];omega
  subst h1;clear hX hl cN cG cR hk dB hz0;go_enter Tryz.func10,Tryz.ntmps10
  go_wp2_with fail
  refine bZ.out.mono ?_;rintro e w1 ⟨rfl,rfl⟩
  go_wp2_with fail
  refine dA.out.mono ?_;rintro e w1 ⟨rfl,rfl⟩;go_wp2
  go_ret;exact HR.out
 ·have h0:0<a.size:=by omega
  obtain⟨bD,cY⟩:∃ bD,(((a[0]'h0).toNat:Int)==45)=bD:=⟨_,rfl⟩;obtain⟨bC,cI⟩:=zlJ a h0 bD cY;obtain⟨c0,dD⟩:∃ c0:Nat,(a[0]'h0).toNat=c0:=⟨_,rfl⟩;rw[dD] at cY;have d0:decide (0<a.size)=true:=by simpa using h0
  have cS:=ziw a bD;obtain⟨t,ht⟩:∃ t,t=absT a bD:=⟨_,rfl⟩;rw[←ht] at bC cI cS;obtain⟨k,hk⟩:∃ k,k=zbB t.data.toList:=⟨_,rfl⟩;have aG:=zlV bC cI;rw[←hk] at aG;have aQ:t.data.toList.length=t.size:=by simp
  have dH:k≤t.size:=by
   rw[hk,←aQ]
   rcases zdy t.data.toList with h1 | ⟨u,r,h2,h1⟩
   ·rw[zb6 h1];exact Nat.le_refl _
   ·rw[h2,zcQ h1,List.length_append];omega
  have aE:k<t.size→t.data.toList=t.data.toList.take k++47 :: t.data.toList.drop (k+1):=by
   intro h;have:=zjm (l:=t.data.toList) (by rw[←hk,aQ];exact h);rw[←hk] at this;exact this
  have bB:=zbS t w (by omega);rw[←hk] at bB;have bZ:=Aa bB;obtain⟨T1,bY⟩:∃ T1,t.extract 0 k=T1:=⟨_,rfl⟩;obtain⟨kk,cT⟩:∃ kk,kk=k+1:=⟨_,rfl⟩;obtain⟨T2,cO⟩:∃ T2,t.extract kk t.size=T2:=⟨_,rfl⟩;have l1:T1.data.toList=t.data.toList.take k:=by rw[←bY,zb9,List.drop_zero,Nat.sub_zero]
  have l2:T2.data.toList=t.data.toList.drop (k+1):=by
   rw[←cO,zb9,cT];exact List.take_of_length_le (by rw[List.length_drop];omega)
  obtain⟨tl,bE⟩:∃ tl,tl=T1.data.toList:=⟨_,rfl⟩;obtain⟨bl,aX⟩:∃ bl,bl=T2.data.toList:=⟨_,rfl⟩;have cQ:T1.size≤9223372036854775807:=by rw[←bY];simp;omega
  have cU:T2.size≤9223372036854775807:=by rw[←cO];simp;omega
  rw[←l1,←l2,←bE,←aX,aQ] at aG;rw[←l1,←l2,←bE,←aX] at aE;have bU:tl.length=k:=by rw[bE,l1,List.length_take];omega
  have cF:bl.length=t.size-(k+1):=by rw[aX,l2,List.length_drop];omega
  have s1:(T1.toList==[48])=decide (tl=[48]):=by rw[zgv,bE]
  have s2:(T2.toList==[48])=decide (bl=[48]):=by rw[zgv,aX]
  have s3:(T2.toList==[49])=decide (bl=[49]):=by rw[zgv,aX]
  have cE:=zco T1 w cQ;have cL:=zco T2 w cU;rw[←bE] at cE;rw[←aX] at cL;have cV:=Aa cE;have cP:=Aa cL;obtain⟨q,hq⟩:∃ q:Int,q=(t.size:Int)-(k:Int)-1:=⟨_,rfl⟩;obtain⟨m,hm⟩:∃ m:Nat,m=t.size-k:=⟨_,rfl⟩;have em:(t.size:Int)-(k:Int)=(m:Int):=by omega
  have dI:(m:Int)-1=q:=by omega
  have dL : -1≤q∧q≤9223372036854775807:=by omega
  have bR:(k<t.size→(bl.length:Int)=q)∧(¬ k<t.size→q = -1∧bl.length=0):=by omega
  have f1:k<t.size→IntKind.i64.wrap ((k:Int)+1)=(kk:Int):=fun h=>by rw[IntWalk.i64_in _ (by omega)];omega
  have bJ:=Aa f1;clear f1;have f2:IntKind.i64.wrap ((t.size:Int)-(k:Int))=(m:Int):=by rw[IntWalk.i64_in _ (by omega)];omega
  have f3:IntKind.i64.wrap ((m:Int)-1)=q:=by rw[IntWalk.i64_in _ (by omega)];omega
  have g1:(0:Int)≤(k:Int):=by omega
  have g2:(k:Int)≤(t.size:Int):=by omega
  have g3:(0:Int)≤(kk:Int):=by omega
  have g4:k<t.size→(kk:Int)≤(t.size:Int):=by omega
  have dJ:t.size≤9223372036854775807:=by omega
  have dK:(1:Int)≤(a.size:Int):=by omega
  rw[aG] at hX;have HX:=Aa hX;clear hX aG bC cI aQ hk cT l1 l2 bE aX bB cE cL hq hm hz0 cQ cU cS;have aP:=Aa bU;have cA:=Aa bR;have cW:=Aa aE;have bF:=ht;unfold absT at bF;clear ht bU cF bR aE
  cases bD
  ·simp only[Bool.false_eq_true,if_false] at bF
   subst bF;have aL:(zaB tl=false∧X=1)∨(zaB tl=true∧Hid (¬ zif false tl)):=by
    cases h:zaB tl
    ·exact .inl ⟨rfl,by rw[HX.out];unfold zbg;rw[if_pos (.inl h)]⟩
    ·refine .inr ⟨rfl,?_⟩
     rintro(h9 | ⟨h9,_⟩)
     ·rw[h] at h9;cases h9
     ·cases h9
   go_enter Tryz.func10,Tryz.ntmps10
   go_wp2_with fail
   refine bZ.out.mono ?_;rintro e w1 ⟨rfl,rfl⟩
   go_wp2_with fail
   refine cV.out.mono ?_;rintro e w1 ⟨rfl,rfl⟩
   rcases aL with⟨aT,hr⟩ | ⟨aT,aA⟩
   ·have HR:=Aa (RetC.eq (w:=w) hr)
    clear hr;go_wp2
    go_ret;exact HR.out
   ·by_cases hfr:k<t.size
    ·have d4:decide (k<t.size)=true:=by simpa using hfr
     have g5:=g4 hfr;have f1:=bJ.out hfr;have aJ:X=zbg tl bl false true:=by rw[HX.out,d4]
     have aH:=Aa aJ;have cC:=Aa hfr;have bK:=cA.out.1 hfr;have aZ:=Aa bK;clear aJ hfr g4 bK
     go_wp2_with fail
     refine cP.out.mono ?_;rintro e w1 ⟨rfl,rfl⟩
     by_cases hbad:zaB bl=false∨bl=[48]∨bl=[49]
     ·have hr:X=1:=by rw[aH.out,zbz aA.out,if_pos ⟨rfl,hbad⟩]
      have HR:=Aa (RetC.eq (w:=w) hr);have hc:zaB bl=false∨(zaB bl=true∧decide (bl=[48])=true)∨(zaB bl=true∧decide (bl=[48])=false∧decide (bl=[49])=true):=by
       rcases hbad with h | h | h
       ·exact .inl h
       ·exact .inr (.inl ⟨by rw[h];rfl,by rw[h];rfl⟩)
       ·exact .inr (.inr ⟨by rw[h];rfl,by rw[h];rfl,by rw[h];rfl⟩)
      clear hr hbad
      rcases hc with b1 | ⟨b1,b2⟩ | ⟨b1,b2,b3⟩
      all_goals
       go_wp2
       go_ret;exact HR.out
     ·have b1:zaB bl=true:=by
       cases h:zaB bl
       ·exact absurd (.inl h) hbad
       ·rfl
      have n2:bl≠[48]:=fun h=>hbad (.inr (.inl h))
      have n3:bl≠[49]:=fun h=>hbad (.inr (.inr h))
      have b2:decide (bl=[48])=false:=decide_eq_false n2;have b3:decide (bl=[49])=false:=decide_eq_false n3;have bQ:=Aa hbad
      by_cases hlg:600<tl.length∨600<bl.length
      ·have hr:X=4:=by rw[aH.out,zbz aA.out,if_neg (fun h=>bQ.out h.2),if_pos hlg]
       have HR:=Aa (RetC.eq (w:=w) hr);have hc:decide ((600:Int)<(k:Int))=true∨(decide ((600:Int)<(k:Int))=false∧decide ((600:Int)<q)=true):=by
        have:=aP.out;have:=aZ.out;simp only[decide_eq_true_eq,decide_eq_false_iff_not]
        omega
       clear hr hlg n2 n3 hbad
       rcases hc with d6 | ⟨d6,d7⟩
       all_goals
        go_wp2
        go_ret;exact HR.out
      ·obtain⟨g,aW⟩:∃ g,Nat.gcd (zaj tl) (zaj bl)=g:=⟨_,rfl⟩
       have bS:(g=1→X=0)∧(g≠1→X=1):=by
        rw[aH.out,zbz aA.out,if_neg (fun h=>bQ.out h.2),if_neg hlg,←aW];exact⟨fun h=>if_neg (fun h9=>h9.2 h),fun h=>if_pos ⟨rfl,h⟩⟩
       have aM:=NumT.ofParts (cW.out cC.out) aT b1 n3;have bV:=zdh b1 n2;have bI:(Lib.decDigits (zaj tl)).length≤600:=by rw[zbx tl aT];omega
       have bM:(Lib.decDigits (zaj bl)).length≤600:=by rw[zbx bl b1];omega
       have d6:decide ((600:Int)<(k:Int))=false:=by have:=aP.out;simp only[decide_eq_false_iff_not];omega
       have d7:decide ((600:Int)<q)=false:=by have:=aZ.out;simp only[decide_eq_false_iff_not];omega
       generalize zaj tl=x at *;generalize zaj bl=y at *;have bH:=Nat.le_trans (zbQ x) bI;have bL:=Nat.le_trans (zbQ y) bM;have cM:=Aa bH;have cK:=Aa bL;have HP:=Aa (zbP t false x y w aM (fun h=>by cases h) bV (by have:=aP.out;have:=aZ.out;omega));have aI:=Aa bS;have bX:=Aa aW;clear aW bS aM bV bI bM bH bL hbad hlg n2 n3
       go_wp2_with fail
       refine HP.out.mono ?_;rintro e w1 ⟨A1,n1,c1,A2,n2,c2,rfl,aO,aN,aY⟩;have aS:Below w1.heap.size w1 ((w1.alloc (.cells #[.bool false,.slice A1 n1 c1] 97)).alloc (.cells #[.bool false,.slice A2 n2 c2] 97)):=((Below.refl _ _).alloc (Nat.le_refl _) _).alloc (by simp) _;have bA:CBlk ((w1.alloc (.cells #[.bool false,.slice A1 n1 c1] 97)).alloc (.cells #[.bool false,.slice A2 n2 c2] 97)) w1.heap.size #[.bool false,.slice A1 n1 c1] 97:=(CBlk.new w1 _ _ _ rfl).below ((Below.refl _ _).alloc (Nat.le_refl _) _) (by simp);have aV:CBlk ((w1.alloc (.cells #[.bool false,.slice A1 n1 c1] 97)).alloc (.cells #[.bool false,.slice A2 n2 c2] 97)) (w1.heap.size+1) #[.bool false,.slice A2 n2 c2] 97:=CBlk.new (w1.alloc (.cells #[.bool false,.slice A1 n1 c1] 97)) _ _ (w1.heap.size+1) (by simp);have bT:n1≤1048576:=by rw[←aO.len];have:=cM.out;omega
       have bW:n2≤1048576:=by rw[←aN.len];have:=cK.out;omega
       replace aO:=aO.later aS
       replace aN:=aN.later aS
       have bN:=Ad aY aS;have bP:=Aa bN;clear aS aY bN;go_upto_region 13 with(fail)
       generalize ((w1.alloc (.cells #[.bool false,.slice A1 n1 c1] 97)).alloc (.cells #[.bool false,.slice A2 n2 c2] 97))=w3 at *;have q0:w3.cell? ⟨w1.heap.size,0,none⟩=some (.bool false):=bA.cell 0;have q1:w3.cell? ⟨w1.heap.size,1,none⟩=some (.slice A1 n1 c1):=bA.cell 1;have q2:w3.cell? ⟨w1.heap.size+1,0,none⟩=some (.bool false):=aV.cell 0;have q3:w3.cell? ⟨w1.heap.size+1,1,none⟩=some (.slice A2 n2 c2):=aV.cell 1;have aU:=zeL A1 A2 n1 c1 n2 c2 x y w3 aO aN bT bW;rw[bX.out] at aU;have HG:=Aa aU;clear aU;clear bA aV aO aN bT bW
       go_wp2_with fail
       refine HG.out.mono ?_;rintro e w4 ⟨A5,n5,c5,rfl,aR,bO⟩;have aD:=bP.out.trans (bO.mono bP.out.size);have aK:=aR.len;clear bX HP bO q0 q1 q2 q3
       by_cases h51:n5=1
       ·subst h51
        obtain⟨v,hv⟩:=List.length_eq_one_iff.1 aK;have cJ:g=v:=by rw[←zak g,hv,zaX]
        subst cJ;rw[hv] at aR;obtain⟨ad,dG,rfl,dC,aC⟩:=aR.rd.cellM (k:=0) (by omega)
        replace aC:w4.cell? ad=some (.int .i64 (g:Int)):=aC
        have dF:=Aa aD
        by_cases aF:g=1
        ·have hr:X=0:=aI.out.1 aF
         have HR:=Aa (RetC.at hr aD);have d8:((g:Int)==1)=true:=by rw[beq_iff_eq];omega
         clear hr aD aF hv aK aI;go_wp2
         go_ret;exact HR.out
        ·have hr:X=1:=aI.out.2 aF
         have HR:=Aa (RetC.at hr aD);have d8:((g:Int)==1)=false:=by rw[beq_eq_false_iff_ne];omega
         clear hr aD aF hv aK aI;go_wp2
         go_ret;exact HR.out
       ·have aF:g≠1:=fun e=>h51 (by rw[←aK,e,zbt (by omega) (by decide)];rfl)
        have hr:X=1:=aI.out.2 aF;have HR:=Aa (RetC.at hr aD);have d8:((n5:Int)==1)=false:=by rw[beq_eq_false_iff_ne];omega
        clear hr aD aF aK aI aR;go_wp2
        go_ret;exact HR.out
    ·have d4:decide (k<t.size)=false:=decide_eq_false hfr
     have aJ:X=zbg tl bl false false:=by rw[HX.out,d4]
     have aH:=Aa aJ;obtain⟨cB,bG⟩:=cA.out.2 hfr;have cH:=Aa bG;subst cB;clear aJ bG hfr g4
     by_cases hlg:600<tl.length
     ·have hr:X=4:=by rw[aH.out,zbz aA.out,if_neg (fun h=>by cases h.1),if_pos (.inl hlg)]
      have HR:=Aa (RetC.eq (w:=w) hr);have d6:decide ((600:Int)<(k:Int))=true:=by have:=aP.out;simp only[decide_eq_true_eq];omega
      clear hr hlg;go_wp2
      go_ret;exact HR.out
     ·have hr:X=0:=by rw[aH.out,zbz aA.out,if_neg (fun h=>by cases h.1),if_neg (by have:=cH.out;omega),if_neg (fun h=>by cases h.1)]
      have HR:=Aa (RetC.eq (w:=w) hr);have d6:decide ((600:Int)<(k:Int))=false:=by have:=aP.out;simp only[decide_eq_false_iff_not];omega
      clear hr hlg;go_wp2
      go_ret;exact HR.out
  ·simp only[if_true] at bF
   have cZ:=bF.symm;clear bF;have aL:(zaB tl=false∧X=1)∨(zaB tl=true∧decide (tl=[48])=true∧X=1)∨(zaB tl=true∧decide (tl=[48])=false∧Hid (¬ zif true tl)):=by
    cases h:zaB tl
    ·exact .inl ⟨rfl,by rw[HX.out];unfold zbg;rw[if_pos (.inl h)]⟩
    ·by_cases hz:tl=[48]
     ·exact .inr (.inl ⟨rfl,decide_eq_true hz,by rw[HX.out];unfold zbg;rw[if_pos (.inr ⟨rfl,hz⟩)]⟩)
     ·refine .inr (.inr ⟨rfl,decide_eq_false hz,?_⟩)
      rintro(h9 | ⟨_,h9⟩)
      ·rw[h] at h9;cases h9
      ·exact hz h9
   go_enter Tryz.func10,Tryz.ntmps10
   go_wp2_with fail
   refine bZ.out.mono ?_;rintro e w1 ⟨rfl,rfl⟩
   go_wp2_with fail
   refine cV.out.mono ?_;rintro e w1 ⟨rfl,rfl⟩
   rcases aL with⟨aT,hr⟩ | ⟨aT,hz,hr⟩ | ⟨aT,hz,aA⟩
   ·have HR:=Aa (RetC.eq (w:=w) hr)
    clear hr;go_wp2
    go_ret;exact HR.out
   ·have HR:=Aa (RetC.eq (w:=w) hr)
    clear hr;go_wp2
    go_ret;exact HR.out
   ·by_cases hfr:k<t.size
    ·have d4:decide (k<t.size)=true:=by simpa using hfr
     have g5:=g4 hfr;have f1:=bJ.out hfr;have aJ:X=zbg tl bl true true:=by rw[HX.out,d4]
     have aH:=Aa aJ;have cC:=Aa hfr;have bK:=cA.out.1 hfr;have aZ:=Aa bK;clear aJ hfr g4 bK
     go_wp2_with fail
     refine cP.out.mono ?_;rintro e w1 ⟨rfl,rfl⟩
     by_cases hbad:zaB bl=false∨bl=[48]∨bl=[49]
     ·have hr:X=1:=by rw[aH.out,zbz aA.out,if_pos ⟨rfl,hbad⟩]
      have HR:=Aa (RetC.eq (w:=w) hr);have hc:zaB bl=false∨(zaB bl=true∧decide (bl=[48])=true)∨(zaB bl=true∧decide (bl=[48])=false∧decide (bl=[49])=true):=by
       rcases hbad with h | h | h
       ·exact .inl h
       ·exact .inr (.inl ⟨by rw[h];rfl,by rw[h];rfl⟩)
       ·exact .inr (.inr ⟨by rw[h];rfl,by rw[h];rfl,by rw[h];rfl⟩)
      clear hr hbad
      rcases hc with b1 | ⟨b1,b2⟩ | ⟨b1,b2,b3⟩
      all_goals
       go_wp2
       go_ret;exact HR.out
     ·have b1:zaB bl=true:=by
       cases h:zaB bl
       ·exact absurd (.inl h) hbad
       ·rfl
      have n2:bl≠[48]:=fun h=>hbad (.inr (.inl h))
      have n3:bl≠[49]:=fun h=>hbad (.inr (.inr h))
      have b2:decide (bl=[48])=false:=decide_eq_false n2;have b3:decide (bl=[49])=false:=decide_eq_false n3;have bQ:=Aa hbad
      by_cases hlg:600<tl.length∨600<bl.length
      ·have hr:X=4:=by rw[aH.out,zbz aA.out,if_neg (fun h=>bQ.out h.2),if_pos hlg]
       have HR:=Aa (RetC.eq (w:=w) hr);have hc:decide ((600:Int)<(k:Int))=true∨(decide ((600:Int)<(k:Int))=false∧decide ((600:Int)<q)=true):=by
        have:=aP.out;have:=aZ.out;simp only[decide_eq_true_eq,decide_eq_false_iff_not]
        omega
       clear hr hlg n2 n3 hbad
       rcases hc with d6 | ⟨d6,d7⟩
       all_goals
        go_wp2
        go_ret;exact HR.out
      ·obtain⟨g,aW⟩:∃ g,Nat.gcd (zaj tl) (zaj bl)=g:=⟨_,rfl⟩
       have bS:(g=1→X=0)∧(g≠1→X=1):=by
        rw[aH.out,zbz aA.out,if_neg (fun h=>bQ.out h.2),if_neg hlg,←aW];exact⟨fun h=>if_neg (fun h9=>h9.2 h),fun h=>if_pos ⟨rfl,h⟩⟩
       have aM:=NumT.ofParts (cW.out cC.out) aT b1 n3;have bV:=zdh b1 n2;have bI:(Lib.decDigits (zaj tl)).length≤600:=by rw[zbx tl aT];omega
       have bM:(Lib.decDigits (zaj bl)).length≤600:=by rw[zbx bl b1];omega
       have d6:decide ((600:Int)<(k:Int))=false:=by have:=aP.out;simp only[decide_eq_false_iff_not];omega
       have d7:decide ((600:Int)<q)=false:=by have:=aZ.out;simp only[decide_eq_false_iff_not];omega
       generalize zaj tl=x at *;generalize zaj bl=y at *;have bH:=Nat.le_trans (zbQ x) bI;have bL:=Nat.le_trans (zbQ y) bM;have cM:=Aa bH;have cK:=Aa bL;have HP:=Aa (zbP t false x y w aM (fun h=>by cases h) bV (by have:=aP.out;have:=aZ.out;omega));have aI:=Aa bS;have bX:=Aa aW;clear aW bS aM bV bI bM bH bL hbad hlg n2 n3
       go_wp2_with fail
       refine HP.out.mono ?_;rintro e w1 ⟨A1,n1,c1,A2,n2,c2,rfl,aO,aN,aY⟩;have aS:Below w1.heap.size w1 ((w1.alloc (.cells #[.bool false,.slice A1 n1 c1] 97)).alloc (.cells #[.bool false,.slice A2 n2 c2] 97)):=((Below.refl _ _).alloc (Nat.le_refl _) _).alloc (by simp) _;have bA:CBlk ((w1.alloc (.cells #[.bool false,.slice A1 n1 c1] 97)).alloc (.cells #[.bool false,.slice A2 n2 c2] 97)) w1.heap.size #[.bool false,.slice A1 n1 c1] 97:=(CBlk.new w1 _ _ _ rfl).below ((Below.refl _ _).alloc (Nat.le_refl _) _) (by simp);have aV:CBlk ((w1.alloc (.cells #[.bool false,.slice A1 n1 c1] 97)).alloc (.cells #[.bool false,.slice A2 n2 c2] 97)) (w1.heap.size+1) #[.bool false,.slice A2 n2 c2] 97:=CBlk.new (w1.alloc (.cells #[.bool false,.slice A1 n1 c1] 97)) _ _ (w1.heap.size+1) (by simp);have bT:n1≤1048576:=by rw[←aO.len];have:=cM.out;omega
       have bW:n2≤1048576:=by rw[←aN.len];have:=cK.out;omega
       replace aO:=aO.later aS
       replace aN:=aN.later aS
       have bN:=Ad aY aS;have bP:=Aa bN;clear aS aY bN;go_upto_region 13 with(fail)
       generalize ((w1.alloc (.cells #[.bool false,.slice A1 n1 c1] 97)).alloc (.cells #[.bool false,.slice A2 n2 c2] 97))=w3 at *;have q0:w3.cell? ⟨w1.heap.size,0,none⟩=some (.bool false):=bA.cell 0;have q1:w3.cell? ⟨w1.heap.size,1,none⟩=some (.slice A1 n1 c1):=bA.cell 1;have q2:w3.cell? ⟨w1.heap.size+1,0,none⟩=some (.bool false):=aV.cell 0;have q3:w3.cell? ⟨w1.heap.size+1,1,none⟩=some (.slice A2 n2 c2):=aV.cell 1;have aU:=zeL A1 A2 n1 c1 n2 c2 x y w3 aO aN bT bW;rw[bX.out] at aU;have HG:=Aa aU;clear aU;clear bA aV aO aN bT bW
       go_wp2_with fail
       refine HG.out.mono ?_;rintro e w4 ⟨A5,n5,c5,rfl,aR,bO⟩;have aD:=bP.out.trans (bO.mono bP.out.size);have aK:=aR.len;clear bX HP bO q0 q1 q2 q3
       by_cases h51:n5=1
       ·subst h51
        obtain⟨v,hv⟩:=List.length_eq_one_iff.1 aK;have cJ:g=v:=by rw[←zak g,hv,zaX]
        subst cJ;rw[hv] at aR;obtain⟨ad,dG,rfl,dC,aC⟩:=aR.rd.cellM (k:=0) (by omega)
        replace aC:w4.cell? ad=some (.int .i64 (g:Int)):=aC
        have dF:=Aa aD
        by_cases aF:g=1
        ·have hr:X=0:=aI.out.1 aF
         have HR:=Aa (RetC.at hr aD);have d8:((g:Int)==1)=true:=by rw[beq_iff_eq];omega
         clear hr aD aF hv aK aI;go_wp2
         go_ret;exact HR.out
        ·have hr:X=1:=aI.out.2 aF
         have HR:=Aa (RetC.at hr aD);have d8:((g:Int)==1)=false:=by rw[beq_eq_false_iff_ne];omega
         clear hr aD aF hv aK aI;go_wp2
         go_ret;exact HR.out
       ·have aF:g≠1:=fun e=>h51 (by rw[←aK,e,zbt (by omega) (by decide)];rfl)
        have hr:X=1:=aI.out.2 aF;have HR:=Aa (RetC.at hr aD);have d8:((n5:Int)==1)=false:=by rw[beq_eq_false_iff_ne];omega
        clear hr aD aF aK aI aR;go_wp2
        go_ret;exact HR.out
    ·have d4:decide (k<t.size)=false:=decide_eq_false hfr
     have aJ:X=zbg tl bl true false:=by rw[HX.out,d4]
     have aH:=Aa aJ;obtain⟨cB,bG⟩:=cA.out.2 hfr;have cH:=Aa bG;subst cB;clear aJ bG hfr g4
     by_cases hlg:600<tl.length
     ·have hr:X=4:=by rw[aH.out,zbz aA.out,if_neg (fun h=>by cases h.1),if_pos (.inl hlg)]
      have HR:=Aa (RetC.eq (w:=w) hr);have d6:decide ((600:Int)<(k:Int))=true:=by have:=aP.out;simp only[decide_eq_true_eq];omega
      clear hr hlg;go_wp2
      go_ret;exact HR.out
     ·have hr:X=0:=by rw[aH.out,zbz aA.out,if_neg (fun h=>by cases h.1),if_neg (by have:=cH.out;omega),if_neg (fun h=>by cases h.1)]
      have HR:=Aa (RetC.eq (w:=w) hr);have d6:decide ((600:Int)<(k:Int))=false:=by have:=aP.out;simp only[decide_eq_false_iff_not];omega
      clear hr hlg;go_wp2
      go_ret;exact HR.out
end
section
open Go.RowKit
theorem znR:∀ (l:List Bool) (i:Nat),l[i]? = some false→(l.set i true).countP (fun b => !b)+1=l.countP (fun b => !b)
 | [],_,h=>by simp at h
 | b :: l,0,h=>by
  simp at h
  subst h;simp
 | b :: l,i+1,h=>by
  have h2:=znR l i (by simpa using h);rw[List.set_cons_succ,List.countP_cons,List.countP_cons];omega
theorem zkR:∀ (l:List Bool),l.countP (fun b => !b)=0→∀ (i:Nat) (b:Bool),l[i]? = some b→b=true
 | [],_,i,b,h=>by simp at h
 | c :: l,h0,i,b,h=>by
  rw[List.countP_cons] at h0
  cases i with
  | zero=>
   simp at h
   subst h
   cases c
   ·simp at h0
   ·rfl
  | succ i=>exact zkR l (by omega) i b (by simpa using h)
theorem zmm {P:Program} {ops:Array Oper} {Q:Exit→Act→World→Prop} (Inv:Array Bool→Act→World→Prop)
  (hstep:∀ (i:Nat) (o:Oper) (listed:Array Bool) (a:Act) (w:World),ops[i]? = some o→Inv listed a w→listed[i]? = some false →
   (∀ e ∈ o.after,Region.binds .any e=true→listed.getD e.on false=true)→wpOp P ops Q i (fun a' w'=>Inv (listed.setIfInBounds i true) a' w') a w)
  (hdone:∀ (listed:Array Bool) (a:Act) (w:World),Inv listed a w→Region.ready .any ops listed=[]→Q .normal a w) :
  ∀ (fuel:Nat) (listed:Array Bool) (a:Act) (w:World),listed.toList.countP (fun b => !b)≤fuel→Inv listed a w→wpAny P .any ops Q fuel listed a w:=by
 have aC:∀ (listed:Array Bool) (i:Nat),listed.getD i true=false→listed[i]? = some false:=by
  intro listed i h;rw[Array.getD_eq_getD_getElem?] at h
  cases hl:listed[i]? with
  | none=>rw[hl] at h;cases h
  | some b=>rw[hl] at h;simp at h;rw[h]
 intro fuel
 induction fuel with
 | zero=>
  intro listed a w hc hI;have hr:Region.ready .any ops listed=[]:=by
   cases hq:Region.ready .any ops listed with
   | nil=>rfl
   | cons j l=>
    have hj:j ∈ Region.ready .any ops listed:=by rw[hq];exact List.mem_cons_self
    have h1:=aC listed j (mem_ready.1 hj).1;have h2:=zkR listed.toList (by omega) j false (by simpa using h1)
    cases h2
  exact⟨hr,hdone listed a w hI hr⟩
 | succ fuel ih=>
  intro listed a w hc hI;refine⟨fun hr=>hdone listed a w hI hr,fun i hi => ?_⟩;obtain⟨hu,o,ho,aA⟩:=mem_ready.1 hi;have h1:=aC listed i hu;refine wpOp_mono (fun a' w' h=>ih _ a' w' ?_ h) (hstep i o listed a w ho hI h1 aA);have h3:=znR listed.toList i (by simpa using h1);rw[Array.toList_setIfInBounds];omega
theorem zlA{ops:Array Oper}{listed:Array Bool}(htop:∀ (i:Nat) (o:Oper),ops[i]? = some o→∀ e ∈ o.after,e.on<i)(hr:Region.ready .any ops listed=[]) :
  ∀ (n i:Nat),i<n→i<ops.size→∀ b,listed[i]? = some b→b=true:=by
 intro n
 induction n with
 | zero=>intro i h;omega
 | succ n ih=>
  intro i hi hs b hb
  cases b with
  | true=>rfl
  | false=>
   exfalso
   have aA:i<listed.size:=(Array.getElem?_eq_some_iff.1 hb).1;have hm:i ∈ Region.ready .any ops listed:=by
    refine mem_ready.2 ⟨by rw[Array.getD_eq_getD_getElem?,hb];rfl,ops[i],Array.getElem?_eq_getElem hs,fun e he _ => ?_⟩;have h1:=htop i ops[i] (Array.getElem?_eq_getElem hs) e he;have h2:listed[e.on]? = some listed[e.on]:=Array.getElem?_eq_getElem (by omega);have h3:=ih e.on (by omega) (by omega) _ h2;rw[Array.getD_eq_getD_getElem?,h2,h3];rfl
   rw[hr] at hm
   cases hm
theorem zrK{ops:Array Oper}(h:(List.range ops.size).all (fun i=>((ops[i]?).map (fun o=>o.after.toList.all (fun e=>decide (e.on<i)))).getD true)=true) :
  ∀ (i:Nat) (o:Oper),ops[i]? = some o→∀ e ∈ o.after,e.on<i:=by
 intro i o ho e he;have hi:i<ops.size:=(Array.getElem?_eq_some_iff.1 ho).1;have h1:=List.all_eq_true.1 h i (List.mem_range.2 hi);rw[ho] at h1;have h2:=List.all_eq_true.1 h1 e (by simpa using he)
 simpa using h2
theorem zbU{P:Program}{id:Nat}{ops:Array Oper}{Q:Exit→Act→World→Prop}{a:Act}{w:World}(hm:P.follows .mixedOrders=true)(Inv:Array Bool→Act→World→Prop)
 (htop:(List.range ops.size).all (fun i=>((ops[i]?).map (fun o=>o.after.toList.all (fun e=>decide (e.on<i)))).getD true)=true)
 (h0:Inv (Array.replicate ops.size false) a w.drew)
 (hstep:∀ (i:Nat) (o:Oper) (listed:Array Bool) (a:Act) (w:World),ops[i]? = some o→Inv listed a w→listed[i]? = some false →
   (∀ e ∈ o.after,Region.binds .any e=true→listed.getD e.on false=true)→wpOp P ops Q i (fun a' w'=>Inv (listed.setIfInBounds i true) a' w') a w)
 (hdone:∀ (listed:Array Bool) (a:Act) (w:World),Inv listed a w→(∀ i b,i<ops.size→listed[i]? = some b→b=true)→Q .normal a w) :
  (Code.region id ops true).wp P Q a w:=by
 refine wp_region_any hm (zmm Inv hstep (fun listed a w hI hr=>hdone listed a w hI fun i b hi hb=>zlA (zrK htop) hr (i+1) i (by omega) hi b hb) _ _ _ _ ?_ h0);rw[Array.toList_replicate];exact Nat.le_trans List.countP_le_length (by rw[List.length_replicate];exact Nat.le_refl _)
theorem zas{P:Program}{ops:Array Oper}{Q:Exit→Act→World→Prop}{Inv:Array Bool→Act→World→Prop}{i:Nat}{o:Oper}{listed:Array Bool}{a:Act}{w:World}(ho:ops[i]? = some o)
 (h:∀ K':Act→World→Prop,Hid (∀ a' w',Inv (listed.setIfInBounds i true) a' w'→K' a' w')→if Region.wanted o (yielded ops a.tmps)=true then Oper.wp P o a w K' Q else K' (a.put o.dst undef) w) :
  wpOp P ops Q i (fun a' w'=>Inv (listed.setIfInBounds i true) a' w') a w:=wpOp_step ho fun K' hK=>h K' (Aa hK)
end
section
open Go.RowKit Dn
def numQ (p:Q):Q:=⟨p.neg,p.top,1⟩
theorem NumQ.top_eq {a:ByteArray} {p:Q} (h:NumQ a p):a.data.toList=sgnT p.neg (Lib.decDigits p.top)++zcT p.bot:=h.num
theorem zp4 (a:ByteArray) (p:Q) (w:World) (h:NumQ a p) (ha:a.size≤1000000) :
  Calls Tryz.prog 69 #[.string a] w fun e w'=>(∃ s:ByteArray,e = .returned (.string s)∧NumQ s (numQ p)∧s.size≤a.size)∧w=w':=by
 obtain⟨k,hk⟩:∃ k,k=(sgnT p.neg (Lib.decDigits p.top)).length:=⟨_,rfl⟩;obtain⟨p1,p2,p3⟩:=zdX (t:=a) (l:=sgnT p.neg (Lib.decDigits p.top)) h.num hk;have aA:zbB a.data.toList=k:=by rw[h.top_eq,zcI _ _ (zb4 (zaF p.top)),hk]
 have aE:k≤a.size:=by
  have:=zmZ a.data.toList;rw[aA,Array.length_toList] at this;exact this
 have aC:=fun W=>zbS a W (by omega)
 simp only[aA] at aC
 have aD:=Aa aC;have HN:Hid (NumQ (a.extract 0 k) (numQ p)):=by
  refine⟨?_,Nat.one_pos,Nat.gcd_one_right _,h.2.2.2⟩;rw[p1,zaZ];show _=_++(if (1:Nat)=1 then[] else _)
  rw[if_pos rfl,List.append_nil];rfl
 have HS:Hid ((a.extract 0 k).size≤a.size):=by show(a.extract 0 k).size≤a.size;rw[ByteArray.size_extract];omega
 clear aC aA p1 p2 p3 hk h;go_enter Tryz.func69,Tryz.ntmps69
 go_wp2_with fail
 refine(aD.out w).mono ?_;rintro e w4 ⟨rfl,rfl⟩;go_wp2
 go_ret;exact⟨⟨_,rfl,HN.out,HS.out⟩,rfl⟩
theorem zqe(a:ByteArray)(p:Q)(w:World)(h:NumQ a p)(ha:a.size≤1000000) :
  Calls Tryz.prog 70 #[.string a] w fun e w'=>(∃ s:ByteArray,e = .returned (.string s)∧s.size=(Lib.decDigits p.bot).length)∧w=w':=by
 obtain⟨k,hk⟩:∃ k,k=(sgnT p.neg (Lib.decDigits p.top)).length:=⟨_,rfl⟩;obtain⟨p1,p2,p3⟩:=zdX (t:=a) (l:=sgnT p.neg (Lib.decDigits p.top)) h.num hk;have aD:zbB a.data.toList=k:=by rw[h.top_eq,zcI _ _ (zb4 (zaF p.top)),hk]
 have aC:=fun W=>zbS a W (by omega)
 simp only[aD] at aC
 have aF:=Aa aC
 by_cases hy:p.bot=1
 ·have aG:=p2 hy
  have dk:((k:Int)==(a.size:Int))=true:=by rw[beq_iff_eq];omega
  have HR:Hid ((⟨#[49]⟩:ByteArray).size=(Lib.decDigits p.bot).length):=by show _=_;rw[hy,Dec.dec_lt (by omega)];rfl
  clear aC aD p1 p2 p3 hk h aG hy;go_enter Tryz.func70,Tryz.ntmps70
  go_wp2_with fail
  refine(aF.out w).mono ?_;rintro e w4 ⟨rfl,rfl⟩;go_wp2
  go_ret;exact⟨⟨_,rfl,HR.out⟩,rfl⟩
 ·obtain⟨aI,aA,aH⟩:=p3 hy
  have dk:((k:Int)==(a.size:Int))=false:=by rw[beq_eq_false_iff_ne];omega
  obtain⟨kk,aE⟩:∃ kk,kk=k+1:=⟨_,rfl⟩;have ew:IntKind.i64.wrap ((k:Int)+1)=(kk:Int):=by rw[IntWalk.i64_in _ (by omega)];omega
  have aJ:(0:Int)≤(kk:Int)∧(kk:Int)≤(a.size:Int):=by omega
  have HR:Hid ((a.extract kk a.size).size=(Lib.decDigits p.bot).length):=by
   show _=_
   rw[aE,←aA,Array.length_toList];rfl
  clear aC aD p1 p2 p3 hk h aA aH hy aE;go_enter Tryz.func70,Tryz.ntmps70
  go_wp2_with fail
  refine(aF.out w).mono ?_;rintro e w4 ⟨rfl,rfl⟩;go_wp2
  go_ret;exact⟨⟨_,rfl,HR.out⟩,rfl⟩
end
end Go.Proofs.YtbkgkoenppkhpaaGreatDoor
namespace Go.Proofs.YtbkgkoenppkhpaaGreatDoor.Cs
def tanAt (n bits:Nat):Nat→Nat × Nat × Nat
 | 0=>(0,0,2^bits/n)
 | k+1=>match tanAt n bits k with
  | (a,b,p)=>if k%2=0 then(a+p/(2*k+1),b,p/(n*n)) else(a,b+p/(2*k+1),p/(n*n))
def tanVal (n bits k:Nat):Nat:=(tanAt n bits k).1-(tanAt n bits k).2.1
structure TanOk (n bits k:Nat):Prop where
 zero:(tanAt n bits k).2.2=0
 pos:∀ j,j<k→0<(tanAt n bits j).2.2
 le:(tanAt n bits k).2.1≤(tanAt n bits k).1
theorem tan_bound(n bits:Nat)(hn:2≤n):∀ k,(tanAt n bits k).1+(tanAt n bits k).2.1+2*(tanAt n bits k).2.2≤2*2^bits
 | 0=>by
  have h:2^bits/n≤2^bits:=Nat.div_le_self _ _;simp only[tanAt];omega
 | k+1=>by
  have ih:=tan_bound n bits hn k;simp only[tanAt]
  generalize tanAt n bits k=s at ih ⊢;obtain⟨a,b,p⟩:=s
  dsimp only at ih ⊢
  have h1:p/(2*k+1)≤p:=Nat.div_le_self _ _;have h2:p/(n*n)≤p/2:=Nat.div_le_div_left (Nat.le_trans (by omega:2≤2*1) (Nat.mul_le_mul hn (by omega))) (by omega)
  split<;>(dsimp only;omega)
def circleOf (bits k l:Nat):Nat:=tanVal 5 bits k*32-tanVal 239 bits l*8
def serAt (sq bits:Nat):Nat→Nat × Nat × Nat
 | 0=>(0,0,2^bits)
 | n+1=>match serAt sq bits n with
  | (a,b,t)=>if n%2=0 then(a+t,b,t*sq/2^bits/((2*n+1)*(2*n+2))) else(a,b+t,t*sq/2^bits/((2*n+1)*(2*n+2)))
def zrJ (c top bot:Nat):Nat:=c*top/bot
def sqOf (c top bot bits:Nat):Nat:=zrJ c top bot*zrJ c top bot/2^bits
def serVal (sq bits k:Nat):Nat:=(serAt sq bits k).1-(serAt sq bits k).2.1
structure SerOk (sq bits k M:Nat):Prop where
 zero:(serAt sq bits k).2.2=0
 pos:∀ j,j<k→0<(serAt sq bits j).2.2
 le:(serAt sq bits k).2.1≤(serAt sq bits k).1
 bound:∀ j,j<k+1→(serAt sq bits j).1<2^M∧(serAt sq bits j).2.1<2^M∧(serAt sq bits j).2.2<2^M
theorem tan5:TanOk 5 112 24:=⟨by decide +kernel,by decide +kernel,by decide +kernel⟩
theorem zr3:TanOk 239 112 7:=⟨by decide +kernel,by decide +kernel,by decide +kernel⟩
theorem ser8:SerOk (sqOf (circleOf 112 24 7) 1 8 112) 112 15 192:=⟨by decide +kernel,by decide +kernel,by decide +kernel,by decide +kernel⟩
theorem zri:tanVal 239 112 7*8≤tanVal 5 112 24*32:=by decide +kernel
structure AcOk (top bot bits k l m scale low:Nat):Prop where
 a:TanOk 5 bits k
 b:TanOk 239 bits l
 c:tanVal 239 bits l*8≤tanVal 5 bits k*32
 s:∃ M,M≤1048576∧SerOk (sqOf (circleOf bits k l) top bot bits) bits m M
 big:2^64≤serVal (sqOf (circleOf bits k l) top bot bits) bits m
 lo:(serVal (sqOf (circleOf bits k l) top bot bits) bits m-2^64)*scale/2^bits=low
 hi:(serVal (sqOf (circleOf bits k l) top bot bits) bits m+2^64)*scale/2^bits=low
theorem ac8:AcOk 1 8 112 24 7 15 1000 707:=⟨tan5,zr3,zri,⟨192,by decide,ser8⟩,by decide +kernel,by decide +kernel,by decide +kernel⟩
end Go.Proofs.YtbkgkoenppkhpaaGreatDoor.Cs
