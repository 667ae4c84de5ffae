/- Contract of the reference's Check of whatever text. -/
import Derived.Test.YteajibbphcfmeaaGreatDoorVRb17
import Derived.Test.YteajibbphcfmeaaGreatDoorVPr4
import Derived.Deep.RegionHeld3
import Derived.Test.YteajibbphcfmeaaGreatDoorVRtx
namespace Go.Proofs.YteajibbphcfmeaaGreatDoor
open Go.RowKit Dn
def RetC (w:World) (x:Int) (e:Ending) (w':World):Prop:=e = .returned (.int .i64 x)∧Below w.heap.size w w'
theorem RetC.same (w:World) (x:Int):RetC w x (.returned (.int .i64 x)) w:=⟨rfl,Below.refl _ _⟩
theorem RetC.eq {w:World} {x y:Int} (h:x=y):RetC w x (.returned (.int .i64 y)) w:=⟨by rw [h],Below.refl _ _⟩
theorem RetC.at {w w':World} {x y:Int} (h:x=y) (hb:Below w.heap.size w w'):RetC w x (.returned (.int .i64 y)) w':=⟨by rw [h],hb⟩
def zgB (neg:Bool) (tl:List UInt8):Prop:=zaz tl=false∨(neg=true∧tl=[48])
theorem zbh {neg fr:Bool} {tl bl:List UInt8} (h:¬ zgB neg tl):zbb tl bl neg fr=if fr=true∧(zaz bl=false∨bl=[48]∨bl=[49]) then 1 else if 600<tl.length∨600<bl.length then 4 else if fr=true∧Nat.gcd (zai tl) (zai bl)≠1 then 1 else 0:=by
 unfold zbb
 exact if_neg h
theorem ze0 (s:ByteArray) (l:List UInt8):(s.toList==l)=decide (s.data.toList=l):=by
 rw [ByteArray.toList_eq,Bool.eq_iff_iff]
 simp
theorem zjw (a:ByteArray) (h0:0<a.size) (neg:Bool) (hn:(((a[0]'h0).toNat:Int)==45)=neg) :
  a.data.toList=sgnT neg (absT a neg).data.toList∧(neg=false→(absT a neg).data.toList.head? ≠ some 45):=by
 have aC:a.data.toList.length=a.size:=by simp
 have aA:a.data.toList=(a[0]'h0) :: a.data.toList.drop 1:=by
  have h9:0<a.data.toList.length:=by omega
  have e:=List.drop_eq_getElem_cons h9
  rw [List.drop_zero] at e
  exact e
 cases neg
 ·refine ⟨rfl,fun _ => ?_⟩
  show a.data.toList.head? ≠ some 45
  rw [aA]
  rw [beq_eq_false_iff_ne] at hn
  intro e
  have:a[0]'h0=45:=by simpa using e
  exact hn (by rw [this];rfl)
 ·refine ⟨?_,fun h=>by cases h⟩
  have hc:a[0]'h0=45:=by
   rw [beq_iff_eq] at hn
   exact UInt8.toNat_inj.1 (by have:((45:UInt8).toNat:Int)=45:=rfl;omega)
  show a.data.toList=45 :: (a.extract 1 a.size).data.toList
  rw [zbT,List.take_of_length_le (by rw [List.length_drop];omega),←hc]
  exact aA
theorem NumT.ofParts {t:ByteArray} {tl bl:List UInt8} (ht:t.data.toList=tl++47 :: bl) (h1:zaz tl=true) (h2:zaz bl=true) (h49:bl≠[49]) :
  NumT t false (zai tl) (zai bl):=by
 unfold NumT zcm sgnT
 have aA:zai bl≠1:=fun e=>h49 (by rw [←zbi bl h2,e];decide +kernel)
 rw [zbi tl h1,zbi bl h2,if_neg aA]
 exact ht
theorem zhK {l:List UInt8} (h:zbp l<l.length):l=l.take (zbp l)++47 :: l.drop (zbp l+1):=by
 rcases zcS l with h1 | ⟨t,r,rfl,h1⟩
 ·rw [zbO h1] at h
  omega
 ·rw [zcg h1,List.take_left,←List.drop_drop,List.drop_left]
  rfl
set_option maxHeartbeats 8000000 in
set_option maxRecDepth 100000 in
theorem zdq (a:ByteArray) (w:World) (ha:a.size≤9223372036854775807) :
  Calls Tryz.prog 10 #[.string a] w (RetC w (zam a.data.toList)):=by
 obtain ⟨X,hX⟩:∃ X,X=zam a.data.toList:=⟨_,rfl⟩
 rw [←hX]
 by_cases hz0:a.size=0
 ·have hl:a.data.toList=[]:=List.eq_nil_of_length_eq_zero (by simpa using hz0)
  have h1:X=1:=by rw [hX,hl];rfl
  obtain ⟨k,hk⟩:∃ k,k=zbp a.data.toList:=⟨_,rfl⟩
  have dA:k=0:=by rw [hk,hl];rfl
  have cJ:=zbL a w (by omega)
  rw [←hk] at cJ
  have bZ:=Lib.hid cJ
  obtain ⟨T1,bN⟩:∃ T1,a.extract 0 k=T1:=⟨_,rfl⟩
  have cC:=zbY T1 w (by rw [←bN];simp;omega)
  have cV:zaz T1.data.toList=false:=by
   have:T1.data.toList=[]:=by rw [←bN,zbT,hl];simp
   rw [this]
   rfl
  rw [cV] at cC
  have dD:=Lib.hid cC
  have g1:(0:Int)≤(k:Int):=by omega
  have g2:(k:Int)≤(a.size:Int):=by omega
  have HR:=Lib.hid (RetC.same w 1)
  have d0:decide (0<a.size)=false:=by simp only [decide_eq_false_iff_not];omega
  subst h1
  clear hX hl cJ cC cV hk dA hz0
  go_enter Tryz.func10,Tryz.ntmps10
  go_wp2_with fail
  refine bZ.out.mono ?_
  rintro e w1 ⟨rfl,rfl⟩
  go_wp2_with fail
  refine dD.out.mono ?_
  rintro e w1 ⟨rfl,rfl⟩
  go_wp2
  go_ret
  exact HR.out
 ·have h0:0<a.size:=by omega
  obtain ⟨bD,cW⟩:∃ bD,(((a[0]'h0).toNat:Int)==45)=bD:=⟨_,rfl⟩
  obtain ⟨aZ,cM⟩:=zjw a h0 bD cW
  obtain ⟨c0,dE⟩:∃ c0:Nat,(a[0]'h0).toNat=c0:=⟨_,rfl⟩
  rw [dE] at cW
  have d0:decide (0<a.size)=true:=by simpa using h0
  have cO:=zjO a bD
  obtain ⟨t,ht⟩:∃ t,t=absT a bD:=⟨_,rfl⟩
  rw [←ht] at aZ cM cO
  obtain ⟨k,hk⟩:∃ k,k=zbp t.data.toList:=⟨_,rfl⟩
  have aG:=zi0 aZ cM
  rw [←hk] at aG
  have aR:t.data.toList.length=t.size:=by simp
  have dJ:k≤t.size:=by
   rw [hk,←aR]
   rcases zcS t.data.toList with h1 | ⟨u,r,h2,h1⟩
   ·rw [zbO h1];exact Nat.le_refl _
   ·rw [h2,zcg h1,List.length_append];omega
  have aF:k<t.size→t.data.toList=t.data.toList.take k++47 :: t.data.toList.drop (k+1):=by
   intro h
   have:=zhK (l:=t.data.toList) (by rw [←hk,aR];exact h)
   rw [←hk] at this
   exact this
  have aV:=zbL t w (by omega)
  rw [←hk] at aV
  have bZ:=Lib.hid aV
  obtain ⟨T1,bN⟩:∃ T1,t.extract 0 k=T1:=⟨_,rfl⟩
  obtain ⟨kk,cQ⟩:∃ kk,kk=k+1:=⟨_,rfl⟩
  obtain ⟨T2,cS⟩:∃ T2,t.extract kk t.size=T2:=⟨_,rfl⟩
  have l1:T1.data.toList=t.data.toList.take k:=by rw [←bN,zbT,List.drop_zero,Nat.sub_zero]
  have l2:T2.data.toList=t.data.toList.drop (k+1):=by
   rw [←cS,zbT,cQ]
   exact List.take_of_length_le (by rw [List.length_drop];omega)
  obtain ⟨tl,bE⟩:∃ tl,tl=T1.data.toList:=⟨_,rfl⟩
  obtain ⟨bl,bC⟩:∃ bl,bl=T2.data.toList:=⟨_,rfl⟩
  have cU:T1.size≤9223372036854775807:=by rw [←bN];simp;omega
  have cP:T2.size≤9223372036854775807:=by rw [←cS];simp;omega
  rw [←l1,←l2,←bE,←bC,aR] at aG
  rw [←l1,←l2,←bE,←bC] at aF
  have bU:tl.length=k:=by rw [bE,l1,List.length_take];omega
  have cG:bl.length=t.size - (k+1):=by rw [bC,l2,List.length_drop];omega
  have s1:(T1.toList==[48])=decide (tl=[48]):=by rw [ze0,bE]
  have s2:(T2.toList==[48])=decide (bl=[48]):=by rw [ze0,bC]
  have s3:(T2.toList==[49])=decide (bl=[49]):=by rw [ze0,bC]
  have cE:=zbY T1 w cU
  have cL:=zbY T2 w cP
  rw [←bE] at cE
  rw [←bC] at cL
  have cR:=Lib.hid cE
  have cY:=Lib.hid cL
  obtain ⟨q,hq⟩:∃ q:Int,q=(t.size:Int) - (k:Int) - 1:=⟨_,rfl⟩
  obtain ⟨m,hm⟩:∃ m:Nat,m=t.size - k:=⟨_,rfl⟩
  have em:(t.size:Int) - (k:Int)=(m:Int):=by omega
  have dI:(m:Int) - 1=q:=by omega
  have dH : -1≤q∧q≤9223372036854775807:=by omega
  have bL:(k<t.size→(bl.length:Int)=q)∧(¬ k<t.size→q = -1∧bl.length=0):=by omega
  have f1:k<t.size→IntKind.i64.wrap ((k:Int)+1)=(kk:Int):=fun h=>by rw [IntWalk.i64_in _ (by omega)];omega
  have bG:=Lib.hid f1
  clear f1
  have f2:IntKind.i64.wrap ((t.size:Int) - (k:Int))=(m:Int):=by rw [IntWalk.i64_in _ (by omega)];omega
  have f3:IntKind.i64.wrap ((m:Int) - 1)=q:=by rw [IntWalk.i64_in _ (by omega)];omega
  have g1:(0:Int)≤(k:Int):=by omega
  have g2:(k:Int)≤(t.size:Int):=by omega
  have g3:(0:Int)≤(kk:Int):=by omega
  have g4:k<t.size→(kk:Int)≤(t.size:Int):=by omega
  have dK:t.size≤9223372036854775807:=by omega
  have dG:(1:Int)≤(a.size:Int):=by omega
  rw [aG] at hX
  have HX:=Lib.hid hX
  clear hX aG aZ cM aR hk cQ l1 l2 bE bC aV cE cL hq hm hz0 cU cP cO
  have aP:=Lib.hid bU
  have cA:=Lib.hid bL
  have cT:=Lib.hid aF
  have bF:=ht
  unfold absT at bF
  clear ht bU cG bL aF
  cases bD
  ·simp only [Bool.false_eq_true,if_false] at bF
   subst bF
   have aM:(zaz tl=false∧X=1)∨(zaz tl=true∧Hid (¬ zgB false tl)):=by
    cases h:zaz tl
    ·exact .inl ⟨rfl,by rw [HX.out];unfold zbb;rw [if_pos (.inl h)]⟩
    ·refine .inr ⟨rfl,?_⟩
     rintro (h9 | ⟨h9,_⟩)
     ·rw [h] at h9;cases h9
     ·cases h9
   go_enter Tryz.func10,Tryz.ntmps10
   go_wp2_with fail
   refine bZ.out.mono ?_
   rintro e w1 ⟨rfl,rfl⟩
   go_wp2_with fail
   refine cR.out.mono ?_
   rintro e w1 ⟨rfl,rfl⟩
   rcases aM with ⟨aT,hr⟩ | ⟨aT,aA⟩
   ·have HR:=Lib.hid (RetC.eq (w:=w) hr)
    clear hr
    go_wp2
    go_ret
    exact HR.out
   ·by_cases hfr:k<t.size
    ·have d4:decide (k<t.size)=true:=by simpa using hfr
     have g5:=g4 hfr
     have f1:=bG.out hfr
     have aK:X=zbb tl bl false true:=by rw [HX.out,d4]
     have aI:=Lib.hid aK
     have cN:=Lib.hid hfr
     have bY:=cA.out.1 hfr
     have aU:=Lib.hid bY
     clear aK hfr g4 bY
     go_wp2_with fail
     refine cY.out.mono ?_
     rintro e w1 ⟨rfl,rfl⟩
     by_cases hbad:zaz bl=false∨bl=[48]∨bl=[49]
     ·have hr:X=1:=by rw [aI.out,zbh aA.out,if_pos ⟨rfl,hbad⟩]
      have HR:=Lib.hid (RetC.eq (w:=w) hr)
      have hc:zaz bl=false∨(zaz bl=true∧decide (bl=[48])=true)∨(zaz bl=true∧decide (bl=[48])=false∧decide (bl=[49])=true):=by
       rcases hbad with h | h | h
       ·exact .inl h
       ·exact .inr (.inl ⟨by rw [h];rfl,by rw [h];rfl⟩)
       ·exact .inr (.inr ⟨by rw [h];rfl,by rw [h];rfl,by rw [h];rfl⟩)
      clear hr hbad
      rcases hc with b1 | ⟨b1,b2⟩ | ⟨b1,b2,b3⟩
      all_goals
       go_wp2
       go_ret
       exact HR.out
     ·have b1:zaz bl=true:=by
       cases h:zaz bl
       ·exact absurd (.inl h) hbad
       ·rfl
      have n2:bl≠[48]:=fun h=>hbad (.inr (.inl h))
      have n3:bl≠[49]:=fun h=>hbad (.inr (.inr h))
      have b2:decide (bl=[48])=false:=decide_eq_false n2
      have b3:decide (bl=[49])=false:=decide_eq_false n3
      have bH:=Lib.hid hbad
      by_cases hlg:600<tl.length∨600<bl.length
      ·have hr:X=4:=by rw [aI.out,zbh aA.out,if_neg (fun h=>bH.out h.2),if_pos hlg]
       have HR:=Lib.hid (RetC.eq (w:=w) hr)
       have hc:decide ((600:Int)<(k:Int))=true∨(decide ((600:Int)<(k:Int))=false∧decide ((600:Int)<q)=true):=by
        have:=aP.out
        have:=aU.out
        simp only [decide_eq_true_eq,decide_eq_false_iff_not]
        omega
       clear hr hlg n2 n3 hbad
       rcases hc with d6 | ⟨d6,d7⟩
       all_goals
        go_wp2
        go_ret
        exact HR.out
      ·obtain ⟨g,bB⟩:∃ g,Nat.gcd (zai tl) (zai bl)=g:=⟨_,rfl⟩
       have bX:(g=1→X=0)∧(g≠1→X=1):=by
        rw [aI.out,zbh aA.out,if_neg (fun h=>bH.out h.2),if_neg hlg,←bB]
        exact ⟨fun h=>if_neg (fun h9=>h9.2 h),fun h=>if_pos ⟨rfl,h⟩⟩
       have aO:=NumT.ofParts (cT.out cN.out) aT b1 n3
       have bW:=zcL b1 n2
       have bO:(Lib.decDigits (zai tl)).length≤600:=by rw [zbi tl aT];omega
       have bR:(Lib.decDigits (zai bl)).length≤600:=by rw [zbi bl b1];omega
       have d6:decide ((600:Int)<(k:Int))=false:=by have:=aP.out;simp only [decide_eq_false_iff_not];omega
       have d7:decide ((600:Int)<q)=false:=by have:=aU.out;simp only [decide_eq_false_iff_not];omega
       generalize zai tl=x at *
       generalize zai bl=y at *
       have bJ:=Nat.le_trans (zby x) bO
       have bP:=Nat.le_trans (zby y) bR
       have cH:=Lib.hid bJ
       have cI:=Lib.hid bP
       have HP:=Lib.hid (zet t false x y w aO (fun h=>by cases h) bW (by have:=aP.out;have:=aU.out;omega))
       have aH:=Lib.hid bX
       have bT:=Lib.hid bB
       clear bB bX aO bW bO bR bJ bP hbad hlg n2 n3
       go_wp2_with fail
       refine HP.out.mono ?_
       rintro e w1 ⟨A1,n1,c1,A2,n2,c2,rfl,aJ,aL,aY⟩
       have aQ:Below w1.heap.size w1 ((w1.alloc (.cells #[.bool false,.slice A1 n1 c1] 84)).alloc (.cells #[.bool false,.slice A2 n2 c2] 84)):=((Below.refl _ _).alloc (Nat.le_refl _) _).alloc (by simp) _
       have aX:CBlk ((w1.alloc (.cells #[.bool false,.slice A1 n1 c1] 84)).alloc (.cells #[.bool false,.slice A2 n2 c2] 84)) w1.heap.size #[.bool false,.slice A1 n1 c1] 84:=(CBlk.new w1 _ _ _ rfl).below ((Below.refl _ _).alloc (Nat.le_refl _) _) (by simp)
       have aW:CBlk ((w1.alloc (.cells #[.bool false,.slice A1 n1 c1] 84)).alloc (.cells #[.bool false,.slice A2 n2 c2] 84)) (w1.heap.size+1) #[.bool false,.slice A2 n2 c2] 84:=CBlk.new (w1.alloc (.cells #[.bool false,.slice A1 n1 c1] 84)) _ _ (w1.heap.size+1) (by simp)
       have bK:n1≤1048576:=by rw [←aJ.len];have:=cH.out;omega
       have bQ:n2≤1048576:=by rw [←aL.len];have:=cI.out;omega
       replace aJ:=aJ.later aQ
       replace aL:=aL.later aQ
       have bV:=aY.trans (aQ.mono aY.size)
       have bI:=Lib.hid bV
       clear aQ aY bV
       go_upto_region 13 with (fail)
       generalize ((w1.alloc (.cells #[.bool false,.slice A1 n1 c1] 84)).alloc (.cells #[.bool false,.slice A2 n2 c2] 84))=w3 at *
       have q0:w3.cell? ⟨w1.heap.size,0,none⟩=some (.bool false):=aX.cell 0
       have q1:w3.cell? ⟨w1.heap.size,1,none⟩=some (.slice A1 n1 c1):=aX.cell 1
       have q2:w3.cell? ⟨w1.heap.size+1,0,none⟩=some (.bool false):=aW.cell 0
       have q3:w3.cell? ⟨w1.heap.size+1,1,none⟩=some (.slice A2 n2 c2):=aW.cell 1
       have bA:=zeU A1 A2 n1 c1 n2 c2 x y w3 aJ aL bK bQ
       rw [bT.out] at bA
       have HG:=Lib.hid bA
       clear bA
       clear aX aW aJ aL bK bQ
       go_wp2_with fail
       refine HG.out.mono ?_
       rintro e w4 ⟨A5,n5,c5,rfl,aS,bM⟩
       have aE:=bI.out.trans (bM.mono bI.out.size)
       have aN:=aS.len
       clear bT HP bM q0 q1 q2 q3
       by_cases h51:n5=1
       ·subst h51
        obtain ⟨v,hv⟩:=List.length_eq_one_iff.1 aN
        have cK:g=v:=by rw [←zal g,hv,zaS]
        subst cK
        rw [hv] at aS
        obtain ⟨ad,dC,rfl,cZ,aC⟩:=aS.rd.cellM (k:=0) (by omega)
        replace aC:w4.cell? ad=some (.int .i64 (g:Int)):=aC
        have dF:=Lib.hid aE
        by_cases aD:g=1
        ·have hr:X=0:=aH.out.1 aD
         have HR:=Lib.hid (RetC.at hr aE)
         have d8:((g:Int)==1)=true:=by rw [beq_iff_eq];omega
         clear hr aE aD hv aN aH
         go_wp2
         go_ret
         exact HR.out
        ·have hr:X=1:=aH.out.2 aD
         have HR:=Lib.hid (RetC.at hr aE)
         have d8:((g:Int)==1)=false:=by rw [beq_eq_false_iff_ne];omega
         clear hr aE aD hv aN aH
         go_wp2
         go_ret
         exact HR.out
       ·have aD:g≠1:=fun e=>h51 (by rw [←aN,e,zbQ (by omega) (by decide)];rfl)
        have hr:X=1:=aH.out.2 aD
        have HR:=Lib.hid (RetC.at hr aE)
        have d8:((n5:Int)==1)=false:=by rw [beq_eq_false_iff_ne];omega
        clear hr aE aD aN aH aS
        go_wp2
        go_ret
        exact HR.out
    ·have d4:decide (k<t.size)=false:=decide_eq_false hfr
     have aK:X=zbb tl bl false false:=by rw [HX.out,d4]
     have aI:=Lib.hid aK
     obtain ⟨cB,bS⟩:=cA.out.2 hfr
     have cF:=Lib.hid bS
     subst cB
     clear aK bS hfr g4
     by_cases hlg:600<tl.length
     ·have hr:X=4:=by rw [aI.out,zbh aA.out,if_neg (fun h=>by cases h.1),if_pos (.inl hlg)]
      have HR:=Lib.hid (RetC.eq (w:=w) hr)
      have d6:decide ((600:Int)<(k:Int))=true:=by have:=aP.out;simp only [decide_eq_true_eq];omega
      clear hr hlg
      go_wp2
      go_ret
      exact HR.out
     ·have hr:X=0:=by rw [aI.out,zbh aA.out,if_neg (fun h=>by cases h.1),if_neg (by have:=cF.out;omega),if_neg (fun h=>by cases h.1)]
      have HR:=Lib.hid (RetC.eq (w:=w) hr)
      have d6:decide ((600:Int)<(k:Int))=false:=by have:=aP.out;simp only [decide_eq_false_iff_not];omega
      clear hr hlg
      go_wp2
      go_ret
      exact HR.out
  ·simp only [if_true] at bF
   have dB:=bF.symm
   clear bF
   have aM:(zaz tl=false∧X=1)∨(zaz tl=true∧decide (tl=[48])=true∧X=1)∨(zaz tl=true∧decide (tl=[48])=false∧Hid (¬ zgB true tl)):=by
    cases h:zaz tl
    ·exact .inl ⟨rfl,by rw [HX.out];unfold zbb;rw [if_pos (.inl h)]⟩
    ·by_cases hz:tl=[48]
     ·exact .inr (.inl ⟨rfl,decide_eq_true hz,by rw [HX.out];unfold zbb;rw [if_pos (.inr ⟨rfl,hz⟩)]⟩)
     ·refine .inr (.inr ⟨rfl,decide_eq_false hz,?_⟩)
      rintro (h9 | ⟨_,h9⟩)
      ·rw [h] at h9;cases h9
      ·exact hz h9
   go_enter Tryz.func10,Tryz.ntmps10
   go_wp2_with fail
   refine bZ.out.mono ?_
   rintro e w1 ⟨rfl,rfl⟩
   go_wp2_with fail
   refine cR.out.mono ?_
   rintro e w1 ⟨rfl,rfl⟩
   rcases aM with ⟨aT,hr⟩ | ⟨aT,hz,hr⟩ | ⟨aT,hz,aA⟩
   ·have HR:=Lib.hid (RetC.eq (w:=w) hr)
    clear hr
    go_wp2
    go_ret
    exact HR.out
   ·have HR:=Lib.hid (RetC.eq (w:=w) hr)
    clear hr
    go_wp2
    go_ret
    exact HR.out
   ·by_cases hfr:k<t.size
    ·have d4:decide (k<t.size)=true:=by simpa using hfr
     have g5:=g4 hfr
     have f1:=bG.out hfr
     have aK:X=zbb tl bl true true:=by rw [HX.out,d4]
     have aI:=Lib.hid aK
     have cN:=Lib.hid hfr
     have bY:=cA.out.1 hfr
     have aU:=Lib.hid bY
     clear aK hfr g4 bY
     go_wp2_with fail
     refine cY.out.mono ?_
     rintro e w1 ⟨rfl,rfl⟩
     by_cases hbad:zaz bl=false∨bl=[48]∨bl=[49]
     ·have hr:X=1:=by rw [aI.out,zbh aA.out,if_pos ⟨rfl,hbad⟩]
      have HR:=Lib.hid (RetC.eq (w:=w) hr)
      have hc:zaz bl=false∨(zaz bl=true∧decide (bl=[48])=true)∨(zaz bl=true∧decide (bl=[48])=false∧decide (bl=[49])=true):=by
       rcases hbad with h | h | h
       ·exact .inl h
       ·exact .inr (.inl ⟨by rw [h];rfl,by rw [h];rfl⟩)
       ·exact .inr (.inr ⟨by rw [h];rfl,by rw [h];rfl,by rw [h];rfl⟩)
      clear hr hbad
      rcases hc with b1 | ⟨b1,b2⟩ | ⟨b1,b2,b3⟩
      all_goals
       go_wp2
       go_ret
       exact HR.out
     ·have b1:zaz bl=true:=by
       cases h:zaz bl
       ·exact absurd (.inl h) hbad
       ·rfl
      have n2:bl≠[48]:=fun h=>hbad (.inr (.inl h))
      have n3:bl≠[49]:=fun h=>hbad (.inr (.inr h))
      have b2:decide (bl=[48])=false:=decide_eq_false n2
      have b3:decide (bl=[49])=false:=decide_eq_false n3
      have bH:=Lib.hid hbad
      by_cases hlg:600<tl.length∨600<bl.length
      ·have hr:X=4:=by rw [aI.out,zbh aA.out,if_neg (fun h=>bH.out h.2),if_pos hlg]
       have HR:=Lib.hid (RetC.eq (w:=w) hr)
       have hc:decide ((600:Int)<(k:Int))=true∨(decide ((600:Int)<(k:Int))=false∧decide ((600:Int)<q)=true):=by
        have:=aP.out
        have:=aU.out
        simp only [decide_eq_true_eq,decide_eq_false_iff_not]
        omega
       clear hr hlg n2 n3 hbad
       rcases hc with d6 | ⟨d6,d7⟩
       all_goals
        go_wp2
        go_ret
        exact HR.out
      ·obtain ⟨g,bB⟩:∃ g,Nat.gcd (zai tl) (zai bl)=g:=⟨_,rfl⟩
       have bX:(g=1→X=0)∧(g≠1→X=1):=by
        rw [aI.out,zbh aA.out,if_neg (fun h=>bH.out h.2),if_neg hlg,←bB]
        exact ⟨fun h=>if_neg (fun h9=>h9.2 h),fun h=>if_pos ⟨rfl,h⟩⟩
       have aO:=NumT.ofParts (cT.out cN.out) aT b1 n3
       have bW:=zcL b1 n2
       have bO:(Lib.decDigits (zai tl)).length≤600:=by rw [zbi tl aT];omega
       have bR:(Lib.decDigits (zai bl)).length≤600:=by rw [zbi bl b1];omega
       have d6:decide ((600:Int)<(k:Int))=false:=by have:=aP.out;simp only [decide_eq_false_iff_not];omega
       have d7:decide ((600:Int)<q)=false:=by have:=aU.out;simp only [decide_eq_false_iff_not];omega
       generalize zai tl=x at *
       generalize zai bl=y at *
       have bJ:=Nat.le_trans (zby x) bO
       have bP:=Nat.le_trans (zby y) bR
       have cH:=Lib.hid bJ
       have cI:=Lib.hid bP
       have HP:=Lib.hid (zet t false x y w aO (fun h=>by cases h) bW (by have:=aP.out;have:=aU.out;omega))
       have aH:=Lib.hid bX
       have bT:=Lib.hid bB
       clear bB bX aO bW bO bR bJ bP hbad hlg n2 n3
       go_wp2_with fail
       refine HP.out.mono ?_
       rintro e w1 ⟨A1,n1,c1,A2,n2,c2,rfl,aJ,aL,aY⟩
       have aQ:Below w1.heap.size w1 ((w1.alloc (.cells #[.bool false,.slice A1 n1 c1] 84)).alloc (.cells #[.bool false,.slice A2 n2 c2] 84)):=((Below.refl _ _).alloc (Nat.le_refl _) _).alloc (by simp) _
       have aX:CBlk ((w1.alloc (.cells #[.bool false,.slice A1 n1 c1] 84)).alloc (.cells #[.bool false,.slice A2 n2 c2] 84)) w1.heap.size #[.bool false,.slice A1 n1 c1] 84:=(CBlk.new w1 _ _ _ rfl).below ((Below.refl _ _).alloc (Nat.le_refl _) _) (by simp)
       have aW:CBlk ((w1.alloc (.cells #[.bool false,.slice A1 n1 c1] 84)).alloc (.cells #[.bool false,.slice A2 n2 c2] 84)) (w1.heap.size+1) #[.bool false,.slice A2 n2 c2] 84:=CBlk.new (w1.alloc (.cells #[.bool false,.slice A1 n1 c1] 84)) _ _ (w1.heap.size+1) (by simp)
       have bK:n1≤1048576:=by rw [←aJ.len];have:=cH.out;omega
       have bQ:n2≤1048576:=by rw [←aL.len];have:=cI.out;omega
       replace aJ:=aJ.later aQ
       replace aL:=aL.later aQ
       have bV:=aY.trans (aQ.mono aY.size)
       have bI:=Lib.hid bV
       clear aQ aY bV
       go_upto_region 13 with (fail)
       generalize ((w1.alloc (.cells #[.bool false,.slice A1 n1 c1] 84)).alloc (.cells #[.bool false,.slice A2 n2 c2] 84))=w3 at *
       have q0:w3.cell? ⟨w1.heap.size,0,none⟩=some (.bool false):=aX.cell 0
       have q1:w3.cell? ⟨w1.heap.size,1,none⟩=some (.slice A1 n1 c1):=aX.cell 1
       have q2:w3.cell? ⟨w1.heap.size+1,0,none⟩=some (.bool false):=aW.cell 0
       have q3:w3.cell? ⟨w1.heap.size+1,1,none⟩=some (.slice A2 n2 c2):=aW.cell 1
       have bA:=zeU A1 A2 n1 c1 n2 c2 x y w3 aJ aL bK bQ
       rw [bT.out] at bA
       have HG:=Lib.hid bA
       clear bA
       clear aX aW aJ aL bK bQ
       go_wp2_with fail
       refine HG.out.mono ?_
       rintro e w4 ⟨A5,n5,c5,rfl,aS,bM⟩
       have aE:=bI.out.trans (bM.mono bI.out.size)
       have aN:=aS.len
       clear bT HP bM q0 q1 q2 q3
       by_cases h51:n5=1
       ·subst h51
        obtain ⟨v,hv⟩:=List.length_eq_one_iff.1 aN
        have cK:g=v:=by rw [←zal g,hv,zaS]
        subst cK
        rw [hv] at aS
        obtain ⟨ad,dC,rfl,cZ,aC⟩:=aS.rd.cellM (k:=0) (by omega)
        replace aC:w4.cell? ad=some (.int .i64 (g:Int)):=aC
        have dF:=Lib.hid aE
        by_cases aD:g=1
        ·have hr:X=0:=aH.out.1 aD
         have HR:=Lib.hid (RetC.at hr aE)
         have d8:((g:Int)==1)=true:=by rw [beq_iff_eq];omega
         clear hr aE aD hv aN aH
         go_wp2
         go_ret
         exact HR.out
        ·have hr:X=1:=aH.out.2 aD
         have HR:=Lib.hid (RetC.at hr aE)
         have d8:((g:Int)==1)=false:=by rw [beq_eq_false_iff_ne];omega
         clear hr aE aD hv aN aH
         go_wp2
         go_ret
         exact HR.out
       ·have aD:g≠1:=fun e=>h51 (by rw [←aN,e,zbQ (by omega) (by decide)];rfl)
        have hr:X=1:=aH.out.2 aD
        have HR:=Lib.hid (RetC.at hr aE)
        have d8:((n5:Int)==1)=false:=by rw [beq_eq_false_iff_ne];omega
        clear hr aE aD aN aH aS
        go_wp2
        go_ret
        exact HR.out
    ·have d4:decide (k<t.size)=false:=decide_eq_false hfr
     have aK:X=zbb tl bl true false:=by rw [HX.out,d4]
     have aI:=Lib.hid aK
     obtain ⟨cB,bS⟩:=cA.out.2 hfr
     have cF:=Lib.hid bS
     subst cB
     clear aK bS hfr g4
     by_cases hlg:600<tl.length
     ·have hr:X=4:=by rw [aI.out,zbh aA.out,if_neg (fun h=>by cases h.1),if_pos (.inl hlg)]
      have HR:=Lib.hid (RetC.eq (w:=w) hr)
      have d6:decide ((600:Int)<(k:Int))=true:=by have:=aP.out;simp only [decide_eq_true_eq];omega
      clear hr hlg
      go_wp2
      go_ret
      exact HR.out
     ·have hr:X=0:=by rw [aI.out,zbh aA.out,if_neg (fun h=>by cases h.1),if_neg (by have:=cF.out;omega),if_neg (fun h=>by cases h.1)]
      have HR:=Lib.hid (RetC.eq (w:=w) hr)
      have d6:decide ((600:Int)<(k:Int))=false:=by have:=aP.out;simp only [decide_eq_false_iff_not];omega
      clear hr hlg
      go_wp2
      go_ret
      exact HR.out
end Go.Proofs.YteajibbphcfmeaaGreatDoor
namespace Go.Proofs.YteajibbphcfmeaaGreatDoor
open Go.RowKit
theorem zkJ:∀ (l:List Bool) (i:Nat),l[i]? = some false→(l.set i true).countP (fun b => !b)+1=l.countP (fun b => !b)
 | [],_,h=>by simp at h
 | b :: l,0,h=>by
  simp at h
  subst h
  simp
 | b :: l,i+1,h=>by
  have h2:=zkJ l i (by simpa using h)
  rw [List.set_cons_succ,List.countP_cons,List.countP_cons]
  omega
theorem ziB:∀ (l:List Bool),l.countP (fun b => !b)=0→∀ (i:Nat) (b:Bool),l[i]? = some b→b=true
 | [],_,i,b,h=>by simp at h
 | c :: l,h0,i,b,h=>by
  rw [List.countP_cons] at h0
  cases i with
  | zero=>
   simp at h
   subst h
   cases c
   ·simp at h0
   ·rfl
  | succ i=>exact ziB l (by omega) i b (by simpa using h)
theorem zkK {P:Program} {ops:Array Oper} {Q:Exit→Act→World→Prop} (Inv:Array Bool→Act→World→Prop)
  (hstep:∀ (i:Nat) (o:Oper) (listed:Array Bool) (a:Act) (w:World),ops[i]? = some o→Inv listed a w→listed[i]? = some false →
   (∀ e ∈ o.after,Region.binds .any e=true→listed.getD e.on false=true)→wpOp P ops Q i (fun a' w'=>Inv (listed.setIfInBounds i true) a' w') a w)
  (hdone:∀ (listed:Array Bool) (a:Act) (w:World),Inv listed a w→Region.ready .any ops listed=[]→Q .normal a w) :
  ∀ (fuel:Nat) (listed:Array Bool) (a:Act) (w:World),listed.toList.countP (fun b => !b)≤fuel→Inv listed a w→wpAny P .any ops Q fuel listed a w:=by
 have aC:∀ (listed:Array Bool) (i:Nat),listed.getD i true=false→listed[i]? = some false:=by
  intro listed i h
  rw [Array.getD_eq_getD_getElem?] at h
  cases hl:listed[i]? with
  | none=>rw [hl] at h;cases h
  | some b=>rw [hl] at h;simp at h;rw [h]
 intro fuel
 induction fuel with
 | zero=>
  intro listed a w hc hI
  have hr:Region.ready .any ops listed=[]:=by
   cases hq:Region.ready .any ops listed with
   | nil=>rfl
   | cons j l=>
    have hj:j ∈ Region.ready .any ops listed:=by rw [hq];exact List.mem_cons_self
    have h1:=aC listed j (mem_ready.1 hj).1
    have h2:=ziB listed.toList (by omega) j false (by simpa using h1)
    cases h2
  exact ⟨hr,hdone listed a w hI hr⟩
 | succ fuel ih=>
  intro listed a w hc hI
  refine ⟨fun hr=>hdone listed a w hI hr,fun i hi => ?_⟩
  obtain ⟨hu,o,ho,aA⟩:=mem_ready.1 hi
  have h1:=aC listed i hu
  refine wpOp_mono (fun a' w' h=>ih _ a' w' ?_ h) (hstep i o listed a w ho hI h1 aA)
  have h3:=zkJ listed.toList i (by simpa using h1)
  rw [Array.toList_setIfInBounds]
  omega
theorem ziZ {ops:Array Oper} {listed:Array Bool} (htop:∀ (i:Nat) (o:Oper),ops[i]? = some o→∀ e ∈ o.after,e.on<i) (hr:Region.ready .any ops listed=[]) :
  ∀ (n i:Nat),i<n→i<ops.size→∀ b,listed[i]? = some b→b=true:=by
 intro n
 induction n with
 | zero=>intro i h;omega
 | succ n ih=>
  intro i hi hs b hb
  cases b with
  | true=>rfl
  | false=>
   exfalso
   have aA:i<listed.size:=(Array.getElem?_eq_some_iff.1 hb).1
   have hm:i ∈ Region.ready .any ops listed:=by
    refine mem_ready.2 ⟨by rw [Array.getD_eq_getD_getElem?,hb];rfl,ops[i],Array.getElem?_eq_getElem hs,fun e he _ => ?_⟩
    have h1:=htop i ops[i] (Array.getElem?_eq_getElem hs) e he
    have h2:listed[e.on]? = some listed[e.on]:=Array.getElem?_eq_getElem (by omega)
    have h3:=ih e.on (by omega) (by omega) _ h2
    rw [Array.getD_eq_getD_getElem?,h2,h3]
    rfl
   rw [hr] at hm
   cases hm
theorem zob {ops:Array Oper} (h:(List.range ops.size).all (fun i=>((ops[i]?).map (fun o=>o.after.toList.all (fun e=>decide (e.on<i)))).getD true)=true) :
  ∀ (i:Nat) (o:Oper),ops[i]? = some o→∀ e ∈ o.after,e.on<i:=by
 intro i o ho e he
 have hi:i<ops.size:=(Array.getElem?_eq_some_iff.1 ho).1
 have h1:=List.all_eq_true.1 h i (List.mem_range.2 hi)
 rw [ho] at h1
 have h2:=List.all_eq_true.1 h1 e (by simpa using he)
 simpa using h2
theorem zbF {P:Program} {id:Nat} {ops:Array Oper} {Q:Exit→Act→World→Prop} {a:Act} {w:World} (hm:P.follows .mixedOrders=true) (Inv:Array Bool→Act→World→Prop)
  (htop:(List.range ops.size).all (fun i=>((ops[i]?).map (fun o=>o.after.toList.all (fun e=>decide (e.on<i)))).getD true)=true)
  (h0:Inv (Array.replicate ops.size false) a w.drew)
  (hstep:∀ (i:Nat) (o:Oper) (listed:Array Bool) (a:Act) (w:World),ops[i]? = some o→Inv listed a w→listed[i]? = some false →
   (∀ e ∈ o.after,Region.binds .any e=true→listed.getD e.on false=true)→wpOp P ops Q i (fun a' w'=>Inv (listed.setIfInBounds i true) a' w') a w)
  (hdone:∀ (listed:Array Bool) (a:Act) (w:World),Inv listed a w→(∀ i b,i<ops.size→listed[i]? = some b→b=true)→Q .normal a w) :
  (Code.region id ops true).wp P Q a w:=by
 refine wp_region_any hm (zkK Inv hstep (fun listed a w hI hr=>hdone listed a w hI fun i b hi hb=>ziZ (zob htop) hr (i+1) i (by omega) hi b hb) _ _ _ _ ?_ h0)
 rw [Array.toList_replicate]
 exact Nat.le_trans List.countP_le_length (by rw [List.length_replicate];exact Nat.le_refl _)
theorem zaq {P:Program} {ops:Array Oper} {Q:Exit→Act→World→Prop} {Inv:Array Bool→Act→World→Prop} {i:Nat} {o:Oper} {listed:Array Bool} {a:Act} {w:World} (ho:ops[i]? = some o)
  (h:∀ K':Act→World→Prop,Hid (∀ a' w',Inv (listed.setIfInBounds i true) a' w'→K' a' w')→if Region.wanted o (yielded ops a.tmps)=true then Oper.wp P o a w K' Q else K' (a.put o.dst undef) w) :
  wpOp P ops Q i (fun a' w'=>Inv (listed.setIfInBounds i true) a' w') a w:=wpOp_step ho fun K' hK=>h K' (Lib.hid hK)
end Go.Proofs.YteajibbphcfmeaaGreatDoor
namespace Go.Proofs.YteajibbphcfmeaaGreatDoor
open Go.RowKit Dn
def numQ (p:Q):Q:=⟨p.neg,p.top,1⟩
theorem NumQ.top_eq {a:ByteArray} {p:Q} (h:NumQ a p):a.data.toList=sgnT p.neg (Lib.decDigits p.top)++zcm p.bot:=h.num
set_option maxHeartbeats 1000000 in
theorem zn6 (a:ByteArray) (p:Q) (w:World) (h:NumQ a p) (ha:a.size≤1000000) :
  Calls Tryz.prog 93 #[.string a] w fun e w'=>(∃ s:ByteArray,e = .returned (.string s)∧NumQ s (numQ p)∧s.size≤a.size)∧w=w':=by
 obtain ⟨k,hk⟩:∃ k,k=(sgnT p.neg (Lib.decDigits p.top)).length:=⟨_,rfl⟩
 obtain ⟨p1,p2,p3⟩:=zd8 (t:=a) (l:=sgnT p.neg (Lib.decDigits p.top)) h.num hk
 have aC:zbp a.data.toList=k:=by rw [h.top_eq,zcT _ _ (zdp (za8 p.top)),hk]
 have aE:k≤a.size:=by
  have:=zlo a.data.toList
  rw [aC,Array.length_toList] at this
  exact this
 have aA:=fun W=>zbL a W (by omega)
 simp only [aC] at aA
 have aD:=Lib.hid aA
 have HN:Hid (NumQ (a.extract 0 k) (numQ p)):=by
  refine ⟨?_,Nat.one_pos,Nat.gcd_one_right _,h.2.2.2⟩
  rw [p1,za9]
  show _=_++(if (1:Nat)=1 then [] else _)
  rw [if_pos rfl,List.append_nil]
  rfl
 have HS:Hid ((a.extract 0 k).size≤a.size):=by show (a.extract 0 k).size≤a.size;rw [ByteArray.size_extract];omega
 clear aA aC p1 p2 p3 hk h
 go_enter Tryz.func93,Tryz.ntmps93
 go_wp2_with fail
 refine (aD.out w).mono ?_
 rintro e w4 ⟨rfl,rfl⟩
 go_wp2
 go_ret
 exact ⟨⟨_,rfl,HN.out,HS.out⟩,rfl⟩
set_option maxHeartbeats 1000000 in
theorem zot (a:ByteArray) (p:Q) (w:World) (h:NumQ a p) (ha:a.size≤1000000) :
  Calls Tryz.prog 94 #[.string a] w fun e w'=>(∃ s:ByteArray,e = .returned (.string s)∧s.size=(Lib.decDigits p.bot).length)∧w=w':=by
 obtain ⟨k,hk⟩:∃ k,k=(sgnT p.neg (Lib.decDigits p.top)).length:=⟨_,rfl⟩
 obtain ⟨p1,p2,p3⟩:=zd8 (t:=a) (l:=sgnT p.neg (Lib.decDigits p.top)) h.num hk
 have aD:zbp a.data.toList=k:=by rw [h.top_eq,zcT _ _ (zdp (za8 p.top)),hk]
 have aC:=fun W=>zbL a W (by omega)
 simp only [aD] at aC
 have aF:=Lib.hid aC
 by_cases hy:p.bot=1
 ·have aH:=p2 hy
  have dk:((k:Int)==(a.size:Int))=true:=by rw [beq_iff_eq];omega
  have HR:Hid ((⟨#[49]⟩:ByteArray).size=(Lib.decDigits p.bot).length):=by show _=_;rw [hy,Dec.dec_lt (by omega)];rfl
  clear aC aD p1 p2 p3 hk h aH hy
  go_enter Tryz.func94,Tryz.ntmps94
  go_wp2_with fail
  refine (aF.out w).mono ?_
  rintro e w4 ⟨rfl,rfl⟩
  go_wp2
  go_ret
  exact ⟨⟨_,rfl,HR.out⟩,rfl⟩
 ·obtain ⟨aI,aA,aG⟩:=p3 hy
  have dk:((k:Int)==(a.size:Int))=false:=by rw [beq_eq_false_iff_ne];omega
  obtain ⟨kk,aE⟩:∃ kk,kk=k+1:=⟨_,rfl⟩
  have ew:IntKind.i64.wrap ((k:Int)+1)=(kk:Int):=by rw [IntWalk.i64_in _ (by omega)];omega
  have aJ:(0:Int)≤(kk:Int)∧(kk:Int)≤(a.size:Int):=by omega
  have HR:Hid ((a.extract kk a.size).size=(Lib.decDigits p.bot).length):=by
   show _=_
   rw [aE,←aA,Array.length_toList]
   rfl
  clear aC aD p1 p2 p3 hk h aA aG hy aE
  go_enter Tryz.func94,Tryz.ntmps94
  go_wp2_with fail
  refine (aF.out w).mono ?_
  rintro e w4 ⟨rfl,rfl⟩
  go_wp2
  go_ret
  exact ⟨⟨_,rfl,HR.out⟩,rfl⟩
end Go.Proofs.YteajibbphcfmeaaGreatDoor
