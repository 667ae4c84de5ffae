/- Contract of the reference's Check of whatever text. -/
import Derived.Test.YtmkihdjolnlccaaGreatDoorQRb22
import Derived.Test.YtmkihdjolnlccaaGreatDoorQTrn
import Derived.Deep.RegionHeld3
import Derived.Test.YtmkihdjolnlccaaGreatDoorQDp
namespace Go.Proofs.YtmkihdjolnlccaaGreatDoor
open Go.RowKit Dn
def RetC (w:World) (x:Int) (e:Ending) (w':World):Prop:=e = .returned (.int .i64 x)∧Below w.heap.size w w'
theorem RetC.same (w:World) (x:Int):RetC w x (.returned (.int .i64 x)) w:=⟨rfl,Below.refl _ _⟩
theorem RetC.eq {w:World} {x y:Int} (h:x=y):RetC w x (.returned (.int .i64 y)) w:=⟨by rw [h],Below.refl _ _⟩
theorem RetC.at {w w':World} {x y:Int} (h:x=y) (hb:Below w.heap.size w w'):RetC w x (.returned (.int .i64 y)) w':=⟨by rw [h],hb⟩
def zhm (neg:Bool) (tl:List UInt8):Prop:=zaw tl=false∨(neg=true∧tl=[48])
theorem zbg {neg fr:Bool} {tl bl:List UInt8} (h:¬ zhm neg tl):zaY tl bl neg fr=if fr=true∧(zaw bl=false∨bl=[48]∨bl=[49]) then 1 else if 600<tl.length∨600<bl.length then 4 else if fr=true∧Nat.gcd (zaf tl) (zaf bl)≠1 then 1 else 0:=by
 unfold zaY
 exact if_neg h
theorem zgo (s:ByteArray) (l:List UInt8):(s.toList==l)=decide (s.data.toList=l):=by
 rw [ByteArray.toList_eq,Bool.eq_iff_iff]
 simp
theorem zlE (a:ByteArray) (h0:0<a.size) (neg:Bool) (hn:(((a[0]'h0).toNat:Int)==45)=neg) :
  a.data.toList=sgnT neg (absT a neg).data.toList∧(neg=false→(absT a neg).data.toList.head? ≠ some 45):=by
 have hlen:a.data.toList.length=a.size:=by simp
 have hlc:a.data.toList=(a[0]'h0) :: a.data.toList.drop 1:=by
  have h9:0<a.data.toList.length:=by omega
  have e:=List.drop_eq_getElem_cons h9
  rw [List.drop_zero] at e
  exact e
 cases neg
 ·refine ⟨rfl,fun _ => ?_⟩
  show a.data.toList.head? ≠ some 45
  rw [hlc]
  rw [beq_eq_false_iff_ne] at hn
  intro e
  have:a[0]'h0=45:=by simpa using e
  exact hn (by rw [this];rfl)
 ·refine ⟨?_,fun h=>by cases h⟩
  have hc:a[0]'h0=45:=by
   rw [beq_iff_eq] at hn
   exact UInt8.toNat_inj.1 (by have:((45:UInt8).toNat:Int)=45:=rfl;omega)
  show a.data.toList=45 :: (a.extract 1 a.size).data.toList
  rw [zby,List.take_of_length_le (by rw [List.length_drop];omega),←hc]
  exact hlc
theorem NumT.ofParts {t:ByteArray} {tl bl:List UInt8} (ht:t.data.toList=tl++47 :: bl) (h1:zaw tl=true) (h2:zaw bl=true) (h49:bl≠[49]) :
  NumT t false (zaf tl) (zaf bl):=by
 unfold NumT zcy sgnT
 have hne:zaf bl≠1:=fun e=>h49 (by rw [←zbi bl h2,e];decide +kernel)
 rw [zbi tl h1,zbi bl h2,if_neg hne]
 exact ht
theorem zjJ {l:List UInt8} (h:zbp l<l.length):l=l.take (zbp l)++47 :: l.drop (zbp l+1):=by
 rcases zcV l with h1 | ⟨t,r,rfl,h1⟩
 ·rw [zbM h1] at h
  omega
 ·rw [zcj h1,List.take_left,←List.drop_drop,List.drop_left]
  rfl
set_option maxHeartbeats 8000000 in
set_option maxRecDepth 100000 in
theorem zca (a:ByteArray) (w:World) (ha:a.size≤9223372036854775807) :
  Calls Tryz.prog 51 #[.string a] w (RetC w (zam a.data.toList)):=by
 obtain ⟨X,hX⟩:∃ X,X=zam a.data.toList:=⟨_,rfl⟩
 rw [←hX]
 by_cases hz0:a.size=0
 ·have hl:a.data.toList=[]:=List.eq_nil_of_length_eq_zero (by simpa using hz0)
  have h1:X=1:=by rw [hX,hl];rfl
  obtain ⟨k,hk⟩:∃ k,k=zbp a.data.toList:=⟨_,rfl⟩
  have hk0:k=0:=by rw [hk,hl];rfl
  have hsl:=zbV a w (by omega)
  rw [←hk] at hsl
  have HSL:=Lib.hid hsl
  obtain ⟨T1,hT1⟩:∃ T1,a.extract 0 k=T1:=⟨_,rfl⟩
  have hdf:=zb6 T1 w (by rw [←hT1];simp;omega)
  have hd0:zaw T1.data.toList=false:=by
   have:T1.data.toList=[]:=by rw [←hT1,zby,hl];simp
   rw [this]
   rfl
  rw [hd0] at hdf
  have HDF:=Lib.hid hdf
  have g1:(0:Int)≤(k:Int):=by omega
  have g2:(k:Int)≤(a.size:Int):=by omega
  have HR:=Lib.hid (RetC.same w 1)
  have d0:decide (0<a.size)=false:=by simp only [decide_eq_false_iff_not];omega
  subst h1
  clear hX hl hsl hdf hd0 hk hk0 hz0
  go_enter Tryz.func51,Tryz.ntmps51
  go_wp2_with fail
  refine HSL.out.mono ?_
  rintro e w1 ⟨rfl,rfl⟩
  go_wp2_with fail
  refine HDF.out.mono ?_
  rintro e w1 ⟨rfl,rfl⟩
  go_wp2
  go_ret
  exact HR.out
 ·have h0:0<a.size:=by omega
  obtain ⟨neg,hhd⟩:∃ neg,(((a[0]'h0).toNat:Int)==45)=neg:=⟨_,rfl⟩
  obtain ⟨hstr,hnn⟩:=zlE a h0 neg hhd
  obtain ⟨c0,hc0⟩:∃ c0:Nat,(a[0]'h0).toNat=c0:=⟨_,rfl⟩
  rw [hc0] at hhd
  have d0:decide (0<a.size)=true:=by simpa using h0
  have hsz:=ziV a neg
  obtain ⟨t,ht⟩:∃ t,t=absT a neg:=⟨_,rfl⟩
  rw [←ht] at hstr hnn hsz
  obtain ⟨k,hk⟩:∃ k,k=zbp t.data.toList:=⟨_,rfl⟩
  have hread:=zlY hstr hnn
  rw [←hk] at hread
  have hlen:t.data.toList.length=t.size:=by simp
  have hkt:k≤t.size:=by
   rw [hk,←hlen]
   rcases zcV t.data.toList with h1 | ⟨u,r,h2,h1⟩
   ·rw [zbM h1];exact Nat.le_refl _
   ·rw [h2,zcj h1,List.length_append];omega
  have hsplit:k<t.size→t.data.toList=t.data.toList.take k++47 :: t.data.toList.drop (k+1):=by
   intro h
   have:=zjJ (l:=t.data.toList) (by rw [←hk,hlen];exact h)
   rw [←hk] at this
   exact this
  have hsla:=zbV t w (by omega)
  rw [←hk] at hsla
  have HSL:=Lib.hid hsla
  obtain ⟨T1,hT1⟩:∃ T1,t.extract 0 k=T1:=⟨_,rfl⟩
  obtain ⟨kk,hkk⟩:∃ kk,kk=k+1:=⟨_,rfl⟩
  obtain ⟨T2,hT2⟩:∃ T2,t.extract kk t.size=T2:=⟨_,rfl⟩
  have l1:T1.data.toList=t.data.toList.take k:=by rw [←hT1,zby,List.drop_zero,Nat.sub_zero]
  have l2:T2.data.toList=t.data.toList.drop (k+1):=by
   rw [←hT2,zby,hkk]
   exact List.take_of_length_le (by rw [List.length_drop];omega)
  obtain ⟨tl,htl⟩:∃ tl,tl=T1.data.toList:=⟨_,rfl⟩
  obtain ⟨bl,hbl⟩:∃ bl,bl=T2.data.toList:=⟨_,rfl⟩
  have hz1:T1.size≤9223372036854775807:=by rw [←hT1];simp;omega
  have hz2:T2.size≤9223372036854775807:=by rw [←hT2];simp;omega
  rw [←l1,←l2,←htl,←hbl,hlen] at hread
  rw [←l1,←l2,←htl,←hbl] at hsplit
  have htll:tl.length=k:=by rw [htl,l1,List.length_take];omega
  have hbll:bl.length=t.size - (k+1):=by rw [hbl,l2,List.length_drop];omega
  have s1:(T1.toList==[48])=decide (tl=[48]):=by rw [zgo,htl]
  have s2:(T2.toList==[48])=decide (bl=[48]):=by rw [zgo,hbl]
  have s3:(T2.toList==[49])=decide (bl=[49]):=by rw [zgo,hbl]
  have hf1:=zb6 T1 w hz1
  have hf2:=zb6 T2 w hz2
  rw [←htl] at hf1
  rw [←hbl] at hf2
  have HF1:=Lib.hid hf1
  have HF2:=Lib.hid hf2
  obtain ⟨q,hq⟩:∃ q:Int,q=(t.size:Int) - (k:Int) - 1:=⟨_,rfl⟩
  obtain ⟨m,hm⟩:∃ m:Nat,m=t.size - k:=⟨_,rfl⟩
  have em:(t.size:Int) - (k:Int)=(m:Int):=by omega
  have eq1:(m:Int) - 1=q:=by omega
  have hqb : -1≤q∧q≤9223372036854775807:=by omega
  have hblq:(k<t.size→(bl.length:Int)=q)∧(¬ k<t.size→q = -1∧bl.length=0):=by omega
  have f1:k<t.size→IntKind.i64.wrap ((k:Int)+1)=(kk:Int):=fun h=>by rw [IntWalk.i64_in _ (by omega)];omega
  have HF1C:=Lib.hid f1
  clear f1
  have f2:IntKind.i64.wrap ((t.size:Int) - (k:Int))=(m:Int):=by rw [IntWalk.i64_in _ (by omega)];omega
  have f3:IntKind.i64.wrap ((m:Int) - 1)=q:=by rw [IntWalk.i64_in _ (by omega)];omega
  have g1:(0:Int)≤(k:Int):=by omega
  have g2:(k:Int)≤(t.size:Int):=by omega
  have g3:(0:Int)≤(kk:Int):=by omega
  have g4:k<t.size→(kk:Int)≤(t.size:Int):=by omega
  have ht5:t.size≤9223372036854775807:=by omega
  have hs1:(1:Int)≤(a.size:Int):=by omega
  rw [hread] at hX
  have HX:=Lib.hid hX
  clear hX hread hstr hnn hlen hk hkk l1 l2 htl hbl hsla hf1 hf2 hq hm hz0 hz1 hz2 hsz
  have HTL:=Lib.hid htll
  have HBQ:=Lib.hid hblq
  have HSP:=Lib.hid hsplit
  have hte:=ht
  unfold absT at hte
  clear ht htll hbll hblq hsplit
  cases neg
  ·simp only [Bool.false_eq_true,if_false] at hte
   subst hte
   have hcase:(zaw tl=false∧X=1)∨(zaw tl=true∧Hid (¬ zhm false tl)):=by
    cases h:zaw tl
    ·exact .inl ⟨rfl,by rw [HX.out];unfold zaY;rw [if_pos (.inl h)]⟩
    ·refine .inr ⟨rfl,?_⟩
     rintro (h9 | ⟨h9,_⟩)
     ·rw [h] at h9;cases h9
     ·cases h9
   go_enter Tryz.func51,Tryz.ntmps51
   go_wp2_with fail
   refine HSL.out.mono ?_
   rintro e w1 ⟨rfl,rfl⟩
   go_wp2_with fail
   refine HF1.out.mono ?_
   rintro e w1 ⟨rfl,rfl⟩
   rcases hcase with ⟨hD1,hr⟩ | ⟨hD1,HFIRST⟩
   ·have HR:=Lib.hid (RetC.eq (w:=w) hr)
    clear hr
    go_wp2
    go_ret
    exact HR.out
   ·by_cases hfr:k<t.size
    ·have d4:decide (k<t.size)=true:=by simpa using hfr
     have g5:=g4 hfr
     have f1:=HF1C.out hfr
     have hX2:X=zaY tl bl false true:=by rw [HX.out,d4]
     have HX2:=Lib.hid hX2
     have HFR:=Lib.hid hfr
     have hqq:=HBQ.out.1 hfr
     have HQQ:=Lib.hid hqq
     clear hX2 hfr g4 hqq
     go_wp2_with fail
     refine HF2.out.mono ?_
     rintro e w1 ⟨rfl,rfl⟩
     by_cases hbad:zaw bl=false∨bl=[48]∨bl=[49]
     ·have hr:X=1:=by rw [HX2.out,zbg HFIRST.out,if_pos ⟨rfl,hbad⟩]
      have HR:=Lib.hid (RetC.eq (w:=w) hr)
      have hc:zaw bl=false∨(zaw bl=true∧decide (bl=[48])=true)∨(zaw bl=true∧decide (bl=[48])=false∧decide (bl=[49])=true):=by
       rcases hbad with h | h | h
       ·exact .inl h
       ·exact .inr (.inl ⟨by rw [h];rfl,by rw [h];rfl⟩)
       ·exact .inr (.inr ⟨by rw [h];rfl,by rw [h];rfl,by rw [h];rfl⟩)
      clear hr hbad
      rcases hc with b1 | ⟨b1,b2⟩ | ⟨b1,b2,b3⟩
      all_goals
       go_wp2
       go_ret
       exact HR.out
     ·have b1:zaw bl=true:=by
       cases h:zaw bl
       ·exact absurd (.inl h) hbad
       ·rfl
      have n2:bl≠[48]:=fun h=>hbad (.inr (.inl h))
      have n3:bl≠[49]:=fun h=>hbad (.inr (.inr h))
      have b2:decide (bl=[48])=false:=decide_eq_false n2
      have b3:decide (bl=[49])=false:=decide_eq_false n3
      have HB1:=Lib.hid hbad
      by_cases hlg:600<tl.length∨600<bl.length
      ·have hr:X=4:=by rw [HX2.out,zbg HFIRST.out,if_neg (fun h=>HB1.out h.2),if_pos hlg]
       have HR:=Lib.hid (RetC.eq (w:=w) hr)
       have hc:decide ((600:Int)<(k:Int))=true∨(decide ((600:Int)<(k:Int))=false∧decide ((600:Int)<q)=true):=by
        have:=HTL.out
        have:=HQQ.out
        simp only [decide_eq_true_eq,decide_eq_false_iff_not]
        omega
       clear hr hlg n2 n3 hbad
       rcases hc with d6 | ⟨d6,d7⟩
       all_goals
        go_wp2
        go_ret
        exact HR.out
      ·obtain ⟨g,hgd⟩:∃ g,Nat.gcd (zaf tl) (zaf bl)=g:=⟨_,rfl⟩
       have hX3:(g=1→X=0)∧(g≠1→X=1):=by
        rw [HX2.out,zbg HFIRST.out,if_neg (fun h=>HB1.out h.2),if_neg hlg,←hgd]
        exact ⟨fun h=>if_neg (fun h9=>h9.2 h),fun h=>if_pos ⟨rfl,h⟩⟩
       have hnum:=NumT.ofParts (HSP.out HFR.out) hD1 b1 n3
       have hy0:=zcC b1 n2
       have hc1:(Lib.decDigits (zaf tl)).length≤600:=by rw [zbi tl hD1];omega
       have hc2:(Lib.decDigits (zaf bl)).length≤600:=by rw [zbi bl b1];omega
       have d6:decide ((600:Int)<(k:Int))=false:=by have:=HTL.out;simp only [decide_eq_false_iff_not];omega
       have d7:decide ((600:Int)<q)=false:=by have:=HQQ.out;simp only [decide_eq_false_iff_not];omega
       generalize zaf tl=x at *
       generalize zaf bl=y at *
       have hl1:=Nat.le_trans (zbE x) hc1
       have hl2:=Nat.le_trans (zbE y) hc2
       have HL1:=Lib.hid hl1
       have HL2:=Lib.hid hl2
       have HP:=Lib.hid (zbQ t false x y w hnum (fun h=>by cases h) hy0 (by have:=HTL.out;have:=HQQ.out;omega))
       have HX3:=Lib.hid hX3
       have HGD:=Lib.hid hgd
       clear hgd hX3 hnum hy0 hc1 hc2 hl1 hl2 hbad hlg n2 n3
       go_wp2_with fail
       refine HP.out.mono ?_
       rintro e w1 ⟨A1,n1,c1,A2,n2,c2,rfl,hd1,hd2,hb1⟩
       have hB1:Below w1.heap.size w1 ((w1.alloc (.cells #[.bool false,.slice A1 n1 c1] 152)).alloc (.cells #[.bool false,.slice A2 n2 c2] 152)):=((Below.refl _ _).alloc (Nat.le_refl _) _).alloc (by simp) _
       have hx1:CBlk ((w1.alloc (.cells #[.bool false,.slice A1 n1 c1] 152)).alloc (.cells #[.bool false,.slice A2 n2 c2] 152)) w1.heap.size #[.bool false,.slice A1 n1 c1] 152:=(CBlk.new w1 _ _ _ rfl).below ((Below.refl _ _).alloc (Nat.le_refl _) _) (by simp)
       have hx2:CBlk ((w1.alloc (.cells #[.bool false,.slice A1 n1 c1] 152)).alloc (.cells #[.bool false,.slice A2 n2 c2] 152)) (w1.heap.size+1) #[.bool false,.slice A2 n2 c2] 152:=CBlk.new (w1.alloc (.cells #[.bool false,.slice A1 n1 c1] 152)) _ _ (w1.heap.size+1) (by simp)
       have hn1:n1≤1048576:=by rw [←hd1.len];have:=HL1.out;omega
       have hn2:n2≤1048576:=by rw [←hd2.len];have:=HL2.out;omega
       replace hd1:=hd1.later hB1
       replace hd2:=hd2.later hB1
       have hBB:=hb1.trans (hB1.mono hb1.size)
       have HBB:=Lib.hid hBB
       clear hB1 hb1 hBB
       go_upto_region 13 with (fail)
       generalize ((w1.alloc (.cells #[.bool false,.slice A1 n1 c1] 152)).alloc (.cells #[.bool false,.slice A2 n2 c2] 152))=w3 at *
       have q0:w3.cell? ⟨w1.heap.size,0,none⟩=some (.bool false):=hx1.cell 0
       have q1:w3.cell? ⟨w1.heap.size,1,none⟩=some (.slice A1 n1 c1):=hx1.cell 1
       have q2:w3.cell? ⟨w1.heap.size+1,0,none⟩=some (.bool false):=hx2.cell 0
       have q3:w3.cell? ⟨w1.heap.size+1,1,none⟩=some (.slice A2 n2 c2):=hx2.cell 1
       have hcg:=zdJ A1 A2 n1 c1 n2 c2 x y w3 hd1 hd2 hn1 hn2
       rw [HGD.out] at hcg
       have HG:=Lib.hid hcg
       clear hcg
       clear hx1 hx2 hd1 hd2 hn1 hn2
       go_wp2_with fail
       refine HG.out.mono ?_
       rintro e w4 ⟨A5,n5,c5,rfl,hd5,hb5⟩
       have hbw:=HBB.out.trans (hb5.mono HBB.out.size)
       have hl5:=hd5.len
       clear HGD HP hb5 q0 q1 q2 q3
       by_cases h51:n5=1
       ·subst h51
        obtain ⟨v,hv⟩:=List.length_eq_one_iff.1 hl5
        have hgv:g=v:=by rw [←zai g,hv,zaM]
        subst hgv
        rw [hv] at hd5
        obtain ⟨ad,hkl,rfl,hbb,hcell⟩:=hd5.rd.cellM (k:=0) (by omega)
        replace hcell:w4.cell? ad=some (.int .i64 (g:Int)):=hcell
        have HBW:=Lib.hid hbw
        by_cases hg1:g=1
        ·have hr:X=0:=HX3.out.1 hg1
         have HR:=Lib.hid (RetC.at hr hbw)
         have d8:((g:Int)==1)=true:=by rw [beq_iff_eq];omega
         clear hr hbw hg1 hv hl5 HX3
         go_wp2
         go_ret
         exact HR.out
        ·have hr:X=1:=HX3.out.2 hg1
         have HR:=Lib.hid (RetC.at hr hbw)
         have d8:((g:Int)==1)=false:=by rw [beq_eq_false_iff_ne];omega
         clear hr hbw hg1 hv hl5 HX3
         go_wp2
         go_ret
         exact HR.out
       ·have hg1:g≠1:=fun e=>h51 (by rw [←hl5,e,zbk (by omega) (by decide)];rfl)
        have hr:X=1:=HX3.out.2 hg1
        have HR:=Lib.hid (RetC.at hr hbw)
        have d8:((n5:Int)==1)=false:=by rw [beq_eq_false_iff_ne];omega
        clear hr hbw hg1 hl5 HX3 hd5
        go_wp2
        go_ret
        exact HR.out
    ·have d4:decide (k<t.size)=false:=decide_eq_false hfr
     have hX2:X=zaY tl bl false false:=by rw [HX.out,d4]
     have HX2:=Lib.hid hX2
     obtain ⟨hqm,hb0⟩:=HBQ.out.2 hfr
     have HB0:=Lib.hid hb0
     subst hqm
     clear hX2 hb0 hfr g4
     by_cases hlg:600<tl.length
     ·have hr:X=4:=by rw [HX2.out,zbg HFIRST.out,if_neg (fun h=>by cases h.1),if_pos (.inl hlg)]
      have HR:=Lib.hid (RetC.eq (w:=w) hr)
      have d6:decide ((600:Int)<(k:Int))=true:=by have:=HTL.out;simp only [decide_eq_true_eq];omega
      clear hr hlg
      go_wp2
      go_ret
      exact HR.out
     ·have hr:X=0:=by rw [HX2.out,zbg HFIRST.out,if_neg (fun h=>by cases h.1),if_neg (by have:=HB0.out;omega),if_neg (fun h=>by cases h.1)]
      have HR:=Lib.hid (RetC.eq (w:=w) hr)
      have d6:decide ((600:Int)<(k:Int))=false:=by have:=HTL.out;simp only [decide_eq_false_iff_not];omega
      clear hr hlg
      go_wp2
      go_ret
      exact HR.out
  ·simp only [if_true] at hte
   have hte2:=hte.symm
   clear hte
   have hcase:(zaw tl=false∧X=1)∨(zaw tl=true∧decide (tl=[48])=true∧X=1)∨(zaw tl=true∧decide (tl=[48])=false∧Hid (¬ zhm true tl)):=by
    cases h:zaw tl
    ·exact .inl ⟨rfl,by rw [HX.out];unfold zaY;rw [if_pos (.inl h)]⟩
    ·by_cases hz:tl=[48]
     ·exact .inr (.inl ⟨rfl,decide_eq_true hz,by rw [HX.out];unfold zaY;rw [if_pos (.inr ⟨rfl,hz⟩)]⟩)
     ·refine .inr (.inr ⟨rfl,decide_eq_false hz,?_⟩)
      rintro (h9 | ⟨_,h9⟩)
      ·rw [h] at h9;cases h9
      ·exact hz h9
   go_enter Tryz.func51,Tryz.ntmps51
   go_wp2_with fail
   refine HSL.out.mono ?_
   rintro e w1 ⟨rfl,rfl⟩
   go_wp2_with fail
   refine HF1.out.mono ?_
   rintro e w1 ⟨rfl,rfl⟩
   rcases hcase with ⟨hD1,hr⟩ | ⟨hD1,hz,hr⟩ | ⟨hD1,hz,HFIRST⟩
   ·have HR:=Lib.hid (RetC.eq (w:=w) hr)
    clear hr
    go_wp2
    go_ret
    exact HR.out
   ·have HR:=Lib.hid (RetC.eq (w:=w) hr)
    clear hr
    go_wp2
    go_ret
    exact HR.out
   ·by_cases hfr:k<t.size
    ·have d4:decide (k<t.size)=true:=by simpa using hfr
     have g5:=g4 hfr
     have f1:=HF1C.out hfr
     have hX2:X=zaY tl bl true true:=by rw [HX.out,d4]
     have HX2:=Lib.hid hX2
     have HFR:=Lib.hid hfr
     have hqq:=HBQ.out.1 hfr
     have HQQ:=Lib.hid hqq
     clear hX2 hfr g4 hqq
     go_wp2_with fail
     refine HF2.out.mono ?_
     rintro e w1 ⟨rfl,rfl⟩
     by_cases hbad:zaw bl=false∨bl=[48]∨bl=[49]
     ·have hr:X=1:=by rw [HX2.out,zbg HFIRST.out,if_pos ⟨rfl,hbad⟩]
      have HR:=Lib.hid (RetC.eq (w:=w) hr)
      have hc:zaw bl=false∨(zaw bl=true∧decide (bl=[48])=true)∨(zaw bl=true∧decide (bl=[48])=false∧decide (bl=[49])=true):=by
       rcases hbad with h | h | h
       ·exact .inl h
       ·exact .inr (.inl ⟨by rw [h];rfl,by rw [h];rfl⟩)
       ·exact .inr (.inr ⟨by rw [h];rfl,by rw [h];rfl,by rw [h];rfl⟩)
      clear hr hbad
      rcases hc with b1 | ⟨b1,b2⟩ | ⟨b1,b2,b3⟩
      all_goals
       go_wp2
       go_ret
       exact HR.out
     ·have b1:zaw bl=true:=by
       cases h:zaw bl
       ·exact absurd (.inl h) hbad
       ·rfl
      have n2:bl≠[48]:=fun h=>hbad (.inr (.inl h))
      have n3:bl≠[49]:=fun h=>hbad (.inr (.inr h))
      have b2:decide (bl=[48])=false:=decide_eq_false n2
      have b3:decide (bl=[49])=false:=decide_eq_false n3
      have HB1:=Lib.hid hbad
      by_cases hlg:600<tl.length∨600<bl.length
      ·have hr:X=4:=by rw [HX2.out,zbg HFIRST.out,if_neg (fun h=>HB1.out h.2),if_pos hlg]
       have HR:=Lib.hid (RetC.eq (w:=w) hr)
       have hc:decide ((600:Int)<(k:Int))=true∨(decide ((600:Int)<(k:Int))=false∧decide ((600:Int)<q)=true):=by
        have:=HTL.out
        have:=HQQ.out
        simp only [decide_eq_true_eq,decide_eq_false_iff_not]
        omega
       clear hr hlg n2 n3 hbad
       rcases hc with d6 | ⟨d6,d7⟩
       all_goals
        go_wp2
        go_ret
        exact HR.out
      ·obtain ⟨g,hgd⟩:∃ g,Nat.gcd (zaf tl) (zaf bl)=g:=⟨_,rfl⟩
       have hX3:(g=1→X=0)∧(g≠1→X=1):=by
        rw [HX2.out,zbg HFIRST.out,if_neg (fun h=>HB1.out h.2),if_neg hlg,←hgd]
        exact ⟨fun h=>if_neg (fun h9=>h9.2 h),fun h=>if_pos ⟨rfl,h⟩⟩
       have hnum:=NumT.ofParts (HSP.out HFR.out) hD1 b1 n3
       have hy0:=zcC b1 n2
       have hc1:(Lib.decDigits (zaf tl)).length≤600:=by rw [zbi tl hD1];omega
       have hc2:(Lib.decDigits (zaf bl)).length≤600:=by rw [zbi bl b1];omega
       have d6:decide ((600:Int)<(k:Int))=false:=by have:=HTL.out;simp only [decide_eq_false_iff_not];omega
       have d7:decide ((600:Int)<q)=false:=by have:=HQQ.out;simp only [decide_eq_false_iff_not];omega
       generalize zaf tl=x at *
       generalize zaf bl=y at *
       have hl1:=Nat.le_trans (zbE x) hc1
       have hl2:=Nat.le_trans (zbE y) hc2
       have HL1:=Lib.hid hl1
       have HL2:=Lib.hid hl2
       have HP:=Lib.hid (zbQ t false x y w hnum (fun h=>by cases h) hy0 (by have:=HTL.out;have:=HQQ.out;omega))
       have HX3:=Lib.hid hX3
       have HGD:=Lib.hid hgd
       clear hgd hX3 hnum hy0 hc1 hc2 hl1 hl2 hbad hlg n2 n3
       go_wp2_with fail
       refine HP.out.mono ?_
       rintro e w1 ⟨A1,n1,c1,A2,n2,c2,rfl,hd1,hd2,hb1⟩
       have hB1:Below w1.heap.size w1 ((w1.alloc (.cells #[.bool false,.slice A1 n1 c1] 152)).alloc (.cells #[.bool false,.slice A2 n2 c2] 152)):=((Below.refl _ _).alloc (Nat.le_refl _) _).alloc (by simp) _
       have hx1:CBlk ((w1.alloc (.cells #[.bool false,.slice A1 n1 c1] 152)).alloc (.cells #[.bool false,.slice A2 n2 c2] 152)) w1.heap.size #[.bool false,.slice A1 n1 c1] 152:=(CBlk.new w1 _ _ _ rfl).below ((Below.refl _ _).alloc (Nat.le_refl _) _) (by simp)
       have hx2:CBlk ((w1.alloc (.cells #[.bool false,.slice A1 n1 c1] 152)).alloc (.cells #[.bool false,.slice A2 n2 c2] 152)) (w1.heap.size+1) #[.bool false,.slice A2 n2 c2] 152:=CBlk.new (w1.alloc (.cells #[.bool false,.slice A1 n1 c1] 152)) _ _ (w1.heap.size+1) (by simp)
       have hn1:n1≤1048576:=by rw [←hd1.len];have:=HL1.out;omega
       have hn2:n2≤1048576:=by rw [←hd2.len];have:=HL2.out;omega
       replace hd1:=hd1.later hB1
       replace hd2:=hd2.later hB1
       have hBB:=hb1.trans (hB1.mono hb1.size)
       have HBB:=Lib.hid hBB
       clear hB1 hb1 hBB
       go_upto_region 13 with (fail)
       generalize ((w1.alloc (.cells #[.bool false,.slice A1 n1 c1] 152)).alloc (.cells #[.bool false,.slice A2 n2 c2] 152))=w3 at *
       have q0:w3.cell? ⟨w1.heap.size,0,none⟩=some (.bool false):=hx1.cell 0
       have q1:w3.cell? ⟨w1.heap.size,1,none⟩=some (.slice A1 n1 c1):=hx1.cell 1
       have q2:w3.cell? ⟨w1.heap.size+1,0,none⟩=some (.bool false):=hx2.cell 0
       have q3:w3.cell? ⟨w1.heap.size+1,1,none⟩=some (.slice A2 n2 c2):=hx2.cell 1
       have hcg:=zdJ A1 A2 n1 c1 n2 c2 x y w3 hd1 hd2 hn1 hn2
       rw [HGD.out] at hcg
       have HG:=Lib.hid hcg
       clear hcg
       clear hx1 hx2 hd1 hd2 hn1 hn2
       go_wp2_with fail
       refine HG.out.mono ?_
       rintro e w4 ⟨A5,n5,c5,rfl,hd5,hb5⟩
       have hbw:=HBB.out.trans (hb5.mono HBB.out.size)
       have hl5:=hd5.len
       clear HGD HP hb5 q0 q1 q2 q3
       by_cases h51:n5=1
       ·subst h51
        obtain ⟨v,hv⟩:=List.length_eq_one_iff.1 hl5
        have hgv:g=v:=by rw [←zai g,hv,zaM]
        subst hgv
        rw [hv] at hd5
        obtain ⟨ad,hkl,rfl,hbb,hcell⟩:=hd5.rd.cellM (k:=0) (by omega)
        replace hcell:w4.cell? ad=some (.int .i64 (g:Int)):=hcell
        have HBW:=Lib.hid hbw
        by_cases hg1:g=1
        ·have hr:X=0:=HX3.out.1 hg1
         have HR:=Lib.hid (RetC.at hr hbw)
         have d8:((g:Int)==1)=true:=by rw [beq_iff_eq];omega
         clear hr hbw hg1 hv hl5 HX3
         go_wp2
         go_ret
         exact HR.out
        ·have hr:X=1:=HX3.out.2 hg1
         have HR:=Lib.hid (RetC.at hr hbw)
         have d8:((g:Int)==1)=false:=by rw [beq_eq_false_iff_ne];omega
         clear hr hbw hg1 hv hl5 HX3
         go_wp2
         go_ret
         exact HR.out
       ·have hg1:g≠1:=fun e=>h51 (by rw [←hl5,e,zbk (by omega) (by decide)];rfl)
        have hr:X=1:=HX3.out.2 hg1
        have HR:=Lib.hid (RetC.at hr hbw)
        have d8:((n5:Int)==1)=false:=by rw [beq_eq_false_iff_ne];omega
        clear hr hbw hg1 hl5 HX3 hd5
        go_wp2
        go_ret
        exact HR.out
    ·have d4:decide (k<t.size)=false:=decide_eq_false hfr
     have hX2:X=zaY tl bl true false:=by rw [HX.out,d4]
     have HX2:=Lib.hid hX2
     obtain ⟨hqm,hb0⟩:=HBQ.out.2 hfr
     have HB0:=Lib.hid hb0
     subst hqm
     clear hX2 hb0 hfr g4
     by_cases hlg:600<tl.length
     ·have hr:X=4:=by rw [HX2.out,zbg HFIRST.out,if_neg (fun h=>by cases h.1),if_pos (.inl hlg)]
      have HR:=Lib.hid (RetC.eq (w:=w) hr)
      have d6:decide ((600:Int)<(k:Int))=true:=by have:=HTL.out;simp only [decide_eq_true_eq];omega
      clear hr hlg
      go_wp2
      go_ret
      exact HR.out
     ·have hr:X=0:=by rw [HX2.out,zbg HFIRST.out,if_neg (fun h=>by cases h.1),if_neg (by have:=HB0.out;omega),if_neg (fun h=>by cases h.1)]
      have HR:=Lib.hid (RetC.eq (w:=w) hr)
      have d6:decide ((600:Int)<(k:Int))=false:=by have:=HTL.out;simp only [decide_eq_false_iff_not];omega
      clear hr hlg
      go_wp2
      go_ret
      exact HR.out
def recS (p:Q):Q:=⟨p.neg,p.bot,p.top⟩
end Go.Proofs.YtmkihdjolnlccaaGreatDoor
namespace Go.Proofs.YtmkihdjolnlccaaGreatDoor
open Go.RowKit
theorem znM:∀ (l:List Bool) (i:Nat),l[i]? = some false→(l.set i true).countP (fun b => !b)+1=l.countP (fun b => !b)
 | [],_,h=>by simp at h
 | b :: l,0,h=>by
  simp at h
  subst h
  simp
 | b :: l,i+1,h=>by
  have h2:=znM l i (by simpa using h)
  rw [List.set_cons_succ,List.countP_cons,List.countP_cons]
  omega
theorem zkW:∀ (l:List Bool),l.countP (fun b => !b)=0→∀ (i:Nat) (b:Bool),l[i]? = some b→b=true
 | [],_,i,b,h=>by simp at h
 | c :: l,h0,i,b,h=>by
  rw [List.countP_cons] at h0
  cases i with
  | zero=>
   simp at h
   subst h
   cases c
   ·simp at h0
   ·rfl
  | succ i=>exact zkW l (by omega) i b (by simpa using h)
theorem zmD {P:Program} {ops:Array Oper} {Q:Exit→Act→World→Prop} (Inv:Array Bool→Act→World→Prop)
  (hstep:∀ (i:Nat) (o:Oper) (listed:Array Bool) (a:Act) (w:World),ops[i]? = some o→Inv listed a w→listed[i]? = some false →
   (∀ e ∈ o.after,Region.binds .any e=true→listed.getD e.on false=true)→wpOp P ops Q i (fun a' w'=>Inv (listed.setIfInBounds i true) a' w') a w)
  (hdone:∀ (listed:Array Bool) (a:Act) (w:World),Inv listed a w→Region.ready .any ops listed=[]→Q .normal a w) :
  ∀ (fuel:Nat) (listed:Array Bool) (a:Act) (w:World),listed.toList.countP (fun b => !b)≤fuel→Inv listed a w→wpAny P .any ops Q fuel listed a w:=by
 have hun:∀ (listed:Array Bool) (i:Nat),listed.getD i true=false→listed[i]? = some false:=by
  intro listed i h
  rw [Array.getD_eq_getD_getElem?] at h
  cases hl:listed[i]? with
  | none=>rw [hl] at h;cases h
  | some b=>rw [hl] at h;simp at h;rw [h]
 intro fuel
 induction fuel with
 | zero=>
  intro listed a w hc hI
  have hr:Region.ready .any ops listed=[]:=by
   cases hq:Region.ready .any ops listed with
   | nil=>rfl
   | cons j l=>
    have hj:j ∈ Region.ready .any ops listed:=by rw [hq];exact List.mem_cons_self
    have h1:=hun listed j (mem_ready.1 hj).1
    have h2:=zkW listed.toList (by omega) j false (by simpa using h1)
    cases h2
  exact ⟨hr,hdone listed a w hI hr⟩
 | succ fuel ih=>
  intro listed a w hc hI
  refine ⟨fun hr=>hdone listed a w hI hr,fun i hi => ?_⟩
  obtain ⟨hu,o,ho,hall⟩:=mem_ready.1 hi
  have h1:=hun listed i hu
  refine wpOp_mono (fun a' w' h=>ih _ a' w' ?_ h) (hstep i o listed a w ho hI h1 hall)
  have h3:=znM listed.toList i (by simpa using h1)
  rw [Array.toList_setIfInBounds]
  omega
theorem zlr {ops:Array Oper} {listed:Array Bool} (htop:∀ (i:Nat) (o:Oper),ops[i]? = some o→∀ e ∈ o.after,e.on<i) (hr:Region.ready .any ops listed=[]) :
  ∀ (n i:Nat),i<n→i<ops.size→∀ b,listed[i]? = some b→b=true:=by
 intro n
 induction n with
 | zero=>intro i h;omega
 | succ n ih=>
  intro i hi hs b hb
  cases b with
  | true=>rfl
  | false=>
   exfalso
   have hlt:i<listed.size:=(Array.getElem?_eq_some_iff.1 hb).1
   have hm:i ∈ Region.ready .any ops listed:=by
    refine mem_ready.2 ⟨by rw [Array.getD_eq_getD_getElem?,hb];rfl,ops[i],Array.getElem?_eq_getElem hs,fun e he _ => ?_⟩
    have h1:=htop i ops[i] (Array.getElem?_eq_getElem hs) e he
    have h2:listed[e.on]? = some listed[e.on]:=Array.getElem?_eq_getElem (by omega)
    have h3:=ih e.on (by omega) (by omega) _ h2
    rw [Array.getD_eq_getD_getElem?,h2,h3]
    rfl
   rw [hr] at hm
   cases hm
theorem zsL {ops:Array Oper} (h:(List.range ops.size).all (fun i=>((ops[i]?).map (fun o=>o.after.toList.all (fun e=>decide (e.on<i)))).getD true)=true) :
  ∀ (i:Nat) (o:Oper),ops[i]? = some o→∀ e ∈ o.after,e.on<i:=by
 intro i o ho e he
 have hi:i<ops.size:=(Array.getElem?_eq_some_iff.1 ho).1
 have h1:=List.all_eq_true.1 h i (List.mem_range.2 hi)
 rw [ho] at h1
 have h2:=List.all_eq_true.1 h1 e (by simpa using he)
 simpa using h2
theorem zc4 {P:Program} {id:Nat} {ops:Array Oper} {Q:Exit→Act→World→Prop} {a:Act} {w:World} (hm:P.follows .mixedOrders=true) (Inv:Array Bool→Act→World→Prop)
  (htop:(List.range ops.size).all (fun i=>((ops[i]?).map (fun o=>o.after.toList.all (fun e=>decide (e.on<i)))).getD true)=true)
  (h0:Inv (Array.replicate ops.size false) a w.drew)
  (hstep:∀ (i:Nat) (o:Oper) (listed:Array Bool) (a:Act) (w:World),ops[i]? = some o→Inv listed a w→listed[i]? = some false →
   (∀ e ∈ o.after,Region.binds .any e=true→listed.getD e.on false=true)→wpOp P ops Q i (fun a' w'=>Inv (listed.setIfInBounds i true) a' w') a w)
  (hdone:∀ (listed:Array Bool) (a:Act) (w:World),Inv listed a w→(∀ i b,i<ops.size→listed[i]? = some b→b=true)→Q .normal a w) :
  (Code.region id ops true).wp P Q a w:=by
 refine wp_region_any hm (zmD Inv hstep (fun listed a w hI hr=>hdone listed a w hI fun i b hi hb=>zlr (zsL htop) hr (i+1) i (by omega) hi b hb) _ _ _ _ ?_ h0)
 rw [Array.toList_replicate]
 exact Nat.le_trans List.countP_le_length (by rw [List.length_replicate];exact Nat.le_refl _)
theorem zaF {P:Program} {ops:Array Oper} {Q:Exit→Act→World→Prop} {Inv:Array Bool→Act→World→Prop} {i:Nat} {o:Oper} {listed:Array Bool} {a:Act} {w:World} (ho:ops[i]? = some o)
  (h:∀ K':Act→World→Prop,Hid (∀ a' w',Inv (listed.setIfInBounds i true) a' w'→K' a' w')→if Region.wanted o (yielded ops a.tmps)=true then Oper.wp P o a w K' Q else K' (a.put o.dst undef) w) :
  wpOp P ops Q i (fun a' w'=>Inv (listed.setIfInBounds i true) a' w') a w:=wpOp_step ho fun K' hK=>h K' (Lib.hid hK)
end Go.Proofs.YtmkihdjolnlccaaGreatDoor
namespace Go.Proofs.YtmkihdjolnlccaaGreatDoor
open Go.RowKit Dn
def numQ (p:Q):Q:=⟨p.neg,p.top,1⟩
theorem NumQ.top_eq {a:ByteArray} {p:Q} (h:NumQ a p):a.data.toList=sgnT p.neg (Lib.decDigits p.top)++zcy p.bot:=h.num
set_option maxHeartbeats 1000000 in
theorem zsQ (a:ByteArray) (p:Q) (w:World) (h:NumQ a p) (ha:a.size≤1000000) :
  Calls Tryz.prog 88 #[.string a] w fun e w'=>(∃ s:ByteArray,e = .returned (.string s)∧NumQ s (numQ p)∧s.size≤a.size)∧w=w':=by
 obtain ⟨k,hk⟩:∃ k,k=(sgnT p.neg (Lib.decDigits p.top)).length:=⟨_,rfl⟩
 obtain ⟨p1,p2,p3⟩:=zeu (t:=a) (l:=sgnT p.neg (Lib.decDigits p.top)) h.num hk
 have hsv:zbp a.data.toList=k:=by rw [h.top_eq,zc2 _ _ (zcc (zaC p.top)),hk]
 have hka:k≤a.size:=by
  have:=zmX a.data.toList
  rw [hsv,Array.length_toList] at this
  exact this
 have hsl:=fun W=>zbV a W (by omega)
 simp only [hsv] at hsl
 have HSL:=Lib.hid hsl
 have HN:Hid (NumQ (a.extract 0 k) (numQ p)):=by
  refine ⟨?_,Nat.one_pos,Nat.gcd_one_right _,h.2.2.2⟩
  rw [p1,zaV]
  show _=_++(if (1:Nat)=1 then [] else _)
  rw [if_pos rfl,List.append_nil]
  rfl
 have HS:Hid ((a.extract 0 k).size≤a.size):=by show (a.extract 0 k).size≤a.size;rw [ByteArray.size_extract];omega
 clear hsl hsv p1 p2 p3 hk h
 go_enter Tryz.func88,Tryz.ntmps88
 go_wp2_with fail
 refine (HSL.out w).mono ?_
 rintro e w4 ⟨rfl,rfl⟩
 go_wp2
 go_ret
 exact ⟨⟨_,rfl,HN.out,HS.out⟩,rfl⟩
set_option maxHeartbeats 1000000 in
theorem ztg (a:ByteArray) (p:Q) (w:World) (h:NumQ a p) (ha:a.size≤1000000) :
  Calls Tryz.prog 89 #[.string a] w fun e w'=>(∃ s:ByteArray,e = .returned (.string s)∧s.size=(Lib.decDigits p.bot).length)∧w=w':=by
 obtain ⟨k,hk⟩:∃ k,k=(sgnT p.neg (Lib.decDigits p.top)).length:=⟨_,rfl⟩
 obtain ⟨p1,p2,p3⟩:=zeu (t:=a) (l:=sgnT p.neg (Lib.decDigits p.top)) h.num hk
 have hsv:zbp a.data.toList=k:=by rw [h.top_eq,zc2 _ _ (zcc (zaC p.top)),hk]
 have hsl:=fun W=>zbV a W (by omega)
 simp only [hsv] at hsl
 have HSL:=Lib.hid hsl
 by_cases hy:p.bot=1
 ·have hak:=p2 hy
  have dk:((k:Int)==(a.size:Int))=true:=by rw [beq_iff_eq];omega
  have HR:Hid ((⟨#[49]⟩:ByteArray).size=(Lib.decDigits p.bot).length):=by show _=_;rw [hy,Dec.dec_lt (by omega)];rfl
  clear hsl hsv p1 p2 p3 hk h hak hy
  go_enter Tryz.func89,Tryz.ntmps89
  go_wp2_with fail
  refine (HSL.out w).mono ?_
  rintro e w4 ⟨rfl,rfl⟩
  go_wp2
  go_ret
  exact ⟨⟨_,rfl,HR.out⟩,rfl⟩
 ·obtain ⟨hka,hext,hsz⟩:=p3 hy
  have dk:((k:Int)==(a.size:Int))=false:=by rw [beq_eq_false_iff_ne];omega
  obtain ⟨kk,hkk⟩:∃ kk,kk=k+1:=⟨_,rfl⟩
  have ew:IntKind.i64.wrap ((k:Int)+1)=(kk:Int):=by rw [IntWalk.i64_in _ (by omega)];omega
  have hk0:(0:Int)≤(kk:Int)∧(kk:Int)≤(a.size:Int):=by omega
  have HR:Hid ((a.extract kk a.size).size=(Lib.decDigits p.bot).length):=by
   show _=_
   rw [hkk,←hext,Array.length_toList]
   rfl
  clear hsl hsv p1 p2 p3 hk h hext hsz hy hkk
  go_enter Tryz.func89,Tryz.ntmps89
  go_wp2_with fail
  refine (HSL.out w).mono ?_
  rintro e w4 ⟨rfl,rfl⟩
  go_wp2
  go_ret
  exact ⟨⟨_,rfl,HR.out⟩,rfl⟩
end Go.Proofs.YtmkihdjolnlccaaGreatDoor
