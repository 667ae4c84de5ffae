/- Contract of the reference's Check of whatever text. -/
import Derived.Test.YteajibbphcfmeaaGreatDoorTRb20
import Derived.Test.YteajibbphcfmeaaGreatDoorTEx3
import Derived.Test.YteajibbphcfmeaaGreatDoorTFloat
import Derived.Test.YteajibbphcfmeaaGreatDoorTErr0
import Derived.Deep.RegionHeld3
import Derived.Test.YteajibbphcfmeaaGreatDoorTRat8
namespace Go.Proofs.YteajibbphcfmeaaGreatDoor
open Go.RowKit Dn
def RetC (w:World) (x:Int) (e:Ending) (w':World):Prop:=e = .returned (.int .i64 x)∧Below w.heap.size w w'
theorem RetC.same (w:World) (x:Int):RetC w x (.returned (.int .i64 x)) w:=⟨rfl,Below.refl _ _⟩
theorem RetC.eq {w:World} {x y:Int} (h:x=y):RetC w x (.returned (.int .i64 y)) w:=⟨by rw [h],Below.refl _ _⟩
theorem RetC.at {w w':World} {x y:Int} (h:x=y) (hb:Below w.heap.size w w'):RetC w x (.returned (.int .i64 y)) w':=⟨by rw [h],hb⟩
def FirstBad (neg:Bool) (tl:List UInt8):Prop:=isDec tl=false∨(neg=true∧tl=[48])
theorem read_first {neg fr:Bool} {tl bl:List UInt8} (h:¬ FirstBad neg tl):readE' tl bl neg fr=if fr=true∧(isDec bl=false∨bl=[48]∨bl=[49]) then 1 else if 600<tl.length∨600<bl.length then 4 else if fr=true∧Nat.gcd (decVal tl) (decVal bl)≠1 then 1 else 0:=by
 unfold readE'
 exact if_neg h
theorem toList_is (s:ByteArray) (l:List UInt8):(s.toList==l)=decide (s.data.toList=l):=by
 rw [ByteArray.toList_eq,Bool.eq_iff_iff]
 simp
theorem strip_list (a:ByteArray) (h0:0<a.size) (neg:Bool) (hn:(((a[0]'h0).toNat:Int)==45)=neg) :
  a.data.toList=sgnT neg (absT a neg).data.toList∧(neg=false→(absT a neg).data.toList.head? ≠ some 45):=by
 have hlen:a.data.toList.length=a.size:=by simp
 have hlc:a.data.toList=(a[0]'h0) :: a.data.toList.drop 1:=by
  have h9:0<a.data.toList.length:=by omega
  have e:=List.drop_eq_getElem_cons h9
  rw [List.drop_zero] at e
  exact e
 cases neg
 ·refine ⟨rfl,fun _ => ?_⟩
  show a.data.toList.head? ≠ some 45
  rw [hlc]
  rw [beq_eq_false_iff_ne] at hn
  intro e
  have:a[0]'h0=45:=by simpa using e
  exact hn (by rw [this];rfl)
 ·refine ⟨?_,fun h=>by cases h⟩
  have hc:a[0]'h0=45:=by
   rw [beq_iff_eq] at hn
   exact UInt8.toNat_inj.1 (by have:((45:UInt8).toNat:Int)=45:=rfl;omega)
  show a.data.toList=45 :: (a.extract 1 a.size).data.toList
  rw [ext_list,List.take_of_length_le (by rw [List.length_drop];omega),←hc]
  exact hlc
theorem NumT.ofParts {t:ByteArray} {tl bl:List UInt8} (ht:t.data.toList=tl++47 :: bl) (h1:isDec tl=true) (h2:isDec bl=true) (h49:bl≠[49]) :
  NumT t false (decVal tl) (decVal bl):=by
 unfold NumT tailT sgnT
 have hne:decVal bl≠1:=fun e=>h49 (by rw [←dec_decVal bl h2,e];decide +kernel)
 rw [dec_decVal tl h1,dec_decVal bl h2,if_neg hne]
 exact ht
theorem slash_split {l:List UInt8} (h:slashL l<l.length):l=l.take (slashL l)++47 :: l.drop (slashL l+1):=by
 rcases slash_cases l with h1 | ⟨t,r,rfl,h1⟩
 ·rw [slashL_none h1] at h
  omega
 ·rw [slashL_some h1,List.take_left,←List.drop_drop,List.drop_left]
  rfl
set_option maxHeartbeats 8000000 in
set_option maxRecDepth 100000 in
theorem rCheck_any (a:ByteArray) (w:World) (ha:a.size≤9223372036854775807) :
  Calls Tryz.prog 10 #[.string a] w (RetC w (readE a.data.toList)):=by
 obtain ⟨X,hX⟩:∃ X,X=readE a.data.toList:=⟨_,rfl⟩
 rw [←hX]
 by_cases hz0:a.size=0
 ·have hl:a.data.toList=[]:=List.eq_nil_of_length_eq_zero (by simpa using hz0)
  have h1:X=1:=by rw [hX,hl];rfl
  obtain ⟨k,hk⟩:∃ k,k=slashL a.data.toList:=⟨_,rfl⟩
  have hk0:k=0:=by rw [hk,hl];rfl
  have hsl:=rslash_any a w (by omega)
  rw [←hk] at hsl
  have HSL:=Lib.hid hsl
  obtain ⟨T1,hT1⟩:∃ T1,a.extract 0 k=T1:=⟨_,rfl⟩
  have hdf:=rdecimalForm_any T1 w (by rw [←hT1];simp;omega)
  have hd0:isDec T1.data.toList=false:=by
   have:T1.data.toList=[]:=by rw [←hT1,ext_list,hl];simp
   rw [this]
   rfl
  rw [hd0] at hdf
  have HDF:=Lib.hid hdf
  have g1:(0:Int)≤(k:Int):=by omega
  have g2:(k:Int)≤(a.size:Int):=by omega
  have HR:=Lib.hid (RetC.same w 1)
  have d0:decide (0<a.size)=false:=by simp only [decide_eq_false_iff_not];omega
  subst h1
  clear hX hl hsl hdf hd0 hk hk0 hz0
  go_enter Tryz.func10,Tryz.ntmps10
  go_wp2_with fail
  refine HSL.out.mono ?_
  rintro e w1 ⟨rfl,rfl⟩
  go_wp2_with fail
  refine HDF.out.mono ?_
  rintro e w1 ⟨rfl,rfl⟩
  go_wp2
  go_ret
  exact HR.out
 ·have h0:0<a.size:=by omega
  obtain ⟨neg,hhd⟩:∃ neg,(((a[0]'h0).toNat:Int)==45)=neg:=⟨_,rfl⟩
  obtain ⟨hstr,hnn⟩:=strip_list a h0 neg hhd
  obtain ⟨c0,hc0⟩:∃ c0:Nat,(a[0]'h0).toNat=c0:=⟨_,rfl⟩
  rw [hc0] at hhd
  have d0:decide (0<a.size)=true:=by simpa using h0
  have hsz:=absT_size a neg
  obtain ⟨t,ht⟩:∃ t,t=absT a neg:=⟨_,rfl⟩
  rw [←ht] at hstr hnn hsz
  obtain ⟨k,hk⟩:∃ k,k=slashL t.data.toList:=⟨_,rfl⟩
  have hread:=read_parts hstr hnn
  rw [←hk] at hread
  have hlen:t.data.toList.length=t.size:=by simp
  have hkt:k≤t.size:=by
   rw [hk,←hlen]
   rcases slash_cases t.data.toList with h1 | ⟨u,r,h2,h1⟩
   ·rw [slashL_none h1];exact Nat.le_refl _
   ·rw [h2,slashL_some h1,List.length_append];omega
  have hsplit:k<t.size→t.data.toList=t.data.toList.take k++47 :: t.data.toList.drop (k+1):=by
   intro h
   have:=slash_split (l:=t.data.toList) (by rw [←hk,hlen];exact h)
   rw [←hk] at this
   exact this
  have hsla:=rslash_any t w (by omega)
  rw [←hk] at hsla
  have HSL:=Lib.hid hsla
  obtain ⟨T1,hT1⟩:∃ T1,t.extract 0 k=T1:=⟨_,rfl⟩
  obtain ⟨kk,hkk⟩:∃ kk,kk=k+1:=⟨_,rfl⟩
  obtain ⟨T2,hT2⟩:∃ T2,t.extract kk t.size=T2:=⟨_,rfl⟩
  have l1:T1.data.toList=t.data.toList.take k:=by rw [←hT1,ext_list,List.drop_zero,Nat.sub_zero]
  have l2:T2.data.toList=t.data.toList.drop (k+1):=by
   rw [←hT2,ext_list,hkk]
   exact List.take_of_length_le (by rw [List.length_drop];omega)
  obtain ⟨tl,htl⟩:∃ tl,tl=T1.data.toList:=⟨_,rfl⟩
  obtain ⟨bl,hbl⟩:∃ bl,bl=T2.data.toList:=⟨_,rfl⟩
  have hz1:T1.size≤9223372036854775807:=by rw [←hT1];simp;omega
  have hz2:T2.size≤9223372036854775807:=by rw [←hT2];simp;omega
  rw [←l1,←l2,←htl,←hbl,hlen] at hread
  rw [←l1,←l2,←htl,←hbl] at hsplit
  have htll:tl.length=k:=by rw [htl,l1,List.length_take];omega
  have hbll:bl.length=t.size - (k+1):=by rw [hbl,l2,List.length_drop];omega
  have s1:(T1.toList==[48])=decide (tl=[48]):=by rw [toList_is,htl]
  have s2:(T2.toList==[48])=decide (bl=[48]):=by rw [toList_is,hbl]
  have s3:(T2.toList==[49])=decide (bl=[49]):=by rw [toList_is,hbl]
  have hf1:=rdecimalForm_any T1 w hz1
  have hf2:=rdecimalForm_any T2 w hz2
  rw [←htl] at hf1
  rw [←hbl] at hf2
  have HF1:=Lib.hid hf1
  have HF2:=Lib.hid hf2
  obtain ⟨q,hq⟩:∃ q:Int,q=(t.size:Int) - (k:Int) - 1:=⟨_,rfl⟩
  obtain ⟨m,hm⟩:∃ m:Nat,m=t.size - k:=⟨_,rfl⟩
  have em:(t.size:Int) - (k:Int)=(m:Int):=by omega
  have eq1:(m:Int) - 1=q:=by omega
  have hqb : -1≤q∧q≤9223372036854775807:=by omega
  have hblq:(k<t.size→(bl.length:Int)=q)∧(¬ k<t.size→q = -1∧bl.length=0):=by omega
  have f1:k<t.size→IntKind.i64.wrap ((k:Int)+1)=(kk:Int):=fun h=>by rw [IntWalk.i64_in _ (by omega)];omega
  have HF1C:=Lib.hid f1
  clear f1
  have f2:IntKind.i64.wrap ((t.size:Int) - (k:Int))=(m:Int):=by rw [IntWalk.i64_in _ (by omega)];omega
  have f3:IntKind.i64.wrap ((m:Int) - 1)=q:=by rw [IntWalk.i64_in _ (by omega)];omega
  have g1:(0:Int)≤(k:Int):=by omega
  have g2:(k:Int)≤(t.size:Int):=by omega
  have g3:(0:Int)≤(kk:Int):=by omega
  have g4:k<t.size→(kk:Int)≤(t.size:Int):=by omega
  have ht5:t.size≤9223372036854775807:=by omega
  have hs1:(1:Int)≤(a.size:Int):=by omega
  rw [hread] at hX
  have HX:=Lib.hid hX
  clear hX hread hstr hnn hlen hk hkk l1 l2 htl hbl hsla hf1 hf2 hq hm hz0 hz1 hz2 hsz
  have HTL:=Lib.hid htll
  have HBQ:=Lib.hid hblq
  have HSP:=Lib.hid hsplit
  have hte:=ht
  unfold absT at hte
  clear ht htll hbll hblq hsplit
  cases neg
  ·simp only [Bool.false_eq_true,if_false] at hte
   subst hte
   have hcase:(isDec tl=false∧X=1)∨(isDec tl=true∧Hid (¬ FirstBad false tl)):=by
    cases h:isDec tl
    ·exact .inl ⟨rfl,by rw [HX.out];unfold readE';rw [if_pos (.inl h)]⟩
    ·refine .inr ⟨rfl,?_⟩
     rintro (h9 | ⟨h9,_⟩)
     ·rw [h] at h9;cases h9
     ·cases h9
   go_enter Tryz.func10,Tryz.ntmps10
   go_wp2_with fail
   refine HSL.out.mono ?_
   rintro e w1 ⟨rfl,rfl⟩
   go_wp2_with fail
   refine HF1.out.mono ?_
   rintro e w1 ⟨rfl,rfl⟩
   rcases hcase with ⟨hD1,hr⟩ | ⟨hD1,HFIRST⟩
   ·have HR:=Lib.hid (RetC.eq (w:=w) hr)
    clear hr
    go_wp2
    go_ret
    exact HR.out
   ·by_cases hfr:k<t.size
    ·have d4:decide (k<t.size)=true:=by simpa using hfr
     have g5:=g4 hfr
     have f1:=HF1C.out hfr
     have hX2:X=readE' tl bl false true:=by rw [HX.out,d4]
     have HX2:=Lib.hid hX2
     have HFR:=Lib.hid hfr
     have hqq:=HBQ.out.1 hfr
     have HQQ:=Lib.hid hqq
     clear hX2 hfr g4 hqq
     go_wp2_with fail
     refine HF2.out.mono ?_
     rintro e w1 ⟨rfl,rfl⟩
     by_cases hbad:isDec bl=false∨bl=[48]∨bl=[49]
     ·have hr:X=1:=by rw [HX2.out,read_first HFIRST.out,if_pos ⟨rfl,hbad⟩]
      have HR:=Lib.hid (RetC.eq (w:=w) hr)
      have hc:isDec bl=false∨(isDec bl=true∧decide (bl=[48])=true)∨(isDec bl=true∧decide (bl=[48])=false∧decide (bl=[49])=true):=by
       rcases hbad with h | h | h
       ·exact .inl h
       ·exact .inr (.inl ⟨by rw [h];rfl,by rw [h];rfl⟩)
       ·exact .inr (.inr ⟨by rw [h];rfl,by rw [h];rfl,by rw [h];rfl⟩)
      clear hr hbad
      rcases hc with b1 | ⟨b1,b2⟩ | ⟨b1,b2,b3⟩
      all_goals
       go_wp2
       go_ret
       exact HR.out
     ·have b1:isDec bl=true:=by
       cases h:isDec bl
       ·exact absurd (.inl h) hbad
       ·rfl
      have n2:bl≠[48]:=fun h=>hbad (.inr (.inl h))
      have n3:bl≠[49]:=fun h=>hbad (.inr (.inr h))
      have b2:decide (bl=[48])=false:=decide_eq_false n2
      have b3:decide (bl=[49])=false:=decide_eq_false n3
      have HB1:=Lib.hid hbad
      by_cases hlg:600<tl.length∨600<bl.length
      ·have hr:X=4:=by rw [HX2.out,read_first HFIRST.out,if_neg (fun h=>HB1.out h.2),if_pos hlg]
       have HR:=Lib.hid (RetC.eq (w:=w) hr)
       have hc:decide ((600:Int)<(k:Int))=true∨(decide ((600:Int)<(k:Int))=false∧decide ((600:Int)<q)=true):=by
        have:=HTL.out
        have:=HQQ.out
        simp only [decide_eq_true_eq,decide_eq_false_iff_not]
        omega
       clear hr hlg n2 n3 hbad
       rcases hc with d6 | ⟨d6,d7⟩
       all_goals
        go_wp2
        go_ret
        exact HR.out
      ·obtain ⟨g,hgd⟩:∃ g,Nat.gcd (decVal tl) (decVal bl)=g:=⟨_,rfl⟩
       have hX3:(g=1→X=0)∧(g≠1→X=1):=by
        rw [HX2.out,read_first HFIRST.out,if_neg (fun h=>HB1.out h.2),if_neg hlg,←hgd]
        exact ⟨fun h=>if_neg (fun h9=>h9.2 h),fun h=>if_pos ⟨rfl,h⟩⟩
       have hnum:=NumT.ofParts (HSP.out HFR.out) hD1 b1 n3
       have hy0:=decVal_pos b1 n2
       have hc1:(Lib.decDigits (decVal tl)).length≤600:=by rw [dec_decVal tl hD1];omega
       have hc2:(Lib.decDigits (decVal bl)).length≤600:=by rw [dec_decVal bl b1];omega
       have d6:decide ((600:Int)<(k:Int))=false:=by have:=HTL.out;simp only [decide_eq_false_iff_not];omega
       have d7:decide ((600:Int)<q)=false:=by have:=HQQ.out;simp only [decide_eq_false_iff_not];omega
       generalize decVal tl=x at *
       generalize decVal bl=y at *
       have hl1:=Nat.le_trans (digs_dec_len x) hc1
       have hl2:=Nat.le_trans (digs_dec_len y) hc2
       have HL1:=Lib.hid hl1
       have HL2:=Lib.hid hl2
       have HP:=Lib.hid (rparts_any t false x y w hnum (fun h=>by cases h) hy0 (by have:=HTL.out;have:=HQQ.out;omega))
       have HX3:=Lib.hid hX3
       have HGD:=Lib.hid hgd
       clear hgd hX3 hnum hy0 hc1 hc2 hl1 hl2 hbad hlg n2 n3
       go_wp2_with fail
       refine HP.out.mono ?_
       rintro e w1 ⟨A1,n1,c1,A2,n2,c2,rfl,hd1,hd2,hb1⟩
       have hB1:Below w1.heap.size w1 ((w1.alloc (.cells #[.bool false,.slice A1 n1 c1] 84)).alloc (.cells #[.bool false,.slice A2 n2 c2] 84)):=((Below.refl _ _).alloc (Nat.le_refl _) _).alloc (by simp) _
       have hx1:CBlk ((w1.alloc (.cells #[.bool false,.slice A1 n1 c1] 84)).alloc (.cells #[.bool false,.slice A2 n2 c2] 84)) w1.heap.size #[.bool false,.slice A1 n1 c1] 84:=(CBlk.new w1 _ _ _ rfl).below ((Below.refl _ _).alloc (Nat.le_refl _) _) (by simp)
       have hx2:CBlk ((w1.alloc (.cells #[.bool false,.slice A1 n1 c1] 84)).alloc (.cells #[.bool false,.slice A2 n2 c2] 84)) (w1.heap.size+1) #[.bool false,.slice A2 n2 c2] 84:=CBlk.new (w1.alloc (.cells #[.bool false,.slice A1 n1 c1] 84)) _ _ (w1.heap.size+1) (by simp)
       have hn1:n1≤1048576:=by rw [←hd1.len];have:=HL1.out;omega
       have hn2:n2≤1048576:=by rw [←hd2.len];have:=HL2.out;omega
       replace hd1:=hd1.later hB1
       replace hd2:=hd2.later hB1
       have hBB:=hb1.trans (hB1.mono hb1.size)
       have HBB:=Lib.hid hBB
       clear hB1 hb1 hBB
       go_upto_region 13 with (fail)
       generalize ((w1.alloc (.cells #[.bool false,.slice A1 n1 c1] 84)).alloc (.cells #[.bool false,.slice A2 n2 c2] 84))=w3 at *
       have q0:w3.cell? ⟨w1.heap.size,0,none⟩=some (.bool false):=hx1.cell 0
       have q1:w3.cell? ⟨w1.heap.size,1,none⟩=some (.slice A1 n1 c1):=hx1.cell 1
       have q2:w3.cell? ⟨w1.heap.size+1,0,none⟩=some (.bool false):=hx2.cell 0
       have q3:w3.cell? ⟨w1.heap.size+1,1,none⟩=some (.slice A2 n2 c2):=hx2.cell 1
       have hcg:=rcommon_any A1 A2 n1 c1 n2 c2 x y w3 hd1 hd2 hn1 hn2
       rw [HGD.out] at hcg
       have HG:=Lib.hid hcg
       clear hcg
       clear hx1 hx2 hd1 hd2 hn1 hn2
       go_wp2_with fail
       refine HG.out.mono ?_
       rintro e w4 ⟨A5,n5,c5,rfl,hd5,hb5⟩
       have hbw:=HBB.out.trans (hb5.mono HBB.out.size)
       have hl5:=hd5.len
       clear HGD HP hb5 q0 q1 q2 q3
       by_cases h51:n5=1
       ·subst h51
        obtain ⟨v,hv⟩:=List.length_eq_one_iff.1 hl5
        have hgv:g=v:=by rw [←val_digs g,hv,val_single]
        subst hgv
        rw [hv] at hd5
        obtain ⟨ad,hkl,rfl,hbb,hcell⟩:=hd5.rd.cellM (k:=0) (by omega)
        replace hcell:w4.cell? ad=some (.int .i64 (g:Int)):=hcell
        have HBW:=Lib.hid hbw
        by_cases hg1:g=1
        ·have hr:X=0:=HX3.out.1 hg1
         have HR:=Lib.hid (RetC.at hr hbw)
         have d8:((g:Int)==1)=true:=by rw [beq_iff_eq];omega
         clear hr hbw hg1 hv hl5 HX3
         go_wp2
         go_ret
         exact HR.out
        ·have hr:X=1:=HX3.out.2 hg1
         have HR:=Lib.hid (RetC.at hr hbw)
         have d8:((g:Int)==1)=false:=by rw [beq_eq_false_iff_ne];omega
         clear hr hbw hg1 hv hl5 HX3
         go_wp2
         go_ret
         exact HR.out
       ·have hg1:g≠1:=fun e=>h51 (by rw [←hl5,e,digs_single (by omega) (by decide)];rfl)
        have hr:X=1:=HX3.out.2 hg1
        have HR:=Lib.hid (RetC.at hr hbw)
        have d8:((n5:Int)==1)=false:=by rw [beq_eq_false_iff_ne];omega
        clear hr hbw hg1 hl5 HX3 hd5
        go_wp2
        go_ret
        exact HR.out
    ·have d4:decide (k<t.size)=false:=decide_eq_false hfr
     have hX2:X=readE' tl bl false false:=by rw [HX.out,d4]
     have HX2:=Lib.hid hX2
     obtain ⟨hqm,hb0⟩:=HBQ.out.2 hfr
     have HB0:=Lib.hid hb0
     subst hqm
     clear hX2 hb0 hfr g4
     by_cases hlg:600<tl.length
     ·have hr:X=4:=by rw [HX2.out,read_first HFIRST.out,if_neg (fun h=>by cases h.1),if_pos (.inl hlg)]
      have HR:=Lib.hid (RetC.eq (w:=w) hr)
      have d6:decide ((600:Int)<(k:Int))=true:=by have:=HTL.out;simp only [decide_eq_true_eq];omega
      clear hr hlg
      go_wp2
      go_ret
      exact HR.out
     ·have hr:X=0:=by rw [HX2.out,read_first HFIRST.out,if_neg (fun h=>by cases h.1),if_neg (by have:=HB0.out;omega),if_neg (fun h=>by cases h.1)]
      have HR:=Lib.hid (RetC.eq (w:=w) hr)
      have d6:decide ((600:Int)<(k:Int))=false:=by have:=HTL.out;simp only [decide_eq_false_iff_not];omega
      clear hr hlg
      go_wp2
      go_ret
      exact HR.out
  ·simp only [if_true] at hte
   have hte2:=hte.symm
   clear hte
   have hcase:(isDec tl=false∧X=1)∨(isDec tl=true∧decide (tl=[48])=true∧X=1)∨(isDec tl=true∧decide (tl=[48])=false∧Hid (¬ FirstBad true tl)):=by
    cases h:isDec tl
    ·exact .inl ⟨rfl,by rw [HX.out];unfold readE';rw [if_pos (.inl h)]⟩
    ·by_cases hz:tl=[48]
     ·exact .inr (.inl ⟨rfl,decide_eq_true hz,by rw [HX.out];unfold readE';rw [if_pos (.inr ⟨rfl,hz⟩)]⟩)
     ·refine .inr (.inr ⟨rfl,decide_eq_false hz,?_⟩)
      rintro (h9 | ⟨_,h9⟩)
      ·rw [h] at h9;cases h9
      ·exact hz h9
   go_enter Tryz.func10,Tryz.ntmps10
   go_wp2_with fail
   refine HSL.out.mono ?_
   rintro e w1 ⟨rfl,rfl⟩
   go_wp2_with fail
   refine HF1.out.mono ?_
   rintro e w1 ⟨rfl,rfl⟩
   rcases hcase with ⟨hD1,hr⟩ | ⟨hD1,hz,hr⟩ | ⟨hD1,hz,HFIRST⟩
   ·have HR:=Lib.hid (RetC.eq (w:=w) hr)
    clear hr
    go_wp2
    go_ret
    exact HR.out
   ·have HR:=Lib.hid (RetC.eq (w:=w) hr)
    clear hr
    go_wp2
    go_ret
    exact HR.out
   ·by_cases hfr:k<t.size
    ·have d4:decide (k<t.size)=true:=by simpa using hfr
     have g5:=g4 hfr
     have f1:=HF1C.out hfr
     have hX2:X=readE' tl bl true true:=by rw [HX.out,d4]
     have HX2:=Lib.hid hX2
     have HFR:=Lib.hid hfr
     have hqq:=HBQ.out.1 hfr
     have HQQ:=Lib.hid hqq
     clear hX2 hfr g4 hqq
     go_wp2_with fail
     refine HF2.out.mono ?_
     rintro e w1 ⟨rfl,rfl⟩
     by_cases hbad:isDec bl=false∨bl=[48]∨bl=[49]
     ·have hr:X=1:=by rw [HX2.out,read_first HFIRST.out,if_pos ⟨rfl,hbad⟩]
      have HR:=Lib.hid (RetC.eq (w:=w) hr)
      have hc:isDec bl=false∨(isDec bl=true∧decide (bl=[48])=true)∨(isDec bl=true∧decide (bl=[48])=false∧decide (bl=[49])=true):=by
       rcases hbad with h | h | h
       ·exact .inl h
       ·exact .inr (.inl ⟨by rw [h];rfl,by rw [h];rfl⟩)
       ·exact .inr (.inr ⟨by rw [h];rfl,by rw [h];rfl,by rw [h];rfl⟩)
      clear hr hbad
      rcases hc with b1 | ⟨b1,b2⟩ | ⟨b1,b2,b3⟩
      all_goals
       go_wp2
       go_ret
       exact HR.out
     ·have b1:isDec bl=true:=by
       cases h:isDec bl
       ·exact absurd (.inl h) hbad
       ·rfl
      have n2:bl≠[48]:=fun h=>hbad (.inr (.inl h))
      have n3:bl≠[49]:=fun h=>hbad (.inr (.inr h))
      have b2:decide (bl=[48])=false:=decide_eq_false n2
      have b3:decide (bl=[49])=false:=decide_eq_false n3
      have HB1:=Lib.hid hbad
      by_cases hlg:600<tl.length∨600<bl.length
      ·have hr:X=4:=by rw [HX2.out,read_first HFIRST.out,if_neg (fun h=>HB1.out h.2),if_pos hlg]
       have HR:=Lib.hid (RetC.eq (w:=w) hr)
       have hc:decide ((600:Int)<(k:Int))=true∨(decide ((600:Int)<(k:Int))=false∧decide ((600:Int)<q)=true):=by
        have:=HTL.out
        have:=HQQ.out
        simp only [decide_eq_true_eq,decide_eq_false_iff_not]
        omega
       clear hr hlg n2 n3 hbad
       rcases hc with d6 | ⟨d6,d7⟩
       all_goals
        go_wp2
        go_ret
        exact HR.out
      ·obtain ⟨g,hgd⟩:∃ g,Nat.gcd (decVal tl) (decVal bl)=g:=⟨_,rfl⟩
       have hX3:(g=1→X=0)∧(g≠1→X=1):=by
        rw [HX2.out,read_first HFIRST.out,if_neg (fun h=>HB1.out h.2),if_neg hlg,←hgd]
        exact ⟨fun h=>if_neg (fun h9=>h9.2 h),fun h=>if_pos ⟨rfl,h⟩⟩
       have hnum:=NumT.ofParts (HSP.out HFR.out) hD1 b1 n3
       have hy0:=decVal_pos b1 n2
       have hc1:(Lib.decDigits (decVal tl)).length≤600:=by rw [dec_decVal tl hD1];omega
       have hc2:(Lib.decDigits (decVal bl)).length≤600:=by rw [dec_decVal bl b1];omega
       have d6:decide ((600:Int)<(k:Int))=false:=by have:=HTL.out;simp only [decide_eq_false_iff_not];omega
       have d7:decide ((600:Int)<q)=false:=by have:=HQQ.out;simp only [decide_eq_false_iff_not];omega
       generalize decVal tl=x at *
       generalize decVal bl=y at *
       have hl1:=Nat.le_trans (digs_dec_len x) hc1
       have hl2:=Nat.le_trans (digs_dec_len y) hc2
       have HL1:=Lib.hid hl1
       have HL2:=Lib.hid hl2
       have HP:=Lib.hid (rparts_any t false x y w hnum (fun h=>by cases h) hy0 (by have:=HTL.out;have:=HQQ.out;omega))
       have HX3:=Lib.hid hX3
       have HGD:=Lib.hid hgd
       clear hgd hX3 hnum hy0 hc1 hc2 hl1 hl2 hbad hlg n2 n3
       go_wp2_with fail
       refine HP.out.mono ?_
       rintro e w1 ⟨A1,n1,c1,A2,n2,c2,rfl,hd1,hd2,hb1⟩
       have hB1:Below w1.heap.size w1 ((w1.alloc (.cells #[.bool false,.slice A1 n1 c1] 84)).alloc (.cells #[.bool false,.slice A2 n2 c2] 84)):=((Below.refl _ _).alloc (Nat.le_refl _) _).alloc (by simp) _
       have hx1:CBlk ((w1.alloc (.cells #[.bool false,.slice A1 n1 c1] 84)).alloc (.cells #[.bool false,.slice A2 n2 c2] 84)) w1.heap.size #[.bool false,.slice A1 n1 c1] 84:=(CBlk.new w1 _ _ _ rfl).below ((Below.refl _ _).alloc (Nat.le_refl _) _) (by simp)
       have hx2:CBlk ((w1.alloc (.cells #[.bool false,.slice A1 n1 c1] 84)).alloc (.cells #[.bool false,.slice A2 n2 c2] 84)) (w1.heap.size+1) #[.bool false,.slice A2 n2 c2] 84:=CBlk.new (w1.alloc (.cells #[.bool false,.slice A1 n1 c1] 84)) _ _ (w1.heap.size+1) (by simp)
       have hn1:n1≤1048576:=by rw [←hd1.len];have:=HL1.out;omega
       have hn2:n2≤1048576:=by rw [←hd2.len];have:=HL2.out;omega
       replace hd1:=hd1.later hB1
       replace hd2:=hd2.later hB1
       have hBB:=hb1.trans (hB1.mono hb1.size)
       have HBB:=Lib.hid hBB
       clear hB1 hb1 hBB
       go_upto_region 13 with (fail)
       generalize ((w1.alloc (.cells #[.bool false,.slice A1 n1 c1] 84)).alloc (.cells #[.bool false,.slice A2 n2 c2] 84))=w3 at *
       have q0:w3.cell? ⟨w1.heap.size,0,none⟩=some (.bool false):=hx1.cell 0
       have q1:w3.cell? ⟨w1.heap.size,1,none⟩=some (.slice A1 n1 c1):=hx1.cell 1
       have q2:w3.cell? ⟨w1.heap.size+1,0,none⟩=some (.bool false):=hx2.cell 0
       have q3:w3.cell? ⟨w1.heap.size+1,1,none⟩=some (.slice A2 n2 c2):=hx2.cell 1
       have hcg:=rcommon_any A1 A2 n1 c1 n2 c2 x y w3 hd1 hd2 hn1 hn2
       rw [HGD.out] at hcg
       have HG:=Lib.hid hcg
       clear hcg
       clear hx1 hx2 hd1 hd2 hn1 hn2
       go_wp2_with fail
       refine HG.out.mono ?_
       rintro e w4 ⟨A5,n5,c5,rfl,hd5,hb5⟩
       have hbw:=HBB.out.trans (hb5.mono HBB.out.size)
       have hl5:=hd5.len
       clear HGD HP hb5 q0 q1 q2 q3
       by_cases h51:n5=1
       ·subst h51
        obtain ⟨v,hv⟩:=List.length_eq_one_iff.1 hl5
        have hgv:g=v:=by rw [←val_digs g,hv,val_single]
        subst hgv
        rw [hv] at hd5
        obtain ⟨ad,hkl,rfl,hbb,hcell⟩:=hd5.rd.cellM (k:=0) (by omega)
        replace hcell:w4.cell? ad=some (.int .i64 (g:Int)):=hcell
        have HBW:=Lib.hid hbw
        by_cases hg1:g=1
        ·have hr:X=0:=HX3.out.1 hg1
         have HR:=Lib.hid (RetC.at hr hbw)
         have d8:((g:Int)==1)=true:=by rw [beq_iff_eq];omega
         clear hr hbw hg1 hv hl5 HX3
         go_wp2
         go_ret
         exact HR.out
        ·have hr:X=1:=HX3.out.2 hg1
         have HR:=Lib.hid (RetC.at hr hbw)
         have d8:((g:Int)==1)=false:=by rw [beq_eq_false_iff_ne];omega
         clear hr hbw hg1 hv hl5 HX3
         go_wp2
         go_ret
         exact HR.out
       ·have hg1:g≠1:=fun e=>h51 (by rw [←hl5,e,digs_single (by omega) (by decide)];rfl)
        have hr:X=1:=HX3.out.2 hg1
        have HR:=Lib.hid (RetC.at hr hbw)
        have d8:((n5:Int)==1)=false:=by rw [beq_eq_false_iff_ne];omega
        clear hr hbw hg1 hl5 HX3 hd5
        go_wp2
        go_ret
        exact HR.out
    ·have d4:decide (k<t.size)=false:=decide_eq_false hfr
     have hX2:X=readE' tl bl true false:=by rw [HX.out,d4]
     have HX2:=Lib.hid hX2
     obtain ⟨hqm,hb0⟩:=HBQ.out.2 hfr
     have HB0:=Lib.hid hb0
     subst hqm
     clear hX2 hb0 hfr g4
     by_cases hlg:600<tl.length
     ·have hr:X=4:=by rw [HX2.out,read_first HFIRST.out,if_neg (fun h=>by cases h.1),if_pos (.inl hlg)]
      have HR:=Lib.hid (RetC.eq (w:=w) hr)
      have d6:decide ((600:Int)<(k:Int))=true:=by have:=HTL.out;simp only [decide_eq_true_eq];omega
      clear hr hlg
      go_wp2
      go_ret
      exact HR.out
     ·have hr:X=0:=by rw [HX2.out,read_first HFIRST.out,if_neg (fun h=>by cases h.1),if_neg (by have:=HB0.out;omega),if_neg (fun h=>by cases h.1)]
      have HR:=Lib.hid (RetC.eq (w:=w) hr)
      have d6:decide ((600:Int)<(k:Int))=false:=by have:=HTL.out;simp only [decide_eq_false_iff_not];omega
      clear hr hlg
      go_wp2
      go_ret
      exact HR.out
end Go.Proofs.YteajibbphcfmeaaGreatDoor
namespace Go.Proofs.YteajibbphcfmeaaGreatDoor
open Go.RowKit Bn
open Flt
theorem readQ_low {l:List UInt8} (h:readE l=0):LowQ (readQ l):=⟨readQ_bot h,readQ_gcd h,readQ_neg h⟩
theorem sgl_zero_read:fin Ieee.single 0=true∧key Ieee.single 0=0:=by decide +kernel
end Go.Proofs.YteajibbphcfmeaaGreatDoor
namespace Go.Proofs.YteajibbphcfmeaaGreatDoor
open Go.RowKit Dn
theorem small_read {l:List UInt8} {N:Nat} (h:readE l=0) (hN:N=600):Small (readQ l) N:=by
 obtain ⟨h1,h2,_,hf⟩:=readE_zero h
 rw [←hN] at h2 hf
 have hN1:1≤N:=by omega
 clear hN
 unfold readQ Small
 rw [if_pos h]
 refine ⟨Nat.lt_of_lt_of_le (decVal_lt _ (isDec_digits h1)) (Nat.pow_le_pow_right (by omega) h2),?_⟩
 cases hb:fracL l
 ·simp only [Bool.false_eq_true,if_false]
  have h9:10 ^ 1≤10 ^ N:=Nat.pow_le_pow_right (by omega) hN1
  omega
 ·obtain ⟨h3,_,_,h4,_⟩:=hf hb
  simp only [if_true]
  exact Nat.lt_of_lt_of_le (decVal_lt _ (isDec_digits h3)) (Nat.pow_le_pow_right (by omega) h4)
theorem num_read {a:ByteArray} (h:readE a.data.toList=0):NumQ a (readQ a.data.toList):=⟨(write_readQ _ h).symm,readQ_low h⟩
theorem size_read {a:ByteArray} (h:readE a.data.toList=0):a.size≤1202:=by
 obtain ⟨N,hN⟩:∃ N:Nat,N=600:=⟨_,rfl⟩
 have:=(num_read h).size (small_read h hN) (by omega)
 omega
end Go.Proofs.YteajibbphcfmeaaGreatDoor
namespace Go.Proofs.YteajibbphcfmeaaGreatDoor
open Go.RowKit Bn
open Flt
end Go.Proofs.YteajibbphcfmeaaGreatDoor
namespace Go.Proofs.YteajibbphcfmeaaGreatDoor
open Go.RowKit Dn
def twoQ:Q:=⟨false,2,1⟩
theorem two_num:NumQ ⟨#[50]⟩ twoQ:=⟨by decide +kernel,by decide,by decide,fun h=>by cases h⟩
theorem rec_two:recQ twoQ=halfQ:=rec_pos two_num.2 rfl (by decide)
end Go.Proofs.YteajibbphcfmeaaGreatDoor
namespace Go.Proofs.YteajibbphcfmeaaGreatDoor
open Go.RowKit Bn
open Flt
instance:DecidableEq Q:=fun a b=>decidable_of_iff (a.neg=b.neg∧a.top=b.top∧a.bot=b.bot) ⟨fun h=>by
 obtain ⟨x,y,z⟩:=a
 obtain ⟨x',y',z'⟩:=b
 obtain ⟨rfl,rfl,rfl⟩:=h
 rfl,fun h=>by subst h;exact ⟨rfl,rfl,rfl⟩⟩
end Go.Proofs.YteajibbphcfmeaaGreatDoor
