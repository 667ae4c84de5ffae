/- Contract of the reference's Check of whatever text. -/
import Derived.Test.YtjhgadajpliclaaGreatDoorORb22
namespace Go.Proofs.YtjhgadajpliclaaGreatDoor
open Go.RowKit Dn
def RetC (w:World) (x:Int) (e:Ending) (w':World):Prop:=e = .returned (.int .i64 x)∧Below w.heap.size w w'
theorem RetC.same (w:World) (x:Int):RetC w x (.returned (.int .i64 x)) w:=⟨rfl,Below.refl _ _⟩
theorem RetC.eq {w:World} {x y:Int} (h:x=y):RetC w x (.returned (.int .i64 y)) w:=⟨by rw [h],Below.refl _ _⟩
theorem RetC.at {w w':World} {x y:Int} (h:x=y) (hb:Below w.heap.size w w'):RetC w x (.returned (.int .i64 y)) w':=⟨by rw [h],hb⟩
def FirstBad (neg:Bool) (tl:List UInt8):Prop:=isDec tl=false∨(neg=true∧tl=[48])
theorem read_first {neg fr:Bool} {tl bl:List UInt8} (h:¬ FirstBad neg tl):readE' tl bl neg fr=if fr=true∧(isDec bl=false∨bl=[48]∨bl=[49]) then 1 else if 600<tl.length∨600<bl.length then 4 else if fr=true∧Nat.gcd (decVal tl) (decVal bl)≠1 then 1 else 0:=by
 unfold readE'
 exact if_neg h
theorem toList_is (s:ByteArray) (l:List UInt8):(s.toList==l)=decide (s.data.toList=l):=by
 rw [ByteArray.toList_eq,Bool.eq_iff_iff]
 simp
theorem strip_list (a:ByteArray) (h0:0<a.size) (neg:Bool) (hn:(((a[0]'h0).toNat:Int)==45)=neg) :
  a.data.toList=sgnT neg (absT a neg).data.toList∧(neg=false→(absT a neg).data.toList.head? ≠ some 45):=by
 have hlen:a.data.toList.length=a.size:=by simp
 have hlc:a.data.toList=(a[0]'h0) :: a.data.toList.drop 1:=by
  have h9:0<a.data.toList.length:=by omega
  have e:=List.drop_eq_getElem_cons h9
  rw [List.drop_zero] at e
  exact e
 cases neg
 ·refine ⟨rfl,fun _ => ?_⟩
  show a.data.toList.head? ≠ some 45
  rw [hlc]
  rw [beq_eq_false_iff_ne] at hn
  intro e
  have:a[0]'h0=45:=by simpa using e
  exact hn (by rw [this];rfl)
 ·refine ⟨?_,fun h=>by cases h⟩
  have hc:a[0]'h0=45:=by
   rw [beq_iff_eq] at hn
   exact UInt8.toNat_inj.1 (by have:((45:UInt8).toNat:Int)=45:=rfl;omega)
  show a.data.toList=45 :: (a.extract 1 a.size).data.toList
  rw [ext_list,List.take_of_length_le (by rw [List.length_drop];omega),←hc]
  exact hlc
theorem NumT.ofParts {t:ByteArray} {tl bl:List UInt8} (ht:t.data.toList=tl++47 :: bl) (h1:isDec tl=true) (h2:isDec bl=true) (h49:bl≠[49]) :
  NumT t false (decVal tl) (decVal bl):=by
 unfold NumT tailT sgnT
 have hne:decVal bl≠1:=fun e=>h49 (by rw [←dec_decVal bl h2,e];decide +kernel)
 rw [dec_decVal tl h1,dec_decVal bl h2,if_neg hne]
 exact ht
theorem slash_split {l:List UInt8} (h:slashL l<l.length):l=l.take (slashL l)++47 :: l.drop (slashL l+1):=by
 rcases slash_cases l with h1 | ⟨t,r,rfl,h1⟩
 ·rw [slashL_none h1] at h
  omega
 ·rw [slashL_some h1,List.take_left,←List.drop_drop,List.drop_left]
  rfl
set_option maxHeartbeats 8000000 in
set_option maxRecDepth 100000 in
theorem rCheck_any (a:ByteArray) (w:World) (ha:a.size≤4294967296) :
  Calls Tryz.prog 14 #[.string a] w (RetC w (readE a.data.toList)):=by
 obtain ⟨X,hX⟩:∃ X,X=readE a.data.toList:=⟨_,rfl⟩
 rw [←hX]
 by_cases hz0:a.size=0
 ·have hl:a.data.toList=[]:=List.eq_nil_of_length_eq_zero (by simpa using hz0)
  have h1:X=1:=by rw [hX,hl];rfl
  obtain ⟨k,hk⟩:∃ k,k=slashL a.data.toList:=⟨_,rfl⟩
  have hk0:k=0:=by rw [hk,hl];rfl
  have hsl:=rslash_any a w (by omega)
  rw [←hk] at hsl
  have HSL:=Lib.hid hsl
  obtain ⟨T1,hT1⟩:∃ T1,a.extract 0 k=T1:=⟨_,rfl⟩
  have hdf:=rdecimalForm_any T1 w (by rw [←hT1];simp;omega)
  have hd0:isDec T1.data.toList=false:=by
   have:T1.data.toList=[]:=by rw [←hT1,ext_list,hl];simp
   rw [this]
   rfl
  rw [hd0] at hdf
  have HDF:=Lib.hid hdf
  have g1:(0:Int)≤(k:Int):=by omega
  have g2:(k:Int)≤(a.size:Int):=by omega
  have HR:=Lib.hid (RetC.same w 1)
  have d0:decide (0<a.size)=false:=by simp only [decide_eq_false_iff_not];omega
  subst h1
  clear hX hl hsl hdf hd0 hk hk0 hz0
  go_enter Tryz.func14,Tryz.ntmps14
  go_wp2_with fail
  refine HSL.out.mono ?_
  rintro e w1 ⟨rfl,rfl⟩
  go_wp2_with fail
  refine HDF.out.mono ?_
  rintro e w1 ⟨rfl,rfl⟩
  go_wp2
  go_ret
  exact HR.out
 ·have h0:0<a.size:=by omega
  obtain ⟨neg,hhd⟩:∃ neg,(((a[0]'h0).toNat:Int)==45)=neg:=⟨_,rfl⟩
  obtain ⟨hstr,hnn⟩:=strip_list a h0 neg hhd
  obtain ⟨c0,hc0⟩:∃ c0:Nat,(a[0]'h0).toNat=c0:=⟨_,rfl⟩
  rw [hc0] at hhd
  have d0:decide (0<a.size)=true:=by simpa using h0
  have hsz:=absT_size a neg
  obtain ⟨t,ht⟩:∃ t,t=absT a neg:=⟨_,rfl⟩
  rw [←ht] at hstr hnn hsz
  obtain ⟨k,hk⟩:∃ k,k=slashL t.data.toList:=⟨_,rfl⟩
  have hread:=read_parts hstr hnn
  rw [←hk] at hread
  have hlen:t.data.toList.length=t.size:=by simp
  have hkt:k≤t.size:=by
   rw [hk,←hlen]
   rcases slash_cases t.data.toList with h1 | ⟨u,r,h2,h1⟩
   ·rw [slashL_none h1];exact Nat.le_refl _
   ·rw [h2,slashL_some h1,List.length_append];omega
  have hsplit:k<t.size→t.data.toList=t.data.toList.take k++47 :: t.data.toList.drop (k+1):=by
   intro h
   have:=slash_split (l:=t.data.toList) (by rw [←hk,hlen];exact h)
   rw [←hk] at this
   exact this
  have hsla:=rslash_any t w (by omega)
  rw [←hk] at hsla
  have HSL:=Lib.hid hsla
  obtain ⟨T1,hT1⟩:∃ T1,t.extract 0 k=T1:=⟨_,rfl⟩
  obtain ⟨kk,hkk⟩:∃ kk,kk=k+1:=⟨_,rfl⟩
  obtain ⟨T2,hT2⟩:∃ T2,t.extract kk t.size=T2:=⟨_,rfl⟩
  have l1:T1.data.toList=t.data.toList.take k:=by rw [←hT1,ext_list,List.drop_zero,Nat.sub_zero]
  have l2:T2.data.toList=t.data.toList.drop (k+1):=by
   rw [←hT2,ext_list,hkk]
   exact List.take_of_length_le (by rw [List.length_drop];omega)
  obtain ⟨tl,htl⟩:∃ tl,tl=T1.data.toList:=⟨_,rfl⟩
  obtain ⟨bl,hbl⟩:∃ bl,bl=T2.data.toList:=⟨_,rfl⟩
  have hz1:T1.size≤1099511627776:=by rw [←hT1];simp;omega
  have hz2:T2.size≤1099511627776:=by rw [←hT2];simp;omega
  rw [←l1,←l2,←htl,←hbl,hlen] at hread
  rw [←l1,←l2,←htl,←hbl] at hsplit
  have htll:tl.length=k:=by rw [htl,l1,List.length_take];omega
  have hbll:bl.length=t.size - (k+1):=by rw [hbl,l2,List.length_drop];omega
  have s1:(T1.toList==[48])=decide (tl=[48]):=by rw [toList_is,htl]
  have s2:(T2.toList==[48])=decide (bl=[48]):=by rw [toList_is,hbl]
  have s3:(T2.toList==[49])=decide (bl=[49]):=by rw [toList_is,hbl]
  have hf1:=rdecimalForm_any T1 w hz1
  have hf2:=rdecimalForm_any T2 w hz2
  rw [←htl] at hf1
  rw [←hbl] at hf2
  have HF1:=Lib.hid hf1
  have HF2:=Lib.hid hf2
  obtain ⟨q,hq⟩:∃ q:Int,q=(t.size:Int) - (k:Int) - 1:=⟨_,rfl⟩
  obtain ⟨m,hm⟩:∃ m:Nat,m=t.size - k:=⟨_,rfl⟩
  have em:(t.size:Int) - (k:Int)=(m:Int):=by omega
  have eq1:(m:Int) - 1=q:=by omega
  have hqb : -1≤q∧q≤4294967296:=by omega
  have hblq:(k<t.size→(bl.length:Int)=q)∧(¬ k<t.size→q = -1∧bl.length=0):=by omega
  have f1:IntKind.i64.wrap ((k:Int)+1)=(kk:Int):=by rw [IntWalk.i64_in _ (by omega)];omega
  have f2:IntKind.i64.wrap ((t.size:Int) - (k:Int))=(m:Int):=by rw [IntWalk.i64_in _ (by omega)];omega
  have f3:IntKind.i64.wrap ((m:Int) - 1)=q:=by rw [IntWalk.i64_in _ (by omega)];omega
  have g1:(0:Int)≤(k:Int):=by omega
  have g2:(k:Int)≤(t.size:Int):=by omega
  have g3:(0:Int)≤(kk:Int):=by omega
  have g4:k<t.size→(kk:Int)≤(t.size:Int):=by omega
  have ht5:t.size≤4294967296:=by omega
  have hs1:(1:Int)≤(a.size:Int):=by omega
  rw [hread] at hX
  have HX:=Lib.hid hX
  clear hX hread hstr hnn hlen hk hkk l1 l2 htl hbl hsla hf1 hf2 hq hm hz0 hz1 hz2 hsz
  have HTL:=Lib.hid htll
  have HBQ:=Lib.hid hblq
  have HSP:=Lib.hid hsplit
  have hte:=ht
  unfold absT at hte
  clear ht htll hbll hblq hsplit
  cases neg
  ·simp only [Bool.false_eq_true,if_false] at hte
   subst hte
   have hcase:(isDec tl=false∧X=1)∨(isDec tl=true∧Hid (¬ FirstBad false tl)):=by
    cases h:isDec tl
    ·exact .inl ⟨rfl,by rw [HX.out];unfold readE';rw [if_pos (.inl h)]⟩
    ·refine .inr ⟨rfl,?_⟩
     rintro (h9 | ⟨h9,_⟩)
     ·rw [h] at h9;cases h9
     ·cases h9
   go_enter Tryz.func14,Tryz.ntmps14
   go_wp2_with fail
   refine HSL.out.mono ?_
   rintro e w1 ⟨rfl,rfl⟩
   go_wp2_with fail
   refine HF1.out.mono ?_
   rintro e w1 ⟨rfl,rfl⟩
   rcases hcase with ⟨hD1,hr⟩ | ⟨hD1,HFIRST⟩
   ·have HR:=Lib.hid (RetC.eq (w:=w) hr)
    clear hr
    go_wp2
    go_ret
    exact HR.out
   ·by_cases hfr:k<t.size
    ·have d4:decide (k<t.size)=true:=by simpa using hfr
     have g5:=g4 hfr
     have hX2:X=readE' tl bl false true:=by rw [HX.out,d4]
     have HX2:=Lib.hid hX2
     have HFR:=Lib.hid hfr
     have hqq:=HBQ.out.1 hfr
     have HQQ:=Lib.hid hqq
     clear hX2 hfr g4 hqq
     go_wp2_with fail
     refine HF2.out.mono ?_
     rintro e w1 ⟨rfl,rfl⟩
     by_cases hbad:isDec bl=false∨bl=[48]∨bl=[49]
     ·have hr:X=1:=by rw [HX2.out,read_first HFIRST.out,if_pos ⟨rfl,hbad⟩]
      have HR:=Lib.hid (RetC.eq (w:=w) hr)
      have hc:isDec bl=false∨(isDec bl=true∧decide (bl=[48])=true)∨(isDec bl=true∧decide (bl=[48])=false∧decide (bl=[49])=true):=by
       rcases hbad with h | h | h
       ·exact .inl h
       ·exact .inr (.inl ⟨by rw [h];rfl,by rw [h];rfl⟩)
       ·exact .inr (.inr ⟨by rw [h];rfl,by rw [h];rfl,by rw [h];rfl⟩)
      clear hr hbad
      rcases hc with b1 | ⟨b1,b2⟩ | ⟨b1,b2,b3⟩
      all_goals
       go_wp2
       go_ret
       exact HR.out
     ·have b1:isDec bl=true:=by
       cases h:isDec bl
       ·exact absurd (.inl h) hbad
       ·rfl
      have n2:bl≠[48]:=fun h=>hbad (.inr (.inl h))
      have n3:bl≠[49]:=fun h=>hbad (.inr (.inr h))
      have b2:decide (bl=[48])=false:=decide_eq_false n2
      have b3:decide (bl=[49])=false:=decide_eq_false n3
      have HB1:=Lib.hid hbad
      by_cases hlg:600<tl.length∨600<bl.length
      ·have hr:X=4:=by rw [HX2.out,read_first HFIRST.out,if_neg (fun h=>HB1.out h.2),if_pos hlg]
       have HR:=Lib.hid (RetC.eq (w:=w) hr)
       have hc:decide ((600:Int)<(k:Int))=true∨(decide ((600:Int)<(k:Int))=false∧decide ((600:Int)<q)=true):=by
        have:=HTL.out
        have:=HQQ.out
        simp only [decide_eq_true_eq,decide_eq_false_iff_not]
        omega
       clear hr hlg n2 n3 hbad
       rcases hc with d6 | ⟨d6,d7⟩
       all_goals
        go_wp2
        go_ret
        exact HR.out
      ·obtain ⟨g,hgd⟩:∃ g,Nat.gcd (decVal tl) (decVal bl)=g:=⟨_,rfl⟩
       have hX3:(g=1→X=0)∧(g≠1→X=1):=by
        rw [HX2.out,read_first HFIRST.out,if_neg (fun h=>HB1.out h.2),if_neg hlg,←hgd]
        exact ⟨fun h=>if_neg (fun h9=>h9.2 h),fun h=>if_pos ⟨rfl,h⟩⟩
       have hnum:=NumT.ofParts (HSP.out HFR.out) hD1 b1 n3
       have hy0:=decVal_pos b1 n2
       have hc1:(Lib.decDigits (decVal tl)).length≤600:=by rw [dec_decVal tl hD1];omega
       have hc2:(Lib.decDigits (decVal bl)).length≤600:=by rw [dec_decVal bl b1];omega
       have d6:decide ((600:Int)<(k:Int))=false:=by have:=HTL.out;simp only [decide_eq_false_iff_not];omega
       have d7:decide ((600:Int)<q)=false:=by have:=HQQ.out;simp only [decide_eq_false_iff_not];omega
       generalize decVal tl=x at *
       generalize decVal bl=y at *
       have hl1:=Nat.le_trans (digs_dec_len x) hc1
       have hl2:=Nat.le_trans (digs_dec_len y) hc2
       have HL1:=Lib.hid hl1
       have HL2:=Lib.hid hl2
       have HP:=Lib.hid (rparts_any t false x y w hnum (fun h=>by cases h) hy0 (by have:=HTL.out;have:=HQQ.out;omega))
       have HX3:=Lib.hid hX3
       have HGD:=Lib.hid hgd
       clear hgd hX3 hnum hy0 hc1 hc2 hl1 hl2 hbad hlg n2 n3
       go_wp2_with fail
       refine HP.out.mono ?_
       rintro e w1 ⟨A1,n1,c1,A2,n2,c2,rfl,hd1,hd2,hb1⟩
       have hB1:Below w1.heap.size w1 ((w1.alloc (.cells #[.bool false,.slice A1 n1 c1] 107)).alloc (.cells #[.bool false,.slice A2 n2 c2] 107)):=((Below.refl _ _).alloc (Nat.le_refl _) _).alloc (by simp) _
       have hx1:CBlk ((w1.alloc (.cells #[.bool false,.slice A1 n1 c1] 107)).alloc (.cells #[.bool false,.slice A2 n2 c2] 107)) w1.heap.size #[.bool false,.slice A1 n1 c1] 107:=(CBlk.new w1 _ _ _ rfl).below ((Below.refl _ _).alloc (Nat.le_refl _) _) (by simp)
       have hx2:CBlk ((w1.alloc (.cells #[.bool false,.slice A1 n1 c1] 107)).alloc (.cells #[.bool false,.slice A2 n2 c2] 107)) (w1.heap.size+1) #[.bool false,.slice A2 n2 c2] 107:=CBlk.new (w1.alloc (.cells #[.bool false,.slice A1 n1 c1] 107)) _ _ (w1.heap.size+1) (by simp)
       have hn1:n1≤1048576:=by rw [←hd1.len];have:=HL1.out;omega
       have hn2:n2≤1048576:=by rw [←hd2.len];have:=HL2.out;omega
       replace hd1:=hd1.later hB1
       replace hd2:=hd2.later hB1
       have hBB:=hb1.trans (hB1.mono hb1.size)
       have HBB:=Lib.hid hBB
       clear hB1 hb1 hBB
       go_upto_region 13 with (fail)
       generalize ((w1.alloc (.cells #[.bool false,.slice A1 n1 c1] 107)).alloc (.cells #[.bool false,.slice A2 n2 c2] 107))=w3 at *
       have q0:w3.cell? ⟨w1.heap.size,0,none⟩=some (.bool false):=hx1.cell 0
       have q1:w3.cell? ⟨w1.heap.size,1,none⟩=some (.slice A1 n1 c1):=hx1.cell 1
       have q2:w3.cell? ⟨w1.heap.size+1,0,none⟩=some (.bool false):=hx2.cell 0
       have q3:w3.cell? ⟨w1.heap.size+1,1,none⟩=some (.slice A2 n2 c2):=hx2.cell 1
       have hcg:=rcommon_any A1 A2 n1 c1 n2 c2 x y w3 hd1 hd2 hn1 hn2
       rw [HGD.out] at hcg
       have HG:=Lib.hid hcg
       clear hcg
       clear hx1 hx2 hd1 hd2 hn1 hn2
       go_wp2_with fail
       refine HG.out.mono ?_
       rintro e w4 ⟨A5,n5,c5,rfl,hd5,hb5⟩
       have hbw:=HBB.out.trans (hb5.mono HBB.out.size)
       have hl5:=hd5.len
       clear HGD HP hb5 q0 q1 q2 q3
       by_cases h51:n5=1
       ·subst h51
        obtain ⟨v,hv⟩:=List.length_eq_one_iff.1 hl5
        have hgv:g=v:=by rw [←val_digs g,hv,val_single]
        subst hgv
        rw [hv] at hd5
        obtain ⟨ad,hkl,rfl,hbb,hcell⟩:=hd5.rd.cellM (k:=0) (by omega)
        replace hcell:w4.cell? ad=some (.int .i64 (g:Int)):=hcell
        have HBW:=Lib.hid hbw
        by_cases hg1:g=1
        ·have hr:X=0:=HX3.out.1 hg1
         have HR:=Lib.hid (RetC.at hr hbw)
         have d8:((g:Int)==1)=true:=by rw [beq_iff_eq];omega
         clear hr hbw hg1 hv hl5 HX3
         go_wp2
         go_ret
         exact HR.out
        ·have hr:X=1:=HX3.out.2 hg1
         have HR:=Lib.hid (RetC.at hr hbw)
         have d8:((g:Int)==1)=false:=by rw [beq_eq_false_iff_ne];omega
         clear hr hbw hg1 hv hl5 HX3
         go_wp2
         go_ret
         exact HR.out
       ·have hg1:g≠1:=fun e=>h51 (by rw [←hl5,e,digs_single (by omega) (by decide)];rfl)
        have hr:X=1:=HX3.out.2 hg1
        have HR:=Lib.hid (RetC.at hr hbw)
        have d8:((n5:Int)==1)=false:=by rw [beq_eq_false_iff_ne];omega
        clear hr hbw hg1 hl5 HX3 hd5
        go_wp2
        go_ret
        exact HR.out
    ·have d4:decide (k<t.size)=false:=decide_eq_false hfr
     have hX2:X=readE' tl bl false false:=by rw [HX.out,d4]
     have HX2:=Lib.hid hX2
     obtain ⟨hqm,hb0⟩:=HBQ.out.2 hfr
     have HB0:=Lib.hid hb0
     subst hqm
     clear hX2 hb0 hfr g4
     by_cases hlg:600<tl.length
     ·have hr:X=4:=by rw [HX2.out,read_first HFIRST.out,if_neg (fun h=>by cases h.1),if_pos (.inl hlg)]
      have HR:=Lib.hid (RetC.eq (w:=w) hr)
      have d6:decide ((600:Int)<(k:Int))=true:=by have:=HTL.out;simp only [decide_eq_true_eq];omega
      clear hr hlg
      go_wp2
      go_ret
      exact HR.out
     ·have hr:X=0:=by rw [HX2.out,read_first HFIRST.out,if_neg (fun h=>by cases h.1),if_neg (by have:=HB0.out;omega),if_neg (fun h=>by cases h.1)]
      have HR:=Lib.hid (RetC.eq (w:=w) hr)
      have d6:decide ((600:Int)<(k:Int))=false:=by have:=HTL.out;simp only [decide_eq_false_iff_not];omega
      clear hr hlg
      go_wp2
      go_ret
      exact HR.out
  ·simp only [if_true] at hte
   have hte2:=hte.symm
   clear hte
   have hcase:(isDec tl=false∧X=1)∨(isDec tl=true∧decide (tl=[48])=true∧X=1)∨(isDec tl=true∧decide (tl=[48])=false∧Hid (¬ FirstBad true tl)):=by
    cases h:isDec tl
    ·exact .inl ⟨rfl,by rw [HX.out];unfold readE';rw [if_pos (.inl h)]⟩
    ·by_cases hz:tl=[48]
     ·exact .inr (.inl ⟨rfl,decide_eq_true hz,by rw [HX.out];unfold readE';rw [if_pos (.inr ⟨rfl,hz⟩)]⟩)
     ·refine .inr (.inr ⟨rfl,decide_eq_false hz,?_⟩)
      rintro (h9 | ⟨_,h9⟩)
      ·rw [h] at h9;cases h9
      ·exact hz h9
   go_enter Tryz.func14,Tryz.ntmps14
   go_wp2_with fail
   refine HSL.out.mono ?_
   rintro e w1 ⟨rfl,rfl⟩
   go_wp2_with fail
   refine HF1.out.mono ?_
   rintro e w1 ⟨rfl,rfl⟩
   rcases hcase with ⟨hD1,hr⟩ | ⟨hD1,hz,hr⟩ | ⟨hD1,hz,HFIRST⟩
   ·have HR:=Lib.hid (RetC.eq (w:=w) hr)
    clear hr
    go_wp2
    go_ret
    exact HR.out
   ·have HR:=Lib.hid (RetC.eq (w:=w) hr)
    clear hr
    go_wp2
    go_ret
    exact HR.out
   ·by_cases hfr:k<t.size
    ·have d4:decide (k<t.size)=true:=by simpa using hfr
     have g5:=g4 hfr
     have hX2:X=readE' tl bl true true:=by rw [HX.out,d4]
     have HX2:=Lib.hid hX2
     have HFR:=Lib.hid hfr
     have hqq:=HBQ.out.1 hfr
     have HQQ:=Lib.hid hqq
     clear hX2 hfr g4 hqq
     go_wp2_with fail
     refine HF2.out.mono ?_
     rintro e w1 ⟨rfl,rfl⟩
     by_cases hbad:isDec bl=false∨bl=[48]∨bl=[49]
     ·have hr:X=1:=by rw [HX2.out,read_first HFIRST.out,if_pos ⟨rfl,hbad⟩]
      have HR:=Lib.hid (RetC.eq (w:=w) hr)
      have hc:isDec bl=false∨(isDec bl=true∧decide (bl=[48])=true)∨(isDec bl=true∧decide (bl=[48])=false∧decide (bl=[49])=true):=by
       rcases hbad with h | h | h
       ·exact .inl h
       ·exact .inr (.inl ⟨by rw [h];rfl,by rw [h];rfl⟩)
       ·exact .inr (.inr ⟨by rw [h];rfl,by rw [h];rfl,by rw [h];rfl⟩)
      clear hr hbad
      rcases hc with b1 | ⟨b1,b2⟩ | ⟨b1,b2,b3⟩
      all_goals
       go_wp2
       go_ret
       exact HR.out
     ·have b1:isDec bl=true:=by
       cases h:isDec bl
       ·exact absurd (.inl h) hbad
       ·rfl
      have n2:bl≠[48]:=fun h=>hbad (.inr (.inl h))
      have n3:bl≠[49]:=fun h=>hbad (.inr (.inr h))
      have b2:decide (bl=[48])=false:=decide_eq_false n2
      have b3:decide (bl=[49])=false:=decide_eq_false n3
      have HB1:=Lib.hid hbad
      by_cases hlg:600<tl.length∨600<bl.length
      ·have hr:X=4:=by rw [HX2.out,read_first HFIRST.out,if_neg (fun h=>HB1.out h.2),if_pos hlg]
       have HR:=Lib.hid (RetC.eq (w:=w) hr)
       have hc:decide ((600:Int)<(k:Int))=true∨(decide ((600:Int)<(k:Int))=false∧decide ((600:Int)<q)=true):=by
        have:=HTL.out
        have:=HQQ.out
        simp only [decide_eq_true_eq,decide_eq_false_iff_not]
        omega
       clear hr hlg n2 n3 hbad
       rcases hc with d6 | ⟨d6,d7⟩
       all_goals
        go_wp2
        go_ret
        exact HR.out
      ·obtain ⟨g,hgd⟩:∃ g,Nat.gcd (decVal tl) (decVal bl)=g:=⟨_,rfl⟩
       have hX3:(g=1→X=0)∧(g≠1→X=1):=by
        rw [HX2.out,read_first HFIRST.out,if_neg (fun h=>HB1.out h.2),if_neg hlg,←hgd]
        exact ⟨fun h=>if_neg (fun h9=>h9.2 h),fun h=>if_pos ⟨rfl,h⟩⟩
       have hnum:=NumT.ofParts (HSP.out HFR.out) hD1 b1 n3
       have hy0:=decVal_pos b1 n2
       have hc1:(Lib.decDigits (decVal tl)).length≤600:=by rw [dec_decVal tl hD1];omega
       have hc2:(Lib.decDigits (decVal bl)).length≤600:=by rw [dec_decVal bl b1];omega
       have d6:decide ((600:Int)<(k:Int))=false:=by have:=HTL.out;simp only [decide_eq_false_iff_not];omega
       have d7:decide ((600:Int)<q)=false:=by have:=HQQ.out;simp only [decide_eq_false_iff_not];omega
       generalize decVal tl=x at *
       generalize decVal bl=y at *
       have hl1:=Nat.le_trans (digs_dec_len x) hc1
       have hl2:=Nat.le_trans (digs_dec_len y) hc2
       have HL1:=Lib.hid hl1
       have HL2:=Lib.hid hl2
       have HP:=Lib.hid (rparts_any t false x y w hnum (fun h=>by cases h) hy0 (by have:=HTL.out;have:=HQQ.out;omega))
       have HX3:=Lib.hid hX3
       have HGD:=Lib.hid hgd
       clear hgd hX3 hnum hy0 hc1 hc2 hl1 hl2 hbad hlg n2 n3
       go_wp2_with fail
       refine HP.out.mono ?_
       rintro e w1 ⟨A1,n1,c1,A2,n2,c2,rfl,hd1,hd2,hb1⟩
       have hB1:Below w1.heap.size w1 ((w1.alloc (.cells #[.bool false,.slice A1 n1 c1] 107)).alloc (.cells #[.bool false,.slice A2 n2 c2] 107)):=((Below.refl _ _).alloc (Nat.le_refl _) _).alloc (by simp) _
       have hx1:CBlk ((w1.alloc (.cells #[.bool false,.slice A1 n1 c1] 107)).alloc (.cells #[.bool false,.slice A2 n2 c2] 107)) w1.heap.size #[.bool false,.slice A1 n1 c1] 107:=(CBlk.new w1 _ _ _ rfl).below ((Below.refl _ _).alloc (Nat.le_refl _) _) (by simp)
       have hx2:CBlk ((w1.alloc (.cells #[.bool false,.slice A1 n1 c1] 107)).alloc (.cells #[.bool false,.slice A2 n2 c2] 107)) (w1.heap.size+1) #[.bool false,.slice A2 n2 c2] 107:=CBlk.new (w1.alloc (.cells #[.bool false,.slice A1 n1 c1] 107)) _ _ (w1.heap.size+1) (by simp)
       have hn1:n1≤1048576:=by rw [←hd1.len];have:=HL1.out;omega
       have hn2:n2≤1048576:=by rw [←hd2.len];have:=HL2.out;omega
       replace hd1:=hd1.later hB1
       replace hd2:=hd2.later hB1
       have hBB:=hb1.trans (hB1.mono hb1.size)
       have HBB:=Lib.hid hBB
       clear hB1 hb1 hBB
       go_upto_region 13 with (fail)
       generalize ((w1.alloc (.cells #[.bool false,.slice A1 n1 c1] 107)).alloc (.cells #[.bool false,.slice A2 n2 c2] 107))=w3 at *
       have q0:w3.cell? ⟨w1.heap.size,0,none⟩=some (.bool false):=hx1.cell 0
       have q1:w3.cell? ⟨w1.heap.size,1,none⟩=some (.slice A1 n1 c1):=hx1.cell 1
       have q2:w3.cell? ⟨w1.heap.size+1,0,none⟩=some (.bool false):=hx2.cell 0
       have q3:w3.cell? ⟨w1.heap.size+1,1,none⟩=some (.slice A2 n2 c2):=hx2.cell 1
       have hcg:=rcommon_any A1 A2 n1 c1 n2 c2 x y w3 hd1 hd2 hn1 hn2
       rw [HGD.out] at hcg
       have HG:=Lib.hid hcg
       clear hcg
       clear hx1 hx2 hd1 hd2 hn1 hn2
       go_wp2_with fail
       refine HG.out.mono ?_
       rintro e w4 ⟨A5,n5,c5,rfl,hd5,hb5⟩
       have hbw:=HBB.out.trans (hb5.mono HBB.out.size)
       have hl5:=hd5.len
       clear HGD HP hb5 q0 q1 q2 q3
       by_cases h51:n5=1
       ·subst h51
        obtain ⟨v,hv⟩:=List.length_eq_one_iff.1 hl5
        have hgv:g=v:=by rw [←val_digs g,hv,val_single]
        subst hgv
        rw [hv] at hd5
        obtain ⟨ad,hkl,rfl,hbb,hcell⟩:=hd5.rd.cellM (k:=0) (by omega)
        replace hcell:w4.cell? ad=some (.int .i64 (g:Int)):=hcell
        have HBW:=Lib.hid hbw
        by_cases hg1:g=1
        ·have hr:X=0:=HX3.out.1 hg1
         have HR:=Lib.hid (RetC.at hr hbw)
         have d8:((g:Int)==1)=true:=by rw [beq_iff_eq];omega
         clear hr hbw hg1 hv hl5 HX3
         go_wp2
         go_ret
         exact HR.out
        ·have hr:X=1:=HX3.out.2 hg1
         have HR:=Lib.hid (RetC.at hr hbw)
         have d8:((g:Int)==1)=false:=by rw [beq_eq_false_iff_ne];omega
         clear hr hbw hg1 hv hl5 HX3
         go_wp2
         go_ret
         exact HR.out
       ·have hg1:g≠1:=fun e=>h51 (by rw [←hl5,e,digs_single (by omega) (by decide)];rfl)
        have hr:X=1:=HX3.out.2 hg1
        have HR:=Lib.hid (RetC.at hr hbw)
        have d8:((n5:Int)==1)=false:=by rw [beq_eq_false_iff_ne];omega
        clear hr hbw hg1 hl5 HX3 hd5
        go_wp2
        go_ret
        exact HR.out
    ·have d4:decide (k<t.size)=false:=decide_eq_false hfr
     have hX2:X=readE' tl bl true false:=by rw [HX.out,d4]
     have HX2:=Lib.hid hX2
     obtain ⟨hqm,hb0⟩:=HBQ.out.2 hfr
     have HB0:=Lib.hid hb0
     subst hqm
     clear hX2 hb0 hfr g4
     by_cases hlg:600<tl.length
     ·have hr:X=4:=by rw [HX2.out,read_first HFIRST.out,if_neg (fun h=>by cases h.1),if_pos (.inl hlg)]
      have HR:=Lib.hid (RetC.eq (w:=w) hr)
      have d6:decide ((600:Int)<(k:Int))=true:=by have:=HTL.out;simp only [decide_eq_true_eq];omega
      clear hr hlg
      go_wp2
      go_ret
      exact HR.out
     ·have hr:X=0:=by rw [HX2.out,read_first HFIRST.out,if_neg (fun h=>by cases h.1),if_neg (by have:=HB0.out;omega),if_neg (fun h=>by cases h.1)]
      have HR:=Lib.hid (RetC.eq (w:=w) hr)
      have d6:decide ((600:Int)<(k:Int))=false:=by have:=HTL.out;simp only [decide_eq_false_iff_not];omega
      clear hr hlg
      go_wp2
      go_ret
      exact HR.out
set_option maxHeartbeats 1000000 in
theorem rIsWhole_q (a:ByteArray) (p:Q) (w:World) (h:NumQ a p) (ha:a.size≤1000000) :
  Calls Tryz.prog 112 #[.string a] w fun e w'=>e = .returned (.bool (decide (p.bot=1)))∧w=w':=by
 obtain ⟨k,hk⟩:∃ k,k=(sgnT p.neg (Lib.decDigits p.top)).length:=⟨_,rfl⟩
 obtain ⟨p1,p2,p3⟩:=cut_parts (t:=a) (l:=sgnT p.neg (Lib.decDigits p.top)) h.num hk
 have hsv:slashL a.data.toList=k:=by rw [show a.data.toList=sgnT p.neg (Lib.decDigits p.top)++tailT p.bot from h.num,slashL_tail _ _ (sgnT_slash (digits_dec p.top)),hk]
 have hsl:=rslash_any a w (by omega)
 rw [hsv] at hsl
 have HSL:=Lib.hid hsl
 have hd:((k:Int)==(a.size:Int))=decide (p.bot=1):=by
  by_cases hy:p.bot=1
  ·rw [decide_eq_true hy,beq_iff_eq]
   have:=p2 hy
   omega
  ·rw [decide_eq_false hy,beq_eq_false_iff_ne]
   have:=(p3 hy).1
   omega
 generalize decide (p.bot=1)=v at *
 clear h hk p1 p2 p3 hsv hsl
 go_enter Tryz.func112,Tryz.ntmps112
 go_wp2_with fail
 refine HSL.out.mono ?_
 rintro e w1 ⟨rfl,rfl⟩
 go_wp2
 go_ret
 exact ⟨rfl,rfl⟩
def floorI (b:Bool) (x y:Nat):Int:=if b=true∧0<x % y then -((x / y:Nat):Int) - 1 else sgn b (x / y)
set_option maxHeartbeats 4000000 in
set_option maxRecDepth 100000 in
theorem rfloorDiv_any (b:Bool) (x y:Nat) (A1 A2:Option Addr) (n1 c1 n2 c2:Nat) (w:World) (h1:DigI w A1 n1 c1 (digs x)) (h2:DigI w A2 n2 c2 (digs y)) (hy:0<y) (k1:n1≤500000) (k2:n2≤500000) :
  Calls Tryz.prog 114 #[.agg #[.bool b,.slice A1 n1 c1],.agg #[.bool false,.slice A2 n2 c2]] w (RetZ w (floorI b x y)):=by
 have hb3:Below w.heap.size w (((w.alloc (.cells #[.bool b,.slice A1 n1 c1] 107)).alloc (.cells #[.bool false,.slice A2 n2 c2] 107)).alloc (.cells #[.bool false,.slice none 0 0] 107)):=(((Below.refl _ _).alloc (Nat.le_refl _) _).alloc (by simp) _).alloc (by simp;omega) _
 have q0:CBlk (((w.alloc (.cells #[.bool b,.slice A1 n1 c1] 107)).alloc (.cells #[.bool false,.slice A2 n2 c2] 107)).alloc (.cells #[.bool false,.slice none 0 0] 107)) w.heap.size #[.bool b,.slice A1 n1 c1] 107:=((CBlk.new w _ _ _ rfl).below ((Below.refl _ _).alloc (Nat.le_refl _) _) (by simp)).below ((Below.refl _ _).alloc (Nat.le_refl _) _) (by simp;omega)
 have q1:CBlk (((w.alloc (.cells #[.bool b,.slice A1 n1 c1] 107)).alloc (.cells #[.bool false,.slice A2 n2 c2] 107)).alloc (.cells #[.bool false,.slice none 0 0] 107)) (w.heap.size+1) #[.bool false,.slice A2 n2 c2] 107:=(CBlk.new (w.alloc (.cells #[.bool b,.slice A1 n1 c1] 107)) _ _ (w.heap.size+1) (by simp)).below ((Below.refl _ _).alloc (Nat.le_refl _) _) (by simp)
 have q2:CBlk (((w.alloc (.cells #[.bool b,.slice A1 n1 c1] 107)).alloc (.cells #[.bool false,.slice A2 n2 c2] 107)).alloc (.cells #[.bool false,.slice none 0 0] 107)) (w.heap.size+1+1) #[.bool false,.slice none 0 0] 107:=CBlk.new ((w.alloc (.cells #[.bool b,.slice A1 n1 c1] 107)).alloc (.cells #[.bool false,.slice A2 n2 c2] 107)) _ _ (w.heap.size+1+1) (by simp)
 have d1:=h1.later hb3
 have d2:=h2.later hb3
 have HDV:=Lib.hid (rdivDigits_any A1 A2 n1 c1 n2 c2 x y (((w.alloc (.cells #[.bool b,.slice A1 n1 c1] 107)).alloc (.cells #[.bool false,.slice A2 n2 c2] 107)).alloc (.cells #[.bool false,.slice none 0 0] 107)) d1 d2 hy (by omega) (by omega))
 have x0:=q0.cell 0
 have x1:=q0.cell 1
 have y0:=q1.cell 0
 have y1:=q1.cell 1
 have hl1:=h1.len
 have hqn:=digs_length_mono (Nat.div_le_self x y)
 have HLQ:Hid ((digs (x / y)).length≤500000):=by show _≤_;omega
 clear d1 d2 h1 h2 hl1 hqn
 obtain ⟨r,hr⟩:∃ r,r=x % y:=⟨_,rfl⟩
 obtain ⟨qq,hqq⟩:∃ qq,qq=x / y:=⟨_,rfl⟩
 have HF:Hid (floorI b x y=if b=true∧0<r then -(qq:Int) - 1 else sgn b qq):=by show _=_;unfold floorI;rw [hr,hqq]
 have HRQ:=Lib.hid hr
 have HQQ:=Lib.hid hqq
 rw [←hqq] at HLQ
 clear hr hqq
 have hcase:b=false∨(b=true∧r=0)∨(b=true∧0<r):=by cases b<;>simp<;>omega
 rcases hcase with rfl | ⟨rfl,hr0⟩ | ⟨rfl,hr0⟩
 ·have HZ:Hid (floorI false x y=sgn false qq):=by show floorI _ x y=_;rw [HF.out];simp
  rw [HZ.out]
  go_enter Tryz.func114,Tryz.ntmps114
  go_wp2_with fail
  generalize (((w.alloc (.cells #[.bool false,.slice A1 n1 c1] 107)).alloc (.cells #[.bool false,.slice A2 n2 c2] 107)).alloc (.cells #[.bool false,.slice none 0 0] 107))=w3 at *
  refine HDV.out.mono ?_
  rintro e w4 ⟨A3,n3,c3,A4,n4,c4,rfl,hq,hrr,hb4⟩
  rw [←HQQ.out] at hq
  rw [←HRQ.out] at hrr
  have p0:=q0.below hb4 q0.lt
  have p2:=q2.below hb4 q2.lt
  have hB4:=hb3.trans (hb4.mono hb3.size)
  have hn3:n3≤500000:=by rw [←hq.len];exact HLQ.out
  have hn4:=hrr.len
  have p2':=p2
  have g0:=p0.cell 0
  clear x0 x1 y0 y1
  have HSG:=rsigned_any false A3 n3 c3 (digs qq) w4 hq (by omega)
  rw [val_digs] at HSG
  generalize sgn false qq=z at *
  go_wp2_with fail
  refine HSG.mono ?_
  rintro e w9 ⟨A9,n9,c9,rfl,hd9,hb9⟩
  have k9:=p2.below hb9 p2.lt
  have e0:=k9.cell 0
  have e1:=k9.cell 1
  have f0:=k9.frozen 0
  have f1:=k9.frozen 1
  have hB9:=hB4.trans (hb9.mono hB4.size)
  go_wp2_with fail
  refine bodyPost_ret (v := .agg #[.bool (decide (z<0)),.slice A9 n9 c9]) (by simp [results,Tryz.results114,go_sem,e0,e1]) rfl ?_
  exact ⟨A9,n9,c9,rfl,hd9.box k9 _ _,two_set hB9 (by omega) _ _⟩
 ·have HZ:Hid (floorI true x y=sgn true qq):=by show floorI _ x y=_;rw [HF.out];rw [if_neg (by omega)]
  rw [HZ.out]
  go_enter Tryz.func114,Tryz.ntmps114
  go_wp2_with fail
  generalize (((w.alloc (.cells #[.bool false,.slice A1 n1 c1] 107)).alloc (.cells #[.bool false,.slice A2 n2 c2] 107)).alloc (.cells #[.bool false,.slice none 0 0] 107))=w3 at *
  refine HDV.out.mono ?_
  rintro e w4 ⟨A3,n3,c3,A4,n4,c4,rfl,hq,hrr,hb4⟩
  rw [←HQQ.out] at hq
  rw [←HRQ.out] at hrr
  have p0:=q0.below hb4 q0.lt
  have p2:=q2.below hb4 q2.lt
  have hB4:=hb3.trans (hb4.mono hb3.size)
  have hn3:n3≤500000:=by rw [←hq.len];exact HLQ.out
  have hn4:=hrr.len
  have p2':=p2
  have g0:=p0.cell 0
  clear x0 x1 y0 y1
  have hn40:n4=0:=by rw [←hn4,hr0,digs_zero];rfl
  subst hn40
  have d0:decide ((0:Int)<((0:Nat):Int))=false:=by decide
  have HSG:=rsigned_any true A3 n3 c3 (digs qq) w4 hq (by omega)
  rw [val_digs] at HSG
  generalize sgn true qq=z at *
  go_wp2_with fail
  refine HSG.mono ?_
  rintro e w9 ⟨A9,n9,c9,rfl,hd9,hb9⟩
  have k9:=p2.below hb9 p2.lt
  have e0:=k9.cell 0
  have e1:=k9.cell 1
  have f0:=k9.frozen 0
  have f1:=k9.frozen 1
  have hB9:=hB4.trans (hb9.mono hB4.size)
  go_wp2_with fail
  refine bodyPost_ret (v := .agg #[.bool (decide (z<0)),.slice A9 n9 c9]) (by simp [results,Tryz.results114,go_sem,e0,e1]) rfl ?_
  exact ⟨A9,n9,c9,rfl,hd9.box k9 _ _,two_set hB9 (by omega) _ _⟩
 ·have HZ:Hid (floorI true x y = -(qq:Int) - 1):=by show floorI _ x y=_;rw [HF.out];simp;omega
  rw [HZ.out]
  go_enter Tryz.func114,Tryz.ntmps114
  go_wp2_with fail
  generalize (((w.alloc (.cells #[.bool false,.slice A1 n1 c1] 107)).alloc (.cells #[.bool false,.slice A2 n2 c2] 107)).alloc (.cells #[.bool false,.slice none 0 0] 107))=w3 at *
  refine HDV.out.mono ?_
  rintro e w4 ⟨A3,n3,c3,A4,n4,c4,rfl,hq,hrr,hb4⟩
  rw [←HQQ.out] at hq
  rw [←HRQ.out] at hrr
  have p0:=q0.below hb4 q0.lt
  have p2:=q2.below hb4 q2.lt
  have hB4:=hb3.trans (hb4.mono hb3.size)
  have hn3:n3≤500000:=by rw [←hq.len];exact HLQ.out
  have hn4:=hrr.len
  have p2':=p2
  have g0:=p0.cell 0
  clear x0 x1 y0 y1
  have hn40:0<n4:=by rw [←hn4];exact digs_length_pos hr0
  have d0:decide (0<(n4:Int))=true:=decide_eq_true (by omega)
  have hbA:Below w4.heap.size w4 (w4.alloc (.cells #[.int .i64 1] 3)):=(Below.refl _ _).alloc (Nat.le_refl _) _
  have HAD:=Lib.hid (raddDigits_any A3 (some ⟨w4.heap.size,0,none⟩) n3 c3 1 1 (digs qq) [1] (w4.alloc (.cells #[.int .i64 1] 3)) (hq.later hbA) (DigI.one (CBlk.new w4 _ _ _ rfl) (by decide)) (by omega) (by omega))
  have pA:=p2.below hbA p2.lt
  have pB:=p0.below hbA p0.lt
  have hBA:=hB4.trans (hbA.mono hB4.size)
  go_wp2_with fail
  refine HAD.out.mono ?_
  rintro e w5 ⟨A5,n5,c5,ls,rfl,hd5,hn5,hv5,hb5⟩
  have pC:=pA.below hb5 pA.lt
  have pD:=pB.below hb5 pB.lt
  have hB5:=hBA.trans (hb5.mono hBA.size)
  clear g0
  have g0:=pD.cell 0
  have HSG:=rsigned_any true A5 n5 c5 ls w5 hd5 (by omega)
  have hsv:sgn true (val ls) = -(qq:Int) - 1:=by rw [hv5,val_digs];unfold sgn;simp;omega
  rw [hsv] at HSG
  generalize -(qq:Int) - 1=z at *
  go_wp2_with fail
  refine HSG.mono ?_
  rintro e w9 ⟨A9,n9,c9,rfl,hd9,hb9⟩
  have k9:=pC.below hb9 pC.lt
  have e0:=k9.cell 0
  have e1:=k9.cell 1
  have f0:=k9.frozen 0
  have f1:=k9.frozen 1
  have hB9:=hB5.trans (hb9.mono hB5.size)
  go_wp2_with fail
  refine bodyPost_ret (v := .agg #[.bool (decide (z<0)),.slice A9 n9 c9]) (by simp [results,Tryz.results114,go_sem,e0,e1]) rfl ?_
  exact ⟨A9,n9,c9,rfl,hd9.box k9 _ _,two_set hB9 (by omega) _ _⟩
end Go.Proofs.YtjhgadajpliclaaGreatDoor
