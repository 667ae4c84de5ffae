/- Contracts of package number's cosine of a number. -/
import Derived.Test.YteajibbphcfmeaaGreatDoorTCo6
import Derived.Test.YteajibbphcfmeaaGreatDoorTSp6
namespace Go.Proofs.YteajibbphcfmeaaGreatDoor
open Go.RowKit Bn
def halfTQ:Q:=lowQ false 1 2
theorem half_any (w:World) (hT:Tabs w):Calls Tryz.prog 118 #[.int .u64 1,.int .u64 2] w (RetRat w halfTQ):=fraction_any 1 2 w hT (by omega) (by omega)
theorem len_halfQ:LenQ halfTQ 1:=⟨Nat.le_trans (digs_length_mono (Nat.div_le_self _ _)) len_one,Nat.le_trans (digs_length_mono (Nat.div_le_self _ _)) (digs_length_le (by rw [B_def];omega))⟩
set_option maxHeartbeats 4000000 in
set_option maxRecDepth 100000 in
theorem cosine_exact (p fq:Q) (y:ByteArray) (dec:Int) (v:Value) (w:World) (hT:Tabs w) (hv:RatS w w.heap.size v p)
  (HF:Hid (∀ v W,Tabs W→RatS W W.heap.size v p→Calls Tryz.prog 163 #[v] W (RetRat W fq)))
  (HE:Hid (∀ v W,Tabs W→RatS W W.heap.size v fq→Calls Tryz.prog 164 #[v] W fun e w'=>e = .returned (.tuple #[.string y,.bool true])∧Below W.heap.size W w')) :
  Calls Tryz.prog 117 #[v,.int .i64 dec] w fun e w'=>e = .returned (.tuple #[.agg #[.string y,.string y],.int .i64 0])∧Below w.heap.size w w':=by
 obtain ⟨A1,n1,c1,A2,n2,c2,rfl,h1,h2⟩:=hv
 have hbW:Below w.heap.size w ((w.alloc (.cells #[.bool p.neg,.slice A1 n1 c1,.slice A2 n2 c2] 91)).alloc (.cells #[.string { data:=#[] },.string { data:=#[] }] 74)):=(((Below.refl _ _).alloc (by simp<;>omega) _).alloc (by simp<;>omega) _)
 have q0:CBlk ((w.alloc (.cells #[.bool p.neg,.slice A1 n1 c1,.slice A2 n2 c2] 91)).alloc (.cells #[.string { data:=#[] },.string { data:=#[] }] 74)) (w.heap.size) #[.bool p.neg,.slice A1 n1 c1,.slice A2 n2 c2] 91:=((CBlk.new _ _ _ _ (by simp)).alloc _)
 have q1:CBlk ((w.alloc (.cells #[.bool p.neg,.slice A1 n1 c1,.slice A2 n2 c2] 91)).alloc (.cells #[.string { data:=#[] },.string { data:=#[] }] 74)) (w.heap.size+1) #[.string { data:=#[] },.string { data:=#[] }] 74:=(CBlk.new _ _ _ _ (by simp))
 have hvW:=RatS.mk (q:=p) (h1.later hbW) (h2.later hbW)
 go_enter Tryz.func117,Tryz.ntmps117
 go_upto_region 1 with (fail)
 generalize ((w.alloc (.cells #[.bool p.neg,.slice A1 n1 c1,.slice A2 n2 c2] 91)).alloc (.cells #[.string { data:=#[] },.string { data:=#[] }] 74))=W at *
 have a0:=q0.cell 0
 have a1:=q0.cell 1
 have a2:=q0.cell 2
 go_wp2_with fail
 refine (HF.out _ W (hT.later hbW) hvW).mono ?_
 rintro e w2 ⟨v2,rfl,⟨A3,n3,c3,A4,n4,c4,rfl,h3,h4⟩,hb2⟩
 have hba:Below w2.heap.size w2 (w2.alloc (.cells #[.bool fq.neg,.slice A3 n3 c3,.slice A4 n4 c4] 91)):=(Below.refl _ _).alloc (Nat.le_refl _) _
 have hB2:=hbW.trans (hb2.mono hbW.size)
 have hB:=hB2.trans (hba.mono hB2.size)
 have q13:=(q1.below hb2 q1.lt).alloc (.cells #[.bool fq.neg,.slice A3 n3 c3,.slice A4 n4 c4] 91)
 have q6:CBlk (w2.alloc (.cells #[.bool fq.neg,.slice A3 n3 c3,.slice A4 n4 c4] 91)) w2.heap.size #[.bool fq.neg,.slice A3 n3 c3,.slice A4 n4 c4] 91:=CBlk.new _ _ _ _ rfl
 have hf:=(RatS.mk (q:=fq) h3 h4).later hba
 clear q0 q1 hbW hb2 hB2 h1 h2 hba h3 h4 hvW a0 a1 a2 HF
 go_upto_region 2 with (fail)
 generalize (w2.alloc (.cells #[.bool fq.neg,.slice A3 n3 c3,.slice A4 n4 c4] 91))=w3 at *
 have a0:=q6.cell 0
 have a1:=q6.cell 1
 have a2:=q6.cell 2
 go_wp2_with fail
 refine (HE.out _ w3 (hT.later hB) hf).mono ?_
 rintro e w4 ⟨rfl,hb4⟩
 have hB4:=hB.trans (hb4.mono hB.size)
 have q14:=q13.below hb4 q13.lt
 have q64:=q6.below hb4 q6.lt
 have hf4:=hf.later hb4
 clear a0 a1 a2 HE hB hb4 q13 q6 hf
 have z0:=q14.cell 0
 have z1:=q14.cell 1
 have zf0:=q14.frozen 0
 have zf1:=q14.frozen 1
 have hset:=twoSetS hB4 (g:=w.heap.size+1) (by omega) (.string y) (.string y)
 go_wp2
 refine bodyPost_ret (v := .tuple #[.agg #[.string y,.string y],.int .i64 0]) (by simp [results,Tryz.results117,go_sem,z0,z1]) rfl ⟨rfl,hset⟩
set_option maxHeartbeats 8000000 in
set_option maxRecDepth 100000 in
theorem cosine_lost (p fq mq tq qa qb x1 x2:Q) (dec:Int) (v:Value) (w:World) (hT:Tabs w) (hv:RatS w w.heap.size v p) (lfq:LenQ fq 33554432) (la:LenQ qa 33554432) (lb:LenQ qb 33554432)
  (hmq:Hid (mq=minusQ halfTQ fq))
  (hN:Hid (rcmp mq fq<0→tq=mq∧x1=nnegQ qb∧x2=nnegQ qa)) (hP:Hid (0≤rcmp mq fq→tq=fq∧x1=qa∧x2=qb))
  (HF:Hid (∀ v W,Tabs W→RatS W W.heap.size v p→Calls Tryz.prog 163 #[v] W (RetRat W fq)))
  (HE:Hid (∀ v W,Tabs W→RatS W W.heap.size v fq→Calls Tryz.prog 164 #[v] W fun e w'=>e = .returned (.tuple #[.string { data:=#[] },.bool false])∧Below W.heap.size W w'))
  (HA:Hid (∀ v W,Tabs W→RatS W W.heap.size v tq→Calls Tryz.prog 165 #[v,.int .i64 dec] W (RetItv W qa qb))) :
  Calls Tryz.prog 117 #[v,.int .i64 dec] w (RetSp w (spanL x1 x2) (spanH x1 x2) (spanE x1 x2)):=by
 obtain ⟨A1,n1,c1,A2,n2,c2,rfl,h1,h2⟩:=hv
 have hbW:Below w.heap.size w ((w.alloc (.cells #[.bool p.neg,.slice A1 n1 c1,.slice A2 n2 c2] 91)).alloc (.cells #[.string { data:=#[] },.string { data:=#[] }] 74)):=(((Below.refl _ _).alloc (by simp<;>omega) _).alloc (by simp<;>omega) _)
 have q0:CBlk ((w.alloc (.cells #[.bool p.neg,.slice A1 n1 c1,.slice A2 n2 c2] 91)).alloc (.cells #[.string { data:=#[] },.string { data:=#[] }] 74)) (w.heap.size) #[.bool p.neg,.slice A1 n1 c1,.slice A2 n2 c2] 91:=((CBlk.new _ _ _ _ (by simp)).alloc _)
 have q1:CBlk ((w.alloc (.cells #[.bool p.neg,.slice A1 n1 c1,.slice A2 n2 c2] 91)).alloc (.cells #[.string { data:=#[] },.string { data:=#[] }] 74)) (w.heap.size+1) #[.string { data:=#[] },.string { data:=#[] }] 74:=(CBlk.new _ _ _ _ (by simp))
 have hvW:=RatS.mk (q:=p) (h1.later hbW) (h2.later hbW)
 go_enter Tryz.func117,Tryz.ntmps117
 go_upto_region 1 with (fail)
 generalize ((w.alloc (.cells #[.bool p.neg,.slice A1 n1 c1,.slice A2 n2 c2] 91)).alloc (.cells #[.string { data:=#[] },.string { data:=#[] }] 74))=W at *
 have a0:=q0.cell 0
 have a1:=q0.cell 1
 have a2:=q0.cell 2
 go_wp2_with fail
 refine (HF.out _ W (hT.later hbW) hvW).mono ?_
 rintro e w2 ⟨v2,rfl,⟨A3,n3,c3,A4,n4,c4,rfl,h3,h4⟩,hb2⟩
 have hba:Below w2.heap.size w2 (w2.alloc (.cells #[.bool fq.neg,.slice A3 n3 c3,.slice A4 n4 c4] 91)):=(Below.refl _ _).alloc (Nat.le_refl _) _
 have hB2:=hbW.trans (hb2.mono hbW.size)
 have hB:=hB2.trans (hba.mono hB2.size)
 have q13:=(q1.below hb2 q1.lt).alloc (.cells #[.bool fq.neg,.slice A3 n3 c3,.slice A4 n4 c4] 91)
 have q6:CBlk (w2.alloc (.cells #[.bool fq.neg,.slice A3 n3 c3,.slice A4 n4 c4] 91)) w2.heap.size #[.bool fq.neg,.slice A3 n3 c3,.slice A4 n4 c4] 91:=CBlk.new _ _ _ _ rfl
 have hf:=(RatS.mk (q:=fq) h3 h4).later hba
 clear q0 q1 hbW hb2 hB2 h1 h2 hba h3 h4 hvW a0 a1 a2 HF
 go_upto_region 2 with (fail)
 generalize (w2.alloc (.cells #[.bool fq.neg,.slice A3 n3 c3,.slice A4 n4 c4] 91))=w3 at *
 have a0:=q6.cell 0
 have a1:=q6.cell 1
 have a2:=q6.cell 2
 go_wp2_with fail
 refine (HE.out _ w3 (hT.later hB) hf).mono ?_
 rintro e w4 ⟨rfl,hb4⟩
 have hB4:=hB.trans (hb4.mono hB.size)
 have q14:=q13.below hb4 q13.lt
 have q64:=q6.below hb4 q6.lt
 have hf4:=hf.later hb4
 clear a0 a1 a2 HE hB hb4 q13 q6 hf
 have lmq:LenQ mq 134217728:=by rw [hmq.out];exact (lenQ_plus len_halfQ (lenQ_neg lfq)).mono (by omega)
 have HM:=Lib.hid (fun v u W hT h2 h3=>(show Calls _ _ _ _ (RetRat W mq) from by rw [hmq.out];exact nminus_s halfTQ fq v u W hT h2 h3 (len_halfQ.mono (by omega)) (lfq.mono (by omega))))
 have HO:=Lib.hid half_any
 have HC:=Lib.hid (fun v u W h1 h2=>ncompare_s mq fq v u W h1 h2 (lmq.mono (by omega)) (lfq.mono (by omega)))
 clear lmq lfq hmq
 go_wp2_with fail
 obtain ⟨G5,hG5⟩:∃ g,g=w4.heap.size:=⟨_,rfl⟩
 have le5:w.heap.size≤G5:=by rw [hG5];exact hB4.size
 have lt5_q14:w.heap.size+1<G5:=by rw [hG5];exact q14.lt
 have lt5_q64:w2.heap.size<G5:=by rw [hG5];exact q64.lt
 obtain ⟨Inv5,hInv5⟩:∃ I:Array Bool→Act→World→Prop,I=(fun listed ac W=>∃ (b0 b1 b2 b3 b4:Bool) (u21 u22 u23 u9:Value) (A5_0:Option Addr) (n5_0 c5_0:Nat) (A5_0':Option Addr) (n5_0' c5_0':Nat) (A5_2:Option Addr) (n5_2 c5_2:Nat) (A5_2':Option Addr) (n5_2' c5_2':Nat) (j5_3:Nat),listed=#[b0,b1,b2,b3,b4]∧ac={ tmps:=#[.agg #[.bool p.neg,.slice A1 n1 c1,.slice A2 n2 c2],.int .i64 dec,.pointer (some ⟨w.heap.size,0,none⟩),undef,.pointer (some ⟨w.heap.size+1,0,none⟩),.int .i64 0,.pointer (some ⟨w2.heap.size,0,none⟩),.string { data:=#[] },.bool false,u9,.agg #[.bool p.neg,.slice A1 n1 c1,.slice A2 n2 c2],.agg #[.bool fq.neg,.slice A3 n3 c3,.slice A4 n4 c4],.tuple #[.string { data:=#[] },.bool false],.agg #[.bool fq.neg,.slice A3 n3 c3,.slice A4 n4 c4],.tuple #[.string { data:=#[] },.bool false],.string { data:=#[] },.bool false,.bool false,undef,undef,undef,u21,u22,u23,undef,undef,undef,undef,undef,undef,undef,undef,undef,undef,undef,undef,undef,undef,undef,undef,undef],defers:=[] }∧G5≤W.heap.size∧Below w.heap.size w W∧CBlk W (w.heap.size+1) #[.string { data:=#[] },.string { data:=#[] }] 74∧CBlk W (w2.heap.size) #[.bool fq.neg,.slice A3 n3 c3,.slice A4 n4 c4] 91∧RatS W W.heap.size (.agg #[.bool fq.neg,.slice A3 n3 c3,.slice A4 n4 c4]) fq∧(b0=true→u21 = .agg #[.bool halfTQ.neg,.slice A5_0 n5_0 c5_0,.slice A5_0' n5_0' c5_0']∧RatS W W.heap.size (.agg #[.bool halfTQ.neg,.slice A5_0 n5_0 c5_0,.slice A5_0' n5_0' c5_0']) ⟨halfTQ.neg,halfTQ.top,halfTQ.bot⟩)∧(b1=true→u22 = .agg #[.bool fq.neg,.slice A3 n3 c3,.slice A4 n4 c4])∧(b2=true→u23 = .agg #[.bool mq.neg,.slice A5_2 n5_2 c5_2,.slice A5_2' n5_2' c5_2']∧RatS W W.heap.size (.agg #[.bool mq.neg,.slice A5_2 n5_2 c5_2,.slice A5_2' n5_2' c5_2']) ⟨mq.neg,mq.top,mq.bot⟩)∧(b3=true→u9 = .pointer (some ⟨j5_3,0,none⟩)∧G5≤j5_3∧j5_3<W.heap.size∧(b4=false→CBlk W j5_3 #[.bool false,.slice none 0 0,.slice none 0 0] 91))∧(b4=true→b3=true∧b2=true∧CBlk W j5_3 #[.bool mq.neg,.slice A5_2 n5_2 c5_2,.slice A5_2' n5_2' c5_2'] 91)):=⟨_,rfl⟩
 have HInv5:=Lib.hid hInv5
 clear hInv5
 refine wp_region_inv (by kernel_rfl) Inv5 (by kernel_rfl) ?_ ?_ ?_
 ·rw [HInv5.out]
  exact ⟨false,false,false,false,false,undef,undef,undef,undef,none,0,0,none,0,0,none,0,0,none,0,0,0,rfl,rfl,(by rw [hG5];exact Nat.le_refl _),hB4.drew,q14.drew,q64.drew,(hf4.later (Below.drew (Below.refl _ _))),(fun h=>by cases h),(fun h=>by cases h),(fun h=>by cases h),(fun h=>by cases h),(fun h=>by cases h)⟩
 ·intro i op listed ac W ho hI hl hdep
  rw [HInv5.out] at hI
  obtain ⟨b0,b1,b2,b3,b4,u21,u22,u23,u9,A5_0,n5_0,c5_0,A5_0',n5_0',c5_0',A5_2,n5_2,c5_2,A5_2',n5_2',c5_2',j5_3,rfl,rfl,hGW,hB4,q14,q64,hf4,f0,f1,f2,f3,f4⟩:=hI
  clear hG5
  match i,ho,hl,hdep with
  | 0,ho,hl,hdep=>
   have hun:b0=false:=Option.some.inj hl
   obtain rfl:=Option.some.inj ho
   refine step_of ho fun K' hK => ?_
   go_simp
   go_at_call 118
   refine (HO.out W (hT.later hB4)).mono ?_
   rintro e W1 ⟨v0,rfl,⟨A,n,c,A',n',c',rfl,kt,kb⟩,hb⟩
   refine hK.out _ _ ?_
   rw [HInv5.out]
   exact ⟨true,b1,b2,b3,b4,(.agg #[.bool halfTQ.neg,.slice A n c,.slice A' n' c']),u22,u23,u9,A,n,c,A',n',c',A5_2,n5_2,c5_2,A5_2',n5_2',c5_2',j5_3,rfl,rfl,(Nat.le_trans hGW hb.size),(hB4.trans (hb.mono hB4.size)),(q14.below hb q14.lt),(q64.below hb q64.lt),(hf4.later hb),(fun _=>⟨rfl,⟨A,n,c,A',n',c',rfl,kt,kb⟩⟩),f1,(fun h=>⟨(f2 h).1,(f2 h).2.later hb⟩),(fun h=>⟨(f3 h).1,(f3 h).2.1,Nat.lt_of_lt_of_le (f3 h).2.2.1 hb.size,fun h2=>((f3 h).2.2.2 h2).below hb (f3 h).2.2.1⟩),(fun h=>⟨(f4 h).1,(f4 h).2.1,(f4 h).2.2.below hb (f4 h).2.2.lt⟩)⟩
  | 1,ho,hl,hdep=>
   have hun:b1=false:=Option.some.inj hl
   obtain rfl:=Option.some.inj ho
   refine step_of ho fun K' hK => ?_
   have x0:=q64.cell 0
   have x1:=q64.cell 1
   have x2:=q64.cell 2
   go_simp
   refine hK.out _ _ ?_
   rw [HInv5.out]
   exact ⟨b0,true,b2,b3,b4,u21,(.agg #[.bool fq.neg,.slice A3 n3 c3,.slice A4 n4 c4]),u23,u9,A5_0,n5_0,c5_0,A5_0',n5_0',c5_0',A5_2,n5_2,c5_2,A5_2',n5_2',c5_2',j5_3,rfl,rfl,hGW,hB4,q14,q64,hf4,f0,(fun _=>rfl),f2,f3,f4⟩
  | 2,ho,hl,hdep=>
   have hun:b2=false:=Option.some.inj hl
   obtain rfl:=Option.some.inj ho
   have e0:b0=true:=hdep ⟨0,.data⟩ (by simp) rfl
   obtain ⟨rfl,rr0⟩:=f0 e0
   have e1:b1=true:=hdep ⟨1,.data⟩ (by simp) rfl
   obtain rfl:=f1 e1
   refine step_of ho fun K' hK => ?_
   go_simp
   go_at_call 67
   refine (HM.out _ _ W (hT.later hB4) rr0 hf4).mono ?_
   rintro e W1 ⟨v0,rfl,⟨A,n,c,A',n',c',rfl,kt,kb⟩,hb⟩
   refine hK.out _ _ ?_
   rw [HInv5.out]
   exact ⟨b0,b1,true,b3,b4,(.agg #[.bool halfTQ.neg,.slice A5_0 n5_0 c5_0,.slice A5_0' n5_0' c5_0']),(.agg #[.bool fq.neg,.slice A3 n3 c3,.slice A4 n4 c4]),(.agg #[.bool mq.neg,.slice A n c,.slice A' n' c']),u9,A5_0,n5_0,c5_0,A5_0',n5_0',c5_0',A,n,c,A',n',c',j5_3,rfl,rfl,(Nat.le_trans hGW hb.size),(hB4.trans (hb.mono hB4.size)),(q14.below hb q14.lt),(q64.below hb q64.lt),(hf4.later hb),(fun h=>⟨(f0 h).1,(f0 h).2.later hb⟩),f1,(fun _=>⟨rfl,⟨A,n,c,A',n',c',rfl,kt,kb⟩⟩),(fun h=>⟨(f3 h).1,(f3 h).2.1,Nat.lt_of_lt_of_le (f3 h).2.2.1 hb.size,fun h2=>((f3 h).2.2.2 h2).below hb (f3 h).2.2.1⟩),(fun h=>by rw [(f4 h).2.1] at hun;cases hun)⟩
  | 3,ho,hl,hdep=>
   have hun:b3=false:=Option.some.inj hl
   obtain rfl:=Option.some.inj ho
   refine step_of ho fun K' hK => ?_
   have hb:Below W.heap.size W (W.alloc (.cells #[.bool false,.slice none 0 0,.slice none 0 0] 91)):=(Below.refl _ _).alloc (Nat.le_refl _) _
   go_simp
   refine hK.out _ _ ?_
   rw [HInv5.out]
   exact ⟨b0,b1,b2,true,b4,u21,u22,u23,(.pointer (some ⟨W.heap.size,0,none⟩)),A5_0,n5_0,c5_0,A5_0',n5_0',c5_0',A5_2,n5_2,c5_2,A5_2',n5_2',c5_2',W.heap.size,rfl,rfl,(Nat.le_trans hGW hb.size),(hB4.trans (hb.mono hB4.size)),(q14.below hb q14.lt),(q64.below hb q64.lt),(hf4.later hb),(fun h=>⟨(f0 h).1,(f0 h).2.later hb⟩),f1,(fun h=>⟨(f2 h).1,(f2 h).2.later hb⟩),(fun _=>⟨rfl,hGW,by simp,fun _=>CBlk.new W _ _ _ rfl⟩),(fun h=>by rw [(f4 h).1] at hun;cases hun)⟩
  | 4,ho,hl,hdep=>
   have hun:b4=false:=Option.some.inj hl
   obtain rfl:=Option.some.inj ho
   have e3:b3=true:=hdep ⟨3,.data⟩ (by simp) rfl
   obtain ⟨rfl,hGj,hjW,hzz⟩:=f3 e3
   have e2:b2=true:=hdep ⟨2,.data⟩ (by simp) rfl
   obtain ⟨rfl,rr2⟩:=f2 e2
   refine step_of ho fun K' hK => ?_
   have hz:=hzz hun
   have z0:=hz.cell 0
   have z1:=hz.cell 1
   have z2:=hz.cell 2
   have zf0:=hz.frozen 0
   have zf1:=hz.frozen 1
   have zf2:=hz.frozen 2
   go_simp
   refine hK.out _ _ ?_
   rw [HInv5.out]
   exact ⟨b0,b1,b2,b3,true,u21,u22,(.agg #[.bool mq.neg,.slice A5_2 n5_2 c5_2,.slice A5_2' n5_2' c5_2']),(.pointer (some ⟨j5_3,0,none⟩)),A5_0,n5_0,c5_0,A5_0',n5_0',c5_0',A5_2,n5_2,c5_2,A5_2',n5_2',c5_2',j5_3,rfl,rfl,(by rw [size_set3];exact hGW),(three_set hB4 (Nat.le_trans le5 hGj) _ _ _),(q14.far3 (Nat.ne_of_gt (Nat.lt_of_lt_of_le lt5_q14 hGj)) _ _ _),(q64.far3 (Nat.ne_of_gt (Nat.lt_of_lt_of_le lt5_q64 hGj)) _ _ _),(hf4.res3 hz _ _ _ _ _ _ _),(fun h=>⟨(f0 h).1,(f0 h).2.res3 hz _ _ _ _ _ _ _⟩),f1,(fun h=>⟨(f2 h).1,(f2 h).2.res3 hz _ _ _ _ _ _ _⟩),(fun h=>⟨(f3 h).1,(f3 h).2.1,by rw [size_set3];exact (f3 h).2.2.1,fun h2=>by cases h2⟩),(fun _=>⟨e3,e2,hz.set3 _ _ _⟩)⟩
  | n+5,ho,hl,hdep=>exact absurd ho (by simp)
 ·intro listed ac Y hI hall
  rw [HInv5.out] at hI
  clear hB4 q14 q64 hf4
  obtain ⟨b0,b1,b2,b3,b4,u21,u22,u23,u9,A5_0,n5_0,c5_0,A5_0',n5_0',c5_0',A5_2,n5_2,c5_2,A5_2',n5_2',c5_2',j5_3,rfl,rfl,hGW,hB4,q14,q64,hf4,f0,f1,f2,f3,f4⟩:=hI
  have e0:b0=true:=hall 0 b0 (by decide) rfl
  have e1:b1=true:=hall 1 b1 (by decide) rfl
  have e2:b2=true:=hall 2 b2 (by decide) rfl
  have e3:b3=true:=hall 3 b3 (by decide) rfl
  have e4:b4=true:=hall 4 b4 (by decide) rfl
  subst e0
  subst e1
  subst e2
  subst e3
  subst e4
  obtain ⟨rfl,qh⟩:=f0 rfl
  obtain rfl:=f1 rfl
  obtain ⟨rfl,qm⟩:=f2 rfl
  obtain ⟨rfl,hGj5_3,_,_⟩:=f3 rfl
  have t9:=(f4 rfl).2.2
  clear f0 f1 f2 f3 f4 hall HInv5 lt5_q14 lt5_q64
  have x0:=q64.cell 0
  have x1c:=q64.cell 1
  have x2c:=q64.cell 2
  have y0:=t9.cell 0
  have y1:=t9.cell 1
  have y2:=t9.cell 2
  clear HM HO
  go_wp2_with fail
  refine (HC.out _ _ Y qm hf4).mono ?_
  rintro e w8 ⟨rfl,hb8⟩
  have hB8:=hB4.trans (hb8.mono hB4.size)
  have t98:=t9.below hb8 t9.lt
  have q68:=q64.below hb8 q64.lt
  have q18:=q14.below hb8 q14.lt
  have qm8:=qm.later hb8
  have hf8:=hf4.later hb8
  have hT8:=hT.later hB8
  clear HC hB4 hb8 t9 q64 q14 qm hf4 qh x0 x1c x2c y0 y1 y2 hT
  have x0:=q68.cell 0
  have x1c:=q68.cell 1
  have x2c:=q68.cell 2
  have y0:=t98.cell 0
  have y1:=t98.cell 1
  have y2:=t98.cell 2
  by_cases hc:rcmp mq fq<0
  ·have d:decide (rcmp mq fq<0)=true:=decide_eq_true hc
   obtain ⟨rfl,rfl,rfl⟩:=hN.out hc
   clear hc hN hP x0 x1c x2c q68 hf8
   go_wp2_with fail
   refine (HA.out _ w8 hT8 qm8).mono ?_
   rintro e w9 ⟨v9,rfl,h9,hb9⟩
   have hB9:=hB8.trans (hb9.mono hB8.size)
   have q19:=q18.below hb9 q18.lt
   have hT9:=hT8.later hb9
   clear HA hB8 hb9 q18 hT8 y0 y1 y2 t98 qm8
   go_wp2_with fail
   refine (ineg_any qa qb v9 w9 h9).mono ?_
   rintro e w10 ⟨v10,rfl,h10,hb10⟩
   have hB10:=hB9.trans (hb10.mono hB9.size)
   have q110:=q19.below hb10 q19.lt
   have hT10:=hT9.later hb10
   clear hB9 hb10 q19 hT9 h9
   go_wp2_with fail
   refine (iwrite_any (nnegQ qb) (nnegQ qa) v10 w10 hT10 h10 ((lenQ_neg lb).mono (by omega)) ((lenQ_neg la).mono (by omega))).mono ?_
   rintro e w11 ⟨z1,z2,rfl,hz1,hz2,hb11⟩
   have hB11:=hB10.trans (hb11.mono hB10.size)
   have q111:=q110.below hb11 q110.lt
   have u0:=q111.cell 0
   have u1:=q111.cell 1
   have f0:=q111.frozen 0
   have f1:=q111.frozen 1
   have hset:=twoSetS hB11 (g:=w.heap.size+1) (by omega) (.string z1) (.string z2)
   go_wp2
   refine bodyPost_ret (v := .tuple #[.agg #[.string z1,.string z2],.int .i64 (spanE (nnegQ qb) (nnegQ qa))]) (by simp [results,Tryz.results117,go_sem,u0,u1]) rfl ⟨z1,z2,rfl,hz1,hz2,hset⟩
  ·have d:decide (rcmp mq fq<0)=false:=decide_eq_false hc
   obtain ⟨rfl,rfl,rfl⟩:=hP.out (by omega)
   clear hc hN hP y0 y1 y2 t98 qm8
   go_wp2_with fail
   refine (HA.out _ w8 hT8 hf8).mono ?_
   rintro e w9 ⟨v9,rfl,h9,hb9⟩
   have hB9:=hB8.trans (hb9.mono hB8.size)
   have q19:=q18.below hb9 q18.lt
   have hT9:=hT8.later hb9
   clear HA hB8 hb9 q18 hT8 x0 x1c x2c q68 hf8
   go_wp2_with fail
   refine (iwrite_any _ _ v9 w9 hT9 h9 (la.mono (by omega)) (lb.mono (by omega))).mono ?_
   rintro e w11 ⟨z1,z2,rfl,hz1,hz2,hb11⟩
   have hB11:=hB9.trans (hb11.mono hB9.size)
   have q111:=q19.below hb11 q19.lt
   have u0:=q111.cell 0
   have u1:=q111.cell 1
   have f0:=q111.frozen 0
   have f1:=q111.frozen 1
   have hset:=twoSetS hB11 (g:=w.heap.size+1) (by omega) (.string z1) (.string z2)
   go_wp2
   refine bodyPost_ret (v := .tuple #[.agg #[.string z1,.string z2],.int .i64 (spanE _ _)]) (by simp [results,Tryz.results117,go_sem,u0,u1]) rfl ⟨z1,z2,rfl,hz1,hz2,hset⟩
end Go.Proofs.YteajibbphcfmeaaGreatDoor
