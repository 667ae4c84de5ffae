/- Contracts of package number's folded. -/
import Derived.Test.YteajibbphcfmeaaGreatDoorTCo5
import Derived.Test.YteajibbphcfmeaaGreatDoorTFlb
namespace Go.Proofs.YteajibbphcfmeaaGreatDoor
open Go.RowKit Bn
theorem CBlk.far3 {w:World} {g g':Nat} {c:Array Value} {t:TypeId} (h:CBlk w g c t) (hne:g'≠g) (u v x:Value):CBlk (((w.setCell ⟨g',0,none⟩ u).setCell ⟨g',1,none⟩ v).setCell ⟨g',2,none⟩ x) g c t:=
 ((h.setFar hne _).setFar hne _).setFar hne _
theorem CBlk.set3 {w:World} {g:Nat} {a b c:Value} {t:TypeId} (h:CBlk w g #[a,b,c] t) (u v x:Value):CBlk (((w.setCell ⟨g,0,none⟩ u).setCell ⟨g,1,none⟩ v).setCell ⟨g,2,none⟩ x) g #[u,v,x] t:=
 ((h.set 0 u).set 1 v).set 2 x
theorem RatS.res3 {w:World} {g:Nat} {v:Value} {q:Q} {b0:Bool} {a1 a2:Option Addr} {m1 d1 m2 d2:Nat} {t:TypeId} (h:RatS w w.heap.size v q) (hz:CBlk w g #[.bool b0,.slice a1 m1 d1,.slice a2 m2 d2] t) (b:Bool) (A1 A2:Option Addr) (n1 c1 n2 c2:Nat) :
  RatS (((w.setCell ⟨g,0,none⟩ (.bool b)).setCell ⟨g,1,none⟩ (.slice A1 n1 c1)).setCell ⟨g,2,none⟩ (.slice A2 n2 c2)) (((w.setCell ⟨g,0,none⟩ (.bool b)).setCell ⟨g,1,none⟩ (.slice A1 n1 c1)).setCell ⟨g,2,none⟩ (.slice A2 n2 c2)).heap.size v q:=by
 obtain ⟨A,n,c,A',n',c',rfl,h1,h2⟩:=h
 exact ⟨A,n,c,A',n',c',rfl,h1.store3 hz (noInt_three _ _ _ _ _ _ _) 0 1 2 _ _ _ _ _ _ _,h2.store3 hz (noInt_three _ _ _ _ _ _ _) 0 1 2 _ _ _ _ _ _ _⟩
def fracQ1 (p:Q):Q:=minusQ p (floorQ p)
def oneQ:Q:=⟨false,1,1⟩
theorem one_any (w:World):Calls Tryz.prog 78 #[.int .i64 1] w (RetRat w oneQ):=integer_any 1 w (by omega) (by omega)
theorem len_oneQ:LenQ oneQ 1:=⟨len_one,len_one⟩
theorem len_floor {p:Q} {K:Nat} (h:LenQ p K):LenQ (floorQ p) (K+2):=by
 refine ⟨?_,Nat.le_trans len_one (by omega)⟩
 unfold floorQ
 dsimp only
 have h1:(digs (p.top / p.bot)).length≤K:=Nat.le_trans (digs_length_mono (Nat.div_le_self _ _)) h.1
 split
 ·exact len_plus h1 len_one
 ·omega
def foldOf (q:Q):Q:=if rcmp (minusQ oneQ q) q<0 then minusQ oneQ q else q
def foldQ (p:Q):Q:=foldOf (fracQ1 p)
set_option maxHeartbeats 4000000 in
set_option maxRecDepth 100000 in
theorem folded_any (p:Q) (v:Value) (w:World) (hT:Tabs w) (hv:RatS w w.heap.size v p) (hy:0<p.bot) (hl:LenQ p 1048576) :
  Calls Tryz.prog 163 #[v] w (RetRat w (foldQ p)):=by
 obtain ⟨A1,n1,c1,A2,n2,c2,rfl,h1,h2⟩:=hv
 have hbW:Below w.heap.size w ((w.alloc (.cells #[.bool p.neg,.slice A1 n1 c1,.slice A2 n2 c2] 91)).alloc (.cells #[.bool false,.slice none 0 0,.slice none 0 0] 91)):=(((Below.refl _ _).alloc (by simp<;>omega) _).alloc (by simp<;>omega) _)
 have q0:CBlk ((w.alloc (.cells #[.bool p.neg,.slice A1 n1 c1,.slice A2 n2 c2] 91)).alloc (.cells #[.bool false,.slice none 0 0,.slice none 0 0] 91)) (w.heap.size) #[.bool p.neg,.slice A1 n1 c1,.slice A2 n2 c2] 91:=((CBlk.new _ _ _ _ (by simp)).alloc _)
 have q1:CBlk ((w.alloc (.cells #[.bool p.neg,.slice A1 n1 c1,.slice A2 n2 c2] 91)).alloc (.cells #[.bool false,.slice none 0 0,.slice none 0 0] 91)) (w.heap.size+1) #[.bool false,.slice none 0 0,.slice none 0 0] 91:=(CBlk.new _ _ _ _ (by simp))
 go_enter Tryz.func163,Tryz.ntmps163
 go_upto_region 1 with (fail)
 generalize ((w.alloc (.cells #[.bool p.neg,.slice A1 n1 c1,.slice A2 n2 c2] 91)).alloc (.cells #[.bool false,.slice none 0 0,.slice none 0 0] 91))=W at *
 have a0:=q0.cell 0
 have a1:=q0.cell 1
 have a2:=q0.cell 2
 have z0:=q0.frozen 0
 have z1:=q0.frozen 1
 have z2:=q0.frozen 2
 have lf:=len_floor hl
 have HF:=Lib.hid (fun v W h=>nfloor_s p v W h hy (hl.mono (by omega)))
 have HM:=Lib.hid (fun v u W h1 h2 h3=>nminus_s p (floorQ p) v u W h1 h2 h3 (hl.mono (by omega)) (lf.mono (by omega)))
 go_region_law (first | (go_simp;go_at_call 79;refine (HF.out _ _ (RatS.mk (h1.later hbW.drew) (h2.later hbW.drew))).mono ?_;rintro e w4 ⟨v4,rfl,⟨A3,n3,c3,A4,n4,c4,rfl,h3,h4⟩,hb4⟩;have q04:=q0.drew.below hb4 q0.lt;have kb0:=q04.cell 0;have kb1:=q04.cell 1;have kb2:=q04.cell 2) | (go_simp;go_at_call 67;refine (HM.out _ _ w4 ((hT.later hbW.drew).later hb4) (RatS.mk ((h1.later hbW.drew).later hb4) ((h2.later hbW.drew).later hb4)) (RatS.mk h3 h4)).mono ?_;rintro e w5 ⟨v5,rfl,⟨A5,n5,c5,A6,n6,c6,rfl,h5,h6⟩,hb5⟩;have q05:=(q0.drew.below hb4 q0.lt).below hb5 (Nat.lt_of_lt_of_le q0.lt hb4.size);have kc0:=q05.cell 0;have kc1:=q05.cell 1;have kc2:=q05.cell 2;have kd0:=q05.frozen 0;have kd1:=q05.frozen 1;have kd2:=q05.frozen 2))
 all_goals
  have hB5:=(hbW.drew.trans (hb4.mono hbW.drew.size)).trans (hb5.mono (Nat.le_trans hbW.drew.size hb4.size))
  have q15:=(q1.drew.below hb4 q1.lt).below hb5 (Nat.lt_of_lt_of_le q1.lt hb4.size)
  have hf5:RatS w5 w5.heap.size (.agg #[.bool (minusQ p (floorQ p)).neg,.slice A5 n5 c5,.slice A6 n6 c6]) (minusQ p (floorQ p)):=RatS.mk h5 h6
  have lfq:LenQ (minusQ p (floorQ p)) 8388608:=(lenQ_plus hl (lenQ_neg lf)).mono (by omega)
  have hB:=three_set hB5 (g:=w.heap.size) (Nat.le_refl _) (.bool (minusQ p (floorQ p)).neg) (.slice A5 n5 c5) (.slice A6 n6 c6)
  have qf:=q05.set3 (.bool (minusQ p (floorQ p)).neg) (.slice A5 n5 c5) (.slice A6 n6 c6)
  have qz:=q15.far3 (g':=w.heap.size) (by omega) (.bool (minusQ p (floorQ p)).neg) (.slice A5 n5 c5) (.slice A6 n6 c6)
  have hf:=hf5.res3 q05 (minusQ p (floorQ p)).neg A5 A6 n5 c5 n6 c6
  clear hf5 q05 q15 hB5 hb4 hb5 q0 q1 hbW q04 kb0 kb1 kb2 kc0 kc1 kc2 kd0 kd1 kd2 a0 a1 a2 z0 z1 z2 HF HM h1 h2 h3 h4 h5 h6 lf
  generalize (((w5.setCell ⟨w.heap.size,0,none⟩ (.bool (minusQ p (floorQ p)).neg)).setCell ⟨w.heap.size,1,none⟩ (.slice A5 n5 c5)).setCell ⟨w.heap.size,2,none⟩ (.slice A6 n6 c6))=X at *
  have HQ:=Lib.hid (show foldQ p=foldOf (minusQ p (floorQ p)) from rfl)
  clear hl hy
  generalize (minusQ p (floorQ p))=fq at *
  obtain ⟨mq,hmq⟩:∃ q,q=minusQ oneQ fq:=⟨_,rfl⟩
  have lmq:LenQ mq 33554432:=by rw [hmq];exact (lenQ_plus len_oneQ (lenQ_neg lfq)).mono (by omega)
  have HM:=Lib.hid (fun v u W hT h2 h3=>(show Calls _ _ _ _ (RetRat W mq) from by rw [hmq];exact nminus_s oneQ fq v u W hT h2 h3 (len_oneQ.mono (by omega)) (lfq.mono (by omega))))
  have HO:=Lib.hid (fun W=>one_any W)
  have HC:=Lib.hid (fun v u W h1 h2=>ncompare_s mq fq v u W h1 h2 (lmq.mono (by omega)) (lfq.mono (by omega)))
  have HMQ:=Lib.hid hmq
  clear lmq lfq hmq
  go_wp2_with fail
  obtain ⟨G2,hG2⟩:∃ g,g=X.heap.size:=⟨_,rfl⟩
  have le2:w.heap.size≤G2:=by rw [hG2];exact hB.size
  have lt2_qf:w.heap.size<G2:=by rw [hG2];exact qf.lt
  have lt2_qz:w.heap.size+1<G2:=by rw [hG2];exact qz.lt
  obtain ⟨Inv2,hInv2⟩:∃ I:Array Bool→Act→World→Prop,I=(fun listed ac W=>∃ (b0 b1 b2 b3 b4:Bool) (u8 u9 u10 u3:Value) (A2_0:Option Addr) (n2_0 c2_0:Nat) (A2_0':Option Addr) (n2_0' c2_0':Nat) (A2_2:Option Addr) (n2_2 c2_2:Nat) (A2_2':Option Addr) (n2_2' c2_2':Nat) (j2_3:Nat),listed=#[b0,b1,b2,b3,b4]∧ac={ tmps:=#[.agg #[.bool p.neg,.slice A1 n1 c1,.slice A2 n2 c2],.pointer (some ⟨w.heap.size,0,none⟩),.pointer (some ⟨w.heap.size+1,0,none⟩),u3,.agg #[.bool p.neg,.slice A1 n1 c1,.slice A2 n2 c2],.agg #[.bool p.neg,.slice A1 n1 c1,.slice A2 n2 c2],.agg #[.bool (floorQ p).neg,.slice A3 n3 c3,.slice A4 n4 c4],.agg #[.bool fq.neg,.slice A5 n5 c5,.slice A6 n6 c6],u8,u9,u10,undef,undef,undef,undef,undef,undef],defers:=[] }∧G2≤W.heap.size∧Below w.heap.size w W∧CBlk W (w.heap.size) #[.bool fq.neg,.slice A5 n5 c5,.slice A6 n6 c6] 91∧CBlk W (w.heap.size+1) #[.bool false,.slice none 0 0,.slice none 0 0] 91∧RatS W W.heap.size (.agg #[.bool fq.neg,.slice A5 n5 c5,.slice A6 n6 c6]) fq∧(b0=true→u8 = .agg #[.bool oneQ.neg,.slice A2_0 n2_0 c2_0,.slice A2_0' n2_0' c2_0']∧RatS W W.heap.size (.agg #[.bool oneQ.neg,.slice A2_0 n2_0 c2_0,.slice A2_0' n2_0' c2_0']) ⟨oneQ.neg,oneQ.top,oneQ.bot⟩)∧(b1=true→u9 = .agg #[.bool fq.neg,.slice A5 n5 c5,.slice A6 n6 c6])∧(b2=true→u10 = .agg #[.bool mq.neg,.slice A2_2 n2_2 c2_2,.slice A2_2' n2_2' c2_2']∧RatS W W.heap.size (.agg #[.bool mq.neg,.slice A2_2 n2_2 c2_2,.slice A2_2' n2_2' c2_2']) ⟨mq.neg,mq.top,mq.bot⟩)∧(b3=true→u3 = .pointer (some ⟨j2_3,0,none⟩)∧G2≤j2_3∧j2_3<W.heap.size∧(b4=false→CBlk W j2_3 #[.bool false,.slice none 0 0,.slice none 0 0] 91))∧(b4=true→b3=true∧b2=true∧CBlk W j2_3 #[.bool mq.neg,.slice A2_2 n2_2 c2_2,.slice A2_2' n2_2' c2_2'] 91)):=⟨_,rfl⟩
  have HInv2:=Lib.hid hInv2
  clear hInv2
  refine wp_region_inv (by kernel_rfl) Inv2 (by kernel_rfl) ?_ ?_ ?_
  ·rw [HInv2.out]
   exact ⟨false,false,false,false,false,undef,undef,undef,undef,none,0,0,none,0,0,none,0,0,none,0,0,0,rfl,rfl,(by rw [hG2];exact Nat.le_refl _),hB.drew,qf.drew,qz.drew,(hf.later (Below.drew (Below.refl _ _))),(fun h=>by cases h),(fun h=>by cases h),(fun h=>by cases h),(fun h=>by cases h),(fun h=>by cases h)⟩
  ·intro i op listed ac W ho hI hl hdep
   rw [HInv2.out] at hI
   obtain ⟨b0,b1,b2,b3,b4,u8,u9,u10,u3,A2_0,n2_0,c2_0,A2_0',n2_0',c2_0',A2_2,n2_2,c2_2,A2_2',n2_2',c2_2',j2_3,rfl,rfl,hGW,hB,qf,qz,hf,f0,f1,f2,f3,f4⟩:=hI
   clear hG2
   match i,ho,hl,hdep with
   | 0,ho,hl,hdep=>
    have hun:b0=false:=Option.some.inj hl
    obtain rfl:=Option.some.inj ho
    refine step_of ho fun K' hK => ?_
    go_simp
    go_at_call 78
    refine (HO.out W).mono ?_
    rintro e W1 ⟨v0,rfl,⟨A,n,c,A',n',c',rfl,kt,kb⟩,hb⟩
    refine hK.out _ _ ?_
    rw [HInv2.out]
    exact ⟨true,b1,b2,b3,b4,(.agg #[.bool oneQ.neg,.slice A n c,.slice A' n' c']),u9,u10,u3,A,n,c,A',n',c',A2_2,n2_2,c2_2,A2_2',n2_2',c2_2',j2_3,rfl,rfl,(Nat.le_trans hGW hb.size),(hB.trans (hb.mono hB.size)),(qf.below hb qf.lt),(qz.below hb qz.lt),(hf.later hb),(fun _=>⟨rfl,⟨A,n,c,A',n',c',rfl,kt,kb⟩⟩),f1,(fun h=>⟨(f2 h).1,(f2 h).2.later hb⟩),(fun h=>⟨(f3 h).1,(f3 h).2.1,Nat.lt_of_lt_of_le (f3 h).2.2.1 hb.size,fun h2=>((f3 h).2.2.2 h2).below hb (f3 h).2.2.1⟩),(fun h=>⟨(f4 h).1,(f4 h).2.1,(f4 h).2.2.below hb (f4 h).2.2.lt⟩)⟩
   | 1,ho,hl,hdep=>
    have hun:b1=false:=Option.some.inj hl
    obtain rfl:=Option.some.inj ho
    refine step_of ho fun K' hK => ?_
    have x0:=qf.cell 0
    have x1:=qf.cell 1
    have x2:=qf.cell 2
    go_simp
    refine hK.out _ _ ?_
    rw [HInv2.out]
    exact ⟨b0,true,b2,b3,b4,u8,(.agg #[.bool fq.neg,.slice A5 n5 c5,.slice A6 n6 c6]),u10,u3,A2_0,n2_0,c2_0,A2_0',n2_0',c2_0',A2_2,n2_2,c2_2,A2_2',n2_2',c2_2',j2_3,rfl,rfl,hGW,hB,qf,qz,hf,f0,(fun _=>rfl),f2,f3,f4⟩
   | 2,ho,hl,hdep=>
    have hun:b2=false:=Option.some.inj hl
    obtain rfl:=Option.some.inj ho
    have e0:b0=true:=hdep ⟨0,.data⟩ (by simp) rfl
    obtain ⟨rfl,rr0⟩:=f0 e0
    have e1:b1=true:=hdep ⟨1,.data⟩ (by simp) rfl
    obtain rfl:=f1 e1
    refine step_of ho fun K' hK => ?_
    go_simp
    go_at_call 67
    refine (HM.out _ _ W (hT.later hB) rr0 hf).mono ?_
    rintro e W1 ⟨v0,rfl,⟨A,n,c,A',n',c',rfl,kt,kb⟩,hb⟩
    refine hK.out _ _ ?_
    rw [HInv2.out]
    exact ⟨b0,b1,true,b3,b4,(.agg #[.bool oneQ.neg,.slice A2_0 n2_0 c2_0,.slice A2_0' n2_0' c2_0']),(.agg #[.bool fq.neg,.slice A5 n5 c5,.slice A6 n6 c6]),(.agg #[.bool mq.neg,.slice A n c,.slice A' n' c']),u3,A2_0,n2_0,c2_0,A2_0',n2_0',c2_0',A,n,c,A',n',c',j2_3,rfl,rfl,(Nat.le_trans hGW hb.size),(hB.trans (hb.mono hB.size)),(qf.below hb qf.lt),(qz.below hb qz.lt),(hf.later hb),(fun h=>⟨(f0 h).1,(f0 h).2.later hb⟩),f1,(fun _=>⟨rfl,⟨A,n,c,A',n',c',rfl,kt,kb⟩⟩),(fun h=>⟨(f3 h).1,(f3 h).2.1,Nat.lt_of_lt_of_le (f3 h).2.2.1 hb.size,fun h2=>((f3 h).2.2.2 h2).below hb (f3 h).2.2.1⟩),(fun h=>by rw [(f4 h).2.1] at hun;cases hun)⟩
   | 3,ho,hl,hdep=>
    have hun:b3=false:=Option.some.inj hl
    obtain rfl:=Option.some.inj ho
    refine step_of ho fun K' hK => ?_
    have hb:Below W.heap.size W (W.alloc (.cells #[.bool false,.slice none 0 0,.slice none 0 0] 91)):=(Below.refl _ _).alloc (Nat.le_refl _) _
    go_simp
    refine hK.out _ _ ?_
    rw [HInv2.out]
    exact ⟨b0,b1,b2,true,b4,u8,u9,u10,(.pointer (some ⟨W.heap.size,0,none⟩)),A2_0,n2_0,c2_0,A2_0',n2_0',c2_0',A2_2,n2_2,c2_2,A2_2',n2_2',c2_2',W.heap.size,rfl,rfl,(Nat.le_trans hGW hb.size),(hB.trans (hb.mono hB.size)),(qf.below hb qf.lt),(qz.below hb qz.lt),(hf.later hb),(fun h=>⟨(f0 h).1,(f0 h).2.later hb⟩),f1,(fun h=>⟨(f2 h).1,(f2 h).2.later hb⟩),(fun _=>⟨rfl,hGW,by simp,fun _=>CBlk.new W _ _ _ rfl⟩),(fun h=>by rw [(f4 h).1] at hun;cases hun)⟩
   | 4,ho,hl,hdep=>
    have hun:b4=false:=Option.some.inj hl
    obtain rfl:=Option.some.inj ho
    have e3:b3=true:=hdep ⟨3,.data⟩ (by simp) rfl
    obtain ⟨rfl,hGj,hjW,hzz⟩:=f3 e3
    have e2:b2=true:=hdep ⟨2,.data⟩ (by simp) rfl
    obtain ⟨rfl,rr2⟩:=f2 e2
    refine step_of ho fun K' hK => ?_
    have hz:=hzz hun
    have z0:=hz.cell 0
    have z1:=hz.cell 1
    have z2:=hz.cell 2
    have zf0:=hz.frozen 0
    have zf1:=hz.frozen 1
    have zf2:=hz.frozen 2
    go_simp
    refine hK.out _ _ ?_
    rw [HInv2.out]
    exact ⟨b0,b1,b2,b3,true,u8,u9,(.agg #[.bool mq.neg,.slice A2_2 n2_2 c2_2,.slice A2_2' n2_2' c2_2']),(.pointer (some ⟨j2_3,0,none⟩)),A2_0,n2_0,c2_0,A2_0',n2_0',c2_0',A2_2,n2_2,c2_2,A2_2',n2_2',c2_2',j2_3,rfl,rfl,(by rw [size_set3];exact hGW),(three_set hB (Nat.le_trans le2 hGj) _ _ _),(qf.far3 (Nat.ne_of_gt (Nat.lt_of_lt_of_le lt2_qf hGj)) _ _ _),(qz.far3 (Nat.ne_of_gt (Nat.lt_of_lt_of_le lt2_qz hGj)) _ _ _),(hf.res3 hz _ _ _ _ _ _ _),(fun h=>⟨(f0 h).1,(f0 h).2.res3 hz _ _ _ _ _ _ _⟩),f1,(fun h=>⟨(f2 h).1,(f2 h).2.res3 hz _ _ _ _ _ _ _⟩),(fun h=>⟨(f3 h).1,(f3 h).2.1,by rw [size_set3];exact (f3 h).2.2.1,fun h2=>by cases h2⟩),(fun _=>⟨e3,e2,hz.set3 _ _ _⟩)⟩
   | n+5,ho,hl,hdep=>exact absurd ho (by simp)
  ·intro listed ac Y hI hall
   rw [HInv2.out] at hI
   clear hB qf qz hf
   obtain ⟨b0,b1,b2,b3,b4,u8,u9,u10,u3,A2_0,n2_0,c2_0,A2_0',n2_0',c2_0',A2_2,n2_2,c2_2,A2_2',n2_2',c2_2',j2_3,rfl,rfl,hGW,hB,qf,qz,hf,f0,f1,f2,f3,f4⟩:=hI
   have e0:b0=true:=hall 0 b0 (by decide) rfl
   have e1:b1=true:=hall 1 b1 (by decide) rfl
   have e2:b2=true:=hall 2 b2 (by decide) rfl
   have e3:b3=true:=hall 3 b3 (by decide) rfl
   have e4:b4=true:=hall 4 b4 (by decide) rfl
   subst e0
   subst e1
   subst e2
   subst e3
   subst e4
   obtain ⟨rfl,qo⟩:=f0 rfl
   obtain rfl:=f1 rfl
   obtain ⟨rfl,qm⟩:=f2 rfl
   obtain ⟨rfl,hGj2_3,_,_⟩:=f3 rfl
   have t3:=(f4 rfl).2.2
   clear f0 f1 f2 f3 f4 hall HInv2 lt2_qf lt2_qz
   have x0:=qf.cell 0
   have x1:=qf.cell 1
   have x2:=qf.cell 2
   have y0:=t3.cell 0
   have y1:=t3.cell 1
   have y2:=t3.cell 2
   clear HM HO hT
   go_wp2_with fail
   refine (HC.out _ _ Y qm hf).mono ?_
   rintro e w8 ⟨rfl,hb8⟩
   have hB8:=hB.trans (hb8.mono hB.size)
   have t38:=t3.below hb8 t3.lt
   have qf8:=qf.below hb8 qf.lt
   have qz8:=qz.below hb8 qz.lt
   have qm8:=qm.later hb8
   have hf8:=hf.later hb8
   clear HC hB hb8 t3 qf qz qm hf qo x0 x1 x2 y0 y1 y2
   have x0:=qf8.cell 0
   have x1:=qf8.cell 1
   have x2:=qf8.cell 2
   have y0:=t38.cell 0
   have y1:=t38.cell 1
   have y2:=t38.cell 2
   have z0:=qz8.cell 0
   have z1:=qz8.cell 1
   have z2:=qz8.cell 2
   have zf0:=qz8.frozen 0
   have zf1:=qz8.frozen 1
   have zf2:=qz8.frozen 2
   by_cases hc:rcmp mq fq<0
   ·have d:decide (rcmp mq fq<0)=true:=decide_eq_true hc
    have hr:foldQ p=mq:=by rw [HQ.out];unfold foldOf;rw [←HMQ.out,if_pos hc]
    have HR:=Lib.hid hr
    clear hr hc
    have hset:=three_set hB8 (g:=w.heap.size+1) (by omega) (.bool mq.neg) (.slice A2_2 n2_2 c2_2) (.slice A2_2' n2_2' c2_2')
    have hres:=qm8.res3 qz8 mq.neg A2_2 A2_2' n2_2 c2_2 n2_2' c2_2'
    clear HMQ HQ
    go_wp2_with fail
    refine bodyPost_ret (v := .agg #[.bool mq.neg,.slice A2_2 n2_2 c2_2,.slice A2_2' n2_2' c2_2']) (by simp [results,Tryz.results163,go_sem,z0,z1,z2]) rfl ⟨_,rfl,?_,hset⟩
    rw [HR.out]
    exact hres
   ·have d:decide (rcmp mq fq<0)=false:=decide_eq_false hc
    have hr:foldQ p=fq:=by rw [HQ.out];unfold foldOf;rw [←HMQ.out,if_neg hc]
    have HR:=Lib.hid hr
    clear hr hc
    have hset:=three_set hB8 (g:=w.heap.size+1) (by omega) (.bool fq.neg) (.slice A5 n5 c5) (.slice A6 n6 c6)
    have hres:=hf8.res3 qz8 fq.neg A5 A6 n5 c5 n6 c6
    clear HMQ HQ
    go_wp2_with fail
    refine bodyPost_ret (v := .agg #[.bool fq.neg,.slice A5 n5 c5,.slice A6 n6 c6]) (by simp [results,Tryz.results163,go_sem,z0,z1,z2]) rfl ⟨_,rfl,?_,hset⟩
    rw [HR.out]
    exact hres
end Go.Proofs.YteajibbphcfmeaaGreatDoor
