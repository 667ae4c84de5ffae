/- The law of calibrations for every input. -/
import Derived.Test.YtmkihdjolnlccaaGreatDoorFRd1
import Derived.Test.YtmkihdjolnlccaaGreatDoorFRc8
import Derived.Test.YtmkihdjolnlccaaGreatDoorFAwj
import Derived.Test.YtmkihdjolnlccaaGreatDoorFRc1
import Derived.Laws.StructEq
namespace Go.Proofs.YtmkihdjolnlccaaGreatDoor
open Go.RowKit Bn
open Flt
theorem awakeC:AwakeK:=fun W hT=>awake_ok W hT
theorem code_main (n:Nat) (st z c1 c2 E xa xs xz:Int) (g o v1 v2 xg xo:ByteArray) (hst : -20≤st∧st≤4) (hz:0≤z∧z≤4095) (hc1:0≤c1∧c1≤4095) (hc2:0≤c2∧c2≤4095) (hne:c1≠c2)
  (k1:CodeOk n st z g o c1) (k2:CodeOk n st z g o c2) (t1:readE v1.data.toList=0) (t2:readE v2.data.toList=0) (N:CalNums st z c1 c2 (readQ v1.data.toList) (readQ v2.data.toList))
  (s1:Small (readQ v1.data.toList) 60) (s2:Small (readQ v2.data.toList) 60)
  (hbad:signQ (slopeQ st z c1 c2 (readQ v1.data.toList) (readQ v2.data.toList))≤0→xa=0∧xs=0∧xz=0∧xg={ data:=#[] }∧xo={ data:=#[] }∧E=3)
  (hgood:0<signQ (slopeQ st z c1 c2 (readQ v1.data.toList) (readQ v2.data.toList))→xa=n∧xs=st∧xz=z∧xg=⟨(writeS (slopeQ st z c1 c2 (readQ v1.data.toList) (readQ v2.data.toList))).toArray⟩∧xo=⟨(writeS (offQ st z c1 c2 (readQ v1.data.toList) (readQ v2.data.toList))).toArray⟩∧E=0) :
  CalCode n st z c1 c2 g o v1 v2 xa xs xz xg xo E:=by
 intro W hT
 have b1:=size_read t1
 have b2:=size_read t2
 have e1:(⟨(writeS (nomQ st z c1)).toArray⟩:ByteArray).size≤42:=(ba_text N.ln1).size N.sn1 (by omega)
 have e2:(⟨(writeS (nomQ st z c2)).toArray⟩:ByteArray).size≤42:=(ba_text N.ln2).size N.sn2 (by omega)
 refine calib_main n st z c1 c2 _ g o v1 v2 ⟨(writeS (nomQ st z c1)).toArray⟩ ⟨(writeS (nomQ st z c2)).toArray⟩ _ _ (nomW (c1 - z) st) (nomW (c2 - z) st) (nomQ st z c1) (nomQ st z c2) (readQ v1.data.toList) (readQ v2.data.toList) (runQ st z c1 c2) (subQ (readQ v2.data.toList) (readQ v1.data.toList))
  (slopeQ st z c1 c2 (readQ v1.data.toList) (readQ v2.data.toList)) (mulQ (slopeQ st z c1 c2 (readQ v1.data.toList) (readQ v2.data.toList)) (nomQ st z c1)) (offQ st z c1 c2 (readQ v1.data.toList) (readQ v2.data.toList)) _ W hT
  k1 k2 ?_ ?_ (beq_eq_false_iff_ne.2 hne) ?_ ?_ ?_ ?_ ?_ ?_ ?_ ?_ ?_ ?_ ?_ (HasSign.of _) (HasWrite.of N.ssl (by omega) (by omega) N.lsl.1) ?_ ?_ (HasWrite.of N.sof (by omega) (by omega) N.lof.1) ?_ ?_
 ·intro W hT;have h:=check_any v1 W hT (by omega);rwa [t1] at h
 ·intro W hT;have h:=check_any v2 W hT (by omega);rwa [t2] at h
 ·exact fun W=>nominal_any n st z c1 _ _ W (by omega) (by omega) (by omega) (by omega)
 ·exact fun W=>nominal_any n st z c2 _ _ W (by omega) (by omega) (by omega) (by omega)
 ·exact fun W hT=>exact_eq _ _ W hT (nom_text hst (by omega) (by omega))
 ·exact fun W hT=>exact_eq _ _ W hT (nom_text hst (by omega) (by omega))
 ·exact HasRead.of (by omega) (by rw [(ba_text N.ln1).1];exact readQ_writeS N.ln1 N.sn1 (by omega) (by omega))
 ·exact HasRead.of (by omega) rfl
 ·exact HasRead.of (by omega) (by rw [(ba_text N.ln2).1];exact readQ_writeS N.ln2 N.sn2 (by omega) (by omega))
 ·exact HasRead.of (by omega) rfl
 ·exact HasMinus.of N.sn2 N.sn1 (by omega)
 ·exact HasMinus.of s2 s1 (by omega)
 ·exact HasOver.of N.sdf (N.sru.more (by omega)) (by omega)
 ·exact HasTimes.of N.ssl (N.sn1.more (by omega)) (by omega)
 ·exact HasMinus.of (s1.more (by omega)) N.spr (by omega)
 ·intro h;obtain ⟨rfl,rfl,rfl,rfl,rfl,rfl⟩:=hbad h;rfl
 ·intro h;obtain ⟨rfl,rfl,rfl,rfl,rfl,rfl⟩:=hgood h;rfl
theorem cmp_flip {p q:Q} (hp:0<p.bot) (hq:0<q.bot) (h:cmpI q p=1):cmpI p q≤0:=by
 rw [cmpI_sign hq hp] at h
 rw [cmpI_sign hp hq]
 have h1:=Int.sign_eq_one_iff_pos.1 h
 have h2:sI p*(q.bot:Int) - sI q*(p.bot:Int)<0:=by omega
 rw [Int.sign_eq_neg_one_of_neg h2]
 decide
theorem fit_order (st z c:Int) (g o:Q) (hst : -20≤st∧st≤4) (hg:0<g.bot) (ho:0<o.bot) (hp:0<signI g):cmpI (realQ g o (lowE st z c)) (realQ g o (highE st z c))≤0:=by
 have h1:=real_low hg ho (lowE_low st z c).1
 have h2:=real_low hg ho (highE_low st z c).1
 refine cmp_flip h1.1 h2.1 ?_
 show signI (subQ _ _)=1
 rw [fit_width st z c g o hg ho]
 have hs:0<sI g:=by
  unfold signI at hp
  unfold sI
  split at hp
  ·exact absurd hp (by decide)
  ·cases hn:g.neg
   ·simp only [Bool.false_eq_true,if_false]
    omega
   ·rw [hn] at hp
    exact absurd hp (by decide)
 have hv:=((rat_self g hg).mul (Val.lsb hst)).sign.2.2
 refine hv (Int.mul_pos hs (Int.natCast_pos.2 (Nat.two_pow_pos _)))
theorem real_small {g o e:Q} (hg:0<g.bot) (ho:0<o.bot) (he:0<e.bot) (sg:Small g 100) (so:Small o 100) (se:Small e 32):Small (realQ g o e) 233:=
 small_add (small_mul sg se hg he) so (fracQ_low _ (Nat.mul_pos hg he)).1 ho
structure Fit (n:Nat) (st z c1 c2:Int) (p1 p2:Q) (xg xo:ByteArray):Prop where
 i1:0≤c1∧c1≤((2 ^ n - 1:Nat):Int)
 i2:0≤c2∧c2≤((2 ^ n - 1:Nat):Int)
 N:CalNums st z c1 c2 p1 p2
 hG:NumQ xg (slopeQ st z c1 c2 p1 p2)
 hO:NumQ xo (offQ st z c1 c2 p1 p2)
 sG:Small (slopeQ st z c1 c2 p1 p2) 100
 sO:Small (offQ st z c1 c2 p1 p2) 100
 pos:0<signI (slopeQ st z c1 c2 p1 p2)
theorem cal_few (a st z c1 c2:Int) (g o v1 v2:ByteArray) (hA:FewA a st z g o) (h1:FewT v1) (h2:FewT v2) :
    ∃ n:Nat,a=n∧8≤n∧n≤12∧(-20≤st∧st≤4)∧(0≤z∧z≤((2 ^ n - 1:Nat):Int)) ∧
      ((∃ E,(E=3∨E=9)∧CalCode n st z c1 c2 g o v1 v2 0 0 0 { data:=#[] } { data:=#[] } E) ∨
       (∃ xg xo,CalCode n st z c1 c2 g o v1 v2 n st z xg xo 0∧Fit n st z c1 c2 (readQ v1.data.toList) (readQ v2.data.toList) xg xo)):=by
  obtain ⟨hE,⟨_,_,gs⟩,⟨_,_,os⟩⟩:=hA
  obtain ⟨t1,s1,u1⟩:=h1
  obtain ⟨t2,s2,u2⟩:=h2
  have hg:g.size≤4294967296:=by omega
  have ho:o.size≤4294967296:=by omega
  obtain ⟨n,rfl,n1,n2,st1,st2,z0,z1,eg,_,eo⟩:=adcE_zero hE
  refine ⟨n,rfl,n1,n2,⟨st1,st2⟩,⟨z0,z1⟩,?_⟩
  have hp:2 ^ n≤2 ^ 12:=Nat.pow_le_pow_right (by omega) n2
  have e12:(2:Nat) ^ 12=4096:=by decide
  rw [e12] at hp
  have hT1:TextSays v1 0:=fun W hT=>by have h:=check_any v1 W hT (by omega);rwa [t1] at h
  have hT2:TextSays v2 0:=fun W hT=>by have h:=check_any v2 W hT (by omega);rwa [t2] at h
  have hC1:CodeSays n st z g o c1 (rangeE c1 0 ((2 ^ n - 1:Nat):Int)):=fun W hT=>checkCode_good n st z c1 g o W hT hg ho hE n2
  have hC2:CodeSays n st z g o c2 (rangeE c2 0 ((2 ^ n - 1:Nat):Int)):=fun W hT=>checkCode_good n st z c2 g o W hT hg ho hE n2
  rcases range_cases c1 0 ((2 ^ n - 1:Nat):Int) with ⟨r1,_⟩ | ⟨r1,i1⟩
  · rw [r1] at hC1
    exact .inl ⟨3,.inl rfl,fun W hT=>calib_early n st z c1 c2 _ _ _ _ 3 3 g o v1 v2 W hT hC1 hT1 hC2 hT2 rfl (.inl ⟨by decide,rfl⟩)⟩
  · rw [r1] at hC1
    rcases range_cases c2 0 ((2 ^ n - 1:Nat):Int) with ⟨r2,_⟩ | ⟨r2,i2⟩
    · rw [r2] at hC2
      exact .inl ⟨3,.inl rfl,fun W hT=>calib_early n st z c1 c2 _ _ _ _ 3 3 g o v1 v2 W hT hC1 hT1 hC2 hT2 rfl (.inl ⟨by decide,rfl⟩)⟩
    · rw [r2] at hC2
      by_cases hc:c1=c2
      · exact .inl ⟨9,.inr rfl,fun W hT=>calib_early n st z c1 c2 _ _ _ _ 0 9 g o v1 v2 W hT hC1 hT1 hC2 hT2 rfl (.inr ⟨rfl,hc,rfl⟩)⟩
      · have hst : -20≤st∧st≤4:=⟨st1,st2⟩
        have hz:0≤z∧z≤4095:=by omega
        have hc1:0≤c1∧c1≤4095:=by omega
        have hc2:0≤c2∧c2≤4095:=by omega
        have s1':Small (readQ v1.data.toList) 60:=s1.more (by omega)
        have s2':Small (readQ v2.data.toList) 60:=s2.more (by omega)
        have l1:=(num_read t1).2
        have l2:=(num_read t2).2
        have N:CalNums st z c1 c2 (readQ v1.data.toList) (readQ v2.data.toList):=calNums hst (by omega) (by omega) (by omega) hc s1' s2' l1 l2
        by_cases hsg:signQ (slopeQ st z c1 c2 (readQ v1.data.toList) (readQ v2.data.toList))≤0
        · exact .inl ⟨3,.inl rfl,code_main n st z c1 c2 3 0 0 0 g o v1 v2 _ _ hst hz hc1 hc2 hc hC1 hC2 t1 t2 N s1' s2' (fun _=>⟨rfl,rfl,rfl,rfl,rfl,rfl⟩) (fun h=>absurd h (by omega))⟩
        · have sdf:Small (subQ (readQ v2.data.toList) (readQ v1.data.toList)) 25:=small_sub s2 s1 l2.1 l1.1
          have ssl:Small (slopeQ st z c1 c2 (readQ v1.data.toList) (readQ v2.data.toList)) 66:=small_mul sdf (small_recS N.sru) N.ldf.1 (low_recS N.lru N.ru0).1
          have spr:Small (mulQ (slopeQ st z c1 c2 (readQ v1.data.toList) (readQ v2.data.toList)) (nomQ st z c1)) 86:=small_mul ssl N.sn1 N.lsl.1 N.ln1.1
          have sof:Small (offQ st z c1 c2 (readQ v1.data.toList) (readQ v2.data.toList)) 99:=small_sub s1 spr l1.1 N.lpr.1
          have hpos:0<signI (slopeQ st z c1 c2 (readQ v1.data.toList) (readQ v2.data.toList)):=by
            have e:signI (slopeQ st z c1 c2 (readQ v1.data.toList) (readQ v2.data.toList))=signQ (slopeQ st z c1 c2 (readQ v1.data.toList) (readQ v2.data.toList)):=rfl
            omega
          exact .inr ⟨_,_,code_main n st z c1 c2 0 n st z g o v1 v2 _ _ hst hz hc1 hc2 hc hC1 hC2 t1 t2 N s1' s2' (fun h=>absurd h hsg) (fun _=>⟨rfl,rfl,rfl,rfl,rfl,rfl⟩),
            ⟨i1,i2,N,ba_text N.lsl,ba_text N.lof,ssl.more (by omega),sof.more (by omega),hpos⟩⟩
def TruePost (T st z:Int) (G O:Q) (c:Int) (w:World) (e:Ending) (w':World):Prop:=
  ((∃ s t:ByteArray,e = .returned (.tuple #[.agg #[.string s,.string t],.int .i64 0])∧NumQ s (realQ G O (lowE st z c))∧NumQ t (realQ G O (highE st z c))∧0≤c+1∧c+1≤T) ∨
   e = .returned (.tuple #[.agg #[.string { data:=#[] },.string { data:=#[] }],.int .i64 15]))∧Below w.heap.size w w'
def TrueSays (a T st z:Int) (xg xo:ByteArray) (G O:Q):Prop:=
 ∀ (c:Int) (W:World),0≤c→c≤T→Tabs W→Calls Tryz.prog 41 #[.agg #[.int .i64 a,.int .i64 st,.int .i64 z,.string xg,.string xo],.int .i64 c] W (TruePost T st z G O c W)
theorem true_says (n:Nat) (st z c1 c2:Int) (p1 p2:Q) (xg xo:ByteArray) (n1:8≤n) (n2:n≤12) (hst : -20≤st∧st≤4) (hz:0≤z∧z≤((2 ^ n - 1:Nat):Int)) (F:Fit n st z c1 c2 p1 p2 xg xo) :
  TrueSays n ((2 ^ n - 1:Nat):Int) st z xg xo (slopeQ st z c1 c2 p1 p2) (offQ st z c1 c2 p1 p2):=by
 intro c W h0 hc hT
 by_cases hin:0<c∧c<((2 ^ n - 1:Nat):Int)
 ·exact (True_fit n st z c xg xo _ _ W hT n1 n2 hst hz F.hG F.hO F.sG F.sO F.pos hin).mono fun e w' ⟨⟨s,t,he,h1,h2⟩,hb⟩=>⟨.inl ⟨s,t,he,h1,h2,by omega,by omega⟩,hb⟩
 ·exact (True_end n st z c xg xo _ _ W hT n1 n2 hst hz F.hG F.hO F.sG F.sO F.pos (by omega)).mono fun e w' ⟨he,hb⟩=>⟨.inr he,hb⟩
set_option maxHeartbeats 4000000 in
set_option maxRecDepth 100000 in
theorem fits_turned (a st z c1 c2:Int) (g o v1 v2:ByteArray) (bA b1 b2:Bool) (w:World) (KV:AwakeK) (hT:Tabs w) (hA:FewAIs a st z g o bA) (hV1:FewIs v1 b1) (hV2:FewIs v2 b2) (hs:bA=false∨(bA=true∧b1=false)∨(bA=true∧b1=true∧b2=false)) :
  Calls Tryz.prog 5 #[.agg #[.int .i64 a,.int .i64 st,.int .i64 z,.string g,.string o],.agg #[.int .i64 c1,.string v1],.agg #[.int .i64 c2,.string v2]] w fun e w'=>e = .returned (.bool true)∧Below w.heap.size w w':=by
 have hb1:Below w.heap.size w (((w.alloc (.cells #[.int .i64 a,.int .i64 st,.int .i64 z,.string g,.string o] 24)).alloc (.cells #[.int .i64 c1,.string v1] 72)).alloc (.cells #[.int .i64 c2,.string v2] 72)):=(((Below.refl _ _).alloc (Nat.le_refl _) _).alloc (by simp) _).alloc (by simp;omega) _
 have a1:CBlk (((w.alloc (.cells #[.int .i64 a,.int .i64 st,.int .i64 z,.string g,.string o] 24)).alloc (.cells #[.int .i64 c1,.string v1] 72)).alloc (.cells #[.int .i64 c2,.string v2] 72)) (w.heap.size) #[.int .i64 a,.int .i64 st,.int .i64 z,.string g,.string o] 24:=((CBlk.new w _ _ _ rfl).alloc _).alloc _
 have m1:CBlk (((w.alloc (.cells #[.int .i64 a,.int .i64 st,.int .i64 z,.string g,.string o] 24)).alloc (.cells #[.int .i64 c1,.string v1] 72)).alloc (.cells #[.int .i64 c2,.string v2] 72)) (w.heap.size+1) #[.int .i64 c1,.string v1] 72:=(CBlk.new _ _ _ _ (by simp)).alloc _
 have k1:CBlk (((w.alloc (.cells #[.int .i64 a,.int .i64 st,.int .i64 z,.string g,.string o] 24)).alloc (.cells #[.int .i64 c1,.string v1] 72)).alloc (.cells #[.int .i64 c2,.string v2] 72)) (w.heap.size+1+1) #[.int .i64 c2,.string v2] 72:=CBlk.new _ _ _ _ (by simp)
 have hT1:=hT.later hb1
 have HK:=Lib.hid KV
 have HA:=Lib.hid hA
 have HV1:=Lib.hid hV1
 have HV2:=Lib.hid hV2
 have hB1:=hb1
 clear KV hA hV1 hV2
 rcases hs with rfl | ⟨rfl,rfl⟩ | ⟨rfl,rfl,rfl⟩
 ·have x0:=a1.cell 0
  have x1:=a1.cell 1
  have x2:=a1.cell 2
  have x3:=a1.cell 3
  have x4:=a1.cell 4
  have y0:=m1.cell 0
  have y1:=m1.cell 1
  have z0:=k1.cell 0
  have z1:=k1.cell 1
  go_enter Tryz.func5,Tryz.ntmps5
  go_wp2_with fail
  generalize (((w.alloc (.cells #[.int .i64 a,.int .i64 st,.int .i64 z,.string g,.string o] 24)).alloc (.cells #[.int .i64 c1,.string v1] 72)).alloc (.cells #[.int .i64 c2,.string v2] 72))=w1 at *
  go_wp2_with fail
  refine (HA.out w1).mono ?_
  rintro e w2 ⟨rfl,hb2⟩
  have a2:=a1.below hb2 a1.lt
  have m2:=m1.below hb2 m1.lt
  have k2:=k1.below hb2 k1.lt
  have hB2:=hB1.trans (hb2.mono hB1.size)
  have hT2:=hT.later hB2
  clear x0 x1 x2 x3 x4 y0 y1 z0 z1 hb2 a1 m1 k1
  have x0:=a2.cell 0
  have x1:=a2.cell 1
  have x2:=a2.cell 2
  have x3:=a2.cell 3
  have x4:=a2.cell 4
  have y0:=m2.cell 0
  have y1:=m2.cell 1
  have z0:=k2.cell 0
  have z1:=k2.cell 1
  go_wp2_with fail
  refine (HK.out w2 hT2).mono ?_
  rintro e w9 ⟨rfl,hb9⟩
  go_wp2_with fail
  go_ret
  exact ⟨rfl,hB2.trans (hb9.mono hB2.size)⟩
 ·have x0:=a1.cell 0
  have x1:=a1.cell 1
  have x2:=a1.cell 2
  have x3:=a1.cell 3
  have x4:=a1.cell 4
  have y0:=m1.cell 0
  have y1:=m1.cell 1
  have z0:=k1.cell 0
  have z1:=k1.cell 1
  go_enter Tryz.func5,Tryz.ntmps5
  go_wp2_with fail
  generalize (((w.alloc (.cells #[.int .i64 a,.int .i64 st,.int .i64 z,.string g,.string o] 24)).alloc (.cells #[.int .i64 c1,.string v1] 72)).alloc (.cells #[.int .i64 c2,.string v2] 72))=w1 at *
  go_wp2_with fail
  refine (HA.out w1).mono ?_
  rintro e w2 ⟨rfl,hb2⟩
  have a2:=a1.below hb2 a1.lt
  have m2:=m1.below hb2 m1.lt
  have k2:=k1.below hb2 k1.lt
  have hB2:=hB1.trans (hb2.mono hB1.size)
  have hT2:=hT.later hB2
  clear x0 x1 x2 x3 x4 y0 y1 z0 z1 hb2 a1 m1 k1
  have x0:=a2.cell 0
  have x1:=a2.cell 1
  have x2:=a2.cell 2
  have x3:=a2.cell 3
  have x4:=a2.cell 4
  have y0:=m2.cell 0
  have y1:=m2.cell 1
  have z0:=k2.cell 0
  have z1:=k2.cell 1
  go_wp2_with fail
  refine (HV1.out w2).mono ?_
  rintro e w3 ⟨rfl,hb3⟩
  have a3:=a2.below hb3 a2.lt
  have m3:=m2.below hb3 m2.lt
  have k3:=k2.below hb3 k2.lt
  have hB3:=hB2.trans (hb3.mono hB2.size)
  have hT3:=hT.later hB3
  clear x0 x1 x2 x3 x4 y0 y1 z0 z1 hb3 a2 m2 k2
  have x0:=a3.cell 0
  have x1:=a3.cell 1
  have x2:=a3.cell 2
  have x3:=a3.cell 3
  have x4:=a3.cell 4
  have y0:=m3.cell 0
  have y1:=m3.cell 1
  have z0:=k3.cell 0
  have z1:=k3.cell 1
  go_wp2_with fail
  refine (HK.out w3 hT3).mono ?_
  rintro e w9 ⟨rfl,hb9⟩
  go_wp2_with fail
  go_ret
  exact ⟨rfl,hB3.trans (hb9.mono hB3.size)⟩
 ·have x0:=a1.cell 0
  have x1:=a1.cell 1
  have x2:=a1.cell 2
  have x3:=a1.cell 3
  have x4:=a1.cell 4
  have y0:=m1.cell 0
  have y1:=m1.cell 1
  have z0:=k1.cell 0
  have z1:=k1.cell 1
  go_enter Tryz.func5,Tryz.ntmps5
  go_wp2_with fail
  generalize (((w.alloc (.cells #[.int .i64 a,.int .i64 st,.int .i64 z,.string g,.string o] 24)).alloc (.cells #[.int .i64 c1,.string v1] 72)).alloc (.cells #[.int .i64 c2,.string v2] 72))=w1 at *
  go_wp2_with fail
  refine (HA.out w1).mono ?_
  rintro e w2 ⟨rfl,hb2⟩
  have a2:=a1.below hb2 a1.lt
  have m2:=m1.below hb2 m1.lt
  have k2:=k1.below hb2 k1.lt
  have hB2:=hB1.trans (hb2.mono hB1.size)
  have hT2:=hT.later hB2
  clear x0 x1 x2 x3 x4 y0 y1 z0 z1 hb2 a1 m1 k1
  have x0:=a2.cell 0
  have x1:=a2.cell 1
  have x2:=a2.cell 2
  have x3:=a2.cell 3
  have x4:=a2.cell 4
  have y0:=m2.cell 0
  have y1:=m2.cell 1
  have z0:=k2.cell 0
  have z1:=k2.cell 1
  go_wp2_with fail
  refine (HV1.out w2).mono ?_
  rintro e w3 ⟨rfl,hb3⟩
  have a3:=a2.below hb3 a2.lt
  have m3:=m2.below hb3 m2.lt
  have k3:=k2.below hb3 k2.lt
  have hB3:=hB2.trans (hb3.mono hB2.size)
  have hT3:=hT.later hB3
  clear x0 x1 x2 x3 x4 y0 y1 z0 z1 hb3 a2 m2 k2
  have x0:=a3.cell 0
  have x1:=a3.cell 1
  have x2:=a3.cell 2
  have x3:=a3.cell 3
  have x4:=a3.cell 4
  have y0:=m3.cell 0
  have y1:=m3.cell 1
  have z0:=k3.cell 0
  have z1:=k3.cell 1
  go_wp2_with fail
  refine (HV2.out w3).mono ?_
  rintro e w4 ⟨rfl,hb4⟩
  have a4:=a3.below hb4 a3.lt
  have m4:=m3.below hb4 m3.lt
  have k4:=k3.below hb4 k3.lt
  have hB4:=hB3.trans (hb4.mono hB3.size)
  have hT4:=hT.later hB4
  clear x0 x1 x2 x3 x4 y0 y1 z0 z1 hb4 a3 m3 k3
  have x0:=a4.cell 0
  have x1:=a4.cell 1
  have x2:=a4.cell 2
  have x3:=a4.cell 3
  have x4:=a4.cell 4
  have y0:=m4.cell 0
  have y1:=m4.cell 1
  have z0:=k4.cell 0
  have z1:=k4.cell 1
  go_wp2_with fail
  refine (HK.out w4 hT4).mono ?_
  rintro e w9 ⟨rfl,hb9⟩
  go_wp2_with fail
  go_ret
  exact ⟨rfl,hB4.trans (hb9.mono hB4.size)⟩
set_option maxHeartbeats 4000000 in
set_option maxRecDepth 100000 in
theorem fits_err (a st z c1 c2 E:Int) (g o v1 v2:ByteArray) (w:World) (KV:AwakeK) (hT:Tabs w) (hA:FewAIs a st z g o true) (hV1:FewIs v1 true) (hV2:FewIs v2 true) (hX:CalCode a st z c1 c2 g o v1 v2 0 0 0 { data:=#[] } { data:=#[] } E) (hE:E=3∨E=9) :
  Calls Tryz.prog 5 #[.agg #[.int .i64 a,.int .i64 st,.int .i64 z,.string g,.string o],.agg #[.int .i64 c1,.string v1],.agg #[.int .i64 c2,.string v2]] w fun e w'=>e = .returned (.bool true)∧Below w.heap.size w w':=by
 have hb1:Below w.heap.size w (((w.alloc (.cells #[.int .i64 a,.int .i64 st,.int .i64 z,.string g,.string o] 24)).alloc (.cells #[.int .i64 c1,.string v1] 72)).alloc (.cells #[.int .i64 c2,.string v2] 72)):=(((Below.refl _ _).alloc (Nat.le_refl _) _).alloc (by simp) _).alloc (by simp;omega) _
 have a1:CBlk (((w.alloc (.cells #[.int .i64 a,.int .i64 st,.int .i64 z,.string g,.string o] 24)).alloc (.cells #[.int .i64 c1,.string v1] 72)).alloc (.cells #[.int .i64 c2,.string v2] 72)) (w.heap.size) #[.int .i64 a,.int .i64 st,.int .i64 z,.string g,.string o] 24:=((CBlk.new w _ _ _ rfl).alloc _).alloc _
 have m1:CBlk (((w.alloc (.cells #[.int .i64 a,.int .i64 st,.int .i64 z,.string g,.string o] 24)).alloc (.cells #[.int .i64 c1,.string v1] 72)).alloc (.cells #[.int .i64 c2,.string v2] 72)) (w.heap.size+1) #[.int .i64 c1,.string v1] 72:=(CBlk.new _ _ _ _ (by simp)).alloc _
 have k1:CBlk (((w.alloc (.cells #[.int .i64 a,.int .i64 st,.int .i64 z,.string g,.string o] 24)).alloc (.cells #[.int .i64 c1,.string v1] 72)).alloc (.cells #[.int .i64 c2,.string v2] 72)) (w.heap.size+1+1) #[.int .i64 c2,.string v2] 72:=CBlk.new _ _ _ _ (by simp)
 have hT1:=hT.later hb1
 have HK:=Lib.hid KV
 have HA:=Lib.hid hA
 have HV1:=Lib.hid hV1
 have HV2:=Lib.hid hV2
 have HX:=Lib.hid hX
 have hB1:=hb1
 clear KV hA hV1 hV2 hX
 rcases hE with rfl | rfl
 all_goals
  have x0:=a1.cell 0
  have x1:=a1.cell 1
  have x2:=a1.cell 2
  have x3:=a1.cell 3
  have x4:=a1.cell 4
  have y0:=m1.cell 0
  have y1:=m1.cell 1
  have z0:=k1.cell 0
  have z1:=k1.cell 1
  go_enter Tryz.func5,Tryz.ntmps5
  go_wp2_with fail
  generalize (((w.alloc (.cells #[.int .i64 a,.int .i64 st,.int .i64 z,.string g,.string o] 24)).alloc (.cells #[.int .i64 c1,.string v1] 72)).alloc (.cells #[.int .i64 c2,.string v2] 72))=w1 at *
  go_wp2_with fail
  refine (HA.out w1).mono ?_
  rintro e w2 ⟨rfl,hb2⟩
  have a2:=a1.below hb2 a1.lt
  have m2:=m1.below hb2 m1.lt
  have k2:=k1.below hb2 k1.lt
  have hB2:=hB1.trans (hb2.mono hB1.size)
  have hT2:=hT.later hB2
  clear x0 x1 x2 x3 x4 y0 y1 z0 z1 hb2 a1 m1 k1
  have x0:=a2.cell 0
  have x1:=a2.cell 1
  have x2:=a2.cell 2
  have x3:=a2.cell 3
  have x4:=a2.cell 4
  have y0:=m2.cell 0
  have y1:=m2.cell 1
  have z0:=k2.cell 0
  have z1:=k2.cell 1
  go_wp2_with fail
  refine (HV1.out w2).mono ?_
  rintro e w3 ⟨rfl,hb3⟩
  have a3:=a2.below hb3 a2.lt
  have m3:=m2.below hb3 m2.lt
  have k3:=k2.below hb3 k2.lt
  have hB3:=hB2.trans (hb3.mono hB2.size)
  have hT3:=hT.later hB3
  clear x0 x1 x2 x3 x4 y0 y1 z0 z1 hb3 a2 m2 k2
  have x0:=a3.cell 0
  have x1:=a3.cell 1
  have x2:=a3.cell 2
  have x3:=a3.cell 3
  have x4:=a3.cell 4
  have y0:=m3.cell 0
  have y1:=m3.cell 1
  have z0:=k3.cell 0
  have z1:=k3.cell 1
  go_wp2_with fail
  refine (HV2.out w3).mono ?_
  rintro e w4 ⟨rfl,hb4⟩
  have a4:=a3.below hb4 a3.lt
  have m4:=m3.below hb4 m3.lt
  have k4:=k3.below hb4 k3.lt
  have hB4:=hB3.trans (hb4.mono hB3.size)
  have hT4:=hT.later hB4
  clear x0 x1 x2 x3 x4 y0 y1 z0 z1 hb4 a3 m3 k3
  have x0:=a4.cell 0
  have x1:=a4.cell 1
  have x2:=a4.cell 2
  have x3:=a4.cell 3
  have x4:=a4.cell 4
  have y0:=m4.cell 0
  have y1:=m4.cell 1
  have z0:=k4.cell 0
  have z1:=k4.cell 1
  go_wp2_with fail
  refine (HX.out w4 hT4).mono ?_
  rintro e w5 ⟨rfl,hb5⟩
  have hb6:Below w5.heap.size w5 (w5.alloc (.cells #[.int .i64 0,.int .i64 0,.int .i64 0,.string { data:=#[] },.string { data:=#[] }] 33)):=(Below.refl _ _).alloc (Nat.le_refl _) _
  have p6:CBlk (w5.alloc (.cells #[.int .i64 0,.int .i64 0,.int .i64 0,.string { data:=#[] },.string { data:=#[] }] 33)) w5.heap.size #[.int .i64 0,.int .i64 0,.int .i64 0,.string { data:=#[] },.string { data:=#[] }] 33:=CBlk.new _ _ _ _ rfl
  have hb56:=hb5.trans (hb6.mono hb5.size)
  have a6:=a4.below hb56 a4.lt
  have m6:=m4.below hb56 m4.lt
  have k6:=k4.below hb56 k4.lt
  have hB6:=hB4.trans (hb56.mono hB4.size)
  have hT6:=hT.later hB6
  have hwj:w.heap.size≤w5.heap.size:=Nat.le_trans hB4.size hb5.size
  clear x0 x1 x2 x3 x4 y0 y1 z0 z1 hb5 hb6 hb56 a4 m4 k4 hB4 hT4
  have x0:=a6.cell 0
  have x1:=a6.cell 1
  have x2:=a6.cell 2
  have x3:=a6.cell 3
  have x4:=a6.cell 4
  have y0:=m6.cell 0
  have y1:=m6.cell 1
  have z0:=k6.cell 0
  have z1:=k6.cell 1
  go_wp2_with fail
  generalize w5.heap.size=j at *
  generalize w5.alloc (.cells #[.int .i64 0,.int .i64 0,.int .i64 0,.string { data:=#[] },.string { data:=#[] }] 33)=w6 at *
  refine (HK.out w6 hT6).mono ?_
  rintro e w9 ⟨rfl,hb9⟩
  go_wp2_with fail
  go_ret
  exact ⟨rfl,hB6.trans (hb9.mono hB6.size)⟩
end Go.Proofs.YtmkihdjolnlccaaGreatDoor
