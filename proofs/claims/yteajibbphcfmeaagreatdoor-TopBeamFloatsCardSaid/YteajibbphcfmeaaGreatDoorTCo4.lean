/- Contract of package number's acuteCosine where the first attempt tells. -/
import Derived.Test.YteajibbphcfmeaaGreatDoorTCo2
import Derived.Test.YteajibbphcfmeaaGreatDoorTSp0
import Derived.Deep.RegionHeld3
namespace Go.Proofs.YteajibbphcfmeaaGreatDoor
open Go.RowKit Bn
set_option maxHeartbeats 8000000 in
set_option maxRecDepth 100000 in
theorem acute_any (neg:Bool) (top bot k l mm scale low d:Nat) (At Ab:Option Addr) (nt ct nb cb:Nat) (w:World) (hT:Tabs w) (hok:Cs.AcOk top bot 112 k l mm scale low) (hd:d≤12) (hsc:scale=10 ^ d)
  (hk0:k<4294967296) (hl0:l<4294967296) (hmm:mm<1073741824) (ht:NatS w w.heap.size At nt ct top) (hbo:NatS w w.heap.size Ab nb cb bot) (hbot:0<bot) (hnt:nt≤1048576) :
  Calls Tryz.prog 165 #[.agg #[.bool neg,.slice At nt ct,.slice Ab nb cb],.int .i64 (d:Int)] w (RetItv w (lowQ false low scale) (lowQ false (low+1) scale)):=by
 obtain ⟨M,hM,hso⟩:=hok.s
 have hbdm:=(hso.bound mm (by omega)).1
 obtain ⟨V,hV⟩:∃ V,V=Cs.serVal (Cs.sqOf (Cs.circleOf 112 k l) top bot 112) 112 mm:=⟨_,rfl⟩
 have hVl:(digs V).length≤1048576:=by
  rw [hV]
  exact Nat.le_trans (digs_length_mono (Nat.sub_le _ _)) (big_len hbdm hM)
 have hs:∀ W,NatS W W.heap.size At nt ct top→NatS W W.heap.size Ab nb cb bot→Calls Tryz.prog 196 #[.agg #[.bool neg,.slice At nt ct,.slice Ab nb cb],.int .i64 112] W (RetNat W V):=fun W h1 h2=>by
  rw [hV]
  exact series_any neg top bot 112 k l mm M At Ab nt ct nb cb W hok.a hok.b hok.c hso hM (by omega) hk0 hl0 hmm h1 h2 hbot hnt
 have HS:=Lib.hid hs
 obtain ⟨X,hX⟩:∃ X,X=2 ^ 64:=⟨_,rfl⟩
 have hXl:(digs X).length≤2:=by rw [hX];exact digs_length_le (by decide)
 obtain ⟨Y,hY⟩:∃ Y,Y=2 ^ 112:=⟨_,rfl⟩
 have hbig:=hok.big
 have hlo:=hok.lo
 have hhi:=hok.hi
 rw [←hV,←hX] at hbig
 rw [←hV,←hX,←hY] at hlo hhi
 have hsh:∀ W A n c,NatS W W.heap.size A n c 1→n≤1→Calls Tryz.prog 103 #[.slice A n c,.int .i64 64] W (RetNat W X):=fun W A n c h h1=>by
  have h2:=shiftedLeft_any A n c 1 64 W h (by omega) (by omega)
  rw [Nat.one_mul,←hX] at h2
  exact h2
 have hrs:∀ W A n c x,NatS W W.heap.size A n c x→n≤1099511627776→Calls Tryz.prog 172 #[.slice A n c,.int .i64 112] W (RetNat W (x / Y)):=fun W A n c x h h1=>by
  have h2:=shiftedRight_any A n c x 112 W h h1 (by omega)
  rw [←hY] at h2
  exact h2.mono fun e w' ⟨h3,h4⟩=>h4.ret h3
 have HSH:=Lib.hid hsh
 have HRS:=Lib.hid hrs
 clear hs hso hsh hrs hok hV hX hY hbdm
 have hsl:scale≤1000000000000:=by
  rw [hsc]
  have h1:10 ^ d≤10 ^ 12:=Nat.pow_le_pow_right (by omega) hd
  omega
 have hscl:(digs scale).length≤1:=digs_length_le (by rw [B_def,Nat.pow_one];omega)
 have HSC:=Lib.hid hsc
 clear hsc
 have hb2:Below w.heap.size w ((w.alloc (.cells #[.bool neg,.slice At nt ct,.slice Ab nb cb] 91)).alloc (.cells #[.bool false,.slice none 0 0,.slice none 0 0,.bool false,.slice none 0 0,.slice none 0 0] 139)):=((Below.refl _ _).alloc (Nat.le_refl _) _).alloc (by simp) _
 have q0:CBlk ((w.alloc (.cells #[.bool neg,.slice At nt ct,.slice Ab nb cb] 91)).alloc (.cells #[.bool false,.slice none 0 0,.slice none 0 0,.bool false,.slice none 0 0,.slice none 0 0] 139)) w.heap.size #[.bool neg,.slice At nt ct,.slice Ab nb cb] 91:=(CBlk.new w _ _ _ rfl).below ((Below.refl _ _).alloc (Nat.le_refl _) _) (by simp)
 have q1:CBlk ((w.alloc (.cells #[.bool neg,.slice At nt ct,.slice Ab nb cb] 91)).alloc (.cells #[.bool false,.slice none 0 0,.slice none 0 0,.bool false,.slice none 0 0,.slice none 0 0] 139)) (w.heap.size+1) #[.bool false,.slice none 0 0,.slice none 0 0,.bool false,.slice none 0 0,.slice none 0 0] 139:=CBlk.new _ _ _ _ (by simp)
 have ht1:=ht.later hb2
 have hbo1:=hbo.later hb2
 have hT1:=hT.later hb2
 clear ht hbo hT
 go_enter Tryz.func165,Tryz.ntmps165
 go_wp2
 go_step3
 go_wp2
 generalize ((w.alloc (.cells #[.bool neg,.slice At nt ct,.slice Ab nb cb] 91)).alloc (.cells #[.bool false,.slice none 0 0,.slice none 0 0,.bool false,.slice none 0 0,.slice none 0 0] 139))=w1 at *
 go_loop [5,13] (fun s i=>∃ j t:Nat,j≤d∧i = .int .i64 (j:Int)∧s = .int .u64 (t:Int)∧Hid (t=10 ^ j)) (fun _ i=>d - (intOf i).toNat)
 case atStart=>exact ⟨0,1,Nat.zero_le _,rfl,rfl,rfl⟩
 case round=>
  obtain ⟨j,t,hj,rfl,rfl,ht⟩:=hrel
  by_cases hlt:j<d
  ·obtain ⟨t2,ht2⟩:∃ t2,t2=t*10:=⟨_,rfl⟩
   have htb:t2≤1000000000000:=by
    rw [ht2,ht.out,←Nat.pow_succ]
    have h1:10 ^ (j+1)≤10 ^ 12:=Nat.pow_le_pow_right (by omega) (by omega)
    omega
   have f1:IntKind.u64.wrap ((t:Int)*10)=(t2:Int):=by rw [u64_in (by omega) (by omega)];omega
   have HT2:Hid (t2=10 ^ (j+1)):=by unfold Hid;rw [ht2,ht.out,Nat.pow_succ]
   clear ht2
   go_wp2
   go_round
   case rel=>exact ⟨j+1,t2,by omega,by go_num,rfl,HT2⟩
   case measure=>simp [intOf];omega
  ·obtain rfl:j=d:=by omega
   obtain rfl:t=scale:=by rw [ht.out,HSC.out]
   clear ht HSC
   go_wp2
   go_step3
   go_wp2
   go_loopw [7] (fun a wr=>a = .int .i64 0∧wr=w1) (fun _ _=>0)
   case atStart=>exact ⟨rfl,rfl⟩
   case round=>
    obtain ⟨rfl,rfl⟩:=hrel
    go_wp2_with fail
    refine (precision_zero _ hT1).mono ?_
    rintro e w2 ⟨rfl,rfl⟩
    have x0:=q0.cell 0
    have x1:=q0.cell 1
    have x2:=q0.cell 2
    go_wp2_with fail
    refine (HS.out _ ht1 hbo1).mono ?_
    rintro e w2 ⟨A2,m2,c2,rfl,hn2,hbb2⟩
    have hB2:=hb2.trans (hbb2.mono hb2.size)
    have q12:=q1.below hbb2 q1.lt
    have hT2:=hT1.later hbb2
    clear x0 x1 x2 q0 q1 ht1 hbo1 hT1 hb2 hbb2
    go_wp2_with fail
    refine (naturalOf_any 1 w2 (by omega) (by omega)).mono ?_
    rintro e w3 ⟨A3,m3,c3,rfl,hn3,hbb3⟩
    have hB3:=hB2.trans (hbb3.mono hB2.size)
    have q13:=q12.below hbb3 q12.lt
    have hT3:=hT2.later hbb3
    have hn23:=hn2.later hbb3
    clear q12 hT2 hB2 hbb3 hn2
    go_wp2_with fail
    refine (HSH.out w3 A3 m3 c3 hn3 (by rw [←hn3.len];exact len_one)).mono ?_
    rintro e w4 ⟨A4,m4,c4,rfl,hn4,hbb4⟩
    have hB4:=hB3.trans (hbb4.mono hB3.size)
    have q14:=q13.below hbb4 q13.lt
    have hT4:=hT3.later hbb4
    have hn24:=hn23.later hbb4
    clear q13 hT3 hB3 hbb4 hn23 hn3
    go_wp2_with fail
    refine (minus_any A2 A4 m2 c2 m4 c4 V X w4 hn24 hn4 hbig (by have:=hn24.len;omega)).mono ?_
    rintro e w5 ⟨A5,m5,c5,rfl,hn5,hbb5⟩
    have hB5:=hB4.trans (hbb5.mono hB4.size)
    have q15:=q14.below hbb5 q14.lt
    have hT5:=hT4.later hbb5
    have hn25:=hn24.later hbb5
    have hn45:=hn4.later hbb5
    clear q14 hT4 hB4 hbb5 hn24 hn4
    go_wp2_with fail
    refine (naturalOf_any (t:Int) w5 (by omega) (by omega)).mono ?_
    rintro e w6 ⟨A6,m6,c6,rfl,hn6,hbb6⟩
    rw [Int.toNat_natCast] at hn6
    have hB6:=hB5.trans (hbb6.mono hB5.size)
    have q16:=q15.below hbb6 q15.lt
    have hT6:=hT5.later hbb6
    have hn26:=hn25.later hbb6
    have hn46:=hn45.later hbb6
    have hn56:=hn5.later hbb6
    clear q15 hT5 hB5 hbb6 hn25 hn45 hn5
    have hvx:(digs (V - X)).length≤1048576:=Nat.le_trans (len_minus _ _) hVl
    go_wp2_with fail
    refine (times_any A5 A6 m5 c5 m6 c6 (V - X) t w6 hn56 hn6 (by have:=hn56.len;omega) (by have:=hn6.len;omega)).mono ?_
    rintro e w7 ⟨A7,m7,c7,rfl,hn7,hbb7⟩
    have hB7:=hB6.trans (hbb7.mono hB6.size)
    have q17:=q16.below hbb7 q16.lt
    have hT7:=hT6.later hbb7
    have hn27:=hn26.later hbb7
    have hn47:=hn46.later hbb7
    clear q16 hT6 hB6 hbb7 hn26 hn46 hn56 hn6
    go_wp2_with fail
    refine (HRS.out w7 A7 m7 c7 _ hn7 (by have:=hn7.len;have:=len_times hvx hscl;omega)).mono ?_
    rintro e w8 ⟨A8,m8,c8,rfl,hn8,hbb8⟩
    rw [hlo] at hn8
    have hB8:=hB7.trans (hbb8.mono hB7.size)
    have q18:=q17.below hbb8 q17.lt
    have hT8:=hT7.later hbb8
    have hn28:=hn27.later hbb8
    have hn48:=hn47.later hbb8
    clear q17 hT7 hB7 hbb8 hn27 hn47 hn7
    go_wp2_with fail
    refine (plus_any A2 A4 m2 c2 m4 c4 V X w8 hn28 hn48 (by have:=hn28.len;omega) (by have:=hn48.len;omega)).mono ?_
    rintro e w9 ⟨A9,m9,c9,rfl,hn9,hbb9⟩
    have hB9:=hB8.trans (hbb9.mono hB8.size)
    have q19:=q18.below hbb9 q18.lt
    have hT9:=hT8.later hbb9
    have hn89:=hn8.later hbb9
    clear q18 hT8 hB8 hbb9 hn28 hn48 hn8
    go_wp2_with fail
    refine (naturalOf_any (t:Int) w9 (by omega) (by omega)).mono ?_
    rintro e w10 ⟨A10,m10,c10,rfl,hn10,hbb10⟩
    rw [Int.toNat_natCast] at hn10
    have hB10:=hB9.trans (hbb10.mono hB9.size)
    have q110:=q19.below hbb10 q19.lt
    have hT10:=hT9.later hbb10
    have hn810:=hn89.later hbb10
    have hn910:=hn9.later hbb10
    clear q19 hT9 hB9 hbb10 hn89 hn9
    have hvp:(digs (V+X)).length≤1048576+2+1:=len_plus hVl hXl
    go_wp2_with fail
    refine (times_any A9 A10 m9 c9 m10 c10 (V+X) t w10 hn910 hn10 (by have:=hn910.len;omega) (by have:=hn10.len;omega)).mono ?_
    rintro e w11 ⟨A11,m11,c11,rfl,hn11,hbb11⟩
    have hB11:=hB10.trans (hbb11.mono hB10.size)
    have q111:=q110.below hbb11 q110.lt
    have hT11:=hT10.later hbb11
    have hn811:=hn810.later hbb11
    clear q110 hT10 hB10 hbb11 hn810 hn910 hn10
    go_wp2_with fail
    refine (HRS.out w11 A11 m11 c11 _ hn11 (by have:=hn11.len;have:=len_times hvp hscl;omega)).mono ?_
    rintro e w12 ⟨A12,m12,c12,rfl,hn12,hbb12⟩
    rw [hhi] at hn12
    have hB12:=hB11.trans (hbb12.mono hB11.size)
    have q112:=q111.below hbb12 q111.lt
    have hT12:=hT11.later hbb12
    have hn812:=hn811.later hbb12
    clear q111 hT11 hB11 hbb12 hn811 hn11
    go_wp2_with fail
    refine (compare_any A8 A12 m8 c8 m12 c12 low low w12 hn812 hn12).mono ?_
    rintro e w13 ⟨rfl,nq,rfl⟩
    rw [ncmp_eq]
    go_wp2_with fail
    have hlowl:(digs low).length≤1048580:=by
     rw [←hhi]
     refine Nat.le_trans (digs_length_mono (Nat.div_le_self _ _)) ?_
     exact Nat.le_trans (len_times hvp hscl) (by omega)
    have hbq:Below w12.heap.size w12 (w12.drewN nq):=below_drewN (Below.refl _ _) nq
    have hB13:=hB12.trans (hbq.mono hB12.size)
    have q113:=q112.below hbq q112.lt
    refine (step_any low t A8 m8 c8 _ (hT12.later hbq) (hn812.later hbq) (by have:=hn812.len;omega) (by omega)).mono ?_
    rintro e w14 ⟨v14,rfl,⟨A3,m3,c3,A4,m4,c4,A7,m7,c7,A8,m8,c8,rfl,h3,h4,h7,h8⟩,hbb14⟩
    have hB14:=hB13.trans (hbb14.mono hB13.size)
    have q114:=q113.below hbb14 q113.lt
    obtain ⟨qa,hqa⟩:∃ qa,qa=lowQ false low t:=⟨_,rfl⟩
    obtain ⟨qb,hqb⟩:∃ qb,qb=lowQ false (low+1) t:=⟨_,rfl⟩
    rw [←hqa] at h3 h4
    rw [←hqb] at h7 h8
    try rw [←hqa]
    try rw [←hqb]
    have HQA:=Lib.hid hqa
    have HQB:=Lib.hid hqb
    clear hqa hqb
    have y0:=q114.cell 0
    have y1:=q114.cell 1
    have y2:=q114.cell 2
    have y3:=q114.cell 3
    have y4:=q114.cell 4
    have y5:=q114.cell 5
    have z0:=q114.frozen 0
    have z1:=q114.frozen 1
    have z2:=q114.frozen 2
    have z3:=q114.frozen 3
    have z4:=q114.frozen 4
    have z5:=q114.frozen 5
    have hI:=itv_end (p:=qa) (q:=qb) q114 hB14 (by omega) rfl h3 h4 h7 h8
    have hD:=q114.set6 (.bool qa.neg) (.slice A3 m3 c3) (.slice A4 m4 c4) (.bool qb.neg) (.slice A7 m7 c7) (.slice A8 m8 c8)
    unfold Go.Proofs.YteajibbphcfmeaaGreatDoor.set6 at hI hD
    have r0:=hD.cell 0
    have r1:=hD.cell 1
    have r2:=hD.cell 2
    have r3:=hD.cell 3
    have r4:=hD.cell 4
    have r5:=hD.cell 5
    have HI:=Lib.hid hI
    clear hI hD
    go_wp2
    refine bodyPost_ret (v := .agg #[.bool qa.neg,.slice A3 m3 c3,.slice A4 m4 c4,.bool qb.neg,.slice A7 m7 c7,.slice A8 m8 c8]) (by simp [results,Tryz.results165,go_sem,y0,y1,y2,y3,y4,y5]) rfl ⟨_,rfl,by obtain rfl:=HQA.out;obtain rfl:=HQB.out;exact HI.out⟩
theorem far6w {g:Nat} (w:World) (u1 u2 u3 u4 u5 u6:Value) {q:Addr} (h:g≠q.block):((((((w.setCell ⟨g,0,none⟩ u1).setCell ⟨g,1,none⟩ u2).setCell ⟨g,2,none⟩ u3).setCell ⟨g,3,none⟩ u4).setCell ⟨g,4,none⟩ u5).setCell ⟨g,5,none⟩ u6).cell? q=w.cell? q:=by
 rw [World.cell?_setCell_far _ _ _ _ (by exact h),World.cell?_setCell_far _ _ _ _ (by exact h),World.cell?_setCell_far _ _ _ _ (by exact h),World.cell?_setCell_far _ _ _ _ (by exact h),World.cell?_setCell_far _ _ _ _ (by exact h),World.cell?_setCell_far _ _ _ _ (by exact h)]
theorem RatS.mk {w:World} {B:Nat} {q:Q} {A A':Option Addr} {n c n' c':Nat} (h1:NatS w B A n c q.top) (h2:NatS w B A' n' c' q.bot):RatS w B (.agg #[.bool q.neg,.slice A n c,.slice A' n' c']) q:=⟨A,n,c,A',n',c',rfl,h1,h2⟩
set_option maxHeartbeats 4000000 in
set_option maxRecDepth 100000 in
theorem nminus_s (p q:Q) (v u:Value) (w:World) (hT:Tabs w) (hv:RatS w w.heap.size v p) (hu:RatS w w.heap.size u q) (hp:LenQ p 134217728) (hq:LenQ q 134217728) :
  Calls Tryz.prog 67 #[v,u] w (RetRat w (minusQ p q)):=by
 obtain ⟨A1,n1,c1,A2,n2,c2,rfl,h1,h2⟩:=hv
 obtain ⟨A3,n3,c3,A4,n4,c4,rfl,h3,h4⟩:=hu
 have hbW:Below w.heap.size w (((w.alloc (.cells #[.bool p.neg,.slice A1 n1 c1,.slice A2 n2 c2] 91)).alloc (.cells #[.bool q.neg,.slice A3 n3 c3,.slice A4 n4 c4] 91)).alloc (.cells #[.bool false,.slice none 0 0,.slice none 0 0] 91)):=((((Below.refl _ _).alloc (by simp<;>omega) _).alloc (by simp<;>omega) _).alloc (by simp<;>omega) _)
 have q0:CBlk (((w.alloc (.cells #[.bool p.neg,.slice A1 n1 c1,.slice A2 n2 c2] 91)).alloc (.cells #[.bool q.neg,.slice A3 n3 c3,.slice A4 n4 c4] 91)).alloc (.cells #[.bool false,.slice none 0 0,.slice none 0 0] 91)) (w.heap.size) #[.bool p.neg,.slice A1 n1 c1,.slice A2 n2 c2] 91:=(((CBlk.new _ _ _ _ (by simp)).alloc _).alloc _)
 have q1:CBlk (((w.alloc (.cells #[.bool p.neg,.slice A1 n1 c1,.slice A2 n2 c2] 91)).alloc (.cells #[.bool q.neg,.slice A3 n3 c3,.slice A4 n4 c4] 91)).alloc (.cells #[.bool false,.slice none 0 0,.slice none 0 0] 91)) (w.heap.size+1) #[.bool q.neg,.slice A3 n3 c3,.slice A4 n4 c4] 91:=((CBlk.new _ _ _ _ (by simp)).alloc _)
 have q2:CBlk (((w.alloc (.cells #[.bool p.neg,.slice A1 n1 c1,.slice A2 n2 c2] 91)).alloc (.cells #[.bool q.neg,.slice A3 n3 c3,.slice A4 n4 c4] 91)).alloc (.cells #[.bool false,.slice none 0 0,.slice none 0 0] 91)) (w.heap.size+1+1) #[.bool false,.slice none 0 0,.slice none 0 0] 91:=(CBlk.new _ _ _ _ (by simp))
 go_enter Tryz.func67,Tryz.ntmps67
 go_wp2_with fail
 generalize (((w.alloc (.cells #[.bool p.neg,.slice A1 n1 c1,.slice A2 n2 c2] 91)).alloc (.cells #[.bool q.neg,.slice A3 n3 c3,.slice A4 n4 c4] 91)).alloc (.cells #[.bool false,.slice none 0 0,.slice none 0 0] 91))=W at *
 have l0b0:w.heap.size<W.drew.heap.size:=q0.lt
 have k0b0c0:W.drew.cell? ⟨w.heap.size,0,none⟩=some (.bool p.neg):=q0.cell 0
 have k0b0c1:W.drew.cell? ⟨w.heap.size,1,none⟩=some (.slice A1 n1 c1):=q0.cell 1
 have k0b0c2:W.drew.cell? ⟨w.heap.size,2,none⟩=some (.slice A2 n2 c2):=q0.cell 2
 have l0b1:w.heap.size+1<W.drew.heap.size:=q1.lt
 have k0b1c0:W.drew.cell? ⟨w.heap.size+1,0,none⟩=some (.bool q.neg):=q1.cell 0
 have k0b1c1:W.drew.cell? ⟨w.heap.size+1,1,none⟩=some (.slice A3 n3 c3):=q1.cell 1
 have k0b1c2:W.drew.cell? ⟨w.heap.size+1,2,none⟩=some (.slice A4 n4 c4):=q1.cell 2
 go_region_held3 (fun w'=>w'.cell? ⟨w.heap.size,0,none⟩=some (.bool p.neg)∧w'.cell? ⟨w.heap.size,1,none⟩=some (.slice A1 n1 c1)∧w'.cell? ⟨w.heap.size,2,none⟩=some (.slice A2 n2 c2)∧w'.cell? ⟨w.heap.size+1,0,none⟩=some (.bool q.neg)∧w'.cell? ⟨w.heap.size+1,1,none⟩=some (.slice A3 n3 c3)∧w'.cell? ⟨w.heap.size+1,2,none⟩=some (.slice A4 n4 c4))
  (first | with_reducible exact ⟨k0b0c0,k0b0c1,k0b0c2,k0b1c0,k0b1c1,k0b1c2⟩ | with_reducible exact ⟨k1b0c0,k1b0c1,k1b0c2,k1b1c0,k1b1c1,k1b1c2⟩ | with_reducible exact ⟨k2b0c0,k2b0c1,k2b0c2,k2b1c0,k2b1c1,k2b1c2⟩ | exact ⟨((far3 _ _ _ _ (by dsimp only;omega)).trans k2b0c0),((far3 _ _ _ _ (by dsimp only;omega)).trans k2b0c1),((far3 _ _ _ _ (by dsimp only;omega)).trans k2b0c2),((far3 _ _ _ _ (by dsimp only;omega)).trans k2b1c0),((far3 _ _ _ _ (by dsimp only;omega)).trans k2b1c1),((far3 _ _ _ _ (by dsimp only;omega)).trans k2b1c2)⟩)
  (first
   |(go_at_call 133;refine (nneg_s q _ _ (RatS.mk (h3.later hbW.drew) (h4.later hbW.drew))).mono ?_;rintro e w4 ⟨v4,rfl,⟨A5,m5,c5,A6,m6,c6,rfl,h5,h6⟩,hb4⟩;have l1b0:w.heap.size<w4.heap.size:=Nat.lt_of_lt_of_le l0b0 hb4.size;have k1b0c0:w4.cell? ⟨w.heap.size,0,none⟩=some (.bool p.neg):=(hb4.cell (p:=⟨w.heap.size,0,none⟩) l0b0).trans k0b0c0;have k1b0c1:w4.cell? ⟨w.heap.size,1,none⟩=some (.slice A1 n1 c1):=(hb4.cell (p:=⟨w.heap.size,1,none⟩) l0b0).trans k0b0c1;have k1b0c2:w4.cell? ⟨w.heap.size,2,none⟩=some (.slice A2 n2 c2):=(hb4.cell (p:=⟨w.heap.size,2,none⟩) l0b0).trans k0b0c2;have l1b1:w.heap.size+1<w4.heap.size:=Nat.lt_of_lt_of_le l0b1 hb4.size;have k1b1c0:w4.cell? ⟨w.heap.size+1,0,none⟩=some (.bool q.neg):=(hb4.cell (p:=⟨w.heap.size+1,0,none⟩) l0b1).trans k0b1c0;have k1b1c1:w4.cell? ⟨w.heap.size+1,1,none⟩=some (.slice A3 n3 c3):=(hb4.cell (p:=⟨w.heap.size+1,1,none⟩) l0b1).trans k0b1c1;have k1b1c2:w4.cell? ⟨w.heap.size+1,2,none⟩=some (.slice A4 n4 c4):=(hb4.cell (p:=⟨w.heap.size+1,2,none⟩) l0b1).trans k0b1c2)
   |(go_at_call 65;refine (nplus_s p (nnegQ q) _ _ w4 ((hT.later hbW.drew).later hb4) (RatS.mk ((h1.later hbW.drew).later hb4) ((h2.later hbW.drew).later hb4)) (RatS.mk h5 h6) hp hq).mono ?_;rintro e w5 ⟨v5,rfl,⟨A7,m7,c7,A8,m8,c8,rfl,h7,h8⟩,hb5⟩;have qR:=((q2.drew.below hb4 q2.lt).below hb5 (Nat.lt_of_lt_of_le q2.lt hb4.size));have y0:=qR.cell 0;have y1:=qR.cell 1;have y2:=qR.cell 2;have z0:=qR.frozen 0;have z1:=qR.frozen 1;have z2:=qR.frozen 2;have l2b0:w.heap.size<w5.heap.size:=Nat.lt_of_lt_of_le l1b0 hb5.size;have k2b0c0:w5.cell? ⟨w.heap.size,0,none⟩=some (.bool p.neg):=(hb5.cell (p:=⟨w.heap.size,0,none⟩) l1b0).trans k1b0c0;have k2b0c1:w5.cell? ⟨w.heap.size,1,none⟩=some (.slice A1 n1 c1):=(hb5.cell (p:=⟨w.heap.size,1,none⟩) l1b0).trans k1b0c1;have k2b0c2:w5.cell? ⟨w.heap.size,2,none⟩=some (.slice A2 n2 c2):=(hb5.cell (p:=⟨w.heap.size,2,none⟩) l1b0).trans k1b0c2;have l2b1:w.heap.size+1<w5.heap.size:=Nat.lt_of_lt_of_le l1b1 hb5.size;have k2b1c0:w5.cell? ⟨w.heap.size+1,0,none⟩=some (.bool q.neg):=(hb5.cell (p:=⟨w.heap.size+1,0,none⟩) l1b1).trans k1b1c0;have k2b1c1:w5.cell? ⟨w.heap.size+1,1,none⟩=some (.slice A3 n3 c3):=(hb5.cell (p:=⟨w.heap.size+1,1,none⟩) l1b1).trans k1b1c1;have k2b1c2:w5.cell? ⟨w.heap.size+1,2,none⟩=some (.slice A4 n4 c4):=(hb5.cell (p:=⟨w.heap.size+1,2,none⟩) l1b1).trans k1b1c2))
 have hBall:=((hbW.drew.trans (hb4.mono hbW.drew.size)).trans (hb5.mono (Nat.le_trans hbW.drew.size hb4.size)))
 have hset:=three_set hBall (g:=w.heap.size+1+1) (by omega) (.bool (plusQ p (nnegQ q)).neg) (.slice A7 m7 c7) (.slice A8 m8 c8)
 go_wp2_with fail
 refine bodyPost_ret (v := .agg #[.bool (plusQ p (nnegQ q)).neg,.slice A7 m7 c7,.slice A8 m8 c8]) (by simp [results,Tryz.results67,go_sem,y0,y1,y2]) rfl ⟨_,rfl,⟨A7,m7,c7,A8,m8,c8,rfl,?_,?_⟩,hset⟩
 ·rw [size_set3];exact h7.res qR _ _ _
 ·rw [size_set3];exact h8.res qR _ _ _
set_option maxHeartbeats 4000000 in
set_option maxRecDepth 100000 in
theorem ineg_any (p q:Q) (v:Value) (w:World) (hv:ItvS w w.heap.size v p q) :
  Calls Tryz.prog 166 #[v] w (RetItv w (nnegQ q) (nnegQ p)):=by
 obtain ⟨A1,n1,c1,A2,n2,c2,A3,n3,c3,A4,n4,c4,rfl,h1,h2,h3,h4⟩:=hv
 have hbW:Below w.heap.size w ((w.alloc (.cells #[.bool p.neg,.slice A1 n1 c1,.slice A2 n2 c2,.bool q.neg,.slice A3 n3 c3,.slice A4 n4 c4] 139)).alloc (.cells #[.bool false,.slice none 0 0,.slice none 0 0,.bool false,.slice none 0 0,.slice none 0 0] 139)):=(((Below.refl _ _).alloc (by simp<;>omega) _).alloc (by simp<;>omega) _)
 have q0:CBlk ((w.alloc (.cells #[.bool p.neg,.slice A1 n1 c1,.slice A2 n2 c2,.bool q.neg,.slice A3 n3 c3,.slice A4 n4 c4] 139)).alloc (.cells #[.bool false,.slice none 0 0,.slice none 0 0,.bool false,.slice none 0 0,.slice none 0 0] 139)) (w.heap.size) #[.bool p.neg,.slice A1 n1 c1,.slice A2 n2 c2,.bool q.neg,.slice A3 n3 c3,.slice A4 n4 c4] 139:=((CBlk.new _ _ _ _ (by simp)).alloc _)
 have q1:CBlk ((w.alloc (.cells #[.bool p.neg,.slice A1 n1 c1,.slice A2 n2 c2,.bool q.neg,.slice A3 n3 c3,.slice A4 n4 c4] 139)).alloc (.cells #[.bool false,.slice none 0 0,.slice none 0 0,.bool false,.slice none 0 0,.slice none 0 0] 139)) (w.heap.size+1) #[.bool false,.slice none 0 0,.slice none 0 0,.bool false,.slice none 0 0,.slice none 0 0] 139:=(CBlk.new _ _ _ _ (by simp))
 go_enter Tryz.func166,Tryz.ntmps166
 go_wp2_with fail
 generalize ((w.alloc (.cells #[.bool p.neg,.slice A1 n1 c1,.slice A2 n2 c2,.bool q.neg,.slice A3 n3 c3,.slice A4 n4 c4] 139)).alloc (.cells #[.bool false,.slice none 0 0,.slice none 0 0,.bool false,.slice none 0 0,.slice none 0 0] 139))=W at *
 have l0b0:w.heap.size<W.drew.heap.size:=q0.lt
 have k0b0c0:W.drew.cell? ⟨w.heap.size,0,none⟩=some (.bool p.neg):=q0.cell 0
 have k0b0c1:W.drew.cell? ⟨w.heap.size,1,none⟩=some (.slice A1 n1 c1):=q0.cell 1
 have k0b0c2:W.drew.cell? ⟨w.heap.size,2,none⟩=some (.slice A2 n2 c2):=q0.cell 2
 have k0b0c3:W.drew.cell? ⟨w.heap.size,3,none⟩=some (.bool q.neg):=q0.cell 3
 have k0b0c4:W.drew.cell? ⟨w.heap.size,4,none⟩=some (.slice A3 n3 c3):=q0.cell 4
 have k0b0c5:W.drew.cell? ⟨w.heap.size,5,none⟩=some (.slice A4 n4 c4):=q0.cell 5
 go_region_held3 (fun w'=>w'.cell? ⟨w.heap.size,0,none⟩=some (.bool p.neg)∧w'.cell? ⟨w.heap.size,1,none⟩=some (.slice A1 n1 c1)∧w'.cell? ⟨w.heap.size,2,none⟩=some (.slice A2 n2 c2)∧w'.cell? ⟨w.heap.size,3,none⟩=some (.bool q.neg)∧w'.cell? ⟨w.heap.size,4,none⟩=some (.slice A3 n3 c3)∧w'.cell? ⟨w.heap.size,5,none⟩=some (.slice A4 n4 c4))
  (first | with_reducible exact ⟨k0b0c0,k0b0c1,k0b0c2,k0b0c3,k0b0c4,k0b0c5⟩ | with_reducible exact ⟨k1b0c0,k1b0c1,k1b0c2,k1b0c3,k1b0c4,k1b0c5⟩ | with_reducible exact ⟨k2b0c0,k2b0c1,k2b0c2,k2b0c3,k2b0c4,k2b0c5⟩ | exact ⟨((far6w _ _ _ _ _ _ _ (by dsimp only;omega)).trans k2b0c0),((far6w _ _ _ _ _ _ _ (by dsimp only;omega)).trans k2b0c1),((far6w _ _ _ _ _ _ _ (by dsimp only;omega)).trans k2b0c2),((far6w _ _ _ _ _ _ _ (by dsimp only;omega)).trans k2b0c3),((far6w _ _ _ _ _ _ _ (by dsimp only;omega)).trans k2b0c4),((far6w _ _ _ _ _ _ _ (by dsimp only;omega)).trans k2b0c5)⟩)
  (first
   |(go_at_call 133;refine (nneg_s p _ w4 (RatS.mk ((h1.later hbW.drew).later hb4) ((h2.later hbW.drew).later hb4))).mono ?_;rintro e w5 ⟨v5,rfl,⟨A7,m7,c7,A8,m8,c8,rfl,h7,h8⟩,hb5⟩;have qR:=((q1.drew.below hb4 q1.lt).below hb5 (Nat.lt_of_lt_of_le q1.lt hb4.size));have y0:=qR.cell 0;have y1:=qR.cell 1;have y2:=qR.cell 2;have y3:=qR.cell 3;have y4:=qR.cell 4;have y5:=qR.cell 5;have z0:=qR.frozen 0;have z1:=qR.frozen 1;have z2:=qR.frozen 2;have z3:=qR.frozen 3;have z4:=qR.frozen 4;have z5:=qR.frozen 5;have l2b0:w.heap.size<w5.heap.size:=Nat.lt_of_lt_of_le l1b0 hb5.size;have k2b0c0:w5.cell? ⟨w.heap.size,0,none⟩=some (.bool p.neg):=(hb5.cell (p:=⟨w.heap.size,0,none⟩) l1b0).trans k1b0c0;have k2b0c1:w5.cell? ⟨w.heap.size,1,none⟩=some (.slice A1 n1 c1):=(hb5.cell (p:=⟨w.heap.size,1,none⟩) l1b0).trans k1b0c1;have k2b0c2:w5.cell? ⟨w.heap.size,2,none⟩=some (.slice A2 n2 c2):=(hb5.cell (p:=⟨w.heap.size,2,none⟩) l1b0).trans k1b0c2;have k2b0c3:w5.cell? ⟨w.heap.size,3,none⟩=some (.bool q.neg):=(hb5.cell (p:=⟨w.heap.size,3,none⟩) l1b0).trans k1b0c3;have k2b0c4:w5.cell? ⟨w.heap.size,4,none⟩=some (.slice A3 n3 c3):=(hb5.cell (p:=⟨w.heap.size,4,none⟩) l1b0).trans k1b0c4;have k2b0c5:w5.cell? ⟨w.heap.size,5,none⟩=some (.slice A4 n4 c4):=(hb5.cell (p:=⟨w.heap.size,5,none⟩) l1b0).trans k1b0c5)
   |(go_at_call_of 133 (Value.agg #[.bool q.neg,.slice A3 n3 c3,.slice A4 n4 c4]);refine (nneg_s q _ _ (RatS.mk (h3.later hbW.drew) (h4.later hbW.drew))).mono ?_;rintro e w4 ⟨v4,rfl,⟨A5,m5,c5,A6,m6,c6,rfl,h5,h6⟩,hb4⟩;have l1b0:w.heap.size<w4.heap.size:=Nat.lt_of_lt_of_le l0b0 hb4.size;have k1b0c0:w4.cell? ⟨w.heap.size,0,none⟩=some (.bool p.neg):=(hb4.cell (p:=⟨w.heap.size,0,none⟩) l0b0).trans k0b0c0;have k1b0c1:w4.cell? ⟨w.heap.size,1,none⟩=some (.slice A1 n1 c1):=(hb4.cell (p:=⟨w.heap.size,1,none⟩) l0b0).trans k0b0c1;have k1b0c2:w4.cell? ⟨w.heap.size,2,none⟩=some (.slice A2 n2 c2):=(hb4.cell (p:=⟨w.heap.size,2,none⟩) l0b0).trans k0b0c2;have k1b0c3:w4.cell? ⟨w.heap.size,3,none⟩=some (.bool q.neg):=(hb4.cell (p:=⟨w.heap.size,3,none⟩) l0b0).trans k0b0c3;have k1b0c4:w4.cell? ⟨w.heap.size,4,none⟩=some (.slice A3 n3 c3):=(hb4.cell (p:=⟨w.heap.size,4,none⟩) l0b0).trans k0b0c4;have k1b0c5:w4.cell? ⟨w.heap.size,5,none⟩=some (.slice A4 n4 c4):=(hb4.cell (p:=⟨w.heap.size,5,none⟩) l0b0).trans k0b0c5))
 have hBall:=((hbW.drew.trans (hb4.mono hbW.drew.size)).trans (hb5.mono (Nat.le_trans hbW.drew.size hb4.size)))
 have hI:=itv_end (p:=(nnegQ q)) (q:=(nnegQ p)) qR hBall (by omega) rfl (h5.later hb5) (h6.later hb5) h7 h8
 unfold Go.Proofs.YteajibbphcfmeaaGreatDoor.set6 at hI
 go_wp2_with fail
 refine bodyPost_ret (v := .agg #[.bool (nnegQ q).neg,.slice A5 m5 c5,.slice A6 m6 c6,.bool (nnegQ p).neg,.slice A7 m7 c7,.slice A8 m8 c8]) (by simp [results,Tryz.results166,go_sem,y0,y1,y2,y3,y4,y5]) rfl ⟨_,rfl,hI⟩
end Go.Proofs.YteajibbphcfmeaaGreatDoor
