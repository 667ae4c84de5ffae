/- Contract of package number's series of the cosine, where it is known when it ends. -/
import Derived.Test.YteajibbphcfmeaaGreatDoorTSp0
import Derived.Test.YteajibbphcfmeaaGreatDoorTDiv4
import Derived.Deep.RegionHeld3
namespace Go.Proofs.YteajibbphcfmeaaGreatDoor
open Go.RowKit Bn
theorem big_len {x M:Nat} (h:x<2 ^ M) (hM:M≤1048576):(digs x).length≤1048576:=by
 obtain ⟨N,hN⟩:∃ N,N=64*1048576:=⟨_,rfl⟩
 exact len_lt (by rw [←hN];exact Nat.lt_of_lt_of_le h (Nat.pow_le_pow_right (by omega) (by omega)))
set_option maxHeartbeats 8000000 in
set_option maxRecDepth 100000 in
theorem series_any (neg:Bool) (top bot bits k l mm M:Nat) (At Ab:Option Addr) (nt ct nb cb:Nat) (w:World) (h5:Cs.TanOk 5 bits k) (h239:Cs.TanOk 239 bits l) (hc:Cs.tanVal 239 bits l*8≤Cs.tanVal 5 bits k*32)
  (hok:Cs.SerOk (Cs.sqOf (Cs.circleOf bits k l) top bot bits) bits mm M) (hM:M≤1048576) (hb:bits≤1048576) (hk0:k<4294967296) (hl0:l<4294967296) (hmm:mm<1073741824)
  (ht:NatS w w.heap.size At nt ct top) (hbo:NatS w w.heap.size Ab nb cb bot) (hbot:0<bot) (hnt:nt≤1048576) :
  Calls Tryz.prog 196 #[.agg #[.bool neg,.slice At nt ct,.slice Ab nb cb],.int .i64 (bits:Int)] w (RetNat w (Cs.serVal (Cs.sqOf (Cs.circleOf bits k l) top bot bits) bits mm)):=by
 have hcl:(digs (Cs.circleOf bits k l)).length≤1048578:=by
  have h:=len_times (tanVal_len (n:=5) (k:=k) (by omega) hb) (show (digs 32).length≤1 from digs_length_le (by decide))
  exact Nat.le_trans (Nat.le_trans (digs_length_mono (Nat.sub_le _ _)) h) (by omega)
 have htl:=ht.len
 have hal:=len_times hcl (Nat.le_of_eq htl)
 have HC:=Lib.hid (fun W=>circle_any bits k l W h5 h239 hc hb hk0 hl0)
 have HSQ:Hid (Cs.sqOf (Cs.circleOf bits k l) top bot bits=Cs.circleOf bits k l*top / bot*(Cs.circleOf bits k l*top / bot) / 2 ^ bits):=rfl
 clear h5 h239 hc
 generalize Cs.circleOf bits k l=ci at *
 obtain ⟨sq,hsqe⟩:∃ sq,sq=Cs.sqOf ci top bot bits:=⟨_,rfl⟩
 rw [←hsqe] at hok HSQ ⊢
 have hal2:(digs (ci*top / bot)).length≤1048578+nt:=Nat.le_trans (digs_length_mono (Nat.div_le_self _ _)) hal
 have hsq:(digs sq).length≤1048578+nt+(1048578+nt):=by
  rw [HSQ.out]
  exact Nat.le_trans (digs_length_mono (Nat.div_le_self _ _)) (len_times hal2 hal2)
 have hZ:=Lib.hid hok.zero
 have hPos:=Lib.hid hok.pos
 have hLe:=Lib.hid hok.le
 have hbd0:=hok.bound
 have hbd:∀ j,j≤mm→_:=fun j hj=>hbd0 j (by omega)
 have hV:Hid (Cs.serVal sq bits mm=(Cs.serAt sq bits mm).1 - (Cs.serAt sq bits mm).2.1):=rfl
 clear hok hsqe hbd0 htl
 have hb1:Below w.heap.size w (w.alloc (.cells #[.bool neg,.slice At nt ct,.slice Ab nb cb] 91)):=(Below.refl _ _).alloc (Nat.le_refl _) _
 have q0:CBlk (w.alloc (.cells #[.bool neg,.slice At nt ct,.slice Ab nb cb] 91)) w.heap.size #[.bool neg,.slice At nt ct,.slice Ab nb cb] 91:=CBlk.new w _ _ _ rfl
 go_enter Tryz.func196,Tryz.ntmps196
 go_wp2_with fail
 generalize (w.alloc (.cells #[.bool neg,.slice At nt ct,.slice Ab nb cb] 91))=w3 at *
 have a1:=q0.cell 1
 have a2:=q0.cell 2
 have al:=q0.lt
 have hb3d:Below w.heap.size w w3.drew:=hb1.drew
 go_region_held3 (fun w'=>w'.cell? ⟨w.heap.size,1,none⟩=some (.slice At nt ct)∧w'.cell? ⟨w.heap.size,2,none⟩=some (.slice Ab nb cb))
  (first | exact ⟨a1,a2⟩ | exact ⟨(hb4.cell (p:=⟨w.heap.size,1,none⟩) al).trans a1,(hb4.cell (p:=⟨w.heap.size,2,none⟩) al).trans a2⟩ | exact ⟨(hb5.cell (p:=⟨w.heap.size,1,none⟩) al4).trans ((hb4.cell (p:=⟨w.heap.size,1,none⟩) al).trans a1),(hb5.cell (p:=⟨w.heap.size,2,none⟩) al4).trans ((hb4.cell (p:=⟨w.heap.size,2,none⟩) al).trans a2)⟩ | exact ⟨(hb6.cell (p:=⟨w.heap.size,1,none⟩) al5).trans ((hb5.cell (p:=⟨w.heap.size,1,none⟩) al4).trans ((hb4.cell (p:=⟨w.heap.size,1,none⟩) al).trans a1)),(hb6.cell (p:=⟨w.heap.size,2,none⟩) al5).trans ((hb5.cell (p:=⟨w.heap.size,2,none⟩) al4).trans ((hb4.cell (p:=⟨w.heap.size,2,none⟩) al).trans a2))⟩)
  (first
   |(go_at_call 210;refine (HC.out w3.drew).mono ?_;rintro e w4 ⟨A4,m4,c4,rfl,hn4,hb4⟩;have al4:=Nat.lt_of_lt_of_le al hb4.size)
   |(go_at_call 105;refine (times_any A4 At m4 c4 nt ct ci top w4 hn4 ((ht.later hb3d).later hb4) (by have:=hn4.len;omega) (by omega)).mono ?_;rintro e w5 ⟨A5,m5,c5,rfl,hn5,hb5⟩;have al5:=Nat.lt_of_lt_of_le al4 hb5.size)
   |(go_at_call 142;refine (over_any A5 Ab m5 c5 nb cb (ci*top) bot w5 hn5 (((hbo.later hb3d).later hb4).later hb5) hbot (by have:=hn5.len;omega)).mono ?_;rintro e w6 ⟨A6,m6,c6,A7,m7,c7,rfl,hn6,hn7,hb6⟩))
 have hB6:Below w.heap.size w w6:=((hb3d.trans (hb4.mono hb3d.size)).trans (hb5.mono (Nat.le_trans hb3d.size hb4.size))).trans (hb6.mono (Nat.le_trans hb3d.size (Nat.le_trans hb4.size hb5.size)))
 clear hb3d hb4 hb5 hb6 hn4 hn5 hn7 q0 a1 a2 al ht hbo HC hcl hal
 try clear al4 al5
 go_wp2_with fail
 refine (times_any A6 A6 m6 c6 m6 c6 _ _ w6 hn6 hn6 (by have:=hn6.len;omega) (by have:=hn6.len;omega)).mono ?_
 rintro e w8 ⟨A8,m8,c8,rfl,hn8,hb8⟩
 have hB8:=hB6.trans (hb8.mono hB6.size)
 go_wp2_with fail
 refine (shiftedRight_any A8 m8 c8 _ bits w8 hn8 (by have:=hn8.len;have:=len_times hal2 hal2;omega) (by omega)).mono ?_
 rintro e w9 ⟨hb9',hb9⟩
 obtain ⟨As,ms,cs,rfl,hs9,hb9⟩:=hb9.ret hb9'
 rw [←HSQ.out] at hs9
 have hB9:=hB8.trans (hb9.mono hB8.size)
 clear hb8 hb9 hb9' hB6 hB8 hn6 hn8
 go_wp2_with fail
 refine (naturalOf_any 1 w9 (by omega) (by omega)).mono ?_
 rintro e w10 ⟨A10,m10,c10,rfl,hn10,hb10⟩
 have hs10:=hs9.later hb10
 have hB10:=hB9.trans (hb10.mono hB9.size)
 go_wp2_with fail
 refine (shiftedLeft_any A10 m10 c10 _ bits w10 hn10 (by rw [←hn10.len];exact Nat.le_trans len_one (by omega)) (by omega)).mono ?_
 rintro e w11 ⟨A11,m11,c11,rfl,hn11,hb11⟩
 have hs11:=hs10.later hb11
 have hB11:=hB10.trans (hb11.mono hB10.size)
 rw [show Int.toNat 1*2 ^ bits=2 ^ bits by simp] at hn11
 have hBa:Below w.heap.size w (w11.alloc (.cells #[.slice none 0 0,.slice none 0 0] 229)):=hB11.alloc hB11.size _
 have hka:CBlk (w11.alloc (.cells #[.slice none 0 0,.slice none 0 0] 229)) w11.heap.size #[.slice none 0 0,.slice none 0 0] 229:=CBlk.new _ _ _ _ rfl
 have hpa:=hn11.later ((Below.refl _ _).alloc (Nat.le_refl _) (.cells #[.slice none 0 0,.slice none 0 0] 229))
 have hsa:=hs11.later ((Below.refl _ _).alloc (Nat.le_refl _) (.cells #[.slice none 0 0,.slice none 0 0] 229))
 obtain ⟨g,hg0⟩:∃ g,g=w11.heap.size:=⟨_,rfl⟩
 have hg:w.heap.size≤g:=by rw [hg0];exact hB11.size
 rw [←hg0] at hka
 have HG:=Lib.hid hg0
 clear hg0 hB9 hB10 hB11 hs9 hs10 hs11 hn10 hn11 hb10 hb11
 go_upto_region 6 with (fail)
 rw [←HG.out]
 generalize (w11.alloc (.cells #[.slice none 0 0,.slice none 0 0] 229))=wa at *
 go_wp2_with fail
 go_loopw [8,10] (fun pv kv wr=>∃ (k:Nat) (A:Option Addr) (m c:Nat) (A0:Option Addr) (m0 c0:Nat) (A1:Option Addr) (m1 c1:Nat),k≤mm∧pv = .slice A m c∧kv = .int .u64 (k:Int)∧NatS wr wr.heap.size A m c (Cs.serAt sq bits k).2.2∧NatS wr wr.heap.size A0 m0 c0 (Cs.serAt sq bits k).1∧NatS wr wr.heap.size A1 m1 c1 (Cs.serAt sq bits k).2.1∧CBlk wr g #[.slice A0 m0 c0,.slice A1 m1 c1] 229∧NatS wr wr.heap.size As ms cs sq∧Below w.heap.size w wr) (fun _ kv _=>mm - (intOf kv).toNat)
 case atStart=>exact ⟨0,A11,m11,c11,none,0,0,none,0,0,Nat.zero_le _,rfl,rfl,hpa,NatS.nil _ _,NatS.nil _ _,hka,hsa,hBa⟩
 case round=>
  obtain ⟨k,A,m,c,A0,m0,c0,A1,m1,c1,hkk,rfl,rfl,hp,h0,h1,hk,hs,hB⟩:=hrel
  by_cases hlt:k<mm
  ·have HP0:=Lib.hid (hPos.out k hlt)
   obtain ⟨k2,hk2e⟩:∃ k2,k2=2*k:=⟨_,rfl⟩
   obtain ⟨k21,hk21⟩:∃ k21,k21=2*k+1:=⟨_,rfl⟩
   obtain ⟨k22,hk22⟩:∃ k22,k22=2*k+2:=⟨_,rfl⟩
   obtain ⟨kp,hkp⟩:∃ kp,kp=k21*k22:=⟨_,rfl⟩
   obtain ⟨kk,hkke⟩:∃ kk,kk=k+1:=⟨_,rfl⟩
   have f1:IntKind.u64.wrap (2*(k:Int))=(k2:Int):=by rw [u64_in (by omega) (by omega)];omega
   have f2:IntKind.u64.wrap ((k2:Int)+1)=(k21:Int):=by rw [u64_in (by omega) (by omega)];omega
   have f2b:IntKind.u64.wrap ((k2:Int)+2)=(k22:Int):=by rw [u64_in (by omega) (by omega)];omega
   have f3:IntKind.u64.wrap ((k:Int)+1)=(kk:Int):=by rw [u64_in (by omega) (by omega)];omega
   have hkp2:kp<4294967296*4294967296:=by rw [hkp];exact Nat.mul_lt_mul'' (by omega) (by omega)
   have hkp1:0<kp:=by rw [hkp];exact Nat.mul_pos (by omega) (by omega)
   have f5:IntKind.u64.wrap ((k21:Int)*(k22:Int))=(kp:Int):=by
    rw [u64_in (Int.mul_nonneg (by omega) (by omega)) (by rw [←Int.natCast_mul,←hkp];omega),←Int.natCast_mul,←hkp]
   have hkp3:kp<18446744073709551616:=by omega
   have HKK:Hid (kk=k+1∧k<mm):=⟨hkke,hlt⟩
   rcases Nat.mod_two_eq_zero_or_one k with hpar | hpar
   ·have f4:Int.tmod (k:Int) 2=0:=by rw [Int.tmod_eq_emod_of_nonneg (by omega)];omega
    have hst:Cs.serAt sq bits kk=((Cs.serAt sq bits k).1+(Cs.serAt sq bits k).2.2,(Cs.serAt sq bits k).2.1,(Cs.serAt sq bits k).2.2*sq / 2 ^ bits / kp):=by
     rw [hkke,hkp,hk21,hk22];simp only [Cs.serAt];rw [if_pos hpar]
    clear hk2e hk21 hk22 hkp hkp2 hkke hlt hpar
    have x0:=hk.cell 0
    have x1:=hk.cell 1
    go_wp2_with fail
    refine (isZero_val A m c (Cs.serAt sq bits k).2.2 _ hp).mono ?_
    rintro e w1 ⟨rfl,rfl⟩
    rw [decide_eq_false (by have:=HP0.out;omega)]
    go_wp2_with fail
    refine (plus_any A0 A m0 c0 m c _ _ _ h0 hp (by have h:=h0.len;have h2:=big_len (hbd k (by have:=HKK.out;omega)).1 hM;omega) (by have h:=hp.len;have h2:=big_len (hbd k (by have:=HKK.out;omega)).2.2 hM;omega)).mono ?_
    rintro e w3 ⟨A3,m3,c3,rfl,hn3,hb3⟩
    have hB3:=hB.trans (hb3.mono hB.size)
    have hk3:=hk.below hb3 hk.lt
    have hp3:=hp.later hb3
    have h03:=h0.later hb3
    have h13:=h1.later hb3
    have hs3:=hs.later hb3
    clear x0 x1 hk hp h0 h1 hB hs
    have x0:=hk3.cell 0
    have x1:=hk3.cell 1
    have y0:=hk3.frozen 0
    have y1:=hk3.frozen 1
    have hB4:=hB3.setCell (p:=⟨g,0,none⟩) hg (.slice A3 m3 c3)
    have hk4:=hk3.set 0 (.slice A3 m3 c3)
    have hp4:=hp3.store (i:=0) hk3 (noInt_two _ _ _ _ _ _) (.slice A3 m3 c3)
    have h04:=h03.store (i:=0) hk3 (noInt_two _ _ _ _ _ _) (.slice A3 m3 c3)
    have h14:=h13.store (i:=0) hk3 (noInt_two _ _ _ _ _ _) (.slice A3 m3 c3)
    have hn4:=hn3.store (i:=0) hk3 (noInt_two _ _ _ _ _ _) (.slice A3 m3 c3)
    have hs4:=hs3.store (i:=0) hk3 (noInt_two _ _ _ _ _ _) (.slice A3 m3 c3)
    have hsz:(w3.setCell ⟨g,0,none⟩ (.slice A3 m3 c3)).heap.size=w3.heap.size:=by simp [World.setCell]
    clear hp3 h03 h13 hn3 hB3 hk3 hs3
    go_upto_region 9 with (fail)
    generalize (w3.setCell ⟨g,0,none⟩ (.slice A3 m3 c3))=w4 at *
    rw [←hsz] at hp4 h04 h14 hn4 hs4
    go_wp2_with fail
    refine (times_any A As m c ms cs _ _ w4 hp4 hs4 (by have h:=hp4.len;have h2:=big_len (hbd k (by have:=HKK.out;omega)).2.2 hM;omega) (by have h:=hs4.len;omega)).mono ?_
    rintro e w5 ⟨A5,m5,c5,rfl,hn5,hb5⟩
    go_wp2_with fail
    refine (shiftedRight_any A5 m5 c5 _ bits w5 hn5 (by
     have h:=hn5.len
     have h2:=len_times (big_len (hbd k (by have:=HKK.out;omega)).2.2 hM) hsq
     omega) (by omega)).mono ?_
    rintro e w6 ⟨hb6',hb6⟩
    obtain ⟨A6,m6,c6,rfl,hn6,hb6⟩:=hb6.ret hb6'
    go_wp2_with fail
    refine (overWord_any A6 m6 c6 _ kp w6 hn6 (by
     have h:=hn6.len
     have h2:=len_times (big_len (hbd k (by have:=HKK.out;omega)).2.2 hM) hsq
     have h3:=digs_length_mono (Nat.div_le_self ((Cs.serAt sq bits k).2.2*sq) (2 ^ bits))
     omega) (by omega) (by omega)).mono ?_
    rintro e w7 ⟨m7,c7,rfl,hr7,hb7⟩
    have hq7:=hr7.nat
    have hbx:=(hb5.trans (hb6.mono hb5.size)).trans (hb7.mono (Nat.le_trans hb5.size hb6.size))
    go_wp2_with fail
    go_roundw
    case rel=>
     refine ⟨kk,_,m7,c7,A3,m3,c3,A1,m1,c1,by have:=HKK.out;omega,rfl,rfl,?_,?_,?_,hk4.below hbx hk4.lt,hs4.later hbx,hB4.trans (hbx.mono hB4.size)⟩
     ·rw [hst];exact hq7
     ·rw [hst];exact hn4.later hbx
     ·rw [hst];exact h14.later hbx
    case measure=>have:=HKK.out;simp [intOf]<;>omega
   ·have f4:Int.tmod (k:Int) 2=1:=by rw [Int.tmod_eq_emod_of_nonneg (by omega)];omega
    have hst:Cs.serAt sq bits kk=((Cs.serAt sq bits k).1,(Cs.serAt sq bits k).2.1+(Cs.serAt sq bits k).2.2,(Cs.serAt sq bits k).2.2*sq / 2 ^ bits / kp):=by
     rw [hkke,hkp,hk21,hk22];simp only [Cs.serAt];rw [if_neg (by omega)]
    clear hk2e hk21 hk22 hkp hkp2 hkke hlt hpar
    have x0:=hk.cell 0
    have x1:=hk.cell 1
    go_wp2_with fail
    refine (isZero_val A m c (Cs.serAt sq bits k).2.2 _ hp).mono ?_
    rintro e w1 ⟨rfl,rfl⟩
    rw [decide_eq_false (by have:=HP0.out;omega)]
    go_wp2_with fail
    refine (plus_any A1 A m1 c1 m c _ _ _ h1 hp (by have h:=h1.len;have h2:=big_len (hbd k (by have:=HKK.out;omega)).2.1 hM;omega) (by have h:=hp.len;have h2:=big_len (hbd k (by have:=HKK.out;omega)).2.2 hM;omega)).mono ?_
    rintro e w3 ⟨A3,m3,c3,rfl,hn3,hb3⟩
    have hB3:=hB.trans (hb3.mono hB.size)
    have hk3:=hk.below hb3 hk.lt
    have hp3:=hp.later hb3
    have h03:=h0.later hb3
    have h13:=h1.later hb3
    have hs3:=hs.later hb3
    clear x0 x1 hk hp h0 h1 hB hs
    have x0:=hk3.cell 0
    have x1:=hk3.cell 1
    have y0:=hk3.frozen 0
    have y1:=hk3.frozen 1
    have hB4:=hB3.setCell (p:=⟨g,1,none⟩) hg (.slice A3 m3 c3)
    have hk4:=hk3.set 1 (.slice A3 m3 c3)
    have hp4:=hp3.store (i:=1) hk3 (noInt_two _ _ _ _ _ _) (.slice A3 m3 c3)
    have h04:=h03.store (i:=1) hk3 (noInt_two _ _ _ _ _ _) (.slice A3 m3 c3)
    have h14:=h13.store (i:=1) hk3 (noInt_two _ _ _ _ _ _) (.slice A3 m3 c3)
    have hn4:=hn3.store (i:=1) hk3 (noInt_two _ _ _ _ _ _) (.slice A3 m3 c3)
    have hs4:=hs3.store (i:=1) hk3 (noInt_two _ _ _ _ _ _) (.slice A3 m3 c3)
    have hsz:(w3.setCell ⟨g,1,none⟩ (.slice A3 m3 c3)).heap.size=w3.heap.size:=by simp [World.setCell]
    clear hp3 h03 h13 hn3 hB3 hk3 hs3
    go_upto_region 9 with (fail)
    generalize (w3.setCell ⟨g,1,none⟩ (.slice A3 m3 c3))=w4 at *
    rw [←hsz] at hp4 h04 h14 hn4 hs4
    go_wp2_with fail
    refine (times_any A As m c ms cs _ _ w4 hp4 hs4 (by have h:=hp4.len;have h2:=big_len (hbd k (by have:=HKK.out;omega)).2.2 hM;omega) (by have h:=hs4.len;omega)).mono ?_
    rintro e w5 ⟨A5,m5,c5,rfl,hn5,hb5⟩
    go_wp2_with fail
    refine (shiftedRight_any A5 m5 c5 _ bits w5 hn5 (by
     have h:=hn5.len
     have h2:=len_times (big_len (hbd k (by have:=HKK.out;omega)).2.2 hM) hsq
     omega) (by omega)).mono ?_
    rintro e w6 ⟨hb6',hb6⟩
    obtain ⟨A6,m6,c6,rfl,hn6,hb6⟩:=hb6.ret hb6'
    go_wp2_with fail
    refine (overWord_any A6 m6 c6 _ kp w6 hn6 (by
     have h:=hn6.len
     have h2:=len_times (big_len (hbd k (by have:=HKK.out;omega)).2.2 hM) hsq
     have h3:=digs_length_mono (Nat.div_le_self ((Cs.serAt sq bits k).2.2*sq) (2 ^ bits))
     omega) (by omega) (by omega)).mono ?_
    rintro e w7 ⟨m7,c7,rfl,hr7,hb7⟩
    have hq7:=hr7.nat
    have hbx:=(hb5.trans (hb6.mono hb5.size)).trans (hb7.mono (Nat.le_trans hb5.size hb6.size))
    go_wp2_with fail
    go_roundw
    case rel=>
     refine ⟨kk,_,m7,c7,A0,m0,c0,A3,m3,c3,by have:=HKK.out;omega,rfl,rfl,?_,?_,?_,hk4.below hbx hk4.lt,hs4.later hbx,hB4.trans (hbx.mono hB4.size)⟩
     ·rw [hst];exact hq7
     ·rw [hst];exact h04.later hbx
     ·rw [hst];exact hn4.later hbx
    case measure=>have:=HKK.out;simp [intOf]<;>omega
  ·obtain rfl:k=mm:=by omega
   go_wp2_with fail
   refine (isZero_val A m c (Cs.serAt sq bits k).2.2 _ hp).mono ?_
   rintro e w1 ⟨rfl,rfl⟩
   rw [decide_eq_true hZ.out]
   have x0:=hk.cell 0
   have x1:=hk.cell 1
   go_wp2_with fail
   refine (minus_any A0 A1 m0 c0 m1 c1 _ _ _ h0 h1 hLe.out (by have h:=h0.len;have h2:=big_len (hbd k (by omega)).1 hM;omega)).mono ?_
   rintro e w2 ⟨A2,m2,c2,rfl,hn2,hb2⟩
   go_wp2
   go_ret
   exact ⟨A2,m2,c2,rfl,by rw [hV.out];exact hn2,hB.trans (hb2.mono hB.size)⟩
set_option maxHeartbeats 2000000 in
set_option maxRecDepth 100000 in
theorem step_any (x s:Nat) (A:Option Addr) (n c:Nat) (w:World) (hT:Tabs w) (hx:NatS w w.heap.size A n c x) (hn:n≤536870912) (hs:s<18446744073709551616) :
  Calls Tryz.prog 162 #[.slice A n c,.int .u64 (s:Int)] w (RetItv w (lowQ false x s) (lowQ false (x+1) s)):=by
 have hb1:Below w.heap.size w (w.alloc (.cells #[.bool false,.slice none 0 0,.slice none 0 0,.bool false,.slice none 0 0,.slice none 0 0] 139)):=(Below.refl _ _).alloc (Nat.le_refl _) _
 have q0:CBlk (w.alloc (.cells #[.bool false,.slice none 0 0,.slice none 0 0,.bool false,.slice none 0 0,.slice none 0 0] 139)) w.heap.size #[.bool false,.slice none 0 0,.slice none 0 0,.bool false,.slice none 0 0,.slice none 0 0] 139:=CBlk.new w _ _ _ rfl
 have hx1:=hx.later ((Below.refl _ _).alloc (Nat.le_refl _) (.cells #[.bool false,.slice none 0 0,.slice none 0 0,.bool false,.slice none 0 0,.slice none 0 0] 139))
 have hT1:=hT.later hb1
 have hxl:=hx.len
 have hsl:(digs s).length≤1:=digs_length_le (by rw [B_def,Nat.pow_one];exact hs)
 clear hx
 go_enter Tryz.func162,Tryz.ntmps162
 go_upto_region 1 with (fail)
 generalize (w.alloc (.cells #[.bool false,.slice none 0 0,.slice none 0 0,.bool false,.slice none 0 0,.slice none 0 0] 139))=w1 at *
 go_wp2_with fail
 refine (naturalOf_any (s:Int) w1 (by omega) (by omega)).mono ?_
 rintro e w2 ⟨A2,m2,c2,rfl,hn2,hb2⟩
 rw [Int.toNat_natCast] at hn2
 have hB2:=hb1.trans (hb2.mono hb1.size)
 have q2:=q0.below hb2 q0.lt
 have hx2:=hx1.later hb2
 have hT2:=hT1.later hb2
 clear q0 hx1 hb1 hb2 hT1
 go_wp2_with fail
 refine (lowest_any false A A2 n c m2 c2 x s w2 hT2 hx2 hn2 (by omega) (by have:=hn2.len;omega)).mono ?_
 rintro e w3 ⟨v3,rfl,⟨A3,m3,c3,A4,m4,c4,rfl,h3,h4⟩,hb3⟩
 have hB3:=hB2.trans (hb3.mono hB2.size)
 have q3:=q2.below hb3 q2.lt
 have hx3:=hx2.later hb3
 have hT3:=hT2.later hb3
 have hn3:=hn2.later hb3
 clear q2 hx2 hB2 hb3 hT2 hn2
 go_wp2_with fail
 refine (naturalOf_any 1 w3 (by omega) (by omega)).mono ?_
 rintro e w5 ⟨A5,m5,c5,rfl,hn5,hb5⟩
 have hB5:=hB3.trans (hb5.mono hB3.size)
 have q5:=q3.below hb5 q3.lt
 have hx5:=hx3.later hb5
 have hT5:=hT3.later hb5
 have hs5:=hn3.later hb5
 have h35:=h3.later hb5
 have h45:=h4.later hb5
 clear q3 hx3 hB3 hb5 hT3 hn3 h3 h4
 go_wp2_with fail
 refine (plus_any A A5 n c m5 c5 x _ w5 hx5 hn5 (by omega) (by have h:=hn5.len;have h2:(digs (Int.toNat 1)).length≤1:=len_one;omega)).mono ?_
 rintro e w6 ⟨A6,m6,c6,rfl,hn6,hb6⟩
 have hB6:=hB5.trans (hb6.mono hB5.size)
 have q6:=q5.below hb6 q5.lt
 have hT6:=hT5.later hb6
 have hs6:=hs5.later hb6
 have h36:=h35.later hb6
 have h46:=h45.later hb6
 clear q5 hx5 hB5 hb6 hT5 hn5 hs5 h35 h45
 go_wp2_with fail
 refine (lowest_any false A6 A2 m6 c6 m2 c2 (x+Int.toNat 1) s w6 hT6 hn6 hs6 (by have h:=hn6.len;have h2:(digs (Int.toNat 1)).length≤1:=len_one;have h3:=len_plus (Nat.le_of_eq hxl) h2;omega) (by have:=hs6.len;omega)).mono ?_
 rintro e w7 ⟨v7,rfl,⟨A7,m7,c7,A8,m8,c8,rfl,h7,h8⟩,hb7⟩
 have hB7:=hB6.trans (hb7.mono hB6.size)
 have q7:=q6.below hb7 q6.lt
 have h37:=h36.later hb7
 have h47:=h46.later hb7
 clear q6 hB6 hb7 hT6 hn6 hs6 h36 h46 hxl hsl
 rw [show x+Int.toNat 1=x+1 from rfl] at h7 h8 ⊢
 obtain ⟨qa,hqa⟩:∃ qa,qa=lowQ false x s:=⟨_,rfl⟩
 obtain ⟨qb,hqb⟩:∃ qb,qb=lowQ false (x+1) s:=⟨_,rfl⟩
 rw [←hqa] at h37 h47
 rw [←hqb] at h7 h8
 try rw [←hqa]
 try rw [←hqb]
 have HQA:=Lib.hid hqa
 have HQB:=Lib.hid hqb
 clear hqa hqb
 have y0:=q7.cell 0
 have y1:=q7.cell 1
 have y2:=q7.cell 2
 have y3:=q7.cell 3
 have y4:=q7.cell 4
 have y5:=q7.cell 5
 have z0:=q7.frozen 0
 have z1:=q7.frozen 1
 have z2:=q7.frozen 2
 have z3:=q7.frozen 3
 have z4:=q7.frozen 4
 have z5:=q7.frozen 5
 have hI:=itv_end (p:=qa) (q:=qb) q7 hB7 (Nat.le_refl _) rfl h37 h47 h7 h8
 have hD:=q7.set6 (.bool qa.neg) (.slice A3 m3 c3) (.slice A4 m4 c4) (.bool qb.neg) (.slice A7 m7 c7) (.slice A8 m8 c8)
 unfold Go.Proofs.YteajibbphcfmeaaGreatDoor.set6 at hI hD
 have r0:=hD.cell 0
 have r1:=hD.cell 1
 have r2:=hD.cell 2
 have r3:=hD.cell 3
 have r4:=hD.cell 4
 have r5:=hD.cell 5
 have HI:=Lib.hid hI
 clear hI hD
 go_wp2
 refine bodyPost_ret (v := .agg #[.bool qa.neg,.slice A3 m3 c3,.slice A4 m4 c4,.bool qb.neg,.slice A7 m7 c7,.slice A8 m8 c8]) (by simp [results,Tryz.results162,go_sem,y0,y1,y2,y3,y4,y5]) rfl ⟨_,rfl,by obtain rfl:=HQA.out;obtain rfl:=HQB.out;exact HI.out⟩
set_option maxHeartbeats 1000000 in
set_option maxRecDepth 100000 in
theorem precision_zero (w:World) (hT:Tabs w):Calls Tryz.prog 195 #[.int .i64 0] w fun e w'=>e = .returned (.int .i64 48)∧w=w':=by
 have h0:=hT.prec.1
 clear hT
 go_enter Tryz.func195,Tryz.ntmps195
 go_wp2
 go_ret
 exact ⟨rfl,rfl⟩
set_option maxHeartbeats 2000000 in
set_option maxRecDepth 100000 in
theorem fraction_any (x y:Nat) (w:World) (hT:Tabs w) (hx:x<18446744073709551616) (hy:y<18446744073709551616) :
  Calls Tryz.prog 118 #[.int .u64 (x:Int),.int .u64 (y:Int)] w (RetRat w (lowQ false x y)):=by
 have hb1:Below w.heap.size w (w.alloc (.cells #[.bool false,.slice none 0 0,.slice none 0 0] 91)):=(Below.refl _ _).alloc (Nat.le_refl _) _
 have hlx:(digs x).length≤1:=digs_length_le (by rw [B_def,Nat.pow_one];exact hx)
 have hly:(digs y).length≤1:=digs_length_le (by rw [B_def,Nat.pow_one];exact hy)
 go_enter Tryz.func118,Tryz.ntmps118
 go_wp2_with fail
 refine (naturalOf_any (x:Int) _ (by omega) (by omega)).mono ?_
 rintro e w2 ⟨A2,m2,c2,rfl,hn2,hb2⟩
 rw [Int.toNat_natCast] at hn2
 go_wp2_with fail
 refine (naturalOf_any (y:Int) _ (by omega) (by omega)).mono ?_
 rintro e w3 ⟨A3,m3,c3,rfl,hn3,hb3⟩
 rw [Int.toNat_natCast] at hn3
 have hB3:Below w.heap.size w w3:=(hb1.trans (hb2.mono hb1.size)).trans (hb3.mono (Nat.le_trans hb1.size hb2.size))
 go_wp2_with fail
 refine (lowest_any false A2 A3 m2 c2 m3 c3 x y w3 (hT.later hB3) (hn2.later hb3) hn3 (by have:=hn2.len;omega) (by have:=hn3.len;omega)).mono ?_
 rintro e w4 ⟨v4,rfl,⟨A4,m4,c4,A5,m5,c5,rfl,h4,h5⟩,hb4⟩
 have hB4:=hB3.trans (hb4.mono hB3.size)
 have hk:=(((ResBlk.new w false (.slice none 0 0) (.slice none 0 0)).below hb2 (by simp)).below hb3 (by have:=hb2.size;simp at this;omega)).below hb4 (by have:=hB3.size;have:=hb2.size;have:=hb3.size;simp at *; omega)
 obtain ⟨k0,k1,k2,f0,f1,f2,_⟩:=hk.cells
 generalize lowQ false x y=q at *
 have hset:=three_set hB4 (g:=w.heap.size) (Nat.le_refl _) (.bool q.neg) (.slice A4 m4 c4) (.slice A5 m5 c5)
 go_wp2
 refine bodyPost_ret (v := .agg #[.bool q.neg,.slice A4 m4 c4,.slice A5 m5 c5]) (by simp [results,Tryz.results118,go_sem,k0,k1,k2]) rfl ⟨_,rfl,⟨A4,m4,c4,A5,m5,c5,rfl,?_,?_⟩,hset⟩
 ·rw [size_set3];exact h4.res hk _ _ _
 ·rw [size_set3];exact h5.res hk _ _ _
end Go.Proofs.YteajibbphcfmeaaGreatDoor
