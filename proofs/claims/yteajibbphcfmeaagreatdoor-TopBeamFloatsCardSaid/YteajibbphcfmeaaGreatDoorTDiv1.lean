/- bits.Div64's contract. -/
import Derived.Test.YteajibbphcfmeaaGreatDoorTNat5
import Derived.Test.YteajibbphcfmeaaGreatDoorTRow
namespace Go.Proofs.YteajibbphcfmeaaGreatDoor
open Go.RowKit Bn
set_option maxHeartbeats 1000000 in
set_option maxRecDepth 100000 in
theorem div64_small (lo y:Nat) (w:World) (hlo:lo<18446744073709551616) (hy:y<18446744073709551616) (hy0:0<y) :
  Calls Tryz.prog 201 #[.int .u64 0,.int .u64 lo,.int .u64 y] w fun e w'=>e = .returned (.tuple #[.int .u64 ((lo / y:Nat):Int),.int .u64 ((lo % y:Nat):Int)])∧∃ q,w'=w.drewN q:=by
 have h1:(((y:Nat):Int)==0)=false:=by rw [beq_eq_false_iff_ne];omega
 have h2:¬ ((y:Int)≤0):=by omega
 have h3:(1:Int)≤y:=by omega
 have hq:IntKind.u64.wrap ((lo:Int) / (y:Int))=((lo / y:Nat):Int):=by
  rw [←Int.natCast_ediv,IntKind.wrap_u64]
  have:=Nat.div_le_self lo y
  generalize lo / y=d at *
  omega
 go_enter Tryz.func201,Tryz.ntmps201
 go_wp2
 go_quiet (fail)
 go_wp2
 go_ret2
 exact ⟨rfl,_,rfl⟩
theorem wrap_nat (n:Nat) (h:n<18446744073709551616):IntKind.u64.wrap (n:Int)=(n:Int):=by rw [IntKind.wrap_u64];omega
theorem wrap_mod (n:Nat):IntKind.u64.wrap (n:Int)=((n % 18446744073709551616:Nat):Int):=by rw [IntKind.wrap_u64];omega
theorem and_mask (Y:Nat) (h:Y<18446744073709551616):bits BinOp.and IntKind.u64 (Y:Int) 4294967295=((Y % 4294967296:Nat):Int):=by
 have:=bits_and_u64_nat Y 4294967295 h (by omega)
 rw [show ((4294967295:Nat):Int)=4294967295 from rfl] at this
 rw [this]
 congr 1
 exact Nat.and_two_pow_sub_one_eq_mod Y 32
set_option maxHeartbeats 4000000 in
set_option maxRecDepth 100000 in
theorem div64_big (hi lo y:Nat) (w:World) (hhi:0<hi) (hhy:hi<y) (hlo:lo<18446744073709551616) (hy:y<18446744073709551616) :
  Calls Tryz.prog 201 #[.int .u64 hi,.int .u64 lo,.int .u64 y] w fun e w'=>e = .returned (.tuple #[.int .u64 (((hi*18446744073709551616+lo) / y:Nat):Int),.int .u64 (((hi*18446744073709551616+lo) % y:Nat):Int)])∧w'=w:=by
 have h1:(((y:Nat):Int)==0)=false:=by rw [beq_eq_false_iff_ne];omega
 have h1':(((hi:Nat):Int)==0)=false:=by rw [beq_eq_false_iff_ne];omega
 have h2:¬ ((y:Int)≤hi):=by omega
 obtain ⟨b1,b2,b3⟩:=Lib.bitLenAux_bounds 64 y (by simpa using hy) (by omega)
 have b4:=Lib.bitLen_le y 64 (Nat.le_refl _) (by simpa using hy)
 have hl:=Tryz.bits_LeadingZeros64 (y:Int) w (by omega) (by omega)
 rw [Int.toNat_natCast] at hl
 have eb:Lib.bitLen y=Lib.bitLenAux 64 y:=rfl
 rw [←eb] at b1 b2 b3
 generalize Lib.bitLen y=b at *
 obtain ⟨s,hs⟩:∃ s,s=64 - b:=⟨_,rfl⟩
 have es:(64 - (b:Int))=(s:Int):=by omega
 rw [es] at hl
 have hs63:s≤63:=by omega
 obtain ⟨Y,hY⟩:∃ Y,Y=y*2 ^ s:=⟨_,rfl⟩
 have hYlt:Y<18446744073709551616:=by
  have h:=(Nat.mul_lt_mul_right (Nat.two_pow_pos s)).2 b3
  rw [←Nat.pow_add,show b+s=64 from by omega] at h
  rw [hY];exact h
 have hYge:9223372036854775808≤Y:=by
  have h:=Nat.mul_le_mul_right (2 ^ s) b2
  rw [←Nat.pow_add,show b - 1+s=63 from by omega] at h
  rw [hY];exact h
 have eY:IntKind.u64.wrap ((y:Int)*2 ^ s)=(Y:Int):=by
  have:(y:Int)*2 ^ s=(Y:Int):=by rw [hY,Int.natCast_mul,Int.natCast_pow];rfl
  rw [this,wrap_nat Y hYlt]
 obtain ⟨n1,n2,n3,n4⟩:=norm_words hi lo y s hs63 hlo hhy (by rw [←hY];exact hYlt)
 rw [←hY] at n2
 obtain ⟨hs',hhs⟩:∃ v,v=hi*2 ^ s:=⟨_,rfl⟩
 obtain ⟨ls',hls⟩:∃ v,v=lo / 2 ^ (64 - s):=⟨_,rfl⟩
 obtain ⟨u10,hu10⟩:∃ v,v=lo*2 ^ s % B:=⟨_,rfl⟩
 rw [←hhs,←hls] at n2 n4
 rw [←hls] at n3
 rw [←hu10] at n4
 have hu10lt:u10<18446744073709551616:=by rw [hu10];exact Nat.mod_lt _ B_pos
 have e46:IntKind.u64.wrap ((hi:Int)*2 ^ s)=(hs':Int):=by
  have:(hi:Int)*2 ^ s=(hs':Int):=by rw [hhs,Int.natCast_mul,Int.natCast_pow];rfl
  rw [this,wrap_nat hs' (by omega)]
 have e50:(lo:Int) / 2 ^ (64 - s)=(ls':Int):=by rw [hls,shr_val]
 have e51:bits BinOp.or IntKind.u64 (hs':Int) (ls':Int)=((hs'+ls':Nat):Int):=by
  rw [bits_or_u64_nat hs' ls' (by omega) (by omega),hhs,Nat.mul_comm,←Nat.two_pow_add_eq_or_of_lt n3]
 have e54:IntKind.u64.wrap ((lo:Int)*2 ^ s)=(u10:Int):=by
  have:(lo:Int)*2 ^ s=((lo*2 ^ s:Nat):Int):=by rw [Int.natCast_mul,Int.natCast_pow];rfl
  rw [this,wrap_mod,hu10]
  rfl
 obtain ⟨u32,hu32⟩:∃ v,v=hs'+ls':=⟨_,rfl⟩
 rw [←hu32] at e51 n2 n4
 obtain ⟨y1,hy1⟩:∃ v,v=Y / 4294967296:=⟨_,rfl⟩
 obtain ⟨y0,hy0⟩:∃ v,v=Y % 4294967296:=⟨_,rfl⟩
 obtain ⟨u1,hu1⟩:∃ v,v=u10 / 4294967296:=⟨_,rfl⟩
 obtain ⟨u0,hu0⟩:∃ v,v=u10 % 4294967296:=⟨_,rfl⟩
 have e9:(Y:Int) / 4294967296=(y1:Int):=by omega
 have e10:=and_mask Y hYlt
 rw [←hy0] at e10
 have e56:(u10:Int) / 4294967296=(u1:Int):=by omega
 have e58:=and_mask u10 hu10lt
 rw [←hu0] at e58
 have HY:Hid (Y=y1*4294967296+y0):=by unfold Hid;omega
 have HU:Hid (u10=u1*4294967296+u0):=by unfold Hid;omega
 have HYs:=Lib.hid hY
 have HN:=Lib.hid n4
 have hy1lt:y1<4294967296:=by omega
 have hy1ge:2147483648≤y1:=by omega
 have hy0lt:y0<4294967296:=by omega
 have hu1lt:u1<4294967296:=by omega
 have hu0lt:u0<4294967296:=by omega
 have hu32lt:u32<18446744073709551616:=by omega
 obtain ⟨q,hq⟩:∃ v,v=u32 / y1:=⟨_,rfl⟩
 obtain ⟨r,hr⟩:∃ v,v=u32 % y1:=⟨_,rfl⟩
 have hqr:u32=q*y1+r:=by rw [hq,hr,Nat.mul_comm];exact (Nat.div_add_mod _ _).symm
 have hrlt:r<y1:=by rw [hr];exact Nat.mod_lt _ (by omega)
 have hqlt:q≤u32:=by rw [hq];exact Nat.div_le_self _ _
 have e61:IntKind.u64.wrap ((u32:Int) / (y1:Int))=(q:Int):=by rw [←Int.natCast_ediv,←hq,wrap_nat q (by omega)]
 obtain ⟨m,hm⟩:∃ v,v=q*y1:=⟨_,rfl⟩
 have e65:IntKind.u64.wrap ((q:Int)*(y1:Int))=(m:Int):=by rw [←Int.natCast_mul,←hm,wrap_nat m (by omega)]
 have e66:(u32:Int) - (m:Int)=(r:Int):=by omega
 have HT:Hid ((u32*4294967296+u1) / Y≤q):=by rw [hq];exact half_init hu1lt HY.out (by omega)
 have HQR:=Lib.hid hqr
 clear hs b1 b2 b3 b4 eb es hY n1 n3 n4 hhs hls hu10 hu32 hy1 hy0 hu1 hu0 hq hr hqr hm
 go_enter Tryz.func201,Tryz.ntmps201
 go_wp2_with fail
 refine hl.mono ?_
 rintro e w1 ⟨rfl,rfl⟩
 go_upto_block 0 with (fail)
 obtain ⟨t1,ht1⟩:∃ v,v=(u32*4294967296+u1) / Y:=⟨_,rfl⟩
 have HT1:=Lib.hid ht1
 clear ht1
 go_cut [15,16] from 67 to 85 (fun a _ wc=>a = .int .u64 (t1:Int)∧wc=w1)
 case first=>
  go_wp2_with fail
  go_loop [15,16] (fun a b=>∃ q r:Nat,a = .int .u64 (q:Int)∧b = .int .u64 (r:Int)∧q<18446744073709551616∧r<4294967296∧Hid (u32=q*y1+r)∧Hid ((u32*4294967296+u1) / Y≤q)) (fun a _=>(intOf a).toNat)
  case atStart=>exact ⟨q,r,rfl,rfl,by omega,by omega,HQR,HT⟩
  case round=>
   clear HQR HT hqlt hrlt e61 e65 e66 e51 e54 e56 e58 e46 e50
   obtain ⟨q,r,rfl,rfl,hq,hr,HQR,HT⟩:=hrel
   by_cases hc:4294967296≤q∨4294967296*r+u1<q*y0
   ·obtain ⟨hq1,hT'⟩:=half_step hu1lt n2 HY.out HQR.out hc
    have HD:=Lib.hid (half_dec HQR.out hq1)
    have HT':=Lib.hid hT'
    clear hT'
    have hval:Value.int .u64 ((q:Int) - 1)=Value.int .u64 ((q - 1:Nat):Int):=by congr 1;omega
    have HVAL:=Lib.hid hval
    clear hval
    have hbr:4294967296≤r+y1→Hid (q - 1=t1):=fun h=>by
     rw [Hid,HT1.out]
     exact half_break n2 HY.out hy0lt HD.out HT'.out h
    by_cases hq2:4294967296≤q
    ·clear hc
     have hq3:(4294967296:Int)≤(q:Int):=by omega
     have HQ2:=Lib.hid hq2
     clear hq2
     by_cases hr2:4294967296≤r+y1
     ·have HB:=hbr hr2
      clear hbr
      have hr3:(4294967296:Int)≤(r:Int)+(y1:Int):=by omega
      have HR2:=Lib.hid hr2
      clear hr2
      go_wp2_with fail
      go_meet
      exact ⟨by rw [HVAL.out,HB.out],rfl⟩
     ·clear hbr
      have hr3:decide ((4294967296:Int)≤(r:Int)+(y1:Int))=false:=by rw [decide_eq_false_iff_not];omega
      have HR2:=Lib.hid hr2
      clear hr2
      go_wp2_with fail
      have hr4:=HR2.out
      go_round
      case rel=>exact ⟨q - 1,r+y1,HVAL.out,by go_num,by omega,by omega,HD,HT'⟩
      case measure=>simp [intOf]<;>omega
    ·obtain ⟨m,hm⟩:∃ v,v=q*y0:=⟨_,rfl⟩
     have hmlt:m<18446744073709551616:=by
      rw [hm]
      exact Nat.lt_of_le_of_lt (Nat.mul_le_mul (show q≤4294967295 by omega) (show y0≤4294967295 by omega)) (by decide)
     have e72:IntKind.u64.wrap ((q:Int)*(y0:Int))=(m:Int):=by rw [←Int.natCast_mul,←hm,wrap_nat m hmlt]
     have hc':(4294967296:Int)*(r:Int)+(u1:Int)<(m:Int):=by
      have:4294967296*r+u1<m:=by rw [hm];omega
      omega
     have hq3:(q:Int)<4294967296:=by omega
     clear hc hm hq2
     by_cases hr2:4294967296≤r+y1
     ·have HB:=hbr hr2
      clear hbr
      have hr3:(4294967296:Int)≤(r:Int)+(y1:Int):=by omega
      have HR2:=Lib.hid hr2
      clear hr2
      go_wp2_with fail
      go_meet
      exact ⟨by rw [HVAL.out,HB.out],rfl⟩
     ·clear hbr
      have hr3:decide ((4294967296:Int)≤(r:Int)+(y1:Int))=false:=by rw [decide_eq_false_iff_not];omega
      have HR2:=Lib.hid hr2
      clear hr2
      go_wp2_with fail
      have hr4:=HR2.out
      go_round
      case rel=>exact ⟨q - 1,r+y1,HVAL.out,by go_num,by omega,by omega,HD,HT'⟩
      case measure=>simp [intOf]<;>omega
   ·have hq2:q<4294967296:=by omega
    obtain ⟨m,hm⟩:∃ v,v=q*y0:=⟨_,rfl⟩
    have hmlt:m<18446744073709551616:=by
     rw [hm]
     exact Nat.lt_of_le_of_lt (Nat.mul_le_mul (show q≤4294967295 by omega) (show y0≤4294967295 by omega)) (by decide)
    have e72:IntKind.u64.wrap ((q:Int)*(y0:Int))=(m:Int):=by rw [←Int.natCast_mul,←hm,wrap_nat m hmlt]
    have hc':m≤4294967296*r+u1:=by rw [hm];omega
    have HB:Hid (q=t1):=by
     rw [Hid,HT1.out]
     exact half_stop HY.out HQR.out (by omega) HT.out (by rw [←hm];exact hc')
    have hc3:decide ((4294967296:Int)*(r:Int)+(u1:Int)<(m:Int))=false:=by rw [decide_eq_false_iff_not];omega
    have hq3:decide ((4294967296:Int)≤(q:Int))=false:=by rw [decide_eq_false_iff_not];omega
    clear hc hm hc' hq2
    go_wp2_with fail
    go_meet
    exact ⟨by rw [HB.out],rfl⟩
 case rest=>
  obtain ⟨rfl,rfl⟩:=hcut
  clear HT hqlt hrlt e61 e65 e66 e51 e54 e56 e58 e46 e50 e9 e10
  obtain ⟨U,hU⟩:∃ v,v=(u32*4294967296+u1) % Y:=⟨_,rfl⟩
  have hUY:U<Y:=by rw [hU];exact Nat.mod_lt _ (by omega)
  have e93:IntKind.u64.wrap (IntKind.u64.wrap (IntKind.u64.wrap ((u32:Int)*4294967296)+(u1:Int)) - IntKind.u64.wrap ((t1:Int)*(Y:Int)))=(U:Int):=by
   have h:=Nat.div_add_mod (u32*4294967296+u1) Y
   rw [←HT1.out,←hU,Nat.mul_comm] at h
   rw [←Int.natCast_mul]
   generalize t1*Y=M at *
   simp only [IntKind.wrap_u64]
   omega
  obtain ⟨q0,hq0⟩:∃ v,v=U / y1:=⟨_,rfl⟩
  obtain ⟨r0,hr0⟩:∃ v,v=U % y1:=⟨_,rfl⟩
  have hqr0:U=q0*y1+r0:=by rw [hq0,hr0,Nat.mul_comm];exact (Nat.div_add_mod _ _).symm
  have hr0lt:r0<y1:=by rw [hr0];exact Nat.mod_lt _ (by omega)
  have hq0lt:q0≤U:=by rw [hq0];exact Nat.div_le_self _ _
  have e96:IntKind.u64.wrap ((U:Int) / (y1:Int))=(q0:Int):=by rw [←Int.natCast_ediv,←hq0,wrap_nat q0 (by omega)]
  obtain ⟨m0,hm0⟩:∃ v,v=q0*y1:=⟨_,rfl⟩
  have e100:IntKind.u64.wrap ((q0:Int)*(y1:Int))=(m0:Int):=by rw [←Int.natCast_mul,←hm0,wrap_nat m0 (by omega)]
  have e101:(U:Int) - (m0:Int)=(r0:Int):=by omega
  have HT2:Hid ((U*4294967296+u0) / Y≤q0):=by rw [hq0];exact half_init hu0lt HY.out (by omega)
  have HQ0:=Lib.hid hqr0
  have HU2:=Lib.hid hU
  clear hU hq0 hr0 hqr0 hm0
  obtain ⟨t0,ht0⟩:∃ v,v=(U*4294967296+u0) / Y:=⟨_,rfl⟩
  have HT0:=Lib.hid ht0
  clear ht0
  go_upto_block 2 with (fail)
  go_cut [18,16] from 102 to 120 (fun a _ wd=>a = .int .u64 (t0:Int)∧wd=wc)
  case first=>
   go_wp2_with fail
   go_loop [18,16] (fun a b=>∃ q r:Nat,a = .int .u64 (q:Int)∧b = .int .u64 (r:Int)∧q<18446744073709551616∧r<4294967296∧Hid (U=q*y1+r)∧Hid ((U*4294967296+u0) / Y≤q)) (fun a _=>(intOf a).toNat)
   case atStart=>exact ⟨q0,r0,rfl,rfl,by omega,by omega,HQ0,HT2⟩
   case round=>
    clear HQR HQ0 HT2 hq0lt hr0lt e96 e100 e101
    obtain ⟨q,r,rfl,rfl,hq,hr,HQR,HT⟩:=hrel
    by_cases hc:4294967296≤q∨4294967296*r+u0<q*y0
    ·obtain ⟨hq1,hT'⟩:=half_step hu0lt hUY HY.out HQR.out hc
     have HD:=Lib.hid (half_dec HQR.out hq1)
     have HT':=Lib.hid hT'
     clear hT'
     have hval:Value.int .u64 ((q:Int) - 1)=Value.int .u64 ((q - 1:Nat):Int):=by congr 1;omega
     have HVAL:=Lib.hid hval
     clear hval
     have hbr:4294967296≤r+y1→Hid (q - 1=t0):=fun h=>by
      rw [Hid,HT0.out]
      exact half_break hUY HY.out hy0lt HD.out HT'.out h
     by_cases hq2:4294967296≤q
     ·clear hc
      have hq3:(4294967296:Int)≤(q:Int):=by omega
      have HQ2:=Lib.hid hq2
      clear hq2
      by_cases hr2:4294967296≤r+y1
      ·have HB:=hbr hr2
       clear hbr
       have hr3:(4294967296:Int)≤(r:Int)+(y1:Int):=by omega
       have HR2:=Lib.hid hr2
       clear hr2
       go_wp2_with fail
       go_meet
       exact ⟨by rw [HVAL.out,HB.out],rfl⟩
      ·clear hbr
       have hr3:decide ((4294967296:Int)≤(r:Int)+(y1:Int))=false:=by rw [decide_eq_false_iff_not];omega
       have HR2:=Lib.hid hr2
       clear hr2
       go_wp2_with fail
       have hr4:=HR2.out
       go_round
       case rel=>exact ⟨q - 1,r+y1,HVAL.out,by go_num,by omega,by omega,HD,HT'⟩
       case measure=>simp [intOf]<;>omega
     ·obtain ⟨m,hm⟩:∃ v,v=q*y0:=⟨_,rfl⟩
      have hmlt:m<18446744073709551616:=by
       rw [hm]
       exact Nat.lt_of_le_of_lt (Nat.mul_le_mul (show q≤4294967295 by omega) (show y0≤4294967295 by omega)) (by decide)
      have e72:IntKind.u64.wrap ((q:Int)*(y0:Int))=(m:Int):=by rw [←Int.natCast_mul,←hm,wrap_nat m hmlt]
      have hc':(4294967296:Int)*(r:Int)+(u0:Int)<(m:Int):=by
       have:4294967296*r+u0<m:=by rw [hm];omega
       omega
      have hq3:(q:Int)<4294967296:=by omega
      clear hc hm hq2
      by_cases hr2:4294967296≤r+y1
      ·have HB:=hbr hr2
       clear hbr
       have hr3:(4294967296:Int)≤(r:Int)+(y1:Int):=by omega
       have HR2:=Lib.hid hr2
       clear hr2
       go_wp2_with fail
       go_meet
       exact ⟨by rw [HVAL.out,HB.out],rfl⟩
      ·clear hbr
       have hr3:decide ((4294967296:Int)≤(r:Int)+(y1:Int))=false:=by rw [decide_eq_false_iff_not];omega
       have HR2:=Lib.hid hr2
       clear hr2
       go_wp2_with fail
       have hr4:=HR2.out
       go_round
       case rel=>exact ⟨q - 1,r+y1,HVAL.out,by go_num,by omega,by omega,HD,HT'⟩
       case measure=>simp [intOf]<;>omega
    ·have hq2:q<4294967296:=by omega
     obtain ⟨m,hm⟩:∃ v,v=q*y0:=⟨_,rfl⟩
     have hmlt:m<18446744073709551616:=by
      rw [hm]
      exact Nat.lt_of_le_of_lt (Nat.mul_le_mul (show q≤4294967295 by omega) (show y0≤4294967295 by omega)) (by decide)
     have e72:IntKind.u64.wrap ((q:Int)*(y0:Int))=(m:Int):=by rw [←Int.natCast_mul,←hm,wrap_nat m hmlt]
     have hc':m≤4294967296*r+u0:=by rw [hm];omega
     have HB:Hid (q=t0):=by
      rw [Hid,HT0.out]
      exact half_stop HY.out HQR.out (by omega) HT.out (by rw [←hm];exact hc')
     have hc3:decide ((4294967296:Int)*(r:Int)+(u0:Int)<(m:Int))=false:=by rw [decide_eq_false_iff_not];omega
     have hq3:decide ((4294967296:Int)≤(q:Int))=false:=by rw [decide_eq_false_iff_not];omega
     clear hc hm hc' hq2
     go_wp2_with fail
     go_meet
     exact ⟨by rw [HB.out],rfl⟩
  case rest=>
   obtain ⟨rfl,rfl⟩:=hcut
   clear hq0lt hr0lt e96 e100 e101 e93
   have hs0:u0<4294967296:=hu0lt
   obtain ⟨R,hR⟩:∃ v,v=(U*4294967296+u0) % Y:=⟨_,rfl⟩
   have hRY:R<Y:=by rw [hR];exact Nat.mod_lt _ (by omega)
   obtain ⟨f1,f2⟩:=div_two 18446744073709551616 4294967296 hi lo y s Y u32 u10 u1 u0 t1 t0 U rfl HYs.out (by omega) HN.out HU.out HT1.out HU2.out HT0.out
   have ht1lt:t1<4294967296:=by rw [HT1.out];exact half_lt hu1lt n2
   have ht0lt:t0<4294967296:=by rw [HT0.out];exact half_lt hu0lt hUY
   have e124:IntKind.u64.wrap (IntKind.u64.wrap ((t1:Int)*4294967296)+(t0:Int))=((t1*4294967296+t0:Nat):Int):=by
    simp only [IntKind.wrap_u64]
    omega
   have e132:IntKind.u64.wrap (IntKind.u64.wrap (IntKind.u64.wrap ((U:Int)*4294967296)+(u0:Int)) - IntKind.u64.wrap ((t0:Int)*(Y:Int)))=(R:Int):=by
    have h:=Nat.div_add_mod (U*4294967296+u0) Y
    rw [←HT0.out,←hR,Nat.mul_comm] at h
    rw [←Int.natCast_mul]
    generalize t0*Y=M at *
    simp only [IntKind.wrap_u64]
    omega
   rw [←hR] at f2
   have F1:=Lib.hid f1
   have F2:=Lib.hid f2
   clear f1 f2 hR
   go_wp2
   go_ret2
   refine ⟨?_,rfl⟩
   show Ending.returned (Value.tuple #[Value.int .u64 ((t1:Int)*4294967296+(t0:Int)),Value.int .u64 ((R:Int) / 2 ^ s)])=_
   have e:(t1:Int)*4294967296+(t0:Int)=((t1*4294967296+t0:Nat):Int):=by omega
   rw [e,F1.out,shr_val,F2.out]
theorem div64_any (hi lo y:Nat) (w:World) (hhy:hi<y) (hlo:lo<18446744073709551616) (hy:y<18446744073709551616) :
  ∃ q r:Nat,hi*18446744073709551616+lo=q*y+r∧r<y∧q<18446744073709551616 ∧
   Calls Tryz.prog 201 #[.int .u64 hi,.int .u64 lo,.int .u64 y] w fun e w'=>e = .returned (.tuple #[.int .u64 (q:Int),.int .u64 (r:Int)])∧∃ k,w'=w.drewN k:=by
 refine ⟨(hi*18446744073709551616+lo) / y,(hi*18446744073709551616+lo) % y,?_,Nat.mod_lt _ (by omega),half_lt hlo hhy,?_⟩
 ·exact (Nat.div_add_mod' _ _).symm
 ·rcases Nat.eq_zero_or_pos hi with rfl | h
  ·rw [Nat.zero_mul,Nat.zero_add]
   exact div64_small lo y w hlo hy (by omega)
  ·exact (div64_big hi lo y w h hhy hlo hy).mono fun e w' ⟨he,hw⟩=>⟨he,0,hw⟩
def PlusInv (w wr:World) (g n:Nat) (la lb:List Nat) (k c0:Nat):Prop:=
 ∃ ls,RowAt wr w.heap.size g (n+1) (n+1) ls∧Wf ls∧val (ls.take k)+B ^ k*c0=val (la.take k)+val (lb.take k)∧Below w.heap.size w wr
set_option maxHeartbeats 2000000 in
set_option maxRecDepth 100000 in
theorem plus_any (A A':Option Addr) (n c n' c' x y:Nat) (w:World) (ha:NatS w w.heap.size A n c x) (hb:NatS w w.heap.size A' n' c' y) (hn:n≤1099511627776) (hn':n'≤1099511627776) :
  Calls Tryz.prog 128 #[.slice A n c,.slice A' n' c'] w (RetNat w (x+y)):=by
 obtain ⟨i0,hi0,hz0,hz1,hz2⟩:=info_parts info_u64
 go_enter Tryz.func128,Tryz.ntmps128
 go_upto_if 14 with (fail)
 go_cut [0,1] (fun s s' wc=>∃ A n c A' n' c' u v,s = .slice A n c∧s' = .slice A' n' c'∧NatS w w.heap.size A n c u∧NatS w w.heap.size A' n' c' v∧n'≤n∧n≤1099511627776∧u+v=x+y∧wc=w)
 case first=>
  by_cases hlt:n<n'
  ·have hd:decide (n<n')=true:=by simpa using hlt
   go_wp2_with fail
   go_meet
   exact ⟨A',n',c',A,n,c,y,x,rfl,rfl,hb,ha,by omega,hn',by omega,rfl⟩
  ·have hd:decide (n<n')=false:=by simpa using hlt
   go_wp2_with fail
   go_meet
   exact ⟨A,n,c,A',n',c',x,y,rfl,rfl,ha,hb,by omega,hn,by omega,rfl⟩
 case rest=>
  clear ha hb hn hn'
  obtain ⟨A,n,c,A',n',c',u,v,rfl,rfl,ha,hb,hle,hn,hxy,rfl⟩:=hcut
  have hla:=ha.len
  have hlb:=hb.len
  have hA:=Lib.hid hla
  have hB:=Lib.hid hlb
  have HXY:=Lib.hid hxy
  clear hla hlb hxy
  have h1:=ha.nc
  have h2:=ha.cm
  have h3:=hb.nc
  have h4:=hb.cm
  unfold maxLen at h2 h4
  go_wp2_with (at_make;refine wpList_make_full _ rfl _ _ 89 rfl wc.heap.size 120 i0 (.int .u64 0) 1 Tryz.underlying89 hi0 hz0 hz1 _ _ _ _ (n+1) rfl rfl (by omega) (by omega) ?b2 ?b3 (Nat.le_refl _) ?_)
  case b2=>rw [hz2];omega
  case b3=>unfold maxLen;omega
  intro w0 hown0 hgrow0
  have hrow0:=RowAt.made hown0
  have hbel0:Below wc.heap.size wc w0:=(Below.refl _ _).grown hgrow0 (Nat.le_refl _) (fun k h=>by cases h)
  clear hown0
  go_wp2
  clear hgrow0
  go_loopw [6,23] (fun cy s wr=>∃ k c0:Nat,k≤n∧c0≤1∧s = .int .i64 k∧cy = .int .u64 c0∧PlusInv wc wr wc.heap.size n (digs u) (digs v) k c0) (fun _ s _=>n - (intOf s).toNat)
  case atStart=>exact ⟨0,0,by omega,by omega,rfl,rfl,_,hrow0,Wf.replicate _,by simp,hbel0⟩
  case round=>
   obtain ⟨k,c0,hk,hc0,rfl,rfl,ls,hrow,hwf,hval,hbel⟩:=hrel
   have HV:=Lib.hid hval
   clear hval
   by_cases hkn:k<n
   ·obtain ⟨ad,rfl,hba,hca⟩:=(ha.below hbel).words.word (k:=k) hkn
    have hls:k<ls.length:=by rw [hrow.len];omega
    have hcs:=hrow.cell k (by omega)
    have hfs:=hrow.free k
    have hxB:=getD_lt (wf_digs u) k
    have hyB:=getD_lt (wf_digs v) k
    obtain ⟨xk,hgx⟩:∃ xk,(digs u).getD k 0=xk:=⟨_,rfl⟩
    obtain ⟨yk,hgy⟩:∃ yk,(digs v).getD k 0=yk:=⟨_,rfl⟩
    rw [hgx] at hca hxB
    rw [hgy] at hyB
    generalize ls.getD k 0=old at hcs
    obtain ⟨s,d,hsd,hsB,hd1,hrun⟩:=call_add64 xk yk c0 hxB hyB hc0
    have HP:Hid (val ((ls.set k s).take (k+1))+B ^ (k+1)*d=val ((digs u).take (k+1))+val ((digs v).take (k+1))):=
     plus_round ls _ _ k hls s c0 d HV.out (by rw [hgx,hgy];exact hsd)
    by_cases hkn':k<n'
    ·obtain ⟨ad',rfl,hbb,hcb⟩:=(hb.below hbel).words.word (k:=k) hkn'
     rw [hgy] at hcb
     clear hsd hgx hgy
     go_wp2
     go_roundw
     case rel=>exact ⟨k+1,d,by omega,hd1,by go_num,rfl,_,hrow.set k s,hwf.set k hsB,HP.out,hbel.setCell (Nat.le_refl _) _⟩
     case measure=>simp [intOf]<;>omega
    ·have hy0:yk=0:=by rw [←hgy];exact getD_out (by rw [hB.out];omega)
     subst hy0
     replace hrun:∀ w:World,(callFunc 176 #[.int .u64 xk,.int .u64 0,.int .u64 c0]).run Tryz.prog w = .ok (.value (.tuple #[.int .u64 s,.int .u64 d])) w:=hrun
     clear hsd hgx hgy
     go_wp2
     go_roundw
     case rel=>exact ⟨k+1,d,by omega,hd1,by go_num,rfl,_,hrow.set k s,hwf.set k hsB,HP.out,hbel.setCell (Nat.le_refl _) _⟩
     case measure=>simp [intOf]<;>omega
   ·obtain rfl:k=n:=by omega
    have hls:k<ls.length:=by rw [hrow.len];omega
    have hcs:=hrow.cell k (by omega)
    have hfs:=hrow.free k
    generalize ls.getD k 0=old at hcs
    have hrow':=hrow.set k c0
    have hval':val (ls.set k c0)=x+y:=by
     have h5:=val_take_set ls k c0 hls
     rw [List.take_of_length_le (by simp [hrow.len]),HV.out,List.take_of_length_le (by rw [hA.out];exact Nat.le_refl _),List.take_of_length_le (by rw [hB.out];exact hle),val_digs,val_digs] at h5
     rw [h5,HXY.out]
    have hbel':Below wc.heap.size wc (wr.setCell ⟨wc.heap.size,k,none⟩ (.int .u64 c0)):=hbel.setCell (Nat.le_refl _) _
    have ht:=trimmed_nat (some ⟨wc.heap.size,0,none⟩) (k+1) (k+1) (ls.set k c0) _ hrow'.words (hwf.set k (by unfold B;omega)) (Nat.le_refl _) (by unfold maxLen;omega)
    rw [hval'] at ht
    have HT:=Lib.hid ht
    clear ht hval'
    go_wp2_with fail
    refine HT.out.mono ?_
    rintro e w1 ⟨m,rfl,hn1,rfl⟩
    go_wp2
    go_ret
    exact ⟨_,m,_,rfl,hn1,hbel'⟩
def SubInv (w wr:World) (base g nt ct:Nat) (lt la lb:List Nat) (same:Prop) (k b0:Nat):Prop:=
 ∃ ls,RowAt wr base g nt ct ls∧Wf ls∧val (ls.take k)+val (lb.take k)=val (la.take k)+B ^ k*b0∧(same→∀ j,k≤j→ls.getD j 0=lt.getD j 0)∧w.grownBy wr (some g)
set_option maxHeartbeats 2000000 in
set_option maxRecDepth 100000 in
theorem subtract_any (A A':Option Addr) (base g nt ct n c n' c' x y:Nat) (lt:List Nat) (w:World) (same:Prop) (ht:RowAt w base g nt ct lt) (hlt:Wf lt) (ha:NatS w w.heap.size A n c x)
  (hb:NatS w w.heap.size A' n' c' y) (hAs:((0<n→Off A g)∧¬ same)∨(A=some ⟨g,0,none⟩∧lt=digs x∧same)) (hob:0<n'→Off A' g) (hnt:n≤nt) (hyx:y≤x) (hn:n≤1099511627776) :
  Calls Tryz.prog 174 #[.slice (some ⟨g,0,none⟩) nt ct,.slice A n c,.slice A' n' c'] w fun e w'=>∃ m,e = .returned (.slice (some ⟨g,0,none⟩) m ct)∧RowAt w' base g m ct (digs (x - y))∧w.grownBy w' (some g):=by
 have hla:=ha.len
 have hlb:=hb.len
 have hA:=Lib.hid hla
 have hB:=Lib.hid hlb
 have hle:n'≤n:=by rw [←hla,←hlb];exact digs_length_mono hyx
 clear hla hlb
 have h1:=ha.nc
 have h2:=ha.cm
 have h3:=hb.nc
 have h4:=hb.cm
 have h5:=ht.caps
 unfold maxLen at h2 h4 h5
 obtain ⟨h5,h6⟩:=h5
 have HT:=Lib.hid ht
 have HS:=Lib.hid hAs
 clear ht hAs
 go_enter Tryz.func174,Tryz.ntmps174
 go_wp2
 go_loopw [7,13] (fun cy s wr=>∃ k b0:Nat,k≤n∧b0≤1∧s = .int .i64 k∧cy = .int .u64 b0∧SubInv w wr base g nt ct lt (digs x) (digs y) same k b0) (fun _ s _=>n - (intOf s).toNat)
 case atStart=>exact ⟨0,0,by omega,by omega,rfl,rfl,lt,HT.out,hlt,by simp,fun _ _ _=>rfl,World.grownBy.refl w _⟩
 case round=>
  obtain ⟨k,b0,hk,hb0,rfl,rfl,ls,hrow,hwf,hval,hsm,hgr⟩:=hrel
  have HV:=Lib.hid hval
  have HM:=Lib.hid hsm
  clear hval hsm
  by_cases hkn:k<n
  ·have hA2:∃ ad,A=some ad∧wr.cell? (ad.add k)=some (.int .u64 (((digs x).getD k 0:Nat):Int)):=by
    rcases HS.out with ⟨ho,_⟩ | ⟨hAe,hle',hs⟩
    ·obtain ⟨ad,e,_,hc⟩:=(ha.words.kept hgr (Nat.le_refl _) ho).word (k:=k) hkn
     exact ⟨ad,e,hc⟩
    ·refine ⟨_,hAe,?_⟩
     have:=hrow.cell k (by omega)
     rw [HM.out hs k (Nat.le_refl _),hle'] at this
     have e0:(⟨g,0,none⟩:Addr).add k=⟨g,k,none⟩:=by
      unfold Addr.add
      by_cases hj:k=0<;>simp [hj]
     rw [e0];exact this
   obtain ⟨ad,hAe,hca⟩:=hA2
   have HAE:=Lib.hid hAe
   have hls:k<ls.length:=by rw [hrow.len];omega
   have hcs:=hrow.cell k (by omega)
   have hfs:=hrow.free k
   have hxB:=getD_lt (wf_digs x) k
   have hyB:=getD_lt (wf_digs y) k
   obtain ⟨xk,hgx⟩:∃ xk,(digs x).getD k 0=xk:=⟨_,rfl⟩
   obtain ⟨yk,hgy⟩:∃ yk,(digs y).getD k 0=yk:=⟨_,rfl⟩
   rw [hgx] at hca hxB
   rw [hgy] at hyB
   generalize ls.getD k 0=old at hcs
   obtain ⟨s,d,hsd,hsB,hd1,hrun⟩:=call_sub64 xk yk b0 hxB hyB hb0
   have HP:Hid (val ((ls.set k s).take (k+1))+val ((digs y).take (k+1))=val ((digs x).take (k+1))+B ^ (k+1)*d):=
    minus_round ls _ _ k hls s b0 d HV.out (by rw [hgx,hgy];exact hsd)
   have HM2:Hid (same→∀ j,k+1≤j→(ls.set k s).getD j 0=lt.getD j 0):=fun hs j hj=>by
    rw [←HM.out hs j (by omega)]
    simp only [List.getD]
    rw [List.getElem?_set_ne (by omega)]
   subst hAe
   by_cases hkn':k<n'
   ·obtain ⟨ad',rfl,hbb,hcb⟩:=(hb.words.kept hgr (Nat.le_refl _) hob).word (k:=k) hkn'
    rw [hgy] at hcb
    clear hsd hgx hgy
    go_wp2
    go_roundw
    case rel=>exact ⟨k+1,d,by omega,hd1,by go_num,rfl,_,hrow.set k s,hwf.set k hsB,HP.out,HM2.out,only_setCell hgr (.inl rfl) _⟩
    case measure=>simp [intOf]<;>omega
   ·have hy0:yk=0:=by rw [←hgy];exact getD_out (by rw [hB.out];omega)
    subst hy0
    replace hrun:∀ w:World,(callFunc 200 #[.int .u64 xk,.int .u64 0,.int .u64 b0]).run Tryz.prog w = .ok (.value (.tuple #[.int .u64 s,.int .u64 d])) w:=hrun
    clear hsd hgx hgy
    go_wp2
    go_roundw
    case rel=>exact ⟨k+1,d,by omega,hd1,by go_num,rfl,_,hrow.set k s,hwf.set k hsB,HP.out,HM2.out,only_setCell hgr (.inl rfl) _⟩
    case measure=>simp [intOf]<;>omega
  ·obtain rfl:k=n:=by omega
   have hv:val (ls.take k)=x - y:=by
    have h7:=HV.out
    rw [List.take_of_length_le (l:=digs x) (by rw [hA.out];exact Nat.le_refl _),List.take_of_length_le (l:=digs y) (by rw [hB.out];exact hle),val_digs,val_digs] at h7
    have h8:=val_lt (hwf.take k)
    rw [List.length_take,hrow.len,Nat.min_eq_left hnt] at h8
    have h9:=lt_of_digs_length x
    rw [hA.out] at h9
    exact minus_end _ _ _ _ _ h7 h8 hyx hb0
   have ht:=trimmed_row base g k ct (ls.take k) wr (hrow.take hnt) (hwf.take k)
   rw [hv] at ht
   have HC:=Lib.hid ht
   clear ht hv
   go_wp2_with fail
   refine HC.out.mono ?_
   rintro e w1 ⟨m,rfl,hn1,rfl⟩
   go_wp2
   go_ret
   exact ⟨m,rfl,hn1,hgr⟩
end Go.Proofs.YteajibbphcfmeaaGreatDoor
