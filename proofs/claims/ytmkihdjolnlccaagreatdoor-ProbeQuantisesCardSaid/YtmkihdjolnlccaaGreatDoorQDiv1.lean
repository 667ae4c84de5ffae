/- bits.Div64's contract. -/
import Derived.Test.YtmkihdjolnlccaaGreatDoorQNat5
import Derived.Test.YtmkihdjolnlccaaGreatDoorQNat4
namespace Go.Proofs.YtmkihdjolnlccaaGreatDoor
open Go.RowKit Bn
set_option maxHeartbeats 1000000 in
set_option maxRecDepth 100000 in
theorem zjH (lo y:Nat) (w:World) (hlo:lo<18446744073709551616) (hy:y<18446744073709551616) (hy0:0<y) :
  Calls Tryz.prog 258 #[.int .u64 0,.int .u64 lo,.int .u64 y] w fun e w'=>e = .returned (.tuple #[.int .u64 ((lo / y:Nat):Int),.int .u64 ((lo % y:Nat):Int)])∧∃ q,w'=w.drewN q:=by
 have h1:(((y:Nat):Int)==0)=false:=by rw [beq_eq_false_iff_ne];omega
 have h2:¬ ((y:Int)≤0):=by omega
 have h3:(1:Int)≤y:=by omega
 have hq:IntKind.u64.wrap ((lo:Int) / (y:Int))=((lo / y:Nat):Int):=by
  rw [←Int.natCast_ediv,IntKind.wrap_u64]
  have:=Nat.div_le_self lo y
  generalize lo / y=d at *
  omega
 go_enter Tryz.func258,Tryz.ntmps258
 go_wp2
 go_quiet (fail)
 go_wp2
 go_ret2
 exact ⟨rfl,_,rfl⟩
theorem zbY (n:Nat) (h:n<18446744073709551616):IntKind.u64.wrap (n:Int)=(n:Int):=by rw [IntKind.wrap_u64];omega
theorem zkX (n:Nat):IntKind.u64.wrap (n:Int)=((n % 18446744073709551616:Nat):Int):=by rw [IntKind.wrap_u64];omega
theorem zkh (Y:Nat) (h:Y<18446744073709551616):bits BinOp.and IntKind.u64 (Y:Int) 4294967295=((Y % 4294967296:Nat):Int):=by
 have:=bits_and_u64_nat Y 4294967295 h (by omega)
 rw [show ((4294967295:Nat):Int)=4294967295 from rfl] at this
 rw [this]
 congr 1
 exact Nat.and_two_pow_sub_one_eq_mod Y 32
set_option maxHeartbeats 4000000 in
set_option maxRecDepth 100000 in
theorem zn9 (hi lo y:Nat) (w:World) (hhi:0<hi) (hhy:hi<y) (hlo:lo<18446744073709551616) (hy:y<18446744073709551616) :
  Calls Tryz.prog 258 #[.int .u64 hi,.int .u64 lo,.int .u64 y] w fun e w'=>e = .returned (.tuple #[.int .u64 (((hi*18446744073709551616+lo) / y:Nat):Int),.int .u64 (((hi*18446744073709551616+lo) % y:Nat):Int)])∧w'=w:=by
 have h1:(((y:Nat):Int)==0)=false:=by rw [beq_eq_false_iff_ne];omega
 have h1':(((hi:Nat):Int)==0)=false:=by rw [beq_eq_false_iff_ne];omega
 have h2:¬ ((y:Int)≤hi):=by omega
 obtain ⟨b1,b2,b3⟩:=Lib.bitLenAux_bounds 64 y (by simpa using hy) (by omega)
 have b4:=Lib.bitLen_le y 64 (Nat.le_refl _) (by simpa using hy)
 have hl:=Tryz.bits_LeadingZeros64 (y:Int) w (by omega) (by omega)
 rw [Int.toNat_natCast] at hl
 have eb:Lib.bitLen y=Lib.bitLenAux 64 y:=rfl
 rw [←eb] at b1 b2 b3
 generalize Lib.bitLen y=b at *
 obtain ⟨s,hs⟩:∃ s,s=64 - b:=⟨_,rfl⟩
 have es:(64 - (b:Int))=(s:Int):=by omega
 rw [es] at hl
 have hs63:s≤63:=by omega
 obtain ⟨Y,hY⟩:∃ Y,Y=y*2 ^ s:=⟨_,rfl⟩
 have hYlt:Y<18446744073709551616:=by
  have h:=(Nat.mul_lt_mul_right (Nat.two_pow_pos s)).2 b3
  rw [←Nat.pow_add,show b+s=64 from by omega] at h
  rw [hY];exact h
 have hYge:9223372036854775808≤Y:=by
  have h:=Nat.mul_le_mul_right (2 ^ s) b2
  rw [←Nat.pow_add,show b - 1+s=63 from by omega] at h
  rw [hY];exact h
 have eY:IntKind.u64.wrap ((y:Int)*2 ^ s)=(Y:Int):=by
  have:(y:Int)*2 ^ s=(Y:Int):=by rw [hY,Int.natCast_mul,Int.natCast_pow];rfl
  rw [this,zbY Y hYlt]
 obtain ⟨n1,n2,n3,n4⟩:=zl7 hi lo y s hs63 hlo hhy (by rw [←hY];exact hYlt)
 rw [←hY] at n2
 obtain ⟨hs',hhs⟩:∃ v,v=hi*2 ^ s:=⟨_,rfl⟩
 obtain ⟨ls',hls⟩:∃ v,v=lo / 2 ^ (64 - s):=⟨_,rfl⟩
 obtain ⟨u10,hu10⟩:∃ v,v=lo*2 ^ s % B:=⟨_,rfl⟩
 rw [←hhs,←hls] at n2 n4
 rw [←hls] at n3
 rw [←hu10] at n4
 have hu10lt:u10<18446744073709551616:=by rw [hu10];exact Nat.mod_lt _ zaA
 have e46:IntKind.u64.wrap ((hi:Int)*2 ^ s)=(hs':Int):=by
  have:(hi:Int)*2 ^ s=(hs':Int):=by rw [hhs,Int.natCast_mul,Int.natCast_pow];rfl
  rw [this,zbY hs' (by omega)]
 have e50:(lo:Int) / 2 ^ (64 - s)=(ls':Int):=by rw [hls,zgq]
 have e51:bits BinOp.or IntKind.u64 (hs':Int) (ls':Int)=((hs'+ls':Nat):Int):=by
  rw [bits_or_u64_nat hs' ls' (by omega) (by omega),hhs,Nat.mul_comm,←Nat.two_pow_add_eq_or_of_lt n3]
 have e54:IntKind.u64.wrap ((lo:Int)*2 ^ s)=(u10:Int):=by
  have:(lo:Int)*2 ^ s=((lo*2 ^ s:Nat):Int):=by rw [Int.natCast_mul,Int.natCast_pow];rfl
  rw [this,zkX,hu10]
  rfl
 obtain ⟨u32,hu32⟩:∃ v,v=hs'+ls':=⟨_,rfl⟩
 rw [←hu32] at e51 n2 n4
 obtain ⟨y1,hy1⟩:∃ v,v=Y / 4294967296:=⟨_,rfl⟩
 obtain ⟨y0,hy0⟩:∃ v,v=Y % 4294967296:=⟨_,rfl⟩
 obtain ⟨u1,hu1⟩:∃ v,v=u10 / 4294967296:=⟨_,rfl⟩
 obtain ⟨u0,hu0⟩:∃ v,v=u10 % 4294967296:=⟨_,rfl⟩
 have e9:(Y:Int) / 4294967296=(y1:Int):=by omega
 have e10:=zkh Y hYlt
 rw [←hy0] at e10
 have e56:(u10:Int) / 4294967296=(u1:Int):=by omega
 have e58:=zkh u10 hu10lt
 rw [←hu0] at e58
 have HY:Hid (Y=y1*4294967296+y0):=by unfold Hid;omega
 have HU:Hid (u10=u1*4294967296+u0):=by unfold Hid;omega
 have HYs:=Lib.hid hY
 have HN:=Lib.hid n4
 have hy1lt:y1<4294967296:=by omega
 have hy1ge:2147483648≤y1:=by omega
 have hy0lt:y0<4294967296:=by omega
 have hu1lt:u1<4294967296:=by omega
 have hu0lt:u0<4294967296:=by omega
 have hu32lt:u32<18446744073709551616:=by omega
 obtain ⟨q,hq⟩:∃ v,v=u32 / y1:=⟨_,rfl⟩
 obtain ⟨r,hr⟩:∃ v,v=u32 % y1:=⟨_,rfl⟩
 have hqr:u32=q*y1+r:=by rw [hq,hr,Nat.mul_comm];exact (Nat.div_add_mod _ _).symm
 have hrlt:r<y1:=by rw [hr];exact Nat.mod_lt _ (by omega)
 have hqlt:q≤u32:=by rw [hq];exact Nat.div_le_self _ _
 have e61:IntKind.u64.wrap ((u32:Int) / (y1:Int))=(q:Int):=by rw [←Int.natCast_ediv,←hq,zbY q (by omega)]
 obtain ⟨m,hm⟩:∃ v,v=q*y1:=⟨_,rfl⟩
 have e65:IntKind.u64.wrap ((q:Int)*(y1:Int))=(m:Int):=by rw [←Int.natCast_mul,←hm,zbY m (by omega)]
 have e66:(u32:Int) - (m:Int)=(r:Int):=by omega
 have HT:Hid ((u32*4294967296+u1) / Y≤q):=by rw [hq];exact zfD hu1lt HY.out (by omega)
 have HQR:=Lib.hid hqr
 clear hs b1 b2 b3 b4 eb es hY n1 n3 n4 hhs hls hu10 hu32 hy1 hy0 hu1 hu0 hq hr hqr hm
 go_enter Tryz.func258,Tryz.ntmps258
 go_wp2_with fail
 refine hl.mono ?_
 rintro e w1 ⟨rfl,rfl⟩
 go_upto_block 0 with (fail)
 obtain ⟨t1,ht1⟩:∃ v,v=(u32*4294967296+u1) / Y:=⟨_,rfl⟩
 have HT1:=Lib.hid ht1
 clear ht1
 go_cut [15,16] from 67 to 85 (fun a _ wc=>a = .int .u64 (t1:Int)∧wc=w1)
 case first=>
  go_wp2_with fail
  go_loop [15,16] (fun a b=>∃ q r:Nat,a = .int .u64 (q:Int)∧b = .int .u64 (r:Int)∧q<18446744073709551616∧r<4294967296∧Hid (u32=q*y1+r)∧Hid ((u32*4294967296+u1) / Y≤q)) (fun a _=>(intOf a).toNat)
  case atStart=>exact ⟨q,r,rfl,rfl,by omega,by omega,HQR,HT⟩
  case round=>
   clear HQR HT hqlt hrlt e61 e65 e66 e51 e54 e56 e58 e46 e50
   obtain ⟨q,r,rfl,rfl,hq,hr,HQR,HT⟩:=hrel
   by_cases hc:4294967296≤q∨4294967296*r+u1<q*y0
   ·obtain ⟨hq1,hT'⟩:=zfZ hu1lt n2 HY.out HQR.out hc
    have HD:=Lib.hid (zlc HQR.out hq1)
    have HT':=Lib.hid hT'
    clear hT'
    have hval:Value.int .u64 ((q:Int) - 1)=Value.int .u64 ((q - 1:Nat):Int):=by congr 1;omega
    have HVAL:=Lib.hid hval
    clear hval
    have hbr:4294967296≤r+y1→Hid (q - 1=t1):=fun h=>by
     rw [Hid,HT1.out]
     exact zg0 n2 HY.out hy0lt HD.out HT'.out h
    by_cases hq2:4294967296≤q
    ·clear hc
     have hq3:(4294967296:Int)≤(q:Int):=by omega
     have HQ2:=Lib.hid hq2
     clear hq2
     by_cases hr2:4294967296≤r+y1
     ·have HB:=hbr hr2
      clear hbr
      have hr3:(4294967296:Int)≤(r:Int)+(y1:Int):=by omega
      have HR2:=Lib.hid hr2
      clear hr2
      go_wp2_with fail
      go_meet
      exact ⟨by rw [HVAL.out,HB.out],rfl⟩
     ·clear hbr
      have hr3:decide ((4294967296:Int)≤(r:Int)+(y1:Int))=false:=by rw [decide_eq_false_iff_not];omega
      have HR2:=Lib.hid hr2
      clear hr2
      go_wp2_with fail
      have hr4:=HR2.out
      go_round
      case rel=>exact ⟨q - 1,r+y1,HVAL.out,by go_num,by omega,by omega,HD,HT'⟩
      case measure=>simp [intOf]<;>omega
    ·obtain ⟨m,hm⟩:∃ v,v=q*y0:=⟨_,rfl⟩
     have hmlt:m<18446744073709551616:=by
      rw [hm]
      exact Nat.lt_of_le_of_lt (Nat.mul_le_mul (show q≤4294967295 by omega) (show y0≤4294967295 by omega)) (by decide)
     have e72:IntKind.u64.wrap ((q:Int)*(y0:Int))=(m:Int):=by rw [←Int.natCast_mul,←hm,zbY m hmlt]
     have hc':(4294967296:Int)*(r:Int)+(u1:Int)<(m:Int):=by
      have:4294967296*r+u1<m:=by rw [hm];omega
      omega
     have hq3:(q:Int)<4294967296:=by omega
     clear hc hm hq2
     by_cases hr2:4294967296≤r+y1
     ·have HB:=hbr hr2
      clear hbr
      have hr3:(4294967296:Int)≤(r:Int)+(y1:Int):=by omega
      have HR2:=Lib.hid hr2
      clear hr2
      go_wp2_with fail
      go_meet
      exact ⟨by rw [HVAL.out,HB.out],rfl⟩
     ·clear hbr
      have hr3:decide ((4294967296:Int)≤(r:Int)+(y1:Int))=false:=by rw [decide_eq_false_iff_not];omega
      have HR2:=Lib.hid hr2
      clear hr2
      go_wp2_with fail
      have hr4:=HR2.out
      go_round
      case rel=>exact ⟨q - 1,r+y1,HVAL.out,by go_num,by omega,by omega,HD,HT'⟩
      case measure=>simp [intOf]<;>omega
   ·have hq2:q<4294967296:=by omega
    obtain ⟨m,hm⟩:∃ v,v=q*y0:=⟨_,rfl⟩
    have hmlt:m<18446744073709551616:=by
     rw [hm]
     exact Nat.lt_of_le_of_lt (Nat.mul_le_mul (show q≤4294967295 by omega) (show y0≤4294967295 by omega)) (by decide)
    have e72:IntKind.u64.wrap ((q:Int)*(y0:Int))=(m:Int):=by rw [←Int.natCast_mul,←hm,zbY m hmlt]
    have hc':m≤4294967296*r+u1:=by rw [hm];omega
    have HB:Hid (q=t1):=by
     rw [Hid,HT1.out]
     exact zfR HY.out HQR.out (by omega) HT.out (by rw [←hm];exact hc')
    have hc3:decide ((4294967296:Int)*(r:Int)+(u1:Int)<(m:Int))=false:=by rw [decide_eq_false_iff_not];omega
    have hq3:decide ((4294967296:Int)≤(q:Int))=false:=by rw [decide_eq_false_iff_not];omega
    clear hc hm hc' hq2
    go_wp2_with fail
    go_meet
    exact ⟨by rw [HB.out],rfl⟩
 case rest=>
  obtain ⟨rfl,rfl⟩:=hcut
  clear HT hqlt hrlt e61 e65 e66 e51 e54 e56 e58 e46 e50 e9 e10
  obtain ⟨U,hU⟩:∃ v,v=(u32*4294967296+u1) % Y:=⟨_,rfl⟩
  have hUY:U<Y:=by rw [hU];exact Nat.mod_lt _ (by omega)
  have e93:IntKind.u64.wrap (IntKind.u64.wrap (IntKind.u64.wrap ((u32:Int)*4294967296)+(u1:Int)) - IntKind.u64.wrap ((t1:Int)*(Y:Int)))=(U:Int):=by
   have h:=Nat.div_add_mod (u32*4294967296+u1) Y
   rw [←HT1.out,←hU,Nat.mul_comm] at h
   rw [←Int.natCast_mul]
   generalize t1*Y=M at *
   simp only [IntKind.wrap_u64]
   omega
  obtain ⟨q0,hq0⟩:∃ v,v=U / y1:=⟨_,rfl⟩
  obtain ⟨r0,hr0⟩:∃ v,v=U % y1:=⟨_,rfl⟩
  have hqr0:U=q0*y1+r0:=by rw [hq0,hr0,Nat.mul_comm];exact (Nat.div_add_mod _ _).symm
  have hr0lt:r0<y1:=by rw [hr0];exact Nat.mod_lt _ (by omega)
  have hq0lt:q0≤U:=by rw [hq0];exact Nat.div_le_self _ _
  have e96:IntKind.u64.wrap ((U:Int) / (y1:Int))=(q0:Int):=by rw [←Int.natCast_ediv,←hq0,zbY q0 (by omega)]
  obtain ⟨m0,hm0⟩:∃ v,v=q0*y1:=⟨_,rfl⟩
  have e100:IntKind.u64.wrap ((q0:Int)*(y1:Int))=(m0:Int):=by rw [←Int.natCast_mul,←hm0,zbY m0 (by omega)]
  have e101:(U:Int) - (m0:Int)=(r0:Int):=by omega
  have HT2:Hid ((U*4294967296+u0) / Y≤q0):=by rw [hq0];exact zfD hu0lt HY.out (by omega)
  have HQ0:=Lib.hid hqr0
  have HU2:=Lib.hid hU
  clear hU hq0 hr0 hqr0 hm0
  obtain ⟨t0,ht0⟩:∃ v,v=(U*4294967296+u0) / Y:=⟨_,rfl⟩
  have HT0:=Lib.hid ht0
  clear ht0
  go_upto_block 2 with (fail)
  go_cut [18,16] from 102 to 120 (fun a _ wd=>a = .int .u64 (t0:Int)∧wd=wc)
  case first=>
   go_wp2_with fail
   go_loop [18,16] (fun a b=>∃ q r:Nat,a = .int .u64 (q:Int)∧b = .int .u64 (r:Int)∧q<18446744073709551616∧r<4294967296∧Hid (U=q*y1+r)∧Hid ((U*4294967296+u0) / Y≤q)) (fun a _=>(intOf a).toNat)
   case atStart=>exact ⟨q0,r0,rfl,rfl,by omega,by omega,HQ0,HT2⟩
   case round=>
    clear HQR HQ0 HT2 hq0lt hr0lt e96 e100 e101
    obtain ⟨q,r,rfl,rfl,hq,hr,HQR,HT⟩:=hrel
    by_cases hc:4294967296≤q∨4294967296*r+u0<q*y0
    ·obtain ⟨hq1,hT'⟩:=zfZ hu0lt hUY HY.out HQR.out hc
     have HD:=Lib.hid (zlc HQR.out hq1)
     have HT':=Lib.hid hT'
     clear hT'
     have hval:Value.int .u64 ((q:Int) - 1)=Value.int .u64 ((q - 1:Nat):Int):=by congr 1;omega
     have HVAL:=Lib.hid hval
     clear hval
     have hbr:4294967296≤r+y1→Hid (q - 1=t0):=fun h=>by
      rw [Hid,HT0.out]
      exact zg0 hUY HY.out hy0lt HD.out HT'.out h
     by_cases hq2:4294967296≤q
     ·clear hc
      have hq3:(4294967296:Int)≤(q:Int):=by omega
      have HQ2:=Lib.hid hq2
      clear hq2
      by_cases hr2:4294967296≤r+y1
      ·have HB:=hbr hr2
       clear hbr
       have hr3:(4294967296:Int)≤(r:Int)+(y1:Int):=by omega
       have HR2:=Lib.hid hr2
       clear hr2
       go_wp2_with fail
       go_meet
       exact ⟨by rw [HVAL.out,HB.out],rfl⟩
      ·clear hbr
       have hr3:decide ((4294967296:Int)≤(r:Int)+(y1:Int))=false:=by rw [decide_eq_false_iff_not];omega
       have HR2:=Lib.hid hr2
       clear hr2
       go_wp2_with fail
       have hr4:=HR2.out
       go_round
       case rel=>exact ⟨q - 1,r+y1,HVAL.out,by go_num,by omega,by omega,HD,HT'⟩
       case measure=>simp [intOf]<;>omega
     ·obtain ⟨m,hm⟩:∃ v,v=q*y0:=⟨_,rfl⟩
      have hmlt:m<18446744073709551616:=by
       rw [hm]
       exact Nat.lt_of_le_of_lt (Nat.mul_le_mul (show q≤4294967295 by omega) (show y0≤4294967295 by omega)) (by decide)
      have e72:IntKind.u64.wrap ((q:Int)*(y0:Int))=(m:Int):=by rw [←Int.natCast_mul,←hm,zbY m hmlt]
      have hc':(4294967296:Int)*(r:Int)+(u0:Int)<(m:Int):=by
       have:4294967296*r+u0<m:=by rw [hm];omega
       omega
      have hq3:(q:Int)<4294967296:=by omega
      clear hc hm hq2
      by_cases hr2:4294967296≤r+y1
      ·have HB:=hbr hr2
       clear hbr
       have hr3:(4294967296:Int)≤(r:Int)+(y1:Int):=by omega
       have HR2:=Lib.hid hr2
       clear hr2
       go_wp2_with fail
       go_meet
       exact ⟨by rw [HVAL.out,HB.out],rfl⟩
      ·clear hbr
       have hr3:decide ((4294967296:Int)≤(r:Int)+(y1:Int))=false:=by rw [decide_eq_false_iff_not];omega
       have HR2:=Lib.hid hr2
       clear hr2
       go_wp2_with fail
       have hr4:=HR2.out
       go_round
       case rel=>exact ⟨q - 1,r+y1,HVAL.out,by go_num,by omega,by omega,HD,HT'⟩
       case measure=>simp [intOf]<;>omega
    ·have hq2:q<4294967296:=by omega
     obtain ⟨m,hm⟩:∃ v,v=q*y0:=⟨_,rfl⟩
     have hmlt:m<18446744073709551616:=by
      rw [hm]
      exact Nat.lt_of_le_of_lt (Nat.mul_le_mul (show q≤4294967295 by omega) (show y0≤4294967295 by omega)) (by decide)
     have e72:IntKind.u64.wrap ((q:Int)*(y0:Int))=(m:Int):=by rw [←Int.natCast_mul,←hm,zbY m hmlt]
     have hc':m≤4294967296*r+u0:=by rw [hm];omega
     have HB:Hid (q=t0):=by
      rw [Hid,HT0.out]
      exact zfR HY.out HQR.out (by omega) HT.out (by rw [←hm];exact hc')
     have hc3:decide ((4294967296:Int)*(r:Int)+(u0:Int)<(m:Int))=false:=by rw [decide_eq_false_iff_not];omega
     have hq3:decide ((4294967296:Int)≤(q:Int))=false:=by rw [decide_eq_false_iff_not];omega
     clear hc hm hc' hq2
     go_wp2_with fail
     go_meet
     exact ⟨by rw [HB.out],rfl⟩
  case rest=>
   obtain ⟨rfl,rfl⟩:=hcut
   clear hq0lt hr0lt e96 e100 e101 e93
   have hs0:u0<4294967296:=hu0lt
   obtain ⟨R,hR⟩:∃ v,v=(U*4294967296+u0) % Y:=⟨_,rfl⟩
   have hRY:R<Y:=by rw [hR];exact Nat.mod_lt _ (by omega)
   obtain ⟨f1,f2⟩:=zr8 18446744073709551616 4294967296 hi lo y s Y u32 u10 u1 u0 t1 t0 U rfl HYs.out (by omega) HN.out HU.out HT1.out HU2.out HT0.out
   have ht1lt:t1<4294967296:=by rw [HT1.out];exact zhv hu1lt n2
   have ht0lt:t0<4294967296:=by rw [HT0.out];exact zhv hu0lt hUY
   have e124:IntKind.u64.wrap (IntKind.u64.wrap ((t1:Int)*4294967296)+(t0:Int))=((t1*4294967296+t0:Nat):Int):=by
    simp only [IntKind.wrap_u64]
    omega
   have e132:IntKind.u64.wrap (IntKind.u64.wrap (IntKind.u64.wrap ((U:Int)*4294967296)+(u0:Int)) - IntKind.u64.wrap ((t0:Int)*(Y:Int)))=(R:Int):=by
    have h:=Nat.div_add_mod (U*4294967296+u0) Y
    rw [←HT0.out,←hR,Nat.mul_comm] at h
    rw [←Int.natCast_mul]
    generalize t0*Y=M at *
    simp only [IntKind.wrap_u64]
    omega
   rw [←hR] at f2
   have F1:=Lib.hid f1
   have F2:=Lib.hid f2
   clear f1 f2 hR
   go_wp2
   go_ret2
   refine ⟨?_,rfl⟩
   show Ending.returned (Value.tuple #[Value.int .u64 ((t1:Int)*4294967296+(t0:Int)),Value.int .u64 ((R:Int) / 2 ^ s)])=_
   have e:(t1:Int)*4294967296+(t0:Int)=((t1*4294967296+t0:Nat):Int):=by omega
   rw [e,F1.out,zgq,F2.out]
theorem zge (hi lo y:Nat) (w:World) (hhy:hi<y) (hlo:lo<18446744073709551616) (hy:y<18446744073709551616) :
  ∃ q r:Nat,hi*18446744073709551616+lo=q*y+r∧r<y∧q<18446744073709551616 ∧
   Calls Tryz.prog 258 #[.int .u64 hi,.int .u64 lo,.int .u64 y] w fun e w'=>e = .returned (.tuple #[.int .u64 (q:Int),.int .u64 (r:Int)])∧∃ k,w'=w.drewN k:=by
 refine ⟨(hi*18446744073709551616+lo) / y,(hi*18446744073709551616+lo) % y,?_,Nat.mod_lt _ (by omega),zhv hlo hhy,?_⟩
 ·exact (Nat.div_add_mod' _ _).symm
 ·rcases Nat.eq_zero_or_pos hi with rfl | h
  ·rw [Nat.zero_mul,Nat.zero_add]
   exact zjH lo y w hlo hy (by omega)
  ·exact (zn9 hi lo y w h hhy hlo hy).mono fun e w' ⟨he,hw⟩=>⟨he,0,hw⟩
end Go.Proofs.YtmkihdjolnlccaaGreatDoor
namespace Go.Proofs.YtmkihdjolnlccaaGreatDoor.Bn
section
variable {b r2 r1 r0 d1 d0 q rest:Nat}
theorem zkZ (hq:r2*b+r1=q*d1+rest) (_hb:0<b) (ht:min (b - 1) (((r2*b+r1)*b+r0) / (d1*b+d0))≤q) (hlt:rest*b+r0<q*d0) :
  1≤q∧min (b - 1) (((r2*b+r1)*b+r0) / (d1*b+d0))≤q - 1:=by
 have _:=ht
 have h1:1≤q:=by
  rcases Nat.eq_zero_or_pos q with rfl | h
  ·simp at hlt
  ·exact h
 refine ⟨h1,Nat.le_trans (Nat.min_le_right _ _) ?_⟩
 have:((r2*b+r1)*b+r0) / (d1*b+d0)<q:=by
  rcases Nat.eq_zero_or_pos (d1*b+d0) with h | h
  ·have:d0=0:=by omega
   subst this
   simp at hlt
  ·rw [Nat.div_lt_iff_lt_mul h,hq,Nat.mul_add,Nat.add_mul,←Nat.mul_assoc]
   omega
 omega
theorem zh1 (hq:r2*b+r1=q*d1+rest) (hb:0<b) (hd:0<d1) (hqb:q<b) (ht:min (b - 1) (((r2*b+r1)*b+r0) / (d1*b+d0))≤q) (hle:q*d0≤rest*b+r0) :
  q=min (b - 1) (((r2*b+r1)*b+r0) / (d1*b+d0)):=by
 refine Nat.le_antisymm (Nat.le_min.2 ⟨by omega,?_⟩) ht
 have h0:0<d1*b+d0:=by have:=Nat.mul_pos hd hb;omega
 rw [Nat.le_div_iff_mul_le h0,hq,Nat.mul_add,Nat.add_mul,←Nat.mul_assoc]
 omega
theorem zoL (hq:r2*b+r1=q*d1+rest) (hb:0<b) (hd:0<d1) (hqb:q<b) (hd0:d0<b) (ht:min (b - 1) (((r2*b+r1)*b+r0) / (d1*b+d0))≤q) (hr:b≤rest) :
  q=min (b - 1) (((r2*b+r1)*b+r0) / (d1*b+d0)):=by
 refine zh1 hq hb hd hqb ht ?_
 have h1:q*d0≤b*b:=Nat.mul_le_mul (by omega) (by omega)
 have h2:b*b≤rest*b:=Nat.mul_le_mul_right _ hr
 omega
theorem zoQ (hq:r2*b+r1=q*d1+rest) (h1:1≤q):r2*b+r1=(q - 1)*d1+(rest+d1):=by
 obtain ⟨p,rfl⟩:∃ p,q=p+1:=⟨q - 1,by omega⟩
 rw [Nat.add_sub_cancel]
 rw [Nat.add_mul] at hq
 omega
theorem zjq (hd:0<d1) (hr0:r0<b) (hq:q=(r2*b+r1) / d1):min (b - 1) (((r2*b+r1)*b+r0) / (d1*b+d0))≤q:=by
 refine Nat.le_trans (Nat.min_le_right _ _) ?_
 rw [hq]
 exact zfD hr0 rfl hd
end
theorem zpz (b m R D N3 D2 lr ld q:Nat) (hR:R=N3*m+lr) (hD:D=D2*m+ld) (hlr:lr<m) (hld:ld<m) (hD2:b≤D2) (hq:q=min (b - 1) (N3 / D2)) (hlt:R<D*b) (hb:1<b) :
  R / D≤q∧q≤R / D+1:=by
 have hm:0<m:=by omega
 have hD0:0<D:=by
  rw [hD]
  have:=Nat.mul_pos (show 0<D2 by omega) hm
  omega
 constructor
 ·rw [hq]
  refine Nat.le_min.2 ⟨?_,?_⟩
  ·have:R / D<b:=by rw [Nat.div_lt_iff_lt_mul hD0,Nat.mul_comm];exact hlt
   omega
  ·rw [Nat.le_div_iff_mul_le (by omega)]
   have h1:R / D*D≤R:=Nat.div_mul_le_self _ _
   generalize R / D=t at *
   rw [hD,hR,Nat.mul_add,←Nat.mul_assoc] at h1
   have h2:t*D2*m<(N3+1)*m:=by rw [Nat.add_mul,Nat.one_mul];omega
   have:=Nat.lt_of_mul_lt_mul_right h2
   omega
 ·have h1:q*D2≤N3:=by
   have:q≤N3 / D2:=by rw [hq];exact Nat.min_le_right _ _
   exact (Nat.le_div_iff_mul_le (by omega)).1 this
  have h2:q≤b - 1:=by rw [hq];exact Nat.min_le_left _ _
  rcases Nat.eq_zero_or_pos q with h0 | h0
  ·rw [h0];exact Nat.zero_le _
  have h3:q - 1≤R / D:=by
   rw [Nat.le_div_iff_mul_le hD0]
   have h4:q*ld≤D:=by
    have h5:q*ld≤b*m:=Nat.mul_le_mul (by omega) (by omega)
    have h6:b*m≤D2*m:=Nat.mul_le_mul_right _ hD2
    omega
   have h7:q*D=q*D2*m+q*ld:=by rw [hD,Nat.mul_add,Nat.mul_assoc]
   have h8:q*D2*m≤N3*m:=Nat.mul_le_mul_right _ h1
   have h9:(q - 1)*D+D=q*D:=by
    obtain ⟨p,rfl⟩:∃ p,q=p+1:=⟨q - 1,by omega⟩
    rw [Nat.add_sub_cancel,Nat.add_mul,Nat.one_mul]
   omega
  generalize R / D=t at *
  clear hq
  omega
end Go.Proofs.YtmkihdjolnlccaaGreatDoor.Bn
namespace Go.Proofs.YtmkihdjolnlccaaGreatDoor
open Go.RowKit Bn
theorem zee (l:List Nat) (k x:Nat) (hk:k<l.length):(l.set k x).drop k=x :: l.drop (k+1):=by
 rw [List.drop_eq_getElem_cons (by simpa using hk),List.getElem_set_self,List.drop_set_of_lt (by omega)]
theorem zgg (l:List Nat) (k:Nat) (hk:k<l.length):l.drop k=l.getD k 0 :: l.drop (k+1):=by
 rw [List.drop_eq_getElem_cons hk,Bn.getD_in hk]
theorem zlM (ls la:List Nat) (k q r rest b:Nat) (hk:k<ls.length) (hk':k<la.length) (hinv:val (ls.drop (k+1))*b+rest=val (la.drop (k+1)))
  (hd:rest*18446744073709551616+la.getD k 0=q*b+r):val ((ls.set k q).drop k)*b+r=val (la.drop k):=by
 rw [zee ls k q hk,zgg la k hk',val_cons,val_cons,←hinv,Nat.add_mul,Nat.mul_add,Nat.mul_assoc]
 have e:B*rest=rest*18446744073709551616:=Nat.mul_comm _ _
 rw [e]
 generalize B*(val (ls.drop (k+1))*b)=t
 omega
set_option maxHeartbeats 2000000 in
set_option maxRecDepth 100000 in
theorem zfc (A:Option Addr) (n c x b:Nat) (w:World) (ha:NatS w w.heap.size A n c x) (hn:n≤1099511627776) (hb0:0<b) (hb:b<18446744073709551616) :
  Calls Tryz.prog 238 #[.slice A n c,.int .u64 b] w fun e w'=>∃ m c',e = .returned (.tuple #[.slice (some ⟨w.heap.size,0,none⟩) m c',.int .u64 ((x % b:Nat):Int)])∧zas w' w.heap.size w.heap.size m c' (digs (x / b))∧Below w.heap.size w w':=by
 obtain ⟨i0,hi0,hz0,hz1,hz2⟩:=info_parts zbA
 have hA:=Lib.hid ha.len
 have h1:=ha.nc
 have h2:=ha.cm
 unfold maxLen at h2
 go_enter Tryz.func238,Tryz.ntmps238
 go_wp2_with (at_make;refine wpList_make_full _ rfl _ _ 157 rfl w.heap.size 168 i0 (.int .u64 0) 1 Tryz.underlying157 hi0 hz0 hz1 _ _ _ _ n rfl rfl (by omega) (by omega) ?b2 ?b3 (Nat.le_refl _) ?_)
 case b2=>rw [hz2];omega
 case b3=>unfold maxLen;omega
 intro w0 hown0 hgrow0
 have hbel0:Below w.heap.size w w0:=(Below.refl _ _).grown hgrow0 (Nat.le_refl _) (fun k h=>by cases h)
 have hrow0:=zas.made hown0
 clear hown0 hgrow0
 go_wp2
 go_loopw [7,8] (fun rs s wr=>∃ (k rest:Nat) (i:Int),i=(k:Int) - 1∧k≤n∧rest<b∧s = .int .i64 i∧rs = .int .u64 rest∧∃ ls,zas wr w.heap.size w.heap.size n n ls∧Wf ls∧Hid (val (ls.drop k)*b+rest=val ((digs x).drop k))∧Below w.heap.size w wr) (fun _ s _=>(intOf s+1).toNat)
 case atStart=>
  refine ⟨n,0,_,rfl,Nat.le_refl _,hb0,rfl,rfl,_,hrow0,Wf.replicate _,?_,hbel0⟩
  rw [Hid,List.drop_of_length_le (by simp),List.drop_of_length_le (by rw [hA.out];exact Nat.le_refl _)]
  simp
 case round=>
  obtain ⟨k,rest,i,hi,hk,hrest,rfl,rfl,ls,hrow,hwf,hval,hbel⟩:=hrel
  have HI:=Lib.hid hi
  by_cases hk0:0<k
  ·obtain ⟨j,rfl⟩:∃ j,k=j+1:=⟨k - 1,by omega⟩
   obtain rfl:i=(j:Int):=by omega
   clear hi HI
   obtain ⟨ad,rfl,hba,hca⟩:=(ha.below hbel).words.word (k:=j) (by omega)
   have hzB:=zar (zak x) j
   obtain ⟨z,hg⟩:∃ z,(digs x).getD j 0=z:=⟨_,rfl⟩
   rw [hg] at hca hzB
   have hcs:=hrow.cell j (by omega)
   have hfs:=hrow.free j
   generalize ls.getD j 0=old at hcs
   obtain ⟨q,r,hd,hr,hq,hcall⟩:=zge rest z b wr hrest hzB hb
   have HP:Hid (val ((ls.set j q).drop j)*b+r=val ((digs x).drop j)):=
    zlM ls (digs x) j q r rest b (by rw [hrow.len];omega) (by rw [hA.out];omega) hval.out (by rw [hg];exact hd)
   clear hd hg
   go_wp2_with fail
   refine hcall.mono ?_
   rintro e w' ⟨rfl,kq,rfl⟩
   go_wp2
   go_roundw
   case rel=>exact ⟨j,r,(j:Int) - 1,rfl,by omega,hr,by go_num,rfl,_,(hrow.drewN kq).set j q,hwf.set _ hq,HP,(zab hbel kq).setCell (Nat.le_refl _) _⟩
   case measure=>simp [intOf]<;>omega
  ·obtain rfl:k=0:=by omega
   have hi0':i<0:=by omega
   have hv:val ls=x / b∧rest=x % b:=by
    have h:=hval.out
    rw [List.drop_zero,List.drop_zero,zai] at h
    rw [←h,Nat.mul_comm,Nat.mul_add_div hb0,Nat.div_eq_of_lt hrest,Nat.mul_add_mod,Nat.mod_eq_of_lt hrest]
    exact ⟨rfl,rfl⟩
   have ht:=zbS w.heap.size w.heap.size n n ls wr hrow hwf
   rw [hv.1] at ht
   have HC:=Lib.hid ht
   have HR:=Lib.hid hv.2
   clear ht hv hi
   go_wp2_with fail
   refine HC.out.mono ?_
   rintro e w1 ⟨m,rfl,hn1,rfl⟩
   go_wp2
   go_ret2
   exact ⟨m,n,by rw [←HR.out];rfl,hn1,hbel⟩
set_option maxHeartbeats 2000000 in
set_option maxRecDepth 100000 in
theorem ziQ (r2 r1 r0 d1 d0:Nat) (w:World) (h2:r2≤d1) (h1:r1<18446744073709551616) (h0:r0<18446744073709551616) (hd1:d1<18446744073709551616) (hd0:d0<18446744073709551616) (hd:0<d1) :
  Calls Tryz.prog 260 #[.int .u64 r2,.int .u64 r1,.int .u64 r0,.int .u64 d1,.int .u64 d0] w fun e w'=>e = .returned (.int .u64 ((min (B - 1) (((r2*B+r1)*B+r0) / (d1*B+d0)):Nat):Int))∧∃ k,w'=w.drewN k:=by
 obtain ⟨T,hT⟩:∃ v,v=min (B - 1) (((r2*B+r1)*B+r0) / (d1*B+d0)):=⟨_,rfl⟩
 have HT:=Lib.hid hT
 rw [←hT]
 clear hT
 go_enter Tryz.func260,Tryz.ntmps260
 go_upto_if 18 with (fail)
 go_cut [11,12,13] (fun a b c wc=>∃ q rest k cy:Nat,a = .int .u64 (q:Int)∧b = .int .u64 (rest:Int)∧c = .int .u64 (cy:Int)∧q<18446744073709551616∧rest<18446744073709551616∧cy≤1∧Hid (r2*B+r1=q*d1+(rest+B*cy))∧Hid (T≤q)∧wc=w.drewN k)
 case first=>
  by_cases hlt:r2<d1
  ·have hd:decide ((r2:Int)<(d1:Int))=true:=by rw [decide_eq_true_iff];omega
   obtain ⟨q,r,hqr,hr,hq,hcall⟩:=zge r2 r1 d1 w hlt h1 hd1
   have HQ:=Lib.hid hqr
   clear hqr
   go_wp2_with fail
   refine hcall.mono ?_
   rintro e w' ⟨rfl,kq,rfl⟩
   go_wp2_with fail
   go_meet
   refine ⟨q,r,kq,0,rfl,rfl,rfl,hq,by omega,by omega,?_,?_,rfl⟩
   ·rw [Hid,Nat.mul_zero,Nat.add_zero];exact HQ.out
   ·rw [Hid,HT.out]
    refine zjq (by omega) h0 ?_
    have e:=HQ.out
    show q=(r2*18446744073709551616+r1) / d1
    rw [e,Nat.mul_comm,Nat.mul_add_div (by omega),Nat.div_eq_of_lt hr,Nat.add_zero]
  ·obtain rfl:r2=d1:=by omega
   obtain ⟨s,cy,hs,hsB,hc1,hrun⟩:=zbP r1 r2 0 h1 hd1 (by omega)
   replace hrun:∀ w:World,(callFunc 244 #[.int .u64 r1,.int .u64 r2,.int .u64 0]).run Tryz.prog w = .ok (.value (.tuple #[.int .u64 s,.int .u64 cy])) w:=hrun
   have HS:=Lib.hid hs
   clear hs hlt
   go_wp2_with fail
   go_meet
   refine ⟨18446744073709551615,s,0,cy,rfl,rfl,rfl,by omega,hsB,hc1,?_,?_,rfl⟩
   ·rw [Hid]
    have e:=HS.out
    have e2:B*cy=18446744073709551616*cy:=rfl
    have e3:r2*B=18446744073709551615*r2+r2:=by
     have:B=18446744073709551615+1:=rfl
     rw [this,Nat.mul_add,Nat.mul_comm,Nat.mul_one]
    rw [e2,e3]
    generalize 18446744073709551615*r2=t
    omega
   ·rw [Hid,HT.out];exact Nat.min_le_left _ _
 case rest=>
  obtain ⟨q,rest,k,cy,rfl,rfl,rfl,hq,hrest,hcy,HQ,HQT,rfl⟩:=hcut
  go_wp2_with fail
  go_loop [11,12,13] (fun a b c=>∃ q rest cy:Nat,a = .int .u64 (q:Int)∧b = .int .u64 (rest:Int)∧c = .int .u64 (cy:Int)∧q<18446744073709551616∧rest<18446744073709551616∧cy≤1∧Hid (r2*B+r1=q*d1+(rest+B*cy))∧Hid (T≤q)) (fun a _ _=>(intOf a).toNat)
  case atStart=>exact ⟨q,rest,cy,rfl,rfl,rfl,hq,hrest,hcy,HQ,HQT⟩
  case round=>
   clear HQ HQT hq hrest hcy
   obtain ⟨q,rest,cy,rfl,rfl,rfl,hq,hrest,hcy,HQ,HQT⟩:=hrel
   by_cases hc0:cy=0
   ·subst hc0
    have HQ0:r2*B+r1=q*d1+rest:=by have h:=HQ.out;rwa [Nat.mul_zero,Nat.add_zero] at h
    obtain ⟨hi,lo,hm,hlo,hhi,hcall⟩:=zew q d0 hq hd0
    have em:lo+18446744073709551616*hi=hi*B+lo:=by
     have e:hi*B=18446744073709551616*hi:=Nat.mul_comm _ _
     omega
    rw [em] at hm
    clear em
    by_cases ha:hi<rest
    ·have ha1:decide ((hi:Int)<(rest:Int))=true:=by rw [decide_eq_true_iff];omega
     have HLE:hi*B+lo≤rest*B+r0:=by
      have h5:(hi+1)*B≤rest*B:=Nat.mul_le_mul_right _ ha
      rw [Nat.add_mul,Nat.one_mul] at h5
      have:lo<B:=hlo
      omega
     have HB:Hid (q=T):=by
      rw [Hid,HT.out]
      exact zh1 (b:=B) HQ0 zaA hd hq (by rw [←HT.out];exact HQT.out) (by rw [←hm];exact HLE)
     clear hm HQ0
     go_wp2_with fail
     refine (hcall _).mono ?_
     rintro e w' ⟨rfl,rfl⟩
     go_wp2
     go_ret
     exact ⟨by rw [←HB.out];rfl,k,rfl⟩
    ·have ha1:decide ((hi:Int)<(rest:Int))=false:=by rw [decide_eq_false_iff_not];omega
     by_cases hb:hi=rest
     ·have hb1:((hi:Int)==(rest:Int))=true:=by rw [beq_iff_eq];omega
      by_cases hc:lo≤r0
      ·have hc1:decide ((lo:Int)≤(r0:Int))=true:=by rw [decide_eq_true_iff];omega
       have HLE:hi*B+lo≤rest*B+r0:=by rw [hb];omega
       clear hb
       have HB:Hid (q=T):=by
        rw [Hid,HT.out]
        exact zh1 (b:=B) HQ0 zaA hd hq (by rw [←HT.out];exact HQT.out) (by rw [←hm];exact HLE)
       clear hm HQ0
       go_wp2_with fail
       refine (hcall _).mono ?_
       rintro e w' ⟨rfl,rfl⟩
       go_wp2
       go_ret
       exact ⟨by rw [←HB.out];rfl,k,rfl⟩
      ·have hc1:decide ((lo:Int)≤(r0:Int))=false:=by rw [decide_eq_false_iff_not];omega
       have HGT:rest*B+r0<hi*B+lo:=by rw [hb];omega
       clear hb
       have hgt:rest*B+r0<q*d0:=by rw [←hm];exact HGT
       obtain ⟨hq1,hT'⟩:=zkZ (b:=B) (r2:=r2) (r1:=r1) (r0:=r0) (d1:=d1) HQ0 zaA (by rw [←HT.out];exact HQT.out) hgt
       rw [←HT.out] at hT'
       have HD:=Lib.hid (zoQ HQ0 hq1)
       have HT':=Lib.hid hT'
       obtain ⟨s,c',hs,hsB,hc2,hrun⟩:=zbP rest d1 0 hrest hd1 (by omega)
       replace hrun:∀ w:World,(callFunc 244 #[.int .u64 rest,.int .u64 d1,.int .u64 0]).run Tryz.prog w = .ok (.value (.tuple #[.int .u64 s,.int .u64 c'])) w:=hrun
       have HV:Hid (Value.int .u64 ((q:Int) - 1)=Value.int .u64 ((q - 1:Nat):Int)):=by unfold Hid;congr 1;omega
       have HS:Hid (rest+d1=s+B*c'):=by unfold Hid;have e:B*c'=18446744073709551616*c':=rfl;rw [e];omega
       clear hs hT' hm hgt HQ0
       go_wp2_with fail
       refine (hcall _).mono ?_
       rintro e w' ⟨rfl,rfl⟩
       go_wp2_with fail
       go_round
       case rel=>exact ⟨q - 1,s,c',HV.out,rfl,rfl,by omega,hsB,hc2,by rw [Hid,←HS.out];exact HD.out,HT'.out⟩
       case measure=>simp [intOf]<;>omega
     ·have hb1:((hi:Int)==(rest:Int))=false:=by rw [beq_eq_false_iff_ne];omega
      have HGT:rest*B+r0<hi*B+lo:=by
       have h5:(rest+1)*B≤hi*B:=Nat.mul_le_mul_right _ (by omega)
       rw [Nat.add_mul,Nat.one_mul] at h5
       have:r0<B:=h0
       omega
      have hgt:rest*B+r0<q*d0:=by rw [←hm];exact HGT
      obtain ⟨hq1,hT'⟩:=zkZ (b:=B) (r2:=r2) (r1:=r1) (r0:=r0) (d1:=d1) HQ0 zaA (by rw [←HT.out];exact HQT.out) hgt
      rw [←HT.out] at hT'
      have HD:=Lib.hid (zoQ HQ0 hq1)
      have HT':=Lib.hid hT'
      obtain ⟨s,c',hs,hsB,hc1,hrun⟩:=zbP rest d1 0 hrest hd1 (by omega)
      replace hrun:∀ w:World,(callFunc 244 #[.int .u64 rest,.int .u64 d1,.int .u64 0]).run Tryz.prog w = .ok (.value (.tuple #[.int .u64 s,.int .u64 c'])) w:=hrun
      have HV:Hid (Value.int .u64 ((q:Int) - 1)=Value.int .u64 ((q - 1:Nat):Int)):=by unfold Hid;congr 1;omega
      have HS:Hid (rest+d1=s+B*c'):=by unfold Hid;have e:B*c'=18446744073709551616*c':=rfl;rw [e];omega
      clear hs hT' hm hgt HQ0
      go_wp2_with fail
      refine (hcall _).mono ?_
      rintro e w' ⟨rfl,rfl⟩
      go_wp2_with fail
      go_round
      case rel=>exact ⟨q - 1,s,c',HV.out,rfl,rfl,by omega,hsB,hc1,by rw [Hid,←HS.out];exact HD.out,HT'.out⟩
      case measure=>simp [intOf]<;>omega
   ·obtain rfl:cy=1:=by omega
    have HB:Hid (q=T):=by
     rw [Hid,HT.out]
     refine zoL (b:=B) (r2:=r2) (r1:=r1) (rest:=rest+B) ?_ zaA hd hq hd0 (by rw [←HT.out];exact HQT.out) (Nat.le_add_left _ _)
     have h:=HQ.out
     rwa [Nat.mul_one] at h
    go_wp2
    go_ret
    exact ⟨by rw [←HB.out];rfl,k,rfl⟩
end Go.Proofs.YtmkihdjolnlccaaGreatDoor
