/- bits.Div64's contract. -/
import Derived.Test.YteajibbphcfmeaaGreatDoorVNum1
import Derived.Test.YteajibbphcfmeaaGreatDoorVCut
namespace Go.Proofs.YteajibbphcfmeaaGreatDoor
open Go.RowKit Bn
set_option maxHeartbeats 1000000 in
set_option maxRecDepth 100000 in
theorem zhG (lo y:Nat) (w:World) (hlo:lo<18446744073709551616) (hy:y<18446744073709551616) (hy0:0<y) :
  Calls Tryz.prog 201 #[.int .u64 0,.int .u64 lo,.int .u64 y] w fun e w'=>e = .returned (.tuple #[.int .u64 ((lo / y:Nat):Int),.int .u64 ((lo % y:Nat):Int)])∧∃ q,w'=w.drewN q:=by
 have h1:(((y:Nat):Int)==0)=false:=by rw [beq_eq_false_iff_ne];omega
 have h2:¬ ((y:Int)≤0):=by omega
 have h3:(1:Int)≤y:=by omega
 have hq:IntKind.u64.wrap ((lo:Int) / (y:Int))=((lo / y:Nat):Int):=by
  rw [←Int.natCast_ediv,IntKind.wrap_u64]
  have:=Nat.div_le_self lo y
  generalize lo / y=d at *
  omega
 go_enter Tryz.func201,Tryz.ntmps201
 go_wp2
 go_quiet (fail)
 go_wp2
 go_ret2
 exact ⟨rfl,_,rfl⟩
theorem zbS (n:Nat) (h:n<18446744073709551616):IntKind.u64.wrap (n:Int)=(n:Int):=by rw [IntKind.wrap_u64];omega
theorem ziw (n:Nat):IntKind.u64.wrap (n:Int)=((n % 18446744073709551616:Nat):Int):=by rw [IntKind.wrap_u64];omega
theorem ziq (Y:Nat) (h:Y<18446744073709551616):bits BinOp.and IntKind.u64 (Y:Int) 4294967295=((Y % 4294967296:Nat):Int):=by
 have:=bits_and_u64_nat Y 4294967295 h (by omega)
 rw [show ((4294967295:Nat):Int)=4294967295 from rfl] at this
 rw [this]
 congr 1
 exact Nat.and_two_pow_sub_one_eq_mod Y 32
set_option maxHeartbeats 4000000 in
set_option maxRecDepth 100000 in
theorem zlj (hi lo y:Nat) (w:World) (hhi:0<hi) (hhy:hi<y) (hlo:lo<18446744073709551616) (hy:y<18446744073709551616) :
  Calls Tryz.prog 201 #[.int .u64 hi,.int .u64 lo,.int .u64 y] w fun e w'=>e = .returned (.tuple #[.int .u64 (((hi*18446744073709551616+lo) / y:Nat):Int),.int .u64 (((hi*18446744073709551616+lo) % y:Nat):Int)])∧w'=w:=by
 have h1:(((y:Nat):Int)==0)=false:=by rw [beq_eq_false_iff_ne];omega
 have dA:(((hi:Nat):Int)==0)=false:=by rw [beq_eq_false_iff_ne];omega
 have h2:¬ ((y:Int)≤hi):=by omega
 obtain ⟨b1,b2,b3⟩:=Lib.bitLenAux_bounds 64 y (by simpa using hy) (by omega)
 have b4:=Lib.bitLen_le y 64 (Nat.le_refl _) (by simpa using hy)
 have hl:=Tryz.bits_LeadingZeros64 (y:Int) w (by omega) (by omega)
 rw [Int.toNat_natCast] at hl
 have eb:Lib.bitLen y=Lib.bitLenAux 64 y:=rfl
 rw [←eb] at b1 b2 b3
 generalize Lib.bitLen y=b at *
 obtain ⟨s,hs⟩:∃ s,s=64 - b:=⟨_,rfl⟩
 have es:(64 - (b:Int))=(s:Int):=by omega
 rw [es] at hl
 have bN:s≤63:=by omega
 obtain ⟨Y,hY⟩:∃ Y,Y=y*2 ^ s:=⟨_,rfl⟩
 have aV:Y<18446744073709551616:=by
  have h:=(Nat.mul_lt_mul_right (Nat.two_pow_pos s)).2 b3
  rw [←Nat.pow_add,show b+s=64 from by omega] at h
  rw [hY];exact h
 have cW:9223372036854775808≤Y:=by
  have h:=Nat.mul_le_mul_right (2 ^ s) b2
  rw [←Nat.pow_add,show b - 1+s=63 from by omega] at h
  rw [hY];exact h
 have eY:IntKind.u64.wrap ((y:Int)*2 ^ s)=(Y:Int):=by
  have:(y:Int)*2 ^ s=(Y:Int):=by rw [hY,Int.natCast_mul,Int.natCast_pow];rfl
  rw [this,zbS Y aV]
 obtain ⟨n1,n2,n3,n4⟩:=ziW hi lo y s bN hlo hhy (by rw [←hY];exact aV)
 rw [←hY] at n2
 obtain ⟨aT,bJ⟩:∃ v,v=hi*2 ^ s:=⟨_,rfl⟩
 obtain ⟨bG,bI⟩:∃ v,v=lo / 2 ^ (64 - s):=⟨_,rfl⟩
 obtain ⟨aP,aL⟩:∃ v,v=lo*2 ^ s % B:=⟨_,rfl⟩
 rw [←bJ,←bI] at n2 n4
 rw [←bI] at n3
 rw [←aL] at n4
 have aU:aP<18446744073709551616:=by rw [aL];exact Nat.mod_lt _ zaL
 have cA:IntKind.u64.wrap ((hi:Int)*2 ^ s)=(aT:Int):=by
  have:(hi:Int)*2 ^ s=(aT:Int):=by rw [bJ,Int.natCast_mul,Int.natCast_pow];rfl
  rw [this,zbS aT (by omega)]
 have cC:(lo:Int) / 2 ^ (64 - s)=(bG:Int):=by rw [bI,zfr]
 have bS:bits BinOp.or IntKind.u64 (aT:Int) (bG:Int)=((aT+bG:Nat):Int):=by
  rw [bits_or_u64_nat aT bG (by omega) (by omega),bJ,Nat.mul_comm,←Nat.two_pow_add_eq_or_of_lt n3]
 have bY:IntKind.u64.wrap ((lo:Int)*2 ^ s)=(aP:Int):=by
  have:(lo:Int)*2 ^ s=((lo*2 ^ s:Nat):Int):=by rw [Int.natCast_mul,Int.natCast_pow];rfl
  rw [this,ziw,aL]
  rfl
 obtain ⟨aC,bA⟩:∃ v,v=aT+bG:=⟨_,rfl⟩
 rw [←bA] at bS n2 n4
 obtain ⟨y1,cS⟩:∃ v,v=Y / 4294967296:=⟨_,rfl⟩
 obtain ⟨y0,cL⟩:∃ v,v=Y % 4294967296:=⟨_,rfl⟩
 obtain ⟨u1,cU⟩:∃ v,v=aP / 4294967296:=⟨_,rfl⟩
 obtain ⟨u0,cH⟩:∃ v,v=aP % 4294967296:=⟨_,rfl⟩
 have e9:(Y:Int) / 4294967296=(y1:Int):=by omega
 have cG:=ziq Y aV
 rw [←cL] at cG
 have bT:(aP:Int) / 4294967296=(u1:Int):=by omega
 have bR:=ziq aP aU
 rw [←cH] at bR
 have HY:Hid (Y=y1*4294967296+y0):=by unfold Hid;omega
 have HU:Hid (aP=u1*4294967296+u0):=by unfold Hid;omega
 have cV:=Lib.hid hY
 have HN:=Lib.hid n4
 have bX:y1<4294967296:=by omega
 have cJ:2147483648≤y1:=by omega
 have aM:y0<4294967296:=by omega
 have aH:u1<4294967296:=by omega
 have aE:u0<4294967296:=by omega
 have bK:aC<18446744073709551616:=by omega
 obtain ⟨q,hq⟩:∃ v,v=aC / y1:=⟨_,rfl⟩
 obtain ⟨r,hr⟩:∃ v,v=aC % y1:=⟨_,rfl⟩
 have cF:aC=q*y1+r:=by rw [hq,hr,Nat.mul_comm];exact (Nat.div_add_mod _ _).symm
 have aW:r<y1:=by rw [hr];exact Nat.mod_lt _ (by omega)
 have aZ:q≤aC:=by rw [hq];exact Nat.div_le_self _ _
 have bW:IntKind.u64.wrap ((aC:Int) / (y1:Int))=(q:Int):=by rw [←Int.natCast_ediv,←hq,zbS q (by omega)]
 obtain ⟨m,hm⟩:∃ v,v=q*y1:=⟨_,rfl⟩
 have bZ:IntKind.u64.wrap ((q:Int)*(y1:Int))=(m:Int):=by rw [←Int.natCast_mul,←hm,zbS m (by omega)]
 have cE:(aC:Int) - (m:Int)=(r:Int):=by omega
 have HT:Hid ((aC*4294967296+u1) / Y≤q):=by rw [hq];exact zeX aH HY.out (by omega)
 have aK:=Lib.hid cF
 clear hs b1 b2 b3 b4 eb es hY n1 n3 n4 bJ bI aL bA cS cL cU cH hq hr cF hm
 go_enter Tryz.func201,Tryz.ntmps201
 go_wp2_with fail
 refine hl.mono ?_
 rintro e w1 ⟨rfl,rfl⟩
 go_upto_block 0 with (fail)
 obtain ⟨t1,cN⟩:∃ v,v=(aC*4294967296+u1) / Y:=⟨_,rfl⟩
 have aX:=Lib.hid cN
 clear cN
 go_cut [15,16] from 67 to 85 (fun a _ wc=>a = .int .u64 (t1:Int)∧wc=w1)
 case first=>
  go_wp2_with fail
  go_loop [15,16] (fun a b=>∃ q r:Nat,a = .int .u64 (q:Int)∧b = .int .u64 (r:Int)∧q<18446744073709551616∧r<4294967296∧Hid (aC=q*y1+r)∧Hid ((aC*4294967296+u1) / Y≤q)) (fun a _=>(intOf a).toNat)
  case atStart=>exact ⟨q,r,rfl,rfl,by omega,by omega,aK,HT⟩
  case round=>
   clear aK HT aZ aW bW bZ cE bS bY bT bR cA cC
   obtain ⟨q,r,rfl,rfl,hq,hr,aK,HT⟩:=hrel
   by_cases hc:4294967296≤q∨4294967296*r+u1<q*y0
   ·obtain ⟨bQ,bH⟩:=zhh aH n2 HY.out aK.out hc
    have HD:=Lib.hid (zix aK.out bQ)
    have aS:=Lib.hid bH
    clear bH
    have aJ:Value.int .u64 ((q:Int) - 1)=Value.int .u64 ((q - 1:Nat):Int):=by congr 1;omega
    have aA:=Lib.hid aJ
    clear aJ
    have aF:4294967296≤r+y1→Hid (q - 1=t1):=fun h=>by
     rw [Hid,aX.out]
     exact zfT n2 HY.out aM HD.out aS.out h
    by_cases aI:4294967296≤q
    ·clear hc
     have bC:(4294967296:Int)≤(q:Int):=by omega
     have cR:=Lib.hid aI
     clear aI
     by_cases hr2:4294967296≤r+y1
     ·have HB:=aF hr2
      clear aF
      have aR:(4294967296:Int)≤(r:Int)+(y1:Int):=by omega
      have aG:=Lib.hid hr2
      clear hr2
      go_wp2_with fail
      go_meet
      exact ⟨by rw [aA.out,HB.out],rfl⟩
     ·clear aF
      have aR:decide ((4294967296:Int)≤(r:Int)+(y1:Int))=false:=by rw [decide_eq_false_iff_not];omega
      have aG:=Lib.hid hr2
      clear hr2
      go_wp2_with fail
      have bP:=aG.out
      go_round
      case rel=>exact ⟨q - 1,r+y1,aA.out,by go_num,by omega,by omega,HD,aS⟩
      case measure=>simp [intOf]<;>omega
    ·obtain ⟨m,hm⟩:∃ v,v=q*y0:=⟨_,rfl⟩
     have aD:m<18446744073709551616:=by
      rw [hm]
      exact Nat.lt_of_le_of_lt (Nat.mul_le_mul (show q≤4294967295 by omega) (show y0≤4294967295 by omega)) (by decide)
     have bO:IntKind.u64.wrap ((q:Int)*(y0:Int))=(m:Int):=by rw [←Int.natCast_mul,←hm,zbS m aD]
     have aQ:(4294967296:Int)*(r:Int)+(u1:Int)<(m:Int):=by
      have:4294967296*r+u1<m:=by rw [hm];omega
      omega
     have bC:(q:Int)<4294967296:=by omega
     clear hc hm aI
     by_cases hr2:4294967296≤r+y1
     ·have HB:=aF hr2
      clear aF
      have aR:(4294967296:Int)≤(r:Int)+(y1:Int):=by omega
      have aG:=Lib.hid hr2
      clear hr2
      go_wp2_with fail
      go_meet
      exact ⟨by rw [aA.out,HB.out],rfl⟩
     ·clear aF
      have aR:decide ((4294967296:Int)≤(r:Int)+(y1:Int))=false:=by rw [decide_eq_false_iff_not];omega
      have aG:=Lib.hid hr2
      clear hr2
      go_wp2_with fail
      have bP:=aG.out
      go_round
      case rel=>exact ⟨q - 1,r+y1,aA.out,by go_num,by omega,by omega,HD,aS⟩
      case measure=>simp [intOf]<;>omega
   ·have aI:q<4294967296:=by omega
    obtain ⟨m,hm⟩:∃ v,v=q*y0:=⟨_,rfl⟩
    have aD:m<18446744073709551616:=by
     rw [hm]
     exact Nat.lt_of_le_of_lt (Nat.mul_le_mul (show q≤4294967295 by omega) (show y0≤4294967295 by omega)) (by decide)
    have bO:IntKind.u64.wrap ((q:Int)*(y0:Int))=(m:Int):=by rw [←Int.natCast_mul,←hm,zbS m aD]
    have aQ:m≤4294967296*r+u1:=by rw [hm];omega
    have HB:Hid (q=t1):=by
     rw [Hid,aX.out]
     exact ze4 HY.out aK.out (by omega) HT.out (by rw [←hm];exact aQ)
    have cT:decide ((4294967296:Int)*(r:Int)+(u1:Int)<(m:Int))=false:=by rw [decide_eq_false_iff_not];omega
    have bC:decide ((4294967296:Int)≤(q:Int))=false:=by rw [decide_eq_false_iff_not];omega
    clear hc hm aQ aI
    go_wp2_with fail
    go_meet
    exact ⟨by rw [HB.out],rfl⟩
 case rest=>
  obtain ⟨rfl,rfl⟩:=hcut
  clear HT aZ aW bW bZ cE bS bY bT bR cA cC e9 cG
  obtain ⟨U,hU⟩:∃ v,v=(aC*4294967296+u1) % Y:=⟨_,rfl⟩
  have bL:U<Y:=by rw [hU];exact Nat.mod_lt _ (by omega)
  have cP:IntKind.u64.wrap (IntKind.u64.wrap (IntKind.u64.wrap ((aC:Int)*4294967296)+(u1:Int)) - IntKind.u64.wrap ((t1:Int)*(Y:Int)))=(U:Int):=by
   have h:=Nat.div_add_mod (aC*4294967296+u1) Y
   rw [←aX.out,←hU,Nat.mul_comm] at h
   rw [←Int.natCast_mul]
   generalize t1*Y=M at *
   simp only [IntKind.wrap_u64]
   omega
  obtain ⟨q0,bB⟩:∃ v,v=U / y1:=⟨_,rfl⟩
  obtain ⟨r0,bM⟩:∃ v,v=U % y1:=⟨_,rfl⟩
  have bD:U=q0*y1+r0:=by rw [bB,bM,Nat.mul_comm];exact (Nat.div_add_mod _ _).symm
  have aN:r0<y1:=by rw [bM];exact Nat.mod_lt _ (by omega)
  have aO:q0≤U:=by rw [bB];exact Nat.div_le_self _ _
  have cK:IntKind.u64.wrap ((U:Int) / (y1:Int))=(q0:Int):=by rw [←Int.natCast_ediv,←bB,zbS q0 (by omega)]
  obtain ⟨m0,bV⟩:∃ v,v=q0*y1:=⟨_,rfl⟩
  have aY:IntKind.u64.wrap ((q0:Int)*(y1:Int))=(m0:Int):=by rw [←Int.natCast_mul,←bV,zbS m0 (by omega)]
  have bF:(U:Int) - (m0:Int)=(r0:Int):=by omega
  have bU:Hid ((U*4294967296+u0) / Y≤q0):=by rw [bB];exact zeX aE HY.out (by omega)
  have cB:=Lib.hid bD
  have cY:=Lib.hid hU
  clear hU bB bM bD bV
  obtain ⟨t0,cO⟩:∃ v,v=(U*4294967296+u0) / Y:=⟨_,rfl⟩
  have bE:=Lib.hid cO
  clear cO
  go_upto_block 2 with (fail)
  go_cut [18,16] from 102 to 120 (fun a _ wd=>a = .int .u64 (t0:Int)∧wd=wc)
  case first=>
   go_wp2_with fail
   go_loop [18,16] (fun a b=>∃ q r:Nat,a = .int .u64 (q:Int)∧b = .int .u64 (r:Int)∧q<18446744073709551616∧r<4294967296∧Hid (U=q*y1+r)∧Hid ((U*4294967296+u0) / Y≤q)) (fun a _=>(intOf a).toNat)
   case atStart=>exact ⟨q0,r0,rfl,rfl,by omega,by omega,cB,bU⟩
   case round=>
    clear aK cB bU aO aN cK aY bF
    obtain ⟨q,r,rfl,rfl,hq,hr,aK,HT⟩:=hrel
    by_cases hc:4294967296≤q∨4294967296*r+u0<q*y0
    ·obtain ⟨bQ,bH⟩:=zhh aE bL HY.out aK.out hc
     have HD:=Lib.hid (zix aK.out bQ)
     have aS:=Lib.hid bH
     clear bH
     have aJ:Value.int .u64 ((q:Int) - 1)=Value.int .u64 ((q - 1:Nat):Int):=by congr 1;omega
     have aA:=Lib.hid aJ
     clear aJ
     have aF:4294967296≤r+y1→Hid (q - 1=t0):=fun h=>by
      rw [Hid,bE.out]
      exact zfT bL HY.out aM HD.out aS.out h
     by_cases aI:4294967296≤q
     ·clear hc
      have bC:(4294967296:Int)≤(q:Int):=by omega
      have cR:=Lib.hid aI
      clear aI
      by_cases hr2:4294967296≤r+y1
      ·have HB:=aF hr2
       clear aF
       have aR:(4294967296:Int)≤(r:Int)+(y1:Int):=by omega
       have aG:=Lib.hid hr2
       clear hr2
       go_wp2_with fail
       go_meet
       exact ⟨by rw [aA.out,HB.out],rfl⟩
      ·clear aF
       have aR:decide ((4294967296:Int)≤(r:Int)+(y1:Int))=false:=by rw [decide_eq_false_iff_not];omega
       have aG:=Lib.hid hr2
       clear hr2
       go_wp2_with fail
       have bP:=aG.out
       go_round
       case rel=>exact ⟨q - 1,r+y1,aA.out,by go_num,by omega,by omega,HD,aS⟩
       case measure=>simp [intOf]<;>omega
     ·obtain ⟨m,hm⟩:∃ v,v=q*y0:=⟨_,rfl⟩
      have aD:m<18446744073709551616:=by
       rw [hm]
       exact Nat.lt_of_le_of_lt (Nat.mul_le_mul (show q≤4294967295 by omega) (show y0≤4294967295 by omega)) (by decide)
      have bO:IntKind.u64.wrap ((q:Int)*(y0:Int))=(m:Int):=by rw [←Int.natCast_mul,←hm,zbS m aD]
      have aQ:(4294967296:Int)*(r:Int)+(u0:Int)<(m:Int):=by
       have:4294967296*r+u0<m:=by rw [hm];omega
       omega
      have bC:(q:Int)<4294967296:=by omega
      clear hc hm aI
      by_cases hr2:4294967296≤r+y1
      ·have HB:=aF hr2
       clear aF
       have aR:(4294967296:Int)≤(r:Int)+(y1:Int):=by omega
       have aG:=Lib.hid hr2
       clear hr2
       go_wp2_with fail
       go_meet
       exact ⟨by rw [aA.out,HB.out],rfl⟩
      ·clear aF
       have aR:decide ((4294967296:Int)≤(r:Int)+(y1:Int))=false:=by rw [decide_eq_false_iff_not];omega
       have aG:=Lib.hid hr2
       clear hr2
       go_wp2_with fail
       have bP:=aG.out
       go_round
       case rel=>exact ⟨q - 1,r+y1,aA.out,by go_num,by omega,by omega,HD,aS⟩
       case measure=>simp [intOf]<;>omega
    ·have aI:q<4294967296:=by omega
     obtain ⟨m,hm⟩:∃ v,v=q*y0:=⟨_,rfl⟩
     have aD:m<18446744073709551616:=by
      rw [hm]
      exact Nat.lt_of_le_of_lt (Nat.mul_le_mul (show q≤4294967295 by omega) (show y0≤4294967295 by omega)) (by decide)
     have bO:IntKind.u64.wrap ((q:Int)*(y0:Int))=(m:Int):=by rw [←Int.natCast_mul,←hm,zbS m aD]
     have aQ:m≤4294967296*r+u0:=by rw [hm];omega
     have HB:Hid (q=t0):=by
      rw [Hid,bE.out]
      exact ze4 HY.out aK.out (by omega) HT.out (by rw [←hm];exact aQ)
     have cT:decide ((4294967296:Int)*(r:Int)+(u0:Int)<(m:Int))=false:=by rw [decide_eq_false_iff_not];omega
     have bC:decide ((4294967296:Int)≤(q:Int))=false:=by rw [decide_eq_false_iff_not];omega
     clear hc hm aQ aI
     go_wp2_with fail
     go_meet
     exact ⟨by rw [HB.out],rfl⟩
  case rest=>
   obtain ⟨rfl,rfl⟩:=hcut
   clear aO aN cK aY bF cP
   have dB:u0<4294967296:=aE
   obtain ⟨R,hR⟩:∃ v,v=(U*4294967296+u0) % Y:=⟨_,rfl⟩
   have dC:R<Y:=by rw [hR];exact Nat.mod_lt _ (by omega)
   obtain ⟨f1,f2⟩:=znW 18446744073709551616 4294967296 hi lo y s Y aC aP u1 u0 t1 t0 U rfl cV.out (by omega) HN.out HU.out aX.out cY.out bE.out
   have cI:t1<4294967296:=by rw [aX.out];exact zgE aH n2
   have cM:t0<4294967296:=by rw [bE.out];exact zgE aE bL
   have cQ:IntKind.u64.wrap (IntKind.u64.wrap ((t1:Int)*4294967296)+(t0:Int))=((t1*4294967296+t0:Nat):Int):=by
    simp only [IntKind.wrap_u64]
    omega
   have cZ:IntKind.u64.wrap (IntKind.u64.wrap (IntKind.u64.wrap ((U:Int)*4294967296)+(u0:Int)) - IntKind.u64.wrap ((t0:Int)*(Y:Int)))=(R:Int):=by
    have h:=Nat.div_add_mod (U*4294967296+u0) Y
    rw [←bE.out,←hR,Nat.mul_comm] at h
    rw [←Int.natCast_mul]
    generalize t0*Y=M at *
    simp only [IntKind.wrap_u64]
    omega
   rw [←hR] at f2
   have F1:=Lib.hid f1
   have F2:=Lib.hid f2
   clear f1 f2 hR
   go_wp2
   go_ret2
   refine ⟨?_,rfl⟩
   show Ending.returned (Value.tuple #[Value.int .u64 ((t1:Int)*4294967296+(t0:Int)),Value.int .u64 ((R:Int) / 2 ^ s)])=_
   have e:(t1:Int)*4294967296+(t0:Int)=((t1*4294967296+t0:Nat):Int):=by omega
   rw [e,F1.out,zfr,F2.out]
theorem zgS (hi lo y:Nat) (w:World) (hhy:hi<y) (hlo:lo<18446744073709551616) (hy:y<18446744073709551616) :
  ∃ q r:Nat,hi*18446744073709551616+lo=q*y+r∧r<y∧q<18446744073709551616 ∧
   Calls Tryz.prog 201 #[.int .u64 hi,.int .u64 lo,.int .u64 y] w fun e w'=>e = .returned (.tuple #[.int .u64 (q:Int),.int .u64 (r:Int)])∧∃ k,w'=w.drewN k:=by
 refine ⟨(hi*18446744073709551616+lo) / y,(hi*18446744073709551616+lo) % y,?_,Nat.mod_lt _ (by omega),zgE hlo hhy,?_⟩
 ·exact (Nat.div_add_mod' _ _).symm
 ·rcases Nat.eq_zero_or_pos hi with rfl | h
  ·rw [Nat.zero_mul,Nat.zero_add]
   exact zhG lo y w hlo hy (by omega)
  ·exact (zlj hi lo y w h hhy hlo hy).mono fun e w' ⟨he,hw⟩=>⟨he,0,hw⟩
end Go.Proofs.YteajibbphcfmeaaGreatDoor
namespace Go.Proofs.YteajibbphcfmeaaGreatDoor.Bn
section
variable {b r2 r1 r0 d1 d0 q rest:Nat}
theorem ziu (hq:r2*b+r1=q*d1+rest) (_hb:0<b) (ht:min (b - 1) (((r2*b+r1)*b+r0) / (d1*b+d0))≤q) (hlt:rest*b+r0<q*d0) :
  1≤q∧min (b - 1) (((r2*b+r1)*b+r0) / (d1*b+d0))≤q - 1:=by
 have _:=ht
 have h1:1≤q:=by
  rcases Nat.eq_zero_or_pos q with rfl | h
  ·simp at hlt
  ·exact h
 refine ⟨h1,Nat.le_trans (Nat.min_le_right _ _) ?_⟩
 have:((r2*b+r1)*b+r0) / (d1*b+d0)<q:=by
  rcases Nat.eq_zero_or_pos (d1*b+d0) with h | h
  ·have:d0=0:=by omega
   subst this
   simp at hlt
  ·rw [Nat.div_lt_iff_lt_mul h,hq,Nat.mul_add,Nat.add_mul,←Nat.mul_assoc]
   omega
 omega
theorem zgf (hq:r2*b+r1=q*d1+rest) (hb:0<b) (hd:0<d1) (hqb:q<b) (ht:min (b - 1) (((r2*b+r1)*b+r0) / (d1*b+d0))≤q) (hle:q*d0≤rest*b+r0) :
  q=min (b - 1) (((r2*b+r1)*b+r0) / (d1*b+d0)):=by
 refine Nat.le_antisymm (Nat.le_min.2 ⟨by omega,?_⟩) ht
 have h0:0<d1*b+d0:=by have:=Nat.mul_pos hd hb;omega
 rw [Nat.le_div_iff_mul_le h0,hq,Nat.mul_add,Nat.add_mul,←Nat.mul_assoc]
 omega
theorem zkG (hq:r2*b+r1=q*d1+rest) (hb:0<b) (hd:0<d1) (hqb:q<b) (hd0:d0<b) (ht:min (b - 1) (((r2*b+r1)*b+r0) / (d1*b+d0))≤q) (hr:b≤rest) :
  q=min (b - 1) (((r2*b+r1)*b+r0) / (d1*b+d0)):=by
 refine zgf hq hb hd hqb ht ?_
 have h1:q*d0≤b*b:=Nat.mul_le_mul (by omega) (by omega)
 have h2:b*b≤rest*b:=Nat.mul_le_mul_right _ hr
 omega
theorem zlr (hq:r2*b+r1=q*d1+rest) (h1:1≤q):r2*b+r1=(q - 1)*d1+(rest+d1):=by
 obtain ⟨p,rfl⟩:∃ p,q=p+1:=⟨q - 1,by omega⟩
 rw [Nat.add_sub_cancel]
 rw [Nat.add_mul] at hq
 omega
theorem zhs (hd:0<d1) (hr0:r0<b) (hq:q=(r2*b+r1) / d1):min (b - 1) (((r2*b+r1)*b+r0) / (d1*b+d0))≤q:=by
 refine Nat.le_trans (Nat.min_le_right _ _) ?_
 rw [hq]
 exact zeX hr0 rfl hd
end
theorem zmR (b m R D N3 D2 lr ld q:Nat) (hR:R=N3*m+lr) (hD:D=D2*m+ld) (hlr:lr<m) (hld:ld<m) (hD2:b≤D2) (hq:q=min (b - 1) (N3 / D2)) (hlt:R<D*b) (hb:1<b) :
  R / D≤q∧q≤R / D+1:=by
 have hm:0<m:=by omega
 have aA:0<D:=by
  rw [hD]
  have:=Nat.mul_pos (show 0<D2 by omega) hm
  omega
 constructor
 ·rw [hq]
  refine Nat.le_min.2 ⟨?_,?_⟩
  ·have:R / D<b:=by rw [Nat.div_lt_iff_lt_mul aA,Nat.mul_comm];exact hlt
   omega
  ·rw [Nat.le_div_iff_mul_le (by omega)]
   have h1:R / D*D≤R:=Nat.div_mul_le_self _ _
   generalize R / D=t at *
   rw [hD,hR,Nat.mul_add,←Nat.mul_assoc] at h1
   have h2:t*D2*m<(N3+1)*m:=by rw [Nat.add_mul,Nat.one_mul];omega
   have:=Nat.lt_of_mul_lt_mul_right h2
   omega
 ·have h1:q*D2≤N3:=by
   have:q≤N3 / D2:=by rw [hq];exact Nat.min_le_right _ _
   exact (Nat.le_div_iff_mul_le (by omega)).1 this
  have h2:q≤b - 1:=by rw [hq];exact Nat.min_le_left _ _
  rcases Nat.eq_zero_or_pos q with h0 | h0
  ·rw [h0];exact Nat.zero_le _
  have h3:q - 1≤R / D:=by
   rw [Nat.le_div_iff_mul_le aA]
   have h4:q*ld≤D:=by
    have h5:q*ld≤b*m:=Nat.mul_le_mul (by omega) (by omega)
    have h6:b*m≤D2*m:=Nat.mul_le_mul_right _ hD2
    omega
   have h7:q*D=q*D2*m+q*ld:=by rw [hD,Nat.mul_add,Nat.mul_assoc]
   have h8:q*D2*m≤N3*m:=Nat.mul_le_mul_right _ h1
   have h9:(q - 1)*D+D=q*D:=by
    obtain ⟨p,rfl⟩:∃ p,q=p+1:=⟨q - 1,by omega⟩
    rw [Nat.add_sub_cancel,Nat.add_mul,Nat.one_mul]
   omega
  generalize R / D=t at *
  clear hq
  omega
end Go.Proofs.YteajibbphcfmeaaGreatDoor.Bn
namespace Go.Proofs.YteajibbphcfmeaaGreatDoor
open Go.RowKit Bn
theorem zd7 (l:List Nat) (k x:Nat) (hk:k<l.length):(l.set k x).drop k=x :: l.drop (k+1):=by
 rw [List.drop_eq_getElem_cons (by simpa using hk),List.getElem_set_self,List.drop_set_of_lt (by omega)]
theorem zfh (l:List Nat) (k:Nat) (hk:k<l.length):l.drop k=l.getD k 0 :: l.drop (k+1):=by
 rw [List.drop_eq_getElem_cons hk,Bn.getD_in hk]
theorem zjm (ls la:List Nat) (k q r rest b:Nat) (hk:k<ls.length) (hk':k<la.length) (hinv:val (ls.drop (k+1))*b+rest=val (la.drop (k+1)))
  (hd:rest*18446744073709551616+la.getD k 0=q*b+r):val ((ls.set k q).drop k)*b+r=val (la.drop k):=by
 rw [zd7 ls k q hk,zfh la k hk',val_cons,val_cons,←hinv,Nat.add_mul,Nat.mul_add,Nat.mul_assoc]
 have e:B*rest=rest*18446744073709551616:=Nat.mul_comm _ _
 rw [e]
 generalize B*(val (ls.drop (k+1))*b)=t
 omega
set_option maxHeartbeats 2000000 in
set_option maxRecDepth 100000 in
theorem za2 (A:Option Addr) (n c x b:Nat) (w:World) (ha:NatS w w.heap.size A n c x) (hn:n≤1099511627776) (hb0:0<b) (hb:b<18446744073709551616) :
  Calls Tryz.prog 177 #[.slice A n c,.int .u64 b] w fun e w'=>∃ m c',e = .returned (.tuple #[.slice (some ⟨w.heap.size,0,none⟩) m c',.int .u64 ((x % b:Nat):Int)])∧zav w' w.heap.size w.heap.size m c' (digs (x / b))∧Below w.heap.size w w':=by
 obtain ⟨i0,aP,aU,aN,aO⟩:=info_parts zb2
 have hA:=Lib.hid ha.len
 have h1:=ha.nc
 have h2:=ha.cm
 unfold maxLen at h2
 go_enter Tryz.func177,Tryz.ntmps177
 go_wp2_with (at_make;refine wpList_make_full _ rfl _ _ 89 rfl w.heap.size 120 i0 (.int .u64 0) 1 Tryz.underlying89 aP aU aN _ _ _ _ n rfl rfl (by omega) (by omega) ?b2 ?b3 (Nat.le_refl _) ?_)
 case b2=>rw [aO];omega
 case b3=>unfold maxLen;omega
 intro w0 aF aC
 have aJ:Below w.heap.size w w0:=(Below.refl _ _).grown aC (Nat.le_refl _) (fun k h=>by cases h)
 have aK:=zav.made aF
 clear aF aC
 go_wp2
 go_loopw [7,8] (fun rs s wr=>∃ (k aA:Nat) (i:Int),i=(k:Int) - 1∧k≤n∧aA<b∧s = .int .i64 i∧rs = .int .u64 aA∧∃ ls,zav wr w.heap.size w.heap.size n n ls∧Wf ls∧Hid (val (ls.drop k)*b+aA=val ((digs x).drop k))∧Below w.heap.size w wr) (fun _ s _=>(intOf s+1).toNat)
 case atStart=>
  refine ⟨n,0,_,rfl,Nat.le_refl _,hb0,rfl,rfl,_,aK,Wf.replicate _,?_,aJ⟩
  rw [Hid,List.drop_of_length_le (by simp),List.drop_of_length_le (by rw [hA.out];exact Nat.le_refl _)]
  simp
 case round=>
  obtain ⟨k,aA,i,hi,hk,aD,rfl,rfl,ls,aE,aM,aI,aG⟩:=hrel
  have HI:=Lib.hid hi
  by_cases hk0:0<k
  ·obtain ⟨j,rfl⟩:∃ j,k=j+1:=⟨k - 1,by omega⟩
   obtain rfl:i=(j:Int):=by omega
   clear hi HI
   obtain ⟨ad,rfl,aV,aR⟩:=(ha.below aG).words.word (k:=j) (by omega)
   have aL:=zaD (zap x) j
   obtain ⟨z,hg⟩:∃ z,(digs x).getD j 0=z:=⟨_,rfl⟩
   rw [hg] at aR aL
   have aT:=aE.cell j (by omega)
   have aW:=aE.free j
   generalize ls.getD j 0=old at aT
   obtain ⟨q,r,hd,hr,hq,aH⟩:=zgS aA z b wr aD aL hb
   have HP:Hid (val ((ls.set j q).drop j)*b+r=val ((digs x).drop j)):=
    zjm ls (digs x) j q r aA b (by rw [aE.len];omega) (by rw [hA.out];omega) aI.out (by rw [hg];exact hd)
   clear hd hg
   go_wp2_with fail
   refine aH.mono ?_
   rintro e w' ⟨rfl,kq,rfl⟩
   go_wp2
   go_roundw
   case rel=>exact ⟨j,r,(j:Int) - 1,rfl,by omega,hr,by go_num,rfl,_,(aE.drewN kq).set j q,aM.set _ hq,HP,(zab aG kq).setCell (Nat.le_refl _) _⟩
   case measure=>simp [intOf]<;>omega
  ·obtain rfl:k=0:=by omega
   have aQ:i<0:=by omega
   have hv:val ls=x / b∧aA=x % b:=by
    have h:=aI.out
    rw [List.drop_zero,List.drop_zero,zal] at h
    rw [←h,Nat.mul_comm,Nat.mul_add_div hb0,Nat.div_eq_of_lt aD,Nat.mul_add_mod,Nat.mod_eq_of_lt aD]
    exact ⟨rfl,rfl⟩
   have ht:=zbP w.heap.size w.heap.size n n ls wr aE aM
   rw [hv.1] at ht
   have HC:=Lib.hid ht
   have HR:=Lib.hid hv.2
   clear ht hv hi
   go_wp2_with fail
   refine HC.out.mono ?_
   rintro e w1 ⟨m,rfl,aS,rfl⟩
   go_wp2
   go_ret2
   exact ⟨m,n,by rw [←HR.out];rfl,aS,aG⟩
set_option maxHeartbeats 2000000 in
set_option maxRecDepth 100000 in
theorem zgT (r2 r1 r0 d1 d0:Nat) (w:World) (h2:r2≤d1) (h1:r1<18446744073709551616) (h0:r0<18446744073709551616) (hd1:d1<18446744073709551616) (hd0:d0<18446744073709551616) (hd:0<d1) :
  Calls Tryz.prog 208 #[.int .u64 r2,.int .u64 r1,.int .u64 r0,.int .u64 d1,.int .u64 d0] w fun e w'=>e = .returned (.int .u64 ((min (B - 1) (((r2*B+r1)*B+r0) / (d1*B+d0)):Nat):Int))∧∃ k,w'=w.drewN k:=by
 obtain ⟨T,hT⟩:∃ v,v=min (B - 1) (((r2*B+r1)*B+r0) / (d1*B+d0)):=⟨_,rfl⟩
 have HT:=Lib.hid hT
 rw [←hT]
 clear hT
 go_enter Tryz.func208,Tryz.ntmps208
 go_upto_if 18 with (fail)
 go_cut [11,12,13] (fun a b c wc=>∃ q rest k cy:Nat,a = .int .u64 (q:Int)∧b = .int .u64 (rest:Int)∧c = .int .u64 (cy:Int)∧q<18446744073709551616∧rest<18446744073709551616∧cy≤1∧Hid (r2*B+r1=q*d1+(rest+B*cy))∧Hid (T≤q)∧wc=w.drewN k)
 case first=>
  by_cases hlt:r2<d1
  ·have hd:decide ((r2:Int)<(d1:Int))=true:=by rw [decide_eq_true_iff];omega
   obtain ⟨q,r,aP,hr,hq,aA⟩:=zgS r2 r1 d1 w hlt h1 hd1
   have HQ:=Lib.hid aP
   clear aP
   go_wp2_with fail
   refine aA.mono ?_
   rintro e w' ⟨rfl,kq,rfl⟩
   go_wp2_with fail
   go_meet
   refine ⟨q,r,kq,0,rfl,rfl,rfl,hq,by omega,by omega,?_,?_,rfl⟩
   ·rw [Hid,Nat.mul_zero,Nat.add_zero];exact HQ.out
   ·rw [Hid,HT.out]
    refine zhs (by omega) h0 ?_
    have e:=HQ.out
    show q=(r2*18446744073709551616+r1) / d1
    rw [e,Nat.mul_comm,Nat.mul_add_div (by omega),Nat.div_eq_of_lt hr,Nat.add_zero]
  ·obtain rfl:r2=d1:=by omega
   obtain ⟨s,cy,hs,aI,aH,aC⟩:=zbN r1 r2 0 h1 hd1 (by omega)
   replace aC:∀ w:World,(callFunc 176 #[.int .u64 r1,.int .u64 r2,.int .u64 0]).run Tryz.prog w = .ok (.value (.tuple #[.int .u64 s,.int .u64 cy])) w:=aC
   have HS:=Lib.hid hs
   clear hs hlt
   go_wp2_with fail
   go_meet
   refine ⟨18446744073709551615,s,0,cy,rfl,rfl,rfl,by omega,aI,aH,?_,?_,rfl⟩
   ·rw [Hid]
    have e:=HS.out
    have e2:B*cy=18446744073709551616*cy:=rfl
    have e3:r2*B=18446744073709551615*r2+r2:=by
     have:B=18446744073709551615+1:=rfl
     rw [this,Nat.mul_add,Nat.mul_comm,Nat.mul_one]
    rw [e2,e3]
    generalize 18446744073709551615*r2=t
    omega
   ·rw [Hid,HT.out];exact Nat.min_le_left _ _
 case rest=>
  obtain ⟨q,rest,k,cy,rfl,rfl,rfl,hq,aD,aO,HQ,aF,rfl⟩:=hcut
  go_wp2_with fail
  go_loop [11,12,13] (fun a b c=>∃ q rest cy:Nat,a = .int .u64 (q:Int)∧b = .int .u64 (rest:Int)∧c = .int .u64 (cy:Int)∧q<18446744073709551616∧rest<18446744073709551616∧cy≤1∧Hid (r2*B+r1=q*d1+(rest+B*cy))∧Hid (T≤q)) (fun a _ _=>(intOf a).toNat)
  case atStart=>exact ⟨q,rest,cy,rfl,rfl,rfl,hq,aD,aO,HQ,aF⟩
  case round=>
   clear HQ aF hq aD aO
   obtain ⟨q,rest,cy,rfl,rfl,rfl,hq,aD,aO,HQ,aF⟩:=hrel
   by_cases hc0:cy=0
   ·subst hc0
    have aE:r2*B+r1=q*d1+rest:=by have h:=HQ.out;rwa [Nat.mul_zero,Nat.add_zero] at h
    obtain ⟨hi,lo,hm,aT,aU,aA⟩:=zfM q d0 hq hd0
    have em:lo+18446744073709551616*hi=hi*B+lo:=by
     have e:hi*B=18446744073709551616*hi:=Nat.mul_comm _ _
     omega
    rw [em] at hm
    clear em
    by_cases ha:hi<rest
    ·have aS:decide ((hi:Int)<(rest:Int))=true:=by rw [decide_eq_true_iff];omega
     have aK:hi*B+lo≤rest*B+r0:=by
      have h5:(hi+1)*B≤rest*B:=Nat.mul_le_mul_right _ ha
      rw [Nat.add_mul,Nat.one_mul] at h5
      have:lo<B:=aT
      omega
     have HB:Hid (q=T):=by
      rw [Hid,HT.out]
      exact zgf (b:=B) aE zaL hd hq (by rw [←HT.out];exact aF.out) (by rw [←hm];exact aK)
     clear hm aE
     go_wp2_with fail
     refine (aA _).mono ?_
     rintro e w' ⟨rfl,rfl⟩
     go_wp2
     go_ret
     exact ⟨by rw [←HB.out];rfl,k,rfl⟩
    ·have aS:decide ((hi:Int)<(rest:Int))=false:=by rw [decide_eq_false_iff_not];omega
     by_cases hb:hi=rest
     ·have aQ:((hi:Int)==(rest:Int))=true:=by rw [beq_iff_eq];omega
      by_cases hc:lo≤r0
      ·have aH:decide ((lo:Int)≤(r0:Int))=true:=by rw [decide_eq_true_iff];omega
       have aK:hi*B+lo≤rest*B+r0:=by rw [hb];omega
       clear hb
       have HB:Hid (q=T):=by
        rw [Hid,HT.out]
        exact zgf (b:=B) aE zaL hd hq (by rw [←HT.out];exact aF.out) (by rw [←hm];exact aK)
       clear hm aE
       go_wp2_with fail
       refine (aA _).mono ?_
       rintro e w' ⟨rfl,rfl⟩
       go_wp2
       go_ret
       exact ⟨by rw [←HB.out];rfl,k,rfl⟩
      ·have aH:decide ((lo:Int)≤(r0:Int))=false:=by rw [decide_eq_false_iff_not];omega
       have aN:rest*B+r0<hi*B+lo:=by rw [hb];omega
       clear hb
       have aJ:rest*B+r0<q*d0:=by rw [←hm];exact aN
       obtain ⟨aM,aG⟩:=ziu (b:=B) (r2:=r2) (r1:=r1) (r0:=r0) (d1:=d1) aE zaL (by rw [←HT.out];exact aF.out) aJ
       rw [←HT.out] at aG
       have HD:=Lib.hid (zlr aE aM)
       have aL:=Lib.hid aG
       obtain ⟨s,c',hs,aI,aR,aC⟩:=zbN rest d1 0 aD hd1 (by omega)
       replace aC:∀ w:World,(callFunc 176 #[.int .u64 rest,.int .u64 d1,.int .u64 0]).run Tryz.prog w = .ok (.value (.tuple #[.int .u64 s,.int .u64 c'])) w:=aC
       have HV:Hid (Value.int .u64 ((q:Int) - 1)=Value.int .u64 ((q - 1:Nat):Int)):=by unfold Hid;congr 1;omega
       have HS:Hid (rest+d1=s+B*c'):=by unfold Hid;have e:B*c'=18446744073709551616*c':=rfl;rw [e];omega
       clear hs aG hm aJ aE
       go_wp2_with fail
       refine (aA _).mono ?_
       rintro e w' ⟨rfl,rfl⟩
       go_wp2_with fail
       go_round
       case rel=>exact ⟨q - 1,s,c',HV.out,rfl,rfl,by omega,aI,aR,by rw [Hid,←HS.out];exact HD.out,aL.out⟩
       case measure=>simp [intOf]<;>omega
     ·have aQ:((hi:Int)==(rest:Int))=false:=by rw [beq_eq_false_iff_ne];omega
      have aN:rest*B+r0<hi*B+lo:=by
       have h5:(rest+1)*B≤hi*B:=Nat.mul_le_mul_right _ (by omega)
       rw [Nat.add_mul,Nat.one_mul] at h5
       have:r0<B:=h0
       omega
      have aJ:rest*B+r0<q*d0:=by rw [←hm];exact aN
      obtain ⟨aM,aG⟩:=ziu (b:=B) (r2:=r2) (r1:=r1) (r0:=r0) (d1:=d1) aE zaL (by rw [←HT.out];exact aF.out) aJ
      rw [←HT.out] at aG
      have HD:=Lib.hid (zlr aE aM)
      have aL:=Lib.hid aG
      obtain ⟨s,c',hs,aI,aH,aC⟩:=zbN rest d1 0 aD hd1 (by omega)
      replace aC:∀ w:World,(callFunc 176 #[.int .u64 rest,.int .u64 d1,.int .u64 0]).run Tryz.prog w = .ok (.value (.tuple #[.int .u64 s,.int .u64 c'])) w:=aC
      have HV:Hid (Value.int .u64 ((q:Int) - 1)=Value.int .u64 ((q - 1:Nat):Int)):=by unfold Hid;congr 1;omega
      have HS:Hid (rest+d1=s+B*c'):=by unfold Hid;have e:B*c'=18446744073709551616*c':=rfl;rw [e];omega
      clear hs aG hm aJ aE
      go_wp2_with fail
      refine (aA _).mono ?_
      rintro e w' ⟨rfl,rfl⟩
      go_wp2_with fail
      go_round
      case rel=>exact ⟨q - 1,s,c',HV.out,rfl,rfl,by omega,aI,aH,by rw [Hid,←HS.out];exact HD.out,aL.out⟩
      case measure=>simp [intOf]<;>omega
   ·obtain rfl:cy=1:=by omega
    have HB:Hid (q=T):=by
     rw [Hid,HT.out]
     refine zkG (b:=B) (r2:=r2) (r1:=r1) (rest:=rest+B) ?_ zaL hd hq hd0 (by rw [←HT.out];exact aF.out) (Nat.le_add_left _ _)
     have h:=HQ.out
     rwa [Nat.mul_one] at h
    go_wp2
    go_ret
    exact ⟨by rw [←HB.out];rfl,k,rfl⟩
end Go.Proofs.YteajibbphcfmeaaGreatDoor
