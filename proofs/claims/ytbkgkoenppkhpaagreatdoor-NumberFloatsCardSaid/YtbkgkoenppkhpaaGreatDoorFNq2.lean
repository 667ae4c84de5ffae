/- NumberFloats: the law from its calls. -/
import Derived.Test.YtbkgkoenppkhpaaGreatDoorFNx2
set_option maxRecDepth 100000
set_option maxHeartbeats 8000000
namespace Go.Proofs.YtbkgkoenppkhpaaGreatDoor
open Go.RowKit Bn Dn
open Flt
theorem zpr(f:Nat)(a:ByteArray)(A:Option Addr)(n c:Nat)(w:World)(KV:zd8)(hT:Tabs w)(hw:decide (60<a.size)=true) :
  Calls Tryz.prog 4 #[.float .f32 f,.string a,.slice A n c] w fun e w'=>e = .returned (.bool true)∧Below w.heap.size w w':=by
 have HK:=Aa KV;clear KV;go_enter Tryz.func4,Tryz.ntmps4
 go_wp2_with fail
 refine(HK.out w hT).mono ?_;rintro e w2 ⟨rfl,aF⟩;have aD:=aF;have aE:Below w2.heap.size w2 (w2.alloc (.cells #[.string a] 22)):=Ac;have HW:=Aa (zf1 a _ _ _ (CBlk.new w2 #[.string a] 22 _ rfl));rw[hw] at HW
 go_wp2_with fail
 refine HW.out.mono ?_;rintro e w5 ⟨rfl,rfl⟩;clear HW;have aA:=(bvia aD aE);generalize (w2.alloc (.cells #[.string a] 22))=v5 at *
 go_wp2_with fail
 refine(HK.out v5 (hT.later aA)).mono ?_;rintro e w7 ⟨rfl,aC⟩;have aG:=(bvia aA aC);go_wp2
 go_ret;exact⟨rfl,aG⟩
theorem zki(f:Nat)(a:ByteArray)(A:Option Addr)(n c:Nat)(w:World)(KV:zd8)(hT:Tabs w)(hw:decide (60<a.size)=false)(d1:decide ((40:Int)<(n:Int))=true)(hd:decide ((n:Int)≤4096)=true∨(decide ((n:Int)≤4096)=false∧decide ((4098:Int)<(n:Int))=true)) :
  Calls Tryz.prog 4 #[.float .f32 f,.string a,.slice A n c] w fun e w'=>e = .returned (.bool true)∧Below w.heap.size w w':=by
 have HK:=Aa KV;clear KV
 rcases hd with d2 | ⟨d2,d3⟩
 all_goals
  go_enter Tryz.func4,Tryz.ntmps4
  go_wp2_with fail
  refine(HK.out w hT).mono ?_;rintro e w2 ⟨rfl,aF⟩;have aD:=aF;have aE:Below w2.heap.size w2 (w2.alloc (.cells #[.string a] 22)):=Ac;have HW:=Aa (zf1 a _ _ _ (CBlk.new w2 #[.string a] 22 _ rfl));rw[hw] at HW
  go_wp2_with fail
  refine HW.out.mono ?_;rintro e w5 ⟨rfl,rfl⟩;clear HW;have aA:=(bvia aD aE);generalize (w2.alloc (.cells #[.string a] 22))=v5 at *
  go_wp2_with fail
  refine(HK.out v5 (hT.later aA)).mono ?_;rintro e w7 ⟨rfl,aC⟩;have aG:=(bvia aA aC);go_wp2
  go_ret;exact⟨rfl,aG⟩
theorem zkG(f g h:Nat)(a x y:ByteArray)(A:Option Addr)(n c:Nat)(E1 S E2 E3:Int)(w:World)(KV:zd8)(hT:Tabs w)(hw:decide (60<a.size)=false)(hd:(decide ((40:Int)<(n:Int))=false∧decide ((4098:Int)<(n:Int))=false)∨(decide ((40:Int)<(n:Int))=true∧decide ((n:Int)≤4096)=false∧decide ((4098:Int)<(n:Int))=false))
 (h1:zcr 30 #[.float .f32 f] (.tuple #[.string x,.int .i64 E1]))(hf:(E1=0∧(zax 31 #[.float .f32 f] (.bool true))∧(zax 33 #[.float .f32 f] (.string y))∧(zax 32 #[.string x,.int .i64 0,.int .i64 0,.string y] (.bool true)))∨(E1=1∧(zax 31 #[.float .f32 f] (.bool false))∧(zax 32 #[.string x,.int .i64 1,.int .i64 1,.string ⟨#[]⟩] (.bool true))))(h2:(∀ W,Below w.heap.size w W→Calls Tryz.prog 34 #[.slice A n c] W fun e w'=>e = .returned (.int .i64 S)∧Below W.heap.size W w'))(h3:(∀ W,Below w.heap.size w W→Calls Tryz.prog 35 #[.slice A n c] W fun e w'=>e = .returned (.int .i64 S)∧Below W.heap.size W w'))(h4:zcr 36 #[.string a] (.tuple #[.float .f32 g,.int .i64 E2]))(h5:zax 10 #[.string a] (.int .i64 E3))
 (ht:(E3≠0∧(E3 != 0)=true∧E2=E3∧(FloatKind.f32.format.order g 0==some .eq)=true)∨(E3=0∧(FloatKind.f32.format.order g 0==some .eq)=true∧E2=4∧zax 37 #[.string a] (.tuple #[.float .f32 h,.bool false]))∨(E3=0∧E2=0∧(FloatKind.f32.format.order g h==some .eq)=true∧(FloatKind.f32.format.order g 0 != some .eq)=true∧zax 37 #[.string a] (.tuple #[.float .f32 h,.bool true]))∨(E3=0∧E2=0∧g=0∧(FloatKind.f32.format.order 0 h==some .eq)=true∧zax 37 #[.string a] (.tuple #[.float .f32 h,.bool true]))) :
  Calls Tryz.prog 4 #[.float .f32 f,.string a,.slice A n c] w fun e w'=>e = .returned (.bool true)∧Below w.heap.size w w':=by
 have HK:=Aa KV;have J1:=Aa h1;have J2:=Aa h2;have J3:=Aa h3;have J4:=Aa h4;have J5:=Aa h5;have HF:=Aa hf;have HT:=Aa ht;have dS:(S != S)=false:=by simp
 have dE:(E3==E3)=true:=by simp
 have hq:=fun W=>run_float_arith (P:=Tryz.prog) W .quo 46 .f32 1065353216 0 2139095040 (by decide +kernel)
 have bP:(FloatKind.f32.format.order 2139095040 0==some .gt)=true:=by decide +kernel
 have bO:(FloatKind.f32.format.order 0 0 != some .eq)=false:=by decide +kernel
 clear KV h1 h2 h3 h4 h5 hf ht
 rcases hd with⟨d1,d2⟩ | ⟨d1,d2,d3⟩
 all_goals
  go_enter Tryz.func4,Tryz.ntmps4
  go_wp2_with fail
  refine(HK.out w hT).mono ?_;rintro e w2 ⟨rfl,bM⟩;have bG:=bM;have bL:Below w2.heap.size w2 (w2.alloc (.cells #[.string a] 22)):=Ac;have HW:=Aa (zf1 a _ _ _ (CBlk.new w2 #[.string a] 22 _ rfl));rw[hw] at HW
  go_wp2_with fail
  refine HW.out.mono ?_;rintro e w5 ⟨rfl,rfl⟩;clear HW;have bD:=(bvia bG bL);generalize (w2.alloc (.cells #[.string a] 22))=v5 at *
  go_wp2_with fail
  refine(J1.out v5 (hT.later bD)).mono ?_;rintro e w7 ⟨rfl,bE⟩;have bA:=(bvia bD bE)
  rcases HF.out with⟨rfl,f1,f2,f3⟩ | ⟨rfl,f1,f2⟩
  ·have M1:=Aa f1
   have M2:=Aa f2;have M3:=Aa f3;clear HF f1 f2 f3
   go_wp2_with fail
   refine(M1.out w7).mono ?_;rintro e w9 ⟨rfl,aT⟩
   go_wp2_with fail
   refine(M2.out w9).mono ?_;rintro e aR ⟨rfl,aI⟩
   go_wp2_with fail
   refine(M3.out aR).mono ?_;rintro e bF ⟨rfl,aY⟩;have aL:=(bvia (bvia (bvia bA aT) aI) aY)
   go_wp2_with fail
   refine(J2.out bF aL).mono ?_;rintro e bJ ⟨rfl,aW⟩;have aP:=(bvia aL aW)
   go_wp2_with fail
   refine(J3.out bJ aP).mono ?_;rintro e bH ⟨rfl,aZ⟩;have aO:=(bvia aP aZ)
   go_wp2_with fail
   refine(J4.out bH (hT.later aO)).mono ?_;rintro e aM ⟨rfl,aH⟩
   go_wp2_with fail
   refine(J5.out aM).mono ?_;rintro e aQ ⟨rfl,aS⟩;have aF:=(bvia (bvia aO aH) aS)
   rcases HT.out with⟨e0,e1,rfl,e3⟩ | ⟨rfl,e1,rfl,k⟩ | ⟨rfl,rfl,e3,e4,k⟩ | ⟨rfl,rfl,rfl,e4,k⟩
   ·have HE:=Aa e0
    clear e0;go_wp2
    go_ret;exact⟨rfl,aF⟩
   ·have HQ:=Aa k
    clear k
    go_wp2_with fail
    refine(HQ.out aQ).mono ?_;rintro e bB ⟨rfl,aE⟩;have aD:=(bvia aF aE);go_wp2
    go_ret;exact⟨rfl,aD⟩
   ·have HQ:=Aa k
    clear k
    go_wp2_with fail
    refine(HQ.out aQ).mono ?_;rintro e bB ⟨rfl,aE⟩;have aD:=(bvia aF aE);go_wp2
    go_ret;exact⟨rfl,aD⟩
   ·have HQ:=Aa k
    clear k
    go_wp2_with fail
    refine(HQ.out aQ).mono ?_;rintro e bB ⟨rfl,aE⟩;have aD:=(bvia aF aE);go_wp2
    go_ret;exact⟨rfl,aD⟩
  ·have M1:=Aa f1
   have M2:=Aa f2;clear HF f1 f2
   go_wp2_with fail
   refine(M1.out w7).mono ?_;rintro e w9 ⟨rfl,aT⟩
   go_wp2_with fail
   refine(M2.out w9).mono ?_;rintro e aR ⟨rfl,aI⟩;have aK:=(bvia (bvia bA aT) aI)
   go_wp2_with fail
   refine(J2.out aR aK).mono ?_;rintro e bN ⟨rfl,aU⟩;have aN:=(bvia aK aU)
   go_wp2_with fail
   refine(J3.out bN aN).mono ?_;rintro e bI ⟨rfl,aV⟩;have aJ:=(bvia aN aV)
   go_wp2_with fail
   refine(J4.out bI (hT.later aJ)).mono ?_;rintro e bK ⟨rfl,aX⟩
   go_wp2_with fail
   refine(J5.out bK).mono ?_;rintro e aM ⟨rfl,aH⟩;have aG:=(bvia (bvia aJ aX) aH)
   rcases HT.out with⟨e0,e1,rfl,e3⟩ | ⟨rfl,e1,rfl,k⟩ | ⟨rfl,rfl,e3,e4,k⟩ | ⟨rfl,rfl,rfl,e4,k⟩
   ·have HE:=Aa e0
    clear e0;go_wp2
    go_ret;exact⟨rfl,aG⟩
   ·have HQ:=Aa k
    clear k
    go_wp2_with fail
    refine(HQ.out aM).mono ?_;rintro e bC ⟨rfl,aC⟩;have aA:=(bvia aG aC);go_wp2
    go_ret;exact⟨rfl,aA⟩
   ·have HQ:=Aa k
    clear k
    go_wp2_with fail
    refine(HQ.out aM).mono ?_;rintro e bC ⟨rfl,aC⟩;have aA:=(bvia aG aC);go_wp2
    go_ret;exact⟨rfl,aA⟩
   ·have HQ:=Aa k
    clear k
    go_wp2_with fail
    refine(HQ.out aM).mono ?_;rintro e bC ⟨rfl,aC⟩;have aA:=(bvia aG aC);go_wp2
    go_ret;exact⟨rfl,aA⟩
theorem zrk{p:Q}(hb:0<p.bot)(hx:flX p=0)(h:key Ieee.single (flW p)=0):flW p=0:=by
 have hk:=(zcN hb hx).2;rw[h] at hk;unfold flW
 by_cases h0:p.top=0
 ·rw[if_pos h0]
 ·rw[if_neg h0] at hk ⊢
  have h1:flN p.top p.bot=0:=by
   rcases Nat.eq_zero_or_pos (flN p.top p.bot) with h9 | h9
   ·exact h9
   ·exfalso
    have h8:=Nat.mul_pos h9 (Nat.two_pow_pos (flE p.top p.bot+149).toNat);have h7:=zb2 p.neg (flN p.top p.bot*2^(flE p.top p.bot+149).toNat);rw[←hk] at h7;omega
  rw[if_pos h1]
theorem zrq{p:Q}(hx:flX p=4):flW p=0:=by
 unfold flX at hx;unfold flW
 split
 ·rfl
 ·rename_i h0
  rw[if_neg h0] at hx
  split
  ·rfl
  ·rename_i h1
   rw[if_neg h1] at hx
   split
   ·rfl
   ·rename_i h2
    rw[if_neg h2] at hx;omega
theorem zoM(q:Q)(N:Nat)(hl:LowQ q)(hs:Small q N)(h0:0<N)(hN:N≤300)(hw:zau q=0):zax 32 #[.string (txt q),.int .i64 0,.int .i64 0,.string (txt q)] (.bool true):=fun W=>by
 have h:=zrS (txt q) (txt q) q W (by unfold zbr;rw[if_pos hw];exact(zbs hl).1) (zbs hl) (by have:=zbl hl hs h0;omega);rw[hw] at h;exact h
theorem zpc (E:Int) (hE:E≠0):zax 32 #[.string ⟨#[]⟩,.int .i64 E,.int .i64 E,.string ⟨#[]⟩] (.bool true):=fun W=>
 (zq3 ⟨#[]⟩ E W hE).mono fun _ _ ⟨he,hw⟩=>⟨he,by rw[hw];exact Below.refl _ _⟩
theorem zq0 (f:Nat) (a:ByteArray) (A:Option Addr) (n c:Nat) (l:List Nat) (w:World) (KV:zd8) (hT:Tabs w) (hrd:zaA w w.heap.size 1 A n (l.map f32v)) (hn:n≤maxLen) :
  Calls Tryz.prog 4 #[.float .f32 f,.string a,.slice A n c] w fun e w'=>e = .returned (.bool true)∧Below w.heap.size w w':=by
 by_cases hw:60<a.size
 ·exact zpr f a A n c w KV hT (decide_eq_true hw)
 have dw:decide (60<a.size)=false:=decide_eq_false hw
 by_cases hL:40<n∧n≤4096
 ·exact zki f a A n c w KV hT dw (decide_eq_true (by omega)) (.inl (decide_eq_true (by omega)))
 by_cases hL2:4098<n
 ·exact zki f a A n c w KV hT dw (decide_eq_true (by omega)) (.inr ⟨decide_eq_false (by omega),decide_eq_true (by omega)⟩)
 have hd:(decide ((40:Int)<(n:Int))=false∧decide ((4098:Int)<(n:Int))=false)∨(decide ((40:Int)<(n:Int))=true∧decide ((n:Int)≤4096)=false∧decide ((4098:Int)<(n:Int))=false):=by
  by_cases h40:40<n
  ·exact .inr ⟨decide_eq_true (by omega),decide_eq_false (by omega),decide_eq_false (by omega)⟩
  ·exact .inl ⟨decide_eq_false (by omega),decide_eq_false (by omega)⟩
 have k2:∀ W,Below w.heap.size w W→Calls Tryz.prog 34 #[.slice A n c] W fun e w'=>e = .returned (.int .i64 (smpE l))∧Below W.heap.size W w':=fun W hb=>zfq A n c l W (hrd.later hb) hn
 have k3:∀ W,Below w.heap.size w W→Calls Tryz.prog 35 #[.slice A n c] W fun e w'=>e = .returned (.int .i64 (smpE l))∧Below W.heap.size W w':=fun W hb=>zfp A n c l W (hrd.later hb) hn
 have k4:zcr 36 #[.string a] (.tuple #[.float .f32 (if zan a.data.toList≠0 then 0 else flW (zaf a.data.toList)),.int .i64 (if zan a.data.toList≠0 then zan a.data.toList else flX (zaf a.data.toList))]):=fun W hT=>zdP a W hT (by omega)
 have k5:zax 10 #[.string a] (.int .i64 (zan a.data.toList)):=fun W=>zej a W (by omega)
 have hF:=fun W=>zdi f W
 have hz:=zgr zbu.1 zbu.1;have aC:=zhX zbu.1 zbu.1;rw[decide_eq_true rfl] at hz aC;have aA:∃ h:Nat,((zan a.data.toList≠0∧(zan a.data.toList != 0)=true∧(if zan a.data.toList≠0 then zan a.data.toList else flX (zaf a.data.toList))=zan a.data.toList∧(FloatKind.f32.format.order (if zan a.data.toList≠0 then 0 else flW (zaf a.data.toList)) 0==some .eq)=true) ∨
   (zan a.data.toList=0∧(FloatKind.f32.format.order (if zan a.data.toList≠0 then 0 else flW (zaf a.data.toList)) 0==some .eq)=true∧(if zan a.data.toList≠0 then zan a.data.toList else flX (zaf a.data.toList))=4∧zax 37 #[.string a] (.tuple #[.float .f32 h,.bool false])) ∨
   (zan a.data.toList=0∧(if zan a.data.toList≠0 then zan a.data.toList else flX (zaf a.data.toList))=0∧(FloatKind.f32.format.order (if zan a.data.toList≠0 then 0 else flW (zaf a.data.toList)) h==some .eq)=true∧(FloatKind.f32.format.order (if zan a.data.toList≠0 then 0 else flW (zaf a.data.toList)) 0 != some .eq)=true∧zax 37 #[.string a] (.tuple #[.float .f32 h,.bool true])) ∨
   (zan a.data.toList=0∧(if zan a.data.toList≠0 then zan a.data.toList else flX (zaf a.data.toList))=0∧(if zan a.data.toList≠0 then 0 else flW (zaf a.data.toList))=0∧(FloatKind.f32.format.order 0 h==some .eq)=true∧zax 37 #[.string a] (.tuple #[.float .f32 h,.bool true]))):=by
  by_cases h0:zan a.data.toList=0
  ·rw[if_neg (by omega),if_neg (by omega)]
   have hq:=zfT h0;have hs:=hq.small (N:=60) (by omega) (by omega);obtain⟨F,b,hb,hg⟩:=zlB _ hq.2 hs;rw[←zhF h0] at hg;generalize zaf a.data.toList=p at *
   rcases hb with⟨rfl,x1,x2,x3⟩ | ⟨rfl,x1,x2⟩
   ·have aE:=zcN hq.2.1 x1
    have he:=zhX aE.1 x2;rw[x3,decide_eq_true rfl] at he;have aD:=zgr aE.1 zbu.1;rw[zbu.2] at aD
    by_cases hk0:key Ieee.single (flW p)=0
    ·have aF:=zrk hq.2.1 x1 hk0
     rw[aF] at he;exact⟨F,.inr (.inr (.inr ⟨h0,x1,aF,he,hg⟩))⟩
    ·rw[decide_eq_false hk0] at aD
     exact⟨F,.inr (.inr (.inl ⟨h0,x1,he,aD,hg⟩))⟩
   ·exact⟨F,.inr (.inl ⟨h0,by rw[zrq x1];exact aC,x1,hg⟩)⟩
  ·rw[if_pos h0,if_pos h0]
   exact⟨0,.inl ⟨h0,by simpa using h0,rfl,aC⟩⟩
 obtain⟨h,aA⟩:=aA
 cases hf:fin Ieee.single f
 ·have k1:zcr 30 #[.float .f32 f] (.tuple #[.string ⟨#[]⟩,.int .i64 1]):=fun W hT=>by
   have h9:=zgC f W hT;rw[hf,if_neg (by simp),if_neg (by simp)] at h9;refine h9.mono ?_;rintro e w' ⟨s,rfl,hs,hb⟩;have es:s=⟨#[]⟩:=by
    obtain⟨d⟩:=s
    congr 1
    rw[←Array.toArray_toList (xs:=d)];show d.toList.toArray=#[]
    rw[show d.toList=[] from hs]
   rw[es];exact⟨rfl,hb⟩
  rw[hf] at hF;exact zkG f _ h a _ ⟨#[]⟩ A n c 1 _ _ _ w KV hT dw hd k1 (.inr ⟨rfl,hF,zpc 1 (by omega)⟩) k2 k3 k4 k5 aA
 ·rw[hf] at hF
  have hx:=zkI hf;rw[hx.1] at hx;exact zkG f _ h a _ _ A n c 0 _ _ _ w KV hT dw hd (zhs hf) (.inl ⟨rfl,hF,zm9 hf,zoM _ 90 (zcX _) (zdb hf) (by omega) (by omega) hx.2⟩) k2 k3 k4 k5 aA
end Go.Proofs.YtbkgkoenppkhpaaGreatDoor
