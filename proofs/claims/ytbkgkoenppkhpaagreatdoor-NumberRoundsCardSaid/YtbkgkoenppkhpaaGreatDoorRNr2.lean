/- The reference's built and Above: halves and doubles of singles that are exact. -/
import Derived.Test.YtbkgkoenppkhpaaGreatDoorBNr2
import Derived.Test.YtbkgkoenppkhpaaGreatDoorRRtx
set_option maxRecDepth 100000
set_option maxHeartbeats 8000000
namespace Go.Proofs.YtbkgkoenppkhpaaGreatDoor
section
open Go.RowKit
open Flt
theorem ziV{m:Nat}{k V:Int}(h:mulQ (intQ (m:Int)) (twoK k)=za0 V)(hk : -149≤k):((m*2^(k+149).toNat:Nat):Int)=V:=by
 have hv:=zcv V;rw[←h] at hv;unfold twoK at hv
 by_cases h0:0≤k
 ·rw[if_pos h0] at hv
  have h1:=((Val.int (m:Int)).mul (Val.pow k.toNat)).scale (k:=2^149) (Nat.two_pow_pos _);rw[Nat.one_mul] at h1;have h2:=h1.inj hv;rw[←h2,←Int.natCast_mul,←Int.natCast_mul,Nat.mul_assoc,←Nat.pow_add,show k.toNat+149=(k+149).toNat by omega]
 ·rw[if_neg h0] at hv
  have h1:=((Val.int (m:Int)).mul (Val.powN (-k).toNat)).scale (k:=2^(k+149).toNat) (Nat.two_pow_pos _);rw[Nat.one_mul,←Nat.pow_add,show(-k).toNat+(k+149).toNat=149 by omega,Int.mul_one,←Int.natCast_mul] at h1;exact h1.inj hv
def UpTo (b:Bool) (g:Nat) (V:Int):Prop:=b=true→fin Ieee.single g=true∧V<key Ieee.single g
def zqq (V:Int) (e:Ending):Prop:=∃ (g:Nat) (b:Bool),e = .returned (.tuple #[.float .f32 g,.bool b])∧UpTo b g V
def ziA (f:Nat) (V:Int):Prop:=∀ W,Calls Tryz.prog 43 #[.float .f32 f] W fun e w'=>zqq V e∧W=w'
theorem zlv(f:Nat)(V:Int)(hP:zde f V):ziA f V:=by
 intro w;have HP:=Aa (hP w);clear hP;go_enter Tryz.func43,Tryz.ntmps43
 go_wp2_with fail
 refine HP.out.mono ?_;rintro e w1 ⟨⟨m,k,rfl,hm,hk,aF,hq⟩,rfl⟩;have HU:=Aa (ziV hq hk);clear hq;go_wp2
 go_loopg [4,5] (k+149).toNat (fun g v4 v5 W=>∃ (n:Nat) (j:Int),v4 = .int .i64 (n:Int)∧v5 = .int .i64 j∧n<16777216 ∧ -149≤j∧j≤104∧g=(j+149).toNat∧Hid (((n*2^(j+149).toNat:Nat):Int)=V)∧W=w)
 case atStart=>exact⟨m,k,rfl,rfl,hm,hk,aF,rfl,HU,rfl⟩
 case round=>
  obtain⟨n,j,rfl,rfl,hn,hj,aE,rfl,hu,rfl⟩:=hrel;clear HU hm hk aF HP
  by_cases hlt:n<8388608 ∧ -149<j
  ·have d1:decide ((n:Int)<8388608)=true:=decide_eq_true (by omega)
   have d2:decide (-149<j)=true:=decide_eq_true hlt.2;obtain⟨nn,aD⟩:∃ nn,nn=2*n:=⟨_,rfl⟩;obtain⟨jj,aH⟩:∃ jj,jj=j-1:=⟨_,rfl⟩;have hw:IntKind.i64.wrap (2*(n:Int))=(nn:Int):=by rw[IntWalk.i64_in _ (by omega)];omega
   have aN:IntKind.i64.wrap (j-1)=jj:=by rw[IntWalk.i64_in _ (by omega)];omega
   have aJ:Hid (((nn*2^(jj+149).toNat:Nat):Int)=V):=by
    show _=_
    rw[←hu.out,aD,show(j+149).toNat=(jj+149).toNat+1 by omega,Nat.pow_succ,Nat.mul_comm 2 n,Nat.mul_assoc,Nat.mul_comm 2]
   have aK:nn<16777216:=by omega
   have aG : -149≤jj∧jj≤104∧(jj+149).toNat<(j+149).toNat:=by omega
   have HJ:=Aa aG;clear aD aH hlt hu aG;go_wp2
   go_roundg (jj+149).toNat
   case rel=>exact⟨nn,jj,rfl,rfl,aK,HJ.out.1,HJ.out.2.1,rfl,aJ,rfl⟩
   case measure=>exact HJ.out.2.2
  ·have hd:decide ((n:Int)<8388608)=false∨(decide ((n:Int)<8388608)=true∧decide (-149<j)=false):=by
    by_cases h1:n<8388608
    ·exact .inr ⟨decide_eq_true (by omega),decide_eq_false (fun h2=>hlt ⟨h1,h2⟩)⟩
    ·exact .inl (decide_eq_false (by omega))
   have aM:j = -149∨8388608≤n:=by omega
   have dj:decide (j < -149)=false:=decide_eq_false (by omega);have aA:(n=16777215∧j=104)∨(((((n:Int)==16777215)=false)∨(((n:Int)==16777215)=true∧(j==104)=false))∧¬ (n+1=16777216∧j=104)):=by
    by_cases h1:n=16777215
    ·by_cases h2:j=104
     ·exact .inl ⟨h1,h2⟩
     ·exact .inr ⟨.inr ⟨by rw[h1];rfl,by simpa using h2⟩,by omega⟩
    ·exact .inr ⟨.inl (by rw[beq_eq_false_iff_ne];omega),by omega⟩
   obtain⟨n1,aC⟩:∃ n1,n1=n+1:=⟨_,rfl⟩;have hw:IntKind.i64.wrap ((n:Int)+1)=(n1:Int):=by rw[IntWalk.i64_in _ (by omega)];omega
   have HB:Hid (¬ (n+1=16777216∧j=104)→∃ F,fin Ieee.single F=true∧V<key Ieee.single F∧∀ w,Calls Tryz.prog 102 #[.int .i64 (n1:Int),.int .i64 j] w fun e w'=>e = .returned (.float .f32 F)∧w=w'):=fun hx=>by
    obtain⟨F,f1,f2,f3⟩:=zg3 n1 j (by omega) ⟨hj,aE⟩ (by rw[aC];exact hx) (by omega);refine⟨F,f1,?_,f3⟩;rw[f2,←hu.out,aC,Nat.add_mul,Nat.one_mul];have:=Nat.two_pow_pos (j+149).toNat;omega
   have HE:=Aa aA;clear hlt aM aA hn hj aE hu aC
   rcases hd with d1 | ⟨d1,d2⟩
   all_goals
    go_wp2
    go_loopg [4,5] 0 (fun g v4 v5 W=>g=0∧v4 = .int .i64 (n:Int)∧v5 = .int .i64 j∧W=wr)
    case atStart=>exact⟨rfl,rfl,rfl,rfl⟩
    case round=>
     obtain⟨rfl,rfl,rfl,rfl⟩:=hrel
     rcases HE.out with⟨rfl,rfl⟩ | ⟨aL,hx⟩
     ·go_wp2
      go_ret2
      exact⟨⟨0,false,rfl,fun h=>by cases h⟩,rfl⟩
     ·obtain⟨F,f1,f2,f3⟩:=HB.out hx
      have HF:=Aa f3;have aI:=Aa (And.intro f1 f2);clear f1 f2 f3 hx
      rcases aL with c1 | ⟨c1,c2⟩
      all_goals
       go_wp2_with fail
       refine(HF.out wr).mono ?_;rintro e w2 ⟨rfl,rfl⟩;go_wp2
       go_ret2
       exact⟨⟨F,true,rfl,fun _=>aI.out⟩,rfl⟩
end
section
open Go.RowKit Bn Dn
theorem tAdd{p q:Q}(hp:LowQ p)(hq:LowQ q){N:Nat}(sp:Small p N)(sq:Small q N)(h0:0<N)(hN:N≤300):zax 45 #[.string (txt p),.string (txt q)] (.string (txt (addQ p q))):=fun W=>
 zcH (zp3 _ _ _ _ W (zbs hp) (zbs hq) (by have:=zbl hp sp h0;omega) (by have:=zbl hq sq h0;omega))
theorem zp7 {p:Q} (hp:LowQ p) {N:Nat} (sp:Small p N) (h0:0<N) (hN:N≤300):zax 10 #[.string (txt p)] (.int .i64 0):=fun W=>by
 have h:=zej (txt p) W (by have:=zbl hp sp h0;omega);rw[(zns (zbs hp) sp (by omega) h0).1] at h;exact h
end
section
open Go.RowKit Bn Dn
open Flt
theorem zjV (a b:ByteArray) (z:Nat) (w:World) (KV:zd8) (hT:Tabs w) (H0:zax 38 #[.string a,.int .i64 40] (.bool false)) :
  Calls Tryz.prog 5 #[.string a,.string b,.float .f32 z] w fun e w'=>e = .returned (.bool true)∧Below w.heap.size w w':=by
 have HK:=Aa KV;have h0:=Aa H0;clear KV H0;go_enter Tryz.func5,Tryz.ntmps5
 go_wp2_with fail
 refine(HK.out w hT).mono ?_;rintro e w2 ⟨rfl,aE⟩
 go_wp2_with fail
 refine(h0.out w2).mono ?_;rintro e w3 ⟨rfl,aD⟩;have aA:=(bvia aE aD)
 go_wp2_with fail
 refine(HK.out w3 (hT.later aA)).mono ?_;rintro e w5 ⟨rfl,aC⟩;have aF:=(bvia aA aC);go_wp2
 go_ret;exact⟨rfl,aF⟩
theorem zjj(a b:ByteArray)(z:Nat)(w:World)(KV:zd8)(hT:Tabs w)(H0:zax 38 #[.string a,.int .i64 40] (.bool true))(H1:zax 38 #[.string b,.int .i64 40] (.bool false)) :
  Calls Tryz.prog 5 #[.string a,.string b,.float .f32 z] w fun e w'=>e = .returned (.bool true)∧Below w.heap.size w w':=by
 have HK:=Aa KV;have h0:=Aa H0;have h1:=Aa H1;clear KV H0 H1;go_enter Tryz.func5,Tryz.ntmps5
 go_wp2_with fail
 refine(HK.out w hT).mono ?_;rintro e w2 ⟨rfl,aE⟩
 go_wp2_with fail
 refine(h0.out w2).mono ?_;rintro e w3 ⟨rfl,aD⟩
 go_wp2_with fail
 refine(h1.out w3).mono ?_;rintro e w4 ⟨rfl,aG⟩;have aA:=(bvia (bvia aE aD) aG)
 go_wp2_with fail
 refine(HK.out w4 (hT.later aA)).mono ?_;rintro e w6 ⟨rfl,aF⟩;have aC:=(bvia aA aF);go_wp2
 go_ret;exact⟨rfl,aC⟩
theorem zjH(a b:ByteArray)(z:Nat)(w:World)(KV:zd8)(hT:Tabs w)(H0:zax 38 #[.string a,.int .i64 40] (.bool true))(H1:zax 38 #[.string b,.int .i64 40] (.bool true))(H2:zax 31 #[.float .f32 z] (.bool false)) :
  Calls Tryz.prog 5 #[.string a,.string b,.float .f32 z] w fun e w'=>e = .returned (.bool true)∧Below w.heap.size w w':=by
 have HK:=Aa KV;have h0:=Aa H0;have h1:=Aa H1;have h2:=Aa H2;clear KV H0 H1 H2;go_enter Tryz.func5,Tryz.ntmps5
 go_wp2_with fail
 refine(HK.out w hT).mono ?_;rintro e w2 ⟨rfl,aF⟩
 go_wp2_with fail
 refine(h0.out w2).mono ?_;rintro e w3 ⟨rfl,aE⟩
 go_wp2_with fail
 refine(h1.out w3).mono ?_;rintro e w4 ⟨rfl,aG⟩
 go_wp2_with fail
 refine(h2.out w4).mono ?_;rintro e w5 ⟨rfl,aD⟩;have aA:=(bvia (bvia (bvia aF aE) aG) aD)
 go_wp2_with fail
 refine(HK.out w5 (hT.later aA)).mono ?_;rintro e w7 ⟨rfl,aC⟩;have aH:=(bvia aA aC);go_wp2
 go_ret;exact⟨rfl,aH⟩
theorem zdW(a b o:ByteArray)(z bk f g:Nat)(ea eb:Int)(w:World)(KV:zd8)(hT:Tabs w)
 (hFA:zax 38 #[.string a,.int .i64 40] (.bool true))(hFB:zax 38 #[.string b,.int .i64 40] (.bool true))(hFZ:zax 31 #[.float .f32 z] (.bool true))(hXZ:zcr 30 #[.float .f32 z] (.tuple #[.string o,.int .i64 0]))(hCO:zax 10 #[.string o] (.int .i64 0))(hFO:zcr 36 #[.string o] (.tuple #[.float .f32 bk,.int .i64 0]))(hRA:zcr 36 #[.string a] (.tuple #[.float .f32 f,.int .i64 ea]))(hRB:zcr 36 #[.string b] (.tuple #[.float .f32 g,.int .i64 eb]))
 (db:(FloatKind.f32.format.order bk z != some .eq)=false)(he:(ea=0∧eb=4)∨(ea=4∧eb=0)∨(ea=4∧eb=4)) :
  Calls Tryz.prog 5 #[.string a,.string b,.float .f32 z] w fun e w'=>e = .returned (.bool true)∧Below w.heap.size w w':=by
 have HK:=Aa KV;have aR:=Aa hFA;have aL:=Aa hFB;have aP:=Aa hFZ;have aU:=Aa hXZ;have aN:=Aa hCO;have aT:=Aa hFO;have aS:=Aa hRA;have aQ:=Aa hRB;clear KV hFA hFB hFZ hXZ hCO hFO hRA hRB;go_enter Tryz.func5,Tryz.ntmps5
 go_wp2_with fail
 refine(HK.out w hT).mono ?_;rintro e w2 ⟨rfl,aX⟩
 go_wp2_with fail
 refine(aR.out w2).mono ?_;rintro e w3 ⟨rfl,aW⟩
 go_wp2_with fail
 refine(aL.out w3).mono ?_;rintro e w4 ⟨rfl,aM⟩
 go_wp2_with fail
 refine(aP.out w4).mono ?_;rintro e w5 ⟨rfl,aO⟩;have aI:=(bvia (bvia (bvia aX aW) aM) aO)
 go_wp2_with fail
 refine(aU.out w5 (hT.later aI)).mono ?_;rintro e w7 ⟨rfl,aJ⟩
 go_wp2_with fail
 refine(aN.out w7).mono ?_;rintro e w8 ⟨rfl,aV⟩;have aH:=(bvia (bvia aI aJ) aV)
 go_wp2_with fail
 refine(aT.out w8 (hT.later aH)).mono ?_;rintro e aK ⟨rfl,aG⟩;have aA:=(bvia aH aG)
 go_wp2_with fail
 refine(aS.out aK (hT.later aA)).mono ?_;rintro e aY ⟨rfl,aE⟩;have aC:=(bvia aA aE)
 go_wp2_with fail
 refine(aQ.out aY (hT.later aC)).mono ?_;rintro e aZ ⟨rfl,aF⟩;have aD:=(bvia aC aF)
 rcases he with⟨rfl,rfl⟩ | ⟨rfl,rfl⟩ | ⟨rfl,rfl⟩
 all_goals
  go_wp2
  go_ret;exact⟨rfl,aD⟩
theorem zj4(a b o x s1 t1 s2 t2 na:ByteArray)(z bk f g fo:Nat)(c1 c2 V:Int)(w:World)(KV:zd8)(hT:Tabs w)
 (hFA:zax 38 #[.string a,.int .i64 40] (.bool true))(hFB:zax 38 #[.string b,.int .i64 40] (.bool true))(hFZ:zax 31 #[.float .f32 z] (.bool true))(hXZ:zcr 30 #[.float .f32 z] (.tuple #[.string o,.int .i64 0]))(hCO:zax 10 #[.string o] (.int .i64 0))(hFO:zcr 36 #[.string o] (.tuple #[.float .f32 bk,.int .i64 0]))(hRA:zcr 36 #[.string a] (.tuple #[.float .f32 f,.int .i64 0]))(hRB:zcr 36 #[.string b] (.tuple #[.float .f32 g,.int .i64 0]))(hFF:zax 31 #[.float .f32 f] (.bool true))(hFG:zax 31 #[.float .f32 g] (.bool true))(hXF:zcr 30 #[.float .f32 f] (.tuple #[.string x,.int .i64 0]))(hCX:zax 10 #[.string x] (.int .i64 0))(hS1:zax 41 #[.string a,.string x] (.string s1))(hA1:zax 40 #[.string s1] (.string t1))(hS2:zax 41 #[.string a,.string o] (.string s2))(hA2:zax 40 #[.string s2] (.string t2))(hC1:zax 39 #[.string t1,.string t2] (.int .i64 c1))(hC2:zax 39 #[.string a,.string b] (.int .i64 c2))(hNG:zax 42 #[.string a] (.string na))(hFN:zcr 36 #[.string na] (.tuple #[.float .f32 fo,.int .i64 0]))(hAB:(FloatKind.f32.format.order f 0==some .lt)=false→ziA f V)
 (db:(FloatKind.f32.format.order bk z != some .eq)=false)(dc1:decide (0<c1)=false)(hc2:((decide (c2≤0)=true∧(FloatKind.f32.format.order f g==some .gt)=false∧(decide (0≤c2)=false∨(decide (0≤c2)=true∧(FloatKind.f32.format.order f g==some .lt)=false)))∨(decide (c2≤0)=false∧decide (0≤c2)=true∧(FloatKind.f32.format.order f g==some .lt)=false)))(dn:(FloatKind.f32.format.order fo (Op.negFloat .f32 f) != some .eq)=false)(htl:(∀ g2,fin Ieee.single g2=true∧V<key Ieee.single g2→∃ (xn ad md:ByteArray) (c3:Int),zax 33 #[.float .f32 g2] (.string xn)∧zax 45 #[.string x,.string xn] (.string ad)∧zax 44 #[.string ad] (.string md)∧zax 39 #[.string a,.string md] (.int .i64 c3)∧decide (c3≤0)=true)) :
  Calls Tryz.prog 5 #[.string a,.string b,.float .f32 z] w fun e w'=>e = .returned (.bool true)∧Below w.heap.size w w':=by
 have HK:=Aa KV;have cR:=Aa hFA;have bJ:=Aa hFB;have bW:=Aa hFZ;have cF:=Aa hXZ;have cO:=Aa hCO;have bO:=Aa hFO;have bY:=Aa hRA;have dA:=Aa hRB;have cJ:=Aa hFF;have cN:=Aa hFG;have dB:=Aa hXF;have cI:=Aa hCX;have cH:=Aa hS1;have bR:=Aa hA1;have bX:=Aa hS2;have bV:=Aa hA2;have bT:=Aa hC1;have bC:=Aa hC2;have bH:=Aa hNG;have cC:=Aa hFN;have cK:=Aa hAB;clear KV hFA hFB hFZ hXZ hCO hFO hRA hRB hFF hFG hXF hCX hS1 hA1 hS2 hA2 hC1 hC2 hNG hFN hAB;have bI:=Aa hc2;have cW:=Aa htl;clear hc2 htl;have bK:∀ F:Nat,Op.unary .neg (.float .f32 F)=pure (.float .f32 (Op.negFloat .f32 F)):=fun _=>rfl
 go_enter Tryz.func5,Tryz.ntmps5
 go_wp2_with fail
 refine(HK.out w hT).mono ?_;rintro e w2 ⟨rfl,dD⟩
 go_wp2_with fail
 refine(cR.out w2).mono ?_;rintro e w3 ⟨rfl,cG⟩
 go_wp2_with fail
 refine(bJ.out w3).mono ?_;rintro e w4 ⟨rfl,bL⟩
 go_wp2_with fail
 refine(bW.out w4).mono ?_;rintro e w5 ⟨rfl,bU⟩;have bG:=(bvia (bvia (bvia dD cG) bL) bU)
 go_wp2_with fail
 refine(cF.out w5 (hT.later bG)).mono ?_;rintro e w7 ⟨rfl,cU⟩
 go_wp2_with fail
 refine(cO.out w7).mono ?_;rintro e w8 ⟨rfl,cS⟩;have bF:=(bvia (bvia bG cU) cS)
 go_wp2_with fail
 refine(bO.out w8 (hT.later bF)).mono ?_;rintro e bS ⟨rfl,aQ⟩;have aE:=(bvia bF aQ)
 go_wp2_with fail
 refine(bY.out bS (hT.later aE)).mono ?_;rintro e bQ ⟨rfl,aP⟩;have aF:=(bvia aE aP)
 go_wp2_with fail
 refine(dA.out bQ (hT.later aF)).mono ?_;rintro e bZ ⟨rfl,aX⟩
 go_wp2_with fail
 refine(cJ.out bZ).mono ?_;rintro e cA ⟨rfl,bA⟩
 go_wp2_with fail
 refine(cN.out cA).mono ?_;rintro e dC ⟨rfl,aU⟩;have aD:=(bvia (bvia (bvia aF aX) bA) aU)
 go_wp2_with fail
 refine(dB.out dC (hT.later aD)).mono ?_;rintro e cV ⟨rfl,aJ⟩
 go_wp2_with fail
 refine(cI.out cV).mono ?_;rintro e cT ⟨rfl,aH⟩
 go_wp2_with fail
 refine(cH.out cT).mono ?_;rintro e cP ⟨rfl,aV⟩
 go_wp2_with fail
 refine(bR.out cP).mono ?_;rintro e cY ⟨rfl,bB⟩
 go_wp2_with fail
 refine(bX.out cY).mono ?_;rintro e cL ⟨rfl,aY⟩
 go_wp2_with fail
 refine(bV.out cL).mono ?_;rintro e bM ⟨rfl,aG⟩
 go_wp2_with fail
 refine(bT.out bM).mono ?_;rintro e bP ⟨rfl,aI⟩
 go_wp2_with fail
 refine(bC.out bP).mono ?_;rintro e bN ⟨rfl,aS⟩;have aK:=(bvia (bvia (bvia (bvia (bvia (bvia (bvia (bvia aD aJ) aH) aV) bB) aY) aG) aI) aS)
 rcases bI.out with⟨e1,e2,e3 | ⟨e3,e4⟩⟩ | ⟨e1,e3,e4⟩
 all_goals
  go_wp2_with fail
  refine(bC.out bN).mono ?_;rintro e cB ⟨rfl,aR⟩
  go_wp2_with fail
  refine(bH.out cB).mono ?_;rintro e cM ⟨rfl,aO⟩;have aC:=(bvia (bvia aK aR) aO)
  go_wp2_with fail
  refine(cC.out cM (hT.later aC)).mono ?_;rintro e bE ⟨rfl,aW⟩;have aA:=(bvia aC aW)
  rcases hlt:(FloatKind.f32.format.order f 0==some .lt) with _ | _
  ·go_wp2_with fail
   refine(cK.out hlt bE).mono ?_;rintro e dF ⟨⟨g2,is,rfl,bD⟩,rfl⟩
   cases is
   ·go_wp2
    go_ret;exact⟨rfl,aA⟩
   ·obtain⟨xn,ad,md,c3,k1,k2,k3,k4,d3⟩:=cW.out g2 (bD rfl)
    have M1:=Aa k1;have M2:=Aa k2;have M3:=Aa k3;have M4:=Aa k4;clear k1 k2 k3 k4 bD
    go_wp2_with fail
    refine(M1.out bE).mono ?_;rintro e cQ ⟨rfl,aM⟩
    go_wp2_with fail
    refine(M2.out cQ).mono ?_;rintro e cE ⟨rfl,aZ⟩
    go_wp2_with fail
    refine(M3.out cE).mono ?_;rintro e cZ ⟨rfl,aL⟩
    go_wp2_with fail
    refine(M4.out cZ).mono ?_;rintro e dG ⟨rfl,aN⟩;have aT:=(bvia (bvia (bvia (bvia aA aM) aZ) aL) aN);go_wp2
    go_ret;exact⟨rfl,aT⟩
  ·go_wp2
   go_ret;exact⟨rfl,aA⟩
end
section
open Go.RowKit Bn
open Flt
theorem zgG(d:Nat)(W:World)(hf:fin Ieee.single d=true):Calls Tryz.prog 31 #[.float .f32 d] W fun e w'=>e = .returned (.bool true)∧Below W.heap.size W w':=by
 have h9:=zdi d W
 rwa [hf] at h9
end
section
open Go.RowKit Bn Dn
open Flt
theorem zqB(b:Nat):(b ^^^ 2147483648)%2147483648=b%2147483648∧((b ^^^ 2147483648)/2147483648%2==1) = !(b/2147483648%2==1):=by
 have aA:(2147483648:Nat)=2^31:=by decide
 rw[aA]
 constructor
 ·rw[Nat.xor_mod_two_pow,Nat.mod_self,Nat.xor_zero]
 ·have h1:=Nat.testBit_eq_decide_div_mod_eq (x:=b ^^^ 2^31) (i:=31)
  have h2:=Nat.testBit_eq_decide_div_mod_eq (x:=b) (i:=31);rw[Nat.testBit_xor,Nat.testBit_two_pow_self,h2] at h1;have e:∀ n:Nat,(n==1)=decide (n=1):=fun n=>by
   by_cases h:n=1
   ·rw[h];rfl
   ·rw[decide_eq_false h,beq_eq_false_iff_ne];exact h
  rw[e,e,←h1,Bool.xor_true]
theorem zoR{b m:Nat}{s:Bool}{p:Int}(h:Ieee.single.read b = .number s m p):Ieee.single.read (b ^^^ 2147483648) = .number (!s) m p:=by
 obtain⟨x1,x2⟩:=zqB b;unfold Ieee.Format.read at h ⊢;rw[zeh,za9,zdx,zaI] at h ⊢
 dsimp only at h ⊢
 rw[x1,x2];generalize hr:b%2147483648=r at *
 by_cases h1:r<8388608
 ·rw[if_pos h1] at h ⊢
  injection h with h2 h3 h4
  rw[h2,h3,h4]
 ·rw[if_neg h1] at h ⊢
  by_cases h2:r<2139095040
  ·rw[if_pos h2] at h ⊢
   injection h with h2 h3 h4
   rw[h2,h3,h4]
  ·rw[if_neg h2] at h
   split at h<;>cases h
theorem zq4{f:Nat}(hf:fin Ieee.single f=true):fin Ieee.single (Op.negFloat .f32 f)=true∧key Ieee.single (Op.negFloat .f32 f) = -key Ieee.single f:=by
 have e:Op.negFloat .f32 f=f ^^^ 2147483648:=rfl;rw[e];have aA:=hf;unfold fin at aA
 split at aA
 ·rename_i s n p h
  have h2:=zoR h;refine⟨zaT h2,?_⟩;unfold key;rw[h,h2,zaI]
  dsimp only
  unfold Ieee.signed
  cases s<;>simp
 ·cases aA
theorem zme{f:Nat}(hf:fin Ieee.single f=true)(h0:0≤key Ieee.single f):zde f (key Ieee.single f):=by
 have aA:=hf;unfold fin at aA
 split at aA
 ·rename_i s n e h
  cases s
  ·have hp:=Ps.of h
   rw[hp.key.2];exact zeO hp
  ·have hk:key Ieee.single f = -((n*2^(e+149).toNat:Nat):Int):=by
    unfold Flt.key;rw[h,zaI];simp only[Ieee.signed,Nat.shiftLeft_eq]
    rw[show(e - -149).toNat=(e+149).toNat from by omega];rfl
   have hn:n=0:=by
    rcases Nat.eq_zero_or_pos n with h9 | h9
    ·exact h9
    ·have:=Nat.mul_pos h9 (Nat.two_pow_pos (e+149).toNat)
     omega
   subst hn;have aC:key Ieee.single f=0:=by rw[hk,Nat.zero_mul];rfl
   rw[aC];exact zhe h hf aC
 ·cases aA
theorem zkM{q:Q}(hl:LowQ q)(hs:Small q 100):zcr 36 #[.string (txt q)] (.tuple #[.float .f32 (flW q),.int .i64 (flX q)]):=fun W hT=>by
 have h:=zdP (txt q) W hT (by have:=zbl hl hs (by omega);omega);obtain⟨r1,r2⟩:=zpO (zbs hl) hs (by omega) (by omega);rw[r1,r2,if_neg (by omega),if_neg (by omega)] at h;exact h
theorem zjX (p q:Q) (z:Nat) (w:World) (KV:zd8) (hT:Tabs w) (lp:LowQ p) (lq:LowQ q) (sp:Small p 40) (sq:Small q 40) (hz:fin Ieee.single z=true)
  (kA:zax 38 #[.string (txt p),.int .i64 40] (.bool true)) (kB:zax 38 #[.string (txt q),.int .i64 40] (.bool true)) :
  Calls Tryz.prog 5 #[.string (txt p),.string (txt q),.float .f32 z] w fun e w'=>e = .returned (.bool true)∧Below w.heap.size w w':=by
 obtain⟨o1,o2,o3⟩:=zo7 hz;have lu:=fun V=>zcX V
 have su:=zdb hz;have kO:=zkM (lu (key Ieee.single z)) (su.more (by omega));rw[o1] at kO;have db:(FloatKind.f32.format.order (flW (za0 (key Ieee.single z))) z != some .eq)=false:=by
  rw[zgr o2 hz,o3,decide_eq_true rfl];rfl
 have aC:=zkM lp (sp.more (show 40≤100 by omega));have aA:=zkM lq (sq.more (show 40≤100 by omega));have aD:=zp7 (lu (key Ieee.single z)) su (by omega) (by omega);have aE:zax 31 #[.float .f32 z] (.bool true):=fun W=>zgG z W hz
 rcases zj6 p with hx | hx
 ·rcases zj6 q with hy | hy
  ·rw[hx] at aC
   rw[hy] at aA;obtain⟨fp, -⟩:=zcN lp.1 hx;obtain⟨fq, -⟩:=zcN lq.1 hy;obtain⟨n1,n2,n3⟩:=zkh lp hx;have aR:=zqS fp fq;have aL:=zrt fp fq;have aH:=zq4 fp;have aJ:=zgr n2 aH.1;rw[n3,aH.2,decide_eq_true rfl] at aJ;have sx:=zdb fp;have aI:=sp.more (show 40≤90 by omega);have aT:=tSub lp (lu (key Ieee.single (flW p))) aI sx (by omega) (by omega);have aS:=tSub lp (lu (key Ieee.single z)) aI su (by omega) (by omega);have m1:=ze1 sp sx lp.1 (lu (key Ieee.single (flW p))).1;have m2:=ze1 sp su lp.1 (lu (key Ieee.single z)).1;have l1:=zhJ p (za0 (key Ieee.single (flW p))) lp.1 (lu _).1;have l2:=zhJ p (za0 (key Ieee.single z)) lp.1 (lu _).1;have aN:=tAbs l1 m1 (by omega) (by omega);have aO:=tAbs l2 m2 (by omega) (by omega);have aQ:=tCmp (zhA l1) (zhA l2) (N:=131) ⟨m1.1,m1.2⟩ ⟨m2.1,m2.2⟩ (by omega) (by omega);have aU:=zpV lp hx hz;have aP:=tNeg lp sp (by omega) (by omega);have aK:=zkM (zig lp) ((zeT sp).more (show 40≤100 by omega));rw[n1] at aK;refine zj4 (txt p) (txt q) _ _ _ _ _ _ _ z _ _ _ _ _ _ (key Ieee.single (flW p)) w KV hT kA kB aE (zhs hz) aD kO aC aA (fun W=>zgG _ W fp) (fun W=>zgG _ W fq) (zhs fp) (zp7 (lu _) sx (by omega) (by omega)) aT aN aS aO aQ (tCmp lp lq sp sq (by omega) (by omega)) aP aK ?_ db (decide_eq_false (by omega)) ?_ aJ ?_
   ·intro aM
    rw[zdH fp] at aM;exact zlv _ _ (zme fp (by have:=of_decide_eq_false aM;omega))
   ·by_cases hc:cmpI p q≤0
    ·have k1:=zf2 lp lq hx hy hc
     refine .inl ⟨decide_eq_true hc,by rw[aR];exact decide_eq_false (by omega),?_⟩
     by_cases hc2:0≤cmpI p q
     ·have aF:cmpI q p≤0:=by have:=zkz lq.1 lp.1;omega
      have k2:=zf2 lq lp hy hx aF;exact .inr ⟨decide_eq_true hc2,by rw[aL];exact decide_eq_false (by omega)⟩
     ·exact .inl (decide_eq_false hc2)
    ·have aF:cmpI q p≤0:=by have:=zkz lq.1 lp.1;omega
     have k2:=zf2 lq lp hy hx aF;exact .inr ⟨decide_eq_false hc,decide_eq_true (by omega),by rw[aL];exact decide_eq_false (by omega)⟩
   ·intro g2 ⟨hg,hv⟩
    have sg:=zdb hg;have aG:=zpt lp hx hg hv;have la:LowQ (addQ (za0 (key Ieee.single (flW p))) (za0 (key Ieee.single g2))):=zbo _ (Nat.mul_pos (lu _).1 (lu _).1);have sa:Small (addQ (za0 (key Ieee.single (flW p))) (za0 (key Ieee.single g2))) 90:=by
     rw[zkC];refine zjx ?_;have:=zop fp;have:=zop hg;omega
    refine⟨_,_,_,_,zm9 hg,tAdd (lu _) (lu _) sx sg (by omega) (by omega),zrN la sa (by omega) (by omega),tCmp lp (zhY _ _ la.1 (by decide)) (sp.more (show 40≤91 by omega)) (zm7 (M:=90) (N:=1) sa ⟨by decide,by decide⟩ la.1 (by decide)) (by omega) (by omega),decide_eq_true aG⟩
  ·rw[hx] at aC
   rw[hy] at aA;exact zdW (txt p) (txt q) _ z _ _ _ _ _ w KV hT kA kB aE (zhs hz) aD kO aC aA db (.inl ⟨rfl,rfl⟩)
 ·rw[hx] at aC
  rcases zj6 q with hy | hy
  ·rw[hy] at aA
   exact zdW (txt p) (txt q) _ z _ _ _ _ _ w KV hT kA kB aE (zhs hz) aD kO aC aA db (.inr (.inl ⟨rfl,rfl⟩))
  ·rw[hy] at aA
   exact zdW (txt p) (txt q) _ z _ _ _ _ _ w KV hT kA kB aE (zhs hz) aD kO aC aA db (.inr (.inr ⟨rfl,rfl⟩))
theorem zlH(a b:ByteArray)(z:Nat)(w:World)(KV:zd8)(hT:Tabs w) :
  Calls Tryz.prog 5 #[.string a,.string b,.float .f32 z] w fun e w'=>e = .returned (.bool true)∧Below w.heap.size w w':=by
 obtain⟨b1,f1,c1⟩:=zmI 40 a (by omega) (by omega);obtain⟨b2,f2,c2⟩:=zmI 40 b (by omega) (by omega);have aA:zax 38 #[.string a,.int .i64 40] (.bool b1):=c1;have aC:zax 38 #[.string b,.int .i64 40] (.bool b2):=c2
 cases b1
 ·exact zjV a b z w KV hT aA
 ·cases b2
  ·exact zjj a b z w KV hT aA aC
  ·obtain⟨h1,h2, -⟩:=f1 rfl
   obtain⟨h3,h4, -⟩:=f2 rfl
   cases hz:fin Ieee.single z
   ·have kz:zax 31 #[.float .f32 z] (.bool false):=fun W=>by
     have:=zdi z W
     rwa [hz] at this
    exact zjH a b z w KV hT aA aC kz
   ·have ea:=zhF h1
    have eb:=zhF h3;have la:=zgb h1;have lb:=zgb h3;generalize zaf a.data.toList=p at *;generalize zaf b.data.toList=q at *;subst ea eb;exact zjX p q z w KV hT la lb h2 h4 hz aA aC
end
end Go.Proofs.YtbkgkoenppkhpaaGreatDoor
