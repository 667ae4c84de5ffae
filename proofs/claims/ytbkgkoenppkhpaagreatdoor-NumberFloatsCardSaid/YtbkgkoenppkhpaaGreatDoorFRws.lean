/- Slices of slices, and rows of one's own, in words; what is kept while only one block turns. -/
import Derived.Test.YtbkgkoenppkhpaaGreatDoorBNr2
import Derived.Test.YtbkgkoenppkhpaaGreatDoorBOpn
set_option maxRecDepth 100000
set_option maxHeartbeats 4000000
namespace Go.Proofs.YtbkgkoenppkhpaaGreatDoor
section
open Go.RowKit
def f32v (x:Nat):Value := .float .f32 x
section
variable {α:Type} {f : α→Value} {w w':World} {B B' n:Nat} {A:Option Addr} {rows:List (List α)}
end
section
variable {w w':World} {g B:Nat} {c:Array Value} {t:TypeId}
end
end
section
open Go.RowKit
open Flt
theorem zhG(args:Array Value)(w:World):(callFunc 96 args).run Tryz.prog w = .ok (.enter 96 args) w:=by kernel_rfl
end
section
open Go.RowKit Bn Dn
theorem zl5(a:ByteArray)(p:Q)(w:World)(h:NumQ a p)(ha:a.size≤1000000) :
    Calls Tryz.prog 91 #[.string a] w fun e w'=>e = .returned (.int .i64 (zau p))∧Below w.heap.size w w':=by
  have hW:zau p=if 600<(Lib.decDigits p.top).length∨600<(Lib.decDigits p.bot).length then 4 else 0:=by
    unfold zau;rw[if_neg (by have:=h.2.1;omega)]
  have aK:LowQ (numQ p):=⟨Nat.one_pos,Nat.gcd_one_right _,h.2.2.2⟩;have aA:∀ t:ByteArray,NumQ t (absQ (numQ p))→t.size=(Lib.decDigits p.top).length:=fun t ht=>by
    have h9:=congrArg List.length ht.1;rw[Array.length_toList] at h9;rw[show t.size=t.data.size from rfl,h9];unfold zaO absQ numQ;simp
  have HN:=Aa (fun W=>zp4 a p W h (by omega));have HA:=Aa (fun (s:ByteArray) (hs:NumQ s (numQ p)) (hz:s.size≤1000000) (W:World)=>zmN s (numQ p) W hs hz);have HD:=Aa (fun W=>zqe a p W h (by omega));have aC:=Aa aA;obtain⟨L1,aF⟩:∃ L1,L1=(Lib.decDigits p.top).length:=⟨_,rfl⟩;obtain⟨L2,aE⟩:∃ L2,L2=(Lib.decDigits p.bot).length:=⟨_,rfl⟩;obtain⟨E,hE⟩:∃ E,E=zau p:=⟨_,rfl⟩;rw[←aF] at aC;rw[←aE] at HD;rw[←hE];have aD:(600<L1∧E=4)∨(¬ 600<L1∧600<L2∧E=4)∨(¬ 600<L1∧¬ 600<L2∧E=0):=by
    rw[hE,hW,←aF,←aE]
    by_cases h1:600<L1
    · exact .inl ⟨h1,if_pos (.inl h1)⟩
    · by_cases h2:600<L2
      · exact .inr (.inl ⟨h1,h2,if_pos (.inr h2)⟩)
      · exact .inr (.inr ⟨h1,h2,if_neg (fun h=>by omega)⟩)
  clear hW aK aA aF aE hE h
  rcases aD with⟨h1,rfl⟩ | ⟨h1,h2,rfl⟩ | ⟨h1,h2,rfl⟩
  case' inl=>have d1:decide ((600:Int)<(L1:Int))=true:=decide_eq_true (by omega)
  case' inr.inl=>have d1:decide ((600:Int)<(L1:Int))=false:=decide_eq_false (by omega)
  case' inr.inl=>have d2:decide ((600:Int)<(L2:Int))=true:=decide_eq_true (by omega)
  case' inr.inr=>have d1:decide ((600:Int)<(L1:Int))=false:=decide_eq_false (by omega)
  case' inr.inr=>have d2:decide ((600:Int)<(L2:Int))=false:=decide_eq_false (by omega)
  all_goals
    go_enter Tryz.func91,Tryz.ntmps91
    go_wp2_with fail
    refine(HN.out w).mono ?_;rintro e w1 ⟨⟨s,rfl,aG,aL⟩,rfl⟩;have HS:=Aa aG;clear aG
    go_wp2_with fail
    refine(HA.out s HS.out (by omega) w).mono ?_;rintro e w3 ⟨⟨t,rfl,aH⟩,aI⟩;have aJ:=aC.out t aH;rw[←aJ] at d1;clear aH aJ
    go_wp2_with fail
    first
      | (go_ret
         exact⟨rfl,aI⟩)
      | (refine(HD.out w3).mono ?_
         rintro e w4 ⟨⟨u,rfl,hu⟩,rfl⟩;rw[←hu] at d2;clear hu;go_wp2
         go_ret;exact⟨rfl,aI⟩)
theorem zi0(q:Q):zau q=0∨zau q=4∨zau q=6:=by
 unfold zau
 split
 ·exact .inr (.inr rfl)
 ·split
  ·exact .inr (.inl rfl)
  ·exact .inl rfl
theorem zrS(s t:ByteArray)(q:Q)(w:World)(hs:s.data.toList=zbr q)(ht:NumQ t q)(hz:t.size≤1000000) :
  Calls Tryz.prog 32 #[.string s,.int .i64 (zau q),.int .i64 0,.string t] w fun e w'=>e = .returned (.bool true)∧Below w.heap.size w w':=by
 have HL:=Aa (zl5 t q w ht hz);have hc:zau q=0∨zau q=4:=by
  rcases zi0 q with h | h | h
  ·exact .inl h
  ·exact .inr h
  ·exfalso
   unfold zau at h;rw[if_neg (by have:=ht.2.1;omega)] at h
   split at h<;>omega
 unfold zbr at hs
 rcases hc with h | h
 ·rw[if_pos h] at hs
  rw[h] at HL ⊢;obtain rfl:s=t:=by
   obtain⟨⟨x⟩⟩:=s;obtain⟨⟨y⟩⟩:=t;have e:x=y:=hs.trans ht.1.symm;rw[e]
  clear hs h;go_enter Tryz.func32,Tryz.ntmps32
  go_wp2_with fail
  refine HL.out.mono ?_;rintro e w1 ⟨rfl,hb⟩;go_wp2
  go_ret;exact⟨rfl,hb⟩
 ·rw[if_neg (by omega)] at hs
  rw[h] at HL ⊢;obtain rfl:s=⟨#[]⟩:=by
   obtain⟨⟨x⟩⟩:=s;have e:x=[]:=hs;rw[e]
  clear hs h;go_enter Tryz.func32,Tryz.ntmps32
  go_wp2_with fail
  refine HL.out.mono ?_;rintro e w1 ⟨rfl,hb⟩;go_wp2
  go_ret;exact⟨rfl,hb⟩
theorem zq3(t:ByteArray)(E:Int)(w:World)(hE:E≠0) :
  Calls Tryz.prog 32 #[.string ⟨#[]⟩,.int .i64 E,.int .i64 E,.string t] w fun e w'=>e = .returned (.bool true)∧w=w':=by
 have d1:(E==0)=false:=by simpa using hE
 have d2:(E != 0)=true:=by simpa using hE
 have HE:=Aa hE;clear hE;go_enter Tryz.func32,Tryz.ntmps32
 go_wp2
 go_ret;exact⟨by simp[go_sem],rfl⟩
end
section
open Go.RowKit Dn
theorem zhf(a:ByteArray)(p:Q)(w:World)(h:NumQ a p)(ha:a.size≤1000000) :
  Calls Tryz.prog 139 #[.string a] w fun e w'=>e = .returned (.bool (decide (p.bot=1)))∧w=w':=by
 obtain⟨k,hk⟩:∃ k,k=(sgnT p.neg (Lib.decDigits p.top)).length:=⟨_,rfl⟩;obtain⟨p1,p2,p3⟩:=zdX (t:=a) (l:=sgnT p.neg (Lib.decDigits p.top)) h.num hk;have aC:zbB a.data.toList=k:=by rw[show a.data.toList=sgnT p.neg (Lib.decDigits p.top)++zcT p.bot from h.num,zcI _ _ (zb4 (zaF p.top)),hk]
 have aA:=zbS a w (by omega);rw[aC] at aA;have aD:=Aa aA;have hd:((k:Int)==(a.size:Int))=decide (p.bot=1):=by
  by_cases hy:p.bot=1
  ·rw[decide_eq_true hy,beq_iff_eq]
   have:=p2 hy;omega
  ·rw[decide_eq_false hy,beq_eq_false_iff_ne]
   have:=(p3 hy).1;omega
 generalize decide (p.bot=1)=v at *;clear h hk p1 p2 p3 aC aA;go_enter Tryz.func139,Tryz.ntmps139
 go_wp2_with fail
 refine aD.out.mono ?_;rintro e w1 ⟨rfl,rfl⟩;go_wp2
 go_ret;exact⟨rfl,rfl⟩
def zcL (b:Bool) (x y:Nat):Int:=if b=true∧0<x%y then -((x/y:Nat):Int)-1 else sgn b (x/y)
theorem zhy(b:Bool)(x y:Nat)(A1 A2:Option Addr)(n1 c1 n2 c2:Nat)(w:World)(h1:DigI w A1 n1 c1 (digs x))(h2:DigI w A2 n2 c2 (digs y))(hy:0<y)(k1:n1≤500000)(k2:n2≤500000) :
  Calls Tryz.prog 141 #[.agg #[.bool b,.slice A1 n1 c1],.agg #[.bool false,.slice A2 n2 c2]] w (RetZ w (zcL b x y)):=by
 have aG:Below w.heap.size w (((w.alloc (.cells #[.bool b,.slice A1 n1 c1] 97)).alloc (.cells #[.bool false,.slice A2 n2 c2] 97)).alloc (.cells #[.bool false,.slice none 0 0] 97)):=(((Below.refl _ _).alloc (Nat.le_refl _) _).alloc (by simp) _).alloc (by simp;omega) _;have q0:CBlk (((w.alloc (.cells #[.bool b,.slice A1 n1 c1] 97)).alloc (.cells #[.bool false,.slice A2 n2 c2] 97)).alloc (.cells #[.bool false,.slice none 0 0] 97)) w.heap.size #[.bool b,.slice A1 n1 c1] 97:=((CBlk.new w _ _ _ rfl).below ((Below.refl _ _).alloc (Nat.le_refl _) _) (by simp)).below ((Below.refl _ _).alloc (Nat.le_refl _) _) (by simp;omega);have q1:CBlk (((w.alloc (.cells #[.bool b,.slice A1 n1 c1] 97)).alloc (.cells #[.bool false,.slice A2 n2 c2] 97)).alloc (.cells #[.bool false,.slice none 0 0] 97)) (w.heap.size+1) #[.bool false,.slice A2 n2 c2] 97:=(CBlk.new (w.alloc (.cells #[.bool b,.slice A1 n1 c1] 97)) _ _ (w.heap.size+1) (by simp)).below ((Below.refl _ _).alloc (Nat.le_refl _) _) (by simp);have q2:CBlk (((w.alloc (.cells #[.bool b,.slice A1 n1 c1] 97)).alloc (.cells #[.bool false,.slice A2 n2 c2] 97)).alloc (.cells #[.bool false,.slice none 0 0] 97)) (w.heap.size+1+1) #[.bool false,.slice none 0 0] 97:=CBlk.new ((w.alloc (.cells #[.bool b,.slice A1 n1 c1] 97)).alloc (.cells #[.bool false,.slice A2 n2 c2] 97)) _ _ (w.heap.size+1+1) (by simp);have d1:=h1.later aG;have d2:=h2.later aG;have aT:=Aa (zce A1 A2 n1 c1 n2 c2 x y (((w.alloc (.cells #[.bool b,.slice A1 n1 c1] 97)).alloc (.cells #[.bool false,.slice A2 n2 c2] 97)).alloc (.cells #[.bool false,.slice none 0 0] 97)) d1 d2 hy (by omega) (by omega));have x0:=q0.cell 0;have x1:=q0.cell 1;have y0:=q1.cell 0;have y1:=q1.cell 1;have bB:=h1.len;have bD:=zaa (Nat.div_le_self x y);have aO:Hid ((digs (x/y)).length≤500000):=by show _≤_;omega
 clear d1 d2 h1 h2 bB bD;obtain⟨r,hr⟩:∃ r,r=x%y:=⟨_,rfl⟩;obtain⟨qq,aM⟩:∃ qq,qq=x/y:=⟨_,rfl⟩;have HF:Hid (zcL b x y=if b=true∧0<r then -(qq:Int)-1 else sgn b qq):=by show _=_;unfold zcL;rw[hr,aM]
 have aS:=Aa hr;have aR:=Aa aM;rw[←aM] at aO;clear hr aM;have aK:b=false∨(b=true∧r=0)∨(b=true∧0<r):=by cases b<;>simp<;>omega
 rcases aK with rfl | ⟨rfl,aQ⟩ | ⟨rfl,aQ⟩
 ·have HZ:Hid (zcL false x y=sgn false qq):=by show zcL _ x y=_;rw[HF.out];simp
  rw[HZ.out];go_enter Tryz.func141,Tryz.ntmps141
  go_wp2_with fail
  generalize (((w.alloc (.cells #[.bool false,.slice A1 n1 c1] 97)).alloc (.cells #[.bool false,.slice A2 n2 c2] 97)).alloc (.cells #[.bool false,.slice none 0 0] 97))=w3 at *;refine aT.out.mono ?_;rintro e w4 ⟨A3,n3,c3,A4,n4,c4,rfl,hq,aE,aA⟩;rw[←aR.out] at hq;rw[←aS.out] at aE;have p0:=q0.below aA q0.lt;have p2:=q2.below aA q2.lt;have aF:=Ad aG aA;have aV:n3≤500000:=by rw[←hq.len];exact aO.out
  have aL:=aE.len;have aW:=p2;have g0:=p0.cell 0;clear x0 x1 y0 y1;have aD:=za3 false A3 n3 c3 (digs qq) w4 hq (by omega);rw[zak] at aD;generalize sgn false qq=z at *
  go_wp2_with fail
  refine aD.mono ?_;rintro e w9 ⟨A9,n9,c9,rfl,aJ,aC⟩;have k9:=p2.below aC p2.lt;have e0:=k9.cell 0;have e1:=k9.cell 1;have f0:=k9.frozen 0;have f1:=k9.frozen 1;have aH:=Ad aF aC
  go_wp2_with fail
  refine bodyPost_ret (v := .agg #[.bool (decide (z<0)),.slice A9 n9 c9]) (by simp[results,Tryz.results141,go_sem,e0,e1]) rfl ?_;exact⟨A9,n9,c9,rfl,aJ.box k9 _ _,zbO aH (by omega) _ _⟩
 ·have HZ:Hid (zcL true x y=sgn true qq):=by show zcL _ x y=_;rw[HF.out];rw[if_neg (by omega)]
  rw[HZ.out];go_enter Tryz.func141,Tryz.ntmps141
  go_wp2_with fail
  generalize (((w.alloc (.cells #[.bool false,.slice A1 n1 c1] 97)).alloc (.cells #[.bool false,.slice A2 n2 c2] 97)).alloc (.cells #[.bool false,.slice none 0 0] 97))=w3 at *;refine aT.out.mono ?_;rintro e w4 ⟨A3,n3,c3,A4,n4,c4,rfl,hq,aE,aA⟩;rw[←aR.out] at hq;rw[←aS.out] at aE;have p0:=q0.below aA q0.lt;have p2:=q2.below aA q2.lt;have aF:=Ad aG aA;have aV:n3≤500000:=by rw[←hq.len];exact aO.out
  have aL:=aE.len;have aW:=p2;have g0:=p0.cell 0;clear x0 x1 y0 y1;have aI:n4=0:=by rw[←aL,aQ,zal];rfl
  subst aI;have d0:decide ((0:Int)<((0:Nat):Int))=false:=by decide
  have aD:=za3 true A3 n3 c3 (digs qq) w4 hq (by omega);rw[zak] at aD;generalize sgn true qq=z at *
  go_wp2_with fail
  refine aD.mono ?_;rintro e w9 ⟨A9,n9,c9,rfl,aJ,aC⟩;have k9:=p2.below aC p2.lt;have e0:=k9.cell 0;have e1:=k9.cell 1;have f0:=k9.frozen 0;have f1:=k9.frozen 1;have aH:=Ad aF aC
  go_wp2_with fail
  refine bodyPost_ret (v := .agg #[.bool (decide (z<0)),.slice A9 n9 c9]) (by simp[results,Tryz.results141,go_sem,e0,e1]) rfl ?_;exact⟨A9,n9,c9,rfl,aJ.box k9 _ _,zbO aH (by omega) _ _⟩
 ·have HZ:Hid (zcL true x y = -(qq:Int)-1):=by show zcL _ x y=_;rw[HF.out];simp;omega
  rw[HZ.out];go_enter Tryz.func141,Tryz.ntmps141
  go_wp2_with fail
  generalize (((w.alloc (.cells #[.bool false,.slice A1 n1 c1] 97)).alloc (.cells #[.bool false,.slice A2 n2 c2] 97)).alloc (.cells #[.bool false,.slice none 0 0] 97))=w3 at *;refine aT.out.mono ?_;rintro e w4 ⟨A3,n3,c3,A4,n4,c4,rfl,hq,aE,aA⟩;rw[←aR.out] at hq;rw[←aS.out] at aE;have p0:=q0.below aA q0.lt;have p2:=q2.below aA q2.lt;have aF:=Ad aG aA;have aV:n3≤500000:=by rw[←hq.len];exact aO.out
  have aL:=aE.len;have aW:=p2;have g0:=p0.cell 0;clear x0 x1 y0 y1;have aI:0<n4:=by rw[←aL];exact zap aQ
  have d0:decide (0<(n4:Int))=true:=decide_eq_true (by omega);have aN:Below w4.heap.size w4 (w4.alloc (.cells #[.int .i64 1] 3)):=Ac;have bA:=Aa (zev A3 (some ⟨w4.heap.size,0,none⟩) n3 c3 1 1 (digs qq) [1] (w4.alloc (.cells #[.int .i64 1] 3)) (hq.later aN) (DigI.one (CBlk.new w4 _ _ _ rfl) (by decide)) (by omega) (by omega));have pA:=p2.below aN p2.lt;have pB:=p0.below aN p0.lt;have aU:=Ad aF aN
  go_wp2_with fail
  refine bA.out.mono ?_;rintro e w5 ⟨A5,n5,c5,ls,rfl,aZ,bE,bC,aP⟩;have pC:=pA.below aP pA.lt;have pD:=pB.below aP pB.lt;have aX:=Ad aU aP;clear g0;have g0:=pD.cell 0;have aD:=za3 true A5 n5 c5 ls w5 aZ (by omega);have aY:sgn true (val ls) = -(qq:Int)-1:=by rw[bC,zak];unfold sgn;simp;omega
  rw[aY] at aD;generalize -(qq:Int)-1=z at *
  go_wp2_with fail
  refine aD.mono ?_;rintro e w9 ⟨A9,n9,c9,rfl,aJ,aC⟩;have k9:=pC.below aC pC.lt;have e0:=k9.cell 0;have e1:=k9.cell 1;have f0:=k9.frozen 0;have f1:=k9.frozen 1;have aH:=Ad aX aC
  go_wp2_with fail
  refine bodyPost_ret (v := .agg #[.bool (decide (z<0)),.slice A9 n9 c9]) (by simp[results,Tryz.results141,go_sem,e0,e1]) rfl ?_;exact⟨A9,n9,c9,rfl,aJ.box k9 _ _,zbO aH (by omega) _ _⟩
def zfG (p:Q):Int:=zcL p.neg p.top p.bot
theorem zl1(b:Bool)(x y:Nat):(zcL b x y).natAbs≤x+1:=by
 have h:=Nat.div_le_self x y;unfold zcL;generalize x/y=t at *
 split
 ·omega
 ·rw[zb2];omega
theorem znU(x:Nat):(digs (x+1)).length≤(digs x).length+1:=by
 refine zab ?_;have h:=zac x;rw[Nat.pow_succ];have hB:2≤B:=by decide
 have:B^(digs x).length*2≤B^(digs x).length*B:=Nat.mul_le_mul_left _ hB;omega
theorem zjU{p:Q}(h:LowQ p)(h1:p.bot=1):p=intQ (zfG p):=by
 obtain⟨n,t,b⟩:=p
 dsimp only at h1
 subst h1;unfold zfG zcL
 dsimp only
 rw[Nat.mod_one,if_neg (by simp),Nat.div_one];unfold intQ;rw[zb2,zdp]
 cases n
 ·rfl
 ·have:=h.2.2 rfl
  dsimp only at this
  rw[decide_eq_true this];rfl
theorem zpG(a:ByteArray)(p:Q)(w:World)(h:NumQ a p)(ha:a.size≤100000) :
  Calls Tryz.prog 72 #[.string a] w (RetS w (intQ (zfG p))):=by
 have HW:=Aa (zhf a p w h (by omega))
 by_cases h1:p.bot=1
 ·rw[decide_eq_true h1] at HW
  have HR:Hid (NumQ a (intQ (zfG p))):=by show NumQ a _;rw[←zjU h.2 h1];exact h
  clear h h1;go_enter Tryz.func72,Tryz.ntmps72
  go_wp2_with fail
  refine HW.out.mono ?_;rintro e w1 ⟨rfl,rfl⟩;go_wp2
  go_ret;exact⟨⟨_,rfl,HR.out⟩,Below.refl _ _⟩
 ·rw[decide_eq_false h1] at HW
  have hp:=zbP a p.neg p.top p.bot w h.num h.2.2.2 h.2.1 (by omega);have HP:=Aa hp;have hl:=h.num.lens2 ha;have HL:=Aa hl;have HY:Hid (0<p.bot):=h.2.1;obtain⟨z,hz⟩:∃ z,z=zfG p:=⟨_,rfl⟩;have HZ:Hid (zcL p.neg p.top p.bot=z):=by show _=_;rw[hz];rfl
  have aH:Hid ((digs z.natAbs).length≤(digs p.top).length+1):=by
   show _≤_
   rw[hz];exact Nat.le_trans (zaa (zl1 _ _ _)) (znU _)
  have HR:Hid (∀ s:ByteArray,s.data.toList=sgnT (decide (z<0)) (Lib.decDigits z.natAbs)→NumQ s (intQ z)):=fun s hs=>⟨by rw[ziu];exact hs,zc4 z⟩
  have HN:Hid (decide (z<0)=true→0<z.natAbs):=fun h9=>by have h8:z<0:=of_decide_eq_true h9;show 0<z.natAbs;omega
  rw[←hz];clear hp hl h h1 hz;go_enter Tryz.func72,Tryz.ntmps72
  go_wp2_with fail
  refine HW.out.mono ?_;rintro e aI ⟨rfl,rfl⟩
  go_wp2_with fail
  refine HP.out.mono ?_;rintro e w1 ⟨A1,n1,c1,A2,n2,c2,rfl,aE,aC,aA⟩;have hB:Below w1.heap.size w1 ((w1.alloc (.cells #[.bool p.neg,.slice A1 n1 c1] 97)).alloc (.cells #[.bool false,.slice A2 n2 c2] 97)):=((Below.refl _ _).alloc (Nat.le_refl _) _).alloc (by simp) _;have e1:n1≤100000:=by rw[←aE.len];exact HL.out.1
  have e2:n2≤100001:=by rw[←aC.len];exact HL.out.2
  have HF:=zhy p.neg p.top p.bot A1 A2 n1 c1 n2 c2 _ (aE.later hB) (aC.later hB) HY.out (by omega) (by omega);rw[HZ.out] at HF;have HB:=Aa (aA.trans (hB.mono aA.size));clear aE aC hB aA
  go_wp2_with fail
  refine HF.mono ?_;rintro e w2 ⟨A5,n5,c5,rfl,aD,aF⟩;have e5:n5≤100001:=by rw[←aD.len];exact Nat.le_trans aH.out (Nat.succ_le_succ HL.out.1)
  have HT:=Aa (zeP _ _ A5 n5 c5 w2 aD HN.out (by omega));clear aD
  go_wp2_with fail
  refine HT.out.mono ?_;rintro e w3 ⟨⟨s,rfl,hs⟩,aG⟩;go_wp2
  go_ret;exact⟨⟨s,rfl,HR.out s hs⟩,HB.out.trans ((aF.trans (aG.mono aF.size)).mono HB.out.size)⟩
theorem ziK(a:ByteArray)(z:Nat)(w:World)(h:NumQ a (intQ (z:Int)))(hz:z<1000000000) :
  Calls Tryz.prog 101 #[.string a] w fun e w'=>e = .returned (.tuple #[.int .i64 (z:Int),.bool true])∧Below w.heap.size w w':=by
 have e1:intQ (z:Int)=⟨false,z,1⟩:=by unfold intQ;rw[show decide ((z:Int)<0)=false by simp,Int.natAbs_natCast]
 rw[e1] at h;have hs:Small ⟨false,z,1⟩ 9:=⟨hz,by show 1<10^9;decide⟩;have ha:a.size≤20:=h.size hs (by omega);have HW:=Aa (zhf a _ w h (by omega));have aD:=zei a false z w (by have h9:=h.1;rw[zaZ] at h9;simpa using h9) (by omega);have aI:(sgn false z).natAbs=z:=zb2 false z;have aH:decide (sgn false z<0)=false:=by rw[zdp];rfl
 unfold RetZ at aD;rw[aI,aH] at aD;have HP:=Aa aD;have d0:decide (20<(a.size:Int))=false:=decide_eq_false (by omega);clear e1 h hs ha aD aI aH;go_enter Tryz.func101,Tryz.ntmps101
 go_wp2_with fail
 refine HW.out.mono ?_;rintro e w1 ⟨rfl,rfl⟩
 go_wp2_with fail
 refine HP.out.mono ?_;rintro e w1 ⟨A,n,c,rfl,hd,aE⟩;have aF:Below w1.heap.size w1 (w1.alloc (.cells #[.bool false,.slice A n c] 97)):=Ac;have q0:CBlk (w1.alloc (.cells #[.bool false,.slice A n c] 97)) w1.heap.size #[.bool false,.slice A n c] 97:=CBlk.new _ _ _ _ rfl;have aC:=hd.later aF;have hB:=Ad aE aF;have x0:=q0.cell 0;have x1:=q0.cell 1;clear hd aE aF q0
 rcases Nat.eq_zero_or_pos z with h0 | h0
 ·subst h0
  have hn:n=0:=by rw[←aC.len,zal];rfl
  subst hn;clear aC;go_wp2
  go_loopg [5,6,7] 0 (fun g v5 v6 v7 W=>g=0∧v5 = .int .i64 0∧v6 = .int .i64 (-1)∧W=w1.alloc (.cells #[.bool false,.slice A 0 c] 97))
  case atStart=>exact⟨rfl,rfl,rfl,rfl⟩
  case round=>
   obtain⟨rfl,rfl,rfl,rfl⟩:=hrel;go_wp2
   go_ret2
   exact⟨rfl,hB⟩
 ·have aG:digs z=[z]:=zbt h0 hz
  have hn:n=1:=by rw[←aC.len,aG];rfl
  subst hn;obtain⟨ad,aK,rfl,aJ,aA⟩:=aC.rd.cellM (k:=0) (by omega);have hc:(w1.alloc (.cells #[.bool false,.slice (some ad) 1 c] 97)).cell? ad=some (.int .i64 (z:Int)):=by
   have h9:(digs z)[0]=z:=by simp[aG]
   unfold natv at aA;rw[h9] at aA;exact aA
  clear aC aA aK aJ aG;go_wp2
  go_loopg [5,6,7] 1 (fun g v5 v6 v7 W=>((g=1∧v5 = .int .i64 0∧v6 = .int .i64 0)∨(g=0∧v5 = .int .i64 (z:Int)∧v6 = .int .i64 (-1)))∧W=w1.alloc (.cells #[.bool false,.slice (some ad) 1 c] 97))
  case atStart=>exact⟨.inl ⟨rfl,rfl,rfl⟩,rfl⟩
  case round=>
   obtain⟨h9,rfl⟩:=hrel
   rcases h9 with⟨rfl,rfl,rfl⟩ | ⟨rfl,rfl,rfl⟩
   ·go_wp2
    go_roundg 0
    case rel=>exact⟨.inr ⟨rfl,rfl,rfl⟩,rfl⟩
    case measure=>omega
   ·go_wp2
    go_ret2
    exact⟨rfl,hB⟩
end
section
open Go.RowKit
open Flt
theorem zru:NumQ ⟨#[49,54,55,55,55,50,49,54]⟩ (intQ 16777216):=⟨by decide +kernel,zc4 _⟩
theorem zq1:NumQ ⟨#[56,51,56,56,54,48,56]⟩ (intQ 8388608):=⟨by decide +kernel,zc4 _⟩
theorem zkN:LowQ twoQ:=zd6.2
end
section
open Go.RowKit Bn Dn
open Flt
theorem zj5{p q:Q}{a b:Int}{x y:Nat}(h:Val p a x)(h':Val q b y):cmpI p q<0↔a*(y:Int)<b*(x:Int):=by
 obtain⟨c1,c2,c3⟩:=zgK h h';generalize a*(y:Int)=u at *;generalize b*(x:Int)=v at *
 rcases Int.lt_trichotomy u v with g | g | g
 ·have:=c1 g;omega
 ·have:=c2 g;omega
 ·have:=c3 g;omega
theorem zq9:Val twoQ 2 1:=⟨by decide,by decide,by decide⟩
end
section
open Go.RowKit Bn Dn
theorem zr9{p:Q}(hp:LowQ p){N:Nat}(sp:Small p N)(h0:0<N)(hN:N≤300):zax 12 #[.string (txt p)] (.int .i64 (zcy p)):=fun W=>
 (zh1 _ _ W (zbs hp) (by have:=zbl hp sp h0;omega)).mono fun _ _ ⟨he,hw⟩=>⟨he,by rw[hw];exact Below.refl _ _⟩
end
section
open Go.RowKit Go.WideShapes Go.ChangeShapes Go.Deep
section
variable {H:Type} {enc:TypeId × Value→H} {P:Program} {w:World} {base fuel:Nat} {held:Bool} {t e q:TypeId} {cs:List Value} {x:DataW H × List MemPlace}
theorem zpn {spare:Nat→Bool} (ht:P.underlying t=some (.float .f32)) (h:DataW.trod enc P w base spare held fuel t cs=some x):∃ b:Nat,cs=[.float .f32 b]:=by
 cases fuel with
 | zero=>simp[DataW.trod] at h
 | succ n=>
  unfold DataW.trod at h;rw[ht] at h
  split at h<;>simp_all
theorem znn(ht:P.underlying t=some (.slice e))(he:P.underlying e=some (.float .f32))(hc:P.cellsOf e=1)(h:DataW.trod enc P w base (fun _=>true) held fuel t cs=some x) :
  ∃ (A:Option Addr) (n c:Nat) (l:List Nat),cs=[.slice A n c]∧n≤c∧c≤maxLen∧(A=none→c=0)∧l.length=n∧zaA w w.heap.size 1 A n (l.map f32v):=by
 rcases open_slice1 ht hc h with⟨rfl,_⟩ | ⟨a,len,aC,m,n,V,D,Pl,rfl,_,hl,hm,aA,_,hx⟩
 ·exact⟨none,0,0,[],rfl,Nat.le_refl _,Nat.zero_le _,fun _=>rfl,rfl,zaA.none_⟩
 ·simp only[if_true] at aA
  subst aA;obtain⟨B,hB⟩:=choose_lt (α:=Nat) (p:=fun i b=>V i = .float .f32 b) (n:=m) (fun i hi=>by
   obtain⟨b,hb⟩:=zpn he (hx i hi).2;exact⟨b,by simpa using hb⟩)
  refine⟨some a,len,m,(List.range len).map B,rfl,hl,hm,(fun e=>by cases e),by simp,by simp,fun hp=>⟨a,rfl,?_,fun j u hu => ?_⟩⟩
  ·have h0:=(hx 0 (by omega)).1
   have:=World.block_lt_of_cell? w _ h0
   simpa[zbe] using this
  ·have hj:j<len:=by
    rcases Nat.lt_or_ge j len with h1 | h1
    ·exact h1
    ·rw[List.getElem?_eq_none (by simpa using h1)] at hu;cases hu
   have e1:=(hx j (by omega)).1;rw[hB j (by omega)] at e1;rw[List.getElem?_eq_getElem (by simpa using hj)] at hu;injection hu with hu
   rw[e1,←hu];simp[f32v]
end
section
variable {H:Type} {enc:TypeId × Value→H} {P:Program}
end
end
section
open Go.RowKit
open Flt
def smpE (l:List Nat):Int:=if 4096<l.length then 5 else if l.all (fin Ieee.single) then 0 else 1
theorem zfp(A:Option Addr)(n c:Nat)(l:List Nat)(w:World)(h:zaA w w.heap.size 1 A n (l.map f32v))(hn:n≤maxLen) :
  Calls Tryz.prog 35 #[.slice A n c] w fun e w'=>e = .returned (.int .i64 (smpE l))∧Below w.heap.size w w':=by
 unfold maxLen at hn;have hl:=h.lenM
 by_cases hb:4096<n
 ·have hv:Hid (smpE l=5):=by unfold Hid smpE;rw[if_pos (by omega)]
  have hd:decide (4096<n)=true:=by simpa using hb
  clear hl;go_enter Tryz.func35,Tryz.ntmps35
  go_wp2
  go_ret;exact⟨by rw[hv.out];rfl,Below.refl _ _⟩
 ·have hd:decide (4096<n)=false:=by simpa using hb
  have HL:=Aa hl;clear hl;go_enter Tryz.func35,Tryz.ntmps35
  go_wp2
  go_loopg [3] n (fun m s W=>∃ k:Nat,k≤n∧s = .int .i64 k∧n-k≤m∧Hid ((l.take k).all (fin Ieee.single)=true)∧Below w.heap.size w W)
  case atStart=>exact⟨0,Nat.zero_le _,rfl,by omega,by simp[Hid],Below.refl _ _⟩
  case round=>
   obtain⟨k,hk,rfl,hm,ha,aA⟩:=hrel
   by_cases h0:k<n
   ·obtain⟨ad,aJ,rfl,aL,aC⟩:=(h.below aA).cellM h0
    have hs:(l.take (k+1)).all (fin Ieee.single)=((l.take k).all (fin Ieee.single) && fin Ieee.single l[k]):=by
     rw[List.take_succ_eq_append_getElem aJ,List.all_append];simp
    have aI:∀ x ∈ l,l.all (fin Ieee.single)=true→fin Ieee.single x=true:=fun x hx aK=>List.all_eq_true.1 aK x hx
    have aD:l[k] ∈ l:=List.getElem_mem aJ;have aF:=aI _ aD;clear aI aD;unfold f32v at aC;generalize l[k]=x at *
    by_cases hf:fin Ieee.single x=true
    ·have hF:=zdi x wr
     rw[hf] at hF;have HF:=Aa hF;rw[hf,Bool.and_true,ha.out] at hs;have HS:=Aa hs;clear hF hf hs aF
     go_wp2_with fail
     refine HF.out.mono ?_;rintro e w1 ⟨rfl,aE⟩
     go_wp2_with fail
     go_roundg (n-(k+1))
     case measure=>omega
     case rel=>exact⟨k+1,by omega,by go_num,Nat.le_refl _,HS.out,aA.trans (aE.mono aA.size)⟩
    ·have aG:fin Ieee.single x=false:=by simpa using hf
     have hF:=zdi x wr;rw[aG] at hF;have HF:=Aa hF;have hv:Hid (smpE l=1):=by
      unfold Hid smpE;rw[if_neg (by have:=HL.out;omega),if_neg (fun h=>hf (aF h))]
     clear hF hf aG hs aF
     go_wp2_with fail
     refine HF.out.mono ?_;rintro e w1 ⟨rfl,aE⟩
     go_wp2_with fail
     go_ret;exact⟨by rw[hv.out];rfl,aA.trans (aE.mono aA.size)⟩
   ·have hv:Hid (smpE l=0):=by
     have aH:=ha.out;rw[List.take_of_length_le (by have:=HL.out;omega)] at aH;unfold Hid smpE;rw[if_neg (by have:=HL.out;omega),if_pos aH]
    go_wp2
    go_ret;exact⟨by rw[hv.out];rfl,aA⟩
theorem zjT(b:Nat)(i:Int)(w:World):Calls Tryz.prog 96 #[.int .i64 i,.float .f32 b] w fun e w'=>e = .returned (.int .i64 (if fin Ieee.single b=true then 0 else 1))∧Below w.heap.size w w':=by
 have h:=zfz b w
 cases hb:fin Ieee.single b
 ·rw[hb] at h
  have H:=Aa h;rw[if_neg (by simp)];clear h;go_enter Tryz.func96,Tryz.ntmps96
  go_wp2_with fail
  refine H.out.mono ?_;rintro e w1 ⟨rfl,aA⟩
  go_wp2_with fail
  go_ret;exact⟨rfl,aA⟩
 ·rw[hb] at h
  have H:=Aa h;rw[if_pos rfl];clear h;go_enter Tryz.func96,Tryz.ntmps96
  go_wp2_with fail
  refine H.out.mono ?_;rintro e w1 ⟨rfl,aA⟩
  go_wp2_with fail
  go_ret;exact⟨rfl,aA⟩
theorem zgY(A:Option Addr)(n c:Nat)(l:List Nat)(w:World)(h:zaA w w.heap.size 1 A n (l.map f32v))(hn:n≤maxLen) :
  Calls Tryz.prog 95 #[.slice A n c,.int .i64 0,.int .i64 4096,.func (.func 96) #[] #[]] w fun e w'=>e = .returned (.int .i64 (smpE l))∧Below w.heap.size w w':=by
 unfold maxLen at hn;have hl:=h.lenM;have aL:decide ((n:Int)<0)=false:=by simp
 have eg:=zhG
 by_cases hb:4096<n
 ·have hv:Hid (smpE l=5):=by unfold Hid smpE;rw[if_pos (by omega)]
  have aJ:decide (4096<n)=true:=by simpa using hb
  clear hl;go_enter Tryz.func95,Tryz.ntmps95
  go_wp2
  go_ret;exact⟨by rw[hv.out];rfl,Below.refl _ _⟩
 ·have aJ:decide (4096<n)=false:=by simpa using hb
  have HL:=Aa hl;clear hl;go_enter Tryz.func95,Tryz.ntmps95
  go_wp2
  go_loopg [22] n (fun m s W=>∃ k:Nat,k≤n∧s = .int .i64 k∧n-k≤m∧Hid ((l.take k).all (fin Ieee.single)=true)∧Below w.heap.size w W)
  case atStart=>exact⟨0,Nat.zero_le _,rfl,by omega,by simp[Hid],Below.refl _ _⟩
  case round=>
   obtain⟨k,hk,rfl,hm,ha,aA⟩:=hrel
   by_cases h0:k<n
   ·obtain⟨ad,aH,rfl,aK,aC⟩:=(h.below aA).cellM h0
    have hs:(l.take (k+1)).all (fin Ieee.single)=((l.take k).all (fin Ieee.single) && fin Ieee.single l[k]):=by
     rw[List.take_succ_eq_append_getElem aH,List.all_append];simp
    have aF:l.all (fin Ieee.single)=true→fin Ieee.single l[k]=true:=fun aI=>List.all_eq_true.1 aI _ (List.getElem_mem aH)
    unfold f32v at aC;generalize l[k]=x at *;have hC:=zjT x k wr
    cases hf:fin Ieee.single x
    ·rw[hf,if_neg (by simp)] at hC
     have HC:=Aa hC;have hv:Hid (smpE l=1):=by
      unfold Hid smpE;have aD:l.all (fin Ieee.single)=false:=by
       cases h9:l.all (fin Ieee.single)
       ·rfl
       ·rw[aF h9] at hf;cases hf
      rw[if_neg (by rw[HL.out];omega),aD,if_neg (by simp)]
     clear hC hf aF hs
     go_wp2_with (go_at_fn 96;refine HC.out.mono ?_;rintro e w1 ⟨rfl,aE⟩)
     go_ret;exact⟨by rw[hv.out];rfl,aA.trans (aE.mono aA.size)⟩
    ·rw[hf,if_pos rfl] at hC
     have HC:=Aa hC;rw[hf,Bool.and_true,ha.out] at hs;have HS:=Aa hs;clear hC hf aF hs
     go_wp2_with (go_at_fn 96;refine HC.out.mono ?_;rintro e w1 ⟨rfl,aE⟩)
     go_roundg (n-(k+1))
     case measure=>omega
     case rel=>exact⟨k+1,by omega,by go_num,Nat.le_refl _,HS.out,aA.trans (aE.mono aA.size)⟩
   ·have aG:k=n:=by omega
    have hv:Hid (smpE l=0):=by
     unfold Hid smpE;have aD:=ha.out;rw[aG,←HL.out,List.take_length] at aD;rw[if_neg (by rw[HL.out];omega),aD,if_pos rfl]
    clear aG;go_wp2
    go_ret;exact⟨by rw[hv.out];rfl,aA⟩
theorem zfq(A:Option Addr)(n c:Nat)(l:List Nat)(w:World)(h:zaA w w.heap.size 1 A n (l.map f32v))(hn:n≤maxLen) :
  Calls Tryz.prog 34 #[.slice A n c] w fun e w'=>e = .returned (.int .i64 (smpE l))∧Below w.heap.size w w':=by
 have HC:=Aa (zgY A n c l w h hn);clear h;go_enter Tryz.func34,Tryz.ntmps34
 go_wp2_with fail
 refine HC.out.mono ?_;rintro e w1 ⟨rfl,aA⟩
 go_wp2_with fail
 go_ret;exact⟨rfl,aA⟩
theorem zf1(a:ByteArray)(ty:TypeId)(g:Nat)(w:World)(hk:CBlk w g #[.string a] ty) :
  Calls Tryz.prog 8 #[.slice (some ⟨g,0,none⟩) 1 1] w fun e w'=>e = .returned (.bool (decide (60<a.size)))∧w=w':=by
 have z0:w.cell? ⟨g,0,none⟩=some (.string a):=hk.cell 0;have hm:a.size<60+1∨60<a.size:=by omega
 rcases hm with h | h
 ·have d0:decide (60<a.size)=false:=by simp;omega
  rw[d0];have d1:decide ((60:Int)<(a.size:Int))=false:=decide_eq_false (by omega);clear hk h;go_enter Tryz.func8,Tryz.ntmps8
  go_wp2
  go_loop [3] (fun s=>∃ k:Nat,k≤1∧s = .int .i64 k) (fun s=>1-(intOf s).toNat)
  case atStart=>exact⟨0,by omega,rfl⟩
  case round=>
   obtain⟨k,hk,rfl⟩:=hrel
   match k,hk with
   | 0,_=>
    go_wp2
    go_round
    case rel=>exact⟨1,by omega,by go_num⟩
    case measure=>simp[intOf]
   | 1,_=>
    go_wp2
    go_ret;exact⟨rfl,rfl⟩
   | n+2,h=>exact absurd h (by omega)
 ·have d0:decide (60<a.size)=true:=by simp;omega
  rw[d0];have d1:decide ((60:Int)<(a.size:Int))=true:=decide_eq_true (by omega);clear hk h;go_enter Tryz.func8,Tryz.ntmps8
  go_wp2
  go_loop [3] (fun s=>s = .int .i64 0) (fun s=>1-(intOf s).toNat)
  case atStart=>rfl
  case round=>
   obtain rfl:=hrel;go_wp2
   go_ret;exact⟨rfl,rfl⟩
end
end Go.Proofs.YtbkgkoenppkhpaaGreatDoor
