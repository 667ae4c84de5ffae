/- Contract of the reference's parts: the integers of a text's numerator and denominator. -/
import Derived.Test.YtmkondcdejlhcaaGreatDoorFRb13
set_option maxRecDepth 100000
set_option maxHeartbeats 8000000
namespace Go.Proofs.YtmkondcdejlhcaaGreatDoor
open Go.RowKit Dn
theorem zo2{b:Bool}{x:Nat}(h:b=true→0<x):decide (sgn b x<0)=b:=by
 rw[zcU]
 cases b
 ·rfl
 ·simpa using h rfl
def RetP (w:World) (b:Bool) (x y:Nat) (e:Ending) (w':World):Prop:=
 ∃ A1 n1 c1 A2 n2 c2,e = .returned (.tuple #[.agg #[.bool b,.slice A1 n1 c1],.agg #[.bool false,.slice A2 n2 c2]])∧DigI w' A1 n1 c1 (digs x)∧DigI w' A2 n2 c2 (digs y)∧Below w.heap.size w w'
theorem DigI.box2{w:World}{A A1 A2:Option Addr}{n c n1 c1 n2 c2 g:Nat}{b1 b2:Bool}{l:List Nat}{t:TypeId}(h:DigI w A n c l)(hk:CBlk w g #[.bool b1,.slice A1 n1 c1] t)(hk2:CBlk w (g+1) #[.bool b2,.slice A2 n2 c2] t)(u v u' v':Value) :
  DigI ((((w.setCell ⟨g,0,none⟩ u).setCell ⟨g,1,none⟩ v).setCell ⟨g+1,0,none⟩ u').setCell ⟨g+1,1,none⟩ v') A n c l:=
 (h.box hk u v).box (hk2.far2 (by omega) u v) u' v'
theorem zbV (a:ByteArray) (b:Bool) (x y:Nat) (w:World) (h:NumT a b x y) (hb:b=true→0<x) (hy0:0<y) (ha:a.size≤1000000) :
  Calls Tryz.prog 60 #[.string a] w (RetP w b x y):=by
 have hB:Below w.heap.size w ((w.alloc (.cells #[.bool false,.slice none 0 0] 84)).alloc (.cells #[.bool false,.slice none 0 0] 84)):=((Below.refl _ _).alloc (Nat.le_refl _) _).alloc (by simp) _;have aO:CBlk ((w.alloc (.cells #[.bool false,.slice none 0 0] 84)).alloc (.cells #[.bool false,.slice none 0 0] 84)) w.heap.size #[.bool false,.slice none 0 0] 84:=(CBlk.new w _ _ _ rfl).below ((Below.refl _ _).alloc (Nat.le_refl _) _) (by simp);have aM:CBlk ((w.alloc (.cells #[.bool false,.slice none 0 0] 84)).alloc (.cells #[.bool false,.slice none 0 0] 84)) (w.heap.size+1) #[.bool false,.slice none 0 0] 84:=CBlk.new (w.alloc (.cells #[.bool false,.slice none 0 0] 84)) _ _ (w.heap.size+1) (by simp);have bE:zar (sgnT false (Lib.decDigits x))=true:=zaH x;obtain⟨k,hk⟩:∃ k,k=(sgnT b (Lib.decDigits x)).length:=⟨_,rfl⟩;obtain⟨p1,p2,p3⟩:=zew (t:=a) (l:=sgnT b (Lib.decDigits x)) h hk;have aN:=zb9 a;have aX:zbE a.data.toList=k:=by rw[h,zdc _ _ (zcx (zaH x)),hk]
 have aN:=fun W=>zb9 a W (by omega)
 simp only[aX] at aN
 have aV:=Aa aN;have aS:=Aa (zo2 hb);have aU:=Aa (zbR b x);clear aN aX bE
 by_cases hy:y=1
 ·subst hy
  have bC:=p2 rfl;have aR:=fun W=>ze1 a b x W (by rw[h];simp[zcW]) ha
  have bF:=Aa aR;have dk:((k:Int)==(a.size:Int))=true:=by rw[beq_iff_eq];omega
  clear h hk p1 p2 p3 aR bC hb;go_enter Tryz.func60,Tryz.ntmps60
  go_upto_region 1 with(fail)
  generalize ((w.alloc (.cells #[.bool false,.slice none 0 0] 84)).alloc (.cells #[.bool false,.slice none 0 0] 84))=w3 at *
  go_wp2_with fail
  refine(aV.out w3).mono ?_;rintro e w4 ⟨rfl,hw⟩;obtain rfl:w3=w4:=hw
  go_wp2_with fail
  refine(bF.out w3).mono ?_;rintro e w5 ⟨A5,m5,c5,rfl,aI,aA⟩;rw[aU.out] at aI;rw[aS.out];have HW:=Aa (zkN 1 w5 (by omega))
  go_wp2_with fail
  refine HW.out.mono ?_;rintro e w6 ⟨A6,m6,c6,rfl,aJ,aE⟩;have aK:DigI w6 A6 m6 c6 (digs 1):=aJ;have aC:=(aO.below aA aO.lt).below aE (Nat.lt_of_lt_of_le aO.lt aA.size);have aD:=(aM.below aA aM.lt).below aE (Nat.lt_of_lt_of_le aM.lt aA.size);have aF:=aI.later aE;have aL:=hB.trans ((aA.trans (aE.mono aA.size)).mono hB.size);have e0:w6.cell? ⟨w.heap.size,0,none⟩=some (.bool false):=aC.cell 0;have e1:w6.cell? ⟨w.heap.size,1,none⟩=some (.slice none 0 0):=aC.cell 1;have e2:w6.cell? ⟨w.heap.size+1,0,none⟩=some (.bool false):=aD.cell 0;have e3:w6.cell? ⟨w.heap.size+1,1,none⟩=some (.slice none 0 0):=aD.cell 1;have f0:w6.frozen? ⟨w.heap.size,0,none⟩=false:=aC.frozen 0;have f1:w6.frozen? ⟨w.heap.size,1,none⟩=false:=aC.frozen 1;have f2:w6.frozen? ⟨w.heap.size+1,0,none⟩=false:=aD.frozen 0;have f3:w6.frozen? ⟨w.heap.size+1,1,none⟩=false:=aD.frozen 1;have bD:=Aa aF;have bG:=Aa aK;have bI:=Aa aL;clear aA aE aI aJ aF aK aL hB dk;go_wp2
  refine bodyPost_ret (v := .tuple #[.agg #[.bool b,.slice A5 m5 c5],.agg #[.bool false,.slice A6 m6 c6]]) (by simp[results,Tryz.results60,go_sem,e0,e1,e2,e3]) rfl ?_;exact⟨A5,m5,c5,A6,m6,c6,rfl,bD.out.box2 aC aD _ _ _ _,bG.out.box2 aC aD _ _ _ _,zbZ (zbZ bI.out (Nat.le_refl _) _ _) (by omega) _ _⟩
 ·obtain⟨q1,q2,q3⟩:=p3 hy
  obtain⟨t1,bB⟩:∃ t1,a.extract 0 k=t1:=⟨_,rfl⟩;obtain⟨kk,aY⟩:∃ kk,kk=k+1:=⟨_,rfl⟩;rw[←aY] at q2;obtain⟨t2,aT⟩:∃ t2,a.extract kk a.size=t2:=⟨_,rfl⟩;have bA:t1.size≤1000000:=by rw[←bB];simp;omega
  have aZ:t2.size≤1000000:=by rw[←aT];simp;omega
  rw[bB] at p1;rw[aT] at q2;have bJ:=Aa (fun W=>ze1 t1 b x W p1 bA);have bH:=Aa (fun W=>ze1 t2 false y W q2 aZ);have aQ:Hid (decide (sgn false y<0)=false):=by show decide (sgn false y<0)=false;rw[zcU];rfl
  have aP:=Aa (zbR false y);have dk:((k:Int)==(a.size:Int))=false:=by rw[beq_eq_false_iff_ne];omega
  have f1:IntKind.i64.wrap ((k:Int)+1)=(kk:Int):=by rw[IntWalk.i64_in _ (by omega)];omega
  have g1:(0:Int)≤(k:Int):=by omega
  have g2:(k:Int)≤(a.size:Int):=by omega
  have g3:(0:Int)≤(kk:Int):=by omega
  have g4:(kk:Int)≤(a.size:Int):=by omega
  clear h hk p1 p2 p3 q1 q2 q3 hb bA aZ aY;go_enter Tryz.func60,Tryz.ntmps60
  go_upto_region 1 with(fail)
  generalize ((w.alloc (.cells #[.bool false,.slice none 0 0] 84)).alloc (.cells #[.bool false,.slice none 0 0] 84))=w3 at *
  go_wp2_with fail
  refine(aV.out w3).mono ?_;rintro e w4 ⟨rfl,hw⟩;obtain rfl:w3=w4:=hw;have aH:CBlk w3.drew w.heap.size #[.bool false,.slice none 0 0] 84:=aO;have aG:CBlk w3.drew (w.heap.size+1) #[.bool false,.slice none 0 0] 84:=aM;have aW:Below w.heap.size w w3.drew:=hB.drew;go_upto_region 5 with(fail)
  go_region_held3 (fun _=>True) (exact trivial)
   (first
    |(go_at_call_of 115 (Value.string t1);refine(bJ.out w3.drew).mono ?_;rintro e w5 ⟨A5,m5,c5,rfl,aI,aA⟩;rw[aU.out] at aI;rw[aS.out])
    |(go_at_call_of 115 (Value.string t2);refine(bH.out w5).mono ?_;rintro e w6 ⟨A6,m6,c6,rfl,aJ,aE⟩;rw[aP.out] at aJ;rw[aQ.out];have aC:=(aH.below aA aH.lt).below aE (Nat.lt_of_lt_of_le aH.lt aA.size);have aD:=(aG.below aA aG.lt).below aE (Nat.lt_of_lt_of_le aG.lt aA.size);have e0:=aC.cell 0;have e1:=aC.cell 1;have e2:=aD.cell 0;have e3:=aD.cell 1;have r0:=aC.frozen 0;have r1:=aC.frozen 1;have r2:=aD.frozen 0;have r3:=aD.frozen 1))
  have aF:=aI.later aE;have aL:=aW.trans ((aA.trans (aE.mono aA.size)).mono aW.size);have k0:w6.cell? ⟨w.heap.size,0,none⟩=some (.bool false):=e0;have k1:w6.cell? ⟨w.heap.size,1,none⟩=some (.slice none 0 0):=e1;have k2:w6.cell? ⟨w.heap.size+1,0,none⟩=some (.bool false):=e2;have k3:w6.cell? ⟨w.heap.size+1,1,none⟩=some (.slice none 0 0):=e3
  go_wp2_with fail
  refine bodyPost_ret (v := .tuple #[.agg #[.bool b,.slice A5 m5 c5],.agg #[.bool false,.slice A6 m6 c6]]) (by simp[results,Tryz.results60,go_sem,k0,k1,k2,k3]) rfl ?_;exact⟨A5,m5,c5,A6,m6,c6,rfl,aF.box2 aC aD _ _ _ _,aJ.box2 aC aD _ _ _ _,zbZ (zbZ aL (Nat.le_refl _) _ _) (by omega) _ _⟩
theorem zbU(x:Nat):(digs x).length≤(Lib.decDigits x).length:=by
 refine zab ?_;have h1:=zbB _ (zaH x);rw[za0] at h1;have h2:10^(Lib.decDigits x).length≤B^(Lib.decDigits x).length:=Nat.pow_le_pow_left (by decide) _;omega
theorem NumT.lens2{a:ByteArray}{b:Bool}{x y:Nat}(h:NumT a b x y)(ha:a.size≤100000):(digs x).length≤100000∧(digs y).length≤100001:=by
 have hl:=congrArg List.length h;rw[Array.length_toList,List.length_append] at hl;have h1:=zbU x;have h2:=zbU y;have h3:(Lib.decDigits x).length≤(sgnT b (Lib.decDigits x)).length:=by unfold sgnT;cases b<;>simp
 have h4:a.data.size=a.size:=rfl;refine⟨by omega,?_⟩
 by_cases hy:y=1
 ·subst hy
  rw[zbj (by omega) (by decide)];simp
 ·unfold zcW at hl
  rw[if_neg hy,List.length_cons] at hl;omega
theorem zbi(b1 b2:Bool)(x y:Nat):(sgn b1 x*sgn b2 y).natAbs=x*y:=by rw[Int.natAbs_mul,zbR,zbR]
theorem zel(z:Int)(X y:Nat)(A1 A2:Option Addr)(n1 c1 n2 c2:Nat)(w:World)(hX:z.natAbs=X)(h1:DigI w A1 n1 c1 (digs X))(h2:DigI w A2 n2 c2 (digs y))(hy:0<y)(k1:n1≤500000)(k2:n2≤500000) :
  Calls Tryz.prog 73 #[.agg #[.bool (decide (z<0)),.slice A1 n1 c1],.agg #[.bool false,.slice A2 n2 c2]] w fun e w'=>(∃ s:ByteArray,e = .returned (.string s)∧s.data.toList=zaE (zbw z y))∧Below w.heap.size w w':=by
 have h:=zez (decide (z<0)) X y A1 A2 n1 c1 n2 c2 w h1 h2 hy k1 k2;rw[←hX,zfc] at h;exact h
theorem zmb(z1 z2:Int)(X1 X2:Nat)(A1 A2:Option Addr)(n1 c1 n2 c2:Nat)(w:World)(hX1:z1.natAbs=X1)(hX2:z2.natAbs=X2)(h1:DigI w A1 n1 c1 (digs X1))(h2:DigI w A2 n2 c2 (digs X2))(k1:n1≤524288)(k2:n2≤524288) :
  Calls Tryz.prog 74 #[.agg #[.bool (decide (z1<0)),.slice A1 n1 c1],.agg #[.bool (decide (z2<0)),.slice A2 n2 c2]] w (RetZ w (z1+z2)):=by
 have h:=zlh (decide (z1<0)) (decide (z2<0)) X1 X2 A1 A2 n1 c1 n2 c2 w h1 h2 k1 k2;rw[←hX1,←hX2,zfc,zfc] at h;exact h
theorem zpg{w:World}{A:Option Addr}{n c k:Nat}{z1 z2:Int}{X1 X2:Nat}(h:DigI w A n c (digs (z1+z2).natAbs))(h1:z1.natAbs=X1)(h2:z2.natAbs=X2)(hx1:(digs X1).length≤k)(hx2:(digs X2).length≤k):n≤k+1:=by
 rw[←h.len];refine zab ?_;have e1:=zad X1;have e2:=zad X2;have p1:B^(digs X1).length≤B^k:=Nat.pow_le_pow_right zaQ hx1;have p2:B^(digs X2).length≤B^k:=Nat.pow_le_pow_right zaQ hx2;have p3:B^k*2≤B^k*B:=Nat.mul_le_mul_left _ zd9;rw[Nat.pow_succ];have:=Int.natAbs_add_le z1 z2;omega
theorem zod(a a':ByteArray)(b b':Bool)(x y x' y':Nat)(w:World)(h:NumT a b x y)(h':NumT a' b' x' y')(hb:b=true→0<x)(hb':b'=true→0<x')(hy:0<y)(hy':0<y')(ha:a.size≤100000)(ha':a'.size≤100000) :
  Calls Tryz.prog 22 #[.string a,.string a'] w fun e w'=>(∃ s:ByteArray,e = .returned (.string s)∧s.data.toList=zaE (zbw (sgn b x*sgn b' x') (y*y')))∧Below w.heap.size w w':=by
 have bA:=Aa (zdO a b x y w h (by omega));have bB:=Aa (zdO a' b' x' y' w h' (by omega));have bF:=Aa (fun W=>zbV a b x y W h hb hy (by omega));have bE:=Aa (fun W=>zbV a' b' x' y' W h' hb' hy' (by omega));have aY:0<y*y':=Nat.mul_pos hy hy';have aZ:=Aa aY;have HF:Hid (decide (sgn false y*sgn false y'<0)=false):=by
  show decide (sgn false y*sgn false y'<0)=false
  unfold sgn;simp only[Bool.false_eq_true,if_false,decide_eq_false_iff_not,←Int.natCast_mul]
  omega
 have bC:(digs x).length≤100000∧(digs y).length≤100001:=h.lens2 ha;have bG:(digs x').length≤100000∧(digs y').length≤100001:=h'.lens2 ha';have aV:=Aa bC;have aU:=Aa bG;have HY:=Aa hy;have bS:=Aa hy';clear aY bC bG h h' hb hb' hy hy';go_enter Tryz.func22,Tryz.ntmps22
 go_wp2_with fail
 refine bA.out.mono ?_;rintro e w1 ⟨hw,bJ⟩;obtain rfl:w=w1:=hw
 rcases bJ with rfl | ⟨rfl,bN,bP⟩
 all_goals
  go_wp2_with fail
  refine bB.out.mono ?_;rintro e w1 ⟨hw,bL⟩;obtain rfl:w=w1:=hw
  rcases bL with rfl | ⟨rfl,aO,aM⟩
 rotate_left 3
 ·obtain⟨z,hz⟩:∃ z,z=sgn b x*sgn b' x':=⟨_,rfl⟩
  obtain⟨X,hX⟩:∃ X,X=x*x':=⟨_,rfl⟩;obtain⟨Y,hY⟩:∃ Y,Y=y*y':=⟨_,rfl⟩;have bR:X≤999999999*999999999:=by rw[hX];exact Nat.mul_le_mul (by omega) (by omega)
  have bM:Y≤999999999*999999999:=by rw[hY];exact Nat.mul_le_mul (by omega) (by omega)
  have aS:z=sgn (!b==b') X:=by rw[hz,hX,ziq]
  have bO:z=(X:Int)∨z = -(X:Int):=by rw[aS];unfold sgn;cases (!b==b')<;>simp
  have hO:=ziV (!b==b') X Y w (by omega) (by omega) (by rw[hY];exact aZ.out);rw[←aS] at hO;have HO:=Aa hO;have ez:sgn b x*sgn b' x'=z:=hz.symm;have eY:(y:Int)*(y':Int)=(Y:Int):=by rw[hY];exact(Int.natCast_mul y y').symm
  have bH : -1000000000000000000≤z:=by omega
  have bI:z≤1000000000000000000:=by omega
  have HZ:=Aa hz;have bK:=Aa hY;have bQ:Y≤1000000000000000000:=by omega
  clear hO aS bO hX hz hY bR bM bA bB bF bE HF aV aU
  go_wp2_with fail
  refine HO.out.mono ?_;rintro e w1 ⟨⟨s,rfl,hs⟩,aJ⟩;rw[HZ.out,bK.out] at hs;have HS:=Aa hs;clear hs HO;go_wp2
  go_ret;exact⟨⟨s,rfl,HS.out⟩,aJ⟩
 all_goals
  first | clear bN bP | clear aO aM | skip
  first | clear aO aM | skip
  go_wp2_with fail
  refine(bF.out w).mono ?_;rintro e w1 ⟨A1,n1,c1,A2,n2,c2,rfl,aH,aK,aJ⟩;have aI:Below w1.heap.size w1 ((w1.alloc (.cells #[.bool b,.slice A1 n1 c1] 84)).alloc (.cells #[.bool false,.slice A2 n2 c2] 84)):=((Below.refl _ _).alloc (Nat.le_refl _) _).alloc (by simp) _;have aE:CBlk ((w1.alloc (.cells #[.bool b,.slice A1 n1 c1] 84)).alloc (.cells #[.bool false,.slice A2 n2 c2] 84)) w1.heap.size #[.bool b,.slice A1 n1 c1] 84:=(CBlk.new w1 _ _ _ rfl).below ((Below.refl _ _).alloc (Nat.le_refl _) _) (by simp);have aF:CBlk ((w1.alloc (.cells #[.bool b,.slice A1 n1 c1] 84)).alloc (.cells #[.bool false,.slice A2 n2 c2] 84)) (w1.heap.size+1) #[.bool false,.slice A2 n2 c2] 84:=CBlk.new (w1.alloc (.cells #[.bool b,.slice A1 n1 c1] 84)) _ _ (w1.heap.size+1) (by simp)
  go_wp2_with fail
  generalize ((w1.alloc (.cells #[.bool b,.slice A1 n1 c1] 84)).alloc (.cells #[.bool false,.slice A2 n2 c2] 84))=wA at *;refine(bE.out wA).mono ?_;rintro e w2 ⟨A3,n3,c3,A4,n4,c4,rfl,aL,aN,aW⟩;have aR:Below w2.heap.size w2 ((w2.alloc (.cells #[.bool b',.slice A3 n3 c3] 84)).alloc (.cells #[.bool false,.slice A4 n4 c4] 84)):=((Below.refl _ _).alloc (Nat.le_refl _) _).alloc (by simp) _;have aQ:CBlk ((w2.alloc (.cells #[.bool b',.slice A3 n3 c3] 84)).alloc (.cells #[.bool false,.slice A4 n4 c4] 84)) w2.heap.size #[.bool b',.slice A3 n3 c3] 84:=(CBlk.new w2 _ _ _ rfl).below ((Below.refl _ _).alloc (Nat.le_refl _) _) (by simp);have aP:CBlk ((w2.alloc (.cells #[.bool b',.slice A3 n3 c3] 84)).alloc (.cells #[.bool false,.slice A4 n4 c4] 84)) (w2.heap.size+1) #[.bool false,.slice A4 n4 c4] 84:=CBlk.new (w2.alloc (.cells #[.bool b',.slice A3 n3 c3] 84)) _ _ (w2.heap.size+1) (by simp);have aG:=Ad aW aR
  replace aE:=aE.below aG aE.lt
  replace aF:=aF.below aG aF.lt
  have aX:=aJ.trans ((aI.trans (aG.mono aI.size)).mono aJ.size)
  replace aH:=(aH.later aI).later aG
  replace aK:=(aK.later aI).later aG
  replace aL:=aL.later aR
  replace aN:=aN.later aR
  clear aI aR aJ aW aG;go_upto_region 7 with(fail)
  generalize ((w2.alloc (.cells #[.bool b',.slice A3 n3 c3] 84)).alloc (.cells #[.bool false,.slice A4 n4 c4] 84))=w3 at *;have a1:w3.cell? ⟨w1.heap.size,0,none⟩=some (.bool b):=aE.cell 0;have s1:w3.cell? ⟨w1.heap.size,1,none⟩=some (.slice A1 n1 c1):=aE.cell 1;have a2:w3.cell? ⟨w1.heap.size+1,0,none⟩=some (.bool false):=aF.cell 0;have s2:w3.cell? ⟨w1.heap.size+1,1,none⟩=some (.slice A2 n2 c2):=aF.cell 1;have a3:w3.cell? ⟨w2.heap.size,0,none⟩=some (.bool b'):=aQ.cell 0;have s3:w3.cell? ⟨w2.heap.size,1,none⟩=some (.slice A3 n3 c3):=aQ.cell 1;have a4:w3.cell? ⟨w2.heap.size+1,0,none⟩=some (.bool false):=aP.cell 0;have s4:w3.cell? ⟨w2.heap.size+1,1,none⟩=some (.slice A4 n4 c4):=aP.cell 1;have l1:=aE.lt;have l2:=aF.lt;have l3:=aQ.lt;have l4:=aP.lt;have e1:n1≤100000:=by rw[←aH.len];have:=aV.out.1;omega
  have e2:n2≤100001:=by rw[←aK.len];have:=aV.out.2;omega
  have e3:n3≤100000:=by rw[←aL.len];have:=aU.out.1;omega
  have e4:n4≤100001:=by rw[←aN.len];have:=aU.out.2;omega
  have H1:=Aa aH;have H2:=Aa aK;have H3:=Aa aL;have H4:=Aa aN;have bD:=Aa aX;have aT:Below w3.heap.size w3 w3.drew:=(Below.refl _ _).drew;clear aE aF aQ aP aH aK aL aN aX
  go_region_held3 (fun w'=>w'.cell? ⟨w1.heap.size,0,none⟩=some (.bool b)∧w'.cell? ⟨w1.heap.size,1,none⟩=some (.slice A1 n1 c1)∧w'.cell? ⟨w1.heap.size+1,0,none⟩=some (.bool false)∧w'.cell? ⟨w1.heap.size+1,1,none⟩=some (.slice A2 n2 c2)∧w'.cell? ⟨w2.heap.size,0,none⟩=some (.bool b')∧w'.cell? ⟨w2.heap.size,1,none⟩=some (.slice A3 n3 c3)∧w'.cell? ⟨w2.heap.size+1,0,none⟩=some (.bool false)∧w'.cell? ⟨w2.heap.size+1,1,none⟩=some (.slice A4 n4 c4))
   (first | exact⟨a1,s1,a2,s2,a3,s3,a4,s4⟩ | exact⟨(aA.cell (p:=⟨w1.heap.size,0,none⟩) l1).trans a1,(aA.cell (p:=⟨w1.heap.size,1,none⟩) l1).trans s1,(aA.cell (p:=⟨w1.heap.size+1,0,none⟩) l2).trans a2,(aA.cell (p:=⟨w1.heap.size+1,1,none⟩) l2).trans s2,(aA.cell (p:=⟨w2.heap.size,0,none⟩) l3).trans a3,(aA.cell (p:=⟨w2.heap.size,1,none⟩) l3).trans s3,(aA.cell (p:=⟨w2.heap.size+1,0,none⟩) l4).trans a4,(aA.cell (p:=⟨w2.heap.size+1,1,none⟩) l4).trans s4⟩ | exact⟨(aC.cell (p:=⟨w1.heap.size,0,none⟩) l1).trans a1,(aC.cell (p:=⟨w1.heap.size,1,none⟩) l1).trans s1,(aC.cell (p:=⟨w1.heap.size+1,0,none⟩) l2).trans a2,(aC.cell (p:=⟨w1.heap.size+1,1,none⟩) l2).trans s2,(aC.cell (p:=⟨w2.heap.size,0,none⟩) l3).trans a3,(aC.cell (p:=⟨w2.heap.size,1,none⟩) l3).trans s3,(aC.cell (p:=⟨w2.heap.size+1,0,none⟩) l4).trans a4,(aC.cell (p:=⟨w2.heap.size+1,1,none⟩) l4).trans s4⟩ | exact⟨(aD.cell (p:=⟨w1.heap.size,0,none⟩) l1).trans a1,(aD.cell (p:=⟨w1.heap.size,1,none⟩) l1).trans s1,(aD.cell (p:=⟨w1.heap.size+1,0,none⟩) l2).trans a2,(aD.cell (p:=⟨w1.heap.size+1,1,none⟩) l2).trans s2,(aD.cell (p:=⟨w2.heap.size,0,none⟩) l3).trans a3,(aD.cell (p:=⟨w2.heap.size,1,none⟩) l3).trans s3,(aD.cell (p:=⟨w2.heap.size+1,0,none⟩) l4).trans a4,(aD.cell (p:=⟨w2.heap.size+1,1,none⟩) l4).trans s4⟩)
   (first
    |(go_at_call_of 75 (Value.agg #[.bool b,.slice A1 n1 c1]);refine(zc3 b b' x x' A1 A3 n1 c1 n3 c3 w3.drew ((H1.out.later aT)) ((H3.out.later aT)) (by omega) (by omega)).mono ?_;rintro e v1 ⟨B1,m1,d1,rfl,g1,f1⟩;have aA:=aT.trans f1;rw[zbi] at g1;have u1:=zeI g1 H1.out.len H3.out.len)
    |(go_at_call_of 75 (Value.agg #[.bool false,.slice A2 n2 c2]);refine(zc3 false false y y' A2 A4 n2 c2 n4 c4 v1 ((H2.out.later aA)) ((H4.out.later aA)) (by omega) (by omega)).mono ?_;rintro e v2 ⟨B2,m2,d2,rfl,g2,f2⟩;have aC:=Ad aA f2;rw[zbi] at g2;have u2:=zeI g2 H2.out.len H4.out.len;rw[HF.out])
    |(go_at_call 73;refine(zel (sgn b x*sgn b' x') (x*x') (y*y') B1 B2 m1 d1 m2 d2 v2 (zbi b b' x x') (g1.later f2) g2 aZ.out (by omega) (by omega)).mono ?_;rintro e v3 ⟨⟨s,rfl,hs⟩,f3⟩;have aD:=aC.trans (f3.mono aC.size)))
  go_wp2
  go_ret;exact⟨⟨s,rfl,hs⟩,bD.out.trans (aD.mono bD.out.size)⟩
theorem znH(a a':ByteArray)(b b':Bool)(x y x' y':Nat)(w:World)(h:NumT a b x y)(h':NumT a' b' x' y')(hb:b=true→0<x)(hb':b'=true→0<x')(hy:0<y)(hy':0<y')(ha:a.size≤100000)(ha':a'.size≤100000) :
  Calls Tryz.prog 20 #[.string a,.string a'] w fun e w'=>(∃ s:ByteArray,e = .returned (.string s)∧s.data.toList=zaE (zbw (sgn b x*(y':Int)+sgn b' x'*(y:Int)) (y*y')))∧Below w.heap.size w w':=by
 have bD:=Aa (zdO a b x y w h (by omega));have bE:=Aa (zdO a' b' x' y' w h' (by omega));have bI:=Aa (fun W=>zbV a b x y W h hb hy (by omega));have bH:=Aa (fun W=>zbV a' b' x' y' W h' hb' hy' (by omega));have bB:0<y*y':=Nat.mul_pos hy hy';have bC:=Aa bB;have HF:Hid (decide (sgn false y*sgn false y'<0)=false):=by
  show decide (sgn false y*sgn false y'<0)=false
  unfold sgn;simp only[Bool.false_eq_true,if_false,decide_eq_false_iff_not,←Int.natCast_mul]
  omega
 have bF:(digs x).length≤100000∧(digs y).length≤100001:=h.lens2 ha;have bJ:(digs x').length≤100000∧(digs y').length≤100001:=h'.lens2 ha';have aZ:=Aa bF;have aY:=Aa bJ;have HY:=Aa hy;have bT:=Aa hy';clear bB bF bJ h h' hb hb' hy hy';go_enter Tryz.func20,Tryz.ntmps20
 go_wp2_with fail
 refine bD.out.mono ?_;rintro e w1 ⟨hw,bK⟩;obtain rfl:w=w1:=hw
 rcases bK with rfl | ⟨rfl,bO,bP⟩
 all_goals
  go_wp2_with fail
  refine bE.out.mono ?_;rintro e w1 ⟨hw,bM⟩;obtain rfl:w=w1:=hw
  rcases bM with rfl | ⟨rfl,aR,aO⟩
 rotate_left 3
 ·obtain⟨z1,aW⟩:∃ z1,z1=sgn b x*(y':Int):=⟨_,rfl⟩
  obtain⟨z2,aU⟩:∃ z2,z2=sgn b' x'*(y:Int):=⟨_,rfl⟩;obtain⟨z,hz⟩:∃ z,z=z1+z2:=⟨_,rfl⟩;obtain⟨Y,hY⟩:∃ Y,Y=y*y':=⟨_,rfl⟩;have bN:Y≤999999999*999999999:=by rw[hY];exact Nat.mul_le_mul (by omega) (by omega)
  have aG:z1.natAbs≤999999999*999999999:=by rw[aW,Int.natAbs_mul,zbR,Int.natAbs_natCast];exact Nat.mul_le_mul (by omega) (by omega)
  have aQ:z2.natAbs≤999999999*999999999:=by rw[aU,Int.natAbs_mul,zbR,Int.natAbs_natCast];exact Nat.mul_le_mul (by omega) (by omega)
  have hO:=ziV (decide (z<0)) z.natAbs Y w (by omega) (by omega) (by rw[hY];exact bC.out);rw[zfc] at hO;have HO:=Aa hO;have bX:sgn b x*(y':Int)=z1:=aW.symm;have bU:sgn b' x'*(y:Int)=z2:=aU.symm;have ez:z1+z2=z:=hz.symm;have eY:(y:Int)*(y':Int)=(Y:Int):=by rw[hY];exact(Int.natCast_mul y y').symm
  have aK : -1000000000000000000≤z1:=by omega
  have aS:z1≤1000000000000000000:=by omega
  have bV : -1000000000000000000≤z2:=by omega
  have bW:z2≤1000000000000000000:=by omega
  have bS : -2000000000000000000≤z:=by omega
  have bR:z≤2000000000000000000:=by omega
  have HZ:Hid (z=sgn b x*(y':Int)+sgn b' x'*(y:Int)):=by
   show z=_
   rw[hz,aW,aU]
  have bL:=Aa hY;have bQ:Y≤1000000000000000000:=by omega
  clear hO hz aW aU hY bN aG aQ bD bE bI bH HF aZ aY
  go_wp2_with fail
  refine HO.out.mono ?_;rintro e w1 ⟨⟨s,rfl,hs⟩,aG⟩;rw[HZ.out,bL.out] at hs;have HS:=Aa hs;clear hs HO;go_wp2
  go_ret;exact⟨⟨s,rfl,HS.out⟩,aG⟩
 all_goals
  first | clear bO bP | clear aR aO | skip
  first | clear aR aO | skip
  go_wp2_with fail
  refine(bI.out w).mono ?_;rintro e w1 ⟨A1,n1,c1,A2,n2,c2,rfl,aL,aM,aG⟩;have aK:Below w1.heap.size w1 ((w1.alloc (.cells #[.bool b,.slice A1 n1 c1] 84)).alloc (.cells #[.bool false,.slice A2 n2 c2] 84)):=((Below.refl _ _).alloc (Nat.le_refl _) _).alloc (by simp) _;have aH:CBlk ((w1.alloc (.cells #[.bool b,.slice A1 n1 c1] 84)).alloc (.cells #[.bool false,.slice A2 n2 c2] 84)) w1.heap.size #[.bool b,.slice A1 n1 c1] 84:=(CBlk.new w1 _ _ _ rfl).below ((Below.refl _ _).alloc (Nat.le_refl _) _) (by simp);have aI:CBlk ((w1.alloc (.cells #[.bool b,.slice A1 n1 c1] 84)).alloc (.cells #[.bool false,.slice A2 n2 c2] 84)) (w1.heap.size+1) #[.bool false,.slice A2 n2 c2] 84:=CBlk.new (w1.alloc (.cells #[.bool b,.slice A1 n1 c1] 84)) _ _ (w1.heap.size+1) (by simp)
  go_wp2_with fail
  generalize ((w1.alloc (.cells #[.bool b,.slice A1 n1 c1] 84)).alloc (.cells #[.bool false,.slice A2 n2 c2] 84))=wA at *;refine(bH.out wA).mono ?_;rintro e w2 ⟨A3,n3,c3,A4,n4,c4,rfl,aN,aP,aQ⟩;have aS:Below w2.heap.size w2 ((w2.alloc (.cells #[.bool b',.slice A3 n3 c3] 84)).alloc (.cells #[.bool false,.slice A4 n4 c4] 84)):=((Below.refl _ _).alloc (Nat.le_refl _) _).alloc (by simp) _;have aV:CBlk ((w2.alloc (.cells #[.bool b',.slice A3 n3 c3] 84)).alloc (.cells #[.bool false,.slice A4 n4 c4] 84)) w2.heap.size #[.bool b',.slice A3 n3 c3] 84:=(CBlk.new w2 _ _ _ rfl).below ((Below.refl _ _).alloc (Nat.le_refl _) _) (by simp);have aT:CBlk ((w2.alloc (.cells #[.bool b',.slice A3 n3 c3] 84)).alloc (.cells #[.bool false,.slice A4 n4 c4] 84)) (w2.heap.size+1) #[.bool false,.slice A4 n4 c4] 84:=CBlk.new (w2.alloc (.cells #[.bool b',.slice A3 n3 c3] 84)) _ _ (w2.heap.size+1) (by simp);have aJ:=Ad aQ aS
  replace aH:=aH.below aJ aH.lt
  replace aI:=aI.below aJ aI.lt
  have bA:=aG.trans ((aK.trans (aJ.mono aK.size)).mono aG.size)
  replace aL:=(aL.later aK).later aJ
  replace aM:=(aM.later aK).later aJ
  replace aN:=aN.later aS
  replace aP:=aP.later aS
  clear aK aS aG aQ aJ;go_upto_region 7 with(fail)
  generalize ((w2.alloc (.cells #[.bool b',.slice A3 n3 c3] 84)).alloc (.cells #[.bool false,.slice A4 n4 c4] 84))=w3 at *;have a1:w3.cell? ⟨w1.heap.size,0,none⟩=some (.bool b):=aH.cell 0;have s1:w3.cell? ⟨w1.heap.size,1,none⟩=some (.slice A1 n1 c1):=aH.cell 1;have a2:w3.cell? ⟨w1.heap.size+1,0,none⟩=some (.bool false):=aI.cell 0;have s2:w3.cell? ⟨w1.heap.size+1,1,none⟩=some (.slice A2 n2 c2):=aI.cell 1;have a3:w3.cell? ⟨w2.heap.size,0,none⟩=some (.bool b'):=aV.cell 0;have s3:w3.cell? ⟨w2.heap.size,1,none⟩=some (.slice A3 n3 c3):=aV.cell 1;have a4:w3.cell? ⟨w2.heap.size+1,0,none⟩=some (.bool false):=aT.cell 0;have s4:w3.cell? ⟨w2.heap.size+1,1,none⟩=some (.slice A4 n4 c4):=aT.cell 1;have l1:=aH.lt;have l2:=aI.lt;have l3:=aV.lt;have l4:=aT.lt;have e1:n1≤100000:=by rw[←aL.len];have:=aZ.out.1;omega
  have e2:n2≤100001:=by rw[←aM.len];have:=aZ.out.2;omega
  have e3:n3≤100000:=by rw[←aN.len];have:=aY.out.1;omega
  have e4:n4≤100001:=by rw[←aP.len];have:=aY.out.2;omega
  have H1:=Aa aL;have H2:=Aa aM;have H3:=Aa aN;have H4:=Aa aP;have bG:=Aa bA;have aX:Below w3.heap.size w3 w3.drew:=(Below.refl _ _).drew;clear aH aI aV aT aL aM aN aP bA
  go_region_held3 (fun w'=>w'.cell? ⟨w1.heap.size,0,none⟩=some (.bool b)∧w'.cell? ⟨w1.heap.size,1,none⟩=some (.slice A1 n1 c1)∧w'.cell? ⟨w1.heap.size+1,0,none⟩=some (.bool false)∧w'.cell? ⟨w1.heap.size+1,1,none⟩=some (.slice A2 n2 c2)∧w'.cell? ⟨w2.heap.size,0,none⟩=some (.bool b')∧w'.cell? ⟨w2.heap.size,1,none⟩=some (.slice A3 n3 c3)∧w'.cell? ⟨w2.heap.size+1,0,none⟩=some (.bool false)∧w'.cell? ⟨w2.heap.size+1,1,none⟩=some (.slice A4 n4 c4))
   (first | exact⟨a1,s1,a2,s2,a3,s3,a4,s4⟩ | exact⟨(aC.cell (p:=⟨w1.heap.size,0,none⟩) l1).trans a1,(aC.cell (p:=⟨w1.heap.size,1,none⟩) l1).trans s1,(aC.cell (p:=⟨w1.heap.size+1,0,none⟩) l2).trans a2,(aC.cell (p:=⟨w1.heap.size+1,1,none⟩) l2).trans s2,(aC.cell (p:=⟨w2.heap.size,0,none⟩) l3).trans a3,(aC.cell (p:=⟨w2.heap.size,1,none⟩) l3).trans s3,(aC.cell (p:=⟨w2.heap.size+1,0,none⟩) l4).trans a4,(aC.cell (p:=⟨w2.heap.size+1,1,none⟩) l4).trans s4⟩ | exact⟨(aE.cell (p:=⟨w1.heap.size,0,none⟩) l1).trans a1,(aE.cell (p:=⟨w1.heap.size,1,none⟩) l1).trans s1,(aE.cell (p:=⟨w1.heap.size+1,0,none⟩) l2).trans a2,(aE.cell (p:=⟨w1.heap.size+1,1,none⟩) l2).trans s2,(aE.cell (p:=⟨w2.heap.size,0,none⟩) l3).trans a3,(aE.cell (p:=⟨w2.heap.size,1,none⟩) l3).trans s3,(aE.cell (p:=⟨w2.heap.size+1,0,none⟩) l4).trans a4,(aE.cell (p:=⟨w2.heap.size+1,1,none⟩) l4).trans s4⟩ | exact⟨(aA.cell (p:=⟨w1.heap.size,0,none⟩) l1).trans a1,(aA.cell (p:=⟨w1.heap.size,1,none⟩) l1).trans s1,(aA.cell (p:=⟨w1.heap.size+1,0,none⟩) l2).trans a2,(aA.cell (p:=⟨w1.heap.size+1,1,none⟩) l2).trans s2,(aA.cell (p:=⟨w2.heap.size,0,none⟩) l3).trans a3,(aA.cell (p:=⟨w2.heap.size,1,none⟩) l3).trans s3,(aA.cell (p:=⟨w2.heap.size+1,0,none⟩) l4).trans a4,(aA.cell (p:=⟨w2.heap.size+1,1,none⟩) l4).trans s4⟩ | exact⟨(aD.cell (p:=⟨w1.heap.size,0,none⟩) l1).trans a1,(aD.cell (p:=⟨w1.heap.size,1,none⟩) l1).trans s1,(aD.cell (p:=⟨w1.heap.size+1,0,none⟩) l2).trans a2,(aD.cell (p:=⟨w1.heap.size+1,1,none⟩) l2).trans s2,(aD.cell (p:=⟨w2.heap.size,0,none⟩) l3).trans a3,(aD.cell (p:=⟨w2.heap.size,1,none⟩) l3).trans s3,(aD.cell (p:=⟨w2.heap.size+1,0,none⟩) l4).trans a4,(aD.cell (p:=⟨w2.heap.size+1,1,none⟩) l4).trans s4⟩ | exact⟨(aF.cell (p:=⟨w1.heap.size,0,none⟩) l1).trans a1,(aF.cell (p:=⟨w1.heap.size,1,none⟩) l1).trans s1,(aF.cell (p:=⟨w1.heap.size+1,0,none⟩) l2).trans a2,(aF.cell (p:=⟨w1.heap.size+1,1,none⟩) l2).trans s2,(aF.cell (p:=⟨w2.heap.size,0,none⟩) l3).trans a3,(aF.cell (p:=⟨w2.heap.size,1,none⟩) l3).trans s3,(aF.cell (p:=⟨w2.heap.size+1,0,none⟩) l4).trans a4,(aF.cell (p:=⟨w2.heap.size+1,1,none⟩) l4).trans s4⟩)
   (first
    |(go_at_call_of 75 (Value.agg #[.bool b,.slice A1 n1 c1]);refine(zc3 b false x y' A1 A4 n1 c1 n4 c4 w3.drew ((H1.out.later aX)) ((H4.out.later aX)) (by omega) (by omega)).mono ?_;rintro e v1 ⟨B1,m1,d1,rfl,g1,f1⟩;have aC:=aX.trans f1;rw[zbi] at g1;have u1:=zeI g1 H1.out.len H4.out.len)
    |(go_at_call_of 75 (Value.agg #[.bool b',.slice A3 n3 c3]);refine(zc3 b' false x' y A3 A2 n3 c3 n2 c2 v1 ((H3.out.later aC)) ((H2.out.later aC)) (by omega) (by omega)).mono ?_;rintro e v2 ⟨B2,m2,d2,rfl,g2,f2⟩;have aE:=Ad aC f2;rw[zbi] at g2;have u2:=zeI g2 H3.out.len H2.out.len)
    |(go_at_call 74;refine(zmb (sgn b x*sgn false y') (sgn b' x'*sgn false y) (x*y') (x'*y) B1 B2 m1 d1 m2 d2 v2 (zbi _ _ _ _) (zbi _ _ _ _) (g1.later f2) g2 (by omega) (by omega)).mono ?_;rintro e v3 ⟨B3,m3,d3,rfl,g3,f3⟩;have aA:=Ad aE f3;have u3:=zpg (k:=300000) g3 (zbi _ _ _ _) (zbi _ _ _ _) (by have:=g1.len;omega) (by have:=g2.len;omega))
    |(go_at_call_of 75 (Value.agg #[.bool false,.slice A2 n2 c2]);refine(zc3 false false y y' A2 A4 n2 c2 n4 c4 v3 ((H2.out.later aA)) ((H4.out.later aA)) (by omega) (by omega)).mono ?_;rintro e v4 ⟨B4,m4,d4,rfl,g4,f4⟩;have aD:=Ad aA f4;rw[zbi] at g4;have u4:=zeI g4 H2.out.len H4.out.len;rw[HF.out])
    |(go_at_call 73;refine(zel (sgn b x*sgn false y'+sgn b' x'*sgn false y) _ (y*y') B3 B4 m3 d3 m4 d4 v4 rfl (g3.later f4) g4 bC.out (by omega) (by omega)).mono ?_;rintro e v5 ⟨⟨s,rfl,hs⟩,f5⟩;have aF:=aD.trans (f5.mono aD.size)))
  go_wp2
  go_ret;exact⟨⟨s,rfl,hs⟩,bG.out.trans (aF.mono bG.out.size)⟩
end Go.Proofs.YtmkondcdejlhcaaGreatDoor
