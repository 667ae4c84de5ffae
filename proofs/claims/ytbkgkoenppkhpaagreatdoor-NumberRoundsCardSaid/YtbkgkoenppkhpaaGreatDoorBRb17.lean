/- Contract of the reference's parts: the integers of a text's numerator and denominator. -/
import Derived.Test.YtbkgkoenppkhpaaGreatDoorBRb13
set_option maxRecDepth 100000
set_option maxHeartbeats 8000000
namespace Go.Proofs.YtbkgkoenppkhpaaGreatDoor
open Go.RowKit Dn
theorem zqL{b:Bool}{x:Nat}(h:b=true→0<x):decide (sgn b x<0)=b:=by
 rw[zdp]
 cases b
 ·rfl
 ·simpa using h rfl
def RetP (w:World) (b:Bool) (x y:Nat) (e:Ending) (w':World):Prop:=
 ∃ A1 n1 c1 A2 n2 c2,e = .returned (.tuple #[.agg #[.bool b,.slice A1 n1 c1],.agg #[.bool false,.slice A2 n2 c2]])∧DigI w' A1 n1 c1 (digs x)∧DigI w' A2 n2 c2 (digs y)∧Below w.heap.size w w'
theorem DigI.box2{w:World}{A A1 A2:Option Addr}{n c n1 c1 n2 c2 g:Nat}{b1 b2:Bool}{l:List Nat}{t:TypeId}(h:DigI w A n c l)(hk:CBlk w g #[.bool b1,.slice A1 n1 c1] t)(hk2:CBlk w (g+1) #[.bool b2,.slice A2 n2 c2] t)(u v u' v':Value) :
  DigI ((((w.setCell ⟨g,0,none⟩ u).setCell ⟨g,1,none⟩ v).setCell ⟨g+1,0,none⟩ u').setCell ⟨g+1,1,none⟩ v') A n c l:=
 (h.box hk u v).box (hk2.far2 (by omega) u v) u' v'
theorem zbP (a:ByteArray) (b:Bool) (x y:Nat) (w:World) (h:NumT a b x y) (hb:b=true→0<x) (hy0:0<y) (ha:a.size≤1000000) :
  Calls Tryz.prog 64 #[.string a] w (RetP w b x y):=by
 have hB:Below w.heap.size w ((w.alloc (.cells #[.bool false,.slice none 0 0] 97)).alloc (.cells #[.bool false,.slice none 0 0] 97)):=((Below.refl _ _).alloc (Nat.le_refl _) _).alloc (by simp) _;have aM:CBlk ((w.alloc (.cells #[.bool false,.slice none 0 0] 97)).alloc (.cells #[.bool false,.slice none 0 0] 97)) w.heap.size #[.bool false,.slice none 0 0] 97:=(CBlk.new w _ _ _ rfl).below ((Below.refl _ _).alloc (Nat.le_refl _) _) (by simp);have aN:CBlk ((w.alloc (.cells #[.bool false,.slice none 0 0] 97)).alloc (.cells #[.bool false,.slice none 0 0] 97)) (w.heap.size+1) #[.bool false,.slice none 0 0] 97:=CBlk.new (w.alloc (.cells #[.bool false,.slice none 0 0] 97)) _ _ (w.heap.size+1) (by simp);have bH:zar (sgnT false (Lib.decDigits x))=true:=zaF x;obtain⟨k,hk⟩:∃ k,k=(sgnT b (Lib.decDigits x)).length:=⟨_,rfl⟩;obtain⟨p1,p2,p3⟩:=zdX (t:=a) (l:=sgnT b (Lib.decDigits x)) h hk;have aO:=zbS a;have aS:zbB a.data.toList=k:=by rw[h,zcI _ _ (zb4 (zaF x)),hk]
 have aO:=fun W=>zbS a W (by omega)
 simp only[aS] at aO
 have aZ:=Aa aO;have aU:=Aa (zqL hb);have aW:=Aa (zb2 b x);clear aO aS bH
 by_cases hy:y=1
 ·subst hy
  have bD:=p2 rfl;have aV:=fun W=>zei a b x W (by rw[h];simp[zcT]) ha
  have bF:=Aa aV;have dk:((k:Int)==(a.size:Int))=true:=by rw[beq_iff_eq];omega
  clear h hk p1 p2 p3 aV bD hb;go_enter Tryz.func64,Tryz.ntmps64
  go_upto_region 1 with(fail)
  generalize ((w.alloc (.cells #[.bool false,.slice none 0 0] 97)).alloc (.cells #[.bool false,.slice none 0 0] 97))=w3 at *
  go_wp2_with fail
  refine(aZ.out w3).mono ?_;rintro e w4 ⟨rfl,hw⟩;obtain rfl:w3=w4:=hw
  go_wp2_with fail
  refine(bF.out w3).mono ?_;rintro e w5 ⟨A5,m5,c5,rfl,aI,aA⟩;rw[aW.out] at aI;rw[aU.out];have HW:=Aa (zha 1 w5 (by omega))
  go_wp2_with fail
  refine HW.out.mono ?_;rintro e w6 ⟨A6,m6,c6,rfl,aK,aE⟩;have aJ:DigI w6 A6 m6 c6 (digs 1):=aK;have aD:=(aM.below aA aM.lt).below aE (Nat.lt_of_lt_of_le aM.lt aA.size);have aC:=(aN.below aA aN.lt).below aE (Nat.lt_of_lt_of_le aN.lt aA.size);have aF:=aI.later aE;have aL:=hB.trans ((aA.trans (aE.mono aA.size)).mono hB.size);have e0:w6.cell? ⟨w.heap.size,0,none⟩=some (.bool false):=aD.cell 0;have e1:w6.cell? ⟨w.heap.size,1,none⟩=some (.slice none 0 0):=aD.cell 1;have e2:w6.cell? ⟨w.heap.size+1,0,none⟩=some (.bool false):=aC.cell 0;have e3:w6.cell? ⟨w.heap.size+1,1,none⟩=some (.slice none 0 0):=aC.cell 1;have f0:w6.frozen? ⟨w.heap.size,0,none⟩=false:=aD.frozen 0;have f1:w6.frozen? ⟨w.heap.size,1,none⟩=false:=aD.frozen 1;have f2:w6.frozen? ⟨w.heap.size+1,0,none⟩=false:=aC.frozen 0;have f3:w6.frozen? ⟨w.heap.size+1,1,none⟩=false:=aC.frozen 1;have bG:=Aa aF;have bE:=Aa aJ;have bJ:=Aa aL;clear aA aE aI aK aF aJ aL hB dk;go_wp2
  refine bodyPost_ret (v := .tuple #[.agg #[.bool b,.slice A5 m5 c5],.agg #[.bool false,.slice A6 m6 c6]]) (by simp[results,Tryz.results64,go_sem,e0,e1,e2,e3]) rfl ?_;exact⟨A5,m5,c5,A6,m6,c6,rfl,bG.out.box2 aD aC _ _ _ _,bE.out.box2 aD aC _ _ _ _,zbO (zbO bJ.out (Nat.le_refl _) _ _) (by omega) _ _⟩
 ·obtain⟨q1,q2,q3⟩:=p3 hy
  obtain⟨t1,aY⟩:∃ t1,a.extract 0 k=t1:=⟨_,rfl⟩;obtain⟨kk,aT⟩:∃ kk,kk=k+1:=⟨_,rfl⟩;rw[←aT] at q2;obtain⟨t2,aX⟩:∃ t2,a.extract kk a.size=t2:=⟨_,rfl⟩;have bB:t1.size≤1000000:=by rw[←aY];simp;omega
  have bA:t2.size≤1000000:=by rw[←aX];simp;omega
  rw[aY] at p1;rw[aX] at q2;have bC:=Aa (fun W=>zei t1 b x W p1 bB);have bI:=Aa (fun W=>zei t2 false y W q2 bA);have aQ:Hid (decide (sgn false y<0)=false):=by show decide (sgn false y<0)=false;rw[zdp];rfl
  have aP:=Aa (zb2 false y);have dk:((k:Int)==(a.size:Int))=false:=by rw[beq_eq_false_iff_ne];omega
  have f1:IntKind.i64.wrap ((k:Int)+1)=(kk:Int):=by rw[IntWalk.i64_in _ (by omega)];omega
  have g1:(0:Int)≤(k:Int):=by omega
  have g2:(k:Int)≤(a.size:Int):=by omega
  have g3:(0:Int)≤(kk:Int):=by omega
  have g4:(kk:Int)≤(a.size:Int):=by omega
  clear h hk p1 p2 p3 q1 q2 q3 hb bB bA aT;go_enter Tryz.func64,Tryz.ntmps64
  go_upto_region 1 with(fail)
  generalize ((w.alloc (.cells #[.bool false,.slice none 0 0] 97)).alloc (.cells #[.bool false,.slice none 0 0] 97))=w3 at *
  go_wp2_with fail
  refine(aZ.out w3).mono ?_;rintro e w4 ⟨rfl,hw⟩;obtain rfl:w3=w4:=hw;have aH:CBlk w3.drew w.heap.size #[.bool false,.slice none 0 0] 97:=aM;have aG:CBlk w3.drew (w.heap.size+1) #[.bool false,.slice none 0 0] 97:=aN;have aR:Below w.heap.size w w3.drew:=hB.drew;go_upto_region 5 with(fail)
  go_region_held3 (fun _=>True) (exact trivial)
   (first
    |(go_at_call_of 135 (Value.string t1);refine(bC.out w3.drew).mono ?_;rintro e w5 ⟨A5,m5,c5,rfl,aI,aA⟩;rw[aW.out] at aI;rw[aU.out])
    |(go_at_call_of 135 (Value.string t2);refine(bI.out w5).mono ?_;rintro e w6 ⟨A6,m6,c6,rfl,aK,aE⟩;rw[aP.out] at aK;rw[aQ.out];have aD:=(aH.below aA aH.lt).below aE (Nat.lt_of_lt_of_le aH.lt aA.size);have aC:=(aG.below aA aG.lt).below aE (Nat.lt_of_lt_of_le aG.lt aA.size);have e0:=aD.cell 0;have e1:=aD.cell 1;have e2:=aC.cell 0;have e3:=aC.cell 1;have r0:=aD.frozen 0;have r1:=aD.frozen 1;have r2:=aC.frozen 0;have r3:=aC.frozen 1))
  have aF:=aI.later aE;have aL:=aR.trans ((aA.trans (aE.mono aA.size)).mono aR.size);have k0:w6.cell? ⟨w.heap.size,0,none⟩=some (.bool false):=e0;have k1:w6.cell? ⟨w.heap.size,1,none⟩=some (.slice none 0 0):=e1;have k2:w6.cell? ⟨w.heap.size+1,0,none⟩=some (.bool false):=e2;have k3:w6.cell? ⟨w.heap.size+1,1,none⟩=some (.slice none 0 0):=e3
  go_wp2_with fail
  refine bodyPost_ret (v := .tuple #[.agg #[.bool b,.slice A5 m5 c5],.agg #[.bool false,.slice A6 m6 c6]]) (by simp[results,Tryz.results64,go_sem,k0,k1,k2,k3]) rfl ?_;exact⟨A5,m5,c5,A6,m6,c6,rfl,aF.box2 aD aC _ _ _ _,aK.box2 aD aC _ _ _ _,zbO (zbO aL (Nat.le_refl _) _ _) (by omega) _ _⟩
theorem zbQ(x:Nat):(digs x).length≤(Lib.decDigits x).length:=by
 refine zab ?_;have h1:=zbW _ (zaF x);rw[za1] at h1;have h2:10^(Lib.decDigits x).length≤B^(Lib.decDigits x).length:=Nat.pow_le_pow_left (by decide) _;omega
theorem NumT.lens2{a:ByteArray}{b:Bool}{x y:Nat}(h:NumT a b x y)(ha:a.size≤100000):(digs x).length≤100000∧(digs y).length≤100001:=by
 have hl:=congrArg List.length h;rw[Array.length_toList,List.length_append] at hl;have h1:=zbQ x;have h2:=zbQ y;have h3:(Lib.decDigits x).length≤(sgnT b (Lib.decDigits x)).length:=by unfold sgnT;cases b<;>simp
 have h4:a.data.size=a.size:=rfl;refine⟨by omega,?_⟩
 by_cases hy:y=1
 ·subst hy
  rw[zbt (by omega) (by decide)];simp
 ·unfold zcT at hl
  rw[if_neg hy,List.length_cons] at hl;omega
theorem zbi(b1 b2:Bool)(x y:Nat):(sgn b1 x*sgn b2 y).natAbs=x*y:=by rw[Int.natAbs_mul,zb2,zb2]
theorem zeW(z:Int)(X y:Nat)(A1 A2:Option Addr)(n1 c1 n2 c2:Nat)(w:World)(hX:z.natAbs=X)(h1:DigI w A1 n1 c1 (digs X))(h2:DigI w A2 n2 c2 (digs y))(hy:0<y)(k1:n1≤500000)(k2:n2≤500000) :
  Calls Tryz.prog 104 #[.agg #[.bool (decide (z<0)),.slice A1 n1 c1],.agg #[.bool false,.slice A2 n2 c2]] w fun e w'=>(∃ s:ByteArray,e = .returned (.string s)∧s.data.toList=zaO (zcn z y))∧Below w.heap.size w w':=by
 have h:=zeZ (decide (z<0)) X y A1 A2 n1 c1 n2 c2 w h1 h2 hy k1 k2;rw[←hX,zkS] at h;exact h
theorem zm3(z1 z2:Int)(X1 X2:Nat)(A1 A2:Option Addr)(n1 c1 n2 c2:Nat)(w:World)(hX1:z1.natAbs=X1)(hX2:z2.natAbs=X2)(h1:DigI w A1 n1 c1 (digs X1))(h2:DigI w A2 n2 c2 (digs X2))(k1:n1≤524288)(k2:n2≤524288) :
  Calls Tryz.prog 105 #[.agg #[.bool (decide (z1<0)),.slice A1 n1 c1],.agg #[.bool (decide (z2<0)),.slice A2 n2 c2]] w (RetZ w (z1+z2)):=by
 have h:=zn8 (decide (z1<0)) (decide (z2<0)) X1 X2 A1 A2 n1 c1 n2 c2 w h1 h2 k1 k2;rw[←hX1,←hX2,zkS,zkS] at h;exact h
theorem zrj{w:World}{A:Option Addr}{n c k:Nat}{z1 z2:Int}{X1 X2:Nat}(h:DigI w A n c (digs (z1+z2).natAbs))(h1:z1.natAbs=X1)(h2:z2.natAbs=X2)(hx1:(digs X1).length≤k)(hx2:(digs X2).length≤k):n≤k+1:=by
 rw[←h.len];refine zab ?_;have e1:=zac X1;have e2:=zac X2;have p1:B^(digs X1).length≤B^k:=Nat.pow_le_pow_right zaS hx1;have p2:B^(digs X2).length≤B^k:=Nat.pow_le_pow_right zaS hx2;have p3:B^k*2≤B^k*B:=Nat.mul_le_mul_left _ zey;rw[Nat.pow_succ];have:=Int.natAbs_add_le z1 z2;omega
theorem zo9(a a':ByteArray)(b b':Bool)(x y x' y':Nat)(w:World)(h:NumT a b x y)(h':NumT a' b' x' y')(hb:b=true→0<x)(hb':b'=true→0<x')(hy:0<y)(hy':0<y')(ha:a.size≤100000)(ha':a'.size≤100000) :
  Calls Tryz.prog 48 #[.string a,.string a'] w fun e w'=>(∃ s:ByteArray,e = .returned (.string s)∧s.data.toList=zaO (zcn (sgn b x*sgn b' x') (y*y')))∧Below w.heap.size w w':=by
 have bE:=Aa (zel a b x y w h (by omega));have bA:=Aa (zel a' b' x' y' w h' (by omega));have aX:=Aa (fun W=>zbP a b x y W h hb hy (by omega));have bD:=Aa (fun W=>zbP a' b' x' y' W h' hb' hy' (by omega));have bG:0<y*y':=Nat.mul_pos hy hy';have bC:=Aa bG;have HF:Hid (decide (sgn false y*sgn false y'<0)=false):=by
  show decide (sgn false y*sgn false y'<0)=false
  unfold sgn;simp only[Bool.false_eq_true,if_false,decide_eq_false_iff_not,←Int.natCast_mul]
  omega
 have aZ:(digs x).length≤100000∧(digs y).length≤100001:=h.lens2 ha;have aY:(digs x').length≤100000∧(digs y').length≤100001:=h'.lens2 ha';have aU:=Aa aZ;have aT:=Aa aY;have HY:=Aa hy;have bS:=Aa hy';clear bG aZ aY h h' hb hb' hy hy';go_enter Tryz.func48,Tryz.ntmps48
 go_wp2_with fail
 refine bE.out.mono ?_;rintro e w1 ⟨hw,bH⟩;obtain rfl:w=w1:=hw
 rcases bH with rfl | ⟨rfl,bI,bJ⟩
 all_goals
  go_wp2_with fail
  refine bA.out.mono ?_;rintro e w1 ⟨hw,bN⟩;obtain rfl:w=w1:=hw
  rcases bN with rfl | ⟨rfl,aJ,aN⟩
 rotate_left 3
 ·obtain⟨z,hz⟩:∃ z,z=sgn b x*sgn b' x':=⟨_,rfl⟩
  obtain⟨X,hX⟩:∃ X,X=x*x':=⟨_,rfl⟩;obtain⟨Y,hY⟩:∃ Y,Y=y*y':=⟨_,rfl⟩;have bL:X≤999999999*999999999:=by rw[hX];exact Nat.mul_le_mul (by omega) (by omega)
  have bM:Y≤999999999*999999999:=by rw[hY];exact Nat.mul_le_mul (by omega) (by omega)
  have aV:z=sgn (!b==b') X:=by rw[hz,hX,zn7]
  have bR:z=(X:Int)∨z = -(X:Int):=by rw[aV];unfold sgn;cases (!b==b')<;>simp
  have hO:=zob (!b==b') X Y w (by omega) (by omega) (by rw[hY];exact bC.out);rw[←aV] at hO;have HO:=Aa hO;have ez:sgn b x*sgn b' x'=z:=hz.symm;have eY:(y:Int)*(y':Int)=(Y:Int):=by rw[hY];exact(Int.natCast_mul y y').symm
  have bO : -1000000000000000000≤z:=by omega
  have bK:z≤1000000000000000000:=by omega
  have HZ:=Aa hz;have bP:=Aa hY;have bQ:Y≤1000000000000000000:=by omega
  clear hO aV bR hX hz hY bL bM bE bA aX bD HF aU aT
  go_wp2_with fail
  refine HO.out.mono ?_;rintro e w1 ⟨⟨s,rfl,hs⟩,aI⟩;rw[HZ.out,bP.out] at hs;have HS:=Aa hs;clear hs HO;go_wp2
  go_ret;exact⟨⟨s,rfl,HS.out⟩,aI⟩
 all_goals
  first | clear bI bJ | clear aJ aN | skip
  first | clear aJ aN | skip
  go_wp2_with fail
  refine(aX.out w).mono ?_;rintro e w1 ⟨A1,n1,c1,A2,n2,c2,rfl,aK,aH,aI⟩;have aL:Below w1.heap.size w1 ((w1.alloc (.cells #[.bool b,.slice A1 n1 c1] 97)).alloc (.cells #[.bool false,.slice A2 n2 c2] 97)):=((Below.refl _ _).alloc (Nat.le_refl _) _).alloc (by simp) _;have aF:CBlk ((w1.alloc (.cells #[.bool b,.slice A1 n1 c1] 97)).alloc (.cells #[.bool false,.slice A2 n2 c2] 97)) w1.heap.size #[.bool b,.slice A1 n1 c1] 97:=(CBlk.new w1 _ _ _ rfl).below ((Below.refl _ _).alloc (Nat.le_refl _) _) (by simp);have aE:CBlk ((w1.alloc (.cells #[.bool b,.slice A1 n1 c1] 97)).alloc (.cells #[.bool false,.slice A2 n2 c2] 97)) (w1.heap.size+1) #[.bool false,.slice A2 n2 c2] 97:=CBlk.new (w1.alloc (.cells #[.bool b,.slice A1 n1 c1] 97)) _ _ (w1.heap.size+1) (by simp)
  go_wp2_with fail
  generalize ((w1.alloc (.cells #[.bool b,.slice A1 n1 c1] 97)).alloc (.cells #[.bool false,.slice A2 n2 c2] 97))=wA at *;refine(bD.out wA).mono ?_;rintro e w2 ⟨A3,n3,c3,A4,n4,c4,rfl,aM,aO,aW⟩;have aR:Below w2.heap.size w2 ((w2.alloc (.cells #[.bool b',.slice A3 n3 c3] 97)).alloc (.cells #[.bool false,.slice A4 n4 c4] 97)):=((Below.refl _ _).alloc (Nat.le_refl _) _).alloc (by simp) _;have aP:CBlk ((w2.alloc (.cells #[.bool b',.slice A3 n3 c3] 97)).alloc (.cells #[.bool false,.slice A4 n4 c4] 97)) w2.heap.size #[.bool b',.slice A3 n3 c3] 97:=(CBlk.new w2 _ _ _ rfl).below ((Below.refl _ _).alloc (Nat.le_refl _) _) (by simp);have aQ:CBlk ((w2.alloc (.cells #[.bool b',.slice A3 n3 c3] 97)).alloc (.cells #[.bool false,.slice A4 n4 c4] 97)) (w2.heap.size+1) #[.bool false,.slice A4 n4 c4] 97:=CBlk.new (w2.alloc (.cells #[.bool b',.slice A3 n3 c3] 97)) _ _ (w2.heap.size+1) (by simp);have aG:=Ad aW aR
  replace aF:=aF.below aG aF.lt
  replace aE:=aE.below aG aE.lt
  have bB:=aI.trans ((aL.trans (aG.mono aL.size)).mono aI.size)
  replace aK:=(aK.later aL).later aG
  replace aH:=(aH.later aL).later aG
  replace aM:=aM.later aR
  replace aO:=aO.later aR
  clear aL aR aI aW aG;go_upto_region 7 with(fail)
  generalize ((w2.alloc (.cells #[.bool b',.slice A3 n3 c3] 97)).alloc (.cells #[.bool false,.slice A4 n4 c4] 97))=w3 at *;have a1:w3.cell? ⟨w1.heap.size,0,none⟩=some (.bool b):=aF.cell 0;have s1:w3.cell? ⟨w1.heap.size,1,none⟩=some (.slice A1 n1 c1):=aF.cell 1;have a2:w3.cell? ⟨w1.heap.size+1,0,none⟩=some (.bool false):=aE.cell 0;have s2:w3.cell? ⟨w1.heap.size+1,1,none⟩=some (.slice A2 n2 c2):=aE.cell 1;have a3:w3.cell? ⟨w2.heap.size,0,none⟩=some (.bool b'):=aP.cell 0;have s3:w3.cell? ⟨w2.heap.size,1,none⟩=some (.slice A3 n3 c3):=aP.cell 1;have a4:w3.cell? ⟨w2.heap.size+1,0,none⟩=some (.bool false):=aQ.cell 0;have s4:w3.cell? ⟨w2.heap.size+1,1,none⟩=some (.slice A4 n4 c4):=aQ.cell 1;have l1:=aF.lt;have l2:=aE.lt;have l3:=aP.lt;have l4:=aQ.lt;have e1:n1≤100000:=by rw[←aK.len];have:=aU.out.1;omega
  have e2:n2≤100001:=by rw[←aH.len];have:=aU.out.2;omega
  have e3:n3≤100000:=by rw[←aM.len];have:=aT.out.1;omega
  have e4:n4≤100001:=by rw[←aO.len];have:=aT.out.2;omega
  have H1:=Aa aK;have H2:=Aa aH;have H3:=Aa aM;have H4:=Aa aO;have bF:=Aa bB;have aS:Below w3.heap.size w3 w3.drew:=(Below.refl _ _).drew;clear aF aE aP aQ aK aH aM aO bB
  go_region_held3 (fun w'=>w'.cell? ⟨w1.heap.size,0,none⟩=some (.bool b)∧w'.cell? ⟨w1.heap.size,1,none⟩=some (.slice A1 n1 c1)∧w'.cell? ⟨w1.heap.size+1,0,none⟩=some (.bool false)∧w'.cell? ⟨w1.heap.size+1,1,none⟩=some (.slice A2 n2 c2)∧w'.cell? ⟨w2.heap.size,0,none⟩=some (.bool b')∧w'.cell? ⟨w2.heap.size,1,none⟩=some (.slice A3 n3 c3)∧w'.cell? ⟨w2.heap.size+1,0,none⟩=some (.bool false)∧w'.cell? ⟨w2.heap.size+1,1,none⟩=some (.slice A4 n4 c4))
   (first | exact⟨a1,s1,a2,s2,a3,s3,a4,s4⟩ | exact⟨(aA.cell (p:=⟨w1.heap.size,0,none⟩) l1).trans a1,(aA.cell (p:=⟨w1.heap.size,1,none⟩) l1).trans s1,(aA.cell (p:=⟨w1.heap.size+1,0,none⟩) l2).trans a2,(aA.cell (p:=⟨w1.heap.size+1,1,none⟩) l2).trans s2,(aA.cell (p:=⟨w2.heap.size,0,none⟩) l3).trans a3,(aA.cell (p:=⟨w2.heap.size,1,none⟩) l3).trans s3,(aA.cell (p:=⟨w2.heap.size+1,0,none⟩) l4).trans a4,(aA.cell (p:=⟨w2.heap.size+1,1,none⟩) l4).trans s4⟩ | exact⟨(aC.cell (p:=⟨w1.heap.size,0,none⟩) l1).trans a1,(aC.cell (p:=⟨w1.heap.size,1,none⟩) l1).trans s1,(aC.cell (p:=⟨w1.heap.size+1,0,none⟩) l2).trans a2,(aC.cell (p:=⟨w1.heap.size+1,1,none⟩) l2).trans s2,(aC.cell (p:=⟨w2.heap.size,0,none⟩) l3).trans a3,(aC.cell (p:=⟨w2.heap.size,1,none⟩) l3).trans s3,(aC.cell (p:=⟨w2.heap.size+1,0,none⟩) l4).trans a4,(aC.cell (p:=⟨w2.heap.size+1,1,none⟩) l4).trans s4⟩ | exact⟨(aD.cell (p:=⟨w1.heap.size,0,none⟩) l1).trans a1,(aD.cell (p:=⟨w1.heap.size,1,none⟩) l1).trans s1,(aD.cell (p:=⟨w1.heap.size+1,0,none⟩) l2).trans a2,(aD.cell (p:=⟨w1.heap.size+1,1,none⟩) l2).trans s2,(aD.cell (p:=⟨w2.heap.size,0,none⟩) l3).trans a3,(aD.cell (p:=⟨w2.heap.size,1,none⟩) l3).trans s3,(aD.cell (p:=⟨w2.heap.size+1,0,none⟩) l4).trans a4,(aD.cell (p:=⟨w2.heap.size+1,1,none⟩) l4).trans s4⟩)
   (first
    |(go_at_call_of 106 (Value.agg #[.bool b,.slice A1 n1 c1]);refine(zdk b b' x x' A1 A3 n1 c1 n3 c3 w3.drew ((H1.out.later aS)) ((H3.out.later aS)) (by omega) (by omega)).mono ?_;rintro e v1 ⟨B1,m1,d1,rfl,g1,f1⟩;have aA:=aS.trans f1;rw[zbi] at g1;have u1:=zfn g1 H1.out.len H3.out.len)
    |(go_at_call_of 106 (Value.agg #[.bool false,.slice A2 n2 c2]);refine(zdk false false y y' A2 A4 n2 c2 n4 c4 v1 ((H2.out.later aA)) ((H4.out.later aA)) (by omega) (by omega)).mono ?_;rintro e v2 ⟨B2,m2,d2,rfl,g2,f2⟩;have aC:=Ad aA f2;rw[zbi] at g2;have u2:=zfn g2 H2.out.len H4.out.len;rw[HF.out])
    |(go_at_call 104;refine(zeW (sgn b x*sgn b' x') (x*x') (y*y') B1 B2 m1 d1 m2 d2 v2 (zbi b b' x x') (g1.later f2) g2 bC.out (by omega) (by omega)).mono ?_;rintro e v3 ⟨⟨s,rfl,hs⟩,f3⟩;have aD:=aC.trans (f3.mono aC.size)))
  go_wp2
  go_ret;exact⟨⟨s,rfl,hs⟩,bF.out.trans (aD.mono bF.out.size)⟩
theorem zo2(a a':ByteArray)(b b':Bool)(x y x' y':Nat)(w:World)(h:NumT a b x y)(h':NumT a' b' x' y')(hb:b=true→0<x)(hb':b'=true→0<x')(hy:0<y)(hy':0<y')(ha:a.size≤100000)(ha':a'.size≤100000) :
  Calls Tryz.prog 45 #[.string a,.string a'] w fun e w'=>(∃ s:ByteArray,e = .returned (.string s)∧s.data.toList=zaO (zcn (sgn b x*(y':Int)+sgn b' x'*(y:Int)) (y*y')))∧Below w.heap.size w w':=by
 have bH:=Aa (zel a b x y w h (by omega));have bD:=Aa (zel a' b' x' y' w h' (by omega));have bA:=Aa (fun W=>zbP a b x y W h hb hy (by omega));have bG:=Aa (fun W=>zbP a' b' x' y' W h' hb' hy' (by omega));have bJ:0<y*y':=Nat.mul_pos hy hy';have bF:=Aa bJ;have HF:Hid (decide (sgn false y*sgn false y'<0)=false):=by
  show decide (sgn false y*sgn false y'<0)=false
  unfold sgn;simp only[Bool.false_eq_true,if_false,decide_eq_false_iff_not,←Int.natCast_mul]
  omega
 have bC:(digs x).length≤100000∧(digs y).length≤100001:=h.lens2 ha;have bB:(digs x').length≤100000∧(digs y').length≤100001:=h'.lens2 ha';have aZ:=Aa bC;have aY:=Aa bB;have HY:=Aa hy;have bS:=Aa hy';clear bJ bC bB h h' hb hb' hy hy';go_enter Tryz.func45,Tryz.ntmps45
 go_wp2_with fail
 refine bH.out.mono ?_;rintro e w1 ⟨hw,bK⟩;obtain rfl:w=w1:=hw
 rcases bK with rfl | ⟨rfl,bL,bM⟩
 all_goals
  go_wp2_with fail
  refine bD.out.mono ?_;rintro e w1 ⟨hw,bO⟩;obtain rfl:w=w1:=hw
  rcases bO with rfl | ⟨rfl,aM,aQ⟩
 rotate_left 3
 ·obtain⟨z1,aW⟩:∃ z1,z1=sgn b x*(y':Int):=⟨_,rfl⟩
  obtain⟨z2,aV⟩:∃ z2,z2=sgn b' x'*(y:Int):=⟨_,rfl⟩;obtain⟨z,hz⟩:∃ z,z=z1+z2:=⟨_,rfl⟩;obtain⟨Y,hY⟩:∃ Y,Y=y*y':=⟨_,rfl⟩;have bN:Y≤999999999*999999999:=by rw[hY];exact Nat.mul_le_mul (by omega) (by omega)
  have aG:z1.natAbs≤999999999*999999999:=by rw[aW,Int.natAbs_mul,zb2,Int.natAbs_natCast];exact Nat.mul_le_mul (by omega) (by omega)
  have aS:z2.natAbs≤999999999*999999999:=by rw[aV,Int.natAbs_mul,zb2,Int.natAbs_natCast];exact Nat.mul_le_mul (by omega) (by omega)
  have hO:=zob (decide (z<0)) z.natAbs Y w (by omega) (by omega) (by rw[hY];exact bF.out);rw[zkS] at hO;have HO:=Aa hO;have bR:sgn b x*(y':Int)=z1:=aW.symm;have bU:sgn b' x'*(y:Int)=z2:=aV.symm;have ez:z1+z2=z:=hz.symm;have eY:(y:Int)*(y':Int)=(Y:Int):=by rw[hY];exact(Int.natCast_mul y y').symm
  have aK : -1000000000000000000≤z1:=by omega
  have aO:z1≤1000000000000000000:=by omega
  have bV : -1000000000000000000≤z2:=by omega
  have bT:z2≤1000000000000000000:=by omega
  have bW : -2000000000000000000≤z:=by omega
  have bX:z≤2000000000000000000:=by omega
  have HZ:Hid (z=sgn b x*(y':Int)+sgn b' x'*(y:Int)):=by
   show z=_
   rw[hz,aW,aV]
  have bP:=Aa hY;have bQ:Y≤1000000000000000000:=by omega
  clear hO hz aW aV hY bN aG aS bH bD bA bG HF aZ aY
  go_wp2_with fail
  refine HO.out.mono ?_;rintro e w1 ⟨⟨s,rfl,hs⟩,aG⟩;rw[HZ.out,bP.out] at hs;have HS:=Aa hs;clear hs HO;go_wp2
  go_ret;exact⟨⟨s,rfl,HS.out⟩,aG⟩
 all_goals
  first | clear bL bM | clear aM aQ | skip
  first | clear aM aQ | skip
  go_wp2_with fail
  refine(bA.out w).mono ?_;rintro e w1 ⟨A1,n1,c1,A2,n2,c2,rfl,aN,aL,aG⟩;have aK:Below w1.heap.size w1 ((w1.alloc (.cells #[.bool b,.slice A1 n1 c1] 97)).alloc (.cells #[.bool false,.slice A2 n2 c2] 97)):=((Below.refl _ _).alloc (Nat.le_refl _) _).alloc (by simp) _;have aI:CBlk ((w1.alloc (.cells #[.bool b,.slice A1 n1 c1] 97)).alloc (.cells #[.bool false,.slice A2 n2 c2] 97)) w1.heap.size #[.bool b,.slice A1 n1 c1] 97:=(CBlk.new w1 _ _ _ rfl).below ((Below.refl _ _).alloc (Nat.le_refl _) _) (by simp);have aH:CBlk ((w1.alloc (.cells #[.bool b,.slice A1 n1 c1] 97)).alloc (.cells #[.bool false,.slice A2 n2 c2] 97)) (w1.heap.size+1) #[.bool false,.slice A2 n2 c2] 97:=CBlk.new (w1.alloc (.cells #[.bool b,.slice A1 n1 c1] 97)) _ _ (w1.heap.size+1) (by simp)
  go_wp2_with fail
  generalize ((w1.alloc (.cells #[.bool b,.slice A1 n1 c1] 97)).alloc (.cells #[.bool false,.slice A2 n2 c2] 97))=wA at *;refine(bG.out wA).mono ?_;rintro e w2 ⟨A3,n3,c3,A4,n4,c4,rfl,aP,aR,aS⟩;have aO:Below w2.heap.size w2 ((w2.alloc (.cells #[.bool b',.slice A3 n3 c3] 97)).alloc (.cells #[.bool false,.slice A4 n4 c4] 97)):=((Below.refl _ _).alloc (Nat.le_refl _) _).alloc (by simp) _;have aT:CBlk ((w2.alloc (.cells #[.bool b',.slice A3 n3 c3] 97)).alloc (.cells #[.bool false,.slice A4 n4 c4] 97)) w2.heap.size #[.bool b',.slice A3 n3 c3] 97:=(CBlk.new w2 _ _ _ rfl).below ((Below.refl _ _).alloc (Nat.le_refl _) _) (by simp);have aU:CBlk ((w2.alloc (.cells #[.bool b',.slice A3 n3 c3] 97)).alloc (.cells #[.bool false,.slice A4 n4 c4] 97)) (w2.heap.size+1) #[.bool false,.slice A4 n4 c4] 97:=CBlk.new (w2.alloc (.cells #[.bool b',.slice A3 n3 c3] 97)) _ _ (w2.heap.size+1) (by simp);have aJ:=Ad aS aO
  replace aI:=aI.below aJ aI.lt
  replace aH:=aH.below aJ aH.lt
  have bE:=aG.trans ((aK.trans (aJ.mono aK.size)).mono aG.size)
  replace aN:=(aN.later aK).later aJ
  replace aL:=(aL.later aK).later aJ
  replace aP:=aP.later aO
  replace aR:=aR.later aO
  clear aK aO aG aS aJ;go_upto_region 7 with(fail)
  generalize ((w2.alloc (.cells #[.bool b',.slice A3 n3 c3] 97)).alloc (.cells #[.bool false,.slice A4 n4 c4] 97))=w3 at *;have a1:w3.cell? ⟨w1.heap.size,0,none⟩=some (.bool b):=aI.cell 0;have s1:w3.cell? ⟨w1.heap.size,1,none⟩=some (.slice A1 n1 c1):=aI.cell 1;have a2:w3.cell? ⟨w1.heap.size+1,0,none⟩=some (.bool false):=aH.cell 0;have s2:w3.cell? ⟨w1.heap.size+1,1,none⟩=some (.slice A2 n2 c2):=aH.cell 1;have a3:w3.cell? ⟨w2.heap.size,0,none⟩=some (.bool b'):=aT.cell 0;have s3:w3.cell? ⟨w2.heap.size,1,none⟩=some (.slice A3 n3 c3):=aT.cell 1;have a4:w3.cell? ⟨w2.heap.size+1,0,none⟩=some (.bool false):=aU.cell 0;have s4:w3.cell? ⟨w2.heap.size+1,1,none⟩=some (.slice A4 n4 c4):=aU.cell 1;have l1:=aI.lt;have l2:=aH.lt;have l3:=aT.lt;have l4:=aU.lt;have e1:n1≤100000:=by rw[←aN.len];have:=aZ.out.1;omega
  have e2:n2≤100001:=by rw[←aL.len];have:=aZ.out.2;omega
  have e3:n3≤100000:=by rw[←aP.len];have:=aY.out.1;omega
  have e4:n4≤100001:=by rw[←aR.len];have:=aY.out.2;omega
  have H1:=Aa aN;have H2:=Aa aL;have H3:=Aa aP;have H4:=Aa aR;have bI:=Aa bE;have aX:Below w3.heap.size w3 w3.drew:=(Below.refl _ _).drew;clear aI aH aT aU aN aL aP aR bE
  go_region_held3 (fun w'=>w'.cell? ⟨w1.heap.size,0,none⟩=some (.bool b)∧w'.cell? ⟨w1.heap.size,1,none⟩=some (.slice A1 n1 c1)∧w'.cell? ⟨w1.heap.size+1,0,none⟩=some (.bool false)∧w'.cell? ⟨w1.heap.size+1,1,none⟩=some (.slice A2 n2 c2)∧w'.cell? ⟨w2.heap.size,0,none⟩=some (.bool b')∧w'.cell? ⟨w2.heap.size,1,none⟩=some (.slice A3 n3 c3)∧w'.cell? ⟨w2.heap.size+1,0,none⟩=some (.bool false)∧w'.cell? ⟨w2.heap.size+1,1,none⟩=some (.slice A4 n4 c4))
   (first | exact⟨a1,s1,a2,s2,a3,s3,a4,s4⟩ | exact⟨(aC.cell (p:=⟨w1.heap.size,0,none⟩) l1).trans a1,(aC.cell (p:=⟨w1.heap.size,1,none⟩) l1).trans s1,(aC.cell (p:=⟨w1.heap.size+1,0,none⟩) l2).trans a2,(aC.cell (p:=⟨w1.heap.size+1,1,none⟩) l2).trans s2,(aC.cell (p:=⟨w2.heap.size,0,none⟩) l3).trans a3,(aC.cell (p:=⟨w2.heap.size,1,none⟩) l3).trans s3,(aC.cell (p:=⟨w2.heap.size+1,0,none⟩) l4).trans a4,(aC.cell (p:=⟨w2.heap.size+1,1,none⟩) l4).trans s4⟩ | exact⟨(aD.cell (p:=⟨w1.heap.size,0,none⟩) l1).trans a1,(aD.cell (p:=⟨w1.heap.size,1,none⟩) l1).trans s1,(aD.cell (p:=⟨w1.heap.size+1,0,none⟩) l2).trans a2,(aD.cell (p:=⟨w1.heap.size+1,1,none⟩) l2).trans s2,(aD.cell (p:=⟨w2.heap.size,0,none⟩) l3).trans a3,(aD.cell (p:=⟨w2.heap.size,1,none⟩) l3).trans s3,(aD.cell (p:=⟨w2.heap.size+1,0,none⟩) l4).trans a4,(aD.cell (p:=⟨w2.heap.size+1,1,none⟩) l4).trans s4⟩ | exact⟨(aA.cell (p:=⟨w1.heap.size,0,none⟩) l1).trans a1,(aA.cell (p:=⟨w1.heap.size,1,none⟩) l1).trans s1,(aA.cell (p:=⟨w1.heap.size+1,0,none⟩) l2).trans a2,(aA.cell (p:=⟨w1.heap.size+1,1,none⟩) l2).trans s2,(aA.cell (p:=⟨w2.heap.size,0,none⟩) l3).trans a3,(aA.cell (p:=⟨w2.heap.size,1,none⟩) l3).trans s3,(aA.cell (p:=⟨w2.heap.size+1,0,none⟩) l4).trans a4,(aA.cell (p:=⟨w2.heap.size+1,1,none⟩) l4).trans s4⟩ | exact⟨(aE.cell (p:=⟨w1.heap.size,0,none⟩) l1).trans a1,(aE.cell (p:=⟨w1.heap.size,1,none⟩) l1).trans s1,(aE.cell (p:=⟨w1.heap.size+1,0,none⟩) l2).trans a2,(aE.cell (p:=⟨w1.heap.size+1,1,none⟩) l2).trans s2,(aE.cell (p:=⟨w2.heap.size,0,none⟩) l3).trans a3,(aE.cell (p:=⟨w2.heap.size,1,none⟩) l3).trans s3,(aE.cell (p:=⟨w2.heap.size+1,0,none⟩) l4).trans a4,(aE.cell (p:=⟨w2.heap.size+1,1,none⟩) l4).trans s4⟩ | exact⟨(aF.cell (p:=⟨w1.heap.size,0,none⟩) l1).trans a1,(aF.cell (p:=⟨w1.heap.size,1,none⟩) l1).trans s1,(aF.cell (p:=⟨w1.heap.size+1,0,none⟩) l2).trans a2,(aF.cell (p:=⟨w1.heap.size+1,1,none⟩) l2).trans s2,(aF.cell (p:=⟨w2.heap.size,0,none⟩) l3).trans a3,(aF.cell (p:=⟨w2.heap.size,1,none⟩) l3).trans s3,(aF.cell (p:=⟨w2.heap.size+1,0,none⟩) l4).trans a4,(aF.cell (p:=⟨w2.heap.size+1,1,none⟩) l4).trans s4⟩)
   (first
    |(go_at_call_of 106 (Value.agg #[.bool b,.slice A1 n1 c1]);refine(zdk b false x y' A1 A4 n1 c1 n4 c4 w3.drew ((H1.out.later aX)) ((H4.out.later aX)) (by omega) (by omega)).mono ?_;rintro e v1 ⟨B1,m1,d1,rfl,g1,f1⟩;have aC:=aX.trans f1;rw[zbi] at g1;have u1:=zfn g1 H1.out.len H4.out.len)
    |(go_at_call_of 106 (Value.agg #[.bool b',.slice A3 n3 c3]);refine(zdk b' false x' y A3 A2 n3 c3 n2 c2 v1 ((H3.out.later aC)) ((H2.out.later aC)) (by omega) (by omega)).mono ?_;rintro e v2 ⟨B2,m2,d2,rfl,g2,f2⟩;have aD:=Ad aC f2;rw[zbi] at g2;have u2:=zfn g2 H3.out.len H2.out.len)
    |(go_at_call 105;refine(zm3 (sgn b x*sgn false y') (sgn b' x'*sgn false y) (x*y') (x'*y) B1 B2 m1 d1 m2 d2 v2 (zbi _ _ _ _) (zbi _ _ _ _) (g1.later f2) g2 (by omega) (by omega)).mono ?_;rintro e v3 ⟨B3,m3,d3,rfl,g3,f3⟩;have aA:=Ad aD f3;have u3:=zrj (k:=300000) g3 (zbi _ _ _ _) (zbi _ _ _ _) (by have:=g1.len;omega) (by have:=g2.len;omega))
    |(go_at_call_of 106 (Value.agg #[.bool false,.slice A2 n2 c2]);refine(zdk false false y y' A2 A4 n2 c2 n4 c4 v3 ((H2.out.later aA)) ((H4.out.later aA)) (by omega) (by omega)).mono ?_;rintro e v4 ⟨B4,m4,d4,rfl,g4,f4⟩;have aE:=Ad aA f4;rw[zbi] at g4;have u4:=zfn g4 H2.out.len H4.out.len;rw[HF.out])
    |(go_at_call 104;refine(zeW (sgn b x*sgn false y'+sgn b' x'*sgn false y) _ (y*y') B3 B4 m3 d3 m4 d4 v4 rfl (g3.later f4) g4 bF.out (by omega) (by omega)).mono ?_;rintro e v5 ⟨⟨s,rfl,hs⟩,f5⟩;have aF:=aE.trans (f5.mono aE.size)))
  go_wp2
  go_ret;exact⟨⟨s,rfl,hs⟩,bI.out.trans (aF.mono bI.out.size)⟩
end Go.Proofs.YtbkgkoenppkhpaaGreatDoor
