/- Contract of the reference's parts: the integers of a text's numerator and denominator. -/
import Derived.Test.YtbkgkoenppkhpaaGreatDoorGRb13
import Derived.Deep.RegionHeld3
set_option maxRecDepth 100000
set_option maxHeartbeats 8000000
namespace Go.Proofs.YtbkgkoenppkhpaaGreatDoor
open Go.RowKit Dn
theorem zog {b:Bool} {x:Nat} (h:b=true→0<x):decide (sgn b x<0)=b:=by
 rw [zdH]
 cases b
 ·rfl
 ·simpa using h rfl
def RetP (w:World) (b:Bool) (x y:Nat) (e:Ending) (w':World):Prop:=
 ∃ A1 n1 c1 A2 n2 c2,e = .returned (.tuple #[.agg #[.bool b,.slice A1 n1 c1],.agg #[.bool false,.slice A2 n2 c2]])∧DigI w' A1 n1 c1 (digs x)∧DigI w' A2 n2 c2 (digs y)∧Below w.heap.size w w'
theorem DigI.box2 {w:World} {A A1 A2:Option Addr} {n c n1 c1 n2 c2 g:Nat} {b1 b2:Bool} {l:List Nat} {t:TypeId} (h:DigI w A n c l) (hk:CBlk w g #[.bool b1,.slice A1 n1 c1] t) (hk2:CBlk w (g+1) #[.bool b2,.slice A2 n2 c2] t) (u v u' v':Value) :
  DigI ((((w.setCell ⟨g,0,none⟩ u).setCell ⟨g,1,none⟩ v).setCell ⟨g+1,0,none⟩ u').setCell ⟨g+1,1,none⟩ v') A n c l:=
 (h.box hk u v).box (hk2.far2 (by omega) u v) u' v'
theorem zci (a:ByteArray) (b:Bool) (x y:Nat) (w:World) (h:NumT a b x y) (hb:b=true→0<x) (hy0:0<y) (ha:a.size≤1000000) :
  Calls Tryz.prog 64 #[.string a] w (RetP w b x y):=by
 have hB:Below w.heap.size w ((w.alloc (.cells #[.bool false,.slice none 0 0] 97)).alloc (.cells #[.bool false,.slice none 0 0] 97)):=((Below.refl _ _).alloc (Nat.le_refl _) _).alloc (by simp) _;have aL:CBlk ((w.alloc (.cells #[.bool false,.slice none 0 0] 97)).alloc (.cells #[.bool false,.slice none 0 0] 97)) w.heap.size #[.bool false,.slice none 0 0] 97:=(CBlk.new w _ _ _ rfl).below ((Below.refl _ _).alloc (Nat.le_refl _) _) (by simp);have aN:CBlk ((w.alloc (.cells #[.bool false,.slice none 0 0] 97)).alloc (.cells #[.bool false,.slice none 0 0] 97)) (w.heap.size+1) #[.bool false,.slice none 0 0] 97:=CBlk.new (w.alloc (.cells #[.bool false,.slice none 0 0] 97)) _ _ (w.heap.size+1) (by simp);have bG:zaq (sgnT false (Lib.decDigits x))=true:=zaC x;obtain ⟨k,hk⟩:∃ k,k=(sgnT b (Lib.decDigits x)).length:=⟨_,rfl⟩;obtain ⟨p1,p2,p3⟩:=zev (t:=a) (l:=sgnT b (Lib.decDigits x)) h hk;have aM:=zbY a;have aY:zbs a.data.toList=k:=by rw [h,zdh _ _ (zcg (zaC x)),hk]
 have aM:=fun W=>zbY a W (by omega)
 simp only [aY] at aM
 have aU:=Aa aM;have aX:=Aa (zog hb);have aW:=Aa (zcn b x);clear aM aY bG
 by_cases hy:y=1
 ·subst hy
  have bI:=p2 rfl;have aR:=fun W=>zeY a b x W (by rw [h];simp [zcM]) ha
  have bC:=Aa aR;have dk:((k:Int)==(a.size:Int))=true:=by rw [beq_iff_eq];omega
  clear h hk p1 p2 p3 aR bI hb;go_enter Tryz.func64,Tryz.ntmps64
  go_upto_region 1 with (fail)
  generalize ((w.alloc (.cells #[.bool false,.slice none 0 0] 97)).alloc (.cells #[.bool false,.slice none 0 0] 97))=w3 at *
  go_wp2_with fail
  refine (aU.out w3).mono ?_;rintro e w4 ⟨rfl,hw⟩;obtain rfl:w3=w4:=hw
  go_wp2_with fail
  refine (bC.out w3).mono ?_;rintro e w5 ⟨A5,m5,c5,rfl,aI,aA⟩;rw [aW.out] at aI;rw [aX.out];have HW:=Aa (zj6 1 w5 (by omega))
  go_wp2_with fail
  refine HW.out.mono ?_;rintro e w6 ⟨A6,m6,c6,rfl,aK,aE⟩;have aJ:DigI w6 A6 m6 c6 (digs 1):=aK;have aD:=(aL.below aA aL.lt).below aE (Nat.lt_of_lt_of_le aL.lt aA.size);have aC:=(aN.below aA aN.lt).below aE (Nat.lt_of_lt_of_le aN.lt aA.size);have aF:=aI.later aE;have aO:=hB.trans ((aA.trans (aE.mono aA.size)).mono hB.size);have e0:w6.cell? ⟨w.heap.size,0,none⟩=some (.bool false):=aD.cell 0;have e1:w6.cell? ⟨w.heap.size,1,none⟩=some (.slice none 0 0):=aD.cell 1;have e2:w6.cell? ⟨w.heap.size+1,0,none⟩=some (.bool false):=aC.cell 0;have e3:w6.cell? ⟨w.heap.size+1,1,none⟩=some (.slice none 0 0):=aC.cell 1;have f0:w6.frozen? ⟨w.heap.size,0,none⟩=false:=aD.frozen 0;have f1:w6.frozen? ⟨w.heap.size,1,none⟩=false:=aD.frozen 1;have f2:w6.frozen? ⟨w.heap.size+1,0,none⟩=false:=aC.frozen 0;have f3:w6.frozen? ⟨w.heap.size+1,1,none⟩=false:=aC.frozen 1;have bJ:=Aa aF;have bF:=Aa aJ;have bD:=Aa aO;clear aA aE aI aK aF aJ aO hB dk;go_wp2
  refine bodyPost_ret (v := .tuple #[.agg #[.bool b,.slice A5 m5 c5],.agg #[.bool false,.slice A6 m6 c6]]) (by simp [results,Tryz.results64,go_sem,e0,e1,e2,e3]) rfl ?_;exact ⟨A5,m5,c5,A6,m6,c6,rfl,bJ.out.box2 aD aC _ _ _ _,bF.out.box2 aD aC _ _ _ _,zct (zct bD.out (Nat.le_refl _) _ _) (by omega) _ _⟩
 ·obtain ⟨q1,q2,q3⟩:=p3 hy
  obtain ⟨t1,aT⟩:∃ t1,a.extract 0 k=t1:=⟨_,rfl⟩;obtain ⟨kk,aZ⟩:∃ kk,kk=k+1:=⟨_,rfl⟩;rw [←aZ] at q2;obtain ⟨t2,bB⟩:∃ t2,a.extract kk a.size=t2:=⟨_,rfl⟩;have aV:t1.size≤1000000:=by rw [←aT];simp;omega
  have bA:t2.size≤1000000:=by rw [←bB];simp;omega
  rw [aT] at p1;rw [bB] at q2;have bH:=Aa (fun W=>zeY t1 b x W p1 aV);have bE:=Aa (fun W=>zeY t2 false y W q2 bA);have aP:Hid (decide (sgn false y<0)=false):=by show decide (sgn false y<0)=false;rw [zdH];rfl
  have aQ:=Aa (zcn false y);have dk:((k:Int)==(a.size:Int))=false:=by rw [beq_eq_false_iff_ne];omega
  have f1:IntKind.i64.wrap ((k:Int)+1)=(kk:Int):=by rw [IntWalk.i64_in _ (by omega)];omega
  have g1:(0:Int)≤(k:Int):=by omega
  have g2:(k:Int)≤(a.size:Int):=by omega
  have g3:(0:Int)≤(kk:Int):=by omega
  have g4:(kk:Int)≤(a.size:Int):=by omega
  clear h hk p1 p2 p3 q1 q2 q3 hb aV bA aZ;go_enter Tryz.func64,Tryz.ntmps64
  go_upto_region 1 with (fail)
  generalize ((w.alloc (.cells #[.bool false,.slice none 0 0] 97)).alloc (.cells #[.bool false,.slice none 0 0] 97))=w3 at *
  go_wp2_with fail
  refine (aU.out w3).mono ?_;rintro e w4 ⟨rfl,hw⟩;obtain rfl:w3=w4:=hw;have aG:CBlk w3.drew w.heap.size #[.bool false,.slice none 0 0] 97:=aL;have aH:CBlk w3.drew (w.heap.size+1) #[.bool false,.slice none 0 0] 97:=aN;have aS:Below w.heap.size w w3.drew:=hB.drew;go_upto_region 5 with (fail)
  go_region_held3 (fun _=>True) (exact trivial)
   (first
    |(go_at_call_of 135 (Value.string t1);refine (bH.out w3.drew).mono ?_;rintro e w5 ⟨A5,m5,c5,rfl,aI,aA⟩;rw [aW.out] at aI;rw [aX.out])
    |(go_at_call_of 135 (Value.string t2);refine (bE.out w5).mono ?_;rintro e w6 ⟨A6,m6,c6,rfl,aK,aE⟩;rw [aQ.out] at aK;rw [aP.out];have aD:=(aG.below aA aG.lt).below aE (Nat.lt_of_lt_of_le aG.lt aA.size);have aC:=(aH.below aA aH.lt).below aE (Nat.lt_of_lt_of_le aH.lt aA.size);have e0:=aD.cell 0;have e1:=aD.cell 1;have e2:=aC.cell 0;have e3:=aC.cell 1;have r0:=aD.frozen 0;have r1:=aD.frozen 1;have r2:=aC.frozen 0;have r3:=aC.frozen 1))
  have aF:=aI.later aE;have aO:=aS.trans ((aA.trans (aE.mono aA.size)).mono aS.size);have k0:w6.cell? ⟨w.heap.size,0,none⟩=some (.bool false):=e0;have k1:w6.cell? ⟨w.heap.size,1,none⟩=some (.slice none 0 0):=e1;have k2:w6.cell? ⟨w.heap.size+1,0,none⟩=some (.bool false):=e2;have k3:w6.cell? ⟨w.heap.size+1,1,none⟩=some (.slice none 0 0):=e3
  go_wp2_with fail
  refine bodyPost_ret (v := .tuple #[.agg #[.bool b,.slice A5 m5 c5],.agg #[.bool false,.slice A6 m6 c6]]) (by simp [results,Tryz.results64,go_sem,k0,k1,k2,k3]) rfl ?_;exact ⟨A5,m5,c5,A6,m6,c6,rfl,aF.box2 aD aC _ _ _ _,aK.box2 aD aC _ _ _ _,zct (zct aO (Nat.le_refl _) _ _) (by omega) _ _⟩
theorem zbO (x:Nat):(digs x).length≤(Lib.decDigits x).length:=by
 refine zad ?_;have h1:=zbu _ (zaC x);rw [zaW] at h1;have h2:10 ^ (Lib.decDigits x).length≤B ^ (Lib.decDigits x).length:=Nat.pow_le_pow_left (by decide) _;omega
theorem NumT.lens2 {a:ByteArray} {b:Bool} {x y:Nat} (h:NumT a b x y) (ha:a.size≤100000):(digs x).length≤100000∧(digs y).length≤100001:=by
 have hl:=congrArg List.length h;rw [Array.length_toList,List.length_append] at hl;have h1:=zbO x;have h2:=zbO y;have h3:(Lib.decDigits x).length≤(sgnT b (Lib.decDigits x)).length:=by unfold sgnT;cases b<;>simp
 have h4:a.data.size=a.size:=rfl;refine ⟨by omega,?_⟩
 by_cases hy:y=1
 ·subst hy
  rw [zbv (by omega) (by decide)];simp
 ·unfold zcM at hl
  rw [if_neg hy,List.length_cons] at hl;omega
theorem zbc (b1 b2:Bool) (x y:Nat):(sgn b1 x*sgn b2 y).natAbs=x*y:=by rw [Int.natAbs_mul,zcn,zcn]
theorem zeG (z:Int) (X y:Nat) (A1 A2:Option Addr) (n1 c1 n2 c2:Nat) (w:World) (hX:z.natAbs=X) (h1:DigI w A1 n1 c1 (digs X)) (h2:DigI w A2 n2 c2 (digs y)) (hy:0<y) (k1:n1≤500000) (k2:n2≤500000) :
  Calls Tryz.prog 104 #[.agg #[.bool (decide (z<0)),.slice A1 n1 c1],.agg #[.bool false,.slice A2 n2 c2]] w fun e w'=>(∃ s:ByteArray,e = .returned (.string s)∧s.data.toList=zaE (zbn z y))∧Below w.heap.size w w':=by
 have h:=zg8 (decide (z<0)) X y A1 A2 n1 c1 n2 c2 w h1 h2 hy k1 k2;rw [←hX,zfN] at h;exact h
theorem zlM (z1 z2:Int) (X1 X2:Nat) (A1 A2:Option Addr) (n1 c1 n2 c2:Nat) (w:World) (hX1:z1.natAbs=X1) (hX2:z2.natAbs=X2) (h1:DigI w A1 n1 c1 (digs X1)) (h2:DigI w A2 n2 c2 (digs X2)) (k1:n1≤524288) (k2:n2≤524288) :
  Calls Tryz.prog 105 #[.agg #[.bool (decide (z1<0)),.slice A1 n1 c1],.agg #[.bool (decide (z2<0)),.slice A2 n2 c2]] w (RetZ w (z1+z2)):=by
 have h:=zmt (decide (z1<0)) (decide (z2<0)) X1 X2 A1 A2 n1 c1 n2 c2 w h1 h2 k1 k2;rw [←hX1,←hX2,zfN,zfN] at h;exact h
theorem zoM {w:World} {A:Option Addr} {n c k:Nat} {z1 z2:Int} {X1 X2:Nat} (h:DigI w A n c (digs (z1+z2).natAbs)) (h1:z1.natAbs=X1) (h2:z2.natAbs=X2) (hx1:(digs X1).length≤k) (hx2:(digs X2).length≤k):n≤k+1:=by
 rw [←h.len];refine zad ?_;have e1:=zab X1;have e2:=zab X2;have p1:B ^ (digs X1).length≤B ^ k:=Nat.pow_le_pow_right zaO hx1;have p2:B ^ (digs X2).length≤B ^ k:=Nat.pow_le_pow_right zaO hx2;have p3:B ^ k*2≤B ^ k*B:=Nat.mul_le_mul_left _ zeA;rw [Nat.pow_succ];have:=Int.natAbs_add_le z1 z2;omega
theorem zmA (a a':ByteArray) (b b':Bool) (x y x' y':Nat) (w:World) (h:NumT a b x y) (h':NumT a' b' x' y') (hb:b=true→0<x) (hb':b'=true→0<x') (hy:0<y) (hy':0<y') (ha:a.size≤100000) (ha':a'.size≤100000) :
  Calls Tryz.prog 48 #[.string a,.string a'] w fun e w'=>(∃ s:ByteArray,e = .returned (.string s)∧s.data.toList=zaE (zbn (sgn b x*sgn b' x') (y*y')))∧Below w.heap.size w w':=by
 have bF:=Aa (zdY a b x y w h (by omega));have bE:=Aa (zdY a' b' x' y' w h' (by omega));have bD:=Aa (fun W=>zci a b x y W h hb hy (by omega));have bA:=Aa (fun W=>zci a' b' x' y' W h' hb' hy' (by omega));have aZ:0<y*y':=Nat.mul_pos hy hy';have aY:=Aa aZ;have HF:Hid (decide (sgn false y*sgn false y'<0)=false):=by
  show decide (sgn false y*sgn false y'<0)=false
  unfold sgn;simp only [Bool.false_eq_true,if_false,decide_eq_false_iff_not,←Int.natCast_mul]
  omega
 have bC:(digs x).length≤100000∧(digs y).length≤100001:=h.lens2 ha;have bB:(digs x').length≤100000∧(digs y').length≤100001:=h'.lens2 ha';have aT:=Aa bC;have aS:=Aa bB;have HY:=Aa hy;have bS:=Aa hy';clear aZ bC bB h h' hb hb' hy hy';go_enter Tryz.func48,Tryz.ntmps48
 go_wp2_with fail
 refine bF.out.mono ?_;rintro e w1 ⟨hw,bK⟩;obtain rfl:w=w1:=hw
 rcases bK with rfl | ⟨rfl,bO,bL⟩
 all_goals
  go_wp2_with fail
  refine bE.out.mono ?_;rintro e w1 ⟨hw,bI⟩;obtain rfl:w=w1:=hw
  rcases bI with rfl | ⟨rfl,aI,aO⟩
 rotate_left 3
 ·obtain ⟨z,hz⟩:∃ z,z=sgn b x*sgn b' x':=⟨_,rfl⟩
  obtain ⟨X,hX⟩:∃ X,X=x*x':=⟨_,rfl⟩;obtain ⟨Y,hY⟩:∃ Y,Y=y*y':=⟨_,rfl⟩;have bR:X≤999999999*999999999:=by rw [hX];exact Nat.mul_le_mul (by omega) (by omega)
  have bP:Y≤999999999*999999999:=by rw [hY];exact Nat.mul_le_mul (by omega) (by omega)
  have aW:z=sgn (!b==b') X:=by rw [hz,hX,ziF]
  have bQ:z=(X:Int)∨z = -(X:Int):=by rw [aW];unfold sgn;cases (!b==b')<;>simp
  have hO:=ziI (!b==b') X Y w (by omega) (by omega) (by rw [hY];exact aY.out);rw [←aW] at hO;have HO:=Aa hO;have ez:sgn b x*sgn b' x'=z:=hz.symm;have eY:(y:Int)*(y':Int)=(Y:Int):=by rw [hY];exact (Int.natCast_mul y y').symm
  have bN : -1000000000000000000≤z:=by omega
  have bH:z≤1000000000000000000:=by omega
  have HZ:=Aa hz;have bJ:=Aa hY;have bM:Y≤1000000000000000000:=by omega
  clear hO aW bQ hX hz hY bR bP bF bE bD bA HF aT aS
  go_wp2_with fail
  refine HO.out.mono ?_;rintro e w1 ⟨⟨s,rfl,hs⟩,aJ⟩;rw [HZ.out,bJ.out] at hs;have HS:=Aa hs;clear hs HO;go_wp2
  go_ret;exact ⟨⟨s,rfl,HS.out⟩,aJ⟩
 all_goals
  first | clear bO bL | clear aI aO | skip
  first | clear aI aO | skip
  go_wp2_with fail
  refine (bD.out w).mono ?_;rintro e w1 ⟨A1,n1,c1,A2,n2,c2,rfl,aM,aL,aJ⟩;have aN:Below w1.heap.size w1 ((w1.alloc (.cells #[.bool b,.slice A1 n1 c1] 97)).alloc (.cells #[.bool false,.slice A2 n2 c2] 97)):=((Below.refl _ _).alloc (Nat.le_refl _) _).alloc (by simp) _;have aE:CBlk ((w1.alloc (.cells #[.bool b,.slice A1 n1 c1] 97)).alloc (.cells #[.bool false,.slice A2 n2 c2] 97)) w1.heap.size #[.bool b,.slice A1 n1 c1] 97:=(CBlk.new w1 _ _ _ rfl).below ((Below.refl _ _).alloc (Nat.le_refl _) _) (by simp);have aF:CBlk ((w1.alloc (.cells #[.bool b,.slice A1 n1 c1] 97)).alloc (.cells #[.bool false,.slice A2 n2 c2] 97)) (w1.heap.size+1) #[.bool false,.slice A2 n2 c2] 97:=CBlk.new (w1.alloc (.cells #[.bool b,.slice A1 n1 c1] 97)) _ _ (w1.heap.size+1) (by simp)
  go_wp2_with fail
  generalize ((w1.alloc (.cells #[.bool b,.slice A1 n1 c1] 97)).alloc (.cells #[.bool false,.slice A2 n2 c2] 97))=wA at *;refine (bA.out wA).mono ?_;rintro e w2 ⟨A3,n3,c3,A4,n4,c4,rfl,aH,aK,aU⟩;have aP:Below w2.heap.size w2 ((w2.alloc (.cells #[.bool b',.slice A3 n3 c3] 97)).alloc (.cells #[.bool false,.slice A4 n4 c4] 97)):=((Below.refl _ _).alloc (Nat.le_refl _) _).alloc (by simp) _;have aQ:CBlk ((w2.alloc (.cells #[.bool b',.slice A3 n3 c3] 97)).alloc (.cells #[.bool false,.slice A4 n4 c4] 97)) w2.heap.size #[.bool b',.slice A3 n3 c3] 97:=(CBlk.new w2 _ _ _ rfl).below ((Below.refl _ _).alloc (Nat.le_refl _) _) (by simp);have aR:CBlk ((w2.alloc (.cells #[.bool b',.slice A3 n3 c3] 97)).alloc (.cells #[.bool false,.slice A4 n4 c4] 97)) (w2.heap.size+1) #[.bool false,.slice A4 n4 c4] 97:=CBlk.new (w2.alloc (.cells #[.bool b',.slice A3 n3 c3] 97)) _ _ (w2.heap.size+1) (by simp);have aG:=Ad aU aP
  replace aE:=aE.below aG aE.lt
  replace aF:=aF.below aG aF.lt
  have bG:=aJ.trans ((aN.trans (aG.mono aN.size)).mono aJ.size)
  replace aM:=(aM.later aN).later aG
  replace aL:=(aL.later aN).later aG
  replace aH:=aH.later aP
  replace aK:=aK.later aP
  clear aN aP aJ aU aG;go_upto_region 7 with (fail)
  generalize ((w2.alloc (.cells #[.bool b',.slice A3 n3 c3] 97)).alloc (.cells #[.bool false,.slice A4 n4 c4] 97))=w3 at *;have a1:w3.cell? ⟨w1.heap.size,0,none⟩=some (.bool b):=aE.cell 0;have s1:w3.cell? ⟨w1.heap.size,1,none⟩=some (.slice A1 n1 c1):=aE.cell 1;have a2:w3.cell? ⟨w1.heap.size+1,0,none⟩=some (.bool false):=aF.cell 0;have s2:w3.cell? ⟨w1.heap.size+1,1,none⟩=some (.slice A2 n2 c2):=aF.cell 1;have a3:w3.cell? ⟨w2.heap.size,0,none⟩=some (.bool b'):=aQ.cell 0;have s3:w3.cell? ⟨w2.heap.size,1,none⟩=some (.slice A3 n3 c3):=aQ.cell 1;have a4:w3.cell? ⟨w2.heap.size+1,0,none⟩=some (.bool false):=aR.cell 0;have s4:w3.cell? ⟨w2.heap.size+1,1,none⟩=some (.slice A4 n4 c4):=aR.cell 1;have l1:=aE.lt;have l2:=aF.lt;have l3:=aQ.lt;have l4:=aR.lt;have e1:n1≤100000:=by rw [←aM.len];have:=aT.out.1;omega
  have e2:n2≤100001:=by rw [←aL.len];have:=aT.out.2;omega
  have e3:n3≤100000:=by rw [←aH.len];have:=aS.out.1;omega
  have e4:n4≤100001:=by rw [←aK.len];have:=aS.out.2;omega
  have H1:=Aa aM;have H2:=Aa aL;have H3:=Aa aH;have H4:=Aa aK;have aX:=Aa bG;have aV:Below w3.heap.size w3 w3.drew:=(Below.refl _ _).drew;clear aE aF aQ aR aM aL aH aK bG
  go_region_held3 (fun w'=>w'.cell? ⟨w1.heap.size,0,none⟩=some (.bool b)∧w'.cell? ⟨w1.heap.size,1,none⟩=some (.slice A1 n1 c1)∧w'.cell? ⟨w1.heap.size+1,0,none⟩=some (.bool false)∧w'.cell? ⟨w1.heap.size+1,1,none⟩=some (.slice A2 n2 c2)∧w'.cell? ⟨w2.heap.size,0,none⟩=some (.bool b')∧w'.cell? ⟨w2.heap.size,1,none⟩=some (.slice A3 n3 c3)∧w'.cell? ⟨w2.heap.size+1,0,none⟩=some (.bool false)∧w'.cell? ⟨w2.heap.size+1,1,none⟩=some (.slice A4 n4 c4))
   (first | exact ⟨a1,s1,a2,s2,a3,s3,a4,s4⟩ | exact ⟨(aA.cell (p:=⟨w1.heap.size,0,none⟩) l1).trans a1,(aA.cell (p:=⟨w1.heap.size,1,none⟩) l1).trans s1,(aA.cell (p:=⟨w1.heap.size+1,0,none⟩) l2).trans a2,(aA.cell (p:=⟨w1.heap.size+1,1,none⟩) l2).trans s2,(aA.cell (p:=⟨w2.heap.size,0,none⟩) l3).trans a3,(aA.cell (p:=⟨w2.heap.size,1,none⟩) l3).trans s3,(aA.cell (p:=⟨w2.heap.size+1,0,none⟩) l4).trans a4,(aA.cell (p:=⟨w2.heap.size+1,1,none⟩) l4).trans s4⟩ | exact ⟨(aC.cell (p:=⟨w1.heap.size,0,none⟩) l1).trans a1,(aC.cell (p:=⟨w1.heap.size,1,none⟩) l1).trans s1,(aC.cell (p:=⟨w1.heap.size+1,0,none⟩) l2).trans a2,(aC.cell (p:=⟨w1.heap.size+1,1,none⟩) l2).trans s2,(aC.cell (p:=⟨w2.heap.size,0,none⟩) l3).trans a3,(aC.cell (p:=⟨w2.heap.size,1,none⟩) l3).trans s3,(aC.cell (p:=⟨w2.heap.size+1,0,none⟩) l4).trans a4,(aC.cell (p:=⟨w2.heap.size+1,1,none⟩) l4).trans s4⟩ | exact ⟨(aD.cell (p:=⟨w1.heap.size,0,none⟩) l1).trans a1,(aD.cell (p:=⟨w1.heap.size,1,none⟩) l1).trans s1,(aD.cell (p:=⟨w1.heap.size+1,0,none⟩) l2).trans a2,(aD.cell (p:=⟨w1.heap.size+1,1,none⟩) l2).trans s2,(aD.cell (p:=⟨w2.heap.size,0,none⟩) l3).trans a3,(aD.cell (p:=⟨w2.heap.size,1,none⟩) l3).trans s3,(aD.cell (p:=⟨w2.heap.size+1,0,none⟩) l4).trans a4,(aD.cell (p:=⟨w2.heap.size+1,1,none⟩) l4).trans s4⟩)
   (first
    |(go_at_call_of 106 (Value.agg #[.bool b,.slice A1 n1 c1]);refine (zcZ b b' x x' A1 A3 n1 c1 n3 c3 w3.drew ((H1.out.later aV)) ((H3.out.later aV)) (by omega) (by omega)).mono ?_;rintro e v1 ⟨B1,m1,d1,rfl,g1,f1⟩;have aA:=aV.trans f1;rw [zbc] at g1;have u1:=ze1 g1 H1.out.len H3.out.len)
    |(go_at_call_of 106 (Value.agg #[.bool false,.slice A2 n2 c2]);refine (zcZ false false y y' A2 A4 n2 c2 n4 c4 v1 ((H2.out.later aA)) ((H4.out.later aA)) (by omega) (by omega)).mono ?_;rintro e v2 ⟨B2,m2,d2,rfl,g2,f2⟩;have aC:=Ad aA f2;rw [zbc] at g2;have u2:=ze1 g2 H2.out.len H4.out.len;rw [HF.out])
    |(go_at_call 104;refine (zeG (sgn b x*sgn b' x') (x*x') (y*y') B1 B2 m1 d1 m2 d2 v2 (zbc b b' x x') (g1.later f2) g2 aY.out (by omega) (by omega)).mono ?_;rintro e v3 ⟨⟨s,rfl,hs⟩,f3⟩;have aD:=aC.trans (f3.mono aC.size)))
  go_wp2
  go_ret;exact ⟨⟨s,rfl,hs⟩,aX.out.trans (aD.mono aX.out.size)⟩
theorem zm0 (a a':ByteArray) (b b':Bool) (x y x' y':Nat) (w:World) (h:NumT a b x y) (h':NumT a' b' x' y') (hb:b=true→0<x) (hb':b'=true→0<x') (hy:0<y) (hy':0<y') (ha:a.size≤100000) (ha':a'.size≤100000) :
  Calls Tryz.prog 45 #[.string a,.string a'] w fun e w'=>(∃ s:ByteArray,e = .returned (.string s)∧s.data.toList=zaE (zbn (sgn b x*(y':Int)+sgn b' x'*(y:Int)) (y*y')))∧Below w.heap.size w w':=by
 have bI:=Aa (zdY a b x y w h (by omega));have bH:=Aa (zdY a' b' x' y' w h' (by omega));have bG:=Aa (fun W=>zci a b x y W h hb hy (by omega));have bD:=Aa (fun W=>zci a' b' x' y' W h' hb' hy' (by omega));have bC:0<y*y':=Nat.mul_pos hy hy';have bB:=Aa bC;have HF:Hid (decide (sgn false y*sgn false y'<0)=false):=by
  show decide (sgn false y*sgn false y'<0)=false
  unfold sgn;simp only [Bool.false_eq_true,if_false,decide_eq_false_iff_not,←Int.natCast_mul]
  omega
 have bF:(digs x).length≤100000∧(digs y).length≤100001:=h.lens2 ha;have bE:(digs x').length≤100000∧(digs y').length≤100001:=h'.lens2 ha';have aY:=Aa bF;have aX:=Aa bE;have HY:=Aa hy;have bV:=Aa hy';clear bC bF bE h h' hb hb' hy hy';go_enter Tryz.func45,Tryz.ntmps45
 go_wp2_with fail
 refine bI.out.mono ?_;rintro e w1 ⟨hw,bM⟩;obtain rfl:w=w1:=hw
 rcases bM with rfl | ⟨rfl,bP,bN⟩
 all_goals
  go_wp2_with fail
  refine bH.out.mono ?_;rintro e w1 ⟨hw,bK⟩;obtain rfl:w=w1:=hw
  rcases bK with rfl | ⟨rfl,aO,aS⟩
 rotate_left 3
 ·obtain ⟨z1,aV⟩:∃ z1,z1=sgn b x*(y':Int):=⟨_,rfl⟩
  obtain ⟨z2,aW⟩:∃ z2,z2=sgn b' x'*(y:Int):=⟨_,rfl⟩;obtain ⟨z,hz⟩:∃ z,z=z1+z2:=⟨_,rfl⟩;obtain ⟨Y,hY⟩:∃ Y,Y=y*y':=⟨_,rfl⟩;have bQ:Y≤999999999*999999999:=by rw [hY];exact Nat.mul_le_mul (by omega) (by omega)
  have aI:z1.natAbs≤999999999*999999999:=by rw [aV,Int.natAbs_mul,zcn,Int.natAbs_natCast];exact Nat.mul_le_mul (by omega) (by omega)
  have aN:z2.natAbs≤999999999*999999999:=by rw [aW,Int.natAbs_mul,zcn,Int.natAbs_natCast];exact Nat.mul_le_mul (by omega) (by omega)
  have hO:=ziI (decide (z<0)) z.natAbs Y w (by omega) (by omega) (by rw [hY];exact bB.out);rw [zfN] at hO;have HO:=Aa hO;have bR:sgn b x*(y':Int)=z1:=aV.symm;have bX:sgn b' x'*(y:Int)=z2:=aW.symm;have ez:z1+z2=z:=hz.symm;have eY:(y:Int)*(y':Int)=(Y:Int):=by rw [hY];exact (Int.natCast_mul y y').symm
  have aK : -1000000000000000000≤z1:=by omega
  have aL:z1≤1000000000000000000:=by omega
  have bU : -1000000000000000000≤z2:=by omega
  have bS:z2≤1000000000000000000:=by omega
  have bW : -2000000000000000000≤z:=by omega
  have bT:z≤2000000000000000000:=by omega
  have HZ:Hid (z=sgn b x*(y':Int)+sgn b' x'*(y:Int)):=by
   show z=_
   rw [hz,aV,aW]
  have bL:=Aa hY;have bO:Y≤1000000000000000000:=by omega
  clear hO hz aV aW hY bQ aI aN bI bH bG bD HF aY aX
  go_wp2_with fail
  refine HO.out.mono ?_;rintro e w1 ⟨⟨s,rfl,hs⟩,aI⟩;rw [HZ.out,bL.out] at hs;have HS:=Aa hs;clear hs HO;go_wp2
  go_ret;exact ⟨⟨s,rfl,HS.out⟩,aI⟩
 all_goals
  first | clear bP bN | clear aO aS | skip
  first | clear aO aS | skip
  go_wp2_with fail
  refine (bG.out w).mono ?_;rintro e w1 ⟨A1,n1,c1,A2,n2,c2,rfl,aR,aQ,aI⟩;have aK:Below w1.heap.size w1 ((w1.alloc (.cells #[.bool b,.slice A1 n1 c1] 97)).alloc (.cells #[.bool false,.slice A2 n2 c2] 97)):=((Below.refl _ _).alloc (Nat.le_refl _) _).alloc (by simp) _;have aG:CBlk ((w1.alloc (.cells #[.bool b,.slice A1 n1 c1] 97)).alloc (.cells #[.bool false,.slice A2 n2 c2] 97)) w1.heap.size #[.bool b,.slice A1 n1 c1] 97:=(CBlk.new w1 _ _ _ rfl).below ((Below.refl _ _).alloc (Nat.le_refl _) _) (by simp);have aH:CBlk ((w1.alloc (.cells #[.bool b,.slice A1 n1 c1] 97)).alloc (.cells #[.bool false,.slice A2 n2 c2] 97)) (w1.heap.size+1) #[.bool false,.slice A2 n2 c2] 97:=CBlk.new (w1.alloc (.cells #[.bool b,.slice A1 n1 c1] 97)) _ _ (w1.heap.size+1) (by simp)
  go_wp2_with fail
  generalize ((w1.alloc (.cells #[.bool b,.slice A1 n1 c1] 97)).alloc (.cells #[.bool false,.slice A2 n2 c2] 97))=wA at *;refine (bD.out wA).mono ?_;rintro e w2 ⟨A3,n3,c3,A4,n4,c4,rfl,aM,aP,aN⟩;have aL:Below w2.heap.size w2 ((w2.alloc (.cells #[.bool b',.slice A3 n3 c3] 97)).alloc (.cells #[.bool false,.slice A4 n4 c4] 97)):=((Below.refl _ _).alloc (Nat.le_refl _) _).alloc (by simp) _;have aT:CBlk ((w2.alloc (.cells #[.bool b',.slice A3 n3 c3] 97)).alloc (.cells #[.bool false,.slice A4 n4 c4] 97)) w2.heap.size #[.bool b',.slice A3 n3 c3] 97:=(CBlk.new w2 _ _ _ rfl).below ((Below.refl _ _).alloc (Nat.le_refl _) _) (by simp);have aU:CBlk ((w2.alloc (.cells #[.bool b',.slice A3 n3 c3] 97)).alloc (.cells #[.bool false,.slice A4 n4 c4] 97)) (w2.heap.size+1) #[.bool false,.slice A4 n4 c4] 97:=CBlk.new (w2.alloc (.cells #[.bool b',.slice A3 n3 c3] 97)) _ _ (w2.heap.size+1) (by simp);have aJ:=Ad aN aL
  replace aG:=aG.below aJ aG.lt
  replace aH:=aH.below aJ aH.lt
  have bJ:=aI.trans ((aK.trans (aJ.mono aK.size)).mono aI.size)
  replace aR:=(aR.later aK).later aJ
  replace aQ:=(aQ.later aK).later aJ
  replace aM:=aM.later aL
  replace aP:=aP.later aL
  clear aK aL aI aN aJ;go_upto_region 7 with (fail)
  generalize ((w2.alloc (.cells #[.bool b',.slice A3 n3 c3] 97)).alloc (.cells #[.bool false,.slice A4 n4 c4] 97))=w3 at *;have a1:w3.cell? ⟨w1.heap.size,0,none⟩=some (.bool b):=aG.cell 0;have s1:w3.cell? ⟨w1.heap.size,1,none⟩=some (.slice A1 n1 c1):=aG.cell 1;have a2:w3.cell? ⟨w1.heap.size+1,0,none⟩=some (.bool false):=aH.cell 0;have s2:w3.cell? ⟨w1.heap.size+1,1,none⟩=some (.slice A2 n2 c2):=aH.cell 1;have a3:w3.cell? ⟨w2.heap.size,0,none⟩=some (.bool b'):=aT.cell 0;have s3:w3.cell? ⟨w2.heap.size,1,none⟩=some (.slice A3 n3 c3):=aT.cell 1;have a4:w3.cell? ⟨w2.heap.size+1,0,none⟩=some (.bool false):=aU.cell 0;have s4:w3.cell? ⟨w2.heap.size+1,1,none⟩=some (.slice A4 n4 c4):=aU.cell 1;have l1:=aG.lt;have l2:=aH.lt;have l3:=aT.lt;have l4:=aU.lt;have e1:n1≤100000:=by rw [←aR.len];have:=aY.out.1;omega
  have e2:n2≤100001:=by rw [←aQ.len];have:=aY.out.2;omega
  have e3:n3≤100000:=by rw [←aM.len];have:=aX.out.1;omega
  have e4:n4≤100001:=by rw [←aP.len];have:=aX.out.2;omega
  have H1:=Aa aR;have H2:=Aa aQ;have H3:=Aa aM;have H4:=Aa aP;have bA:=Aa bJ;have aZ:Below w3.heap.size w3 w3.drew:=(Below.refl _ _).drew;clear aG aH aT aU aR aQ aM aP bJ
  go_region_held3 (fun w'=>w'.cell? ⟨w1.heap.size,0,none⟩=some (.bool b)∧w'.cell? ⟨w1.heap.size,1,none⟩=some (.slice A1 n1 c1)∧w'.cell? ⟨w1.heap.size+1,0,none⟩=some (.bool false)∧w'.cell? ⟨w1.heap.size+1,1,none⟩=some (.slice A2 n2 c2)∧w'.cell? ⟨w2.heap.size,0,none⟩=some (.bool b')∧w'.cell? ⟨w2.heap.size,1,none⟩=some (.slice A3 n3 c3)∧w'.cell? ⟨w2.heap.size+1,0,none⟩=some (.bool false)∧w'.cell? ⟨w2.heap.size+1,1,none⟩=some (.slice A4 n4 c4))
   (first | exact ⟨a1,s1,a2,s2,a3,s3,a4,s4⟩ | exact ⟨(aA.cell (p:=⟨w1.heap.size,0,none⟩) l1).trans a1,(aA.cell (p:=⟨w1.heap.size,1,none⟩) l1).trans s1,(aA.cell (p:=⟨w1.heap.size+1,0,none⟩) l2).trans a2,(aA.cell (p:=⟨w1.heap.size+1,1,none⟩) l2).trans s2,(aA.cell (p:=⟨w2.heap.size,0,none⟩) l3).trans a3,(aA.cell (p:=⟨w2.heap.size,1,none⟩) l3).trans s3,(aA.cell (p:=⟨w2.heap.size+1,0,none⟩) l4).trans a4,(aA.cell (p:=⟨w2.heap.size+1,1,none⟩) l4).trans s4⟩ | exact ⟨(aD.cell (p:=⟨w1.heap.size,0,none⟩) l1).trans a1,(aD.cell (p:=⟨w1.heap.size,1,none⟩) l1).trans s1,(aD.cell (p:=⟨w1.heap.size+1,0,none⟩) l2).trans a2,(aD.cell (p:=⟨w1.heap.size+1,1,none⟩) l2).trans s2,(aD.cell (p:=⟨w2.heap.size,0,none⟩) l3).trans a3,(aD.cell (p:=⟨w2.heap.size,1,none⟩) l3).trans s3,(aD.cell (p:=⟨w2.heap.size+1,0,none⟩) l4).trans a4,(aD.cell (p:=⟨w2.heap.size+1,1,none⟩) l4).trans s4⟩ | exact ⟨(aC.cell (p:=⟨w1.heap.size,0,none⟩) l1).trans a1,(aC.cell (p:=⟨w1.heap.size,1,none⟩) l1).trans s1,(aC.cell (p:=⟨w1.heap.size+1,0,none⟩) l2).trans a2,(aC.cell (p:=⟨w1.heap.size+1,1,none⟩) l2).trans s2,(aC.cell (p:=⟨w2.heap.size,0,none⟩) l3).trans a3,(aC.cell (p:=⟨w2.heap.size,1,none⟩) l3).trans s3,(aC.cell (p:=⟨w2.heap.size+1,0,none⟩) l4).trans a4,(aC.cell (p:=⟨w2.heap.size+1,1,none⟩) l4).trans s4⟩ | exact ⟨(aE.cell (p:=⟨w1.heap.size,0,none⟩) l1).trans a1,(aE.cell (p:=⟨w1.heap.size,1,none⟩) l1).trans s1,(aE.cell (p:=⟨w1.heap.size+1,0,none⟩) l2).trans a2,(aE.cell (p:=⟨w1.heap.size+1,1,none⟩) l2).trans s2,(aE.cell (p:=⟨w2.heap.size,0,none⟩) l3).trans a3,(aE.cell (p:=⟨w2.heap.size,1,none⟩) l3).trans s3,(aE.cell (p:=⟨w2.heap.size+1,0,none⟩) l4).trans a4,(aE.cell (p:=⟨w2.heap.size+1,1,none⟩) l4).trans s4⟩ | exact ⟨(aF.cell (p:=⟨w1.heap.size,0,none⟩) l1).trans a1,(aF.cell (p:=⟨w1.heap.size,1,none⟩) l1).trans s1,(aF.cell (p:=⟨w1.heap.size+1,0,none⟩) l2).trans a2,(aF.cell (p:=⟨w1.heap.size+1,1,none⟩) l2).trans s2,(aF.cell (p:=⟨w2.heap.size,0,none⟩) l3).trans a3,(aF.cell (p:=⟨w2.heap.size,1,none⟩) l3).trans s3,(aF.cell (p:=⟨w2.heap.size+1,0,none⟩) l4).trans a4,(aF.cell (p:=⟨w2.heap.size+1,1,none⟩) l4).trans s4⟩)
   (first
    |(go_at_call_of 106 (Value.agg #[.bool b,.slice A1 n1 c1]);refine (zcZ b false x y' A1 A4 n1 c1 n4 c4 w3.drew ((H1.out.later aZ)) ((H4.out.later aZ)) (by omega) (by omega)).mono ?_;rintro e v1 ⟨B1,m1,d1,rfl,g1,f1⟩;have aA:=aZ.trans f1;rw [zbc] at g1;have u1:=ze1 g1 H1.out.len H4.out.len)
    |(go_at_call_of 106 (Value.agg #[.bool b',.slice A3 n3 c3]);refine (zcZ b' false x' y A3 A2 n3 c3 n2 c2 v1 ((H3.out.later aA)) ((H2.out.later aA)) (by omega) (by omega)).mono ?_;rintro e v2 ⟨B2,m2,d2,rfl,g2,f2⟩;have aD:=Ad aA f2;rw [zbc] at g2;have u2:=ze1 g2 H3.out.len H2.out.len)
    |(go_at_call 105;refine (zlM (sgn b x*sgn false y') (sgn b' x'*sgn false y) (x*y') (x'*y) B1 B2 m1 d1 m2 d2 v2 (zbc _ _ _ _) (zbc _ _ _ _) (g1.later f2) g2 (by omega) (by omega)).mono ?_;rintro e v3 ⟨B3,m3,d3,rfl,g3,f3⟩;have aC:=Ad aD f3;have u3:=zoM (k:=300000) g3 (zbc _ _ _ _) (zbc _ _ _ _) (by have:=g1.len;omega) (by have:=g2.len;omega))
    |(go_at_call_of 106 (Value.agg #[.bool false,.slice A2 n2 c2]);refine (zcZ false false y y' A2 A4 n2 c2 n4 c4 v3 ((H2.out.later aC)) ((H4.out.later aC)) (by omega) (by omega)).mono ?_;rintro e v4 ⟨B4,m4,d4,rfl,g4,f4⟩;have aE:=Ad aC f4;rw [zbc] at g4;have u4:=ze1 g4 H2.out.len H4.out.len;rw [HF.out])
    |(go_at_call 104;refine (zeG (sgn b x*sgn false y'+sgn b' x'*sgn false y) _ (y*y') B3 B4 m3 d3 m4 d4 v4 rfl (g3.later f4) g4 bB.out (by omega) (by omega)).mono ?_;rintro e v5 ⟨⟨s,rfl,hs⟩,f5⟩;have aF:=aE.trans (f5.mono aE.size)))
  go_wp2
  go_ret;exact ⟨⟨s,rfl,hs⟩,bA.out.trans (aF.mono bA.out.size)⟩
end Go.Proofs.YtbkgkoenppkhpaaGreatDoor
