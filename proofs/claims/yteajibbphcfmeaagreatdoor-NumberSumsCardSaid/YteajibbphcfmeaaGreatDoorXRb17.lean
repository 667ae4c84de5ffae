/- Contract of the reference's parts: the integers of a text's numerator and denominator. -/
import Derived.Test.YteajibbphcfmeaaGreatDoorXRb13
import Derived.Deep.RegionHeld3
namespace Go.Proofs.YteajibbphcfmeaaGreatDoor
open Go.RowKit Dn
theorem znO {b:Bool} {x:Nat} (h:b=true→0<x):decide (sgn b x<0)=b:=by
 rw [zcK]
 cases b
 ·rfl
 ·simpa using h rfl
def RetP (w:World) (b:Bool) (x y:Nat) (e:Ending) (w':World):Prop:=
 ∃ A1 n1 c1 A2 n2 c2,e = .returned (.tuple #[.agg #[.bool b,.slice A1 n1 c1],.agg #[.bool false,.slice A2 n2 c2]])∧DigI w' A1 n1 c1 (digs x)∧DigI w' A2 n2 c2 (digs y)∧Below w.heap.size w w'
theorem DigI.box2 {w:World} {A A1 A2:Option Addr} {n c n1 c1 n2 c2 g:Nat} {b1 b2:Bool} {l:List Nat} {t:TypeId} (h:DigI w A n c l) (hk:CBlk w g #[.bool b1,.slice A1 n1 c1] t) (hk2:CBlk w (g+1) #[.bool b2,.slice A2 n2 c2] t) (u v u' v':Value) :
  DigI ((((w.setCell ⟨g,0,none⟩ u).setCell ⟨g,1,none⟩ v).setCell ⟨g+1,0,none⟩ u').setCell ⟨g+1,1,none⟩ v') A n c l:=
 (h.box hk u v).box (hk2.far2 (by omega) u v) u' v'
set_option maxHeartbeats 4000000 in
set_option maxRecDepth 100000 in
theorem zbI (a:ByteArray) (b:Bool) (x y:Nat) (w:World) (h:NumT a b x y) (hb:b=true→0<x) (hy0:0<y) (ha:a.size≤1000000) :
  Calls Tryz.prog 61 #[.string a] w (RetP w b x y):=by
 have hB:Below w.heap.size w ((w.alloc (.cells #[.bool false,.slice none 0 0] 84)).alloc (.cells #[.bool false,.slice none 0 0] 84)):=((Below.refl _ _).alloc (Nat.le_refl _) _).alloc (by simp) _;have aM:CBlk ((w.alloc (.cells #[.bool false,.slice none 0 0] 84)).alloc (.cells #[.bool false,.slice none 0 0] 84)) w.heap.size #[.bool false,.slice none 0 0] 84:=(CBlk.new w _ _ _ rfl).below ((Below.refl _ _).alloc (Nat.le_refl _) _) (by simp);have aO:CBlk ((w.alloc (.cells #[.bool false,.slice none 0 0] 84)).alloc (.cells #[.bool false,.slice none 0 0] 84)) (w.heap.size+1) #[.bool false,.slice none 0 0] 84:=CBlk.new (w.alloc (.cells #[.bool false,.slice none 0 0] 84)) _ _ (w.heap.size+1) (by simp);have bC:zar (sgnT false (Lib.decDigits x))=true:=zaX x;obtain ⟨k,hk⟩:∃ k,k=(sgnT b (Lib.decDigits x)).length:=⟨_,rfl⟩;obtain ⟨p1,p2,p3⟩:=zd3 (t:=a) (l:=sgnT b (Lib.decDigits x)) h hk;have aN:=zbS a;have bB:zbt a.data.toList=k:=by rw [h,zda _ _ (zdG (zaX x)),hk]
 have aN:=fun W=>zbS a W (by omega)
 simp only [bB] at aN
 have bA:=Lib.hid aN;have aU:=Lib.hid (znO hb);have aX:=Lib.hid (zbF b x);clear aN bB bC
 by_cases hy:y=1
 ·subst hy
  have bI:=p2 rfl;have aV:=fun W=>zeG a b x W (by rw [h];simp [zcG]) ha
  have bH:=Lib.hid aV;have dk:((k:Int)==(a.size:Int))=true:=by rw [beq_iff_eq];omega
  clear h hk p1 p2 p3 aV bI hb;go_enter Tryz.func61,Tryz.ntmps61
  go_upto_region 1 with (fail)
  generalize ((w.alloc (.cells #[.bool false,.slice none 0 0] 84)).alloc (.cells #[.bool false,.slice none 0 0] 84))=w3 at *
  go_wp2_with fail
  refine (bA.out w3).mono ?_;rintro e w4 ⟨rfl,hw⟩;obtain rfl:w3=w4:=hw
  go_wp2_with fail
  refine (bH.out w3).mono ?_;rintro e w5 ⟨A5,m5,c5,rfl,aI,aA⟩;rw [aX.out] at aI;rw [aU.out];have HW:=Lib.hid (zju 1 w5 (by omega))
  go_wp2_with fail
  refine HW.out.mono ?_;rintro e w6 ⟨A6,m6,c6,rfl,aK,aE⟩;have aJ:DigI w6 A6 m6 c6 (digs 1):=aK;have aD:=(aM.below aA aM.lt).below aE (Nat.lt_of_lt_of_le aM.lt aA.size);have aC:=(aO.below aA aO.lt).below aE (Nat.lt_of_lt_of_le aO.lt aA.size);have aF:=aI.later aE;have aL:=hB.trans ((aA.trans (aE.mono aA.size)).mono hB.size);have e0:w6.cell? ⟨w.heap.size,0,none⟩=some (.bool false):=aD.cell 0;have e1:w6.cell? ⟨w.heap.size,1,none⟩=some (.slice none 0 0):=aD.cell 1;have e2:w6.cell? ⟨w.heap.size+1,0,none⟩=some (.bool false):=aC.cell 0;have e3:w6.cell? ⟨w.heap.size+1,1,none⟩=some (.slice none 0 0):=aC.cell 1;have f0:w6.frozen? ⟨w.heap.size,0,none⟩=false:=aD.frozen 0;have f1:w6.frozen? ⟨w.heap.size,1,none⟩=false:=aD.frozen 1;have f2:w6.frozen? ⟨w.heap.size+1,0,none⟩=false:=aC.frozen 0;have f3:w6.frozen? ⟨w.heap.size+1,1,none⟩=false:=aC.frozen 1;have bF:=Lib.hid aF;have bE:=Lib.hid aJ;have bJ:=Lib.hid aL;clear aA aE aI aK aF aJ aL hB dk;go_wp2
  refine bodyPost_ret (v := .tuple #[.agg #[.bool b,.slice A5 m5 c5],.agg #[.bool false,.slice A6 m6 c6]]) (by simp [results,Tryz.results61,go_sem,e0,e1,e2,e3]) rfl ?_;exact ⟨A5,m5,c5,A6,m6,c6,rfl,bF.out.box2 aD aC _ _ _ _,bE.out.box2 aD aC _ _ _ _,zbP (zbP bJ.out (Nat.le_refl _) _ _) (by omega) _ _⟩
 ·obtain ⟨q1,q2,q3⟩:=p3 hy
  obtain ⟨t1,aR⟩:∃ t1,a.extract 0 k=t1:=⟨_,rfl⟩;obtain ⟨kk,aY⟩:∃ kk,kk=k+1:=⟨_,rfl⟩;rw [←aY] at q2;obtain ⟨t2,aS⟩:∃ t2,a.extract kk a.size=t2:=⟨_,rfl⟩;have aZ:t1.size≤1000000:=by rw [←aR];simp;omega
  have aW:t2.size≤1000000:=by rw [←aS];simp;omega
  rw [aR] at p1;rw [aS] at q2;have bD:=Lib.hid (fun W=>zeG t1 b x W p1 aZ);have bG:=Lib.hid (fun W=>zeG t2 false y W q2 aW);have aP:Hid (decide (sgn false y<0)=false):=by show decide (sgn false y<0)=false;rw [zcK];rfl
  have aQ:=Lib.hid (zbF false y);have dk:((k:Int)==(a.size:Int))=false:=by rw [beq_eq_false_iff_ne];omega
  have f1:IntKind.i64.wrap ((k:Int)+1)=(kk:Int):=by rw [IntWalk.i64_in _ (by omega)];omega
  have g1:(0:Int)≤(k:Int):=by omega
  have g2:(k:Int)≤(a.size:Int):=by omega
  have g3:(0:Int)≤(kk:Int):=by omega
  have g4:(kk:Int)≤(a.size:Int):=by omega
  clear h hk p1 p2 p3 q1 q2 q3 hb aZ aW aY;go_enter Tryz.func61,Tryz.ntmps61
  go_upto_region 1 with (fail)
  generalize ((w.alloc (.cells #[.bool false,.slice none 0 0] 84)).alloc (.cells #[.bool false,.slice none 0 0] 84))=w3 at *
  go_wp2_with fail
  refine (bA.out w3).mono ?_;rintro e w4 ⟨rfl,hw⟩;obtain rfl:w3=w4:=hw;have aG:CBlk w3.drew w.heap.size #[.bool false,.slice none 0 0] 84:=aM;have aH:CBlk w3.drew (w.heap.size+1) #[.bool false,.slice none 0 0] 84:=aO;have aT:Below w.heap.size w w3.drew:=hB.drew;go_upto_region 5 with (fail)
  go_region_held3 (fun _=>True) (exact trivial)
   (first
    |(go_at_call_of 120 (Value.string t1);refine (bD.out w3.drew).mono ?_;rintro e w5 ⟨A5,m5,c5,rfl,aI,aA⟩;rw [aX.out] at aI;rw [aU.out])
    |(go_at_call_of 120 (Value.string t2);refine (bG.out w5).mono ?_;rintro e w6 ⟨A6,m6,c6,rfl,aK,aE⟩;rw [aQ.out] at aK;rw [aP.out];have aD:=(aG.below aA aG.lt).below aE (Nat.lt_of_lt_of_le aG.lt aA.size);have aC:=(aH.below aA aH.lt).below aE (Nat.lt_of_lt_of_le aH.lt aA.size);have e0:=aD.cell 0;have e1:=aD.cell 1;have e2:=aC.cell 0;have e3:=aC.cell 1;have r0:=aD.frozen 0;have r1:=aD.frozen 1;have r2:=aC.frozen 0;have r3:=aC.frozen 1))
  have aF:=aI.later aE;have aL:=aT.trans ((aA.trans (aE.mono aA.size)).mono aT.size);have k0:w6.cell? ⟨w.heap.size,0,none⟩=some (.bool false):=e0;have k1:w6.cell? ⟨w.heap.size,1,none⟩=some (.slice none 0 0):=e1;have k2:w6.cell? ⟨w.heap.size+1,0,none⟩=some (.bool false):=e2;have k3:w6.cell? ⟨w.heap.size+1,1,none⟩=some (.slice none 0 0):=e3
  go_wp2_with fail
  refine bodyPost_ret (v := .tuple #[.agg #[.bool b,.slice A5 m5 c5],.agg #[.bool false,.slice A6 m6 c6]]) (by simp [results,Tryz.results61,go_sem,k0,k1,k2,k3]) rfl ?_;exact ⟨A5,m5,c5,A6,m6,c6,rfl,aF.box2 aD aC _ _ _ _,aK.box2 aD aC _ _ _ _,zbP (zbP aL (Nat.le_refl _) _ _) (by omega) _ _⟩
theorem zbG (x:Nat):(digs x).length≤(Lib.decDigits x).length:=by
 refine digs_length_le ?_;have h1:=zb0 _ (zaX x);rw [zbU] at h1;have h2:10 ^ (Lib.decDigits x).length≤B ^ (Lib.decDigits x).length:=Nat.pow_le_pow_left (by decide) _;omega
theorem NumT.lens2 {a:ByteArray} {b:Bool} {x y:Nat} (h:NumT a b x y) (ha:a.size≤100000):(digs x).length≤100000∧(digs y).length≤100001:=by
 have hl:=congrArg List.length h;rw [Array.length_toList,List.length_append] at hl;have h1:=zbG x;have h2:=zbG y;have h3:(Lib.decDigits x).length≤(sgnT b (Lib.decDigits x)).length:=by unfold sgnT;cases b<;>simp
 have h4:a.data.size=a.size:=rfl;refine ⟨by omega,?_⟩
 by_cases hy:y=1
 ·subst hy
  rw [za9 (by omega) (by decide)];simp
 ·unfold zcG at hl
  rw [if_neg hy,List.length_cons] at hl;omega
theorem zba (b1 b2:Bool) (x y:Nat):(sgn b1 x*sgn b2 y).natAbs=x*y:=by rw [Int.natAbs_mul,zbF,zbF]
theorem zed (z:Int) (X y:Nat) (A1 A2:Option Addr) (n1 c1 n2 c2:Nat) (w:World) (hX:z.natAbs=X) (h1:DigI w A1 n1 c1 (digs X)) (h2:DigI w A2 n2 c2 (digs y)) (hy:0<y) (k1:n1≤500000) (k2:n2≤500000) :
  Calls Tryz.prog 74 #[.agg #[.bool (decide (z<0)),.slice A1 n1 c1],.agg #[.bool false,.slice A2 n2 c2]] w fun e w'=>(∃ s:ByteArray,e = .returned (.string s)∧s.data.toList=zbr (zb2 z y))∧Below w.heap.size w w':=by
 have h:=zd0 (decide (z<0)) X y A1 A2 n1 c1 n2 c2 w h1 h2 hy k1 k2;rw [←hX,zhC] at h;exact h
theorem zk5 (z1 z2:Int) (X1 X2:Nat) (A1 A2:Option Addr) (n1 c1 n2 c2:Nat) (w:World) (hX1:z1.natAbs=X1) (hX2:z2.natAbs=X2) (h1:DigI w A1 n1 c1 (digs X1)) (h2:DigI w A2 n2 c2 (digs X2)) (k1:n1≤524288) (k2:n2≤524288) :
  Calls Tryz.prog 75 #[.agg #[.bool (decide (z1<0)),.slice A1 n1 c1],.agg #[.bool (decide (z2<0)),.slice A2 n2 c2]] w (RetZ w (z1+z2)):=by
 have h:=zls (decide (z1<0)) (decide (z2<0)) X1 X2 A1 A2 n1 c1 n2 c2 w h1 h2 k1 k2;rw [←hX1,←hX2,zhC,zhC] at h;exact h
theorem znX {w:World} {A:Option Addr} {n c k:Nat} {z1 z2:Int} {X1 X2:Nat} (h:DigI w A n c (digs (z1+z2).natAbs)) (h1:z1.natAbs=X1) (h2:z2.natAbs=X2) (hx1:(digs X1).length≤k) (hx2:(digs X2).length≤k):n≤k+1:=by
 rw [←h.len];refine digs_length_le ?_;have e1:=zac X1;have e2:=zac X2;have p1:B ^ (digs X1).length≤B ^ k:=Nat.pow_le_pow_right zaN hx1;have p2:B ^ (digs X2).length≤B ^ k:=Nat.pow_le_pow_right zaN hx2;have p3:B ^ k*2≤B ^ k*B:=Nat.mul_le_mul_left _ zdP;rw [Nat.pow_succ];have:=Int.natAbs_add_le z1 z2;omega
set_option maxHeartbeats 8000000 in
set_option maxRecDepth 100000 in
theorem zne (a a':ByteArray) (b b':Bool) (x y x' y':Nat) (w:World) (h:NumT a b x y) (h':NumT a' b' x' y') (hb:b=true→0<x) (hb':b'=true→0<x') (hy:0<y) (hy':0<y') (ha:a.size≤100000) (ha':a'.size≤100000) :
  Calls Tryz.prog 21 #[.string a,.string a'] w fun e w'=>(∃ s:ByteArray,e = .returned (.string s)∧s.data.toList=zbr (zb2 (sgn b x*sgn b' x') (y*y')))∧Below w.heap.size w w':=by
 have bF:=Lib.hid (zdB a b x y w h (by omega));have bB:=Lib.hid (zdB a' b' x' y' w h' (by omega));have aX:=Lib.hid (fun W=>zbI a b x y W h hb hy (by omega));have aZ:=Lib.hid (fun W=>zbI a' b' x' y' W h' hb' hy' (by omega));have bC:0<y*y':=Nat.mul_pos hy hy';have bE:=Lib.hid bC;have HF:Hid (decide (sgn false y*sgn false y'<0)=false):=by
  show decide (sgn false y*sgn false y'<0)=false
  unfold sgn;simp only [Bool.false_eq_true,if_false,decide_eq_false_iff_not,←Int.natCast_mul]
  omega
 have aY:(digs x).length≤100000∧(digs y).length≤100001:=h.lens2 ha;have bD:(digs x').length≤100000∧(digs y').length≤100001:=h'.lens2 ha';have aV:=Lib.hid aY;have aT:=Lib.hid bD;have HY:=Lib.hid hy;have bS:=Lib.hid hy';clear bC aY bD h h' hb hb' hy hy';go_enter Tryz.func21,Tryz.ntmps21
 go_wp2_with fail
 refine bF.out.mono ?_;rintro e w1 ⟨hw,bP⟩;obtain rfl:w=w1:=hw
 rcases bP with rfl | ⟨rfl,bO,bK⟩
 all_goals
  go_wp2_with fail
  refine bB.out.mono ?_;rintro e w1 ⟨hw,bJ⟩;obtain rfl:w=w1:=hw
  rcases bJ with rfl | ⟨rfl,aO,aJ⟩
 rotate_left 3
 ·obtain ⟨z,hz⟩:∃ z,z=sgn b x*sgn b' x':=⟨_,rfl⟩
  obtain ⟨X,hX⟩:∃ X,X=x*x':=⟨_,rfl⟩;obtain ⟨Y,hY⟩:∃ Y,Y=y*y':=⟨_,rfl⟩;have bH:X≤999999999*999999999:=by rw [hX];exact Nat.mul_le_mul (by omega) (by omega)
  have bR:Y≤999999999*999999999:=by rw [hY];exact Nat.mul_le_mul (by omega) (by omega)
  have aW:z=sgn (!b==b') X:=by rw [hz,hX,zii]
  have bM:z=(X:Int)∨z = -(X:Int):=by rw [aW];unfold sgn;cases (!b==b')<;>simp
  have hO:=zkK (!b==b') X Y w (by omega) (by omega) (by rw [hY];exact bE.out);rw [←aW] at hO;have HO:=Lib.hid hO;have ez:sgn b x*sgn b' x'=z:=hz.symm;have eY:(y:Int)*(y':Int)=(Y:Int):=by rw [hY];exact (Int.natCast_mul y y').symm
  have bI : -1000000000000000000≤z:=by omega
  have bQ:z≤1000000000000000000:=by omega
  have HZ:=Lib.hid hz;have bN:=Lib.hid hY;have bL:Y≤1000000000000000000:=by omega
  clear hO aW bM hX hz hY bH bR bF bB aX aZ HF aV aT
  go_wp2_with fail
  refine HO.out.mono ?_;rintro e w1 ⟨⟨s,rfl,hs⟩,aI⟩;rw [HZ.out,bN.out] at hs;have HS:=Lib.hid hs;clear hs HO;go_wp2
  go_ret;exact ⟨⟨s,rfl,HS.out⟩,aI⟩
 all_goals
  first | clear bO bK | clear aO aJ | skip
  first | clear aO aJ | skip
  go_wp2_with fail
  refine (aX.out w).mono ?_;rintro e w1 ⟨A1,n1,c1,A2,n2,c2,rfl,aH,aN,aI⟩;have aL:Below w1.heap.size w1 ((w1.alloc (.cells #[.bool b,.slice A1 n1 c1] 84)).alloc (.cells #[.bool false,.slice A2 n2 c2] 84)):=((Below.refl _ _).alloc (Nat.le_refl _) _).alloc (by simp) _;have aF:CBlk ((w1.alloc (.cells #[.bool b,.slice A1 n1 c1] 84)).alloc (.cells #[.bool false,.slice A2 n2 c2] 84)) w1.heap.size #[.bool b,.slice A1 n1 c1] 84:=(CBlk.new w1 _ _ _ rfl).below ((Below.refl _ _).alloc (Nat.le_refl _) _) (by simp);have aE:CBlk ((w1.alloc (.cells #[.bool b,.slice A1 n1 c1] 84)).alloc (.cells #[.bool false,.slice A2 n2 c2] 84)) (w1.heap.size+1) #[.bool false,.slice A2 n2 c2] 84:=CBlk.new (w1.alloc (.cells #[.bool b,.slice A1 n1 c1] 84)) _ _ (w1.heap.size+1) (by simp)
  go_wp2_with fail
  generalize ((w1.alloc (.cells #[.bool b,.slice A1 n1 c1] 84)).alloc (.cells #[.bool false,.slice A2 n2 c2] 84))=wA at *;refine (aZ.out wA).mono ?_;rintro e w2 ⟨A3,n3,c3,A4,n4,c4,rfl,aK,aM,aS⟩;have aR:Below w2.heap.size w2 ((w2.alloc (.cells #[.bool b',.slice A3 n3 c3] 84)).alloc (.cells #[.bool false,.slice A4 n4 c4] 84)):=((Below.refl _ _).alloc (Nat.le_refl _) _).alloc (by simp) _;have aP:CBlk ((w2.alloc (.cells #[.bool b',.slice A3 n3 c3] 84)).alloc (.cells #[.bool false,.slice A4 n4 c4] 84)) w2.heap.size #[.bool b',.slice A3 n3 c3] 84:=(CBlk.new w2 _ _ _ rfl).below ((Below.refl _ _).alloc (Nat.le_refl _) _) (by simp);have aQ:CBlk ((w2.alloc (.cells #[.bool b',.slice A3 n3 c3] 84)).alloc (.cells #[.bool false,.slice A4 n4 c4] 84)) (w2.heap.size+1) #[.bool false,.slice A4 n4 c4] 84:=CBlk.new (w2.alloc (.cells #[.bool b',.slice A3 n3 c3] 84)) _ _ (w2.heap.size+1) (by simp);have aG:=aS.trans (aR.mono aS.size)
  replace aF:=aF.below aG aF.lt
  replace aE:=aE.below aG aE.lt
  have bA:=aI.trans ((aL.trans (aG.mono aL.size)).mono aI.size)
  replace aH:=(aH.later aL).later aG
  replace aN:=(aN.later aL).later aG
  replace aK:=aK.later aR
  replace aM:=aM.later aR
  clear aL aR aI aS aG;go_upto_region 7 with (fail)
  generalize ((w2.alloc (.cells #[.bool b',.slice A3 n3 c3] 84)).alloc (.cells #[.bool false,.slice A4 n4 c4] 84))=w3 at *;have a1:w3.cell? ⟨w1.heap.size,0,none⟩=some (.bool b):=aF.cell 0;have s1:w3.cell? ⟨w1.heap.size,1,none⟩=some (.slice A1 n1 c1):=aF.cell 1;have a2:w3.cell? ⟨w1.heap.size+1,0,none⟩=some (.bool false):=aE.cell 0;have s2:w3.cell? ⟨w1.heap.size+1,1,none⟩=some (.slice A2 n2 c2):=aE.cell 1;have a3:w3.cell? ⟨w2.heap.size,0,none⟩=some (.bool b'):=aP.cell 0;have s3:w3.cell? ⟨w2.heap.size,1,none⟩=some (.slice A3 n3 c3):=aP.cell 1;have a4:w3.cell? ⟨w2.heap.size+1,0,none⟩=some (.bool false):=aQ.cell 0;have s4:w3.cell? ⟨w2.heap.size+1,1,none⟩=some (.slice A4 n4 c4):=aQ.cell 1;have l1:=aF.lt;have l2:=aE.lt;have l3:=aP.lt;have l4:=aQ.lt;have e1:n1≤100000:=by rw [←aH.len];have:=aV.out.1;omega
  have e2:n2≤100001:=by rw [←aN.len];have:=aV.out.2;omega
  have e3:n3≤100000:=by rw [←aK.len];have:=aT.out.1;omega
  have e4:n4≤100001:=by rw [←aM.len];have:=aT.out.2;omega
  have H1:=Lib.hid aH;have H2:=Lib.hid aN;have H3:=Lib.hid aK;have H4:=Lib.hid aM;have bG:=Lib.hid bA;have aU:Below w3.heap.size w3 w3.drew:=(Below.refl _ _).drew;clear aF aE aP aQ aH aN aK aM bA
  go_region_held3 (fun w'=>w'.cell? ⟨w1.heap.size,0,none⟩=some (.bool b)∧w'.cell? ⟨w1.heap.size,1,none⟩=some (.slice A1 n1 c1)∧w'.cell? ⟨w1.heap.size+1,0,none⟩=some (.bool false)∧w'.cell? ⟨w1.heap.size+1,1,none⟩=some (.slice A2 n2 c2)∧w'.cell? ⟨w2.heap.size,0,none⟩=some (.bool b')∧w'.cell? ⟨w2.heap.size,1,none⟩=some (.slice A3 n3 c3)∧w'.cell? ⟨w2.heap.size+1,0,none⟩=some (.bool false)∧w'.cell? ⟨w2.heap.size+1,1,none⟩=some (.slice A4 n4 c4))
   (first | exact ⟨a1,s1,a2,s2,a3,s3,a4,s4⟩ | exact ⟨(aA.cell (p:=⟨w1.heap.size,0,none⟩) l1).trans a1,(aA.cell (p:=⟨w1.heap.size,1,none⟩) l1).trans s1,(aA.cell (p:=⟨w1.heap.size+1,0,none⟩) l2).trans a2,(aA.cell (p:=⟨w1.heap.size+1,1,none⟩) l2).trans s2,(aA.cell (p:=⟨w2.heap.size,0,none⟩) l3).trans a3,(aA.cell (p:=⟨w2.heap.size,1,none⟩) l3).trans s3,(aA.cell (p:=⟨w2.heap.size+1,0,none⟩) l4).trans a4,(aA.cell (p:=⟨w2.heap.size+1,1,none⟩) l4).trans s4⟩ | exact ⟨(aC.cell (p:=⟨w1.heap.size,0,none⟩) l1).trans a1,(aC.cell (p:=⟨w1.heap.size,1,none⟩) l1).trans s1,(aC.cell (p:=⟨w1.heap.size+1,0,none⟩) l2).trans a2,(aC.cell (p:=⟨w1.heap.size+1,1,none⟩) l2).trans s2,(aC.cell (p:=⟨w2.heap.size,0,none⟩) l3).trans a3,(aC.cell (p:=⟨w2.heap.size,1,none⟩) l3).trans s3,(aC.cell (p:=⟨w2.heap.size+1,0,none⟩) l4).trans a4,(aC.cell (p:=⟨w2.heap.size+1,1,none⟩) l4).trans s4⟩ | exact ⟨(aD.cell (p:=⟨w1.heap.size,0,none⟩) l1).trans a1,(aD.cell (p:=⟨w1.heap.size,1,none⟩) l1).trans s1,(aD.cell (p:=⟨w1.heap.size+1,0,none⟩) l2).trans a2,(aD.cell (p:=⟨w1.heap.size+1,1,none⟩) l2).trans s2,(aD.cell (p:=⟨w2.heap.size,0,none⟩) l3).trans a3,(aD.cell (p:=⟨w2.heap.size,1,none⟩) l3).trans s3,(aD.cell (p:=⟨w2.heap.size+1,0,none⟩) l4).trans a4,(aD.cell (p:=⟨w2.heap.size+1,1,none⟩) l4).trans s4⟩)
   (first
    |(go_at_call_of 76 (Value.agg #[.bool b,.slice A1 n1 c1]);refine (zcU b b' x x' A1 A3 n1 c1 n3 c3 w3.drew ((H1.out.later aU)) ((H3.out.later aU)) (by omega) (by omega)).mono ?_;rintro e v1 ⟨B1,m1,d1,rfl,g1,f1⟩;have aA:=aU.trans f1;rw [zba] at g1;have u1:=zep g1 H1.out.len H3.out.len)
    |(go_at_call_of 76 (Value.agg #[.bool false,.slice A2 n2 c2]);refine (zcU false false y y' A2 A4 n2 c2 n4 c4 v1 ((H2.out.later aA)) ((H4.out.later aA)) (by omega) (by omega)).mono ?_;rintro e v2 ⟨B2,m2,d2,rfl,g2,f2⟩;have aC:=aA.trans (f2.mono aA.size);rw [zba] at g2;have u2:=zep g2 H2.out.len H4.out.len;rw [HF.out])
    |(go_at_call 74;refine (zed (sgn b x*sgn b' x') (x*x') (y*y') B1 B2 m1 d1 m2 d2 v2 (zba b b' x x') (g1.later f2) g2 bE.out (by omega) (by omega)).mono ?_;rintro e v3 ⟨⟨s,rfl,hs⟩,f3⟩;have aD:=aC.trans (f3.mono aC.size)))
  go_wp2
  go_ret;exact ⟨⟨s,rfl,hs⟩,bG.out.trans (aD.mono bG.out.size)⟩
set_option maxHeartbeats 8000000 in
set_option maxRecDepth 100000 in
theorem zm1 (a a':ByteArray) (b b':Bool) (x y x' y':Nat) (w:World) (h:NumT a b x y) (h':NumT a' b' x' y') (hb:b=true→0<x) (hb':b'=true→0<x') (hy:0<y) (hy':0<y') (ha:a.size≤100000) (ha':a'.size≤100000) :
  Calls Tryz.prog 19 #[.string a,.string a'] w fun e w'=>(∃ s:ByteArray,e = .returned (.string s)∧s.data.toList=zbr (zb2 (sgn b x*(y':Int)+sgn b' x'*(y:Int)) (y*y')))∧Below w.heap.size w w':=by
 have bI:=Lib.hid (zdB a b x y w h (by omega));have bE:=Lib.hid (zdB a' b' x' y' w h' (by omega));have bA:=Lib.hid (fun W=>zbI a b x y W h hb hy (by omega));have bC:=Lib.hid (fun W=>zbI a' b' x' y' W h' hb' hy' (by omega));have bF:0<y*y':=Nat.mul_pos hy hy';have bH:=Lib.hid bF;have HF:Hid (decide (sgn false y*sgn false y'<0)=false):=by
  show decide (sgn false y*sgn false y'<0)=false
  unfold sgn;simp only [Bool.false_eq_true,if_false,decide_eq_false_iff_not,←Int.natCast_mul]
  omega
 have bB:(digs x).length≤100000∧(digs y).length≤100001:=h.lens2 ha;have bG:(digs x').length≤100000∧(digs y').length≤100001:=h'.lens2 ha';have aZ:=Lib.hid bB;have aX:=Lib.hid bG;have HY:=Lib.hid hy;have bU:=Lib.hid hy';clear bF bB bG h h' hb hb' hy hy';go_enter Tryz.func19,Tryz.ntmps19
 go_wp2_with fail
 refine bI.out.mono ?_;rintro e w1 ⟨hw,bP⟩;obtain rfl:w=w1:=hw
 rcases bP with rfl | ⟨rfl,bO,bL⟩
 all_goals
  go_wp2_with fail
  refine bE.out.mono ?_;rintro e w1 ⟨hw,bK⟩;obtain rfl:w=w1:=hw
  rcases bK with rfl | ⟨rfl,aR,aM⟩
 rotate_left 3
 ·obtain ⟨z1,aW⟩:∃ z1,z1=sgn b x*(y':Int):=⟨_,rfl⟩
  obtain ⟨z2,aU⟩:∃ z2,z2=sgn b' x'*(y:Int):=⟨_,rfl⟩;obtain ⟨z,hz⟩:∃ z,z=z1+z2:=⟨_,rfl⟩;obtain ⟨Y,hY⟩:∃ Y,Y=y*y':=⟨_,rfl⟩;have bQ:Y≤999999999*999999999:=by rw [hY];exact Nat.mul_le_mul (by omega) (by omega)
  have aG:z1.natAbs≤999999999*999999999:=by rw [aW,Int.natAbs_mul,zbF,Int.natAbs_natCast];exact Nat.mul_le_mul (by omega) (by omega)
  have aP:z2.natAbs≤999999999*999999999:=by rw [aU,Int.natAbs_mul,zbF,Int.natAbs_natCast];exact Nat.mul_le_mul (by omega) (by omega)
  have hO:=zkK (decide (z<0)) z.natAbs Y w (by omega) (by omega) (by rw [hY];exact bH.out);rw [zhC] at hO;have HO:=Lib.hid hO;have bW:sgn b x*(y':Int)=z1:=aW.symm;have bS:sgn b' x'*(y:Int)=z2:=aU.symm;have ez:z1+z2=z:=hz.symm;have eY:(y:Int)*(y':Int)=(Y:Int):=by rw [hY];exact (Int.natCast_mul y y').symm
  have aJ : -1000000000000000000≤z1:=by omega
  have aS:z1≤1000000000000000000:=by omega
  have bX : -1000000000000000000≤z2:=by omega
  have bR:z2≤1000000000000000000:=by omega
  have bT : -2000000000000000000≤z:=by omega
  have bV:z≤2000000000000000000:=by omega
  have HZ:Hid (z=sgn b x*(y':Int)+sgn b' x'*(y:Int)):=by
   show z=_
   rw [hz,aW,aU]
  have bN:=Lib.hid hY;have bM:Y≤1000000000000000000:=by omega
  clear hO hz aW aU hY bQ aG aP bI bE bA bC HF aZ aX
  go_wp2_with fail
  refine HO.out.mono ?_;rintro e w1 ⟨⟨s,rfl,hs⟩,aG⟩;rw [HZ.out,bN.out] at hs;have HS:=Lib.hid hs;clear hs HO;go_wp2
  go_ret;exact ⟨⟨s,rfl,HS.out⟩,aG⟩
 all_goals
  first | clear bO bL | clear aR aM | skip
  first | clear aR aM | skip
  go_wp2_with fail
  refine (bA.out w).mono ?_;rintro e w1 ⟨A1,n1,c1,A2,n2,c2,rfl,aL,aQ,aG⟩;have aJ:Below w1.heap.size w1 ((w1.alloc (.cells #[.bool b,.slice A1 n1 c1] 84)).alloc (.cells #[.bool false,.slice A2 n2 c2] 84)):=((Below.refl _ _).alloc (Nat.le_refl _) _).alloc (by simp) _;have aI:CBlk ((w1.alloc (.cells #[.bool b,.slice A1 n1 c1] 84)).alloc (.cells #[.bool false,.slice A2 n2 c2] 84)) w1.heap.size #[.bool b,.slice A1 n1 c1] 84:=(CBlk.new w1 _ _ _ rfl).below ((Below.refl _ _).alloc (Nat.le_refl _) _) (by simp);have aH:CBlk ((w1.alloc (.cells #[.bool b,.slice A1 n1 c1] 84)).alloc (.cells #[.bool false,.slice A2 n2 c2] 84)) (w1.heap.size+1) #[.bool false,.slice A2 n2 c2] 84:=CBlk.new (w1.alloc (.cells #[.bool b,.slice A1 n1 c1] 84)) _ _ (w1.heap.size+1) (by simp)
  go_wp2_with fail
  generalize ((w1.alloc (.cells #[.bool b,.slice A1 n1 c1] 84)).alloc (.cells #[.bool false,.slice A2 n2 c2] 84))=wA at *;refine (bC.out wA).mono ?_;rintro e w2 ⟨A3,n3,c3,A4,n4,c4,rfl,aN,aO,aP⟩;have aS:Below w2.heap.size w2 ((w2.alloc (.cells #[.bool b',.slice A3 n3 c3] 84)).alloc (.cells #[.bool false,.slice A4 n4 c4] 84)):=((Below.refl _ _).alloc (Nat.le_refl _) _).alloc (by simp) _;have aT:CBlk ((w2.alloc (.cells #[.bool b',.slice A3 n3 c3] 84)).alloc (.cells #[.bool false,.slice A4 n4 c4] 84)) w2.heap.size #[.bool b',.slice A3 n3 c3] 84:=(CBlk.new w2 _ _ _ rfl).below ((Below.refl _ _).alloc (Nat.le_refl _) _) (by simp);have aV:CBlk ((w2.alloc (.cells #[.bool b',.slice A3 n3 c3] 84)).alloc (.cells #[.bool false,.slice A4 n4 c4] 84)) (w2.heap.size+1) #[.bool false,.slice A4 n4 c4] 84:=CBlk.new (w2.alloc (.cells #[.bool b',.slice A3 n3 c3] 84)) _ _ (w2.heap.size+1) (by simp);have aK:=aP.trans (aS.mono aP.size)
  replace aI:=aI.below aK aI.lt
  replace aH:=aH.below aK aH.lt
  have bD:=aG.trans ((aJ.trans (aK.mono aJ.size)).mono aG.size)
  replace aL:=(aL.later aJ).later aK
  replace aQ:=(aQ.later aJ).later aK
  replace aN:=aN.later aS
  replace aO:=aO.later aS
  clear aJ aS aG aP aK;go_upto_region 7 with (fail)
  generalize ((w2.alloc (.cells #[.bool b',.slice A3 n3 c3] 84)).alloc (.cells #[.bool false,.slice A4 n4 c4] 84))=w3 at *;have a1:w3.cell? ⟨w1.heap.size,0,none⟩=some (.bool b):=aI.cell 0;have s1:w3.cell? ⟨w1.heap.size,1,none⟩=some (.slice A1 n1 c1):=aI.cell 1;have a2:w3.cell? ⟨w1.heap.size+1,0,none⟩=some (.bool false):=aH.cell 0;have s2:w3.cell? ⟨w1.heap.size+1,1,none⟩=some (.slice A2 n2 c2):=aH.cell 1;have a3:w3.cell? ⟨w2.heap.size,0,none⟩=some (.bool b'):=aT.cell 0;have s3:w3.cell? ⟨w2.heap.size,1,none⟩=some (.slice A3 n3 c3):=aT.cell 1;have a4:w3.cell? ⟨w2.heap.size+1,0,none⟩=some (.bool false):=aV.cell 0;have s4:w3.cell? ⟨w2.heap.size+1,1,none⟩=some (.slice A4 n4 c4):=aV.cell 1;have l1:=aI.lt;have l2:=aH.lt;have l3:=aT.lt;have l4:=aV.lt;have e1:n1≤100000:=by rw [←aL.len];have:=aZ.out.1;omega
  have e2:n2≤100001:=by rw [←aQ.len];have:=aZ.out.2;omega
  have e3:n3≤100000:=by rw [←aN.len];have:=aX.out.1;omega
  have e4:n4≤100001:=by rw [←aO.len];have:=aX.out.2;omega
  have H1:=Lib.hid aL;have H2:=Lib.hid aQ;have H3:=Lib.hid aN;have H4:=Lib.hid aO;have bJ:=Lib.hid bD;have aY:Below w3.heap.size w3 w3.drew:=(Below.refl _ _).drew;clear aI aH aT aV aL aQ aN aO bD
  go_region_held3 (fun w'=>w'.cell? ⟨w1.heap.size,0,none⟩=some (.bool b)∧w'.cell? ⟨w1.heap.size,1,none⟩=some (.slice A1 n1 c1)∧w'.cell? ⟨w1.heap.size+1,0,none⟩=some (.bool false)∧w'.cell? ⟨w1.heap.size+1,1,none⟩=some (.slice A2 n2 c2)∧w'.cell? ⟨w2.heap.size,0,none⟩=some (.bool b')∧w'.cell? ⟨w2.heap.size,1,none⟩=some (.slice A3 n3 c3)∧w'.cell? ⟨w2.heap.size+1,0,none⟩=some (.bool false)∧w'.cell? ⟨w2.heap.size+1,1,none⟩=some (.slice A4 n4 c4))
   (first | exact ⟨a1,s1,a2,s2,a3,s3,a4,s4⟩ | exact ⟨(aC.cell (p:=⟨w1.heap.size,0,none⟩) l1).trans a1,(aC.cell (p:=⟨w1.heap.size,1,none⟩) l1).trans s1,(aC.cell (p:=⟨w1.heap.size+1,0,none⟩) l2).trans a2,(aC.cell (p:=⟨w1.heap.size+1,1,none⟩) l2).trans s2,(aC.cell (p:=⟨w2.heap.size,0,none⟩) l3).trans a3,(aC.cell (p:=⟨w2.heap.size,1,none⟩) l3).trans s3,(aC.cell (p:=⟨w2.heap.size+1,0,none⟩) l4).trans a4,(aC.cell (p:=⟨w2.heap.size+1,1,none⟩) l4).trans s4⟩ | exact ⟨(aD.cell (p:=⟨w1.heap.size,0,none⟩) l1).trans a1,(aD.cell (p:=⟨w1.heap.size,1,none⟩) l1).trans s1,(aD.cell (p:=⟨w1.heap.size+1,0,none⟩) l2).trans a2,(aD.cell (p:=⟨w1.heap.size+1,1,none⟩) l2).trans s2,(aD.cell (p:=⟨w2.heap.size,0,none⟩) l3).trans a3,(aD.cell (p:=⟨w2.heap.size,1,none⟩) l3).trans s3,(aD.cell (p:=⟨w2.heap.size+1,0,none⟩) l4).trans a4,(aD.cell (p:=⟨w2.heap.size+1,1,none⟩) l4).trans s4⟩ | exact ⟨(aA.cell (p:=⟨w1.heap.size,0,none⟩) l1).trans a1,(aA.cell (p:=⟨w1.heap.size,1,none⟩) l1).trans s1,(aA.cell (p:=⟨w1.heap.size+1,0,none⟩) l2).trans a2,(aA.cell (p:=⟨w1.heap.size+1,1,none⟩) l2).trans s2,(aA.cell (p:=⟨w2.heap.size,0,none⟩) l3).trans a3,(aA.cell (p:=⟨w2.heap.size,1,none⟩) l3).trans s3,(aA.cell (p:=⟨w2.heap.size+1,0,none⟩) l4).trans a4,(aA.cell (p:=⟨w2.heap.size+1,1,none⟩) l4).trans s4⟩ | exact ⟨(aE.cell (p:=⟨w1.heap.size,0,none⟩) l1).trans a1,(aE.cell (p:=⟨w1.heap.size,1,none⟩) l1).trans s1,(aE.cell (p:=⟨w1.heap.size+1,0,none⟩) l2).trans a2,(aE.cell (p:=⟨w1.heap.size+1,1,none⟩) l2).trans s2,(aE.cell (p:=⟨w2.heap.size,0,none⟩) l3).trans a3,(aE.cell (p:=⟨w2.heap.size,1,none⟩) l3).trans s3,(aE.cell (p:=⟨w2.heap.size+1,0,none⟩) l4).trans a4,(aE.cell (p:=⟨w2.heap.size+1,1,none⟩) l4).trans s4⟩ | exact ⟨(aF.cell (p:=⟨w1.heap.size,0,none⟩) l1).trans a1,(aF.cell (p:=⟨w1.heap.size,1,none⟩) l1).trans s1,(aF.cell (p:=⟨w1.heap.size+1,0,none⟩) l2).trans a2,(aF.cell (p:=⟨w1.heap.size+1,1,none⟩) l2).trans s2,(aF.cell (p:=⟨w2.heap.size,0,none⟩) l3).trans a3,(aF.cell (p:=⟨w2.heap.size,1,none⟩) l3).trans s3,(aF.cell (p:=⟨w2.heap.size+1,0,none⟩) l4).trans a4,(aF.cell (p:=⟨w2.heap.size+1,1,none⟩) l4).trans s4⟩)
   (first
    |(go_at_call_of 76 (Value.agg #[.bool b,.slice A1 n1 c1]);refine (zcU b false x y' A1 A4 n1 c1 n4 c4 w3.drew ((H1.out.later aY)) ((H4.out.later aY)) (by omega) (by omega)).mono ?_;rintro e v1 ⟨B1,m1,d1,rfl,g1,f1⟩;have aC:=aY.trans f1;rw [zba] at g1;have u1:=zep g1 H1.out.len H4.out.len)
    |(go_at_call_of 76 (Value.agg #[.bool b',.slice A3 n3 c3]);refine (zcU b' false x' y A3 A2 n3 c3 n2 c2 v1 ((H3.out.later aC)) ((H2.out.later aC)) (by omega) (by omega)).mono ?_;rintro e v2 ⟨B2,m2,d2,rfl,g2,f2⟩;have aD:=aC.trans (f2.mono aC.size);rw [zba] at g2;have u2:=zep g2 H3.out.len H2.out.len)
    |(go_at_call 75;refine (zk5 (sgn b x*sgn false y') (sgn b' x'*sgn false y) (x*y') (x'*y) B1 B2 m1 d1 m2 d2 v2 (zba _ _ _ _) (zba _ _ _ _) (g1.later f2) g2 (by omega) (by omega)).mono ?_;rintro e v3 ⟨B3,m3,d3,rfl,g3,f3⟩;have aA:=aD.trans (f3.mono aD.size);have u3:=znX (k:=300000) g3 (zba _ _ _ _) (zba _ _ _ _) (by have:=g1.len;omega) (by have:=g2.len;omega))
    |(go_at_call_of 76 (Value.agg #[.bool false,.slice A2 n2 c2]);refine (zcU false false y y' A2 A4 n2 c2 n4 c4 v3 ((H2.out.later aA)) ((H4.out.later aA)) (by omega) (by omega)).mono ?_;rintro e v4 ⟨B4,m4,d4,rfl,g4,f4⟩;have aE:=aA.trans (f4.mono aA.size);rw [zba] at g4;have u4:=zep g4 H2.out.len H4.out.len;rw [HF.out])
    |(go_at_call 74;refine (zed (sgn b x*sgn false y'+sgn b' x'*sgn false y) _ (y*y') B3 B4 m3 d3 m4 d4 v4 rfl (g3.later f4) g4 bH.out (by omega) (by omega)).mono ?_;rintro e v5 ⟨⟨s,rfl,hs⟩,f5⟩;have aF:=aE.trans (f5.mono aE.size)))
  go_wp2
  go_ret;exact ⟨⟨s,rfl,hs⟩,bJ.out.trans (aF.mono bJ.out.size)⟩
end Go.Proofs.YteajibbphcfmeaaGreatDoor
