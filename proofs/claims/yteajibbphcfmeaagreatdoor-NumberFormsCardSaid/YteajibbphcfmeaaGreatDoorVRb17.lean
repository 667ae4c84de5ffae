/- Contract of the reference's parts: the integers of a text's numerator and denominator. -/
import Derived.Test.YteajibbphcfmeaaGreatDoorVRb11
import Derived.Deep.RegionHeld3
namespace Go.Proofs.YteajibbphcfmeaaGreatDoor
open Go.RowKit Dn
theorem znC {b:Bool} {x:Nat} (h:b=true→0<x):decide (sgn b x<0)=b:=by
 rw [zem]
 cases b
 ·rfl
 ·simpa using h rfl
def RetP (w:World) (b:Bool) (x y:Nat) (e:Ending) (w':World):Prop:=
 ∃ A1 n1 c1 A2 n2 c2,e = .returned (.tuple #[.agg #[.bool b,.slice A1 n1 c1],.agg #[.bool false,.slice A2 n2 c2]])∧DigI w' A1 n1 c1 (digs x)∧DigI w' A2 n2 c2 (digs y)∧Below w.heap.size w w'
theorem DigI.box2 {w:World} {A A1 A2:Option Addr} {n c n1 c1 n2 c2 g:Nat} {b1 b2:Bool} {l:List Nat} {t:TypeId} (h:DigI w A n c l) (hk:CBlk w g #[.bool b1,.slice A1 n1 c1] t) (hk2:CBlk w (g+1) #[.bool b2,.slice A2 n2 c2] t) (u v u' v':Value) :
  DigI ((((w.setCell ⟨g,0,none⟩ u).setCell ⟨g,1,none⟩ v).setCell ⟨g+1,0,none⟩ u').setCell ⟨g+1,1,none⟩ v') A n c l:=
 (h.box hk u v).box (hk2.far2 (by omega) u v) u' v'
set_option maxHeartbeats 4000000 in
set_option maxRecDepth 100000 in
theorem zet (a:ByteArray) (b:Bool) (x y:Nat) (w:World) (h:NumT a b x y) (hb:b=true→0<x) (hy0:0<y) (ha:a.size≤1000000) :
  Calls Tryz.prog 61 #[.string a] w (RetP w b x y):=by
 have hB:Below w.heap.size w ((w.alloc (.cells #[.bool false,.slice none 0 0] 84)).alloc (.cells #[.bool false,.slice none 0 0] 84)):=((Below.refl _ _).alloc (Nat.le_refl _) _).alloc (by simp) _
 have aM:CBlk ((w.alloc (.cells #[.bool false,.slice none 0 0] 84)).alloc (.cells #[.bool false,.slice none 0 0] 84)) w.heap.size #[.bool false,.slice none 0 0] 84:=(CBlk.new w _ _ _ rfl).below ((Below.refl _ _).alloc (Nat.le_refl _) _) (by simp)
 have aO:CBlk ((w.alloc (.cells #[.bool false,.slice none 0 0] 84)).alloc (.cells #[.bool false,.slice none 0 0] 84)) (w.heap.size+1) #[.bool false,.slice none 0 0] 84:=CBlk.new (w.alloc (.cells #[.bool false,.slice none 0 0] 84)) _ _ (w.heap.size+1) (by simp)
 have bC:zas (sgnT false (Lib.decDigits x))=true:=za8 x
 obtain ⟨k,hk⟩:∃ k,k=(sgnT b (Lib.decDigits x)).length:=⟨_,rfl⟩
 obtain ⟨p1,p2,p3⟩:=zd8 (t:=a) (l:=sgnT b (Lib.decDigits x)) h hk
 have aN:=zbL a
 have aV:zbp a.data.toList=k:=by rw [h,zcT _ _ (zdp (za8 x)),hk]
 have aN:=fun W=>zbL a W (by omega)
 simp only [aV] at aN
 have aX:=Lib.hid aN
 have aR:=Lib.hid (znC hb)
 have bA:=Lib.hid (zec b x)
 clear aN aV bC
 by_cases hy:y=1
 ·subst hy
  have bH:=p2 rfl
  have aY:=fun W=>zed a b x W (by rw [h];simp [zcm]) ha
  have bJ:=Lib.hid aY
  have dk:((k:Int)==(a.size:Int))=true:=by rw [beq_iff_eq];omega
  clear h hk p1 p2 p3 aY bH hb
  go_enter Tryz.func61,Tryz.ntmps61
  go_upto_region 1 with (fail)
  generalize ((w.alloc (.cells #[.bool false,.slice none 0 0] 84)).alloc (.cells #[.bool false,.slice none 0 0] 84))=w3 at *
  go_wp2_with fail
  refine (aX.out w3).mono ?_
  rintro e w4 ⟨rfl,hw⟩
  obtain rfl:w3=w4:=hw
  go_wp2_with fail
  refine (bJ.out w3).mono ?_
  rintro e w5 ⟨A5,m5,c5,rfl,aI,aA⟩
  rw [bA.out] at aI
  rw [aR.out]
  have HW:=Lib.hid (zi2 1 w5 (by omega))
  go_wp2_with fail
  refine HW.out.mono ?_
  rintro e w6 ⟨A6,m6,c6,rfl,aJ,aE⟩
  have aK:DigI w6 A6 m6 c6 (digs 1):=aJ
  have aC:=(aM.below aA aM.lt).below aE (Nat.lt_of_lt_of_le aM.lt aA.size)
  have aD:=(aO.below aA aO.lt).below aE (Nat.lt_of_lt_of_le aO.lt aA.size)
  have aF:=aI.later aE
  have aL:=hB.trans ((aA.trans (aE.mono aA.size)).mono hB.size)
  have e0:w6.cell? ⟨w.heap.size,0,none⟩=some (.bool false):=aC.cell 0
  have e1:w6.cell? ⟨w.heap.size,1,none⟩=some (.slice none 0 0):=aC.cell 1
  have e2:w6.cell? ⟨w.heap.size+1,0,none⟩=some (.bool false):=aD.cell 0
  have e3:w6.cell? ⟨w.heap.size+1,1,none⟩=some (.slice none 0 0):=aD.cell 1
  have f0:w6.frozen? ⟨w.heap.size,0,none⟩=false:=aC.frozen 0
  have f1:w6.frozen? ⟨w.heap.size,1,none⟩=false:=aC.frozen 1
  have f2:w6.frozen? ⟨w.heap.size+1,0,none⟩=false:=aD.frozen 0
  have f3:w6.frozen? ⟨w.heap.size+1,1,none⟩=false:=aD.frozen 1
  have bE:=Lib.hid aF
  have bD:=Lib.hid aK
  have bF:=Lib.hid aL
  clear aA aE aI aJ aF aK aL hB dk
  go_wp2
  refine bodyPost_ret (v := .tuple #[.agg #[.bool b,.slice A5 m5 c5],.agg #[.bool false,.slice A6 m6 c6]]) (by simp [results,Tryz.results61,go_sem,e0,e1,e2,e3]) rfl ?_
  exact ⟨A5,m5,c5,A6,m6,c6,rfl,bE.out.box2 aC aD _ _ _ _,bD.out.box2 aC aD _ _ _ _,zcy (zcy bF.out (Nat.le_refl _) _ _) (by omega) _ _⟩
 ·obtain ⟨q1,q2,q3⟩:=p3 hy
  obtain ⟨t1,aU⟩:∃ t1,a.extract 0 k=t1:=⟨_,rfl⟩
  obtain ⟨kk,aW⟩:∃ kk,kk=k+1:=⟨_,rfl⟩
  rw [←aW] at q2
  obtain ⟨t2,aZ⟩:∃ t2,a.extract kk a.size=t2:=⟨_,rfl⟩
  have aS:t1.size≤1000000:=by rw [←aU];simp;omega
  have aT:t2.size≤1000000:=by rw [←aZ];simp;omega
  rw [aU] at p1
  rw [aZ] at q2
  have bG:=Lib.hid (fun W=>zed t1 b x W p1 aS)
  have bI:=Lib.hid (fun W=>zed t2 false y W q2 aT)
  have aP:Hid (decide (sgn false y<0)=false):=by show decide (sgn false y<0)=false;rw [zem];rfl
  have aQ:=Lib.hid (zec false y)
  have dk:((k:Int)==(a.size:Int))=false:=by rw [beq_eq_false_iff_ne];omega
  have f1:IntKind.i64.wrap ((k:Int)+1)=(kk:Int):=by rw [IntWalk.i64_in _ (by omega)];omega
  have g1:(0:Int)≤(k:Int):=by omega
  have g2:(k:Int)≤(a.size:Int):=by omega
  have g3:(0:Int)≤(kk:Int):=by omega
  have g4:(kk:Int)≤(a.size:Int):=by omega
  clear h hk p1 p2 p3 q1 q2 q3 hb aS aT aW
  go_enter Tryz.func61,Tryz.ntmps61
  go_upto_region 1 with (fail)
  generalize ((w.alloc (.cells #[.bool false,.slice none 0 0] 84)).alloc (.cells #[.bool false,.slice none 0 0] 84))=w3 at *
  go_wp2_with fail
  refine (aX.out w3).mono ?_
  rintro e w4 ⟨rfl,hw⟩
  obtain rfl:w3=w4:=hw
  have aH:CBlk w3.drew w.heap.size #[.bool false,.slice none 0 0] 84:=aM
  have aG:CBlk w3.drew (w.heap.size+1) #[.bool false,.slice none 0 0] 84:=aO
  have bB:Below w.heap.size w w3.drew:=hB.drew
  go_upto_region 5 with (fail)
  go_region_held3 (fun _=>True) (exact trivial)
   (first
    |(go_at_call_of 120 (Value.string t1);refine (bG.out w3.drew).mono ?_;rintro e w5 ⟨A5,m5,c5,rfl,aI,aA⟩;rw [bA.out] at aI;rw [aR.out])
    |(go_at_call_of 120 (Value.string t2);refine (bI.out w5).mono ?_;rintro e w6 ⟨A6,m6,c6,rfl,aJ,aE⟩;rw [aQ.out] at aJ;rw [aP.out];have aC:=(aH.below aA aH.lt).below aE (Nat.lt_of_lt_of_le aH.lt aA.size);have aD:=(aG.below aA aG.lt).below aE (Nat.lt_of_lt_of_le aG.lt aA.size);have e0:=aC.cell 0;have e1:=aC.cell 1;have e2:=aD.cell 0;have e3:=aD.cell 1;have r0:=aC.frozen 0;have r1:=aC.frozen 1;have r2:=aD.frozen 0;have r3:=aD.frozen 1))
  have aF:=aI.later aE
  have aL:=bB.trans ((aA.trans (aE.mono aA.size)).mono bB.size)
  have k0:w6.cell? ⟨w.heap.size,0,none⟩=some (.bool false):=e0
  have k1:w6.cell? ⟨w.heap.size,1,none⟩=some (.slice none 0 0):=e1
  have k2:w6.cell? ⟨w.heap.size+1,0,none⟩=some (.bool false):=e2
  have k3:w6.cell? ⟨w.heap.size+1,1,none⟩=some (.slice none 0 0):=e3
  go_wp2_with fail
  refine bodyPost_ret (v := .tuple #[.agg #[.bool b,.slice A5 m5 c5],.agg #[.bool false,.slice A6 m6 c6]]) (by simp [results,Tryz.results61,go_sem,k0,k1,k2,k3]) rfl ?_
  exact ⟨A5,m5,c5,A6,m6,c6,rfl,aF.box2 aC aD _ _ _ _,aJ.box2 aC aD _ _ _ _,zcy (zcy aL (Nat.le_refl _) _ _) (by omega) _ _⟩
theorem zby (x:Nat):(digs x).length≤(Lib.decDigits x).length:=by
 refine digs_length_le ?_
 have h1:=zcc _ (za8 x)
 rw [zdo] at h1
 have h2:10 ^ (Lib.decDigits x).length≤B ^ (Lib.decDigits x).length:=Nat.pow_le_pow_left (by decide) _
 omega
theorem NumT.lens2 {a:ByteArray} {b:Bool} {x y:Nat} (h:NumT a b x y) (ha:a.size≤100000):(digs x).length≤100000∧(digs y).length≤100001:=by
 have hl:=congrArg List.length h
 rw [Array.length_toList,List.length_append] at hl
 have h1:=zby x
 have h2:=zby y
 have h3:(Lib.decDigits x).length≤(sgnT b (Lib.decDigits x)).length:=by unfold sgnT;cases b<;>simp
 have h4:a.data.size=a.size:=rfl
 refine ⟨by omega,?_⟩
 by_cases hy:y=1
 ·subst hy
  rw [zbQ (by omega) (by decide)]
  simp
 ·unfold zcm at hl
  rw [if_neg hy,List.length_cons] at hl
  omega
def NumQ (a:ByteArray) (p:Q):Prop:=a.data.toList=zbU p∧LowQ p
theorem NumQ.num {a:ByteArray} {p:Q} (h:NumQ a p):NumT a p.neg p.top p.bot:=h.1
def Small (p:Q) (N:Nat):Prop:=p.top<10 ^ N∧p.bot<10 ^ N
theorem Small.more {p:Q} {N M:Nat} (h:Small p N) (hM:N≤M):Small p M:=
 ⟨Nat.lt_of_lt_of_le h.1 (Nat.pow_le_pow_right (by omega) hM),Nat.lt_of_lt_of_le h.2 (Nat.pow_le_pow_right (by omega) hM)⟩
theorem NumQ.size {a:ByteArray} {p:Q} {N:Nat} (h:NumQ a p) (hs:Small p N) (hN:0<N):a.size≤2*N+2:=by
 have hl:=congrArg List.length h.1
 rw [Array.length_toList,za9,List.length_append] at hl
 have h1:=Dec.dec_length_le hN hs.1
 have h2:=Dec.dec_length_le hN hs.2
 have h3:=zlT p.neg (Lib.decDigits p.top)
 have h4:a.data.size=a.size:=rfl
 split at hl<;>simp at hl<;>omega
theorem zdn {z:Int} {d N:Nat} (hz:z.natAbs<10 ^ N) (hd:d<10 ^ N) (hd0:0<d):Small (zd2 z d) N:=by
 by_cases h0:z=0
 ·subst h0
  rw [zjk hd0]
  exact ⟨hz,by show 1<10 ^ N;omega⟩
 ·rw [zmu hd0 h0]
  exact ⟨Nat.lt_of_le_of_lt (Nat.div_le_self _ _) hz,Nat.lt_of_le_of_lt (Nat.div_le_self _ _) hd⟩
theorem NumQ.small {a:ByteArray} {p:Q} {N:Nat} (h:NumQ a p) (ha:a.size≤N) (hN:0<N):Small p N:=by
 have h1:=congrArg List.length h.1
 rw [Array.length_toList,za9,List.length_append] at h1
 have h3:a.data.size=a.size:=rfl
 have h6:(Lib.decDigits p.top).length≤(sgnT p.neg (Lib.decDigits p.top)).length:=by unfold sgnT;split<;>simp
 have e1:=zcc _ (za8 p.top)
 have e2:=zcc _ (za8 p.bot)
 rw [zdo] at e1 e2
 refine ⟨Nat.lt_of_lt_of_le e1 (Nat.pow_le_pow_right (by omega) (by omega)),?_⟩
 by_cases hb:p.bot=1
 ·rw [hb];exact Nat.one_lt_pow (by omega) (by omega)
 ·rw [if_neg hb,List.length_cons] at h1
  exact Nat.lt_of_lt_of_le e2 (Nat.pow_le_pow_right (by omega) (by omega))
def RetS (w:World) (p:Q) (e:Ending) (w':World):Prop:=(∃ s:ByteArray,e = .returned (.string s)∧NumQ s p)∧Below w.heap.size w w'
theorem LowQ.zero {p:Q} (h:LowQ p) (h0:p.top=0):p=⟨false,0,1⟩:=by
 obtain ⟨n,t,b⟩:=p
 obtain ⟨h1,h2,h3⟩:=h
 dsimp only at *
 subst h0
 rw [Nat.gcd_zero_left] at h2
 subst h2
 cases n
 ·rfl
 ·exact absurd (h3 rfl) (by omega)
theorem NumQ.is_zero {a:ByteArray} {p:Q} (h:NumQ a p):(a.toList==[48])=decide (p.top=0):=by
 rw [ByteArray.toList_eq,h.1,Bool.eq_iff_iff,beq_iff_eq,decide_eq_true_eq]
 constructor
 ·intro he
  rw [za9] at he
  rcases Nat.eq_zero_or_pos p.top with h0 | h0
  ·exact h0
  ·exfalso
   have h1:=zmF h0
   have h2:=Dec.dec_length_pos p.top
   have hl:=congrArg List.length he
   rw [List.length_append] at hl
   simp only [List.length_cons,List.length_nil] at hl
   cases hn:p.neg
   ·rw [hn] at he hl
    have e1:sgnT false (Lib.decDigits p.top)=Lib.decDigits p.top:=rfl
    rw [e1] at he hl
    have h9:(if p.bot=1 then [] else 47 :: Lib.decDigits p.bot)=[]:=List.eq_nil_of_length_eq_zero (by omega)
    rw [h9,List.append_nil] at he
    exact h1 he
   ·rw [hn] at hl
    have e1:(sgnT true (Lib.decDigits p.top)).length=(Lib.decDigits p.top).length+1:=rfl
    omega
 ·intro h0
  rw [h.2.zero h0]
  rw [za9]
  show Lib.decDigits 0++[]=[48]
  rw [Dec.dec_lt (by omega)]
  rfl
set_option maxHeartbeats 1000000 in
theorem zkf (a:ByteArray) (p:Q) (w:World) (h:NumQ a p) (_ha:a.size≤1000000) :
  Calls Tryz.prog 46 #[.string a] w fun e w'=>e = .returned (.int .i64 (zeI p))∧w=w':=by
 have hz:=h.is_zero
 obtain ⟨h0,aA⟩:=h.num.head
 obtain ⟨c0,aC⟩:∃ c0:Nat,(a[0]'h0).toNat=c0:=⟨_,rfl⟩
 rw [aC] at aA
 have d0:decide (0<a.size)=true:=by simpa using h0
 by_cases ht:p.top=0
 ·have hs:zeI p=0:=by unfold zeI;rw [if_pos ht]
  rw [decide_eq_true ht] at hz
  have HS:=Lib.hid hs
  clear hs h ht aA aC
  go_enter Tryz.func46,Tryz.ntmps46
  go_wp2
  go_ret
  exact ⟨by rw [HS.out];rfl,rfl⟩
 ·rw [decide_eq_false ht] at hz
  have hs:zeI p=if p.neg then -1 else 1:=by unfold zeI;rw [if_neg ht]
  cases hn:p.neg
  all_goals
   rw [hn] at hs aA
   have HS:=Lib.hid hs
   clear hs h ht hn
   go_enter Tryz.func46,Tryz.ntmps46
   go_wp2
   go_ret
   exact ⟨by rw [HS.out];rfl,rfl⟩
theorem zdE (p:Q) (h:LowQ p):(p.neg=true∧zeI p = -1)∨(p.neg=false∧p.top=0∧zeI p=0)∨(p.neg=false∧0<p.top∧zeI p=1):=by
 unfold zeI
 by_cases ht:p.top=0
 ·have:=h.zero ht
  rw [this]
  exact .inr (.inl ⟨rfl,rfl,rfl⟩)
 ·rw [if_neg ht]
  cases hn:p.neg
  ·exact .inr (.inr ⟨rfl,by omega,rfl⟩)
  ·exact .inl ⟨rfl,rfl⟩
theorem zng {p:Q} (h:LowQ p):LowQ (negQ p):=by
 refine ⟨h.1,h.2.1,fun h9 => ?_⟩
 unfold negQ at h9
 simp only [Bool.and_eq_true,decide_eq_true_eq] at h9
 exact h9.2
theorem zm6 {p:Q} (h:LowQ p):LowQ (absQ p):=⟨h.1,h.2.1,fun h9=>by cases h9⟩
theorem zez {a:ByteArray} {p:Q} (h:NumQ a p) (hn:p.neg=true):(a.extract 1 a.size).data.toList=zbU ⟨false,p.top,p.bot⟩:=by
 have h1:=h.num.abs
 unfold absT at h1
 rw [hn] at h1
 exact h1
set_option maxHeartbeats 1000000 in
theorem zoC (a:ByteArray) (p:Q) (w:World) (h:NumQ a p) (ha:a.size≤1000000) :
  Calls Tryz.prog 50 #[.string a] w (RetS w (negQ p)):=by
 have HK:=Lib.hid (fun W=>zkf a p W h ha)
 have hl:=zng h.2
 obtain ⟨h0,_⟩:=h.num.head
 have aA:(1:Int)≤(a.size:Int):=by omega
 rcases zdE p h.2 with ⟨hn,hs⟩ | ⟨hn,ht,hs⟩ | ⟨hn,ht,hs⟩
 ·have hq:negQ p=⟨false,p.top,p.bot⟩:=by unfold negQ;rw [hn];rfl
  have hw:=zez h hn
  have HR:Hid (NumQ (a.extract 1 a.size) (negQ p)):=⟨by rw [hq];exact hw,hl⟩
  simp only [hs] at HK
  clear hq hw hn hs h hl
  go_enter Tryz.func50,Tryz.ntmps50
  go_wp2_with fail
  refine (HK.out w).mono ?_
  rintro e w1 ⟨rfl,rfl⟩
  go_wp2
  go_ret
  exact ⟨⟨_,rfl,HR.out⟩,Below.refl _ _⟩
 ·have hq:negQ p=p:=by rw [h.2.zero ht];rfl
  have HR:Hid (NumQ a (negQ p)):=by show NumQ a (negQ p);rw [hq];exact h
  simp only [hs] at HK
  clear hq hn hs h hl ht
  go_enter Tryz.func50,Tryz.ntmps50
  go_wp2_with fail
  refine (HK.out w).mono ?_
  rintro e w1 ⟨rfl,rfl⟩
  go_wp2_with fail
  refine (HK.out w).mono ?_
  rintro e w1 ⟨rfl,rfl⟩
  go_wp2
  go_ret
  exact ⟨⟨_,rfl,HR.out⟩,Below.refl _ _⟩
 ·have hq:negQ p=⟨true,p.top,p.bot⟩:=by unfold negQ;rw [hn,decide_eq_true ht];rfl
  have HR:Hid (NumQ (⟨#[45]⟩++a) (negQ p)):=by
   refine ⟨?_,hl⟩
   rw [ByteArray.data_append,Array.toList_append,h.1,hq,za9,za9,hn]
   rfl
  simp only [hs] at HK
  clear hq hn hs h hl ht
  go_enter Tryz.func50,Tryz.ntmps50
  go_wp2_with fail
  refine (HK.out w).mono ?_
  rintro e w1 ⟨rfl,rfl⟩
  go_wp2_with fail
  refine (HK.out w).mono ?_
  rintro e w1 ⟨rfl,rfl⟩
  go_wp2
  go_ret
  exact ⟨⟨_,rfl,HR.out⟩,Below.refl _ _⟩
set_option maxHeartbeats 1000000 in
theorem zoi (a:ByteArray) (p:Q) (w:World) (h:NumQ a p) (ha:a.size≤1000000) :
  Calls Tryz.prog 42 #[.string a] w (RetS w (absQ p)):=by
 have HK:=Lib.hid (fun W=>zkf a p W h ha)
 have hl:=zm6 h.2
 obtain ⟨h0,_⟩:=h.num.head
 have aC:(1:Int)≤(a.size:Int):=by omega
 by_cases hn:p.neg=true
 ·have hs:zeI p = -1:=by rcases zdE p h.2 with ⟨_,h9⟩ | ⟨h8,_⟩ | ⟨h8,_⟩;(· exact h9);(· rw [h8] at hn;cases hn);(· rw [h8] at hn;cases hn)
  have HR:Hid (NumQ (a.extract 1 a.size) (absQ p)):=⟨zez h hn,hl⟩
  simp only [hs] at HK
  clear hn hs h hl
  go_enter Tryz.func42,Tryz.ntmps42
  go_wp2_with fail
  refine (HK.out w).mono ?_
  rintro e w1 ⟨rfl,rfl⟩
  go_wp2
  go_ret
  exact ⟨⟨_,rfl,HR.out⟩,Below.refl _ _⟩
 ·have aA:p.neg=false:=by simpa using hn
  obtain ⟨r,hr,hs⟩:∃ r:Int,0≤r∧zeI p=r:=⟨zeI p,by rcases zdE p h.2 with ⟨h9,_⟩ | ⟨_,_,h9⟩ | ⟨_,_,h9⟩;(· exact absurd h9 hn);(· rw [h9];decide);(· rw [h9];decide),rfl⟩
  have d0:decide (r<0)=false:=by simp only [decide_eq_false_iff_not];omega
  have hq:absQ p=p:=by
   obtain ⟨n,t,b⟩:=p
   dsimp only at aA
   subst aA
   rfl
  have HR:Hid (NumQ a (absQ p)):=by show NumQ a (absQ p);rw [hq];exact h
  simp only [hs] at HK
  clear hn hs h hl hq aA
  go_enter Tryz.func42,Tryz.ntmps42
  go_wp2_with fail
  refine (HK.out w).mono ?_
  rintro e w1 ⟨rfl,rfl⟩
  go_wp2
  go_ret
  exact ⟨⟨_,rfl,HR.out⟩,Below.refl _ _⟩
def intQ (z:Int):Q:=⟨decide (z<0),z.natAbs,1⟩
theorem zne (z:Int):LowQ (intQ z):=⟨Nat.one_pos,Nat.gcd_one_right _,fun h=>by
 have h9:z<0:=by simpa [intQ] using h
 show 0<z.natAbs
 omega⟩
theorem zkq (z:Int):zbU (intQ z)=sgnT (decide (z<0)) (Lib.decDigits z.natAbs):=by
 rw [za9]
 simp [intQ]
set_option maxHeartbeats 1000000 in
theorem zhq (s:ByteArray) (w:World) (hs:s.size≤9223372036854775807) :
  Calls Tryz.prog 119 #[.string s] w fun e w'=>e = .returned (.bool (zas s.data.toList))∧w=w':=by
 have aE:s.data.toList.length=s.size:=by simp
 have aG:=Lib.hid aE
 clear aE
 obtain ⟨D,hD⟩:∃ D,D=zas s.data.toList:=⟨_,rfl⟩
 have HD:=Lib.hid hD
 rw [←hD]
 clear hD
 go_enter Tryz.func119,Tryz.ntmps119
 go_wp2
 go_loop [3] (fun i=>∃ k:Nat,k≤s.size∧i = .int .i64 k∧Hid (D=zas (s.data.toList.drop k))) (fun i=>s.size - (intOf i).toNat)
 case atStart=>exact ⟨0,Nat.zero_le _,rfl,by rw [Hid,List.drop_zero];exact HD.out⟩
 case round=>
  obtain ⟨k,hk,rfl,hv⟩:=hrel
  by_cases hlt:k<s.size
  ·have aA:=zdh s k hlt
   rw [←hv.out] at aA
   obtain ⟨c,aF⟩:∃ c:Nat,(s[k]'hlt).toNat=c:=⟨_,rfl⟩
   rw [aF] at aA
   by_cases hdig:48≤c∧c≤57
   ·have hb:digB (c:Int)=true:=by unfold digB;simp;omega
    rw [hb,Bool.true_and] at aA
    have HV:=Lib.hid aA
    have d1:decide ((c:Int)<48)=false:=by simp only [decide_eq_false_iff_not];omega
    have d2:decide ((57:Int)<(c:Int))=false:=by simp only [decide_eq_false_iff_not];omega
    clear aA hb hdig hv
    go_wp2
    go_round
    case rel=>exact ⟨k+1,by omega,by go_num,HV.out⟩
    case measure=>simp [intOf];omega
   ·have hb:digB (c:Int)=false:=by
     unfold digB
     rw [Bool.and_eq_false_iff]
     simp only [decide_eq_false_iff_not]
     omega
    rw [hb,Bool.false_and] at aA
    have HV:=Lib.hid aA
    have aC:(decide ((c:Int)<48)=true)∨(decide ((c:Int)<48)=false∧decide ((57:Int)<(c:Int))=true):=by
     simp only [decide_eq_true_eq,decide_eq_false_iff_not]
     omega
    clear aA hb hdig hv
    rcases aC with d1 | ⟨d1,d2⟩
    all_goals
     go_wp2
     go_ret
     exact ⟨by rw [HV.out];rfl,rfl⟩
  ·have aD:D=true:=by
    rw [hv.out,List.drop_of_length_le (by rw [aG.out];omega)]
    rfl
   have HF:=Lib.hid aD
   clear aD hv
   go_wp2
   go_ret
   exact ⟨by rw [HF.out];rfl,rfl⟩
set_option maxHeartbeats 1000000 in
theorem zbY (s:ByteArray) (w:World) (hs:s.size≤9223372036854775807) :
  Calls Tryz.prog 60 #[.string s] w fun e w'=>e = .returned (.bool (zaz s.data.toList))∧w=w':=by
 have aG:s.data.toList.length=s.size:=by simp
 have HG:=Lib.hid (zhq s w hs)
 obtain ⟨D,hD⟩:∃ D,D=zaz s.data.toList:=⟨_,rfl⟩
 rw [←hD]
 by_cases h0:s.size=0
 ·have hl:s.data.toList=[]:=List.eq_nil_of_length_eq_zero (by omega)
  have hF:D=false:=by rw [hD,hl];rfl
  have HF:=Lib.hid hF
  have d1:((s.size:Int)==0)=true:=by rw [h0];rfl
  clear hF hl hD h0 aG HG
  go_enter Tryz.func60,Tryz.ntmps60
  go_wp2
  go_ret
  exact ⟨by rw [HF.out];rfl,rfl⟩
 ·have aA:0<s.size:=by omega
  have d1:((s.size:Int)==0)=false:=by rw [beq_eq_false_iff_ne];omega
  obtain ⟨c,aI⟩:∃ c:Nat,(s[0]'aA).toNat=c:=⟨_,rfl⟩
  have aD:s.data.toList=(s[0]'aA) :: s.data.toList.drop 1:=by
   have h9:0<s.data.toList.length:=by omega
   have e:=List.drop_eq_getElem_cons h9
   rw [List.drop_zero] at e
   exact e
  by_cases hbad:1<s.size∧c=48
  ·obtain ⟨aJ,aH⟩:=hbad
   have d2:decide ((1:Int)<(s.size:Int))=true:=by simp only [decide_eq_true_eq];omega
   have d3:((c:Int)==48)=true:=by rw [beq_iff_eq];omega
   have aC:s[0]'aA=48:=UInt8.toNat_inj.1 (by rw [aI,aH];rfl)
   have hF:D=false:=by
    rw [hD]
    unfold zaz
    rw [Bool.and_eq_false_iff]
    refine .inr ?_
    have n1:s.data.toList≠[48]:=fun e=>by have:=congrArg List.length e;simp at this;omega
    have n2:s.data.toList.head? = some 48:=by rw [aD,aC];rfl
    simp [n1,n2]
   have HF:=Lib.hid hF
   clear hF aC aD hD aG HG aJ aH
   go_enter Tryz.func60,Tryz.ntmps60
   go_wp2
   go_ret
   exact ⟨by rw [HF.out];rfl,rfl⟩
  ·have hF:D=zas s.data.toList:=by
    rw [hD]
    unfold zaz
    by_cases h1:s.size=1
    ·have aF:s.data.toList=[s[0]'aA]:=by
      rw [aD]
      congr 1
      exact List.drop_eq_nil_of_le (by omega)
     by_cases h48:s[0]'aA=48
     ·rw [aF,h48];simp
     ·have:s.data.toList.head? ≠ some 48:=by rw [aF];simpa using h48
      have n2:s.data.toList≠[]:=by rw [aF];simp
      simp [this,n2]
    ·have aC:¬ (s[0]'aA=48):=fun e=>hbad ⟨by omega,by rw [←aI,e];rfl⟩
     have:s.data.toList.head? ≠ some 48:=by rw [aD];simpa using aC
     have n2:s.data.toList≠[]:=by rw [aD];simp
     simp [this,n2]
   rw [←hF] at HG
   have aE:(decide ((1:Int)<(s.size:Int))=false)∨(decide ((1:Int)<(s.size:Int))=true∧((c:Int)==48)=false):=by
    simp only [decide_eq_true_eq,decide_eq_false_iff_not,beq_eq_false_iff_ne]
    omega
   clear hF aD hD aG hbad
   rcases aE with d2 | ⟨d2,d3⟩
   all_goals
    go_enter Tryz.func60,Tryz.ntmps60
    go_wp2_with fail
    refine HG.out.mono ?_
    rintro e w1 ⟨rfl,rfl⟩
    go_wp2
    go_ret
    exact ⟨rfl,rfl⟩
theorem zcS:∀ l:List UInt8,(∀ c ∈ l,c≠47)∨∃ t r,l=t++47 :: r∧∀ c ∈ t,c≠47
 | [] => .inl (fun c hc=>by cases hc)
 | x :: l=>by
  by_cases hx:x=47
  ·exact .inr ⟨[],l,by rw [hx];rfl,fun c hc=>by cases hc⟩
  ·rcases zcS l with h | ⟨t,r,rfl,h⟩
   ·exact .inl (fun c hc=>by rcases List.mem_cons.1 hc with rfl | hc;(· exact hx);(· exact h c hc))
   ·exact .inr ⟨x :: t,r,rfl,fun c hc=>by rcases List.mem_cons.1 hc with rfl | hc;(· exact hx);(· exact h c hc)⟩
theorem zi0 {l s:List UInt8} {neg:Bool} (hl:l=sgnT neg s) (hn:neg=false→s.head? ≠ some 45) :
  zam l=zbb (s.take (zbp s)) (s.drop (zbp s+1)) neg (decide (zbp s<s.length)):=by
 have aA:∀ t:List UInt8,(neg=false→t.head? ≠ some 45)→Lib.hasPrefix (sgnT neg t) [45]=neg∧Lib.trimPrefix (sgnT neg t) [45]=t:=by
  intro t ht
  have h0:Lib.hasPrefix (sgnT neg t) [45]=neg:=by
   cases neg
   ·have h9:=ht rfl
    unfold sgnT Lib.hasPrefix
    cases t with
    | nil=>rfl
    | cons x r=>
     have hx:((45:UInt8)==x)=false:=by
      rw [beq_eq_false_iff_ne]
      intro e
      exact h9 (by rw [←e];rfl)
     simp [List.isPrefixOf,hx]
   ·rfl
  refine ⟨h0,?_⟩
  unfold Lib.trimPrefix
  rw [h0]
  cases neg<;>rfl
 have aC:∀ t:List UInt8,(∀ c ∈ t,c≠47)→∀ c ∈ sgnT neg t,c≠47:=by
  intro t ht c hc
  unfold sgnT at hc
  cases neg
  ·exact ht c hc
  ·rcases List.mem_cons.1 hc with rfl | hc
   ·decide
   ·exact ht c hc
 rcases zcS s with h | ⟨t,r,rfl,h⟩
 ·have e1:zbp s=s.length:=zbO h
  have ec:=zkW (aC s h)
  obtain ⟨p1,p2⟩:=aA s hn
  unfold zam topL botL negL zel
  rw [hl,ec]
  dsimp only
  rw [p1,p2,e1,List.take_length,List.drop_eq_nil_of_le (by omega),decide_eq_false (by omega)]
 ·have e1:zbp (t++47 :: r)=t.length:=zcg h
  have ht:neg=false→t.head? ≠ some 45:=fun h9=>by
   have h8:=hn h9
   cases t with
   | nil=>simp
   | cons x q=>simpa using h8
  have e2:sgnT neg (t++47 :: r)=sgnT neg t++47 :: r:=by unfold sgnT;cases neg<;>rfl
  have ec:=ziM (r:=r) (aC t h)
  obtain ⟨p1,p2⟩:=aA t ht
  unfold zam topL botL negL zel
  rw [hl,e2,ec]
  dsimp only
  rw [p1,p2,e1,List.take_left,←List.drop_drop,List.drop_left,decide_eq_true (by simp)]
  rfl
end Go.Proofs.YteajibbphcfmeaaGreatDoor
