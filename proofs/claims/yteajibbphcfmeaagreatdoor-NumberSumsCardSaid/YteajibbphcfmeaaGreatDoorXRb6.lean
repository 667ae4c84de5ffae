/- Contract of the reference's long division: divDigits. -/
import Derived.Test.YteajibbphcfmeaaGreatDoorXRb5
import Derived.Deep.RegionHeld3
import Derived.Test.YteajibbphcfmeaaGreatDoorXDw
import Derived.Test.YteajibbphcfmeaaGreatDoorXLdx
import Derived.Test.YteajibbphcfmeaaGreatDoorXEx2
import Derived.IntWalk
namespace Go.Proofs.YteajibbphcfmeaaGreatDoor
open Go.RowKit Dn
def zhh (w:World) (x y:Nat) (e:Ending) (w':World):Prop:=
 ∃ A n c A' n' c',e = .returned (.tuple #[.slice A n c,.slice A' n' c'])∧DigI w' A n c (digs (x / y))∧DigI w' A' n' c' (digs (x % y))∧Below w.heap.size w w'
theorem DigI.zero (w:World):DigI w none 0 0 (digs 0):=⟨by rw [digs_zero];exact zav.none_,Nat.le_refl _,Nat.zero_le _,zaq 0⟩
theorem DigI.one {w:World} {g d:Nat} (h:CBlk w g #[.int .i64 (d:Int)] 3) (hd:d<B):DigI w (some ⟨g,0,none⟩) 1 1 [d]:=
 ⟨⟨rfl,fun _=>⟨_,rfl,h.lt,fun j u hu=>by
  have hj:j=0:=by
   rcases j with _ | j
   ·rfl
   ·cases hu
  subst hj;have h0:=h.cell 0;rw [show ((⟨g,0,none⟩:Addr).add 0)=⟨g,0,none⟩ from rfl,h0]
  simpa [natv] using hu⟩⟩,Nat.le_refl _,by unfold maxLen;omega,Wf.cons hd Wf.nil⟩
theorem za9 {d:Nat} (h0:0<d) (hd:d<B):digs d=[d]:=by rw [zbc h0,Nat.mod_eq_of_lt hd,Nat.div_eq_of_lt hd,digs_zero]
set_option maxHeartbeats 1000000 in
set_option maxRecDepth 100000 in
theorem zlV (A A':Option Addr) (n c n' c' x y:Nat) (w:World) (ha:DigI w A n c (digs x)) (hb:DigI w A' n' c' (digs y)) (hlt:x<y) (hn:n≤1048576) (hn':n'≤1048576) :
  Calls Tryz.prog 121 #[.slice A n c,.slice A' n' c'] w (zhh w x y):=by
 have hc:=zb3 A A' n c n' c' x y w ha.rd hb.rd (by omega) (by omega);rw [Bn.ncmp_lt hlt] at hc;have HC:=Lib.hid hc;have HR:Hid (∀ w',Below w.heap.size w w'→zhh w x y (.returned (.tuple #[.slice none 0 0,.slice A n c])) w'):=fun w' hb=>⟨none,0,0,A,n,c,rfl,by rw [Nat.div_eq_of_lt hlt];exact DigI.zero _,by rw [Nat.mod_eq_of_lt hlt];exact ha.later hb,hb⟩
 clear hc;go_enter Tryz.func121,Tryz.ntmps121
 go_wp2_with fail
 refine HC.out.mono ?_;rintro e w1 ⟨rfl,aA⟩;go_wp2
 go_ret2
 exact HR.out _ aA
set_option maxHeartbeats 1000000 in
set_option maxRecDepth 100000 in
theorem zmv (A A':Option Addr) (n c c' x y:Nat) (w:World) (ha:DigI w A n c (digs x)) (hb:DigI w A' 1 c' (digs y)) (hyx:y≤x) (hy:0<y) (hyB:y<B) (hn:n≤1048576) :
  Calls Tryz.prog 121 #[.slice A n c,.slice A' 1 c'] w (zhh w x y):=by
 have aO:∃ r:Int,0≤r∧Bn.ncmp x y=r:=⟨Bn.ncmp x y,by rcases Nat.lt_or_ge y x with h | h;(· rw [Bn.ncmp_gt h];decide);(· rw [show x=y from by omega,Bn.ncmp_eq];exact Int.le_refl 0),rfl⟩
 obtain ⟨r,aR,hr⟩:=aO;have hc:=zb3 A A' n c 1 c' x y w ha.rd hb.rd (by omega) (by omega);rw [hr] at hc;have d0:decide (r<0)=false:=by simp;omega
 have HC:=Lib.hid hc;have HA:=Lib.hid ha;have HB:=Lib.hid hb;clear hc hr ha hb;go_enter Tryz.func121,Tryz.ntmps121
 go_wp2_with fail
 refine HC.out.mono ?_;rintro e w1 ⟨rfl,aE⟩;have aF:=HB.out.later aE;rw [za9 hy hyB] at aF;obtain ⟨ad,aP,rfl,aQ,aA⟩:=aF.rd.cellM (k:=0) (by omega)
 replace aA:w1.cell? ad=some (.int .i64 (y:Int)):=aA
 have aH:=zea A n c y (digs x) w1 (HA.out.later aE) hy hyB hn;rw [zak] at aH;have HD:=Lib.hid aH;clear aH aF
 go_wp2_with fail
 refine HD.out.mono ?_;rintro e w2 ⟨A2,m2,c2,rfl,hq,aJ⟩;obtain ⟨rm,aD⟩:∃ rm,rm=x % y:=⟨_,rfl⟩;rw [←aD];have aG:rm<B:=by rw [aD];exact Nat.lt_trans (Nat.mod_lt _ hy) hyB
 have hk:=CBlk.new w2 #[.int .i64 (rm:Int)] 3 _ rfl;have aK:Below w2.heap.size w2 (w2.alloc (.cells #[.int .i64 (rm:Int)] 3)):=(Below.refl _ _).alloc (Nat.le_refl _) _;have ht:=zcl _ 1 1 _ _ (DigI.one hk aG) (by omega);rw [zaT,aD] at ht;have HT:=Lib.hid ht;have aL:=Lib.hid aD;clear ht aD
 go_wp2_with fail
 have hh:=aL.out;subst hh;refine HT.out.mono ?_;rintro e w3 ⟨m3,rfl,aN,aM⟩;have aC:=aK.trans (aM.mono aK.size);have aI:=aJ.trans (aC.mono aJ.size);go_wp2
 go_ret2
 exact ⟨_,_,_,_,_,_,rfl,hq.later aC,aN,aE.trans (aI.mono aE.size)⟩
theorem zkZ {x y n k F V X:Nat} (hx:(digs x).length=n) (hy:(digs y).length=k+2) (hyx:y≤x) (hFd:F=B / ((digs y).getD (k+1) 0+1)) (hVd:V=y*F) (hXd:X=x*F) :
  0<F∧F<B∧k+2≤n∧(digs V).length=k+2∧(∀ h:k+1<(digs V).length,B≤2*(digs V)[k+1]+1) ∧
  n≤(digs X).length∧(digs X).length≤n+1∧X<B ^ (n+1 - (k+2))*V∧0<V:=by
 subst hVd hXd;have aC:0<y:=by
  rcases Nat.eq_zero_or_pos y with rfl | h
  ·rw [digs_zero] at hy;simp at hy
  ·exact h
 have h1:=zaD aC;have h2:=zac y;rw [hy] at h1 h2;have e1:(digs y).getD (k+1) 0=y / B ^ (k+1):=by
  rw [zcm,Nat.mod_eq_of_lt];exact Nat.div_lt_of_lt_mul (by rw [←Nat.pow_succ];exact h2)
 have hP:0<B ^ (k+1):=Nat.pow_pos zaN;have aH:1≤y / B ^ (k+1):=(Nat.le_div_iff_mul_le hP).2 (by rw [Nat.one_mul];exact h1);have aI:y / B ^ (k+1)<B:=by rw [←e1];exact zaC (zaq y) _
 have hF:F=B / (y / B ^ (k+1)+1):=by rw [←e1];exact hFd
 have aA:0<F:=by rw [hF];exact Nat.div_pos (by omega) (by omega)
 have aD:F<B:=by rw [hF];exact Nat.div_lt_self zaN (by omega)
 obtain ⟨s1,s2⟩:=zkl (n:=k+1) h2 h1 hF rfl;have aF:0<y*F:=Nat.mul_pos aC aA;have aG:(digs (y*F)).length=k+2:=by
  have h3:=digs_length_le s1;have h4:=zaa (Nat.le_mul_of_pos_right y aA);omega
 have aE:0<x:=Nat.lt_of_lt_of_le aC hyx;have h5:=zaD aE;have h6:=zac x;rw [hx] at h5 h6;have hn:k+2≤n:=by rw [←hx,←hy];exact zaa hyx
 refine ⟨aA,aD,hn,aG,?_,?_,?_,?_,aF⟩
 ·intro h
  have e2:(digs (y*F))[k+1]=y*F / B ^ (k+1):=by
   have h7:=zcm (k+1) (y*F);rw [Dn.getD_in h,Nat.mod_eq_of_lt] at h7
   ·exact h7
   ·exact Nat.div_lt_of_lt_mul (by rw [←Nat.pow_succ];exact s1)
  rw [e2];exact s2
 ·rw [←hx];exact zaa (Nat.le_mul_of_pos_right x aA)
 ·refine digs_length_le ?_
  rw [Nat.pow_succ];exact Nat.mul_lt_mul'' h6 aD
 ·rw [←Nat.mul_assoc]
  refine Nat.mul_lt_mul_of_pos_right ?_ aA;have h7:B ^ (n+1 - (k+2))*B ^ (k+1)≤B ^ (n+1 - (k+2))*y:=Nat.mul_le_mul_left _ h1;rw [←Nat.pow_add,show n+1 - (k+2)+(k+1)=n from by omega] at h7;omega
def zdn (X V L k:Nat) (lu lq:List Nat):Prop:=Wf lu∧Wf lq∧lq.length=L∧X=V*val (lq.drop k)*B ^ k+val lu∧val (lu.drop k)<V
theorem zdn.start {X V L:Nat} {lu:List Nat} (hw:Wf lu) (hv:val lu=X) (_hV:0<V) (hX:X<B ^ L*V) (hL:L≤lu.length):zdn X V L L lu (List.replicate L 0):=by
 refine ⟨hw,Wf.replicate _,by simp,?_,?_⟩
 ·rw [List.drop_of_length_le (by simp),val_nil,Nat.mul_zero,Nat.zero_mul,Nat.zero_add,hv]
 ·have hs:=zay lu L hL
  rw [hv] at hs;have h1:B ^ L*val (lu.drop L)<B ^ L*V:=by omega
  exact Nat.lt_of_mul_lt_mul_left h1
theorem zdn.window {X V L j n:Nat} {lu lq:List Nat} (h:zdn X V L (j+1) lu lq) (hV:V<B ^ n) (hj:j+n<lu.length) :
  val (lu.drop (j+(n+1)))=0∧val (lu.drop j)<B*V∧val (lu.drop j)=val ((lu.drop j).take n)+B ^ n*lu.getD (j+n) 0:=by
 obtain ⟨hw,_,_,_,aA⟩:=h;have hz:=zkd lu j n V aA hV;rw [List.drop_drop] at hz;refine ⟨hz,?_,?_⟩
 ·have hd:lu.drop j=lu[j] :: lu.drop (j+1):=List.drop_eq_getElem_cons (by omega)
  rw [hd,val_cons];have h1:=hw.get (i:=j) (by omega);have h2:B*(val (lu.drop (j+1))+1)≤B*V:=Nat.mul_le_mul_left B aA;rw [Nat.mul_add,Nat.mul_one] at h2;omega
 ·have hs:=zay (lu.drop j) (n+1) (by rw [List.length_drop];omega)
  rw [List.drop_drop,hz,Nat.mul_zero,Nat.add_zero,zag] at hs;rw [hs]
  congr 2
  simp [List.getD,List.getElem?_drop]
theorem zdn.next {X V L j n t:Nat} {lu lq ws:List Nat} (h:zdn X V L (j+1) lu lq) (hn:ws.length=n) (hj:j+n<lu.length) (hV:V<B ^ n) (hV0:0<V) (hw:Wf ws) (hjL:j<L)
  (ht:t=val (lu.drop j) / V) (hr:val ws=val (lu.drop j) % V) (htB:t<B):zdn X V L j (mid lu j (ws++[0])) (lq.set j t):=by
 obtain ⟨hz,_,_⟩:=h.window hV hj;obtain ⟨aC,aA,hl,hX,aD⟩:=h;obtain ⟨m1,m2⟩:=zor lu ws j n hn hj hz;refine ⟨zoR aC (hw.append (Wf.cons zaN Wf.nil)),aA.set _ htB,by rw [List.length_set];exact hl,?_,?_⟩
 ·rw [m2,hr,zeL _ _ _ (by omega),ht]
  refine zmb (lo:=val (lu.take j)) ?_;rw [Nat.pow_succ] at hX;rw [hX,zay lu j (by omega)]
 ·rw [m1,hr]
  exact Nat.mod_lt _ hV0
theorem zdn.done {x y F L:Nat} {lu lq:List Nat} (h:zdn (x*F) (y*F) L 0 lu lq) (hy:0<y) (hF:0<F):val lq=x / y∧val lu=x % y*F:=by
 obtain ⟨_,_,_,hX,aA⟩:=h;simp only [List.drop_zero,Nat.pow_zero,Nat.mul_one] at hX aA
 exact zoa hy hF hX aA
end Go.Proofs.YteajibbphcfmeaaGreatDoor
namespace Go.Proofs.YteajibbphcfmeaaGreatDoor
open Go.RowKit
open Flt
end Go.Proofs.YteajibbphcfmeaaGreatDoor
namespace Go.Proofs.YteajibbphcfmeaaGreatDoor
open Go.RowKit
def Grow {α:Type} (f : α→Value) (tS tE:TypeId) (W:World) (B:Nat) (v:Value) (n:Nat) (rows:List (List α)):Prop:=
 rows.length=n∧∃ vs:List Value,W.ownsRow B tS 1 v n vs∧∀ i (h:i<rows.length),∃ u,vs[i]? = some u∧W.ownsRow B tE 1 u rows[i].length (rows[i].map f)
section
variable {α:Type} {f : α→Value} {tS tE:TypeId} {W W':World} {B n:Nat} {v:Value} {rows:List (List α)}
theorem Grow.nil:Grow f tS tE W B (.slice none 0 0) 0 ([]:List (List α)):=
 ⟨rfl,[],⟨rfl,.inl ⟨rfl,rfl⟩⟩,fun i hi=>absurd hi (by simp)⟩
theorem zja {w w':World} {base size n:Nat} {e:TypeId} {v:Value} {xs:List Value} (h:w.ownsRow base e size v n xs) (hb:Below w.heap.size w w'):w'.ownsRow base e size v n xs:=
 h.kept (zc5 hb none) (by cases v.ownBlock<;>simp)
theorem Grow.below (h:Grow f tS tE W B v n rows) (hb:Below W.heap.size W W'):Grow f tS tE W' B v n rows:=by
 obtain ⟨hl,vs,ho,hv⟩:=h;exact ⟨hl,vs,zja ho hb,fun i hi=>by
  obtain ⟨u,h1,h2⟩:=hv i hi;exact ⟨u,h1,zja h2 hb⟩⟩
theorem zhg {w:World} {b1 b2 s1 s2 n1 n2:Nat} {e1 e2:TypeId} {v1 v2:Value} {x1 x2:List Value} (h1:w.ownsRow b1 e1 s1 v1 n1 x1) (h2:w.ownsRow b2 e2 s2 v2 n2 x2) (hne:e1≠e2):v1.ownBlock=none∨v1.ownBlock≠v2.ownBlock:=by
 rcases h1.2 with ⟨rfl,_⟩ | ⟨g,aG,aE,rfl,hb,hg,_⟩
 ·exact .inl rfl
 ·right
  rcases h2.2 with ⟨rfl,_⟩ | ⟨g',aC,aD,rfl,aF,aA,_⟩
  ·simp [Value.ownBlock]
  ·intro e
   have e':g=g':=by simpa [Value.ownBlock] using e
   subst e';rw [hg] at aA;injection aA with aA
   injection aA with _ h3
   exact hne h3
theorem Grow.snoc {v' u:Value} {r:List α} {vs:List Value} (h:rows.length=n) (hown:W.ownsRow B tS 1 v n vs) (hin:∀ i (h:i<rows.length),∃ u,vs[i]? = some u∧W.ownsRow B tE 1 u rows[i].length (rows[i].map f))
  (hu:W.ownsRow B tE 1 u r.length (r.map f)) (ht:tE≠tS) (hg:W.grownBy W' v.ownBlock) (ho':W'.ownsRow B tS 1 v' (n+1) (vs++[u])):Grow f tS tE W' B v' (n+1) (rows++[r]):=by
 refine ⟨by rw [List.length_append,h];rfl,_,ho',fun i hi => ?_⟩;have aA:vs.length=n:=by have:=hown.1;omega
 by_cases hlt:i<rows.length
 ·obtain ⟨u',h1,h2⟩:=hin i hlt
  rw [List.getElem_append_left hlt,List.getElem?_append_left (by omega)];exact ⟨u',h1,h2.kept hg (zhg h2 hown ht)⟩
 ·have e:i=rows.length:=by rw [List.length_append] at hi;simp at hi;omega
  subst e;rw [List.getElem_append_right (Nat.le_refl _),List.getElem?_append_right (by omega)];simp only [h,aA,Nat.sub_self,List.getElem_singleton]
  exact ⟨u,rfl,hu.kept hg (zhg hu hown ht)⟩
end
theorem zl7 (w:World) (B:Nat) (e:TypeId) (hB:B≤w.heap.size):(w.alloc (.cells #[] e)).ownsRow B e 1 (.slice (some ⟨w.heap.size,0,none⟩) 0 0) 0 []:=
 zhl (heap_alloc_new w _) hB (Nat.zero_le _) rfl
end Go.Proofs.YteajibbphcfmeaaGreatDoor
