/- Contract of the reference's long division: divDigits. -/
import Derived.Test.YtbkgkoenppkhpaaGreatDoorGRb5
import Derived.Deep.RegionHeld3
import Derived.Test.YtbkgkoenppkhpaaGreatDoorGRtx
import Derived.Test.YtbkgkoenppkhpaaGreatDoorGNa1
import Derived.Test.YtbkgkoenppkhpaaGreatDoorGLdx
import Derived.Deep.LoopGhost
import Derived.Test.YtbkgkoenppkhpaaGreatDoorGEx2
import Derived.Test.YtbkgkoenppkhpaaGreatDoorGRead2
import Derived.Laws.Cover2
import Derived.IntWalk
set_option maxRecDepth 100000
set_option maxHeartbeats 8000000
namespace Go.Proofs.YtbkgkoenppkhpaaGreatDoor
section
open Go.RowKit Dn
def zhP (w:World) (x y:Nat) (e:Ending) (w':World):Prop:=
 ∃ A n c A' n' c',e = .returned (.tuple #[.slice A n c,.slice A' n' c'])∧DigI w' A n c (digs (x / y))∧DigI w' A' n' c' (digs (x % y))∧Below w.heap.size w w'
theorem DigI.zero (w:World):DigI w none 0 0 (digs 0):=⟨by rw [zao];exact zaY.none_,Nat.le_refl _,Nat.zero_le _,zap 0⟩
theorem DigI.one {w:World} {g d:Nat} (h:CBlk w g #[.int .i64 (d:Int)] 3) (hd:d<B):DigI w (some ⟨g,0,none⟩) 1 1 [d]:=
 ⟨⟨rfl,fun _=>⟨_,rfl,h.lt,fun j u hu=>by
  have hj:j=0:=by
   rcases j with _ | j
   ·rfl
   ·cases hu
  subst hj;have h0:=h.cell 0;rw [show ((⟨g,0,none⟩:Addr).add 0)=⟨g,0,none⟩ from rfl,h0]
  simpa [natv] using hu⟩⟩,Nat.le_refl _,by unfold maxLen;omega,Wf.cons hd Wf.nil⟩
theorem zbv {d:Nat} (h0:0<d) (hd:d<B):digs d=[d]:=by rw [zbe h0,Nat.mod_eq_of_lt hd,Nat.div_eq_of_lt hd,zao]
theorem zlE (A A':Option Addr) (n c n' c' x y:Nat) (w:World) (ha:DigI w A n c (digs x)) (hb:DigI w A' n' c' (digs y)) (hlt:x<y) (hn:n≤1048576) (hn':n'≤1048576) :
  Calls Tryz.prog 136 #[.slice A n c,.slice A' n' c'] w (zhP w x y):=by
 have hc:=zb5 A A' n c n' c' x y w ha.rd hb.rd (by omega) (by omega);rw [Bn.ncmp_lt hlt] at hc;have HC:=Aa hc;have HR:Hid (∀ w',Below w.heap.size w w'→zhP w x y (.returned (.tuple #[.slice none 0 0,.slice A n c])) w'):=fun w' hb=>⟨none,0,0,A,n,c,rfl,by rw [Nat.div_eq_of_lt hlt];exact DigI.zero _,by rw [Nat.mod_eq_of_lt hlt];exact ha.later hb,hb⟩
 clear hc;go_enter Tryz.func136,Tryz.ntmps136
 go_wp2_with fail
 refine HC.out.mono ?_;rintro e w1 ⟨rfl,aA⟩;go_wp2
 go_ret2
 exact HR.out _ aA
theorem zmN (A A':Option Addr) (n c c' x y:Nat) (w:World) (ha:DigI w A n c (digs x)) (hb:DigI w A' 1 c' (digs y)) (hyx:y≤x) (hy:0<y) (hyB:y<B) (hn:n≤1048576) :
  Calls Tryz.prog 136 #[.slice A n c,.slice A' 1 c'] w (zhP w x y):=by
 have aL:∃ r:Int,0≤r∧Bn.ncmp x y=r:=⟨Bn.ncmp x y,by rcases Nat.lt_or_ge y x with h | h;(· rw [Bn.ncmp_gt h];decide);(· rw [show x=y from by omega,Bn.ncmp_eq];exact Int.le_refl 0),rfl⟩
 obtain ⟨r,aQ,hr⟩:=aL;have hc:=zb5 A A' n c 1 c' x y w ha.rd hb.rd (by omega) (by omega);rw [hr] at hc;have d0:decide (r<0)=false:=by simp;omega
 have HC:=Aa hc;have HA:=Aa ha;have HB:=Aa hb;clear hc hr ha hb;go_enter Tryz.func136,Tryz.ntmps136
 go_wp2_with fail
 refine HC.out.mono ?_;rintro e w1 ⟨rfl,aE⟩;have aI:=HB.out.later aE;rw [zbv hy hyB] at aI;obtain ⟨ad,aR,rfl,aP,aA⟩:=aI.rd.cellM (k:=0) (by omega)
 replace aA:w1.cell? ad=some (.int .i64 (y:Int)):=aA
 have aG:=zes A n c y (digs x) w1 (HA.out.later aE) hy hyB hn;rw [zaj] at aG;have HD:=Aa aG;clear aG aI
 go_wp2_with fail
 refine HD.out.mono ?_;rintro e w2 ⟨A2,m2,c2,rfl,hq,aK⟩;obtain ⟨rm,aD⟩:∃ rm,rm=x % y:=⟨_,rfl⟩;rw [←aD];have aF:rm<B:=by rw [aD];exact Nat.lt_trans (Nat.mod_lt _ hy) hyB
 have hk:=CBlk.new w2 #[.int .i64 (rm:Int)] 3 _ rfl;have aJ:Below w2.heap.size w2 (w2.alloc (.cells #[.int .i64 (rm:Int)] 3)):=Ac;have ht:=zcl _ 1 1 _ _ (DigI.one hk aF) (by omega);rw [zaQ,aD] at ht;have HT:=Aa ht;have aO:=Aa aD;clear ht aD
 go_wp2_with fail
 have hh:=aO.out;subst hh;refine HT.out.mono ?_;rintro e w3 ⟨m3,rfl,aM,aN⟩;have aC:=Ad aJ aN;have aH:=Ad aK aC;go_wp2
 go_ret2
 exact ⟨_,_,_,_,_,_,rfl,hq.later aC,aM,aE.trans (aH.mono aE.size)⟩
theorem zll {x y n k F V X:Nat} (hx:(digs x).length=n) (hy:(digs y).length=k+2) (hyx:y≤x) (hFd:F=B / ((digs y).getD (k+1) 0+1)) (hVd:V=y*F) (hXd:X=x*F) :
  0<F∧F<B∧k+2≤n∧(digs V).length=k+2∧(∀ h:k+1<(digs V).length,B≤2*(digs V)[k+1]+1) ∧
  n≤(digs X).length∧(digs X).length≤n+1∧X<B ^ (n+1 - (k+2))*V∧0<V:=by
 subst hVd hXd;have aC:0<y:=by
  rcases Nat.eq_zero_or_pos y with rfl | h
  ·rw [zao] at hy;simp at hy
  ·exact h
 have h1:=zaz aC;have h2:=zab y;rw [hy] at h1 h2;have e1:(digs y).getD (k+1) 0=y / B ^ (k+1):=by
  rw [zcv,Nat.mod_eq_of_lt];exact Nat.div_lt_of_lt_mul (by rw [←Nat.pow_succ];exact h2)
 have hP:0<B ^ (k+1):=Nat.pow_pos zaO;have aH:1≤y / B ^ (k+1):=(Nat.le_div_iff_mul_le hP).2 (by rw [Nat.one_mul];exact h1);have aI:y / B ^ (k+1)<B:=by rw [←e1];exact zaA (zap y) _
 have hF:F=B / (y / B ^ (k+1)+1):=by rw [←e1];exact hFd
 have aA:0<F:=by rw [hF];exact Nat.div_pos (by omega) (by omega)
 have aD:F<B:=by rw [hF];exact Nat.div_lt_self zaO (by omega)
 obtain ⟨s1,s2⟩:=zma (n:=k+1) h2 h1 hF rfl;have aF:0<y*F:=Nat.mul_pos aC aA;have aE:(digs (y*F)).length=k+2:=by
  have h3:=zad s1;have h4:=zaa (Nat.le_mul_of_pos_right y aA);omega
 have aG:0<x:=Nat.lt_of_lt_of_le aC hyx;have h5:=zaz aG;have h6:=zab x;rw [hx] at h5 h6;have hn:k+2≤n:=by rw [←hx,←hy];exact zaa hyx
 refine ⟨aA,aD,hn,aE,?_,?_,?_,?_,aF⟩
 ·intro h
  have e2:(digs (y*F))[k+1]=y*F / B ^ (k+1):=by
   have h7:=zcv (k+1) (y*F);rw [Dn.getD_in h,Nat.mod_eq_of_lt] at h7
   ·exact h7
   ·exact Nat.div_lt_of_lt_mul (by rw [←Nat.pow_succ];exact s1)
  rw [e2];exact s2
 ·rw [←hx];exact zaa (Nat.le_mul_of_pos_right x aA)
 ·refine zad ?_
  rw [Nat.pow_succ];exact Nat.mul_lt_mul'' h6 aD
 ·rw [←Nat.mul_assoc]
  refine Nat.mul_lt_mul_of_pos_right ?_ aA;have h7:B ^ (n+1 - (k+2))*B ^ (k+1)≤B ^ (n+1 - (k+2))*y:=Nat.mul_le_mul_left _ h1;rw [←Nat.pow_add,show n+1 - (k+2)+(k+1)=n from by omega] at h7;omega
def zdx (X V L k:Nat) (lu lq:List Nat):Prop:=Wf lu∧Wf lq∧lq.length=L∧X=V*val (lq.drop k)*B ^ k+val lu∧val (lu.drop k)<V
theorem zdx.start {X V L:Nat} {lu:List Nat} (hw:Wf lu) (hv:val lu=X) (_hV:0<V) (hX:X<B ^ L*V) (hL:L≤lu.length):zdx X V L L lu (List.replicate L 0):=by
 refine ⟨hw,Wf.replicate _,by simp,?_,?_⟩
 ·rw [List.drop_of_length_le (by simp),val_nil,Nat.mul_zero,Nat.zero_mul,Nat.zero_add,hv]
 ·have hs:=zav lu L hL
  rw [hv] at hs;have h1:B ^ L*val (lu.drop L)<B ^ L*V:=by omega
  exact Nat.lt_of_mul_lt_mul_left h1
theorem zdx.window {X V L j n:Nat} {lu lq:List Nat} (h:zdx X V L (j+1) lu lq) (hV:V<B ^ n) (hj:j+n<lu.length) :
  val (lu.drop (j+(n+1)))=0∧val (lu.drop j)<B*V∧val (lu.drop j)=val ((lu.drop j).take n)+B ^ n*lu.getD (j+n) 0:=by
 obtain ⟨hw,_,_,_,aA⟩:=h;have hz:=zkz lu j n V aA hV;rw [List.drop_drop] at hz;refine ⟨hz,?_,?_⟩
 ·have hd:lu.drop j=lu[j] :: lu.drop (j+1):=List.drop_eq_getElem_cons (by omega)
  rw [hd,val_cons];have h1:=hw.get (i:=j) (by omega);have h2:B*(val (lu.drop (j+1))+1)≤B*V:=Nat.mul_le_mul_left B aA;rw [Nat.mul_add,Nat.mul_one] at h2;omega
 ·have hs:=zav (lu.drop j) (n+1) (by rw [List.length_drop];omega)
  rw [List.drop_drop,hz,Nat.mul_zero,Nat.add_zero,zaf] at hs;rw [hs]
  congr 2
  simp [List.getD,List.getElem?_drop]
theorem zdx.next {X V L j n t:Nat} {lu lq ws:List Nat} (h:zdx X V L (j+1) lu lq) (hn:ws.length=n) (hj:j+n<lu.length) (hV:V<B ^ n) (hV0:0<V) (hw:Wf ws) (hjL:j<L)
  (ht:t=val (lu.drop j) / V) (hr:val ws=val (lu.drop j) % V) (htB:t<B):zdx X V L j (mid lu j (ws++[0])) (lq.set j t):=by
 obtain ⟨hz,_,_⟩:=h.window hV hj;obtain ⟨aC,aA,hl,hX,aD⟩:=h;obtain ⟨m1,m2⟩:=zol lu ws j n hn hj hz;refine ⟨zoY aC (hw.append (Wf.cons zaO Wf.nil)),aA.set _ htB,by rw [List.length_set];exact hl,?_,?_⟩
 ·rw [m2,hr,zfd _ _ _ (by omega),ht]
  refine zmp (lo:=val (lu.take j)) ?_;rw [Nat.pow_succ] at hX;rw [hX,zav lu j (by omega)]
 ·rw [m1,hr]
  exact Nat.mod_lt _ hV0
theorem zdx.done {x y F L:Nat} {lu lq:List Nat} (h:zdx (x*F) (y*F) L 0 lu lq) (hy:0<y) (hF:0<F):val lq=x / y∧val lu=x % y*F:=by
 obtain ⟨_,_,_,hX,aA⟩:=h;simp only [List.drop_zero,Nat.pow_zero,Nat.mul_one] at hX aA
 exact zoz hy hF hX aA
end
section
open Go.RowKit
section
variable {α:Type} {f : α→Value} {tS tE:TypeId} {W W':World} {B n:Nat} {v:Value} {rows:List (List α)}
end
theorem zlN (w:World) (B:Nat) (e:TypeId) (hB:B≤w.heap.size):(w.alloc (.cells #[] e)).ownsRow B e 1 (.slice (some ⟨w.heap.size,0,none⟩) 0 0) 0 []:=
 zfe (heap_alloc_new w _) hB (Nat.zero_le _) rfl
end
section
open Go.RowKit Dn
theorem RowI.store {w:World} {base g g' n c:Nat} {l:List Nat} (h:RowI w base g n c l) (hne:g'≠g) (i:Nat) (u:Value):RowI (w.setCell ⟨g',i,none⟩ u) base g n c l:=
 h.kept (za8 (World.grownBy.refl w _) (.inl rfl) u) (fun e=>by injection e with e;exact hne e)
theorem zhg {w:World} {base g n c j i:Nat} {L ws:List Value} (h:w.ownsRow base 3 1 (.slice (some ⟨g,0,none⟩) n c) n (mid L j ws)) (hi:ws.length=i) (hj:j+i<L.length) :
  w.cell? ⟨g,i+j,none⟩=L[j+i]? ∧ ∀ u:Value,(w.setCell ⟨g,i+j,none⟩ u).ownsRow base 3 1 (.slice (some ⟨g,0,none⟩) n c) n (mid L j (ws++[u])):=by
 subst hi;have hl:=h.1;rw [ziW _ _ _ (by omega)] at hl
 constructor
 ·rw [World.ownsRow.cellAt h (ws.length+j) (by omega),Nat.add_comm ws.length j,zon _ _ _ (by omega)]
 ·intro u
  have h1:=(World.ownsRow.stored h (ws.length+j) u).1;rw [show ws.length+j=j+ws.length from Nat.add_comm _ _,zn2 _ _ _ _ hj] at h1;rw [show ws.length+j=j+ws.length from Nat.add_comm _ _];exact h1
theorem zjo {w:World} {base g n c j i:Nat} {L ws:List Value} (h:w.ownsRow base 3 1 (.slice (some ⟨g,0,none⟩) n c) n (mid L j ws)) (hi:ws.length=i) (hj:j+i<L.length) :
  w.cell? ⟨g,j+i,none⟩=L[j+i]? ∧ ∀ u:Value,(w.setCell ⟨g,j+i,none⟩ u).ownsRow base 3 1 (.slice (some ⟨g,0,none⟩) n c) n (mid L j (ws++[u])):=by
 have h1:=zhg h hi hj
 rwa [Nat.add_comm i j] at h1
theorem zkY (A A':Option Addr) (n c n' c' x y k:Nat) (w:World) (ha:DigI w A n c (digs x)) (hb:DigI w A' n' c' (digs y)) (hk:n'=k+2) (hyx:y≤x) (hn:n≤1048576) :
  Calls Tryz.prog 136 #[.slice A n c,.slice A' n' c'] w (zhP w x y):=by
 obtain ⟨i0,gN,gZ,gT,fY⟩:=info_parts zdk;have iX:(digs x).length=n:=ha.len;have iG:(digs y).length=k+2:=by rw [hb.len];exact hk
 obtain ⟨F,hF⟩:∃ F,F=B / ((digs y).getD (k+1) 0+1):=⟨_,rfl⟩;obtain ⟨V,hV⟩:∃ V,V=y*F:=⟨_,rfl⟩;obtain ⟨X,hX⟩:∃ X,X=x*F:=⟨_,rfl⟩;obtain ⟨iS,jF,fJ,jP,bP,dQ,dT,dA,jM⟩:=zll iX iG hyx hF hV hX;have lV:n'≤1048576:=by omega
 have kZ:2≤n':=by omega
 have mI:∃ r:Int,0≤r∧Bn.ncmp x y=r:=⟨Bn.ncmp x y,by rcases Nat.lt_or_ge y x with h | h;(· rw [Bn.ncmp_gt h];decide);(· rw [show x=y from by omega,Bn.ncmp_eq];exact Int.le_refl 0),rfl⟩
 obtain ⟨r,mY,hr⟩:=mI;have hc:=zb5 A A' n c n' c' x y w ha.rd hb.rd (by omega) (by omega);rw [hr] at hc;have d0:decide (r<0)=false:=by simp;omega
 have d1:((n':Int)==1)=false:=by rw [beq_eq_false_iff_ne];omega
 have HC:=Aa hc;obtain ⟨k1,jO⟩:∃ k1,k1=k+1:=⟨_,rfl⟩;have e1:(n':Int) - 1=(k1:Int):=by omega
 have cL:F<1000000000:=jF;have HA:=Aa ha;have HB:=Aa hb;have dY:=Aa jP;have lN:=Aa bP;have iV:=Aa (And.intro dQ dT);have lM:=Aa dA;have dH:=Aa jM;have jB:=Aa hV;have jC:=Aa hX;have HK:=Aa hk;have jH:=Aa jO;have dW:=Aa iS;have lA:=Aa hF;have mQ:=Aa iG;have kY:2≤n:=by omega
 have jI:0<y:=by
  rcases Nat.eq_zero_or_pos y with h0 | h0
  ·rw [h0,Nat.zero_mul] at hV;omega
  ·exact h0
 have lZ:=Aa jI;have kH:=Aa fJ;clear hc hr jP bP dQ dT dA jM hV hX hk jO iS hF iX iG hyx ha hb jI fJ jF;go_enter Tryz.func136,Tryz.ntmps136
 go_wp2_with fail
 refine HC.out.mono ?_;rintro e w1 ⟨rfl,fN⟩;have fD:=HB.out.later fN;have iO:=HA.out.later fN;obtain ⟨kU,jA,rfl,mN,gU⟩:=fD.rd.cellM (k:=k1) (by have:=HK.out;have:=jH.out;omega);have cJ:=zap y _ (List.getElem_mem jA);have iD:(digs y).getD (k+1) 0=(digs y)[k1]:=by
  have:=jH.out;subst this;exact Dn.getD_in jA
 unfold natv at gU;obtain ⟨b1,cV⟩:∃ b1,(digs y)[k1]=b1:=⟨_,rfl⟩;rw [cV] at gU iD cJ;have eF:(1000000000:Int) / ((b1:Int)+1)=(F:Int):=by
  rw [lA.out,iD];show _=((1000000000 / (b1+1):Nat):Int)
  rw [Int.natCast_ediv];simp
 have jQ:b1<1000000000:=cJ;have dz:(((b1:Int)+1)==0)=false:=by rw [beq_eq_false_iff_ne];omega
 have mZ:=Aa fD;have mM:=Aa iO;have fG:Below w1.heap.size w1 (w1.alloc (.cells #[.int .i64 (F:Int)] 3)):=Ac;have iK:=CBlk.new w1 #[.int .i64 (F:Int)] 3 _ rfl;have gM:DigI (w1.alloc (.cells #[.int .i64 (F:Int)] 3)) (some ⟨w1.heap.size,0,none⟩) 1 1 (digs F):=by rw [zbv dW.out cL];exact DigI.one iK cL
 have iM:=Aa (zcI (some kU) _ n' c' 1 1 y F _ (fD.later fG) gM (by omega) (by omega));rw [←jB.out] at iM;clear cV iD cJ fD iO
 go_wp2_with fail
 refine iM.out.mono ?_;rintro e w2 ⟨Av,nv,cv,rfl,hv,fA⟩;have iR:=gM.later fA;have cE:=fN.trans ((fG.trans (fA.mono fG.size)).mono fN.size);have jD:=HA.out.later cE;have bL:Hid (nv=n'):=by
  show nv=n'
  rw [←hv.len,dY.out,HK.out]
 have kS:nv≤1048576:=by rw [bL.out];exact lV
 have lS:w2.cell? ⟨w1.heap.size,0,none⟩=some (.int .i64 (F:Int)):=(iK.below fA (by simp)).cell 0;have iW:w1.heap.size<w2.heap.size:=by have:=fA.size;simp at this;omega
 clear gM iK iM fG gU eF dz;have bB:Below w2.heap.size w2 (w2.alloc (.cells #[] 3)):=Ac;have cT:=zlN w2 w2.heap.size 3 (Nat.le_refl _);have fU:=Aa (zcI A _ n c 1 1 x F _ (jD.later bB) (iR.later bB) (by omega) (by omega));rw [←jC.out] at fU
 go_wp2_with fail
 refine fU.out.mono ?_;rintro e w4 ⟨Ax,nx,cx,rfl,fH,gO⟩;have aY:=zmn cT gO;have bC:=Ad bB gO;have fK:=fH.len;have fZ:n≤nx:=by rw [←fK];exact iV.out.1
 have gL:nx≤n+1:=by rw [←fK];exact iV.out.2
 obtain ⟨ax,rfl,_⟩:=fH.rd.2 (by omega);have kR:=Aa fH;have mA:=Aa fK;have cG:=bC.size;clear fK fH cT bB fU iR jD
 go_wp2_with (at_builtin;refine wpList_append_own _ rfl _ _ 78 rfl w2.heap.size 3 i0 (.int .i64 0) 1 8 Tryz.underlying78 gN gZ gT fY rfl (by decide) _ _ _ rfl aY ax nx cx ((digs X).map natv) rfl ?c0 ?c1 ?c2 ?c3 ?c4 ?c5 ?_)
 case c0=>rw [List.length_map,mA.out,Nat.mul_one]
 case c1=>exact zaY.cellsD kR.out.rd
 case c2=>exact znz _
 case c3=>unfold maxLen;omega
 case c4=>omega
 case c5=>exact cG
 intro v5 w5 bA aZ _;obtain ⟨gu,cu,rfl,lK⟩:=zjn bA (by omega);have bU:Below w2.heap.size w2 w5:=bC.grown aZ cG (fun g hg=>(World.ownsRow.lt aY g hg).1);clear aZ aY bC gO cG;obtain ⟨M,hM⟩:∃ M,M=n+1:=⟨_,rfl⟩;have eM:(n:Int)+1=(M:Int):=by omega
 have nB:M≤1048577:=by omega
 have HM:=Aa hM;have kK:nx≤M:=by omega
 clear hM gL;go_wp2
 go_loopg [11] M (fun q kN W=>∃ (m g cg:Nat) (ls:List Nat),kN = .slice (some ⟨g,0,none⟩) m cg∧n≤m∧m≤M∧M - m≤q∧RowI W w2.heap.size g m cg ls∧Hid (Wf ls∧val ls=X)∧Below w2.heap.size w2 W)
 case atStart=>exact ⟨nx,gu,cu,digs X,rfl,fZ,kK,by omega,bA,⟨zap X,zaj X⟩,bU⟩
 case round=>
  clear bU bA lK;obtain ⟨m,g,cg,ls,rfl,mK,nE,hq,aQ,cY,aD⟩:=hrel;have fV:=aD.size
  by_cases hm:m<M
  ·have kB:decide (m<M)=true:=by simp;omega
   go_wp2_with (at_builtin;refine wpList_append_own _ rfl _ _ 78 rfl w2.heap.size 3 i0 (.int .i64 0) 1 8 Tryz.underlying78 gN gZ gT fY rfl (by decide) _ _ _ rfl (aQ.alloc _) ⟨wr.heap.size,0,none⟩ 1 1 [.int .i64 0] rfl rfl ?c1 ?c2 ?c3 ?c4 ?c5 ?_)
   case c1=>exact cell_one_new _ _ _
   case c2=>intro u hu;simp at hu;subst hu;rfl
   case c3=>unfold maxLen;omega
   case c4=>omega
   case c5=>simp;omega
   intro v' w6 bX bY _;obtain ⟨g',c9,rfl,mS⟩:=zjn bX (by omega);have lT:Below w2.heap.size w2 w6:=(aD.alloc fV _).grown bY (by simp;omega) (fun g hg=>(World.ownsRow.lt aQ g hg).1);clear bY;go_wp2
   go_roundg (M - (m+1))
   case measure=>omega
   case rel=>exact ⟨m+1,g',c9,ls++[0],rfl,by omega,by omega,Nat.le_refl _,by unfold RowI;rw [List.map_append];exact bX,⟨cY.out.1.append (Wf.cons zaO Wf.nil),by rw [zaM,cY.out.2];simp⟩,lT⟩
  ·obtain rfl:m=M:=by omega
   have kB:decide (m<m)=false:=by simp
   obtain ⟨L,hL⟩:∃ L,L=m - nv:=⟨_,rfl⟩;have fJ:=kH.out;have jJ:=HK.out;have lJ:=HM.out;have gQ:=bL.out;have eL:(m:Int) - (nv:Int)=(L:Int):=by omega
   have mP:1≤L:=by omega
   have mV:L≤n:=by omega
   have HL:=Aa hL;have mG:2≤nv:=by omega
   have mH:nv≤n:=by omega
   clear hL fJ jJ gQ lJ
   go_wp2_with (at_make;refine wpList_make_full _ rfl _ _ 78 rfl w2.heap.size 3 i0 (.int .i64 0) 1 Tryz.underlying78 gN gZ gT _ _ _ _ L rfl rfl (by omega) (by omega) ?b2 ?b3 fV ?_)
   case b2=>rw [fY];omega
   case b3=>unfold maxLen;omega
   intro w6 bN aO;have aA:=RowI.made bN;have aC:=aQ.kept aO (by simp);have bQ:Below w2.heap.size w2 w6:=aD.grown aO fV (fun k h=>by cases h);have cO:g≠wr.heap.size:=by have:=aQ.lt.2;omega
   clear bN aO;generalize kI:wr.heap.size=gq at *;have bV:=zdx.start (L:=L) cY.out.1 cY.out.2 dH.out (by have:=lM.out;rw [HL.out,bL.out,HK.out,HM.out];exact this) (by rw [aQ.len];have:=HL.out;omega);have jE:=Aa bV;clear bV aD aQ cY kI;go_wp2
   go_loopg [13] L (fun q kQ W=>∃ (kk:Nat) (lu lq:List Nat),kk≤L∧kQ = .int .i64 ((kk:Int) - 1)∧kk≤q∧RowI W w2.heap.size g m cg lu∧RowI W w2.heap.size gq L L lq∧Hid (zdx X V L kk lu lq)∧Below w2.heap.size w2 W)
   case atStart=>exact ⟨L,ls,_,Nat.le_refl _,by first | rfl | go_num,Nat.le_refl _,aC,aA,jE.out,bQ⟩
   case round=>
    clear bQ aC aA jE;obtain ⟨kk,lu,lq,jJ,rfl,hq,aC,aA,aM,aD⟩:=hrel
    by_cases h0:0<kk
    ·obtain ⟨j,rfl⟩:∃ j:Nat,kk=j+1:=⟨kk - 1,by omega⟩
     have ej:((j+1:Nat):Int) - 1=(j:Int):=by omega
     rw [ej];have cU:V<B ^ (k+2):=by have:=zab V;rwa [dY.out] at this
     have cN:j+(k+2)<lu.length:=by have:=HL.out;have:=bL.out;have:=HK.out;rw [aC.len];omega
     obtain ⟨jU,jR,bW⟩:=aM.out.window cU cN;have jS:=hv.later aD;have hg:=zj0 (some ⟨g,0,none⟩) Av m cg nv cv j k lu (digs V) wr aC.reads jS.rd aM.out.1 (zap V) (by rw [bL.out,HK.out]) (by rw [←aC.len];exact cN) (by omega) lN.out jU (by rw [zaj];exact jR);rw [zaj] at hg;have HG:=Aa hg;have kD:=Aa bW;have fQ:=Aa cU;have lB:=Aa cN;have kF:j+nv<m:=by have:=bL.out;have:=HK.out;have:=aC.len;omega
     clear hg jU jR bW cU cN jS ej
     go_wp2_with fail
     refine HG.out.mono ?_;rintro e w7 ⟨⟨t,rfl,jT,iU⟩,qd,rfl⟩;have aV:=aC.drewN qd;have aW:=aA.drewN qd;have bS:=zac aD qd;have kM:=Aa iU;have kP:t<1000000000:=jT;clear aC aA aD iU HG;generalize wr.drewN qd=w7 at *;go_wp2
     go_loopg [15,16] nv (fun q vb vi W=>∃ (ii bb:Nat) (ws:List Nat),ii≤nv∧vi = .int .i64 (ii:Int)∧vb = .int .i64 (bb:Int)∧bb≤1000000000∧nv - ii≤q ∧
      W.ownsRow w2.heap.size 3 1 (.slice (some ⟨g,0,none⟩) m cg) m (mid (lu.map natv) j (ws.map natv))∧RowI W w2.heap.size gq L L lq ∧
      Hid (Wf ws∧ws.length=ii∧val ws+t*val ((digs V).take ii)=val ((lu.drop j).take ii)+B ^ ii*bb)∧Below w2.heap.size w2 W)
     case atStart=>exact ⟨0,0,[],by omega,rfl,rfl,by omega,by omega,by rw [List.map_nil,zl4];exact aV,aW,⟨Wf.nil,rfl,by simp⟩,bS⟩
     case round=>
      clear bS aW;obtain ⟨ii,bb,ws,mU,rfl,rfl,lI,nC,aE,aA,fS,aD⟩:=hrel;obtain ⟨aL,aJ,aP⟩:=fS.out;have cP:lu.length=m:=aV.len;have bE:(lu.map natv).length=m:=by rw [List.length_map];exact cP
      have bF:(ws.map natv).length=ii:=by rw [List.length_map];exact aJ
      by_cases bM:ii<nv
      ·obtain ⟨lH,cW,rfl,kX,dU⟩:=(hv.later aD).rd.cellM (k:=ii) bM
       have dS:=zap V _ (List.getElem_mem cW);unfold natv at dU;obtain ⟨vk,cF⟩:∃ vk,(digs V)[ii]=vk:=⟨_,rfl⟩;rw [cF] at dU dS;obtain ⟨aS,bI⟩:=zhg aE bF (by rw [bE];omega);have cQ:j+ii<lu.length:=by omega
       obtain ⟨uk,fM⟩:∃ uk,lu[j+ii]=uk:=⟨_,rfl⟩;have iC:=aM.out.1.get cQ;rw [fM] at iC;have fL:wr.cell? ⟨g,ii+j,none⟩=some (.int .i64 (uk:Int)):=by
        rw [aS,List.getElem?_map,List.getElem?_eq_getElem cQ,fM];rfl
       have fC:=zfn aE (ii+j);have gJ:vk<1000000000:=dS;have kO:uk<1000000000:=iC;obtain ⟨pv,dJ⟩:∃ pv,pv=t*vk:=⟨_,rfl⟩;have kT:pv≤999999999000000000:=by
        rw [dJ];exact Nat.le_trans (Nat.mul_le_mul (show t≤999999999 by omega) (show vk≤1000000000 by omega)) (by decide)
       have em:(t:Int)*(vk:Int)=(pv:Int):=by rw [dJ];exact (Int.natCast_mul t vk).symm
       obtain ⟨pp,jN⟩:∃ pp,pp=pv+bb:=⟨_,rfl⟩;have ep:(pv:Int)+(bb:Int)=(pp:Int):=by omega
       obtain ⟨pm,fP⟩:∃ pm,pm=pp % B:=⟨_,rfl⟩;obtain ⟨pd,dB⟩:∃ pd,pd=pp / B:=⟨_,rfl⟩;have lC:pp≤999999999000000000+1000000000:=by omega
       have mE:pm<1000000000:=by rw [fP];exact Nat.mod_lt _ zaO
       have lP:pd≤999999999+1:=by rw [dB];unfold B;omega
       have mF:pd≤999999999:=by
        have h1:pv≤999999999*999999999:=by rw [dJ];exact Nat.mul_le_mul (by omega) (by omega)
        rw [dB];unfold B;omega
       have es:(pp:Int) % 1000000000=(pm:Int):=by rw [fP];unfold B;omega
       have ed:(pp:Int) / 1000000000=(pd:Int):=by rw [dB];unfold B;omega
       obtain ⟨m1,m2⟩:=znf (p:=pp) iC;rw [←fP,←dB] at m1 m2;have lU:ii<(lu.drop j).length:=by rw [List.length_drop];omega
       have cI:=fun (d b':Nat)=>zos ws (digs V) (lu.drop j) ii t d bb b' aJ cW lU aP
       simp only [List.getElem_drop,cF,fM] at cI
       rw [←dJ] at cI;have kG:=Aa cI;have iA:=Aa bI;have jX:=Aa (And.intro aL aJ);have cM:=(zlS aE).1;have jV:pv+bb=pp:=jN.symm;have mC:=Aa jV
       by_cases hneg:uk<pm
       case' pos=>obtain ⟨h1,h2⟩:=m2 hneg
       case' neg=>obtain ⟨h1,h2⟩:=m1 (by omega)
       case' pos=>obtain ⟨dd,fF⟩:∃ dd,dd=uk+B - pm:=⟨_,rfl⟩
       case' neg=>obtain ⟨dd,fF⟩:∃ dd,dd=uk - pm:=⟨_,rfl⟩
       case' pos=>obtain ⟨b2,bH⟩:∃ b2,b2=pd+1:=⟨_,rfl⟩
       case' neg=>obtain ⟨b2,bH⟩:∃ b2,b2=pd:=⟨_,rfl⟩
       case' pos=>obtain ⟨z,hz⟩:∃ z:Int,z=(uk:Int) - (pm:Int):=⟨_,rfl⟩
       case' neg=>obtain ⟨z,hz⟩:∃ z:Int,z=(dd:Int):=⟨_,rfl⟩
       case' pos=>have mB:(uk:Int) - (pm:Int)=z:=hz.symm
       case' neg=>have mB:(uk:Int) - (pm:Int)=z:=by omega
       case' pos=>have dz:decide (z<0)=true:=by simp;omega
       case' neg=>have dz:decide (z<0)=false:=by simp;omega
       case' pos=>have ez:z+1000000000=(dd:Int):=by rw [hz,fF];unfold B;omega
       case' pos=>have eb:(pd:Int)+1=(b2:Int):=by omega
       case' neg=>subst hz
       all_goals
        rw [←fF] at h1 h2;have bR:=kG.out dd b2 (by rw [mC.out,bH];exact h2);have cZ:Hid (Wf (ws++[dd])∧(ws++[dd]).length=ii+1∧val (ws++[dd])+t*val ((digs V).take (ii+1))=val ((lu.drop j).take (ii+1))+B ^ (ii+1)*b2):=
         ⟨jX.out.1.append (Wf.cons h1 Wf.nil),by rw [List.length_append,jX.out.2];rfl,bR⟩
        have lE:=Aa (iA.out (.int .i64 (dd:Int)));have lR:=Aa bH;have hJ:b2≤1000000000:=by omega
        clear h1 h2 bR cI bI m1 m2 fF bH jN fP dB dJ cF fM aS fS aP aJ aL bE bF cP jV
        first | clear hz | skip
        go_wp2
        go_roundg (nv - (ii+1))
        case measure=>omega
        case rel=>exact ⟨ii+1,b2,ws++[dd],by omega,by go_num,by first | rfl | rw [lR.out],hJ,Nat.le_refl _,by rw [List.map_append];exact lE.out,aA.store cO _ _,cZ.out,aD.setCell cM _⟩
      ·obtain rfl:ii=nv:=by omega
       have aN:ii=k+2:=by rw [bL.out,HK.out]
       have cN:=lB.out;have cQ:j+ii<lu.length:=by omega
       obtain ⟨ut,dP⟩:∃ ut,lu[j+ii]=ut:=⟨_,rfl⟩;have dL:=aM.out.1.get cQ;rw [dP] at dL;have iZ:ut<1000000000:=dL;have gV:lu.getD (j+(k+2)) 0=ut:=by
        rw [←aN,Dn.getD_in cQ,dP]
       have bW:=kD.out;rw [gV] at bW;have cC:(digs V).take ii=digs V:=List.take_of_length_le (by rw [dY.out];omega);rw [cC,zaj,aN] at aP;have gR:val ws<B ^ (k+2):=by have:=zbm aL;rw [aJ,aN] at this;exact this
       obtain ⟨fE,dZ⟩:=zoq aP gR fQ.out dH.out (by rw [←bW];exact kM.out);rw [←bW] at fE dZ;obtain ⟨aS,bI⟩:=zjo aE bF (by rw [bE];omega);have fL:wr.cell? ⟨g,j+ii,none⟩=some (.int .i64 (ut:Int)):=by
        rw [aS,List.getElem?_map,List.getElem?_eq_getElem cQ,dP];rfl
       have fC:=zfn aE (j+ii);have cM:=(zlS aE).1;obtain ⟨z0,bJ⟩:∃ z0:Int,z0=(ut:Int) - (bb:Int):=⟨_,rfl⟩;have ez:(ut:Int) - (bb:Int)=z0:=bJ.symm;have aH:=bI (.int .i64 z0);have dG:(wr.setCell ⟨g,j+ii,none⟩ (.int .i64 z0)).cell? ⟨g,j+ii,none⟩=some (.int .i64 z0):=by
        have h9:=World.ownsRow.cellAt aH (j+ii) (by omega);rw [h9,zfL _ _ _ _ (by rw [bE];omega) (by simp [aJ]),List.getElem?_append_right (by rw [bF];exact Nat.le_refl _),bF,Nat.sub_self];rfl
       have aF:=aA.store cO (j+ii) (.int .i64 z0);have aK:=aD.setCell (p:=⟨g,j+ii,none⟩) cM (.int .i64 z0);have dR:=Aa aH;have gF:=Aa aF;have iH:=Aa aK;have cB:=Aa (And.intro aL aJ);have gH:=Aa aN;have nA:=Aa bJ
       by_cases hcase:bb≤ut
       ·obtain ⟨q1,q2,q3⟩:=fE hcase
        have bG:z0=0:=by omega
        have dz:decide (z0<0)=false:=by simp;omega
        have iB:=aF.cell j (by omega);have kW:=aF.free j;generalize lq.getD j 0=old at iB;have aG:RowI (wr.setCell ⟨g,j+ii,none⟩ (.int .i64 z0)) w2.heap.size g m cg (mid lu j (ws++[0])):=by
         unfold RowI;rw [zlD,List.map_append];have h9:=aH;rw [bG] at h9 ⊢;exact h9
        have gD:=Aa (aG.store (Ne.symm cO) j (.int .i64 (t:Int)));have iE:=Aa (aF.set j t);have cZ:=Aa (aM.out.next aJ (by omega) (by rw [aN];exact fQ.out) dH.out aL (by omega) q2 q3 jT);have gC:=Aa (aK.setCell (p:=⟨gq,j,none⟩) aF.lt.1 (.int .i64 (t:Int)));clear q1 q2 q3 fE dZ bG bJ aP gR bW gV cC dP aS bI aH aF aK aG aN cN fS aL aJ cP bE bF aE aA;go_wp2
        go_roundg j
        case measure=>omega
        case rel=>exact ⟨j,_,_,by omega,rfl,Nat.le_refl _,gD.out,iE.out,cZ.out,gC.out⟩
       ·obtain ⟨q1,q2,q3⟩:=dZ (by omega)
        have bG:z0 = -1:=by omega
        have dz:decide (z0<0)=true:=by simp;omega
        obtain ⟨t1,gS⟩:∃ t1,t1=val (lu.drop j) / V:=⟨_,rfl⟩;rw [←gS] at q2;have et:(t:Int) - 1=(t1:Int):=by omega
        have dI:t1<B:=by omega
        have iT:t1<1000000000:=dI;obtain ⟨L2,aR⟩:∃ L2,L2=mid (lu.map natv) j (ws.map natv++[Value.int .i64 z0]):=⟨_,rfl⟩;rw [←aR] at aH;have bD:(ws.map natv++[Value.int .i64 z0]).length=ii+1:=by rw [List.length_append,bF];rfl
        have dO:L2.length=m:=by rw [aR,ziW _ _ _ (by rw [bD,bE];omega),bE]
        have dF:∀ i (h:i<ws.length),L2[j+i]? = some (natv ws[i]):=fun i h=>by
         rw [aR,zfL _ _ _ _ (by rw [bE];omega) (by rw [bD];omega),List.getElem?_append_left (by rw [bF];omega),List.getElem?_map,List.getElem?_eq_getElem h];rfl
        have dM:L2[j+ii]? = some (.int .i64 z0):=by
         rw [aR,zfL _ _ _ _ (by rw [bE];omega) (by rw [bD];omega),List.getElem?_append_right (by rw [bF];exact Nat.le_refl _),bF,Nat.sub_self];rfl
        have dN:∀ aI:List Nat,aI.length=ii→mid L2 j (aI.map natv++[Value.int .i64 0])=(mid lu j (aI++[0])).map natv:=fun aI h=>by
         rw [zlD,List.map_append,aR];exact zoH _ _ _ _ (by rw [bE];omega) (by rw [bD,List.length_append,List.length_map,h];rfl)
        have fW:=Aa dF;have gA:=Aa dM;have iL:=Aa dN;have lQ:=Aa gS;have iJ:=Aa bG;have fT:=Aa q3;have lY:=Aa cC;have mT:j+ii<m:=kF;clear q1 q2 q3 fE dZ bG bJ aP gR bW gV cC dP aS bI aN cN fS aL cP bE bF bD aE aA gS aR dF dM dN dR;have iF:=Aa dG;go_wp2
        clear fL fC;generalize wr.setCell ⟨g,j+ii,none⟩ (.int .i64 z0)=w8 at *
        go_loopg [19,20] ii (fun q vc vi W=>∃ (i2 cc:Nat) (aI:List Nat),i2≤ii∧vi = .int .i64 (i2:Int)∧vc = .int .i64 (cc:Int)∧cc≤1∧ii - i2≤q ∧
         W.ownsRow w2.heap.size 3 1 (.slice (some ⟨g,0,none⟩) m cg) m (mid L2 j (aI.map natv))∧RowI W w2.heap.size gq L L lq ∧
         Hid (Wf aI∧aI.length=i2∧val aI+B ^ i2*cc=val (ws.take i2)+val ((digs V).take i2))∧Below w2.heap.size w2 W)
        case atStart=>exact ⟨0,0,[],by omega,rfl,rfl,by omega,by omega,by rw [List.map_nil,zl4];exact aH,aF,⟨Wf.nil,rfl,by simp⟩,aK⟩
        case round=>
         clear aH aF aK dG gF iH iF;obtain ⟨i2,cc,aI,mR,rfl,rfl,mO,nF,aE,aA,bZ,aD⟩:=hrel;obtain ⟨dV,bT,cS⟩:=bZ.out;have aT:(aI.map natv).length=i2:=by rw [List.length_map];exact bT
         have bO:=(zlS aE).1
         by_cases hin2:i2<ii
         ·obtain ⟨lH,cW,rfl,kX,dU⟩:=(hv.later aD).rd.cellM (k:=i2) hin2
          have dS:=zap V _ (List.getElem_mem cW);unfold natv at dU;obtain ⟨vk,cF⟩:∃ vk,(digs V)[i2]=vk:=⟨_,rfl⟩;rw [cF] at dU dS;have aU:i2<ws.length:=by rw [cB.out.2];exact hin2
          obtain ⟨wk,fI⟩:∃ wk,ws[i2]=wk:=⟨_,rfl⟩;have jK:=cB.out.1.get aU;rw [fI] at jK;have cH:j+i2<L2.length:=by rw [dO];omega
          obtain ⟨aS,_⟩:=zhg aE aT cH;have fL:wr.cell? ⟨g,i2+j,none⟩=some (.int .i64 (wk:Int)):=by
           rw [aS,fW.out i2 aU,fI];rfl
          have fC:=zfn aE (i2+j);have gJ:vk<1000000000:=dS;have kJ:wk<1000000000:=jK;obtain ⟨s1,jZ⟩:∃ s1,s1=wk+vk:=⟨_,rfl⟩;obtain ⟨tt,jW⟩:∃ tt,tt=s1+cc:=⟨_,rfl⟩;obtain ⟨lo,fR⟩:∃ lo,lo=tt % B:=⟨_,rfl⟩;obtain ⟨cA,fO⟩:∃ cA,cA=tt / B:=⟨_,rfl⟩;have gP:lo<B:=by rw [fR];exact Nat.mod_lt _ zaO
          have gK:cA≤1:=by rw [fO];unfold B;omega
          have kE:tt<4000000000:=by omega
          have es:(tt:Int) % 1000000000=(lo:Int):=by rw [fR];unfold B;omega
          have ed:(tt:Int) / 1000000000=(cA:Int):=by rw [fO];unfold B;omega
          have cI:=zov aI ws (digs V) i2 lo cc cA bT aU cW cS (by rw [fI,cF,fR,fO,Nat.mod_add_div,jW,jZ]);have mD:Hid (Wf (aI++[lo])∧(aI++[lo]).length=i2+1∧val (aI++[lo])+B ^ (i2+1)*cA=val (ws.take (i2+1))+val ((digs V).take (i2+1))):=
           ⟨dV.append (Wf.cons gP Wf.nil),by rw [List.length_append,bT];rfl,cI⟩
          have iA:=Aa (fun q=>(zhg (w:=wr.drewN q) aE aT cH).2 (.int .i64 (lo:Int)));have lL:=Aa (fun q=>(aA.drewN q).store cO (i2+j) (.int .i64 (lo:Int)));have dX:=Aa (fun q=>(zac aD q).setCell (p:=⟨g,i2+j,none⟩) bO (.int .i64 (lo:Int)));have g1:IntKind.i64.wrap ((i2:Int)+(j:Int))=((i2+j:Nat):Int):=by rw [IntWalk.i64_in _ (by omega)];omega
          have g2:IntKind.i64.wrap ((wk:Int)+(vk:Int))=(s1:Int):=by rw [IntWalk.i64_in _ (by omega)];omega
          have g3:IntKind.i64.wrap ((s1:Int)+(cc:Int))=(tt:Int):=by rw [IntWalk.i64_in _ (by omega)];omega
          have p1:(0:Int)≤((i2+j:Nat):Int):=by omega
          have p2:((i2+j:Nat):Int)<(m:Int):=by omega
          have p3:(0:Int)≤(i2:Int):=by omega
          have p4:(i2:Int)<(ii:Int):=by omega
          clear cF fI jZ jW fR fO aS cI dV bT cS aT bZ cH aA aE;go_upto_region 35 with (fail)
          go_quiet (fail)
          clear g1 g2 g3 p1 p2 p3 p4;go_wp2
          go_roundg (ii - (i2+1))
          case measure=>omega
          case rel=>exact ⟨i2+1,cA,aI++[lo],by omega,by go_num,rfl,gK,Nat.le_refl _,by rw [List.map_append];exact iA.out _,lL.out _,mD.out,dX.out _⟩
         ·obtain rfl:i2=ii:=by omega
          rw [lY.out,zaj,List.take_of_length_le (by rw [cB.out.2];exact Nat.le_refl _),fT.out,gH.out] at cS;have lX:val aI<B ^ (k+2):=by have:=zbm dV;rw [bT,gH.out] at this;exact this
          have lG:val (lu.drop j) % V<V:=Nat.mod_lt _ dH.out;have lF:=fQ.out;have bK:cc=1∧val aI=val (lu.drop j) % V:=by
           have:cc=0∨cc=1:=by omega
           rcases this with rfl | rfl
           ·rw [Nat.mul_zero] at cS;omega
           ·rw [Nat.mul_one] at cS;exact ⟨rfl,by omega⟩
          obtain ⟨bK,dD⟩:=bK;obtain ⟨aS,bI⟩:=zjo aE aT (by rw [dO];omega);have fL:wr.cell? ⟨g,j+i2,none⟩=some (.int .i64 z0):=by rw [aS,gA.out]
          have fC:=zfn aE (j+i2);have mW:z0+(cc:Int)=0:=by rw [iJ.out,bK];rfl
          have aX:=bI (.int .i64 0);rw [iL.out aI bT] at aX;have aG:RowI (wr.setCell ⟨g,j+i2,none⟩ (.int .i64 0)) w2.heap.size g m cg (mid lu j (aI++[0])):=aX;have aF:=aA.store cO (j+i2) (.int .i64 0);have aK:=aD.setCell (p:=⟨g,j+i2,none⟩) bO (.int .i64 0);have iB:=aF.cell j (by omega);have kW:=aF.free j;generalize lq.getD j 0=old at iB;have gD:=Aa (aG.store (Ne.symm cO) j (.int .i64 (t1:Int)));have iE:=Aa (aF.set j t1);have cZ:=Aa (aM.out.next bT (by omega) (by rw [gH.out];exact fQ.out) dH.out dV (by omega) lQ.out dD dI);have gC:=Aa (aK.setCell (p:=⟨gq,j,none⟩) aF.lt.1 (.int .i64 (t1:Int)));clear cS lX lG lF bK dD aS bI aX aG aF aK dV bT aT bZ aE aA;go_wp2
          go_roundg j
          case measure=>omega
          case rel=>exact ⟨j,_,_,by omega,rfl,Nat.le_refl _,gD.out,iE.out,cZ.out,gC.out⟩
    ·obtain rfl:kk=0:=by omega
     have bM:=aM.out;have gW:val lu<V:=by have:=bM.2.2.2.2;simpa using this
     have iY:=bM.1;have iQ:=bM.2.1;rw [jC.out,jB.out] at bM;obtain ⟨jL,gB⟩:=bM.done lZ.out dW.out;have cU:V<B ^ nv:=by have:=zab V;rw [dY.out] at this;rw [bL.out,HK.out];exact this
     have cP:lu.length=m:=aC.len;have cC:val (lu.take nv)=x % y*F:=by
      have hs:=zav lu nv (by omega)
      rcases Nat.eq_zero_or_pos (val (lu.drop nv)) with h9 | h9
      ·rw [h9,Nat.mul_zero,Nat.add_zero] at hs
       rw [←hs,gB]
      ·exfalso
       have:=Nat.le_mul_of_pos_right (B ^ nv) h9;omega
     have iP:x % y*F<B ^ nv:=by rw [←gB];omega
     have gI:=aC.caps;have gG:=(aC.reads.take (m:=nv) (by omega));rw [←List.map_take] at gG;have dK:Below wr.heap.size wr wr.drew:=(Below.refl _ _).drew;have ht:=zcl (some ⟨g,0,none⟩) nv cg (lu.take nv) wr.drew ⟨gG,by omega,gI.2,iY.take _⟩ (by omega);rw [cC] at ht;have gX:=fun (W:World) (hb:Below wr.heap.size wr W)=>zcl (some ⟨gq,0,none⟩) L L lq W ((aA.dig iQ).later hb) (by omega)
     simp only [jL] at gX
     have fB:=(aD.cell (p:=⟨w1.heap.size,0,none⟩) iW).trans lS;have gE:w1.heap.size<wr.heap.size:=Nat.lt_of_lt_of_le iW aD.size;have HT:=Aa ht;have lW:=Aa gX;have lD:=Aa (zad iP);have mL:(0:Int)≤(nv:Int):=by omega
     have kY:(nv:Int)≤(cg:Int):=by omega
     have lO:Hid (F<B):=cL;have dX:=Aa (cE.trans (aD.mono cE.size));clear ht gX bM gW iY iQ jL gB cU cP cC iP gG aC aA;go_upto_region 40 with (fail)
     go_region_held3 (fun w'=>w'.cell? ⟨w1.heap.size,0,none⟩=some (.int .i64 (F:Int)))
      (first | exact fB | exact (cR.cell (p:=⟨w1.heap.size,0,none⟩) gE).trans fB | exact (fX.cell (p:=⟨w1.heap.size,0,none⟩) iI).trans ((cR.cell (p:=⟨w1.heap.size,0,none⟩) gE).trans fB))
      (first
       |(go_at_call 190;refine HT.out.mono ?_;rintro e w8 ⟨m3,rfl,jG,cR⟩;have iI:=Nat.lt_of_lt_of_le gE cR.size)
       |(go_at_call 189;refine (zes (some ⟨g,0,none⟩) m3 cg F (digs (x % y*F)) w8 jG dW.out lO.out (by have h1:=jG.len;have h2:=lD.out;omega)).mono ?_;rintro e w9 ⟨A9,m9,c9,rfl,iN,fX⟩))
     rw [zaj,Nat.mul_div_cancel _ dW.out] at iN;have cK:Below wr.heap.size wr w9:=dK.trans (cR.trans (fX.mono cR.size));have gY:=Aa (lW.out w9 cK);have kC:=Aa iN;clear cR fX fB iN
     go_wp2_with fail
     refine gY.out.mono ?_;rintro e wf ⟨mf,rfl,mJ,jY⟩;go_wp2
     go_ret2
     exact ⟨_,mf,_,_,m9,c9,rfl,mJ,kC.out.later jY,dX.out.trans ((cK.trans (jY.mono cK.size)).mono dX.out.size)⟩
theorem zcJ (A A':Option Addr) (n c n' c' x y:Nat) (w:World) (ha:DigI w A n c (digs x)) (hb:DigI w A' n' c' (digs y)) (hy:0<y) (hn:n≤1048576) (hn':n'≤1048576) :
  Calls Tryz.prog 136 #[.slice A n c,.slice A' n' c'] w (zhP w x y):=by
 rcases Nat.lt_or_ge x y with h | h
 ·exact zlE A A' n c n' c' x y w ha hb h hn hn'
 ·have hl:=hb.len
  have hp:=zar hy
  rcases Nat.lt_or_ge y B with h1 | h1
  ·have:n'=1:=by rw [←hl,zbv hy h1];rfl
   subst this;exact zmN A A' n c c' x y w ha hb h hy h1 hn
  ·have h2:2≤n':=by
    rcases Nat.lt_or_ge n' 2 with h3 | h3
    ·exfalso
     have h4:=zab y;rw [hl,show n'=1 from by omega,Nat.pow_one] at h4;omega
    ·exact h3
   exact zkY A A' n c n' c' x y (n' - 2) w ha hb (by omega) h hn
end
end Go.Proofs.YtbkgkoenppkhpaaGreatDoor
