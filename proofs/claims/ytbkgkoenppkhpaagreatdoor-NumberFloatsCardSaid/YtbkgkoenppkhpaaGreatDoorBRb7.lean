/- Plain facts for the reference's long division: how it is scaled, what a round keeps. -/
import Derived.Test.YtbkgkoenppkhpaaGreatDoorBRb10
namespace Go.Proofs.YtbkgkoenppkhpaaGreatDoor
section
open Go.RowKit Dn
theorem zm0{x y n k F V X:Nat}(hx:(digs x).length=n)(hy:(digs y).length=k+2)(hyx:y≤x)(hFd:F=B/((digs y).getD (k+1) 0+1))(hVd:V=y*F)(hXd:X=x*F) :
  0<F∧F<B∧k+2≤n∧(digs V).length=k+2∧(∀ h:k+1<(digs V).length,B≤2*(digs V)[k+1]+1) ∧
  n≤(digs X).length∧(digs X).length≤n+1∧X<B^(n+1-(k+2))*V∧0<V:=by
 subst hVd hXd;have aC:0<y:=by
  rcases Nat.eq_zero_or_pos y with rfl | h
  ·rw[zal] at hy;simp at hy
  ·exact h
 have h1:=zaG aC;have h2:=zac y;rw[hy] at h1 h2;have e1:(digs y).getD (k+1) 0=y/B^(k+1):=by
  rw[zcP,Nat.mod_eq_of_lt];exact Nat.div_lt_of_lt_mul (by rw[←Nat.pow_succ];exact h2)
 have hP:0<B^(k+1):=Nat.pow_pos zaS;have aH:1≤y/B^(k+1):=(Nat.le_div_iff_mul_le hP).2 (by rw[Nat.one_mul];exact h1);have aI:y/B^(k+1)<B:=by rw[←e1];exact zaH (zaq y) _
 have hF:F=B/(y/B^(k+1)+1):=by rw[←e1];exact hFd
 have aA:0<F:=by rw[hF];exact Nat.div_pos (by omega) (by omega)
 have aD:F<B:=by rw[hF];exact Nat.div_lt_self zaS (by omega)
 obtain⟨s1,s2⟩:=znD (n:=k+1) h2 h1 hF rfl;have aF:0<y*F:=Nat.mul_pos aC aA;have aG:(digs (y*F)).length=k+2:=by
  have h3:=zab s1;have h4:=zaa (Nat.le_mul_of_pos_right y aA);omega
 have aE:0<x:=Nat.lt_of_lt_of_le aC hyx;have h5:=zaG aE;have h6:=zac x;rw[hx] at h5 h6;have hn:k+2≤n:=by rw[←hx,←hy];exact zaa hyx
 refine⟨aA,aD,hn,aG,?_,?_,?_,?_,aF⟩
 ·intro h
  have e2:(digs (y*F))[k+1]=y*F/B^(k+1):=by
   have h7:=zcP (k+1) (y*F);rw[Dn.getD_in h,Nat.mod_eq_of_lt] at h7
   ·exact h7
   ·exact Nat.div_lt_of_lt_mul (by rw[←Nat.pow_succ];exact s1)
  rw[e2];exact s2
 ·rw[←hx];exact zaa (Nat.le_mul_of_pos_right x aA)
 ·refine zab ?_
  rw[Nat.pow_succ];exact Nat.mul_lt_mul'' h6 aD
 ·rw[←Nat.mul_assoc]
  refine Nat.mul_lt_mul_of_pos_right ?_ aA;have h7:B^(n+1-(k+2))*B^(k+1)≤B^(n+1-(k+2))*y:=Nat.mul_le_mul_left _ h1;rw[←Nat.pow_add,show n+1-(k+2)+(k+1)=n from by omega] at h7;omega
def zd5 (X V L k:Nat) (lu lq:List Nat):Prop:=Wf lu∧Wf lq∧lq.length=L∧X=V*val (lq.drop k)*B^k+val lu∧val (lu.drop k)<V
theorem zd5.start{X V L:Nat}{lu:List Nat}(hw:Wf lu)(hv:val lu=X)(_hV:0<V)(hX:X<B^L*V)(hL:L≤lu.length):zd5 X V L L lu (List.replicate L 0):=by
 refine⟨hw,Wf.replicate _,by simp,?_,?_⟩
 ·rw[List.drop_of_length_le (by simp),val_nil,Nat.mul_zero,Nat.zero_mul,Nat.zero_add,hv]
 ·have hs:=zay lu L hL
  rw[hv] at hs;have h1:B^L*val (lu.drop L)<B^L*V:=by omega
  exact Nat.lt_of_mul_lt_mul_left h1
theorem zd5.window{X V L j n:Nat}{lu lq:List Nat}(h:zd5 X V L (j+1) lu lq)(hV:V<B^n)(hj:j+n<lu.length) :
  val (lu.drop (j+(n+1)))=0∧val (lu.drop j)<B*V∧val (lu.drop j)=val ((lu.drop j).take n)+B^n*lu.getD (j+n) 0:=by
 obtain⟨hw,_,_,_,aA⟩:=h;have hz:=zlM lu j n V aA hV;rw[List.drop_drop] at hz;refine⟨hz,?_,?_⟩
 ·have hd:lu.drop j=lu[j] :: lu.drop (j+1):=List.drop_eq_getElem_cons (by omega)
  rw[hd,val_cons];have h1:=hw.get (i:=j) (by omega);have h2:B*(val (lu.drop (j+1))+1)≤B*V:=Nat.mul_le_mul_left B aA;rw[Nat.mul_add,Nat.mul_one] at h2;omega
 ·have hs:=zay (lu.drop j) (n+1) (by rw[List.length_drop];omega)
  rw[List.drop_drop,hz,Nat.mul_zero,Nat.add_zero,zag] at hs;rw[hs]
  congr 2
  simp[List.getD,List.getElem?_drop]
theorem zd5.next{X V L j n t:Nat}{lu lq ws:List Nat}(h:zd5 X V L (j+1) lu lq)(hn:ws.length=n)(hj:j+n<lu.length)(hV:V<B^n)(hV0:0<V)(hw:Wf ws)(hjL:j<L)
 (ht:t=val (lu.drop j)/V)(hr:val ws=val (lu.drop j)%V)(htB:t<B):zd5 X V L j (mid lu j (ws++[0])) (lq.set j t):=by
 obtain⟨hz,_,_⟩:=h.window hV hj;obtain⟨aC,aA,hl,hX,aD⟩:=h;obtain⟨m1,m2⟩:=zqv lu ws j n hn hj hz;refine⟨zsb aC (hw.append (Wf.cons zaS Wf.nil)),aA.set _ htB,by rw[List.length_set];exact hl,?_,?_⟩
 ·rw[m2,hr,zfx _ _ _ (by omega),ht]
  refine zn5 (lo:=val (lu.take j)) ?_;rw[Nat.pow_succ] at hX;rw[hX,zay lu j (by omega)]
 ·rw[m1,hr]
  exact Nat.mod_lt _ hV0
theorem zd5.done{x y F L:Nat}{lu lq:List Nat}(h:zd5 (x*F) (y*F) L 0 lu lq)(hy:0<y)(hF:0<F):val lq=x/y∧val lu=x%y*F:=by
 obtain⟨_,_,_,hX,aA⟩:=h;simp only[List.drop_zero,Nat.pow_zero,Nat.mul_one] at hX aA
 exact zql hy hF hX aA
end
section
open Go.RowKit
section
variable {α:Type} {f : α→Value} {tS tE:TypeId} {W W':World} {B n:Nat} {v:Value} {rows:List (List α)}
end
theorem znl(w:World)(B:Nat)(e:TypeId)(hB:B≤w.heap.size):(w.alloc (.cells #[] e)).ownsRow B e 1 (.slice (some ⟨w.heap.size,0,none⟩) 0 0) 0 []:=
 zi1 (heap_alloc_new w _) hB (Nat.zero_le _) rfl
end
section
open Go.RowKit Dn
theorem RowI.store {w:World} {base g g' n c:Nat} {l:List Nat} (h:RowI w base g n c l) (hne:g'≠g) (i:Nat) (u:Value):RowI (w.setCell ⟨g',i,none⟩ u) base g n c l:=
 h.kept (zbf (World.grownBy.refl w _) (.inl rfl) u) (fun e=>by injection e with e;exact hne e)
theorem zhE {w:World} {base g n c j i:Nat} {L ws:List Value} (h:w.ownsRow base 3 1 (.slice (some ⟨g,0,none⟩) n c) n (mid L j ws)) (hi:ws.length=i) (hj:j+i<L.length) :
  w.cell? ⟨g,i+j,none⟩=L[j+i]? ∧ ∀ u:Value,(w.setCell ⟨g,i+j,none⟩ u).ownsRow base 3 1 (.slice (some ⟨g,0,none⟩) n c) n (mid L j (ws++[u])):=by
 subst hi;have hl:=h.1;rw[zjp _ _ _ (by omega)] at hl
 constructor
 ·rw[World.ownsRow.cellAt h (ws.length+j) (by omega),Nat.add_comm ws.length j,zqH _ _ _ (by omega)]
 ·intro u
  have h1:=(World.ownsRow.stored h (ws.length+j) u).1;rw[show ws.length+j=j+ws.length from Nat.add_comm _ _,zqV _ _ _ _ hj] at h1;rw[show ws.length+j=j+ws.length from Nat.add_comm _ _];exact h1
theorem zkB{w:World}{base g n c j i:Nat}{L ws:List Value}(h:w.ownsRow base 3 1 (.slice (some ⟨g,0,none⟩) n c) n (mid L j ws))(hi:ws.length=i)(hj:j+i<L.length) :
  w.cell? ⟨g,j+i,none⟩=L[j+i]? ∧ ∀ u:Value,(w.setCell ⟨g,j+i,none⟩ u).ownsRow base 3 1 (.slice (some ⟨g,0,none⟩) n c) n (mid L j (ws++[u])):=by
 have h1:=zhE h hi hj
 rwa [Nat.add_comm i j] at h1
set_option maxHeartbeats 8000000 in
set_option maxRecDepth 100000 in
theorem zmo(A A':Option Addr)(n c n' c' x y k:Nat)(w:World)(ha:DigI w A n c (digs x))(hb:DigI w A' n' c' (digs y))(hk:n'=k+2)(hyx:y≤x)(hn:n≤1048576) :
  Calls Tryz.prog 136 #[.slice A n c,.slice A' n' c'] w (zi9 w x y):=by
 obtain⟨i0,gP,fV,gK,gR⟩:=info_parts zcc;have iP:(digs x).length=n:=ha.len;have gQ:(digs y).length=k+2:=by rw[hb.len];exact hk
 obtain⟨F,hF⟩:∃ F,F=B/((digs y).getD (k+1) 0+1):=⟨_,rfl⟩;obtain⟨V,hV⟩:∃ V,V=y*F:=⟨_,rfl⟩;obtain⟨X,hX⟩:∃ X,X=x*F:=⟨_,rfl⟩;obtain⟨iU,jL,fJ,jO,bX,dH,cU,dN,jR⟩:=zm0 iP gQ hyx hF hV hX;have lM:n'≤1048576:=by omega
 have kR:2≤n':=by omega
 have lV:∃ r:Int,0≤r∧Bn.ncmp x y=r:=⟨Bn.ncmp x y,by rcases Nat.lt_or_ge y x with h | h;(· rw[Bn.ncmp_gt h];decide);(· rw[show x=y from by omega,Bn.ncmp_eq];exact Int.le_refl 0),rfl⟩
 obtain⟨r,nA,hr⟩:=lV;have hc:=zcg A A' n c n' c' x y w ha.rd hb.rd (by omega) (by omega);rw[hr] at hc;have d0:decide (r<0)=false:=by simp;omega
 have d1:((n':Int)==1)=false:=by rw[beq_eq_false_iff_ne];omega
 have HC:=Aa hc;obtain⟨k1,jE⟩:∃ k1,k1=k+1:=⟨_,rfl⟩;have e1:(n':Int)-1=(k1:Int):=by omega
 have cG:F<1000000000:=jL;have HA:=Aa ha;have HB:=Aa hb;have dX:=Aa jO;have lX:=Aa bX;have jY:=Aa (And.intro dH cU);have lA:=Aa dN;have dC:=Aa jR;have iY:=Aa hV;have jB:=Aa hX;have HK:=Aa hk;have iS:=Aa jE;have fG:=Aa iU;have kS:=Aa hF;have mO:=Aa gQ;have mB:2≤n:=by omega
 have jU:0<y:=by
  rcases Nat.eq_zero_or_pos y with h0 | h0
  ·rw[h0,Nat.zero_mul] at hV;omega
  ·exact h0
 have lB:=Aa jU;have kY:=Aa fJ;clear hc hr jO bX dH cU dN jR hV hX hk jE iU hF iP gQ hyx ha hb jU fJ jL;go_enter Tryz.func136,Tryz.ntmps136
 go_wp2_with fail
 refine HC.out.mono ?_;rintro e w1 ⟨rfl,fH⟩;have fA:=HB.out.later fH;have jP:=HA.out.later fH;obtain⟨lJ,jT,rfl,mS,gN⟩:=fA.rd.cellM (k:=k1) (by have:=HK.out;have:=iS.out;omega);have bZ:=zaq y _ (List.getElem_mem jT);have gU:(digs y).getD (k+1) 0=(digs y)[k1]:=by
  have:=iS.out;subst this;exact Dn.getD_in jT
 unfold natv at gN;obtain⟨b1,dK⟩:∃ b1,(digs y)[k1]=b1:=⟨_,rfl⟩;rw[dK] at gN gU bZ;have eF:(1000000000:Int)/((b1:Int)+1)=(F:Int):=by
  rw[kS.out,gU];show _=((1000000000/(b1+1):Nat):Int)
  rw[Int.natCast_ediv];simp
 have jD:b1<1000000000:=bZ;have dz:(((b1:Int)+1)==0)=false:=by rw[beq_eq_false_iff_ne];omega
 have nE:=Aa fA;have nF:=Aa jP;have dZ:Below w1.heap.size w1 (w1.alloc (.cells #[.int .i64 (F:Int)] 3)):=Ac;have iI:=CBlk.new w1 #[.int .i64 (F:Int)] 3 _ rfl;have fX:DigI (w1.alloc (.cells #[.int .i64 (F:Int)] 3)) (some ⟨w1.heap.size,0,none⟩) 1 1 (digs F):=by rw[zbt fG.out cG];exact DigI.one iI cG
 have fU:=Aa (zc3 (some lJ) _ n' c' 1 1 y F _ (fA.later dZ) fX (by omega) (by omega));rw[←iY.out] at fU;clear dK gU bZ fA jP
 go_wp2_with fail
 refine fU.out.mono ?_;rintro e w2 ⟨Av,nv,cv,rfl,hv,fS⟩;have jW:=fX.later fS;have cL:=fH.trans ((dZ.trans (fS.mono dZ.size)).mono fH.size);have iW:=HA.out.later cL;have bU:Hid (nv=n'):=by
  show nv=n'
  rw[←hv.len,dX.out,HK.out]
 have mF:nv≤1048576:=by rw[bU.out];exact lM
 have kP:w2.cell? ⟨w1.heap.size,0,none⟩=some (.int .i64 (F:Int)):=(iI.below fS (by simp)).cell 0;have jS:w1.heap.size<w2.heap.size:=by have:=fS.size;simp at this;omega
 clear fX iI fU dZ gN eF dz;have aW:Below w2.heap.size w2 (w2.alloc (.cells #[] 3)):=Ac;have dO:=znl w2 w2.heap.size 3 (Nat.le_refl _);have iN:=Aa (zc3 A _ n c 1 1 x F _ (iW.later aW) (jW.later aW) (by omega) (by omega));rw[←jB.out] at iN
 go_wp2_with fail
 refine iN.out.mono ?_;rintro e w4 ⟨Ax,nx,cx,rfl,fQ,fW⟩;have aV:=zny dO fW;have aU:=Ad aW fW;have fB:=fQ.len;have gV:n≤nx:=by rw[←fB];exact jY.out.1
 have iH:nx≤n+1:=by rw[←fB];exact jY.out.2
 obtain⟨ax,rfl,_⟩:=fQ.rd.2 (by omega);have lQ:=Aa fQ;have kC:=Aa fB;have cC:=aU.size;clear fB fQ dO aW iN jW iW
 go_wp2_with (at_builtin;refine wpList_append_own _ rfl _ _ 78 rfl w2.heap.size 3 i0 (.int .i64 0) 1 8 Tryz.underlying78 gP fV gK gR rfl (by decide) _ _ _ rfl aV ax nx cx ((digs X).map natv) rfl ?c0 ?c1 ?c2 ?c3 ?c4 ?c5 ?_)
 case c0=>rw[List.length_map,kC.out,Nat.mul_one]
 case c1=>exact zaA.cellsD lQ.out.rd
 case c2=>exact zoP _
 case c3=>unfold maxLen;omega
 case c4=>omega
 case c5=>exact cC
 intro v5 w5 aZ bE _;obtain⟨gu,cu,rfl,mC⟩:=zkE aZ (by omega);have bS:Below w2.heap.size w2 w5:=aU.grown bE cC (fun g hg=>(World.ownsRow.lt aV g hg).1);clear bE aV aU fW cC;obtain⟨M,hM⟩:∃ M,M=n+1:=⟨_,rfl⟩;have eM:(n:Int)+1=(M:Int):=by omega
 have mT:M≤1048577:=by omega
 have HM:=Aa hM;have kU:nx≤M:=by omega
 clear hM iH;go_wp2
 go_loopg [11] M (fun q mG W=>∃ (m g cg:Nat) (ls:List Nat),mG = .slice (some ⟨g,0,none⟩) m cg∧n≤m∧m≤M∧M-m≤q∧RowI W w2.heap.size g m cg ls∧Hid (Wf ls∧val ls=X)∧Below w2.heap.size w2 W)
 case atStart=>exact⟨nx,gu,cu,digs X,rfl,gV,kU,by omega,aZ,⟨zaq X,zak X⟩,bS⟩
 case round=>
  clear bS aZ mC;obtain⟨m,g,cg,ls,rfl,mR,mZ,hq,aQ,dM,aD⟩:=hrel;have gM:=aD.size
  by_cases hm:m<M
  ·have mD:decide (m<M)=true:=by simp;omega
   go_wp2_with (at_builtin;refine wpList_append_own _ rfl _ _ 78 rfl w2.heap.size 3 i0 (.int .i64 0) 1 8 Tryz.underlying78 gP fV gK gR rfl (by decide) _ _ _ rfl (aQ.alloc _) ⟨wr.heap.size,0,none⟩ 1 1 [.int .i64 0] rfl rfl ?c1 ?c2 ?c3 ?c4 ?c5 ?_)
   case c1=>exact cell_one_new _ _ _
   case c2=>intro u hu;simp at hu;subst hu;rfl
   case c3=>unfold maxLen;omega
   case c4=>omega
   case c5=>simp;omega
   intro v' w6 bP bR _;obtain⟨g',c9,rfl,mP⟩:=zkE bP (by omega);have lE:Below w2.heap.size w2 w6:=(aD.alloc gM _).grown bR (by simp;omega) (fun g hg=>(World.ownsRow.lt aQ g hg).1);clear bR;go_wp2
   go_roundg (M-(m+1))
   case measure=>omega
   case rel=>exact⟨m+1,g',c9,ls++[0],rfl,by omega,by omega,Nat.le_refl _,by unfold RowI;rw[List.map_append];exact bP,⟨dM.out.1.append (Wf.cons zaS Wf.nil),by rw[zaQ,dM.out.2];simp⟩,lE⟩
  ·obtain rfl:m=M:=by omega
   have mD:decide (m<m)=false:=by simp
   obtain⟨L,hL⟩:∃ L,L=m-nv:=⟨_,rfl⟩;have fJ:=kY.out;have iV:=HK.out;have kQ:=HM.out;have iL:=bU.out;have eL:(m:Int)-(nv:Int)=(L:Int):=by omega
   have mN:1≤L:=by omega
   have mV:L≤n:=by omega
   have HL:=Aa hL;have lT:2≤nv:=by omega
   have lL:nv≤n:=by omega
   clear hL fJ iV iL kQ
   go_wp2_with (at_make;refine wpList_make_full _ rfl _ _ 78 rfl w2.heap.size 3 i0 (.int .i64 0) 1 Tryz.underlying78 gP fV gK _ _ _ _ L rfl rfl (by omega) (by omega) ?b2 ?b3 gM ?_)
   case b2=>rw[gR];omega
   case b3=>unfold maxLen;omega
   intro w6 bL aM;have aA:=RowI.made bL;have aC:=aQ.kept aM (by simp);have bV:Below w2.heap.size w2 w6:=aD.grown aM gM (fun k h=>by cases h);have cP:g≠wr.heap.size:=by have:=aQ.lt.2;omega
   clear bL aM;generalize kJ:wr.heap.size=gq at *;have bM:=zd5.start (L:=L) dM.out.1 dM.out.2 dC.out (by have:=lA.out;rw[HL.out,bU.out,HK.out,HM.out];exact this) (by rw[aQ.len];have:=HL.out;omega);have jH:=Aa bM;clear bM aD aQ dM kJ;go_wp2
   go_loopg [13] L (fun q mH W=>∃ (kk:Nat) (lu lq:List Nat),kk≤L∧mH = .int .i64 ((kk:Int)-1)∧kk≤q∧RowI W w2.heap.size g m cg lu∧RowI W w2.heap.size gq L L lq∧Hid (zd5 X V L kk lu lq)∧Below w2.heap.size w2 W)
   case atStart=>exact⟨L,ls,_,Nat.le_refl _,by first | rfl | go_num,Nat.le_refl _,aC,aA,jH.out,bV⟩
   case round=>
    clear bV aC aA jH;obtain⟨kk,lu,lq,iV,rfl,hq,aC,aA,aN,aD⟩:=hrel
    by_cases h0:0<kk
    ·obtain⟨j,rfl⟩:∃ j:Nat,kk=j+1:=⟨kk-1,by omega⟩
     have ej:((j+1:Nat):Int)-1=(j:Int):=by omega
     rw[ej];have dD:V<B^(k+2):=by have:=zac V;rwa [dX.out] at this
     have cB:j+(k+2)<lu.length:=by have:=HL.out;have:=bU.out;have:=HK.out;rw[aC.len];omega
     obtain⟨jZ,jV,bN⟩:=aN.out.window dD cB;have iQ:=hv.later aD;have hg:=zlm (some ⟨g,0,none⟩) Av m cg nv cv j k lu (digs V) wr aC.reads iQ.rd aN.out.1 (zaq V) (by rw[bU.out,HK.out]) (by rw[←aC.len];exact cB) (by omega) lX.out jZ (by rw[zak];exact jV);rw[zak] at hg;have HG:=Aa hg;have mE:=Aa bN;have fR:=Aa dD;have mK:=Aa cB;have kG:j+nv<m:=by have:=bU.out;have:=HK.out;have:=aC.len;omega
     clear hg jZ jV bN dD cB iQ ej
     go_wp2_with fail
     refine HG.out.mono ?_;rintro e w7 ⟨⟨t,rfl,jX,iT⟩,qd,rfl⟩;have aT:=aC.drewN qd;have bG:=aA.drewN qd;have bY:=zad aD qd;have kD:=Aa iT;have lU:t<1000000000:=jX;clear aC aA aD iT HG;generalize wr.drewN qd=w7 at *;go_wp2
     go_loopg [15,16] nv (fun q vb vi W=>∃ (ii bb:Nat) (ws:List Nat),ii≤nv∧vi = .int .i64 (ii:Int)∧vb = .int .i64 (bb:Int)∧bb≤1000000000∧nv-ii≤q ∧
      W.ownsRow w2.heap.size 3 1 (.slice (some ⟨g,0,none⟩) m cg) m (mid (lu.map natv) j (ws.map natv))∧RowI W w2.heap.size gq L L lq ∧
      Hid (Wf ws∧ws.length=ii∧val ws+t*val ((digs V).take ii)=val ((lu.drop j).take ii)+B^ii*bb)∧Below w2.heap.size w2 W)
     case atStart=>exact⟨0,0,[],by omega,rfl,rfl,by omega,by omega,by rw[List.map_nil,zol];exact aT,bG,⟨Wf.nil,rfl,by simp⟩,bY⟩
     case round=>
      clear bY bG;obtain⟨ii,bb,ws,mU,rfl,rfl,kH,nG,aE,aA,fI,aD⟩:=hrel;obtain⟨aO,aJ,aR⟩:=fI.out;have cO:lu.length=m:=aT.len;have bF:(lu.map natv).length=m:=by rw[List.length_map];exact cO
      have bB:(ws.map natv).length=ii:=by rw[List.length_map];exact aJ
      by_cases bW:ii<nv
      ·obtain⟨kE,cV,rfl,lR,dP⟩:=(hv.later aD).rd.cellM (k:=ii) bW
       have dJ:=zaq V _ (List.getElem_mem cV);unfold natv at dP;obtain⟨vk,cF⟩:∃ vk,(digs V)[ii]=vk:=⟨_,rfl⟩;rw[cF] at dP dJ;obtain⟨aS,bH⟩:=zhE aE bB (by rw[bF];omega);have cR:j+ii<lu.length:=by omega
       obtain⟨uk,fN⟩:∃ uk,lu[j+ii]=uk:=⟨_,rfl⟩;have iK:=aN.out.1.get cR;rw[fN] at iK;have fF:wr.cell? ⟨g,ii+j,none⟩=some (.int .i64 (uk:Int)):=by
        rw[aS,List.getElem?_map,List.getElem?_eq_getElem cR,fN];rfl
       have fM:=zbG aE (ii+j);have gJ:vk<1000000000:=dJ;have lZ:uk<1000000000:=iK;obtain⟨pv,dG⟩:∃ pv,pv=t*vk:=⟨_,rfl⟩;have lN:pv≤999999999000000000:=by
        rw[dG];exact Nat.le_trans (Nat.mul_le_mul (show t≤999999999 by omega) (show vk≤1000000000 by omega)) (by decide)
       have em:(t:Int)*(vk:Int)=(pv:Int):=by rw[dG];exact(Int.natCast_mul t vk).symm
       obtain⟨pp,jF⟩:∃ pp,pp=pv+bb:=⟨_,rfl⟩;have ep:(pv:Int)+(bb:Int)=(pp:Int):=by omega
       obtain⟨pm,dY⟩:∃ pm,pm=pp%B:=⟨_,rfl⟩;obtain⟨pd,cY⟩:∃ pd,pd=pp/B:=⟨_,rfl⟩;have kL:pp≤999999999000000000+1000000000:=by omega
       have lY:pm<1000000000:=by rw[dY];exact Nat.mod_lt _ zaS
       have mJ:pd≤999999999+1:=by rw[cY];unfold B;omega
       have lG:pd≤999999999:=by
        have h1:pv≤999999999*999999999:=by rw[dG];exact Nat.mul_le_mul (by omega) (by omega)
        rw[cY];unfold B;omega
       have es:(pp:Int)%1000000000=(pm:Int):=by rw[dY];unfold B;omega
       have ed:(pp:Int)/1000000000=(pd:Int):=by rw[cY];unfold B;omega
       obtain⟨m1,m2⟩:=zoT (p:=pp) iK;rw[←dY,←cY] at m1 m2;have lH:ii<(lu.drop j).length:=by rw[List.length_drop];omega
       have cA:=fun (d b':Nat)=>zqX ws (digs V) (lu.drop j) ii t d bb b' aJ cV lH aR
       simp only[List.getElem_drop,cF,fN] at cA
       rw[←dG] at cA;have lF:=Aa cA;have iA:=Aa bH;have jC:=Aa (And.intro aO aJ);have cE:=(zmH aE).1;have iO:pv+bb=pp:=jF.symm;have kF:=Aa iO
       by_cases hneg:uk<pm
       case' pos=>obtain⟨h1,h2⟩:=m2 hneg
       case' neg=>obtain⟨h1,h2⟩:=m1 (by omega)
       case' pos=>obtain⟨dd,dW⟩:∃ dd,dd=uk+B-pm:=⟨_,rfl⟩
       case' neg=>obtain⟨dd,dW⟩:∃ dd,dd=uk-pm:=⟨_,rfl⟩
       case' pos=>obtain⟨b2,bK⟩:∃ b2,b2=pd+1:=⟨_,rfl⟩
       case' neg=>obtain⟨b2,bK⟩:∃ b2,b2=pd:=⟨_,rfl⟩
       case' pos=>obtain⟨z,hz⟩:∃ z:Int,z=(uk:Int)-(pm:Int):=⟨_,rfl⟩
       case' neg=>obtain⟨z,hz⟩:∃ z:Int,z=(dd:Int):=⟨_,rfl⟩
       case' pos=>have kZ:(uk:Int)-(pm:Int)=z:=hz.symm
       case' neg=>have kZ:(uk:Int)-(pm:Int)=z:=by omega
       case' pos=>have dz:decide (z<0)=true:=by simp;omega
       case' neg=>have dz:decide (z<0)=false:=by simp;omega
       case' pos=>have ez:z+1000000000=(dd:Int):=by rw[hz,dW];unfold B;omega
       case' pos=>have eb:(pd:Int)+1=(b2:Int):=by omega
       case' neg=>subst hz
       all_goals
        rw[←dW] at h1 h2;have bO:=lF.out dd b2 (by rw[kF.out,bK];exact h2);have dI:Hid (Wf (ws++[dd])∧(ws++[dd]).length=ii+1∧val (ws++[dd])+t*val ((digs V).take (ii+1))=val ((lu.drop j).take (ii+1))+B^(ii+1)*b2):=
         ⟨jC.out.1.append (Wf.cons h1 Wf.nil),by rw[List.length_append,jC.out.2];rfl,bO⟩
        have kM:=Aa (iA.out (.int .i64 (dd:Int)));have lW:=Aa bK;have gO:b2≤1000000000:=by omega
        clear h1 h2 bO cA bH m1 m2 dW bK jF dY cY dG cF fN aS fI aR aJ aO bF bB cO iO
        first | clear hz | skip
        go_wp2
        go_roundg (nv-(ii+1))
        case measure=>omega
        case rel=>exact⟨ii+1,b2,ws++[dd],by omega,by go_num,by first | rfl | rw[lW.out],gO,Nat.le_refl _,by rw[List.map_append];exact kM.out,aA.store cP _ _,dI.out,aD.setCell cE _⟩
      ·obtain rfl:ii=nv:=by omega
       have aL:ii=k+2:=by rw[bU.out,HK.out]
       have cB:=mK.out;have cR:j+ii<lu.length:=by omega
       obtain⟨ut,cT⟩:∃ ut,lu[j+ii]=ut:=⟨_,rfl⟩;have dV:=aN.out.1.get cR;rw[cT] at dV;have iZ:ut<1000000000:=dV;have gI:lu.getD (j+(k+2)) 0=ut:=by
        rw[←aL,Dn.getD_in cR,cT]
       have bN:=mE.out;rw[gI] at bN;have cH:(digs V).take ii=digs V:=List.take_of_length_le (by rw[dX.out];omega);rw[cH,zak,aL] at aR;have iC:val ws<B^(k+2):=by have:=zbA aO;rw[aJ,aL] at this;exact this
       obtain⟨fL,fE⟩:=zqr aR iC fR.out dC.out (by rw[←bN];exact kD.out);rw[←bN] at fL fE;obtain⟨aS,bH⟩:=zkB aE bB (by rw[bF];omega);have fF:wr.cell? ⟨g,j+ii,none⟩=some (.int .i64 (ut:Int)):=by
        rw[aS,List.getElem?_map,List.getElem?_eq_getElem cR,cT];rfl
       have fM:=zbG aE (j+ii);have cE:=(zmH aE).1;obtain⟨z0,bI⟩:∃ z0:Int,z0=(ut:Int)-(bb:Int):=⟨_,rfl⟩;have ez:(ut:Int)-(bb:Int)=z0:=bI.symm;have aG:=bH (.int .i64 z0);have dB:(wr.setCell ⟨g,j+ii,none⟩ (.int .i64 z0)).cell? ⟨g,j+ii,none⟩=some (.int .i64 z0):=by
        have h9:=World.ownsRow.cellAt aG (j+ii) (by omega);rw[h9,zgq _ _ _ _ (by rw[bF];omega) (by simp[aJ]),List.getElem?_append_right (by rw[bB];exact Nat.le_refl _),bB,Nat.sub_self];rfl
       have aF:=aA.store cP (j+ii) (.int .i64 z0);have aK:=aD.setCell (p:=⟨g,j+ii,none⟩) cE (.int .i64 z0);have dT:=Aa aG;have fT:=Aa aF;have gY:=Aa aK;have cM:=Aa (And.intro aO aJ);have iM:=Aa aL;have mM:=Aa bI
       by_cases hcase:bb≤ut
       ·obtain⟨q1,q2,q3⟩:=fL hcase
        have aX:z0=0:=by omega
        have dz:decide (z0<0)=false:=by simp;omega
        have gL:=aF.cell j (by omega);have lD:=aF.free j;generalize lq.getD j 0=old at gL;have aH:RowI (wr.setCell ⟨g,j+ii,none⟩ (.int .i64 z0)) w2.heap.size g m cg (mid lu j (ws++[0])):=by
         unfold RowI;rw[zmc,List.map_append];have h9:=aG;rw[aX] at h9 ⊢;exact h9
        have gA:=Aa (aH.store (Ne.symm cP) j (.int .i64 (t:Int)));have gZ:=Aa (aF.set j t);have dI:=Aa (aN.out.next aJ (by omega) (by rw[aL];exact fR.out) dC.out aO (by omega) q2 q3 jX);have gD:=Aa (aK.setCell (p:=⟨gq,j,none⟩) aF.lt.1 (.int .i64 (t:Int)));clear q1 q2 q3 fL fE aX bI aR iC bN gI cH cT aS bH aG aF aK aH aL cB fI aO aJ cO bF bB aE aA;go_wp2
        go_roundg j
        case measure=>omega
        case rel=>exact⟨j,_,_,by omega,rfl,Nat.le_refl _,gA.out,gZ.out,dI.out,gD.out⟩
       ·obtain⟨q1,q2,q3⟩:=fE (by omega)
        have aX:z0 = -1:=by omega
        have dz:decide (z0<0)=true:=by simp;omega
        obtain⟨t1,iB⟩:∃ t1,t1=val (lu.drop j)/V:=⟨_,rfl⟩;rw[←iB] at q2;have et:(t:Int)-1=(t1:Int):=by omega
        have dU:t1<B:=by omega
        have jN:t1<1000000000:=dU;obtain⟨L2,aP⟩:∃ L2,L2=mid (lu.map natv) j (ws.map natv++[Value.int .i64 z0]):=⟨_,rfl⟩;rw[←aP] at aG;have bD:(ws.map natv++[Value.int .i64 z0]).length=ii+1:=by rw[List.length_append,bB];rfl
        have dF:L2.length=m:=by rw[aP,zjp _ _ _ (by rw[bD,bF];omega),bF]
        have cW:∀ i (h:i<ws.length),L2[j+i]? = some (natv ws[i]):=fun i h=>by
         rw[aP,zgq _ _ _ _ (by rw[bF];omega) (by rw[bD];omega),List.getElem?_append_left (by rw[bB];omega),List.getElem?_map,List.getElem?_eq_getElem h];rfl
        have dR:L2[j+ii]? = some (.int .i64 z0):=by
         rw[aP,zgq _ _ _ _ (by rw[bF];omega) (by rw[bD];omega),List.getElem?_append_right (by rw[bB];exact Nat.le_refl _),bB,Nat.sub_self];rfl
        have dA:∀ aI:List Nat,aI.length=ii→mid L2 j (aI.map natv++[Value.int .i64 0])=(mid lu j (aI++[0])).map natv:=fun aI h=>by
         rw[zmc,List.map_append,aP];exact zqI _ _ _ _ (by rw[bF];omega) (by rw[bD,List.length_append,List.length_map,h];rfl)
        have gG:=Aa cW;have gC:=Aa dR;have hJ:=Aa dA;have mA:=Aa iB;have gS:=Aa aX;have iF:=Aa q3;have mI:=Aa cH;have mL:j+ii<m:=kG;clear q1 q2 q3 fL fE aX bI aR iC bN gI cH cT aS bH aL cB fI aO cO bF bB bD aE aA iB aP cW dR dA dT;have iE:=Aa dB;go_wp2
        clear fF fM;generalize wr.setCell ⟨g,j+ii,none⟩ (.int .i64 z0)=w8 at *
        go_loopg [19,20] ii (fun q vc vi W=>∃ (i2 cc:Nat) (aI:List Nat),i2≤ii∧vi = .int .i64 (i2:Int)∧vc = .int .i64 (cc:Int)∧cc≤1∧ii-i2≤q ∧
         W.ownsRow w2.heap.size 3 1 (.slice (some ⟨g,0,none⟩) m cg) m (mid L2 j (aI.map natv))∧RowI W w2.heap.size gq L L lq ∧
         Hid (Wf aI∧aI.length=i2∧val aI+B^i2*cc=val (ws.take i2)+val ((digs V).take i2))∧Below w2.heap.size w2 W)
        case atStart=>exact⟨0,0,[],by omega,rfl,rfl,by omega,by omega,by rw[List.map_nil,zol];exact aG,aF,⟨Wf.nil,rfl,by simp⟩,aK⟩
        case round=>
         clear aG aF aK dB fT gY iE;obtain⟨i2,cc,aI,mQ,rfl,rfl,mW,mY,aE,aA,cI,aD⟩:=hrel;obtain⟨dQ,bT,cS⟩:=cI.out;have bC:(aI.map natv).length=i2:=by rw[List.length_map];exact bT
         have bQ:=(zmH aE).1
         by_cases hin2:i2<ii
         ·obtain⟨kE,cV,rfl,lR,dP⟩:=(hv.later aD).rd.cellM (k:=i2) hin2
          have dJ:=zaq V _ (List.getElem_mem cV);unfold natv at dP;obtain⟨vk,cF⟩:∃ vk,(digs V)[i2]=vk:=⟨_,rfl⟩;rw[cF] at dP dJ;have aY:i2<ws.length:=by rw[cM.out.2];exact hin2
          obtain⟨wk,fO⟩:∃ wk,ws[i2]=wk:=⟨_,rfl⟩;have jJ:=cM.out.1.get aY;rw[fO] at jJ;have cK:j+i2<L2.length:=by rw[dF];omega
          obtain⟨aS,_⟩:=zhE aE bC cK;have fF:wr.cell? ⟨g,i2+j,none⟩=some (.int .i64 (wk:Int)):=by
           rw[aS,gG.out i2 aY,fO];rfl
          have fM:=zbG aE (i2+j);have gJ:vk<1000000000:=dJ;have lO:wk<1000000000:=jJ;obtain⟨s1,jQ⟩:∃ s1,s1=wk+vk:=⟨_,rfl⟩;obtain⟨tt,jM⟩:∃ tt,tt=s1+cc:=⟨_,rfl⟩;obtain⟨lo,fC⟩:∃ lo,lo=tt%B:=⟨_,rfl⟩;obtain⟨cJ,fP⟩:∃ cJ,cJ=tt/B:=⟨_,rfl⟩;have iD:lo<B:=by rw[fC];exact Nat.mod_lt _ zaS
          have gX:cJ≤1:=by rw[fP];unfold B;omega
          have kW:tt<4000000000:=by omega
          have es:(tt:Int)%1000000000=(lo:Int):=by rw[fC];unfold B;omega
          have ed:(tt:Int)/1000000000=(cJ:Int):=by rw[fP];unfold B;omega
          have cA:=zrr aI ws (digs V) i2 lo cc cJ bT aY cV cS (by rw[fO,cF,fC,fP,Nat.mod_add_div,jM,jQ]);have lI:Hid (Wf (aI++[lo])∧(aI++[lo]).length=i2+1∧val (aI++[lo])+B^(i2+1)*cJ=val (ws.take (i2+1))+val ((digs V).take (i2+1))):=
           ⟨dQ.append (Wf.cons iD Wf.nil),by rw[List.length_append,bT];rfl,cA⟩
          have iA:=Aa (fun q=>(zhE (w:=wr.drewN q) aE bC cK).2 (.int .i64 (lo:Int)));have lS:=Aa (fun q=>(aA.drewN q).store cP (i2+j) (.int .i64 (lo:Int)));have fD:=Aa (fun q=>(zad aD q).setCell (p:=⟨g,i2+j,none⟩) bQ (.int .i64 (lo:Int)));have g1:IntKind.i64.wrap ((i2:Int)+(j:Int))=((i2+j:Nat):Int):=by rw[IntWalk.i64_in _ (by omega)];omega
          have g2:IntKind.i64.wrap ((wk:Int)+(vk:Int))=(s1:Int):=by rw[IntWalk.i64_in _ (by omega)];omega
          have g3:IntKind.i64.wrap ((s1:Int)+(cc:Int))=(tt:Int):=by rw[IntWalk.i64_in _ (by omega)];omega
          have p1:(0:Int)≤((i2+j:Nat):Int):=by omega
          have p2:((i2+j:Nat):Int)<(m:Int):=by omega
          have p3:(0:Int)≤(i2:Int):=by omega
          have p4:(i2:Int)<(ii:Int):=by omega
          clear cF fO jQ jM fC fP aS cA dQ bT cS bC cI cK aA aE;go_upto_region 35 with(fail)
          go_quiet (fail)
          clear g1 g2 g3 p1 p2 p3 p4;go_wp2
          go_roundg (ii-(i2+1))
          case measure=>omega
          case rel=>exact⟨i2+1,cJ,aI++[lo],by omega,by go_num,rfl,gX,Nat.le_refl _,by rw[List.map_append];exact iA.out _,lS.out _,lI.out,fD.out _⟩
         ·obtain rfl:i2=ii:=by omega
          rw[mI.out,zak,List.take_of_length_le (by rw[cM.out.2];exact Nat.le_refl _),iF.out,iM.out] at cS;have kN:val aI<B^(k+2):=by have:=zbA dQ;rw[bT,iM.out] at this;exact this
          have kX:val (lu.drop j)%V<V:=Nat.mod_lt _ dC.out;have kK:=fR.out;have bJ:cc=1∧val aI=val (lu.drop j)%V:=by
           have:cc=0∨cc=1:=by omega
           rcases this with rfl | rfl
           ·rw[Nat.mul_zero] at cS;omega
           ·rw[Nat.mul_one] at cS;exact⟨rfl,by omega⟩
          obtain⟨bJ,cZ⟩:=bJ;obtain⟨aS,bH⟩:=zkB aE bC (by rw[dF];omega);have fF:wr.cell? ⟨g,j+i2,none⟩=some (.int .i64 z0):=by rw[aS,gC.out]
          have fM:=zbG aE (j+i2);have nC:z0+(cc:Int)=0:=by rw[gS.out,bJ];rfl
          have bA:=bH (.int .i64 0);rw[hJ.out aI bT] at bA;have aH:RowI (wr.setCell ⟨g,j+i2,none⟩ (.int .i64 0)) w2.heap.size g m cg (mid lu j (aI++[0])):=bA;have aF:=aA.store cP (j+i2) (.int .i64 0);have aK:=aD.setCell (p:=⟨g,j+i2,none⟩) bQ (.int .i64 0);have gL:=aF.cell j (by omega);have lD:=aF.free j;generalize lq.getD j 0=old at gL;have gA:=Aa (aH.store (Ne.symm cP) j (.int .i64 (t1:Int)));have gZ:=Aa (aF.set j t1);have dI:=Aa (aN.out.next bT (by omega) (by rw[iM.out];exact fR.out) dC.out dQ (by omega) mA.out cZ dU);have gD:=Aa (aK.setCell (p:=⟨gq,j,none⟩) aF.lt.1 (.int .i64 (t1:Int)));clear cS kN kX kK bJ cZ aS bH bA aH aF aK dQ bT bC cI aE aA;go_wp2
          go_roundg j
          case measure=>omega
          case rel=>exact⟨j,_,_,by omega,rfl,Nat.le_refl _,gA.out,gZ.out,dI.out,gD.out⟩
    ·obtain rfl:kk=0:=by omega
     have bW:=aN.out;have iJ:val lu<V:=by have:=bW.2.2.2.2;simpa using this
     have jI:=bW.1;have iR:=bW.2.1;rw[jB.out,iY.out] at bW;obtain⟨jG,gB⟩:=bW.done lB.out fG.out;have dD:V<B^nv:=by have:=zac V;rw[dX.out] at this;rw[bU.out,HK.out];exact this
     have cO:lu.length=m:=aC.len;have cH:val (lu.take nv)=x%y*F:=by
      have hs:=zay lu nv (by omega)
      rcases Nat.eq_zero_or_pos (val (lu.drop nv)) with h9 | h9
      ·rw[h9,Nat.mul_zero,Nat.add_zero] at hs
       rw[←hs,gB]
      ·exfalso
       have:=Nat.le_mul_of_pos_right (B^nv) h9;omega
     have jA:x%y*F<B^nv:=by rw[←gB];omega
     have iG:=aC.caps;have gF:=(aC.reads.take (m:=nv) (by omega));rw[←List.map_take] at gF;have dL:Below wr.heap.size wr wr.drew:=(Below.refl _ _).drew;have ht:=zcM (some ⟨g,0,none⟩) nv cg (lu.take nv) wr.drew ⟨gF,by omega,iG.2,jI.take _⟩ (by omega);rw[cH] at ht;have fZ:=fun (W:World) (hb:Below wr.heap.size wr W)=>zcM (some ⟨gq,0,none⟩) L L lq W ((aA.dig iR).later hb) (by omega)
     simp only[jG] at fZ
     have fK:=(aD.cell (p:=⟨w1.heap.size,0,none⟩) jS).trans kP;have fY:w1.heap.size<wr.heap.size:=Nat.lt_of_lt_of_le jS aD.size;have HT:=Aa ht;have kI:=Aa fZ;have kT:=Aa (zab jA);have nB:(0:Int)≤(nv:Int):=by omega
     have mB:(nv:Int)≤(cg:Int):=by omega
     have lC:Hid (F<B):=cG;have fD:=Aa (cL.trans (aD.mono cL.size));clear ht fZ bW iJ jI iR jG gB dD cO cH jA gF aC aA;go_upto_region 40 with(fail)
     go_region_held3 (fun w'=>w'.cell? ⟨w1.heap.size,0,none⟩=some (.int .i64 (F:Int)))
      (first | exact fK | exact(cQ.cell (p:=⟨w1.heap.size,0,none⟩) fY).trans fK | exact(gW.cell (p:=⟨w1.heap.size,0,none⟩) gT).trans ((cQ.cell (p:=⟨w1.heap.size,0,none⟩) fY).trans fK))
      (first
       |(go_at_call 190;refine HT.out.mono ?_;rintro e w8 ⟨m3,rfl,iX,cQ⟩;have gT:=Nat.lt_of_lt_of_le fY cQ.size)
       |(go_at_call 189;refine(zeU (some ⟨g,0,none⟩) m3 cg F (digs (x%y*F)) w8 iX fG.out lC.out (by have h1:=iX.len;have h2:=kT.out;omega)).mono ?_;rintro e w9 ⟨A9,m9,c9,rfl,gH,gW⟩))
     rw[zak,Nat.mul_div_cancel _ fG.out] at gH;have cN:Below wr.heap.size wr w9:=dL.trans (cQ.trans (gW.mono cQ.size));have gE:=Aa (kI.out w9 cN);have lP:=Aa gH;clear cQ gW fK gH
     go_wp2_with fail
     refine gE.out.mono ?_;rintro e wf ⟨mf,rfl,lK,jK⟩;go_wp2
     go_ret2
     exact⟨_,mf,_,_,m9,c9,rfl,lK,lP.out.later jK,fD.out.trans ((cN.trans (jK.mono cN.size)).mono fD.out.size)⟩
theorem zce(A A':Option Addr)(n c n' c' x y:Nat)(w:World)(ha:DigI w A n c (digs x))(hb:DigI w A' n' c' (digs y))(hy:0<y)(hn:n≤1048576)(hn':n'≤1048576) :
  Calls Tryz.prog 136 #[.slice A n c,.slice A' n' c'] w (zi9 w x y):=by
 rcases Nat.lt_or_ge x y with h | h
 ·exact znN A A' n c n' c' x y w ha hb h hn hn'
 ·have hl:=hb.len
  have hp:=zap hy
  rcases Nat.lt_or_ge y B with h1 | h1
  ·have:n'=1:=by rw[←hl,zbt hy h1];rfl
   subst this;exact zoA A A' n c c' x y w ha hb h hy h1 hn
  ·have h2:2≤n':=by
    rcases Nat.lt_or_ge n' 2 with h3 | h3
    ·exfalso
     have h4:=zac y;rw[hl,show n'=1 from by omega,Nat.pow_one] at h4;omega
    ·exact h3
   exact zmo A A' n c n' c' x y (n'-2) w ha hb (by omega) h hn
end
end Go.Proofs.YtbkgkoenppkhpaaGreatDoor
