/- Contract of the reference's long division: divDigits by two digits or more. -/
import Derived.Test.YteajibbphcfmeaaGreatDoorXRb6
import Derived.Test.YteajibbphcfmeaaGreatDoorXDw
import Derived.Deep.RegionHeld3
namespace Go.Proofs.YteajibbphcfmeaaGreatDoor
open Go.RowKit Dn
theorem RowI.store {w:World} {base g g' n c:Nat} {l:List Nat} (h:RowI w base g n c l) (hne:g'≠g) (i:Nat) (u:Value):RowI (w.setCell ⟨g',i,none⟩ u) base g n c l:=
 h.kept (za0 (World.grownBy.refl w _) (.inl rfl) u) (fun e=>by injection e with e;exact hne e)
theorem zgV {w:World} {base g n c j i:Nat} {L ws:List Value} (h:w.ownsRow base 3 1 (.slice (some ⟨g,0,none⟩) n c) n (mid L j ws)) (hi:ws.length=i) (hj:j+i<L.length) :
  w.cell? ⟨g,i+j,none⟩=L[j+i]? ∧ ∀ u:Value,(w.setCell ⟨g,i+j,none⟩ u).ownsRow base 3 1 (.slice (some ⟨g,0,none⟩) n c) n (mid L j (ws++[u])):=by
 subst hi;have hl:=h.1;rw [zhS _ _ _ (by omega)] at hl
 constructor
 ·rw [World.ownsRow.cellAt h (ws.length+j) (by omega),Nat.add_comm ws.length j,zn8 _ _ _ (by omega)]
 ·intro u
  have h1:=(World.ownsRow.stored h (ws.length+j) u).1;rw [show ws.length+j=j+ws.length from Nat.add_comm _ _,zom _ _ _ _ hj] at h1;rw [show ws.length+j=j+ws.length from Nat.add_comm _ _];exact h1
theorem ziH {w:World} {base g n c j i:Nat} {L ws:List Value} (h:w.ownsRow base 3 1 (.slice (some ⟨g,0,none⟩) n c) n (mid L j ws)) (hi:ws.length=i) (hj:j+i<L.length) :
  w.cell? ⟨g,j+i,none⟩=L[j+i]? ∧ ∀ u:Value,(w.setCell ⟨g,j+i,none⟩ u).ownsRow base 3 1 (.slice (some ⟨g,0,none⟩) n c) n (mid L j (ws++[u])):=by
 have h1:=zgV h hi hj
 rwa [Nat.add_comm i j] at h1
set_option maxHeartbeats 8000000 in
set_option maxRecDepth 100000 in
theorem zlP (A A':Option Addr) (n c n' c' x y k:Nat) (w:World) (ha:DigI w A n c (digs x)) (hb:DigI w A' n' c' (digs y)) (hk:n'=k+2) (hyx:y≤x) (hn:n≤1048576) :
  Calls Tryz.prog 121 #[.slice A n c,.slice A' n' c'] w (zhh w x y):=by
 obtain ⟨i0,gN,fZ,gU,iE⟩:=info_parts zb9;have iT:(digs x).length=n:=ha.len;have gT:(digs y).length=k+2:=by rw [hb.len];exact hk
 obtain ⟨F,hF⟩:∃ F,F=B / ((digs y).getD (k+1) 0+1):=⟨_,rfl⟩;obtain ⟨V,hV⟩:∃ V,V=y*F:=⟨_,rfl⟩;obtain ⟨X,hX⟩:∃ X,X=x*F:=⟨_,rfl⟩;obtain ⟨jT,iS,dV,jE,bN,dP,dM,cT,iU⟩:=zkZ iT gT hyx hF hV hX;have lZ:n'≤1048576:=by omega
 have kT:2≤n':=by omega
 have kX:∃ r:Int,0≤r∧Bn.ncmp x y=r:=⟨Bn.ncmp x y,by rcases Nat.lt_or_ge y x with h | h;(· rw [Bn.ncmp_gt h];decide);(· rw [show x=y from by omega,Bn.ncmp_eq];exact Int.le_refl 0),rfl⟩
 obtain ⟨r,mS,hr⟩:=kX;have hc:=zb3 A A' n c n' c' x y w ha.rd hb.rd (by omega) (by omega);rw [hr] at hc;have d0:decide (r<0)=false:=by simp;omega
 have d1:((n':Int)==1)=false:=by rw [beq_eq_false_iff_ne];omega
 have HC:=Lib.hid hc;obtain ⟨k1,jV⟩:∃ k1,k1=k+1:=⟨_,rfl⟩;have e1:(n':Int) - 1=(k1:Int):=by omega
 have cA:F<1000000000:=iS;have HA:=Lib.hid ha;have HB:=Lib.hid hb;have dZ:=Lib.hid jE;have kH:=Lib.hid bN;have iR:=Lib.hid (And.intro dP dM);have mB:=Lib.hid cT;have dG:=Lib.hid iU;have jH:=Lib.hid hV;have jX:=Lib.hid hX;have HK:=Lib.hid hk;have jO:=Lib.hid jV;have dU:=Lib.hid jT;have jZ:=Lib.hid hF;have mR:=Lib.hid gT;have lA:2≤n:=by omega
 have jW:0<y:=by
  rcases Nat.eq_zero_or_pos y with h0 | h0
  ·rw [h0,Nat.zero_mul] at hV;omega
  ·exact h0
 have lH:=Lib.hid jW;have kJ:=Lib.hid dV;clear hc hr jE bN dP dM cT iU hV hX hk jV jT hF iT gT hyx ha hb jW dV iS;go_enter Tryz.func121,Tryz.ntmps121
 go_wp2_with fail
 refine HC.out.mono ?_;rintro e w1 ⟨rfl,fD⟩;have fI:=HB.out.later fD;have jG:=HA.out.later fD;obtain ⟨lK,jK,rfl,mV,fS⟩:=fI.rd.cellM (k:=k1) (by have:=HK.out;have:=jO.out;omega);have cN:=zaq y _ (List.getElem_mem jK);have fW:(digs y).getD (k+1) 0=(digs y)[k1]:=by
  have:=jO.out;subst this;exact Dn.getD_in jK
 unfold natv at fS;obtain ⟨b1,dI⟩:∃ b1,(digs y)[k1]=b1:=⟨_,rfl⟩;rw [dI] at fS fW cN;have eF:(1000000000:Int) / ((b1:Int)+1)=(F:Int):=by
  rw [jZ.out,fW];show _=((1000000000 / (b1+1):Nat):Int)
  rw [Int.natCast_ediv];simp
 have jB:b1<1000000000:=cN;have dz:(((b1:Int)+1)==0)=false:=by rw [beq_eq_false_iff_ne];omega
 have mQ:=Lib.hid fI;have mP:=Lib.hid jG;have dW:Below w1.heap.size w1 (w1.alloc (.cells #[.int .i64 (F:Int)] 3)):=(Below.refl _ _).alloc (Nat.le_refl _) _;have gO:=CBlk.new w1 #[.int .i64 (F:Int)] 3 _ rfl;have gC:DigI (w1.alloc (.cells #[.int .i64 (F:Int)] 3)) (some ⟨w1.heap.size,0,none⟩) 1 1 (digs F):=by rw [za9 dU.out cA];exact DigI.one gO cA
 have fR:=Lib.hid (zcI (some lK) _ n' c' 1 1 y F _ (fI.later dW) gC (by omega) (by omega));rw [←jH.out] at fR;clear dI fW cN fI jG
 go_wp2_with fail
 refine fR.out.mono ?_;rintro e w2 ⟨Av,nv,cv,rfl,hv,dY⟩;have jJ:=gC.later dY;have cH:=fD.trans ((dW.trans (dY.mono dW.size)).mono fD.size);have iP:=HA.out.later cH;have bP:Hid (nv=n'):=by
  show nv=n'
  rw [←hv.len,dZ.out,HK.out]
 have kP:nv≤1048576:=by rw [bP.out];exact lZ
 have kQ:w2.cell? ⟨w1.heap.size,0,none⟩=some (.int .i64 (F:Int)):=(gO.below dY (by simp)).cell 0;have jN:w1.heap.size<w2.heap.size:=by have:=dY.size;simp at this;omega
 clear gC gO fR dW fS eF dz;have bG:Below w2.heap.size w2 (w2.alloc (.cells #[] 3)):=(Below.refl _ _).alloc (Nat.le_refl _) _;have dJ:=zl7 w2 w2.heap.size 3 (Nat.le_refl _);have fX:=Lib.hid (zcI A _ n c 1 1 x F _ (iP.later bG) (jJ.later bG) (by omega) (by omega));rw [←jX.out] at fX
 go_wp2_with fail
 refine fX.out.mono ?_;rintro e w4 ⟨Ax,nx,cx,rfl,fB,hJ⟩;have aX:=zk9 dJ hJ;have aZ:=bG.trans (hJ.mono bG.size);have fL:=fB.len;have iD:n≤nx:=by rw [←fL];exact iR.out.1
 have gA:nx≤n+1:=by rw [←fL];exact iR.out.2
 obtain ⟨ax,rfl,_⟩:=fB.rd.2 (by omega);have lW:=Lib.hid fB;have lT:=Lib.hid fL;have cG:=aZ.size;clear fL fB dJ bG fX jJ iP
 go_wp2_with (at_builtin;refine wpList_append_own _ rfl _ _ 45 rfl w2.heap.size 3 i0 (.int .i64 0) 1 8 Tryz.underlying45 gN fZ gU iE rfl (by decide) _ _ _ rfl aX ax nx cx ((digs X).map natv) rfl ?c0 ?c1 ?c2 ?c3 ?c4 ?c5 ?_)
 case c0=>rw [List.length_map,lT.out,Nat.mul_one]
 case c1=>exact zav.cellsD lW.out.rd
 case c2=>exact zmC _
 case c3=>unfold maxLen;omega
 case c4=>omega
 case c5=>exact cG
 intro v5 w5 bA bF _;obtain ⟨gu,cu,rfl,kK⟩:=ziF bA (by omega);have bO:Below w2.heap.size w2 w5:=aZ.grown bF cG (fun g hg=>(World.ownsRow.lt aX g hg).1);clear bF aX aZ hJ cG;obtain ⟨M,hM⟩:∃ M,M=n+1:=⟨_,rfl⟩;have eM:(n:Int)+1=(M:Int):=by omega
 have mO:M≤1048577:=by omega
 have HM:=Lib.hid hM;have kG:nx≤M:=by omega
 clear hM gA;go_wp2
 go_loopg [11] M (fun q mE W=>∃ (m g cg:Nat) (ls:List Nat),mE = .slice (some ⟨g,0,none⟩) m cg∧n≤m∧m≤M∧M - m≤q∧RowI W w2.heap.size g m cg ls∧Hid (Wf ls∧val ls=X)∧Below w2.heap.size w2 W)
 case atStart=>exact ⟨nx,gu,cu,digs X,rfl,iD,kG,by omega,bA,⟨zaq X,zak X⟩,bO⟩
 case round=>
  clear bO bA kK;obtain ⟨m,g,cg,ls,rfl,mK,nB,hq,aR,dR,aD⟩:=hrel;have gD:=aD.size
  by_cases hm:m<M
  ·have lS:decide (m<M)=true:=by simp;omega
   go_wp2_with (at_builtin;refine wpList_append_own _ rfl _ _ 45 rfl w2.heap.size 3 i0 (.int .i64 0) 1 8 Tryz.underlying45 gN fZ gU iE rfl (by decide) _ _ _ rfl (aR.alloc _) ⟨wr.heap.size,0,none⟩ 1 1 [.int .i64 0] rfl rfl ?c1 ?c2 ?c3 ?c4 ?c5 ?_)
   case c1=>exact cell_one_new _ _ _
   case c2=>intro u hu;simp at hu;subst hu;rfl
   case c3=>unfold maxLen;omega
   case c4=>omega
   case c5=>simp;omega
   intro v' w6 bX bL _;obtain ⟨g',c9,rfl,nA⟩:=ziF bX (by omega);have kI:Below w2.heap.size w2 w6:=(aD.alloc gD _).grown bL (by simp;omega) (fun g hg=>(World.ownsRow.lt aR g hg).1);clear bL;go_wp2
   go_roundg (M - (m+1))
   case measure=>omega
   case rel=>exact ⟨m+1,g',c9,ls++[0],rfl,by omega,by omega,Nat.le_refl _,by unfold RowI;rw [List.map_append];exact bX,⟨dR.out.1.append (Wf.cons zaN Wf.nil),by rw [zaL,dR.out.2];simp⟩,kI⟩
  ·obtain rfl:m=M:=by omega
   have lS:decide (m<m)=false:=by simp
   obtain ⟨L,hL⟩:∃ L,L=m - nv:=⟨_,rfl⟩;have dV:=kJ.out;have jL:=HK.out;have kZ:=HM.out;have iB:=bP.out;have eL:(m:Int) - (nv:Int)=(L:Int):=by omega
   have mN:1≤L:=by omega
   have mU:L≤n:=by omega
   have HL:=Lib.hid hL;have kN:2≤nv:=by omega
   have lX:nv≤n:=by omega
   clear hL dV jL iB kZ
   go_wp2_with (at_make;refine wpList_make_full _ rfl _ _ 45 rfl w2.heap.size 3 i0 (.int .i64 0) 1 Tryz.underlying45 gN fZ gU _ _ _ _ L rfl rfl (by omega) (by omega) ?b2 ?b3 gD ?_)
   case b2=>rw [iE];omega
   case b3=>unfold maxLen;omega
   intro w6 bT aN;have aA:=RowI.made bT;have aC:=aR.kept aN (by simp);have bM:Below w2.heap.size w2 w6:=aD.grown aN gD (fun k h=>by cases h);have cR:g≠wr.heap.size:=by have:=aR.lt.2;omega
   clear bT aN;generalize kC:wr.heap.size=gq at *;have bY:=zdn.start (L:=L) dR.out.1 dR.out.2 dG.out (by have:=mB.out;rw [HL.out,bP.out,HK.out,HM.out];exact this) (by rw [aR.len];have:=HL.out;omega);have jQ:=Lib.hid bY;clear bY aD aR dR kC;go_wp2
   go_loopg [13] L (fun q mA W=>∃ (kk:Nat) (lu lq:List Nat),kk≤L∧mA = .int .i64 ((kk:Int) - 1)∧kk≤q∧RowI W w2.heap.size g m cg lu∧RowI W w2.heap.size gq L L lq∧Hid (zdn X V L kk lu lq)∧Below w2.heap.size w2 W)
   case atStart=>exact ⟨L,ls,_,Nat.le_refl _,by first | rfl | go_num,Nat.le_refl _,aC,aA,jQ.out,bM⟩
   case round=>
    clear bM aC aA jQ;obtain ⟨kk,lu,lq,jL,rfl,hq,aC,aA,aM,aD⟩:=hrel
    by_cases h0:0<kk
    ·obtain ⟨j,rfl⟩:∃ j:Nat,kk=j+1:=⟨kk - 1,by omega⟩
     have ej:((j+1:Nat):Int) - 1=(j:Int):=by omega
     rw [ej];have dO:V<B ^ (k+2):=by have:=zac V;rwa [dZ.out] at this
     have cM:j+(k+2)<lu.length:=by have:=HL.out;have:=bP.out;have:=HK.out;rw [aC.len];omega
     obtain ⟨iN,iZ,bW⟩:=aM.out.window dO cM;have iW:=hv.later aD;have hg:=zjy (some ⟨g,0,none⟩) Av m cg nv cv j k lu (digs V) wr aC.reads iW.rd aM.out.1 (zaq V) (by rw [bP.out,HK.out]) (by rw [←aC.len];exact cM) (by omega) kH.out iN (by rw [zak];exact iZ);rw [zak] at hg;have HG:=Lib.hid hg;have lB:=Lib.hid bW;have fQ:=Lib.hid dO;have kL:=Lib.hid cM;have lV:j+nv<m:=by have:=bP.out;have:=HK.out;have:=aC.len;omega
     clear hg iN iZ bW dO cM iW ej
     go_wp2_with fail
     refine HG.out.mono ?_;rintro e w7 ⟨⟨t,rfl,jP,jC⟩,qd,rfl⟩;have aW:=aC.drewN qd;have bB:=aA.drewN qd;have bQ:=zad aD qd;have mF:=Lib.hid jC;have mD:t<1000000000:=jP;clear aC aA aD jC HG;generalize wr.drewN qd=w7 at *;go_wp2
     go_loopg [15,16] nv (fun q vb vi W=>∃ (ii bb:Nat) (ws:List Nat),ii≤nv∧vi = .int .i64 (ii:Int)∧vb = .int .i64 (bb:Int)∧bb≤1000000000∧nv - ii≤q ∧
      W.ownsRow w2.heap.size 3 1 (.slice (some ⟨g,0,none⟩) m cg) m (mid (lu.map natv) j (ws.map natv))∧RowI W w2.heap.size gq L L lq ∧
      Hid (Wf ws∧ws.length=ii∧val ws+t*val ((digs V).take ii)=val ((lu.drop j).take ii)+B ^ ii*bb)∧Below w2.heap.size w2 W)
     case atStart=>exact ⟨0,0,[],by omega,rfl,rfl,by omega,by omega,by rw [List.map_nil,zlB];exact aW,bB,⟨Wf.nil,rfl,by simp⟩,bQ⟩
     case round=>
      clear bQ bB;obtain ⟨ii,bb,ws,mJ,rfl,rfl,lY,mT,aE,aA,fE,aD⟩:=hrel;obtain ⟨aO,aJ,aP⟩:=fE.out;have cQ:lu.length=m:=aW.len;have bE:(lu.map natv).length=m:=by rw [List.length_map];exact cQ
      have aY:(ws.map natv).length=ii:=by rw [List.length_map];exact aJ
      by_cases bU:ii<nv
      ·obtain ⟨lE,dK,rfl,kY,cU⟩:=(hv.later aD).rd.cellM (k:=ii) bU
       have dC:=zaq V _ (List.getElem_mem dK);unfold natv at cU;obtain ⟨vk,cB⟩:∃ vk,(digs V)[ii]=vk:=⟨_,rfl⟩;rw [cB] at cU dC;obtain ⟨aS,bK⟩:=zgV aE aY (by rw [bE];omega);have cP:j+ii<lu.length:=by omega
       obtain ⟨uk,fG⟩:∃ uk,lu[j+ii]=uk:=⟨_,rfl⟩;have fT:=aM.out.1.get cP;rw [fG] at fT;have fF:wr.cell? ⟨g,ii+j,none⟩=some (.int .i64 (uk:Int)):=by
        rw [aS,List.getElem?_map,List.getElem?_eq_getElem cP,fG];rfl
       have fN:=zbx aE (ii+j);have gI:vk<1000000000:=dC;have lO:uk<1000000000:=fT;obtain ⟨pv,dN⟩:∃ pv,pv=t*vk:=⟨_,rfl⟩;have lU:pv≤999999999000000000:=by
        rw [dN];exact Nat.le_trans (Nat.mul_le_mul (show t≤999999999 by omega) (show vk≤1000000000 by omega)) (by decide)
       have em:(t:Int)*(vk:Int)=(pv:Int):=by rw [dN];exact (Int.natCast_mul t vk).symm
       obtain ⟨pp,iX⟩:∃ pp,pp=pv+bb:=⟨_,rfl⟩;have ep:(pv:Int)+(bb:Int)=(pp:Int):=by omega
       obtain ⟨pm,fA⟩:∃ pm,pm=pp % B:=⟨_,rfl⟩;obtain ⟨pd,dQ⟩:∃ pd,pd=pp / B:=⟨_,rfl⟩;have kS:pp≤999999999000000000+1000000000:=by omega
       have lQ:pm<1000000000:=by rw [fA];exact Nat.mod_lt _ zaN
       have kM:pd≤999999999+1:=by rw [dQ];unfold B;omega
       have kO:pd≤999999999:=by
        have h1:pv≤999999999*999999999:=by rw [dN];exact Nat.mul_le_mul (by omega) (by omega)
        rw [dQ];unfold B;omega
       have es:(pp:Int) % 1000000000=(pm:Int):=by rw [fA];unfold B;omega
       have ed:(pp:Int) / 1000000000=(pd:Int):=by rw [dQ];unfold B;omega
       obtain ⟨m1,m2⟩:=znd (p:=pp) fT;rw [←fA,←dQ] at m1 m2;have lN:ii<(lu.drop j).length:=by rw [List.length_drop];omega
       have cC:=fun (d b':Nat)=>znP ws (digs V) (lu.drop j) ii t d bb b' aJ dK lN aP
       simp only [List.getElem_drop,cB,fG] at cC
       rw [←dN] at cC;have kU:=Lib.hid cC;have gL:=Lib.hid bK;have jI:=Lib.hid (And.intro aO aJ);have bZ:=(zkp aE).1;have jA:pv+bb=pp:=iX.symm;have lR:=Lib.hid jA
       by_cases hneg:uk<pm
       case' pos=>obtain ⟨h1,h2⟩:=m2 hneg
       case' neg=>obtain ⟨h1,h2⟩:=m1 (by omega)
       case' pos=>obtain ⟨dd,fJ⟩:∃ dd,dd=uk+B - pm:=⟨_,rfl⟩
       case' neg=>obtain ⟨dd,fJ⟩:∃ dd,dd=uk - pm:=⟨_,rfl⟩
       case' pos=>obtain ⟨b2,bH⟩:∃ b2,b2=pd+1:=⟨_,rfl⟩
       case' neg=>obtain ⟨b2,bH⟩:∃ b2,b2=pd:=⟨_,rfl⟩
       case' pos=>obtain ⟨z,hz⟩:∃ z:Int,z=(uk:Int) - (pm:Int):=⟨_,rfl⟩
       case' neg=>obtain ⟨z,hz⟩:∃ z:Int,z=(dd:Int):=⟨_,rfl⟩
       case' pos=>have kR:(uk:Int) - (pm:Int)=z:=hz.symm
       case' neg=>have kR:(uk:Int) - (pm:Int)=z:=by omega
       case' pos=>have dz:decide (z<0)=true:=by simp;omega
       case' neg=>have dz:decide (z<0)=false:=by simp;omega
       case' pos=>have ez:z+1000000000=(dd:Int):=by rw [hz,fJ];unfold B;omega
       case' pos=>have eb:(pd:Int)+1=(b2:Int):=by omega
       case' neg=>subst hz
       all_goals
        rw [←fJ] at h1 h2;have bV:=kU.out dd b2 (by rw [lR.out,bH];exact h2);have dF:Hid (Wf (ws++[dd])∧(ws++[dd]).length=ii+1∧val (ws++[dd])+t*val ((digs V).take (ii+1))=val ((lu.drop j).take (ii+1))+B ^ (ii+1)*b2):=
         ⟨jI.out.1.append (Wf.cons h1 Wf.nil),by rw [List.length_append,jI.out.2];rfl,bV⟩
        have mC:=Lib.hid (gL.out (.int .i64 (dd:Int)));have lC:=Lib.hid bH;have fV:b2≤1000000000:=by omega
        clear h1 h2 bV cC bK m1 m2 fJ bH iX fA dQ dN cB fG aS fE aP aJ aO bE aY cQ jA
        first | clear hz | skip
        go_wp2
        go_roundg (nv - (ii+1))
        case measure=>omega
        case rel=>exact ⟨ii+1,b2,ws++[dd],by omega,by go_num,by first | rfl | rw [lC.out],fV,Nat.le_refl _,by rw [List.map_append];exact mC.out,aA.store cR _ _,dF.out,aD.setCell bZ _⟩
      ·obtain rfl:ii=nv:=by omega
       have aL:ii=k+2:=by rw [bP.out,HK.out]
       have cM:=kL.out;have cP:j+ii<lu.length:=by omega
       obtain ⟨ut,cZ⟩:∃ ut,lu[j+ii]=ut:=⟨_,rfl⟩;have dL:=aM.out.1.get cP;rw [cZ] at dL;have jM:ut<1000000000:=dL;have fU:lu.getD (j+(k+2)) 0=ut:=by
        rw [←aL,Dn.getD_in cP,cZ]
       have bW:=lB.out;rw [fU] at bW;have cJ:(digs V).take ii=digs V:=List.take_of_length_le (by rw [dZ.out];omega);rw [cJ,zak,aL] at aP;have gW:val ws<B ^ (k+2):=by have:=zbo aO;rw [aJ,aL] at this;exact this
       obtain ⟨dX,fC⟩:=zn6 aP gW fQ.out dG.out (by rw [←bW];exact mF.out);rw [←bW] at dX fC;obtain ⟨aS,bK⟩:=ziH aE aY (by rw [bE];omega);have fF:wr.cell? ⟨g,j+ii,none⟩=some (.int .i64 (ut:Int)):=by
        rw [aS,List.getElem?_map,List.getElem?_eq_getElem cP,cZ];rfl
       have fN:=zbx aE (j+ii);have bZ:=(zkp aE).1;obtain ⟨z0,bI⟩:∃ z0:Int,z0=(ut:Int) - (bb:Int):=⟨_,rfl⟩;have ez:(ut:Int) - (bb:Int)=z0:=bI.symm;have aH:=bK (.int .i64 z0);have dB:(wr.setCell ⟨g,j+ii,none⟩ (.int .i64 z0)).cell? ⟨g,j+ii,none⟩=some (.int .i64 z0):=by
        have h9:=World.ownsRow.cellAt aH (j+ii) (by omega);rw [h9,zfy _ _ _ _ (by rw [bE];omega) (by simp [aJ]),List.getElem?_append_right (by rw [aY];exact Nat.le_refl _),aY,Nat.sub_self];rfl
       have aF:=aA.store cR (j+ii) (.int .i64 z0);have aK:=aD.setCell (p:=⟨g,j+ii,none⟩) bZ (.int .i64 z0);have dS:=Lib.hid aH;have iG:=Lib.hid aF;have gF:=Lib.hid aK;have cE:=Lib.hid (And.intro aO aJ);have iC:=Lib.hid aL;have mM:=Lib.hid bI
       by_cases hcase:bb≤ut
       ·obtain ⟨q1,q2,q3⟩:=dX hcase
        have bC:z0=0:=by omega
        have dz:decide (z0<0)=false:=by simp;omega
        have iL:=aF.cell j (by omega);have lI:=aF.free j;generalize lq.getD j 0=old at iL;have aG:RowI (wr.setCell ⟨g,j+ii,none⟩ (.int .i64 z0)) w2.heap.size g m cg (mid lu j (ws++[0])):=by
         unfold RowI;rw [zkC,List.map_append];have h9:=aH;rw [bC] at h9 ⊢;exact h9
        have gZ:=Lib.hid (aG.store (Ne.symm cR) j (.int .i64 (t:Int)));have iH:=Lib.hid (aF.set j t);have dF:=Lib.hid (aM.out.next aJ (by omega) (by rw [aL];exact fQ.out) dG.out aO (by omega) q2 q3 jP);have gQ:=Lib.hid (aK.setCell (p:=⟨gq,j,none⟩) aF.lt.1 (.int .i64 (t:Int)));clear q1 q2 q3 dX fC bC bI aP gW bW fU cJ cZ aS bK aH aF aK aG aL cM fE aO aJ cQ bE aY aE aA;go_wp2
        go_roundg j
        case measure=>omega
        case rel=>exact ⟨j,_,_,by omega,rfl,Nat.le_refl _,gZ.out,iH.out,dF.out,gQ.out⟩
       ·obtain ⟨q1,q2,q3⟩:=fC (by omega)
        have bC:z0 = -1:=by omega
        have dz:decide (z0<0)=true:=by simp;omega
        obtain ⟨t1,gX⟩:∃ t1,t1=val (lu.drop j) / V:=⟨_,rfl⟩;rw [←gX] at q2;have et:(t:Int) - 1=(t1:Int):=by omega
        have dA:t1<B:=by omega
        have iO:t1<1000000000:=dA;obtain ⟨L2,aQ⟩:∃ L2,L2=mid (lu.map natv) j (ws.map natv++[Value.int .i64 z0]):=⟨_,rfl⟩;rw [←aQ] at aH;have aT:(ws.map natv++[Value.int .i64 z0]).length=ii+1:=by rw [List.length_append,aY];rfl
        have cW:L2.length=m:=by rw [aQ,zhS _ _ _ (by rw [aT,bE];omega),bE]
        have dE:∀ i (h:i<ws.length),L2[j+i]? = some (natv ws[i]):=fun i h=>by
         rw [aQ,zfy _ _ _ _ (by rw [bE];omega) (by rw [aT];omega),List.getElem?_append_left (by rw [aY];omega),List.getElem?_map,List.getElem?_eq_getElem h];rfl
        have dD:L2[j+ii]? = some (.int .i64 z0):=by
         rw [aQ,zfy _ _ _ _ (by rw [bE];omega) (by rw [aT];omega),List.getElem?_append_right (by rw [aY];exact Nat.le_refl _),aY,Nat.sub_self];rfl
        have dT:∀ aI:List Nat,aI.length=ii→mid L2 j (aI.map natv++[Value.int .i64 0])=(mid lu j (aI++[0])).map natv:=fun aI h=>by
         rw [zkC,List.map_append,aQ];exact zon _ _ _ _ (by rw [bE];omega) (by rw [aT,List.length_append,List.length_map,h];rfl)
        have gK:=Lib.hid dE;have iF:=Lib.hid dD;have gE:=Lib.hid dT;have kE:=Lib.hid gX;have gM:=Lib.hid bC;have gS:=Lib.hid q3;have mG:=Lib.hid cJ;have mY:j+ii<m:=lV;clear q1 q2 q3 dX fC bC bI aP gW bW fU cJ cZ aS bK aL cM fE aO cQ bE aY aT aE aA gX aQ dE dD dT dS;have gR:=Lib.hid dB;go_wp2
        clear fF fN;generalize wr.setCell ⟨g,j+ii,none⟩ (.int .i64 z0)=w8 at *
        go_loopg [19,20] ii (fun q vc vi W=>∃ (i2 cc:Nat) (aI:List Nat),i2≤ii∧vi = .int .i64 (i2:Int)∧vc = .int .i64 (cc:Int)∧cc≤1∧ii - i2≤q ∧
         W.ownsRow w2.heap.size 3 1 (.slice (some ⟨g,0,none⟩) m cg) m (mid L2 j (aI.map natv))∧RowI W w2.heap.size gq L L lq ∧
         Hid (Wf aI∧aI.length=i2∧val aI+B ^ i2*cc=val (ws.take i2)+val ((digs V).take i2))∧Below w2.heap.size w2 W)
        case atStart=>exact ⟨0,0,[],by omega,rfl,rfl,by omega,by omega,by rw [List.map_nil,zlB];exact aH,aF,⟨Wf.nil,rfl,by simp⟩,aK⟩
        case round=>
         clear aH aF aK dB iG gF gR;obtain ⟨i2,cc,aI,mZ,rfl,rfl,mH,mL,aE,aA,cK,aD⟩:=hrel;obtain ⟨cV,bS,cO⟩:=cK.out;have aU:(aI.map natv).length=i2:=by rw [List.length_map];exact bS
         have bR:=(zkp aE).1
         by_cases hin2:i2<ii
         ·obtain ⟨lE,dK,rfl,kY,cU⟩:=(hv.later aD).rd.cellM (k:=i2) hin2
          have dC:=zaq V _ (List.getElem_mem dK);unfold natv at cU;obtain ⟨vk,cB⟩:∃ vk,(digs V)[i2]=vk:=⟨_,rfl⟩;rw [cB] at cU dC;have aV:i2<ws.length:=by rw [cE.out.2];exact hin2
          obtain ⟨wk,fP⟩:∃ wk,ws[i2]=wk:=⟨_,rfl⟩;have jS:=cE.out.1.get aV;rw [fP] at jS;have cL:j+i2<L2.length:=by rw [cW];omega
          obtain ⟨aS,_⟩:=zgV aE aU cL;have fF:wr.cell? ⟨g,i2+j,none⟩=some (.int .i64 (wk:Int)):=by
           rw [aS,gK.out i2 aV,fP];rfl
          have fN:=zbx aE (i2+j);have gI:vk<1000000000:=dC;have lD:wk<1000000000:=jS;obtain ⟨s1,iY⟩:∃ s1,s1=wk+vk:=⟨_,rfl⟩;obtain ⟨tt,jF⟩:∃ tt,tt=s1+cc:=⟨_,rfl⟩;obtain ⟨lo,fH⟩:∃ lo,lo=tt % B:=⟨_,rfl⟩;obtain ⟨cF,fO⟩:∃ cF,cF=tt / B:=⟨_,rfl⟩;have iK:lo<B:=by rw [fH];exact Nat.mod_lt _ zaN
          have fY:cF≤1:=by rw [fO];unfold B;omega
          have lL:tt<4000000000:=by omega
          have es:(tt:Int) % 1000000000=(lo:Int):=by rw [fH];unfold B;omega
          have ed:(tt:Int) / 1000000000=(cF:Int):=by rw [fO];unfold B;omega
          have cC:=zod aI ws (digs V) i2 lo cc cF bS aV dK cO (by rw [fP,cB,fH,fO,Nat.mod_add_div,jF,iY]);have kF:Hid (Wf (aI++[lo])∧(aI++[lo]).length=i2+1∧val (aI++[lo])+B ^ (i2+1)*cF=val (ws.take (i2+1))+val ((digs V).take (i2+1))):=
           ⟨cV.append (Wf.cons iK Wf.nil),by rw [List.length_append,bS];rfl,cC⟩
          have gL:=Lib.hid (fun q=>(zgV (w:=wr.drewN q) aE aU cL).2 (.int .i64 (lo:Int)));have kW:=Lib.hid (fun q=>(aA.drewN q).store cR (i2+j) (.int .i64 (lo:Int)));have fK:=Lib.hid (fun q=>(zad aD q).setCell (p:=⟨g,i2+j,none⟩) bR (.int .i64 (lo:Int)));have g1:IntKind.i64.wrap ((i2:Int)+(j:Int))=((i2+j:Nat):Int):=by rw [IntWalk.i64_in _ (by omega)];omega
          have g2:IntKind.i64.wrap ((wk:Int)+(vk:Int))=(s1:Int):=by rw [IntWalk.i64_in _ (by omega)];omega
          have g3:IntKind.i64.wrap ((s1:Int)+(cc:Int))=(tt:Int):=by rw [IntWalk.i64_in _ (by omega)];omega
          have p1:(0:Int)≤((i2+j:Nat):Int):=by omega
          have p2:((i2+j:Nat):Int)<(m:Int):=by omega
          have p3:(0:Int)≤(i2:Int):=by omega
          have p4:(i2:Int)<(ii:Int):=by omega
          clear cB fP iY jF fH fO aS cC cV bS cO aU cK cL aA aE;go_upto_region 35 with (fail)
          go_quiet (fail)
          clear g1 g2 g3 p1 p2 p3 p4;go_wp2
          go_roundg (ii - (i2+1))
          case measure=>omega
          case rel=>exact ⟨i2+1,cF,aI++[lo],by omega,by go_num,rfl,fY,Nat.le_refl _,by rw [List.map_append];exact gL.out _,kW.out _,kF.out,fK.out _⟩
         ·obtain rfl:i2=ii:=by omega
          rw [mG.out,zak,List.take_of_length_le (by rw [cE.out.2];exact Nat.le_refl _),gS.out,iC.out] at cO;have kD:val aI<B ^ (k+2):=by have:=zbo cV;rw [bS,iC.out] at this;exact this
          have lJ:val (lu.drop j) % V<V:=Nat.mod_lt _ dG.out;have jY:=fQ.out;have bJ:cc=1∧val aI=val (lu.drop j) % V:=by
           have:cc=0∨cc=1:=by omega
           rcases this with rfl | rfl
           ·rw [Nat.mul_zero] at cO;omega
           ·rw [Nat.mul_one] at cO;exact ⟨rfl,by omega⟩
          obtain ⟨bJ,dH⟩:=bJ;obtain ⟨aS,bK⟩:=ziH aE aU (by rw [cW];omega);have fF:wr.cell? ⟨g,j+i2,none⟩=some (.int .i64 z0):=by rw [aS,iF.out]
          have fN:=zbx aE (j+i2);have mW:z0+(cc:Int)=0:=by rw [gM.out,bJ];rfl
          have bD:=bK (.int .i64 0);rw [gE.out aI bS] at bD;have aG:RowI (wr.setCell ⟨g,j+i2,none⟩ (.int .i64 0)) w2.heap.size g m cg (mid lu j (aI++[0])):=bD;have aF:=aA.store cR (j+i2) (.int .i64 0);have aK:=aD.setCell (p:=⟨g,j+i2,none⟩) bR (.int .i64 0);have iL:=aF.cell j (by omega);have lI:=aF.free j;generalize lq.getD j 0=old at iL;have gZ:=Lib.hid (aG.store (Ne.symm cR) j (.int .i64 (t1:Int)));have iH:=Lib.hid (aF.set j t1);have dF:=Lib.hid (aM.out.next bS (by omega) (by rw [iC.out];exact fQ.out) dG.out cV (by omega) kE.out dH dA);have gQ:=Lib.hid (aK.setCell (p:=⟨gq,j,none⟩) aF.lt.1 (.int .i64 (t1:Int)));clear cO kD lJ jY bJ dH aS bK bD aG aF aK cV bS aU cK aE aA;go_wp2
          go_roundg j
          case measure=>omega
          case rel=>exact ⟨j,_,_,by omega,rfl,Nat.le_refl _,gZ.out,iH.out,dF.out,gQ.out⟩
    ·obtain rfl:kk=0:=by omega
     have bU:=aM.out;have gJ:val lu<V:=by have:=bU.2.2.2.2;simpa using this
     have jD:=bU.1;have iM:=bU.2.1;rw [jX.out,jH.out] at bU;obtain ⟨iV,gV⟩:=bU.done lH.out dU.out;have dO:V<B ^ nv:=by have:=zac V;rw [dZ.out] at this;rw [bP.out,HK.out];exact this
     have cQ:lu.length=m:=aC.len;have cJ:val (lu.take nv)=x % y*F:=by
      have hs:=zay lu nv (by omega)
      rcases Nat.eq_zero_or_pos (val (lu.drop nv)) with h9 | h9
      ·rw [h9,Nat.mul_zero,Nat.add_zero] at hs
       rw [←hs,gV]
      ·exfalso
       have:=Nat.le_mul_of_pos_right (B ^ nv) h9;omega
     have jU:x % y*F<B ^ nv:=by rw [←gV];omega
     have iI:=aC.caps;have iJ:=(aC.reads.take (m:=nv) (by omega));rw [←List.map_take] at iJ;have cY:Below wr.heap.size wr wr.drew:=(Below.refl _ _).drew;have ht:=zcl (some ⟨g,0,none⟩) nv cg (lu.take nv) wr.drew ⟨iJ,by omega,iI.2,jD.take _⟩ (by omega);rw [cJ] at ht;have gP:=fun (W:World) (hb:Below wr.heap.size wr W)=>zcl (some ⟨gq,0,none⟩) L L lq W ((aA.dig iM).later hb) (by omega)
     simp only [iV] at gP
     have fM:=(aD.cell (p:=⟨w1.heap.size,0,none⟩) jN).trans kQ;have gG:w1.heap.size<wr.heap.size:=Nat.lt_of_lt_of_le jN aD.size;have HT:=Lib.hid ht;have lF:=Lib.hid gP;have lP:=Lib.hid (digs_length_le jU);have mI:(0:Int)≤(nv:Int):=by omega
     have lA:(nv:Int)≤(cg:Int):=by omega
     have lM:Hid (F<B):=cA;have fK:=Lib.hid (cH.trans (aD.mono cH.size));clear ht gP bU gJ jD iM iV gV dO cQ cJ jU iJ aC aA;go_upto_region 40 with (fail)
     go_region_held3 (fun w'=>w'.cell? ⟨w1.heap.size,0,none⟩=some (.int .i64 (F:Int)))
      (first | exact fM | exact (cS.cell (p:=⟨w1.heap.size,0,none⟩) gG).trans fM | exact (iA.cell (p:=⟨w1.heap.size,0,none⟩) gH).trans ((cS.cell (p:=⟨w1.heap.size,0,none⟩) gG).trans fM))
      (first
       |(go_at_call 168;refine HT.out.mono ?_;rintro e w8 ⟨m3,rfl,jR,cS⟩;have gH:=Nat.lt_of_lt_of_le gG cS.size)
       |(go_at_call 167;refine (zea (some ⟨g,0,none⟩) m3 cg F (digs (x % y*F)) w8 jR dU.out lM.out (by have h1:=jR.len;have h2:=lP.out;omega)).mono ?_;rintro e w9 ⟨A9,m9,c9,rfl,gY,iA⟩))
     rw [zak,Nat.mul_div_cancel _ dU.out] at gY;have cI:Below wr.heap.size wr w9:=cY.trans (cS.trans (iA.mono cS.size));have gB:=Lib.hid (lF.out w9 cI);have kB:=Lib.hid gY;clear cS iA fM gY
     go_wp2_with fail
     refine gB.out.mono ?_;rintro e wf ⟨mf,rfl,lG,iQ⟩;go_wp2
     go_ret2
     exact ⟨_,mf,_,_,m9,c9,rfl,lG,kB.out.later iQ,fK.out.trans ((cI.trans (iQ.mono cI.size)).mono fK.out.size)⟩
theorem zbD (A A':Option Addr) (n c n' c' x y:Nat) (w:World) (ha:DigI w A n c (digs x)) (hb:DigI w A' n' c' (digs y)) (hy:0<y) (hn:n≤1048576) (hn':n'≤1048576) :
  Calls Tryz.prog 121 #[.slice A n c,.slice A' n' c'] w (zhh w x y):=by
 rcases Nat.lt_or_ge x y with h | h
 ·exact zlV A A' n c n' c' x y w ha hb h hn hn'
 ·have hl:=hb.len
  have hp:=zas hy
  rcases Nat.lt_or_ge y B with h1 | h1
  ·have:n'=1:=by rw [←hl,za9 hy h1];rfl
   subst this;exact zmv A A' n c c' x y w ha hb h hy h1 hn
  ·have h2:2≤n':=by
    rcases Nat.lt_or_ge n' 2 with h3 | h3
    ·exfalso
     have h4:=zac y;rw [hl,show n'=1 from by omega,Nat.pow_one] at h4;omega
    ·exact h3
   exact zlP A A' n c n' c' x y (n' - 2) w ha hb (by omega) h hn
end Go.Proofs.YteajibbphcfmeaaGreatDoor
