/- Contract of the reference's long division: divDigits by two digits or more. -/
import Derived.Test.YtmkondcdejlhcaaGreatDoorFRkd4
namespace Go.Proofs.YtmkondcdejlhcaaGreatDoor
open Go.RowKit Dn
theorem RowI.store{w:World}{base g g' n c:Nat}{l:List Nat}(h:RowI w base g n c l)(hne:g'≠g)(i:Nat)(u:Value):RowI (w.setCell ⟨g',i,none⟩ u) base g n c l:=
 h.kept (zbd (World.grownBy.refl w _) (.inl rfl) u) (fun e=>by injection e with e;exact hne e)
theorem zg6 {w:World} {base g n c j i:Nat} {L ws:List Value} (h:w.ownsRow base 3 1 (.slice (some ⟨g,0,none⟩) n c) n (mid L j ws)) (hi:ws.length=i) (hj:j+i<L.length) :
  w.cell? ⟨g,i+j,none⟩=L[j+i]? ∧ ∀ u:Value,(w.setCell ⟨g,i+j,none⟩ u).ownsRow base 3 1 (.slice (some ⟨g,0,none⟩) n c) n (mid L j (ws++[u])):=by
 subst hi;have hl:=h.1;rw[ziF _ _ _ (by omega)] at hl
 constructor
 ·rw[World.ownsRow.cellAt h (ws.length+j) (by omega),Nat.add_comm ws.length j,zoL _ _ _ (by omega)]
 ·intro u
  have h1:=(World.ownsRow.stored h (ws.length+j) u).1;rw[show ws.length+j=j+ws.length from Nat.add_comm _ _,zpf _ _ _ _ hj] at h1;rw[show ws.length+j=j+ws.length from Nat.add_comm _ _];exact h1
theorem zjd{w:World}{base g n c j i:Nat}{L ws:List Value}(h:w.ownsRow base 3 1 (.slice (some ⟨g,0,none⟩) n c) n (mid L j ws))(hi:ws.length=i)(hj:j+i<L.length) :
  w.cell? ⟨g,j+i,none⟩=L[j+i]? ∧ ∀ u:Value,(w.setCell ⟨g,j+i,none⟩ u).ownsRow base 3 1 (.slice (some ⟨g,0,none⟩) n c) n (mid L j (ws++[u])):=by
 have h1:=zg6 h hi hj
 rwa [Nat.add_comm i j] at h1
set_option maxHeartbeats 8000000 in
set_option maxRecDepth 100000 in
theorem zlM(A A':Option Addr)(n c n' c' x y k:Nat)(w:World)(ha:DigI w A n c (digs x))(hb:DigI w A' n' c' (digs y))(hk:n'=k+2)(hyx:y≤x)(hn:n≤1048576) :
  Calls Tryz.prog 116 #[.slice A n c,.slice A' n' c'] w (zh1 w x y):=by
 obtain⟨i0,iF,gV,fZ,gT⟩:=info_parts zco;have jU:(digs x).length=n:=ha.len;have iD:(digs y).length=k+2:=by rw[hb.len];exact hk
 obtain⟨F,hF⟩:∃ F,F=B/((digs y).getD (k+1) 0+1):=⟨_,rfl⟩;obtain⟨V,hV⟩:∃ V,V=y*F:=⟨_,rfl⟩;obtain⟨X,hX⟩:∃ X,X=x*F:=⟨_,rfl⟩;obtain⟨jB,iO,dY,iP,bS,dA,dI,dK,jW⟩:=zmk jU iD hyx hF hV hX;have kI:n'≤1048576:=by omega
 have kQ:2≤n':=by omega
 have mD:∃ r:Int,0≤r∧Bn.ncmp x y=r:=⟨Bn.ncmp x y,by rcases Nat.lt_or_ge y x with h | h;(· rw[Bn.ncmp_gt h];decide);(· rw[show x=y from by omega,Bn.ncmp_eq];exact Int.le_refl 0),rfl⟩
 obtain⟨r,mY,hr⟩:=mD;have hc:=zci A A' n c n' c' x y w ha.rd hb.rd (by omega) (by omega);rw[hr] at hc;have d0:decide (r<0)=false:=by simp;omega
 have d1:((n':Int)==1)=false:=by rw[beq_eq_false_iff_ne];omega
 have HC:=Aa hc;obtain⟨k1,jG⟩:∃ k1,k1=k+1:=⟨_,rfl⟩;have e1:(n':Int)-1=(k1:Int):=by omega
 have cI:F<1000000000:=iO;have HA:=Aa ha;have HB:=Aa hb;have fC:=Aa iP;have mC:=Aa bS;have jV:=Aa (And.intro dA dI);have kG:=Aa dK;have cY:=Aa jW;have iV:=Aa hV;have jK:=Aa hX;have HK:=Aa hk;have jA:=Aa jG;have fH:=Aa jB;have kH:=Aa hF;have mW:=Aa iD;have kT:2≤n:=by omega
 have jI:0<y:=by
  rcases Nat.eq_zero_or_pos y with h0 | h0
  ·rw[h0,Nat.zero_mul] at hV;omega
  ·exact h0
 have kF:=Aa jI;have lW:=Aa dY;clear hc hr iP bS dA dI dK jW hV hX hk jG jB hF jU iD hyx ha hb jI dY iO;go_enter Tryz.func116,Tryz.ntmps116
 go_wp2_with fail
 refine HC.out.mono ?_;rintro e w1 ⟨rfl,fM⟩;have fG:=HB.out.later fM;have jT:=HA.out.later fM;obtain⟨kJ,jE,rfl,mJ,gO⟩:=fG.rd.cellM (k:=k1) (by have:=HK.out;have:=jA.out;omega);have cA:=zaq y _ (List.getElem_mem jE);have gJ:(digs y).getD (k+1) 0=(digs y)[k1]:=by
  have:=jA.out;subst this;exact Dn.getD_in jE
 unfold natv at gO;obtain⟨b1,dT⟩:∃ b1,(digs y)[k1]=b1:=⟨_,rfl⟩;rw[dT] at gO gJ cA;have eF:(1000000000:Int)/((b1:Int)+1)=(F:Int):=by
  rw[kH.out,gJ];show _=((1000000000/(b1+1):Nat):Int)
  rw[Int.natCast_ediv];simp
 have jJ:b1<1000000000:=cA;have dz:(((b1:Int)+1)==0)=false:=by rw[beq_eq_false_iff_ne];omega
 have nB:=Aa fG;have mM:=Aa jT;have fA:Below w1.heap.size w1 (w1.alloc (.cells #[.int .i64 (F:Int)] 3)):=Ac;have gI:=CBlk.new w1 #[.int .i64 (F:Int)] 3 _ rfl;have fR:DigI (w1.alloc (.cells #[.int .i64 (F:Int)] 3)) (some ⟨w1.heap.size,0,none⟩) 1 1 (digs F):=by rw[zbj fH.out cI];exact DigI.one gI cI
 have gM:=Aa (zcS (some kJ) _ n' c' 1 1 y F _ (fG.later fA) fR (by omega) (by omega));rw[←iV.out] at gM;clear dT gJ cA fG jT
 go_wp2_with fail
 refine gM.out.mono ?_;rintro e w2 ⟨Av,nv,cv,rfl,hv,fF⟩;have jN:=fR.later fF;have cC:=fM.trans ((fA.trans (fF.mono fA.size)).mono fM.size);have iM:=HA.out.later cC;have bM:Hid (nv=n'):=by
  show nv=n'
  rw[←hv.len,fC.out,HK.out]
 have lY:nv≤1048576:=by rw[bM.out];exact kI
 have lQ:w2.cell? ⟨w1.heap.size,0,none⟩=some (.int .i64 (F:Int)):=(gI.below fF (by simp)).cell 0;have iN:w1.heap.size<w2.heap.size:=by have:=fF.size;simp at this;omega
 clear fR gI gM fA gO eF dz;have bB:Below w2.heap.size w2 (w2.alloc (.cells #[] 3)):=Ac;have dC:=zk3 w2 w2.heap.size 3 (Nat.le_refl _);have gU:=Aa (zcS A _ n c 1 1 x F _ (iM.later bB) (jN.later bB) (by omega) (by omega));rw[←jK.out] at gU
 go_wp2_with fail
 refine gU.out.mono ?_;rintro e w4 ⟨Ax,nx,cx,rfl,fB,gA⟩;have bF:=zmB dC gA;have aY:=Ad bB gA;have dU:=fB.len;have gW:n≤nx:=by rw[←dU];exact jV.out.1
 have gY:nx≤n+1:=by rw[←dU];exact jV.out.2
 obtain⟨ax,rfl,_⟩:=fB.rd.2 (by omega);have lP:=Aa fB;have lS:=Aa dU;have cM:=aY.size;clear dU fB dC bB gU jN iM
 go_wp2_with (at_builtin;refine wpList_append_own _ rfl _ _ 60 rfl w2.heap.size 3 i0 (.int .i64 0) 1 8 Tryz.underlying60 iF gV fZ gT rfl (by decide) _ _ _ rfl bF ax nx cx ((digs X).map natv) rfl ?c0 ?c1 ?c2 ?c3 ?c4 ?c5 ?_)
 case c0=>rw[List.length_map,lS.out,Nat.mul_one]
 case c1=>exact zaA.cellsD lP.out.rd
 case c2=>exact znC _
 case c3=>unfold maxLen;omega
 case c4=>omega
 case c5=>exact cM
 intro v5 w5 bG aX _;obtain⟨gu,cu,rfl,kC⟩:=zjH bG (by omega);have bQ:Below w2.heap.size w2 w5:=aY.grown aX cM (fun g hg=>(World.ownsRow.lt bF g hg).1);clear aX bF aY gA cM;obtain⟨M,hM⟩:∃ M,M=n+1:=⟨_,rfl⟩;have eM:(n:Int)+1=(M:Int):=by omega
 have mI:M≤1048577:=by omega
 have HM:=Aa hM;have kB:nx≤M:=by omega
 clear hM gY;go_wp2
 go_loopg [11] M (fun q kS W=>∃ (m g cg:Nat) (ls:List Nat),kS = .slice (some ⟨g,0,none⟩) m cg∧n≤m∧m≤M∧M-m≤q∧RowI W w2.heap.size g m cg ls∧Hid (Wf ls∧val ls=X)∧Below w2.heap.size w2 W)
 case atStart=>exact⟨nx,gu,cu,digs X,rfl,gW,kB,by omega,bG,⟨zaq X,zak X⟩,bQ⟩
 case round=>
  clear bQ bG kC;obtain⟨m,g,cg,ls,rfl,mU,mQ,hq,aP,cU,aD⟩:=hrel;have fY:=aD.size
  by_cases hm:m<M
  ·have kW:decide (m<M)=true:=by simp;omega
   go_wp2_with (at_builtin;refine wpList_append_own _ rfl _ _ 60 rfl w2.heap.size 3 i0 (.int .i64 0) 1 8 Tryz.underlying60 iF gV fZ gT rfl (by decide) _ _ _ rfl (aP.alloc _) ⟨wr.heap.size,0,none⟩ 1 1 [.int .i64 0] rfl rfl ?c1 ?c2 ?c3 ?c4 ?c5 ?_)
   case c1=>exact cell_one_new _ _ _
   case c2=>intro u hu;simp at hu;subst hu;rfl
   case c3=>unfold maxLen;omega
   case c4=>omega
   case c5=>simp;omega
   intro v' w6 bT bP _;obtain⟨g',c9,rfl,mP⟩:=zjH bT (by omega);have kU:Below w2.heap.size w2 w6:=(aD.alloc fY _).grown bP (by simp;omega) (fun g hg=>(World.ownsRow.lt aP g hg).1);clear bP;go_wp2
   go_roundg (M-(m+1))
   case measure=>omega
   case rel=>exact⟨m+1,g',c9,ls++[0],rfl,by omega,by omega,Nat.le_refl _,by unfold RowI;rw[List.map_append];exact bT,⟨cU.out.1.append (Wf.cons zaQ Wf.nil),by rw[zaP,cU.out.2];simp⟩,kU⟩
  ·obtain rfl:m=M:=by omega
   have kW:decide (m<m)=false:=by simp
   obtain⟨L,hL⟩:∃ L,L=m-nv:=⟨_,rfl⟩;have dY:=lW.out;have iR:=HK.out;have lU:=HM.out;have gN:=bM.out;have eL:(m:Int)-(nv:Int)=(L:Int):=by omega
   have mL:1≤L:=by omega
   have mZ:L≤n:=by omega
   have HL:=Aa hL;have lG:2≤nv:=by omega
   have lV:nv≤n:=by omega
   clear hL dY iR gN lU
   go_wp2_with (at_make;refine wpList_make_full _ rfl _ _ 60 rfl w2.heap.size 3 i0 (.int .i64 0) 1 Tryz.underlying60 iF gV fZ _ _ _ _ L rfl rfl (by omega) (by omega) ?b2 ?b3 fY ?_)
   case b2=>rw[gT];omega
   case b3=>unfold maxLen;omega
   intro w6 bU aN;have aA:=RowI.made bU;have aC:=aP.kept aN (by simp);have bV:Below w2.heap.size w2 w6:=aD.grown aN fY (fun k h=>by cases h);have cP:g≠wr.heap.size:=by have:=aP.lt.2;omega
   clear bU aN;generalize mB:wr.heap.size=gq at *;have bY:=zdA.start (L:=L) cU.out.1 cU.out.2 cY.out (by have:=kG.out;rw[HL.out,bM.out,HK.out,HM.out];exact this) (by rw[aP.len];have:=HL.out;omega);have jH:=Aa bY;clear bY aD aP cU mB;go_wp2
   go_loopg [13] L (fun q lB W=>∃ (kk:Nat) (lu lq:List Nat),kk≤L∧lB = .int .i64 ((kk:Int)-1)∧kk≤q∧RowI W w2.heap.size g m cg lu∧RowI W w2.heap.size gq L L lq∧Hid (zdA X V L kk lu lq)∧Below w2.heap.size w2 W)
   case atStart=>exact⟨L,ls,_,Nat.le_refl _,by first | rfl | go_num,Nat.le_refl _,aC,aA,jH.out,bV⟩
   case round=>
    clear bV aC aA jH;obtain⟨kk,lu,lq,iR,rfl,hq,aC,aA,aL,aD⟩:=hrel
    by_cases h0:0<kk
    ·obtain⟨j,rfl⟩:∃ j:Nat,kk=j+1:=⟨kk-1,by omega⟩
     have ej:((j+1:Nat):Int)-1=(j:Int):=by omega
     rw[ej];have cT:V<B^(k+2):=by have:=zad V;rwa [fC.out] at this
     have cG:j+(k+2)<lu.length:=by have:=HL.out;have:=bM.out;have:=HK.out;rw[aC.len];omega
     obtain⟨iX,iS,bN⟩:=aL.out.window cT cG;have jX:=hv.later aD;have hg:=zjW (some ⟨g,0,none⟩) Av m cg nv cv j k lu (digs V) wr aC.reads jX.rd aL.out.1 (zaq V) (by rw[bM.out,HK.out]) (by rw[←aC.len];exact cG) (by omega) mC.out iX (by rw[zak];exact iS);rw[zak] at hg;have HG:=Aa hg;have mA:=Aa bN;have fK:=Aa cT;have lX:=Aa cG;have lC:j+nv<m:=by have:=bM.out;have:=HK.out;have:=aC.len;omega
     clear hg iX iS bN cT cG jX ej
     go_wp2_with fail
     refine HG.out.mono ?_;rintro e w7 ⟨⟨t,rfl,jP,jF⟩,qd,rfl⟩;have bC:=aC.drewN qd;have bE:=aA.drewN qd;have bX:=zac aD qd;have kD:=Aa jF;have lN:t<1000000000:=jP;clear aC aA aD jF HG;generalize wr.drewN qd=w7 at *;go_wp2
     go_loopg [15,16] nv (fun q vb vi W=>∃ (ii bb:Nat) (ws:List Nat),ii≤nv∧vi = .int .i64 (ii:Int)∧vb = .int .i64 (bb:Int)∧bb≤1000000000∧nv-ii≤q ∧
      W.ownsRow w2.heap.size 3 1 (.slice (some ⟨g,0,none⟩) m cg) m (mid (lu.map natv) j (ws.map natv))∧RowI W w2.heap.size gq L L lq ∧
      Hid (Wf ws∧ws.length=ii∧val ws+t*val ((digs V).take ii)=val ((lu.drop j).take ii)+B^ii*bb)∧Below w2.heap.size w2 W)
     case atStart=>exact⟨0,0,[],by omega,rfl,rfl,by omega,by omega,by rw[List.map_nil,zly];exact bC,bE,⟨Wf.nil,rfl,by simp⟩,bX⟩
     case round=>
      clear bX bE;obtain⟨ii,bb,ws,mH,rfl,rfl,lJ,mV,aE,aA,fI,aD⟩:=hrel;obtain⟨aO,aJ,aQ⟩:=fI.out;have cO:lu.length=m:=bC.len;have aU:(lu.map natv).length=m:=by rw[List.length_map];exact cO
      have bD:(ws.map natv).length=ii:=by rw[List.length_map];exact aJ
      by_cases bW:ii<nv
      ·obtain⟨mF,dD,rfl,kP,cZ⟩:=(hv.later aD).rd.cellM (k:=ii) bW
       have dQ:=zaq V _ (List.getElem_mem dD);unfold natv at cZ;obtain⟨vk,cN⟩:∃ vk,(digs V)[ii]=vk:=⟨_,rfl⟩;rw[cN] at cZ dQ;obtain⟨aS,bH⟩:=zg6 aE bD (by rw[aU];omega);have cQ:j+ii<lu.length:=by omega
       obtain⟨uk,dV⟩:∃ uk,lu[j+ii]=uk:=⟨_,rfl⟩;have gR:=aL.out.1.get cQ;rw[dV] at gR;have dZ:wr.cell? ⟨g,ii+j,none⟩=some (.int .i64 (uk:Int)):=by
        rw[aS,List.getElem?_map,List.getElem?_eq_getElem cQ,dV];rfl
       have fQ:=zbG aE (ii+j);have gG:vk<1000000000:=dQ;have lZ:uk<1000000000:=gR;obtain⟨pv,cV⟩:∃ pv,pv=t*vk:=⟨_,rfl⟩;have lO:pv≤999999999000000000:=by
        rw[cV];exact Nat.le_trans (Nat.mul_le_mul (show t≤999999999 by omega) (show vk≤1000000000 by omega)) (by decide)
       have em:(t:Int)*(vk:Int)=(pv:Int):=by rw[cV];exact(Int.natCast_mul t vk).symm
       obtain⟨pp,iT⟩:∃ pp,pp=pv+bb:=⟨_,rfl⟩;have ep:(pv:Int)+(bb:Int)=(pp:Int):=by omega
       obtain⟨pm,fO⟩:∃ pm,pm=pp%B:=⟨_,rfl⟩;obtain⟨pd,dE⟩:∃ pd,pd=pp/B:=⟨_,rfl⟩;have lK:pp≤999999999000000000+1000000000:=by omega
       have kE:pm<1000000000:=by rw[fO];exact Nat.mod_lt _ zaQ
       have lR:pd≤999999999+1:=by rw[dE];unfold B;omega
       have kM:pd≤999999999:=by
        have h1:pv≤999999999*999999999:=by rw[cV];exact Nat.mul_le_mul (by omega) (by omega)
        rw[dE];unfold B;omega
       have es:(pp:Int)%1000000000=(pm:Int):=by rw[fO];unfold B;omega
       have ed:(pp:Int)/1000000000=(pd:Int):=by rw[dE];unfold B;omega
       obtain⟨m1,m2⟩:=znm (p:=pp) gR;rw[←fO,←dE] at m1 m2;have jZ:ii<(lu.drop j).length:=by rw[List.length_drop];omega
       have cF:=fun (d b':Nat)=>zoH ws (digs V) (lu.drop j) ii t d bb b' aJ dD jZ aQ
       simp only[List.getElem_drop,cN,dV] at cF
       rw[←cV] at cF;have kN:=Aa cF;have gP:=Aa bH;have jM:=Aa (And.intro aO aJ);have cJ:=(zld aE).1;have jR:pv+bb=pp:=iT.symm;have kK:=Aa jR
       by_cases hneg:uk<pm
       case' pos=>obtain⟨h1,h2⟩:=m2 hneg
       case' neg=>obtain⟨h1,h2⟩:=m1 (by omega)
       case' pos=>obtain⟨dd,fL⟩:∃ dd,dd=uk+B-pm:=⟨_,rfl⟩
       case' neg=>obtain⟨dd,fL⟩:∃ dd,dd=uk-pm:=⟨_,rfl⟩
       case' pos=>obtain⟨b2,bK⟩:∃ b2,b2=pd+1:=⟨_,rfl⟩
       case' neg=>obtain⟨b2,bK⟩:∃ b2,b2=pd:=⟨_,rfl⟩
       case' pos=>obtain⟨z,hz⟩:∃ z:Int,z=(uk:Int)-(pm:Int):=⟨_,rfl⟩
       case' neg=>obtain⟨z,hz⟩:∃ z:Int,z=(dd:Int):=⟨_,rfl⟩
       case' pos=>have lA:(uk:Int)-(pm:Int)=z:=hz.symm
       case' neg=>have lA:(uk:Int)-(pm:Int)=z:=by omega
       case' pos=>have dz:decide (z<0)=true:=by simp;omega
       case' neg=>have dz:decide (z<0)=false:=by simp;omega
       case' pos=>have ez:z+1000000000=(dd:Int):=by rw[hz,fL];unfold B;omega
       case' pos=>have eb:(pd:Int)+1=(b2:Int):=by omega
       case' neg=>subst hz
       all_goals
        rw[←fL] at h1 h2;have bR:=kN.out dd b2 (by rw[kK.out,bK];exact h2);have dF:Hid (Wf (ws++[dd])∧(ws++[dd]).length=ii+1∧val (ws++[dd])+t*val ((digs V).take (ii+1))=val ((lu.drop j).take (ii+1))+B^(ii+1)*b2):=
         ⟨jM.out.1.append (Wf.cons h1 Wf.nil),by rw[List.length_append,jM.out.2];rfl,bR⟩
        have lI:=Aa (gP.out (.int .i64 (dd:Int)));have kR:=Aa bK;have gF:b2≤1000000000:=by omega
        clear h1 h2 bR cF bH m1 m2 fL bK iT fO dE cV cN dV aS fI aQ aJ aO aU bD cO jR
        first | clear hz | skip
        go_wp2
        go_roundg (nv-(ii+1))
        case measure=>omega
        case rel=>exact⟨ii+1,b2,ws++[dd],by omega,by go_num,by first | rfl | rw[kR.out],gF,Nat.le_refl _,by rw[List.map_append];exact lI.out,aA.store cP _ _,dF.out,aD.setCell cJ _⟩
      ·obtain rfl:ii=nv:=by omega
       have aM:ii=k+2:=by rw[bM.out,HK.out]
       have cG:=lX.out;have cQ:j+ii<lu.length:=by omega
       obtain⟨ut,dN⟩:∃ ut,lu[j+ii]=ut:=⟨_,rfl⟩;have cW:=aL.out.1.get cQ;rw[dN] at cW;have jQ:ut<1000000000:=cW;have fV:lu.getD (j+(k+2)) 0=ut:=by
        rw[←aM,Dn.getD_in cQ,dN]
       have bN:=mA.out;rw[fV] at bN;have cK:(digs V).take ii=digs V:=List.take_of_length_le (by rw[fC.out];omega);rw[cK,zak,aM] at aQ;have iH:val ws<B^(k+2):=by have:=zby aO;rw[aJ,aM] at this;exact this
       obtain⟨fE,fP⟩:=zpu aQ iH fK.out cY.out (by rw[←bN];exact kD.out);rw[←bN] at fE fP;obtain⟨aS,bH⟩:=zjd aE bD (by rw[aU];omega);have dZ:wr.cell? ⟨g,j+ii,none⟩=some (.int .i64 (ut:Int)):=by
        rw[aS,List.getElem?_map,List.getElem?_eq_getElem cQ,dN];rfl
       have fQ:=zbG aE (j+ii);have cJ:=(zld aE).1;obtain⟨z0,bJ⟩:∃ z0:Int,z0=(ut:Int)-(bb:Int):=⟨_,rfl⟩;have ez:(ut:Int)-(bb:Int)=z0:=bJ.symm;have aG:=bH (.int .i64 z0);have dR:(wr.setCell ⟨g,j+ii,none⟩ (.int .i64 z0)).cell? ⟨g,j+ii,none⟩=some (.int .i64 z0):=by
        have h9:=World.ownsRow.cellAt aG (j+ii) (by omega);rw[h9,zf8 _ _ _ _ (by rw[aU];omega) (by simp[aJ]),List.getElem?_append_right (by rw[bD];exact Nat.le_refl _),bD,Nat.sub_self];rfl
       have aF:=aA.store cP (j+ii) (.int .i64 z0);have aK:=aD.setCell (p:=⟨g,j+ii,none⟩) cJ (.int .i64 z0);have dM:=Aa aG;have gX:=Aa aF;have gB:=Aa aK;have cH:=Aa (And.intro aO aJ);have gK:=Aa aM;have mT:=Aa bJ
       by_cases hcase:bb≤ut
       ·obtain⟨q1,q2,q3⟩:=fE hcase
        have aW:z0=0:=by omega
        have dz:decide (z0<0)=false:=by simp;omega
        have fS:=aF.cell j (by omega);have kZ:=aF.free j;generalize lq.getD j 0=old at fS;have aH:RowI (wr.setCell ⟨g,j+ii,none⟩ (.int .i64 z0)) w2.heap.size g m cg (mid lu j (ws++[0])):=by
         unfold RowI;rw[zlo,List.map_append];have h9:=aG;rw[aW] at h9 ⊢;exact h9
        have gC:=Aa (aH.store (Ne.symm cP) j (.int .i64 (t:Int)));have fT:=Aa (aF.set j t);have dF:=Aa (aL.out.next aJ (by omega) (by rw[aM];exact fK.out) cY.out aO (by omega) q2 q3 jP);have gH:=Aa (aK.setCell (p:=⟨gq,j,none⟩) aF.lt.1 (.int .i64 (t:Int)));clear q1 q2 q3 fE fP aW bJ aQ iH bN fV cK dN aS bH aG aF aK aH aM cG fI aO aJ cO aU bD aE aA;go_wp2
        go_roundg j
        case measure=>omega
        case rel=>exact⟨j,_,_,by omega,rfl,Nat.le_refl _,gC.out,fT.out,dF.out,gH.out⟩
       ·obtain⟨q1,q2,q3⟩:=fP (by omega)
        have aW:z0 = -1:=by omega
        have dz:decide (z0<0)=true:=by simp;omega
        obtain⟨t1,gZ⟩:∃ t1,t1=val (lu.drop j)/V:=⟨_,rfl⟩;rw[←gZ] at q2;have et:(t:Int)-1=(t1:Int):=by omega
        have dL:t1<B:=by omega
        have iQ:t1<1000000000:=dL;obtain⟨L2,aR⟩:∃ L2,L2=mid (lu.map natv) j (ws.map natv++[Value.int .i64 z0]):=⟨_,rfl⟩;rw[←aR] at aG;have aZ:(ws.map natv++[Value.int .i64 z0]).length=ii+1:=by rw[List.length_append,bD];rfl
        have dS:L2.length=m:=by rw[aR,ziF _ _ _ (by rw[aZ,aU];omega),aU]
        have dH:∀ i (h:i<ws.length),L2[j+i]? = some (natv ws[i]):=fun i h=>by
         rw[aR,zf8 _ _ _ _ (by rw[aU];omega) (by rw[aZ];omega),List.getElem?_append_left (by rw[bD];omega),List.getElem?_map,List.getElem?_eq_getElem h];rfl
        have dB:L2[j+ii]? = some (.int .i64 z0):=by
         rw[aR,zf8 _ _ _ _ (by rw[aU];omega) (by rw[aZ];omega),List.getElem?_append_right (by rw[bD];exact Nat.le_refl _),bD,Nat.sub_self];rfl
        have dP:∀ aI:List Nat,aI.length=ii→mid L2 j (aI.map natv++[Value.int .i64 0])=(mid lu j (aI++[0])).map natv:=fun aI h=>by
         rw[zlo,List.map_append,aR];exact zpk _ _ _ _ (by rw[aU];omega) (by rw[aZ,List.length_append,List.length_map,h];rfl)
        have iB:=Aa dH;have iC:=Aa dB;have gD:=Aa dP;have kX:=Aa gZ;have gE:=Aa aW;have iE:=Aa q3;have lE:=Aa cK;have nA:j+ii<m:=lC;clear q1 q2 q3 fE fP aW bJ aQ iH bN fV cK dN aS bH aM cG fI aO cO aU bD aZ aE aA gZ aR dH dB dP dM;have iI:=Aa dR;go_wp2
        clear dZ fQ;generalize wr.setCell ⟨g,j+ii,none⟩ (.int .i64 z0)=w8 at *
        go_loopg [19,20] ii (fun q vc vi W=>∃ (i2 cc:Nat) (aI:List Nat),i2≤ii∧vi = .int .i64 (i2:Int)∧vc = .int .i64 (cc:Int)∧cc≤1∧ii-i2≤q ∧
         W.ownsRow w2.heap.size 3 1 (.slice (some ⟨g,0,none⟩) m cg) m (mid L2 j (aI.map natv))∧RowI W w2.heap.size gq L L lq ∧
         Hid (Wf aI∧aI.length=i2∧val aI+B^i2*cc=val (ws.take i2)+val ((digs V).take i2))∧Below w2.heap.size w2 W)
        case atStart=>exact⟨0,0,[],by omega,rfl,rfl,by omega,by omega,by rw[List.map_nil,zly];exact aG,aF,⟨Wf.nil,rfl,by simp⟩,aK⟩
        case round=>
         clear aG aF aK dR gX gB iI;obtain⟨i2,cc,aI,mS,rfl,rfl,mK,mO,aE,aA,cB,aD⟩:=hrel;obtain⟨dJ,bL,cS⟩:=cB.out;have aV:(aI.map natv).length=i2:=by rw[List.length_map];exact bL
         have bO:=(zld aE).1
         by_cases hin2:i2<ii
         ·obtain⟨mF,dD,rfl,kP,cZ⟩:=(hv.later aD).rd.cellM (k:=i2) hin2
          have dQ:=zaq V _ (List.getElem_mem dD);unfold natv at cZ;obtain⟨vk,cN⟩:∃ vk,(digs V)[i2]=vk:=⟨_,rfl⟩;rw[cN] at cZ dQ;have bA:i2<ws.length:=by rw[cH.out.2];exact hin2
          obtain⟨wk,fN⟩:∃ wk,ws[i2]=wk:=⟨_,rfl⟩;have jS:=cH.out.1.get bA;rw[fN] at jS;have cL:j+i2<L2.length:=by rw[dS];omega
          obtain⟨aS,_⟩:=zg6 aE aV cL;have dZ:wr.cell? ⟨g,i2+j,none⟩=some (.int .i64 (wk:Int)):=by
           rw[aS,iB.out i2 bA,fN];rfl
          have fQ:=zbG aE (i2+j);have gG:vk<1000000000:=dQ;have kL:wk<1000000000:=jS;obtain⟨s1,iY⟩:∃ s1,s1=wk+vk:=⟨_,rfl⟩;obtain⟨tt,iW⟩:∃ tt,tt=s1+cc:=⟨_,rfl⟩;obtain⟨lo,fJ⟩:∃ lo,lo=tt%B:=⟨_,rfl⟩;obtain⟨bZ,fD⟩:∃ bZ,bZ=tt/B:=⟨_,rfl⟩;have fW:lo<B:=by rw[fJ];exact Nat.mod_lt _ zaQ
          have iG:bZ≤1:=by rw[fD];unfold B;omega
          have mG:tt<4000000000:=by omega
          have es:(tt:Int)%1000000000=(lo:Int):=by rw[fJ];unfold B;omega
          have ed:(tt:Int)/1000000000=(bZ:Int):=by rw[fD];unfold B;omega
          have cF:=zoU aI ws (digs V) i2 lo cc bZ bL bA dD cS (by rw[fN,cN,fJ,fD,Nat.mod_add_div,iW,iY]);have lL:Hid (Wf (aI++[lo])∧(aI++[lo]).length=i2+1∧val (aI++[lo])+B^(i2+1)*bZ=val (ws.take (i2+1))+val ((digs V).take (i2+1))):=
           ⟨dJ.append (Wf.cons fW Wf.nil),by rw[List.length_append,bL];rfl,cF⟩
          have gP:=Aa (fun q=>(zg6 (w:=wr.drewN q) aE aV cL).2 (.int .i64 (lo:Int)));have lD:=Aa (fun q=>(aA.drewN q).store cP (i2+j) (.int .i64 (lo:Int)));have dW:=Aa (fun q=>(zac aD q).setCell (p:=⟨g,i2+j,none⟩) bO (.int .i64 (lo:Int)));have g1:IntKind.i64.wrap ((i2:Int)+(j:Int))=((i2+j:Nat):Int):=by rw[IntWalk.i64_in _ (by omega)];omega
          have g2:IntKind.i64.wrap ((wk:Int)+(vk:Int))=(s1:Int):=by rw[IntWalk.i64_in _ (by omega)];omega
          have g3:IntKind.i64.wrap ((s1:Int)+(cc:Int))=(tt:Int):=by rw[IntWalk.i64_in _ (by omega)];omega
          have p1:(0:Int)≤((i2+j:Nat):Int):=by omega
          have p2:((i2+j:Nat):Int)<(m:Int):=by omega
          have p3:(0:Int)≤(i2:Int):=by omega
          have p4:(i2:Int)<(ii:Int):=by omega
          clear cN fN iY iW fJ fD aS cF dJ bL cS aV cB cL aA aE;go_upto_region 35 with(fail)
          go_quiet (fail)
          clear g1 g2 g3 p1 p2 p3 p4;go_wp2
          go_roundg (ii-(i2+1))
          case measure=>omega
          case rel=>exact⟨i2+1,bZ,aI++[lo],by omega,by go_num,rfl,iG,Nat.le_refl _,by rw[List.map_append];exact gP.out _,lD.out _,lL.out,dW.out _⟩
         ·obtain rfl:i2=ii:=by omega
          rw[lE.out,zak,List.take_of_length_le (by rw[cH.out.2];exact Nat.le_refl _),iE.out,gK.out] at cS;have lH:val aI<B^(k+2):=by have:=zby dJ;rw[bL,gK.out] at this;exact this
          have lM:val (lu.drop j)%V<V:=Nat.mod_lt _ cY.out;have mE:=fK.out;have bI:cc=1∧val aI=val (lu.drop j)%V:=by
           have:cc=0∨cc=1:=by omega
           rcases this with rfl | rfl
           ·rw[Nat.mul_zero] at cS;omega
           ·rw[Nat.mul_one] at cS;exact⟨rfl,by omega⟩
          obtain⟨bI,dO⟩:=bI;obtain⟨aS,bH⟩:=zjd aE aV (by rw[dS];omega);have dZ:wr.cell? ⟨g,j+i2,none⟩=some (.int .i64 z0):=by rw[aS,iC.out]
          have fQ:=zbG aE (j+i2);have mR:z0+(cc:Int)=0:=by rw[gE.out,bI];rfl
          have aT:=bH (.int .i64 0);rw[gD.out aI bL] at aT;have aH:RowI (wr.setCell ⟨g,j+i2,none⟩ (.int .i64 0)) w2.heap.size g m cg (mid lu j (aI++[0])):=aT;have aF:=aA.store cP (j+i2) (.int .i64 0);have aK:=aD.setCell (p:=⟨g,j+i2,none⟩) bO (.int .i64 0);have fS:=aF.cell j (by omega);have kZ:=aF.free j;generalize lq.getD j 0=old at fS;have gC:=Aa (aH.store (Ne.symm cP) j (.int .i64 (t1:Int)));have fT:=Aa (aF.set j t1);have dF:=Aa (aL.out.next bL (by omega) (by rw[gK.out];exact fK.out) cY.out dJ (by omega) kX.out dO dL);have gH:=Aa (aK.setCell (p:=⟨gq,j,none⟩) aF.lt.1 (.int .i64 (t1:Int)));clear cS lH lM mE bI dO aS bH aT aH aF aK dJ bL aV cB aE aA;go_wp2
          go_roundg j
          case measure=>omega
          case rel=>exact⟨j,_,_,by omega,rfl,Nat.le_refl _,gC.out,fT.out,dF.out,gH.out⟩
    ·obtain rfl:kk=0:=by omega
     have bW:=aL.out;have hJ:val lu<V:=by have:=bW.2.2.2.2;simpa using this
     have jL:=bW.1;have jO:=bW.2.1;rw[jK.out,iV.out] at bW;obtain⟨iU,iL⟩:=bW.done kF.out fH.out;have cT:V<B^nv:=by have:=zad V;rw[fC.out] at this;rw[bM.out,HK.out];exact this
     have cO:lu.length=m:=aC.len;have cK:val (lu.take nv)=x%y*F:=by
      have hs:=zax lu nv (by omega)
      rcases Nat.eq_zero_or_pos (val (lu.drop nv)) with h9 | h9
      ·rw[h9,Nat.mul_zero,Nat.add_zero] at hs
       rw[←hs,iL]
      ·exfalso
       have:=Nat.le_mul_of_pos_right (B^nv) h9;omega
     have iZ:x%y*F<B^nv:=by rw[←iL];omega
     have fU:=aC.caps;have gL:=(aC.reads.take (m:=nv) (by omega));rw[←List.map_take] at gL;have dG:Below wr.heap.size wr wr.drew:=(Below.refl _ _).drew;have ht:=zcz (some ⟨g,0,none⟩) nv cg (lu.take nv) wr.drew ⟨gL,by omega,fU.2,jL.take _⟩ (by omega);rw[cK] at ht;have iK:=fun (W:World) (hb:Below wr.heap.size wr W)=>zcz (some ⟨gq,0,none⟩) L L lq W ((aA.dig jO).later hb) (by omega)
     simp only[iU] at iK
     have dX:=(aD.cell (p:=⟨w1.heap.size,0,none⟩) iN).trans lQ;have gS:w1.heap.size<wr.heap.size:=Nat.lt_of_lt_of_le iN aD.size;have HT:=Aa ht;have lF:=Aa iK;have kY:=Aa (zab iZ);have mN:(0:Int)≤(nv:Int):=by omega
     have kT:(nv:Int)≤(cg:Int):=by omega
     have kO:Hid (F<B):=cI;have dW:=Aa (cC.trans (aD.mono cC.size));clear ht iK bW hJ jL jO iU iL cT cO cK iZ gL aC aA;go_upto_region 40 with(fail)
     go_region_held3 (fun w'=>w'.cell? ⟨w1.heap.size,0,none⟩=some (.int .i64 (F:Int)))
      (first | exact dX | exact(cR.cell (p:=⟨w1.heap.size,0,none⟩) gS).trans dX | exact(iA.cell (p:=⟨w1.heap.size,0,none⟩) iJ).trans ((cR.cell (p:=⟨w1.heap.size,0,none⟩) gS).trans dX))
      (first
       |(go_at_call 164;refine HT.out.mono ?_;rintro e w8 ⟨m3,rfl,jC,cR⟩;have iJ:=Nat.lt_of_lt_of_le gS cR.size)
       |(go_at_call 163;refine(zeu (some ⟨g,0,none⟩) m3 cg F (digs (x%y*F)) w8 jC fH.out kO.out (by have h1:=jC.len;have h2:=kY.out;omega)).mono ?_;rintro e w9 ⟨A9,m9,c9,rfl,gQ,iA⟩))
     rw[zak,Nat.mul_div_cancel _ fH.out] at gQ;have cE:Below wr.heap.size wr w9:=dG.trans (cR.trans (iA.mono cR.size));have fX:=Aa (lF.out w9 cE);have jY:=Aa gQ;clear cR iA dX gQ
     go_wp2_with fail
     refine fX.out.mono ?_;rintro e wf ⟨mf,rfl,lT,jD⟩;go_wp2
     go_ret2
     exact⟨_,mf,_,_,m9,c9,rfl,lT,jY.out.later jD,dW.out.trans ((cE.trans (jD.mono cE.size)).mono dW.out.size)⟩
theorem zbN(A A':Option Addr)(n c n' c' x y:Nat)(w:World)(ha:DigI w A n c (digs x))(hb:DigI w A' n' c' (digs y))(hy:0<y)(hn:n≤1048576)(hn':n'≤1048576) :
  Calls Tryz.prog 116 #[.slice A n c,.slice A' n' c'] w (zh1 w x y):=by
 rcases Nat.lt_or_ge x y with h | h
 ·exact zmc A A' n c n' c' x y w ha hb h hn hn'
 ·have hl:=hb.len
  have hp:=zas hy
  rcases Nat.lt_or_ge y B with h1 | h1
  ·have:n'=1:=by rw[←hl,zbj hy h1];rfl
   subst this;exact zno A A' n c c' x y w ha hb h hy h1 hn
  ·have h2:2≤n':=by
    rcases Nat.lt_or_ge n' 2 with h3 | h3
    ·exfalso
     have h4:=zad y;rw[hl,show n'=1 from by omega,Nat.pow_one] at h4;omega
    ·exact h3
   exact zlM A A' n c n' c' x y (n'-2) w ha hb (by omega) h hn
end Go.Proofs.YtmkondcdejlhcaaGreatDoor
