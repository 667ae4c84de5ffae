/- Contract of the reference's long division: divDigits by two digits or more. -/
import Derived.Test.YtmkondcdejlhcaaGreatDoorBRkd4
import Derived.Test.YtmkondcdejlhcaaGreatDoorBDw
import Derived.Deep.RegionHeld3
namespace Go.Proofs.YtmkondcdejlhcaaGreatDoor
open Go.RowKit Dn
theorem RowI.store {w:World} {base g g' n c:Nat} {l:List Nat} (h:RowI w base g n c l) (hne:g'≠g) (i:Nat) (u:Value):RowI (w.setCell ⟨g',i,none⟩ u) base g n c l:=
 h.kept (zbi (World.grownBy.refl w _) (.inl rfl) u) (fun e=>by injection e with e;exact hne e)
theorem ziu {w:World} {base g n c j i:Nat} {L ws:List Value} (h:w.ownsRow base 3 1 (.slice (some ⟨g,0,none⟩) n c) n (mid L j ws)) (hi:ws.length=i) (hj:j+i<L.length) :
  w.cell? ⟨g,i+j,none⟩=L[j+i]? ∧ ∀ u:Value,(w.setCell ⟨g,i+j,none⟩ u).ownsRow base 3 1 (.slice (some ⟨g,0,none⟩) n c) n (mid L j (ws++[u])):=by
 subst hi;have hl:=h.1;rw [zko _ _ _ (by omega)] at hl
 constructor
 ·rw [World.ownsRow.cellAt h (ws.length+j) (by omega),Nat.add_comm ws.length j,zp8 _ _ _ (by omega)]
 ·intro u
  have h1:=(World.ownsRow.stored h (ws.length+j) u).1;rw [show ws.length+j=j+ws.length from Nat.add_comm _ _,zqW _ _ _ _ hj] at h1;rw [show ws.length+j=j+ws.length from Nat.add_comm _ _];exact h1
theorem zk1 {w:World} {base g n c j i:Nat} {L ws:List Value} (h:w.ownsRow base 3 1 (.slice (some ⟨g,0,none⟩) n c) n (mid L j ws)) (hi:ws.length=i) (hj:j+i<L.length) :
  w.cell? ⟨g,j+i,none⟩=L[j+i]? ∧ ∀ u:Value,(w.setCell ⟨g,j+i,none⟩ u).ownsRow base 3 1 (.slice (some ⟨g,0,none⟩) n c) n (mid L j (ws++[u])):=by
 have h1:=ziu h hi hj
 rwa [Nat.add_comm i j] at h1
set_option maxHeartbeats 8000000 in
set_option maxRecDepth 100000 in
theorem znF (A A':Option Addr) (n c n' c' x y k:Nat) (w:World) (ha:DigI w A n c (digs x)) (hb:DigI w A' n' c' (digs y)) (hk:n'=k+2) (hyx:y≤x) (hn:n≤1048576) :
  Calls Tryz.prog 116 #[.slice A n c,.slice A' n' c'] w (ziR w x y):=by
 obtain ⟨i0,iA,iN,iG,gD⟩:=info_parts zcL;have jL:(digs x).length=n:=ha.len;have iL:(digs y).length=k+2:=by rw [hb.len];exact hk
 obtain ⟨F,hF⟩:∃ F,F=B / ((digs y).getD (k+1) 0+1):=⟨_,rfl⟩;obtain ⟨V,hV⟩:∃ V,V=y*F:=⟨_,rfl⟩;obtain ⟨X,hX⟩:∃ X,X=x*F:=⟨_,rfl⟩;obtain ⟨iZ,jJ,fJ,kB,bT,dY,dF,dJ,jS⟩:=znq jL iL hyx hF hV hX;have lT:n'≤1048576:=by omega
 have lG:2≤n':=by omega
 have lC:∃ r:Int,0≤r∧Bn.ncmp x y=r:=⟨Bn.ncmp x y,by rcases Nat.lt_or_ge y x with h | h;(· rw [Bn.ncmp_gt h];decide);(· rw [show x=y from by omega,Bn.ncmp_eq];exact Int.le_refl 0),rfl⟩
 obtain ⟨r,mO,hr⟩:=lC;have hc:=zcw A A' n c n' c' x y w ha.rd hb.rd (by omega) (by omega);rw [hr] at hc;have d0:decide (r<0)=false:=by simp;omega
 have d1:((n':Int)==1)=false:=by rw [beq_eq_false_iff_ne];omega
 have HC:=Aa hc;obtain ⟨k1,jX⟩:∃ k1,k1=k+1:=⟨_,rfl⟩;have e1:(n':Int) - 1=(k1:Int):=by omega
 have cJ:F<1000000000:=jJ;have HA:=Aa ha;have HB:=Aa hb;have fO:=Aa kB;have kH:=Aa bT;have jI:=Aa (And.intro dY dF);have lX:=Aa dJ;have dP:=Aa jS;have jR:=Aa hV;have jM:=Aa hX;have HK:=Aa hk;have jU:=Aa jX;have fG:=Aa iZ;have lR:=Aa hF;have mW:=Aa iL;have mG:2≤n:=by omega
 have jF:0<y:=by
  rcases Nat.eq_zero_or_pos y with h0 | h0
  ·rw [h0,Nat.zero_mul] at hV;omega
  ·exact h0
 have lH:=Aa jF;have lL:=Aa fJ;clear hc hr kB bT dY dF dJ jS hV hX hk jX iZ hF jL iL hyx ha hb jF fJ jJ;go_enter Tryz.func116,Tryz.ntmps116
 go_wp2_with fail
 refine HC.out.mono ?_;rintro e w1 ⟨rfl,fL⟩;have fK:=HB.out.later fL;have iY:=HA.out.later fL;obtain ⟨lW,iT,rfl,mP,gT⟩:=fK.rd.cellM (k:=k1) (by have:=HK.out;have:=jU.out;omega);have cG:=zat y _ (List.getElem_mem iT);have iK:(digs y).getD (k+1) 0=(digs y)[k1]:=by
  have:=jU.out;subst this;exact Dn.getD_in iT
 unfold natv at gT;obtain ⟨b1,cZ⟩:∃ b1,(digs y)[k1]=b1:=⟨_,rfl⟩;rw [cZ] at gT iK cG;have eF:(1000000000:Int) / ((b1:Int)+1)=(F:Int):=by
  rw [lR.out,iK];show _=((1000000000 / (b1+1):Nat):Int)
  rw [Int.natCast_ediv];simp
 have jQ:b1<1000000000:=cG;have dz:(((b1:Int)+1)==0)=false:=by rw [beq_eq_false_iff_ne];omega
 have mN:=Aa fK;have mU:=Aa iY;have fQ:Below w1.heap.size w1 (w1.alloc (.cells #[.int .i64 (F:Int)] 3)):=Ac;have iC:=CBlk.new w1 #[.int .i64 (F:Int)] 3 _ rfl;have iO:DigI (w1.alloc (.cells #[.int .i64 (F:Int)] 3)) (some ⟨w1.heap.size,0,none⟩) 1 1 (digs F):=by rw [zbq fG.out cJ];exact DigI.one iC cJ
 have iB:=Aa (zdj (some lW) _ n' c' 1 1 y F _ (fK.later fQ) iO (by omega) (by omega));rw [←jR.out] at iB;clear cZ iK cG fK iY
 go_wp2_with fail
 refine iB.out.mono ?_;rintro e w2 ⟨Av,nv,cv,rfl,hv,fS⟩;have iX:=iO.later fS;have cN:=fL.trans ((fQ.trans (fS.mono fQ.size)).mono fL.size);have jV:=HA.out.later cN;have bO:Hid (nv=n'):=by
  show nv=n'
  rw [←hv.len,fO.out,HK.out]
 have kR:nv≤1048576:=by rw [bO.out];exact lT
 have kN:w2.cell? ⟨w1.heap.size,0,none⟩=some (.int .i64 (F:Int)):=(iC.below fS (by simp)).cell 0;have jB:w1.heap.size<w2.heap.size:=by have:=fS.size;simp at this;omega
 clear iO iC iB fQ gT eF dz;have bG:Below w2.heap.size w2 (w2.alloc (.cells #[] 3)):=Ac;have dA:=znu w2 w2.heap.size 3 (Nat.le_refl _);have gW:=Aa (zdj A _ n c 1 1 x F _ (jV.later bG) (iX.later bG) (by omega) (by omega));rw [←jM.out] at gW
 go_wp2_with fail
 refine gW.out.mono ?_;rintro e w4 ⟨Ax,nx,cx,rfl,fI,iI⟩;have bI:=zn7 dA iI;have bF:=Ad bG iI;have fD:=fI.len;have gF:n≤nx:=by rw [←fD];exact jI.out.1
 have iR:nx≤n+1:=by rw [←fD];exact jI.out.2
 obtain ⟨ax,rfl,_⟩:=fI.rd.2 (by omega);have kU:=Aa fI;have kW:=Aa fD;have cR:=bF.size;clear fD fI dA bG gW iX jV
 go_wp2_with (at_builtin;refine wpList_append_own _ rfl _ _ 60 rfl w2.heap.size 3 i0 (.int .i64 0) 1 8 Tryz.underlying60 iA iN iG gD rfl (by decide) _ _ _ rfl bI ax nx cx ((digs X).map natv) rfl ?c0 ?c1 ?c2 ?c3 ?c4 ?c5 ?_)
 case c0=>rw [List.length_map,kW.out,Nat.mul_one]
 case c1=>exact zaC.cellsD kU.out.rd
 case c2=>exact zpD _
 case c3=>unfold maxLen;omega
 case c4=>omega
 case c5=>exact cR
 intro v5 w5 aU aT _;obtain ⟨gu,cu,rfl,kO⟩:=zkM aU (by omega);have bS:Below w2.heap.size w2 w5:=bF.grown aT cR (fun g hg=>(World.ownsRow.lt bI g hg).1);clear aT bI bF iI cR;obtain ⟨M,hM⟩:∃ M,M=n+1:=⟨_,rfl⟩;have eM:(n:Int)+1=(M:Int):=by omega
 have mT:M≤1048577:=by omega
 have HM:=Aa hM;have kY:nx≤M:=by omega
 clear hM iR;go_wp2
 go_loopg [11] M (fun q kS W=>∃ (m g cg:Nat) (ls:List Nat),kS = .slice (some ⟨g,0,none⟩) m cg∧n≤m∧m≤M∧M - m≤q∧RowI W w2.heap.size g m cg ls∧Hid (Wf ls∧val ls=X)∧Below w2.heap.size w2 W)
 case atStart=>exact ⟨nx,gu,cu,digs X,rfl,gF,kY,by omega,aU,⟨zat X,zak X⟩,bS⟩
 case round=>
  clear bS aU kO;obtain ⟨m,g,cg,ls,rfl,nC,nI,hq,aR,dM,aD⟩:=hrel;have hJ:=aD.size
  by_cases hm:m<M
  ·have lZ:decide (m<M)=true:=by simp;omega
   go_wp2_with (at_builtin;refine wpList_append_own _ rfl _ _ 60 rfl w2.heap.size 3 i0 (.int .i64 0) 1 8 Tryz.underlying60 iA iN iG gD rfl (by decide) _ _ _ rfl (aR.alloc _) ⟨wr.heap.size,0,none⟩ 1 1 [.int .i64 0] rfl rfl ?c1 ?c2 ?c3 ?c4 ?c5 ?_)
   case c1=>exact cell_one_new _ _ _
   case c2=>intro u hu;simp at hu;subst hu;rfl
   case c3=>unfold maxLen;omega
   case c4=>omega
   case c5=>simp;omega
   intro v' w6 cA bQ _;obtain ⟨g',c9,rfl,nE⟩:=zkM cA (by omega);have mH:Below w2.heap.size w2 w6:=(aD.alloc hJ _).grown bQ (by simp;omega) (fun g hg=>(World.ownsRow.lt aR g hg).1);clear bQ;go_wp2
   go_roundg (M - (m+1))
   case measure=>omega
   case rel=>exact ⟨m+1,g',c9,ls++[0],rfl,by omega,by omega,Nat.le_refl _,by unfold RowI;rw [List.map_append];exact cA,⟨dM.out.1.append (Wf.cons zaV Wf.nil),by rw [zaT,dM.out.2];simp⟩,mH⟩
  ·obtain rfl:m=M:=by omega
   have lZ:decide (m<m)=false:=by simp
   obtain ⟨L,hL⟩:∃ L,L=m - nv:=⟨_,rfl⟩;have fJ:=lL.out;have iU:=HK.out;have kP:=HM.out;have iD:=bO.out;have eL:(m:Int) - (nv:Int)=(L:Int):=by omega
   have nG:1≤L:=by omega
   have nA:L≤n:=by omega
   have HL:=Aa hL;have lK:2≤nv:=by omega
   have mJ:nv≤n:=by omega
   clear hL fJ iU iD kP
   go_wp2_with (at_make;refine wpList_make_full _ rfl _ _ 60 rfl w2.heap.size 3 i0 (.int .i64 0) 1 Tryz.underlying60 iA iN iG _ _ _ _ L rfl rfl (by omega) (by omega) ?b2 ?b3 hJ ?_)
   case b2=>rw [gD];omega
   case b3=>unfold maxLen;omega
   intro w6 bP aM;have aA:=RowI.made bP;have aC:=aR.kept aM (by simp);have cB:Below w2.heap.size w2 w6:=aD.grown aM hJ (fun k h=>by cases h);have cT:g≠wr.heap.size:=by have:=aR.lt.2;omega
   clear bP aM;generalize lB:wr.heap.size=gq at *;have bW:=zea.start (L:=L) dM.out.1 dM.out.2 dP.out (by have:=lX.out;rw [HL.out,bO.out,HK.out,HM.out];exact this) (by rw [aR.len];have:=HL.out;omega);have jW:=Aa bW;clear bW aD aR dM lB;go_wp2
   go_loopg [13] L (fun q lJ W=>∃ (kk:Nat) (lu lq:List Nat),kk≤L∧lJ = .int .i64 ((kk:Int) - 1)∧kk≤q∧RowI W w2.heap.size g m cg lu∧RowI W w2.heap.size gq L L lq∧Hid (zea X V L kk lu lq)∧Below w2.heap.size w2 W)
   case atStart=>exact ⟨L,ls,_,Nat.le_refl _,by first | rfl | go_num,Nat.le_refl _,aC,aA,jW.out,cB⟩
   case round=>
    clear cB aC aA jW;obtain ⟨kk,lu,lq,iU,rfl,hq,aC,aA,aO,aD⟩:=hrel
    by_cases h0:0<kk
    ·obtain ⟨j,rfl⟩:∃ j:Nat,kk=j+1:=⟨kk - 1,by omega⟩
     have ej:((j+1:Nat):Int) - 1=(j:Int):=by omega
     rw [ej];have dT:V<B ^ (k+2):=by have:=zae V;rwa [fO.out] at this
     have cM:j+(k+2)<lu.length:=by have:=HL.out;have:=bO.out;have:=HK.out;rw [aC.len];omega
     obtain ⟨iS,kC,bU⟩:=aO.out.window dT cM;have jO:=hv.later aD;have hg:=zlC (some ⟨g,0,none⟩) Av m cg nv cv j k lu (digs V) wr aC.reads jO.rd aO.out.1 (zat V) (by rw [bO.out,HK.out]) (by rw [←aC.len];exact cM) (by omega) kH.out iS (by rw [zak];exact kC);rw [zak] at hg;have HG:=Aa hg;have lF:=Aa bU;have fR:=Aa dT;have mB:=Aa cM;have mF:j+nv<m:=by have:=bO.out;have:=HK.out;have:=aC.len;omega
     clear hg iS kC bU dT cM jO ej
     go_wp2_with fail
     refine HG.out.mono ?_;rintro e w7 ⟨⟨t,rfl,jK,jE⟩,qd,rfl⟩;have aV:=aC.drewN qd;have aW:=aA.drewN qd;have bN:=zac aD qd;have mE:=Aa jE;have lQ:t<1000000000:=jK;clear aC aA aD jE HG;generalize wr.drewN qd=w7 at *;go_wp2
     go_loopg [15,16] nv (fun q vb vi W=>∃ (ii bb:Nat) (ws:List Nat),ii≤nv∧vi = .int .i64 (ii:Int)∧vb = .int .i64 (bb:Int)∧bb≤1000000000∧nv - ii≤q ∧
      W.ownsRow w2.heap.size 3 1 (.slice (some ⟨g,0,none⟩) m cg) m (mid (lu.map natv) j (ws.map natv))∧RowI W w2.heap.size gq L L lq ∧
      Hid (Wf ws∧ws.length=ii∧val ws+t*val ((digs V).take ii)=val ((lu.drop j).take ii)+B ^ ii*bb)∧Below w2.heap.size w2 W)
     case atStart=>exact ⟨0,0,[],by omega,rfl,rfl,by omega,by omega,by rw [List.map_nil,znf];exact aV,aW,⟨Wf.nil,rfl,by simp⟩,bN⟩
     case round=>
      clear bN aW;obtain ⟨ii,bb,ws,nF,rfl,rfl,lD,nB,aE,aA,fE,aD⟩:=hrel;obtain ⟨aL,aJ,aP⟩:=fE.out;have cV:lu.length=m:=aV.len;have bC:(lu.map natv).length=m:=by rw [List.length_map];exact cV
      have bA:(ws.map natv).length=ii:=by rw [List.length_map];exact aJ
      by_cases bR:ii<nv
      ·obtain ⟨mD,dL,rfl,mC,dH⟩:=(hv.later aD).rd.cellM (k:=ii) bR
       have dX:=zat V _ (List.getElem_mem dL);unfold natv at dH;obtain ⟨vk,cP⟩:∃ vk,(digs V)[ii]=vk:=⟨_,rfl⟩;rw [cP] at dH dX;obtain ⟨aS,bJ⟩:=ziu aE bA (by rw [bC];omega);have cS:j+ii<lu.length:=by omega
       obtain ⟨uk,fN⟩:∃ uk,lu[j+ii]=uk:=⟨_,rfl⟩;have gU:=aO.out.1.get cS;rw [fN] at gU;have fV:wr.cell? ⟨g,ii+j,none⟩=some (.int .i64 (uk:Int)):=by
        rw [aS,List.getElem?_map,List.getElem?_eq_getElem cS,fN];rfl
       have fU:=zbR aE (ii+j);have iJ:vk<1000000000:=dX;have kJ:uk<1000000000:=gU;obtain ⟨pv,dO⟩:∃ pv,pv=t*vk:=⟨_,rfl⟩;have mA:pv≤999999999000000000:=by
        rw [dO];exact Nat.le_trans (Nat.mul_le_mul (show t≤999999999 by omega) (show vk≤1000000000 by omega)) (by decide)
       have em:(t:Int)*(vk:Int)=(pv:Int):=by rw [dO];exact (Int.natCast_mul t vk).symm
       obtain ⟨pp,jA⟩:∃ pp,pp=pv+bb:=⟨_,rfl⟩;have ep:(pv:Int)+(bb:Int)=(pp:Int):=by omega
       obtain ⟨pm,fP⟩:∃ pm,pm=pp % B:=⟨_,rfl⟩;obtain ⟨pd,cY⟩:∃ pd,pd=pp / B:=⟨_,rfl⟩;have kM:pp≤999999999000000000+1000000000:=by omega
       have lP:pm<1000000000:=by rw [fP];exact Nat.mod_lt _ zaV
       have lM:pd≤999999999+1:=by rw [cY];unfold B;omega
       have lA:pd≤999999999:=by
        have h1:pv≤999999999*999999999:=by rw [dO];exact Nat.mul_le_mul (by omega) (by omega)
        rw [cY];unfold B;omega
       have es:(pp:Int) % 1000000000=(pm:Int):=by rw [fP];unfold B;omega
       have ed:(pp:Int) / 1000000000=(pd:Int):=by rw [cY];unfold B;omega
       obtain ⟨m1,m2⟩:=zpQ (p:=pp) gU;rw [←fP,←cY] at m1 m2;have kQ:ii<(lu.drop j).length:=by rw [List.length_drop];omega
       have cQ:=fun (d b':Nat)=>zqK ws (digs V) (lu.drop j) ii t d bb b' aJ dL kQ aP
       simp only [List.getElem_drop,cP,fN] at cQ
       rw [←dO] at cQ;have mI:=Aa cQ;have iP:=Aa bJ;have jD:=Aa (And.intro aL aJ);have cL:=(zog aE).1;have jY:pv+bb=pp:=jA.symm;have kL:=Aa jY
       by_cases hneg:uk<pm
       case' pos=>obtain ⟨h1,h2⟩:=m2 hneg
       case' neg=>obtain ⟨h1,h2⟩:=m1 (by omega)
       case' pos=>obtain ⟨dd,fM⟩:∃ dd,dd=uk+B - pm:=⟨_,rfl⟩
       case' neg=>obtain ⟨dd,fM⟩:∃ dd,dd=uk - pm:=⟨_,rfl⟩
       case' pos=>obtain ⟨b2,bK⟩:∃ b2,b2=pd+1:=⟨_,rfl⟩
       case' neg=>obtain ⟨b2,bK⟩:∃ b2,b2=pd:=⟨_,rfl⟩
       case' pos=>obtain ⟨z,hz⟩:∃ z:Int,z=(uk:Int) - (pm:Int):=⟨_,rfl⟩
       case' neg=>obtain ⟨z,hz⟩:∃ z:Int,z=(dd:Int):=⟨_,rfl⟩
       case' pos=>have mL:(uk:Int) - (pm:Int)=z:=hz.symm
       case' neg=>have mL:(uk:Int) - (pm:Int)=z:=by omega
       case' pos=>have dz:decide (z<0)=true:=by simp;omega
       case' neg=>have dz:decide (z<0)=false:=by simp;omega
       case' pos=>have ez:z+1000000000=(dd:Int):=by rw [hz,fM];unfold B;omega
       case' pos=>have eb:(pd:Int)+1=(b2:Int):=by omega
       case' neg=>subst hz
       all_goals
        rw [←fM] at h1 h2;have bV:=mI.out dd b2 (by rw [kL.out,bK];exact h2);have dZ:Hid (Wf (ws++[dd])∧(ws++[dd]).length=ii+1∧val (ws++[dd])+t*val ((digs V).take (ii+1))=val ((lu.drop j).take (ii+1))+B ^ (ii+1)*b2):=
         ⟨jD.out.1.append (Wf.cons h1 Wf.nil),by rw [List.length_append,jD.out.2];rfl,bV⟩
        have kF:=Aa (iP.out (.int .i64 (dd:Int)));have kX:=Aa bK;have iH:b2≤1000000000:=by omega
        clear h1 h2 bV cQ bJ m1 m2 fM bK jA fP cY dO cP fN aS fE aP aJ aL bC bA cV jY
        first | clear hz | skip
        go_wp2
        go_roundg (nv - (ii+1))
        case measure=>omega
        case rel=>exact ⟨ii+1,b2,ws++[dd],by omega,by go_num,by first | rfl | rw [kX.out],iH,Nat.le_refl _,by rw [List.map_append];exact kF.out,aA.store cT _ _,dZ.out,aD.setCell cL _⟩
      ·obtain rfl:ii=nv:=by omega
       have aN:ii=k+2:=by rw [bO.out,HK.out]
       have cM:=mB.out;have cS:j+ii<lu.length:=by omega
       obtain ⟨ut,dV⟩:∃ ut,lu[j+ii]=ut:=⟨_,rfl⟩;have dW:=aO.out.1.get cS;rw [dV] at dW;have jT:ut<1000000000:=dW;have iF:lu.getD (j+(k+2)) 0=ut:=by
        rw [←aN,Dn.getD_in cS,dV]
       have bU:=lF.out;rw [iF] at bU;have cI:(digs V).take ii=digs V:=List.take_of_length_le (by rw [fO.out];omega);rw [cI,zak,aN] at aP;have gN:val ws<B ^ (k+2):=by have:=zbI aL;rw [aJ,aN] at this;exact this
       obtain ⟨fA,fH⟩:=zqP aP gN fR.out dP.out (by rw [←bU];exact mE.out);rw [←bU] at fA fH;obtain ⟨aS,bJ⟩:=zk1 aE bA (by rw [bC];omega);have fV:wr.cell? ⟨g,j+ii,none⟩=some (.int .i64 (ut:Int)):=by
        rw [aS,List.getElem?_map,List.getElem?_eq_getElem cS,dV];rfl
       have fU:=zbR aE (j+ii);have cL:=(zog aE).1;obtain ⟨z0,bM⟩:∃ z0:Int,z0=(ut:Int) - (bb:Int):=⟨_,rfl⟩;have ez:(ut:Int) - (bb:Int)=z0:=bM.symm;have aH:=bJ (.int .i64 z0);have dG:(wr.setCell ⟨g,j+ii,none⟩ (.int .i64 z0)).cell? ⟨g,j+ii,none⟩=some (.int .i64 z0):=by
        have h9:=World.ownsRow.cellAt aH (j+ii) (by omega);rw [h9,zgW _ _ _ _ (by rw [bC];omega) (by simp [aJ]),List.getElem?_append_right (by rw [bA];exact Nat.le_refl _),bA,Nat.sub_self];rfl
       have aF:=aA.store cT (j+ii) (.int .i64 z0);have aK:=aD.setCell (p:=⟨g,j+ii,none⟩) cL (.int .i64 z0);have dR:=Aa aH;have gQ:=Aa aF;have gV:=Aa aK;have cE:=Aa (And.intro aL aJ);have gL:=Aa aN;have mZ:=Aa bM
       by_cases hcase:bb≤ut
       ·obtain ⟨q1,q2,q3⟩:=fA hcase
        have aZ:z0=0:=by omega
        have dz:decide (z0<0)=false:=by simp;omega
        have iQ:=aF.cell j (by omega);have kI:=aF.free j;generalize lq.getD j 0=old at iQ;have aG:RowI (wr.setCell ⟨g,j+ii,none⟩ (.int .i64 z0)) w2.heap.size g m cg (mid lu j (ws++[0])):=by
         unfold RowI;rw [zn2,List.map_append];have h9:=aH;rw [aZ] at h9 ⊢;exact h9
        have gC:=Aa (aG.store (Ne.symm cT) j (.int .i64 (t:Int)));have gI:=Aa (aF.set j t);have dZ:=Aa (aO.out.next aJ (by omega) (by rw [aN];exact fR.out) dP.out aL (by omega) q2 q3 jK);have iM:=Aa (aK.setCell (p:=⟨gq,j,none⟩) aF.lt.1 (.int .i64 (t:Int)));clear q1 q2 q3 fA fH aZ bM aP gN bU iF cI dV aS bJ aH aF aK aG aN cM fE aL aJ cV bC bA aE aA;go_wp2
        go_roundg j
        case measure=>omega
        case rel=>exact ⟨j,_,_,by omega,rfl,Nat.le_refl _,gC.out,gI.out,dZ.out,iM.out⟩
       ·obtain ⟨q1,q2,q3⟩:=fH (by omega)
        have aZ:z0 = -1:=by omega
        have dz:decide (z0<0)=true:=by simp;omega
        obtain ⟨t1,gS⟩:∃ t1,t1=val (lu.drop j) / V:=⟨_,rfl⟩;rw [←gS] at q2;have et:(t:Int) - 1=(t1:Int):=by omega
        have dB:t1<B:=by omega
        have jH:t1<1000000000:=dB;obtain ⟨L2,aQ⟩:∃ L2,L2=mid (lu.map natv) j (ws.map natv++[Value.int .i64 z0]):=⟨_,rfl⟩;rw [←aQ] at aH;have bB:(ws.map natv++[Value.int .i64 z0]).length=ii+1:=by rw [List.length_append,bA];rfl
        have dS:L2.length=m:=by rw [aQ,zko _ _ _ (by rw [bB,bC];omega),bC]
        have dQ:∀ i (h:i<ws.length),L2[j+i]? = some (natv ws[i]):=fun i h=>by
         rw [aQ,zgW _ _ _ _ (by rw [bC];omega) (by rw [bB];omega),List.getElem?_append_left (by rw [bA];omega),List.getElem?_map,List.getElem?_eq_getElem h];rfl
        have dU:L2[j+ii]? = some (.int .i64 z0):=by
         rw [aQ,zgW _ _ _ _ (by rw [bC];omega) (by rw [bB];omega),List.getElem?_append_right (by rw [bA];exact Nat.le_refl _),bA,Nat.sub_self];rfl
        have dN:∀ aI:List Nat,aI.length=ii→mid L2 j (aI.map natv++[Value.int .i64 0])=(mid lu j (aI++[0])).map natv:=fun aI h=>by
         rw [zn2,List.map_append,aQ];exact zqy _ _ _ _ (by rw [bC];omega) (by rw [bB,List.length_append,List.length_map,h];rfl)
        have gX:=Aa dQ;have gY:=Aa dU;have gR:=Aa dN;have mM:=Aa gS;have fX:=Aa aZ;have gP:=Aa q3;have kT:=Aa cI;have mR:j+ii<m:=mF;clear q1 q2 q3 fA fH aZ bM aP gN bU iF cI dV aS bJ aN cM fE aL cV bC bA bB aE aA gS aQ dQ dU dN dR;have gZ:=Aa dG;go_wp2
        clear fV fU;generalize wr.setCell ⟨g,j+ii,none⟩ (.int .i64 z0)=w8 at *
        go_loopg [19,20] ii (fun q vc vi W=>∃ (i2 cc:Nat) (aI:List Nat),i2≤ii∧vi = .int .i64 (i2:Int)∧vc = .int .i64 (cc:Int)∧cc≤1∧ii - i2≤q ∧
         W.ownsRow w2.heap.size 3 1 (.slice (some ⟨g,0,none⟩) m cg) m (mid L2 j (aI.map natv))∧RowI W w2.heap.size gq L L lq ∧
         Hid (Wf aI∧aI.length=i2∧val aI+B ^ i2*cc=val (ws.take i2)+val ((digs V).take i2))∧Below w2.heap.size w2 W)
        case atStart=>exact ⟨0,0,[],by omega,rfl,rfl,by omega,by omega,by rw [List.map_nil,znf];exact aH,aF,⟨Wf.nil,rfl,by simp⟩,aK⟩
        case round=>
         clear aH aF aK dG gQ gV gZ;obtain ⟨i2,cc,aI,mQ,rfl,rfl,mS,mV,aE,aA,cO,aD⟩:=hrel;obtain ⟨dK,cC,cW⟩:=cO.out;have bD:(aI.map natv).length=i2:=by rw [List.length_map];exact cC
         have bZ:=(zog aE).1
         by_cases hin2:i2<ii
         ·obtain ⟨mD,dL,rfl,mC,dH⟩:=(hv.later aD).rd.cellM (k:=i2) hin2
          have dX:=zat V _ (List.getElem_mem dL);unfold natv at dH;obtain ⟨vk,cP⟩:∃ vk,(digs V)[i2]=vk:=⟨_,rfl⟩;rw [cP] at dH dX;have bE:i2<ws.length:=by rw [cE.out.2];exact hin2
          obtain ⟨wk,fT⟩:∃ wk,ws[i2]=wk:=⟨_,rfl⟩;have jC:=cE.out.1.get bE;rw [fT] at jC;have cK:j+i2<L2.length:=by rw [dS];omega
          obtain ⟨aS,_⟩:=ziu aE bD cK;have fV:wr.cell? ⟨g,i2+j,none⟩=some (.int .i64 (wk:Int)):=by
           rw [aS,gX.out i2 bE,fT];rfl
          have fU:=zbR aE (i2+j);have iJ:vk<1000000000:=dX;have lI:wk<1000000000:=jC;obtain ⟨s1,jN⟩:∃ s1,s1=wk+vk:=⟨_,rfl⟩;obtain ⟨tt,jZ⟩:∃ tt,tt=s1+cc:=⟨_,rfl⟩;obtain ⟨lo,fB⟩:∃ lo,lo=tt % B:=⟨_,rfl⟩;obtain ⟨cH,fW⟩:∃ cH,cH=tt / B:=⟨_,rfl⟩;have iE:lo<B:=by rw [fB];exact Nat.mod_lt _ zaV
          have gJ:cH≤1:=by rw [fW];unfold B;omega
          have mK:tt<4000000000:=by omega
          have es:(tt:Int) % 1000000000=(lo:Int):=by rw [fB];unfold B;omega
          have ed:(tt:Int) / 1000000000=(cH:Int):=by rw [fW];unfold B;omega
          have cQ:=zqb aI ws (digs V) i2 lo cc cH cC bE dL cW (by rw [fT,cP,fB,fW,Nat.mod_add_div,jZ,jN]);have lU:Hid (Wf (aI++[lo])∧(aI++[lo]).length=i2+1∧val (aI++[lo])+B ^ (i2+1)*cH=val (ws.take (i2+1))+val ((digs V).take (i2+1))):=
           ⟨dK.append (Wf.cons iE Wf.nil),by rw [List.length_append,cC];rfl,cQ⟩
          have iP:=Aa (fun q=>(ziu (w:=wr.drewN q) aE bD cK).2 (.int .i64 (lo:Int)));have lO:=Aa (fun q=>(aA.drewN q).store cT (i2+j) (.int .i64 (lo:Int)));have fC:=Aa (fun q=>(zac aD q).setCell (p:=⟨g,i2+j,none⟩) bZ (.int .i64 (lo:Int)));have g1:IntKind.i64.wrap ((i2:Int)+(j:Int))=((i2+j:Nat):Int):=by rw [IntWalk.i64_in _ (by omega)];omega
          have g2:IntKind.i64.wrap ((wk:Int)+(vk:Int))=(s1:Int):=by rw [IntWalk.i64_in _ (by omega)];omega
          have g3:IntKind.i64.wrap ((s1:Int)+(cc:Int))=(tt:Int):=by rw [IntWalk.i64_in _ (by omega)];omega
          have p1:(0:Int)≤((i2+j:Nat):Int):=by omega
          have p2:((i2+j:Nat):Int)<(m:Int):=by omega
          have p3:(0:Int)≤(i2:Int):=by omega
          have p4:(i2:Int)<(ii:Int):=by omega
          clear cP fT jN jZ fB fW aS cQ dK cC cW bD cO cK aA aE;go_upto_region 35 with (fail)
          go_quiet (fail)
          clear g1 g2 g3 p1 p2 p3 p4;go_wp2
          go_roundg (ii - (i2+1))
          case measure=>omega
          case rel=>exact ⟨i2+1,cH,aI++[lo],by omega,by go_num,rfl,gJ,Nat.le_refl _,by rw [List.map_append];exact iP.out _,lO.out _,lU.out,fC.out _⟩
         ·obtain rfl:i2=ii:=by omega
          rw [kT.out,zak,List.take_of_length_le (by rw [cE.out.2];exact Nat.le_refl _),gP.out,gL.out] at cW;have lS:val aI<B ^ (k+2):=by have:=zbI dK;rw [cC,gL.out] at this;exact this
          have lY:val (lu.drop j) % V<V:=Nat.mod_lt _ dP.out;have lN:=fR.out;have bL:cc=1∧val aI=val (lu.drop j) % V:=by
           have:cc=0∨cc=1:=by omega
           rcases this with rfl | rfl
           ·rw [Nat.mul_zero] at cW;omega
           ·rw [Nat.mul_one] at cW;exact ⟨rfl,by omega⟩
          obtain ⟨bL,dD⟩:=bL;obtain ⟨aS,bJ⟩:=zk1 aE bD (by rw [dS];omega);have fV:wr.cell? ⟨g,j+i2,none⟩=some (.int .i64 z0):=by rw [aS,gY.out]
          have fU:=zbR aE (j+i2);have mY:z0+(cc:Int)=0:=by rw [fX.out,bL];rfl
          have bH:=bJ (.int .i64 0);rw [gR.out aI cC] at bH;have aG:RowI (wr.setCell ⟨g,j+i2,none⟩ (.int .i64 0)) w2.heap.size g m cg (mid lu j (aI++[0])):=bH;have aF:=aA.store cT (j+i2) (.int .i64 0);have aK:=aD.setCell (p:=⟨g,j+i2,none⟩) bZ (.int .i64 0);have iQ:=aF.cell j (by omega);have kI:=aF.free j;generalize lq.getD j 0=old at iQ;have gC:=Aa (aG.store (Ne.symm cT) j (.int .i64 (t1:Int)));have gI:=Aa (aF.set j t1);have dZ:=Aa (aO.out.next cC (by omega) (by rw [gL.out];exact fR.out) dP.out dK (by omega) mM.out dD dB);have iM:=Aa (aK.setCell (p:=⟨gq,j,none⟩) aF.lt.1 (.int .i64 (t1:Int)));clear cW lS lY lN bL dD aS bJ bH aG aF aK dK cC bD cO aE aA;go_wp2
          go_roundg j
          case measure=>omega
          case rel=>exact ⟨j,_,_,by omega,rfl,Nat.le_refl _,gC.out,gI.out,dZ.out,iM.out⟩
    ·obtain rfl:kk=0:=by omega
     have bR:=aO.out;have fZ:val lu<V:=by have:=bR.2.2.2.2;simpa using this
     have iV:=bR.1;have jG:=bR.2.1;rw [jM.out,jR.out] at bR;obtain ⟨kE,gO⟩:=bR.done lH.out fG.out;have dT:V<B ^ nv:=by have:=zae V;rw [fO.out] at this;rw [bO.out,HK.out];exact this
     have cV:lu.length=m:=aC.len;have cI:val (lu.take nv)=x % y*F:=by
      have hs:=zaD lu nv (by omega)
      rcases Nat.eq_zero_or_pos (val (lu.drop nv)) with h9 | h9
      ·rw [h9,Nat.mul_zero,Nat.add_zero] at hs
       rw [←hs,gO]
      ·exfalso
       have:=Nat.le_mul_of_pos_right (B ^ nv) h9;omega
     have kD:x % y*F<B ^ nv:=by rw [←gO];omega
     have gE:=aC.caps;have gK:=(aC.reads.take (m:=nv) (by omega));rw [←List.map_take] at gK;have dI:Below wr.heap.size wr wr.drew:=(Below.refl _ _).drew;have ht:=zc2 (some ⟨g,0,none⟩) nv cg (lu.take nv) wr.drew ⟨gK,by omega,gE.2,iV.take _⟩ (by omega);rw [cI] at ht;have gG:=fun (W:World) (hb:Below wr.heap.size wr W)=>zc2 (some ⟨gq,0,none⟩) L L lq W ((aA.dig jG).later hb) (by omega)
     simp only [kE] at gG
     have fF:=(aD.cell (p:=⟨w1.heap.size,0,none⟩) jB).trans kN;have fY:w1.heap.size<wr.heap.size:=Nat.lt_of_lt_of_le jB aD.size;have HT:=Aa ht;have lE:=Aa gG;have kG:=Aa (digs_length_le kD);have nH:(0:Int)≤(nv:Int):=by omega
     have mG:(nv:Int)≤(cg:Int):=by omega
     have kK:Hid (F<B):=cJ;have fC:=Aa (cN.trans (aD.mono cN.size));clear ht gG bR fZ iV jG kE gO dT cV cI kD gK aC aA;go_upto_region 40 with (fail)
     go_region_held3 (fun w'=>w'.cell? ⟨w1.heap.size,0,none⟩=some (.int .i64 (F:Int)))
      (first | exact fF | exact (cU.cell (p:=⟨w1.heap.size,0,none⟩) fY).trans fF | exact (gM.cell (p:=⟨w1.heap.size,0,none⟩) gH).trans ((cU.cell (p:=⟨w1.heap.size,0,none⟩) fY).trans fF))
      (first
       |(go_at_call 164;refine HT.out.mono ?_;rintro e w8 ⟨m3,rfl,jP,cU⟩;have gH:=Nat.lt_of_lt_of_le fY cU.size)
       |(go_at_call 163;refine (zeZ (some ⟨g,0,none⟩) m3 cg F (digs (x % y*F)) w8 jP fG.out kK.out (by have h1:=jP.len;have h2:=kG.out;omega)).mono ?_;rintro e w9 ⟨A9,m9,c9,rfl,gA,gM⟩))
     rw [zak,Nat.mul_div_cancel _ fG.out] at gA;have cF:Below wr.heap.size wr w9:=dI.trans (cU.trans (gM.mono cU.size));have gB:=Aa (lE.out w9 cF);have kZ:=Aa gA;clear cU gM fF gA
     go_wp2_with fail
     refine gB.out.mono ?_;rintro e wf ⟨mf,rfl,lV,iW⟩;go_wp2
     go_ret2
     exact ⟨_,mf,_,_,m9,c9,rfl,lV,kZ.out.later iW,fC.out.trans ((cF.trans (iW.mono cF.size)).mono fC.out.size)⟩
theorem zbY (A A':Option Addr) (n c n' c' x y:Nat) (w:World) (ha:DigI w A n c (digs x)) (hb:DigI w A' n' c' (digs y)) (hy:0<y) (hn:n≤1048576) (hn':n'≤1048576) :
  Calls Tryz.prog 116 #[.slice A n c,.slice A' n' c'] w (ziR w x y):=by
 rcases Nat.lt_or_ge x y with h | h
 ·exact zmM A A' n c n' c' x y w ha hb h hn hn'
 ·have hl:=hb.len
  have hp:=zav hy
  rcases Nat.lt_or_ge y B with h1 | h1
  ·have:n'=1:=by rw [←hl,zbq hy h1];rfl
   subst this;exact zoB A A' n c c' x y w ha hb h hy h1 hn
  ·have h2:2≤n':=by
    rcases Nat.lt_or_ge n' 2 with h3 | h3
    ·exfalso
     have h4:=zae y;rw [hl,show n'=1 from by omega,Nat.pow_one] at h4;omega
    ·exact h3
   exact znF A A' n c n' c' x y (n' - 2) w ha hb (by omega) h hn
end Go.Proofs.YtmkondcdejlhcaaGreatDoor
