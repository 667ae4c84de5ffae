/- Contract of the reference's long division: divDigits by two digits or more. -/
import Derived.Test.YteajibbphcfmeaaGreatDoorVRb4
import Derived.Test.YteajibbphcfmeaaGreatDoorVDl
import Derived.Deep.RegionHeld3
import Derived.Test.YteajibbphcfmeaaGreatDoorVCode
namespace Go.Proofs.YteajibbphcfmeaaGreatDoor
open Go.RowKit Dn
theorem RowI.store {w:World} {base g g' n c:Nat} {l:List Nat} (h:RowI w base g n c l) (hne:g'≠g) (i:Nat) (u:Value):RowI (w.setCell ⟨g',i,none⟩ u) base g n c l:=
 h.kept (zaU (World.grownBy.refl w _) (.inl rfl) u) (fun e=>by injection e with e;exact hne e)
theorem zgy {w:World} {base g n c j i:Nat} {L ws:List Value} (h:w.ownsRow base 3 1 (.slice (some ⟨g,0,none⟩) n c) n (mid L j ws)) (hi:ws.length=i) (hj:j+i<L.length) :
  w.cell? ⟨g,i+j,none⟩=L[j+i]? ∧ ∀ u:Value,(w.setCell ⟨g,i+j,none⟩ u).ownsRow base 3 1 (.slice (some ⟨g,0,none⟩) n c) n (mid L j (ws++[u])):=by
 subst hi
 have hl:=h.1
 rw [zh2 _ _ _ (by omega)] at hl
 constructor
 ·rw [World.ownsRow.cellAt h (ws.length+j) (by omega),Nat.add_comm ws.length j,znx _ _ _ (by omega)]
 ·intro u
  have h1:=(World.ownsRow.stored h (ws.length+j) u).1
  rw [show ws.length+j=j+ws.length from Nat.add_comm _ _,znB _ _ _ _ hj] at h1
  rw [show ws.length+j=j+ws.length from Nat.add_comm _ _]
  exact h1
theorem zic {w:World} {base g n c j i:Nat} {L ws:List Value} (h:w.ownsRow base 3 1 (.slice (some ⟨g,0,none⟩) n c) n (mid L j ws)) (hi:ws.length=i) (hj:j+i<L.length) :
  w.cell? ⟨g,j+i,none⟩=L[j+i]? ∧ ∀ u:Value,(w.setCell ⟨g,j+i,none⟩ u).ownsRow base 3 1 (.slice (some ⟨g,0,none⟩) n c) n (mid L j (ws++[u])):=by
 have h1:=zgy h hi hj
 rwa [Nat.add_comm i j] at h1
set_option maxHeartbeats 8000000 in
set_option maxRecDepth 100000 in
theorem zkn (A A':Option Addr) (n c n' c' x y k:Nat) (w:World) (ha:DigI w A n c (digs x)) (hb:DigI w A' n' c' (digs y)) (hk:n'=k+2) (hyx:y≤x) (hn:n≤1048576) :
  Calls Tryz.prog 121 #[.slice A n c,.slice A' n' c'] w (zhc w x y):=by
 obtain ⟨i0,iB,gX,hJ,gD⟩:=info_parts zcq
 have iS:(digs x).length=n:=ha.len
 have gI:(digs y).length=k+2:=by rw [hb.len];exact hk
 obtain ⟨F,hF⟩:∃ F,F=B / ((digs y).getD (k+1) 0+1):=⟨_,rfl⟩
 obtain ⟨V,hV⟩:∃ V,V=y*F:=⟨_,rfl⟩
 obtain ⟨X,hX⟩:∃ X,X=x*F:=⟨_,rfl⟩
 obtain ⟨jF,iY,fN,jX,bS,dT,dQ,dS,jW⟩:=zle iS gI hyx hF hV hX
 have kF:n'≤1048576:=by omega
 have jY:2≤n':=by omega
 have lX:∃ r:Int,0≤r∧Bn.ncmp x y=r:=⟨Bn.ncmp x y,by rcases Nat.lt_or_ge y x with h | h;(· rw [Bn.ncmp_gt h];decide);(· rw [show x=y from by omega,Bn.ncmp_eq];exact Int.le_refl 0),rfl⟩
 obtain ⟨r,mK,hr⟩:=lX
 have hc:=zdf A A' n c n' c' x y w ha.rd hb.rd (by omega) (by omega)
 rw [hr] at hc
 have d0:decide (r<0)=false:=by simp;omega
 have d1:((n':Int)==1)=false:=by rw [beq_eq_false_iff_ne];omega
 have HC:=Lib.hid hc
 obtain ⟨k1,jR⟩:∃ k1,k1=k+1:=⟨_,rfl⟩
 have e1:(n':Int) - 1=(k1:Int):=by omega
 have cK:F<1000000000:=iY
 have HA:=Lib.hid ha
 have HB:=Lib.hid hb
 have dZ:=Lib.hid jX
 have lH:=Lib.hid bS
 have jJ:=Lib.hid (And.intro dT dQ)
 have kL:=Lib.hid dS
 have dG:=Lib.hid jW
 have iV:=Lib.hid hV
 have jQ:=Lib.hid hX
 have HK:=Lib.hid hk
 have iN:=Lib.hid jR
 have dY:=Lib.hid jF
 have kU:=Lib.hid hF
 have mP:=Lib.hid gI
 have lI:2≤n:=by omega
 have jN:0<y:=by
  rcases Nat.eq_zero_or_pos y with h0 | h0
  ·rw [h0,Nat.zero_mul] at hV;omega
  ·exact h0
 have lU:=Lib.hid jN
 have mC:=Lib.hid fN
 clear hc hr jX bS dT dQ dS jW hV hX hk jR jF hF iS gI hyx ha hb jN fN iY
 go_enter Tryz.func121,Tryz.ntmps121
 go_wp2_with fail
 refine HC.out.mono ?_
 rintro e w1 ⟨rfl,fA⟩
 have dX:=HB.out.later fA
 have jG:=HA.out.later fA
 obtain ⟨lA,jI,rfl,mR,iD⟩:=dX.rd.cellM (k:=k1) (by have:=HK.out;have:=iN.out;omega)
 have cE:=zap y _ (List.getElem_mem jI)
 have gY:(digs y).getD (k+1) 0=(digs y)[k1]:=by
  have:=iN.out
  subst this
  exact Dn.getD_in jI
 unfold natv at iD
 obtain ⟨b1,dN⟩:∃ b1,(digs y)[k1]=b1:=⟨_,rfl⟩
 rw [dN] at iD gY cE
 have eF:(1000000000:Int) / ((b1:Int)+1)=(F:Int):=by
  rw [kU.out,gY]
  show _=((1000000000 / (b1+1):Nat):Int)
  rw [Int.natCast_ediv]
  simp
 have jB:b1<1000000000:=cE
 have dz:(((b1:Int)+1)==0)=false:=by rw [beq_eq_false_iff_ne];omega
 have nA:=Lib.hid dX
 have mQ:=Lib.hid jG
 have fM:Below w1.heap.size w1 (w1.alloc (.cells #[.int .i64 (F:Int)] 3)):=(Below.refl _ _).alloc (Nat.le_refl _) _
 have gC:=CBlk.new w1 #[.int .i64 (F:Int)] 3 _ rfl
 have iE:DigI (w1.alloc (.cells #[.int .i64 (F:Int)] 3)) (some ⟨w1.heap.size,0,none⟩) 1 1 (digs F):=by rw [zbQ dY.out cK];exact DigI.one gC cK
 have fV:=Lib.hid (zdC (some lA) _ n' c' 1 1 y F _ (dX.later fM) iE (by omega) (by omega))
 rw [←iV.out] at fV
 clear dN gY cE dX jG
 go_wp2_with fail
 refine fV.out.mono ?_
 rintro e w2 ⟨Av,nv,cv,rfl,hv,fK⟩
 have jT:=iE.later fK
 have cN:=fA.trans ((fM.trans (fK.mono fM.size)).mono fA.size)
 have jS:=HA.out.later cN
 have bW:Hid (nv=n'):=by
  show nv=n'
  rw [←hv.len,dZ.out,HK.out]
 have kI:nv≤1048576:=by rw [bW.out];exact kF
 have kM:w2.cell? ⟨w1.heap.size,0,none⟩=some (.int .i64 (F:Int)):=(gC.below fK (by simp)).cell 0
 have jA:w1.heap.size<w2.heap.size:=by have:=fK.size;simp at this;omega
 clear iE gC fV fM iD eF dz
 have aU:Below w2.heap.size w2 (w2.alloc (.cells #[] 3)):=(Below.refl _ _).alloc (Nat.le_refl _) _
 have dB:=zj1 w2 w2.heap.size 3 (Nat.le_refl _)
 have fR:=Lib.hid (zdC A _ n c 1 1 x F _ (jS.later aU) (jT.later aU) (by omega) (by omega))
 rw [←jQ.out] at fR
 go_wp2_with fail
 refine fR.out.mono ?_
 rintro e w4 ⟨Ax,nx,cx,rfl,fJ,gN⟩
 have bD:=zkl dB gN
 have aZ:=aU.trans (gN.mono aU.size)
 have fQ:=fJ.len
 have gG:n≤nx:=by rw [←fQ];exact jJ.out.1
 have fZ:nx≤n+1:=by rw [←fQ];exact jJ.out.2
 obtain ⟨ax,rfl,_⟩:=fJ.rd.2 (by omega)
 have lZ:=Lib.hid fJ
 have kR:=Lib.hid fQ
 have cM:=aZ.size
 clear fQ fJ dB aU fR jT jS
 go_wp2_with (at_builtin;refine wpList_append_own _ rfl _ _ 45 rfl w2.heap.size 3 i0 (.int .i64 0) 1 8 Tryz.underlying45 iB gX hJ gD rfl (by decide) _ _ _ rfl bD ax nx cx ((digs X).map natv) rfl ?c0 ?c1 ?c2 ?c3 ?c4 ?c5 ?_)
 case c0=>rw [List.length_map,kR.out,Nat.mul_one]
 case c1=>exact zat.cellsD lZ.out.rd
 case c2=>exact zmN _
 case c3=>unfold maxLen;omega
 case c4=>omega
 case c5=>exact cM
 intro v5 w5 bF aW _
 obtain ⟨gu,cu,rfl,lJ⟩:=zik bF (by omega)
 have bN:Below w2.heap.size w2 w5:=aZ.grown aW cM (fun g hg=>(World.ownsRow.lt bD g hg).1)
 clear aW bD aZ gN cM
 obtain ⟨M,hM⟩:∃ M,M=n+1:=⟨_,rfl⟩
 have eM:(n:Int)+1=(M:Int):=by omega
 have mW:M≤1048577:=by omega
 have HM:=Lib.hid hM
 have kN:nx≤M:=by omega
 clear hM fZ
 go_wp2
 go_loopg [11] M (fun q lW W=>∃ (m g cg:Nat) (ls:List Nat),lW = .slice (some ⟨g,0,none⟩) m cg∧n≤m∧m≤M∧M - m≤q∧RowI W w2.heap.size g m cg ls∧Hid (Wf ls∧val ls=X)∧Below w2.heap.size w2 W)
 case atStart=>exact ⟨nx,gu,cu,digs X,rfl,gG,kN,by omega,bF,⟨zap X,zal X⟩,bN⟩
 case round=>
  clear bN bF lJ
  obtain ⟨m,g,cg,ls,rfl,mN,nB,hq,aP,dC,aD⟩:=hrel
  have fS:=aD.size
  by_cases hm:m<M
  ·have kW:decide (m<M)=true:=by simp;omega
   go_wp2_with (at_builtin;refine wpList_append_own _ rfl _ _ 45 rfl w2.heap.size 3 i0 (.int .i64 0) 1 8 Tryz.underlying45 iB gX hJ gD rfl (by decide) _ _ _ rfl (aP.alloc _) ⟨wr.heap.size,0,none⟩ 1 1 [.int .i64 0] rfl rfl ?c1 ?c2 ?c3 ?c4 ?c5 ?_)
   case c1=>exact cell_one_new _ _ _
   case c2=>intro u hu;simp at hu;subst hu;rfl
   case c3=>unfold maxLen;omega
   case c4=>omega
   case c5=>simp;omega
   intro v' w6 bT bL _
   obtain ⟨g',c9,rfl,mO⟩:=zik bT (by omega)
   have kS:Below w2.heap.size w2 w6:=(aD.alloc fS _).grown bL (by simp;omega) (fun g hg=>(World.ownsRow.lt aP g hg).1)
   clear bL
   go_wp2
   go_roundg (M - (m+1))
   case measure=>omega
   case rel=>exact ⟨m+1,g',c9,ls++[0],rfl,by omega,by omega,Nat.le_refl _,by unfold RowI;rw [List.map_append];exact bT,⟨dC.out.1.append (Wf.cons zaL Wf.nil),by rw [zaN,dC.out.2];simp⟩,kS⟩
  ·obtain rfl:m=M:=by omega
   have kW:decide (m<m)=false:=by simp
   obtain ⟨L,hL⟩:∃ L,L=m - nv:=⟨_,rfl⟩
   have fN:=mC.out
   have iZ:=HK.out
   have mF:=HM.out
   have gZ:=bW.out
   have eL:(m:Int) - (nv:Int)=(L:Int):=by omega
   have mZ:1≤L:=by omega
   have mU:L≤n:=by omega
   have HL:=Lib.hid hL
   have lF:2≤nv:=by omega
   have mG:nv≤n:=by omega
   clear hL fN iZ gZ mF
   go_wp2_with (at_make;refine wpList_make_full _ rfl _ _ 45 rfl w2.heap.size 3 i0 (.int .i64 0) 1 Tryz.underlying45 iB gX hJ _ _ _ _ L rfl rfl (by omega) (by omega) ?b2 ?b3 fS ?_)
   case b2=>rw [gD];omega
   case b3=>unfold maxLen;omega
   intro w6 bV aO
   have aA:=RowI.made bV
   have aC:=aP.kept aO (by simp)
   have bU:Below w2.heap.size w2 w6:=aD.grown aO fS (fun k h=>by cases h)
   have cQ:g≠wr.heap.size:=by have:=aP.lt.2;omega
   clear bV aO
   generalize kX:wr.heap.size=gq at *
   have bR:=zdg.start (L:=L) dC.out.1 dC.out.2 dG.out (by have:=kL.out;rw [HL.out,bW.out,HK.out,HM.out];exact this) (by rw [aP.len];have:=HL.out;omega)
   have iR:=Lib.hid bR
   clear bR aD aP dC kX
   go_wp2
   go_loopg [13] L (fun q lY W=>∃ (kk:Nat) (lu lq:List Nat),kk≤L∧lY = .int .i64 ((kk:Int) - 1)∧kk≤q∧RowI W w2.heap.size g m cg lu∧RowI W w2.heap.size gq L L lq∧Hid (zdg X V L kk lu lq)∧Below w2.heap.size w2 W)
   case atStart=>exact ⟨L,ls,_,Nat.le_refl _,by first | rfl | go_num,Nat.le_refl _,aC,aA,iR.out,bU⟩
   case round=>
    clear bU aC aA iR
    obtain ⟨kk,lu,lq,iZ,rfl,hq,aC,aA,aN,aD⟩:=hrel
    by_cases h0:0<kk
    ·obtain ⟨j,rfl⟩:∃ j:Nat,kk=j+1:=⟨kk - 1,by omega⟩
     have ej:((j+1:Nat):Int) - 1=(j:Int):=by omega
     rw [ej]
     have cV:V<B ^ (k+2):=by have:=zac V;rwa [dZ.out] at this
     have cI:j+(k+2)<lu.length:=by have:=HL.out;have:=bW.out;have:=HK.out;rw [aC.len];omega
     obtain ⟨jV,jD,bP⟩:=aN.out.window cV cI
     have iW:=hv.later aD
     have hg:=ziX (some ⟨g,0,none⟩) Av m cg nv cv j k lu (digs V) wr aC.reads iW.rd aN.out.1 (zap V) (by rw [bW.out,HK.out]) (by rw [←aC.len];exact cI) (by omega) lH.out jV (by rw [zal];exact jD)
     rw [zal] at hg
     have HG:=Lib.hid hg
     have lQ:=Lib.hid bP
     have fL:=Lib.hid cV
     have lM:=Lib.hid cI
     have kZ:j+nv<m:=by have:=bW.out;have:=HK.out;have:=aC.len;omega
     clear hg jV jD bP cV cI iW ej
     go_wp2_with fail
     refine HG.out.mono ?_
     rintro e w7 ⟨⟨t,rfl,jK,jC⟩,qd,rfl⟩
     have bB:=aC.drewN qd
     have aX:=aA.drewN qd
     have bX:=zab aD qd
     have lE:=Lib.hid jC
     have lL:t<1000000000:=jK
     clear aC aA aD jC HG
     generalize wr.drewN qd=w7 at *
     go_wp2
     go_loopg [15,16] nv (fun q vb vi W=>∃ (ii bb:Nat) (ws:List Nat),ii≤nv∧vi = .int .i64 (ii:Int)∧vb = .int .i64 (bb:Int)∧bb≤1000000000∧nv - ii≤q ∧
      W.ownsRow w2.heap.size 3 1 (.slice (some ⟨g,0,none⟩) m cg) m (mid (lu.map natv) j (ws.map natv))∧RowI W w2.heap.size gq L L lq ∧
      Hid (Wf ws∧ws.length=ii∧val ws+t*val ((digs V).take ii)=val ((lu.drop j).take ii)+B ^ ii*bb)∧Below w2.heap.size w2 W)
     case atStart=>exact ⟨0,0,[],by omega,rfl,rfl,by omega,by omega,by rw [List.map_nil,zkT];exact bB,aX,⟨Wf.nil,rfl,by simp⟩,bX⟩
     case round=>
      clear bX aX
      obtain ⟨ii,bb,ws,mS,rfl,rfl,lC,mV,aE,aA,dU,aD⟩:=hrel
      obtain ⟨aL,aJ,aR⟩:=dU.out
      have cP:lu.length=m:=bB.len
      have aT:(lu.map natv).length=m:=by rw [List.length_map];exact cP
      have bC:(ws.map natv).length=ii:=by rw [List.length_map];exact aJ
      by_cases bQ:ii<nv
      ·obtain ⟨kJ,dL,rfl,lO,cT⟩:=(hv.later aD).rd.cellM (k:=ii) bQ
       have dJ:=zap V _ (List.getElem_mem dL)
       unfold natv at cT
       obtain ⟨vk,cF⟩:∃ vk,(digs V)[ii]=vk:=⟨_,rfl⟩
       rw [cF] at cT dJ
       obtain ⟨aS,bH⟩:=zgy aE bC (by rw [aT];omega)
       have cO:j+ii<lu.length:=by omega
       obtain ⟨uk,fI⟩:∃ uk,lu[j+ii]=uk:=⟨_,rfl⟩
       have fT:=aN.out.1.get cO
       rw [fI] at fT
       have fB:wr.cell? ⟨g,ii+j,none⟩=some (.int .i64 (uk:Int)):=by
        rw [aS,List.getElem?_map,List.getElem?_eq_getElem cO,fI]
        rfl
       have fE:=zbr aE (ii+j)
       have iG:vk<1000000000:=dJ
       have kO:uk<1000000000:=fT
       obtain ⟨pv,dI⟩:∃ pv,pv=t*vk:=⟨_,rfl⟩
       have lG:pv≤999999999000000000:=by
        rw [dI];exact Nat.le_trans (Nat.mul_le_mul (show t≤999999999 by omega) (show vk≤1000000000 by omega)) (by decide)
       have em:(t:Int)*(vk:Int)=(pv:Int):=by rw [dI];exact (Int.natCast_mul t vk).symm
       obtain ⟨pp,iQ⟩:∃ pp,pp=pv+bb:=⟨_,rfl⟩
       have ep:(pv:Int)+(bb:Int)=(pp:Int):=by omega
       obtain ⟨pm,fD⟩:∃ pm,pm=pp % B:=⟨_,rfl⟩
       obtain ⟨pd,dA⟩:∃ pd,pd=pp / B:=⟨_,rfl⟩
       have kG:pp≤999999999000000000+1000000000:=by omega
       have mA:pm<1000000000:=by rw [fD];exact Nat.mod_lt _ zaL
       have kP:pd≤999999999+1:=by rw [dA];unfold B;omega
       have kK:pd≤999999999:=by
        have h1:pv≤999999999*999999999:=by rw [dI];exact Nat.mul_le_mul (by omega) (by omega)
        rw [dA];unfold B;omega
       have es:(pp:Int) % 1000000000=(pm:Int):=by rw [fD];unfold B;omega
       have ed:(pp:Int) / 1000000000=(pd:Int):=by rw [dA];unfold B;omega
       obtain ⟨m1,m2⟩:=zlN (p:=pp) fT
       rw [←fD,←dA] at m1 m2
       have kT:ii<(lu.drop j).length:=by rw [List.length_drop];omega
       have cG:=fun (d b':Nat)=>zna ws (digs V) (lu.drop j) ii t d bb b' aJ dL kT aR
       simp only [List.getElem_drop,cF,fI] at cG
       rw [←dI] at cG
       have lD:=Lib.hid cG
       have gK:=Lib.hid bH
       have jL:=Lib.hid (And.intro aL aJ)
       have bZ:=(zj3 aE).1
       have jM:pv+bb=pp:=iQ.symm
       have lK:=Lib.hid jM
       by_cases hneg:uk<pm
       case' pos=>obtain ⟨h1,h2⟩:=m2 hneg
       case' neg=>obtain ⟨h1,h2⟩:=m1 (by omega)
       case' pos=>obtain ⟨dd,dW⟩:∃ dd,dd=uk+B - pm:=⟨_,rfl⟩
       case' neg=>obtain ⟨dd,dW⟩:∃ dd,dd=uk - pm:=⟨_,rfl⟩
       case' pos=>obtain ⟨b2,bI⟩:∃ b2,b2=pd+1:=⟨_,rfl⟩
       case' neg=>obtain ⟨b2,bI⟩:∃ b2,b2=pd:=⟨_,rfl⟩
       case' pos=>obtain ⟨z,hz⟩:∃ z:Int,z=(uk:Int) - (pm:Int):=⟨_,rfl⟩
       case' neg=>obtain ⟨z,hz⟩:∃ z:Int,z=(dd:Int):=⟨_,rfl⟩
       case' pos=>have kE:(uk:Int) - (pm:Int)=z:=hz.symm
       case' neg=>have kE:(uk:Int) - (pm:Int)=z:=by omega
       case' pos=>have dz:decide (z<0)=true:=by simp;omega
       case' neg=>have dz:decide (z<0)=false:=by simp;omega
       case' pos=>have ez:z+1000000000=(dd:Int):=by rw [hz,dW];unfold B;omega
       case' pos=>have eb:(pd:Int)+1=(b2:Int):=by omega
       case' neg=>subst hz
       all_goals
        rw [←dW] at h1 h2
        have bO:=lD.out dd b2 (by rw [lK.out,bI];exact h2)
        have dK:Hid (Wf (ws++[dd])∧(ws++[dd]).length=ii+1∧val (ws++[dd])+t*val ((digs V).take (ii+1))=val ((lu.drop j).take (ii+1))+B ^ (ii+1)*b2):=
         ⟨jL.out.1.append (Wf.cons h1 Wf.nil),by rw [List.length_append,jL.out.2];rfl,bO⟩
        have mE:=Lib.hid (gK.out (.int .i64 (dd:Int)))
        have lP:=Lib.hid bI
        have gP:b2≤1000000000:=by omega
        clear h1 h2 bO cG bH m1 m2 dW bI iQ fD dA dI cF fI aS dU aR aJ aL aT bC cP jM
        first | clear hz | skip
        go_wp2
        go_roundg (nv - (ii+1))
        case measure=>omega
        case rel=>exact ⟨ii+1,b2,ws++[dd],by omega,by go_num,by first | rfl | rw [lP.out],gP,Nat.le_refl _,by rw [List.map_append];exact mE.out,aA.store cQ _ _,dK.out,aD.setCell bZ _⟩
      ·obtain rfl:ii=nv:=by omega
       have aM:ii=k+2:=by rw [bW.out,HK.out]
       have cI:=lM.out
       have cO:j+ii<lu.length:=by omega
       obtain ⟨ut,dE⟩:∃ ut,lu[j+ii]=ut:=⟨_,rfl⟩
       have cU:=aN.out.1.get cO
       rw [dE] at cU
       have iP:ut<1000000000:=cU
       have gH:lu.getD (j+(k+2)) 0=ut:=by
        rw [←aM,Dn.getD_in cO,dE]
       have bP:=lQ.out
       rw [gH] at bP
       have cJ:(digs V).take ii=digs V:=List.take_of_length_le (by rw [dZ.out];omega)
       rw [cJ,zal,aM] at aR
       have fX:val ws<B ^ (k+2):=by have:=zbk aL;rw [aJ,aM] at this;exact this
       obtain ⟨dV,fO⟩:=zny aR fX fL.out dG.out (by rw [←bP];exact lE.out)
       rw [←bP] at dV fO
       obtain ⟨aS,bH⟩:=zic aE bC (by rw [aT];omega)
       have fB:wr.cell? ⟨g,j+ii,none⟩=some (.int .i64 (ut:Int)):=by
        rw [aS,List.getElem?_map,List.getElem?_eq_getElem cO,dE]
        rfl
       have fE:=zbr aE (j+ii)
       have bZ:=(zj3 aE).1
       obtain ⟨z0,bK⟩:∃ z0:Int,z0=(ut:Int) - (bb:Int):=⟨_,rfl⟩
       have ez:(ut:Int) - (bb:Int)=z0:=bK.symm
       have aH:=bH (.int .i64 z0)
       have cZ:(wr.setCell ⟨g,j+ii,none⟩ (.int .i64 z0)).cell? ⟨g,j+ii,none⟩=some (.int .i64 z0):=by
        have h9:=World.ownsRow.cellAt aH (j+ii) (by omega)
        rw [h9,zfs _ _ _ _ (by rw [aT];omega) (by simp [aJ]),List.getElem?_append_right (by rw [bC];exact Nat.le_refl _),bC,Nat.sub_self]
        rfl
       have aF:=aA.store cQ (j+ii) (.int .i64 z0)
       have aK:=aD.setCell (p:=⟨g,j+ii,none⟩) bZ (.int .i64 z0)
       have dP:=Lib.hid aH
       have gR:=Lib.hid aF
       have iC:=Lib.hid aK
       have cL:=Lib.hid (And.intro aL aJ)
       have fW:=Lib.hid aM
       have mH:=Lib.hid bK
       by_cases hcase:bb≤ut
       ·obtain ⟨q1,q2,q3⟩:=dV hcase
        have bG:z0=0:=by omega
        have dz:decide (z0<0)=false:=by simp;omega
        have gM:=aF.cell j (by omega)
        have kC:=aF.free j
        generalize lq.getD j 0=old at gM
        have aG:RowI (wr.setCell ⟨g,j+ii,none⟩ (.int .i64 z0)) w2.heap.size g m cg (mid lu j (ws++[0])):=by
         unfold RowI
         rw [zj5,List.map_append]
         have h9:=aH
         rw [bG] at h9 ⊢
         exact h9
        have iA:=Lib.hid (aG.store (Ne.symm cQ) j (.int .i64 (t:Int)))
        have gB:=Lib.hid (aF.set j t)
        have dK:=Lib.hid (aN.out.next aJ (by omega) (by rw [aM];exact fL.out) dG.out aL (by omega) q2 q3 jK)
        have gJ:=Lib.hid (aK.setCell (p:=⟨gq,j,none⟩) aF.lt.1 (.int .i64 (t:Int)))
        clear q1 q2 q3 dV fO bG bK aR fX bP gH cJ dE aS bH aH aF aK aG aM cI dU aL aJ cP aT bC aE aA
        go_wp2
        go_roundg j
        case measure=>omega
        case rel=>exact ⟨j,_,_,by omega,rfl,Nat.le_refl _,iA.out,gB.out,dK.out,gJ.out⟩
       ·obtain ⟨q1,q2,q3⟩:=fO (by omega)
        have bG:z0 = -1:=by omega
        have dz:decide (z0<0)=true:=by simp;omega
        obtain ⟨t1,iF⟩:∃ t1,t1=val (lu.drop j) / V:=⟨_,rfl⟩
        rw [←iF] at q2
        have et:(t:Int) - 1=(t1:Int):=by omega
        have dO:t1<B:=by omega
        have iX:t1<1000000000:=dO
        obtain ⟨L2,aQ⟩:∃ L2,L2=mid (lu.map natv) j (ws.map natv++[Value.int .i64 z0]):=⟨_,rfl⟩
        rw [←aQ] at aH
        have bA:(ws.map natv++[Value.int .i64 z0]).length=ii+1:=by rw [List.length_append,bC];rfl
        have dD:L2.length=m:=by rw [aQ,zh2 _ _ _ (by rw [bA,aT];omega),aT]
        have cW:∀ i (h:i<ws.length),L2[j+i]? = some (natv ws[i]):=fun i h=>by
         rw [aQ,zfs _ _ _ _ (by rw [aT];omega) (by rw [bA];omega),List.getElem?_append_left (by rw [bC];omega),List.getElem?_map,List.getElem?_eq_getElem h]
         rfl
        have dF:L2[j+ii]? = some (.int .i64 z0):=by
         rw [aQ,zfs _ _ _ _ (by rw [aT];omega) (by rw [bA];omega),List.getElem?_append_right (by rw [bC];exact Nat.le_refl _),bC,Nat.sub_self]
         rfl
        have dR:∀ aI:List Nat,aI.length=ii→mid L2 j (aI.map natv++[Value.int .i64 0])=(mid lu j (aI++[0])).map natv:=fun aI h=>by
         rw [zj5,List.map_append,aQ]
         exact zno _ _ _ _ (by rw [aT];omega) (by rw [bA,List.length_append,List.length_map,h];rfl)
        have iL:=Lib.hid cW
        have gE:=Lib.hid dF
        have fY:=Lib.hid dR
        have kH:=Lib.hid iF
        have gV:=Lib.hid bG
        have gU:=Lib.hid q3
        have lS:=Lib.hid cJ
        have mI:j+ii<m:=kZ
        clear q1 q2 q3 dV fO bG bK aR fX bP gH cJ dE aS bH aM cI dU aL cP aT bC bA aE aA iF aQ cW dF dR dP
        have iJ:=Lib.hid cZ
        go_wp2
        clear fB fE
        generalize wr.setCell ⟨g,j+ii,none⟩ (.int .i64 z0)=w8 at *
        go_loopg [19,20] ii (fun q vc vi W=>∃ (i2 cc:Nat) (aI:List Nat),i2≤ii∧vi = .int .i64 (i2:Int)∧vc = .int .i64 (cc:Int)∧cc≤1∧ii - i2≤q ∧
         W.ownsRow w2.heap.size 3 1 (.slice (some ⟨g,0,none⟩) m cg) m (mid L2 j (aI.map natv))∧RowI W w2.heap.size gq L L lq ∧
         Hid (Wf aI∧aI.length=i2∧val aI+B ^ i2*cc=val (ws.take i2)+val ((digs V).take i2))∧Below w2.heap.size w2 W)
        case atStart=>exact ⟨0,0,[],by omega,rfl,rfl,by omega,by omega,by rw [List.map_nil,zkT];exact aH,aF,⟨Wf.nil,rfl,by simp⟩,aK⟩
        case round=>
         clear aH aF aK cZ gR iC iJ
         obtain ⟨i2,cc,aI,mJ,rfl,rfl,mY,mM,aE,aA,cC,aD⟩:=hrel
         obtain ⟨dM,bM,cS⟩:=cC.out
         have aV:(aI.map natv).length=i2:=by rw [List.length_map];exact bM
         have bY:=(zj3 aE).1
         by_cases hin2:i2<ii
         ·obtain ⟨kJ,dL,rfl,lO,cT⟩:=(hv.later aD).rd.cellM (k:=i2) hin2
          have dJ:=zap V _ (List.getElem_mem dL)
          unfold natv at cT
          obtain ⟨vk,cF⟩:∃ vk,(digs V)[i2]=vk:=⟨_,rfl⟩
          rw [cF] at cT dJ
          have bE:i2<ws.length:=by rw [cL.out.2];exact hin2
          obtain ⟨wk,fG⟩:∃ wk,ws[i2]=wk:=⟨_,rfl⟩
          have jP:=cL.out.1.get bE
          rw [fG] at jP
          have cA:j+i2<L2.length:=by rw [dD];omega
          obtain ⟨aS,_⟩:=zgy aE aV cA
          have fB:wr.cell? ⟨g,i2+j,none⟩=some (.int .i64 (wk:Int)):=by
           rw [aS,iL.out i2 bE,fG]
           rfl
          have fE:=zbr aE (i2+j)
          have iG:vk<1000000000:=dJ
          have kY:wk<1000000000:=jP
          obtain ⟨s1,iU⟩:∃ s1,s1=wk+vk:=⟨_,rfl⟩
          obtain ⟨tt,iO⟩:∃ tt,tt=s1+cc:=⟨_,rfl⟩
          obtain ⟨lo,fP⟩:∃ lo,lo=tt % B:=⟨_,rfl⟩
          obtain ⟨cB,fH⟩:∃ cB,cB=tt / B:=⟨_,rfl⟩
          have gA:lo<B:=by rw [fP];exact Nat.mod_lt _ zaL
          have gF:cB≤1:=by rw [fH];unfold B;omega
          have kQ:tt<4000000000:=by omega
          have es:(tt:Int) % 1000000000=(lo:Int):=by rw [fP];unfold B;omega
          have ed:(tt:Int) / 1000000000=(cB:Int):=by rw [fH];unfold B;omega
          have cG:=znO aI ws (digs V) i2 lo cc cB bM bE dL cS (by rw [fG,cF,fP,fH,Nat.mod_add_div,iO,iU])
          have lN:Hid (Wf (aI++[lo])∧(aI++[lo]).length=i2+1∧val (aI++[lo])+B ^ (i2+1)*cB=val (ws.take (i2+1))+val ((digs V).take (i2+1))):=
           ⟨dM.append (Wf.cons gA Wf.nil),by rw [List.length_append,bM];rfl,cG⟩
          have gK:=Lib.hid (fun q=>(zgy (w:=wr.drewN q) aE aV cA).2 (.int .i64 (lo:Int)))
          have jZ:=Lib.hid (fun q=>(aA.drewN q).store cQ (i2+j) (.int .i64 (lo:Int)))
          have fC:=Lib.hid (fun q=>(zab aD q).setCell (p:=⟨g,i2+j,none⟩) bY (.int .i64 (lo:Int)))
          have g1:IntKind.i64.wrap ((i2:Int)+(j:Int))=((i2+j:Nat):Int):=by rw [IntWalk.i64_in _ (by omega)];omega
          have g2:IntKind.i64.wrap ((wk:Int)+(vk:Int))=(s1:Int):=by rw [IntWalk.i64_in _ (by omega)];omega
          have g3:IntKind.i64.wrap ((s1:Int)+(cc:Int))=(tt:Int):=by rw [IntWalk.i64_in _ (by omega)];omega
          have p1:(0:Int)≤((i2+j:Nat):Int):=by omega
          have p2:((i2+j:Nat):Int)<(m:Int):=by omega
          have p3:(0:Int)≤(i2:Int):=by omega
          have p4:(i2:Int)<(ii:Int):=by omega
          clear cF fG iU iO fP fH aS cG dM bM cS aV cC cA aA aE
          go_upto_region 35 with (fail)
          go_quiet (fail)
          clear g1 g2 g3 p1 p2 p3 p4
          go_wp2
          go_roundg (ii - (i2+1))
          case measure=>omega
          case rel=>exact ⟨i2+1,cB,aI++[lo],by omega,by go_num,rfl,gF,Nat.le_refl _,by rw [List.map_append];exact gK.out _,jZ.out _,lN.out,fC.out _⟩
         ·obtain rfl:i2=ii:=by omega
          rw [lS.out,zal,List.take_of_length_le (by rw [cL.out.2];exact Nat.le_refl _),gU.out,fW.out] at cS
          have lB:val aI<B ^ (k+2):=by have:=zbk dM;rw [bM,fW.out] at this;exact this
          have kD:val (lu.drop j) % V<V:=Nat.mod_lt _ dG.out
          have mD:=fL.out
          have bJ:cc=1∧val aI=val (lu.drop j) % V:=by
           have:cc=0∨cc=1:=by omega
           rcases this with rfl | rfl
           ·rw [Nat.mul_zero] at cS;omega
           ·rw [Nat.mul_one] at cS;exact ⟨rfl,by omega⟩
          obtain ⟨bJ,dH⟩:=bJ
          obtain ⟨aS,bH⟩:=zic aE aV (by rw [dD];omega)
          have fB:wr.cell? ⟨g,j+i2,none⟩=some (.int .i64 z0):=by rw [aS,gE.out]
          have fE:=zbr aE (j+i2)
          have mT:z0+(cc:Int)=0:=by rw [gV.out,bJ];rfl
          have aY:=bH (.int .i64 0)
          rw [fY.out aI bM] at aY
          have aG:RowI (wr.setCell ⟨g,j+i2,none⟩ (.int .i64 0)) w2.heap.size g m cg (mid lu j (aI++[0])):=aY
          have aF:=aA.store cQ (j+i2) (.int .i64 0)
          have aK:=aD.setCell (p:=⟨g,j+i2,none⟩) bY (.int .i64 0)
          have gM:=aF.cell j (by omega)
          have kC:=aF.free j
          generalize lq.getD j 0=old at gM
          have iA:=Lib.hid (aG.store (Ne.symm cQ) j (.int .i64 (t1:Int)))
          have gB:=Lib.hid (aF.set j t1)
          have dK:=Lib.hid (aN.out.next bM (by omega) (by rw [fW.out];exact fL.out) dG.out dM (by omega) kH.out dH dO)
          have gJ:=Lib.hid (aK.setCell (p:=⟨gq,j,none⟩) aF.lt.1 (.int .i64 (t1:Int)))
          clear cS lB kD mD bJ dH aS bH aY aG aF aK dM bM aV cC aE aA
          go_wp2
          go_roundg j
          case measure=>omega
          case rel=>exact ⟨j,_,_,by omega,rfl,Nat.le_refl _,iA.out,gB.out,dK.out,gJ.out⟩
    ·obtain rfl:kk=0:=by omega
     have bQ:=aN.out
     have iK:val lu<V:=by have:=bQ.2.2.2.2;simpa using this
     have iT:=bQ.1
     have iM:=bQ.2.1
     rw [jQ.out,iV.out] at bQ
     obtain ⟨jO,iI⟩:=bQ.done lU.out dY.out
     have cV:V<B ^ nv:=by have:=zac V;rw [dZ.out] at this;rw [bW.out,HK.out];exact this
     have cP:lu.length=m:=aC.len
     have cJ:val (lu.take nv)=x % y*F:=by
      have hs:=zaw lu nv (by omega)
      rcases Nat.eq_zero_or_pos (val (lu.drop nv)) with h9 | h9
      ·rw [h9,Nat.mul_zero,Nat.add_zero] at hs
       rw [←hs,iI]
      ·exfalso
       have:=Nat.le_mul_of_pos_right (B ^ nv) h9
       omega
     have jE:x % y*F<B ^ nv:=by rw [←iI];omega
     have gQ:=aC.caps
     have gS:=(aC.reads.take (m:=nv) (by omega))
     rw [←List.map_take] at gS
     have cY:Below wr.heap.size wr wr.drew:=(Below.refl _ _).drew
     have ht:=zcJ (some ⟨g,0,none⟩) nv cg (lu.take nv) wr.drew ⟨gS,by omega,gQ.2,iT.take _⟩ (by omega)
     rw [cJ] at ht
     have gT:=fun (W:World) (hb:Below wr.heap.size wr W)=>zcJ (some ⟨gq,0,none⟩) L L lq W ((aA.dig iM).later hb) (by omega)
     simp only [jO] at gT
     have fF:=(aD.cell (p:=⟨w1.heap.size,0,none⟩) jA).trans kM
     have gW:w1.heap.size<wr.heap.size:=Nat.lt_of_lt_of_le jA aD.size
     have HT:=Lib.hid ht
     have lR:=Lib.hid gT
     have mB:=Lib.hid (digs_length_le jE)
     have mL:(0:Int)≤(nv:Int):=by omega
     have lI:(nv:Int)≤(cg:Int):=by omega
     have lT:Hid (F<B):=cK
     have fC:=Lib.hid (cN.trans (aD.mono cN.size))
     clear ht gT bQ iK iT iM jO iI cV cP cJ jE gS aC aA
     go_upto_region 40 with (fail)
     go_region_held3 (fun w'=>w'.cell? ⟨w1.heap.size,0,none⟩=some (.int .i64 (F:Int)))
      (first | exact fF | exact (cR.cell (p:=⟨w1.heap.size,0,none⟩) gW).trans fF | exact (fU.cell (p:=⟨w1.heap.size,0,none⟩) gO).trans ((cR.cell (p:=⟨w1.heap.size,0,none⟩) gW).trans fF))
      (first
       |(go_at_call 168;refine HT.out.mono ?_;rintro e w8 ⟨m3,rfl,jU,cR⟩;have gO:=Nat.lt_of_lt_of_le gW cR.size)
       |(go_at_call 167;refine (zd4 (some ⟨g,0,none⟩) m3 cg F (digs (x % y*F)) w8 jU dY.out lT.out (by have h1:=jU.len;have h2:=mB.out;omega)).mono ?_;rintro e w9 ⟨A9,m9,c9,rfl,gL,fU⟩))
     rw [zal,Nat.mul_div_cancel _ dY.out] at gL
     have cH:Below wr.heap.size wr w9:=cY.trans (cR.trans (fU.mono cR.size))
     have iH:=Lib.hid (lR.out w9 cH)
     have lV:=Lib.hid gL
     clear cR fU fF gL
     go_wp2_with fail
     refine iH.out.mono ?_
     rintro e wf ⟨mf,rfl,kB,jH⟩
     go_wp2
     go_ret2
     exact ⟨_,mf,_,_,m9,c9,rfl,kB,lV.out.later jH,fC.out.trans ((cH.trans (jH.mono cH.size)).mono fC.out.size)⟩
theorem zdA (A A':Option Addr) (n c n' c' x y:Nat) (w:World) (ha:DigI w A n c (digs x)) (hb:DigI w A' n' c' (digs y)) (hy:0<y) (hn:n≤1048576) (hn':n'≤1048576) :
  Calls Tryz.prog 121 #[.slice A n c,.slice A' n' c'] w (zhc w x y):=by
 rcases Nat.lt_or_ge x y with h | h
 ·exact zkx A A' n c n' c' x y w ha hb h hn hn'
 ·have hl:=hb.len
  have hp:=zan hy
  rcases Nat.lt_or_ge y B with h1 | h1
  ·have:n'=1:=by rw [←hl,zbQ hy h1];rfl
   subst this
   exact zmw A A' n c c' x y w ha hb h hy h1 hn
  ·have h2:2≤n':=by
    rcases Nat.lt_or_ge n' 2 with h3 | h3
    ·exfalso
     have h4:=zac y
     rw [hl,show n'=1 from by omega,Nat.pow_one] at h4
     omega
    ·exact h3
   exact zkn A A' n c n' c' x y (n' - 2) w ha hb (by omega) h hn
end Go.Proofs.YteajibbphcfmeaaGreatDoor
