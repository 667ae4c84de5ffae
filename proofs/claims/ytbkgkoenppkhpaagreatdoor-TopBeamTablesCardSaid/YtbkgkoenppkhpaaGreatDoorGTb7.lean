/- TopBeamTables behind its guards. -/
import Derived.Test.YtbkgkoenppkhpaaGreatDoorGTb6
import Derived.Laws.StructEq
namespace Go.Proofs.YtbkgkoenppkhpaaGreatDoor
open Go.RowKit Bn Dn
set_option maxHeartbeats 16000000 in
set_option maxRecDepth 100000 in
theorem ziT (ad:Addr) (n c:Nat) (l:List (ByteArray × ByteArray)) (a0 a1:Int) (hP0:0≤a0∧a0≤255) (hP1:0≤a1∧a1≤255) (w:World) (KV:zfp) (hT:Tabs w) (h:PtsR w w.heap.size (some ad) n l) (h5:n≤5) (h2:2≤n) (he:tabE l=0)
  (hC:∀ W,Below w.heap.size w W→Calls Tryz.prog 46 #[.slice (some ad) n c] W fun e w'=>e = .returned (.int .i64 0)∧Below W.heap.size W w') :
  Calls Tryz.prog 6 #[.slice (some ad) n c,.agg #[.int .u8 a0,.int .u8 a1]] w fun e w'=>e = .returned (.bool true)∧Below w.heap.size w w':=by
 have HK:=Aa KV;have HC:=Aa hC;have d1:decide ((n:Int)<2)=false:=decide_eq_false (by omega);have d2:decide ((5:Int)<(n:Int))=false:=decide_eq_false (by omega);have aH:l.length=n:=h.1;obtain ⟨gC,e,fJ,cK⟩:=h.2 (by omega);injection e with e
 subst e;have bY:Hid (∀ p q:Nat,((ad.add p).add q).block<w.heap.size):=fun p q=>by rw [zaK,zaK];exact fJ
 have bQ:Hid (∀ (i:Nat) (hi:i<l.length) (W:World),Below w.heap.size w W→W.cell? (ad.add (i*2))=some (.string l[i].1)):=fun i hi W hb=>(hb.cell (p:=ad.add (i*2)) (bY.out (i*2) 0)).trans (cK i hi).1
 have dK:Hid (∀ (i:Nat) (hi:i<l.length) (W:World),Below w.heap.size w W→W.cell? ⟨(ad.add (i*2)).block,(ad.add (i*2)).off+1,none⟩=some (.string l[i].2)):=fun i hi W hb=>(hb.cell (p:=⟨(ad.add (i*2)).block,(ad.add (i*2)).off+1,none⟩) (bY.out (i*2) 1)).trans (cK i hi).2
 have HP:=Aa h;have aW:=Aa aH;have HE:=Aa he;have w0:IntKind.i64.wrap a0=a0:=IntWalk.i64_in _ (by omega);have dT:IntKind.i64.wrap a1=a1:=IntWalk.i64_in _ (by omega);have fE:=Aa w0;have dJ:=Aa dT;have cU:Below w.heap.size w (w.alloc (.cells #[.int .u8 a0,.int .u8 a1] 67)):=Ac;have dX:CBlk (w.alloc (.cells #[.int .u8 a0,.int .u8 a1] 67)) w.heap.size #[.int .u8 a0,.int .u8 a1] 67:=CBlk.new _ _ _ _ rfl;clear KV hC h aH cK he w0 dT;go_enter Tryz.func6,Tryz.ntmps6
 go_wp2_with fail
 generalize (w.alloc (.cells #[.int .u8 a0,.int .u8 a1] 67))=w1 at *;refine (HC.out w1 cU).mono ?_;rintro e w2 ⟨rfl,cH⟩;have fI:=bvia cU cH;have fM:=dX.via cH;clear cU dX cH
 go_wp2_with fail
 go_loopg [42] n (fun m s W=>∃ k:Nat,k≤n∧s = .int .i64 k∧n - k≤m∧Below w.heap.size w W∧CBlk W w.heap.size #[.int .u8 a0,.int .u8 a1] 67∧Hid (∀ j (hj:j<l.length),j<k→FewK 6 l[j].1∧FewK 6 l[j].2))
 case atStart=>exact ⟨0,Nat.zero_le _,rfl,by omega,fI,fM,Aa (fun j _ hj=>absurd hj (by omega))⟩
 case round=>
  obtain ⟨k,hk,rfl,hm,aA,qq,cS⟩:=hrel
  by_cases h0:k<n
  ·have aI:k<l.length:=by have:=aW.out;omega
   have x0:=bQ.out k aI wr aA;have x1:=dK.out k aI wr aA;have HN:Hid (FewK 5 l[k].1→FewK 5 l[k].2→∀ j (hj:j<l.length),j<k+1→FewK 6 l[j].1∧FewK 6 l[j].2):=fun f1 f2 j hj gA=>by
    by_cases e:j=k
    ·subst e;exact ⟨⟨f1.1,f1.2.1.more (by omega),by have:=f1.2.2;omega⟩,⟨f2.1,f2.2.1.more (by omega),by have:=f2.2.2;omega⟩⟩
    ·exact cS.out j hj (by omega)
   obtain ⟨b1,f1,c1⟩:=zli 5 l[k].1 (by omega) (by omega);obtain ⟨b2,f2,c2⟩:=zli 5 l[k].2 (by omega) (by omega);have C1:Hid (zbC 38 #[.string l[k].1,.int .i64 5] (.bool b1)):=c1;have C2:Hid (zbC 38 #[.string l[k].2,.int .i64 5] (.bool b2)):=c2;have F1:=Aa f1;have F2:=Aa f2;clear f1 f2 c1 c2;generalize l[k].1=X at *;generalize l[k].2=Y at *;have aY:Below wr.heap.size wr (wr.alloc (.cells #[.string X,.string Y] 70)):=Ac;have qA:CBlk (wr.alloc (.cells #[.string X,.string Y] 70)) wr.heap.size #[.string X,.string Y] 70:=CBlk.new _ _ _ _ rfl;have dQ:=bvia aA aY;have fT:=qq.via aY;go_upto_region 6 with (fail)
   generalize wr.alloc (.cells #[.string X,.string Y] 70)=w3 at *;generalize wr.heap.size=g6 at *;clear aY;have y0:w3.cell? ⟨g6,0,none⟩=some (.string X):=qA.cell 0;clear x0 x1
   cases b1
   ·go_wp2_with fail
    refine (C1.out w3).mono ?_;rintro e w5 ⟨rfl,aC⟩;have aG:=bvia dQ aC
    go_wp2_with fail
    refine (HK.out w5 (hT.later aG)).mono ?_;rintro e w6 ⟨rfl,aD⟩
    go_wp2_with fail
    go_ret;exact ⟨rfl,bvia aG aD⟩
   ·have G1:=Aa (F1.out rfl)
    clear F1
    go_wp2_with fail
    refine (C1.out w3).mono ?_;rintro e w5 ⟨rfl,aC⟩;have aG:=bvia dQ aC;have fU:=qA.via aC;have y1:w5.cell? ⟨g6,1,none⟩=some (.string Y):=fU.cell 1;clear y0
    cases b2
    ·go_wp2_with fail
     refine (C2.out w5).mono ?_;rintro e w6 ⟨rfl,aD⟩;have cA:=bvia aG aD
     go_wp2_with fail
     refine (HK.out w6 (hT.later cA)).mono ?_;rintro e w7 ⟨rfl,cB⟩
     go_wp2_with fail
     go_ret;exact ⟨rfl,bvia cA cB⟩
    ·have G2:=Aa (F2.out rfl)
     clear F2
     go_wp2_with fail
     refine (C2.out w5).mono ?_;rintro e w6 ⟨rfl,aD⟩
     go_wp2_with fail
     go_roundg (n - (k+1))
     case measure=>omega
     case rel=>exact ⟨k+1,by omega,by go_num,Nat.le_refl _,bvia aG aD,(fT.via aC).via aD,Aa (HN.out G1.out G2.out)⟩
  ·obtain rfl:n=k:=by omega
   have aH:=aW.out;have F:TabF l:=⟨HE.out,by omega,fun i hi=>cS.out i hi (by omega)⟩;have h:=HP.out;obtain ⟨sl,f0,f1,m0,m1,x,y,v,u,H,NM⟩:=znB (c:=c) F (by omega) h a0 a1 hP0 hP1;have HF:=Aa F;have bZ:=Aa NM;have S1:=Aa H.g1;have S2:Hid (zbC 49 #[.int .i64 (IntKind.i64.wrap a0),.int .i64 255] (.string f0)):=by rw [fE.out];exact H.o0
   have S3:Hid (zbC 49 #[.int .i64 (IntKind.i64.wrap a1),.int .i64 255] (.string f1)):=by rw [dJ.out];exact H.o1
   have S4:=Aa H.p0;have S5:=Aa H.p1;have S6:=Aa H.d0;have S7:=Aa H.d1;have S8:Hid (∀ W,Tabs W→Below w.heap.size w W→Calls Tryz.prog 50 #[.slice (some ad) n c,.string (txt x)] W fun e w'=>e = .returned (.tuple #[.string (txt v),.int .i64 0])∧Below W.heap.size W w'):=H.b0;have S9:Hid (∀ W,Tabs W→Below w.heap.size w W→Calls Tryz.prog 50 #[.slice (some ad) n c,.string (txt y)] W fun e w'=>e = .returned (.tuple #[.string (txt u),.int .i64 0])∧Below W.heap.size W w'):=H.b1;have fG:=Aa H.c0;have fX:=Aa H.c1;have bX:=aA.drew;have x0:wr.drew.cell? ad=some (.string l[0].1):=bQ.out 0 (by omega) wr.drew bX;have x1:=bQ.out (l.length - 1) (by omega) wr.drew bX;have hX:=bY.out 0 0;have fA:=bY.out ((l.length - 1)*2) 0;have i1:IntKind.i64.wrap ((n:Int) - 1)=((l.length - 1:Nat):Int):=by rw [IntWalk.i64_in _ (by omega)];omega
   have j1:(0:Int)≤((l.length - 1:Nat):Int):=by omega
   have j2:((l.length - 1:Nat):Int)<(n:Int):=by omega
   have j3:l.length - 1<n:=by omega
   have j4:(0:Int)<(n:Int):=by omega
   have j5:0<n:=by omega
   clear H F h NM cS h0 hk;generalize l[l.length - 1].1=XL at *;generalize l[0].1=X0 at *;clear aH;generalize l.length - 1=N1 at *;generalize fC:txt x=xs at *;generalize dU:txt y=ys at *;generalize fB:txt v=vs at *;generalize dS:txt u=us at *;have cJ:=Aa fC;have cF:=Aa dU;have fW:=Aa fB;have cM:=Aa dS;clear fC dU fB dS
   go_wp2_with fail
   go_region_held3 (fun w'=>w'.cell? ad=some (.string X0)∧w'.cell? (ad.add (N1*2))=some (.string XL))
    (first | with_reducible exact ⟨x0,x1⟩ | with_reducible exact ⟨z0,z1⟩)
    (first | (go_at_call 41;refine (S1.out wr.drew).mono ?_;rintro e w5 ⟨rfl,aC⟩;have z0:w5.cell? ad=some (.string X0):=(aC.cell (p:=ad) (Nat.lt_of_lt_of_le hX aA.size)).trans x0;have z1:w5.cell? (ad.add (N1*2))=some (.string XL):=(aC.cell (p:=ad.add (N1*2)) (Nat.lt_of_lt_of_le fA aA.size)).trans x1))
   have aG:=bvia bX aC;have cI:=qq.drew.via aC;clear x0 x1 z0 z1 hX fA i1 j1 j2 j3 bX aC qq;go_upto_region 10 with (fail)
   have bJ:w5.drew.cell? ⟨w.heap.size,0,none⟩=some (.int .u8 a0):=cI.cell 0;have bI:w5.drew.cell? ⟨w.heap.size,1,none⟩=some (.int .u8 a1):=cI.cell 1
   go_region_held3 (fun w'=>w'.cell? ⟨w.heap.size,0,none⟩=some (.int .u8 a0)∧w'.cell? ⟨w.heap.size,1,none⟩=some (.int .u8 a1))
    (first | with_reducible exact ⟨bJ,bI⟩ | with_reducible exact ⟨bL,bF⟩ | with_reducible exact ⟨bT,bM⟩ | with_reducible exact ⟨bV,bS⟩ | with_reducible exact ⟨bG,bU⟩ | with_reducible exact ⟨bB,bH⟩ | with_reducible exact ⟨bN,bP⟩)
    (first
     |(have _:=aR;go_at_call 45;refine (S7.out dD).mono ?_;rintro e cE ⟨rfl,bR⟩;have bE:=aV.via bR;have bN:cE.cell? ⟨w.heap.size,0,none⟩=some (.int .u8 a0):=bE.cell 0;have bP:cE.cell? ⟨w.heap.size,1,none⟩=some (.int .u8 a1):=bE.cell 1)
     |(have _:=aT;go_at_call 48;refine (S5.out cP).mono ?_;rintro e dD ⟨rfl,aR⟩;have aV:=aS.via aR;have bB:dD.cell? ⟨w.heap.size,0,none⟩=some (.int .u8 a0):=aV.cell 0;have bH:dD.cell? ⟨w.heap.size,1,none⟩=some (.int .u8 a1):=aV.cell 1)
     |(have _:=aU;go_at_call 49;refine (S3.out dF).mono ?_;rintro e cP ⟨rfl,aT⟩;have aS:=aK.via aT;have bG:cP.cell? ⟨w.heap.size,0,none⟩=some (.int .u8 a0):=aS.cell 0;have bU:cP.cell? ⟨w.heap.size,1,none⟩=some (.int .u8 a1):=aS.cell 1)
     |(have _:=aQ;go_at_call 45;refine (S6.out dB).mono ?_;rintro e dF ⟨rfl,aU⟩;have aK:=aX.via aU;have bV:dF.cell? ⟨w.heap.size,0,none⟩=some (.int .u8 a0):=aK.cell 0;have bS:dF.cell? ⟨w.heap.size,1,none⟩=some (.int .u8 a1):=aK.cell 1)
     |(have _:=aO;go_at_call 48;refine (S4.out cY).mono ?_;rintro e dB ⟨rfl,aQ⟩;have aX:=aM.via aQ;have bT:dB.cell? ⟨w.heap.size,0,none⟩=some (.int .u8 a0):=aX.cell 0;have bM:dB.cell? ⟨w.heap.size,1,none⟩=some (.int .u8 a1):=aX.cell 1)
     |(go_at_call 49;refine (S2.out w5.drew).mono ?_;rintro e cY ⟨rfl,aO⟩;have aM:=cI.drew.via aO;have bL:cY.cell? ⟨w.heap.size,0,none⟩=some (.int .u8 a0):=aM.cell 0;have bF:cY.cell? ⟨w.heap.size,1,none⟩=some (.int .u8 a1):=aM.cell 1))
   clear bJ bI bL bF bT bM bV bS bG bU bB bH bN bP
   go_wp2_with fail
   have aN:=(bvia (bvia (bvia (bvia (bvia (bvia aG.drew aO) aQ) aU) aT) aR) bR);refine (S8.out cE (hT.later aN) aN).mono ?_;rintro e fR ⟨rfl,cR⟩
   go_wp2_with fail
   have aP:=(bvia aN cR);refine (S9.out fR (hT.later aP) aP).mono ?_;rintro e fS ⟨rfl,cV⟩
   go_wp2_with fail
   refine (fG.out fS).mono ?_;rintro e fQ ⟨rfl,cL⟩
   go_wp2_with fail
   refine (fX.out fQ).mono ?_;rintro e gB ⟨rfl,dA⟩;have cQ:=(bvia (bvia (bvia aP cV) cL) dA);have fV:=cQ
   go_wp2_with fail
   clear fE dJ;generalize IntKind.i64.wrap a0=b0;generalize IntKind.i64.wrap a1=b1
   go_loopg [15,16,17,116] n (fun m v1 v2 v3 s W=>∃ k:Nat,k≤n∧s = .int .i64 k∧n - k≤m∧Three w W v1 v2 v3 (insL l (isIn (l.map rdP) x) (xs,vs) k) (zcp (l.map rdP) m3 k) (zeb (l.map rdP) k))
   case atStart=>exact ⟨0,Nat.zero_le _,rfl,by omega,zl8 fV⟩
   case round=>
    obtain ⟨k,hk,rfl,hm,T⟩:=hrel;obtain ⟨V1,V2,V3,rfl,rfl,rfl⟩:=T.vals
    by_cases h0:k<n
    ·have aI:k<l.length:=by have:=aW.out;omega
     have cT:k<(l.map rdP).length:=by rw [List.length_map];exact aI
     have R:=zkU HF.out bZ.out.lx bZ.out.sx aI cT;have st:=zmX (xs,vs) R;have aA:=T.hb;have x0:=bQ.out k aI wr aA;have x1:=dK.out k aI wr aA;have C1:Hid (zbC 39 #[.string xs,.string l[k].1] (.int .i64 (cmpI x (l.map rdP)[k].1))):=by have:=R.g1;rw [cJ.out] at this;exact this
     have C2:=Aa R.g2;have C3:=Aa R.g3;have cO:=Aa st.s1;have dW:=Aa st.s2;have dG:=Aa st.s3;have dL:=zjc (l:=l) (c:=isIn (l.map rdP) x) (pt:=(xs,vs)) k;have bW:Hid ((insL l (isIn (l.map rdP) x) (xs,vs) k).length≤10):=Nat.le_trans dL (by omega);have dI:Hid ((zcp (l.map rdP) m3 k).length≤10):=Nat.le_trans (zkw _ _ _) (by omega);have dM:Hid ((zeb (l.map rdP) k).length≤10):=Nat.le_trans (zl0 _ _) (by omega);have bD:k=0∨∃ h:0<k,k≠0:=by rcases Nat.eq_zero_or_pos k with e | e;exact .inl e;exact .inr ⟨e,by omega⟩
     have HQ:Hid ((k=0∧isIn (l.map rdP) x k=false)∨∃ (c1 c2:Int) (X':ByteArray),0<k∧isIn (l.map rdP) x k=(decide (c1<0) && decide (c2<0))∧zbC 39 #[.string X',.string xs] (.int .i64 c1)∧zbC 39 #[.string xs,.string l[k].1] (.int .i64 c2)∧∀ W,Below w.heap.size w W→W.cell? (ad.add ((k - 1)*2))=some (.string X')):=by
      rcases Nat.eq_zero_or_pos k with e | e
      ·exact .inl ⟨e,by rw [e];exact zfQ _ _⟩
      ·refine .inr ⟨_,_,_,e,ziL cT e,?_,C1.out,fun W hb=>bQ.out (k - 1) (by omega) W hb⟩
       have:=R.g0 e;rw [cJ.out] at this;exact this
     clear bD dL C1 R st;generalize l[k].1=X at *;generalize l[k].2=Y at *;generalize txt (mulQ m3 (l.map rdP)[k].2)=Z at *;generalize txt (negQ (l.map rdP)[k].1)=Ng at *;clear cT aI;generalize insL l (isIn (l.map rdP) x) (xs,vs) k=M1 at *;generalize dP:insL l (isIn (l.map rdP) x) (xs,vs) (k+1)=N1 at *;have fN:=Aa dP;clear dP;generalize zcp (l.map rdP) m3 k=M2 at *;generalize dV:zcp (l.map rdP) m3 (k+1)=N2 at *;have fK:=Aa dV;clear dV;generalize zeb (l.map rdP) k=M3 at *;generalize dZ:zeb (l.map rdP) (k+1)=N3 at *;have fF:=Aa dZ;clear dZ;generalize isIn (l.map rdP) x k=bi at *;have aY:Below wr.heap.size wr (wr.alloc (.cells #[.string X,.string Y] 70)):=Ac;have qA:CBlk (wr.alloc (.cells #[.string X,.string Y] 70)) wr.heap.size #[.string X,.string Y] 70:=CBlk.new _ _ _ _ rfl;have T3:=T.later aY;go_upto_region 19 with (fail)
     have R1:=Aa T.r1.lt;have R2:=Aa T.r2.lt;generalize wr.alloc (.cells #[.string X,.string Y] 70)=w3 at *;generalize wr.heap.size=g6 at *;clear aY x0 x1 T aA
     go_cut [140] (fun b wd=>b = .bool bi∧Three w wd V1 V2 V3 M1 M2 M3∧CBlk wd g6 #[.string X,.string Y] 70)
     case first=>
      rcases HQ.out with ⟨rfl,hb⟩ | ⟨c1,c2,X',fZ,hb,D1,D2,fD⟩
      ·have d0:decide ((0:Int)<((0:Nat):Int))=false:=rfl
       go_wp2_with fail
       go_meet
       exact ⟨by rw [hb],T3,qA⟩
      ·have d0:decide ((0:Int)<(k:Int))=true:=decide_eq_true (by omega)
       have i1:IntKind.i64.wrap ((k:Int) - 1)=((k - 1:Nat):Int):=by rw [IntWalk.i64_in _ (by omega)];omega
       have j1:(0:Int)≤((k - 1:Nat):Int):=by omega
       have j2:((k - 1:Nat):Int)<(n:Int):=by omega
       have j3:k - 1<n:=by omega
       have z0:=fD w3 T3.hb;have E1:=Aa D1;have E2:=Aa D2;clear fD D1 D2;generalize k - 1=kp at *;have hc:decide (c1<0)=false∨decide (c1<0)=true:=by cases decide (c1<0)<;>simp
       rcases hc with d1 | d1
       ·go_wp2_with fail
        refine (E1.out w3).mono ?_;rintro e w5 ⟨rfl,aC⟩
        go_wp2_with fail
        go_meet
        exact ⟨by rw [hb,d1];rfl,T3.later aC,qA.via aC⟩
       ·go_wp2_with fail
        refine (E1.out w3).mono ?_;rintro e w5 ⟨rfl,aC⟩;have q5:=qA.via aC;have y0:w5.cell? ⟨g6,0,none⟩=some (.string X):=q5.p0
        go_wp2_with fail
        refine (E2.out w5).mono ?_;rintro e w6 ⟨rfl,aD⟩
        go_wp2_with fail
        go_meet
        exact ⟨by rw [hb,d1];rfl,(T3.later aC).later aD,q5.via aD⟩
     case rest=>
      clear T3 qA HQ;obtain ⟨rfl,T4,q4⟩:=hcut;have NE:=Aa fun e=>Nat.lt_irrefl _ (R1.out g6 e)
      have dN:=Aa fun e=>Nat.lt_irrefl _ (R2.out g6 e)
      clear R1 R2
      go_upto_if 140 with (fail)
      go_cut [15] from 141 to 147 (fun v wx=>∃ M,Hid (N1=M++[(X,Y)])∧Hid (M.length+1≤1000)∧Hid (v.ownBlock=some g6→False)∧Three w wx v V2 V3 M M2 M3∧CBlk wx g6 #[.string X,.string Y] 70)
      case first=>
       cases bi
       ·go_wp2_with fail
        go_meet
        exact ⟨M1,cO,Nat.le_trans (Nat.succ_le_succ bW.out) (by omega),NE,T4,q4⟩
       ·have LM:Hid (M1.length+1≤1000):=Nat.le_trans (Nat.succ_le_succ bW.out) (by omega)
        go_wp2_with (at_builtin;refine zfh rfl _ _ rfl w.heap.size rfl (T4.later (zaT _ _)).r1 rfl (zep _ _ _ _ T4.hb.size) (ziQ _ _) LM.out (T4.later (zaT _ _)).hb.size ?_;intro v7 w7 ho hg aF)
        go_meet
        have cG:=q4.via (zaT _ (.cells #[.string xs,.string vs] 70));refine ⟨M1++[(xs,vs)],cO,?_,zk1 NE.out cG.lt aF,(T4.later (zaT _ _)).app1 (p:=(xs,vs)) ho hg aF,cG.grown hg cG.lt NE.out⟩;have:=bW.out;show _≤_
        rw [List.length_append,List.length_singleton];omega
      case rest=>
       clear T4 q4 NE cO bW;obtain ⟨M,HZ,LZ,NE,T5,q5⟩:=hcut;have y0:wc.cell? ⟨g6,0,none⟩=some (.string X):=q5.p0;have y1:wc.cell? ⟨g6,1,none⟩=some (.string Y):=q5.p1;go_upto_region 22 with (at_builtin;refine zfh rfl _ _ rfl w.heap.size rfl (T5.later (zaT _ _)).r1 rfl (zep _ _ _ _ T5.hb.size) (ziQ _ _) LZ.out (T5.later (zaT _ _)).hb.size ?_;intro v8 w8 ho hg aF)
       have cZ:=q5.via (zaT _ (.cells #[.string X,.string Y] 70));have q8:=(cZ.grown hg cZ.lt NE.out).drew;have T8:Three w w8 v8 V2 V3 N1 M2 M3:=by rw [HZ.out];exact (T5.later (zaT _ _)).app1 (p:=(X,Y)) ho hg aF
       replace T8:=T8.later (Below.refl _ _).drew
       clear ho hg aF cZ q5 T5 NE LZ HZ y0 y1;have dO:Hid (M2.length+1≤1000):=Nat.le_trans (Nat.succ_le_succ dI.out) (by omega);have dH:Hid (1+M3.length≤1000):=by have:=dM.out;show _≤_;omega
       clear dI dM;have y0:w8.drew.cell? ⟨g6,0,none⟩=some (.string X):=q8.p0;have y1:w8.drew.cell? ⟨g6,1,none⟩=some (.string Y):=q8.p1
       go_region_held3 (fun w'=>w'.cell? ⟨g6,0,none⟩=some (.string X)∧w'.cell? ⟨g6,1,none⟩=some (.string Y))
        (first | with_reducible exact ⟨y0,y1⟩ | with_reducible exact ⟨f0,f1⟩ | with_reducible exact ⟨e0,e1⟩ | with_reducible exact ⟨z0,z1⟩)
        (first | (go_at_call 48;refine (C2.out w8.drew).mono ?_;rintro e w9 ⟨rfl,bA⟩;have q9:=q8.via bA;have T9:=T8.later bA;have z0:=q9.p0;have z1:=q9.p1;have bK:=q9.via (zaT _ (.cells #[.string X,.string Z] 70));have e0:=bK.p0;have e1:=bK.p1) | (refine zff (by rfl) _ _ (by rfl) w.heap.size (by rfl) (T9.later (zaT _ (.cells #[.string X,.string Z] 70))).r2 (by rfl) (zep _ _ _ _ T9.hb.size) (ziQ _ _) dO.out (T9.later (zaT _ _)).hb.size ?_;intro v9 aZ ho hg aF;have aJ:=bK.grown hg bK.lt dN.out;have f0:=aJ.p0;have f1:=aJ.p1))
       have cC:Three w aZ v8 v9 V3 N1 N2 M3:=by rw [dW.out];exact (T9.later (zaT _ _)).app2 (p:=(X,Z)) ho hg aF
       replace cC:=cC.later (Below.refl _ _).drew
       replace aJ:=aJ.drew
       clear ho hg aF q9 bK q8 T8 T9 y0 y1 z0 z1 e0 e1 f0 f1 bA C2 dW dO dN;go_upto_region 23 with (fail)
       have y0:aZ.drew.cell? ⟨g6,0,none⟩=some (.string X):=aJ.p0;have y1:aZ.drew.cell? ⟨g6,1,none⟩=some (.string Y):=aJ.p1
       go_region_held3 (fun w'=>w'.cell? ⟨g6,0,none⟩=some (.string X)∧w'.cell? ⟨g6,1,none⟩=some (.string Y))
        (first | with_reducible exact ⟨y0,y1⟩ | with_reducible exact ⟨f0,f1⟩ | with_reducible exact ⟨e0,e1⟩ | with_reducible exact ⟨z0,z1⟩)
        (first | (go_at_call 42;refine (C3.out aZ.drew).mono ?_;rintro e gD ⟨rfl,aL⟩;have bO:=aJ.via aL;have bC:=cC.later aL;have z0:=bO.p0;have z1:=bO.p1;have aE:=bO.via (zaT _ (.cells #[.string Ng,.string Y] 70));have e0:=aE.p0;have e1:=aE.p1) | (refine zff (by rfl) _ _ (by rfl) w.heap.size (by rfl) (zep _ _ _ _ bC.hb.size) (by rfl) (bC.later (zaT _ (.cells #[.string Ng,.string Y] 70))).r3 (zk5 _) dH.out (bC.later (zaT _ _)).hb.size ?_;intro fP fH ho hg aF;have cW:=aE.grown hg aE.lt (fun e=>absurd (Option.some.inj e) (Nat.ne_of_gt bO.lt));have f0:=cW.p0;have f1:=cW.p1))
       have fY:Three w fH v8 v9 fP N1 N2 N3:=by rw [dG.out];exact bC.front ho hg aF
       clear ho hg aF bO aE aJ cW cC bC y0 y1 z0 z1 e0 e1 f0 f1 aL C3 dG dH
       go_wp2_with fail
       go_roundg (n - (k+1))
       case measure=>omega
       case rel=>exact ⟨k+1,by omega,by go_num,Nat.le_refl _,by rw [fN.out,fK.out,fF.out];exact fY⟩
    ·obtain rfl:n=k:=by omega
     obtain ⟨B1,B2,B3⟩:=zmq HF.out (by have:=aW.out;omega) bZ.out;rw [aW.out,cJ.out,fW.out,cF.out,cM.out] at B1;rw [aW.out,cF.out] at B2;rw [aW.out,cM.out] at B3;have N:=bZ.out;have G1:zbC 42 #[.string (txt y)] (.string (txt (negQ y))):=tNeg N.ly N.sy (by omega) (by omega);have G2:zbC 48 #[.string (txt m3),.string (txt u)] (.string (txt (mulQ m3 u))):=tMul zew.2 N.lu (zfo.more (show 1≤80 by omega)) N.su (by omega) (by omega);rw [cF.out] at G1;rw [←zeZ zew,cM.out] at G2;have G1:=Aa G1;have G2:=Aa G2;have B1:=Aa B1;have B2:=Aa B2;have B3:=Aa B3;clear N;generalize txt (negQ y)=ny at *;generalize txt (mulQ m3 u)=mu at *;generalize insL l (isIn (l.map rdP) x) (xs,vs) n=M1 at *;generalize zcp (l.map rdP) m3 n=M2 at *;generalize zeb (l.map rdP) n=M3 at *;obtain ⟨A1,c1,rfl,p1⟩:=T.r1.pts;obtain ⟨A2,c2,rfl,p2⟩:=T.r2.pts;obtain ⟨A3,c3,rfl,p3⟩:=T.r3.pts;have hB:=T.hb;clear T
     go_wp2_with fail
     refine (B1.out A1 c1 wr (hT.later hB) p1).mono ?_;rintro e w5 ⟨rfl,aC⟩;have aG:=bvia hB aC
     replace p2:=p2.later aC
     replace p3:=p3.later aC
     go_wp2_with fail
     refine (B2.out A2 c2 w5 (hT.later aG) p2).mono ?_;rintro e w6 ⟨rfl,aD⟩;have cA:=bvia aG aD
     replace p3:=p3.later aD
     go_wp2_with fail
     refine (G1.out w6).mono ?_;rintro e w7 ⟨rfl,cB⟩;have dY:=bvia cA cB
     replace p3:=p3.later cB
     go_wp2_with fail
     refine (B3.out A3 c3 w7 (hT.later dY) p3).mono ?_;rintro e w8 ⟨rfl,fO⟩;have fL:=bvia dY fO
     go_wp2_with fail
     refine (G2.out w8).mono ?_;rintro e w9 ⟨rfl,bA⟩;have dR:=bvia fL bA
     go_wp2_with fail
     refine (HK.out w9 (hT.later dR)).mono ?_;rintro e aZ ⟨rfl,cN⟩
     go_wp2_with fail
     go_ret;exact ⟨rfl,bvia dR cN⟩
end Go.Proofs.YtbkgkoenppkhpaaGreatDoor
