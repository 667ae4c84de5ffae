/- NumberBlends: the law behind its guards. -/
import Derived.Test.YtmkondcdejlhcaaGreatDoorLBl3
import Derived.Test.YtmkondcdejlhcaaGreatDoorLRtx
import Derived.Test.YtmkondcdejlhcaaGreatDoorBKn8
import Derived.Laws.StructEq
set_option maxRecDepth 100000
set_option maxHeartbeats 16000000
namespace Go.Proofs.YtmkondcdejlhcaaGreatDoor
open Go.RowKit Bn Dn
theorem zke (A:Option Addr) (n c:Nat) (l:List (ByteArray × ByteArray)) (w:World) (h:PtsR w w.heap.size A n l) (hsz:∀ p ∈ l,p.1.size≤9223372036854775807∧p.2.size≤9223372036854775807) :
  Calls Tryz.prog 40 #[.slice A n c] w fun e w'=>e = .returned (.int .i64 (tabE l))∧Below w.heap.size w w':=by
 have hl:l.length=n:=h.1;unfold tabE
 by_cases h1:n<1
 ·rw [if_pos (by omega)]
  exact zfr A n c w 12 (.inl ⟨h1,rfl⟩)
 ·rw [if_neg (by omega)]
  by_cases h2:64<n
  ·rw [if_pos (by omega)]
   exact zfr A n c w 5 (.inr ⟨h2,rfl⟩)
  ·rw [if_neg (by omega)]
   exact zjq A n c l w h hsz (by omega) (by omega)
theorem zkm (A:Option Addr) (n c:Nat) (P:Int) (w:World) (KV:zcx) (hT:Tabs w) (hn:6<n) :
  Calls Tryz.prog 6 #[.slice A n c,.int .u8 P] w fun e w'=>e = .returned (.bool true)∧Below w.heap.size w w':=by
 have HK:=Aa KV;have d1:decide ((6:Int)<(n:Int))=true:=decide_eq_true (by omega);clear KV hn;go_enter Tryz.func6,Tryz.ntmps6
 go_wp2_with fail
 refine (HK.out w hT).mono ?_;rintro e w2 ⟨rfl,aA⟩
 go_wp2_with fail
 refine (HK.out w2 (hT.later aA)).mono ?_;rintro e w3 ⟨rfl,aC⟩;go_wp2
 go_ret;exact ⟨rfl,bvia aA aC⟩
theorem zmc (A:Option Addr) (n c:Nat) (P E:Int) (w:World) (KV:zcx) (hT:Tabs w) (hn:n≤6) (hE:E≠0) (hC:∀ W,Below w.heap.size w W→Calls Tryz.prog 40 #[.slice A n c] W fun e w'=>e = .returned (.int .i64 E)∧Below W.heap.size W w') :
  Calls Tryz.prog 6 #[.slice A n c,.int .u8 P] w fun e w'=>e = .returned (.bool true)∧Below w.heap.size w w':=by
 have HK:=Aa KV;have HC:=Aa hC;have d1:decide ((6:Int)<(n:Int))=false:=decide_eq_false (by omega);have d2:(E != 0)=true:=by simpa using hE
 clear KV hn hC hE;go_enter Tryz.func6,Tryz.ntmps6
 go_wp2_with fail
 refine (HK.out w hT).mono ?_;rintro e w2 ⟨rfl,aA⟩
 go_wp2_with fail
 refine (HC.out w2 aA).mono ?_;rintro e w3 ⟨rfl,aD⟩;have aC:=bvia aA aD
 go_wp2_with fail
 refine (HK.out w3 (hT.later aC)).mono ?_;rintro e w4 ⟨rfl,aE⟩;go_wp2
 go_ret;exact ⟨rfl,bvia aC aE⟩
theorem zku (ad:Addr) (n c:Nat) (l:List (ByteArray × ByteArray)) (P:Int) (hP:0≤P∧P≤255) (w:World) (KV:zcx) (hT:Tabs w) (h:PtsR w w.heap.size (some ad) n l) (h6:n≤6) (h1:1≤n) (he:tabE l=0)
  (hC:∀ W,Below w.heap.size w W→Calls Tryz.prog 40 #[.slice (some ad) n c] W fun e w'=>e = .returned (.int .i64 0)∧Below W.heap.size W w') :
  Calls Tryz.prog 6 #[.slice (some ad) n c,.int .u8 P] w fun e w'=>e = .returned (.bool true)∧Below w.heap.size w w':=by
 have HK:=Aa KV;have HC:=Aa hC;have d1:decide ((6:Int)<(n:Int))=false:=decide_eq_false (by omega);have aV:l.length=n:=h.1;obtain ⟨iS,e,iE,gS⟩:=h.2 (by omega);injection e with e
 subst e;have hJ:Hid (∀ p q:Nat,((ad.add p).add q).block<w.heap.size):=fun p q=>by rw [zaN,zaN];exact iE
 have dH:Hid (∀ (i:Nat) (hi:i<l.length) (W:World),Below w.heap.size w W→W.cell? (ad.add (i*2))=some (.string l[i].1)):=fun i hi W hb=>(hb.cell (p:=ad.add (i*2)) (hJ.out (i*2) 0)).trans (gS i hi).1
 have gT:Hid (∀ (i:Nat) (hi:i<l.length) (W:World),Below w.heap.size w W→W.cell? ⟨(ad.add (i*2)).block,(ad.add (i*2)).off+1,none⟩=some (.string l[i].2)):=fun i hi W hb=>(hb.cell (p:=⟨(ad.add (i*2)).block,(ad.add (i*2)).off+1,none⟩) (hJ.out (i*2) 1)).trans (gS i hi).2
 have HP:=Aa h;have gV:=Aa aV;have HE:=Aa he;clear KV hC h aV gS he;go_enter Tryz.func6,Tryz.ntmps6
 go_wp2_with fail
 refine (HK.out w hT).mono ?_;rintro e w2 ⟨rfl,gW⟩
 go_wp2_with fail
 refine (HC.out w2 gW).mono ?_;rintro e w3 ⟨rfl,iA⟩;have iC:=bvia gW iA;clear gW iA
 go_wp2_with fail
 go_loopg [35] n (fun m s W=>∃ k:Nat,k≤n∧s = .int .i64 k∧n - k≤m∧Below w.heap.size w W∧Hid (∀ j (hj:j<l.length),j<k→FewK 6 l[j].1∧FewK 6 l[j].2))
 case atStart=>exact ⟨0,Nat.zero_le _,rfl,by omega,iC,Aa (fun j _ hj=>absurd hj (by omega))⟩
 case round=>
  obtain ⟨k,hk,rfl,hm,aA,gX⟩:=hrel
  by_cases h0:k<n
  ·have bE:k<l.length:=by have:=gV.out;omega
   have x0:=dH.out k bE wr aA;have hY:=gT.out k bE;have HN:Hid (FewK 6 l[k].1→FewK 6 l[k].2→∀ j (hj:j<l.length),j<k+1→FewK 6 l[j].1∧FewK 6 l[j].2):=fun f1 f2 j hj iP=>by
    by_cases e:j=k
    ·subst e;exact ⟨f1,f2⟩
    ·exact gX.out j hj (by omega)
   obtain ⟨b1,f1,c1⟩:=zg5 6 l[k].1 (by omega) (by omega);obtain ⟨b2,f2,c2⟩:=zg5 6 l[k].2 (by omega) (by omega);have C1:Hid (zaS 35 #[.string l[k].1,.int .i64 6] (.bool b1)):=c1;have C2:Hid (zaS 35 #[.string l[k].2,.int .i64 6] (.bool b2)):=c2;have F1:=Aa f1;have F2:=Aa f2;have HY:=Aa hY;clear f1 f2 c1 c2 hY;generalize l[k].1=X at *;generalize l[k].2=Y at *
   cases b1
   ·go_wp2_with fail
    refine (C1.out wr).mono ?_;rintro e w5 ⟨rfl,aT⟩
    go_wp2_with fail
    go_ret;exact ⟨rfl,bvia aA aT⟩
   ·have G1:=Aa (F1.out rfl)
    clear F1
    go_wp2_with fail
    refine (C1.out wr).mono ?_;rintro e w5 ⟨rfl,aT⟩;have aC:=bvia aA aT;have x1:=HY.out w5 aC
    cases b2
    ·go_wp2_with fail
     refine (C2.out w5).mono ?_;rintro e w6 ⟨rfl,dJ⟩
     go_wp2_with fail
     go_ret;exact ⟨rfl,bvia aC dJ⟩
    ·have G2:=Aa (F2.out rfl)
     clear F2
     go_wp2_with fail
     refine (C2.out w5).mono ?_;rintro e w6 ⟨rfl,dJ⟩
     go_wp2_with fail
     go_roundg (n - (k+1))
     case measure=>omega
     case rel=>exact ⟨k+1,by omega,by go_num,Nat.le_refl _,bvia aC dJ,Aa (HN.out G1.out G2.out)⟩
  ·obtain rfl:n=k:=by omega
   have aV:=gV.out;have F:TabF l:=⟨HE.out,by omega,fun i hi=>gX.out i hi (by omega)⟩;have h:=HP.out;obtain ⟨sB,g1,g2⟩:=zpB F h (by omega);obtain ⟨sA,g3,g4⟩:=zoO F h (by omega);have S1:=Aa g1;have S2:=Aa (show ∀ W,Tabs W→Below w.heap.size w W→Calls Tryz.prog 41 #[.slice (some ad) n c,.string sB] W fun e w'=>e = .returned (.tuple #[.string ⟨#[]⟩,.int .i64 3])∧Below W.heap.size W w' from g2);have S3:=Aa g3;have S4:=Aa (show ∀ W,Tabs W→Below w.heap.size w W→Calls Tryz.prog 41 #[.slice (some ad) n c,.string sA] W fun e w'=>e = .returned (.tuple #[.string ⟨#[]⟩,.int .i64 3])∧Below W.heap.size W w' from g4);have iJ:Hid (∀ i (hi:i<l.length),zd7 (some ad) n c w l[i].1 l[i].2 0):=fun i hi=>zqE F h i hi
   have iO:Hid (∀ i j (hi:i<l.length) (hj:j<l.length),j=i+1→∃ sa ha mi x v sb d1 d2 d3 d4 pr,Seg (some ad) n c w P l[i].1 l[i].2 l[j].1 l[j].2 sa ha mi x v sb d1 d2 d3 d4 pr):=fun i j hi hj e=>by subst e;exact zry F h P hP i hj
   have x0:wr.cell? ad=some (.string l[0].1):=dH.out 0 (by omega) wr aA;have hL:=dH.out (l.length - 1) (by omega);have iL:=Aa hL;have i1:IntKind.i64.wrap ((n:Int) - 1)=((l.length - 1:Nat):Int):=by rw [IntWalk.i64_in _ (by omega)];omega
   have i2:wrap64 ((n:Int) - 1)=((l.length - 1:Nat):Int):=by rw [IntWalk.wrap64_in _ (by omega)];omega
   have j1:(0:Int)≤((l.length - 1:Nat):Int):=by omega
   have j2:((l.length - 1:Nat):Int)<(n:Int):=by omega
   have j3:l.length - 1<n:=by omega
   have j4:(0:Int)<(n:Int):=by omega
   clear g1 g2 g3 g4 F gX hL h0 hk;generalize l[l.length - 1].1=XL at *;generalize l[0].1=X0 at *;clear h;generalize l.length - 1=N1 at *;clear aV
   go_wp2_with fail
   refine (S1.out wr).mono ?_;rintro e w5 ⟨rfl,aT⟩;have aC:=bvia aA aT
   go_wp2_with fail
   refine (S2.out w5 (hT.later aC) aC).mono ?_;rintro e w6 ⟨rfl,dJ⟩;have dI:=bvia aC dJ;have x1:=iL.out w6 dI
   go_wp2_with fail
   refine (S3.out w6).mono ?_;rintro e w7 ⟨rfl,iB⟩;have gM:=bvia dI iB
   go_wp2_with fail
   refine (S4.out w7 (hT.later gM) gM).mono ?_;rintro e w8 ⟨rfl,gZ⟩;have iF:=bvia gM gZ;clear x0 x1 S1 S2 S3 S4 i1 i2 j1 j2 j3 aT dJ iB gZ aC dI gM
   go_wp2_with fail
   go_loopg [86] n (fun m s W=>∃ k:Nat,k≤n∧s = .int .i64 k∧n - k≤m∧Below w.heap.size w W)
   case atStart=>exact ⟨0,Nat.zero_le _,rfl,by omega,iF⟩
   case round=>
    obtain ⟨k,hk,rfl,hm,aA⟩:=hrel
    by_cases h0:k<n
    ·have bE:k<l.length:=by have:=gV.out;omega
     have gY:Hid (∀ W,Tabs W→Below w.heap.size w W→Calls Tryz.prog 41 #[.slice (some ad) n c,.string l[k].1] W fun e w'=>e = .returned (.tuple #[.string l[k].2,.int .i64 0])∧Below W.heap.size W w'):=iJ.out k bE;have x0:=dH.out k bE wr aA;have HX:=Aa (dH.out k bE);have HY:=Aa (gT.out k bE)
     rcases Nat.eq_zero_or_pos k with gI | gI
     ·generalize l[k].1=X at *
      generalize l[k].2=Y at *;have e1:(Y.toList==Y.toList)=true:=by simp
      have e2:((k:Int)==0)=true:=by rw [beq_iff_eq];omega
      have iQ:=Aa gI;clear gI
      go_wp2_with fail
      refine (gY.out wr (hT.later aA) aA).mono ?_;rintro e w5 ⟨rfl,aT⟩;have aC:=bvia aA aT;have x1:=HY.out w5 aC
      go_wp2_with fail
      go_roundg (n - (k+1))
      case measure=>omega
      case rel=>exact ⟨k+1,by omega,by go_num,Nat.le_refl _,aC⟩
     ·have gN:k - 1<l.length:=by omega
      obtain ⟨sa,ha,mi,x,v,sb,d1,d2,d3,d4,pr,G⟩:=iO.out (k - 1) k gN bE (by omega);have aL:=Aa (dH.out (k - 1) gN);have aM:=Aa (gT.out (k - 1) gN);have i1:IntKind.i64.wrap ((k:Int) - 1)=((k - 1:Nat):Int):=by rw [IntWalk.i64_in _ (by omega)];omega
      have i2:wrap64 ((k:Int) - 1)=((k - 1:Nat):Int):=by rw [IntWalk.wrap64_in _ (by omega)];omega
      have j1:(0:Int)≤((k - 1:Nat):Int):=by omega
      have j2:((k - 1:Nat):Int)<(n:Int):=by omega
      have j3:k - 1<n:=by omega
      have G1:=Aa G.h1;have G2:=Aa G.h2;have G3:Hid (∀ W,Tabs W→Below w.heap.size w W→Calls Tryz.prog 41 #[.slice (some ad) n c,.string ha] W fun e w'=>e = .returned (.tuple #[.string mi,.int .i64 0])∧Below W.heap.size W w'):=G.h3;have G5:=Aa G.h5;have G6:Hid (∀ W,Tabs W→Below w.heap.size w W→Calls Tryz.prog 41 #[.slice (some ad) n c,.string x] W fun e w'=>e = .returned (.tuple #[.string v,.int .i64 0])∧Below W.heap.size W w'):=G.h6;have G7:=Aa G.h7;have G8:=Aa G.h8;have G9:=Aa G.h9;have L1:=Aa G.k1;have L2:=Aa G.k2;have L3:=Aa G.k3;have L4:=Aa G.k4;have L5:=Aa G.k5;have L6:=Aa G.k6;clear G;generalize l[k].1=X at *;generalize l[k].2=Y at *;generalize l[k - 1].1=X9 at *;generalize l[k - 1].2=Y9 at *;have iR:=Aa gI;have e2:((k:Int)==0)=false:=by rw [beq_eq_false_iff_ne];omega
      clear gN gI;generalize k - 1=K1 at *;have e1:(Y.toList==Y.toList)=true:=by simp
      have e3:(mi.toList==mi.toList)=true:=by simp
      have e4:(pr.toList==pr.toList)=true:=by simp
      go_wp2_with fail
      refine (gY.out wr (hT.later aA) aA).mono ?_;rintro e w5 ⟨rfl,aT⟩;have aC:=bvia aA aT;clear x0;have x1:=HY.out w5 aC;go_upto_region 20 with (fail)
      clear x1;have y0:=HX.out w5.drew aC.drew;have y1:=HY.out w5.drew aC.drew;have y2:=aL.out w5.drew aC.drew;have y3:=aM.out w5.drew aC.drew;have he:Below w.heap.size w (w5.alloc (.cells #[.string ⟨#[]⟩,.string ⟨#[]⟩] 57)):=aC.alloc aC.size _;have h9:Below w.heap.size w (w5.alloc (.cells #[.string X9,.string Y9] 57)):=aC.alloc aC.size _;have hx:Below w.heap.size w (w5.alloc (.cells #[.string X,.string Y] 57)):=aC.alloc aC.size _;have gB:Below w.heap.size w ((w5.alloc (.cells #[.string ⟨#[]⟩,.string ⟨#[]⟩] 57)).alloc (.cells #[.string ⟨#[]⟩,.string ⟨#[]⟩] 57)):=he.alloc he.size _;have fY:Below w.heap.size w ((w5.alloc (.cells #[.string X9,.string Y9] 57)).alloc (.cells #[.string ⟨#[]⟩,.string ⟨#[]⟩] 57)):=h9.alloc h9.size _;have dS:Below w.heap.size w ((w5.alloc (.cells #[.string X,.string Y] 57)).alloc (.cells #[.string ⟨#[]⟩,.string ⟨#[]⟩] 57)):=hx.alloc hx.size _;have fX:Below w.heap.size w ((w5.alloc (.cells #[.string ⟨#[]⟩,.string ⟨#[]⟩] 57)).alloc (.cells #[.string X9,.string Y9] 57)):=he.alloc he.size _;have fS:Below w.heap.size w ((w5.alloc (.cells #[.string ⟨#[]⟩,.string ⟨#[]⟩] 57)).alloc (.cells #[.string X,.string Y] 57)):=he.alloc he.size _;have dD:Below w.heap.size w ((w5.alloc (.cells #[.string X9,.string Y9] 57)).alloc (.cells #[.string X,.string Y] 57)):=h9.alloc h9.size _;have cR:Below w.heap.size w ((w5.alloc (.cells #[.string X,.string Y] 57)).alloc (.cells #[.string X9,.string Y9] 57)):=hx.alloc hx.size _;have gG:=HX.out _ he;have gD:=HY.out _ he;have bS:=aL.out _ he;have bH:=aM.out _ he;have dR:=HX.out _ h9;have dM:=HY.out _ h9;have bF:=aL.out _ h9;have bL:=aM.out _ h9;have fN:=HX.out _ hx;have fO:=HY.out _ hx;have bW:=aL.out _ hx;have bK:=aM.out _ hx;have bU:=HX.out _ gB;have bG:=HY.out _ gB;have aI:=aL.out _ gB;have aO:=aM.out _ gB;have bN:=HX.out _ fY;have bI:=HY.out _ fY;have aP:=aL.out _ fY;have aQ:=aM.out _ fY;have bQ:=HX.out _ dS;have bD:=HY.out _ dS;have aF:=aL.out _ dS;have aK:=aM.out _ dS;have bM:=HX.out _ fX;have bO:=HY.out _ fX;have aD:=aL.out _ fX;have aH:=aM.out _ fX;have bJ:=HX.out _ fS;have bR:=HY.out _ fS;have aR:=aL.out _ fS;have aN:=aM.out _ fS;have bP:=HX.out _ dD;have bT:=HY.out _ dD;have aJ:=aL.out _ dD;have aG:=aM.out _ dD;have bC:=HX.out _ cR;have bV:=HY.out _ cR;have aE:=aL.out _ cR;have aS:=aM.out _ cR;clear he h9 hx gB fY dS fX fS;have iM:=Aa (zf7 X9 X)
      go_region
      focus
       have qa:CBlk ((w5.alloc (.cells #[.string X9,.string Y9] 57)).alloc (.cells #[.string X,.string Y] 57)) (w5.heap.size) #[.string X9,.string Y9] 57:=(CBlk.new _ _ _ _ rfl).alloc _;have qb:CBlk ((w5.alloc (.cells #[.string X9,.string Y9] 57)).alloc (.cells #[.string X,.string Y] 57)) (w5.heap.size+1) #[.string X,.string Y] 57:=CBlk.new _ _ _ _ (by simp);have dI:=dD;clear gG gD bS bH dR dM bF bL fN fO bW bK bU bG aI aO bN bI aP aQ bQ bD aF aK bM bO aD aH bJ bR aR aN bP bT aJ aG bC bV aE aS dD cR y0 y1 y2 y3;generalize ((w5.alloc (.cells #[.string X9,.string Y9] 57)).alloc (.cells #[.string X,.string Y] 57))=w6 at *;generalize w5.heap.size+1=gb at *;generalize w5.heap.size=ga at *
      rotate_left
      focus
       have qa:CBlk ((w5.alloc (.cells #[.string X,.string Y] 57)).alloc (.cells #[.string X9,.string Y9] 57)) (w5.heap.size+1) #[.string X9,.string Y9] 57:=CBlk.new _ _ _ _ (by simp);have qb:CBlk ((w5.alloc (.cells #[.string X,.string Y] 57)).alloc (.cells #[.string X9,.string Y9] 57)) (w5.heap.size) #[.string X,.string Y] 57:=(CBlk.new _ _ _ _ rfl).alloc _;have dI:=cR;clear gG gD bS bH dR dM bF bL fN fO bW bK bU bG aI aO bN bI aP aQ bQ bD aF aK bM bO aD aH bJ bR aR aN bP bT aJ aG bC bV aE aS dD cR y0 y1 y2 y3;generalize ((w5.alloc (.cells #[.string X,.string Y] 57)).alloc (.cells #[.string X9,.string Y9] 57))=w6 at *;generalize w5.heap.size+1=ga at *;generalize w5.heap.size=gb at *
      all_goals
       have gU:=dI.drew;have gP:=qa.drew;have gQ:=qb.drew;have gH:w6.drew.cell? ⟨ga,0,none⟩=some (.string X9):=gP.cell 0;have fH:w6.drew.cell? ⟨ga,1,none⟩=some (.string Y9):=gP.cell 1;have gF:w6.drew.cell? ⟨gb,0,none⟩=some (.string X):=gQ.cell 0;have dV:w6.drew.cell? ⟨gb,1,none⟩=some (.string Y):=gQ.cell 1
       go_wp2_with fail
       refine (G1.out w6.drew).mono ?_;rintro e iD ⟨rfl,cV⟩;clear gH fH gF dV
       go_wp2_with fail
       refine (G2.out iD).mono ?_;rintro e iK ⟨rfl,cE⟩
       go_wp2_with fail
       have cN:=(bvia (bvia gU cV) cE);refine (G3.out iK (hT.later cN) cN).mono ?_;rintro e fK ⟨rfl,dG⟩;have cZ:=(((gP.via cV).via cE).via dG);have gH:fK.cell? ⟨ga,0,none⟩=some (.string X9):=cZ.cell 0;have fH:fK.cell? ⟨ga,1,none⟩=some (.string Y9):=cZ.cell 1;have cA:=(((gQ.via cV).via cE).via dG);have gF:fK.cell? ⟨gb,0,none⟩=some (.string X):=cA.cell 0;have dV:fK.cell? ⟨gb,1,none⟩=some (.string Y):=cA.cell 1
       go_wp2_with fail
       refine (iM.out fK).mono ?_;rintro e iI ⟨rfl,dF⟩;clear gH fH gF dV
       go_wp2_with fail
       refine (G5.out iI).mono ?_;rintro e iH ⟨rfl,cJ⟩
       go_wp2_with fail
       have cL:=(bvia (bvia (bvia cN dG) dF) cJ);refine (G6.out iH (hT.later cL) cL).mono ?_;rintro e dO ⟨rfl,cM⟩;have cT:=(((cZ.via dF).via cJ).via cM);have gH:dO.cell? ⟨ga,0,none⟩=some (.string X9):=cT.cell 0;have fH:dO.cell? ⟨ga,1,none⟩=some (.string Y9):=cT.cell 1;have cP:=(((cA.via dF).via cJ).via cM);have gF:dO.cell? ⟨gb,0,none⟩=some (.string X):=cP.cell 0;have dV:dO.cell? ⟨gb,1,none⟩=some (.string Y):=cP.cell 1
       go_wp2_with fail
       refine (G7.out dO).mono ?_;rintro e iN ⟨rfl,bZ⟩;clear gH fH gF dV
       go_wp2_with fail
       refine (G8.out iN).mono ?_;rintro e iG ⟨rfl,dA⟩
       go_wp2_with fail
       refine (G9.out iG).mono ?_;rintro e fT ⟨rfl,cF⟩;go_upto_region 26 with (fail)
       have cI:=(((cT.via bZ).via dA).via cF);have cW:=(((cP.via bZ).via dA).via cF);have fI:fT.drew.cell? ⟨ga,0,none⟩=some (.string X9):=cI.cell 0;have fQ:fT.drew.cell? ⟨ga,1,none⟩=some (.string Y9):=cI.cell 1;have gJ:fT.drew.cell? ⟨gb,0,none⟩=some (.string X):=cW.cell 0;have dL:fT.drew.cell? ⟨gb,1,none⟩=some (.string Y):=cW.cell 1
       go_region_held3 (fun w'=>w'.cell? ⟨ga,0,none⟩=some (.string X9)∧w'.cell? ⟨ga,1,none⟩=some (.string Y9)∧w'.cell? ⟨gb,0,none⟩=some (.string X)∧w'.cell? ⟨gb,1,none⟩=some (.string Y))
        (first | with_reducible exact ⟨fI,fQ,gJ,dL⟩ | with_reducible exact ⟨dN,fB,fA,fG⟩ | with_reducible exact ⟨dW,gL,fR,fF⟩ | with_reducible exact ⟨dU,fP,fM,fW⟩ | with_reducible exact ⟨dK,fC,fU,gE⟩ | with_reducible exact ⟨fZ,fD,dZ,gA⟩ | with_reducible exact ⟨dT,dQ,dY,dX⟩)
        (first
         |(have _:=aZ;go_at_call 22;refine (L6.out fV).mono ?_;rintro e gO ⟨rfl,cQ⟩;have fL:=cH.via cQ;have fE:=cB.via cQ;have dT:gO.cell? ⟨ga,0,none⟩=some (.string X9):=fL.cell 0;have dQ:gO.cell? ⟨ga,1,none⟩=some (.string Y9):=fL.cell 1;have dY:gO.cell? ⟨gb,0,none⟩=some (.string X):=fE.cell 0;have dX:gO.cell? ⟨gb,1,none⟩=some (.string Y):=fE.cell 1)
         |(have _:=bB;go_at_call 21;refine (L5.out gK).mono ?_;rintro e fV ⟨rfl,aZ⟩;have cH:=cK.via aZ;have cB:=cU.via aZ;have fZ:fV.cell? ⟨ga,0,none⟩=some (.string X9):=cH.cell 0;have fD:fV.cell? ⟨ga,1,none⟩=some (.string Y9):=cH.cell 1;have dZ:fV.cell? ⟨gb,0,none⟩=some (.string X):=cB.cell 0;have gA:fV.cell? ⟨gb,1,none⟩=some (.string Y):=cB.cell 1)
         |(have _:=aW;go_at_call 21;refine (L4.out dP).mono ?_;rintro e gK ⟨rfl,bB⟩;have cK:=cC.via bB;have cU:=cG.via bB;have dK:gK.cell? ⟨ga,0,none⟩=some (.string X9):=cK.cell 0;have fC:gK.cell? ⟨ga,1,none⟩=some (.string Y9):=cK.cell 1;have fU:gK.cell? ⟨gb,0,none⟩=some (.string X):=cU.cell 0;have gE:gK.cell? ⟨gb,1,none⟩=some (.string Y):=cU.cell 1)
         |(have _:=aU;go_at_call 22;refine (L3.out gC).mono ?_;rintro e dP ⟨rfl,aW⟩;have cC:=cS.via aW;have cG:=dB.via aW;have dU:dP.cell? ⟨ga,0,none⟩=some (.string X9):=cC.cell 0;have fP:dP.cell? ⟨ga,1,none⟩=some (.string Y9):=cC.cell 1;have fM:dP.cell? ⟨gb,0,none⟩=some (.string X):=cG.cell 0;have fW:dP.cell? ⟨gb,1,none⟩=some (.string Y):=cG.cell 1)
         |(have _:=bA;go_at_call 21;refine (L2.out fJ).mono ?_;rintro e gC ⟨rfl,aU⟩;have cS:=cY.via aU;have dB:=cO.via aU;have dW:gC.cell? ⟨ga,0,none⟩=some (.string X9):=cS.cell 0;have gL:gC.cell? ⟨ga,1,none⟩=some (.string Y9):=cS.cell 1;have fR:gC.cell? ⟨gb,0,none⟩=some (.string X):=dB.cell 0;have fF:gC.cell? ⟨gb,1,none⟩=some (.string Y):=dB.cell 1)
         |(go_at_call 21;refine (L1.out fT.drew).mono ?_;rintro e fJ ⟨rfl,bA⟩;have cY:=cI.drew.via bA;have cO:=cW.drew.via bA;have dN:fJ.cell? ⟨ga,0,none⟩=some (.string X9):=cY.cell 0;have fB:fJ.cell? ⟨ga,1,none⟩=some (.string Y9):=cY.cell 1;have fA:fJ.cell? ⟨gb,0,none⟩=some (.string X):=cO.cell 0;have fG:fJ.cell? ⟨gb,1,none⟩=some (.string Y):=cO.cell 1))
       clear fI fQ gJ dL dN fB fA fG dW gL fR fF dU fP fM fW dK fC fU gE fZ fD dZ gA dT dQ dY dX;have gR:=(bvia (bvia (bvia (bvia (bvia (bvia (bvia (bvia (bvia (bvia cL cM) bZ) dA) cF).drew bA) aU) aW) bB) aZ) cQ)
       go_wp2_with fail
       go_roundg (n - (k+1))
       case measure=>omega
       case rel=>exact ⟨k+1,by omega,by go_num,Nat.le_refl _,gR⟩
    ·go_wp2_with fail
     go_ret;exact ⟨rfl,aA⟩
end Go.Proofs.YtmkondcdejlhcaaGreatDoor
