/- Contracts of package number's folded. -/
import Derived.Test.YteajibbphcfmeaaGreatDoorVCo5
import Derived.Test.YteajibbphcfmeaaGreatDoorVRb24
import Derived.Test.YteajibbphcfmeaaGreatDoorVSp7
namespace Go.Proofs.YteajibbphcfmeaaGreatDoor
open Go.RowKit Bn
theorem CBlk.far3 {w:World} {g g':Nat} {c:Array Value} {t:TypeId} (h:CBlk w g c t) (hne:g'≠g) (u v x:Value):CBlk (((w.setCell ⟨g',0,none⟩ u).setCell ⟨g',1,none⟩ v).setCell ⟨g',2,none⟩ x) g c t:=
 ((h.setFar hne _).setFar hne _).setFar hne _
theorem CBlk.set3 {w:World} {g:Nat} {a b c:Value} {t:TypeId} (h:CBlk w g #[a,b,c] t) (u v x:Value):CBlk (((w.setCell ⟨g,0,none⟩ u).setCell ⟨g,1,none⟩ v).setCell ⟨g,2,none⟩ x) g #[u,v,x] t:=
 ((h.set 0 u).set 1 v).set 2 x
theorem RatS.res3 {w:World} {g:Nat} {v:Value} {q:Q} {b0:Bool} {a1 a2:Option Addr} {m1 d1 m2 d2:Nat} {t:TypeId} (h:RatS w w.heap.size v q) (hz:CBlk w g #[.bool b0,.slice a1 m1 d1,.slice a2 m2 d2] t) (b:Bool) (A1 A2:Option Addr) (n1 c1 n2 c2:Nat) :
  RatS (((w.setCell ⟨g,0,none⟩ (.bool b)).setCell ⟨g,1,none⟩ (.slice A1 n1 c1)).setCell ⟨g,2,none⟩ (.slice A2 n2 c2)) (((w.setCell ⟨g,0,none⟩ (.bool b)).setCell ⟨g,1,none⟩ (.slice A1 n1 c1)).setCell ⟨g,2,none⟩ (.slice A2 n2 c2)).heap.size v q:=by
 obtain ⟨A,n,c,A',n',c',rfl,h1,h2⟩:=h
 exact ⟨A,n,c,A',n',c',rfl,h1.store3 hz (zfd _ _ _ _ _ _ _) 0 1 2 _ _ _ _ _ _ _,h2.store3 hz (zfd _ _ _ _ _ _ _) 0 1 2 _ _ _ _ _ _ _⟩
def zog (p:Q):Q:=zaX p (zaY p)
def oneQ:Q:=⟨false,1,1⟩
theorem znq (w:World):Calls Tryz.prog 78 #[.int .i64 1] w (zaT w oneQ):=zcf 1 w (by omega) (by omega)
theorem ziE:LenQ oneQ 1:=⟨zbm,zbm⟩
theorem zkF {p:Q} {K:Nat} (h:LenQ p K):LenQ (zaY p) (K+2):=by
 refine ⟨?_,Nat.le_trans zbm (by omega)⟩
 unfold zaY
 dsimp only
 have h1:(digs (p.top / p.bot)).length≤K:=Nat.le_trans (zaa (Nat.div_le_self _ _)) h.1
 split
 ·exact zc2 h1 zbm
 ·omega
def ziK (q:Q):Q:=if rcmp (zaX oneQ q) q<0 then zaX oneQ q else q
def zhP (p:Q):Q:=ziK (zog p)
set_option maxHeartbeats 4000000 in
set_option maxRecDepth 100000 in
theorem zex (p:Q) (v:Value) (w:World) (hT:Tabs w) (hv:RatS w w.heap.size v p) (hy:0<p.bot) (hl:LenQ p 1048576) :
  Calls Tryz.prog 163 #[v] w (zaT w (zhP p)):=by
 obtain ⟨A1,n1,c1,A2,n2,c2,rfl,h1,h2⟩:=hv
 have aV:Below w.heap.size w ((w.alloc (.cells #[.bool p.neg,.slice A1 n1 c1,.slice A2 n2 c2] 91)).alloc (.cells #[.bool false,.slice none 0 0,.slice none 0 0] 91)):=(((Below.refl _ _).alloc (by simp<;>omega) _).alloc (by simp<;>omega) _)
 have q0:CBlk ((w.alloc (.cells #[.bool p.neg,.slice A1 n1 c1,.slice A2 n2 c2] 91)).alloc (.cells #[.bool false,.slice none 0 0,.slice none 0 0] 91)) (w.heap.size) #[.bool p.neg,.slice A1 n1 c1,.slice A2 n2 c2] 91:=((CBlk.new _ _ _ _ (by simp)).alloc _)
 have q1:CBlk ((w.alloc (.cells #[.bool p.neg,.slice A1 n1 c1,.slice A2 n2 c2] 91)).alloc (.cells #[.bool false,.slice none 0 0,.slice none 0 0] 91)) (w.heap.size+1) #[.bool false,.slice none 0 0,.slice none 0 0] 91:=(CBlk.new _ _ _ _ (by simp))
 go_enter Tryz.func163,Tryz.ntmps163
 go_upto_region 1 with (fail)
 generalize ((w.alloc (.cells #[.bool p.neg,.slice A1 n1 c1,.slice A2 n2 c2] 91)).alloc (.cells #[.bool false,.slice none 0 0,.slice none 0 0] 91))=W at *
 have a0:=q0.cell 0
 have a1:=q0.cell 1
 have a2:=q0.cell 2
 have z0:=q0.frozen 0
 have z1:=q0.frozen 1
 have z2:=q0.frozen 2
 have lf:=zkF hl
 have HF:=Lib.hid (fun v W h=>ziA p v W h hy (hl.mono (by omega)))
 have HM:=Lib.hid (fun v u W h1 h2 h3=>zcZ p (zaY p) v u W h1 h2 h3 (hl.mono (by omega)) (lf.mono (by omega)))
 go_region_law (first | (go_simp;go_at_call 79;refine (HF.out _ _ (RatS.mk (h1.later aV.drew) (h2.later aV.drew))).mono ?_;rintro e w4 ⟨v4,rfl,⟨A3,n3,c3,A4,n4,c4,rfl,h3,h4⟩,aT⟩;have bH:=q0.drew.below aT q0.lt;have cG:=bH.cell 0;have cE:=bH.cell 1;have bX:=bH.cell 2) | (go_simp;go_at_call 67;refine (HM.out _ _ w4 ((hT.later aV.drew).later aT) (RatS.mk ((h1.later aV.drew).later aT) ((h2.later aV.drew).later aT)) (RatS.mk h3 h4)).mono ?_;rintro e w5 ⟨v5,rfl,⟨A5,n5,c5,A6,n6,c6,rfl,h5,h6⟩,bI⟩;have aW:=(q0.drew.below aT q0.lt).below bI (Nat.lt_of_lt_of_le q0.lt aT.size);have cL:=aW.cell 0;have cI:=aW.cell 1;have cK:=aW.cell 2;have cJ:=aW.frozen 0;have cM:=aW.frozen 1;have bY:=aW.frozen 2))
 all_goals
  have bQ:=(aV.drew.trans (aT.mono aV.drew.size)).trans (bI.mono (Nat.le_trans aV.drew.size aT.size))
  have bR:=(q1.drew.below aT q1.lt).below bI (Nat.lt_of_lt_of_le q1.lt aT.size)
  have bS:RatS w5 w5.heap.size (.agg #[.bool (zaX p (zaY p)).neg,.slice A5 n5 c5,.slice A6 n6 c6]) (zaX p (zaY p)):=RatS.mk h5 h6
  have bK:LenQ (zaX p (zaY p)) 8388608:=(zbv hl (zbE lf)).mono (by omega)
  have hB:=zak bQ (g:=w.heap.size) (Nat.le_refl _) (.bool (zaX p (zaY p)).neg) (.slice A5 n5 c5) (.slice A6 n6 c6)
  have qf:=aW.set3 (.bool (zaX p (zaY p)).neg) (.slice A5 n5 c5) (.slice A6 n6 c6)
  have qz:=bR.far3 (g':=w.heap.size) (by omega) (.bool (zaX p (zaY p)).neg) (.slice A5 n5 c5) (.slice A6 n6 c6)
  have hf:=bS.res3 aW (zaX p (zaY p)).neg A5 A6 n5 c5 n6 c6
  clear bS aW bR bQ aT bI q0 q1 aV bH cG cE bX cL cI cK cJ cM bY a0 a1 a2 z0 z1 z2 HF HM h1 h2 h3 h4 h5 h6 lf
  generalize (((w5.setCell ⟨w.heap.size,0,none⟩ (.bool (zaX p (zaY p)).neg)).setCell ⟨w.heap.size,1,none⟩ (.slice A5 n5 c5)).setCell ⟨w.heap.size,2,none⟩ (.slice A6 n6 c6))=X at *
  have HQ:=Lib.hid (show zhP p=ziK (zaX p (zaY p)) from rfl)
  clear hl hy
  generalize (zaX p (zaY p))=fq at *
  obtain ⟨mq,bG⟩:∃ q,q=zaX oneQ fq:=⟨_,rfl⟩
  have bT:LenQ mq 33554432:=by rw [bG];exact (zbv ziE (zbE bK)).mono (by omega)
  have HM:=Lib.hid (fun v u W hT h2 h3=>(show Calls _ _ _ _ (zaT W mq) from by rw [bG];exact zcZ oneQ fq v u W hT h2 h3 (ziE.mono (by omega)) (bK.mono (by omega))))
  have HO:=Lib.hid (fun W=>znq W)
  have HC:=Lib.hid (fun v u W h1 h2=>zbc mq fq v u W h1 h2 (bT.mono (by omega)) (bK.mono (by omega)))
  have bJ:=Lib.hid bG
  clear bT bK bG
  go_wp2_with fail
  obtain ⟨G2,bF⟩:∃ g,g=X.heap.size:=⟨_,rfl⟩
  have bW:w.heap.size≤G2:=by rw [bF];exact hB.size
  have aU:w.heap.size<G2:=by rw [bF];exact qf.lt
  have aS:w.heap.size+1<G2:=by rw [bF];exact qz.lt
  obtain ⟨bP,aY⟩:∃ I:Array Bool→Act→World→Prop,I=(fun aQ ac W=>∃ (b0 b1 b2 b3 b4:Bool) (u8 u9 bD u3:Value) (aO:Option Addr) (aN aP:Nat) (aF:Option Addr) (aE aG:Nat) (aI:Option Addr) (aK aJ:Nat) (aA:Option Addr) (aD aC:Nat) (aL:Nat),aQ=#[b0,b1,b2,b3,b4]∧ac={ tmps:=#[.agg #[.bool p.neg,.slice A1 n1 c1,.slice A2 n2 c2],.pointer (some ⟨w.heap.size,0,none⟩),.pointer (some ⟨w.heap.size+1,0,none⟩),u3,.agg #[.bool p.neg,.slice A1 n1 c1,.slice A2 n2 c2],.agg #[.bool p.neg,.slice A1 n1 c1,.slice A2 n2 c2],.agg #[.bool (zaY p).neg,.slice A3 n3 c3,.slice A4 n4 c4],.agg #[.bool fq.neg,.slice A5 n5 c5,.slice A6 n6 c6],u8,u9,bD,undef,undef,undef,undef,undef,undef],defers:=[] }∧G2≤W.heap.size∧Below w.heap.size w W∧CBlk W (w.heap.size) #[.bool fq.neg,.slice A5 n5 c5,.slice A6 n6 c6] 91∧CBlk W (w.heap.size+1) #[.bool false,.slice none 0 0,.slice none 0 0] 91∧RatS W W.heap.size (.agg #[.bool fq.neg,.slice A5 n5 c5,.slice A6 n6 c6]) fq∧(b0=true→u8 = .agg #[.bool oneQ.neg,.slice aO aN aP,.slice aF aE aG]∧RatS W W.heap.size (.agg #[.bool oneQ.neg,.slice aO aN aP,.slice aF aE aG]) ⟨oneQ.neg,oneQ.top,oneQ.bot⟩)∧(b1=true→u9 = .agg #[.bool fq.neg,.slice A5 n5 c5,.slice A6 n6 c6])∧(b2=true→bD = .agg #[.bool mq.neg,.slice aI aK aJ,.slice aA aD aC]∧RatS W W.heap.size (.agg #[.bool mq.neg,.slice aI aK aJ,.slice aA aD aC]) ⟨mq.neg,mq.top,mq.bot⟩)∧(b3=true→u3 = .pointer (some ⟨aL,0,none⟩)∧G2≤aL∧aL<W.heap.size∧(b4=false→CBlk W aL #[.bool false,.slice none 0 0,.slice none 0 0] 91))∧(b4=true→b3=true∧b2=true∧CBlk W aL #[.bool mq.neg,.slice aI aK aJ,.slice aA aD aC] 91)):=⟨_,rfl⟩
  have aH:=Lib.hid aY
  clear aY
  refine zbF (by kernel_rfl) bP (by kernel_rfl) ?_ ?_ ?_
  ·rw [aH.out]
   exact ⟨false,false,false,false,false,undef,undef,undef,undef,none,0,0,none,0,0,none,0,0,none,0,0,0,rfl,rfl,(by rw [bF];exact Nat.le_refl _),hB.drew,qf.drew,qz.drew,(hf.later (Below.drew (Below.refl _ _))),(fun h=>by cases h),(fun h=>by cases h),(fun h=>by cases h),(fun h=>by cases h),(fun h=>by cases h)⟩
  ·intro i op aQ ac W ho hI hl aM
   rw [aH.out] at hI
   obtain ⟨b0,b1,b2,b3,b4,u8,u9,bD,u3,aO,aN,aP,aF,aE,aG,aI,aK,aJ,aA,aD,aC,aL,rfl,rfl,bC,hB,qf,qz,hf,f0,f1,f2,f3,f4⟩:=hI
   clear bF
   match i,ho,hl,aM with
   | 0,ho,hl,aM=>
    have aX:b0=false:=Option.some.inj hl
    obtain rfl:=Option.some.inj ho
    refine zaq ho fun K' hK => ?_
    go_simp
    go_at_call 78
    refine (HO.out W).mono ?_
    rintro e W1 ⟨v0,rfl,⟨A,n,c,A',n',c',rfl,kt,kb⟩,hb⟩
    refine hK.out _ _ ?_
    rw [aH.out]
    exact ⟨true,b1,b2,b3,b4,(.agg #[.bool oneQ.neg,.slice A n c,.slice A' n' c']),u9,bD,u3,A,n,c,A',n',c',aI,aK,aJ,aA,aD,aC,aL,rfl,rfl,(Nat.le_trans bC hb.size),(hB.trans (hb.mono hB.size)),(qf.below hb qf.lt),(qz.below hb qz.lt),(hf.later hb),(fun _=>⟨rfl,⟨A,n,c,A',n',c',rfl,kt,kb⟩⟩),f1,(fun h=>⟨(f2 h).1,(f2 h).2.later hb⟩),(fun h=>⟨(f3 h).1,(f3 h).2.1,Nat.lt_of_lt_of_le (f3 h).2.2.1 hb.size,fun h2=>((f3 h).2.2.2 h2).below hb (f3 h).2.2.1⟩),(fun h=>⟨(f4 h).1,(f4 h).2.1,(f4 h).2.2.below hb (f4 h).2.2.lt⟩)⟩
   | 1,ho,hl,aM=>
    have aX:b1=false:=Option.some.inj hl
    obtain rfl:=Option.some.inj ho
    refine zaq ho fun K' hK => ?_
    have x0:=qf.cell 0
    have x1:=qf.cell 1
    have x2:=qf.cell 2
    go_simp
    refine hK.out _ _ ?_
    rw [aH.out]
    exact ⟨b0,true,b2,b3,b4,u8,(.agg #[.bool fq.neg,.slice A5 n5 c5,.slice A6 n6 c6]),bD,u3,aO,aN,aP,aF,aE,aG,aI,aK,aJ,aA,aD,aC,aL,rfl,rfl,bC,hB,qf,qz,hf,f0,(fun _=>rfl),f2,f3,f4⟩
   | 2,ho,hl,aM=>
    have aX:b2=false:=Option.some.inj hl
    obtain rfl:=Option.some.inj ho
    have e0:b0=true:=aM ⟨0,.data⟩ (by simp) rfl
    obtain ⟨rfl,cC⟩:=f0 e0
    have e1:b1=true:=aM ⟨1,.data⟩ (by simp) rfl
    obtain rfl:=f1 e1
    refine zaq ho fun K' hK => ?_
    go_simp
    go_at_call 67
    refine (HM.out _ _ W (hT.later hB) cC hf).mono ?_
    rintro e W1 ⟨v0,rfl,⟨A,n,c,A',n',c',rfl,kt,kb⟩,hb⟩
    refine hK.out _ _ ?_
    rw [aH.out]
    exact ⟨b0,b1,true,b3,b4,(.agg #[.bool oneQ.neg,.slice aO aN aP,.slice aF aE aG]),(.agg #[.bool fq.neg,.slice A5 n5 c5,.slice A6 n6 c6]),(.agg #[.bool mq.neg,.slice A n c,.slice A' n' c']),u3,aO,aN,aP,aF,aE,aG,A,n,c,A',n',c',aL,rfl,rfl,(Nat.le_trans bC hb.size),(hB.trans (hb.mono hB.size)),(qf.below hb qf.lt),(qz.below hb qz.lt),(hf.later hb),(fun h=>⟨(f0 h).1,(f0 h).2.later hb⟩),f1,(fun _=>⟨rfl,⟨A,n,c,A',n',c',rfl,kt,kb⟩⟩),(fun h=>⟨(f3 h).1,(f3 h).2.1,Nat.lt_of_lt_of_le (f3 h).2.2.1 hb.size,fun h2=>((f3 h).2.2.2 h2).below hb (f3 h).2.2.1⟩),(fun h=>by rw [(f4 h).2.1] at aX;cases aX)⟩
   | 3,ho,hl,aM=>
    have aX:b3=false:=Option.some.inj hl
    obtain rfl:=Option.some.inj ho
    refine zaq ho fun K' hK => ?_
    have hb:Below W.heap.size W (W.alloc (.cells #[.bool false,.slice none 0 0,.slice none 0 0] 91)):=(Below.refl _ _).alloc (Nat.le_refl _) _
    go_simp
    refine hK.out _ _ ?_
    rw [aH.out]
    exact ⟨b0,b1,b2,true,b4,u8,u9,bD,(.pointer (some ⟨W.heap.size,0,none⟩)),aO,aN,aP,aF,aE,aG,aI,aK,aJ,aA,aD,aC,W.heap.size,rfl,rfl,(Nat.le_trans bC hb.size),(hB.trans (hb.mono hB.size)),(qf.below hb qf.lt),(qz.below hb qz.lt),(hf.later hb),(fun h=>⟨(f0 h).1,(f0 h).2.later hb⟩),f1,(fun h=>⟨(f2 h).1,(f2 h).2.later hb⟩),(fun _=>⟨rfl,bC,by simp,fun _=>CBlk.new W _ _ _ rfl⟩),(fun h=>by rw [(f4 h).1] at aX;cases aX)⟩
   | 4,ho,hl,aM=>
    have aX:b4=false:=Option.some.inj hl
    obtain rfl:=Option.some.inj ho
    have e3:b3=true:=aM ⟨3,.data⟩ (by simp) rfl
    obtain ⟨rfl,bL,cO,cF⟩:=f3 e3
    have e2:b2=true:=aM ⟨2,.data⟩ (by simp) rfl
    obtain ⟨rfl,cN⟩:=f2 e2
    refine zaq ho fun K' hK => ?_
    have hz:=cF aX
    have z0:=hz.cell 0
    have z1:=hz.cell 1
    have z2:=hz.cell 2
    have cA:=hz.frozen 0
    have bZ:=hz.frozen 1
    have bV:=hz.frozen 2
    go_simp
    refine hK.out _ _ ?_
    rw [aH.out]
    exact ⟨b0,b1,b2,b3,true,u8,u9,(.agg #[.bool mq.neg,.slice aI aK aJ,.slice aA aD aC]),(.pointer (some ⟨aL,0,none⟩)),aO,aN,aP,aF,aE,aG,aI,aK,aJ,aA,aD,aC,aL,rfl,rfl,(by rw [zaf];exact bC),(zak hB (Nat.le_trans bW bL) _ _ _),(qf.far3 (Nat.ne_of_gt (Nat.lt_of_lt_of_le aU bL)) _ _ _),(qz.far3 (Nat.ne_of_gt (Nat.lt_of_lt_of_le aS bL)) _ _ _),(hf.res3 hz _ _ _ _ _ _ _),(fun h=>⟨(f0 h).1,(f0 h).2.res3 hz _ _ _ _ _ _ _⟩),f1,(fun h=>⟨(f2 h).1,(f2 h).2.res3 hz _ _ _ _ _ _ _⟩),(fun h=>⟨(f3 h).1,(f3 h).2.1,by rw [zaf];exact (f3 h).2.2.1,fun h2=>by cases h2⟩),(fun _=>⟨e3,e2,hz.set3 _ _ _⟩)⟩
   | n+5,ho,hl,aM=>exact absurd ho (by simp)
  ·intro aQ ac Y hI aR
   rw [aH.out] at hI
   clear hB qf qz hf
   obtain ⟨b0,b1,b2,b3,b4,u8,u9,bD,u3,aO,aN,aP,aF,aE,aG,aI,aK,aJ,aA,aD,aC,aL,rfl,rfl,bC,hB,qf,qz,hf,f0,f1,f2,f3,f4⟩:=hI
   have e0:b0=true:=aR 0 b0 (by decide) rfl
   have e1:b1=true:=aR 1 b1 (by decide) rfl
   have e2:b2=true:=aR 2 b2 (by decide) rfl
   have e3:b3=true:=aR 3 b3 (by decide) rfl
   have e4:b4=true:=aR 4 b4 (by decide) rfl
   subst e0
   subst e1
   subst e2
   subst e3
   subst e4
   obtain ⟨rfl,qo⟩:=f0 rfl
   obtain rfl:=f1 rfl
   obtain ⟨rfl,qm⟩:=f2 rfl
   obtain ⟨rfl,bO,_,_⟩:=f3 rfl
   have t3:=(f4 rfl).2.2
   clear f0 f1 f2 f3 f4 aR aH aU aS
   have x0:=qf.cell 0
   have x1:=qf.cell 1
   have x2:=qf.cell 2
   have y0:=t3.cell 0
   have y1:=t3.cell 1
   have y2:=t3.cell 2
   clear HM HO hT
   go_wp2_with fail
   refine (HC.out _ _ Y qm hf).mono ?_
   rintro e w8 ⟨rfl,bB⟩
   have bU:=hB.trans (bB.mono hB.size)
   have bM:=t3.below bB t3.lt
   have bN:=qf.below bB qf.lt
   have aZ:=qz.below bB qz.lt
   have cB:=qm.later bB
   have cH:=hf.later bB
   clear HC hB bB t3 qf qz qm hf qo x0 x1 x2 y0 y1 y2
   have x0:=bN.cell 0
   have x1:=bN.cell 1
   have x2:=bN.cell 2
   have y0:=bM.cell 0
   have y1:=bM.cell 1
   have y2:=bM.cell 2
   have z0:=aZ.cell 0
   have z1:=aZ.cell 1
   have z2:=aZ.cell 2
   have cA:=aZ.frozen 0
   have bZ:=aZ.frozen 1
   have bV:=aZ.frozen 2
   by_cases hc:rcmp mq fq<0
   ·have d:decide (rcmp mq fq<0)=true:=decide_eq_true hc
    have hr:zhP p=mq:=by rw [HQ.out];unfold ziK;rw [←bJ.out,if_pos hc]
    have HR:=Lib.hid hr
    clear hr hc
    have bA:=zak bU (g:=w.heap.size+1) (by omega) (.bool mq.neg) (.slice aI aK aJ) (.slice aA aD aC)
    have bE:=cB.res3 aZ mq.neg aI aA aK aJ aD aC
    clear bJ HQ
    go_wp2_with fail
    refine bodyPost_ret (v := .agg #[.bool mq.neg,.slice aI aK aJ,.slice aA aD aC]) (by simp [results,Tryz.results163,go_sem,z0,z1,z2]) rfl ⟨_,rfl,?_,bA⟩
    rw [HR.out]
    exact bE
   ·have d:decide (rcmp mq fq<0)=false:=decide_eq_false hc
    have hr:zhP p=fq:=by rw [HQ.out];unfold ziK;rw [←bJ.out,if_neg hc]
    have HR:=Lib.hid hr
    clear hr hc
    have bA:=zak bU (g:=w.heap.size+1) (by omega) (.bool fq.neg) (.slice A5 n5 c5) (.slice A6 n6 c6)
    have bE:=cH.res3 aZ fq.neg A5 A6 n5 c5 n6 c6
    clear bJ HQ
    go_wp2_with fail
    refine bodyPost_ret (v := .agg #[.bool fq.neg,.slice A5 n5 c5,.slice A6 n6 c6]) (by simp [results,Tryz.results163,go_sem,z0,z1,z2]) rfl ⟨_,rfl,?_,bA⟩
    rw [HR.out]
    exact bE
def zdk:Q:=lowQ false 1 2
theorem zmH (w:World) (hT:Tabs w):Calls Tryz.prog 118 #[.int .u64 1,.int .u64 2] w (zaT w zdk):=zeC 1 2 w hT (by omega) (by omega)
theorem zhk:LenQ zdk 1:=⟨Nat.le_trans (zaa (Nat.div_le_self _ _)) zbm,Nat.le_trans (zaa (Nat.div_le_self _ _)) (digs_length_le (by rw [zcN];omega))⟩
set_option maxHeartbeats 4000000 in
set_option maxRecDepth 100000 in
theorem zho (p fq:Q) (y:ByteArray) (dec:Int) (v:Value) (w:World) (hT:Tabs w) (hv:RatS w w.heap.size v p)
  (HF:Hid (∀ v W,Tabs W→RatS W W.heap.size v p→Calls Tryz.prog 163 #[v] W (zaT W fq)))
  (HE:Hid (∀ v W,Tabs W→RatS W W.heap.size v fq→Calls Tryz.prog 164 #[v] W fun e w'=>e = .returned (.tuple #[.string y,.bool true])∧Below W.heap.size W w')) :
  Calls Tryz.prog 117 #[v,.int .i64 dec] w fun e w'=>e = .returned (.tuple #[.agg #[.string y,.string y],.int .i64 0])∧Below w.heap.size w w':=by
 obtain ⟨A1,n1,c1,A2,n2,c2,rfl,h1,h2⟩:=hv
 have aA:Below w.heap.size w ((w.alloc (.cells #[.bool p.neg,.slice A1 n1 c1,.slice A2 n2 c2] 91)).alloc (.cells #[.string { data:=#[] },.string { data:=#[] }] 74)):=(((Below.refl _ _).alloc (by simp<;>omega) _).alloc (by simp<;>omega) _)
 have q0:CBlk ((w.alloc (.cells #[.bool p.neg,.slice A1 n1 c1,.slice A2 n2 c2] 91)).alloc (.cells #[.string { data:=#[] },.string { data:=#[] }] 74)) (w.heap.size) #[.bool p.neg,.slice A1 n1 c1,.slice A2 n2 c2] 91:=((CBlk.new _ _ _ _ (by simp)).alloc _)
 have q1:CBlk ((w.alloc (.cells #[.bool p.neg,.slice A1 n1 c1,.slice A2 n2 c2] 91)).alloc (.cells #[.string { data:=#[] },.string { data:=#[] }] 74)) (w.heap.size+1) #[.string { data:=#[] },.string { data:=#[] }] 74:=(CBlk.new _ _ _ _ (by simp))
 have aJ:=RatS.mk (q:=p) (h1.later aA) (h2.later aA)
 go_enter Tryz.func117,Tryz.ntmps117
 go_upto_region 1 with (fail)
 generalize ((w.alloc (.cells #[.bool p.neg,.slice A1 n1 c1,.slice A2 n2 c2] 91)).alloc (.cells #[.string { data:=#[] },.string { data:=#[] }] 74))=W at *
 have a0:=q0.cell 0
 have a1:=q0.cell 1
 have a2:=q0.cell 2
 go_wp2_with fail
 refine (HF.out _ W (hT.later aA) aJ).mono ?_
 rintro e w2 ⟨v2,rfl,⟨A3,n3,c3,A4,n4,c4,rfl,h3,h4⟩,aF⟩
 have aI:Below w2.heap.size w2 (w2.alloc (.cells #[.bool fq.neg,.slice A3 n3 c3,.slice A4 n4 c4] 91)):=(Below.refl _ _).alloc (Nat.le_refl _) _
 have aH:=aA.trans (aF.mono aA.size)
 have hB:=aH.trans (aI.mono aH.size)
 have aG:=(q1.below aF q1.lt).alloc (.cells #[.bool fq.neg,.slice A3 n3 c3,.slice A4 n4 c4] 91)
 have q6:CBlk (w2.alloc (.cells #[.bool fq.neg,.slice A3 n3 c3,.slice A4 n4 c4] 91)) w2.heap.size #[.bool fq.neg,.slice A3 n3 c3,.slice A4 n4 c4] 91:=CBlk.new _ _ _ _ rfl
 have hf:=(RatS.mk (q:=fq) h3 h4).later aI
 clear q0 q1 aA aF aH h1 h2 aI h3 h4 aJ a0 a1 a2 HF
 go_upto_region 2 with (fail)
 generalize (w2.alloc (.cells #[.bool fq.neg,.slice A3 n3 c3,.slice A4 n4 c4] 91))=w3 at *
 have a0:=q6.cell 0
 have a1:=q6.cell 1
 have a2:=q6.cell 2
 go_wp2_with fail
 refine (HE.out _ w3 (hT.later hB) hf).mono ?_
 rintro e w4 ⟨rfl,aC⟩
 have aK:=hB.trans (aC.mono hB.size)
 have aD:=aG.below aC aG.lt
 have aL:=q6.below aC q6.lt
 have aN:=hf.later aC
 clear a0 a1 a2 HE hB aC aG q6 hf
 have z0:=aD.cell 0
 have z1:=aD.cell 1
 have aM:=aD.frozen 0
 have aO:=aD.frozen 1
 have aE:=zbH aK (g:=w.heap.size+1) (by omega) (.string y) (.string y)
 go_wp2
 refine bodyPost_ret (v := .tuple #[.agg #[.string y,.string y],.int .i64 0]) (by simp [results,Tryz.results117,go_sem,z0,z1]) rfl ⟨rfl,aE⟩
set_option maxHeartbeats 8000000 in
set_option maxRecDepth 100000 in
theorem ze7 (p fq mq tq qa qb x1 x2:Q) (dec:Int) (v:Value) (w:World) (hT:Tabs w) (hv:RatS w w.heap.size v p) (lfq:LenQ fq 33554432) (la:LenQ qa 33554432) (lb:LenQ qb 33554432)
  (hmq:Hid (mq=zaX zdk fq))
  (hN:Hid (rcmp mq fq<0→tq=mq∧x1=zbV qb∧x2=zbV qa)) (hP:Hid (0≤rcmp mq fq→tq=fq∧x1=qa∧x2=qb))
  (HF:Hid (∀ v W,Tabs W→RatS W W.heap.size v p→Calls Tryz.prog 163 #[v] W (zaT W fq)))
  (HE:Hid (∀ v W,Tabs W→RatS W W.heap.size v fq→Calls Tryz.prog 164 #[v] W fun e w'=>e = .returned (.tuple #[.string { data:=#[] },.bool false])∧Below W.heap.size W w'))
  (HA:Hid (∀ v W,Tabs W→RatS W W.heap.size v tq→Calls Tryz.prog 165 #[v,.int .i64 dec] W (zb0 W qa qb))) :
  Calls Tryz.prog 117 #[v,.int .i64 dec] w (zc8 w (zdS x1 x2) (zdT x1 x2) (zci x1 x2)):=by
 obtain ⟨A1,n1,c1,A2,n2,c2,rfl,h1,h2⟩:=hv
 have bM:Below w.heap.size w ((w.alloc (.cells #[.bool p.neg,.slice A1 n1 c1,.slice A2 n2 c2] 91)).alloc (.cells #[.string { data:=#[] },.string { data:=#[] }] 74)):=(((Below.refl _ _).alloc (by simp<;>omega) _).alloc (by simp<;>omega) _)
 have q0:CBlk ((w.alloc (.cells #[.bool p.neg,.slice A1 n1 c1,.slice A2 n2 c2] 91)).alloc (.cells #[.string { data:=#[] },.string { data:=#[] }] 74)) (w.heap.size) #[.bool p.neg,.slice A1 n1 c1,.slice A2 n2 c2] 91:=((CBlk.new _ _ _ _ (by simp)).alloc _)
 have q1:CBlk ((w.alloc (.cells #[.bool p.neg,.slice A1 n1 c1,.slice A2 n2 c2] 91)).alloc (.cells #[.string { data:=#[] },.string { data:=#[] }] 74)) (w.heap.size+1) #[.string { data:=#[] },.string { data:=#[] }] 74:=(CBlk.new _ _ _ _ (by simp))
 have cN:=RatS.mk (q:=p) (h1.later bM) (h2.later bM)
 go_enter Tryz.func117,Tryz.ntmps117
 go_upto_region 1 with (fail)
 generalize ((w.alloc (.cells #[.bool p.neg,.slice A1 n1 c1,.slice A2 n2 c2] 91)).alloc (.cells #[.string { data:=#[] },.string { data:=#[] }] 74))=W at *
 have a0:=q0.cell 0
 have a1:=q0.cell 1
 have a2:=q0.cell 2
 go_wp2_with fail
 refine (HF.out _ W (hT.later bM) cN).mono ?_
 rintro e w2 ⟨v2,rfl,⟨A3,n3,c3,A4,n4,c4,rfl,h3,h4⟩,cH⟩
 have cE:Below w2.heap.size w2 (w2.alloc (.cells #[.bool fq.neg,.slice A3 n3 c3,.slice A4 n4 c4] 91)):=(Below.refl _ _).alloc (Nat.le_refl _) _
 have cA:=bM.trans (cH.mono bM.size)
 have hB:=cA.trans (cE.mono cA.size)
 have cG:=(q1.below cH q1.lt).alloc (.cells #[.bool fq.neg,.slice A3 n3 c3,.slice A4 n4 c4] 91)
 have q6:CBlk (w2.alloc (.cells #[.bool fq.neg,.slice A3 n3 c3,.slice A4 n4 c4] 91)) w2.heap.size #[.bool fq.neg,.slice A3 n3 c3,.slice A4 n4 c4] 91:=CBlk.new _ _ _ _ rfl
 have hf:=(RatS.mk (q:=fq) h3 h4).later cE
 clear q0 q1 bM cH cA h1 h2 cE h3 h4 cN a0 a1 a2 HF
 go_upto_region 2 with (fail)
 generalize (w2.alloc (.cells #[.bool fq.neg,.slice A3 n3 c3,.slice A4 n4 c4] 91))=w3 at *
 have a0:=q6.cell 0
 have a1:=q6.cell 1
 have a2:=q6.cell 2
 go_wp2_with fail
 refine (HE.out _ w3 (hT.later hB) hf).mono ?_
 rintro e w4 ⟨rfl,bS⟩
 have aS:=hB.trans (bS.mono hB.size)
 have aT:=cG.below bS cG.lt
 have aK:=q6.below bS q6.lt
 have aX:=hf.later bS
 clear a0 a1 a2 HE hB bS cG q6 hf
 have cO:LenQ mq 134217728:=by rw [hmq.out];exact (zbv zhk (zbE lfq)).mono (by omega)
 have HM:=Lib.hid (fun v u W hT h2 h3=>(show Calls _ _ _ _ (zaT W mq) from by rw [hmq.out];exact zcZ zdk fq v u W hT h2 h3 (zhk.mono (by omega)) (lfq.mono (by omega))))
 have HO:=Lib.hid zmH
 have HC:=Lib.hid (fun v u W h1 h2=>zbc mq fq v u W h1 h2 (cO.mono (by omega)) (lfq.mono (by omega)))
 clear cO lfq hmq
 go_wp2_with fail
 obtain ⟨G5,bR⟩:∃ g,g=w4.heap.size:=⟨_,rfl⟩
 have cP:w.heap.size≤G5:=by rw [bR];exact aS.size
 have aW:w.heap.size+1<G5:=by rw [bR];exact aT.lt
 have aV:w2.heap.size<G5:=by rw [bR];exact aK.lt
 obtain ⟨cI,bD⟩:∃ I:Array Bool→Act→World→Prop,I=(fun aU ac W=>∃ (b0 b1 b2 b3 b4:Bool) (bI bG bL u9:Value) (aR:Option Addr) (aP aO:Nat) (aF:Option Addr) (aH aE:Nat) (aN:Option Addr) (aL aM:Nat) (aD:Option Addr) (aC aA:Nat) (aI:Nat),aU=#[b0,b1,b2,b3,b4]∧ac={ tmps:=#[.agg #[.bool p.neg,.slice A1 n1 c1,.slice A2 n2 c2],.int .i64 dec,.pointer (some ⟨w.heap.size,0,none⟩),undef,.pointer (some ⟨w.heap.size+1,0,none⟩),.int .i64 0,.pointer (some ⟨w2.heap.size,0,none⟩),.string { data:=#[] },.bool false,u9,.agg #[.bool p.neg,.slice A1 n1 c1,.slice A2 n2 c2],.agg #[.bool fq.neg,.slice A3 n3 c3,.slice A4 n4 c4],.tuple #[.string { data:=#[] },.bool false],.agg #[.bool fq.neg,.slice A3 n3 c3,.slice A4 n4 c4],.tuple #[.string { data:=#[] },.bool false],.string { data:=#[] },.bool false,.bool false,undef,undef,undef,bI,bG,bL,undef,undef,undef,undef,undef,undef,undef,undef,undef,undef,undef,undef,undef,undef,undef,undef,undef],defers:=[] }∧G5≤W.heap.size∧Below w.heap.size w W∧CBlk W (w.heap.size+1) #[.string { data:=#[] },.string { data:=#[] }] 74∧CBlk W (w2.heap.size) #[.bool fq.neg,.slice A3 n3 c3,.slice A4 n4 c4] 91∧RatS W W.heap.size (.agg #[.bool fq.neg,.slice A3 n3 c3,.slice A4 n4 c4]) fq∧(b0=true→bI = .agg #[.bool zdk.neg,.slice aR aP aO,.slice aF aH aE]∧RatS W W.heap.size (.agg #[.bool zdk.neg,.slice aR aP aO,.slice aF aH aE]) ⟨zdk.neg,zdk.top,zdk.bot⟩)∧(b1=true→bG = .agg #[.bool fq.neg,.slice A3 n3 c3,.slice A4 n4 c4])∧(b2=true→bL = .agg #[.bool mq.neg,.slice aN aL aM,.slice aD aC aA]∧RatS W W.heap.size (.agg #[.bool mq.neg,.slice aN aL aM,.slice aD aC aA]) ⟨mq.neg,mq.top,mq.bot⟩)∧(b3=true→u9 = .pointer (some ⟨aI,0,none⟩)∧G5≤aI∧aI<W.heap.size∧(b4=false→CBlk W aI #[.bool false,.slice none 0 0,.slice none 0 0] 91))∧(b4=true→b3=true∧b2=true∧CBlk W aI #[.bool mq.neg,.slice aN aL aM,.slice aD aC aA] 91)):=⟨_,rfl⟩
 have aG:=Lib.hid bD
 clear bD
 refine zbF (by kernel_rfl) cI (by kernel_rfl) ?_ ?_ ?_
 ·rw [aG.out]
  exact ⟨false,false,false,false,false,undef,undef,undef,undef,none,0,0,none,0,0,none,0,0,none,0,0,0,rfl,rfl,(by rw [bR];exact Nat.le_refl _),aS.drew,aT.drew,aK.drew,(aX.later (Below.drew (Below.refl _ _))),(fun h=>by cases h),(fun h=>by cases h),(fun h=>by cases h),(fun h=>by cases h),(fun h=>by cases h)⟩
 ·intro i op aU ac W ho hI hl aJ
  rw [aG.out] at hI
  obtain ⟨b0,b1,b2,b3,b4,bI,bG,bL,u9,aR,aP,aO,aF,aH,aE,aN,aL,aM,aD,aC,aA,aI,rfl,rfl,bJ,aS,aT,aK,aX,f0,f1,f2,f3,f4⟩:=hI
  clear bR
  match i,ho,hl,aJ with
  | 0,ho,hl,aJ=>
   have bC:b0=false:=Option.some.inj hl
   obtain rfl:=Option.some.inj ho
   refine zaq ho fun K' hK => ?_
   go_simp
   go_at_call 118
   refine (HO.out W (hT.later aS)).mono ?_
   rintro e W1 ⟨v0,rfl,⟨A,n,c,A',n',c',rfl,kt,kb⟩,hb⟩
   refine hK.out _ _ ?_
   rw [aG.out]
   exact ⟨true,b1,b2,b3,b4,(.agg #[.bool zdk.neg,.slice A n c,.slice A' n' c']),bG,bL,u9,A,n,c,A',n',c',aN,aL,aM,aD,aC,aA,aI,rfl,rfl,(Nat.le_trans bJ hb.size),(aS.trans (hb.mono aS.size)),(aT.below hb aT.lt),(aK.below hb aK.lt),(aX.later hb),(fun _=>⟨rfl,⟨A,n,c,A',n',c',rfl,kt,kb⟩⟩),f1,(fun h=>⟨(f2 h).1,(f2 h).2.later hb⟩),(fun h=>⟨(f3 h).1,(f3 h).2.1,Nat.lt_of_lt_of_le (f3 h).2.2.1 hb.size,fun h2=>((f3 h).2.2.2 h2).below hb (f3 h).2.2.1⟩),(fun h=>⟨(f4 h).1,(f4 h).2.1,(f4 h).2.2.below hb (f4 h).2.2.lt⟩)⟩
  | 1,ho,hl,aJ=>
   have bC:b1=false:=Option.some.inj hl
   obtain rfl:=Option.some.inj ho
   refine zaq ho fun K' hK => ?_
   have x0:=aK.cell 0
   have x1:=aK.cell 1
   have x2:=aK.cell 2
   go_simp
   refine hK.out _ _ ?_
   rw [aG.out]
   exact ⟨b0,true,b2,b3,b4,bI,(.agg #[.bool fq.neg,.slice A3 n3 c3,.slice A4 n4 c4]),bL,u9,aR,aP,aO,aF,aH,aE,aN,aL,aM,aD,aC,aA,aI,rfl,rfl,bJ,aS,aT,aK,aX,f0,(fun _=>rfl),f2,f3,f4⟩
  | 2,ho,hl,aJ=>
   have bC:b2=false:=Option.some.inj hl
   obtain rfl:=Option.some.inj ho
   have e0:b0=true:=aJ ⟨0,.data⟩ (by simp) rfl
   obtain ⟨rfl,cS⟩:=f0 e0
   have e1:b1=true:=aJ ⟨1,.data⟩ (by simp) rfl
   obtain rfl:=f1 e1
   refine zaq ho fun K' hK => ?_
   go_simp
   go_at_call 67
   refine (HM.out _ _ W (hT.later aS) cS aX).mono ?_
   rintro e W1 ⟨v0,rfl,⟨A,n,c,A',n',c',rfl,kt,kb⟩,hb⟩
   refine hK.out _ _ ?_
   rw [aG.out]
   exact ⟨b0,b1,true,b3,b4,(.agg #[.bool zdk.neg,.slice aR aP aO,.slice aF aH aE]),(.agg #[.bool fq.neg,.slice A3 n3 c3,.slice A4 n4 c4]),(.agg #[.bool mq.neg,.slice A n c,.slice A' n' c']),u9,aR,aP,aO,aF,aH,aE,A,n,c,A',n',c',aI,rfl,rfl,(Nat.le_trans bJ hb.size),(aS.trans (hb.mono aS.size)),(aT.below hb aT.lt),(aK.below hb aK.lt),(aX.later hb),(fun h=>⟨(f0 h).1,(f0 h).2.later hb⟩),f1,(fun _=>⟨rfl,⟨A,n,c,A',n',c',rfl,kt,kb⟩⟩),(fun h=>⟨(f3 h).1,(f3 h).2.1,Nat.lt_of_lt_of_le (f3 h).2.2.1 hb.size,fun h2=>((f3 h).2.2.2 h2).below hb (f3 h).2.2.1⟩),(fun h=>by rw [(f4 h).2.1] at bC;cases bC)⟩
  | 3,ho,hl,aJ=>
   have bC:b3=false:=Option.some.inj hl
   obtain rfl:=Option.some.inj ho
   refine zaq ho fun K' hK => ?_
   have hb:Below W.heap.size W (W.alloc (.cells #[.bool false,.slice none 0 0,.slice none 0 0] 91)):=(Below.refl _ _).alloc (Nat.le_refl _) _
   go_simp
   refine hK.out _ _ ?_
   rw [aG.out]
   exact ⟨b0,b1,b2,true,b4,bI,bG,bL,(.pointer (some ⟨W.heap.size,0,none⟩)),aR,aP,aO,aF,aH,aE,aN,aL,aM,aD,aC,aA,W.heap.size,rfl,rfl,(Nat.le_trans bJ hb.size),(aS.trans (hb.mono aS.size)),(aT.below hb aT.lt),(aK.below hb aK.lt),(aX.later hb),(fun h=>⟨(f0 h).1,(f0 h).2.later hb⟩),f1,(fun h=>⟨(f2 h).1,(f2 h).2.later hb⟩),(fun _=>⟨rfl,bJ,by simp,fun _=>CBlk.new W _ _ _ rfl⟩),(fun h=>by rw [(f4 h).1] at bC;cases bC)⟩
  | 4,ho,hl,aJ=>
   have bC:b4=false:=Option.some.inj hl
   obtain rfl:=Option.some.inj ho
   have e3:b3=true:=aJ ⟨3,.data⟩ (by simp) rfl
   obtain ⟨rfl,cK,cY,cT⟩:=f3 e3
   have e2:b2=true:=aJ ⟨2,.data⟩ (by simp) rfl
   obtain ⟨rfl,dA⟩:=f2 e2
   refine zaq ho fun K' hK => ?_
   have hz:=cT bC
   have z0:=hz.cell 0
   have z1:=hz.cell 1
   have z2:=hz.cell 2
   have dB:=hz.frozen 0
   have cW:=hz.frozen 1
   have cZ:=hz.frozen 2
   go_simp
   refine hK.out _ _ ?_
   rw [aG.out]
   exact ⟨b0,b1,b2,b3,true,bI,bG,(.agg #[.bool mq.neg,.slice aN aL aM,.slice aD aC aA]),(.pointer (some ⟨aI,0,none⟩)),aR,aP,aO,aF,aH,aE,aN,aL,aM,aD,aC,aA,aI,rfl,rfl,(by rw [zaf];exact bJ),(zak aS (Nat.le_trans cP cK) _ _ _),(aT.far3 (Nat.ne_of_gt (Nat.lt_of_lt_of_le aW cK)) _ _ _),(aK.far3 (Nat.ne_of_gt (Nat.lt_of_lt_of_le aV cK)) _ _ _),(aX.res3 hz _ _ _ _ _ _ _),(fun h=>⟨(f0 h).1,(f0 h).2.res3 hz _ _ _ _ _ _ _⟩),f1,(fun h=>⟨(f2 h).1,(f2 h).2.res3 hz _ _ _ _ _ _ _⟩),(fun h=>⟨(f3 h).1,(f3 h).2.1,by rw [zaf];exact (f3 h).2.2.1,fun h2=>by cases h2⟩),(fun _=>⟨e3,e2,hz.set3 _ _ _⟩)⟩
  | n+5,ho,hl,aJ=>exact absurd ho (by simp)
 ·intro aU ac Y hI aY
  rw [aG.out] at hI
  clear aS aT aK aX
  obtain ⟨b0,b1,b2,b3,b4,bI,bG,bL,u9,aR,aP,aO,aF,aH,aE,aN,aL,aM,aD,aC,aA,aI,rfl,rfl,bJ,aS,aT,aK,aX,f0,f1,f2,f3,f4⟩:=hI
  have e0:b0=true:=aY 0 b0 (by decide) rfl
  have e1:b1=true:=aY 1 b1 (by decide) rfl
  have e2:b2=true:=aY 2 b2 (by decide) rfl
  have e3:b3=true:=aY 3 b3 (by decide) rfl
  have e4:b4=true:=aY 4 b4 (by decide) rfl
  subst e0
  subst e1
  subst e2
  subst e3
  subst e4
  obtain ⟨rfl,qh⟩:=f0 rfl
  obtain rfl:=f1 rfl
  obtain ⟨rfl,qm⟩:=f2 rfl
  obtain ⟨rfl,cL,_,_⟩:=f3 rfl
  have t9:=(f4 rfl).2.2
  clear f0 f1 f2 f3 f4 aY aG aW aV
  have x0:=aK.cell 0
  have bZ:=aK.cell 1
  have bX:=aK.cell 2
  have y0:=t9.cell 0
  have y1:=t9.cell 1
  have y2:=t9.cell 2
  clear HM HO
  go_wp2_with fail
  refine (HC.out _ _ Y qm aX).mono ?_
  rintro e w8 ⟨rfl,bH⟩
  have bK:=aS.trans (bH.mono aS.size)
  have bW:=t9.below bH t9.lt
  have bV:=aK.below bH aK.lt
  have bP:=aT.below bH aT.lt
  have cB:=qm.later bH
  have cF:=aX.later bH
  have bO:=hT.later bK
  clear HC aS bH t9 aK aT qm aX qh x0 bZ bX y0 y1 y2 hT
  have x0:=bV.cell 0
  have bZ:=bV.cell 1
  have bX:=bV.cell 2
  have y0:=bW.cell 0
  have y1:=bW.cell 1
  have y2:=bW.cell 2
  by_cases hc:rcmp mq fq<0
  ·have d:decide (rcmp mq fq<0)=true:=decide_eq_true hc
   obtain ⟨rfl,rfl,rfl⟩:=hN.out hc
   clear hc hN hP x0 bZ bX bV cF
   go_wp2_with fail
   refine (HA.out _ w8 bO cB).mono ?_
   rintro e w9 ⟨v9,rfl,h9,bB⟩
   have bQ:=bK.trans (bB.mono bK.size)
   have bN:=bP.below bB bP.lt
   have bY:=bO.later bB
   clear HA bK bB bP bO y0 y1 y2 bW cB
   go_wp2_with fail
   refine (zmh qa qb v9 w9 h9).mono ?_
   rintro e cR ⟨cQ,rfl,cV,bA⟩
   have bU:=bQ.trans (bA.mono bQ.size)
   have bT:=bN.below bA bN.lt
   have cM:=bY.later bA
   clear bQ bA bN bY h9
   go_wp2_with fail
   refine (zdz (zbV qb) (zbV qa) cQ cR cM cV ((zbE lb).mono (by omega)) ((zbE la).mono (by omega))).mono ?_
   rintro e cU ⟨z1,z2,rfl,cJ,cC,aZ⟩
   have bF:=bU.trans (aZ.mono bU.size)
   have aQ:=bT.below aZ bT.lt
   have u0:=aQ.cell 0
   have u1:=aQ.cell 1
   have f0:=aQ.frozen 0
   have f1:=aQ.frozen 1
   have bE:=zbH bF (g:=w.heap.size+1) (by omega) (.string z1) (.string z2)
   go_wp2
   refine bodyPost_ret (v := .tuple #[.agg #[.string z1,.string z2],.int .i64 (zci (zbV qb) (zbV qa))]) (by simp [results,Tryz.results117,go_sem,u0,u1]) rfl ⟨z1,z2,rfl,cJ,cC,bE⟩
  ·have d:decide (rcmp mq fq<0)=false:=decide_eq_false hc
   obtain ⟨rfl,rfl,rfl⟩:=hP.out (by omega)
   clear hc hN hP y0 y1 y2 bW cB
   go_wp2_with fail
   refine (HA.out _ w8 bO cF).mono ?_
   rintro e w9 ⟨v9,rfl,h9,bB⟩
   have bQ:=bK.trans (bB.mono bK.size)
   have bN:=bP.below bB bP.lt
   have bY:=bO.later bB
   clear HA bK bB bP bO x0 bZ bX bV cF
   go_wp2_with fail
   refine (zdz _ _ v9 w9 bY h9 (la.mono (by omega)) (lb.mono (by omega))).mono ?_
   rintro e cU ⟨z1,z2,rfl,cJ,cC,aZ⟩
   have bF:=bQ.trans (aZ.mono bQ.size)
   have aQ:=bN.below aZ bN.lt
   have u0:=aQ.cell 0
   have u1:=aQ.cell 1
   have f0:=aQ.frozen 0
   have f1:=aQ.frozen 1
   have bE:=zbH bF (g:=w.heap.size+1) (by omega) (.string z1) (.string z2)
   go_wp2
   refine bodyPost_ret (v := .tuple #[.agg #[.string z1,.string z2],.int .i64 (zci _ _)]) (by simp [results,Tryz.results117,go_sem,u0,u1]) rfl ⟨z1,z2,rfl,cJ,cC,bE⟩
end Go.Proofs.YteajibbphcfmeaaGreatDoor
