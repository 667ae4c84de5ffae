/- Contracts of package number's cosine of a number. -/
import Derived.Test.YtmkondcdejlhcaaGreatDoorFCo5
set_option maxRecDepth 100000
set_option maxHeartbeats 8000000
namespace Go.Proofs.YtmkondcdejlhcaaGreatDoor
open Go.RowKit Bn
def zdL:Q:=lowQ false 1 2
theorem znL(w:World)(hT:Tabs w):Calls Tryz.prog 103 #[.int .u64 1,.int .u64 2] w (za3 w zdL):=zfh 1 2 w hT (by omega) (by omega)
theorem zij:LenQ zdL 1:=⟨Nat.le_trans (zaa (Nat.div_le_self _ _)) zbD,Nat.le_trans (zaa (Nat.div_le_self _ _)) (zab (by rw[zdi];omega))⟩
theorem zhM (p fq:Q) (y:ByteArray) (dec:Int) (v:Value) (w:World) (hT:Tabs w) (hv:RatS w w.heap.size v p)
  (HF:Hid (∀ v W,Tabs W→RatS W W.heap.size v p→Calls Tryz.prog 150 #[v] W (za3 W fq)))
  (HE:Hid (∀ v W,Tabs W→RatS W W.heap.size v fq→Calls Tryz.prog 151 #[v] W fun e w'=>e = .returned (.tuple #[.string y,.bool true])∧Below W.heap.size W w')) :
  Calls Tryz.prog 102 #[v,.int .i64 dec] w fun e w'=>e = .returned (.tuple #[.agg #[.string y,.string y],.int .i64 0])∧Below w.heap.size w w':=by
 obtain⟨A1,n1,c1,A2,n2,c2,rfl,h1,h2⟩:=hv;have aA:Below w.heap.size w ((w.alloc (.cells #[.bool p.neg,.slice A1 n1 c1,.slice A2 n2 c2] 91)).alloc (.cells #[.string ⟨#[]⟩,.string ⟨#[]⟩] 39)):=(((Below.refl _ _).alloc (by simp<;>omega) _).alloc (by simp<;>omega) _);have q0:CBlk ((w.alloc (.cells #[.bool p.neg,.slice A1 n1 c1,.slice A2 n2 c2] 91)).alloc (.cells #[.string ⟨#[]⟩,.string ⟨#[]⟩] 39)) (w.heap.size) #[.bool p.neg,.slice A1 n1 c1,.slice A2 n2 c2] 91:=((CBlk.new _ _ _ _ (by simp)).alloc _);have q1:CBlk ((w.alloc (.cells #[.bool p.neg,.slice A1 n1 c1,.slice A2 n2 c2] 91)).alloc (.cells #[.string ⟨#[]⟩,.string ⟨#[]⟩] 39)) (w.heap.size+1) #[.string ⟨#[]⟩,.string ⟨#[]⟩] 39:=(CBlk.new _ _ _ _ (by simp));have aJ:=RatS.mk (q:=p) (h1.later aA) (h2.later aA);go_enter Tryz.func102,Tryz.ntmps102
 go_upto_region 1 with(fail)
 generalize ((w.alloc (.cells #[.bool p.neg,.slice A1 n1 c1,.slice A2 n2 c2] 91)).alloc (.cells #[.string ⟨#[]⟩,.string ⟨#[]⟩] 39))=W at *;have a0:=q0.cell 0;have a1:=q0.cell 1;have a2:=q0.cell 2
 go_wp2_with fail
 refine(HF.out _ W (hT.later aA) aJ).mono ?_;rintro e w2 ⟨v2,rfl,⟨A3,n3,c3,A4,n4,c4,rfl,h3,h4⟩,aI⟩;have aE:Below w2.heap.size w2 (w2.alloc (.cells #[.bool fq.neg,.slice A3 n3 c3,.slice A4 n4 c4] 91)):=Ac;have aG:=Ad aA aI;have hB:=Ad aG aE;have aF:=(q1.below aI q1.lt).alloc (.cells #[.bool fq.neg,.slice A3 n3 c3,.slice A4 n4 c4] 91);have q6:CBlk (w2.alloc (.cells #[.bool fq.neg,.slice A3 n3 c3,.slice A4 n4 c4] 91)) w2.heap.size #[.bool fq.neg,.slice A3 n3 c3,.slice A4 n4 c4] 91:=CBlk.new _ _ _ _ rfl;have hf:=(RatS.mk (q:=fq) h3 h4).later aE;clear q0 q1 aA aI aG h1 h2 aE h3 h4 aJ a0 a1 a2 HF;go_upto_region 2 with(fail)
 generalize (w2.alloc (.cells #[.bool fq.neg,.slice A3 n3 c3,.slice A4 n4 c4] 91))=w3 at *;have a0:=q6.cell 0;have a1:=q6.cell 1;have a2:=q6.cell 2
 go_wp2_with fail
 refine(HE.out _ w3 (hT.later hB) hf).mono ?_;rintro e w4 ⟨rfl,aC⟩;have aK:=Ad hB aC;have aD:=aF.below aC aF.lt;have aL:=q6.below aC q6.lt;have aN:=hf.later aC;clear a0 a1 a2 HE hB aC aF q6 hf;have z0:=aD.cell 0;have z1:=aD.cell 1;have aM:=aD.frozen 0;have aO:=aD.frozen 1;have aH:=zbL aK (g:=w.heap.size+1) (by omega) (.string y) (.string y);go_wp2
 refine bodyPost_ret (v := .tuple #[.agg #[.string y,.string y],.int .i64 0]) (by simp[results,Tryz.results102,go_sem,z0,z1]) rfl ⟨rfl,aH⟩
theorem zgc(p fq mq tq qa qb x1 x2:Q)(dec:Int)(v:Value)(w:World)(hT:Tabs w)(hv:RatS w w.heap.size v p)(lfq:LenQ fq 33554432)(la:LenQ qa 33554432)(lb:LenQ qb 33554432)
 (hmq:Hid (mq=zaU zdL fq))
 (hN:Hid (rcmp mq fq<0→tq=mq∧x1=zbH qb∧x2=zbH qa))(hP:Hid (0≤rcmp mq fq→tq=fq∧x1=qa∧x2=qb))
 (HF:Hid (∀ v W,Tabs W→RatS W W.heap.size v p→Calls Tryz.prog 150 #[v] W (za3 W fq)))
 (HE:Hid (∀ v W,Tabs W→RatS W W.heap.size v fq→Calls Tryz.prog 151 #[v] W fun e w'=>e = .returned (.tuple #[.string ⟨#[]⟩,.bool false])∧Below W.heap.size W w'))
 (HA:Hid (∀ v W,Tabs W→RatS W W.heap.size v tq→Calls Tryz.prog 152 #[v,.int .i64 dec] W (zb3 W qa qb))) :
  Calls Tryz.prog 102 #[v,.int .i64 dec] w (zcT w (zc0 x1 x2) (zcZ x1 x2) (zbY x1 x2)):=by
 obtain⟨A1,n1,c1,A2,n2,c2,rfl,h1,h2⟩:=hv;have bQ:Below w.heap.size w ((w.alloc (.cells #[.bool p.neg,.slice A1 n1 c1,.slice A2 n2 c2] 91)).alloc (.cells #[.string ⟨#[]⟩,.string ⟨#[]⟩] 39)):=(((Below.refl _ _).alloc (by simp<;>omega) _).alloc (by simp<;>omega) _);have q0:CBlk ((w.alloc (.cells #[.bool p.neg,.slice A1 n1 c1,.slice A2 n2 c2] 91)).alloc (.cells #[.string ⟨#[]⟩,.string ⟨#[]⟩] 39)) (w.heap.size) #[.bool p.neg,.slice A1 n1 c1,.slice A2 n2 c2] 91:=((CBlk.new _ _ _ _ (by simp)).alloc _);have q1:CBlk ((w.alloc (.cells #[.bool p.neg,.slice A1 n1 c1,.slice A2 n2 c2] 91)).alloc (.cells #[.string ⟨#[]⟩,.string ⟨#[]⟩] 39)) (w.heap.size+1) #[.string ⟨#[]⟩,.string ⟨#[]⟩] 39:=(CBlk.new _ _ _ _ (by simp));have cN:=RatS.mk (q:=p) (h1.later bQ) (h2.later bQ);go_enter Tryz.func102,Tryz.ntmps102
 go_upto_region 1 with(fail)
 generalize ((w.alloc (.cells #[.bool p.neg,.slice A1 n1 c1,.slice A2 n2 c2] 91)).alloc (.cells #[.string ⟨#[]⟩,.string ⟨#[]⟩] 39))=W at *;have a0:=q0.cell 0;have a1:=q0.cell 1;have a2:=q0.cell 2
 go_wp2_with fail
 refine(HF.out _ W (hT.later bQ) cN).mono ?_;rintro e w2 ⟨v2,rfl,⟨A3,n3,c3,A4,n4,c4,rfl,h3,h4⟩,cF⟩;have cA:Below w2.heap.size w2 (w2.alloc (.cells #[.bool fq.neg,.slice A3 n3 c3,.slice A4 n4 c4] 91)):=Ac;have cG:=Ad bQ cF;have hB:=Ad cG cA;have cM:=(q1.below cF q1.lt).alloc (.cells #[.bool fq.neg,.slice A3 n3 c3,.slice A4 n4 c4] 91);have q6:CBlk (w2.alloc (.cells #[.bool fq.neg,.slice A3 n3 c3,.slice A4 n4 c4] 91)) w2.heap.size #[.bool fq.neg,.slice A3 n3 c3,.slice A4 n4 c4] 91:=CBlk.new _ _ _ _ rfl;have hf:=(RatS.mk (q:=fq) h3 h4).later cA;clear q0 q1 bQ cF cG h1 h2 cA h3 h4 cN a0 a1 a2 HF;go_upto_region 2 with(fail)
 generalize (w2.alloc (.cells #[.bool fq.neg,.slice A3 n3 c3,.slice A4 n4 c4] 91))=w3 at *;have a0:=q6.cell 0;have a1:=q6.cell 1;have a2:=q6.cell 2
 go_wp2_with fail
 refine(HE.out _ w3 (hT.later hB) hf).mono ?_;rintro e w4 ⟨rfl,bS⟩;have aS:=Ad hB bS;have aT:=cM.below bS cM.lt;have aK:=q6.below bS q6.lt;have aY:=hf.later bS;clear a0 a1 a2 HE hB bS cM q6 hf;have cO:LenQ mq 134217728:=by rw[hmq.out];exact(za9 zij (zbJ lfq)).mono (by omega)
 have HM:=Aa (fun v u W hT h2 h3=>(show Calls _ _ _ _ (za3 W mq) from by rw[hmq.out];exact zdr zdL fq v u W hT h2 h3 (zij.mono (by omega)) (lfq.mono (by omega))));have HO:=Aa znL;have HC:=Aa (fun v u W h1 h2=>zbq mq fq v u W h1 h2 (cO.mono (by omega)) (lfq.mono (by omega)));clear cO lfq hmq
 go_wp2_with fail
 obtain⟨G5,bR⟩:∃ g,g=w4.heap.size:=⟨_,rfl⟩;have cS:w.heap.size≤G5:=by rw[bR];exact aS.size
 have aW:w.heap.size+1<G5:=by rw[bR];exact aT.lt
 have aV:w2.heap.size<G5:=by rw[bR];exact aK.lt
 obtain⟨cH,bD⟩:∃ I:Array Bool→Act→World→Prop,I=(fun aU ac W=>∃ (b0 b1 b2 b3 b4:Bool) (bG bH bL u9:Value) (aR:Option Addr) (aO aQ:Nat) (aG:Option Addr) (aE aF:Nat) (aN:Option Addr) (aL aM:Nat) (aD:Option Addr) (aA aC:Nat) (aI:Nat),aU=#[b0,b1,b2,b3,b4]∧ac={ tmps:=#[.agg #[.bool p.neg,.slice A1 n1 c1,.slice A2 n2 c2],.int .i64 dec,.pointer (some ⟨w.heap.size,0,none⟩),undef,.pointer (some ⟨w.heap.size+1,0,none⟩),.int .i64 0,.pointer (some ⟨w2.heap.size,0,none⟩),.string ⟨#[]⟩,.bool false,u9,.agg #[.bool p.neg,.slice A1 n1 c1,.slice A2 n2 c2],.agg #[.bool fq.neg,.slice A3 n3 c3,.slice A4 n4 c4],.tuple #[.string ⟨#[]⟩,.bool false],.agg #[.bool fq.neg,.slice A3 n3 c3,.slice A4 n4 c4],.tuple #[.string ⟨#[]⟩,.bool false],.string ⟨#[]⟩,.bool false,.bool false,undef,undef,undef,bG,bH,bL,undef,undef,undef,undef,undef,undef,undef,undef,undef,undef,undef,undef,undef,undef,undef,undef,undef],defers:=[] }∧G5≤W.heap.size∧Below w.heap.size w W∧CBlk W (w.heap.size+1) #[.string ⟨#[]⟩,.string ⟨#[]⟩] 39∧CBlk W (w2.heap.size) #[.bool fq.neg,.slice A3 n3 c3,.slice A4 n4 c4] 91∧RatS W W.heap.size (.agg #[.bool fq.neg,.slice A3 n3 c3,.slice A4 n4 c4]) fq∧(b0=true→bG = .agg #[.bool zdL.neg,.slice aR aO aQ,.slice aG aE aF]∧RatS W W.heap.size (.agg #[.bool zdL.neg,.slice aR aO aQ,.slice aG aE aF]) ⟨zdL.neg,zdL.top,zdL.bot⟩)∧(b1=true→bH = .agg #[.bool fq.neg,.slice A3 n3 c3,.slice A4 n4 c4])∧(b2=true→bL = .agg #[.bool mq.neg,.slice aN aL aM,.slice aD aA aC]∧RatS W W.heap.size (.agg #[.bool mq.neg,.slice aN aL aM,.slice aD aA aC]) ⟨mq.neg,mq.top,mq.bot⟩)∧(b3=true→u9 = .pointer (some ⟨aI,0,none⟩)∧G5≤aI∧aI<W.heap.size∧(b4=false→CBlk W aI #[.bool false,.slice none 0 0,.slice none 0 0] 91))∧(b4=true→b3=true∧b2=true∧CBlk W aI #[.bool mq.neg,.slice aN aL aM,.slice aD aA aC] 91)):=⟨_,rfl⟩;have aH:=Aa bD;clear bD;refine zbI (by kernel_rfl) cH (by kernel_rfl) ?_ ?_ ?_
 ·rw[aH.out]
  exact⟨false,false,false,false,false,undef,undef,undef,undef,none,0,0,none,0,0,none,0,0,none,0,0,0,rfl,rfl,(by rw[bR];exact Nat.le_refl _),aS.drew,aT.drew,aK.drew,(aY.later (Below.drew (Below.refl _ _))),(fun h=>by cases h),(fun h=>by cases h),(fun h=>by cases h),(fun h=>by cases h),(fun h=>by cases h)⟩
 ·intro i op aU ac W ho hI hl aJ
  rw[aH.out] at hI;obtain⟨b0,b1,b2,b3,b4,bG,bH,bL,u9,aR,aO,aQ,aG,aE,aF,aN,aL,aM,aD,aA,aC,aI,rfl,rfl,bI,aS,aT,aK,aY,f0,f1,f2,f3,f4⟩:=hI;clear bR
  match i,ho,hl,aJ with
  | 0,ho,hl,aJ=>
   have bB:b0=false:=Option.some.inj hl;obtain rfl:=Option.some.inj ho;refine zao ho fun K' hK => ?_
   go_simp
   go_at_call 103
   refine(HO.out W (hT.later aS)).mono ?_;rintro e W1 ⟨v0,rfl,⟨A,n,c,A',n',c',rfl,kt,kb⟩,hb⟩;refine hK.out _ _ ?_;rw[aH.out];exact⟨true,b1,b2,b3,b4,(.agg #[.bool zdL.neg,.slice A n c,.slice A' n' c']),bH,bL,u9,A,n,c,A',n',c',aN,aL,aM,aD,aA,aC,aI,rfl,rfl,(Nat.le_trans bI hb.size),(aS.trans (hb.mono aS.size)),(aT.below hb aT.lt),(aK.below hb aK.lt),(aY.later hb),(fun _=>⟨rfl,⟨A,n,c,A',n',c',rfl,kt,kb⟩⟩),f1,(fun h=>⟨(f2 h).1,(f2 h).2.later hb⟩),(fun h=>⟨(f3 h).1,(f3 h).2.1,Nat.lt_of_lt_of_le (f3 h).2.2.1 hb.size,fun h2=>((f3 h).2.2.2 h2).below hb (f3 h).2.2.1⟩),(fun h=>⟨(f4 h).1,(f4 h).2.1,(f4 h).2.2.below hb (f4 h).2.2.lt⟩)⟩
  | 1,ho,hl,aJ=>
   have bB:b1=false:=Option.some.inj hl;obtain rfl:=Option.some.inj ho;refine zao ho fun K' hK => ?_
   have x0:=aK.cell 0;have x1:=aK.cell 1;have x2:=aK.cell 2
   go_simp
   refine hK.out _ _ ?_;rw[aH.out];exact⟨b0,true,b2,b3,b4,bG,(.agg #[.bool fq.neg,.slice A3 n3 c3,.slice A4 n4 c4]),bL,u9,aR,aO,aQ,aG,aE,aF,aN,aL,aM,aD,aA,aC,aI,rfl,rfl,bI,aS,aT,aK,aY,f0,(fun _=>rfl),f2,f3,f4⟩
  | 2,ho,hl,aJ=>
   have bB:b2=false:=Option.some.inj hl;obtain rfl:=Option.some.inj ho;have e0:b0=true:=aJ ⟨0,.data⟩ (by simp) rfl;obtain⟨rfl,cQ⟩:=f0 e0;have e1:b1=true:=aJ ⟨1,.data⟩ (by simp) rfl;obtain rfl:=f1 e1;refine zao ho fun K' hK => ?_
   go_simp
   go_at_call 66
   refine(HM.out _ _ W (hT.later aS) cQ aY).mono ?_;rintro e W1 ⟨v0,rfl,⟨A,n,c,A',n',c',rfl,kt,kb⟩,hb⟩;refine hK.out _ _ ?_;rw[aH.out];exact⟨b0,b1,true,b3,b4,(.agg #[.bool zdL.neg,.slice aR aO aQ,.slice aG aE aF]),(.agg #[.bool fq.neg,.slice A3 n3 c3,.slice A4 n4 c4]),(.agg #[.bool mq.neg,.slice A n c,.slice A' n' c']),u9,aR,aO,aQ,aG,aE,aF,A,n,c,A',n',c',aI,rfl,rfl,(Nat.le_trans bI hb.size),(aS.trans (hb.mono aS.size)),(aT.below hb aT.lt),(aK.below hb aK.lt),(aY.later hb),(fun h=>⟨(f0 h).1,(f0 h).2.later hb⟩),f1,(fun _=>⟨rfl,⟨A,n,c,A',n',c',rfl,kt,kb⟩⟩),(fun h=>⟨(f3 h).1,(f3 h).2.1,Nat.lt_of_lt_of_le (f3 h).2.2.1 hb.size,fun h2=>((f3 h).2.2.2 h2).below hb (f3 h).2.2.1⟩),(fun h=>by rw[(f4 h).2.1] at bB;cases bB)⟩
  | 3,ho,hl,aJ=>
   have bB:b3=false:=Option.some.inj hl;obtain rfl:=Option.some.inj ho;refine zao ho fun K' hK => ?_
   have hb:Below W.heap.size W (W.alloc (.cells #[.bool false,.slice none 0 0,.slice none 0 0] 91)):=Ac
   go_simp
   refine hK.out _ _ ?_;rw[aH.out];exact⟨b0,b1,b2,true,b4,bG,bH,bL,(.pointer (some ⟨W.heap.size,0,none⟩)),aR,aO,aQ,aG,aE,aF,aN,aL,aM,aD,aA,aC,W.heap.size,rfl,rfl,(Nat.le_trans bI hb.size),(aS.trans (hb.mono aS.size)),(aT.below hb aT.lt),(aK.below hb aK.lt),(aY.later hb),(fun h=>⟨(f0 h).1,(f0 h).2.later hb⟩),f1,(fun h=>⟨(f2 h).1,(f2 h).2.later hb⟩),(fun _=>⟨rfl,bI,by simp,fun _=>CBlk.new W _ _ _ rfl⟩),(fun h=>by rw[(f4 h).1] at bB;cases bB)⟩
  | 4,ho,hl,aJ=>
   have bB:b4=false:=Option.some.inj hl;obtain rfl:=Option.some.inj ho;have e3:b3=true:=aJ ⟨3,.data⟩ (by simp) rfl;obtain⟨rfl,cE,cY,cU⟩:=f3 e3;have e2:b2=true:=aJ ⟨2,.data⟩ (by simp) rfl;obtain⟨rfl,cW⟩:=f2 e2;refine zao ho fun K' hK => ?_
   have hz:=cU bB;have z0:=hz.cell 0;have z1:=hz.cell 1;have z2:=hz.cell 2;have dB:=hz.frozen 0;have dA:=hz.frozen 1;have cZ:=hz.frozen 2
   go_simp
   refine hK.out _ _ ?_;rw[aH.out];exact⟨b0,b1,b2,b3,true,bG,bH,(.agg #[.bool mq.neg,.slice aN aL aM,.slice aD aA aC]),(.pointer (some ⟨aI,0,none⟩)),aR,aO,aQ,aG,aE,aF,aN,aL,aM,aD,aA,aC,aI,rfl,rfl,(by rw[zah];exact bI),(zan aS (Nat.le_trans cS cE) _ _ _),(aT.far3 (Nat.ne_of_gt (Nat.lt_of_lt_of_le aW cE)) _ _ _),(aK.far3 (Nat.ne_of_gt (Nat.lt_of_lt_of_le aV cE)) _ _ _),(aY.res3 hz _ _ _ _ _ _ _),(fun h=>⟨(f0 h).1,(f0 h).2.res3 hz _ _ _ _ _ _ _⟩),f1,(fun h=>⟨(f2 h).1,(f2 h).2.res3 hz _ _ _ _ _ _ _⟩),(fun h=>⟨(f3 h).1,(f3 h).2.1,by rw[zah];exact(f3 h).2.2.1,fun h2=>by cases h2⟩),(fun _=>⟨e3,e2,hz.set3 _ _ _⟩)⟩
  | n+5,ho,hl,aJ=>exact absurd ho (by simp)
 ·intro aU ac Y hI aX
  rw[aH.out] at hI;clear aS aT aK aY;obtain⟨b0,b1,b2,b3,b4,bG,bH,bL,u9,aR,aO,aQ,aG,aE,aF,aN,aL,aM,aD,aA,aC,aI,rfl,rfl,bI,aS,aT,aK,aY,f0,f1,f2,f3,f4⟩:=hI;have e0:b0=true:=aX 0 b0 (by decide) rfl;have e1:b1=true:=aX 1 b1 (by decide) rfl;have e2:b2=true:=aX 2 b2 (by decide) rfl;have e3:b3=true:=aX 3 b3 (by decide) rfl;have e4:b4=true:=aX 4 b4 (by decide) rfl;subst e0;subst e1;subst e2;subst e3;subst e4;obtain⟨rfl,qh⟩:=f0 rfl;obtain rfl:=f1 rfl;obtain⟨rfl,qm⟩:=f2 rfl;obtain⟨rfl,cC,_,_⟩:=f3 rfl;have t9:=(f4 rfl).2.2;clear f0 f1 f2 f3 f4 aX aH aW aV;have x0:=aK.cell 0;have bZ:=aK.cell 1;have bY:=aK.cell 2;have y0:=t9.cell 0;have y1:=t9.cell 1;have y2:=t9.cell 2;clear HM HO
  go_wp2_with fail
  refine(HC.out _ _ Y qm aY).mono ?_;rintro e w8 ⟨rfl,bK⟩;have bJ:=Ad aS bK;have bU:=t9.below bK t9.lt;have bW:=aK.below bK aK.lt;have bM:=aT.below bK aT.lt;have cL:=qm.later bK;have cK:=aY.later bK;have bP:=hT.later bJ;clear HC aS bK t9 aK aT qm aY qh x0 bZ bY y0 y1 y2 hT;have x0:=bW.cell 0;have bZ:=bW.cell 1;have bY:=bW.cell 2;have y0:=bU.cell 0;have y1:=bU.cell 1;have y2:=bU.cell 2
  by_cases hc:rcmp mq fq<0
  ·have d:decide (rcmp mq fq<0)=true:=decide_eq_true hc
   obtain⟨rfl,rfl,rfl⟩:=hN.out hc;clear hc hN hP x0 bZ bY bW cK
   go_wp2_with fail
   refine(HA.out _ w8 bP cL).mono ?_;rintro e w9 ⟨v9,rfl,h9,bC⟩;have bO:=Ad bJ bC;have bN:=bM.below bC bM.lt;have bX:=bP.later bC;clear HA bJ bC bM bP y0 y1 y2 bU cL
   go_wp2_with fail
   refine(zjl qa qb v9 w9 h9).mono ?_;rintro e cT ⟨cP,rfl,cV,bA⟩;have bV:=Ad bO bA;have bT:=bN.below bA bN.lt;have cJ:=bX.later bA;clear bO bA bN bX h9
   go_wp2_with fail
   refine(zd2 (zbH qb) (zbH qa) cP cT cJ cV ((zbJ lb).mono (by omega)) ((zbJ la).mono (by omega))).mono ?_;rintro e cR ⟨z1,z2,rfl,cB,cI,aZ⟩;have bF:=Ad bV aZ;have aP:=bT.below aZ bT.lt;have u0:=aP.cell 0;have u1:=aP.cell 1;have f0:=aP.frozen 0;have f1:=aP.frozen 1;have bE:=zbL bF (g:=w.heap.size+1) (by omega) (.string z1) (.string z2);go_wp2
   refine bodyPost_ret (v := .tuple #[.agg #[.string z1,.string z2],.int .i64 (zbY (zbH qb) (zbH qa))]) (by simp[results,Tryz.results102,go_sem,u0,u1]) rfl ⟨z1,z2,rfl,cB,cI,bE⟩
  ·have d:decide (rcmp mq fq<0)=false:=decide_eq_false hc
   obtain⟨rfl,rfl,rfl⟩:=hP.out (by omega);clear hc hN hP y0 y1 y2 bU cL
   go_wp2_with fail
   refine(HA.out _ w8 bP cK).mono ?_;rintro e w9 ⟨v9,rfl,h9,bC⟩;have bO:=Ad bJ bC;have bN:=bM.below bC bM.lt;have bX:=bP.later bC;clear HA bJ bC bM bP x0 bZ bY bW cK
   go_wp2_with fail
   refine(zd2 _ _ v9 w9 bX h9 (la.mono (by omega)) (lb.mono (by omega))).mono ?_;rintro e cR ⟨z1,z2,rfl,cB,cI,aZ⟩;have bF:=Ad bO aZ;have aP:=bN.below aZ bN.lt;have u0:=aP.cell 0;have u1:=aP.cell 1;have f0:=aP.frozen 0;have f1:=aP.frozen 1;have bE:=zbL bF (g:=w.heap.size+1) (by omega) (.string z1) (.string z2);go_wp2
   refine bodyPost_ret (v := .tuple #[.agg #[.string z1,.string z2],.int .i64 (zbY _ _)]) (by simp[results,Tryz.results102,go_sem,u0,u1]) rfl ⟨z1,z2,rfl,cB,cI,bE⟩
end Go.Proofs.YtmkondcdejlhcaaGreatDoor
