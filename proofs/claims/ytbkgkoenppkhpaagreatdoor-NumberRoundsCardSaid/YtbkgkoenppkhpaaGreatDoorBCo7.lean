/- Contracts of package number's cosine of a number. -/
import Derived.Test.YtbkgkoenppkhpaaGreatDoorBCo5
set_option maxRecDepth 100000
set_option maxHeartbeats 8000000
namespace Go.Proofs.YtbkgkoenppkhpaaGreatDoor
open Go.RowKit Bn
def zd7:Q:=lowQ false 1 2
theorem zot(w:World)(hT:Tabs w):Calls Tryz.prog 116 #[.int .u64 1,.int .u64 2] w (za5 w zd7):=zfB 1 2 w hT (by omega) (by omega)
theorem zi2:LenQ zd7 1:=⟨Nat.le_trans (zaa (Nat.div_le_self _ _)) zbF,Nat.le_trans (zaa (Nat.div_le_self _ _)) (zab (by rw[zdC];omega))⟩
theorem zil (p fq:Q) (y:ByteArray) (dec:Int) (v:Value) (w:World) (hT:Tabs w) (hv:RatS w w.heap.size v p)
  (HF:Hid (∀ v W,Tabs W→RatS W W.heap.size v p→Calls Tryz.prog 171 #[v] W (za5 W fq)))
  (HE:Hid (∀ v W,Tabs W→RatS W W.heap.size v fq→Calls Tryz.prog 172 #[v] W fun e w'=>e = .returned (.tuple #[.string y,.bool true])∧Below W.heap.size W w')) :
  Calls Tryz.prog 115 #[v,.int .i64 dec] w fun e w'=>e = .returned (.tuple #[.agg #[.string y,.string y],.int .i64 0])∧Below w.heap.size w w':=by
 obtain⟨A1,n1,c1,A2,n2,c2,rfl,h1,h2⟩:=hv;have aA:Below w.heap.size w ((w.alloc (.cells #[.bool p.neg,.slice A1 n1 c1,.slice A2 n2 c2] 87)).alloc (.cells #[.string ⟨#[]⟩,.string ⟨#[]⟩] 24)):=(((Below.refl _ _).alloc (by simp<;>omega) _).alloc (by simp<;>omega) _);have q0:CBlk ((w.alloc (.cells #[.bool p.neg,.slice A1 n1 c1,.slice A2 n2 c2] 87)).alloc (.cells #[.string ⟨#[]⟩,.string ⟨#[]⟩] 24)) (w.heap.size) #[.bool p.neg,.slice A1 n1 c1,.slice A2 n2 c2] 87:=((CBlk.new _ _ _ _ (by simp)).alloc _);have q1:CBlk ((w.alloc (.cells #[.bool p.neg,.slice A1 n1 c1,.slice A2 n2 c2] 87)).alloc (.cells #[.string ⟨#[]⟩,.string ⟨#[]⟩] 24)) (w.heap.size+1) #[.string ⟨#[]⟩,.string ⟨#[]⟩] 24:=(CBlk.new _ _ _ _ (by simp));have aJ:=RatS.mk (q:=p) (h1.later aA) (h2.later aA);go_enter Tryz.func115,Tryz.ntmps115
 go_upto_region 1 with(fail)
 generalize ((w.alloc (.cells #[.bool p.neg,.slice A1 n1 c1,.slice A2 n2 c2] 87)).alloc (.cells #[.string ⟨#[]⟩,.string ⟨#[]⟩] 24))=W at *;have a0:=q0.cell 0;have a1:=q0.cell 1;have a2:=q0.cell 2
 go_wp2_with fail
 refine(HF.out _ W (hT.later aA) aJ).mono ?_;rintro e w2 ⟨v2,rfl,⟨A3,n3,c3,A4,n4,c4,rfl,h3,h4⟩,aG⟩;have aF:Below w2.heap.size w2 (w2.alloc (.cells #[.bool fq.neg,.slice A3 n3 c3,.slice A4 n4 c4] 87)):=Ac;have aI:=Ad aA aG;have hB:=Ad aI aF;have aE:=(q1.below aG q1.lt).alloc (.cells #[.bool fq.neg,.slice A3 n3 c3,.slice A4 n4 c4] 87);have q6:CBlk (w2.alloc (.cells #[.bool fq.neg,.slice A3 n3 c3,.slice A4 n4 c4] 87)) w2.heap.size #[.bool fq.neg,.slice A3 n3 c3,.slice A4 n4 c4] 87:=CBlk.new _ _ _ _ rfl;have hf:=(RatS.mk (q:=fq) h3 h4).later aF;clear q0 q1 aA aG aI h1 h2 aF h3 h4 aJ a0 a1 a2 HF;go_upto_region 2 with(fail)
 generalize (w2.alloc (.cells #[.bool fq.neg,.slice A3 n3 c3,.slice A4 n4 c4] 87))=w3 at *;have a0:=q6.cell 0;have a1:=q6.cell 1;have a2:=q6.cell 2
 go_wp2_with fail
 refine(HE.out _ w3 (hT.later hB) hf).mono ?_;rintro e w4 ⟨rfl,aC⟩;have aK:=Ad hB aC;have aD:=aE.below aC aE.lt;have aM:=q6.below aC q6.lt;have aN:=hf.later aC;clear a0 a1 a2 HE hB aC aE q6 hf;have z0:=aD.cell 0;have z1:=aD.cell 1;have aL:=aD.frozen 0;have aO:=aD.frozen 1;have aH:=zbN aK (g:=w.heap.size+1) (by omega) (.string y) (.string y);go_wp2
 refine bodyPost_ret (v := .tuple #[.agg #[.string y,.string y],.int .i64 0]) (by simp[results,Tryz.results115,go_sem,z0,z1]) rfl ⟨rfl,aH⟩
theorem zf3(p fq mq tq qa qb x1 x2:Q)(dec:Int)(v:Value)(w:World)(hT:Tabs w)(hv:RatS w w.heap.size v p)(lfq:LenQ fq 33554432)(la:LenQ qa 33554432)(lb:LenQ qb 33554432)
 (hmq:Hid (mq=za6 zd7 fq))
 (hN:Hid (rcmp mq fq<0→tq=mq∧x1=zci qb∧x2=zci qa))(hP:Hid (0≤rcmp mq fq→tq=fq∧x1=qa∧x2=qb))
 (HF:Hid (∀ v W,Tabs W→RatS W W.heap.size v p→Calls Tryz.prog 171 #[v] W (za5 W fq)))
 (HE:Hid (∀ v W,Tabs W→RatS W W.heap.size v fq→Calls Tryz.prog 172 #[v] W fun e w'=>e = .returned (.tuple #[.string ⟨#[]⟩,.bool false])∧Below W.heap.size W w'))
 (HA:Hid (∀ v W,Tabs W→RatS W W.heap.size v tq→Calls Tryz.prog 173 #[v,.int .i64 dec] W (zch W qa qb))) :
  Calls Tryz.prog 115 #[v,.int .i64 dec] w (zdI w (zer x1 x2) (zet x1 x2) (zcm x1 x2)):=by
 obtain⟨A1,n1,c1,A2,n2,c2,rfl,h1,h2⟩:=hv;have bQ:Below w.heap.size w ((w.alloc (.cells #[.bool p.neg,.slice A1 n1 c1,.slice A2 n2 c2] 87)).alloc (.cells #[.string ⟨#[]⟩,.string ⟨#[]⟩] 24)):=(((Below.refl _ _).alloc (by simp<;>omega) _).alloc (by simp<;>omega) _);have q0:CBlk ((w.alloc (.cells #[.bool p.neg,.slice A1 n1 c1,.slice A2 n2 c2] 87)).alloc (.cells #[.string ⟨#[]⟩,.string ⟨#[]⟩] 24)) (w.heap.size) #[.bool p.neg,.slice A1 n1 c1,.slice A2 n2 c2] 87:=((CBlk.new _ _ _ _ (by simp)).alloc _);have q1:CBlk ((w.alloc (.cells #[.bool p.neg,.slice A1 n1 c1,.slice A2 n2 c2] 87)).alloc (.cells #[.string ⟨#[]⟩,.string ⟨#[]⟩] 24)) (w.heap.size+1) #[.string ⟨#[]⟩,.string ⟨#[]⟩] 24:=(CBlk.new _ _ _ _ (by simp));have cN:=RatS.mk (q:=p) (h1.later bQ) (h2.later bQ);go_enter Tryz.func115,Tryz.ntmps115
 go_upto_region 1 with(fail)
 generalize ((w.alloc (.cells #[.bool p.neg,.slice A1 n1 c1,.slice A2 n2 c2] 87)).alloc (.cells #[.string ⟨#[]⟩,.string ⟨#[]⟩] 24))=W at *;have a0:=q0.cell 0;have a1:=q0.cell 1;have a2:=q0.cell 2
 go_wp2_with fail
 refine(HF.out _ W (hT.later bQ) cN).mono ?_;rintro e w2 ⟨v2,rfl,⟨A3,n3,c3,A4,n4,c4,rfl,h3,h4⟩,cM⟩;have cF:Below w2.heap.size w2 (w2.alloc (.cells #[.bool fq.neg,.slice A3 n3 c3,.slice A4 n4 c4] 87)):=Ac;have cB:=Ad bQ cM;have hB:=Ad cB cF;have cI:=(q1.below cM q1.lt).alloc (.cells #[.bool fq.neg,.slice A3 n3 c3,.slice A4 n4 c4] 87);have q6:CBlk (w2.alloc (.cells #[.bool fq.neg,.slice A3 n3 c3,.slice A4 n4 c4] 87)) w2.heap.size #[.bool fq.neg,.slice A3 n3 c3,.slice A4 n4 c4] 87:=CBlk.new _ _ _ _ rfl;have hf:=(RatS.mk (q:=fq) h3 h4).later cF;clear q0 q1 bQ cM cB h1 h2 cF h3 h4 cN a0 a1 a2 HF;go_upto_region 2 with(fail)
 generalize (w2.alloc (.cells #[.bool fq.neg,.slice A3 n3 c3,.slice A4 n4 c4] 87))=w3 at *;have a0:=q6.cell 0;have a1:=q6.cell 1;have a2:=q6.cell 2
 go_wp2_with fail
 refine(HE.out _ w3 (hT.later hB) hf).mono ?_;rintro e w4 ⟨rfl,bR⟩;have aS:=Ad hB bR;have aT:=cI.below bR cI.lt;have aK:=q6.below bR q6.lt;have aX:=hf.later bR;clear a0 a1 a2 HE hB bR cI q6 hf;have cO:LenQ mq 134217728:=by rw[hmq.out];exact(zbw zi2 (zbZ lfq)).mono (by omega)
 have HM:=Aa (fun v u W hT h2 h3=>(show Calls _ _ _ _ (za5 W mq) from by rw[hmq.out];exact zdu zd7 fq v u W hT h2 h3 (zi2.mono (by omega)) (lfq.mono (by omega))));have HO:=Aa zot;have HC:=Aa (fun v u W h1 h2=>zbp mq fq v u W h1 h2 (cO.mono (by omega)) (lfq.mono (by omega)));clear cO lfq hmq
 go_wp2_with fail
 obtain⟨G5,bT⟩:∃ g,g=w4.heap.size:=⟨_,rfl⟩;have cT:w.heap.size≤G5:=by rw[bT];exact aS.size
 have aV:w.heap.size+1<G5:=by rw[bT];exact aT.lt
 have aW:w2.heap.size<G5:=by rw[bT];exact aK.lt
 obtain⟨cH,bD⟩:∃ I:Array Bool→Act→World→Prop,I=(fun aU ac W=>∃ (b0 b1 b2 b3 b4:Bool) (bK bF bE u9:Value) (aR:Option Addr) (aO aP:Nat) (aH:Option Addr) (aG aE:Nat) (aN:Option Addr) (aL aM:Nat) (aC:Option Addr) (aD aA:Nat) (aI:Nat),aU=#[b0,b1,b2,b3,b4]∧ac={ tmps:=#[.agg #[.bool p.neg,.slice A1 n1 c1,.slice A2 n2 c2],.int .i64 dec,.pointer (some ⟨w.heap.size,0,none⟩),undef,.pointer (some ⟨w.heap.size+1,0,none⟩),.int .i64 0,.pointer (some ⟨w2.heap.size,0,none⟩),.string ⟨#[]⟩,.bool false,u9,.agg #[.bool p.neg,.slice A1 n1 c1,.slice A2 n2 c2],.agg #[.bool fq.neg,.slice A3 n3 c3,.slice A4 n4 c4],.tuple #[.string ⟨#[]⟩,.bool false],.agg #[.bool fq.neg,.slice A3 n3 c3,.slice A4 n4 c4],.tuple #[.string ⟨#[]⟩,.bool false],.string ⟨#[]⟩,.bool false,.bool false,undef,undef,undef,bK,bF,bE,undef,undef,undef,undef,undef,undef,undef,undef,undef,undef,undef,undef,undef,undef,undef,undef,undef],defers:=[] }∧G5≤W.heap.size∧Below w.heap.size w W∧CBlk W (w.heap.size+1) #[.string ⟨#[]⟩,.string ⟨#[]⟩] 24∧CBlk W (w2.heap.size) #[.bool fq.neg,.slice A3 n3 c3,.slice A4 n4 c4] 87∧RatS W W.heap.size (.agg #[.bool fq.neg,.slice A3 n3 c3,.slice A4 n4 c4]) fq∧(b0=true→bK = .agg #[.bool zd7.neg,.slice aR aO aP,.slice aH aG aE]∧RatS W W.heap.size (.agg #[.bool zd7.neg,.slice aR aO aP,.slice aH aG aE]) ⟨zd7.neg,zd7.top,zd7.bot⟩)∧(b1=true→bF = .agg #[.bool fq.neg,.slice A3 n3 c3,.slice A4 n4 c4])∧(b2=true→bE = .agg #[.bool mq.neg,.slice aN aL aM,.slice aC aD aA]∧RatS W W.heap.size (.agg #[.bool mq.neg,.slice aN aL aM,.slice aC aD aA]) ⟨mq.neg,mq.top,mq.bot⟩)∧(b3=true→u9 = .pointer (some ⟨aI,0,none⟩)∧G5≤aI∧aI<W.heap.size∧(b4=false→CBlk W aI #[.bool false,.slice none 0 0,.slice none 0 0] 87))∧(b4=true→b3=true∧b2=true∧CBlk W aI #[.bool mq.neg,.slice aN aL aM,.slice aC aD aA] 87)):=⟨_,rfl⟩;have aF:=Aa bD;clear bD;refine zbU (by kernel_rfl) cH (by kernel_rfl) ?_ ?_ ?_
 ·rw[aF.out]
  exact⟨false,false,false,false,false,undef,undef,undef,undef,none,0,0,none,0,0,none,0,0,none,0,0,0,rfl,rfl,(by rw[bT];exact Nat.le_refl _),aS.drew,aT.drew,aK.drew,(aX.later (Below.drew (Below.refl _ _))),(fun h=>by cases h),(fun h=>by cases h),(fun h=>by cases h),(fun h=>by cases h),(fun h=>by cases h)⟩
 ·intro i op aU ac W ho hI hl aJ
  rw[aF.out] at hI;obtain⟨b0,b1,b2,b3,b4,bK,bF,bE,u9,aR,aO,aP,aH,aG,aE,aN,aL,aM,aC,aD,aA,aI,rfl,rfl,bL,aS,aT,aK,aX,f0,f1,f2,f3,f4⟩:=hI;clear bT
  match i,ho,hl,aJ with
  | 0,ho,hl,aJ=>
   have bC:b0=false:=Option.some.inj hl;obtain rfl:=Option.some.inj ho;refine zas ho fun K' hK => ?_
   go_simp
   go_at_call 116
   refine(HO.out W (hT.later aS)).mono ?_;rintro e W1 ⟨v0,rfl,⟨A,n,c,A',n',c',rfl,kt,kb⟩,hb⟩;refine hK.out _ _ ?_;rw[aF.out];exact⟨true,b1,b2,b3,b4,(.agg #[.bool zd7.neg,.slice A n c,.slice A' n' c']),bF,bE,u9,A,n,c,A',n',c',aN,aL,aM,aC,aD,aA,aI,rfl,rfl,(Nat.le_trans bL hb.size),(aS.trans (hb.mono aS.size)),(aT.below hb aT.lt),(aK.below hb aK.lt),(aX.later hb),(fun _=>⟨rfl,⟨A,n,c,A',n',c',rfl,kt,kb⟩⟩),f1,(fun h=>⟨(f2 h).1,(f2 h).2.later hb⟩),(fun h=>⟨(f3 h).1,(f3 h).2.1,Nat.lt_of_lt_of_le (f3 h).2.2.1 hb.size,fun h2=>((f3 h).2.2.2 h2).below hb (f3 h).2.2.1⟩),(fun h=>⟨(f4 h).1,(f4 h).2.1,(f4 h).2.2.below hb (f4 h).2.2.lt⟩)⟩
  | 1,ho,hl,aJ=>
   have bC:b1=false:=Option.some.inj hl;obtain rfl:=Option.some.inj ho;refine zas ho fun K' hK => ?_
   have x0:=aK.cell 0;have x1:=aK.cell 1;have x2:=aK.cell 2
   go_simp
   refine hK.out _ _ ?_;rw[aF.out];exact⟨b0,true,b2,b3,b4,bK,(.agg #[.bool fq.neg,.slice A3 n3 c3,.slice A4 n4 c4]),bE,u9,aR,aO,aP,aH,aG,aE,aN,aL,aM,aC,aD,aA,aI,rfl,rfl,bL,aS,aT,aK,aX,f0,(fun _=>rfl),f2,f3,f4⟩
  | 2,ho,hl,aJ=>
   have bC:b2=false:=Option.some.inj hl;obtain rfl:=Option.some.inj ho;have e0:b0=true:=aJ ⟨0,.data⟩ (by simp) rfl;obtain⟨rfl,cU⟩:=f0 e0;have e1:b1=true:=aJ ⟨1,.data⟩ (by simp) rfl;obtain rfl:=f1 e1;refine zas ho fun K' hK => ?_
   go_simp
   go_at_call 117
   refine(HM.out _ _ W (hT.later aS) cU aX).mono ?_;rintro e W1 ⟨v0,rfl,⟨A,n,c,A',n',c',rfl,kt,kb⟩,hb⟩;refine hK.out _ _ ?_;rw[aF.out];exact⟨b0,b1,true,b3,b4,(.agg #[.bool zd7.neg,.slice aR aO aP,.slice aH aG aE]),(.agg #[.bool fq.neg,.slice A3 n3 c3,.slice A4 n4 c4]),(.agg #[.bool mq.neg,.slice A n c,.slice A' n' c']),u9,aR,aO,aP,aH,aG,aE,A,n,c,A',n',c',aI,rfl,rfl,(Nat.le_trans bL hb.size),(aS.trans (hb.mono aS.size)),(aT.below hb aT.lt),(aK.below hb aK.lt),(aX.later hb),(fun h=>⟨(f0 h).1,(f0 h).2.later hb⟩),f1,(fun _=>⟨rfl,⟨A,n,c,A',n',c',rfl,kt,kb⟩⟩),(fun h=>⟨(f3 h).1,(f3 h).2.1,Nat.lt_of_lt_of_le (f3 h).2.2.1 hb.size,fun h2=>((f3 h).2.2.2 h2).below hb (f3 h).2.2.1⟩),(fun h=>by rw[(f4 h).2.1] at bC;cases bC)⟩
  | 3,ho,hl,aJ=>
   have bC:b3=false:=Option.some.inj hl;obtain rfl:=Option.some.inj ho;refine zas ho fun K' hK => ?_
   have hb:Below W.heap.size W (W.alloc (.cells #[.bool false,.slice none 0 0,.slice none 0 0] 87)):=Ac
   go_simp
   refine hK.out _ _ ?_;rw[aF.out];exact⟨b0,b1,b2,true,b4,bK,bF,bE,(.pointer (some ⟨W.heap.size,0,none⟩)),aR,aO,aP,aH,aG,aE,aN,aL,aM,aC,aD,aA,W.heap.size,rfl,rfl,(Nat.le_trans bL hb.size),(aS.trans (hb.mono aS.size)),(aT.below hb aT.lt),(aK.below hb aK.lt),(aX.later hb),(fun h=>⟨(f0 h).1,(f0 h).2.later hb⟩),f1,(fun h=>⟨(f2 h).1,(f2 h).2.later hb⟩),(fun _=>⟨rfl,bL,by simp,fun _=>CBlk.new W _ _ _ rfl⟩),(fun h=>by rw[(f4 h).1] at bC;cases bC)⟩
  | 4,ho,hl,aJ=>
   have bC:b4=false:=Option.some.inj hl;obtain rfl:=Option.some.inj ho;have e3:b3=true:=aJ ⟨3,.data⟩ (by simp) rfl;obtain⟨rfl,cK,cZ,cS⟩:=f3 e3;have e2:b2=true:=aJ ⟨2,.data⟩ (by simp) rfl;obtain⟨rfl,cW⟩:=f2 e2;refine zas ho fun K' hK => ?_
   have hz:=cS bC;have z0:=hz.cell 0;have z1:=hz.cell 1;have z2:=hz.cell 2;have cY:=hz.frozen 0;have dA:=hz.frozen 1;have dB:=hz.frozen 2
   go_simp
   refine hK.out _ _ ?_;rw[aF.out];exact⟨b0,b1,b2,b3,true,bK,bF,(.agg #[.bool mq.neg,.slice aN aL aM,.slice aC aD aA]),(.pointer (some ⟨aI,0,none⟩)),aR,aO,aP,aH,aG,aE,aN,aL,aM,aC,aD,aA,aI,rfl,rfl,(by rw[zah];exact bL),(zao aS (Nat.le_trans cT cK) _ _ _),(aT.far3 (Nat.ne_of_gt (Nat.lt_of_lt_of_le aV cK)) _ _ _),(aK.far3 (Nat.ne_of_gt (Nat.lt_of_lt_of_le aW cK)) _ _ _),(aX.res3 hz _ _ _ _ _ _ _),(fun h=>⟨(f0 h).1,(f0 h).2.res3 hz _ _ _ _ _ _ _⟩),f1,(fun h=>⟨(f2 h).1,(f2 h).2.res3 hz _ _ _ _ _ _ _⟩),(fun h=>⟨(f3 h).1,(f3 h).2.1,by rw[zah];exact(f3 h).2.2.1,fun h2=>by cases h2⟩),(fun _=>⟨e3,e2,hz.set3 _ _ _⟩)⟩
  | n+5,ho,hl,aJ=>exact absurd ho (by simp)
 ·intro aU ac Y hI aY
  rw[aF.out] at hI;clear aS aT aK aX;obtain⟨b0,b1,b2,b3,b4,bK,bF,bE,u9,aR,aO,aP,aH,aG,aE,aN,aL,aM,aC,aD,aA,aI,rfl,rfl,bL,aS,aT,aK,aX,f0,f1,f2,f3,f4⟩:=hI;have e0:b0=true:=aY 0 b0 (by decide) rfl;have e1:b1=true:=aY 1 b1 (by decide) rfl;have e2:b2=true:=aY 2 b2 (by decide) rfl;have e3:b3=true:=aY 3 b3 (by decide) rfl;have e4:b4=true:=aY 4 b4 (by decide) rfl;subst e0;subst e1;subst e2;subst e3;subst e4;obtain⟨rfl,qh⟩:=f0 rfl;obtain rfl:=f1 rfl;obtain⟨rfl,qm⟩:=f2 rfl;obtain⟨rfl,cJ,_,_⟩:=f3 rfl;have t9:=(f4 rfl).2.2;clear f0 f1 f2 f3 f4 aY aF aV aW;have x0:=aK.cell 0;have bY:=aK.cell 1;have bZ:=aK.cell 2;have y0:=t9.cell 0;have y1:=t9.cell 1;have y2:=t9.cell 2;clear HM HO
  go_wp2_with fail
  refine(HC.out _ _ Y qm aX).mono ?_;rintro e w8 ⟨rfl,bI⟩;have bH:=Ad aS bI;have bS:=t9.below bI t9.lt;have bW:=aK.below bI aK.lt;have bN:=aT.below bI aT.lt;have cC:=qm.later bI;have cA:=aX.later bI;have bM:=hT.later bH;clear HC aS bI t9 aK aT qm aX qh x0 bY bZ y0 y1 y2 hT;have x0:=bW.cell 0;have bY:=bW.cell 1;have bZ:=bW.cell 2;have y0:=bS.cell 0;have y1:=bS.cell 1;have y2:=bS.cell 2
  by_cases hc:rcmp mq fq<0
  ·have d:decide (rcmp mq fq<0)=true:=decide_eq_true hc
   obtain⟨rfl,rfl,rfl⟩:=hN.out hc;clear hc hN hP x0 bY bZ bW cA
   go_wp2_with fail
   refine(HA.out _ w8 bM cC).mono ?_;rintro e w9 ⟨v9,rfl,h9,bA⟩;have bP:=Ad bH bA;have bO:=bN.below bA bN.lt;have bX:=bM.later bA;clear HA bH bA bN bM y0 y1 y2 bS cC
   go_wp2_with fail
   refine(zo4 qa qb v9 w9 h9).mono ?_;rintro e cR ⟨cQ,rfl,cP,bB⟩;have bV:=Ad bP bB;have bU:=bO.below bB bO.lt;have cL:=bX.later bB;clear bP bB bO bX h9
   go_wp2_with fail
   refine(zed (zci qb) (zci qa) cQ cR cL cP ((zbZ lb).mono (by omega)) ((zbZ la).mono (by omega))).mono ?_;rintro e cV ⟨z1,z2,rfl,cE,cG,aZ⟩;have bJ:=Ad bV aZ;have aQ:=bU.below aZ bU.lt;have u0:=aQ.cell 0;have u1:=aQ.cell 1;have f0:=aQ.frozen 0;have f1:=aQ.frozen 1;have bG:=zbN bJ (g:=w.heap.size+1) (by omega) (.string z1) (.string z2);go_wp2
   refine bodyPost_ret (v := .tuple #[.agg #[.string z1,.string z2],.int .i64 (zcm (zci qb) (zci qa))]) (by simp[results,Tryz.results115,go_sem,u0,u1]) rfl ⟨z1,z2,rfl,cE,cG,bG⟩
  ·have d:decide (rcmp mq fq<0)=false:=decide_eq_false hc
   obtain⟨rfl,rfl,rfl⟩:=hP.out (by omega);clear hc hN hP y0 y1 y2 bS cC
   go_wp2_with fail
   refine(HA.out _ w8 bM cA).mono ?_;rintro e w9 ⟨v9,rfl,h9,bA⟩;have bP:=Ad bH bA;have bO:=bN.below bA bN.lt;have bX:=bM.later bA;clear HA bH bA bN bM x0 bY bZ bW cA
   go_wp2_with fail
   refine(zed _ _ v9 w9 bX h9 (la.mono (by omega)) (lb.mono (by omega))).mono ?_;rintro e cV ⟨z1,z2,rfl,cE,cG,aZ⟩;have bJ:=Ad bP aZ;have aQ:=bO.below aZ bO.lt;have u0:=aQ.cell 0;have u1:=aQ.cell 1;have f0:=aQ.frozen 0;have f1:=aQ.frozen 1;have bG:=zbN bJ (g:=w.heap.size+1) (by omega) (.string z1) (.string z2);go_wp2
   refine bodyPost_ret (v := .tuple #[.agg #[.string z1,.string z2],.int .i64 (zcm _ _)]) (by simp[results,Tryz.results115,go_sem,u0,u1]) rfl ⟨z1,z2,rfl,cE,cG,bG⟩
end Go.Proofs.YtbkgkoenppkhpaaGreatDoor
