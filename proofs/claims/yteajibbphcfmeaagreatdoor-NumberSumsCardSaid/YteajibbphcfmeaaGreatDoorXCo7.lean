/- Contracts of package number's cosine of a number. -/
import Derived.Test.YteajibbphcfmeaaGreatDoorXCo5
import Derived.Test.YteajibbphcfmeaaGreatDoorXSp7
namespace Go.Proofs.YteajibbphcfmeaaGreatDoor
open Go.RowKit Bn
def zdt:Q:=lowQ false 1 2
theorem znp (w:World) (hT:Tabs w):Calls Tryz.prog 118 #[.int .u64 1,.int .u64 2] w (zaU w zdt):=zeH 1 2 w hT (by omega) (by omega)
theorem zhq:LenQ zdt 1:=⟨Nat.le_trans (zaa (Nat.div_le_self _ _)) zbs,Nat.le_trans (zaa (Nat.div_le_self _ _)) (digs_length_le (by rw [zdf];omega))⟩
set_option maxHeartbeats 4000000 in
set_option maxRecDepth 100000 in
theorem zhm (p fq:Q) (y:ByteArray) (dec:Int) (v:Value) (w:World) (hT:Tabs w) (hv:RatS w w.heap.size v p)
  (HF:Hid (∀ v W,Tabs W→RatS W W.heap.size v p→Calls Tryz.prog 163 #[v] W (zaU W fq)))
  (HE:Hid (∀ v W,Tabs W→RatS W W.heap.size v fq→Calls Tryz.prog 164 #[v] W fun e w'=>e = .returned (.tuple #[.string y,.bool true])∧Below W.heap.size W w')) :
  Calls Tryz.prog 117 #[v,.int .i64 dec] w fun e w'=>e = .returned (.tuple #[.agg #[.string y,.string y],.int .i64 0])∧Below w.heap.size w w':=by
 obtain ⟨A1,n1,c1,A2,n2,c2,rfl,h1,h2⟩:=hv;have aA:Below w.heap.size w ((w.alloc (.cells #[.bool p.neg,.slice A1 n1 c1,.slice A2 n2 c2] 91)).alloc (.cells #[.string { data:=#[] },.string { data:=#[] }] 74)):=(((Below.refl _ _).alloc (by simp<;>omega) _).alloc (by simp<;>omega) _);have q0:CBlk ((w.alloc (.cells #[.bool p.neg,.slice A1 n1 c1,.slice A2 n2 c2] 91)).alloc (.cells #[.string { data:=#[] },.string { data:=#[] }] 74)) (w.heap.size) #[.bool p.neg,.slice A1 n1 c1,.slice A2 n2 c2] 91:=((CBlk.new _ _ _ _ (by simp)).alloc _);have q1:CBlk ((w.alloc (.cells #[.bool p.neg,.slice A1 n1 c1,.slice A2 n2 c2] 91)).alloc (.cells #[.string { data:=#[] },.string { data:=#[] }] 74)) (w.heap.size+1) #[.string { data:=#[] },.string { data:=#[] }] 74:=(CBlk.new _ _ _ _ (by simp));have aJ:=RatS.mk (q:=p) (h1.later aA) (h2.later aA);go_enter Tryz.func117,Tryz.ntmps117
 go_upto_region 1 with (fail)
 generalize ((w.alloc (.cells #[.bool p.neg,.slice A1 n1 c1,.slice A2 n2 c2] 91)).alloc (.cells #[.string { data:=#[] },.string { data:=#[] }] 74))=W at *;have a0:=q0.cell 0;have a1:=q0.cell 1;have a2:=q0.cell 2
 go_wp2_with fail
 refine (HF.out _ W (hT.later aA) aJ).mono ?_;rintro e w2 ⟨v2,rfl,⟨A3,n3,c3,A4,n4,c4,rfl,h3,h4⟩,aE⟩;have aG:Below w2.heap.size w2 (w2.alloc (.cells #[.bool fq.neg,.slice A3 n3 c3,.slice A4 n4 c4] 91)):=(Below.refl _ _).alloc (Nat.le_refl _) _;have aI:=aA.trans (aE.mono aA.size);have hB:=aI.trans (aG.mono aI.size);have aH:=(q1.below aE q1.lt).alloc (.cells #[.bool fq.neg,.slice A3 n3 c3,.slice A4 n4 c4] 91);have q6:CBlk (w2.alloc (.cells #[.bool fq.neg,.slice A3 n3 c3,.slice A4 n4 c4] 91)) w2.heap.size #[.bool fq.neg,.slice A3 n3 c3,.slice A4 n4 c4] 91:=CBlk.new _ _ _ _ rfl;have hf:=(RatS.mk (q:=fq) h3 h4).later aG;clear q0 q1 aA aE aI h1 h2 aG h3 h4 aJ a0 a1 a2 HF;go_upto_region 2 with (fail)
 generalize (w2.alloc (.cells #[.bool fq.neg,.slice A3 n3 c3,.slice A4 n4 c4] 91))=w3 at *;have a0:=q6.cell 0;have a1:=q6.cell 1;have a2:=q6.cell 2
 go_wp2_with fail
 refine (HE.out _ w3 (hT.later hB) hf).mono ?_;rintro e w4 ⟨rfl,aC⟩;have aK:=hB.trans (aC.mono hB.size);have aD:=aH.below aC aH.lt;have aN:=q6.below aC q6.lt;have aO:=hf.later aC;clear a0 a1 a2 HE hB aC aH q6 hf;have z0:=aD.cell 0;have z1:=aD.cell 1;have aL:=aD.frozen 0;have aM:=aD.frozen 1;have aF:=zbO aK (g:=w.heap.size+1) (by omega) (.string y) (.string y);go_wp2
 refine bodyPost_ret (v := .tuple #[.agg #[.string y,.string y],.int .i64 0]) (by simp [results,Tryz.results117,go_sem,z0,z1]) rfl ⟨rfl,aF⟩
set_option maxHeartbeats 8000000 in
set_option maxRecDepth 100000 in
theorem zfq (p fq mq tq qa qb x1 x2:Q) (dec:Int) (v:Value) (w:World) (hT:Tabs w) (hv:RatS w w.heap.size v p) (lfq:LenQ fq 33554432) (la:LenQ qa 33554432) (lb:LenQ qb 33554432)
  (hmq:Hid (mq=zaZ zdt fq))
  (hN:Hid (rcmp mq fq<0→tq=mq∧x1=zbQ qb∧x2=zbQ qa)) (hP:Hid (0≤rcmp mq fq→tq=fq∧x1=qa∧x2=qb))
  (HF:Hid (∀ v W,Tabs W→RatS W W.heap.size v p→Calls Tryz.prog 163 #[v] W (zaU W fq)))
  (HE:Hid (∀ v W,Tabs W→RatS W W.heap.size v fq→Calls Tryz.prog 164 #[v] W fun e w'=>e = .returned (.tuple #[.string { data:=#[] },.bool false])∧Below W.heap.size W w'))
  (HA:Hid (∀ v W,Tabs W→RatS W W.heap.size v tq→Calls Tryz.prog 165 #[v,.int .i64 dec] W (zb7 W qa qb))) :
  Calls Tryz.prog 117 #[v,.int .i64 dec] w (zdj w (zec x1 x2) (zeh x1 x2) (zcq x1 x2)):=by
 obtain ⟨A1,n1,c1,A2,n2,c2,rfl,h1,h2⟩:=hv;have bQ:Below w.heap.size w ((w.alloc (.cells #[.bool p.neg,.slice A1 n1 c1,.slice A2 n2 c2] 91)).alloc (.cells #[.string { data:=#[] },.string { data:=#[] }] 74)):=(((Below.refl _ _).alloc (by simp<;>omega) _).alloc (by simp<;>omega) _);have q0:CBlk ((w.alloc (.cells #[.bool p.neg,.slice A1 n1 c1,.slice A2 n2 c2] 91)).alloc (.cells #[.string { data:=#[] },.string { data:=#[] }] 74)) (w.heap.size) #[.bool p.neg,.slice A1 n1 c1,.slice A2 n2 c2] 91:=((CBlk.new _ _ _ _ (by simp)).alloc _);have q1:CBlk ((w.alloc (.cells #[.bool p.neg,.slice A1 n1 c1,.slice A2 n2 c2] 91)).alloc (.cells #[.string { data:=#[] },.string { data:=#[] }] 74)) (w.heap.size+1) #[.string { data:=#[] },.string { data:=#[] }] 74:=(CBlk.new _ _ _ _ (by simp));have cN:=RatS.mk (q:=p) (h1.later bQ) (h2.later bQ);go_enter Tryz.func117,Tryz.ntmps117
 go_upto_region 1 with (fail)
 generalize ((w.alloc (.cells #[.bool p.neg,.slice A1 n1 c1,.slice A2 n2 c2] 91)).alloc (.cells #[.string { data:=#[] },.string { data:=#[] }] 74))=W at *;have a0:=q0.cell 0;have a1:=q0.cell 1;have a2:=q0.cell 2
 go_wp2_with fail
 refine (HF.out _ W (hT.later bQ) cN).mono ?_;rintro e w2 ⟨v2,rfl,⟨A3,n3,c3,A4,n4,c4,rfl,h3,h4⟩,cA⟩;have cM:Below w2.heap.size w2 (w2.alloc (.cells #[.bool fq.neg,.slice A3 n3 c3,.slice A4 n4 c4] 91)):=(Below.refl _ _).alloc (Nat.le_refl _) _;have cE:=bQ.trans (cA.mono bQ.size);have hB:=cE.trans (cM.mono cE.size);have cI:=(q1.below cA q1.lt).alloc (.cells #[.bool fq.neg,.slice A3 n3 c3,.slice A4 n4 c4] 91);have q6:CBlk (w2.alloc (.cells #[.bool fq.neg,.slice A3 n3 c3,.slice A4 n4 c4] 91)) w2.heap.size #[.bool fq.neg,.slice A3 n3 c3,.slice A4 n4 c4] 91:=CBlk.new _ _ _ _ rfl;have hf:=(RatS.mk (q:=fq) h3 h4).later cM;clear q0 q1 bQ cA cE h1 h2 cM h3 h4 cN a0 a1 a2 HF;go_upto_region 2 with (fail)
 generalize (w2.alloc (.cells #[.bool fq.neg,.slice A3 n3 c3,.slice A4 n4 c4] 91))=w3 at *;have a0:=q6.cell 0;have a1:=q6.cell 1;have a2:=q6.cell 2
 go_wp2_with fail
 refine (HE.out _ w3 (hT.later hB) hf).mono ?_;rintro e w4 ⟨rfl,bV⟩;have aS:=hB.trans (bV.mono hB.size);have aT:=cI.below bV cI.lt;have aK:=q6.below bV q6.lt;have aX:=hf.later bV;clear a0 a1 a2 HE hB bV cI q6 hf;have cO:LenQ mq 134217728:=by rw [hmq.out];exact (zbl zhq (zbE lfq)).mono (by omega)
 have HM:=Lib.hid (fun v u W hT h2 h3=>(show Calls _ _ _ _ (zaU W mq) from by rw [hmq.out];exact zcz zdt fq v u W hT h2 h3 (zhq.mono (by omega)) (lfq.mono (by omega))));have HO:=Lib.hid znp;have HC:=Lib.hid (fun v u W h1 h2=>zbe mq fq v u W h1 h2 (cO.mono (by omega)) (lfq.mono (by omega)));clear cO lfq hmq
 go_wp2_with fail
 obtain ⟨G5,bT⟩:∃ g,g=w4.heap.size:=⟨_,rfl⟩;have cR:w.heap.size≤G5:=by rw [bT];exact aS.size
 have aW:w.heap.size+1<G5:=by rw [bT];exact aT.lt
 have aV:w2.heap.size<G5:=by rw [bT];exact aK.lt
 obtain ⟨cG,bD⟩:∃ I:Array Bool→Act→World→Prop,I=(fun aU ac W=>∃ (b0 b1 b2 b3 b4:Bool) (bE bL bH u9:Value) (aR:Option Addr) (aQ aP:Nat) (aE:Option Addr) (aG aH:Nat) (aN:Option Addr) (aL aM:Nat) (aD:Option Addr) (aA aC:Nat) (aI:Nat),aU=#[b0,b1,b2,b3,b4]∧ac={ tmps:=#[.agg #[.bool p.neg,.slice A1 n1 c1,.slice A2 n2 c2],.int .i64 dec,.pointer (some ⟨w.heap.size,0,none⟩),undef,.pointer (some ⟨w.heap.size+1,0,none⟩),.int .i64 0,.pointer (some ⟨w2.heap.size,0,none⟩),.string { data:=#[] },.bool false,u9,.agg #[.bool p.neg,.slice A1 n1 c1,.slice A2 n2 c2],.agg #[.bool fq.neg,.slice A3 n3 c3,.slice A4 n4 c4],.tuple #[.string { data:=#[] },.bool false],.agg #[.bool fq.neg,.slice A3 n3 c3,.slice A4 n4 c4],.tuple #[.string { data:=#[] },.bool false],.string { data:=#[] },.bool false,.bool false,undef,undef,undef,bE,bL,bH,undef,undef,undef,undef,undef,undef,undef,undef,undef,undef,undef,undef,undef,undef,undef,undef,undef],defers:=[] }∧G5≤W.heap.size∧Below w.heap.size w W∧CBlk W (w.heap.size+1) #[.string { data:=#[] },.string { data:=#[] }] 74∧CBlk W (w2.heap.size) #[.bool fq.neg,.slice A3 n3 c3,.slice A4 n4 c4] 91∧RatS W W.heap.size (.agg #[.bool fq.neg,.slice A3 n3 c3,.slice A4 n4 c4]) fq∧(b0=true→bE = .agg #[.bool zdt.neg,.slice aR aQ aP,.slice aE aG aH]∧RatS W W.heap.size (.agg #[.bool zdt.neg,.slice aR aQ aP,.slice aE aG aH]) ⟨zdt.neg,zdt.top,zdt.bot⟩)∧(b1=true→bL = .agg #[.bool fq.neg,.slice A3 n3 c3,.slice A4 n4 c4])∧(b2=true→bH = .agg #[.bool mq.neg,.slice aN aL aM,.slice aD aA aC]∧RatS W W.heap.size (.agg #[.bool mq.neg,.slice aN aL aM,.slice aD aA aC]) ⟨mq.neg,mq.top,mq.bot⟩)∧(b3=true→u9 = .pointer (some ⟨aI,0,none⟩)∧G5≤aI∧aI<W.heap.size∧(b4=false→CBlk W aI #[.bool false,.slice none 0 0,.slice none 0 0] 91))∧(b4=true→b3=true∧b2=true∧CBlk W aI #[.bool mq.neg,.slice aN aL aM,.slice aD aA aC] 91)):=⟨_,rfl⟩;have aF:=Lib.hid bD;clear bD;refine zby (by kernel_rfl) cG (by kernel_rfl) ?_ ?_ ?_
 ·rw [aF.out]
  exact ⟨false,false,false,false,false,undef,undef,undef,undef,none,0,0,none,0,0,none,0,0,none,0,0,0,rfl,rfl,(by rw [bT];exact Nat.le_refl _),aS.drew,aT.drew,aK.drew,(aX.later (Below.drew (Below.refl _ _))),(fun h=>by cases h),(fun h=>by cases h),(fun h=>by cases h),(fun h=>by cases h),(fun h=>by cases h)⟩
 ·intro i op aU ac W ho hI hl aJ
  rw [aF.out] at hI;obtain ⟨b0,b1,b2,b3,b4,bE,bL,bH,u9,aR,aQ,aP,aE,aG,aH,aN,aL,aM,aD,aA,aC,aI,rfl,rfl,bG,aS,aT,aK,aX,f0,f1,f2,f3,f4⟩:=hI;clear bT
  match i,ho,hl,aJ with
  | 0,ho,hl,aJ=>
   have bB:b0=false:=Option.some.inj hl;obtain rfl:=Option.some.inj ho;refine zap ho fun K' hK => ?_
   go_simp
   go_at_call 118
   refine (HO.out W (hT.later aS)).mono ?_;rintro e W1 ⟨v0,rfl,⟨A,n,c,A',n',c',rfl,kt,kb⟩,hb⟩;refine hK.out _ _ ?_;rw [aF.out];exact ⟨true,b1,b2,b3,b4,(.agg #[.bool zdt.neg,.slice A n c,.slice A' n' c']),bL,bH,u9,A,n,c,A',n',c',aN,aL,aM,aD,aA,aC,aI,rfl,rfl,(Nat.le_trans bG hb.size),(aS.trans (hb.mono aS.size)),(aT.below hb aT.lt),(aK.below hb aK.lt),(aX.later hb),(fun _=>⟨rfl,⟨A,n,c,A',n',c',rfl,kt,kb⟩⟩),f1,(fun h=>⟨(f2 h).1,(f2 h).2.later hb⟩),(fun h=>⟨(f3 h).1,(f3 h).2.1,Nat.lt_of_lt_of_le (f3 h).2.2.1 hb.size,fun h2=>((f3 h).2.2.2 h2).below hb (f3 h).2.2.1⟩),(fun h=>⟨(f4 h).1,(f4 h).2.1,(f4 h).2.2.below hb (f4 h).2.2.lt⟩)⟩
  | 1,ho,hl,aJ=>
   have bB:b1=false:=Option.some.inj hl;obtain rfl:=Option.some.inj ho;refine zap ho fun K' hK => ?_
   have x0:=aK.cell 0;have x1:=aK.cell 1;have x2:=aK.cell 2
   go_simp
   refine hK.out _ _ ?_;rw [aF.out];exact ⟨b0,true,b2,b3,b4,bE,(.agg #[.bool fq.neg,.slice A3 n3 c3,.slice A4 n4 c4]),bH,u9,aR,aQ,aP,aE,aG,aH,aN,aL,aM,aD,aA,aC,aI,rfl,rfl,bG,aS,aT,aK,aX,f0,(fun _=>rfl),f2,f3,f4⟩
  | 2,ho,hl,aJ=>
   have bB:b2=false:=Option.some.inj hl;obtain rfl:=Option.some.inj ho;have e0:b0=true:=aJ ⟨0,.data⟩ (by simp) rfl;obtain ⟨rfl,cQ⟩:=f0 e0;have e1:b1=true:=aJ ⟨1,.data⟩ (by simp) rfl;obtain rfl:=f1 e1;refine zap ho fun K' hK => ?_
   go_simp
   go_at_call 67
   refine (HM.out _ _ W (hT.later aS) cQ aX).mono ?_;rintro e W1 ⟨v0,rfl,⟨A,n,c,A',n',c',rfl,kt,kb⟩,hb⟩;refine hK.out _ _ ?_;rw [aF.out];exact ⟨b0,b1,true,b3,b4,(.agg #[.bool zdt.neg,.slice aR aQ aP,.slice aE aG aH]),(.agg #[.bool fq.neg,.slice A3 n3 c3,.slice A4 n4 c4]),(.agg #[.bool mq.neg,.slice A n c,.slice A' n' c']),u9,aR,aQ,aP,aE,aG,aH,A,n,c,A',n',c',aI,rfl,rfl,(Nat.le_trans bG hb.size),(aS.trans (hb.mono aS.size)),(aT.below hb aT.lt),(aK.below hb aK.lt),(aX.later hb),(fun h=>⟨(f0 h).1,(f0 h).2.later hb⟩),f1,(fun _=>⟨rfl,⟨A,n,c,A',n',c',rfl,kt,kb⟩⟩),(fun h=>⟨(f3 h).1,(f3 h).2.1,Nat.lt_of_lt_of_le (f3 h).2.2.1 hb.size,fun h2=>((f3 h).2.2.2 h2).below hb (f3 h).2.2.1⟩),(fun h=>by rw [(f4 h).2.1] at bB;cases bB)⟩
  | 3,ho,hl,aJ=>
   have bB:b3=false:=Option.some.inj hl;obtain rfl:=Option.some.inj ho;refine zap ho fun K' hK => ?_
   have hb:Below W.heap.size W (W.alloc (.cells #[.bool false,.slice none 0 0,.slice none 0 0] 91)):=(Below.refl _ _).alloc (Nat.le_refl _) _
   go_simp
   refine hK.out _ _ ?_;rw [aF.out];exact ⟨b0,b1,b2,true,b4,bE,bL,bH,(.pointer (some ⟨W.heap.size,0,none⟩)),aR,aQ,aP,aE,aG,aH,aN,aL,aM,aD,aA,aC,W.heap.size,rfl,rfl,(Nat.le_trans bG hb.size),(aS.trans (hb.mono aS.size)),(aT.below hb aT.lt),(aK.below hb aK.lt),(aX.later hb),(fun h=>⟨(f0 h).1,(f0 h).2.later hb⟩),f1,(fun h=>⟨(f2 h).1,(f2 h).2.later hb⟩),(fun _=>⟨rfl,bG,by simp,fun _=>CBlk.new W _ _ _ rfl⟩),(fun h=>by rw [(f4 h).1] at bB;cases bB)⟩
  | 4,ho,hl,aJ=>
   have bB:b4=false:=Option.some.inj hl;obtain rfl:=Option.some.inj ho;have e3:b3=true:=aJ ⟨3,.data⟩ (by simp) rfl;obtain ⟨rfl,cB,cY,cV⟩:=f3 e3;have e2:b2=true:=aJ ⟨2,.data⟩ (by simp) rfl;obtain ⟨rfl,cW⟩:=f2 e2;refine zap ho fun K' hK => ?_
   have hz:=cV bB;have z0:=hz.cell 0;have z1:=hz.cell 1;have z2:=hz.cell 2;have dB:=hz.frozen 0;have cZ:=hz.frozen 1;have dA:=hz.frozen 2
   go_simp
   refine hK.out _ _ ?_;rw [aF.out];exact ⟨b0,b1,b2,b3,true,bE,bL,(.agg #[.bool mq.neg,.slice aN aL aM,.slice aD aA aC]),(.pointer (some ⟨aI,0,none⟩)),aR,aQ,aP,aE,aG,aH,aN,aL,aM,aD,aA,aC,aI,rfl,rfl,(by rw [zah];exact bG),(zan aS (Nat.le_trans cR cB) _ _ _),(aT.far3 (Nat.ne_of_gt (Nat.lt_of_lt_of_le aW cB)) _ _ _),(aK.far3 (Nat.ne_of_gt (Nat.lt_of_lt_of_le aV cB)) _ _ _),(aX.res3 hz _ _ _ _ _ _ _),(fun h=>⟨(f0 h).1,(f0 h).2.res3 hz _ _ _ _ _ _ _⟩),f1,(fun h=>⟨(f2 h).1,(f2 h).2.res3 hz _ _ _ _ _ _ _⟩),(fun h=>⟨(f3 h).1,(f3 h).2.1,by rw [zah];exact (f3 h).2.2.1,fun h2=>by cases h2⟩),(fun _=>⟨e3,e2,hz.set3 _ _ _⟩)⟩
  | n+5,ho,hl,aJ=>exact absurd ho (by simp)
 ·intro aU ac Y hI aY
  rw [aF.out] at hI;clear aS aT aK aX;obtain ⟨b0,b1,b2,b3,b4,bE,bL,bH,u9,aR,aQ,aP,aE,aG,aH,aN,aL,aM,aD,aA,aC,aI,rfl,rfl,bG,aS,aT,aK,aX,f0,f1,f2,f3,f4⟩:=hI;have e0:b0=true:=aY 0 b0 (by decide) rfl;have e1:b1=true:=aY 1 b1 (by decide) rfl;have e2:b2=true:=aY 2 b2 (by decide) rfl;have e3:b3=true:=aY 3 b3 (by decide) rfl;have e4:b4=true:=aY 4 b4 (by decide) rfl;subst e0;subst e1;subst e2;subst e3;subst e4;obtain ⟨rfl,qh⟩:=f0 rfl;obtain rfl:=f1 rfl;obtain ⟨rfl,qm⟩:=f2 rfl;obtain ⟨rfl,cJ,_,_⟩:=f3 rfl;have t9:=(f4 rfl).2.2;clear f0 f1 f2 f3 f4 aY aF aW aV;have x0:=aK.cell 0;have bX:=aK.cell 1;have bY:=aK.cell 2;have y0:=t9.cell 0;have y1:=t9.cell 1;have y2:=t9.cell 2;clear HM HO
  go_wp2_with fail
  refine (HC.out _ _ Y qm aX).mono ?_;rintro e w8 ⟨rfl,bK⟩;have bF:=aS.trans (bK.mono aS.size);have bS:=t9.below bK t9.lt;have bU:=aK.below bK aK.lt;have bN:=aT.below bK aT.lt;have cF:=qm.later bK;have cC:=aX.later bK;have bP:=hT.later bF;clear HC aS bK t9 aK aT qm aX qh x0 bX bY y0 y1 y2 hT;have x0:=bU.cell 0;have bX:=bU.cell 1;have bY:=bU.cell 2;have y0:=bS.cell 0;have y1:=bS.cell 1;have y2:=bS.cell 2
  by_cases hc:rcmp mq fq<0
  ·have d:decide (rcmp mq fq<0)=true:=decide_eq_true hc
   obtain ⟨rfl,rfl,rfl⟩:=hN.out hc;clear hc hN hP x0 bX bY bU cC
   go_wp2_with fail
   refine (HA.out _ w8 bP cF).mono ?_;rintro e w9 ⟨v9,rfl,h9,bC⟩;have bO:=bF.trans (bC.mono bF.size);have bM:=bN.below bC bN.lt;have bZ:=bP.later bC;clear HA bF bC bN bP y0 y1 y2 bS cF
   go_wp2_with fail
   refine (znr qa qb v9 w9 h9).mono ?_;rintro e cP ⟨cS,rfl,cT,bA⟩;have bR:=bO.trans (bA.mono bO.size);have bW:=bM.below bA bM.lt;have cL:=bZ.later bA;clear bO bA bM bZ h9
   go_wp2_with fail
   refine (zdF (zbQ qb) (zbQ qa) cS cP cL cT ((zbE lb).mono (by omega)) ((zbE la).mono (by omega))).mono ?_;rintro e cU ⟨z1,z2,rfl,cH,cK,aZ⟩;have bJ:=bR.trans (aZ.mono bR.size);have aO:=bW.below aZ bW.lt;have u0:=aO.cell 0;have u1:=aO.cell 1;have f0:=aO.frozen 0;have f1:=aO.frozen 1;have bI:=zbO bJ (g:=w.heap.size+1) (by omega) (.string z1) (.string z2);go_wp2
   refine bodyPost_ret (v := .tuple #[.agg #[.string z1,.string z2],.int .i64 (zcq (zbQ qb) (zbQ qa))]) (by simp [results,Tryz.results117,go_sem,u0,u1]) rfl ⟨z1,z2,rfl,cH,cK,bI⟩
  ·have d:decide (rcmp mq fq<0)=false:=decide_eq_false hc
   obtain ⟨rfl,rfl,rfl⟩:=hP.out (by omega);clear hc hN hP y0 y1 y2 bS cF
   go_wp2_with fail
   refine (HA.out _ w8 bP cC).mono ?_;rintro e w9 ⟨v9,rfl,h9,bC⟩;have bO:=bF.trans (bC.mono bF.size);have bM:=bN.below bC bN.lt;have bZ:=bP.later bC;clear HA bF bC bN bP x0 bX bY bU cC
   go_wp2_with fail
   refine (zdF _ _ v9 w9 bZ h9 (la.mono (by omega)) (lb.mono (by omega))).mono ?_;rintro e cU ⟨z1,z2,rfl,cH,cK,aZ⟩;have bJ:=bO.trans (aZ.mono bO.size);have aO:=bM.below aZ bM.lt;have u0:=aO.cell 0;have u1:=aO.cell 1;have f0:=aO.frozen 0;have f1:=aO.frozen 1;have bI:=zbO bJ (g:=w.heap.size+1) (by omega) (.string z1) (.string z2);go_wp2
   refine bodyPost_ret (v := .tuple #[.agg #[.string z1,.string z2],.int .i64 (zcq _ _)]) (by simp [results,Tryz.results117,go_sem,u0,u1]) rfl ⟨z1,z2,rfl,cH,cK,bI⟩
end Go.Proofs.YteajibbphcfmeaaGreatDoor
