/- Contracts of package number's cosine of a number. -/
import Derived.Test.YtmkondcdejlhcaaGreatDoorBCo5
import Derived.Test.YtmkondcdejlhcaaGreatDoorBSp7
set_option maxRecDepth 100000
set_option maxHeartbeats 8000000
namespace Go.Proofs.YtmkondcdejlhcaaGreatDoor
open Go.RowKit Bn
def zec:Q:=lowQ false 1 2
theorem zpz (w:World) (hT:Tabs w):Calls Tryz.prog 103 #[.int .u64 1,.int .u64 2] w (za4 w zec):=zf1 1 2 w hT (by omega) (by omega)
theorem ziG:LenQ zec 1:=⟨Nat.le_trans (zaa (Nat.div_le_self _ _)) zbL,Nat.le_trans (zaa (Nat.div_le_self _ _)) (digs_length_le (by rw [B_def];omega))⟩
theorem zjH (p fq:Q) (y:ByteArray) (dec:Int) (v:Value) (w:World) (hT:Tabs w) (hv:RatS w w.heap.size v p)
  (HF:Hid (∀ v W,Tabs W→RatS W W.heap.size v p→Calls Tryz.prog 150 #[v] W (za4 W fq)))
  (HE:Hid (∀ v W,Tabs W→RatS W W.heap.size v fq→Calls Tryz.prog 151 #[v] W fun e w'=>e = .returned (.tuple #[.string y,.bool true])∧Below W.heap.size W w')) :
  Calls Tryz.prog 102 #[v,.int .i64 dec] w fun e w'=>e = .returned (.tuple #[.agg #[.string y,.string y],.int .i64 0])∧Below w.heap.size w w':=by
 obtain ⟨A1,n1,c1,A2,n2,c2,rfl,h1,h2⟩:=hv;have aA:Below w.heap.size w ((w.alloc (.cells #[.bool p.neg,.slice A1 n1 c1,.slice A2 n2 c2] 91)).alloc (.cells #[.string ⟨#[]⟩,.string ⟨#[]⟩] 39)):=(((Below.refl _ _).alloc (by simp<;>omega) _).alloc (by simp<;>omega) _);have q0:CBlk ((w.alloc (.cells #[.bool p.neg,.slice A1 n1 c1,.slice A2 n2 c2] 91)).alloc (.cells #[.string ⟨#[]⟩,.string ⟨#[]⟩] 39)) (w.heap.size) #[.bool p.neg,.slice A1 n1 c1,.slice A2 n2 c2] 91:=((CBlk.new _ _ _ _ (by simp)).alloc _);have q1:CBlk ((w.alloc (.cells #[.bool p.neg,.slice A1 n1 c1,.slice A2 n2 c2] 91)).alloc (.cells #[.string ⟨#[]⟩,.string ⟨#[]⟩] 39)) (w.heap.size+1) #[.string ⟨#[]⟩,.string ⟨#[]⟩] 39:=(CBlk.new _ _ _ _ (by simp));have aJ:=RatS.mk (q:=p) (h1.later aA) (h2.later aA);go_enter Tryz.func102,Tryz.ntmps102
 go_upto_region 1 with (fail)
 generalize ((w.alloc (.cells #[.bool p.neg,.slice A1 n1 c1,.slice A2 n2 c2] 91)).alloc (.cells #[.string ⟨#[]⟩,.string ⟨#[]⟩] 39))=W at *;have a0:=q0.cell 0;have a1:=q0.cell 1;have a2:=q0.cell 2
 go_wp2_with fail
 refine (HF.out _ W (hT.later aA) aJ).mono ?_;rintro e w2 ⟨v2,rfl,⟨A3,n3,c3,A4,n4,c4,rfl,h3,h4⟩,aH⟩;have aE:Below w2.heap.size w2 (w2.alloc (.cells #[.bool fq.neg,.slice A3 n3 c3,.slice A4 n4 c4] 91)):=Ac;have aG:=Ad aA aH;have hB:=Ad aG aE;have aF:=(q1.below aH q1.lt).alloc (.cells #[.bool fq.neg,.slice A3 n3 c3,.slice A4 n4 c4] 91);have q6:CBlk (w2.alloc (.cells #[.bool fq.neg,.slice A3 n3 c3,.slice A4 n4 c4] 91)) w2.heap.size #[.bool fq.neg,.slice A3 n3 c3,.slice A4 n4 c4] 91:=CBlk.new _ _ _ _ rfl;have hf:=(RatS.mk (q:=fq) h3 h4).later aE;clear q0 q1 aA aH aG h1 h2 aE h3 h4 aJ a0 a1 a2 HF;go_upto_region 2 with (fail)
 generalize (w2.alloc (.cells #[.bool fq.neg,.slice A3 n3 c3,.slice A4 n4 c4] 91))=w3 at *;have a0:=q6.cell 0;have a1:=q6.cell 1;have a2:=q6.cell 2
 go_wp2_with fail
 refine (HE.out _ w3 (hT.later hB) hf).mono ?_;rintro e w4 ⟨rfl,aC⟩;have aK:=Ad hB aC;have aD:=aF.below aC aF.lt;have aM:=q6.below aC q6.lt;have aN:=hf.later aC;clear a0 a1 a2 HE hB aC aF q6 hf;have z0:=aD.cell 0;have z1:=aD.cell 1;have aL:=aD.frozen 0;have aO:=aD.frozen 1;have aI:=zbH aK (g:=w.heap.size+1) (by omega) (.string y) (.string y);go_wp2
 refine bodyPost_ret (v := .tuple #[.agg #[.string y,.string y],.int .i64 0]) (by simp [results,Tryz.results102,go_sem,z0,z1]) rfl ⟨rfl,aI⟩
theorem zgD (p fq mq tq qa qb x1 x2:Q) (dec:Int) (v:Value) (w:World) (hT:Tabs w) (hv:RatS w w.heap.size v p) (lfq:LenQ fq 33554432) (la:LenQ qa 33554432) (lb:LenQ qb 33554432)
  (hmq:Hid (mq=za5 zec fq))
  (hN:Hid (rcmp mq fq<0→tq=mq∧x1=zca qb∧x2=zca qa)) (hP:Hid (0≤rcmp mq fq→tq=fq∧x1=qa∧x2=qb))
  (HF:Hid (∀ v W,Tabs W→RatS W W.heap.size v p→Calls Tryz.prog 150 #[v] W (za4 W fq)))
  (HE:Hid (∀ v W,Tabs W→RatS W W.heap.size v fq→Calls Tryz.prog 151 #[v] W fun e w'=>e = .returned (.tuple #[.string ⟨#[]⟩,.bool false])∧Below W.heap.size W w'))
  (HA:Hid (∀ v W,Tabs W→RatS W W.heap.size v tq→Calls Tryz.prog 152 #[v,.int .i64 dec] W (zb5 W qa qb))) :
  Calls Tryz.prog 102 #[v,.int .i64 dec] w (zde w (zd6 x1 x2) (zd5 x1 x2) (zcj x1 x2)):=by
 obtain ⟨A1,n1,c1,A2,n2,c2,rfl,h1,h2⟩:=hv;have bQ:Below w.heap.size w ((w.alloc (.cells #[.bool p.neg,.slice A1 n1 c1,.slice A2 n2 c2] 91)).alloc (.cells #[.string ⟨#[]⟩,.string ⟨#[]⟩] 39)):=(((Below.refl _ _).alloc (by simp<;>omega) _).alloc (by simp<;>omega) _);have q0:CBlk ((w.alloc (.cells #[.bool p.neg,.slice A1 n1 c1,.slice A2 n2 c2] 91)).alloc (.cells #[.string ⟨#[]⟩,.string ⟨#[]⟩] 39)) (w.heap.size) #[.bool p.neg,.slice A1 n1 c1,.slice A2 n2 c2] 91:=((CBlk.new _ _ _ _ (by simp)).alloc _);have q1:CBlk ((w.alloc (.cells #[.bool p.neg,.slice A1 n1 c1,.slice A2 n2 c2] 91)).alloc (.cells #[.string ⟨#[]⟩,.string ⟨#[]⟩] 39)) (w.heap.size+1) #[.string ⟨#[]⟩,.string ⟨#[]⟩] 39:=(CBlk.new _ _ _ _ (by simp));have cS:=RatS.mk (q:=p) (h1.later bQ) (h2.later bQ);go_enter Tryz.func102,Tryz.ntmps102
 go_upto_region 1 with (fail)
 generalize ((w.alloc (.cells #[.bool p.neg,.slice A1 n1 c1,.slice A2 n2 c2] 91)).alloc (.cells #[.string ⟨#[]⟩,.string ⟨#[]⟩] 39))=W at *;have a0:=q0.cell 0;have a1:=q0.cell 1;have a2:=q0.cell 2
 go_wp2_with fail
 refine (HF.out _ W (hT.later bQ) cS).mono ?_;rintro e w2 ⟨v2,rfl,⟨A3,n3,c3,A4,n4,c4,rfl,h3,h4⟩,cO⟩;have cP:Below w2.heap.size w2 (w2.alloc (.cells #[.bool fq.neg,.slice A3 n3 c3,.slice A4 n4 c4] 91)):=Ac;have cF:=Ad bQ cO;have hB:=Ad cF cP;have cI:=(q1.below cO q1.lt).alloc (.cells #[.bool fq.neg,.slice A3 n3 c3,.slice A4 n4 c4] 91);have q6:CBlk (w2.alloc (.cells #[.bool fq.neg,.slice A3 n3 c3,.slice A4 n4 c4] 91)) w2.heap.size #[.bool fq.neg,.slice A3 n3 c3,.slice A4 n4 c4] 91:=CBlk.new _ _ _ _ rfl;have hf:=(RatS.mk (q:=fq) h3 h4).later cP;clear q0 q1 bQ cO cF h1 h2 cP h3 h4 cS a0 a1 a2 HF;go_upto_region 2 with (fail)
 generalize (w2.alloc (.cells #[.bool fq.neg,.slice A3 n3 c3,.slice A4 n4 c4] 91))=w3 at *;have a0:=q6.cell 0;have a1:=q6.cell 1;have a2:=q6.cell 2
 go_wp2_with fail
 refine (HE.out _ w3 (hT.later hB) hf).mono ?_;rintro e w4 ⟨rfl,bZ⟩;have aS:=Ad hB bZ;have aT:=cI.below bZ cI.lt;have aK:=q6.below bZ q6.lt;have bA:=hf.later bZ;clear a0 a1 a2 HE hB bZ cI q6 hf;have cR:LenQ mq 134217728:=by rw [hmq.out];exact (zbj ziG (zb2 lfq)).mono (by omega)
 have HM:=Aa (fun v u W hT h2 h3=>(show Calls _ _ _ _ (za4 W mq) from by rw [hmq.out];exact zc8 zec fq v u W hT h2 h3 (ziG.mono (by omega)) (lfq.mono (by omega))));have HO:=Aa zpz;have HC:=Aa (fun v u W h1 h2=>zbx mq fq v u W h1 h2 (cR.mono (by omega)) (lfq.mono (by omega)));clear cR lfq hmq
 go_wp2_with fail
 obtain ⟨G5,cA⟩:∃ g,g=w4.heap.size:=⟨_,rfl⟩;have cY:w.heap.size≤G5:=by rw [cA];exact aS.size
 have aV:w.heap.size+1<G5:=by rw [cA];exact aT.lt
 have aW:w2.heap.size<G5:=by rw [cA];exact aK.lt
 obtain ⟨cG,bF⟩:∃ I:Array Bool→Act→World→Prop,I=(fun aU ac W=>∃ (b0 b1 b2 b3 b4:Bool) (bK bG bI u9:Value) (aR:Option Addr) (aO aQ:Nat) (aH:Option Addr) (aE aG:Nat) (aM:Option Addr) (aL aN:Nat) (aC:Option Addr) (aA aD:Nat) (aI:Nat),aU=#[b0,b1,b2,b3,b4]∧ac={ tmps:=#[.agg #[.bool p.neg,.slice A1 n1 c1,.slice A2 n2 c2],.int .i64 dec,.pointer (some ⟨w.heap.size,0,none⟩),undef,.pointer (some ⟨w.heap.size+1,0,none⟩),.int .i64 0,.pointer (some ⟨w2.heap.size,0,none⟩),.string ⟨#[]⟩,.bool false,u9,.agg #[.bool p.neg,.slice A1 n1 c1,.slice A2 n2 c2],.agg #[.bool fq.neg,.slice A3 n3 c3,.slice A4 n4 c4],.tuple #[.string ⟨#[]⟩,.bool false],.agg #[.bool fq.neg,.slice A3 n3 c3,.slice A4 n4 c4],.tuple #[.string ⟨#[]⟩,.bool false],.string ⟨#[]⟩,.bool false,.bool false,undef,undef,undef,bK,bG,bI,undef,undef,undef,undef,undef,undef,undef,undef,undef,undef,undef,undef,undef,undef,undef,undef,undef],defers:=[] }∧G5≤W.heap.size∧Below w.heap.size w W∧CBlk W (w.heap.size+1) #[.string ⟨#[]⟩,.string ⟨#[]⟩] 39∧CBlk W (w2.heap.size) #[.bool fq.neg,.slice A3 n3 c3,.slice A4 n4 c4] 91∧RatS W W.heap.size (.agg #[.bool fq.neg,.slice A3 n3 c3,.slice A4 n4 c4]) fq∧(b0=true→bK = .agg #[.bool zec.neg,.slice aR aO aQ,.slice aH aE aG]∧RatS W W.heap.size (.agg #[.bool zec.neg,.slice aR aO aQ,.slice aH aE aG]) ⟨zec.neg,zec.top,zec.bot⟩)∧(b1=true→bG = .agg #[.bool fq.neg,.slice A3 n3 c3,.slice A4 n4 c4])∧(b2=true→bI = .agg #[.bool mq.neg,.slice aM aL aN,.slice aC aA aD]∧RatS W W.heap.size (.agg #[.bool mq.neg,.slice aM aL aN,.slice aC aA aD]) ⟨mq.neg,mq.top,mq.bot⟩)∧(b3=true→u9 = .pointer (some ⟨aI,0,none⟩)∧G5≤aI∧aI<W.heap.size∧(b4=false→CBlk W aI #[.bool false,.slice none 0 0,.slice none 0 0] 91))∧(b4=true→b3=true∧b2=true∧CBlk W aI #[.bool mq.neg,.slice aM aL aN,.slice aC aA aD] 91)):=⟨_,rfl⟩;have aF:=Aa bF;clear bF;refine zbQ (by kernel_rfl) cG (by kernel_rfl) ?_ ?_ ?_
 ·rw [aF.out]
  exact ⟨false,false,false,false,false,undef,undef,undef,undef,none,0,0,none,0,0,none,0,0,none,0,0,0,rfl,rfl,(by rw [cA];exact Nat.le_refl _),aS.drew,aT.drew,aK.drew,(bA.later (Below.drew (Below.refl _ _))),(fun h=>by cases h),(fun h=>by cases h),(fun h=>by cases h),(fun h=>by cases h),(fun h=>by cases h)⟩
 ·intro i op aU ac W ho hI hl aJ
  rw [aF.out] at hI;obtain ⟨b0,b1,b2,b3,b4,bK,bG,bI,u9,aR,aO,aQ,aH,aE,aG,aM,aL,aN,aC,aA,aD,aI,rfl,rfl,bN,aS,aT,aK,bA,f0,f1,f2,f3,f4⟩:=hI;clear cA
  match i,ho,hl,aJ with
  | 0,ho,hl,aJ=>
   have bD:b0=false:=Option.some.inj hl;obtain rfl:=Option.some.inj ho;refine zar ho fun K' hK => ?_
   go_simp
   go_at_call 103
   refine (HO.out W (hT.later aS)).mono ?_;rintro e W1 ⟨v0,rfl,⟨A,n,c,A',n',c',rfl,kt,kb⟩,hb⟩;refine hK.out _ _ ?_;rw [aF.out];exact ⟨true,b1,b2,b3,b4,(.agg #[.bool zec.neg,.slice A n c,.slice A' n' c']),bG,bI,u9,A,n,c,A',n',c',aM,aL,aN,aC,aA,aD,aI,rfl,rfl,(Nat.le_trans bN hb.size),(aS.trans (hb.mono aS.size)),(aT.below hb aT.lt),(aK.below hb aK.lt),(bA.later hb),(fun _=>⟨rfl,⟨A,n,c,A',n',c',rfl,kt,kb⟩⟩),f1,(fun h=>⟨(f2 h).1,(f2 h).2.later hb⟩),(fun h=>⟨(f3 h).1,(f3 h).2.1,Nat.lt_of_lt_of_le (f3 h).2.2.1 hb.size,fun h2=>((f3 h).2.2.2 h2).below hb (f3 h).2.2.1⟩),(fun h=>⟨(f4 h).1,(f4 h).2.1,(f4 h).2.2.below hb (f4 h).2.2.lt⟩)⟩
  | 1,ho,hl,aJ=>
   have bD:b1=false:=Option.some.inj hl;obtain rfl:=Option.some.inj ho;refine zar ho fun K' hK => ?_
   have x0:=aK.cell 0;have x1:=aK.cell 1;have x2:=aK.cell 2
   go_simp
   refine hK.out _ _ ?_;rw [aF.out];exact ⟨b0,true,b2,b3,b4,bK,(.agg #[.bool fq.neg,.slice A3 n3 c3,.slice A4 n4 c4]),bI,u9,aR,aO,aQ,aH,aE,aG,aM,aL,aN,aC,aA,aD,aI,rfl,rfl,bN,aS,aT,aK,bA,f0,(fun _=>rfl),f2,f3,f4⟩
  | 2,ho,hl,aJ=>
   have bD:b2=false:=Option.some.inj hl;obtain rfl:=Option.some.inj ho;have e0:b0=true:=aJ ⟨0,.data⟩ (by simp) rfl;obtain ⟨rfl,cT⟩:=f0 e0;have e1:b1=true:=aJ ⟨1,.data⟩ (by simp) rfl;obtain rfl:=f1 e1;refine zar ho fun K' hK => ?_
   go_simp
   go_at_call 66
   refine (HM.out _ _ W (hT.later aS) cT bA).mono ?_;rintro e W1 ⟨v0,rfl,⟨A,n,c,A',n',c',rfl,kt,kb⟩,hb⟩;refine hK.out _ _ ?_;rw [aF.out];exact ⟨b0,b1,true,b3,b4,(.agg #[.bool zec.neg,.slice aR aO aQ,.slice aH aE aG]),(.agg #[.bool fq.neg,.slice A3 n3 c3,.slice A4 n4 c4]),(.agg #[.bool mq.neg,.slice A n c,.slice A' n' c']),u9,aR,aO,aQ,aH,aE,aG,A,n,c,A',n',c',aI,rfl,rfl,(Nat.le_trans bN hb.size),(aS.trans (hb.mono aS.size)),(aT.below hb aT.lt),(aK.below hb aK.lt),(bA.later hb),(fun h=>⟨(f0 h).1,(f0 h).2.later hb⟩),f1,(fun _=>⟨rfl,⟨A,n,c,A',n',c',rfl,kt,kb⟩⟩),(fun h=>⟨(f3 h).1,(f3 h).2.1,Nat.lt_of_lt_of_le (f3 h).2.2.1 hb.size,fun h2=>((f3 h).2.2.2 h2).below hb (f3 h).2.2.1⟩),(fun h=>by rw [(f4 h).2.1] at bD;cases bD)⟩
  | 3,ho,hl,aJ=>
   have bD:b3=false:=Option.some.inj hl;obtain rfl:=Option.some.inj ho;refine zar ho fun K' hK => ?_
   have hb:Below W.heap.size W (W.alloc (.cells #[.bool false,.slice none 0 0,.slice none 0 0] 91)):=Ac
   go_simp
   refine hK.out _ _ ?_;rw [aF.out];exact ⟨b0,b1,b2,true,b4,bK,bG,bI,(.pointer (some ⟨W.heap.size,0,none⟩)),aR,aO,aQ,aH,aE,aG,aM,aL,aN,aC,aA,aD,W.heap.size,rfl,rfl,(Nat.le_trans bN hb.size),(aS.trans (hb.mono aS.size)),(aT.below hb aT.lt),(aK.below hb aK.lt),(bA.later hb),(fun h=>⟨(f0 h).1,(f0 h).2.later hb⟩),f1,(fun h=>⟨(f2 h).1,(f2 h).2.later hb⟩),(fun _=>⟨rfl,bN,by simp,fun _=>CBlk.new W _ _ _ rfl⟩),(fun h=>by rw [(f4 h).1] at bD;cases bD)⟩
  | 4,ho,hl,aJ=>
   have bD:b4=false:=Option.some.inj hl;obtain rfl:=Option.some.inj ho;have e3:b3=true:=aJ ⟨3,.data⟩ (by simp) rfl;obtain ⟨rfl,cK,dH,cV⟩:=f3 e3;have e2:b2=true:=aJ ⟨2,.data⟩ (by simp) rfl;obtain ⟨rfl,dD⟩:=f2 e2;refine zar ho fun K' hK => ?_
   have hz:=cV bD;have z0:=hz.cell 0;have z1:=hz.cell 1;have z2:=hz.cell 2;have dF:=hz.frozen 0;have dG:=hz.frozen 1;have dB:=hz.frozen 2
   go_simp
   refine hK.out _ _ ?_;rw [aF.out];exact ⟨b0,b1,b2,b3,true,bK,bG,(.agg #[.bool mq.neg,.slice aM aL aN,.slice aC aA aD]),(.pointer (some ⟨aI,0,none⟩)),aR,aO,aQ,aH,aE,aG,aM,aL,aN,aC,aA,aD,aI,rfl,rfl,(by rw [zai];exact bN),(zap aS (Nat.le_trans cY cK) _ _ _),(aT.far3 (Nat.ne_of_gt (Nat.lt_of_lt_of_le aV cK)) _ _ _),(aK.far3 (Nat.ne_of_gt (Nat.lt_of_lt_of_le aW cK)) _ _ _),(bA.res3 hz _ _ _ _ _ _ _),(fun h=>⟨(f0 h).1,(f0 h).2.res3 hz _ _ _ _ _ _ _⟩),f1,(fun h=>⟨(f2 h).1,(f2 h).2.res3 hz _ _ _ _ _ _ _⟩),(fun h=>⟨(f3 h).1,(f3 h).2.1,by rw [zai];exact (f3 h).2.2.1,fun h2=>by cases h2⟩),(fun _=>⟨e3,e2,hz.set3 _ _ _⟩)⟩
  | n+5,ho,hl,aJ=>exact absurd ho (by simp)
 ·intro aU ac Y hI aZ
  rw [aF.out] at hI;clear aS aT aK bA;obtain ⟨b0,b1,b2,b3,b4,bK,bG,bI,u9,aR,aO,aQ,aH,aE,aG,aM,aL,aN,aC,aA,aD,aI,rfl,rfl,bN,aS,aT,aK,bA,f0,f1,f2,f3,f4⟩:=hI;have e0:b0=true:=aZ 0 b0 (by decide) rfl;have e1:b1=true:=aZ 1 b1 (by decide) rfl;have e2:b2=true:=aZ 2 b2 (by decide) rfl;have e3:b3=true:=aZ 3 b3 (by decide) rfl;have e4:b4=true:=aZ 4 b4 (by decide) rfl;subst e0;subst e1;subst e2;subst e3;subst e4;obtain ⟨rfl,qh⟩:=f0 rfl;obtain rfl:=f1 rfl;obtain ⟨rfl,qm⟩:=f2 rfl;obtain ⟨rfl,cJ,_,_⟩:=f3 rfl;have t9:=(f4 rfl).2.2;clear f0 f1 f2 f3 f4 aZ aF aV aW;have x0:=aK.cell 0;have cB:=aK.cell 1;have cC:=aK.cell 2;have y0:=t9.cell 0;have y1:=t9.cell 1;have y2:=t9.cell 2;clear HM HO
  go_wp2_with fail
  refine (HC.out _ _ Y qm bA).mono ?_;rintro e w8 ⟨rfl,bJ⟩;have bH:=Ad aS bJ;have bV:=t9.below bJ t9.lt;have bU:=aK.below bJ aK.lt;have bP:=aT.below bJ aT.lt;have cQ:=qm.later bJ;have cM:=bA.later bJ;have bS:=hT.later bH;clear HC aS bJ t9 aK aT qm bA qh x0 cB cC y0 y1 y2 hT;have x0:=bU.cell 0;have cB:=bU.cell 1;have cC:=bU.cell 2;have y0:=bV.cell 0;have y1:=bV.cell 1;have y2:=bV.cell 2
  by_cases hc:rcmp mq fq<0
  ·have d:decide (rcmp mq fq<0)=true:=decide_eq_true hc
   obtain ⟨rfl,rfl,rfl⟩:=hN.out hc;clear hc hN hP x0 cB cC bU cM
   go_wp2_with fail
   refine (HA.out _ w8 bS cQ).mono ?_;rintro e w9 ⟨v9,rfl,h9,bC⟩;have bR:=Ad bH bC;have bO:=bP.below bC bP.lt;have cE:=bS.later bC;clear HA bH bC bP bS y0 y1 y2 bV cQ
   go_wp2_with fail
   refine (zo3 qa qb v9 w9 h9).mono ?_;rintro e cZ ⟨cU,rfl,dA,bE⟩;have bW:=Ad bR bE;have bT:=bO.below bE bO.lt;have cL:=cE.later bE;clear bR bE bO cE h9
   go_wp2_with fail
   refine (zer (zca qb) (zca qa) cU cZ cL dA ((zb2 lb).mono (by omega)) ((zb2 la).mono (by omega))).mono ?_;rintro e cW ⟨z1,z2,rfl,cN,cH,bB⟩;have bM:=Ad bW bB;have aP:=bT.below bB bT.lt;have u0:=aP.cell 0;have u1:=aP.cell 1;have f0:=aP.frozen 0;have f1:=aP.frozen 1;have bL:=zbH bM (g:=w.heap.size+1) (by omega) (.string z1) (.string z2);go_wp2
   refine bodyPost_ret (v := .tuple #[.agg #[.string z1,.string z2],.int .i64 (zcj (zca qb) (zca qa))]) (by simp [results,Tryz.results102,go_sem,u0,u1]) rfl ⟨z1,z2,rfl,cN,cH,bL⟩
  ·have d:decide (rcmp mq fq<0)=false:=decide_eq_false hc
   obtain ⟨rfl,rfl,rfl⟩:=hP.out (by omega);clear hc hN hP y0 y1 y2 bV cQ
   go_wp2_with fail
   refine (HA.out _ w8 bS cM).mono ?_;rintro e w9 ⟨v9,rfl,h9,bC⟩;have bR:=Ad bH bC;have bO:=bP.below bC bP.lt;have cE:=bS.later bC;clear HA bH bC bP bS x0 cB cC bU cM
   go_wp2_with fail
   refine (zer _ _ v9 w9 cE h9 (la.mono (by omega)) (lb.mono (by omega))).mono ?_;rintro e cW ⟨z1,z2,rfl,cN,cH,bB⟩;have bM:=Ad bR bB;have aP:=bO.below bB bO.lt;have u0:=aP.cell 0;have u1:=aP.cell 1;have f0:=aP.frozen 0;have f1:=aP.frozen 1;have bL:=zbH bM (g:=w.heap.size+1) (by omega) (.string z1) (.string z2);go_wp2
   refine bodyPost_ret (v := .tuple #[.agg #[.string z1,.string z2],.int .i64 (zcj _ _)]) (by simp [results,Tryz.results102,go_sem,u0,u1]) rfl ⟨z1,z2,rfl,cN,cH,bL⟩
end Go.Proofs.YtmkondcdejlhcaaGreatDoor
