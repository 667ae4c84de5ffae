/- Contracts of package number's cosine of a number. -/
import Derived.Test.YtbkgkoenppkhpaaGreatDoorGCo5
import Derived.Test.YtbkgkoenppkhpaaGreatDoorGSp6
import Derived.Test.YtbkgkoenppkhpaaGreatDoorGDiv4
import Derived.Deep.LoopGhost
import Derived.Test.YtbkgkoenppkhpaaGreatDoorGCo2
import Derived.Laws.StructEq
set_option maxRecDepth 100000
set_option maxHeartbeats 8000000
namespace Go.Proofs.YtbkgkoenppkhpaaGreatDoor
open Go.RowKit Bn
def zdC:Q:=lowQ false 1 2
theorem zmM (w:World) (hT:Tabs w):Calls Tryz.prog 116 #[.int .u64 1,.int .u64 2] w (za2 w zdC):=zhx 1 2 w hT (by omega) (by omega)
theorem zhv:LenQ zdC 1:=⟨Nat.le_trans (zaa (Nat.div_le_self _ _)) zck,Nat.le_trans (zaa (Nat.div_le_self _ _)) (zad (by rw [zdm];omega))⟩
theorem zfi (p fq:Q) (y:ByteArray) (dec:Int) (v:Value) (w:World) (hT:Tabs w) (hv:RatS w w.heap.size v p)
  (HF:Hid (∀ v W,Tabs W→RatS W W.heap.size v p→Calls Tryz.prog 171 #[v] W (za2 W fq)))
  (HE:Hid (∀ v W,Tabs W→RatS W W.heap.size v fq→Calls Tryz.prog 172 #[v] W fun e w'=>e = .returned (.tuple #[.string y,.bool true])∧Below W.heap.size W w')) :
  Calls Tryz.prog 115 #[v,.int .i64 dec] w fun e w'=>e = .returned (.tuple #[.agg #[.string y,.string y],.int .i64 0])∧Below w.heap.size w w':=by
 obtain ⟨A1,n1,c1,A2,n2,c2,rfl,h1,h2⟩:=hv;have aA:Below w.heap.size w ((w.alloc (.cells #[.bool p.neg,.slice A1 n1 c1,.slice A2 n2 c2] 87)).alloc (.cells #[.string ⟨#[]⟩,.string ⟨#[]⟩] 24)):=(((Below.refl _ _).alloc (by simp<;>omega) _).alloc (by simp<;>omega) _);have q0:CBlk ((w.alloc (.cells #[.bool p.neg,.slice A1 n1 c1,.slice A2 n2 c2] 87)).alloc (.cells #[.string ⟨#[]⟩,.string ⟨#[]⟩] 24)) (w.heap.size) #[.bool p.neg,.slice A1 n1 c1,.slice A2 n2 c2] 87:=((CBlk.new _ _ _ _ (by simp)).alloc _);have q1:CBlk ((w.alloc (.cells #[.bool p.neg,.slice A1 n1 c1,.slice A2 n2 c2] 87)).alloc (.cells #[.string ⟨#[]⟩,.string ⟨#[]⟩] 24)) (w.heap.size+1) #[.string ⟨#[]⟩,.string ⟨#[]⟩] 24:=(CBlk.new _ _ _ _ (by simp));have aJ:=RatS.mk (q:=p) (h1.later aA) (h2.later aA);go_enter Tryz.func115,Tryz.ntmps115
 go_upto_region 1 with (fail)
 generalize ((w.alloc (.cells #[.bool p.neg,.slice A1 n1 c1,.slice A2 n2 c2] 87)).alloc (.cells #[.string ⟨#[]⟩,.string ⟨#[]⟩] 24))=W at *;have a0:=q0.cell 0;have a1:=q0.cell 1;have a2:=q0.cell 2
 go_wp2_with fail
 refine (HF.out _ W (hT.later aA) aJ).mono ?_;rintro e w2 ⟨v2,rfl,⟨A3,n3,c3,A4,n4,c4,rfl,h3,h4⟩,aF⟩;have aI:Below w2.heap.size w2 (w2.alloc (.cells #[.bool fq.neg,.slice A3 n3 c3,.slice A4 n4 c4] 87)):=Ac;have aG:=Ad aA aF;have hB:=Ad aG aI;have aE:=(q1.below aF q1.lt).alloc (.cells #[.bool fq.neg,.slice A3 n3 c3,.slice A4 n4 c4] 87);have q6:CBlk (w2.alloc (.cells #[.bool fq.neg,.slice A3 n3 c3,.slice A4 n4 c4] 87)) w2.heap.size #[.bool fq.neg,.slice A3 n3 c3,.slice A4 n4 c4] 87:=CBlk.new _ _ _ _ rfl;have hf:=(RatS.mk (q:=fq) h3 h4).later aI;clear q0 q1 aA aF aG h1 h2 aI h3 h4 aJ a0 a1 a2 HF;go_upto_region 2 with (fail)
 generalize (w2.alloc (.cells #[.bool fq.neg,.slice A3 n3 c3,.slice A4 n4 c4] 87))=w3 at *;have a0:=q6.cell 0;have a1:=q6.cell 1;have a2:=q6.cell 2
 go_wp2_with fail
 refine (HE.out _ w3 (hT.later hB) hf).mono ?_;rintro e w4 ⟨rfl,aC⟩;have aK:=Ad hB aC;have aD:=aE.below aC aE.lt;have aL:=q6.below aC q6.lt;have aO:=hf.later aC;clear a0 a1 a2 HE hB aC aE q6 hf;have z0:=aD.cell 0;have z1:=aD.cell 1;have aM:=aD.frozen 0;have aN:=aD.frozen 1;have aH:=zcK aK (g:=w.heap.size+1) (by omega) (.string y) (.string y);go_wp2
 refine bodyPost_ret (v := .tuple #[.agg #[.string y,.string y],.int .i64 0]) (by simp [results,Tryz.results115,go_sem,z0,z1]) rfl ⟨rfl,aH⟩
theorem zft (p fq mq tq qa qb x1 x2:Q) (dec:Int) (v:Value) (w:World) (hT:Tabs w) (hv:RatS w w.heap.size v p) (lfq:LenQ fq 33554432) (la:LenQ qa 33554432) (lb:LenQ qb 33554432)
  (hmq:Hid (mq=za1 zdC fq))
  (hN:Hid (rcmp mq fq<0→tq=mq∧x1=zcS qb∧x2=zcS qa)) (hP:Hid (0≤rcmp mq fq→tq=fq∧x1=qa∧x2=qb))
  (HF:Hid (∀ v W,Tabs W→RatS W W.heap.size v p→Calls Tryz.prog 171 #[v] W (za2 W fq)))
  (HE:Hid (∀ v W,Tabs W→RatS W W.heap.size v fq→Calls Tryz.prog 172 #[v] W fun e w'=>e = .returned (.tuple #[.string ⟨#[]⟩,.bool false])∧Below W.heap.size W w'))
  (HA:Hid (∀ v W,Tabs W→RatS W W.heap.size v tq→Calls Tryz.prog 173 #[v,.int .i64 dec] W (zd4 W qa qb))) :
  Calls Tryz.prog 115 #[v,.int .i64 dec] w (zen w (zf1 x1 x2) (zfZ x1 x2) (zdw x1 x2)):=by
 obtain ⟨A1,n1,c1,A2,n2,c2,rfl,h1,h2⟩:=hv;have bO:Below w.heap.size w ((w.alloc (.cells #[.bool p.neg,.slice A1 n1 c1,.slice A2 n2 c2] 87)).alloc (.cells #[.string ⟨#[]⟩,.string ⟨#[]⟩] 24)):=(((Below.refl _ _).alloc (by simp<;>omega) _).alloc (by simp<;>omega) _);have q0:CBlk ((w.alloc (.cells #[.bool p.neg,.slice A1 n1 c1,.slice A2 n2 c2] 87)).alloc (.cells #[.string ⟨#[]⟩,.string ⟨#[]⟩] 24)) (w.heap.size) #[.bool p.neg,.slice A1 n1 c1,.slice A2 n2 c2] 87:=((CBlk.new _ _ _ _ (by simp)).alloc _);have q1:CBlk ((w.alloc (.cells #[.bool p.neg,.slice A1 n1 c1,.slice A2 n2 c2] 87)).alloc (.cells #[.string ⟨#[]⟩,.string ⟨#[]⟩] 24)) (w.heap.size+1) #[.string ⟨#[]⟩,.string ⟨#[]⟩] 24:=(CBlk.new _ _ _ _ (by simp));have cO:=RatS.mk (q:=p) (h1.later bO) (h2.later bO);go_enter Tryz.func115,Tryz.ntmps115
 go_upto_region 1 with (fail)
 generalize ((w.alloc (.cells #[.bool p.neg,.slice A1 n1 c1,.slice A2 n2 c2] 87)).alloc (.cells #[.string ⟨#[]⟩,.string ⟨#[]⟩] 24))=W at *;have a0:=q0.cell 0;have a1:=q0.cell 1;have a2:=q0.cell 2
 go_wp2_with fail
 refine (HF.out _ W (hT.later bO) cO).mono ?_;rintro e w2 ⟨v2,rfl,⟨A3,n3,c3,A4,n4,c4,rfl,h3,h4⟩,cE⟩;have cL:Below w2.heap.size w2 (w2.alloc (.cells #[.bool fq.neg,.slice A3 n3 c3,.slice A4 n4 c4] 87)):=Ac;have cB:=Ad bO cE;have hB:=Ad cB cL;have cG:=(q1.below cE q1.lt).alloc (.cells #[.bool fq.neg,.slice A3 n3 c3,.slice A4 n4 c4] 87);have q6:CBlk (w2.alloc (.cells #[.bool fq.neg,.slice A3 n3 c3,.slice A4 n4 c4] 87)) w2.heap.size #[.bool fq.neg,.slice A3 n3 c3,.slice A4 n4 c4] 87:=CBlk.new _ _ _ _ rfl;have hf:=(RatS.mk (q:=fq) h3 h4).later cL;clear q0 q1 bO cE cB h1 h2 cL h3 h4 cO a0 a1 a2 HF;go_upto_region 2 with (fail)
 generalize (w2.alloc (.cells #[.bool fq.neg,.slice A3 n3 c3,.slice A4 n4 c4] 87))=w3 at *;have a0:=q6.cell 0;have a1:=q6.cell 1;have a2:=q6.cell 2
 go_wp2_with fail
 refine (HE.out _ w3 (hT.later hB) hf).mono ?_;rintro e w4 ⟨rfl,bS⟩;have aS:=Ad hB bS;have aT:=cG.below bS cG.lt;have aK:=q6.below bS q6.lt;have aY:=hf.later bS;clear a0 a1 a2 HE hB bS cG q6 hf;have cN:LenQ mq 134217728:=by rw [hmq.out];exact (zbI zhv (zbS lfq)).mono (by omega)
 have HM:=Aa (fun v u W hT h2 h3=>(show Calls _ _ _ _ (za2 W mq) from by rw [hmq.out];exact zdN zdC fq v u W hT h2 h3 (zhv.mono (by omega)) (lfq.mono (by omega))));have HO:=Aa zmM;have HC:=Aa (fun v u W h1 h2=>zbw mq fq v u W h1 h2 (cN.mono (by omega)) (lfq.mono (by omega)));clear cN lfq hmq
 go_wp2_with fail
 obtain ⟨G5,bU⟩:∃ g,g=w4.heap.size:=⟨_,rfl⟩;have cS:w.heap.size≤G5:=by rw [bU];exact aS.size
 have aW:w.heap.size+1<G5:=by rw [bU];exact aT.lt
 have aV:w2.heap.size<G5:=by rw [bU];exact aK.lt
 obtain ⟨cM,bD⟩:∃ I:Array Bool→Act→World→Prop,I=(fun aU ac W=>∃ (b0 b1 b2 b3 b4:Bool) (bJ bL bG u9:Value) (aR:Option Addr) (aO aP:Nat) (aG:Option Addr) (aE aH:Nat) (aM:Option Addr) (aN aL:Nat) (aD:Option Addr) (aA aC:Nat) (aI:Nat),aU=#[b0,b1,b2,b3,b4]∧ac={ tmps:=#[.agg #[.bool p.neg,.slice A1 n1 c1,.slice A2 n2 c2],.int .i64 dec,.pointer (some ⟨w.heap.size,0,none⟩),undef,.pointer (some ⟨w.heap.size+1,0,none⟩),.int .i64 0,.pointer (some ⟨w2.heap.size,0,none⟩),.string ⟨#[]⟩,.bool false,u9,.agg #[.bool p.neg,.slice A1 n1 c1,.slice A2 n2 c2],.agg #[.bool fq.neg,.slice A3 n3 c3,.slice A4 n4 c4],.tuple #[.string ⟨#[]⟩,.bool false],.agg #[.bool fq.neg,.slice A3 n3 c3,.slice A4 n4 c4],.tuple #[.string ⟨#[]⟩,.bool false],.string ⟨#[]⟩,.bool false,.bool false,undef,undef,undef,bJ,bL,bG,undef,undef,undef,undef,undef,undef,undef,undef,undef,undef,undef,undef,undef,undef,undef,undef,undef],defers:=[] }∧G5≤W.heap.size∧Below w.heap.size w W∧CBlk W (w.heap.size+1) #[.string ⟨#[]⟩,.string ⟨#[]⟩] 24∧CBlk W (w2.heap.size) #[.bool fq.neg,.slice A3 n3 c3,.slice A4 n4 c4] 87∧RatS W W.heap.size (.agg #[.bool fq.neg,.slice A3 n3 c3,.slice A4 n4 c4]) fq∧(b0=true→bJ = .agg #[.bool zdC.neg,.slice aR aO aP,.slice aG aE aH]∧RatS W W.heap.size (.agg #[.bool zdC.neg,.slice aR aO aP,.slice aG aE aH]) ⟨zdC.neg,zdC.top,zdC.bot⟩)∧(b1=true→bL = .agg #[.bool fq.neg,.slice A3 n3 c3,.slice A4 n4 c4])∧(b2=true→bG = .agg #[.bool mq.neg,.slice aM aN aL,.slice aD aA aC]∧RatS W W.heap.size (.agg #[.bool mq.neg,.slice aM aN aL,.slice aD aA aC]) ⟨mq.neg,mq.top,mq.bot⟩)∧(b3=true→u9 = .pointer (some ⟨aI,0,none⟩)∧G5≤aI∧aI<W.heap.size∧(b4=false→CBlk W aI #[.bool false,.slice none 0 0,.slice none 0 0] 87))∧(b4=true→b3=true∧b2=true∧CBlk W aI #[.bool mq.neg,.slice aM aN aL,.slice aD aA aC] 87)):=⟨_,rfl⟩;have aF:=Aa bD;clear bD;refine zdf (by kernel_rfl) cM (by kernel_rfl) ?_ ?_ ?_
 ·rw [aF.out]
  exact ⟨false,false,false,false,false,undef,undef,undef,undef,none,0,0,none,0,0,none,0,0,none,0,0,0,rfl,rfl,(by rw [bU];exact Nat.le_refl _),aS.drew,aT.drew,aK.drew,(aY.later (Below.drew (Below.refl _ _))),(fun h=>by cases h),(fun h=>by cases h),(fun h=>by cases h),(fun h=>by cases h),(fun h=>by cases h)⟩
 ·intro i op aU ac W ho hI hl aJ
  rw [aF.out] at hI;obtain ⟨b0,b1,b2,b3,b4,bJ,bL,bG,u9,aR,aO,aP,aG,aE,aH,aM,aN,aL,aD,aA,aC,aI,rfl,rfl,bF,aS,aT,aK,aY,f0,f1,f2,f3,f4⟩:=hI;clear bU
  match i,ho,hl,aJ with
  | 0,ho,hl,aJ=>
   have bC:b0=false:=Option.some.inj hl;obtain rfl:=Option.some.inj ho;refine za5 ho fun K' hK => ?_
   go_simp
   go_at_call 116
   refine (HO.out W (hT.later aS)).mono ?_;rintro e W1 ⟨v0,rfl,⟨A,n,c,A',n',c',rfl,kt,kb⟩,hb⟩;refine hK.out _ _ ?_;rw [aF.out];exact ⟨true,b1,b2,b3,b4,(.agg #[.bool zdC.neg,.slice A n c,.slice A' n' c']),bL,bG,u9,A,n,c,A',n',c',aM,aN,aL,aD,aA,aC,aI,rfl,rfl,(Nat.le_trans bF hb.size),(aS.trans (hb.mono aS.size)),(aT.below hb aT.lt),(aK.below hb aK.lt),(aY.later hb),(fun _=>⟨rfl,⟨A,n,c,A',n',c',rfl,kt,kb⟩⟩),f1,(fun h=>⟨(f2 h).1,(f2 h).2.later hb⟩),(fun h=>⟨(f3 h).1,(f3 h).2.1,Nat.lt_of_lt_of_le (f3 h).2.2.1 hb.size,fun h2=>((f3 h).2.2.2 h2).below hb (f3 h).2.2.1⟩),(fun h=>⟨(f4 h).1,(f4 h).2.1,(f4 h).2.2.below hb (f4 h).2.2.lt⟩)⟩
  | 1,ho,hl,aJ=>
   have bC:b1=false:=Option.some.inj hl;obtain rfl:=Option.some.inj ho;refine za5 ho fun K' hK => ?_
   have x0:=aK.cell 0;have x1:=aK.cell 1;have x2:=aK.cell 2
   go_simp
   refine hK.out _ _ ?_;rw [aF.out];exact ⟨b0,true,b2,b3,b4,bJ,(.agg #[.bool fq.neg,.slice A3 n3 c3,.slice A4 n4 c4]),bG,u9,aR,aO,aP,aG,aE,aH,aM,aN,aL,aD,aA,aC,aI,rfl,rfl,bF,aS,aT,aK,aY,f0,(fun _=>rfl),f2,f3,f4⟩
  | 2,ho,hl,aJ=>
   have bC:b2=false:=Option.some.inj hl;obtain rfl:=Option.some.inj ho;have e0:b0=true:=aJ ⟨0,.data⟩ (by simp) rfl;obtain ⟨rfl,cU⟩:=f0 e0;have e1:b1=true:=aJ ⟨1,.data⟩ (by simp) rfl;obtain rfl:=f1 e1;refine za5 ho fun K' hK => ?_
   go_simp
   go_at_call 117
   refine (HM.out _ _ W (hT.later aS) cU aY).mono ?_;rintro e W1 ⟨v0,rfl,⟨A,n,c,A',n',c',rfl,kt,kb⟩,hb⟩;refine hK.out _ _ ?_;rw [aF.out];exact ⟨b0,b1,true,b3,b4,(.agg #[.bool zdC.neg,.slice aR aO aP,.slice aG aE aH]),(.agg #[.bool fq.neg,.slice A3 n3 c3,.slice A4 n4 c4]),(.agg #[.bool mq.neg,.slice A n c,.slice A' n' c']),u9,aR,aO,aP,aG,aE,aH,A,n,c,A',n',c',aI,rfl,rfl,(Nat.le_trans bF hb.size),(aS.trans (hb.mono aS.size)),(aT.below hb aT.lt),(aK.below hb aK.lt),(aY.later hb),(fun h=>⟨(f0 h).1,(f0 h).2.later hb⟩),f1,(fun _=>⟨rfl,⟨A,n,c,A',n',c',rfl,kt,kb⟩⟩),(fun h=>⟨(f3 h).1,(f3 h).2.1,Nat.lt_of_lt_of_le (f3 h).2.2.1 hb.size,fun h2=>((f3 h).2.2.2 h2).below hb (f3 h).2.2.1⟩),(fun h=>by rw [(f4 h).2.1] at bC;cases bC)⟩
  | 3,ho,hl,aJ=>
   have bC:b3=false:=Option.some.inj hl;obtain rfl:=Option.some.inj ho;refine za5 ho fun K' hK => ?_
   have hb:Below W.heap.size W (W.alloc (.cells #[.bool false,.slice none 0 0,.slice none 0 0] 87)):=Ac
   go_simp
   refine hK.out _ _ ?_;rw [aF.out];exact ⟨b0,b1,b2,true,b4,bJ,bL,bG,(.pointer (some ⟨W.heap.size,0,none⟩)),aR,aO,aP,aG,aE,aH,aM,aN,aL,aD,aA,aC,W.heap.size,rfl,rfl,(Nat.le_trans bF hb.size),(aS.trans (hb.mono aS.size)),(aT.below hb aT.lt),(aK.below hb aK.lt),(aY.later hb),(fun h=>⟨(f0 h).1,(f0 h).2.later hb⟩),f1,(fun h=>⟨(f2 h).1,(f2 h).2.later hb⟩),(fun _=>⟨rfl,bF,by simp,fun _=>CBlk.new W _ _ _ rfl⟩),(fun h=>by rw [(f4 h).1] at bC;cases bC)⟩
  | 4,ho,hl,aJ=>
   have bC:b4=false:=Option.some.inj hl;obtain rfl:=Option.some.inj ho;have e3:b3=true:=aJ ⟨3,.data⟩ (by simp) rfl;obtain ⟨rfl,cC,cY,cQ⟩:=f3 e3;have e2:b2=true:=aJ ⟨2,.data⟩ (by simp) rfl;obtain ⟨rfl,dA⟩:=f2 e2;refine za5 ho fun K' hK => ?_
   have hz:=cQ bC;have z0:=hz.cell 0;have z1:=hz.cell 1;have z2:=hz.cell 2;have dB:=hz.frozen 0;have cW:=hz.frozen 1;have cZ:=hz.frozen 2
   go_simp
   refine hK.out _ _ ?_;rw [aF.out];exact ⟨b0,b1,b2,b3,true,bJ,bL,(.agg #[.bool mq.neg,.slice aM aN aL,.slice aD aA aC]),(.pointer (some ⟨aI,0,none⟩)),aR,aO,aP,aG,aE,aH,aM,aN,aL,aD,aA,aC,aI,rfl,rfl,(by rw [zag];exact bF),(zan aS (Nat.le_trans cS cC) _ _ _),(aT.far3 (Nat.ne_of_gt (Nat.lt_of_lt_of_le aW cC)) _ _ _),(aK.far3 (Nat.ne_of_gt (Nat.lt_of_lt_of_le aV cC)) _ _ _),(aY.res3 hz _ _ _ _ _ _ _),(fun h=>⟨(f0 h).1,(f0 h).2.res3 hz _ _ _ _ _ _ _⟩),f1,(fun h=>⟨(f2 h).1,(f2 h).2.res3 hz _ _ _ _ _ _ _⟩),(fun h=>⟨(f3 h).1,(f3 h).2.1,by rw [zag];exact (f3 h).2.2.1,fun h2=>by cases h2⟩),(fun _=>⟨e3,e2,hz.set3 _ _ _⟩)⟩
  | n+5,ho,hl,aJ=>exact absurd ho (by simp)
 ·intro aU ac Y hI aX
  rw [aF.out] at hI;clear aS aT aK aY;obtain ⟨b0,b1,b2,b3,b4,bJ,bL,bG,u9,aR,aO,aP,aG,aE,aH,aM,aN,aL,aD,aA,aC,aI,rfl,rfl,bF,aS,aT,aK,aY,f0,f1,f2,f3,f4⟩:=hI;have e0:b0=true:=aX 0 b0 (by decide) rfl;have e1:b1=true:=aX 1 b1 (by decide) rfl;have e2:b2=true:=aX 2 b2 (by decide) rfl;have e3:b3=true:=aX 3 b3 (by decide) rfl;have e4:b4=true:=aX 4 b4 (by decide) rfl;subst e0;subst e1;subst e2;subst e3;subst e4;obtain ⟨rfl,qh⟩:=f0 rfl;obtain rfl:=f1 rfl;obtain ⟨rfl,qm⟩:=f2 rfl;obtain ⟨rfl,cK,_,_⟩:=f3 rfl;have t9:=(f4 rfl).2.2;clear f0 f1 f2 f3 f4 aX aF aW aV;have x0:=aK.cell 0;have bX:=aK.cell 1;have bY:=aK.cell 2;have y0:=t9.cell 0;have y1:=t9.cell 1;have y2:=t9.cell 2;clear HM HO
  go_wp2_with fail
  refine (HC.out _ _ Y qm aY).mono ?_;rintro e w8 ⟨rfl,bI⟩;have bE:=Ad aS bI;have bT:=t9.below bI t9.lt;have bR:=aK.below bI aK.lt;have bP:=aT.below bI aT.lt;have cH:=qm.later bI;have cF:=aY.later bI;have bQ:=hT.later bE;clear HC aS bI t9 aK aT qm aY qh x0 bX bY y0 y1 y2 hT;have x0:=bR.cell 0;have bX:=bR.cell 1;have bY:=bR.cell 2;have y0:=bT.cell 0;have y1:=bT.cell 1;have y2:=bT.cell 2
  by_cases hc:rcmp mq fq<0
  ·have d:decide (rcmp mq fq<0)=true:=decide_eq_true hc
   obtain ⟨rfl,rfl,rfl⟩:=hN.out hc;clear hc hN hP x0 bX bY bR cF
   go_wp2_with fail
   refine (HA.out _ w8 bQ cH).mono ?_;rintro e w9 ⟨v9,rfl,h9,bA⟩;have bN:=Ad bE bA;have bM:=bP.below bA bP.lt;have bZ:=bQ.later bA;clear HA bE bA bP bQ y0 y1 y2 bT cH
   go_wp2_with fail
   refine (zmG qa qb v9 w9 h9).mono ?_;rintro e cP ⟨cV,rfl,cR,bB⟩;have bW:=Ad bN bB;have bV:=bM.below bB bM.lt;have cA:=bZ.later bB;clear bN bB bM bZ h9
   go_wp2_with fail
   refine (ze5 (zcS qb) (zcS qa) cV cP cA cR ((zbS lb).mono (by omega)) ((zbS la).mono (by omega))).mono ?_;rintro e cT ⟨z1,z2,rfl,cJ,cI,aZ⟩;have bK:=Ad bW aZ;have aQ:=bV.below aZ bV.lt;have u0:=aQ.cell 0;have u1:=aQ.cell 1;have f0:=aQ.frozen 0;have f1:=aQ.frozen 1;have bH:=zcK bK (g:=w.heap.size+1) (by omega) (.string z1) (.string z2);go_wp2
   refine bodyPost_ret (v := .tuple #[.agg #[.string z1,.string z2],.int .i64 (zdw (zcS qb) (zcS qa))]) (by simp [results,Tryz.results115,go_sem,u0,u1]) rfl ⟨z1,z2,rfl,cJ,cI,bH⟩
  ·have d:decide (rcmp mq fq<0)=false:=decide_eq_false hc
   obtain ⟨rfl,rfl,rfl⟩:=hP.out (by omega);clear hc hN hP y0 y1 y2 bT cH
   go_wp2_with fail
   refine (HA.out _ w8 bQ cF).mono ?_;rintro e w9 ⟨v9,rfl,h9,bA⟩;have bN:=Ad bE bA;have bM:=bP.below bA bP.lt;have bZ:=bQ.later bA;clear HA bE bA bP bQ x0 bX bY bR cF
   go_wp2_with fail
   refine (ze5 _ _ v9 w9 bZ h9 (la.mono (by omega)) (lb.mono (by omega))).mono ?_;rintro e cT ⟨z1,z2,rfl,cJ,cI,aZ⟩;have bK:=Ad bN aZ;have aQ:=bM.below aZ bM.lt;have u0:=aQ.cell 0;have u1:=aQ.cell 1;have f0:=aQ.frozen 0;have f1:=aQ.frozen 1;have bH:=zcK bK (g:=w.heap.size+1) (by omega) (.string z1) (.string z2);go_wp2
   refine bodyPost_ret (v := .tuple #[.agg #[.string z1,.string z2],.int .i64 (zdw _ _)]) (by simp [results,Tryz.results115,go_sem,u0,u1]) rfl ⟨z1,z2,rfl,cJ,cI,bH⟩
end Go.Proofs.YtbkgkoenppkhpaaGreatDoor
