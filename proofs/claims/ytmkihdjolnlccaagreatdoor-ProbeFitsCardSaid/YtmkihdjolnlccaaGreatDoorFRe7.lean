/- The law of fits for every input. -/
import Derived.Test.YtmkihdjolnlccaaGreatDoorFRe6
import Derived.Test.YtmkihdjolnlccaaGreatDoorFDp
import Derived.Deep.Slices
import Derived.ChangeArms
import Derived.ChangeSlices
import Derived.ChangeSame
import Derived.Test.YtmkihdjolnlccaaGreatDoorCards
import Derived.Test.YtmkihdjolnlccaaGreatDoorTie
import Derived.WalkKit
import Derived.ProofKit
import Derived.OpenShut
import Derived.Deep.DeepHandedRow
import Derived.Lib.LaidTab
import Derived.Lib.SmallJoins
import Derived.Stop.LaidErr
import Derived.WideKeyArgs
namespace Go.Proofs.YtmkihdjolnlccaaGreatDoor
open Go.RowKit Bn
open Flt
theorem fits_any (a st z c1 c2:Int) (g o v1 v2:ByteArray) (w:World) (hT:Tabs w) (hg:g.size≤9223372036854775807) (ho:o.size≤9223372036854775807) :
  Calls Tryz.prog 5 #[.agg #[.int .i64 a,.int .i64 st,.int .i64 z,.string g,.string o],.agg #[.int .i64 c1,.string v1],.agg #[.int .i64 c2,.string v2]] w fun e w'=>e = .returned (.bool true)∧Below w.heap.size w w':=by
 obtain ⟨bA,hA,kA⟩:=fewA_is a st z g o hg ho
 obtain ⟨b1,h1,k1⟩:=few_is v1
 obtain ⟨b2,h2,k2⟩:=few_is v2
 cases bA
 ·exact fits_turned a st z c1 c2 g o v1 v2 _ _ _ w awakeC hT kA k1 k2 (.inl rfl)
 cases b1
 ·exact fits_turned a st z c1 c2 g o v1 v2 _ _ _ w awakeC hT kA k1 k2 (.inr (.inl ⟨rfl,rfl⟩))
 cases b2
 ·exact fits_turned a st z c1 c2 g o v1 v2 _ _ _ w awakeC hT kA k1 k2 (.inr (.inr ⟨rfl,rfl,rfl⟩))
 obtain ⟨n,rfl,n1,n2,hst,hz,hcal⟩:=cal_few a st z c1 c2 g o v1 v2 (hA rfl) (h1 rfl) (h2 rfl)
 rcases hcal with ⟨E,hE,hX⟩ | ⟨xg,xo,hX,F⟩
 ·exact fits_err n st z c1 c2 E g o v1 v2 w awakeC hT kA k1 k2 hX hE
 ·have hp:2 ^ n≤2 ^ 12:=Nat.pow_le_pow_right (by omega) n2
  have e12:(2:Nat) ^ 12=4096:=by decide
  rw [e12] at hp
  have l1:=num_read (h1 rfl).1
  have l2:=num_read (h2 rfl).1
  have hC:AdcSays n st z xg xo 0:=fun W=>by
   have s1:=F.hG.size F.sG (by omega)
   have s2:=F.hO.size F.sO (by omega)
   have h:=rCheckAdc_any n st z xg xo W (by omega) (by omega)
   rwa [adc_fit n1 n2 hst hz F.hG F.hO F.sG F.sO F.pos] at h
  have hM1:MarkFit ((2 ^ n - 1:Nat):Int) st z (slopeQ st z c1 c2 (readQ v1.data.toList) (readQ v2.data.toList)) (offQ st z c1 c2 (readQ v1.data.toList) (readQ v2.data.toList)) c1 v1:=
   ⟨F.i1.1,F.i1.2,fun s hs=>NumQ.one l1 (by rw [fit_first l1.2 l2.2 F.N] at hs;exact hs)⟩
  have hM2:MarkFit ((2 ^ n - 1:Nat):Int) st z (slopeQ st z c1 c2 (readQ v1.data.toList) (readQ v2.data.toList)) (offQ st z c1 c2 (readQ v1.data.toList) (readQ v2.data.toList)) c2 v2:=
   ⟨F.i2.1,F.i2.2,fun s hs=>NumQ.one l2 (by rw [fit_second l1.2 l2.2 F.N] at hs;exact hs)⟩
  refine fits_main n ((2 ^ n - 1:Nat):Int) st z c1 c2 g o v1 v2 xg xo _ _ w awakeC hT kA k1 k2 hX hC (true_says n st z c1 c2 _ _ xg xo n1 n2 hst hz F) hM1 hM2 (by omega) hst F.hG F.sG ?_ ?_ ?_ ?_
  ·intro c h0 hc
   exact ⟨real_small F.N.lsl.1 F.N.lof.1 (lowE_low st z c).1 F.sG F.sO (lowE_small hst (by omega)),real_small F.N.lsl.1 F.N.lof.1 (highE_low st z c).1 F.sG F.sO (highE_small hst (by omega))⟩
  ·exact fun c=>fit_next st z c _ _ F.N.lsl.1 F.N.lof.1
  ·exact fun c=>fit_width st z c _ _ F.N.lsl.1 F.N.lof.1
  ·exact fun c=>fit_order st z c _ _ hst F.N.lsl.1 F.N.lof.1 F.pos
end Go.Proofs.YtmkihdjolnlccaaGreatDoor
namespace Go.Proofs.YtmkihdjolnlccaaGreatDoor
open Go.RowKit Go.WideShapes Go.ChangeShapes Go.Deep
section
variable {H:Type} {enc:TypeId × Value→H} {P:Program} {w:World} {base fuel:Nat} {held:Bool} {t e q:TypeId} {cs:List Value} {x:DataW H × List MemPlace}
end
section
variable {H:Type} {enc:TypeId × Value→H} {P:Program}
theorem post_below {f:Func} {s:ChangeSpec} {apart fresh handsOn again:Bool} {W W':World} {args:Array Value} {v:Value} {ds gs:List (DataW H)} {before pa pv:List MemPlace}
  (hW:DataW.Whole enc P f.params.toList s.vars apart W args.toList ds gs before)
  (hres:∀ (b:Nat) (sp:Nat→Bool) (hd:Bool),DataW.TrodAll enc P W' b sp hd f.resultTypes.toList (v.resultList f.resultTypes.size) (s.fn H (ds++gs)).results [])
  (hargs:∀ sp:Nat→Bool,(∀ p ∈ before,sp p.block=true)→DataW.TrodAll enc P W' 0 sp true f.params.toList args.toList (s.fn H (ds++gs)).args pa)
  (hvars:∀ sp:Nat→Bool,(∀ p ∈ before,sp p.block=true)→DataW.TrodVars enc P W' sp s.vars (s.fn H (ds++gs)).vars pv)
  (hps:before=pa++pv) (hb:Below W.heap.size W W')
  (hok:∀ (j:Nat) (t:TypeId) (r:Value),f.resultTypes[j]? = some t→(v.resultList f.resultTypes.size)[j]? = some r→Value.okWide P W' .any 0 t r) :
  s.post enc P f apart fresh handsOn again W args v W':=by
 have lt:∀ p ∈ before,p.block<W.heap.size:=fun p hp=>hW.lt p hp
 obtain ⟨_,_,_,_,_,hz,hn⟩:=id hW
 refine ⟨ds,gs,before,[],pa,pv,hW,hres _ _ _,hargs _ (fun p hp=>by simpa using lt p hp),hvars _ (fun p hp=>by simpa using lt p hp),World.keptBut_mono (fun p hp=>⟨hp,?_⟩) (hb.frame (· ∈ before)),fun _=>⟨hok,_,_,([]++pa)++pv,⟨[]++pa,pv,trodAll_append (hargs _ (fun _ _=>rfl)) (hres _ _ _),hvars _ (fun _ _=>rfl),rfl,?_,?_⟩,?_⟩⟩
 ·exact Or.inr (by rw [hps,List.mem_append] at hp;exact hp)
 ·intro b off hp
  have hin:MemPlace.cell b off ∈ before:=by rw [hps];simpa using hp
  rw [hb.frozen (lt _ hin)]
  exact hz b off hin
 ·intro ha
  have h1:=hn ha
  rw [hps] at h1
  simpa using h1
 ·intro p hp _
  rw [hps]
  simpa using hp
end
end Go.Proofs.YtmkihdjolnlccaaGreatDoor
namespace Go.Proofs.YtmkihdjolnlccaaGreatDoor.fitslaw
open Go.ChangeShapes Go.WideShapes Go.ChangeAt Go.RowKit Go.Deep
theorem own:ownKnob Tryz.prog.godebug=none:=by kernel_rfl
theorem laidOut:laidOutB Tryz.prog=true:=by kernel_rfl
theorem cellsB:Tryz.prog.cellsOf 5=1:=by kernel_rfl
theorem cellsU:Tryz.prog.cellsOf 168=1:=by kernel_rfl
theorem gTz:Tryz.prog.globalNamed "math/bits.deBruijn64tab" = some 2:=by kernel_rfl
theorem gPow:Tryz.prog.globalNamed "internal/strconv.uint64pow10" = some 5:=by kernel_rfl
section
variable {P:Program} {w:World} {base:Nat} {spare:Nat→Bool} {held:Bool} {H:Type} {enc:TypeId × Value→H}
theorem array5 {α:Type} {cs:Array α} (h:cs.size=5):∃ c0 c1 c2 c3 c4,cs=#[c0,c1,c2,c3,c4]:=by
 obtain ⟨l⟩:=cs
 match l,h with
 | [c0,c1,c2,c3,c4],_=>exact ⟨c0,c1,c2,c3,c4,rfl⟩
theorem open_five {r:Reach} {b0:Nat} {t:TypeId} {f0 f1 f2 f3 f4:Field} {v:Value} {d:DataW H} {p:List MemPlace} (hs:P.underlying t=some (.struct #[f0,f1,f2,f3,f4])) (hone:oneCellFields P #[f0,f1,f2,f3,f4]=true) (hC:P.cellsOf t=5)
  (hv:Value.okWide P w r b0 t v) (h:DataW.Trod enc P w base spare held t v d p) :
  ∃ (v0 v1 v2 v3 v4:Value) (y0 y1 y2 y3 y4:DataW H × List MemPlace) (n:Nat),v = .agg #[v0,v1,v2,v3,v4] ∧
   DataW.trod enc P w base spare held n f0.type [v0]=some y0∧DataW.trod enc P w base spare held n f1.type [v1]=some y1∧DataW.trod enc P w base spare held n f2.type [v2]=some y2∧DataW.trod enc P w base spare held n f3.type [v3]=some y3∧DataW.trod enc P w base spare held n f4.type [v4]=some y4:=by
 obtain ⟨cs,rfl,hsz⟩:=okWide_struct hs hv
 obtain ⟨c0,c1,c2,c3,c4,rfl⟩:=array5 (hsz.trans hC)
 obtain ⟨fuel,hf⟩:=h
 obtain ⟨xs,n,_,_,hl,hlen,hf⟩:=DataW.trod_struct hs hf
 obtain ⟨o0,k0⟩:=hone_of hone 0 f0 rfl
 obtain ⟨o1,k1⟩:=hone_of hone 1 f1 rfl
 obtain ⟨o2,k2⟩:=hone_of hone 2 f2 rfl
 obtain ⟨o3,k3⟩:=hone_of hone 3 f3 rfl
 obtain ⟨o4,k4⟩:=hone_of hone 4 f4 rfl
 match xs,hlen with
 | [y0,y1,y2,y3,y4],_=>exact ⟨c0,c1,c2,c3,c4,y0,y1,y2,y3,y4,n,rfl,by simpa [Value.cells,o0,k0] using hf 0 f0 rfl,by simpa [Value.cells,o1,k1] using hf 1 f1 rfl,by simpa [Value.cells,o2,k2] using hf 2 f2 rfl,by simpa [Value.cells,o3,k3] using hf 3 f3 rfl,by simpa [Value.cells,o4,k4] using hf 4 f4 rfl⟩
theorem array2 {α:Type} {cs:Array α} (h:cs.size=2):∃ c0 c1,cs=#[c0,c1]:=by
 obtain ⟨l⟩:=cs
 match l,h with
 | [c0,c1],_=>exact ⟨c0,c1,rfl⟩
theorem open_duo {r:Reach} {b0:Nat} {t:TypeId} {f0 f1:Field} {v:Value} {d:DataW H} {p:List MemPlace} (hs:P.underlying t=some (.struct #[f0,f1])) (hone:oneCellFields P #[f0,f1]=true) (hC:P.cellsOf t=2)
  (hv:Value.okWide P w r b0 t v) (h:DataW.Trod enc P w base spare held t v d p) :
  ∃ (v0 v1:Value) (y0 y1:DataW H × List MemPlace) (n:Nat),v = .agg #[v0,v1] ∧
   DataW.trod enc P w base spare held n f0.type [v0]=some y0∧DataW.trod enc P w base spare held n f1.type [v1]=some y1:=by
 obtain ⟨cs,rfl,hsz⟩:=okWide_struct hs hv
 obtain ⟨c0,c1,rfl⟩:=array2 (hsz.trans hC)
 obtain ⟨fuel,hf⟩:=h
 obtain ⟨xs,n,_,_,hl,hlen,hf⟩:=DataW.trod_struct hs hf
 obtain ⟨o0,k0⟩:=hone_of hone 0 f0 rfl
 obtain ⟨o1,k1⟩:=hone_of hone 1 f1 rfl
 match xs,hlen with
 | [y0,y1],_=>exact ⟨c0,c1,y0,y1,n,rfl,by simpa [Value.cells,o0,k0] using hf 0 f0 rfl,by simpa [Value.cells,o1,k1] using hf 1 f1 rfl⟩
end
set_option maxRecDepth 100000 in
theorem tabs {W:World} (h:laidMetH Tryz.prog Rows.probeFitsRow.laid W) (hs:W.ShapedOpen Tryz.prog):Tabs W:=by
 have h1:laidMet Tryz.prog Rows.probeFitsRow.laid W:=h
 have h2:=laidMet.tail h1
 have h3:=laidMet.tail h2
 have t2:Lib.TabIs Tryz.prog W "math/bits.deBruijn64tab" .u8 (Lib.deBruijn64tab.map fun (n:Nat)=>(n:Int)):=
  Lib.tabIs_of_head gTz (by kernel_rfl) Tryz.underlying301 Tryz.underlying5 cellsB (by kernel_rfl) h2
 have t3:Lib.TabIs Tryz.prog W "internal/strconv.uint64pow10" .u64 Lib.pow10Tab:=
  Lib.tabIs_of_head gPow (by kernel_rfl) Tryz.underlying310 Tryz.underlying168 cellsU (by kernel_rfl) h3
 refine ⟨fun j hj => ?_,t3,?_⟩
 ·have:=t2.cell gTz j (by simpa using hj)
  rw [this]
  simp [List.getD,List.getElem?_map,List.getElem?_eq_getElem hj]
 ·exact cell_of_shapedOpen_int (zero:=#[.int .i64 0]) (t:=3) hs (of_decide_eq_true (by kernel_rfl)) (by kernel_rfl) rfl (by kernel_rfl) (by kernel_rfl) Tryz.underlying3
set_option maxRecDepth 100000 in
theorem contract (H:Type) (enc:TypeId × Value→H) (W:World) (base:Nat) (args:Array Value) (ds gs:List (DataW H)) (before:List MemPlace)
  (hval:∀ (j:Nat) t v,Tryz.f5.params[j]? = some t→args[j]? = some v→Value.okWide Tryz.prog W .any base t v)
  (hW:DataW.Whole enc Tryz.prog Tryz.f5.params.toList Rows.probeFitsSpec.vars false W args.toList ds gs before) (hL:laidMetH Tryz.prog Rows.probeFitsRow.laid W) (hS:W.ShapedOpen Tryz.prog) :
  Calls Tryz.prog 5 args W fun e W'=>∃ v,e = .returned v∧Rows.probeFitsSpec.post enc Tryz.prog Tryz.f5 false true false false W args v W':=by
 have hW':=hW
 obtain ⟨p,q,hA0,hV,rfl,hfz,hnd⟩:=hW
 have hA:DataW.TrodAll enc Tryz.prog W 0 (fun _=>true) true Tryz.f5.params.toList args.toList ds p:=hA0
 rw [Tryz.params5] at hA hval
 obtain ⟨v0,vs0,d0,ds0,p0,q0,hargs,rfl,rfl,h0,r0⟩:=trodAll_cons hA
 obtain ⟨v1,vs1,d1,ds1,p1,q1,rfl,rfl,rfl,h1,r1⟩:=trodAll_cons r0
 obtain ⟨v2,vs2,d2,ds2,p2,q2,rfl,rfl,rfl,h2,r2⟩:=trodAll_cons r1
 obtain ⟨rfl,rfl,rfl⟩:=trodAll_nil r2
 obtain rfl:args=#[v0,v1,v2]:=by cases args;simp_all
 obtain ⟨rfl,rfl⟩:=trodVars_none hV
 obtain ⟨x0,x1,x2,x3,x4,y0,y1,y2,y3,y4,m2,rfl,hx0,hx1,hx2,hx3,hx4⟩:=open_five Tryz.underlying24 (by kernel_rfl) (by kernel_rfl) (hval 0 24 v0 rfl rfl) h0
 obtain ⟨a,ha,_⟩:=DataW.trod_int Tryz.underlying3 hx0
 obtain ⟨st,hst,_⟩:=DataW.trod_int Tryz.underlying3 hx1
 obtain ⟨z,hz,_⟩:=DataW.trod_int Tryz.underlying3 hx2
 obtain ⟨g,hg,hgs⟩:=DataW.trod_string Tryz.underlying22 hx3
 obtain ⟨o,ho,hos⟩:=DataW.trod_string Tryz.underlying22 hx4
 injection ha with ha
 injection hst with hst
 injection hz with hz
 have hgs':=hgs.2
 have hos':=hos.2
 injection hg with hg
 injection ho with ho
 subst ha hst hz hg ho
 obtain ⟨x5,x6,y5,y6,m3,rfl,hx5,hx6⟩:=open_duo Tryz.underlying72 (by kernel_rfl) (by kernel_rfl) (hval 1 72 v1 rfl rfl) h1
 obtain ⟨c1,hc1,_⟩:=DataW.trod_int Tryz.underlying3 hx5
 obtain ⟨s1,hs1,_⟩:=DataW.trod_string Tryz.underlying22 hx6
 injection hc1 with hc1
 injection hs1 with hs1
 subst hc1 hs1
 obtain ⟨x7,x8,y7,y8,m4,rfl,hx7,hx8⟩:=open_duo Tryz.underlying72 (by kernel_rfl) (by kernel_rfl) (hval 2 72 v2 rfl rfl) h2
 obtain ⟨c2,hc2,_⟩:=DataW.trod_int Tryz.underlying3 hx7
 obtain ⟨s2,hs2,_⟩:=DataW.trod_string Tryz.underlying22 hx8
 injection hc2 with hc2
 injection hs2 with hs2
 subst hc2 hs2
 have walk:=fits_any a st z c1 c2 g o s1 s2 W (tabs hL hS) (by unfold maxLen at hgs';omega) (by unfold maxLen at hos';omega)
 have hlt:∀ x ∈ p0++(p1++(p2++[]))++[],x.block<W.heap.size:=fun x hx=>hW'.lt x hx
 refine walk.mono fun e W' ⟨he,hb⟩ => ?_
 subst he
 have st:∀ (t:TypeId) (v:Value) (d:DataW H) (ps:List MemPlace) (sp:Nat→Bool),Tryz.prog.readableRec t=true→t<Tryz.prog.types.size→DataW.Trod enc Tryz.prog W 0 (fun _=>true) true t v d ps →
   (∀ x ∈ ps,x.block<W.heap.size)→(∀ x ∈ ps,sp x.block=true)→DataW.Trod enc Tryz.prog W' 0 sp true t v d ps:=fun t v d ps sp hr hrow h hl hs=>
  WideElems.Trod_stays laidOut hr hrow h (fun x hx=>hb.same (hl x hx)) hs
 refine ⟨_,rfl,post_below (pa:=p0++(p1++(p2++[]))) (pv:=[]) hW' (fun _ _ _=>trodAll_cons_mk (shut_bool Tryz.underlying4 _) trodAll_mk0) (fun sp hsp => ?_) (fun _ _=>rfl) rfl hb (ok_one (by kernel_rfl) rfl (okWide_bool_mk Tryz.underlying4 _))⟩
 refine trodAll_cons_mk (st _ _ _ _ sp (by kernel_rfl) (of_decide_eq_true (by kernel_rfl)) h0 (fun x hx=>hlt x (by simp [hx])) (fun x hx=>hsp x (by simp [hx]))) ?_
 refine trodAll_cons_mk (st _ _ _ _ sp (by kernel_rfl) (of_decide_eq_true (by kernel_rfl)) h1 (fun x hx=>hlt x (by simp [hx])) (fun x hx=>hsp x (by simp [hx]))) ?_
 exact trodAll_cons_mk (st _ _ _ _ sp (by kernel_rfl) (of_decide_eq_true (by kernel_rfl)) h2 (fun x hx=>hlt x (by simp [hx])) (fun x hx=>hsp x (by simp [hx]))) trodAll_mk0
def cellsOver (cs:Array Value):Obj→Obj
 | .cells _ t frozen => .cells cs t frozen
 | o=>o
def tab32:List Nat:=[0,1,28,2,29,14,24,3,30,22,20,15,25,17,4,8,31,27,13,23,21,19,16,7,26,12,18,6,11,5,10,9]
noncomputable def low:Nat:=(World.holding Tryz.prog default ⟨#[],#[],[]⟩).heap.size
noncomputable def laidWorld (os:Os):World:=
 { (World.holding Tryz.prog os ⟨#[.cells #[.string { data:=#[118,97,108,117,101,32,111,117,116,32,111,102,32,114,97,110,103,101] }] 322,.cells #[.string { data:=#[105,110,118,97,108,105,100,32,115,121,110,116,97,120] }] 322],#[],[]⟩) with heap:=((((((World.holding Tryz.prog os ⟨#[.cells #[.string { data:=#[118,97,108,117,101,32,111,117,116,32,111,102,32,114,97,110,103,101] }] 322,.cells #[.string { data:=#[105,110,118,97,108,105,100,32,115,121,110,116,97,120] }] 322],#[],[]⟩).heap.modify 8 (cellsOver (tab32.map fun (n:Nat)=>Value.int .u8 (n:Int)).toArray)).modify 2 (cellsOver (Lib.deBruijn64tab.map fun (n:Nat)=>Value.int .u8 (n:Int)).toArray)).modify 5 (cellsOver (Lib.pow10Tab.map fun n=>Value.int .u64 n).toArray)).modify 7 (cellsOver #[.iface 320 (.pointer (some ⟨low,0,none⟩))])).modify 6 (cellsOver #[.iface 320 (.pointer (some ⟨low+1,0,none⟩))])) }
def wargs:Array Value:=#[.agg #[.int .i64 0,.int .i64 0,.int .i64 0,.string { data:=#[] },.string { data:=#[] }],.agg #[.int .i64 0,.string { data:=#[] }],.agg #[.int .i64 0,.string { data:=#[] }]]
set_option maxRecDepth 100000 in
theorem laid_met (os:Os):laidMet Tryz.prog Rows.probeFitsRow.laid ((laidWorld os).forCall (fun _ _=>0) ⟨#[],wargs,[]⟩).memory:=
 laidMet_of_run' 8 (by kernel_rfl) (by kernel_rfl)
set_option maxRecDepth 100000 in
theorem reads (os:Os) {H:Type} (enc:TypeId × Value→H):∃ places,DataW.whole enc Tryz.prog ((laidWorld os).forCall (fun _ _=>0) ⟨#[],wargs,[]⟩).memory Tryz.f5.params.toList Rows.probeFitsSpec.vars false wargs.toList 8=some ([.agg [.lit (.int .i64 0),.lit (.int .i64 0),.lit (.int .i64 0),.lit (.string []),.lit (.string [])],.agg [.lit (.int .i64 0),.lit (.string [])],.agg [.lit (.int .i64 0),.lit (.string [])]],[],places):=
 ⟨[],by kernel_rfl⟩
set_option maxRecDepth 100000 in
theorem lifted (os:Os) (started:os.Started) (H:Type) (enc:TypeId × Value→H) (F:Stop.Interp) :
  ReturnsInHanded {} Tryz.checked os 5 .any ((OpenSpec.ofChange Rows.probeFitsSpec).preRow enc Tryz.prog Tryz.f5 Rows.probeFitsRow.domain false Rows.probeFitsRow.laid) (((OpenSpec.ofChange Rows.probeFitsSpec).at F).post enc Tryz.prog Tryz.f5 false true false false):=by
 obtain ⟨places,hx⟩:=reads os enc
 refine returnsInHanded_of_row (C:=Tryz.checked) (s:=OpenSpec.ofChange Rows.probeFitsSpec) own started (by kernel_rfl) Tryz.func5
  (witness_row_at (enc:=enc) (C:=Tryz.checked) false (laidWorld os) wargs rfl (by kernel_rfl) (by kernel_rfl) (by kernel_rfl)
   (OpenSpec.preRow_of_cond 8 hx (by kernel_rfl) (fun k hk=>by cases hk) (by kernel_rfl) (laid_met os))) ?_
 intro W base args ds gs before hval hW _ _ _ hL hS _
 exact contract H enc W base args ds gs before hval hW hL hS
theorem said:Rows.ProbeFitsSaid:=
 OpenClaim.holds_of_cond 5 Tryz.f5 rfl rfl rfl rfl rfl rfl rfl ⟨rfl,rfl,rfl,rfl,rfl⟩ rfl rfl rfl rfl rfl (by kernel_rfl) Tryz.func5 (by kernel_rfl)
  (of_decide_eq_true (by kernel_rfl)) (by unfold Func.isWrapper;first | (rw [if_pos (by decide +kernel)];kernel_rfl) | (rw [if_neg (by decide +kernel)];exact ⟨rfl,rfl⟩))
  (fun os started H enc _ F=>by rw [OpenClaim.pre_eq_preRow];exact lifted os started H enc F)
theorem plain (f:FuncId) (fn:Func) (hf:Tryz.pinned.checked.prog.funcNamed "strobe/strobelaw02.ProbeFits" = some f) (hfn:Tryz.pinned.checked.prog.funcs[f]? = some fn) :
  true=Tryz.pinned.checked.prog.looks []∧∀ (j:Nat) t,fn.params[j]? = some t→Tryz.pinned.checked.prog.wantsStandIn t=false:=by
 obtain rfl:f=5:=Option.some.inj ((show Tryz.prog.funcNamed "strobe/strobelaw02.ProbeFits" = some 5 by kernel_rfl).symm.trans hf) |>.symm
 obtain rfl:fn=Tryz.f5:=(Option.some.inj (Tryz.func5.symm.trans hfn)).symm
 refine ⟨by kernel_rfl,fun j t ht => ?_⟩
 rw [Tryz.params5] at ht
 have hm:=Array.mem_of_getElem? ht
 simp at hm
 rcases hm with rfl | rfl
 ·exact (show Tryz.prog.wantsStandIn 24=false by kernel_rfl)
 ·exact (show Tryz.prog.wantsStandIn 72=false by kernel_rfl)
theorem card:Rows.ProbeFitsCardSaid:=
 Claim7.holds_tied_plain_at .later [] _ _ _ _ said (fun _ h=>by cases h) (by kernel_rfl) (fun _ h=>by cases h) probeFits_row_tie rfl ⟨rfl,rfl⟩ (by kernel_rfl) rfl plain (by kernel_rfl)
end Go.Proofs.YtmkihdjolnlccaaGreatDoor.fitslaw
