/- For every input NumberForms returns true and leaves its arguments as they were, in every world in which the package-level variables that its row lists (four tables) hold what the program's text lays in them. Said, and its tied card. -/
import Derived.Test.YteajibbphcfmeaaGreatDoorCards
import Derived.Test.YteajibbphcfmeaaGreatDoorTie
import Derived.Test.YteajibbphcfmeaaGreatDoorVNf3
import Derived.Test.YteajibbphcfmeaaGreatDoorVAwq
import Derived.Test.YteajibbphcfmeaaGreatDoorVOpn
import Derived.WalkKit
import Derived.ProofKit
import Derived.OpenShut
import Derived.Deep.DeepHandedRow
import Derived.Lib.LaidTab
import Derived.Lib.SmallJoins
import Derived.Stop.LaidErr
import Derived.WideKeyArgs
namespace Go.Proofs.YteajibbphcfmeaaGreatDoor.formslaw
open Go.ChangeShapes Go.WideShapes Go.ChangeAt Go.RowKit Go.Deep
theorem own:ownKnob Tryz.prog.godebug=none:=by kernel_rfl
theorem znI:laidOutB Tryz.prog=true:=by kernel_rfl
theorem zm3:Tryz.prog.cellsOf 3=1:=by kernel_rfl
theorem zoj:Tryz.prog.cellsOf 5=1:=by kernel_rfl
theorem zoa:Tryz.prog.cellsOf 120=1:=by kernel_rfl
theorem gTz:Tryz.prog.globalNamed "math/bits.deBruijn64tab" = some 3:=by kernel_rfl
theorem zlZ:Tryz.prog.globalNamed "strobe/number.precisions" = some 1:=by kernel_rfl
theorem gPow:Tryz.prog.globalNamed "internal/strconv.uint64pow10" = some 6:=by kernel_rfl
section
variable {P:Program} {w:World} {base:Nat} {spare:Nat→Bool} {held:Bool} {H:Type} {enc:TypeId × Value→H}
theorem zkY {r:Reach} {b0:Nat} {t e:TypeId} {v:Value} {d:DataW H} {p:List MemPlace} (ht:P.underlying t=some (.array 2 e)) (he:P.underlying e=some (.int .i64)) (hC:P.cellsOf t=2) (ce:P.cellsOf e=1)
  (hv:Value.okWide P w r b0 t v) (h:DataW.Trod enc P w base spare held t v d p):∃ a b:Int,v = .agg #[.int .i64 a,.int .i64 b]:=by
 obtain ⟨cs,rfl,aC⟩:∃ cs,v = .agg cs∧cs.size=P.cellsOf t:=by
  simp only [Value.okWide,ht] at hv
  obtain ⟨cs,h1,h2,_⟩:=hv
  exact ⟨cs,h1,h2⟩
 obtain ⟨c0,c1,rfl⟩:∃ c0 c1,cs=#[c0,c1]:=by
  have h2:=aC.trans hC
  obtain ⟨l⟩:=cs
  match l,h2 with
  | [c0,c1],_=>exact ⟨c0,c1,rfl⟩
 obtain ⟨aE,hf⟩:=h
 obtain ⟨xs,k,_,_,_,aG,aA⟩:=DataW.trod_array ht hf
 have one:∀ j (hj:j<2),∃ b:Int,#[c0,c1][j]? = some (.int .i64 b):=fun j hj=>by
  have h3:=aA j hj
  rw [List.getElem?_eq_getElem (by omega)] at h3
  obtain ⟨b,hb,_⟩:=DataW.trod_int he h3
  rw [ce,Nat.mul_one] at hb
  refine ⟨b,?_⟩
  have h4:=congrArg (fun l:List Value=>l[0]?) hb
  match j,hj with
  | 0,_=>simpa [Value.cells] using h4
  | 1,_=>simpa [Value.cells] using h4
 obtain ⟨a,ha⟩:=one 0 (by omega)
 obtain ⟨b,hb⟩:=one 1 (by omega)
 have aF:c0 = .int .i64 a:=by simpa using ha
 have aD:c1 = .int .i64 b:=by simpa using hb
 exact ⟨a,b,by rw [aF,aD]⟩
end
set_option maxRecDepth 100000 in
theorem tabs {W:World} (h:laidMetH Tryz.prog Rows.numberFormsRow.laid W) (hs:W.ShapedOpen Tryz.prog):Tabs W:=by
 have h1:laidMet Tryz.prog Rows.numberFormsRow.laid W:=h
 have h2:=laidMet.tail h1
 have h3:=laidMet.tail h2
 have t2:Lib.TabIs Tryz.prog W "math/bits.deBruijn64tab" .u8 (Lib.deBruijn64tab.map fun (n:Nat)=>(n:Int)):=
  Lib.tabIs_of_head gTz (by kernel_rfl) Tryz.underlying231 Tryz.underlying5 zoj (by kernel_rfl) h2
 have t3:Lib.TabIs Tryz.prog W "internal/strconv.uint64pow10" .u64 Lib.pow10Tab:=
  Lib.tabIs_of_head gPow (by kernel_rfl) Tryz.underlying244 Tryz.underlying120 zoa (by kernel_rfl) h3
 have h4:=laidMet.tail h3
 have t4:Lib.TabIs Tryz.prog W "strobe/number.precisions" .i64 [48,96,192]:=
  Lib.tabIs_of_head zlZ (by kernel_rfl) Tryz.underlying228 Tryz.underlying3 zm3 (by kernel_rfl) h4
 refine ⟨fun j hj => ?_,t3,?_,⟨by simpa using t4.cell zlZ 0 (by decide),by simpa using t4.cell zlZ 1 (by decide),by simpa using t4.cell zlZ 2 (by decide)⟩⟩
 ·have:=t2.cell gTz j (by simpa using hj)
  rw [this]
  simp [List.getD,List.getElem?_map,List.getElem?_eq_getElem hj]
 ·exact cell_of_shapedOpen_int (zero:=#[.int .i64 0]) (t:=3) hs (of_decide_eq_true (by kernel_rfl)) (by kernel_rfl) rfl (by kernel_rfl) (by kernel_rfl) Tryz.underlying3
set_option maxRecDepth 100000 in
theorem zl9 (H:Type) (enc:TypeId × Value→H) (W:World) (base:Nat) (args:Array Value) (ds gs:List (DataW H)) (before:List MemPlace)
  (hval:∀ (j:Nat) t v,Tryz.f4.params[j]? = some t→args[j]? = some v→Value.okWide Tryz.prog W .any base t v)
  (hW:DataW.Whole enc Tryz.prog Tryz.f4.params.toList Rows.numberFormsSpec.vars false W args.toList ds gs before) (hL:laidMetH Tryz.prog Rows.numberFormsRow.laid W) (hS:W.ShapedOpen Tryz.prog) :
  Calls Tryz.prog 4 args W fun e W'=>∃ v,e = .returned v∧Rows.numberFormsSpec.post enc Tryz.prog Tryz.f4 false true false false W args v W':=by
 have aG:=hW
 obtain ⟨p,q,aH,hV,rfl,aN,aJ⟩:=hW
 have hA:DataW.TrodAll enc Tryz.prog W 0 (fun _=>true) true Tryz.f4.params.toList args.toList ds p:=aH
 rw [Tryz.params4] at hA hval
 obtain ⟨v0,aM,d0,aK,p0,q0,aF,rfl,rfl,h0,r0⟩:=trodAll_cons hA
 obtain ⟨v1,aO,d1,aI,p1,q1,rfl,rfl,rfl,h1,r1⟩:=trodAll_cons r0
 obtain ⟨v2,aL,d2,aP,p2,q2,rfl,rfl,rfl,h2,r2⟩:=trodAll_cons r1
 obtain ⟨rfl,rfl,rfl⟩:=trodAll_nil r2
 obtain rfl:args=#[v0,v1,v2]:=by cases args;simp_all
 obtain ⟨rfl,rfl⟩:=trodVars_none hV
 obtain ⟨s,rfl⟩:=okWide_string Tryz.underlying9 (hval 0 9 v0 rfl rfl)
 obtain ⟨n0,n1,rfl⟩:=zkY Tryz.underlying38 Tryz.underlying3 (by kernel_rfl) zm3 (hval 1 38 v1 rfl rfl) h1
 obtain ⟨a,rfl⟩:=okWide_string Tryz.underlying22 (hval 2 22 v2 rfl rfl)
 have aA:=zjS s a n0 n1 W zkV (tabs hL hS)
 have aD:∀ x ∈ p0++(p1++(p2++[]))++[],x.block<W.heap.size:=fun x hx=>aG.lt x hx
 refine aA.mono fun e W' ⟨he,hb⟩ => ?_
 subst he
 have st:∀ (t:TypeId) (v:Value) (d:DataW H) (ps:List MemPlace) (sp:Nat→Bool),Tryz.prog.readableRec t=true→t<Tryz.prog.types.size→DataW.Trod enc Tryz.prog W 0 (fun _=>true) true t v d ps →
   (∀ x ∈ ps,x.block<W.heap.size)→(∀ x ∈ ps,sp x.block=true)→DataW.Trod enc Tryz.prog W' 0 sp true t v d ps:=fun t v d ps sp hr aC h hl hs=>
  WideElems.Trod_stays znI hr aC h (fun x hx=>hb.same (hl x hx)) hs
 refine ⟨_,rfl,zjf (pa:=p0++(p1++(p2++[]))) (pv:=[]) aG (fun _ _ _=>trodAll_cons_mk (shut_bool Tryz.underlying4 _) trodAll_mk0) (fun sp aE => ?_) (fun _ _=>rfl) rfl hb (ok_one (by kernel_rfl) rfl (okWide_bool_mk Tryz.underlying4 _))⟩
 refine trodAll_cons_mk (st _ _ _ _ sp (by kernel_rfl) (of_decide_eq_true (by kernel_rfl)) h0 (fun x hx=>aD x (by simp [hx])) (fun x hx=>aE x (by simp [hx]))) ?_
 refine trodAll_cons_mk (st _ _ _ _ sp (by kernel_rfl) (of_decide_eq_true (by kernel_rfl)) h1 (fun x hx=>aD x (by simp [hx])) (fun x hx=>aE x (by simp [hx]))) ?_
 exact trodAll_cons_mk (st _ _ _ _ sp (by kernel_rfl) (of_decide_eq_true (by kernel_rfl)) h2 (fun x hx=>aD x (by simp [hx])) (fun x hx=>aE x (by simp [hx]))) trodAll_mk0
def zd9 (cs:Array Value):Obj→Obj
 | .cells _ t frozen => .cells cs t frozen
 | o=>o
def zox:List Nat:=[0,1,28,2,29,14,24,3,30,22,20,15,25,17,4,8,31,27,13,23,21,19,16,7,26,12,18,6,11,5,10,9]
noncomputable def zeT (os:Os):World:=
 { (World.holding Tryz.prog os ⟨#[],#[],[]⟩) with heap:=(((((World.holding Tryz.prog os ⟨#[],#[],[]⟩).heap.modify 7 (zd9 (zox.map fun (n:Nat)=>Value.int .u8 (n:Int)).toArray)).modify 3 (zd9 (Lib.deBruijn64tab.map fun (n:Nat)=>Value.int .u8 (n:Int)).toArray)).modify 6 (zd9 (Lib.pow10Tab.map fun n=>Value.int .u64 n).toArray)).modify 1 (zd9 #[.int .i64 48,.int .i64 96,.int .i64 192])) }
def zl4:Array Value:=#[.string { data:=#[] },.agg #[.int .i64 0,.int .i64 0],.string { data:=#[] }]
set_option maxRecDepth 100000 in
theorem zmO (os:Os):laidMet Tryz.prog Rows.numberFormsRow.laid ((zeT os).forCall (fun _ _=>0) ⟨#[],zl4,[]⟩).memory:=
 laidMet_of_run' 8 (by kernel_rfl) (by kernel_rfl)
set_option maxRecDepth 100000 in
theorem reads (os:Os) {H:Type} (enc:TypeId × Value→H):∃ places,DataW.whole enc Tryz.prog ((zeT os).forCall (fun _ _=>0) ⟨#[],zl4,[]⟩).memory Tryz.f4.params.toList Rows.numberFormsSpec.vars false zl4.toList 8=some ([.lit (.string []),.agg [.lit (.int .i64 0),.lit (.int .i64 0)],.lit (.string [])],[],places):=
 ⟨[],by kernel_rfl⟩
set_option maxRecDepth 100000 in
theorem zol (os:Os) (started:os.Started) (H:Type) (enc:TypeId × Value→H) (F:Stop.Interp) :
  ReturnsInHanded {} Tryz.checked os 4 .any ((OpenSpec.ofChange Rows.numberFormsSpec).preRow enc Tryz.prog Tryz.f4 Rows.numberFormsRow.domain false Rows.numberFormsRow.laid) (((OpenSpec.ofChange Rows.numberFormsSpec).at F).post enc Tryz.prog Tryz.f4 false true false false):=by
 obtain ⟨aE,hx⟩:=reads os enc
 refine returnsInHanded_of_row (C:=Tryz.checked) (s:=OpenSpec.ofChange Rows.numberFormsSpec) own started (by kernel_rfl) Tryz.func4
  (witness_row_at (enc:=enc) (C:=Tryz.checked) false (zeT os) zl4 rfl (by kernel_rfl) (by kernel_rfl) (by kernel_rfl)
   (OpenSpec.preRow_of_cond 8 hx (by kernel_rfl) (fun k hk=>by cases hk) (by kernel_rfl) (zmO os))) ?_
 intro W aF aC ds gs aA aD hW _ _ _ hL hS _
 exact zl9 H enc W aF aC ds gs aA aD hW hL hS
theorem said:Rows.NumberFormsSaid:=
 OpenClaim.holds_of_cond 4 Tryz.f4 rfl rfl rfl rfl rfl rfl rfl ⟨rfl,rfl,rfl,rfl,rfl⟩ rfl rfl rfl rfl rfl (by kernel_rfl) Tryz.func4 (by kernel_rfl)
  (of_decide_eq_true (by kernel_rfl)) (by unfold Func.isWrapper;first | (rw [if_pos (by decide +kernel)];kernel_rfl) | (rw [if_neg (by decide +kernel)];exact ⟨rfl,rfl⟩))
  (fun os started H enc _ F=>by rw [OpenClaim.pre_eq_preRow];exact zol os started H enc F)
theorem zoz (f:FuncId) (fn:Func) (hf:Tryz.pinned.checked.prog.funcNamed "strobe/strobelaw01.NumberForms" = some f) (hfn:Tryz.pinned.checked.prog.funcs[f]? = some fn) :
  false=Tryz.pinned.checked.prog.looks []∧∀ (j:Nat) t,fn.params[j]? = some t→Tryz.pinned.checked.prog.wantsStandIn t=false:=by
 obtain rfl:f=4:=Option.some.inj ((show Tryz.prog.funcNamed "strobe/strobelaw01.NumberForms" = some 4 by kernel_rfl).symm.trans hf) |>.symm
 obtain rfl:fn=Tryz.f4:=(Option.some.inj (Tryz.func4.symm.trans hfn)).symm
 refine ⟨by kernel_rfl,fun j t ht => ?_⟩
 rw [Tryz.params4] at ht
 have hm:=Array.mem_of_getElem? ht
 simp at hm
 rcases hm with rfl | rfl | rfl
 ·exact (show Tryz.prog.wantsStandIn 9=false by kernel_rfl)
 ·exact (show Tryz.prog.wantsStandIn 38=false by kernel_rfl)
 ·exact (show Tryz.prog.wantsStandIn 22=false by kernel_rfl)
theorem card:Rows.NumberFormsCardSaid:=
 Claim7.holds_tied_plain_at .later [] _ _ _ _ said (fun _ h=>by cases h) (by kernel_rfl) (fun _ h=>by cases h) numberForms_row_tie rfl ⟨rfl,rfl⟩ (by kernel_rfl) rfl zoz (by kernel_rfl)
end Go.Proofs.YteajibbphcfmeaaGreatDoor.formslaw
