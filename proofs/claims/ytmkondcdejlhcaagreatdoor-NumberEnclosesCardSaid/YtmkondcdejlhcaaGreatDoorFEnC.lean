/- For every input NumberEncloses returns true and leaves its arguments as they were, in every world in which the package-level variables that its row lists (four tables) hold what the program's text lays in them. Said, and its tied card. -/
import Derived.Test.YtmkondcdejlhcaaGreatDoorCards
import Derived.Test.YtmkondcdejlhcaaGreatDoorTie
import Derived.Test.YtmkondcdejlhcaaGreatDoorFAwq
import Derived.Test.YtmkondcdejlhcaaGreatDoorFOpn
import Derived.Deep.DeepHandedRow
import Derived.Lib.SmallJoins
import Derived.Stop.LaidErr
set_option maxRecDepth 100000
namespace Go.Proofs.YtmkondcdejlhcaaGreatDoor.encllaw
open Go.ChangeShapes Go.WideShapes Go.ChangeAt Go.RowKit Go.Deep
theorem own:ownKnob Tryz.prog.godebug=none:=by kernel_rfl
theorem zpo:laidOutB Tryz.prog=true:=by kernel_rfl
theorem zpH:Tryz.prog.cellsOf 3=1:=by kernel_rfl
theorem zpL:Tryz.prog.cellsOf 5=1:=by kernel_rfl
theorem zpU:Tryz.prog.cellsOf 136=1:=by kernel_rfl
theorem gTz:Tryz.prog.globalNamed "math/bits.deBruijn64tab" = some 3:=by kernel_rfl
theorem znA:Tryz.prog.globalNamed "strobe/number.precisions" = some 1:=by kernel_rfl
theorem gPow:Tryz.prog.globalNamed "internal/strconv.uint64pow10" = some 6:=by kernel_rfl
section
variable {P:Program} {w:World} {base:Nat} {spare:Nat→Bool} {held:Bool} {H:Type} {enc:TypeId × Value→H}
theorem zp1{α:Type}{cs:Array α}(h:cs.size=2):∃ c0 c1,cs=#[c0,c1]:=by
 obtain⟨l⟩:=cs
 match l,h with
 | [c0,c1],_=>exact⟨c0,c1,rfl⟩
theorem zhd{r:Reach}{b0:Nat}{t:TypeId}{f0 f1:Field}{v:Value}{d:DataW H}{p:List MemPlace}(hs:P.underlying t=some (.struct #[f0,f1]))(hone:oneCellFields P #[f0,f1]=true)(hC:P.cellsOf t=2)
 (hv:Value.okWide P w r b0 t v)(h:DataW.Trod enc P w base spare held t v d p) :
  ∃ (v0 v1:Value) (y0 y1:DataW H × List MemPlace) (n:Nat),v = .agg #[v0,v1] ∧
   DataW.trod enc P w base spare held n f0.type [v0]=some y0∧DataW.trod enc P w base spare held n f1.type [v1]=some y1:=by
 obtain⟨cs,rfl,aC⟩:=okWide_struct hs hv;obtain⟨c0,c1,rfl⟩:=zp1 (aC.trans hC);obtain⟨aD,hf⟩:=h;obtain⟨xs,n,_,_,hl,aA,hf⟩:=DataW.trod_struct hs hf;obtain⟨o0,k0⟩:=hone_of hone 0 f0 rfl;obtain⟨o1,k1⟩:=hone_of hone 1 f1 rfl
 match xs,aA with
 | [y0,y1],_=>exact⟨c0,c1,y0,y1,n,rfl,by simpa[Value.cells,o0,k0] using hf 0 f0 rfl,by simpa[Value.cells,o1,k1] using hf 1 f1 rfl⟩
end
theorem zjk{n:Int}(h:(Lit.int .u8 n).wf=true):0≤n∧n≤255:=by
 unfold Lit.wf at h;simp only[Bool.and_eq_true,decide_eq_true_eq] at h
 have h1:IntKind.u8.min=0:=by decide
 have h2:IntKind.u8.max=255:=by decide
 omega
theorem tabs{W:World}(h:laidMetH Tryz.prog Rows.numberEnclosesRow.laid W)(hs:W.ShapedOpen Tryz.prog):Tabs W:=by
 have h1:laidMet Tryz.prog Rows.numberEnclosesRow.laid W:=h;have h2:=laidMet.tail h1;have h3:=laidMet.tail h2;have t2:Lib.TabIs Tryz.prog W "math/bits.deBruijn64tab" .u8 (Lib.deBruijn64tab.map fun (n:Nat)=>(n:Int)):=
  Lib.tabIs_of_head gTz (by kernel_rfl) Tryz.underlying231 Tryz.underlying5 zpL (by kernel_rfl) h2
 have t3:Lib.TabIs Tryz.prog W "internal/strconv.uint64pow10" .u64 Lib.pow10Tab:=
  Lib.tabIs_of_head gPow (by kernel_rfl) Tryz.underlying244 Tryz.underlying136 zpU (by kernel_rfl) h3
 have h4:=laidMet.tail h3;have t4:Lib.TabIs Tryz.prog W "strobe/number.precisions" .i64 [48,96,192]:=
  Lib.tabIs_of_head znA (by kernel_rfl) Tryz.underlying228 Tryz.underlying3 zpH (by kernel_rfl) h4
 refine⟨fun j hj => ?_,t3,?_,⟨by simpa using t4.cell znA 0 (by decide),by simpa using t4.cell znA 1 (by decide),by simpa using t4.cell znA 2 (by decide)⟩⟩
 ·have:=t2.cell gTz j (by simpa using hj)
  rw[this];simp[List.getD,List.getElem?_map,List.getElem?_eq_getElem hj]
 ·exact cell_of_shapedOpen_int (zero:=#[.int .i64 0]) (t:=3) hs (of_decide_eq_true (by kernel_rfl)) (by kernel_rfl) rfl (by kernel_rfl) (by kernel_rfl) Tryz.underlying3
theorem zoe(H:Type)(enc:TypeId × Value→H)(W:World)(base:Nat)(args:Array Value)(ds gs:List (DataW H))(before:List MemPlace)
 (hval:∀ (j:Nat) t v,Tryz.f4.params[j]? = some t→args[j]? = some v→Value.okWide Tryz.prog W .any base t v)
 (hW:DataW.Whole enc Tryz.prog Tryz.f4.params.toList Rows.numberEnclosesSpec.vars false W args.toList ds gs before)(hL:laidMetH Tryz.prog Rows.numberEnclosesRow.laid W)(hS:W.ShapedOpen Tryz.prog) :
  Calls Tryz.prog 4 args W fun e W'=>∃ v,e = .returned v∧Rows.numberEnclosesSpec.post enc Tryz.prog Tryz.f4 false true false false W args v W':=by
 have aL:=hW;obtain⟨p,q,aO,hV,rfl,bA,aW⟩:=hW;have hA:DataW.TrodAll enc Tryz.prog W 0 (fun _=>true) true Tryz.f4.params.toList args.toList ds p:=aO;rw[Tryz.params4] at hA hval;obtain⟨v0,aV,d0,bB,p0,q0,aM,rfl,rfl,h0,r0⟩:=trodAll_cons hA;obtain⟨v1,aX,d1,aZ,p1,q1,rfl,rfl,rfl,h1,r1⟩:=trodAll_cons r0;obtain⟨v2,aY,d2,aU,p2,q2,rfl,rfl,rfl,h2,r2⟩:=trodAll_cons r1;obtain⟨rfl,rfl,rfl⟩:=trodAll_nil r2;obtain rfl:args=#[v0,v1,v2]:=by cases args;simp_all
 obtain⟨rfl,rfl⟩:=trodVars_none hV;obtain⟨x0,y0,_,_,_,rfl,aS,aN⟩:=zhd Tryz.underlying39 (by kernel_rfl) (by kernel_rfl) (hval 0 39 v0 rfl rfl) h0;obtain⟨s,aA,_⟩:=DataW.trod_string Tryz.underlying22 aS;obtain⟨t,aF,_⟩:=DataW.trod_string Tryz.underlying22 aN;injection aA with aA
 injection aF with aF
 subst aA aF;obtain⟨x1,y1,_,_,_,rfl,aP,aR⟩:=zhd Tryz.underlying39 (by kernel_rfl) (by kernel_rfl) (hval 1 39 v1 rfl rfl) h1;obtain⟨s2,aI,_⟩:=DataW.trod_string Tryz.underlying22 aP;obtain⟨t2,aE,_⟩:=DataW.trod_string Tryz.underlying22 aR;injection aI with aI
 injection aE with aE
 subst aI aE;obtain⟨x2,y2,_,_,_,rfl,aT,aQ⟩:=zhd Tryz.underlying41 (by kernel_rfl) (by kernel_rfl) (hval 2 41 v2 rfl rfl) h2;obtain⟨a,aC,ra⟩:=DataW.trod_int Tryz.underlying5 aT;obtain⟨b,aK,rb⟩:=DataW.trod_int Tryz.underlying5 aQ;injection aC with aC
 injection aK with aK
 subst aC aK;have aD:=znI s t s2 t2 a b (zjk ra.2) (zjk rb.2) W zmy (tabs hL hS);have aJ:∀ x ∈ p0++(p1++(p2++[]))++[],x.block<W.heap.size:=fun x hx=>aL.lt x hx
 refine aD.mono fun e W' ⟨he,hb⟩ => ?_
 subst he;have st:∀ (t:TypeId) (v:Value) (d:DataW H) (ps:List MemPlace) (sp:Nat→Bool),Tryz.prog.readableRec t=true→t<Tryz.prog.types.size→DataW.Trod enc Tryz.prog W 0 (fun _=>true) true t v d ps →
   (∀ x ∈ ps,x.block<W.heap.size)→(∀ x ∈ ps,sp x.block=true)→DataW.Trod enc Tryz.prog W' 0 sp true t v d ps:=fun t v d ps sp hr aG h hl hs=>
  WideElems.Trod_stays zpo hr aG h (fun x hx=>hb.same (hl x hx)) hs
 refine⟨_,rfl,zkb (pa:=p0++(p1++(p2++[]))) (pv:=[]) aL (fun _ _ _=>trodAll_cons_mk (shut_bool Tryz.underlying4 _) trodAll_mk0) (fun sp aH => ?_) (fun _ _=>rfl) rfl hb (ok_one (by kernel_rfl) rfl (okWide_bool_mk Tryz.underlying4 _))⟩;refine trodAll_cons_mk (st _ _ _ _ sp (by kernel_rfl) (of_decide_eq_true (by kernel_rfl)) h0 (fun x hx=>aJ x (by simp[hx])) (fun x hx=>aH x (by simp[hx]))) ?_;refine trodAll_cons_mk (st _ _ _ _ sp (by kernel_rfl) (of_decide_eq_true (by kernel_rfl)) h1 (fun x hx=>aJ x (by simp[hx])) (fun x hx=>aH x (by simp[hx]))) ?_;exact trodAll_cons_mk (st _ _ _ _ sp (by kernel_rfl) (of_decide_eq_true (by kernel_rfl)) h2 (fun x hx=>aJ x (by simp[hx])) (fun x hx=>aH x (by simp[hx]))) trodAll_mk0
def zeF (cs:Array Value):Obj→Obj
 | .cells _ t frozen => .cells cs t frozen
 | o=>o
def zqk:List Nat:=[0,1,28,2,29,14,24,3,30,22,20,15,25,17,4,8,31,27,13,23,21,19,16,7,26,12,18,6,11,5,10,9]
noncomputable def zf6 (os:Os):World:=
 { (World.holding Tryz.prog os ⟨#[],#[],[]⟩) with heap:=(((((World.holding Tryz.prog os ⟨#[],#[],[]⟩).heap.modify 7 (zeF (zqk.map fun (n:Nat)=>Value.int .u8 (n:Int)).toArray)).modify 3 (zeF (Lib.deBruijn64tab.map fun (n:Nat)=>Value.int .u8 (n:Int)).toArray)).modify 6 (zeF (Lib.pow10Tab.map fun n=>Value.int .u64 n).toArray)).modify 1 (zeF #[.int .i64 48,.int .i64 96,.int .i64 192])) }
def znb:Array Value:=#[.agg #[.string ⟨#[]⟩,.string ⟨#[]⟩],.agg #[.string ⟨#[]⟩,.string ⟨#[]⟩],.agg #[.int .u8 0,.int .u8 0]]
theorem znD(os:Os):laidMet Tryz.prog Rows.numberEnclosesRow.laid ((zf6 os).forCall (fun _ _=>0) ⟨#[],znb,[]⟩).memory:=
 laidMet_of_run' 8 (by kernel_rfl) (by kernel_rfl)
theorem reads (os:Os) {H:Type} (enc:TypeId × Value→H):∃ places,DataW.whole enc Tryz.prog ((zf6 os).forCall (fun _ _=>0) ⟨#[],znb,[]⟩).memory Tryz.f4.params.toList Rows.numberEnclosesSpec.vars false znb.toList 8=some ([.agg [.lit (.string []),.lit (.string [])],.agg [.lit (.string []),.lit (.string [])],.agg [.lit (.int .u8 0),.lit (.int .u8 0)]],[],places):=
 ⟨[],by kernel_rfl⟩
theorem zpF (os:Os) (started:os.Started) (H:Type) (enc:TypeId × Value→H) (F:Stop.Interp) :
  ReturnsInHanded {} Tryz.checked os 4 .any ((OpenSpec.ofChange Rows.numberEnclosesSpec).preRow enc Tryz.prog Tryz.f4 Rows.numberEnclosesRow.domain false Rows.numberEnclosesRow.laid) (((OpenSpec.ofChange Rows.numberEnclosesSpec).at F).post enc Tryz.prog Tryz.f4 false true false false):=by
 obtain⟨aE,hx⟩:=reads os enc;refine returnsInHanded_of_row (C:=Tryz.checked) (s:=OpenSpec.ofChange Rows.numberEnclosesSpec) own started (by kernel_rfl) Tryz.func4
  (witness_row_at (enc:=enc) (C:=Tryz.checked) false (zf6 os) znb rfl (by kernel_rfl) (by kernel_rfl) (by kernel_rfl)
   (OpenSpec.preRow_of_cond 8 hx (by kernel_rfl) (fun k hk=>by cases hk) (by kernel_rfl) (znD os))) ?_
 intro W aC aF ds gs aA aD hW _ _ _ hL hS _;exact zoe H enc W aC aF ds gs aA aD hW hL hS
theorem said:Rows.NumberEnclosesSaid:=
 OpenClaim.holds_of_cond 4 Tryz.f4 rfl rfl rfl rfl rfl rfl rfl ⟨rfl,rfl,rfl,rfl,rfl⟩ rfl rfl rfl rfl rfl (by kernel_rfl) Tryz.func4 (by kernel_rfl)
  (of_decide_eq_true (by kernel_rfl)) (by unfold Func.isWrapper;first | (rw[if_pos (by decide +kernel)];kernel_rfl) | (rw[if_neg (by decide +kernel)];exact⟨rfl,rfl⟩))
  (fun os started H enc _ F=>by rw[OpenClaim.pre_eq_preRow];exact zpF os started H enc F)
theorem zql(f:FuncId)(fn:Func)(hf:Tryz.pinned.checked.prog.funcNamed "strobe/strobelaw01.NumberEncloses" = some f)(hfn:Tryz.pinned.checked.prog.funcs[f]? = some fn) :
  false=Tryz.pinned.checked.prog.looks []∧∀ (j:Nat) t,fn.params[j]? = some t→Tryz.pinned.checked.prog.wantsStandIn t=false:=by
 obtain rfl:f=4:=Option.some.inj ((show Tryz.prog.funcNamed "strobe/strobelaw01.NumberEncloses" = some 4 by kernel_rfl).symm.trans hf) |>.symm
 obtain rfl:fn=Tryz.f4:=(Option.some.inj (Tryz.func4.symm.trans hfn)).symm;refine⟨by kernel_rfl,fun j t ht => ?_⟩;rw[Tryz.params4] at ht;have hm:=Array.mem_of_getElem? ht;simp at hm
 rcases hm with rfl | rfl
 ·exact(show Tryz.prog.wantsStandIn 39=false by kernel_rfl)
 ·exact(show Tryz.prog.wantsStandIn 41=false by kernel_rfl)
theorem card:Rows.NumberEnclosesCardSaid:=
 Claim7.holds_tied_plain_at .later [] _ _ _ _ said (fun _ h=>by cases h) (by kernel_rfl) (fun _ h=>by cases h) numberEncloses_row_tie rfl ⟨rfl,rfl⟩ (by kernel_rfl) rfl zql (by kernel_rfl)
end Go.Proofs.YtmkondcdejlhcaaGreatDoor.encllaw
