/- For every input TopBeamTables returns true and leaves its arguments as they were, in every world in which the package-level variables that its row lists (four tables) hold what the program's text lays in them. Said, and its tied card. -/
import Derived.Test.YtbkgkoenppkhpaaGreatDoorCards
import Derived.Test.YtbkgkoenppkhpaaGreatDoorTie
import Derived.Test.YtbkgkoenppkhpaaGreatDoorGTb8
import Derived.WalkKit
import Derived.ProofKit
import Derived.OpenShut
import Derived.Deep.DeepHandedRow
import Derived.Lib.LaidTab
import Derived.Lib.SmallJoins
import Derived.Stop.LaidErr
import Derived.WideKeyArgs
set_option maxRecDepth 100000
namespace Go.Proofs.YtbkgkoenppkhpaaGreatDoor.tableslaw
open Go.ChangeShapes Go.WideShapes Go.ChangeAt Go.RowKit Go.Deep
theorem own:ownKnob Tryz.prog.godebug=none:=by kernel_rfl
theorem zob:laidOutB Tryz.prog=true:=by kernel_rfl
theorem zo2:Tryz.prog.cellsOf 3=1:=by kernel_rfl
theorem znP:Tryz.prog.cellsOf 5=1:=by kernel_rfl
theorem zoV:Tryz.prog.cellsOf 116=1:=by kernel_rfl
theorem gTz:Tryz.prog.globalNamed "math/bits.deBruijn64tab" = some 3:=by kernel_rfl
theorem znv:Tryz.prog.globalNamed "strobe/number.precisions" = some 1:=by kernel_rfl
theorem gPow:Tryz.prog.globalNamed "internal/strconv.uint64pow10" = some 6:=by kernel_rfl
theorem zmZ {n:Int} (h:(Lit.int .u8 n).wf=true):0≤n∧n≤255:=by
 unfold Lit.wf at h;simp only [Bool.and_eq_true,decide_eq_true_eq] at h
 have h1:IntKind.u8.min=0:=by decide
 have h2:IntKind.u8.max=255:=by decide
 omega
theorem zpg:Tryz.prog.cellsOf 70=2:=by kernel_rfl
section
variable {P:Program} {w:World} {base:Nat} {spare:Nat→Bool} {held:Bool} {H:Type} {enc:TypeId × Value→H}
theorem znD {r:Reach} {b0:Nat} {t e:TypeId} {v:Value} {d:DataW H} {p:List MemPlace} (ht:P.underlying t=some (.array 2 e)) (he:P.underlying e=some (.int .u8)) (hC:P.cellsOf t=2) (ce:P.cellsOf e=1)
  (hv:Value.okWide P w r b0 t v) (h:DataW.Trod enc P w base spare held t v d p):∃ a b:Int,(0≤a∧a≤255)∧(0≤b∧b≤255)∧v = .agg #[.int .u8 a,.int .u8 b]:=by
 obtain ⟨cs,rfl,aC⟩:∃ cs,v = .agg cs∧cs.size=P.cellsOf t:=by
  simp only [Value.okWide,ht] at hv
  obtain ⟨cs,h1,h2,_⟩:=hv;exact ⟨cs,h1,h2⟩
 obtain ⟨c0,c1,rfl⟩:∃ c0 c1,cs=#[c0,c1]:=by
  have h2:=aC.trans hC;obtain ⟨l⟩:=cs
  match l,h2 with
  | [c0,c1],_=>exact ⟨c0,c1,rfl⟩
 obtain ⟨aD,hf⟩:=h;obtain ⟨xs,k,_,_,_,aG,aE⟩:=DataW.trod_array ht hf;have one:∀ j (hj:j<2),∃ b:Int,(0≤b∧b≤255)∧#[c0,c1][j]? = some (.int .u8 b):=fun j hj=>by
  have h3:=aE j hj;rw [List.getElem?_eq_getElem (by omega)] at h3;obtain ⟨b,hb,rb⟩:=DataW.trod_int he h3;rw [ce,Nat.mul_one] at hb;refine ⟨b,zmZ rb.2,?_⟩;have h4:=congrArg (fun l:List Value=>l[0]?) hb
  match j,hj with
  | 0,_=>simpa [Value.cells] using h4
  | 1,_=>simpa [Value.cells] using h4
 obtain ⟨a,ra,ha⟩:=one 0 (by omega);obtain ⟨b,rb,hb⟩:=one 1 (by omega);have aF:c0 = .int .u8 a:=by simpa using ha
 have aA:c1 = .int .u8 b:=by simpa using hb
 exact ⟨a,b,ra,rb,by rw [aF,aA]⟩
end
theorem tabs {W:World} (h:laidMetH Tryz.prog Rows.topBeamTablesRow.laid W) (hs:W.ShapedOpen Tryz.prog):Tabs W:=by
 have h1:laidMet Tryz.prog Rows.topBeamTablesRow.laid W:=h;have h2:=laidMet.tail h1;have h3:=laidMet.tail h2;have t2:Lib.TabIs Tryz.prog W "math/bits.deBruijn64tab" .u8 (Lib.deBruijn64tab.map fun (n:Nat)=>(n:Int)):=
  Lib.tabIs_of_head gTz (by kernel_rfl) Tryz.underlying239 Tryz.underlying5 znP (by kernel_rfl) h2
 have t3:Lib.TabIs Tryz.prog W "internal/strconv.uint64pow10" .u64 Lib.pow10Tab:=
  Lib.tabIs_of_head gPow (by kernel_rfl) Tryz.underlying252 Tryz.underlying116 zoV (by kernel_rfl) h3
 have h4:=laidMet.tail h3;have t4:Lib.TabIs Tryz.prog W "strobe/number.precisions" .i64 [48,96,192]:=
  Lib.tabIs_of_head znv (by kernel_rfl) Tryz.underlying236 Tryz.underlying3 zo2 (by kernel_rfl) h4
 refine ⟨fun j hj => ?_,t3,?_,⟨by simpa using t4.cell znv 0 (by decide),by simpa using t4.cell znv 1 (by decide),by simpa using t4.cell znv 2 (by decide)⟩⟩
 ·have:=t2.cell gTz j (by simpa using hj)
  rw [this];simp [List.getD,List.getElem?_map,List.getElem?_eq_getElem hj]
 ·exact cell_of_shapedOpen_int (zero:=#[.int .i64 0]) (t:=3) hs (of_decide_eq_true (by kernel_rfl)) (by kernel_rfl) rfl (by kernel_rfl) (by kernel_rfl) Tryz.underlying3
theorem zm5 (H:Type) (enc:TypeId × Value→H) (W:World) (base:Nat) (args:Array Value) (ds gs:List (DataW H)) (before:List MemPlace)
  (hval:∀ (j:Nat) t v,Tryz.f6.params[j]? = some t→args[j]? = some v→Value.okWide Tryz.prog W .any base t v)
  (hW:DataW.Whole enc Tryz.prog Tryz.f6.params.toList Rows.topBeamTablesSpec.vars false W args.toList ds gs before) (hL:laidMetH Tryz.prog Rows.topBeamTablesRow.laid W) (hS:W.ShapedOpen Tryz.prog) :
  Calls Tryz.prog 6 args W fun e W'=>∃ v,e = .returned v∧Rows.topBeamTablesSpec.post enc Tryz.prog Tryz.f6 false true false false W args v W':=by
 have aE:=hW;obtain ⟨p,q,aK,hV,rfl,aT,aV⟩:=hW;have hA:DataW.TrodAll enc Tryz.prog W 0 (fun _=>true) true Tryz.f6.params.toList args.toList ds p:=aK;rw [Tryz.params6] at hA hval;obtain ⟨v0,aS,d0,aP,p0,q0,aG,rfl,rfl,h0,r0⟩:=trodAll_cons hA;obtain ⟨v1,aO,d1,aU,p1,q1,rfl,rfl,rfl,h1,r1⟩:=trodAll_cons r0;obtain ⟨rfl,rfl,rfl⟩:=trodAll_nil r1;obtain rfl:args=#[v0,v1]:=by cases args;simp_all
 obtain ⟨rfl,rfl⟩:=trodVars_none hV;obtain ⟨A,n,c,rfl⟩:=okWide_slice Tryz.underlying66 (hval 0 66 v0 rfl rfl);obtain ⟨m0,aM⟩:=id h0;obtain ⟨B0,k0,e0,C,aI,aQ,aW,aR,aF,aJ⟩:=zh9 Tryz.underlying66 Tryz.underlying70 (by kernel_rfl) Tryz.underlying22 Tryz.underlying22 zpg aM;simp only [Value.cells,List.cons.injEq,Value.slice.injEq,and_true] at aI
 obtain ⟨rfl,rfl,rfl⟩:=aI;obtain ⟨a0,a1,aL,aN,rfl⟩:=znD Tryz.underlying67 Tryz.underlying5 (by kernel_rfl) znP (hval 1 67 v1 rfl rfl) h1;unfold maxLen at aF;have aC:=zjR A n c C a0 a1 aL aN W ziE (tabs hL hS) aJ aF;have aD:∀ x ∈ p0++(p1++[])++[],x.block<W.heap.size:=fun x hx=>aE.lt x hx
 refine aC.mono fun e W' ⟨he,hb⟩ => ?_
 subst he;have st:∀ (t:TypeId) (v:Value) (d:DataW H) (ps:List MemPlace) (sp:Nat→Bool),Tryz.prog.readableRec t=true→t<Tryz.prog.types.size→DataW.Trod enc Tryz.prog W 0 (fun _=>true) true t v d ps →
   (∀ x ∈ ps,x.block<W.heap.size)→(∀ x ∈ ps,sp x.block=true)→DataW.Trod enc Tryz.prog W' 0 sp true t v d ps:=fun t v d ps sp hr aA h hl hs=>
  WideElems.Trod_stays zob hr aA h (fun x hx=>hb.same (hl x hx)) hs
 refine ⟨_,rfl,zkk (pa:=p0++(p1++[])) (pv:=[]) aE (fun _ _ _=>trodAll_cons_mk (shut_bool Tryz.underlying4 _) trodAll_mk0) (fun sp aH => ?_) (fun _ _=>rfl) rfl hb (ok_one (by kernel_rfl) rfl (okWide_bool_mk Tryz.underlying4 _))⟩;refine trodAll_cons_mk (st _ _ _ _ sp (by kernel_rfl) (of_decide_eq_true (by kernel_rfl)) h0 (fun x hx=>aD x (by simp [hx])) (fun x hx=>aH x (by simp [hx]))) ?_;exact trodAll_cons_mk (st _ _ _ _ sp (by kernel_rfl) (of_decide_eq_true (by kernel_rfl)) h1 (fun x hx=>aD x (by simp [hx])) (fun x hx=>aH x (by simp [hx]))) trodAll_mk0
def zek (cs:Array Value):Obj→Obj
 | .cells _ t frozen => .cells cs t frozen
 | o=>o
def zps:List Nat:=[0,1,28,2,29,14,24,3,30,22,20,15,25,17,4,8,31,27,13,23,21,19,16,7,26,12,18,6,11,5,10,9]
noncomputable def zf8 (os:Os):World:=
 { (World.holding Tryz.prog os ⟨#[],#[],[]⟩) with heap:=(((((World.holding Tryz.prog os ⟨#[],#[],[]⟩).heap.modify 7 (zek (zps.map fun (n:Nat)=>Value.int .u8 (n:Int)).toArray)).modify 3 (zek (Lib.deBruijn64tab.map fun (n:Nat)=>Value.int .u8 (n:Int)).toArray)).modify 6 (zek (Lib.pow10Tab.map fun n=>Value.int .u64 n).toArray)).modify 1 (zek #[.int .i64 48,.int .i64 96,.int .i64 192])) }
def znl:Array Value:=#[.slice none 0 0,.agg #[.int .u8 0,.int .u8 0]]
theorem znA (os:Os):laidMet Tryz.prog Rows.topBeamTablesRow.laid ((zf8 os).forCall (fun _ _=>0) ⟨#[],znl,[]⟩).memory:=
 laidMet_of_run' 8 (by kernel_rfl) (by kernel_rfl)
theorem reads (os:Os) {H:Type} (enc:TypeId × Value→H):∃ places,DataW.whole enc Tryz.prog ((zf8 os).forCall (fun _ _=>0) ⟨#[],znl,[]⟩).memory Tryz.f6.params.toList Rows.topBeamTablesSpec.vars false znl.toList 8=some ([.nil,.agg [.lit (.int .u8 0),.lit (.int .u8 0)]],[],places):=
 ⟨[],by kernel_rfl⟩
theorem zo0 (os:Os) (started:os.Started) (H:Type) (enc:TypeId × Value→H) (F:Stop.Interp) :
  ReturnsInHanded {} Tryz.checked os 6 .any ((OpenSpec.ofChange Rows.topBeamTablesSpec).preRow enc Tryz.prog Tryz.f6 Rows.topBeamTablesRow.domain false Rows.topBeamTablesRow.laid) (((OpenSpec.ofChange Rows.topBeamTablesSpec).at F).post enc Tryz.prog Tryz.f6 false true false false):=by
 obtain ⟨aE,hx⟩:=reads os enc;refine returnsInHanded_of_row (C:=Tryz.checked) (s:=OpenSpec.ofChange Rows.topBeamTablesSpec) own started (by kernel_rfl) Tryz.func6
  (witness_row_at (enc:=enc) (C:=Tryz.checked) false (zf8 os) znl rfl (by kernel_rfl) (by kernel_rfl) (by kernel_rfl)
   (OpenSpec.preRow_of_cond 8 hx (by kernel_rfl) (fun k hk=>by cases hk) (by kernel_rfl) (znA os))) ?_
 intro W aF aD ds gs aA aC hW _ _ _ hL hS _;exact zm5 H enc W aF aD ds gs aA aC hW hL hS
theorem said:Rows.TopBeamTablesSaid:=
 OpenClaim.holds_of_cond 6 Tryz.f6 rfl rfl rfl rfl rfl rfl rfl ⟨rfl,rfl,rfl,rfl,rfl⟩ rfl rfl rfl rfl rfl (by kernel_rfl) Tryz.func6 (by kernel_rfl)
  (of_decide_eq_true (by kernel_rfl)) (by unfold Func.isWrapper;first | (rw [if_pos (by decide +kernel)];kernel_rfl) | (rw [if_neg (by decide +kernel)];exact ⟨rfl,rfl⟩))
  (fun os started H enc _ F=>by rw [OpenClaim.pre_eq_preRow];exact zo0 os started H enc F)
theorem zpr (f:FuncId) (fn:Func) (hf:Tryz.pinned.checked.prog.funcNamed "strobe/strobetop.TopBeamTables" = some f) (hfn:Tryz.pinned.checked.prog.funcs[f]? = some fn) :
  false=Tryz.pinned.checked.prog.looks []∧∀ (j:Nat) t,fn.params[j]? = some t→Tryz.pinned.checked.prog.wantsStandIn t=false:=by
 obtain rfl:f=6:=Option.some.inj ((show Tryz.prog.funcNamed "strobe/strobetop.TopBeamTables" = some 6 by kernel_rfl).symm.trans hf) |>.symm
 obtain rfl:fn=Tryz.f6:=(Option.some.inj (Tryz.func6.symm.trans hfn)).symm;refine ⟨by kernel_rfl,fun j t ht => ?_⟩;rw [Tryz.params6] at ht;have hm:=Array.mem_of_getElem? ht;simp at hm
 rcases hm with rfl | rfl
 ·exact (show Tryz.prog.wantsStandIn 66=false by kernel_rfl)
 ·exact (show Tryz.prog.wantsStandIn 67=false by kernel_rfl)
theorem card:Rows.TopBeamTablesCardSaid:=
 Claim7.holds_tied_plain_at .later [] _ _ _ _ said (fun _ h=>by cases h) (by kernel_rfl) (fun _ h=>by cases h) topBeamTables_row_tie rfl ⟨rfl,rfl⟩ (by kernel_rfl) rfl zpr (by kernel_rfl)
end Go.Proofs.YtbkgkoenppkhpaaGreatDoor.tableslaw
