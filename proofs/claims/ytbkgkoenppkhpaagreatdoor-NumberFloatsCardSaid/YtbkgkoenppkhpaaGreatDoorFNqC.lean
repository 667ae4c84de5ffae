/- For every input NumberFloats returns true and leaves its arguments as they were, in every world in which the package-level variables that its row lists (four tables) hold what the program's text lays in them. Said, and its tied card. -/
import Derived.Test.YtbkgkoenppkhpaaGreatDoorCards
import Derived.Test.YtbkgkoenppkhpaaGreatDoorTie
import Derived.Test.YtbkgkoenppkhpaaGreatDoorFNq2
import Derived.Test.YtbkgkoenppkhpaaGreatDoorBAwq
import Derived.Deep.DeepHandedRow
import Derived.Lib.SmallJoins
import Derived.Stop.LaidErr
set_option maxRecDepth 100000
namespace Go.Proofs.YtbkgkoenppkhpaaGreatDoor.nfloatslaw
open Go.ChangeShapes Go.WideShapes Go.ChangeAt Go.RowKit Go.Deep
theorem own:ownKnob Tryz.prog.godebug=none:=by kernel_rfl
theorem zj9:laidOutB Tryz.prog=true:=by kernel_rfl
theorem zmp:Tryz.prog.cellsOf 3=1:=by kernel_rfl
theorem zrC:Tryz.prog.cellsOf 46=1:=by kernel_rfl
theorem zne:Tryz.prog.cellsOf 5=1:=by kernel_rfl
theorem zn0:Tryz.prog.cellsOf 116=1:=by kernel_rfl
theorem gTz:Tryz.prog.globalNamed "math/bits.deBruijn64tab" = some 3:=by kernel_rfl
theorem zhR:Tryz.prog.globalNamed "strobe/number.precisions" = some 1:=by kernel_rfl
theorem gPow:Tryz.prog.globalNamed "internal/strconv.uint64pow10" = some 6:=by kernel_rfl
theorem tabs{W:World}(h:laidMetH Tryz.prog Rows.numberFloatsRow.laid W)(hs:W.ShapedOpen Tryz.prog):Tabs W:=by
 have h1:laidMet Tryz.prog Rows.numberFloatsRow.laid W:=h;have h2:=laidMet.tail h1;have h3:=laidMet.tail h2;have t2:Lib.TabIs Tryz.prog W "math/bits.deBruijn64tab" .u8 (Lib.deBruijn64tab.map fun (n:Nat)=>(n:Int)):=
  Lib.tabIs_of_head gTz (by kernel_rfl) Tryz.underlying239 Tryz.underlying5 zne (by kernel_rfl) h2
 have t3:Lib.TabIs Tryz.prog W "internal/strconv.uint64pow10" .u64 Lib.pow10Tab:=
  Lib.tabIs_of_head gPow (by kernel_rfl) Tryz.underlying252 Tryz.underlying116 zn0 (by kernel_rfl) h3
 have h4:=laidMet.tail h3;have t4:Lib.TabIs Tryz.prog W "strobe/number.precisions" .i64 [48,96,192]:=
  Lib.tabIs_of_head zhR (by kernel_rfl) Tryz.underlying236 Tryz.underlying3 zmp (by kernel_rfl) h4
 refine⟨fun j hj => ?_,t3,?_,⟨by simpa using t4.cell zhR 0 (by decide),by simpa using t4.cell zhR 1 (by decide),by simpa using t4.cell zhR 2 (by decide)⟩⟩
 ·have:=t2.cell gTz j (by simpa using hj)
  rw[this];simp[List.getD,List.getElem?_map,List.getElem?_eq_getElem hj]
 ·exact cell_of_shapedOpen_int (zero:=#[.int .i64 0]) (t:=3) hs (of_decide_eq_true (by kernel_rfl)) (by kernel_rfl) rfl (by kernel_rfl) (by kernel_rfl) Tryz.underlying3
theorem zhx(H:Type)(enc:TypeId × Value→H)(W:World)(base:Nat)(args:Array Value)(ds gs:List (DataW H))(before:List MemPlace)
 (hval:∀ (j:Nat) t v,Tryz.f4.params[j]? = some t→args[j]? = some v→Value.okWide Tryz.prog W .any base t v)
 (hW:DataW.Whole enc Tryz.prog Tryz.f4.params.toList Rows.numberFloatsSpec.vars false W args.toList ds gs before)(hL:laidMetH Tryz.prog Rows.numberFloatsRow.laid W)(hS:W.ShapedOpen Tryz.prog) :
  Calls Tryz.prog 4 args W fun e W'=>∃ v,e = .returned v∧Rows.numberFloatsSpec.post enc Tryz.prog Tryz.f4 false true false false W args v W':=by
 have aG:=hW;obtain⟨p,q,aK,hV,rfl,aM,aR⟩:=hW;have hA:DataW.TrodAll enc Tryz.prog W 0 (fun _=>true) true Tryz.f4.params.toList args.toList ds p:=aK;rw[Tryz.params4] at hA hval;obtain⟨v0,aU,d0,aQ,p0,q0,aH,rfl,rfl,h0,r0⟩:=trodAll_cons hA;obtain⟨v1,aT,d1,aL,p1,q1,rfl,rfl,rfl,h1,r1⟩:=trodAll_cons r0;obtain⟨v2,aS,d2,aO,p2,q2,rfl,rfl,rfl,h2,r2⟩:=trodAll_cons r1;obtain⟨rfl,rfl,rfl⟩:=trodAll_nil r2;obtain rfl:args=#[v0,v1,v2]:=by cases args;simp_all
 obtain⟨rfl,rfl⟩:=trodVars_none hV;obtain⟨f,rfl⟩:=okWide_float Tryz.underlying46 (hval 0 46 v0 rfl rfl);obtain⟨a,rfl⟩:=okWide_string Tryz.underlying22 (hval 1 22 v1 rfl rfl);obtain⟨A,n,c,rfl⟩:=okWide_slice Tryz.underlying47 (hval 2 47 v2 rfl rfl);obtain⟨m2,aI⟩:=id h2;obtain⟨B2,k2,e2,l,aF,aP,aN,_,_,aJ⟩:=znn Tryz.underlying47 Tryz.underlying46 zrC aI;simp only[Value.cells,List.cons.injEq,Value.slice.injEq,and_true] at aF
 obtain⟨rfl,rfl,rfl⟩:=aF;have aC:=zq0 f a A n c l W ziP (tabs hL hS) aJ (by omega);have aD:∀ x ∈ p0++(p1++(p2++[]))++[],x.block<W.heap.size:=fun x hx=>aG.lt x hx
 refine aC.mono fun e W' ⟨he,hb⟩ => ?_
 subst he;have st:∀ (t:TypeId) (v:Value) (d:DataW H) (ps:List MemPlace) (sp:Nat→Bool),Tryz.prog.readableRec t=true→t<Tryz.prog.types.size→DataW.Trod enc Tryz.prog W 0 (fun _=>true) true t v d ps →
   (∀ x ∈ ps,x.block<W.heap.size)→(∀ x ∈ ps,sp x.block=true)→DataW.Trod enc Tryz.prog W' 0 sp true t v d ps:=fun t v d ps sp hr aE h hl hs=>
  WideElems.Trod_stays zj9 hr aE h (fun x hx=>hb.same (hl x hx)) hs
 refine⟨_,rfl,zhh (pa:=p0++(p1++(p2++[]))) (pv:=[]) aG (fun _ _ _=>trodAll_cons_mk (shut_bool Tryz.underlying4 _) trodAll_mk0) (fun sp aA => ?_) (fun _ _=>rfl) rfl hb (ok_one (by kernel_rfl) rfl (okWide_bool_mk Tryz.underlying4 _))⟩;refine trodAll_cons_mk (st _ _ _ _ sp (by kernel_rfl) (of_decide_eq_true (by kernel_rfl)) h0 (fun x hx=>aD x (by simp[hx])) (fun x hx=>aA x (by simp[hx]))) ?_;refine trodAll_cons_mk (st _ _ _ _ sp (by kernel_rfl) (of_decide_eq_true (by kernel_rfl)) h1 (fun x hx=>aD x (by simp[hx])) (fun x hx=>aA x (by simp[hx]))) ?_;exact trodAll_cons_mk (st _ _ _ _ sp (by kernel_rfl) (of_decide_eq_true (by kernel_rfl)) h2 (fun x hx=>aD x (by simp[hx])) (fun x hx=>aA x (by simp[hx]))) trodAll_mk0
def zbY (cs:Array Value):Obj→Obj
 | .cells _ t frozen => .cells cs t frozen
 | o=>o
def zrn:List Nat:=[0,1,28,2,29,14,24,3,30,22,20,15,25,17,4,8,31,27,13,23,21,19,16,7,26,12,18,6,11,5,10,9]
noncomputable def zcO (os:Os):World:=
 { (World.holding Tryz.prog os ⟨#[],#[],[]⟩) with heap:=(((((World.holding Tryz.prog os ⟨#[],#[],[]⟩).heap.modify 7 (zbY (zrn.map fun (n:Nat)=>Value.int .u8 (n:Int)).toArray)).modify 3 (zbY (Lib.deBruijn64tab.map fun (n:Nat)=>Value.int .u8 (n:Int)).toArray)).modify 6 (zbY (Lib.pow10Tab.map fun n=>Value.int .u64 n).toArray)).modify 1 (zbY #[.int .i64 48,.int .i64 96,.int .i64 192])) }
def zik:Array Value:=#[.float .f32 0,.string ⟨#[]⟩,.slice none 0 0]
theorem zhK(os:Os):laidMet Tryz.prog Rows.numberFloatsRow.laid ((zcO os).forCall (fun _ _=>0) ⟨#[],zik,[]⟩).memory:=
 laidMet_of_run' 8 (by kernel_rfl) (by kernel_rfl)
theorem reads (os:Os) {H:Type} (enc:TypeId × Value→H):∃ places,DataW.whole enc Tryz.prog ((zcO os).forCall (fun _ _=>0) ⟨#[],zik,[]⟩).memory Tryz.f4.params.toList Rows.numberFloatsSpec.vars false zik.toList 8=some ([.lit (.float .f32 0),.lit (.string []),.nil],[],places):=
 ⟨[],by kernel_rfl⟩
theorem znu (os:Os) (started:os.Started) (H:Type) (enc:TypeId × Value→H) (F:Stop.Interp) :
  ReturnsInHanded {} Tryz.checked os 4 .any ((OpenSpec.ofChange Rows.numberFloatsSpec).preRow enc Tryz.prog Tryz.f4 Rows.numberFloatsRow.domain false Rows.numberFloatsRow.laid) (((OpenSpec.ofChange Rows.numberFloatsSpec).at F).post enc Tryz.prog Tryz.f4 false true false false):=by
 obtain⟨aE,hx⟩:=reads os enc;refine returnsInHanded_of_row (C:=Tryz.checked) (s:=OpenSpec.ofChange Rows.numberFloatsSpec) own started (by kernel_rfl) Tryz.func4
  (witness_row_at (enc:=enc) (C:=Tryz.checked) false (zcO os) zik rfl (by kernel_rfl) (by kernel_rfl) (by kernel_rfl)
   (OpenSpec.preRow_of_cond 8 hx (by kernel_rfl) (fun k hk=>by cases hk) (by kernel_rfl) (zhK os))) ?_
 intro W aD aC ds gs aA aF hW _ _ _ hL hS _;exact zhx H enc W aD aC ds gs aA aF hW hL hS
theorem said:Rows.NumberFloatsSaid:=
 OpenClaim.holds_of_cond 4 Tryz.f4 rfl rfl rfl rfl rfl rfl rfl ⟨rfl,rfl,rfl,rfl,rfl⟩ rfl rfl rfl rfl rfl (by kernel_rfl) Tryz.func4 (by kernel_rfl)
  (of_decide_eq_true (by kernel_rfl)) (by unfold Func.isWrapper;first | (rw[if_pos (by decide +kernel)];kernel_rfl) | (rw[if_neg (by decide +kernel)];exact⟨rfl,rfl⟩))
  (fun os started H enc _ F=>by rw[OpenClaim.pre_eq_preRow];exact znu os started H enc F)
theorem zqA(f:FuncId)(fn:Func)(hf:Tryz.pinned.checked.prog.funcNamed "strobe/strobelaw01.NumberFloats" = some f)(hfn:Tryz.pinned.checked.prog.funcs[f]? = some fn) :
  false=Tryz.pinned.checked.prog.looks []∧∀ (j:Nat) t,fn.params[j]? = some t→Tryz.pinned.checked.prog.wantsStandIn t=false:=by
 obtain rfl:f=4:=Option.some.inj ((show Tryz.prog.funcNamed "strobe/strobelaw01.NumberFloats" = some 4 by kernel_rfl).symm.trans hf) |>.symm
 obtain rfl:fn=Tryz.f4:=(Option.some.inj (Tryz.func4.symm.trans hfn)).symm;refine⟨by kernel_rfl,fun j t ht => ?_⟩;rw[Tryz.params4] at ht;have hm:=Array.mem_of_getElem? ht;simp at hm
 rcases hm with rfl | rfl | rfl
 ·exact(show Tryz.prog.wantsStandIn 46=false by kernel_rfl)
 ·exact(show Tryz.prog.wantsStandIn 22=false by kernel_rfl)
 ·exact(show Tryz.prog.wantsStandIn 47=false by kernel_rfl)
theorem card:Rows.NumberFloatsCardSaid:=
 Claim7.holds_tied_plain_at .later [] _ _ _ _ said (fun _ h=>by cases h) (by kernel_rfl) (fun _ h=>by cases h) numberFloats_row_tie rfl ⟨rfl,rfl⟩ (by kernel_rfl) rfl zqA (by kernel_rfl)
end Go.Proofs.YtbkgkoenppkhpaaGreatDoor.nfloatslaw
