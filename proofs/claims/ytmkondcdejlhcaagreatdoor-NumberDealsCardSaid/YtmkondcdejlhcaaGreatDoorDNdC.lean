/- For every input NumberDeals returns true and leaves its arguments as they were, in every world in which the package-level variables that its row lists (four tables) hold what the program's text lays in them. Said, and its tied card. -/
import Derived.Test.YtmkondcdejlhcaaGreatDoorCards
import Derived.Test.YtmkondcdejlhcaaGreatDoorTie
import Derived.Test.YtmkondcdejlhcaaGreatDoorDNd3
import Derived.Test.YtmkondcdejlhcaaGreatDoorBAwq
import Derived.Test.YtmkondcdejlhcaaGreatDoorBOpn
import Derived.WalkKit
import Derived.ProofKit
import Derived.OpenShut
import Derived.Deep.DeepHandedRow
import Derived.Lib.LaidTab
import Derived.Lib.SmallJoins
import Derived.Stop.LaidErr
import Derived.WideKeyArgs
set_option maxRecDepth 100000
namespace Go.Proofs.YtmkondcdejlhcaaGreatDoor.dealslaw
open Go.ChangeShapes Go.WideShapes Go.ChangeAt Go.RowKit Go.Deep
theorem own:ownKnob Tryz.prog.godebug=none:=by kernel_rfl
theorem zeX:laidOutB Tryz.prog=true:=by kernel_rfl
theorem zfW:Tryz.prog.cellsOf 3=1:=by kernel_rfl
theorem zgz:Tryz.prog.cellsOf 5=1:=by kernel_rfl
theorem zgr:Tryz.prog.cellsOf 136=1:=by kernel_rfl
theorem gTz:Tryz.prog.globalNamed "math/bits.deBruijn64tab" = some 3:=by kernel_rfl
theorem zdW:Tryz.prog.globalNamed "strobe/number.precisions" = some 1:=by kernel_rfl
theorem gPow:Tryz.prog.globalNamed "internal/strconv.uint64pow10" = some 6:=by kernel_rfl
section
variable {P:Program} {w:World} {base:Nat} {spare:Nat→Bool} {held:Bool} {H:Type} {enc:TypeId × Value→H}
theorem zn0 {r:Reach} {b0:Nat} {t:TypeId} {f0 f1 f2 f3:Field} {v:Value} {d:DataW H} {p:List MemPlace} (hs:P.underlying t=some (.struct #[f0,f1,f2,f3])) (hone:oneCellFields P #[f0,f1,f2,f3]=true) (hC:P.cellsOf t=4)
  (hv:Value.okWide P w r b0 t v) (h:DataW.Trod enc P w base spare held t v d p) :
  ∃ (v0 v1 v2 v3:Value) (y0 y1 y2 y3:DataW H × List MemPlace) (n:Nat),v = .agg #[v0,v1,v2,v3] ∧
   DataW.trod enc P w base spare held n f0.type [v0]=some y0∧DataW.trod enc P w base spare held n f1.type [v1]=some y1∧DataW.trod enc P w base spare held n f2.type [v2]=some y2∧DataW.trod enc P w base spare held n f3.type [v3]=some y3:=by
 obtain ⟨cs,rfl,aC⟩:=okWide_struct hs hv;obtain ⟨c0,c1,c2,c3,rfl⟩:∃ c0 c1 c2 c3,cs=#[c0,c1,c2,c3]:=by
  have h2:=aC.trans hC;obtain ⟨l⟩:=cs
  match l,h2 with
  | [c0,c1,c2,c3],_=>exact ⟨c0,c1,c2,c3,rfl⟩
 obtain ⟨aD,hf⟩:=h;obtain ⟨xs,n,_,_,hl,aA,hf⟩:=DataW.trod_struct hs hf;obtain ⟨o0,k0⟩:=hone_of hone 0 f0 rfl;obtain ⟨o1,k1⟩:=hone_of hone 1 f1 rfl;obtain ⟨o2,k2⟩:=hone_of hone 2 f2 rfl;obtain ⟨o3,k3⟩:=hone_of hone 3 f3 rfl
 match xs,aA with
 | [y0,y1,y2,y3],_=>exact ⟨c0,c1,c2,c3,y0,y1,y2,y3,n,rfl,by simpa [Value.cells,o0,k0] using hf 0 f0 rfl,by simpa [Value.cells,o1,k1] using hf 1 f1 rfl,by simpa [Value.cells,o2,k2] using hf 2 f2 rfl,by simpa [Value.cells,o3,k3] using hf 3 f3 rfl⟩
end
theorem zl8 {H:Type} {enc:TypeId × Value→H} {P:Program} {w:World} {base fuel:Nat} {held:Bool} {t e:TypeId} {cs:List Value} {x:DataW H × List MemPlace}
  (ht:P.underlying t=some (.slice e)) (he:P.underlying e=some (.int .i64)) (hc:P.cellsOf e=1) (h:DataW.trod enc P w base (fun _=>true) held fuel t cs=some x) :
  ∃ (A:Option Addr) (n c:Nat) (l:List Int),cs=[.slice A n c]∧n≤c∧c≤maxLen∧(A=none→c=0)∧zaC w w.heap.size 1 A n (l.map i64v):=by
 rcases open_ints ht he hc h with ⟨rfl,_⟩ | ⟨a,len,aC,zs,rfl,_,hl,hm,hz,_,aA,_⟩
 ·exact ⟨none,0,0,[],rfl,Nat.le_refl _,Nat.zero_le _,fun _=>rfl,zaC.none_⟩
 ·simp only [if_true] at hz
  refine ⟨some a,len,aC,zs.take len,rfl,hl,hm,(fun e=>by cases e),by simp;omega,fun hp=>⟨a,rfl,?_,fun j u hu => ?_⟩⟩
  ·have:=World.block_lt_of_cell? w _ (aA 0 (by omega))
   simpa [zaN] using this
  ·have hj:j<len:=by
    rcases Nat.lt_or_ge j len with h1 | h1
    ·exact h1
    ·rw [List.getElem?_eq_none (by simp;omega)] at hu;cases hu
   rw [List.getElem?_eq_getElem (by simp;omega)] at hu;injection hu with hu
   rw [aA j (by omega),←hu];simp [i64v,List.getD,List.getElem?_eq_getElem (show j<zs.length by omega)]
theorem tabs {W:World} (h:laidMetH Tryz.prog Rows.numberDealsRow.laid W) (hs:W.ShapedOpen Tryz.prog):Tabs W:=by
 have h1:laidMet Tryz.prog Rows.numberDealsRow.laid W:=h;have h2:=laidMet.tail h1;have h3:=laidMet.tail h2;have t2:Lib.TabIs Tryz.prog W "math/bits.deBruijn64tab" .u8 (Lib.deBruijn64tab.map fun (n:Nat)=>(n:Int)):=
  Lib.tabIs_of_head gTz (by kernel_rfl) Tryz.underlying231 Tryz.underlying5 zgz (by kernel_rfl) h2
 have t3:Lib.TabIs Tryz.prog W "internal/strconv.uint64pow10" .u64 Lib.pow10Tab:=
  Lib.tabIs_of_head gPow (by kernel_rfl) Tryz.underlying244 Tryz.underlying136 zgr (by kernel_rfl) h3
 have h4:=laidMet.tail h3;have t4:Lib.TabIs Tryz.prog W "strobe/number.precisions" .i64 [48,96,192]:=
  Lib.tabIs_of_head zdW (by kernel_rfl) Tryz.underlying228 Tryz.underlying3 zfW (by kernel_rfl) h4
 refine ⟨fun j hj => ?_,t3,?_,⟨by simpa using t4.cell zdW 0 (by decide),by simpa using t4.cell zdW 1 (by decide),by simpa using t4.cell zdW 2 (by decide)⟩⟩
 ·have:=t2.cell gTz j (by simpa using hj)
  rw [this];simp [List.getD,List.getElem?_map,List.getElem?_eq_getElem hj]
 ·exact cell_of_shapedOpen_int (zero:=#[.int .i64 0]) (t:=3) hs (of_decide_eq_true (by kernel_rfl)) (by kernel_rfl) rfl (by kernel_rfl) (by kernel_rfl) Tryz.underlying3
theorem zdI (H:Type) (enc:TypeId × Value→H) (W:World) (base:Nat) (args:Array Value) (ds gs:List (DataW H)) (before:List MemPlace)
  (hval:∀ (j:Nat) t v,Tryz.f7.params[j]? = some t→args[j]? = some v→Value.okWide Tryz.prog W .any base t v)
  (hW:DataW.Whole enc Tryz.prog Tryz.f7.params.toList Rows.numberDealsSpec.vars false W args.toList ds gs before) (hL:laidMetH Tryz.prog Rows.numberDealsRow.laid W) (hS:W.ShapedOpen Tryz.prog) :
  Calls Tryz.prog 7 args W fun e W'=>∃ v,e = .returned v∧Rows.numberDealsSpec.post enc Tryz.prog Tryz.f7 false true false false W args v W':=by
 have aD:=hW;obtain ⟨p,q,aH,hV,rfl,aO,aP⟩:=hW;have hA:DataW.TrodAll enc Tryz.prog W 0 (fun _=>true) true Tryz.f7.params.toList args.toList ds p:=aH;rw [Tryz.params7] at hA hval;obtain ⟨v0,aR,d0,aN,p0,q0,aE,rfl,rfl,h0,r0⟩:=trodAll_cons hA;obtain ⟨rfl,rfl,rfl⟩:=trodAll_nil r0;obtain rfl:args=#[v0]:=by cases args;simp_all
 obtain ⟨rfl,rfl⟩:=trodVars_none hV;obtain ⟨x0,x1,x2,x3,y0,y1,y2,y3,m2,rfl,aJ,aK,aL,aI⟩:=zn0 Tryz.underlying62 (by kernel_rfl) (by kernel_rfl) (hval 0 62 v0 rfl rfl) h0;obtain ⟨a,ha,_⟩:=DataW.trod_int Tryz.underlying3 aJ;obtain ⟨A,n,c,l,he,aQ,hm,_,aG⟩:=zl8 Tryz.underlying60 Tryz.underlying3 zfW aK;obtain ⟨k,hk,_⟩:=DataW.trod_int Tryz.underlying3 aL;obtain ⟨z,hz,_⟩:=DataW.trod_int Tryz.underlying3 aI;injection ha with ha
 injection he with he
 injection hk with hk
 injection hz with hz
 subst ha he hk hz;have aC:=znU a A n c l k z W zfi (tabs hL hS) aG (by omega);have aM:∀ x ∈ p0++[]++[],x.block<W.heap.size:=fun x hx=>aD.lt x hx
 refine aC.mono fun e W' ⟨he,hb⟩ => ?_
 subst he;have st:∀ (t:TypeId) (v:Value) (d:DataW H) (ps:List MemPlace) (sp:Nat→Bool),Tryz.prog.readableRec t=true→t<Tryz.prog.types.size→DataW.Trod enc Tryz.prog W 0 (fun _=>true) true t v d ps →
   (∀ x ∈ ps,x.block<W.heap.size)→(∀ x ∈ ps,sp x.block=true)→DataW.Trod enc Tryz.prog W' 0 sp true t v d ps:=fun t v d ps sp hr aA h hl hs=>
  WideElems.Trod_stays zeX hr aA h (fun x hx=>hb.same (hl x hx)) hs
 refine ⟨_,rfl,zeD (pa:=p0++[]) (pv:=[]) aD (fun _ _ _=>trodAll_cons_mk (shut_bool Tryz.underlying4 _) trodAll_mk0) (fun sp aF => ?_) (fun _ _=>rfl) rfl hb (ok_one (by kernel_rfl) rfl (okWide_bool_mk Tryz.underlying4 _))⟩;exact trodAll_cons_mk (st _ _ _ _ sp (by kernel_rfl) (of_decide_eq_true (by kernel_rfl)) h0 (fun x hx=>aM x (by simp [hx])) (fun x hx=>aF x (by simp [hx]))) trodAll_mk0
def zaW (cs:Array Value):Obj→Obj
 | .cells _ t frozen => .cells cs t frozen
 | o=>o
def zki:List Nat:=[0,1,28,2,29,14,24,3,30,22,20,15,25,17,4,8,31,27,13,23,21,19,16,7,26,12,18,6,11,5,10,9]
noncomputable def zbf (os:Os):World:=
 { (World.holding Tryz.prog os ⟨#[],#[],[]⟩) with heap:=(((((World.holding Tryz.prog os ⟨#[],#[],[]⟩).heap.modify 7 (zaW (zki.map fun (n:Nat)=>Value.int .u8 (n:Int)).toArray)).modify 3 (zaW (Lib.deBruijn64tab.map fun (n:Nat)=>Value.int .u8 (n:Int)).toArray)).modify 6 (zaW (Lib.pow10Tab.map fun n=>Value.int .u64 n).toArray)).modify 1 (zaW #[.int .i64 48,.int .i64 96,.int .i64 192])) }
def zdT:Array Value:=#[.agg #[.int .i64 0,.slice none 0 0,.int .i64 0,.int .i64 0]]
theorem zdX (os:Os):laidMet Tryz.prog Rows.numberDealsRow.laid ((zbf os).forCall (fun _ _=>0) ⟨#[],zdT,[]⟩).memory:=
 laidMet_of_run' 8 (by kernel_rfl) (by kernel_rfl)
theorem reads (os:Os) {H:Type} (enc:TypeId × Value→H):∃ places,DataW.whole enc Tryz.prog ((zbf os).forCall (fun _ _=>0) ⟨#[],zdT,[]⟩).memory Tryz.f7.params.toList Rows.numberDealsSpec.vars false zdT.toList 8=some ([.agg [.lit (.int .i64 0),.nil,.lit (.int .i64 0),.lit (.int .i64 0)]],[],places):=
 ⟨[],by kernel_rfl⟩
theorem zgI (os:Os) (started:os.Started) (H:Type) (enc:TypeId × Value→H) (F:Stop.Interp) :
  ReturnsInHanded {} Tryz.checked os 7 .any ((OpenSpec.ofChange Rows.numberDealsSpec).preRow enc Tryz.prog Tryz.f7 Rows.numberDealsRow.domain false Rows.numberDealsRow.laid) (((OpenSpec.ofChange Rows.numberDealsSpec).at F).post enc Tryz.prog Tryz.f7 false true false false):=by
 obtain ⟨aF,hx⟩:=reads os enc;refine returnsInHanded_of_row (C:=Tryz.checked) (s:=OpenSpec.ofChange Rows.numberDealsSpec) own started (by kernel_rfl) Tryz.func7
  (witness_row_at (enc:=enc) (C:=Tryz.checked) false (zbf os) zdT rfl (by kernel_rfl) (by kernel_rfl) (by kernel_rfl)
   (OpenSpec.preRow_of_cond 8 hx (by kernel_rfl) (fun k hk=>by cases hk) (by kernel_rfl) (zdX os))) ?_
 intro W aC aE ds gs aA aD hW _ _ _ hL hS _;exact zdI H enc W aC aE ds gs aA aD hW hL hS
theorem said:Rows.NumberDealsSaid:=
 OpenClaim.holds_of_cond 7 Tryz.f7 rfl rfl rfl rfl rfl rfl rfl ⟨rfl,rfl,rfl,rfl,rfl⟩ rfl rfl rfl rfl rfl (by kernel_rfl) Tryz.func7 (by kernel_rfl)
  (of_decide_eq_true (by kernel_rfl)) (by unfold Func.isWrapper;first | (rw [if_pos (by decide +kernel)];kernel_rfl) | (rw [if_neg (by decide +kernel)];exact ⟨rfl,rfl⟩))
  (fun os started H enc _ F=>by rw [OpenClaim.pre_eq_preRow];exact zgI os started H enc F)
theorem zkn (f:FuncId) (fn:Func) (hf:Tryz.pinned.checked.prog.funcNamed "strobe/strobelaw01.NumberDeals" = some f) (hfn:Tryz.pinned.checked.prog.funcs[f]? = some fn) :
  false=Tryz.pinned.checked.prog.looks []∧∀ (j:Nat) t,fn.params[j]? = some t→Tryz.pinned.checked.prog.wantsStandIn t=false:=by
 obtain rfl:f=7:=Option.some.inj ((show Tryz.prog.funcNamed "strobe/strobelaw01.NumberDeals" = some 7 by kernel_rfl).symm.trans hf) |>.symm
 obtain rfl:fn=Tryz.f7:=(Option.some.inj (Tryz.func7.symm.trans hfn)).symm;refine ⟨by kernel_rfl,fun j t ht => ?_⟩;rw [Tryz.params7] at ht;have hm:=Array.mem_of_getElem? ht;simp at hm
 subst hm
 ·exact (show Tryz.prog.wantsStandIn 62=false by kernel_rfl)
theorem card:Rows.NumberDealsCardSaid:=
 Claim7.holds_tied_plain_at .later [] _ _ _ _ said (fun _ h=>by cases h) (by kernel_rfl) (fun _ h=>by cases h) numberDeals_row_tie rfl ⟨rfl,rfl⟩ (by kernel_rfl) rfl zkn (by kernel_rfl)
end Go.Proofs.YtmkondcdejlhcaaGreatDoor.dealslaw
