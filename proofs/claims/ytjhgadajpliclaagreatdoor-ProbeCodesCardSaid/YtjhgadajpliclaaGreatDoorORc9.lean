/- The law of calibrations for every input. -/
import Derived.Test.YtjhgadajpliclaaGreatDoorORc8
import Derived.Test.YtjhgadajpliclaaGreatDoorOAwj
import Derived.Test.YtjhgadajpliclaaGreatDoorODp
import Derived.Deep.Slices
import Derived.ChangeArms
import Derived.ChangeSlices
import Derived.ChangeSame
import Derived.Test.YtjhgadajpliclaaGreatDoorCards
import Derived.Test.YtjhgadajpliclaaGreatDoorTie
import Derived.WalkKit
import Derived.ProofKit
import Derived.OpenShut
import Derived.Deep.DeepHandedRow
import Derived.Lib.LaidTab
import Derived.Lib.SmallJoins
import Derived.Stop.LaidErr
import Derived.WideKeyArgs
namespace Go.Proofs.YtjhgadajpliclaaGreatDoor
open Go.RowKit Bn
open Flt
theorem awakeC:AwakeK:=fun W hT=>awake_ok W hT
theorem order_same {x:Nat} (h:fin Ieee.single x=true):(FloatKind.f32.format.order x x==some .eq)=true:=by
 show (Ieee.single.order x x==some .eq)=true
 rw [order_fin h h,cmp_eq]
 rfl
theorem nom_fin {st d:Int} (h : -20≤st∧st≤4) (hd2:d.natAbs≤4096):fin Ieee.single (nomW d st)=true:=by
 by_cases hd:d=0
 ·rw [hd]
  unfold nomW
  rw [if_pos rfl]
  decide
 ·obtain ⟨n,J,hw,h1,h2,hJ,_⟩:=nom_parts h hd hd2
  rw [hw]
  exact (key_word0 _ (rnd24 h1 h2 (by omega)) h2 (rung_fin h2 (by omega) (by omega))).1
theorem conv_of {n:Nat} {st z:Int} {g o:ByteArray} (n1:8≤n) (n2:n≤12) (hst : -20≤st∧st≤4) (hz:0≤z∧z≤((2 ^ n - 1:Nat):Int)) (hg:g.size≤4294967296) (ho:o.size≤4294967296)
  (eg:readE g.data.toList=0) (sg:0<signI (readQ g.data.toList)) (eo:readE o.data.toList=0):Conv n st z g o:=by
 refine ⟨⟨n1,n2⟩,hst,hz,hg,ho,eg,?_,eo⟩
 have hl:=(num_read eg).2
 rw [rcmp_zero hl]
 rcases signI_cases _ hl with ⟨_,h⟩ | ⟨_,_,h⟩ | ⟨_,_,h⟩
 ·rw [h] at sg;exact absurd sg (by decide)
 ·rw [h] at sg;exact absurd sg (by decide)
 ·exact h
theorem bound_code {n kk:Nat} {f:Int} (hk:kk≤2 ^ n+1) (h:∀ t:Nat,t<2 ^ n+1→(t<kk↔(t:Int)≤f)) :
  (f<0∧codeC n kk=0∧codeD n kk = -1)∨(((2 ^ n - 1:Nat):Int)<f∧codeC n kk=((2 ^ n - 1:Nat):Int)∧codeD n kk=1)∨(0≤f∧f≤((2 ^ n - 1:Nat):Int)∧codeC n kk=f∧codeD n kk=0):=by
 have hp:0<2 ^ n:=Nat.two_pow_pos n
 unfold codeC codeD
 generalize 2 ^ n=P at *
 rcases Int.lt_or_le f 0 with h0 | h0
 ·have:kk=0:=by
   rcases Nat.eq_zero_or_pos kk with h9 | h9
   ·exact h9
   ·have:=(h 0 (by omega)).1 h9
    omega
  subst this
  exact .inl ⟨h0,rfl,rfl⟩
 ·rcases Int.lt_or_le ((P - 1:Nat):Int) f with h1 | h1
  ·have h9:=(h P (by omega)).2 (by omega)
   have:kk=P+1:=by omega
   subst this
   refine .inr (.inl ⟨h1,?_,?_⟩)
   ·rw [if_neg (by omega),if_pos rfl]
   ·rw [if_neg (by omega),if_pos rfl]
  ·obtain ⟨m,rfl⟩:∃ m:Nat,f=(m:Int):=⟨f.toNat,by omega⟩
   have h8:=(h m (by omega)).2 (Int.le_refl _)
   have h7:¬ m+1<kk:=fun h9=>by
    have:=(h (m+1) (by omega)).1 h9
    omega
   have:kk=m+1:=by omega
   subst this
   refine .inr (.inr ⟨h0,h1,?_,?_⟩)
   ·rw [if_neg (by omega),if_neg (by omega)];omega
   ·rw [if_neg (by omega),if_neg (by omega)]
theorem codes_any (a st z c:Int) (g o v:ByteArray) (w:World) (hT:Tabs w) :
  Calls Tryz.prog 3 #[.agg #[.int .i64 a,.int .i64 st,.int .i64 z,.string g,.string o],.string v,.int .i64 c] w fun e w'=>e = .returned (.bool true)∧Below w.heap.size w w':=by
 by_cases hs:(g.size≤60∧o.size≤60)∧v.size≤60
 ·obtain ⟨hgo,hv⟩:=hs
  have hg:g.size≤4294967296:=by omega
  have ho:o.size≤4294967296:=by omega
  have hA:AdcSays a st z g o (adcE a st z g.data.toList o.data.toList):=fun W=>rCheckAdc_any a st z g o W hg ho
  have hI:AdcIs a st z g o (adcE a st z g.data.toList o.data.toList):=fun W hT=>checkAdc_any a st z g o W hT hg ho
  have hTV:TextSays v (readE v.data.toList):=fun W hT=>check_any v W hT (by omega)
  by_cases hE:adcE a st z g.data.toList o.data.toList=0
  ·obtain ⟨n,rfl,n1,n2,st1,st2,z0,z1,eg,sg,eo⟩:=adcE_zero hE
   rw [hE] at hA hI
   have hst : -20≤st∧st≤4:=⟨st1,st2⟩
   have hp:2 ^ n≤2 ^ 12:=Nat.pow_le_pow_right (by omega) n2
   have e12:(2:Nat) ^ 12=4096:=by decide
   rw [e12] at hp
   have hz:0≤z∧z≤4096:=by omega
   have hC:Conv n st z g o:=conv_of n1 n2 hst ⟨z0,z1⟩ hg ho eg sg eo
   have hXF:FullSays n st z g o ⟨(writeS (nomQ st z 0)).toArray⟩ ⟨(writeS (nomQ st z ((2 ^ n - 1:Nat):Int))).toArray⟩ 0:=fun W hT=>
    Full_ok n st z g o _ _ _ _ W hT hC rfl rfl (nom_text hst hz (by omega)) (nom_text hst hz (by omega))
   have hRF:RFull n st z g o ⟨(writeS (nomQ st z 0)).toArray⟩ ⟨(writeS (nomQ st z ((2 ^ n - 1:Nat):Int))).toArray⟩:=fun W=>by
    refine (rFull_any n st z g o W n2 hst hz).mono ?_
    rintro e w' ⟨⟨s,t,rfl,h1,h2⟩,hb⟩
    obtain rfl:=(ba_text (nomQ_low st z 0)).one h1
    obtain rfl:=(ba_text (nomQ_low st z ((2 ^ n - 1:Nat):Int))).one h2
    exact ⟨rfl,hb⟩
   have hRC:RCheck v (readE v.data.toList):=fun W=>rCheck_any v W (by omega)
   have hRK:RCheckCode n st z g o c (rangeE c 0 ((2 ^ n - 1:Nat):Int)):=fun W=>rCheckCode_any n st z c (.string g) (.string o) W (by omega)
   have hCS:CodeSays n st z g o c (rangeE c 0 ((2 ^ n - 1:Nat):Int)):=fun W hT=>checkCode_good n st z c g o W hT hg ho hE n2
   obtain ⟨k,d,hXC,h2⟩:∃ k d,CodeIs n st z g o v k d (readE v.data.toList)∧((readE v.data.toList≠0∧k=0∧d=0)∨(readE v.data.toList=0∧RCode n st z g o v k d)):=by
    by_cases ht:readE v.data.toList=0
    ·obtain ⟨kk,hk,h3,h4⟩:=Code_valid v n st z g o hC (by omega) ht
     have hq:=num_read ht
     refine ⟨codeC n kk,codeD n kk,fun W hT => ?_,.inr ⟨ht,fun W => ?_⟩⟩
     ·rw [ht];exact h4 W hT
     ·exact rCode_any n st z _ _ g o v _ W ⟨by omega,n2⟩ hst hz hq ((hq.small hv (by omega)).more (by omega)) (bound_code hk fun t h9=>(h3 t h9).trans (code_iff hst hq.2 t))
    ·exact ⟨0,0,fun W hT=>Code_bad n st z 0 _ _ g o v W hT hI hTV (by rw [if_neg (by simp)]) ht,.inl ⟨ht,rfl,rfl⟩⟩
   obtain ⟨f,hXV,h3,hff⟩:∃ f,VoltsIs n st z g o c f (rangeE c 0 ((2 ^ n - 1:Nat):Int))∧((rangeE c 0 ((2 ^ n - 1:Nat):Int)≠0∧f=0)∨(rangeE c 0 ((2 ^ n - 1:Nat):Int)=0∧RVolts n st z g o c f))∧(FloatKind.f32.format.order f f==some .eq)=true:=by
    rcases range_cases c 0 ((2 ^ n - 1:Nat):Int) with h | h
    ·refine ⟨0,fun W hT=>Volts_bad n st z c _ g o W hT hCS (by rw [h.1];decide),.inl ⟨by rw [h.1];decide,rfl⟩,by decide⟩
    ·have hc:0≤c∧c≤((2 ^ n - 1:Nat):Int):=h.2
     refine ⟨nomW (c - z) st,fun W hT => ?_,.inr ⟨h.1,fun W=>rVolts_any n st z c g o W hst hz (by omega)⟩,order_same (nom_fin hst (by omega))⟩
     rw [h.1]
     exact Volts_ok n st z c g o W hT hC hc
   exact codes_main n st z c 0 k d _ _ f g o v _ _ w awakeC hT hgo hv hXF hXC hXV hI hA hff (.inr ⟨rfl,hRF,hRC,hRK,h2,h3⟩)
  ·have hCS:CodeSays a st z g o c (adcE a st z g.data.toList o.data.toList):=fun W hT=>checkCode_bad a st z c _ g o W hT hg ho rfl hE
   exact codes_main a st z c _ 0 0 _ _ 0 g o v _ _ w awakeC hT hgo hv (fun W hT=>Full_bad a st z _ g o W hT hI hE) (fun W hT=>Code_bad a st z _ _ _ g o v W hT hI hTV (by rw [if_pos hE]) hE)
    (fun W hT=>Volts_bad a st z c _ g o W hT hCS hE) hI hA (by decide) (.inl ⟨hE,rfl,rfl,rfl,rfl,rfl,rfl,rfl⟩)
 ·exact codes_turned a st z c g o v w awakeC hT hs
end Go.Proofs.YtjhgadajpliclaaGreatDoor
namespace Go.Proofs.YtjhgadajpliclaaGreatDoor
open Go.RowKit Go.WideShapes Go.ChangeShapes Go.Deep
section
variable {H:Type} {enc:TypeId × Value→H} {P:Program} {w:World} {base fuel:Nat} {held:Bool} {t e q:TypeId} {cs:List Value} {x:DataW H × List MemPlace}
end
section
variable {H:Type} {enc:TypeId × Value→H} {P:Program}
theorem post_below {f:Func} {s:ChangeSpec} {apart fresh handsOn again:Bool} {W W':World} {args:Array Value} {v:Value} {ds gs:List (DataW H)} {before pa pv:List MemPlace}
  (hW:DataW.Whole enc P f.params.toList s.vars apart W args.toList ds gs before)
  (hres:∀ (b:Nat) (sp:Nat→Bool) (hd:Bool),DataW.TrodAll enc P W' b sp hd f.resultTypes.toList (v.resultList f.resultTypes.size) (s.fn H (ds++gs)).results [])
  (hargs:∀ sp:Nat→Bool,(∀ p ∈ before,sp p.block=true)→DataW.TrodAll enc P W' 0 sp true f.params.toList args.toList (s.fn H (ds++gs)).args pa)
  (hvars:∀ sp:Nat→Bool,(∀ p ∈ before,sp p.block=true)→DataW.TrodVars enc P W' sp s.vars (s.fn H (ds++gs)).vars pv)
  (hps:before=pa++pv) (hb:Below W.heap.size W W')
  (hok:∀ (j:Nat) (t:TypeId) (r:Value),f.resultTypes[j]? = some t→(v.resultList f.resultTypes.size)[j]? = some r→Value.okWide P W' .any 0 t r) :
  s.post enc P f apart fresh handsOn again W args v W':=by
 have lt:∀ p ∈ before,p.block<W.heap.size:=fun p hp=>hW.lt p hp
 obtain ⟨_,_,_,_,_,hz,hn⟩:=id hW
 refine ⟨ds,gs,before,[],pa,pv,hW,hres _ _ _,hargs _ (fun p hp=>by simpa using lt p hp),hvars _ (fun p hp=>by simpa using lt p hp),World.keptBut_mono (fun p hp=>⟨hp,?_⟩) (hb.frame (· ∈ before)),fun _=>⟨hok,_,_,([]++pa)++pv,⟨[]++pa,pv,trodAll_append (hargs _ (fun _ _=>rfl)) (hres _ _ _),hvars _ (fun _ _=>rfl),rfl,?_,?_⟩,?_⟩⟩
 ·exact Or.inr (by rw [hps,List.mem_append] at hp;exact hp)
 ·intro b off hp
  have hin:MemPlace.cell b off ∈ before:=by rw [hps];simpa using hp
  rw [hb.frozen (lt _ hin)]
  exact hz b off hin
 ·intro ha
  have h1:=hn ha
  rw [hps] at h1
  simpa using h1
 ·intro p hp _
  rw [hps]
  simpa using hp
end
end Go.Proofs.YtjhgadajpliclaaGreatDoor
namespace Go.Proofs.YtjhgadajpliclaaGreatDoor.codeslaw
open Go.ChangeShapes Go.WideShapes Go.ChangeAt Go.RowKit Go.Deep
theorem own:ownKnob Tryz.prog.godebug=none:=by kernel_rfl
theorem laidOut:laidOutB Tryz.prog=true:=by kernel_rfl
theorem cellsB:Tryz.prog.cellsOf 5=1:=by kernel_rfl
theorem cellsU:Tryz.prog.cellsOf 199=1:=by kernel_rfl
theorem gTz:Tryz.prog.globalNamed "math/bits.deBruijn64tab" = some 2:=by kernel_rfl
theorem gPow:Tryz.prog.globalNamed "internal/strconv.uint64pow10" = some 5:=by kernel_rfl
section
variable {P:Program} {w:World} {base:Nat} {spare:Nat→Bool} {held:Bool} {H:Type} {enc:TypeId × Value→H}
theorem array5 {α:Type} {cs:Array α} (h:cs.size=5):∃ c0 c1 c2 c3 c4,cs=#[c0,c1,c2,c3,c4]:=by
 obtain ⟨l⟩:=cs
 match l,h with
 | [c0,c1,c2,c3,c4],_=>exact ⟨c0,c1,c2,c3,c4,rfl⟩
theorem open_five {r:Reach} {b0:Nat} {t:TypeId} {f0 f1 f2 f3 f4:Field} {v:Value} {d:DataW H} {p:List MemPlace} (hs:P.underlying t=some (.struct #[f0,f1,f2,f3,f4])) (hone:oneCellFields P #[f0,f1,f2,f3,f4]=true) (hC:P.cellsOf t=5)
  (hv:Value.okWide P w r b0 t v) (h:DataW.Trod enc P w base spare held t v d p) :
  ∃ (v0 v1 v2 v3 v4:Value) (y0 y1 y2 y3 y4:DataW H × List MemPlace) (n:Nat),v = .agg #[v0,v1,v2,v3,v4] ∧
   DataW.trod enc P w base spare held n f0.type [v0]=some y0∧DataW.trod enc P w base spare held n f1.type [v1]=some y1∧DataW.trod enc P w base spare held n f2.type [v2]=some y2∧DataW.trod enc P w base spare held n f3.type [v3]=some y3∧DataW.trod enc P w base spare held n f4.type [v4]=some y4:=by
 obtain ⟨cs,rfl,hsz⟩:=okWide_struct hs hv
 obtain ⟨c0,c1,c2,c3,c4,rfl⟩:=array5 (hsz.trans hC)
 obtain ⟨fuel,hf⟩:=h
 obtain ⟨xs,n,_,_,hl,hlen,hf⟩:=DataW.trod_struct hs hf
 obtain ⟨o0,k0⟩:=hone_of hone 0 f0 rfl
 obtain ⟨o1,k1⟩:=hone_of hone 1 f1 rfl
 obtain ⟨o2,k2⟩:=hone_of hone 2 f2 rfl
 obtain ⟨o3,k3⟩:=hone_of hone 3 f3 rfl
 obtain ⟨o4,k4⟩:=hone_of hone 4 f4 rfl
 match xs,hlen with
 | [y0,y1,y2,y3,y4],_=>exact ⟨c0,c1,c2,c3,c4,y0,y1,y2,y3,y4,n,rfl,by simpa [Value.cells,o0,k0] using hf 0 f0 rfl,by simpa [Value.cells,o1,k1] using hf 1 f1 rfl,by simpa [Value.cells,o2,k2] using hf 2 f2 rfl,by simpa [Value.cells,o3,k3] using hf 3 f3 rfl,by simpa [Value.cells,o4,k4] using hf 4 f4 rfl⟩
end
set_option maxRecDepth 100000 in
theorem tabs {W:World} (h:laidMetH Tryz.prog Rows.probeCodesRow.laid W) (hs:W.ShapedOpen Tryz.prog):Tabs W:=by
 have h1:laidMet Tryz.prog Rows.probeCodesRow.laid W:=h
 have h2:=laidMet.tail h1
 have h3:=laidMet.tail h2
 have t2:Lib.TabIs Tryz.prog W "math/bits.deBruijn64tab" .u8 (Lib.deBruijn64tab.map fun (n:Nat)=>(n:Int)):=
  Lib.tabIs_of_head gTz (by kernel_rfl) Tryz.underlying275 Tryz.underlying5 cellsB (by kernel_rfl) h2
 have t3:Lib.TabIs Tryz.prog W "internal/strconv.uint64pow10" .u64 Lib.pow10Tab:=
  Lib.tabIs_of_head gPow (by kernel_rfl) Tryz.underlying284 Tryz.underlying199 cellsU (by kernel_rfl) h3
 refine ⟨fun j hj => ?_,t3,?_⟩
 ·have:=t2.cell gTz j (by simpa using hj)
  rw [this]
  simp [List.getD,List.getElem?_map,List.getElem?_eq_getElem hj]
 ·exact cell_of_shapedOpen_int (zero:=#[.int .i64 0]) (t:=3) hs (of_decide_eq_true (by kernel_rfl)) (by kernel_rfl) rfl (by kernel_rfl) (by kernel_rfl) Tryz.underlying3
set_option maxRecDepth 100000 in
theorem contract (H:Type) (enc:TypeId × Value→H) (W:World) (base:Nat) (args:Array Value) (ds gs:List (DataW H)) (before:List MemPlace)
  (hval:∀ (j:Nat) t v,Tryz.f3.params[j]? = some t→args[j]? = some v→Value.okWide Tryz.prog W .any base t v)
  (hW:DataW.Whole enc Tryz.prog Tryz.f3.params.toList Rows.probeCodesSpec.vars false W args.toList ds gs before) (hL:laidMetH Tryz.prog Rows.probeCodesRow.laid W) (hS:W.ShapedOpen Tryz.prog) :
  Calls Tryz.prog 3 args W fun e W'=>∃ v,e = .returned v∧Rows.probeCodesSpec.post enc Tryz.prog Tryz.f3 false true false false W args v W':=by
 have hW':=hW
 obtain ⟨p,q,hA0,hV,rfl,hfz,hnd⟩:=hW
 have hA:DataW.TrodAll enc Tryz.prog W 0 (fun _=>true) true Tryz.f3.params.toList args.toList ds p:=hA0
 rw [Tryz.params3] at hA hval
 obtain ⟨v0,vs0,d0,ds0,p0,q0,hargs,rfl,rfl,h0,r0⟩:=trodAll_cons hA
 obtain ⟨v1,vs1,d1,ds1,p1,q1,rfl,rfl,rfl,h1,r1⟩:=trodAll_cons r0
 obtain ⟨v2,vs2,d2,ds2,p2,q2,rfl,rfl,rfl,h2,r2⟩:=trodAll_cons r1
 obtain ⟨rfl,rfl,rfl⟩:=trodAll_nil r2
 obtain rfl:args=#[v0,v1,v2]:=by cases args;simp_all
 obtain ⟨rfl,rfl⟩:=trodVars_none hV
 obtain ⟨x0,x1,x2,x3,x4,y0,y1,y2,y3,y4,m2,rfl,hx0,hx1,hx2,hx3,hx4⟩:=open_five Tryz.underlying24 (by kernel_rfl) (by kernel_rfl) (hval 0 24 v0 rfl rfl) h0
 obtain ⟨a,ha,_⟩:=DataW.trod_int Tryz.underlying3 hx0
 obtain ⟨st,hst,_⟩:=DataW.trod_int Tryz.underlying3 hx1
 obtain ⟨z,hz,_⟩:=DataW.trod_int Tryz.underlying3 hx2
 obtain ⟨g,hg,_⟩:=DataW.trod_string Tryz.underlying22 hx3
 obtain ⟨o,ho,_⟩:=DataW.trod_string Tryz.underlying22 hx4
 injection ha with ha
 injection hst with hst
 injection hz with hz
 injection hg with hg
 injection ho with ho
 subst ha hst hz hg ho
 obtain ⟨s1,rfl⟩:=okWide_string Tryz.underlying22 (hval 1 22 v1 rfl rfl)
 obtain ⟨k,rfl⟩:=okWide_int Tryz.underlying3 (hval 2 3 v2 rfl rfl)
 have walk:=codes_any a st z k g o s1 W (tabs hL hS)
 have hlt:∀ x ∈ p0++(p1++(p2++[]))++[],x.block<W.heap.size:=fun x hx=>hW'.lt x hx
 refine walk.mono fun e W' ⟨he,hb⟩ => ?_
 subst he
 have st:∀ (t:TypeId) (v:Value) (d:DataW H) (ps:List MemPlace) (sp:Nat→Bool),Tryz.prog.readableRec t=true→t<Tryz.prog.types.size→DataW.Trod enc Tryz.prog W 0 (fun _=>true) true t v d ps →
   (∀ x ∈ ps,x.block<W.heap.size)→(∀ x ∈ ps,sp x.block=true)→DataW.Trod enc Tryz.prog W' 0 sp true t v d ps:=fun t v d ps sp hr hrow h hl hs=>
  WideElems.Trod_stays laidOut hr hrow h (fun x hx=>hb.same (hl x hx)) hs
 refine ⟨_,rfl,post_below (pa:=p0++(p1++(p2++[]))) (pv:=[]) hW' (fun _ _ _=>trodAll_cons_mk (shut_bool Tryz.underlying4 _) trodAll_mk0) (fun sp hsp => ?_) (fun _ _=>rfl) rfl hb (ok_one (by kernel_rfl) rfl (okWide_bool_mk Tryz.underlying4 _))⟩
 refine trodAll_cons_mk (st _ _ _ _ sp (by kernel_rfl) (of_decide_eq_true (by kernel_rfl)) h0 (fun x hx=>hlt x (by simp [hx])) (fun x hx=>hsp x (by simp [hx]))) ?_
 refine trodAll_cons_mk (st _ _ _ _ sp (by kernel_rfl) (of_decide_eq_true (by kernel_rfl)) h1 (fun x hx=>hlt x (by simp [hx])) (fun x hx=>hsp x (by simp [hx]))) ?_
 exact trodAll_cons_mk (st _ _ _ _ sp (by kernel_rfl) (of_decide_eq_true (by kernel_rfl)) h2 (fun x hx=>hlt x (by simp [hx])) (fun x hx=>hsp x (by simp [hx]))) trodAll_mk0
def cellsOver (cs:Array Value):Obj→Obj
 | .cells _ t frozen => .cells cs t frozen
 | o=>o
def tab32:List Nat:=[0,1,28,2,29,14,24,3,30,22,20,15,25,17,4,8,31,27,13,23,21,19,16,7,26,12,18,6,11,5,10,9]
noncomputable def low:Nat:=(World.holding Tryz.prog default ⟨#[],#[],[]⟩).heap.size
noncomputable def laidWorld (os:Os):World:=
 { (World.holding Tryz.prog os ⟨#[.cells #[.string { data:=#[118,97,108,117,101,32,111,117,116,32,111,102,32,114,97,110,103,101] }] 298,.cells #[.string { data:=#[105,110,118,97,108,105,100,32,115,121,110,116,97,120] }] 298],#[],[]⟩) with heap:=((((((World.holding Tryz.prog os ⟨#[.cells #[.string { data:=#[118,97,108,117,101,32,111,117,116,32,111,102,32,114,97,110,103,101] }] 298,.cells #[.string { data:=#[105,110,118,97,108,105,100,32,115,121,110,116,97,120] }] 298],#[],[]⟩).heap.modify 8 (cellsOver (tab32.map fun (n:Nat)=>Value.int .u8 (n:Int)).toArray)).modify 2 (cellsOver (Lib.deBruijn64tab.map fun (n:Nat)=>Value.int .u8 (n:Int)).toArray)).modify 5 (cellsOver (Lib.pow10Tab.map fun n=>Value.int .u64 n).toArray)).modify 7 (cellsOver #[.iface 296 (.pointer (some ⟨low,0,none⟩))])).modify 6 (cellsOver #[.iface 296 (.pointer (some ⟨low+1,0,none⟩))])) }
def wargs:Array Value:=#[.agg #[.int .i64 0,.int .i64 0,.int .i64 0,.string { data:=#[] },.string { data:=#[] }],.string { data:=#[] },.int .i64 0]
set_option maxRecDepth 100000 in
theorem laid_met (os:Os):laidMet Tryz.prog Rows.probeCodesRow.laid ((laidWorld os).forCall (fun _ _=>0) ⟨#[],wargs,[]⟩).memory:=
 laidMet_of_run' 8 (by kernel_rfl) (by kernel_rfl)
set_option maxRecDepth 100000 in
theorem reads (os:Os) {H:Type} (enc:TypeId × Value→H):∃ places,DataW.whole enc Tryz.prog ((laidWorld os).forCall (fun _ _=>0) ⟨#[],wargs,[]⟩).memory Tryz.f3.params.toList Rows.probeCodesSpec.vars false wargs.toList 8=some ([.agg [.lit (.int .i64 0),.lit (.int .i64 0),.lit (.int .i64 0),.lit (.string []),.lit (.string [])],.lit (.string []),.lit (.int .i64 0)],[],places):=
 ⟨[],by kernel_rfl⟩
set_option maxRecDepth 100000 in
theorem lifted (os:Os) (started:os.Started) (H:Type) (enc:TypeId × Value→H) (F:Stop.Interp) :
  ReturnsInHanded {} Tryz.checked os 3 .any ((OpenSpec.ofChange Rows.probeCodesSpec).preRow enc Tryz.prog Tryz.f3 Rows.probeCodesRow.domain false Rows.probeCodesRow.laid) (((OpenSpec.ofChange Rows.probeCodesSpec).at F).post enc Tryz.prog Tryz.f3 false true false false):=by
 obtain ⟨places,hx⟩:=reads os enc
 refine returnsInHanded_of_row (C:=Tryz.checked) (s:=OpenSpec.ofChange Rows.probeCodesSpec) own started (by kernel_rfl) Tryz.func3
  (witness_row_at (enc:=enc) (C:=Tryz.checked) false (laidWorld os) wargs rfl (by kernel_rfl) (by kernel_rfl) (by kernel_rfl)
   (OpenSpec.preRow_of_cond 8 hx (by kernel_rfl) (fun k hk=>by cases hk) (by kernel_rfl) (laid_met os))) ?_
 intro W base args ds gs before hval hW _ _ _ hL hS _
 exact contract H enc W base args ds gs before hval hW hL hS
theorem said:Rows.ProbeCodesSaid:=
 OpenClaim.holds_of_cond 3 Tryz.f3 rfl rfl rfl rfl rfl rfl rfl ⟨rfl,rfl,rfl,rfl,rfl⟩ rfl rfl rfl rfl rfl (by kernel_rfl) Tryz.func3 (by kernel_rfl)
  (of_decide_eq_true (by kernel_rfl)) (by unfold Func.isWrapper;first | (rw [if_pos (by decide +kernel)];kernel_rfl) | (rw [if_neg (by decide +kernel)];exact ⟨rfl,rfl⟩))
  (fun os started H enc _ F=>by rw [OpenClaim.pre_eq_preRow];exact lifted os started H enc F)
theorem plain (f:FuncId) (fn:Func) (hf:Tryz.pinned.checked.prog.funcNamed "strobe/strobelaw02.ProbeCodes" = some f) (hfn:Tryz.pinned.checked.prog.funcs[f]? = some fn) :
  true=Tryz.pinned.checked.prog.looks []∧∀ (j:Nat) t,fn.params[j]? = some t→Tryz.pinned.checked.prog.wantsStandIn t=false:=by
 obtain rfl:f=3:=Option.some.inj ((show Tryz.prog.funcNamed "strobe/strobelaw02.ProbeCodes" = some 3 by kernel_rfl).symm.trans hf) |>.symm
 obtain rfl:fn=Tryz.f3:=(Option.some.inj (Tryz.func3.symm.trans hfn)).symm
 refine ⟨by kernel_rfl,fun j t ht => ?_⟩
 rw [Tryz.params3] at ht
 have hm:=Array.mem_of_getElem? ht
 simp at hm
 rcases hm with rfl | rfl | rfl
 ·exact (show Tryz.prog.wantsStandIn 24=false by kernel_rfl)
 ·exact (show Tryz.prog.wantsStandIn 22=false by kernel_rfl)
 ·exact (show Tryz.prog.wantsStandIn 3=false by kernel_rfl)
theorem card:Rows.ProbeCodesCardSaid:=
 Claim7.holds_tied_plain_at .later [] _ _ _ _ said (fun _ h=>by cases h) (by kernel_rfl) (fun _ h=>by cases h) probeCodes_row_tie rfl ⟨rfl,rfl⟩ (by kernel_rfl) rfl plain (by kernel_rfl)
end Go.Proofs.YtjhgadajpliclaaGreatDoor.codeslaw
