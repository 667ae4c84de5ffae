/- The law of fits: the guards, and the errors. -/
import Derived.Test.YtmkihdjolnlccaaGreatDoorQRc9
import Derived.Test.YtmkihdjolnlccaaGreatDoorQRv1
import Derived.Laws.StructEq
import Derived.Deep.RegionHeld3
import Derived.Test.YtmkihdjolnlccaaGreatDoorQRq2
import Derived.Test.YtmkihdjolnlccaaGreatDoorQDp
import Derived.Deep.Slices
import Derived.ChangeArms
import Derived.ChangeSlices
import Derived.ChangeSame
import Derived.Test.YtmkihdjolnlccaaGreatDoorCards
import Derived.Test.YtmkihdjolnlccaaGreatDoorTie
import Derived.SliceStrings
import Derived.WalkKit
import Derived.ProofKit
import Derived.OpenShut
import Derived.Deep.DeepHandedRow
import Derived.Lib.LaidTab
import Derived.Lib.SmallJoins
import Derived.Stop.LaidErr
import Derived.WideKeyArgs
namespace Go.Proofs.YtmkihdjolnlccaaGreatDoor
open Go.RowKit Bn
open Flt
theorem zng (a st z:Int) (g o:ByteArray) (A:Option Addr) (m c:Nat) (l:List ByteArray) (w:World) (hT:Tabs w) (hg:g.size≤9223372036854775807) (ho:o.size≤9223372036854775807) (hrd:zae w w.heap.size 1 A m (l.map strv)) (hc0:A=none→c=0) :
  Calls Tryz.prog 4 #[.agg #[.int .i64 a,.int .i64 st,.int .i64 z,.string g,.string o],.slice A m c] w fun e w'=>e = .returned (.bool true)∧Below w.heap.size w w':=by
 have hl:l.length=m:=hrd.lenM
 obtain ⟨bA,hA,kA⟩:=zsq a st z g o hg ho
 obtain ⟨bL,hL,kL⟩:=zl3 l 20 (by omega)
 cases bA
 ·exact zdl a st z g o A m c l _ _ w zkM hT kA kL hrd (.inl rfl)
 by_cases hm:m≤20
 ·cases bL
  ·exact zdl a st z g o A m c l _ _ w zkM hT kA kL hrd (.inr (.inr ⟨rfl,hm,rfl⟩))
  obtain ⟨hE,⟨_,_,gs⟩,⟨_,_,os⟩⟩:=hA rfl
  obtain ⟨_,hfew⟩:=hL rfl
  have hg':g.size≤4294967296:=by omega
  have ho':o.size≤4294967296:=by omega
  obtain ⟨n,rfl,n1,n2,st1,st2,z0,z1,eg,sg,eo⟩:=zof hE
  have hst : -20≤st∧st≤4:=⟨st1,st2⟩
  have hp:2 ^ n≤2 ^ 12:=Nat.pow_le_pow_right (by omega) n2
  have e12:(2:Nat) ^ 12=4096:=by decide
  rw [e12] at hp
  have hC:Conv n st z g o:=zrv n1 n2 hst ⟨z0,z1⟩ hg' ho' eg sg eo
  have hv:∀ s ∈ l,s.size≤4294967296∧zam s.data.toList=0:=fun s hs=>⟨by have:=(hfew s hs).2.2;omega,(hfew s hs).1⟩
  obtain ⟨ks,hks,hbnd,hS⟩:=zlp n st z g o l hC (by omega) hv
  have hkle:∀ k ∈ ks,k≤2 ^ n+1:=fun k hk=>by
   obtain ⟨i,hi,rfl⟩:=List.mem_iff_getElem.1 hk
   exact (hbnd i l[i] ks[i] (List.getElem?_eq_getElem (by omega)) (List.getElem?_eq_getElem hi)).1
  have hF:zqV n st z g o ⟨(zay (nomQ st z 0)).toArray⟩ ⟨(zay (nomQ st z ((2 ^ n - 1:Nat):Int))).toArray⟩:=fun W hT=>
   znp n st z g o _ _ _ _ W hT hC rfl rfl (zkK hst (by omega) (by omega)) (zkK hst (by omega) (by omega))
  have hIn:∀ c,zsa n st z c g o (inE n c):=fun c W hT=>zfx n st z c g o W hT hg' ho' hE n2
  have hI:zsM n ((2 ^ n - 1:Nat):Int) st z g o:=fun c W h0 h1 hT=>by
   by_cases hin:0<c∧c<((2 ^ n - 1:Nat):Int)
   ·have hi:inE n c=0:=by
     unfold inE
     rw [zk5 (by omega) (by omega),if_neg (by simp),if_neg (by omega)]
    have h9:=hIn c
    rw [hi] at h9
    exact (zh8 n st z c g o W hT h9 (by omega) (by omega) hst).mono fun e w' ⟨h,hb⟩=>⟨.inl h,hb⟩
   ·have hi:inE n c=15:=by
     unfold inE
     rw [zk5 (by omega) (by omega),if_neg (by simp),if_pos (by omega)]
    have h9:=hIn c
    rw [hi] at h9
    exact (zi5 n st z c 15 g o W hT h9 (by decide)).mono fun e w' ⟨h,hb⟩=>⟨.inr h,hb⟩
  refine zlX n st z g o _ _ A m c l ks w zkM hT kA kL hrd hc0 hm hC hS (zpf n st z g o ks hC (by omega) hkle) hF (zoA (zbx st z 0)) (zoA (zbx st z _)) (fun i hi => ?_) hI
  have h1:i<l.length:=by omega
  have h2:i<ks.length:=by omega
  have hb:=hbnd i l[i] ks[i] (List.getElem?_eq_getElem h1) (List.getElem?_eq_getElem h2)
  have hf:=hfew l[i] (List.getElem_mem h1)
  refine ⟨l[i],ks[i],List.getElem?_eq_getElem h1,List.getElem?_eq_getElem h2,zdr hf.1,hf.2.1,hf.2.2,hb,?_⟩
  obtain ⟨k0,hk0,hk1,hk2⟩:=zgJ l[i] n st z g o hC (hv _ (List.getElem_mem h1)).1 hf.1
  have e:k0=ks[i]:=zr0 ⟨hk0,hk1⟩ hb
  subst e
  exact hk2
 ·exact zdl a st z g o A m c l _ _ w zkM hT kA kL hrd (.inr (.inl ⟨rfl,by omega⟩))
end Go.Proofs.YtmkihdjolnlccaaGreatDoor
namespace Go.Proofs.YtmkihdjolnlccaaGreatDoor
open Go.RowKit Go.WideShapes Go.ChangeShapes Go.Deep
section
variable {H:Type} {enc:TypeId × Value→H} {P:Program} {w:World} {base fuel:Nat} {held:Bool} {t e q:TypeId} {cs:List Value} {x:DataW H × List MemPlace}
end
section
variable {H:Type} {enc:TypeId × Value→H} {P:Program}
theorem zlH {f:Func} {s:ChangeSpec} {apart fresh handsOn again:Bool} {W W':World} {args:Array Value} {v:Value} {ds gs:List (DataW H)} {before pa pv:List MemPlace}
  (hW:DataW.Whole enc P f.params.toList s.vars apart W args.toList ds gs before)
  (hres:∀ (b:Nat) (sp:Nat→Bool) (hd:Bool),DataW.TrodAll enc P W' b sp hd f.resultTypes.toList (v.resultList f.resultTypes.size) (s.fn H (ds++gs)).results [])
  (hargs:∀ sp:Nat→Bool,(∀ p ∈ before,sp p.block=true)→DataW.TrodAll enc P W' 0 sp true f.params.toList args.toList (s.fn H (ds++gs)).args pa)
  (hvars:∀ sp:Nat→Bool,(∀ p ∈ before,sp p.block=true)→DataW.TrodVars enc P W' sp s.vars (s.fn H (ds++gs)).vars pv)
  (hps:before=pa++pv) (hb:Below W.heap.size W W')
  (hok:∀ (j:Nat) (t:TypeId) (r:Value),f.resultTypes[j]? = some t→(v.resultList f.resultTypes.size)[j]? = some r→Value.okWide P W' .any 0 t r) :
  s.post enc P f apart fresh handsOn again W args v W':=by
 have lt:∀ p ∈ before,p.block<W.heap.size:=fun p hp=>hW.lt p hp
 obtain ⟨_,_,_,_,_,hz,hn⟩:=id hW
 refine ⟨ds,gs,before,[],pa,pv,hW,hres _ _ _,hargs _ (fun p hp=>by simpa using lt p hp),hvars _ (fun p hp=>by simpa using lt p hp),World.keptBut_mono (fun p hp=>⟨hp,?_⟩) (hb.frame (· ∈ before)),fun _=>⟨hok,_,_,([]++pa)++pv,⟨[]++pa,pv,trodAll_append (hargs _ (fun _ _=>rfl)) (hres _ _ _),hvars _ (fun _ _=>rfl),rfl,?_,?_⟩,?_⟩⟩
 ·exact Or.inr (by rw [hps,List.mem_append] at hp;exact hp)
 ·intro b off hp
  have hin:MemPlace.cell b off ∈ before:=by rw [hps];simpa using hp
  rw [hb.frozen (lt _ hin)]
  exact hz b off hin
 ·intro ha
  have h1:=hn ha
  rw [hps] at h1
  simpa using h1
 ·intro p hp _
  rw [hps]
  simpa using hp
end
end Go.Proofs.YtmkihdjolnlccaaGreatDoor
namespace Go.Proofs.YtmkihdjolnlccaaGreatDoor.quantlaw
open Go.ChangeShapes Go.WideShapes Go.ChangeAt Go.RowKit Go.Deep
theorem own:ownKnob Tryz.prog.godebug=none:=by kernel_rfl
theorem zsc:laidOutB Tryz.prog=true:=by kernel_rfl
theorem zth:Tryz.prog.cellsOf 22=1:=by kernel_rfl
theorem zsH:Tryz.prog.cellsOf 5=1:=by kernel_rfl
theorem zsR:Tryz.prog.cellsOf 168=1:=by kernel_rfl
theorem gTz:Tryz.prog.globalNamed "math/bits.deBruijn64tab" = some 2:=by kernel_rfl
theorem gPow:Tryz.prog.globalNamed "internal/strconv.uint64pow10" = some 5:=by kernel_rfl
section
variable {P:Program} {w:World} {base:Nat} {spare:Nat→Bool} {held:Bool} {H:Type} {enc:TypeId × Value→H}
theorem zsU {α:Type} {cs:Array α} (h:cs.size=5):∃ c0 c1 c2 c3 c4,cs=#[c0,c1,c2,c3,c4]:=by
 obtain ⟨l⟩:=cs
 match l,h with
 | [c0,c1,c2,c3,c4],_=>exact ⟨c0,c1,c2,c3,c4,rfl⟩
theorem zm7 {r:Reach} {b0:Nat} {t:TypeId} {f0 f1 f2 f3 f4:Field} {v:Value} {d:DataW H} {p:List MemPlace} (hs:P.underlying t=some (.struct #[f0,f1,f2,f3,f4])) (hone:oneCellFields P #[f0,f1,f2,f3,f4]=true) (hC:P.cellsOf t=5)
  (hv:Value.okWide P w r b0 t v) (h:DataW.Trod enc P w base spare held t v d p) :
  ∃ (v0 v1 v2 v3 v4:Value) (y0 y1 y2 y3 y4:DataW H × List MemPlace) (n:Nat),v = .agg #[v0,v1,v2,v3,v4] ∧
   DataW.trod enc P w base spare held n f0.type [v0]=some y0∧DataW.trod enc P w base spare held n f1.type [v1]=some y1∧DataW.trod enc P w base spare held n f2.type [v2]=some y2∧DataW.trod enc P w base spare held n f3.type [v3]=some y3∧DataW.trod enc P w base spare held n f4.type [v4]=some y4:=by
 obtain ⟨cs,rfl,hsz⟩:=okWide_struct hs hv
 obtain ⟨c0,c1,c2,c3,c4,rfl⟩:=zsU (hsz.trans hC)
 obtain ⟨fuel,hf⟩:=h
 obtain ⟨xs,n,_,_,hl,hlen,hf⟩:=DataW.trod_struct hs hf
 obtain ⟨o0,k0⟩:=hone_of hone 0 f0 rfl
 obtain ⟨o1,k1⟩:=hone_of hone 1 f1 rfl
 obtain ⟨o2,k2⟩:=hone_of hone 2 f2 rfl
 obtain ⟨o3,k3⟩:=hone_of hone 3 f3 rfl
 obtain ⟨o4,k4⟩:=hone_of hone 4 f4 rfl
 match xs,hlen with
 | [y0,y1,y2,y3,y4],_=>exact ⟨c0,c1,c2,c3,c4,y0,y1,y2,y3,y4,n,rfl,by simpa [Value.cells,o0,k0] using hf 0 f0 rfl,by simpa [Value.cells,o1,k1] using hf 1 f1 rfl,by simpa [Value.cells,o2,k2] using hf 2 f2 rfl,by simpa [Value.cells,o3,k3] using hf 3 f3 rfl,by simpa [Value.cells,o4,k4] using hf 4 f4 rfl⟩
end
theorem zlA {H:Type} {enc:TypeId × Value→H} {P:Program} {w:World} {base fuel:Nat} {held:Bool} {t e:TypeId} {cs:List Value} {x:DataW H × List MemPlace}
  (ht:P.underlying t=some (.slice e)) (he:P.underlying e=some .string) (hc:P.cellsOf e=1) (h:DataW.trod enc P w base (fun _=>true) held fuel t cs=some x) :
  ∃ (A:Option Addr) (n c:Nat) (l:List ByteArray),cs=[.slice A n c]∧n≤c∧c≤maxLen∧(A=none→c=0)∧(∀ s ∈ l,s.size≤maxLen)∧zae w w.heap.size 1 A n (l.map strv):=by
 rcases open_strings ht he hc h with ⟨rfl,_⟩ | ⟨a,len,cap,zs,rfl,_,hl,hm,hz,_,hcell,hss⟩
 ·exact ⟨none,0,0,[],rfl,Nat.le_refl _,Nat.zero_le _,fun _=>rfl,(fun s hs=>by cases hs),zae.none_⟩
 ·simp only [if_true] at hz
  refine ⟨some a,len,cap,zs.take len,rfl,hl,hm,(fun e=>by cases e),(fun s hs=>hss s (List.mem_of_mem_take hs)),by simp;omega,fun hp=>⟨a,rfl,?_,fun j u hu => ?_⟩⟩
  ·have:=World.block_lt_of_cell? w _ (hcell 0 (by omega))
   simpa [zaI] using this
  ·have hj:j<len:=by
    rcases Nat.lt_or_ge j len with h1 | h1
    ·exact h1
    ·rw [List.getElem?_eq_none (by simp;omega)] at hu;cases hu
   rw [List.getElem?_eq_getElem (by simp;omega)] at hu
   injection hu with hu
   rw [hcell j (by omega),←hu]
   simp [strv,List.getD,List.getElem?_eq_getElem (show j<zs.length by omega)]
set_option maxRecDepth 100000 in
theorem tabs {W:World} (h:laidMetH Tryz.prog Rows.probeQuantisesRow.laid W) (hs:W.ShapedOpen Tryz.prog):Tabs W:=by
 have h1:laidMet Tryz.prog Rows.probeQuantisesRow.laid W:=h
 have h2:=laidMet.tail h1
 have h3:=laidMet.tail h2
 have t2:Lib.TabIs Tryz.prog W "math/bits.deBruijn64tab" .u8 (Lib.deBruijn64tab.map fun (n:Nat)=>(n:Int)):=
  Lib.tabIs_of_head gTz (by kernel_rfl) Tryz.underlying301 Tryz.underlying5 zsH (by kernel_rfl) h2
 have t3:Lib.TabIs Tryz.prog W "internal/strconv.uint64pow10" .u64 Lib.pow10Tab:=
  Lib.tabIs_of_head gPow (by kernel_rfl) Tryz.underlying310 Tryz.underlying168 zsR (by kernel_rfl) h3
 refine ⟨fun j hj => ?_,t3,?_⟩
 ·have:=t2.cell gTz j (by simpa using hj)
  rw [this]
  simp [List.getD,List.getElem?_map,List.getElem?_eq_getElem hj]
 ·exact cell_of_shapedOpen_int (zero:=#[.int .i64 0]) (t:=3) hs (of_decide_eq_true (by kernel_rfl)) (by kernel_rfl) rfl (by kernel_rfl) (by kernel_rfl) Tryz.underlying3
set_option maxRecDepth 100000 in
theorem zqk (H:Type) (enc:TypeId × Value→H) (W:World) (base:Nat) (args:Array Value) (ds gs:List (DataW H)) (before:List MemPlace)
  (hval:∀ (j:Nat) t v,Tryz.f4.params[j]? = some t→args[j]? = some v→Value.okWide Tryz.prog W .any base t v)
  (hW:DataW.Whole enc Tryz.prog Tryz.f4.params.toList Rows.probeQuantisesSpec.vars false W args.toList ds gs before) (hL:laidMetH Tryz.prog Rows.probeQuantisesRow.laid W) (hS:W.ShapedOpen Tryz.prog) :
  Calls Tryz.prog 4 args W fun e W'=>∃ v,e = .returned v∧Rows.probeQuantisesSpec.post enc Tryz.prog Tryz.f4 false true false false W args v W':=by
 have hW':=hW
 obtain ⟨p,q,hA0,hV,rfl,hfz,hnd⟩:=hW
 have hA:DataW.TrodAll enc Tryz.prog W 0 (fun _=>true) true Tryz.f4.params.toList args.toList ds p:=hA0
 rw [Tryz.params4] at hA hval
 obtain ⟨v0,vs0,d0,ds0,p0,q0,hargs,rfl,rfl,h0,r0⟩:=trodAll_cons hA
 obtain ⟨v1,vs1,d1,ds1,p1,q1,rfl,rfl,rfl,h1,r1⟩:=trodAll_cons r0
 obtain ⟨rfl,rfl,rfl⟩:=trodAll_nil r1
 obtain rfl:args=#[v0,v1]:=by cases args;simp_all
 obtain ⟨rfl,rfl⟩:=trodVars_none hV
 obtain ⟨x0,x1,x2,x3,x4,y0,y1,y2,y3,y4,m2,rfl,hx0,hx1,hx2,hx3,hx4⟩:=zm7 Tryz.underlying24 (by kernel_rfl) (by kernel_rfl) (hval 0 24 v0 rfl rfl) h0
 obtain ⟨a,ha,_⟩:=DataW.trod_int Tryz.underlying3 hx0
 obtain ⟨st,hst,_⟩:=DataW.trod_int Tryz.underlying3 hx1
 obtain ⟨z,hz,_⟩:=DataW.trod_int Tryz.underlying3 hx2
 obtain ⟨g,hg,hgs⟩:=DataW.trod_string Tryz.underlying22 hx3
 obtain ⟨o,ho,hos⟩:=DataW.trod_string Tryz.underlying22 hx4
 have hgs':=hgs.2
 have hos':=hos.2
 unfold maxLen at hgs' hos'
 injection ha with ha
 injection hst with hst
 injection hz with hz
 injection hg with hg
 injection ho with ho
 subst ha hst hz hg ho
 obtain ⟨A,n,c,rfl⟩:=okWide_slice Tryz.underlying25 (hval 1 25 v1 rfl rfl)
 obtain ⟨m1,hf1⟩:=id h1
 obtain ⟨B1,k1,e1,ss,he1,hke1,hm1,hnc1,_,hrd1⟩:=zlA Tryz.underlying25 Tryz.underlying22 zth hf1
 simp only [Value.cells,List.cons.injEq,Value.slice.injEq,and_true] at he1
 obtain ⟨rfl,rfl,rfl⟩:=he1
 have walk:=zng a st z g o A n c ss W (tabs hL hS) (by omega) (by omega) hrd1 hnc1
 have hlt:∀ x ∈ p0++(p1++[])++[],x.block<W.heap.size:=fun x hx=>hW'.lt x hx
 refine walk.mono fun e W' ⟨he,hb⟩ => ?_
 subst he
 have st:∀ (t:TypeId) (v:Value) (d:DataW H) (ps:List MemPlace) (sp:Nat→Bool),Tryz.prog.readableRec t=true→t<Tryz.prog.types.size→DataW.Trod enc Tryz.prog W 0 (fun _=>true) true t v d ps →
   (∀ x ∈ ps,x.block<W.heap.size)→(∀ x ∈ ps,sp x.block=true)→DataW.Trod enc Tryz.prog W' 0 sp true t v d ps:=fun t v d ps sp hr hrow h hl hs=>
  WideElems.Trod_stays zsc hr hrow h (fun x hx=>hb.same (hl x hx)) hs
 refine ⟨_,rfl,zlH (pa:=p0++(p1++[])) (pv:=[]) hW' (fun _ _ _=>trodAll_cons_mk (shut_bool Tryz.underlying4 _) trodAll_mk0) (fun sp hsp => ?_) (fun _ _=>rfl) rfl hb (ok_one (by kernel_rfl) rfl (okWide_bool_mk Tryz.underlying4 _))⟩
 refine trodAll_cons_mk (st _ _ _ _ sp (by kernel_rfl) (of_decide_eq_true (by kernel_rfl)) h0 (fun x hx=>hlt x (by simp [hx])) (fun x hx=>hsp x (by simp [hx]))) ?_
 exact trodAll_cons_mk (st _ _ _ _ sp (by kernel_rfl) (of_decide_eq_true (by kernel_rfl)) h1 (fun x hx=>hlt x (by simp [hx])) (fun x hx=>hsp x (by simp [hx]))) trodAll_mk0
def zdi (cs:Array Value):Obj→Obj
 | .cells _ t frozen => .cells cs t frozen
 | o=>o
def ztL:List Nat:=[0,1,28,2,29,14,24,3,30,22,20,15,25,17,4,8,31,27,13,23,21,19,16,7,26,12,18,6,11,5,10,9]
noncomputable def low:Nat:=(World.holding Tryz.prog default ⟨#[],#[],[]⟩).heap.size
noncomputable def zgc (os:Os):World:=
 { (World.holding Tryz.prog os ⟨#[.cells #[.string { data:=#[118,97,108,117,101,32,111,117,116,32,111,102,32,114,97,110,103,101] }] 322,.cells #[.string { data:=#[105,110,118,97,108,105,100,32,115,121,110,116,97,120] }] 322],#[],[]⟩) with heap:=((((((World.holding Tryz.prog os ⟨#[.cells #[.string { data:=#[118,97,108,117,101,32,111,117,116,32,111,102,32,114,97,110,103,101] }] 322,.cells #[.string { data:=#[105,110,118,97,108,105,100,32,115,121,110,116,97,120] }] 322],#[],[]⟩).heap.modify 8 (zdi (ztL.map fun (n:Nat)=>Value.int .u8 (n:Int)).toArray)).modify 2 (zdi (Lib.deBruijn64tab.map fun (n:Nat)=>Value.int .u8 (n:Int)).toArray)).modify 5 (zdi (Lib.pow10Tab.map fun n=>Value.int .u64 n).toArray)).modify 7 (zdi #[.iface 320 (.pointer (some ⟨low,0,none⟩))])).modify 6 (zdi #[.iface 320 (.pointer (some ⟨low+1,0,none⟩))])) }
def zpE:Array Value:=#[.agg #[.int .i64 0,.int .i64 0,.int .i64 0,.string { data:=#[] },.string { data:=#[] }],.slice none 0 0]
set_option maxRecDepth 100000 in
theorem zp9 (os:Os):laidMet Tryz.prog Rows.probeQuantisesRow.laid ((zgc os).forCall (fun _ _=>0) ⟨#[],zpE,[]⟩).memory:=
 laidMet_of_run' 8 (by kernel_rfl) (by kernel_rfl)
set_option maxRecDepth 100000 in
theorem reads (os:Os) {H:Type} (enc:TypeId × Value→H):∃ places,DataW.whole enc Tryz.prog ((zgc os).forCall (fun _ _=>0) ⟨#[],zpE,[]⟩).memory Tryz.f4.params.toList Rows.probeQuantisesSpec.vars false zpE.toList 8=some ([.agg [.lit (.int .i64 0),.lit (.int .i64 0),.lit (.int .i64 0),.lit (.string []),.lit (.string [])],.nil],[],places):=
 ⟨[],by kernel_rfl⟩
set_option maxRecDepth 100000 in
theorem ztv (os:Os) (started:os.Started) (H:Type) (enc:TypeId × Value→H) (F:Stop.Interp) :
  ReturnsInHanded {} Tryz.checked os 4 .any ((OpenSpec.ofChange Rows.probeQuantisesSpec).preRow enc Tryz.prog Tryz.f4 Rows.probeQuantisesRow.domain false Rows.probeQuantisesRow.laid) (((OpenSpec.ofChange Rows.probeQuantisesSpec).at F).post enc Tryz.prog Tryz.f4 false true false false):=by
 obtain ⟨places,hx⟩:=reads os enc
 refine returnsInHanded_of_row (C:=Tryz.checked) (s:=OpenSpec.ofChange Rows.probeQuantisesSpec) own started (by kernel_rfl) Tryz.func4
  (witness_row_at (enc:=enc) (C:=Tryz.checked) false (zgc os) zpE rfl (by kernel_rfl) (by kernel_rfl) (by kernel_rfl)
   (OpenSpec.preRow_of_cond 8 hx (by kernel_rfl) (fun k hk=>by cases hk) (by kernel_rfl) (zp9 os))) ?_
 intro W base args ds gs before hval hW _ _ _ hL hS _
 exact zqk H enc W base args ds gs before hval hW hL hS
set_option maxHeartbeats 4000000 in
theorem said:Rows.ProbeQuantisesSaid:=
 OpenClaim.holds_of_cond 4 Tryz.f4 rfl rfl rfl rfl rfl rfl rfl ⟨rfl,rfl,rfl,rfl,rfl⟩ rfl rfl rfl rfl rfl (by as_aux_lemma=>kernel_rfl) Tryz.func4 (by as_aux_lemma=>kernel_rfl)
  (of_decide_eq_true (by as_aux_lemma=>kernel_rfl)) (by unfold Func.isWrapper;first | (rw [if_pos (by decide +kernel)];as_aux_lemma=>kernel_rfl) | (rw [if_neg (by decide +kernel)];exact ⟨rfl,rfl⟩))
  (fun os started H enc _ F=>by rw [OpenClaim.pre_eq_preRow];exact ztv os started H enc F)
theorem ztS (f:FuncId) (fn:Func) (hf:Tryz.pinned.checked.prog.funcNamed "strobe/strobelaw02.ProbeQuantises" = some f) (hfn:Tryz.pinned.checked.prog.funcs[f]? = some fn) :
  true=Tryz.pinned.checked.prog.looks []∧∀ (j:Nat) t,fn.params[j]? = some t→Tryz.pinned.checked.prog.wantsStandIn t=false:=by
 obtain rfl:f=4:=Option.some.inj ((show Tryz.prog.funcNamed "strobe/strobelaw02.ProbeQuantises" = some 4 by kernel_rfl).symm.trans hf) |>.symm
 obtain rfl:fn=Tryz.f4:=(Option.some.inj (Tryz.func4.symm.trans hfn)).symm
 refine ⟨by kernel_rfl,fun j t ht => ?_⟩
 rw [Tryz.params4] at ht
 have hm:=Array.mem_of_getElem? ht
 simp at hm
 rcases hm with rfl | rfl
 ·exact (show Tryz.prog.wantsStandIn 24=false by kernel_rfl)
 ·exact (show Tryz.prog.wantsStandIn 25=false by kernel_rfl)
theorem card:Rows.ProbeQuantisesCardSaid:=
 Claim7.holds_tied_plain_at .later [] _ _ _ _ said (fun _ h=>by cases h) (by kernel_rfl) (fun _ h=>by cases h) probeQuantises_row_tie rfl ⟨rfl,rfl⟩ (by kernel_rfl) rfl ztS (by kernel_rfl)
end Go.Proofs.YtmkihdjolnlccaaGreatDoor.quantlaw
