/- TopBeamTables: the law for every input. -/
import Derived.Test.YtbkgkoenppkhpaaGreatDoorGTb7
import Derived.Test.YtbkgkoenppkhpaaGreatDoorGNa1
import Derived.Deep.Slices
import Derived.ChangeArms
import Derived.ChangeSlices
import Derived.ChangeSame
import Derived.OpenShut
import Derived.Deep.Fields
import Derived.Test.YtbkgkoenppkhpaaGreatDoorGKn5
namespace Go.Proofs.YtbkgkoenppkhpaaGreatDoor
section
open Go.RowKit Bn Dn
theorem zjR (A:Option Addr) (n c:Nat) (l:List (ByteArray × ByteArray)) (a0 a1:Int) (hP0:0≤a0∧a0≤255) (hP1:0≤a1∧a1≤255) (w:World) (KV:zfp) (hT:Tabs w) (h:PtsR w w.heap.size A n l) (hsz:∀ p ∈ l,p.1.size≤9223372036854775807∧p.2.size≤9223372036854775807) :
  Calls Tryz.prog 6 #[.slice A n c,.agg #[.int .u8 a0,.int .u8 a1]] w fun e w'=>e = .returned (.bool true)∧Below w.heap.size w w':=by
 have hl:l.length=n:=h.1;have hC:∀ W,Below w.heap.size w W→Calls Tryz.prog 46 #[.slice A n c] W fun e w'=>e = .returned (.int .i64 (tabE l))∧Below W.heap.size W w':=fun W hb=>ziK A n c l W (h.later hb) hsz
 by_cases h6:n<2∨5<n
 ·exact zkt A n c a0 a1 w KV hT h6
 ·by_cases he:tabE l=0
  ·obtain ⟨ad,rfl,_⟩:=h.2 (by omega)
   rw [he] at hC;exact ziT ad n c l a0 a1 hP0 hP1 w KV hT h (by omega) (by omega) he hC
  ·exact zkK A n c a0 a1 (tabE l) w KV hT (by omega) he hC
end
section
open Go.RowKit Go.WideShapes Go.ChangeShapes Go.Deep
section
variable {H:Type} {enc:TypeId × Value→H} {P:Program} {w:World} {base fuel:Nat} {held:Bool} {t e q:TypeId} {cs:List Value} {x:DataW H × List MemPlace}
end
section
variable {H:Type} {enc:TypeId × Value→H} {P:Program}
theorem zkk {f:Func} {s:ChangeSpec} {apart fresh handsOn again:Bool} {W W':World} {args:Array Value} {v:Value} {ds gs:List (DataW H)} {before pa pv:List MemPlace}
  (hW:DataW.Whole enc P f.params.toList s.vars apart W args.toList ds gs before)
  (hres:∀ (b:Nat) (sp:Nat→Bool) (hd:Bool),DataW.TrodAll enc P W' b sp hd f.resultTypes.toList (v.resultList f.resultTypes.size) (s.fn H (ds++gs)).results [])
  (hargs:∀ sp:Nat→Bool,(∀ p ∈ before,sp p.block=true)→DataW.TrodAll enc P W' 0 sp true f.params.toList args.toList (s.fn H (ds++gs)).args pa)
  (hvars:∀ sp:Nat→Bool,(∀ p ∈ before,sp p.block=true)→DataW.TrodVars enc P W' sp s.vars (s.fn H (ds++gs)).vars pv)
  (hps:before=pa++pv) (hb:Below W.heap.size W W')
  (hok:∀ (j:Nat) (t:TypeId) (r:Value),f.resultTypes[j]? = some t→(v.resultList f.resultTypes.size)[j]? = some r→Value.okWide P W' .any 0 t r) :
  s.post enc P f apart fresh handsOn again W args v W':=by
 have lt:∀ p ∈ before,p.block<W.heap.size:=fun p hp=>hW.lt p hp
 obtain ⟨_,_,_,_,_,hz,hn⟩:=id hW;refine ⟨ds,gs,before,[],pa,pv,hW,hres _ _ _,hargs _ (fun p hp=>by simpa using lt p hp),hvars _ (fun p hp=>by simpa using lt p hp),World.keptBut_mono (fun p hp=>⟨hp,?_⟩) (hb.frame (· ∈ before)),fun _=>⟨hok,_,_,([]++pa)++pv,⟨[]++pa,pv,trodAll_append (hargs _ (fun _ _=>rfl)) (hres _ _ _),hvars _ (fun _ _=>rfl),rfl,?_,?_⟩,?_⟩⟩
 ·exact Or.inr (by rw [hps,List.mem_append] at hp;exact hp)
 ·intro b off hp
  have aA:MemPlace.cell b off ∈ before:=by rw [hps];simpa using hp
  rw [hb.frozen (lt _ aA)];exact hz b off aA
 ·intro ha
  have h1:=hn ha;rw [hps] at h1
  simpa using h1
 ·intro p hp _
  rw [hps]
  simpa using hp
end
section
variable {H:Type} {enc:TypeId × Value→H} {P:Program} {w:World} {base fuel:Nat} {held:Bool} {t e:TypeId} {cs:List Value} {x:DataW H × List MemPlace}
theorem zkE {f0 f1:Field} {spare:Nat→Bool} (he:P.underlying e=some (.struct #[f0,f1])) (hone:oneCellFields P #[f0,f1]=true) (k0:P.underlying f0.type=some .string) (k1:P.underlying f1.type=some .string) (hl:cs.length=2)
  (h:DataW.trod enc P w base spare held fuel e cs=some x):∃ s t:ByteArray,cs=[.string s,.string t]∧s.size≤maxLen∧t.size≤maxLen:=by
 obtain ⟨c0,c1,rfl⟩:∃ c0 c1,cs=[c0,c1]:=by
  match cs,hl with
  | [c0,c1],_=>exact ⟨c0,c1,rfl⟩
 obtain ⟨xs,n,_,_,_,aA,hf⟩:=DataW.trod_struct he h;obtain ⟨o0,z0⟩:=hone_of hone 0 f0 rfl;obtain ⟨o1,z1⟩:=hone_of hone 1 f1 rfl
 match xs,aA with
 | [y0,y1],_=>
  have a0:=hf 0 f0 rfl;have a1:=hf 1 f1 rfl;simp only [o0,z0,o1,z1,List.drop_zero,List.drop_succ_cons,List.take_succ_cons,List.take_zero] at a0 a1
  obtain ⟨s,hs,aC⟩:=DataW.trod_string k0 a0;obtain ⟨t,ht,aD⟩:=DataW.trod_string k1 a1;injection hs with hs
  injection ht with ht
  exact ⟨s,t,by rw [hs,ht],aC.2,aD.2⟩
theorem zh9 {f0 f1:Field} (ht:P.underlying t=some (.slice e)) (he:P.underlying e=some (.struct #[f0,f1])) (hone:oneCellFields P #[f0,f1]=true) (k0:P.underlying f0.type=some .string) (k1:P.underlying f1.type=some .string) (ce:P.cellsOf e=2)
  (h:DataW.trod enc P w base (fun _=>true) held fuel t cs=some x) :
  ∃ (A:Option Addr) (n c:Nat) (C:List (ByteArray × ByteArray)),cs=[.slice A n c]∧n≤c∧c≤maxLen∧(A=none→c=0)∧(∀ p ∈ C,p.1.size≤maxLen∧p.2.size≤maxLen)∧PtsR w w.heap.size A n C:=by
 rcases open_slice ht h with ⟨rfl,_⟩ | ⟨a,len,aG,m,f,D,Pl,rfl,_,hl,hm,aD,_,hx⟩
 ·exact ⟨none,0,0,[],rfl,Nat.le_refl _,Nat.zero_le _,fun _=>rfl,(fun p hp=>by cases hp),rfl,fun h=>absurd h (Nat.lt_irrefl _)⟩
 ·simp only [if_true] at aD
  subst aD;rw [ce] at hx;obtain ⟨Y,hY⟩:=choose_lt (α:=ByteArray × ByteArray) (p:=fun i y=>(w.cell? ((a.add (i*2)).add 0)=some (.string y.1)∧w.cell? ((a.add (i*2)).add 1)=some (.string y.2))∧y.1.size≤maxLen∧y.2.size≤maxLen) (n:=m) (fun i hi=>by
   obtain ⟨aF,h1,h2⟩:=hx i hi;obtain ⟨_,aC,aA⟩:=World.cells?_some h1;obtain ⟨s,t,aE,s1,s2⟩:=zkE he hone k0 k1 (by simpa using aC) h2;have e0:=(aA 0 (by omega));have e1:=(aA 1 (by omega));have g0:aF[0]? = some (.string s):=by rw [aE];rfl
   have g1:aF[1]? = some (.string t):=by rw [aE];rfl
   exact ⟨(s,t),⟨e0.trans g0,e1.trans g1⟩,s1,s2⟩)
  refine ⟨some a,len,m,(List.range len).map Y,rfl,hl,hm,(fun e=>by cases e),(fun p hp => ?_),by simp,fun hp=>⟨a,rfl,?_,fun i hi => ?_⟩⟩
  ·obtain ⟨i,hi,rfl⟩:=List.mem_map.1 hp
   rw [List.mem_range] at hi;exact (hY i (by omega)).2
  ·have h0:=(hY 0 (by omega)).1.1
   have:=World.block_lt_of_cell? w _ h0
   simpa [zaK] using this
  ·have aH:i<len:=by simpa using hi
   simp only [List.getElem_map,List.getElem_range]
   exact (hY i (by omega)).1
end
end
end Go.Proofs.YtbkgkoenppkhpaaGreatDoor
