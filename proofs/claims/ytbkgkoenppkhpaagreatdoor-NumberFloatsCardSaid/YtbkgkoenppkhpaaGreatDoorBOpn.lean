/- Arguments opened: a slice of ints, a slice of slices of singles, a struct of two singles. -/
import Derived.Test.YtbkgkoenppkhpaaGreatDoorBDw
import Derived.Deep.Slices
namespace Go.Proofs.YtbkgkoenppkhpaaGreatDoor
open Go.RowKit Go.WideShapes Go.ChangeShapes Go.Deep
section
variable {H:Type} {enc:TypeId × Value→H} {P:Program} {w:World} {base fuel:Nat} {held:Bool} {t e q:TypeId} {cs:List Value} {x:DataW H × List MemPlace}
end
section
variable {H:Type} {enc:TypeId × Value→H} {P:Program}
theorem zhh{f:Func}{s:ChangeSpec}{apart fresh handsOn again:Bool}{W W':World}{args:Array Value}{v:Value}{ds gs:List (DataW H)}{before pa pv:List MemPlace}
 (hW:DataW.Whole enc P f.params.toList s.vars apart W args.toList ds gs before)
 (hres:∀ (b:Nat) (sp:Nat→Bool) (hd:Bool),DataW.TrodAll enc P W' b sp hd f.resultTypes.toList (v.resultList f.resultTypes.size) (s.fn H (ds++gs)).results [])
 (hargs:∀ sp:Nat→Bool,(∀ p ∈ before,sp p.block=true)→DataW.TrodAll enc P W' 0 sp true f.params.toList args.toList (s.fn H (ds++gs)).args pa)
 (hvars:∀ sp:Nat→Bool,(∀ p ∈ before,sp p.block=true)→DataW.TrodVars enc P W' sp s.vars (s.fn H (ds++gs)).vars pv)
 (hps:before=pa++pv)(hb:Below W.heap.size W W')
 (hok:∀ (j:Nat) (t:TypeId) (r:Value),f.resultTypes[j]? = some t→(v.resultList f.resultTypes.size)[j]? = some r→Value.okWide P W' .any 0 t r) :
  s.post enc P f apart fresh handsOn again W args v W':=by
 have lt:∀ p ∈ before,p.block<W.heap.size:=fun p hp=>hW.lt p hp
 obtain⟨_,_,_,_,_,hz,hn⟩:=id hW;refine⟨ds,gs,before,[],pa,pv,hW,hres _ _ _,hargs _ (fun p hp=>by simpa using lt p hp),hvars _ (fun p hp=>by simpa using lt p hp),World.keptBut_mono (fun p hp=>⟨hp,?_⟩) (hb.frame (· ∈ before)),fun _=>⟨hok,_,_,([]++pa)++pv,⟨[]++pa,pv,trodAll_append (hargs _ (fun _ _=>rfl)) (hres _ _ _),hvars _ (fun _ _=>rfl),rfl,?_,?_⟩,?_⟩⟩
 ·exact Or.inr (by rw[hps,List.mem_append] at hp;exact hp)
 ·intro b off hp
  have aA:MemPlace.cell b off ∈ before:=by rw[hps];simpa using hp
  rw[hb.frozen (lt _ aA)];exact hz b off aA
 ·intro ha
  have h1:=hn ha;rw[hps] at h1
  simpa using h1
 ·intro p hp _
  rw[hps]
  simpa using hp
end
end Go.Proofs.YtbkgkoenppkhpaaGreatDoor
