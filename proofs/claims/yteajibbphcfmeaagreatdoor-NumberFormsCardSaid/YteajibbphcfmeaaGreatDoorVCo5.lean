/- Contract of package number's exactCosine: a map of five numbers that the call makes. -/
import Derived.Maps.OwnOps
import Derived.Test.YteajibbphcfmeaaGreatDoorVCo2
import Derived.Test.YteajibbphcfmeaaGreatDoorVSp7
namespace Go.Proofs.YteajibbphcfmeaaGreatDoor
open Go.RowKit Bn
def zdH (w:World) (b:Nat) (es:Array MapEntry) (n:Nat):World:={ w with heap:=w.heap.setIfInBounds b (.map es n) }
theorem zbu {w:World} {b:Nat} {x:Obj} (h:w.heap[b]? = some x) (es:Array MapEntry) (n:Nat):(zdH w b es n).heap[b]? = some (.map es n):=by
 have hb:b<w.heap.size:=by
  rcases Nat.lt_or_ge b w.heap.size with h1 | h1
  ·exact h1
  ·rw [Array.getElem?_eq_none h1] at h;cases h
 show (w.heap.setIfInBounds b (.map es n))[b]? = _
 rw [Array.getElem?_setIfInBounds_self,if_pos hb]
theorem zi9 (w:World) (b:Nat) (es:Array MapEntry) (n:Nat):(zdH w b es n).heap.size=w.heap.size:=by
 show (w.heap.setIfInBounds b (.map es n)).size=_
 simp
theorem za5 {a w:World} {B b:Nat} (h:Below B a w) (hb:B≤b) (es:Array MapEntry) (n:Nat):Below B a (zdH w b es n):=
 ⟨h.os,h.tape,h.output,by rw [zi9];exact h.size,fun i hi=>by
  rw [←h.block i hi]
  show (w.heap.setIfInBounds b (.map es n))[i]? = _
  rw [Array.getElem?_setIfInBounds_ne (by omega)]⟩
theorem zbw {w:World} {b g:Nat} {c:Array Value} {t:TypeId} (h:CBlk w g c t) (hne:g≠b) (es:Array MapEntry) (n:Nat):CBlk (zdH w b es n) g c t:=by
 unfold CBlk
 show (w.heap.setIfInBounds b (.map es n))[g]? = _
 rw [Array.getElem?_setIfInBounds_ne (fun e=>hne e.symm)]
 exact h
theorem zaI {P:Program} (w:World) {ops:Array Oper} {rest:List Oper} {o:Oper} {a:Act} {Q:Exit→Act→World→Prop}
  (hg:o.guard=none) (m x v:Operand) (t:TypeId) (hop:o.op=Op.insert t m x v) (k e:TypeId) (ht:P.underlying t=some (.map k e)) (hk:P.underlying k=some .string)
  (b n:Nat) (es:Array MapEntry) (hm:a.eval m = .map (some b)) (hb:w.heap[b]? = some (.map es n)) (s y:ByteArray) (hx:a.eval x = .string s) (hv:a.eval v = .string y)
  (hf:Instr.findNow .string (.string s) es.toList 0=some none) (es':Array MapEntry) (n':Nat) (he:es.push ⟨.string s,.string y,n⟩=es') (hn:n+1=n')
  (hK:wpList P ops Q rest (a.put o.dst undef) (zdH w b es' n')) :
  wpList P ops Q (o :: rest) a w:=by
 subst he
 subst hn
 refine wpList_plain hg fun K' aA => ?_
 have h1:(Instr.findKey k (.string s) es.toList).run P w = .ok none w:=by
  unfold Instr.findKey
  simp only [Sem.run_bind,run_underlying hk,Result.andThen,hf]
  rfl
 have hc:(Instr.checkKey false 10000 k (.string s)).run P w = .ok () w:=by
  show (Instr.checkKey false (9999+1) k (.string s)).run P w = .ok () w
  generalize 9999=d
  simp [Instr.checkKey,run_underlying hk,Result.andThen]
 unfold Oper.wp
 simp [execOp,hop,hm,hx,hv,Instr.mapUpdate,run_underlying ht,MapKept.run_getObj_map hb,hc,h1,MapKept.run_setObj_map _ hb,Result.andThen]
 exact aA _ _ hK
theorem zdd {P:Program} (w:World) {ops:Array Oper} {rest:List Oper} {o:Oper} {a:Act} {Q:Exit→Act→World→Prop}
  (hg:o.guard=none) (m x:Operand) (t:TypeId) (hop:o.op=Op.lookup t m x true) (k e:TypeId) (ht:P.underlying t=some (.map k e)) (hk:P.underlying k=some .string)
  (hz:∀ w,(zeroValue e).run P w = .ok (.string { data:=#[] }) w) (b n:Nat) (es:Array MapEntry) (hm:a.eval m = .map (some b)) (hb:w.heap[b]? = some (.map es n)) (s:ByteArray) (hx:a.eval x = .string s)
  (r:Option (Nat × Value)) (hf:Instr.findNow .string (.string s) es.toList 0=some r) (y:ByteArray) (ok:Bool) (hr:r=if ok then r.map (fun p=>(p.1,.string y)) else none) (hro:ok=r.isSome) (hy:ok=false→y={ data:=#[] })
  (hK:wpList P ops Q rest (a.put o.dst (.tuple #[.string y,.bool ok])) w) :
  wpList P ops Q (o :: rest) a w:=by
 refine wpList_plain hg fun K' aA => ?_
 have h1:(Instr.findKey k (.string s) es.toList).run P w = .ok r w:=by
  unfold Instr.findKey
  simp only [Sem.run_bind,run_underlying hk,Result.andThen,hf]
  rfl
 have hc:∀ b,(Instr.checkKey b 10000 k (.string s)).run P w = .ok () w:=fun b=>by
  show (Instr.checkKey b (9999+1) k (.string s)).run P w = .ok () w
  generalize 9999=d
  simp [Instr.checkKey,run_underlying hk,Result.andThen]
 unfold Oper.wp
 cases r with
 | none=>
  obtain rfl:ok=false:=hro
  obtain rfl:=hy rfl
  simp [execOp,hop,hm,hx,Instr.lookup,run_underlying ht,MapKept.run_getObj_map hb,hc,h1,hz,Result.andThen]
  exact aA _ _ hK
 | some p=>
  obtain rfl:ok=true:=hro
  obtain ⟨i,u⟩:=p
  simp at hr
  subst hr
  simp [execOp,hop,hm,hx,Instr.lookup,run_underlying ht,MapKept.run_getObj_map hb,hc,h1,Result.andThen]
  exact aA _ _ hK
theorem zfF {P:Program} (w:World) {ops:Array Oper} {rest:List Oper} {o:Oper} {a:Act} {Q:Exit→Act→World→Prop}
  (hg:o.guard=none) (m x:Operand) (t:TypeId) (hop:o.op=Op.lookup t m x true) (k e:TypeId) (ht:P.underlying t=some (.map k e)) (hk:P.underlying k=some .string)
  (hz:∀ w,(zeroValue e).run P w = .ok (.string { data:=#[] }) w) (b n:Nat) (es:Array MapEntry) (hm:a.eval m = .map (some b)) (hb:w.heap[b]? = some (.map es n)) (s:ByteArray) (hx:a.eval x = .string s)
  (i:Nat) (y:ByteArray) (hf:Instr.findNow .string (.string s) es.toList 0=some (some (i,.string y)))
  (hK:wpList P ops Q rest (a.put o.dst (.tuple #[.string y,.bool true])) w):wpList P ops Q (o :: rest) a w:=
 zdd w hg m x t hop k e ht hk hz b n es hm hb s hx _ hf y true rfl rfl (fun h=>by cases h) hK
theorem zf9 {P:Program} (w:World) {ops:Array Oper} {rest:List Oper} {o:Oper} {a:Act} {Q:Exit→Act→World→Prop}
  (hg:o.guard=none) (m x:Operand) (t:TypeId) (hop:o.op=Op.lookup t m x true) (k e:TypeId) (ht:P.underlying t=some (.map k e)) (hk:P.underlying k=some .string)
  (hz:∀ w,(zeroValue e).run P w = .ok (.string { data:=#[] }) w) (b n:Nat) (es:Array MapEntry) (hm:a.eval m = .map (some b)) (hb:w.heap[b]? = some (.map es n)) (s:ByteArray) (hx:a.eval x = .string s)
  (hf:Instr.findNow .string (.string s) es.toList 0=some none)
  (hK:wpList P ops Q rest (a.put o.dst (.tuple #[.string { data:=#[] },.bool false])) w):wpList P ops Q (o :: rest) a w:=
 zdd w hg m x t hop k e ht hk hz b n es hm hb s hx _ hf { data:=#[] } false rfl rfl (fun _=>rfl) hK
def exE:Array MapEntry:=#[⟨.string { data:=#[48] },.string { data:=#[49] },0⟩,⟨.string { data:=#[49,47,54] },.string { data:=#[49,47,50] },1⟩,⟨.string { data:=#[49,47,52] },.string { data:=#[48] },2⟩,⟨.string { data:=#[49,47,51] },.string { data:=#[45,49,47,50] },3⟩,⟨.string { data:=#[49,47,50] },.string { data:=#[45,49] },4⟩]
theorem exU:Tryz.prog.underlying 218=some (.map 22 22):=by kernel_rfl
theorem exK:Tryz.prog.underlying 22=some .string:=by kernel_rfl
theorem exZ (w:World):(zeroValue 22).run Tryz.prog w = .ok (.string { data:=#[] }) w:=by kernel_rfl
set_option maxHeartbeats 4000000 in
set_option maxRecDepth 100000 in
theorem zer (p:Q) (s y:ByteArray) (i:Nat) (v:Value) (w:World) (hT:Tabs w) (hv:RatS w w.heap.size v p) (hl:LenQ p 268435456) (hs:Hid (s.data.toList=za0 p)) (h0:zao p=0)
  (HF:Hid (Instr.findNow .string (.string s) exE.toList 0=some (some (i,.string y)))) :
  Calls Tryz.prog 164 #[v] w fun e w'=>e = .returned (.tuple #[.string y,.bool true])∧Below w.heap.size w w':=by
 obtain ⟨A1,n1,c1,A2,n2,c2,rfl,h1,h2⟩:=hv
 have hw:∀ v W,Tabs W→RatS W W.heap.size v p→Calls Tryz.prog 66 #[v] W fun e w'=>e = .returned (.tuple #[.string s,.int .i64 0])∧Below W.heap.size W w':=fun v W a b=>by
  have h:=zbR p v W a b hl
  rw [h0] at h
  refine h.mono ?_
  rintro e w' ⟨s',rfl,aL,hb⟩
  obtain rfl:s'=s:=by
   have:=aL.trans hs.out.symm
   cases s';cases s;congr 1;exact Array.toList_inj.1 this
  exact ⟨rfl,hb⟩
 have HW:=Lib.hid hw
 clear hw h0 hs
 have aA:Below w.heap.size w (w.alloc (.cells #[.bool p.neg,.slice A1 n1 c1,.slice A2 n2 c2] 91)):=((Below.refl _ _).alloc (by simp<;>omega) _)
 have q0:CBlk (w.alloc (.cells #[.bool p.neg,.slice A1 n1 c1,.slice A2 n2 c2] 91)) (w.heap.size) #[.bool p.neg,.slice A1 n1 c1,.slice A2 n2 c2] 91:=(CBlk.new _ _ _ _ (by simp))
 go_enter Tryz.func164,Tryz.ntmps164
 go_upto_region 1 with (fail)
 generalize (w.alloc (.cells #[.bool p.neg,.slice A1 n1 c1,.slice A2 n2 c2] 91))=W at *
 have aN:=@run_makeMap Tryz.prog
 have g0:=heap_alloc_new W (.map #[] 0)
 have g1:=zbu g0 #[⟨.string { data:=#[48] },.string { data:=#[49] },0⟩] 1
 have g2:=zbu g1 #[⟨.string { data:=#[48] },.string { data:=#[49] },0⟩,⟨.string { data:=#[49,47,54] },.string { data:=#[49,47,50] },1⟩] 2
 have g3:=zbu g2 #[⟨.string { data:=#[48] },.string { data:=#[49] },0⟩,⟨.string { data:=#[49,47,54] },.string { data:=#[49,47,50] },1⟩,⟨.string { data:=#[49,47,52] },.string { data:=#[48] },2⟩] 3
 have g4:=zbu g3 #[⟨.string { data:=#[48] },.string { data:=#[49] },0⟩,⟨.string { data:=#[49,47,54] },.string { data:=#[49,47,50] },1⟩,⟨.string { data:=#[49,47,52] },.string { data:=#[48] },2⟩,⟨.string { data:=#[49,47,51] },.string { data:=#[45,49,47,50] },3⟩] 4
 have g5:=zbu g4 #[⟨.string { data:=#[48] },.string { data:=#[49] },0⟩,⟨.string { data:=#[49,47,54] },.string { data:=#[49,47,50] },1⟩,⟨.string { data:=#[49,47,52] },.string { data:=#[48] },2⟩,⟨.string { data:=#[49,47,51] },.string { data:=#[45,49,47,50] },3⟩,⟨.string { data:=#[49,47,50] },.string { data:=#[45,49] },4⟩] 5
 have m0:Below w.heap.size w (W.alloc (.map #[] 0)):=aA.alloc aA.size _
 have m1:=za5 m0 aA.size #[⟨.string { data:=#[48] },.string { data:=#[49] },0⟩] 1
 have m2:=za5 m1 aA.size #[⟨.string { data:=#[48] },.string { data:=#[49] },0⟩,⟨.string { data:=#[49,47,54] },.string { data:=#[49,47,50] },1⟩] 2
 have m3:=za5 m2 aA.size #[⟨.string { data:=#[48] },.string { data:=#[49] },0⟩,⟨.string { data:=#[49,47,54] },.string { data:=#[49,47,50] },1⟩,⟨.string { data:=#[49,47,52] },.string { data:=#[48] },2⟩] 3
 have m4:=za5 m3 aA.size #[⟨.string { data:=#[48] },.string { data:=#[49] },0⟩,⟨.string { data:=#[49,47,54] },.string { data:=#[49,47,50] },1⟩,⟨.string { data:=#[49,47,52] },.string { data:=#[48] },2⟩,⟨.string { data:=#[49,47,51] },.string { data:=#[45,49,47,50] },3⟩] 4
 have m5:=za5 m4 aA.size #[⟨.string { data:=#[48] },.string { data:=#[49] },0⟩,⟨.string { data:=#[49,47,54] },.string { data:=#[49,47,50] },1⟩,⟨.string { data:=#[49,47,52] },.string { data:=#[48] },2⟩,⟨.string { data:=#[49,47,51] },.string { data:=#[45,49,47,50] },3⟩,⟨.string { data:=#[49,47,50] },.string { data:=#[45,49] },4⟩] 5
 have aK:=q0.alloc (.map #[] 0)
 have aE:=Nat.ne_of_lt q0.lt
 have aG:=zbw aK aE #[⟨.string { data:=#[48] },.string { data:=#[49] },0⟩] 1
 have aD:=zbw aG aE #[⟨.string { data:=#[48] },.string { data:=#[49] },0⟩,⟨.string { data:=#[49,47,54] },.string { data:=#[49,47,50] },1⟩] 2
 have aC:=zbw aD aE #[⟨.string { data:=#[48] },.string { data:=#[49] },0⟩,⟨.string { data:=#[49,47,54] },.string { data:=#[49,47,50] },1⟩,⟨.string { data:=#[49,47,52] },.string { data:=#[48] },2⟩] 3
 have aH:=zbw aC aE #[⟨.string { data:=#[48] },.string { data:=#[49] },0⟩,⟨.string { data:=#[49,47,54] },.string { data:=#[49,47,50] },1⟩,⟨.string { data:=#[49,47,52] },.string { data:=#[48] },2⟩,⟨.string { data:=#[49,47,51] },.string { data:=#[45,49,47,50] },3⟩] 4
 have aF:=zbw aH aE #[⟨.string { data:=#[48] },.string { data:=#[49] },0⟩,⟨.string { data:=#[49,47,54] },.string { data:=#[49,47,50] },1⟩,⟨.string { data:=#[49,47,52] },.string { data:=#[48] },2⟩,⟨.string { data:=#[49,47,51] },.string { data:=#[45,49,47,50] },3⟩,⟨.string { data:=#[49,47,50] },.string { data:=#[45,49] },4⟩] 5
 have aI:=aF
 clear aG aD aC aH aF
 go_upto_region 2 with (first | refine zaI _ rfl _ _ _ _ rfl 22 22 exU exK W.heap.size 0 #[] rfl (by with_reducible exact g0) _ _ rfl rfl (by rfl) #[⟨.string { data:=#[48] },.string { data:=#[49] },0⟩] 1 (by rfl) (by rfl) ?_ | refine zaI _ rfl _ _ _ _ rfl 22 22 exU exK W.heap.size 1 #[⟨.string { data:=#[48] },.string { data:=#[49] },0⟩] rfl (by with_reducible exact g1) _ _ rfl rfl (by rfl) #[⟨.string { data:=#[48] },.string { data:=#[49] },0⟩,⟨.string { data:=#[49,47,54] },.string { data:=#[49,47,50] },1⟩] 2 (by rfl) (by rfl) ?_ | refine zaI _ rfl _ _ _ _ rfl 22 22 exU exK W.heap.size 2 #[⟨.string { data:=#[48] },.string { data:=#[49] },0⟩,⟨.string { data:=#[49,47,54] },.string { data:=#[49,47,50] },1⟩] rfl (by with_reducible exact g2) _ _ rfl rfl (by rfl) #[⟨.string { data:=#[48] },.string { data:=#[49] },0⟩,⟨.string { data:=#[49,47,54] },.string { data:=#[49,47,50] },1⟩,⟨.string { data:=#[49,47,52] },.string { data:=#[48] },2⟩] 3 (by rfl) (by rfl) ?_ | refine zaI _ rfl _ _ _ _ rfl 22 22 exU exK W.heap.size 3 #[⟨.string { data:=#[48] },.string { data:=#[49] },0⟩,⟨.string { data:=#[49,47,54] },.string { data:=#[49,47,50] },1⟩,⟨.string { data:=#[49,47,52] },.string { data:=#[48] },2⟩] rfl (by with_reducible exact g3) _ _ rfl rfl (by rfl) #[⟨.string { data:=#[48] },.string { data:=#[49] },0⟩,⟨.string { data:=#[49,47,54] },.string { data:=#[49,47,50] },1⟩,⟨.string { data:=#[49,47,52] },.string { data:=#[48] },2⟩,⟨.string { data:=#[49,47,51] },.string { data:=#[45,49,47,50] },3⟩] 4 (by rfl) (by rfl) ?_ | refine zaI _ rfl _ _ _ _ rfl 22 22 exU exK W.heap.size 4 #[⟨.string { data:=#[48] },.string { data:=#[49] },0⟩,⟨.string { data:=#[49,47,54] },.string { data:=#[49,47,50] },1⟩,⟨.string { data:=#[49,47,52] },.string { data:=#[48] },2⟩,⟨.string { data:=#[49,47,51] },.string { data:=#[45,49,47,50] },3⟩] rfl (by with_reducible exact g4) _ _ rfl rfl (by rfl) #[⟨.string { data:=#[48] },.string { data:=#[49] },0⟩,⟨.string { data:=#[49,47,54] },.string { data:=#[49,47,50] },1⟩,⟨.string { data:=#[49,47,52] },.string { data:=#[48] },2⟩,⟨.string { data:=#[49,47,51] },.string { data:=#[45,49,47,50] },3⟩,⟨.string { data:=#[49,47,50] },.string { data:=#[45,49] },4⟩] 5 (by rfl) (by rfl) ?_)
 generalize (zdH (zdH (zdH (zdH (zdH (W.alloc (.map #[] 0)) W.heap.size #[⟨.string { data:=#[48] },.string { data:=#[49] },0⟩] 1) W.heap.size #[⟨.string { data:=#[48] },.string { data:=#[49] },0⟩,⟨.string { data:=#[49,47,54] },.string { data:=#[49,47,50] },1⟩] 2) W.heap.size #[⟨.string { data:=#[48] },.string { data:=#[49] },0⟩,⟨.string { data:=#[49,47,54] },.string { data:=#[49,47,50] },1⟩,⟨.string { data:=#[49,47,52] },.string { data:=#[48] },2⟩] 3) W.heap.size #[⟨.string { data:=#[48] },.string { data:=#[49] },0⟩,⟨.string { data:=#[49,47,54] },.string { data:=#[49,47,50] },1⟩,⟨.string { data:=#[49,47,52] },.string { data:=#[48] },2⟩,⟨.string { data:=#[49,47,51] },.string { data:=#[45,49,47,50] },3⟩] 4) W.heap.size #[⟨.string { data:=#[48] },.string { data:=#[49] },0⟩,⟨.string { data:=#[49,47,54] },.string { data:=#[49,47,50] },1⟩,⟨.string { data:=#[49,47,52] },.string { data:=#[48] },2⟩,⟨.string { data:=#[49,47,51] },.string { data:=#[45,49,47,50] },3⟩,⟨.string { data:=#[49,47,50] },.string { data:=#[45,49] },4⟩] 5)=W5 at *
 clear g0 g1 g2 g3 g4 m0 m1 m2 m3 m4 q0 aK
 have a0:=aI.cell 0
 have a1:=aI.cell 1
 have a2:=aI.cell 2
 go_wp2_with fail
 refine (HW.out _ W5 (hT.later m5) (RatS.mk (h1.later m5) (h2.later m5))).mono ?_
 rintro e w6 ⟨rfl,aJ⟩
 have aM:=m5.trans (aJ.mono m5.size)
 have g6:w6.heap[W.heap.size]? = some (.map exE 5):=(aJ.block W.heap.size (by
  rcases Nat.lt_or_ge W.heap.size W5.heap.size with h | h
  ·exact h
  ·rw [Array.getElem?_eq_none h] at g5;cases g5)).trans g5
 go_wp2_with (refine zfF _ rfl _ _ _ rfl 22 22 exU exK exZ W.heap.size 5 exE rfl (by with_reducible exact g6) s rfl _ _ HF.out ?_)
 go_ret2
 exact ⟨rfl,aM⟩
set_option maxHeartbeats 4000000 in
set_option maxRecDepth 100000 in
theorem zc6 (p:Q) (s:ByteArray) (v:Value) (w:World) (hT:Tabs w) (hv:RatS w w.heap.size v p) (hl:LenQ p 268435456) (hs:Hid (s.data.toList=za0 p)) (h0:zao p=0)
  (HF:Hid (Instr.findNow .string (.string s) exE.toList 0=some none)) :
  Calls Tryz.prog 164 #[v] w fun e w'=>e = .returned (.tuple #[.string { data:=#[] },.bool false])∧Below w.heap.size w w':=by
 obtain ⟨A1,n1,c1,A2,n2,c2,rfl,h1,h2⟩:=hv
 have hw:∀ v W,Tabs W→RatS W W.heap.size v p→Calls Tryz.prog 66 #[v] W fun e w'=>e = .returned (.tuple #[.string s,.int .i64 0])∧Below W.heap.size W w':=fun v W a b=>by
  have h:=zbR p v W a b hl
  rw [h0] at h
  refine h.mono ?_
  rintro e w' ⟨s',rfl,aL,hb⟩
  obtain rfl:s'=s:=by
   have:=aL.trans hs.out.symm
   cases s';cases s;congr 1;exact Array.toList_inj.1 this
  exact ⟨rfl,hb⟩
 have HW:=Lib.hid hw
 clear hw h0 hs
 have aA:Below w.heap.size w (w.alloc (.cells #[.bool p.neg,.slice A1 n1 c1,.slice A2 n2 c2] 91)):=((Below.refl _ _).alloc (by simp<;>omega) _)
 have q0:CBlk (w.alloc (.cells #[.bool p.neg,.slice A1 n1 c1,.slice A2 n2 c2] 91)) (w.heap.size) #[.bool p.neg,.slice A1 n1 c1,.slice A2 n2 c2] 91:=(CBlk.new _ _ _ _ (by simp))
 go_enter Tryz.func164,Tryz.ntmps164
 go_upto_region 1 with (fail)
 generalize (w.alloc (.cells #[.bool p.neg,.slice A1 n1 c1,.slice A2 n2 c2] 91))=W at *
 have aN:=@run_makeMap Tryz.prog
 have g0:=heap_alloc_new W (.map #[] 0)
 have g1:=zbu g0 #[⟨.string { data:=#[48] },.string { data:=#[49] },0⟩] 1
 have g2:=zbu g1 #[⟨.string { data:=#[48] },.string { data:=#[49] },0⟩,⟨.string { data:=#[49,47,54] },.string { data:=#[49,47,50] },1⟩] 2
 have g3:=zbu g2 #[⟨.string { data:=#[48] },.string { data:=#[49] },0⟩,⟨.string { data:=#[49,47,54] },.string { data:=#[49,47,50] },1⟩,⟨.string { data:=#[49,47,52] },.string { data:=#[48] },2⟩] 3
 have g4:=zbu g3 #[⟨.string { data:=#[48] },.string { data:=#[49] },0⟩,⟨.string { data:=#[49,47,54] },.string { data:=#[49,47,50] },1⟩,⟨.string { data:=#[49,47,52] },.string { data:=#[48] },2⟩,⟨.string { data:=#[49,47,51] },.string { data:=#[45,49,47,50] },3⟩] 4
 have g5:=zbu g4 #[⟨.string { data:=#[48] },.string { data:=#[49] },0⟩,⟨.string { data:=#[49,47,54] },.string { data:=#[49,47,50] },1⟩,⟨.string { data:=#[49,47,52] },.string { data:=#[48] },2⟩,⟨.string { data:=#[49,47,51] },.string { data:=#[45,49,47,50] },3⟩,⟨.string { data:=#[49,47,50] },.string { data:=#[45,49] },4⟩] 5
 have m0:Below w.heap.size w (W.alloc (.map #[] 0)):=aA.alloc aA.size _
 have m1:=za5 m0 aA.size #[⟨.string { data:=#[48] },.string { data:=#[49] },0⟩] 1
 have m2:=za5 m1 aA.size #[⟨.string { data:=#[48] },.string { data:=#[49] },0⟩,⟨.string { data:=#[49,47,54] },.string { data:=#[49,47,50] },1⟩] 2
 have m3:=za5 m2 aA.size #[⟨.string { data:=#[48] },.string { data:=#[49] },0⟩,⟨.string { data:=#[49,47,54] },.string { data:=#[49,47,50] },1⟩,⟨.string { data:=#[49,47,52] },.string { data:=#[48] },2⟩] 3
 have m4:=za5 m3 aA.size #[⟨.string { data:=#[48] },.string { data:=#[49] },0⟩,⟨.string { data:=#[49,47,54] },.string { data:=#[49,47,50] },1⟩,⟨.string { data:=#[49,47,52] },.string { data:=#[48] },2⟩,⟨.string { data:=#[49,47,51] },.string { data:=#[45,49,47,50] },3⟩] 4
 have m5:=za5 m4 aA.size #[⟨.string { data:=#[48] },.string { data:=#[49] },0⟩,⟨.string { data:=#[49,47,54] },.string { data:=#[49,47,50] },1⟩,⟨.string { data:=#[49,47,52] },.string { data:=#[48] },2⟩,⟨.string { data:=#[49,47,51] },.string { data:=#[45,49,47,50] },3⟩,⟨.string { data:=#[49,47,50] },.string { data:=#[45,49] },4⟩] 5
 have aK:=q0.alloc (.map #[] 0)
 have aE:=Nat.ne_of_lt q0.lt
 have aG:=zbw aK aE #[⟨.string { data:=#[48] },.string { data:=#[49] },0⟩] 1
 have aD:=zbw aG aE #[⟨.string { data:=#[48] },.string { data:=#[49] },0⟩,⟨.string { data:=#[49,47,54] },.string { data:=#[49,47,50] },1⟩] 2
 have aC:=zbw aD aE #[⟨.string { data:=#[48] },.string { data:=#[49] },0⟩,⟨.string { data:=#[49,47,54] },.string { data:=#[49,47,50] },1⟩,⟨.string { data:=#[49,47,52] },.string { data:=#[48] },2⟩] 3
 have aH:=zbw aC aE #[⟨.string { data:=#[48] },.string { data:=#[49] },0⟩,⟨.string { data:=#[49,47,54] },.string { data:=#[49,47,50] },1⟩,⟨.string { data:=#[49,47,52] },.string { data:=#[48] },2⟩,⟨.string { data:=#[49,47,51] },.string { data:=#[45,49,47,50] },3⟩] 4
 have aF:=zbw aH aE #[⟨.string { data:=#[48] },.string { data:=#[49] },0⟩,⟨.string { data:=#[49,47,54] },.string { data:=#[49,47,50] },1⟩,⟨.string { data:=#[49,47,52] },.string { data:=#[48] },2⟩,⟨.string { data:=#[49,47,51] },.string { data:=#[45,49,47,50] },3⟩,⟨.string { data:=#[49,47,50] },.string { data:=#[45,49] },4⟩] 5
 have aI:=aF
 clear aG aD aC aH aF
 go_upto_region 2 with (first | refine zaI _ rfl _ _ _ _ rfl 22 22 exU exK W.heap.size 0 #[] rfl (by with_reducible exact g0) _ _ rfl rfl (by rfl) #[⟨.string { data:=#[48] },.string { data:=#[49] },0⟩] 1 (by rfl) (by rfl) ?_ | refine zaI _ rfl _ _ _ _ rfl 22 22 exU exK W.heap.size 1 #[⟨.string { data:=#[48] },.string { data:=#[49] },0⟩] rfl (by with_reducible exact g1) _ _ rfl rfl (by rfl) #[⟨.string { data:=#[48] },.string { data:=#[49] },0⟩,⟨.string { data:=#[49,47,54] },.string { data:=#[49,47,50] },1⟩] 2 (by rfl) (by rfl) ?_ | refine zaI _ rfl _ _ _ _ rfl 22 22 exU exK W.heap.size 2 #[⟨.string { data:=#[48] },.string { data:=#[49] },0⟩,⟨.string { data:=#[49,47,54] },.string { data:=#[49,47,50] },1⟩] rfl (by with_reducible exact g2) _ _ rfl rfl (by rfl) #[⟨.string { data:=#[48] },.string { data:=#[49] },0⟩,⟨.string { data:=#[49,47,54] },.string { data:=#[49,47,50] },1⟩,⟨.string { data:=#[49,47,52] },.string { data:=#[48] },2⟩] 3 (by rfl) (by rfl) ?_ | refine zaI _ rfl _ _ _ _ rfl 22 22 exU exK W.heap.size 3 #[⟨.string { data:=#[48] },.string { data:=#[49] },0⟩,⟨.string { data:=#[49,47,54] },.string { data:=#[49,47,50] },1⟩,⟨.string { data:=#[49,47,52] },.string { data:=#[48] },2⟩] rfl (by with_reducible exact g3) _ _ rfl rfl (by rfl) #[⟨.string { data:=#[48] },.string { data:=#[49] },0⟩,⟨.string { data:=#[49,47,54] },.string { data:=#[49,47,50] },1⟩,⟨.string { data:=#[49,47,52] },.string { data:=#[48] },2⟩,⟨.string { data:=#[49,47,51] },.string { data:=#[45,49,47,50] },3⟩] 4 (by rfl) (by rfl) ?_ | refine zaI _ rfl _ _ _ _ rfl 22 22 exU exK W.heap.size 4 #[⟨.string { data:=#[48] },.string { data:=#[49] },0⟩,⟨.string { data:=#[49,47,54] },.string { data:=#[49,47,50] },1⟩,⟨.string { data:=#[49,47,52] },.string { data:=#[48] },2⟩,⟨.string { data:=#[49,47,51] },.string { data:=#[45,49,47,50] },3⟩] rfl (by with_reducible exact g4) _ _ rfl rfl (by rfl) #[⟨.string { data:=#[48] },.string { data:=#[49] },0⟩,⟨.string { data:=#[49,47,54] },.string { data:=#[49,47,50] },1⟩,⟨.string { data:=#[49,47,52] },.string { data:=#[48] },2⟩,⟨.string { data:=#[49,47,51] },.string { data:=#[45,49,47,50] },3⟩,⟨.string { data:=#[49,47,50] },.string { data:=#[45,49] },4⟩] 5 (by rfl) (by rfl) ?_)
 generalize (zdH (zdH (zdH (zdH (zdH (W.alloc (.map #[] 0)) W.heap.size #[⟨.string { data:=#[48] },.string { data:=#[49] },0⟩] 1) W.heap.size #[⟨.string { data:=#[48] },.string { data:=#[49] },0⟩,⟨.string { data:=#[49,47,54] },.string { data:=#[49,47,50] },1⟩] 2) W.heap.size #[⟨.string { data:=#[48] },.string { data:=#[49] },0⟩,⟨.string { data:=#[49,47,54] },.string { data:=#[49,47,50] },1⟩,⟨.string { data:=#[49,47,52] },.string { data:=#[48] },2⟩] 3) W.heap.size #[⟨.string { data:=#[48] },.string { data:=#[49] },0⟩,⟨.string { data:=#[49,47,54] },.string { data:=#[49,47,50] },1⟩,⟨.string { data:=#[49,47,52] },.string { data:=#[48] },2⟩,⟨.string { data:=#[49,47,51] },.string { data:=#[45,49,47,50] },3⟩] 4) W.heap.size #[⟨.string { data:=#[48] },.string { data:=#[49] },0⟩,⟨.string { data:=#[49,47,54] },.string { data:=#[49,47,50] },1⟩,⟨.string { data:=#[49,47,52] },.string { data:=#[48] },2⟩,⟨.string { data:=#[49,47,51] },.string { data:=#[45,49,47,50] },3⟩,⟨.string { data:=#[49,47,50] },.string { data:=#[45,49] },4⟩] 5)=W5 at *
 clear g0 g1 g2 g3 g4 m0 m1 m2 m3 m4 q0 aK
 have a0:=aI.cell 0
 have a1:=aI.cell 1
 have a2:=aI.cell 2
 go_wp2_with fail
 refine (HW.out _ W5 (hT.later m5) (RatS.mk (h1.later m5) (h2.later m5))).mono ?_
 rintro e w6 ⟨rfl,aJ⟩
 have aM:=m5.trans (aJ.mono m5.size)
 have g6:w6.heap[W.heap.size]? = some (.map exE 5):=(aJ.block W.heap.size (by
  rcases Nat.lt_or_ge W.heap.size W5.heap.size with h | h
  ·exact h
  ·rw [Array.getElem?_eq_none h] at g5;cases g5)).trans g5
 go_wp2_with (refine zf9 _ rfl _ _ _ rfl 22 22 exU exK exZ W.heap.size 5 exE rfl (by with_reducible exact g6) s rfl HF.out ?_)
 go_ret2
 exact ⟨rfl,aM⟩
end Go.Proofs.YteajibbphcfmeaaGreatDoor
