/- Contract of package number's exactCosine: a map of five numbers that the call makes. -/
import Derived.Maps.OwnOps
import Derived.Test.YteajibbphcfmeaaGreatDoorXCo4
import Derived.Test.YteajibbphcfmeaaGreatDoorXSp7
import Derived.Test.YteajibbphcfmeaaGreatDoorXRb24
namespace Go.Proofs.YteajibbphcfmeaaGreatDoor
open Go.RowKit Bn
def zdV (w:World) (b:Nat) (es:Array MapEntry) (n:Nat):World:={ w with heap:=w.heap.setIfInBounds b (.map es n) }
theorem zbB {w:World} {b:Nat} {x:Obj} (h:w.heap[b]? = some x) (es:Array MapEntry) (n:Nat):(zdV w b es n).heap[b]? = some (.map es n):=by
 have hb:b<w.heap.size:=by
  rcases Nat.lt_or_ge b w.heap.size with h1 | h1
  ·exact h1
  ·rw [Array.getElem?_eq_none h1] at h;cases h
 show (w.heap.setIfInBounds b (.map es n))[b]? = _
 rw [Array.getElem?_setIfInBounds_self,if_pos hb]
theorem zjK (w:World) (b:Nat) (es:Array MapEntry) (n:Nat):(zdV w b es n).heap.size=w.heap.size:=by
 show (w.heap.setIfInBounds b (.map es n)).size=_
 simp
theorem za8 {a w:World} {B b:Nat} (h:Below B a w) (hb:B≤b) (es:Array MapEntry) (n:Nat):Below B a (zdV w b es n):=
 ⟨h.os,h.tape,h.output,by rw [zjK];exact h.size,fun i hi=>by
  rw [←h.block i hi];show (w.heap.setIfInBounds b (.map es n))[i]? = _
  rw [Array.getElem?_setIfInBounds_ne (by omega)]⟩
theorem zbC {w:World} {b g:Nat} {c:Array Value} {t:TypeId} (h:CBlk w g c t) (hne:g≠b) (es:Array MapEntry) (n:Nat):CBlk (zdV w b es n) g c t:=by
 unfold CBlk;show (w.heap.setIfInBounds b (.map es n))[g]? = _
 rw [Array.getElem?_setIfInBounds_ne (fun e=>hne e.symm)];exact h
theorem zaJ {P:Program} (w:World) {ops:Array Oper} {rest:List Oper} {o:Oper} {a:Act} {Q:Exit→Act→World→Prop}
  (hg:o.guard=none) (m x v:Operand) (t:TypeId) (hop:o.op=Op.insert t m x v) (k e:TypeId) (ht:P.underlying t=some (.map k e)) (hk:P.underlying k=some .string)
  (b n:Nat) (es:Array MapEntry) (hm:a.eval m = .map (some b)) (hb:w.heap[b]? = some (.map es n)) (s y:ByteArray) (hx:a.eval x = .string s) (hv:a.eval v = .string y)
  (hf:Instr.findNow .string (.string s) es.toList 0=some none) (es':Array MapEntry) (n':Nat) (he:es.push ⟨.string s,.string y,n⟩=es') (hn:n+1=n')
  (hK:wpList P ops Q rest (a.put o.dst undef) (zdV w b es' n')) :
  wpList P ops Q (o :: rest) a w:=by
 subst he;subst hn;refine wpList_plain hg fun K' aA => ?_
 have h1:(Instr.findKey k (.string s) es.toList).run P w = .ok none w:=by
  unfold Instr.findKey;simp only [Sem.run_bind,run_underlying hk,Result.andThen,hf]
  rfl
 have hc:(Instr.checkKey false 10000 k (.string s)).run P w = .ok () w:=by
  show (Instr.checkKey false (9999+1) k (.string s)).run P w = .ok () w
  generalize 9999=d;simp [Instr.checkKey,run_underlying hk,Result.andThen]
 unfold Oper.wp;simp [execOp,hop,hm,hx,hv,Instr.mapUpdate,run_underlying ht,MapKept.run_getObj_map hb,hc,h1,MapKept.run_setObj_map _ hb,Result.andThen]
 exact aA _ _ hK
theorem zdu {P:Program} (w:World) {ops:Array Oper} {rest:List Oper} {o:Oper} {a:Act} {Q:Exit→Act→World→Prop}
  (hg:o.guard=none) (m x:Operand) (t:TypeId) (hop:o.op=Op.lookup t m x true) (k e:TypeId) (ht:P.underlying t=some (.map k e)) (hk:P.underlying k=some .string)
  (hz:∀ w,(zeroValue e).run P w = .ok (.string { data:=#[] }) w) (b n:Nat) (es:Array MapEntry) (hm:a.eval m = .map (some b)) (hb:w.heap[b]? = some (.map es n)) (s:ByteArray) (hx:a.eval x = .string s)
  (r:Option (Nat × Value)) (hf:Instr.findNow .string (.string s) es.toList 0=some r) (y:ByteArray) (ok:Bool) (hr:r=if ok then r.map (fun p=>(p.1,.string y)) else none) (hro:ok=r.isSome) (hy:ok=false→y={ data:=#[] })
  (hK:wpList P ops Q rest (a.put o.dst (.tuple #[.string y,.bool ok])) w) :
  wpList P ops Q (o :: rest) a w:=by
 refine wpList_plain hg fun K' aA => ?_
 have h1:(Instr.findKey k (.string s) es.toList).run P w = .ok r w:=by
  unfold Instr.findKey;simp only [Sem.run_bind,run_underlying hk,Result.andThen,hf]
  rfl
 have hc:∀ b,(Instr.checkKey b 10000 k (.string s)).run P w = .ok () w:=fun b=>by
  show (Instr.checkKey b (9999+1) k (.string s)).run P w = .ok () w
  generalize 9999=d;simp [Instr.checkKey,run_underlying hk,Result.andThen]
 unfold Oper.wp
 cases r with
 | none=>
  obtain rfl:ok=false:=hro;obtain rfl:=hy rfl;simp [execOp,hop,hm,hx,Instr.lookup,run_underlying ht,MapKept.run_getObj_map hb,hc,h1,hz,Result.andThen]
  exact aA _ _ hK
 | some p=>
  obtain rfl:ok=true:=hro;obtain ⟨i,u⟩:=p;simp at hr
  subst hr;simp [execOp,hop,hm,hx,Instr.lookup,run_underlying ht,MapKept.run_getObj_map hb,hc,h1,Result.andThen]
  exact aA _ _ hK
theorem zfQ {P:Program} (w:World) {ops:Array Oper} {rest:List Oper} {o:Oper} {a:Act} {Q:Exit→Act→World→Prop}
  (hg:o.guard=none) (m x:Operand) (t:TypeId) (hop:o.op=Op.lookup t m x true) (k e:TypeId) (ht:P.underlying t=some (.map k e)) (hk:P.underlying k=some .string)
  (hz:∀ w,(zeroValue e).run P w = .ok (.string { data:=#[] }) w) (b n:Nat) (es:Array MapEntry) (hm:a.eval m = .map (some b)) (hb:w.heap[b]? = some (.map es n)) (s:ByteArray) (hx:a.eval x = .string s)
  (i:Nat) (y:ByteArray) (hf:Instr.findNow .string (.string s) es.toList 0=some (some (i,.string y)))
  (hK:wpList P ops Q rest (a.put o.dst (.tuple #[.string y,.bool true])) w):wpList P ops Q (o :: rest) a w:=
 zdu w hg m x t hop k e ht hk hz b n es hm hb s hx _ hf y true rfl rfl (fun h=>by cases h) hK
theorem zgM {P:Program} (w:World) {ops:Array Oper} {rest:List Oper} {o:Oper} {a:Act} {Q:Exit→Act→World→Prop}
  (hg:o.guard=none) (m x:Operand) (t:TypeId) (hop:o.op=Op.lookup t m x true) (k e:TypeId) (ht:P.underlying t=some (.map k e)) (hk:P.underlying k=some .string)
  (hz:∀ w,(zeroValue e).run P w = .ok (.string { data:=#[] }) w) (b n:Nat) (es:Array MapEntry) (hm:a.eval m = .map (some b)) (hb:w.heap[b]? = some (.map es n)) (s:ByteArray) (hx:a.eval x = .string s)
  (hf:Instr.findNow .string (.string s) es.toList 0=some none)
  (hK:wpList P ops Q rest (a.put o.dst (.tuple #[.string { data:=#[] },.bool false])) w):wpList P ops Q (o :: rest) a w:=
 zdu w hg m x t hop k e ht hk hz b n es hm hb s hx _ hf { data:=#[] } false rfl rfl (fun _=>rfl) hK
def exE:Array MapEntry:=#[⟨.string { data:=#[48] },.string { data:=#[49] },0⟩,⟨.string { data:=#[49,47,54] },.string { data:=#[49,47,50] },1⟩,⟨.string { data:=#[49,47,52] },.string { data:=#[48] },2⟩,⟨.string { data:=#[49,47,51] },.string { data:=#[45,49,47,50] },3⟩,⟨.string { data:=#[49,47,50] },.string { data:=#[45,49] },4⟩]
theorem exU:Tryz.prog.underlying 218=some (.map 22 22):=by kernel_rfl
theorem exK:Tryz.prog.underlying 22=some .string:=by kernel_rfl
theorem exZ (w:World):(zeroValue 22).run Tryz.prog w = .ok (.string { data:=#[] }) w:=by kernel_rfl
set_option maxHeartbeats 4000000 in
set_option maxRecDepth 100000 in
theorem zev (p:Q) (s y:ByteArray) (i:Nat) (v:Value) (w:World) (hT:Tabs w) (hv:RatS w w.heap.size v p) (hl:LenQ p 268435456) (hs:Hid (s.data.toList=zaI p)) (h0:zao p=0)
  (HF:Hid (Instr.findNow .string (.string s) exE.toList 0=some (some (i,.string y)))) :
  Calls Tryz.prog 164 #[v] w fun e w'=>e = .returned (.tuple #[.string y,.bool true])∧Below w.heap.size w w':=by
 obtain ⟨A1,n1,c1,A2,n2,c2,rfl,h1,h2⟩:=hv;have hw:∀ v W,Tabs W→RatS W W.heap.size v p→Calls Tryz.prog 66 #[v] W fun e w'=>e = .returned (.tuple #[.string s,.int .i64 0])∧Below W.heap.size W w':=fun v W a b=>by
  have h:=zbN p v W a b hl;rw [h0] at h;refine h.mono ?_;rintro e w' ⟨s',rfl,aL,hb⟩;obtain rfl:s'=s:=by
   have:=aL.trans hs.out.symm
   cases s';cases s;congr 1;exact Array.toList_inj.1 this
  exact ⟨rfl,hb⟩
 have HW:=Lib.hid hw;clear hw h0 hs;have aA:Below w.heap.size w (w.alloc (.cells #[.bool p.neg,.slice A1 n1 c1,.slice A2 n2 c2] 91)):=((Below.refl _ _).alloc (by simp<;>omega) _);have q0:CBlk (w.alloc (.cells #[.bool p.neg,.slice A1 n1 c1,.slice A2 n2 c2] 91)) (w.heap.size) #[.bool p.neg,.slice A1 n1 c1,.slice A2 n2 c2] 91:=(CBlk.new _ _ _ _ (by simp));go_enter Tryz.func164,Tryz.ntmps164
 go_upto_region 1 with (fail)
 generalize (w.alloc (.cells #[.bool p.neg,.slice A1 n1 c1,.slice A2 n2 c2] 91))=W at *;have aN:=@run_makeMap Tryz.prog;have g0:=heap_alloc_new W (.map #[] 0);have g1:=zbB g0 #[⟨.string { data:=#[48] },.string { data:=#[49] },0⟩] 1;have g2:=zbB g1 #[⟨.string { data:=#[48] },.string { data:=#[49] },0⟩,⟨.string { data:=#[49,47,54] },.string { data:=#[49,47,50] },1⟩] 2;have g3:=zbB g2 #[⟨.string { data:=#[48] },.string { data:=#[49] },0⟩,⟨.string { data:=#[49,47,54] },.string { data:=#[49,47,50] },1⟩,⟨.string { data:=#[49,47,52] },.string { data:=#[48] },2⟩] 3;have g4:=zbB g3 #[⟨.string { data:=#[48] },.string { data:=#[49] },0⟩,⟨.string { data:=#[49,47,54] },.string { data:=#[49,47,50] },1⟩,⟨.string { data:=#[49,47,52] },.string { data:=#[48] },2⟩,⟨.string { data:=#[49,47,51] },.string { data:=#[45,49,47,50] },3⟩] 4;have g5:=zbB g4 #[⟨.string { data:=#[48] },.string { data:=#[49] },0⟩,⟨.string { data:=#[49,47,54] },.string { data:=#[49,47,50] },1⟩,⟨.string { data:=#[49,47,52] },.string { data:=#[48] },2⟩,⟨.string { data:=#[49,47,51] },.string { data:=#[45,49,47,50] },3⟩,⟨.string { data:=#[49,47,50] },.string { data:=#[45,49] },4⟩] 5;have m0:Below w.heap.size w (W.alloc (.map #[] 0)):=aA.alloc aA.size _;have m1:=za8 m0 aA.size #[⟨.string { data:=#[48] },.string { data:=#[49] },0⟩] 1;have m2:=za8 m1 aA.size #[⟨.string { data:=#[48] },.string { data:=#[49] },0⟩,⟨.string { data:=#[49,47,54] },.string { data:=#[49,47,50] },1⟩] 2;have m3:=za8 m2 aA.size #[⟨.string { data:=#[48] },.string { data:=#[49] },0⟩,⟨.string { data:=#[49,47,54] },.string { data:=#[49,47,50] },1⟩,⟨.string { data:=#[49,47,52] },.string { data:=#[48] },2⟩] 3;have m4:=za8 m3 aA.size #[⟨.string { data:=#[48] },.string { data:=#[49] },0⟩,⟨.string { data:=#[49,47,54] },.string { data:=#[49,47,50] },1⟩,⟨.string { data:=#[49,47,52] },.string { data:=#[48] },2⟩,⟨.string { data:=#[49,47,51] },.string { data:=#[45,49,47,50] },3⟩] 4;have m5:=za8 m4 aA.size #[⟨.string { data:=#[48] },.string { data:=#[49] },0⟩,⟨.string { data:=#[49,47,54] },.string { data:=#[49,47,50] },1⟩,⟨.string { data:=#[49,47,52] },.string { data:=#[48] },2⟩,⟨.string { data:=#[49,47,51] },.string { data:=#[45,49,47,50] },3⟩,⟨.string { data:=#[49,47,50] },.string { data:=#[45,49] },4⟩] 5;have aJ:=q0.alloc (.map #[] 0);have aG:=Nat.ne_of_lt q0.lt;have aC:=zbC aJ aG #[⟨.string { data:=#[48] },.string { data:=#[49] },0⟩] 1;have aH:=zbC aC aG #[⟨.string { data:=#[48] },.string { data:=#[49] },0⟩,⟨.string { data:=#[49,47,54] },.string { data:=#[49,47,50] },1⟩] 2;have aD:=zbC aH aG #[⟨.string { data:=#[48] },.string { data:=#[49] },0⟩,⟨.string { data:=#[49,47,54] },.string { data:=#[49,47,50] },1⟩,⟨.string { data:=#[49,47,52] },.string { data:=#[48] },2⟩] 3;have aE:=zbC aD aG #[⟨.string { data:=#[48] },.string { data:=#[49] },0⟩,⟨.string { data:=#[49,47,54] },.string { data:=#[49,47,50] },1⟩,⟨.string { data:=#[49,47,52] },.string { data:=#[48] },2⟩,⟨.string { data:=#[49,47,51] },.string { data:=#[45,49,47,50] },3⟩] 4;have aF:=zbC aE aG #[⟨.string { data:=#[48] },.string { data:=#[49] },0⟩,⟨.string { data:=#[49,47,54] },.string { data:=#[49,47,50] },1⟩,⟨.string { data:=#[49,47,52] },.string { data:=#[48] },2⟩,⟨.string { data:=#[49,47,51] },.string { data:=#[45,49,47,50] },3⟩,⟨.string { data:=#[49,47,50] },.string { data:=#[45,49] },4⟩] 5;have aI:=aF;clear aC aH aD aE aF;go_upto_region 2 with (first | refine zaJ _ rfl _ _ _ _ rfl 22 22 exU exK W.heap.size 0 #[] rfl (by with_reducible exact g0) _ _ rfl rfl (by rfl) #[⟨.string { data:=#[48] },.string { data:=#[49] },0⟩] 1 (by rfl) (by rfl) ?_ | refine zaJ _ rfl _ _ _ _ rfl 22 22 exU exK W.heap.size 1 #[⟨.string { data:=#[48] },.string { data:=#[49] },0⟩] rfl (by with_reducible exact g1) _ _ rfl rfl (by rfl) #[⟨.string { data:=#[48] },.string { data:=#[49] },0⟩,⟨.string { data:=#[49,47,54] },.string { data:=#[49,47,50] },1⟩] 2 (by rfl) (by rfl) ?_ | refine zaJ _ rfl _ _ _ _ rfl 22 22 exU exK W.heap.size 2 #[⟨.string { data:=#[48] },.string { data:=#[49] },0⟩,⟨.string { data:=#[49,47,54] },.string { data:=#[49,47,50] },1⟩] rfl (by with_reducible exact g2) _ _ rfl rfl (by rfl) #[⟨.string { data:=#[48] },.string { data:=#[49] },0⟩,⟨.string { data:=#[49,47,54] },.string { data:=#[49,47,50] },1⟩,⟨.string { data:=#[49,47,52] },.string { data:=#[48] },2⟩] 3 (by rfl) (by rfl) ?_ | refine zaJ _ rfl _ _ _ _ rfl 22 22 exU exK W.heap.size 3 #[⟨.string { data:=#[48] },.string { data:=#[49] },0⟩,⟨.string { data:=#[49,47,54] },.string { data:=#[49,47,50] },1⟩,⟨.string { data:=#[49,47,52] },.string { data:=#[48] },2⟩] rfl (by with_reducible exact g3) _ _ rfl rfl (by rfl) #[⟨.string { data:=#[48] },.string { data:=#[49] },0⟩,⟨.string { data:=#[49,47,54] },.string { data:=#[49,47,50] },1⟩,⟨.string { data:=#[49,47,52] },.string { data:=#[48] },2⟩,⟨.string { data:=#[49,47,51] },.string { data:=#[45,49,47,50] },3⟩] 4 (by rfl) (by rfl) ?_ | refine zaJ _ rfl _ _ _ _ rfl 22 22 exU exK W.heap.size 4 #[⟨.string { data:=#[48] },.string { data:=#[49] },0⟩,⟨.string { data:=#[49,47,54] },.string { data:=#[49,47,50] },1⟩,⟨.string { data:=#[49,47,52] },.string { data:=#[48] },2⟩,⟨.string { data:=#[49,47,51] },.string { data:=#[45,49,47,50] },3⟩] rfl (by with_reducible exact g4) _ _ rfl rfl (by rfl) #[⟨.string { data:=#[48] },.string { data:=#[49] },0⟩,⟨.string { data:=#[49,47,54] },.string { data:=#[49,47,50] },1⟩,⟨.string { data:=#[49,47,52] },.string { data:=#[48] },2⟩,⟨.string { data:=#[49,47,51] },.string { data:=#[45,49,47,50] },3⟩,⟨.string { data:=#[49,47,50] },.string { data:=#[45,49] },4⟩] 5 (by rfl) (by rfl) ?_)
 generalize (zdV (zdV (zdV (zdV (zdV (W.alloc (.map #[] 0)) W.heap.size #[⟨.string { data:=#[48] },.string { data:=#[49] },0⟩] 1) W.heap.size #[⟨.string { data:=#[48] },.string { data:=#[49] },0⟩,⟨.string { data:=#[49,47,54] },.string { data:=#[49,47,50] },1⟩] 2) W.heap.size #[⟨.string { data:=#[48] },.string { data:=#[49] },0⟩,⟨.string { data:=#[49,47,54] },.string { data:=#[49,47,50] },1⟩,⟨.string { data:=#[49,47,52] },.string { data:=#[48] },2⟩] 3) W.heap.size #[⟨.string { data:=#[48] },.string { data:=#[49] },0⟩,⟨.string { data:=#[49,47,54] },.string { data:=#[49,47,50] },1⟩,⟨.string { data:=#[49,47,52] },.string { data:=#[48] },2⟩,⟨.string { data:=#[49,47,51] },.string { data:=#[45,49,47,50] },3⟩] 4) W.heap.size #[⟨.string { data:=#[48] },.string { data:=#[49] },0⟩,⟨.string { data:=#[49,47,54] },.string { data:=#[49,47,50] },1⟩,⟨.string { data:=#[49,47,52] },.string { data:=#[48] },2⟩,⟨.string { data:=#[49,47,51] },.string { data:=#[45,49,47,50] },3⟩,⟨.string { data:=#[49,47,50] },.string { data:=#[45,49] },4⟩] 5)=W5 at *;clear g0 g1 g2 g3 g4 m0 m1 m2 m3 m4 q0 aJ;have a0:=aI.cell 0;have a1:=aI.cell 1;have a2:=aI.cell 2
 go_wp2_with fail
 refine (HW.out _ W5 (hT.later m5) (RatS.mk (h1.later m5) (h2.later m5))).mono ?_;rintro e w6 ⟨rfl,aK⟩;have aM:=m5.trans (aK.mono m5.size);have g6:w6.heap[W.heap.size]? = some (.map exE 5):=(aK.block W.heap.size (by
  rcases Nat.lt_or_ge W.heap.size W5.heap.size with h | h
  ·exact h
  ·rw [Array.getElem?_eq_none h] at g5;cases g5)).trans g5
 go_wp2_with (refine zfQ _ rfl _ _ _ rfl 22 22 exU exK exZ W.heap.size 5 exE rfl (by with_reducible exact g6) s rfl _ _ HF.out ?_)
 go_ret2
 exact ⟨rfl,aM⟩
set_option maxHeartbeats 4000000 in
set_option maxRecDepth 100000 in
theorem zdh (p:Q) (s:ByteArray) (v:Value) (w:World) (hT:Tabs w) (hv:RatS w w.heap.size v p) (hl:LenQ p 268435456) (hs:Hid (s.data.toList=zaI p)) (h0:zao p=0)
  (HF:Hid (Instr.findNow .string (.string s) exE.toList 0=some none)) :
  Calls Tryz.prog 164 #[v] w fun e w'=>e = .returned (.tuple #[.string { data:=#[] },.bool false])∧Below w.heap.size w w':=by
 obtain ⟨A1,n1,c1,A2,n2,c2,rfl,h1,h2⟩:=hv;have hw:∀ v W,Tabs W→RatS W W.heap.size v p→Calls Tryz.prog 66 #[v] W fun e w'=>e = .returned (.tuple #[.string s,.int .i64 0])∧Below W.heap.size W w':=fun v W a b=>by
  have h:=zbN p v W a b hl;rw [h0] at h;refine h.mono ?_;rintro e w' ⟨s',rfl,aL,hb⟩;obtain rfl:s'=s:=by
   have:=aL.trans hs.out.symm
   cases s';cases s;congr 1;exact Array.toList_inj.1 this
  exact ⟨rfl,hb⟩
 have HW:=Lib.hid hw;clear hw h0 hs;have aA:Below w.heap.size w (w.alloc (.cells #[.bool p.neg,.slice A1 n1 c1,.slice A2 n2 c2] 91)):=((Below.refl _ _).alloc (by simp<;>omega) _);have q0:CBlk (w.alloc (.cells #[.bool p.neg,.slice A1 n1 c1,.slice A2 n2 c2] 91)) (w.heap.size) #[.bool p.neg,.slice A1 n1 c1,.slice A2 n2 c2] 91:=(CBlk.new _ _ _ _ (by simp));go_enter Tryz.func164,Tryz.ntmps164
 go_upto_region 1 with (fail)
 generalize (w.alloc (.cells #[.bool p.neg,.slice A1 n1 c1,.slice A2 n2 c2] 91))=W at *;have aN:=@run_makeMap Tryz.prog;have g0:=heap_alloc_new W (.map #[] 0);have g1:=zbB g0 #[⟨.string { data:=#[48] },.string { data:=#[49] },0⟩] 1;have g2:=zbB g1 #[⟨.string { data:=#[48] },.string { data:=#[49] },0⟩,⟨.string { data:=#[49,47,54] },.string { data:=#[49,47,50] },1⟩] 2;have g3:=zbB g2 #[⟨.string { data:=#[48] },.string { data:=#[49] },0⟩,⟨.string { data:=#[49,47,54] },.string { data:=#[49,47,50] },1⟩,⟨.string { data:=#[49,47,52] },.string { data:=#[48] },2⟩] 3;have g4:=zbB g3 #[⟨.string { data:=#[48] },.string { data:=#[49] },0⟩,⟨.string { data:=#[49,47,54] },.string { data:=#[49,47,50] },1⟩,⟨.string { data:=#[49,47,52] },.string { data:=#[48] },2⟩,⟨.string { data:=#[49,47,51] },.string { data:=#[45,49,47,50] },3⟩] 4;have g5:=zbB g4 #[⟨.string { data:=#[48] },.string { data:=#[49] },0⟩,⟨.string { data:=#[49,47,54] },.string { data:=#[49,47,50] },1⟩,⟨.string { data:=#[49,47,52] },.string { data:=#[48] },2⟩,⟨.string { data:=#[49,47,51] },.string { data:=#[45,49,47,50] },3⟩,⟨.string { data:=#[49,47,50] },.string { data:=#[45,49] },4⟩] 5;have m0:Below w.heap.size w (W.alloc (.map #[] 0)):=aA.alloc aA.size _;have m1:=za8 m0 aA.size #[⟨.string { data:=#[48] },.string { data:=#[49] },0⟩] 1;have m2:=za8 m1 aA.size #[⟨.string { data:=#[48] },.string { data:=#[49] },0⟩,⟨.string { data:=#[49,47,54] },.string { data:=#[49,47,50] },1⟩] 2;have m3:=za8 m2 aA.size #[⟨.string { data:=#[48] },.string { data:=#[49] },0⟩,⟨.string { data:=#[49,47,54] },.string { data:=#[49,47,50] },1⟩,⟨.string { data:=#[49,47,52] },.string { data:=#[48] },2⟩] 3;have m4:=za8 m3 aA.size #[⟨.string { data:=#[48] },.string { data:=#[49] },0⟩,⟨.string { data:=#[49,47,54] },.string { data:=#[49,47,50] },1⟩,⟨.string { data:=#[49,47,52] },.string { data:=#[48] },2⟩,⟨.string { data:=#[49,47,51] },.string { data:=#[45,49,47,50] },3⟩] 4;have m5:=za8 m4 aA.size #[⟨.string { data:=#[48] },.string { data:=#[49] },0⟩,⟨.string { data:=#[49,47,54] },.string { data:=#[49,47,50] },1⟩,⟨.string { data:=#[49,47,52] },.string { data:=#[48] },2⟩,⟨.string { data:=#[49,47,51] },.string { data:=#[45,49,47,50] },3⟩,⟨.string { data:=#[49,47,50] },.string { data:=#[45,49] },4⟩] 5;have aJ:=q0.alloc (.map #[] 0);have aG:=Nat.ne_of_lt q0.lt;have aC:=zbC aJ aG #[⟨.string { data:=#[48] },.string { data:=#[49] },0⟩] 1;have aH:=zbC aC aG #[⟨.string { data:=#[48] },.string { data:=#[49] },0⟩,⟨.string { data:=#[49,47,54] },.string { data:=#[49,47,50] },1⟩] 2;have aD:=zbC aH aG #[⟨.string { data:=#[48] },.string { data:=#[49] },0⟩,⟨.string { data:=#[49,47,54] },.string { data:=#[49,47,50] },1⟩,⟨.string { data:=#[49,47,52] },.string { data:=#[48] },2⟩] 3;have aE:=zbC aD aG #[⟨.string { data:=#[48] },.string { data:=#[49] },0⟩,⟨.string { data:=#[49,47,54] },.string { data:=#[49,47,50] },1⟩,⟨.string { data:=#[49,47,52] },.string { data:=#[48] },2⟩,⟨.string { data:=#[49,47,51] },.string { data:=#[45,49,47,50] },3⟩] 4;have aF:=zbC aE aG #[⟨.string { data:=#[48] },.string { data:=#[49] },0⟩,⟨.string { data:=#[49,47,54] },.string { data:=#[49,47,50] },1⟩,⟨.string { data:=#[49,47,52] },.string { data:=#[48] },2⟩,⟨.string { data:=#[49,47,51] },.string { data:=#[45,49,47,50] },3⟩,⟨.string { data:=#[49,47,50] },.string { data:=#[45,49] },4⟩] 5;have aI:=aF;clear aC aH aD aE aF;go_upto_region 2 with (first | refine zaJ _ rfl _ _ _ _ rfl 22 22 exU exK W.heap.size 0 #[] rfl (by with_reducible exact g0) _ _ rfl rfl (by rfl) #[⟨.string { data:=#[48] },.string { data:=#[49] },0⟩] 1 (by rfl) (by rfl) ?_ | refine zaJ _ rfl _ _ _ _ rfl 22 22 exU exK W.heap.size 1 #[⟨.string { data:=#[48] },.string { data:=#[49] },0⟩] rfl (by with_reducible exact g1) _ _ rfl rfl (by rfl) #[⟨.string { data:=#[48] },.string { data:=#[49] },0⟩,⟨.string { data:=#[49,47,54] },.string { data:=#[49,47,50] },1⟩] 2 (by rfl) (by rfl) ?_ | refine zaJ _ rfl _ _ _ _ rfl 22 22 exU exK W.heap.size 2 #[⟨.string { data:=#[48] },.string { data:=#[49] },0⟩,⟨.string { data:=#[49,47,54] },.string { data:=#[49,47,50] },1⟩] rfl (by with_reducible exact g2) _ _ rfl rfl (by rfl) #[⟨.string { data:=#[48] },.string { data:=#[49] },0⟩,⟨.string { data:=#[49,47,54] },.string { data:=#[49,47,50] },1⟩,⟨.string { data:=#[49,47,52] },.string { data:=#[48] },2⟩] 3 (by rfl) (by rfl) ?_ | refine zaJ _ rfl _ _ _ _ rfl 22 22 exU exK W.heap.size 3 #[⟨.string { data:=#[48] },.string { data:=#[49] },0⟩,⟨.string { data:=#[49,47,54] },.string { data:=#[49,47,50] },1⟩,⟨.string { data:=#[49,47,52] },.string { data:=#[48] },2⟩] rfl (by with_reducible exact g3) _ _ rfl rfl (by rfl) #[⟨.string { data:=#[48] },.string { data:=#[49] },0⟩,⟨.string { data:=#[49,47,54] },.string { data:=#[49,47,50] },1⟩,⟨.string { data:=#[49,47,52] },.string { data:=#[48] },2⟩,⟨.string { data:=#[49,47,51] },.string { data:=#[45,49,47,50] },3⟩] 4 (by rfl) (by rfl) ?_ | refine zaJ _ rfl _ _ _ _ rfl 22 22 exU exK W.heap.size 4 #[⟨.string { data:=#[48] },.string { data:=#[49] },0⟩,⟨.string { data:=#[49,47,54] },.string { data:=#[49,47,50] },1⟩,⟨.string { data:=#[49,47,52] },.string { data:=#[48] },2⟩,⟨.string { data:=#[49,47,51] },.string { data:=#[45,49,47,50] },3⟩] rfl (by with_reducible exact g4) _ _ rfl rfl (by rfl) #[⟨.string { data:=#[48] },.string { data:=#[49] },0⟩,⟨.string { data:=#[49,47,54] },.string { data:=#[49,47,50] },1⟩,⟨.string { data:=#[49,47,52] },.string { data:=#[48] },2⟩,⟨.string { data:=#[49,47,51] },.string { data:=#[45,49,47,50] },3⟩,⟨.string { data:=#[49,47,50] },.string { data:=#[45,49] },4⟩] 5 (by rfl) (by rfl) ?_)
 generalize (zdV (zdV (zdV (zdV (zdV (W.alloc (.map #[] 0)) W.heap.size #[⟨.string { data:=#[48] },.string { data:=#[49] },0⟩] 1) W.heap.size #[⟨.string { data:=#[48] },.string { data:=#[49] },0⟩,⟨.string { data:=#[49,47,54] },.string { data:=#[49,47,50] },1⟩] 2) W.heap.size #[⟨.string { data:=#[48] },.string { data:=#[49] },0⟩,⟨.string { data:=#[49,47,54] },.string { data:=#[49,47,50] },1⟩,⟨.string { data:=#[49,47,52] },.string { data:=#[48] },2⟩] 3) W.heap.size #[⟨.string { data:=#[48] },.string { data:=#[49] },0⟩,⟨.string { data:=#[49,47,54] },.string { data:=#[49,47,50] },1⟩,⟨.string { data:=#[49,47,52] },.string { data:=#[48] },2⟩,⟨.string { data:=#[49,47,51] },.string { data:=#[45,49,47,50] },3⟩] 4) W.heap.size #[⟨.string { data:=#[48] },.string { data:=#[49] },0⟩,⟨.string { data:=#[49,47,54] },.string { data:=#[49,47,50] },1⟩,⟨.string { data:=#[49,47,52] },.string { data:=#[48] },2⟩,⟨.string { data:=#[49,47,51] },.string { data:=#[45,49,47,50] },3⟩,⟨.string { data:=#[49,47,50] },.string { data:=#[45,49] },4⟩] 5)=W5 at *;clear g0 g1 g2 g3 g4 m0 m1 m2 m3 m4 q0 aJ;have a0:=aI.cell 0;have a1:=aI.cell 1;have a2:=aI.cell 2
 go_wp2_with fail
 refine (HW.out _ W5 (hT.later m5) (RatS.mk (h1.later m5) (h2.later m5))).mono ?_;rintro e w6 ⟨rfl,aK⟩;have aM:=m5.trans (aK.mono m5.size);have g6:w6.heap[W.heap.size]? = some (.map exE 5):=(aK.block W.heap.size (by
  rcases Nat.lt_or_ge W.heap.size W5.heap.size with h | h
  ·exact h
  ·rw [Array.getElem?_eq_none h] at g5;cases g5)).trans g5
 go_wp2_with (refine zgM _ rfl _ _ _ rfl 22 22 exU exK exZ W.heap.size 5 exE rfl (by with_reducible exact g6) s rfl HF.out ?_)
 go_ret2
 exact ⟨rfl,aM⟩
theorem CBlk.far3 {w:World} {g g':Nat} {c:Array Value} {t:TypeId} (h:CBlk w g c t) (hne:g'≠g) (u v x:Value):CBlk (((w.setCell ⟨g',0,none⟩ u).setCell ⟨g',1,none⟩ v).setCell ⟨g',2,none⟩ x) g c t:=
 ((h.setFar hne _).setFar hne _).setFar hne _
theorem CBlk.set3 {w:World} {g:Nat} {a b c:Value} {t:TypeId} (h:CBlk w g #[a,b,c] t) (u v x:Value):CBlk (((w.setCell ⟨g,0,none⟩ u).setCell ⟨g,1,none⟩ v).setCell ⟨g,2,none⟩ x) g #[u,v,x] t:=
 ((h.set 0 u).set 1 v).set 2 x
theorem RatS.res3 {w:World} {g:Nat} {v:Value} {q:Q} {b0:Bool} {a1 a2:Option Addr} {m1 d1 m2 d2:Nat} {t:TypeId} (h:RatS w w.heap.size v q) (hz:CBlk w g #[.bool b0,.slice a1 m1 d1,.slice a2 m2 d2] t) (b:Bool) (A1 A2:Option Addr) (n1 c1 n2 c2:Nat) :
  RatS (((w.setCell ⟨g,0,none⟩ (.bool b)).setCell ⟨g,1,none⟩ (.slice A1 n1 c1)).setCell ⟨g,2,none⟩ (.slice A2 n2 c2)) (((w.setCell ⟨g,0,none⟩ (.bool b)).setCell ⟨g,1,none⟩ (.slice A1 n1 c1)).setCell ⟨g,2,none⟩ (.slice A2 n2 c2)).heap.size v q:=by
 obtain ⟨A,n,c,A',n',c',rfl,h1,h2⟩:=h;exact ⟨A,n,c,A',n',c',rfl,h1.store3 hz (zfd _ _ _ _ _ _ _) 0 1 2 _ _ _ _ _ _ _,h2.store3 hz (zfd _ _ _ _ _ _ _) 0 1 2 _ _ _ _ _ _ _⟩
def zoE (p:Q):Q:=zaZ p (za7 p)
def oneQ:Q:=⟨false,1,1⟩
theorem zn5 (w:World):Calls Tryz.prog 78 #[.int .i64 1] w (zaU w oneQ):=zcn 1 w (by omega) (by omega)
theorem ziP:LenQ oneQ 1:=⟨zbs,zbs⟩
theorem zlX {p:Q} {K:Nat} (h:LenQ p K):LenQ (za7 p) (K+2):=by
 refine ⟨?_,Nat.le_trans zbs (by omega)⟩;unfold za7
 dsimp only
 have h1:(digs (p.top / p.bot)).length≤K:=Nat.le_trans (zaa (Nat.div_le_self _ _)) h.1
 split
 ·exact zc0 h1 zbs
 ·omega
def zi0 (q:Q):Q:=if rcmp (zaZ oneQ q) q<0 then zaZ oneQ q else q
def zhX (p:Q):Q:=zi0 (zoE p)
set_option maxHeartbeats 4000000 in
set_option maxRecDepth 100000 in
theorem zez (p:Q) (v:Value) (w:World) (hT:Tabs w) (hv:RatS w w.heap.size v p) (hy:0<p.bot) (hl:LenQ p 1048576) :
  Calls Tryz.prog 163 #[v] w (zaU w (zhX p)):=by
 obtain ⟨A1,n1,c1,A2,n2,c2,rfl,h1,h2⟩:=hv;have aW:Below w.heap.size w ((w.alloc (.cells #[.bool p.neg,.slice A1 n1 c1,.slice A2 n2 c2] 91)).alloc (.cells #[.bool false,.slice none 0 0,.slice none 0 0] 91)):=(((Below.refl _ _).alloc (by simp<;>omega) _).alloc (by simp<;>omega) _);have q0:CBlk ((w.alloc (.cells #[.bool p.neg,.slice A1 n1 c1,.slice A2 n2 c2] 91)).alloc (.cells #[.bool false,.slice none 0 0,.slice none 0 0] 91)) (w.heap.size) #[.bool p.neg,.slice A1 n1 c1,.slice A2 n2 c2] 91:=((CBlk.new _ _ _ _ (by simp)).alloc _);have q1:CBlk ((w.alloc (.cells #[.bool p.neg,.slice A1 n1 c1,.slice A2 n2 c2] 91)).alloc (.cells #[.bool false,.slice none 0 0,.slice none 0 0] 91)) (w.heap.size+1) #[.bool false,.slice none 0 0,.slice none 0 0] 91:=(CBlk.new _ _ _ _ (by simp));go_enter Tryz.func163,Tryz.ntmps163
 go_upto_region 1 with (fail)
 generalize ((w.alloc (.cells #[.bool p.neg,.slice A1 n1 c1,.slice A2 n2 c2] 91)).alloc (.cells #[.bool false,.slice none 0 0,.slice none 0 0] 91))=W at *;have a0:=q0.cell 0;have a1:=q0.cell 1;have a2:=q0.cell 2;have z0:=q0.frozen 0;have z1:=q0.frozen 1;have z2:=q0.frozen 2;have lf:=zlX hl;have HF:=Lib.hid (fun v W h=>zi4 p v W h hy (hl.mono (by omega)));have HM:=Lib.hid (fun v u W h1 h2 h3=>zcz p (za7 p) v u W h1 h2 h3 (hl.mono (by omega)) (lf.mono (by omega)))
 go_region_law (first | (go_simp;go_at_call 79;refine (HF.out _ _ (RatS.mk (h1.later aW.drew) (h2.later aW.drew))).mono ?_;rintro e w4 ⟨v4,rfl,⟨A3,n3,c3,A4,n4,c4,rfl,h3,h4⟩,aS⟩;have bK:=q0.drew.below aS q0.lt;have cL:=bK.cell 0;have bV:=bK.cell 1;have cB:=bK.cell 2) | (go_simp;go_at_call 67;refine (HM.out _ _ w4 ((hT.later aW.drew).later aS) (RatS.mk ((h1.later aW.drew).later aS) ((h2.later aW.drew).later aS)) (RatS.mk h3 h4)).mono ?_;rintro e w5 ⟨v5,rfl,⟨A5,n5,c5,A6,n6,c6,rfl,h5,h6⟩,bI⟩;have aX:=(q0.drew.below aS q0.lt).below bI (Nat.lt_of_lt_of_le q0.lt aS.size);have cE:=aX.cell 0;have bX:=aX.cell 1;have cI:=aX.cell 2;have cM:=aX.frozen 0;have cA:=aX.frozen 1;have cG:=aX.frozen 2))
 all_goals
  have bS:=(aW.drew.trans (aS.mono aW.drew.size)).trans (bI.mono (Nat.le_trans aW.drew.size aS.size));have bU:=(q1.drew.below aS q1.lt).below bI (Nat.lt_of_lt_of_le q1.lt aS.size);have bR:RatS w5 w5.heap.size (.agg #[.bool (zaZ p (za7 p)).neg,.slice A5 n5 c5,.slice A6 n6 c6]) (zaZ p (za7 p)):=RatS.mk h5 h6;have bH:LenQ (zaZ p (za7 p)) 8388608:=(zbl hl (zbE lf)).mono (by omega);have hB:=zan bS (g:=w.heap.size) (Nat.le_refl _) (.bool (zaZ p (za7 p)).neg) (.slice A5 n5 c5) (.slice A6 n6 c6);have qf:=aX.set3 (.bool (zaZ p (za7 p)).neg) (.slice A5 n5 c5) (.slice A6 n6 c6);have qz:=bU.far3 (g':=w.heap.size) (by omega) (.bool (zaZ p (za7 p)).neg) (.slice A5 n5 c5) (.slice A6 n6 c6);have hf:=bR.res3 aX (zaZ p (za7 p)).neg A5 A6 n5 c5 n6 c6;clear bR aX bU bS aS bI q0 q1 aW bK cL bV cB cE bX cI cM cA cG a0 a1 a2 z0 z1 z2 HF HM h1 h2 h3 h4 h5 h6 lf;generalize (((w5.setCell ⟨w.heap.size,0,none⟩ (.bool (zaZ p (za7 p)).neg)).setCell ⟨w.heap.size,1,none⟩ (.slice A5 n5 c5)).setCell ⟨w.heap.size,2,none⟩ (.slice A6 n6 c6))=X at *;have HQ:=Lib.hid (show zhX p=zi0 (zaZ p (za7 p)) from rfl);clear hl hy;generalize (zaZ p (za7 p))=fq at *;obtain ⟨mq,bG⟩:∃ q,q=zaZ oneQ fq:=⟨_,rfl⟩;have bT:LenQ mq 33554432:=by rw [bG];exact (zbl ziP (zbE bH)).mono (by omega)
  have HM:=Lib.hid (fun v u W hT h2 h3=>(show Calls _ _ _ _ (zaU W mq) from by rw [bG];exact zcz oneQ fq v u W hT h2 h3 (ziP.mono (by omega)) (bH.mono (by omega))));have HO:=Lib.hid (fun W=>zn5 W);have HC:=Lib.hid (fun v u W h1 h2=>zbe mq fq v u W h1 h2 (bT.mono (by omega)) (bH.mono (by omega)));have bJ:=Lib.hid bG;clear bT bH bG
  go_wp2_with fail
  obtain ⟨G2,bF⟩:∃ g,g=X.heap.size:=⟨_,rfl⟩;have bZ:w.heap.size≤G2:=by rw [bF];exact hB.size
  have aU:w.heap.size<G2:=by rw [bF];exact qf.lt
  have aT:w.heap.size+1<G2:=by rw [bF];exact qz.lt
  obtain ⟨bP,aY⟩:∃ I:Array Bool→Act→World→Prop,I=(fun aQ ac W=>∃ (b0 b1 b2 b3 b4:Bool) (u8 u9 bB u3:Value) (aO:Option Addr) (aP aN:Nat) (aF:Option Addr) (aH aG:Nat) (aI:Option Addr) (aJ aK:Nat) (aD:Option Addr) (aC aA:Nat) (aL:Nat),aQ=#[b0,b1,b2,b3,b4]∧ac={ tmps:=#[.agg #[.bool p.neg,.slice A1 n1 c1,.slice A2 n2 c2],.pointer (some ⟨w.heap.size,0,none⟩),.pointer (some ⟨w.heap.size+1,0,none⟩),u3,.agg #[.bool p.neg,.slice A1 n1 c1,.slice A2 n2 c2],.agg #[.bool p.neg,.slice A1 n1 c1,.slice A2 n2 c2],.agg #[.bool (za7 p).neg,.slice A3 n3 c3,.slice A4 n4 c4],.agg #[.bool fq.neg,.slice A5 n5 c5,.slice A6 n6 c6],u8,u9,bB,undef,undef,undef,undef,undef,undef],defers:=[] }∧G2≤W.heap.size∧Below w.heap.size w W∧CBlk W (w.heap.size) #[.bool fq.neg,.slice A5 n5 c5,.slice A6 n6 c6] 91∧CBlk W (w.heap.size+1) #[.bool false,.slice none 0 0,.slice none 0 0] 91∧RatS W W.heap.size (.agg #[.bool fq.neg,.slice A5 n5 c5,.slice A6 n6 c6]) fq∧(b0=true→u8 = .agg #[.bool oneQ.neg,.slice aO aP aN,.slice aF aH aG]∧RatS W W.heap.size (.agg #[.bool oneQ.neg,.slice aO aP aN,.slice aF aH aG]) ⟨oneQ.neg,oneQ.top,oneQ.bot⟩)∧(b1=true→u9 = .agg #[.bool fq.neg,.slice A5 n5 c5,.slice A6 n6 c6])∧(b2=true→bB = .agg #[.bool mq.neg,.slice aI aJ aK,.slice aD aC aA]∧RatS W W.heap.size (.agg #[.bool mq.neg,.slice aI aJ aK,.slice aD aC aA]) ⟨mq.neg,mq.top,mq.bot⟩)∧(b3=true→u3 = .pointer (some ⟨aL,0,none⟩)∧G2≤aL∧aL<W.heap.size∧(b4=false→CBlk W aL #[.bool false,.slice none 0 0,.slice none 0 0] 91))∧(b4=true→b3=true∧b2=true∧CBlk W aL #[.bool mq.neg,.slice aI aJ aK,.slice aD aC aA] 91)):=⟨_,rfl⟩;have aE:=Lib.hid aY;clear aY;refine zby (by kernel_rfl) bP (by kernel_rfl) ?_ ?_ ?_
  ·rw [aE.out]
   exact ⟨false,false,false,false,false,undef,undef,undef,undef,none,0,0,none,0,0,none,0,0,none,0,0,0,rfl,rfl,(by rw [bF];exact Nat.le_refl _),hB.drew,qf.drew,qz.drew,(hf.later (Below.drew (Below.refl _ _))),(fun h=>by cases h),(fun h=>by cases h),(fun h=>by cases h),(fun h=>by cases h),(fun h=>by cases h)⟩
  ·intro i op aQ ac W ho hI hl aM
   rw [aE.out] at hI;obtain ⟨b0,b1,b2,b3,b4,u8,u9,bB,u3,aO,aP,aN,aF,aH,aG,aI,aJ,aK,aD,aC,aA,aL,rfl,rfl,bE,hB,qf,qz,hf,f0,f1,f2,f3,f4⟩:=hI;clear bF
   match i,ho,hl,aM with
   | 0,ho,hl,aM=>
    have aV:b0=false:=Option.some.inj hl;obtain rfl:=Option.some.inj ho;refine zap ho fun K' hK => ?_
    go_simp
    go_at_call 78
    refine (HO.out W).mono ?_;rintro e W1 ⟨v0,rfl,⟨A,n,c,A',n',c',rfl,kt,kb⟩,hb⟩;refine hK.out _ _ ?_;rw [aE.out];exact ⟨true,b1,b2,b3,b4,(.agg #[.bool oneQ.neg,.slice A n c,.slice A' n' c']),u9,bB,u3,A,n,c,A',n',c',aI,aJ,aK,aD,aC,aA,aL,rfl,rfl,(Nat.le_trans bE hb.size),(hB.trans (hb.mono hB.size)),(qf.below hb qf.lt),(qz.below hb qz.lt),(hf.later hb),(fun _=>⟨rfl,⟨A,n,c,A',n',c',rfl,kt,kb⟩⟩),f1,(fun h=>⟨(f2 h).1,(f2 h).2.later hb⟩),(fun h=>⟨(f3 h).1,(f3 h).2.1,Nat.lt_of_lt_of_le (f3 h).2.2.1 hb.size,fun h2=>((f3 h).2.2.2 h2).below hb (f3 h).2.2.1⟩),(fun h=>⟨(f4 h).1,(f4 h).2.1,(f4 h).2.2.below hb (f4 h).2.2.lt⟩)⟩
   | 1,ho,hl,aM=>
    have aV:b1=false:=Option.some.inj hl;obtain rfl:=Option.some.inj ho;refine zap ho fun K' hK => ?_
    have x0:=qf.cell 0;have x1:=qf.cell 1;have x2:=qf.cell 2
    go_simp
    refine hK.out _ _ ?_;rw [aE.out];exact ⟨b0,true,b2,b3,b4,u8,(.agg #[.bool fq.neg,.slice A5 n5 c5,.slice A6 n6 c6]),bB,u3,aO,aP,aN,aF,aH,aG,aI,aJ,aK,aD,aC,aA,aL,rfl,rfl,bE,hB,qf,qz,hf,f0,(fun _=>rfl),f2,f3,f4⟩
   | 2,ho,hl,aM=>
    have aV:b2=false:=Option.some.inj hl;obtain rfl:=Option.some.inj ho;have e0:b0=true:=aM ⟨0,.data⟩ (by simp) rfl;obtain ⟨rfl,cK⟩:=f0 e0;have e1:b1=true:=aM ⟨1,.data⟩ (by simp) rfl;obtain rfl:=f1 e1;refine zap ho fun K' hK => ?_
    go_simp
    go_at_call 67
    refine (HM.out _ _ W (hT.later hB) cK hf).mono ?_;rintro e W1 ⟨v0,rfl,⟨A,n,c,A',n',c',rfl,kt,kb⟩,hb⟩;refine hK.out _ _ ?_;rw [aE.out];exact ⟨b0,b1,true,b3,b4,(.agg #[.bool oneQ.neg,.slice aO aP aN,.slice aF aH aG]),(.agg #[.bool fq.neg,.slice A5 n5 c5,.slice A6 n6 c6]),(.agg #[.bool mq.neg,.slice A n c,.slice A' n' c']),u3,aO,aP,aN,aF,aH,aG,A,n,c,A',n',c',aL,rfl,rfl,(Nat.le_trans bE hb.size),(hB.trans (hb.mono hB.size)),(qf.below hb qf.lt),(qz.below hb qz.lt),(hf.later hb),(fun h=>⟨(f0 h).1,(f0 h).2.later hb⟩),f1,(fun _=>⟨rfl,⟨A,n,c,A',n',c',rfl,kt,kb⟩⟩),(fun h=>⟨(f3 h).1,(f3 h).2.1,Nat.lt_of_lt_of_le (f3 h).2.2.1 hb.size,fun h2=>((f3 h).2.2.2 h2).below hb (f3 h).2.2.1⟩),(fun h=>by rw [(f4 h).2.1] at aV;cases aV)⟩
   | 3,ho,hl,aM=>
    have aV:b3=false:=Option.some.inj hl;obtain rfl:=Option.some.inj ho;refine zap ho fun K' hK => ?_
    have hb:Below W.heap.size W (W.alloc (.cells #[.bool false,.slice none 0 0,.slice none 0 0] 91)):=(Below.refl _ _).alloc (Nat.le_refl _) _
    go_simp
    refine hK.out _ _ ?_;rw [aE.out];exact ⟨b0,b1,b2,true,b4,u8,u9,bB,(.pointer (some ⟨W.heap.size,0,none⟩)),aO,aP,aN,aF,aH,aG,aI,aJ,aK,aD,aC,aA,W.heap.size,rfl,rfl,(Nat.le_trans bE hb.size),(hB.trans (hb.mono hB.size)),(qf.below hb qf.lt),(qz.below hb qz.lt),(hf.later hb),(fun h=>⟨(f0 h).1,(f0 h).2.later hb⟩),f1,(fun h=>⟨(f2 h).1,(f2 h).2.later hb⟩),(fun _=>⟨rfl,bE,by simp,fun _=>CBlk.new W _ _ _ rfl⟩),(fun h=>by rw [(f4 h).1] at aV;cases aV)⟩
   | 4,ho,hl,aM=>
    have aV:b4=false:=Option.some.inj hl;obtain rfl:=Option.some.inj ho;have e3:b3=true:=aM ⟨3,.data⟩ (by simp) rfl;obtain ⟨rfl,bN,cO,bY⟩:=f3 e3;have e2:b2=true:=aM ⟨2,.data⟩ (by simp) rfl;obtain ⟨rfl,cN⟩:=f2 e2;refine zap ho fun K' hK => ?_
    have hz:=bY aV;have z0:=hz.cell 0;have z1:=hz.cell 1;have z2:=hz.cell 2;have bW:=hz.frozen 0;have cC:=hz.frozen 1;have cJ:=hz.frozen 2
    go_simp
    refine hK.out _ _ ?_;rw [aE.out];exact ⟨b0,b1,b2,b3,true,u8,u9,(.agg #[.bool mq.neg,.slice aI aJ aK,.slice aD aC aA]),(.pointer (some ⟨aL,0,none⟩)),aO,aP,aN,aF,aH,aG,aI,aJ,aK,aD,aC,aA,aL,rfl,rfl,(by rw [zah];exact bE),(zan hB (Nat.le_trans bZ bN) _ _ _),(qf.far3 (Nat.ne_of_gt (Nat.lt_of_lt_of_le aU bN)) _ _ _),(qz.far3 (Nat.ne_of_gt (Nat.lt_of_lt_of_le aT bN)) _ _ _),(hf.res3 hz _ _ _ _ _ _ _),(fun h=>⟨(f0 h).1,(f0 h).2.res3 hz _ _ _ _ _ _ _⟩),f1,(fun h=>⟨(f2 h).1,(f2 h).2.res3 hz _ _ _ _ _ _ _⟩),(fun h=>⟨(f3 h).1,(f3 h).2.1,by rw [zah];exact (f3 h).2.2.1,fun h2=>by cases h2⟩),(fun _=>⟨e3,e2,hz.set3 _ _ _⟩)⟩
   | n+5,ho,hl,aM=>exact absurd ho (by simp)
  ·intro aQ ac Y hI aR
   rw [aE.out] at hI;clear hB qf qz hf;obtain ⟨b0,b1,b2,b3,b4,u8,u9,bB,u3,aO,aP,aN,aF,aH,aG,aI,aJ,aK,aD,aC,aA,aL,rfl,rfl,bE,hB,qf,qz,hf,f0,f1,f2,f3,f4⟩:=hI;have e0:b0=true:=aR 0 b0 (by decide) rfl;have e1:b1=true:=aR 1 b1 (by decide) rfl;have e2:b2=true:=aR 2 b2 (by decide) rfl;have e3:b3=true:=aR 3 b3 (by decide) rfl;have e4:b4=true:=aR 4 b4 (by decide) rfl;subst e0;subst e1;subst e2;subst e3;subst e4;obtain ⟨rfl,qo⟩:=f0 rfl;obtain rfl:=f1 rfl;obtain ⟨rfl,qm⟩:=f2 rfl;obtain ⟨rfl,bO,_,_⟩:=f3 rfl;have t3:=(f4 rfl).2.2;clear f0 f1 f2 f3 f4 aR aE aU aT;have x0:=qf.cell 0;have x1:=qf.cell 1;have x2:=qf.cell 2;have y0:=t3.cell 0;have y1:=t3.cell 1;have y2:=t3.cell 2;clear HM HO hT
   go_wp2_with fail
   refine (HC.out _ _ Y qm hf).mono ?_;rintro e w8 ⟨rfl,bC⟩;have bQ:=hB.trans (bC.mono hB.size);have bM:=t3.below bC t3.lt;have bL:=qf.below bC qf.lt;have aZ:=qz.below bC qz.lt;have cF:=qm.later bC;have cH:=hf.later bC;clear HC hB bC t3 qf qz qm hf qo x0 x1 x2 y0 y1 y2;have x0:=bL.cell 0;have x1:=bL.cell 1;have x2:=bL.cell 2;have y0:=bM.cell 0;have y1:=bM.cell 1;have y2:=bM.cell 2;have z0:=aZ.cell 0;have z1:=aZ.cell 1;have z2:=aZ.cell 2;have bW:=aZ.frozen 0;have cC:=aZ.frozen 1;have cJ:=aZ.frozen 2
   by_cases hc:rcmp mq fq<0
   ·have d:decide (rcmp mq fq<0)=true:=decide_eq_true hc
    have hr:zhX p=mq:=by rw [HQ.out];unfold zi0;rw [←bJ.out,if_pos hc]
    have HR:=Lib.hid hr;clear hr hc;have bD:=zan bQ (g:=w.heap.size+1) (by omega) (.bool mq.neg) (.slice aI aJ aK) (.slice aD aC aA);have bA:=cF.res3 aZ mq.neg aI aD aJ aK aC aA;clear bJ HQ
    go_wp2_with fail
    refine bodyPost_ret (v := .agg #[.bool mq.neg,.slice aI aJ aK,.slice aD aC aA]) (by simp [results,Tryz.results163,go_sem,z0,z1,z2]) rfl ⟨_,rfl,?_,bD⟩;rw [HR.out];exact bA
   ·have d:decide (rcmp mq fq<0)=false:=decide_eq_false hc
    have hr:zhX p=fq:=by rw [HQ.out];unfold zi0;rw [←bJ.out,if_neg hc]
    have HR:=Lib.hid hr;clear hr hc;have bD:=zan bQ (g:=w.heap.size+1) (by omega) (.bool fq.neg) (.slice A5 n5 c5) (.slice A6 n6 c6);have bA:=cH.res3 aZ fq.neg A5 A6 n5 c5 n6 c6;clear bJ HQ
    go_wp2_with fail
    refine bodyPost_ret (v := .agg #[.bool fq.neg,.slice A5 n5 c5,.slice A6 n6 c6]) (by simp [results,Tryz.results163,go_sem,z0,z1,z2]) rfl ⟨_,rfl,?_,bD⟩;rw [HR.out];exact bA
end Go.Proofs.YteajibbphcfmeaaGreatDoor
