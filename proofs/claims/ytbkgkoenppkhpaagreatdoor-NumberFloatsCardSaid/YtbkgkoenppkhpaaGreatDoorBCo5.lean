/- Contract of package number's exactCosine: a map of five numbers that the call makes. -/
import Derived.Test.YtbkgkoenppkhpaaGreatDoorBSp7
set_option maxRecDepth 100000
set_option maxHeartbeats 4000000
namespace Go.Proofs.YtbkgkoenppkhpaaGreatDoor
open Go.RowKit Bn
def zeK (w:World) (b:Nat) (es:Array MapEntry) (n:Nat):World:={ w with heap:=w.heap.setIfInBounds b (.map es n) }
theorem zbK{w:World}{b:Nat}{x:Obj}(h:w.heap[b]? = some x)(es:Array MapEntry)(n:Nat):(zeK w b es n).heap[b]? = some (.map es n):=by
 have hb:b<w.heap.size:=by
  rcases Nat.lt_or_ge b w.heap.size with h1 | h1
  ·exact h1
  ·rw[Array.getElem?_eq_none h1] at h;cases h
 show(w.heap.setIfInBounds b (.map es n))[b]? = _
 rw[Array.getElem?_setIfInBounds_self,if_pos hb]
theorem zlo(w:World)(b:Nat)(es:Array MapEntry)(n:Nat):(zeK w b es n).heap.size=w.heap.size:=by
 show(w.heap.setIfInBounds b (.map es n)).size=_
 simp
theorem zbj{a w:World}{B b:Nat}(h:Below B a w)(hb:B≤b)(es:Array MapEntry)(n:Nat):Below B a (zeK w b es n):=
 ⟨h.os,h.tape,h.output,by rw[zlo];exact h.size,fun i hi=>by
  rw[←h.block i hi];show(w.heap.setIfInBounds b (.map es n))[i]? = _
  rw[Array.getElem?_setIfInBounds_ne (by omega)]⟩
theorem zbM {w:World} {b g:Nat} {c:Array Value} {t:TypeId} (h:CBlk w g c t) (hne:g≠b) (es:Array MapEntry) (n:Nat):CBlk (zeK w b es n) g c t:=by
 unfold CBlk;show(w.heap.setIfInBounds b (.map es n))[g]? = _
 rw[Array.getElem?_setIfInBounds_ne (fun e=>hne e.symm)];exact h
theorem zaN{P:Program}(w:World){ops:Array Oper}{rest:List Oper}{o:Oper}{a:Act}{Q:Exit→Act→World→Prop}
 (hg:o.guard=none)(m x v:Operand)(t:TypeId)(hop:o.op=Op.insert t m x v)(k e:TypeId)(ht:P.underlying t=some (.map k e))(hk:P.underlying k=some .string)
 (b n:Nat)(es:Array MapEntry)(hm:a.eval m = .map (some b))(hb:w.heap[b]? = some (.map es n))(s y:ByteArray)(hx:a.eval x = .string s)(hv:a.eval v = .string y)
 (hf:Instr.findNow .string (.string s) es.toList 0=some none)(es':Array MapEntry)(n':Nat)(he:es.push ⟨.string s,.string y,n⟩=es')(hn:n+1=n')
 (hK:wpList P ops Q rest (a.put o.dst undef) (zeK w b es' n')) :
  wpList P ops Q (o :: rest) a w:=by
 subst he;subst hn;refine wpList_plain hg fun K' aA => ?_
 have h1:(Instr.findKey k (.string s) es.toList).run P w = .ok none w:=by
  unfold Instr.findKey;simp only[Sem.run_bind,run_underlying hk,Result.andThen,hf]
  rfl
 have hc:(Instr.checkKey false 10000 k (.string s)).run P w = .ok () w:=by
  show(Instr.checkKey false (9999+1) k (.string s)).run P w = .ok () w
  generalize 9999=d;simp[Instr.checkKey,run_underlying hk,Result.andThen]
 unfold Oper.wp;simp[execOp,hop,hm,hx,hv,Instr.mapUpdate,run_underlying ht,MapKept.run_getObj_map hb,hc,h1,MapKept.run_setObj_map _ hb,Result.andThen]
 exact aA _ _ hK
theorem zdN{P:Program}(w:World){ops:Array Oper}{rest:List Oper}{o:Oper}{a:Act}{Q:Exit→Act→World→Prop}
 (hg:o.guard=none)(m x:Operand)(t:TypeId)(hop:o.op=Op.lookup t m x true)(k e:TypeId)(ht:P.underlying t=some (.map k e))(hk:P.underlying k=some .string)
 (hz:∀ w,(zeroValue e).run P w = .ok (.string ⟨#[]⟩) w)(b n:Nat)(es:Array MapEntry)(hm:a.eval m = .map (some b))(hb:w.heap[b]? = some (.map es n))(s:ByteArray)(hx:a.eval x = .string s)
 (r:Option (Nat × Value))(hf:Instr.findNow .string (.string s) es.toList 0=some r)(y:ByteArray)(ok:Bool)(hr:r=if ok then r.map (fun p=>(p.1,.string y)) else none)(hro:ok=r.isSome)(hy:ok=false→y=⟨#[]⟩)
 (hK:wpList P ops Q rest (a.put o.dst (.tuple #[.string y,.bool ok])) w) :
  wpList P ops Q (o :: rest) a w:=by
 refine wpList_plain hg fun K' aA => ?_
 have h1:(Instr.findKey k (.string s) es.toList).run P w = .ok r w:=by
  unfold Instr.findKey;simp only[Sem.run_bind,run_underlying hk,Result.andThen,hf]
  rfl
 have hc:∀ b,(Instr.checkKey b 10000 k (.string s)).run P w = .ok () w:=fun b=>by
  show(Instr.checkKey b (9999+1) k (.string s)).run P w = .ok () w
  generalize 9999=d;simp[Instr.checkKey,run_underlying hk,Result.andThen]
 unfold Oper.wp
 cases r with
 | none=>
  obtain rfl:ok=false:=hro;obtain rfl:=hy rfl;simp[execOp,hop,hm,hx,Instr.lookup,run_underlying ht,MapKept.run_getObj_map hb,hc,h1,hz,Result.andThen]
  exact aA _ _ hK
 | some p=>
  obtain rfl:ok=true:=hro;obtain⟨i,u⟩:=p;simp at hr
  subst hr;simp[execOp,hop,hm,hx,Instr.lookup,run_underlying ht,MapKept.run_getObj_map hb,hc,h1,Result.andThen]
  exact aA _ _ hK
theorem zgV{P:Program}(w:World){ops:Array Oper}{rest:List Oper}{o:Oper}{a:Act}{Q:Exit→Act→World→Prop}
 (hg:o.guard=none)(m x:Operand)(t:TypeId)(hop:o.op=Op.lookup t m x true)(k e:TypeId)(ht:P.underlying t=some (.map k e))(hk:P.underlying k=some .string)
 (hz:∀ w,(zeroValue e).run P w = .ok (.string ⟨#[]⟩) w)(b n:Nat)(es:Array MapEntry)(hm:a.eval m = .map (some b))(hb:w.heap[b]? = some (.map es n))(s:ByteArray)(hx:a.eval x = .string s)
 (i:Nat)(y:ByteArray)(hf:Instr.findNow .string (.string s) es.toList 0=some (some (i,.string y)))
 (hK:wpList P ops Q rest (a.put o.dst (.tuple #[.string y,.bool true])) w):wpList P ops Q (o :: rest) a w:=
 zdN w hg m x t hop k e ht hk hz b n es hm hb s hx _ hf y true rfl rfl (fun h=>by cases h) hK
theorem zhu {P:Program} (w:World) {ops:Array Oper} {rest:List Oper} {o:Oper} {a:Act} {Q:Exit→Act→World→Prop}
  (hg:o.guard=none) (m x:Operand) (t:TypeId) (hop:o.op=Op.lookup t m x true) (k e:TypeId) (ht:P.underlying t=some (.map k e)) (hk:P.underlying k=some .string)
  (hz:∀ w,(zeroValue e).run P w = .ok (.string ⟨#[]⟩) w) (b n:Nat) (es:Array MapEntry) (hm:a.eval m = .map (some b)) (hb:w.heap[b]? = some (.map es n)) (s:ByteArray) (hx:a.eval x = .string s)
  (hf:Instr.findNow .string (.string s) es.toList 0=some none)
  (hK:wpList P ops Q rest (a.put o.dst (.tuple #[.string ⟨#[]⟩,.bool false])) w):wpList P ops Q (o :: rest) a w:=
 zdN w hg m x t hop k e ht hk hz b n es hm hb s hx _ hf ⟨#[]⟩ false rfl rfl (fun _=>rfl) hK
def exE:Array MapEntry:=#[⟨.string ⟨#[48]⟩,.string ⟨#[49]⟩,0⟩,⟨.string ⟨#[49,47,54]⟩,.string ⟨#[49,47,50]⟩,1⟩,⟨.string ⟨#[49,47,52]⟩,.string ⟨#[48]⟩,2⟩,⟨.string ⟨#[49,47,51]⟩,.string ⟨#[45,49,47,50]⟩,3⟩,⟨.string ⟨#[49,47,50]⟩,.string ⟨#[45,49]⟩,4⟩]
theorem exU:Tryz.prog.underlying 224=some (.map 22 22):=by kernel_rfl
theorem exK:Tryz.prog.underlying 22=some .string:=by kernel_rfl
theorem exZ(w:World):(zeroValue 22).run Tryz.prog w = .ok (.string ⟨#[]⟩) w:=by kernel_rfl
theorem zfb(p:Q)(s y:ByteArray)(i:Nat)(v:Value)(w:World)(hT:Tabs w)(hv:RatS w w.heap.size v p)(hl:LenQ p 268435456)(hs:Hid (s.data.toList=zbr p))(h0:zau p=0)
 (HF:Hid (Instr.findNow .string (.string s) exE.toList 0=some (some (i,.string y)))) :
  Calls Tryz.prog 172 #[v] w fun e w'=>e = .returned (.tuple #[.string y,.bool true])∧Below w.heap.size w w':=by
 obtain⟨A1,n1,c1,A2,n2,c2,rfl,h1,h2⟩:=hv;have hw:∀ v W,Tabs W→RatS W W.heap.size v p→Calls Tryz.prog 89 #[v] W fun e w'=>e = .returned (.tuple #[.string s,.int .i64 0])∧Below W.heap.size W w':=fun v W a b=>by
  have h:=zcd p v W a b hl;rw[h0] at h;refine h.mono ?_;rintro e w' ⟨s',rfl,aL,hb⟩;obtain rfl:s'=s:=by
   have:=aL.trans hs.out.symm
   cases s';cases s;congr 1;exact Array.toList_inj.1 this
  exact⟨rfl,hb⟩
 have HW:=Aa hw;clear hw h0 hs;have aA:Below w.heap.size w (w.alloc (.cells #[.bool p.neg,.slice A1 n1 c1,.slice A2 n2 c2] 87)):=((Below.refl _ _).alloc (by simp<;>omega) _);have q0:CBlk (w.alloc (.cells #[.bool p.neg,.slice A1 n1 c1,.slice A2 n2 c2] 87)) (w.heap.size) #[.bool p.neg,.slice A1 n1 c1,.slice A2 n2 c2] 87:=(CBlk.new _ _ _ _ (by simp));go_enter Tryz.func172,Tryz.ntmps172
 go_upto_region 1 with(fail)
 generalize (w.alloc (.cells #[.bool p.neg,.slice A1 n1 c1,.slice A2 n2 c2] 87))=W at *;have aN:=@run_makeMap Tryz.prog;have g0:=heap_alloc_new W (.map #[] 0);have g1:=zbK g0 #[⟨.string ⟨#[48]⟩,.string ⟨#[49]⟩,0⟩] 1;have g2:=zbK g1 #[⟨.string ⟨#[48]⟩,.string ⟨#[49]⟩,0⟩,⟨.string ⟨#[49,47,54]⟩,.string ⟨#[49,47,50]⟩,1⟩] 2;have g3:=zbK g2 #[⟨.string ⟨#[48]⟩,.string ⟨#[49]⟩,0⟩,⟨.string ⟨#[49,47,54]⟩,.string ⟨#[49,47,50]⟩,1⟩,⟨.string ⟨#[49,47,52]⟩,.string ⟨#[48]⟩,2⟩] 3;have g4:=zbK g3 #[⟨.string ⟨#[48]⟩,.string ⟨#[49]⟩,0⟩,⟨.string ⟨#[49,47,54]⟩,.string ⟨#[49,47,50]⟩,1⟩,⟨.string ⟨#[49,47,52]⟩,.string ⟨#[48]⟩,2⟩,⟨.string ⟨#[49,47,51]⟩,.string ⟨#[45,49,47,50]⟩,3⟩] 4;have g5:=zbK g4 #[⟨.string ⟨#[48]⟩,.string ⟨#[49]⟩,0⟩,⟨.string ⟨#[49,47,54]⟩,.string ⟨#[49,47,50]⟩,1⟩,⟨.string ⟨#[49,47,52]⟩,.string ⟨#[48]⟩,2⟩,⟨.string ⟨#[49,47,51]⟩,.string ⟨#[45,49,47,50]⟩,3⟩,⟨.string ⟨#[49,47,50]⟩,.string ⟨#[45,49]⟩,4⟩] 5;have m0:Below w.heap.size w (W.alloc (.map #[] 0)):=aA.alloc aA.size _;have m1:=zbj m0 aA.size #[⟨.string ⟨#[48]⟩,.string ⟨#[49]⟩,0⟩] 1;have m2:=zbj m1 aA.size #[⟨.string ⟨#[48]⟩,.string ⟨#[49]⟩,0⟩,⟨.string ⟨#[49,47,54]⟩,.string ⟨#[49,47,50]⟩,1⟩] 2;have m3:=zbj m2 aA.size #[⟨.string ⟨#[48]⟩,.string ⟨#[49]⟩,0⟩,⟨.string ⟨#[49,47,54]⟩,.string ⟨#[49,47,50]⟩,1⟩,⟨.string ⟨#[49,47,52]⟩,.string ⟨#[48]⟩,2⟩] 3;have m4:=zbj m3 aA.size #[⟨.string ⟨#[48]⟩,.string ⟨#[49]⟩,0⟩,⟨.string ⟨#[49,47,54]⟩,.string ⟨#[49,47,50]⟩,1⟩,⟨.string ⟨#[49,47,52]⟩,.string ⟨#[48]⟩,2⟩,⟨.string ⟨#[49,47,51]⟩,.string ⟨#[45,49,47,50]⟩,3⟩] 4;have m5:=zbj m4 aA.size #[⟨.string ⟨#[48]⟩,.string ⟨#[49]⟩,0⟩,⟨.string ⟨#[49,47,54]⟩,.string ⟨#[49,47,50]⟩,1⟩,⟨.string ⟨#[49,47,52]⟩,.string ⟨#[48]⟩,2⟩,⟨.string ⟨#[49,47,51]⟩,.string ⟨#[45,49,47,50]⟩,3⟩,⟨.string ⟨#[49,47,50]⟩,.string ⟨#[45,49]⟩,4⟩] 5;have aJ:=q0.alloc (.map #[] 0);have aE:=Nat.ne_of_lt q0.lt;have aC:=zbM aJ aE #[⟨.string ⟨#[48]⟩,.string ⟨#[49]⟩,0⟩] 1;have aG:=zbM aC aE #[⟨.string ⟨#[48]⟩,.string ⟨#[49]⟩,0⟩,⟨.string ⟨#[49,47,54]⟩,.string ⟨#[49,47,50]⟩,1⟩] 2;have aH:=zbM aG aE #[⟨.string ⟨#[48]⟩,.string ⟨#[49]⟩,0⟩,⟨.string ⟨#[49,47,54]⟩,.string ⟨#[49,47,50]⟩,1⟩,⟨.string ⟨#[49,47,52]⟩,.string ⟨#[48]⟩,2⟩] 3;have aF:=zbM aH aE #[⟨.string ⟨#[48]⟩,.string ⟨#[49]⟩,0⟩,⟨.string ⟨#[49,47,54]⟩,.string ⟨#[49,47,50]⟩,1⟩,⟨.string ⟨#[49,47,52]⟩,.string ⟨#[48]⟩,2⟩,⟨.string ⟨#[49,47,51]⟩,.string ⟨#[45,49,47,50]⟩,3⟩] 4;have aD:=zbM aF aE #[⟨.string ⟨#[48]⟩,.string ⟨#[49]⟩,0⟩,⟨.string ⟨#[49,47,54]⟩,.string ⟨#[49,47,50]⟩,1⟩,⟨.string ⟨#[49,47,52]⟩,.string ⟨#[48]⟩,2⟩,⟨.string ⟨#[49,47,51]⟩,.string ⟨#[45,49,47,50]⟩,3⟩,⟨.string ⟨#[49,47,50]⟩,.string ⟨#[45,49]⟩,4⟩] 5;have aI:=aD;clear aC aG aH aF aD;go_upto_region 2 with(first | refine zaN _ rfl _ _ _ _ rfl 22 22 exU exK W.heap.size 0 #[] rfl (by with_reducible exact g0) _ _ rfl rfl (by rfl) #[⟨.string ⟨#[48]⟩,.string ⟨#[49]⟩,0⟩] 1 (by rfl) (by rfl) ?_ | refine zaN _ rfl _ _ _ _ rfl 22 22 exU exK W.heap.size 1 #[⟨.string ⟨#[48]⟩,.string ⟨#[49]⟩,0⟩] rfl (by with_reducible exact g1) _ _ rfl rfl (by rfl) #[⟨.string ⟨#[48]⟩,.string ⟨#[49]⟩,0⟩,⟨.string ⟨#[49,47,54]⟩,.string ⟨#[49,47,50]⟩,1⟩] 2 (by rfl) (by rfl) ?_ | refine zaN _ rfl _ _ _ _ rfl 22 22 exU exK W.heap.size 2 #[⟨.string ⟨#[48]⟩,.string ⟨#[49]⟩,0⟩,⟨.string ⟨#[49,47,54]⟩,.string ⟨#[49,47,50]⟩,1⟩] rfl (by with_reducible exact g2) _ _ rfl rfl (by rfl) #[⟨.string ⟨#[48]⟩,.string ⟨#[49]⟩,0⟩,⟨.string ⟨#[49,47,54]⟩,.string ⟨#[49,47,50]⟩,1⟩,⟨.string ⟨#[49,47,52]⟩,.string ⟨#[48]⟩,2⟩] 3 (by rfl) (by rfl) ?_ | refine zaN _ rfl _ _ _ _ rfl 22 22 exU exK W.heap.size 3 #[⟨.string ⟨#[48]⟩,.string ⟨#[49]⟩,0⟩,⟨.string ⟨#[49,47,54]⟩,.string ⟨#[49,47,50]⟩,1⟩,⟨.string ⟨#[49,47,52]⟩,.string ⟨#[48]⟩,2⟩] rfl (by with_reducible exact g3) _ _ rfl rfl (by rfl) #[⟨.string ⟨#[48]⟩,.string ⟨#[49]⟩,0⟩,⟨.string ⟨#[49,47,54]⟩,.string ⟨#[49,47,50]⟩,1⟩,⟨.string ⟨#[49,47,52]⟩,.string ⟨#[48]⟩,2⟩,⟨.string ⟨#[49,47,51]⟩,.string ⟨#[45,49,47,50]⟩,3⟩] 4 (by rfl) (by rfl) ?_ | refine zaN _ rfl _ _ _ _ rfl 22 22 exU exK W.heap.size 4 #[⟨.string ⟨#[48]⟩,.string ⟨#[49]⟩,0⟩,⟨.string ⟨#[49,47,54]⟩,.string ⟨#[49,47,50]⟩,1⟩,⟨.string ⟨#[49,47,52]⟩,.string ⟨#[48]⟩,2⟩,⟨.string ⟨#[49,47,51]⟩,.string ⟨#[45,49,47,50]⟩,3⟩] rfl (by with_reducible exact g4) _ _ rfl rfl (by rfl) #[⟨.string ⟨#[48]⟩,.string ⟨#[49]⟩,0⟩,⟨.string ⟨#[49,47,54]⟩,.string ⟨#[49,47,50]⟩,1⟩,⟨.string ⟨#[49,47,52]⟩,.string ⟨#[48]⟩,2⟩,⟨.string ⟨#[49,47,51]⟩,.string ⟨#[45,49,47,50]⟩,3⟩,⟨.string ⟨#[49,47,50]⟩,.string ⟨#[45,49]⟩,4⟩] 5 (by rfl) (by rfl) ?_)
 generalize (zeK (zeK (zeK (zeK (zeK (W.alloc (.map #[] 0)) W.heap.size #[⟨.string ⟨#[48]⟩,.string ⟨#[49]⟩,0⟩] 1) W.heap.size #[⟨.string ⟨#[48]⟩,.string ⟨#[49]⟩,0⟩,⟨.string ⟨#[49,47,54]⟩,.string ⟨#[49,47,50]⟩,1⟩] 2) W.heap.size #[⟨.string ⟨#[48]⟩,.string ⟨#[49]⟩,0⟩,⟨.string ⟨#[49,47,54]⟩,.string ⟨#[49,47,50]⟩,1⟩,⟨.string ⟨#[49,47,52]⟩,.string ⟨#[48]⟩,2⟩] 3) W.heap.size #[⟨.string ⟨#[48]⟩,.string ⟨#[49]⟩,0⟩,⟨.string ⟨#[49,47,54]⟩,.string ⟨#[49,47,50]⟩,1⟩,⟨.string ⟨#[49,47,52]⟩,.string ⟨#[48]⟩,2⟩,⟨.string ⟨#[49,47,51]⟩,.string ⟨#[45,49,47,50]⟩,3⟩] 4) W.heap.size #[⟨.string ⟨#[48]⟩,.string ⟨#[49]⟩,0⟩,⟨.string ⟨#[49,47,54]⟩,.string ⟨#[49,47,50]⟩,1⟩,⟨.string ⟨#[49,47,52]⟩,.string ⟨#[48]⟩,2⟩,⟨.string ⟨#[49,47,51]⟩,.string ⟨#[45,49,47,50]⟩,3⟩,⟨.string ⟨#[49,47,50]⟩,.string ⟨#[45,49]⟩,4⟩] 5)=W5 at *;clear g0 g1 g2 g3 g4 m0 m1 m2 m3 m4 q0 aJ;have a0:=aI.cell 0;have a1:=aI.cell 1;have a2:=aI.cell 2
 go_wp2_with fail
 refine(HW.out _ W5 (hT.later m5) (RatS.mk (h1.later m5) (h2.later m5))).mono ?_;rintro e w6 ⟨rfl,aK⟩;have aM:=Ad m5 aK;have g6:w6.heap[W.heap.size]? = some (.map exE 5):=(aK.block W.heap.size (by
  rcases Nat.lt_or_ge W.heap.size W5.heap.size with h | h
  ·exact h
  ·rw[Array.getElem?_eq_none h] at g5;cases g5)).trans g5
 go_wp2_with (refine zgV _ rfl _ _ _ rfl 22 22 exU exK exZ W.heap.size 5 exE rfl (by with_reducible exact g6) s rfl _ _ HF.out ?_)
 go_ret2
 exact⟨rfl,aM⟩
theorem zdK(p:Q)(s:ByteArray)(v:Value)(w:World)(hT:Tabs w)(hv:RatS w w.heap.size v p)(hl:LenQ p 268435456)(hs:Hid (s.data.toList=zbr p))(h0:zau p=0)
 (HF:Hid (Instr.findNow .string (.string s) exE.toList 0=some none)) :
  Calls Tryz.prog 172 #[v] w fun e w'=>e = .returned (.tuple #[.string ⟨#[]⟩,.bool false])∧Below w.heap.size w w':=by
 obtain⟨A1,n1,c1,A2,n2,c2,rfl,h1,h2⟩:=hv;have hw:∀ v W,Tabs W→RatS W W.heap.size v p→Calls Tryz.prog 89 #[v] W fun e w'=>e = .returned (.tuple #[.string s,.int .i64 0])∧Below W.heap.size W w':=fun v W a b=>by
  have h:=zcd p v W a b hl;rw[h0] at h;refine h.mono ?_;rintro e w' ⟨s',rfl,aL,hb⟩;obtain rfl:s'=s:=by
   have:=aL.trans hs.out.symm
   cases s';cases s;congr 1;exact Array.toList_inj.1 this
  exact⟨rfl,hb⟩
 have HW:=Aa hw;clear hw h0 hs;have aA:Below w.heap.size w (w.alloc (.cells #[.bool p.neg,.slice A1 n1 c1,.slice A2 n2 c2] 87)):=((Below.refl _ _).alloc (by simp<;>omega) _);have q0:CBlk (w.alloc (.cells #[.bool p.neg,.slice A1 n1 c1,.slice A2 n2 c2] 87)) (w.heap.size) #[.bool p.neg,.slice A1 n1 c1,.slice A2 n2 c2] 87:=(CBlk.new _ _ _ _ (by simp));go_enter Tryz.func172,Tryz.ntmps172
 go_upto_region 1 with(fail)
 generalize (w.alloc (.cells #[.bool p.neg,.slice A1 n1 c1,.slice A2 n2 c2] 87))=W at *;have aN:=@run_makeMap Tryz.prog;have g0:=heap_alloc_new W (.map #[] 0);have g1:=zbK g0 #[⟨.string ⟨#[48]⟩,.string ⟨#[49]⟩,0⟩] 1;have g2:=zbK g1 #[⟨.string ⟨#[48]⟩,.string ⟨#[49]⟩,0⟩,⟨.string ⟨#[49,47,54]⟩,.string ⟨#[49,47,50]⟩,1⟩] 2;have g3:=zbK g2 #[⟨.string ⟨#[48]⟩,.string ⟨#[49]⟩,0⟩,⟨.string ⟨#[49,47,54]⟩,.string ⟨#[49,47,50]⟩,1⟩,⟨.string ⟨#[49,47,52]⟩,.string ⟨#[48]⟩,2⟩] 3;have g4:=zbK g3 #[⟨.string ⟨#[48]⟩,.string ⟨#[49]⟩,0⟩,⟨.string ⟨#[49,47,54]⟩,.string ⟨#[49,47,50]⟩,1⟩,⟨.string ⟨#[49,47,52]⟩,.string ⟨#[48]⟩,2⟩,⟨.string ⟨#[49,47,51]⟩,.string ⟨#[45,49,47,50]⟩,3⟩] 4;have g5:=zbK g4 #[⟨.string ⟨#[48]⟩,.string ⟨#[49]⟩,0⟩,⟨.string ⟨#[49,47,54]⟩,.string ⟨#[49,47,50]⟩,1⟩,⟨.string ⟨#[49,47,52]⟩,.string ⟨#[48]⟩,2⟩,⟨.string ⟨#[49,47,51]⟩,.string ⟨#[45,49,47,50]⟩,3⟩,⟨.string ⟨#[49,47,50]⟩,.string ⟨#[45,49]⟩,4⟩] 5;have m0:Below w.heap.size w (W.alloc (.map #[] 0)):=aA.alloc aA.size _;have m1:=zbj m0 aA.size #[⟨.string ⟨#[48]⟩,.string ⟨#[49]⟩,0⟩] 1;have m2:=zbj m1 aA.size #[⟨.string ⟨#[48]⟩,.string ⟨#[49]⟩,0⟩,⟨.string ⟨#[49,47,54]⟩,.string ⟨#[49,47,50]⟩,1⟩] 2;have m3:=zbj m2 aA.size #[⟨.string ⟨#[48]⟩,.string ⟨#[49]⟩,0⟩,⟨.string ⟨#[49,47,54]⟩,.string ⟨#[49,47,50]⟩,1⟩,⟨.string ⟨#[49,47,52]⟩,.string ⟨#[48]⟩,2⟩] 3;have m4:=zbj m3 aA.size #[⟨.string ⟨#[48]⟩,.string ⟨#[49]⟩,0⟩,⟨.string ⟨#[49,47,54]⟩,.string ⟨#[49,47,50]⟩,1⟩,⟨.string ⟨#[49,47,52]⟩,.string ⟨#[48]⟩,2⟩,⟨.string ⟨#[49,47,51]⟩,.string ⟨#[45,49,47,50]⟩,3⟩] 4;have m5:=zbj m4 aA.size #[⟨.string ⟨#[48]⟩,.string ⟨#[49]⟩,0⟩,⟨.string ⟨#[49,47,54]⟩,.string ⟨#[49,47,50]⟩,1⟩,⟨.string ⟨#[49,47,52]⟩,.string ⟨#[48]⟩,2⟩,⟨.string ⟨#[49,47,51]⟩,.string ⟨#[45,49,47,50]⟩,3⟩,⟨.string ⟨#[49,47,50]⟩,.string ⟨#[45,49]⟩,4⟩] 5;have aJ:=q0.alloc (.map #[] 0);have aE:=Nat.ne_of_lt q0.lt;have aC:=zbM aJ aE #[⟨.string ⟨#[48]⟩,.string ⟨#[49]⟩,0⟩] 1;have aG:=zbM aC aE #[⟨.string ⟨#[48]⟩,.string ⟨#[49]⟩,0⟩,⟨.string ⟨#[49,47,54]⟩,.string ⟨#[49,47,50]⟩,1⟩] 2;have aH:=zbM aG aE #[⟨.string ⟨#[48]⟩,.string ⟨#[49]⟩,0⟩,⟨.string ⟨#[49,47,54]⟩,.string ⟨#[49,47,50]⟩,1⟩,⟨.string ⟨#[49,47,52]⟩,.string ⟨#[48]⟩,2⟩] 3;have aF:=zbM aH aE #[⟨.string ⟨#[48]⟩,.string ⟨#[49]⟩,0⟩,⟨.string ⟨#[49,47,54]⟩,.string ⟨#[49,47,50]⟩,1⟩,⟨.string ⟨#[49,47,52]⟩,.string ⟨#[48]⟩,2⟩,⟨.string ⟨#[49,47,51]⟩,.string ⟨#[45,49,47,50]⟩,3⟩] 4;have aD:=zbM aF aE #[⟨.string ⟨#[48]⟩,.string ⟨#[49]⟩,0⟩,⟨.string ⟨#[49,47,54]⟩,.string ⟨#[49,47,50]⟩,1⟩,⟨.string ⟨#[49,47,52]⟩,.string ⟨#[48]⟩,2⟩,⟨.string ⟨#[49,47,51]⟩,.string ⟨#[45,49,47,50]⟩,3⟩,⟨.string ⟨#[49,47,50]⟩,.string ⟨#[45,49]⟩,4⟩] 5;have aI:=aD;clear aC aG aH aF aD;go_upto_region 2 with(first | refine zaN _ rfl _ _ _ _ rfl 22 22 exU exK W.heap.size 0 #[] rfl (by with_reducible exact g0) _ _ rfl rfl (by rfl) #[⟨.string ⟨#[48]⟩,.string ⟨#[49]⟩,0⟩] 1 (by rfl) (by rfl) ?_ | refine zaN _ rfl _ _ _ _ rfl 22 22 exU exK W.heap.size 1 #[⟨.string ⟨#[48]⟩,.string ⟨#[49]⟩,0⟩] rfl (by with_reducible exact g1) _ _ rfl rfl (by rfl) #[⟨.string ⟨#[48]⟩,.string ⟨#[49]⟩,0⟩,⟨.string ⟨#[49,47,54]⟩,.string ⟨#[49,47,50]⟩,1⟩] 2 (by rfl) (by rfl) ?_ | refine zaN _ rfl _ _ _ _ rfl 22 22 exU exK W.heap.size 2 #[⟨.string ⟨#[48]⟩,.string ⟨#[49]⟩,0⟩,⟨.string ⟨#[49,47,54]⟩,.string ⟨#[49,47,50]⟩,1⟩] rfl (by with_reducible exact g2) _ _ rfl rfl (by rfl) #[⟨.string ⟨#[48]⟩,.string ⟨#[49]⟩,0⟩,⟨.string ⟨#[49,47,54]⟩,.string ⟨#[49,47,50]⟩,1⟩,⟨.string ⟨#[49,47,52]⟩,.string ⟨#[48]⟩,2⟩] 3 (by rfl) (by rfl) ?_ | refine zaN _ rfl _ _ _ _ rfl 22 22 exU exK W.heap.size 3 #[⟨.string ⟨#[48]⟩,.string ⟨#[49]⟩,0⟩,⟨.string ⟨#[49,47,54]⟩,.string ⟨#[49,47,50]⟩,1⟩,⟨.string ⟨#[49,47,52]⟩,.string ⟨#[48]⟩,2⟩] rfl (by with_reducible exact g3) _ _ rfl rfl (by rfl) #[⟨.string ⟨#[48]⟩,.string ⟨#[49]⟩,0⟩,⟨.string ⟨#[49,47,54]⟩,.string ⟨#[49,47,50]⟩,1⟩,⟨.string ⟨#[49,47,52]⟩,.string ⟨#[48]⟩,2⟩,⟨.string ⟨#[49,47,51]⟩,.string ⟨#[45,49,47,50]⟩,3⟩] 4 (by rfl) (by rfl) ?_ | refine zaN _ rfl _ _ _ _ rfl 22 22 exU exK W.heap.size 4 #[⟨.string ⟨#[48]⟩,.string ⟨#[49]⟩,0⟩,⟨.string ⟨#[49,47,54]⟩,.string ⟨#[49,47,50]⟩,1⟩,⟨.string ⟨#[49,47,52]⟩,.string ⟨#[48]⟩,2⟩,⟨.string ⟨#[49,47,51]⟩,.string ⟨#[45,49,47,50]⟩,3⟩] rfl (by with_reducible exact g4) _ _ rfl rfl (by rfl) #[⟨.string ⟨#[48]⟩,.string ⟨#[49]⟩,0⟩,⟨.string ⟨#[49,47,54]⟩,.string ⟨#[49,47,50]⟩,1⟩,⟨.string ⟨#[49,47,52]⟩,.string ⟨#[48]⟩,2⟩,⟨.string ⟨#[49,47,51]⟩,.string ⟨#[45,49,47,50]⟩,3⟩,⟨.string ⟨#[49,47,50]⟩,.string ⟨#[45,49]⟩,4⟩] 5 (by rfl) (by rfl) ?_)
 generalize (zeK (zeK (zeK (zeK (zeK (W.alloc (.map #[] 0)) W.heap.size #[⟨.string ⟨#[48]⟩,.string ⟨#[49]⟩,0⟩] 1) W.heap.size #[⟨.string ⟨#[48]⟩,.string ⟨#[49]⟩,0⟩,⟨.string ⟨#[49,47,54]⟩,.string ⟨#[49,47,50]⟩,1⟩] 2) W.heap.size #[⟨.string ⟨#[48]⟩,.string ⟨#[49]⟩,0⟩,⟨.string ⟨#[49,47,54]⟩,.string ⟨#[49,47,50]⟩,1⟩,⟨.string ⟨#[49,47,52]⟩,.string ⟨#[48]⟩,2⟩] 3) W.heap.size #[⟨.string ⟨#[48]⟩,.string ⟨#[49]⟩,0⟩,⟨.string ⟨#[49,47,54]⟩,.string ⟨#[49,47,50]⟩,1⟩,⟨.string ⟨#[49,47,52]⟩,.string ⟨#[48]⟩,2⟩,⟨.string ⟨#[49,47,51]⟩,.string ⟨#[45,49,47,50]⟩,3⟩] 4) W.heap.size #[⟨.string ⟨#[48]⟩,.string ⟨#[49]⟩,0⟩,⟨.string ⟨#[49,47,54]⟩,.string ⟨#[49,47,50]⟩,1⟩,⟨.string ⟨#[49,47,52]⟩,.string ⟨#[48]⟩,2⟩,⟨.string ⟨#[49,47,51]⟩,.string ⟨#[45,49,47,50]⟩,3⟩,⟨.string ⟨#[49,47,50]⟩,.string ⟨#[45,49]⟩,4⟩] 5)=W5 at *;clear g0 g1 g2 g3 g4 m0 m1 m2 m3 m4 q0 aJ;have a0:=aI.cell 0;have a1:=aI.cell 1;have a2:=aI.cell 2
 go_wp2_with fail
 refine(HW.out _ W5 (hT.later m5) (RatS.mk (h1.later m5) (h2.later m5))).mono ?_;rintro e w6 ⟨rfl,aK⟩;have aM:=Ad m5 aK;have g6:w6.heap[W.heap.size]? = some (.map exE 5):=(aK.block W.heap.size (by
  rcases Nat.lt_or_ge W.heap.size W5.heap.size with h | h
  ·exact h
  ·rw[Array.getElem?_eq_none h] at g5;cases g5)).trans g5
 go_wp2_with (refine zhu _ rfl _ _ _ rfl 22 22 exU exK exZ W.heap.size 5 exE rfl (by with_reducible exact g6) s rfl HF.out ?_)
 go_ret2
 exact⟨rfl,aM⟩
theorem CBlk.far3{w:World}{g g':Nat}{c:Array Value}{t:TypeId}(h:CBlk w g c t)(hne:g'≠g)(u v x:Value):CBlk (((w.setCell ⟨g',0,none⟩ u).setCell ⟨g',1,none⟩ v).setCell ⟨g',2,none⟩ x) g c t:=
 ((h.setFar hne _).setFar hne _).setFar hne _
theorem CBlk.set3 {w:World} {g:Nat} {a b c:Value} {t:TypeId} (h:CBlk w g #[a,b,c] t) (u v x:Value):CBlk (((w.setCell ⟨g,0,none⟩ u).setCell ⟨g,1,none⟩ v).setCell ⟨g,2,none⟩ x) g #[u,v,x] t:=
 ((h.set 0 u).set 1 v).set 2 x
theorem RatS.res3 {w:World} {g:Nat} {v:Value} {q:Q} {b0:Bool} {a1 a2:Option Addr} {m1 d1 m2 d2:Nat} {t:TypeId} (h:RatS w w.heap.size v q) (hz:CBlk w g #[.bool b0,.slice a1 m1 d1,.slice a2 m2 d2] t) (b:Bool) (A1 A2:Option Addr) (n1 c1 n2 c2:Nat) :
  RatS (((w.setCell ⟨g,0,none⟩ (.bool b)).setCell ⟨g,1,none⟩ (.slice A1 n1 c1)).setCell ⟨g,2,none⟩ (.slice A2 n2 c2)) (((w.setCell ⟨g,0,none⟩ (.bool b)).setCell ⟨g,1,none⟩ (.slice A1 n1 c1)).setCell ⟨g,2,none⟩ (.slice A2 n2 c2)).heap.size v q:=by
 obtain⟨A,n,c,A',n',c',rfl,h1,h2⟩:=h;exact⟨A,n,c,A',n',c',rfl,h1.store3 hz (zgJ _ _ _ _ _ _ _) 0 1 2 _ _ _ _ _ _ _,h2.store3 hz (zgJ _ _ _ _ _ _ _) 0 1 2 _ _ _ _ _ _ _⟩
def zrE (p:Q):Q:=za6 p (zbd p)
def oneQ:Q:=⟨false,1,1⟩
theorem zqN(w:World):Calls Tryz.prog 85 #[.int .i64 1] w (za5 w oneQ):=zcG 1 w (by omega) (by omega)
theorem zkJ:LenQ oneQ 1:=⟨zbF,zbF⟩
theorem zoh {p:Q} {K:Nat} (h:LenQ p K):LenQ (zbd p) (K+2):=by
 refine⟨?_,Nat.le_trans zbF (by omega)⟩;unfold zbd
 dsimp only
 have h1:(digs (p.top/p.bot)).length≤K:=Nat.le_trans (zaa (Nat.div_le_self _ _)) h.1
 split
 ·exact zdw h1 zbF
 ·omega
def zkO (q:Q):Q:=if rcmp (za6 oneQ q) q<0 then za6 oneQ q else q
def zj2 (p:Q):Q:=zkO (zrE p)
theorem zfs(p:Q)(v:Value)(w:World)(hT:Tabs w)(hv:RatS w w.heap.size v p)(hy:0<p.bot)(hl:LenQ p 1048576) :
  Calls Tryz.prog 171 #[v] w (za5 w (zj2 p)):=by
 obtain⟨A1,n1,c1,A2,n2,c2,rfl,h1,h2⟩:=hv;have aX:Below w.heap.size w ((w.alloc (.cells #[.bool p.neg,.slice A1 n1 c1,.slice A2 n2 c2] 87)).alloc (.cells #[.bool false,.slice none 0 0,.slice none 0 0] 87)):=(((Below.refl _ _).alloc (by simp<;>omega) _).alloc (by simp<;>omega) _);have q0:CBlk ((w.alloc (.cells #[.bool p.neg,.slice A1 n1 c1,.slice A2 n2 c2] 87)).alloc (.cells #[.bool false,.slice none 0 0,.slice none 0 0] 87)) (w.heap.size) #[.bool p.neg,.slice A1 n1 c1,.slice A2 n2 c2] 87:=((CBlk.new _ _ _ _ (by simp)).alloc _);have q1:CBlk ((w.alloc (.cells #[.bool p.neg,.slice A1 n1 c1,.slice A2 n2 c2] 87)).alloc (.cells #[.bool false,.slice none 0 0,.slice none 0 0] 87)) (w.heap.size+1) #[.bool false,.slice none 0 0,.slice none 0 0] 87:=(CBlk.new _ _ _ _ (by simp));go_enter Tryz.func171,Tryz.ntmps171
 go_upto_region 1 with(fail)
 generalize ((w.alloc (.cells #[.bool p.neg,.slice A1 n1 c1,.slice A2 n2 c2] 87)).alloc (.cells #[.bool false,.slice none 0 0,.slice none 0 0] 87))=W at *;have a0:=q0.cell 0;have a1:=q0.cell 1;have a2:=q0.cell 2;have z0:=q0.frozen 0;have z1:=q0.frozen 1;have z2:=q0.frozen 2;have lf:=zoh hl;have HF:=Aa (fun v W h=>zkA p v W h hy (hl.mono (by omega)));have HM:=Aa (fun v u W h1 h2 h3=>zdu p (zbd p) v u W h1 h2 h3 (hl.mono (by omega)) (lf.mono (by omega)))
 go_region_law (first | (go_simp;go_at_call 113;refine(HF.out _ _ (RatS.mk (h1.later aX.drew) (h2.later aX.drew))).mono ?_;rintro e w4 ⟨v4,rfl,⟨A3,n3,c3,A4,n4,c4,rfl,h3,h4⟩,aT⟩;have bG:=q0.drew.below aT q0.lt;have cG:=bG.cell 0;have cM:=bG.cell 1;have cH:=bG.cell 2) | (go_simp;go_at_call 117;refine(HM.out _ _ w4 ((hT.later aX.drew).later aT) (RatS.mk ((h1.later aX.drew).later aT) ((h2.later aX.drew).later aT)) (RatS.mk h3 h4)).mono ?_;rintro e w5 ⟨v5,rfl,⟨A5,n5,c5,A6,n6,c6,rfl,h5,h6⟩,bI⟩;have aV:=(q0.drew.below aT q0.lt).below bI (Nat.lt_of_lt_of_le q0.lt aT.size);have bW:=aV.cell 0;have cF:=aV.cell 1;have bZ:=aV.cell 2;have cJ:=aV.frozen 0;have bX:=aV.frozen 1;have cA:=aV.frozen 2))
 all_goals
  have bT:=(aX.drew.trans (aT.mono aX.drew.size)).trans (bI.mono (Nat.le_trans aX.drew.size aT.size));have bS:=(q1.drew.below aT q1.lt).below bI (Nat.lt_of_lt_of_le q1.lt aT.size);have bR:RatS w5 w5.heap.size (.agg #[.bool (za6 p (zbd p)).neg,.slice A5 n5 c5,.slice A6 n6 c6]) (za6 p (zbd p)):=RatS.mk h5 h6;have bH:LenQ (za6 p (zbd p)) 8388608:=(zbw hl (zbZ lf)).mono (by omega);have hB:=zao bT (g:=w.heap.size) (Nat.le_refl _) (.bool (za6 p (zbd p)).neg) (.slice A5 n5 c5) (.slice A6 n6 c6);have qf:=aV.set3 (.bool (za6 p (zbd p)).neg) (.slice A5 n5 c5) (.slice A6 n6 c6);have qz:=bS.far3 (g':=w.heap.size) (by omega) (.bool (za6 p (zbd p)).neg) (.slice A5 n5 c5) (.slice A6 n6 c6);have hf:=bR.res3 aV (za6 p (zbd p)).neg A5 A6 n5 c5 n6 c6;clear bR aV bS bT aT bI q0 q1 aX bG cG cM cH bW cF bZ cJ bX cA a0 a1 a2 z0 z1 z2 HF HM h1 h2 h3 h4 h5 h6 lf;generalize (((w5.setCell ⟨w.heap.size,0,none⟩ (.bool (za6 p (zbd p)).neg)).setCell ⟨w.heap.size,1,none⟩ (.slice A5 n5 c5)).setCell ⟨w.heap.size,2,none⟩ (.slice A6 n6 c6))=X at *;have HQ:=Aa (show zj2 p=zkO (za6 p (zbd p)) from rfl);clear hl hy;generalize (za6 p (zbd p))=fq at *;obtain⟨mq,bK⟩:∃ q,q=za6 oneQ fq:=⟨_,rfl⟩;have bU:LenQ mq 33554432:=by rw[bK];exact(zbw zkJ (zbZ bH)).mono (by omega)
  have HM:=Aa (fun v u W hT h2 h3=>(show Calls _ _ _ _ (za5 W mq) from by rw[bK];exact zdu oneQ fq v u W hT h2 h3 (zkJ.mono (by omega)) (bH.mono (by omega))));have HO:=Aa (fun W=>zqN W);have HC:=Aa (fun v u W h1 h2=>zbp mq fq v u W h1 h2 (bU.mono (by omega)) (bH.mono (by omega)));have bJ:=Aa bK;clear bU bH bK
  go_wp2_with fail
  obtain⟨G2,bF⟩:∃ g,g=X.heap.size:=⟨_,rfl⟩;have cC:w.heap.size≤G2:=by rw[bF];exact hB.size
  have aS:w.heap.size<G2:=by rw[bF];exact qf.lt
  have aU:w.heap.size+1<G2:=by rw[bF];exact qz.lt
  obtain⟨bN,aY⟩:∃ I:Array Bool→Act→World→Prop,I=(fun aQ ac W=>∃ (b0 b1 b2 b3 b4:Bool) (u8 u9 bB u3:Value) (aN:Option Addr) (aP aO:Nat) (aF:Option Addr) (aE aH:Nat) (aK:Option Addr) (aJ aI:Nat) (aD:Option Addr) (aA aC:Nat) (aL:Nat),aQ=#[b0,b1,b2,b3,b4]∧ac={ tmps:=#[.agg #[.bool p.neg,.slice A1 n1 c1,.slice A2 n2 c2],.pointer (some ⟨w.heap.size,0,none⟩),.pointer (some ⟨w.heap.size+1,0,none⟩),u3,.agg #[.bool p.neg,.slice A1 n1 c1,.slice A2 n2 c2],.agg #[.bool p.neg,.slice A1 n1 c1,.slice A2 n2 c2],.agg #[.bool (zbd p).neg,.slice A3 n3 c3,.slice A4 n4 c4],.agg #[.bool fq.neg,.slice A5 n5 c5,.slice A6 n6 c6],u8,u9,bB,undef,undef,undef,undef,undef,undef],defers:=[] }∧G2≤W.heap.size∧Below w.heap.size w W∧CBlk W (w.heap.size) #[.bool fq.neg,.slice A5 n5 c5,.slice A6 n6 c6] 87∧CBlk W (w.heap.size+1) #[.bool false,.slice none 0 0,.slice none 0 0] 87∧RatS W W.heap.size (.agg #[.bool fq.neg,.slice A5 n5 c5,.slice A6 n6 c6]) fq∧(b0=true→u8 = .agg #[.bool oneQ.neg,.slice aN aP aO,.slice aF aE aH]∧RatS W W.heap.size (.agg #[.bool oneQ.neg,.slice aN aP aO,.slice aF aE aH]) ⟨oneQ.neg,oneQ.top,oneQ.bot⟩)∧(b1=true→u9 = .agg #[.bool fq.neg,.slice A5 n5 c5,.slice A6 n6 c6])∧(b2=true→bB = .agg #[.bool mq.neg,.slice aK aJ aI,.slice aD aA aC]∧RatS W W.heap.size (.agg #[.bool mq.neg,.slice aK aJ aI,.slice aD aA aC]) ⟨mq.neg,mq.top,mq.bot⟩)∧(b3=true→u3 = .pointer (some ⟨aL,0,none⟩)∧G2≤aL∧aL<W.heap.size∧(b4=false→CBlk W aL #[.bool false,.slice none 0 0,.slice none 0 0] 87))∧(b4=true→b3=true∧b2=true∧CBlk W aL #[.bool mq.neg,.slice aK aJ aI,.slice aD aA aC] 87)):=⟨_,rfl⟩;have aG:=Aa aY;clear aY;refine zbU (by kernel_rfl) bN (by kernel_rfl) ?_ ?_ ?_
  ·rw[aG.out]
   exact⟨false,false,false,false,false,undef,undef,undef,undef,none,0,0,none,0,0,none,0,0,none,0,0,0,rfl,rfl,(by rw[bF];exact Nat.le_refl _),hB.drew,qf.drew,qz.drew,(hf.later (Below.drew (Below.refl _ _))),(fun h=>by cases h),(fun h=>by cases h),(fun h=>by cases h),(fun h=>by cases h),(fun h=>by cases h)⟩
  ·intro i op aQ ac W ho hI hl aM
   rw[aG.out] at hI;obtain⟨b0,b1,b2,b3,b4,u8,u9,bB,u3,aN,aP,aO,aF,aE,aH,aK,aJ,aI,aD,aA,aC,aL,rfl,rfl,bC,hB,qf,qz,hf,f0,f1,f2,f3,f4⟩:=hI;clear bF
   match i,ho,hl,aM with
   | 0,ho,hl,aM=>
    have aW:b0=false:=Option.some.inj hl;obtain rfl:=Option.some.inj ho;refine zas ho fun K' hK => ?_
    go_simp
    go_at_call 85
    refine(HO.out W).mono ?_;rintro e W1 ⟨v0,rfl,⟨A,n,c,A',n',c',rfl,kt,kb⟩,hb⟩;refine hK.out _ _ ?_;rw[aG.out];exact⟨true,b1,b2,b3,b4,(.agg #[.bool oneQ.neg,.slice A n c,.slice A' n' c']),u9,bB,u3,A,n,c,A',n',c',aK,aJ,aI,aD,aA,aC,aL,rfl,rfl,(Nat.le_trans bC hb.size),(hB.trans (hb.mono hB.size)),(qf.below hb qf.lt),(qz.below hb qz.lt),(hf.later hb),(fun _=>⟨rfl,⟨A,n,c,A',n',c',rfl,kt,kb⟩⟩),f1,(fun h=>⟨(f2 h).1,(f2 h).2.later hb⟩),(fun h=>⟨(f3 h).1,(f3 h).2.1,Nat.lt_of_lt_of_le (f3 h).2.2.1 hb.size,fun h2=>((f3 h).2.2.2 h2).below hb (f3 h).2.2.1⟩),(fun h=>⟨(f4 h).1,(f4 h).2.1,(f4 h).2.2.below hb (f4 h).2.2.lt⟩)⟩
   | 1,ho,hl,aM=>
    have aW:b1=false:=Option.some.inj hl;obtain rfl:=Option.some.inj ho;refine zas ho fun K' hK => ?_
    have x0:=qf.cell 0;have x1:=qf.cell 1;have x2:=qf.cell 2
    go_simp
    refine hK.out _ _ ?_;rw[aG.out];exact⟨b0,true,b2,b3,b4,u8,(.agg #[.bool fq.neg,.slice A5 n5 c5,.slice A6 n6 c6]),bB,u3,aN,aP,aO,aF,aE,aH,aK,aJ,aI,aD,aA,aC,aL,rfl,rfl,bC,hB,qf,qz,hf,f0,(fun _=>rfl),f2,f3,f4⟩
   | 2,ho,hl,aM=>
    have aW:b2=false:=Option.some.inj hl;obtain rfl:=Option.some.inj ho;have e0:b0=true:=aM ⟨0,.data⟩ (by simp) rfl;obtain⟨rfl,bY⟩:=f0 e0;have e1:b1=true:=aM ⟨1,.data⟩ (by simp) rfl;obtain rfl:=f1 e1;refine zas ho fun K' hK => ?_
    go_simp
    go_at_call 117
    refine(HM.out _ _ W (hT.later hB) bY hf).mono ?_;rintro e W1 ⟨v0,rfl,⟨A,n,c,A',n',c',rfl,kt,kb⟩,hb⟩;refine hK.out _ _ ?_;rw[aG.out];exact⟨b0,b1,true,b3,b4,(.agg #[.bool oneQ.neg,.slice aN aP aO,.slice aF aE aH]),(.agg #[.bool fq.neg,.slice A5 n5 c5,.slice A6 n6 c6]),(.agg #[.bool mq.neg,.slice A n c,.slice A' n' c']),u3,aN,aP,aO,aF,aE,aH,A,n,c,A',n',c',aL,rfl,rfl,(Nat.le_trans bC hb.size),(hB.trans (hb.mono hB.size)),(qf.below hb qf.lt),(qz.below hb qz.lt),(hf.later hb),(fun h=>⟨(f0 h).1,(f0 h).2.later hb⟩),f1,(fun _=>⟨rfl,⟨A,n,c,A',n',c',rfl,kt,kb⟩⟩),(fun h=>⟨(f3 h).1,(f3 h).2.1,Nat.lt_of_lt_of_le (f3 h).2.2.1 hb.size,fun h2=>((f3 h).2.2.2 h2).below hb (f3 h).2.2.1⟩),(fun h=>by rw[(f4 h).2.1] at aW;cases aW)⟩
   | 3,ho,hl,aM=>
    have aW:b3=false:=Option.some.inj hl;obtain rfl:=Option.some.inj ho;refine zas ho fun K' hK => ?_
    have hb:Below W.heap.size W (W.alloc (.cells #[.bool false,.slice none 0 0,.slice none 0 0] 87)):=Ac
    go_simp
    refine hK.out _ _ ?_;rw[aG.out];exact⟨b0,b1,b2,true,b4,u8,u9,bB,(.pointer (some ⟨W.heap.size,0,none⟩)),aN,aP,aO,aF,aE,aH,aK,aJ,aI,aD,aA,aC,W.heap.size,rfl,rfl,(Nat.le_trans bC hb.size),(hB.trans (hb.mono hB.size)),(qf.below hb qf.lt),(qz.below hb qz.lt),(hf.later hb),(fun h=>⟨(f0 h).1,(f0 h).2.later hb⟩),f1,(fun h=>⟨(f2 h).1,(f2 h).2.later hb⟩),(fun _=>⟨rfl,bC,by simp,fun _=>CBlk.new W _ _ _ rfl⟩),(fun h=>by rw[(f4 h).1] at aW;cases aW)⟩
   | 4,ho,hl,aM=>
    have aW:b4=false:=Option.some.inj hl;obtain rfl:=Option.some.inj ho;have e3:b3=true:=aM ⟨3,.data⟩ (by simp) rfl;obtain⟨rfl,bL,cN,cL⟩:=f3 e3;have e2:b2=true:=aM ⟨2,.data⟩ (by simp) rfl;obtain⟨rfl,cO⟩:=f2 e2;refine zas ho fun K' hK => ?_
    have hz:=cL aW;have z0:=hz.cell 0;have z1:=hz.cell 1;have z2:=hz.cell 2;have bV:=hz.frozen 0;have cE:=hz.frozen 1;have cK:=hz.frozen 2
    go_simp
    refine hK.out _ _ ?_;rw[aG.out];exact⟨b0,b1,b2,b3,true,u8,u9,(.agg #[.bool mq.neg,.slice aK aJ aI,.slice aD aA aC]),(.pointer (some ⟨aL,0,none⟩)),aN,aP,aO,aF,aE,aH,aK,aJ,aI,aD,aA,aC,aL,rfl,rfl,(by rw[zah];exact bC),(zao hB (Nat.le_trans cC bL) _ _ _),(qf.far3 (Nat.ne_of_gt (Nat.lt_of_lt_of_le aS bL)) _ _ _),(qz.far3 (Nat.ne_of_gt (Nat.lt_of_lt_of_le aU bL)) _ _ _),(hf.res3 hz _ _ _ _ _ _ _),(fun h=>⟨(f0 h).1,(f0 h).2.res3 hz _ _ _ _ _ _ _⟩),f1,(fun h=>⟨(f2 h).1,(f2 h).2.res3 hz _ _ _ _ _ _ _⟩),(fun h=>⟨(f3 h).1,(f3 h).2.1,by rw[zah];exact(f3 h).2.2.1,fun h2=>by cases h2⟩),(fun _=>⟨e3,e2,hz.set3 _ _ _⟩)⟩
   | n+5,ho,hl,aM=>exact absurd ho (by simp)
  ·intro aQ ac Y hI aR
   rw[aG.out] at hI;clear hB qf qz hf;obtain⟨b0,b1,b2,b3,b4,u8,u9,bB,u3,aN,aP,aO,aF,aE,aH,aK,aJ,aI,aD,aA,aC,aL,rfl,rfl,bC,hB,qf,qz,hf,f0,f1,f2,f3,f4⟩:=hI;have e0:b0=true:=aR 0 b0 (by decide) rfl;have e1:b1=true:=aR 1 b1 (by decide) rfl;have e2:b2=true:=aR 2 b2 (by decide) rfl;have e3:b3=true:=aR 3 b3 (by decide) rfl;have e4:b4=true:=aR 4 b4 (by decide) rfl;subst e0;subst e1;subst e2;subst e3;subst e4;obtain⟨rfl,qo⟩:=f0 rfl;obtain rfl:=f1 rfl;obtain⟨rfl,qm⟩:=f2 rfl;obtain⟨rfl,bO,_,_⟩:=f3 rfl;have t3:=(f4 rfl).2.2;clear f0 f1 f2 f3 f4 aR aG aS aU;have x0:=qf.cell 0;have x1:=qf.cell 1;have x2:=qf.cell 2;have y0:=t3.cell 0;have y1:=t3.cell 1;have y2:=t3.cell 2;clear HM HO hT
   go_wp2_with fail
   refine(HC.out _ _ Y qm hf).mono ?_;rintro e w8 ⟨rfl,bD⟩;have bQ:=Ad hB bD;have bP:=t3.below bD t3.lt;have bM:=qf.below bD qf.lt;have aZ:=qz.below bD qz.lt;have cI:=qm.later bD;have cB:=hf.later bD;clear HC hB bD t3 qf qz qm hf qo x0 x1 x2 y0 y1 y2;have x0:=bM.cell 0;have x1:=bM.cell 1;have x2:=bM.cell 2;have y0:=bP.cell 0;have y1:=bP.cell 1;have y2:=bP.cell 2;have z0:=aZ.cell 0;have z1:=aZ.cell 1;have z2:=aZ.cell 2;have bV:=aZ.frozen 0;have cE:=aZ.frozen 1;have cK:=aZ.frozen 2
   by_cases hc:rcmp mq fq<0
   ·have d:decide (rcmp mq fq<0)=true:=decide_eq_true hc
    have hr:zj2 p=mq:=by rw[HQ.out];unfold zkO;rw[←bJ.out,if_pos hc]
    have HR:=Aa hr;clear hr hc;have bA:=zao bQ (g:=w.heap.size+1) (by omega) (.bool mq.neg) (.slice aK aJ aI) (.slice aD aA aC);have bE:=cI.res3 aZ mq.neg aK aD aJ aI aA aC;clear bJ HQ
    go_wp2_with fail
    refine bodyPost_ret (v := .agg #[.bool mq.neg,.slice aK aJ aI,.slice aD aA aC]) (by simp[results,Tryz.results171,go_sem,z0,z1,z2]) rfl ⟨_,rfl,?_,bA⟩;rw[HR.out];exact bE
   ·have d:decide (rcmp mq fq<0)=false:=decide_eq_false hc
    have hr:zj2 p=fq:=by rw[HQ.out];unfold zkO;rw[←bJ.out,if_neg hc]
    have HR:=Aa hr;clear hr hc;have bA:=zao bQ (g:=w.heap.size+1) (by omega) (.bool fq.neg) (.slice A5 n5 c5) (.slice A6 n6 c6);have bE:=cB.res3 aZ fq.neg A5 A6 n5 c5 n6 c6;clear bJ HQ
    go_wp2_with fail
    refine bodyPost_ret (v := .agg #[.bool fq.neg,.slice A5 n5 c5,.slice A6 n6 c6]) (by simp[results,Tryz.results171,go_sem,z0,z1,z2]) rfl ⟨_,rfl,?_,bA⟩;rw[HR.out];exact bE
end Go.Proofs.YtbkgkoenppkhpaaGreatDoor
