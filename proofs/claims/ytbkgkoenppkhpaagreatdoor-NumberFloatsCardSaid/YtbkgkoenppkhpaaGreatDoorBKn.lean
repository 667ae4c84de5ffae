/- A growing slice of knots: pairs of ratios, six cells each. -/
import Derived.Test.YtbkgkoenppkhpaaGreatDoorBBtw
set_option maxRecDepth 100000
set_option maxHeartbeats 4000000
namespace Go.Proofs.YtbkgkoenppkhpaaGreatDoor
open Go.RowKit Bn
def zc6 (W:World) (B:Nat) (v:Value) (n:Nat) (ks:List (Q × Q)):Prop:=
 ks.length=n∧∃ xs:List Value,W.ownsRow B 143 6 v n xs∧∀ i (h:i<ks.length),∃ a:Array Value,(xs.drop (i*6)).take 6=a.toList∧a.size=6∧ItvS W W.heap.size (.agg a) ks[i].1 ks[i].2
theorem zc6.nil(W:World)(B:Nat):zc6 W B (.slice none 0 0) 0 []:=⟨rfl,[],⟨rfl,.inl ⟨rfl,rfl⟩⟩,fun i hi=>absurd hi (by simp)⟩
theorem zc6.keep {W W':World} {B n:Nat} {v:Value} {ks:List (Q × Q)} (h:zc6 W B v n ks) (ho:∀ xs,W.ownsRow B 143 6 v n xs→W'.ownsRow B 143 6 v n xs) (hi:∀ u p q,ItvS W W.heap.size u p q→ItvS W' W'.heap.size u p q):zc6 W' B v n ks:=by
 obtain⟨hl,xs,hx,hk⟩:=h;exact⟨hl,xs,ho xs hx,fun i h=>by
  obtain⟨a,h1,h2,h3⟩:=hk i h;exact⟨a,h1,h2,hi _ _ _ h3⟩⟩
theorem zc6.snoc{W W':World}{B n:Nat}{v v':Value}{ks:List (Q × Q)}{xs:List Value}{p q:Q}{a:Array Value}(hl:ks.length=n)(hx:W.ownsRow B 143 6 v n xs)
 (hk:∀ i (h:i<ks.length),∃ a:Array Value,(xs.drop (i*6)).take 6=a.toList∧a.size=6∧ItvS W W.heap.size (.agg a) ks[i].1 ks[i].2)
 (ha:a.size=6)(hp:ItvS W' W'.heap.size (.agg a) p q)(ho:W'.ownsRow B 143 6 v' (n+1) (xs++a.toList))(hi:∀ u p q,ItvS W W.heap.size u p q→ItvS W' W'.heap.size u p q) :
  zc6 W' B v' (n+1) (ks++[(p,q)]):=by
 have aA:xs.length=n*6:=hx.1;refine⟨by simp[hl],_,ho,fun i h => ?_⟩
 by_cases hn:i<ks.length
 ·obtain⟨b,h1,h2,h3⟩:=hk i hn
  refine⟨b,?_,h2,?_⟩
  ·rw[List.drop_append_of_le_length (by omega),List.take_append_of_le_length (by rw[List.length_drop];omega),h1]
  ·rw[List.getElem_append_left hn];exact hi _ _ _ h3
 ·have e:i=ks.length:=by simp at h;omega
  subst e;refine⟨a,?_,ha,?_⟩
  ·rw[hl,←aA,List.drop_left,List.take_of_length_le (by simp[ha])]
  ·rw[List.getElem_append_right (Nat.le_refl _)];simpa using hp
def Free (w:World) (v:Value):Prop:=∀ g,v.ownBlock=some g→∃ cur e fr,w.heap[g]? = some (.cells cur e fr)∧zdE cur
theorem Free.nil(w:World):Free w (.slice none 0 0):=fun g h=>by cases h
theorem Free.kept {w w':World} {v:Value} (h:Free w v) (hb:∀ g,v.ownBlock=some g→w'.heap[g]? = w.heap[g]?):Free w' v:=fun g hg=>by
 obtain⟨cur,e,fr,h1,h2⟩:=h g hg;exact⟨cur,e,fr,(hb g hg).trans h1,h2⟩
theorem zdv {xs:List Value} (h:∀ u ∈ xs,∀ (k:IntKind) (d:Int),u ≠ .int k d):zdE xs.toArray:=fun i v hv=>by
 rw[List.getElem?_toArray] at hv;exact h v (List.mem_of_getElem? hv)
theorem zf0 {cs:Array Value} (h:zdE cs):∀ u ∈ cs.toList,∀ (k:IntKind) (d:Int),u ≠ .int k d:=fun u hu=>by
 obtain⟨i,hi⟩:=List.mem_iff_getElem?.1 hu;exact h i u (by rw[←hi,Array.getElem?_toList])
theorem zg0 (z:Array Value) (hz:zdE z) (n:Nat):zdE (Builtin.zeroCells z n):=fun i v hv=>by
 unfold Builtin.zeroCells at hv;rw[Array.getElem?_map] at hv
 cases hr:(Array.range (n*z.size))[i]? with
 | none=>rw[hr] at hv;cases hv
 | some j=>
  rw[hr] at hv;injection hv with hv
  have hi:i<n*z.size:=by
   obtain⟨h1,_⟩:=Array.getElem?_eq_some_iff.1 hr
   simpa using h1
  have aC:0<z.size:=by
   rcases Nat.eq_zero_or_pos z.size with h | h
   ·rw[h,Nat.mul_zero] at hi;omega
   ·exact h
  have aA:j%z.size<z.size:=Nat.mod_lt _ aC
  dsimp only at hv
  rw[getElem!_pos z (j%z.size) aA] at hv;exact hz (j%z.size) v (by rw[Array.getElem?_eq_getElem aA,hv])
theorem zjL{P:Program}(w:World)(base:Nat)(t ty e:TypeId)(i:TypeInfo)(z:Value)(size bytes:Nat)(ht:P.underlying t=some (.slice e))(hi:P.info? e=some i)(hz:i.zero=some z)
 (hsize:i.size=size)(hby:i.bytes=bytes)(hzn:zdE z.cells)(hsz:0<size)
 (v:Value)(n:Nat)(xs:List Value)(hown:w.ownsRow base e size v n xs)(hf:Free w v)
 (a:Addr)(m c:Nat)(news:List Value)(hm:0<m)(hl:news.length=m*size)(hnews:∀ j u,news[j]? = some u→w.cell? (a.add j)=some u)(h1:∀ u ∈ news,u.oneCell'=true)(hn1:∀ u ∈ news,∀ (k:IntKind) (d:Int),u ≠ .int k d)
 (h63:n+m≤maxLen)(hbytes:(n+m)*bytes≤140737488355328)(v':Value)(w':World)(hr:(Builtin.append_ #[t,t] ty #[v,.slice (some a) m c]).run P w = .ok v' w'):Free w' v':=by
 subst hsize;subst hby;have aI:n+m≤9223372036854775807:=by simp only[maxLen] at h63;omega
 rcases hown.2 with⟨rfl,rfl⟩ | ⟨g,aD,aH,rfl,aN,hg,aO,aM,aL,aG⟩
 ·rw[run_append_nil (P:=P) w t ty e i z ht hi hz a m c news hl hnews (by omega) (by omega) (by have hb:=hbytes;simp only[Nat.zero_add] at hb;omega)] at hr
  injection hr with e1 e2
  subst e1 e2;intro g hg;injection hg with hg
  refine⟨_,_,_,by rw[←hg];exact heap_alloc_new w.drew _,?_⟩;have hA:=zdv (xs:=news++(Builtin.zeroCells z.cells (grownCap w m 0 e-m)).toList) (fun u hu=>by
   rcases List.mem_append.1 hu with h | h
   ·exact hn1 u h
   ·exact zf0 (zg0 _ hzn _) u h)
  rw[show news.toArray++Builtin.zeroCells z.cells (grownCap w m 0 e-m)=(news++(Builtin.zeroCells z.cells (grownCap w m 0 e-m)).toList).toArray from by apply Array.ext';simp];exact hA
 ·have aE:zdE aH:=by
   obtain⟨aK,e',aP,h2,h3⟩:=hf g rfl;rw[hg] at h2;injection h2 with h2
   injection h2 with h2
   rw[h2];exact h3
  have aC:=zf0 aE
  by_cases hroom:n+m≤aD
  ·have aJ:n*i.size+news.length≤aH.size:=by rw[hl,aL,←Nat.add_mul];exact Nat.mul_le_mul_right _ hroom
   rw[run_append_room (P:=P) w t ty e i ht hi g n aD aH hg a m c news hl hnews h1 hroom aJ] at hr;injection hr with e1 e2
   subst e1 e2;intro g' aA;injection aA with aA
   refine⟨_,_,_,by rw[←aA];exact setRow_heap w g aH _ e _ hg,zdv (fun u hu => ?_)⟩
   rcases List.mem_append.1 hu with h | h
   ·rcases List.mem_append.1 h with h | h
    ·exact aC u (List.mem_of_mem_take h)
    ·exact hn1 u h
   ·exact aC u (List.mem_of_mem_drop h)
  ·have aF:∀ j u,xs[j]? = some u→w.cell? ((⟨g,0,none⟩:Addr).add j)=some u:=hown.cells (g:=g) rfl
   rw[run_append_grow (P:=P) w t ty e i z ht hi hz ⟨g,0,none⟩ n aD xs hown.1 aF a m c news hl hnews (by omega) (by omega) (growslice_fits (by omega) hbytes)] at hr;injection hr with e1 e2
   subst e1 e2;intro g' aA;injection aA with aA
   refine⟨_,_,_,by rw[←aA];exact heap_alloc_new w.drew _,?_⟩;have hA:=zdv (xs:=xs++news++(Builtin.zeroCells z.cells (grownCap w (n+m) aD e-(n+m))).toList) (fun u hu=>by
    rcases List.mem_append.1 hu with h | h
    ·rcases List.mem_append.1 h with h | h
     ·rw[←aG] at h
      exact aC u (List.mem_of_mem_take h)
     ·exact hn1 u h
    ·exact zf0 (zg0 _ hzn _) u h)
   rw[show xs.toArray++news.toArray++Builtin.zeroCells z.cells (grownCap w (n+m) aD e-(n+m))=(xs++news++(Builtin.zeroCells z.cells (grownCap w (n+m) aD e-(n+m))).toList).toArray from by apply Array.ext';simp];exact hA
theorem zcY{P:Program}{w:World}{ops:Array Oper}{rest:List Oper}{o:Oper}{a:Act}{Q:Exit→Act→World→Prop}(hgd:o.guard=none)(s x:Operand)(t:TypeId)
 (ho:o.op = .call { callee := .builtin .append,args:=#[s,x],argTypes:=#[t,t] })
 (base:Nat)(e:TypeId)(i:TypeInfo)(z:Value)(size bytes:Nat)(ht:P.underlying t=some (.slice e))(hi:P.info? e=some i)(hz:i.zero=some z)
 (hsize:i.size=size)(hby:i.bytes=bytes)(hzs:z.cells.size=size)(hsz:0<size)(hzn:zdE z.cells)
 (v:Value)(n:Nat)(xs:List Value)(hs:a.eval s=v)(hown:w.ownsRow base e size v n xs)(hf:Free w v)
 (ad:Addr)(m c:Nat)(news:List Value)(hm:0<m)(hx:a.eval x = .slice (some ad) m c)(hl:news.length=m*size)(hnews:∀ j u,news[j]? = some u→w.cell? (ad.add j)=some u)(h1:∀ u ∈ news,u.oneCell'=true)
 (hn1:∀ u ∈ news,∀ (k:IntKind) (d:Int),u ≠ .int k d)
 (h63:n+m≤maxLen)(hbytes:(n+m)*bytes≤140737488355328)(hbase:base≤w.heap.size)
 (h:∀ v' w',w'.ownsRow base e size v' (n+m) (xs++news)→w.grownBy w' v.ownBlock→(v'.ownBlock=v.ownBlock∨v'.ownBlock=some w.heap.size)→Free w' v'→wpList P ops Q rest (a.put o.dst v') w') :
  wpList P ops Q (o :: rest) a w:=by
 refine wpList_plain hgd fun K hK => ?_
 obtain⟨v',w',hr,h2,h3,_,h5⟩:=run_append_own_at (P:=P) w base t o.type e i z size bytes ht hi hz hsize hby hzs hsz v n xs hown ad m c news hl hnews h1 h63 hbytes hbase;have hF:=zjL w base t o.type e i z size bytes ht hi hz hsize hby hzn hsz v n xs hown hf ad m c news hm hl hnews h1 hn1 h63 hbytes v' w' hr;unfold Oper.wp execOp;simp only[ho,resolve,invoke,builtin,Sem.run_bind,Sem.run_pure,Result.andThen_ok,List.map_toArray,List.map_cons,List.map_nil,hs,hx,hr]
 exact hK _ _ (h v' w' h2 h3 h5 hF)
theorem NatS.free{w w':World}{B n c x:Nat}{A:Option Addr}{v:Value}(h:NatS w B A n c x)(hf:Free w v)(hg:w.grownBy w' v.ownBlock)(hB:B≤w.heap.size):NatS w' B A n c x:=by
 refine⟨⟨h.words.1,fun h0 => ?_⟩,h.nc,h.cm⟩;obtain⟨ad,e,hb,hc⟩:=h.words.2 h0;refine⟨ad,e,hb,fun j z hz => ?_⟩;have aA:=hc j z hz;have aC:∃ d:Nat,z = .int .u64 (d:Int):=by
  rw[List.getElem?_map] at hz
  cases hd:(digs x)[j]? with
  | none=>rw[hd] at hz;cases hz
  | some d=>rw[hd] at hz;injection hz with hz;exact⟨d,hz.symm⟩
 obtain⟨d,rfl⟩:=aC
 by_cases hv:some (ad.add j).block=v.ownBlock
 ·exfalso
  obtain⟨aD,e',fr,h1,h2⟩:=hf _ hv.symm;unfold World.cell? at aA;rw[h1] at aA
  dsimp only at aA
  split at aA
  ·cases aA
  ·exact h2 _ _ aA _ _ rfl
 ·rw[←aA]
  exact World.cell?_of_block (hg.block _ (by rw[zbe];omega) hv)
theorem ItvS.free{w w':World}{u v:Value}{p q:Q}(h:ItvS w w.heap.size u p q)(hf:Free w v)(hg:w.grownBy w' v.ownBlock):ItvS w' w.heap.size u p q:=by
 obtain⟨A1,n1,c1,A2,n2,c2,A3,n3,c3,A4,n4,c4,rfl,h1,h2,h3,h4⟩:=h;exact⟨A1,n1,c1,A2,n2,c2,A3,n3,c3,A4,n4,c4,rfl,h1.free hf hg (Nat.le_refl _),h2.free hf hg (Nat.le_refl _),h3.free hf hg (Nat.le_refl _),h4.free hf hg (Nat.le_refl _)⟩
def rowE (o:Option Q) (X Y:List UInt8):Int:=if zan X≠0 then zan X else if zan Y≠0 then zan Y else match o with | none=>0 | some q=>if rcmp (zaf X) q≤0 then 11 else 0
structure KState (W:World) (B g k:Nat) (ks:List (Q × Q)) (v:Value):Prop where
 box:CBlk W g #[v] 139
 kn:zc6 W B v k ks
 free:Free W v
theorem zc6.form{W:World}{B n:Nat}{v:Value}{ks:List (Q × Q)}(h:zc6 W B v n ks):v = .slice none 0 0∧n=0∨∃ gk cap,v = .slice (some ⟨gk,0,none⟩) n cap∧B≤gk∧gk<W.heap.size∧v.ownBlock=some gk:=by
 obtain⟨_,xs,hx,_⟩:=h
 rcases hx.2 with⟨rfl,h0⟩ | ⟨g,cap,aA,rfl,hb,hg,_⟩
 ·exact .inl ⟨rfl,h0⟩
 ·exact .inr ⟨g,cap,rfl,hb,(Array.getElem?_eq_some_iff.1 hg).1,rfl⟩
theorem KState.apart{W:World}{B g k:Nat}{ks:List (Q × Q)}{v:Value}(h:KState W B g k ks v):v.ownBlock≠some g:=by
 obtain⟨_,xs,hx,_⟩:=h.kn
 rcases hx.2 with⟨rfl,_⟩ | ⟨gk,aC,aD,rfl,hb,hg,_⟩
 ·simp[Value.ownBlock]
 ·intro e
  injection e with e
  subst e;have aA:=h.box;unfold CBlk at aA;rw[hg] at aA;injection aA with aA
  injection aA with _ e2 _
  exact absurd e2 (by decide)
theorem KState.later{W W':World}{B g k:Nat}{ks:List (Q × Q)}{v:Value}(h:KState W B g k ks v)(hb:Below W.heap.size W W'):KState W' B g k ks v:=by
 have aA:=h.box.lt;refine⟨h.box.below hb aA,h.kn.keep (fun xs hx => ?_) (fun u p q hu=>hu.later hb),?_⟩
 ·refine hx.kept (row:=none) ⟨hb.os,hb.tape,hb.output,hb.size,fun i hi _=>hb.block i hi⟩ ?_
  cases v.ownBlock<;>simp
 ·refine h.free.kept (fun gk hk => ?_)
  rcases h.kn.form with⟨rfl,_⟩ | ⟨g',aC,e,_,hl,ho⟩
  ·cases hk
  ·rw[ho] at hk
   injection hk with hk
   subst hk;exact hb.block _ hl
theorem zc6.cells{W:World}{B n gk cap:Nat}{ks:List (Q × Q)}(h:zc6 W B (.slice (some ⟨gk,0,none⟩) n cap) n ks){i:Nat}(hi:i<ks.length) :
  ∃ A1 n1 c1 A2 n2 c2 A3 n3 c3 A4 n4 c4,(∀ j u,[Value.bool ks[i].1.neg,.slice A1 n1 c1,.slice A2 n2 c2,.bool ks[i].2.neg,.slice A3 n3 c3,.slice A4 n4 c4][j]? = some u→W.cell? ⟨gk,i*6+j,none⟩=some u) ∧
   NatS W W.heap.size A1 n1 c1 ks[i].1.top∧NatS W W.heap.size A2 n2 c2 ks[i].1.bot∧NatS W W.heap.size A3 n3 c3 ks[i].2.top∧NatS W W.heap.size A4 n4 c4 ks[i].2.bot:=by
 obtain⟨hl,xs,hx,hk⟩:=h;obtain⟨a,h1,h2,A1,n1,c1,A2,n2,c2,A3,n3,c3,A4,n4,c4,e,r1,r2,r3,r4⟩:=hk i hi;refine⟨A1,n1,c1,A2,n2,c2,A3,n3,c3,A4,n4,c4,fun j u hu => ?_,r1,r2,r3,r4⟩;have hc:=hx.cells (g:=gk) rfl (i*6+j) u;have hj:j<6:=by
  rcases Nat.lt_or_ge j 6 with h | h
  ·exact h
  ·rw[List.getElem?_eq_none (by simpa using h)] at hu;cases hu
 have e2:(⟨gk,0,none⟩:Addr).add (i*6+j)=⟨gk,i*6+j,none⟩:=by unfold Addr.add;split<;>simp_all
 rw[e2] at hc;refine hc ?_;injection e with e
 subst e;have h3:((xs.drop (i*6)).take 6)[j]? = some u:=by rw[h1];simpa using hu
 rw[List.getElem?_take,if_pos hj,List.getElem?_drop] at h3;exact h3
theorem zim:(Tryz.prog.info? 143).map (fun i=>(i.zero,i.size,i.bytes))=some (some (.agg #[.bool false,.slice none 0 0,.slice none 0 0,.bool false,.slice none 0 0,.slice none 0 0]),6,112):=by kernel_rfl
theorem zc6.at_{W:World}{B n gk cap:Nat}{ks:List (Q × Q)}(h:zc6 W B (.slice (some ⟨gk,0,none⟩) n cap) n ks){i:Nat}{o oo:Q}(hi:ks[i]? = some (o,oo)) :
  ∃ A1 n1 c1 A2 n2 c2 A3 n3 c3 A4 n4 c4,(∀ j u,[Value.bool o.neg,.slice A1 n1 c1,.slice A2 n2 c2,.bool oo.neg,.slice A3 n3 c3,.slice A4 n4 c4][j]? = some u→W.cell? ⟨gk,i*6+j,none⟩=some u) ∧
   NatS W W.heap.size A1 n1 c1 o.top∧NatS W W.heap.size A2 n2 c2 o.bot∧NatS W W.heap.size A3 n3 c3 oo.top∧NatS W W.heap.size A4 n4 c4 oo.bot:=by
 obtain⟨aA,he⟩:=List.getElem?_eq_some_iff.1 hi;have h9:=h.cells aA;rw[he] at h9;exact h9
theorem zmT(ii x y E:Int)(p q:Q)(X Y:ByteArray)(g B k:Nat)(v:Value)(ks:List (Q × Q))(w:World)(hT:Tabs w)(hst:KState w B g k ks v)(HE:Hid (E=if x≠0 then x else y))(H0:Hid (E≠0))
 (HR1:Hid (∀ W,Tabs W→Calls Tryz.prog 59 #[.string X] W (zaC W p x)))(HR2:Hid (∀ W,Tabs W→Calls Tryz.prog 59 #[.string Y] W (zaC W q y))) :
  Calls Tryz.prog 169 #[.int .i64 ii,.agg #[.string X,.string Y],.pointer (some ⟨g,0,none⟩)] w fun e w'=>e = .returned (.int .i64 E)∧Below w.heap.size w w':=by
 have aW:(E != 0)=true:=by simpa using H0.out
 have aH:Below w.heap.size w (w.alloc (.cells #[.string X,.string Y] 70)):=Ac;have q0:CBlk (w.alloc (.cells #[.string X,.string Y] 70)) w.heap.size #[.string X,.string Y] 70:=CBlk.new _ _ _ _ rfl;go_enter Tryz.func169,Tryz.ntmps169
 go_upto_region 1 with(fail)
 generalize (w.alloc (.cells #[.string X,.string Y] 70))=W at *;have a0:=q0.cell 0;have a1:=q0.cell 1
 go_wp2_with fail
 refine(HR1.out W (hT.later aH)).mono ?_;rintro e w2 ⟨v2,rfl,⟨A1,n1,c1,A2,n2,c2,rfl,h1,h2⟩,aL⟩;have aG:=Ad aH aL;have aI:=(q0.below aL q0.lt).alloc (.cells #[.bool p.neg,.slice A1 n1 c1,.slice A2 n2 c2] 87);have aA:Below w2.heap.size w2 (w2.alloc (.cells #[.bool p.neg,.slice A1 n1 c1,.slice A2 n2 c2] 87)):=Ac;have aJ:CBlk (w2.alloc (.cells #[.bool p.neg,.slice A1 n1 c1,.slice A2 n2 c2] 87)) w2.heap.size #[.bool p.neg,.slice A1 n1 c1,.slice A2 n2 c2] 87:=CBlk.new _ _ _ _ rfl;have aC:=Ad aG aA;have aP:=h1.later aA;have aS:=h2.later aA;have aV:=aG.size;clear a0 a1 q0 aH aL aG h1 h2 aA;go_upto_region 2 with(fail)
 generalize (w2.alloc (.cells #[.bool p.neg,.slice A1 n1 c1,.slice A2 n2 c2] 87))=w3 at *;have a0:=aI.cell 0;have a1:=aI.cell 1
 go_wp2_with fail
 refine(HR2.out w3 (hT.later aC)).mono ?_;rintro e w4 ⟨v4,rfl,⟨A3,n3,c3,A4,n4,c4,rfl,h3,h4⟩,aF⟩;have aK:=Ad aC aF;have aM:=(aJ.below aF aJ.lt).alloc (.cells #[.bool q.neg,.slice A3 n3 c3,.slice A4 n4 c4] 87);have aO:CBlk (w4.alloc (.cells #[.bool q.neg,.slice A3 n3 c3,.slice A4 n4 c4] 87)) w4.heap.size #[.bool q.neg,.slice A3 n3 c3,.slice A4 n4 c4] 87:=CBlk.new _ _ _ _ rfl;have aA:Below w4.heap.size w4 (w4.alloc (.cells #[.bool q.neg,.slice A3 n3 c3,.slice A4 n4 c4] 87)):=Ac;have aD:=Ad aK aA;have aN:=(aP.later aF).later aA;have aQ:=(aS.later aF).later aA;have aU:=h3.later aA;have aT:=h4.later aA;clear a0 a1 aI aJ aC aF aK aP aS h3 h4 aA;go_upto_region 3 with(fail)
 generalize (w4.alloc (.cells #[.bool q.neg,.slice A3 n3 c3,.slice A4 n4 c4] 87))=w5 at *;have aR:Below w.heap.size w (w5.alloc (.cells #[.int .i64 x,.int .i64 y] 27)):=aD.alloc aD.size _;have aE:Below w5.heap.size w5 (w5.alloc (.cells #[.int .i64 x,.int .i64 y] 27)):=Ac;have bC:=aM.alloc (.cells #[.int .i64 x,.int .i64 y] 27);have bB:=aO.alloc (.cells #[.int .i64 x,.int .i64 y] 27);have bA:=aN.later aE;have aY:=aQ.later aE;have aZ:=aU.later aE;have aX:=aT.later aE
 go_wp2_with fail
 refine(za8 x y E HE.out w5 _ _ rfl).mono ?_;rintro e w6 ⟨rfl,rfl⟩;clear aM aO aD aE aN aQ aU aT;generalize (w5.alloc (.cells #[.int .i64 x,.int .i64 y] 27))=w6 at *;have k6:=hst.later aR;generalize w2.heap.size=gx at *;generalize w4.heap.size=gy at *;clear k6 hst;go_wp2
 go_ret;exact⟨rfl,aR⟩
theorem zmw(ii x y:Int)(p q:Q)(X Y:ByteArray)(g B k n:Nat)(v:Value)(ks:List (Q × Q))(w:World)(hT:Tabs w)(hst:KState w B g n ks v)(HX:Hid (x=0∧y=0))(HI:Hid (ii=(n:Int)∧n=k+1∧k<64))
 (o oo:Q)(hk:Hid (ks[k]? = some (o,oo)))(HO:Hid (rcmp p o≤0))(lp:LenQ p 268435456)(lq:LenQ o 268435456)
 (HR1:Hid (∀ W,Tabs W→Calls Tryz.prog 59 #[.string X] W (zaC W p x)))(HR2:Hid (∀ W,Tabs W→Calls Tryz.prog 59 #[.string Y] W (zaC W q y))) :
  Calls Tryz.prog 169 #[.int .i64 ii,.agg #[.string X,.string Y],.pointer (some ⟨g,0,none⟩)] w fun e w'=>e = .returned (.int .i64 11)∧Below w.heap.size w w':=by
 obtain⟨E,hE⟩:∃ E,E=if x≠0 then x else y:=⟨_,rfl⟩
 have HE:=Aa hE;have bW:(E != 0)=false:=by rw[hE,HX.out.1,HX.out.2];rfl
 have HC:=Aa (fun v u W h1 h2=>zbp p o v u W h1 h2 lp lq);obtain⟨r,hr⟩:∃ r,r=rcmp p o:=⟨_,rfl⟩;rw[←hr] at HC HO;have d1:decide (r≤0)=true:=by simpa using HO.out
 have d2:decide (0<ii)=true:=decide_eq_true (by have:=HI.out;omega);have d3:wrap64 (ii-1)=(k:Int):=by rw[IntWalk.wrap64_in _ (by have:=HI.out;omega)];have:=HI.out;omega
 have d4:IntKind.i64.wrap (ii-1)=(k:Int):=by rw[IntWalk.i64_in _ (by have:=HI.out;omega)];have:=HI.out;omega
 have bZ:(0:Int)≤(k:Int):=by omega
 have cA:(k:Int)<(n:Int):=by have:=HI.out;omega
 clear hE hr lp lq;have aN:Below w.heap.size w (w.alloc (.cells #[.string X,.string Y] 70)):=Ac;have q0:CBlk (w.alloc (.cells #[.string X,.string Y] 70)) w.heap.size #[.string X,.string Y] 70:=CBlk.new _ _ _ _ rfl;go_enter Tryz.func169,Tryz.ntmps169
 go_upto_region 1 with(fail)
 generalize (w.alloc (.cells #[.string X,.string Y] 70))=W at *;have a0:=q0.cell 0;have a1:=q0.cell 1
 go_wp2_with fail
 refine(HR1.out W (hT.later aN)).mono ?_;rintro e w2 ⟨v2,rfl,⟨A1,n1,c1,A2,n2,c2,rfl,h1,h2⟩,aU⟩;have aL:=Ad aN aU;have aP:=(q0.below aU q0.lt).alloc (.cells #[.bool p.neg,.slice A1 n1 c1,.slice A2 n2 c2] 87);have aA:Below w2.heap.size w2 (w2.alloc (.cells #[.bool p.neg,.slice A1 n1 c1,.slice A2 n2 c2] 87)):=Ac;have aQ:CBlk (w2.alloc (.cells #[.bool p.neg,.slice A1 n1 c1,.slice A2 n2 c2] 87)) w2.heap.size #[.bool p.neg,.slice A1 n1 c1,.slice A2 n2 c2] 87:=CBlk.new _ _ _ _ rfl;have aC:=Ad aL aA;have aZ:=h1.later aA;have bB:=h2.later aA;have bP:=aL.size;clear a0 a1 q0 aN aU aL h1 h2 aA;go_upto_region 2 with(fail)
 generalize (w2.alloc (.cells #[.bool p.neg,.slice A1 n1 c1,.slice A2 n2 c2] 87))=w3 at *;have a0:=aP.cell 0;have a1:=aP.cell 1
 go_wp2_with fail
 refine(HR2.out w3 (hT.later aC)).mono ?_;rintro e w4 ⟨v4,rfl,⟨A3,n3,c3,A4,n4,c4,rfl,h3,h4⟩,aG⟩;have aR:=Ad aC aG;have aV:=(aQ.below aG aQ.lt).alloc (.cells #[.bool q.neg,.slice A3 n3 c3,.slice A4 n4 c4] 87);have aX:CBlk (w4.alloc (.cells #[.bool q.neg,.slice A3 n3 c3,.slice A4 n4 c4] 87)) w4.heap.size #[.bool q.neg,.slice A3 n3 c3,.slice A4 n4 c4] 87:=CBlk.new _ _ _ _ rfl;have aA:Below w4.heap.size w4 (w4.alloc (.cells #[.bool q.neg,.slice A3 n3 c3,.slice A4 n4 c4] 87)):=Ac;have aD:=Ad aR aA;have aW:=(aZ.later aG).later aA;have bA:=(bB.later aG).later aA;have bF:=h3.later aA;have bE:=h4.later aA;clear a0 a1 aP aQ aC aG aR aZ bB h3 h4 aA;go_upto_region 3 with(fail)
 generalize (w4.alloc (.cells #[.bool q.neg,.slice A3 n3 c3,.slice A4 n4 c4] 87))=w5 at *;have aT:Below w.heap.size w (w5.alloc (.cells #[.int .i64 x,.int .i64 y] 27)):=aD.alloc aD.size _;have aF:Below w5.heap.size w5 (w5.alloc (.cells #[.int .i64 x,.int .i64 y] 27)):=Ac;have aJ:=aV.alloc (.cells #[.int .i64 x,.int .i64 y] 27);have bY:=aX.alloc (.cells #[.int .i64 x,.int .i64 y] 27);have bS:=aW.later aF;have bM:=bA.later aF;have bX:=bF.later aF;have bV:=bE.later aF
 go_wp2_with fail
 refine(za8 x y E HE.out w5 _ _ rfl).mono ?_;rintro e w6 ⟨rfl,rfl⟩;clear aV aX aD aF aW bA bF bE;generalize (w5.alloc (.cells #[.int .i64 x,.int .i64 y] 27))=w6 at *;have k6:=hst.later aT;generalize w2.heap.size=gx at *;generalize w4.heap.size=gy at *;obtain⟨gk,aI,rfl,_,aO,_⟩:∃ gk aI,v = .slice (some ⟨gk,0,none⟩) n aI∧B≤gk∧gk<w6.heap.size∧v.ownBlock=some gk:=by
  rcases k6.kn.form with⟨_,h⟩ | h
  ·have:=HI.out;omega
  ·exact h
 obtain⟨K1,m1,e1,K2,m2,e2,K3,m3,e3,K4,m4,e4,aM,r1,r2,_,_⟩:=k6.kn.at_ hk.out;have y0:w6.cell? ⟨gk,k*6,none⟩=some (.bool o.neg):=aM 0 _ rfl;have y1:w6.cell? ⟨gk,k*6+1,none⟩=some (.slice K1 m1 e1):=aM 1 _ rfl;have y2:w6.cell? ⟨gk,k*6+2,none⟩=some (.slice K2 m2 e2):=aM 2 _ rfl;clear aM;have aK:Below w6.heap.size w6 w6.drew:=(Below.refl _ _).drew;have aH:=Aa (HC.out _ _ w6.drew (RatS.mk (q:=p) (bS.later aK) (bM.later aK)) (RatS.mk (q:=o) (r1.later aK) (r2.later aK)));go_upto_region 6 with(fail)
 have bT:w6.drew.cell? ⟨gx,0,none⟩=some (.bool p.neg):=aJ.cell 0;have bL:w6.drew.cell? ⟨gx,1,none⟩=some (.slice A1 n1 c1):=aJ.cell 1;have bH:w6.drew.cell? ⟨gx,2,none⟩=some (.slice A2 n2 c2):=aJ.cell 2;have bJ:w6.drew.cell? ⟨g,0,none⟩=some (.slice (some ⟨gk,0,none⟩) n aI):=k6.box.cell 0;have aY:w6.drew.cell? ⟨gk,k*6,none⟩=some (.bool o.neg):=y0;have bD:w6.drew.cell? ⟨gk,k*6+1,none⟩=some (.slice K1 m1 e1):=y1;have bC:w6.drew.cell? ⟨gk,k*6+2,none⟩=some (.slice K2 m2 e2):=y2;clear y0 y1 y2
 go_region_held3 (fun w'=>w'.cell? ⟨gx,0,none⟩=some (.bool p.neg)∧w'.cell? ⟨gx,1,none⟩=some (.slice A1 n1 c1)∧w'.cell? ⟨gx,2,none⟩=some (.slice A2 n2 c2)∧w'.cell? ⟨g,0,none⟩=some (.slice (some ⟨gk,0,none⟩) n aI)∧w'.cell? ⟨gk,k*6,none⟩=some (.bool o.neg)∧w'.cell? ⟨gk,k*6+1,none⟩=some (.slice K1 m1 e1)∧w'.cell? ⟨gk,k*6+2,none⟩=some (.slice K2 m2 e2))
  (first | with_reducible exact⟨bT,bL,bH,bJ,aY,bD,bC⟩ | with_reducible exact⟨bK,bU,bQ,bI,bO,bN,bG⟩)
  (first | (go_at_call 81;refine aH.out.mono ?_;rintro e w7 ⟨rfl,aE⟩;have aS:=aJ.drew.below aE aJ.lt;have k7:=(k6.later aK).later aE;have bK:w7.cell? ⟨gx,0,none⟩=some (.bool p.neg):=aS.cell 0;have bU:w7.cell? ⟨gx,1,none⟩=some (.slice A1 n1 c1):=aS.cell 1;have bQ:w7.cell? ⟨gx,2,none⟩=some (.slice A2 n2 c2):=aS.cell 2;have bI:w7.cell? ⟨g,0,none⟩=some (.slice (some ⟨gk,0,none⟩) n aI):=k7.box.cell 0;have bO:w7.cell? ⟨gk,k*6,none⟩=some (.bool o.neg):=(aE.cell aO).trans aY;have bN:w7.cell? ⟨gk,k*6+1,none⟩=some (.slice K1 m1 e1):=(aE.cell aO).trans bD;have bG:w7.cell? ⟨gk,k*6+2,none⟩=some (.slice K2 m2 e2):=(aE.cell aO).trans bC))
 have bR:=aT.drew.trans (aE.mono aT.drew.size)
 go_wp2_with fail
 go_ret;exact⟨rfl,bR⟩
theorem zgz{W V V':World}{B g n:Nat}{ks:List (Q × Q)}{v v':Value}{xs:List Value}{p q:Q}{a:Array Value}(h:KState W B g n ks v)(hx:W.ownsRow B 143 6 v n xs)
 (hks:∀ i (h:i<ks.length),∃ a:Array Value,(xs.drop (i*6)).take 6=a.toList∧a.size=6∧ItvS W W.heap.size (.agg a) ks[i].1 ks[i].2)
 (hbV:Below W.heap.size W V)(hp:ItvS V V.heap.size (.agg a) p q)(ha:a.size=6)
 (ho:V'.ownsRow B 143 6 v' (n+1) (xs++a.toList))(hg:V.grownBy V' v.ownBlock)(hat:v'.ownBlock=v.ownBlock∨v'.ownBlock=some V.heap.size)(hf:Free V' v') :
  KState (V'.setCell ⟨g,0,none⟩ v') B g (n+1) (ks++[(p,q)]) v'∧(∀ B',B'≤W.heap.size→B'≤B→B'≤g→Below B' W (V'.setCell ⟨g,0,none⟩ v')):=by
 have aH:=h.apart;have aL:=h.box.lt;have hV:=h.later hbV;have aJ:=hV.box.lt;have aA:CBlk V' g #[v] 139:=hV.box.grown hg aJ (fun e=>aH e);have aF:CBlk (V'.setCell ⟨g,0,none⟩ v') g #[v'] 139:=aA.set0;have aI:v'.ownBlock≠some g:=by
  rcases hat with e | e
  ·rw[e];exact aH
  ·rw[e];intro e';injection e' with e';omega
 have aC:∃ A c,v = .slice A n c:=by
  rcases hx.2 with⟨rfl,rfl⟩ | ⟨g',aK,aG,rfl,_⟩
  ·exact⟨_,_,rfl⟩
  ·exact⟨_,_,rfl⟩
 have aE:zdE #[v]:=by
  obtain⟨A,c,rfl⟩:=aC;intro i u hu k d
  match i,hu with
  | 0,hu=>injection hu with hu;subst hu;intro h;cases h
  | i+1,hu=>simp at hu
 have keep:∀ u p q,ItvS V V.heap.size u p q→ItvS (V'.setCell ⟨g,0,none⟩ v') (V'.setCell ⟨g,0,none⟩ v').heap.size u p q:=fun u p q hu=>by
  have h1:=hu.free hV.free hg;have h2:ItvS V' V'.heap.size u p q:=by
   obtain⟨A1,n1,c1,A2,n2,c2,A3,n3,c3,A4,n4,c4,e,r1,r2,r3,r4⟩:=h1;exact⟨A1,n1,c1,A2,n2,c2,A3,n3,c3,A4,n4,c4,e,r1.more hg.size,r2.more hg.size,r3.more hg.size,r4.more hg.size⟩
  obtain⟨A1,n1,c1,A2,n2,c2,A3,n3,c3,A4,n4,c4,e,r1,r2,r3,r4⟩:=h2;have hs:(V'.setCell ⟨g,0,none⟩ v').heap.size=V'.heap.size:=by simp[World.setCell]
  rw[hs];exact⟨A1,n1,c1,A2,n2,c2,A3,n3,c3,A4,n4,c4,e,r1.store aA aE _,r2.store aA aE _,r3.store aA aE _,r4.store aA aE _⟩
 have aD:V'.grownBy (V'.setCell ⟨g,0,none⟩ v') (some g):=⟨rfl,rfl,rfl,by simp[World.setCell],fun i _ hi=>Below.heap_setCell V' ⟨g,0,none⟩ v' i (fun e=>hi (by rw[e]))⟩;refine⟨⟨aF,?_,?_⟩,fun B' h1 h2 h3 => ?_⟩
 ·refine zc6.snoc h.kn.1 hx hks ha (keep _ _ _ hp) (ho.kept aD (.inr aI)) (fun u p q hu=>keep u p q (hu.later hbV))
 ·refine hf.kept (fun gk hk=>aD.block gk ?_ (fun e=>aI (hk.trans e)))
  obtain⟨aG,e,fr,h5,_⟩:=hf gk hk;exact(Array.getElem?_eq_some_iff.1 h5).1
 ·refine⟨?_,?_,?_,?_,?_⟩
  ·exact hg.os.trans hbV.os
  ·exact hg.tape.trans hbV.tape
  ·exact hg.output.trans hbV.output
  ·exact Nat.le_trans hbV.size (Nat.le_trans hg.size aD.size)
  ·intro i hi
   have e1:some i≠v.ownBlock:=fun e=>by
    rcases hx.2 with⟨rfl,_⟩ | ⟨g',aK,aG,rfl,hb,_⟩
    ·cases e
    ·injection e with e
     have e9:i=g':=e;omega
   rw[aD.block i (by have:=hbV.size;have:=hg.size;omega) (fun e=>by injection e with e;omega),hg.block i (by have:=hbV.size;omega) e1]
   exact hbV.block i (by omega)
end Go.Proofs.YtbkgkoenppkhpaaGreatDoor
