/- TopBeamTables: appends of points as laws; a round's calls; the values at the end. -/
import Derived.Test.YtbkgkoenppkhpaaGreatDoorGTb3
import Derived.Laws.OwnMore
namespace Go.Proofs.YtbkgkoenppkhpaaGreatDoor
open Go.RowKit Bn Dn
theorem zfO (W:World) (B:Nat) (ty:TypeId) {v u:Value} {n m:Nat} {xs ys:List Value} (hv:W.ownsRow B 70 2 v n xs) (hu:W.ownsRow B 70 2 u m ys) (h1:∀ z ∈ ys,z.oneCell'=true) (hn:n+m≤1000) (hB:B≤W.heap.size) :
  ∃ v' w',(Builtin.append_ #[66,66] ty #[v,u]).run Tryz.prog W = .ok v' w'∧w'.ownsRow B 70 2 v' (n+m) (xs++ys)∧W.grownBy w' v.ownBlock∧(v'.ownBlock=v.ownBlock∨v'.ownBlock=some W.heap.size):=by
 obtain ⟨i,hi,hz,hs,hb⟩:=info_parts zid;have aA:=hu.2
 rcases aA with ⟨rfl,rfl⟩ | ⟨g,aC,aD,rfl,_⟩
 ·have hy:ys=[]:=List.eq_nil_of_length_eq_zero (by simpa using hu.1)
  subst hy;refine ⟨v,W,run_append_owned_none (P:=Tryz.prog) (w:=W) B 66 ty 70 i 2 Tryz.underlying66 hi v n xs hv,?_,⟨rfl,rfl,rfl,Nat.le_refl _,fun _ _ _=>rfl⟩,.inl rfl⟩;rw [List.append_nil];exact hv
 ·obtain ⟨v',w',hr,h2,h3,_,h5⟩:=run_append_own_at (P:=Tryz.prog) W B 66 ty 70 i _ 2 32 Tryz.underlying66 hi hz hs hb rfl (by decide) v n xs hv ⟨g,0,none⟩ m aC ys hu.1 (hu.cells rfl) h1 (by unfold maxLen;omega) (by omega) hB
  exact ⟨v',w',hr,h2,h3,h5⟩
theorem zfh {W:World} {ops:Array Oper} {rest:List Oper} {o:Oper} {a:Act} {Q:Exit→Act→World→Prop} (hgd:o.guard=none) (s x:Operand)
  (ho:o.op = .call { callee := .builtin .append,args:=#[s,x],argTypes:=#[66,66] }) (B:Nat) {v u:Value} {n m:Nat} {xs ys:List Value} (hs:a.eval s=v) (hv:W.ownsRow B 70 2 v n xs) (hx:a.eval x=u) (hu:W.ownsRow B 70 2 u m ys)
  (h1:∀ z ∈ ys,z.oneCell'=true) (hn:n+m≤1000) (hB:B≤W.heap.size)
  (h:∀ v' w',w'.ownsRow B 70 2 v' (n+m) (xs++ys)→W.grownBy w' v.ownBlock→(v'.ownBlock=v.ownBlock∨v'.ownBlock=some W.heap.size)→wpList Tryz.prog ops Q rest (a.put o.dst v') w') :
  wpList Tryz.prog ops Q (o :: rest) a W:=by
 refine wpList_plain hgd fun K hK => ?_
 obtain ⟨v',w',hr,h2,h3,h5⟩:=zfO W B o.type hv hu h1 hn hB;unfold Oper.wp execOp;simp only [ho,resolve,invoke,builtin,Sem.run_bind,Sem.run_pure,Result.andThen_ok,List.map_toArray,List.map_cons,List.map_nil,hs,hx,hr]
 exact hK _ _ (h v' w' h2 h3 h5)
theorem zff {W:World} {ops:Array Oper} {o:Oper} {a:Act} {K:Act→World→Prop} {Q:Exit→Act→World→Prop} {E:Prop} (hgd:o.guard=none) (s x:Operand)
  (ho:o.op = .call { callee := .builtin .append,args:=#[s,x],argTypes:=#[66,66] }) (B:Nat) {v u:Value} {n m:Nat} {xs ys:List Value} (hs:a.eval s=v) (hv:W.ownsRow B 70 2 v n xs) (hx:a.eval x=u) (hu:W.ownsRow B 70 2 u m ys)
  (h1:∀ z ∈ ys,z.oneCell'=true) (hn:n+m≤1000) (hB:B≤W.heap.size)
  (h:∀ v' w',w'.ownsRow B 70 2 v' (n+m) (xs++ys)→W.grownBy w' v.ownBlock→(v'.ownBlock=v.ownBlock∨v'.ownBlock=some W.heap.size)→K (a.put o.dst v') w') :
  if Region.wanted o (yielded ops a.tmps)=true then Oper.wp Tryz.prog o a W K Q else E:=by
 have hw:Region.wanted o (yielded ops a.tmps)=true:=by simp [Region.wanted,hgd]
 rw [if_pos hw];obtain ⟨v',w',hr,h2,h3,h5⟩:=zfO W B o.type hv hu h1 hn hB;unfold Oper.wp execOp;simp only [ho,resolve,invoke,builtin,Sem.run_bind,Sem.run_pure,Result.andThen_ok,List.map_toArray,List.map_cons,List.map_nil,hs,hx,hr]
 exact h v' w' h2 h3 h5
theorem ziQ (s t:ByteArray):∀ z ∈ [Value.string s,.string t],z.oneCell'=true:=by
 intro z hz;simp only [List.mem_cons,List.not_mem_nil,or_false] at hz
 rcases hz with rfl | rfl<;>rfl
theorem Three.front {w W W':World} {v1 v2 v3 v':Value} {M1 M2 M3:List (ByteArray × ByteArray)} {s t:ByteArray} (h:Three w W v1 v2 v3 M1 M2 M3)
  (ho:W'.ownsRow w.heap.size 70 2 v' (1+M3.length) ([.string s,.string t]++zeH M3)) (hg:(W.alloc (.cells #[.string s,.string t] 70)).grownBy W' (Value.slice (some ⟨W.heap.size,0,none⟩) 1 1).ownBlock)
  (hat:v'.ownBlock=(Value.slice (some ⟨W.heap.size,0,none⟩) 1 1).ownBlock∨v'.ownBlock=some (W.alloc (.cells #[.string s,.string t] 70)).heap.size):Three w W' v1 v2 v' M1 M2 ((s,t) :: M3):=by
 refine (h.later ((Below.refl _ _).alloc (Nat.le_refl _) _)).rep3 (u := .slice (some ⟨W.heap.size,0,none⟩) 1 1) (j:=W.heap.size) ?_ rfl h.hb.size hg ?_ ?_ hat
 ·unfold PRow
  rw [zeO,List.length_cons,Nat.add_comm];exact ho
 ·intro e;exact Nat.lt_irrefl _ (h.r1.lt _ e)
 ·intro e;exact Nat.lt_irrefl _ (h.r2.lt _ e)
theorem zk1 {v v':Value} {g h:Nat} (hv:v.ownBlock=some g→False) (hlt:g<h) (hat:v'.ownBlock=v.ownBlock∨v'.ownBlock=some h):v'.ownBlock=some g→False:=by
 rcases hat with e | e
 ·rw [e];exact hv
 ·rw [e];intro k;injection k with k;omega
theorem Three.vals {w W:World} {v1 v2 v3:Value} {M1 M2 M3:List (ByteArray × ByteArray)} (_:Three w W v1 v2 v3 M1 M2 M3):∃ a b c,a=v1∧b=v2∧c=v3:=⟨_,_,_,rfl,rfl,rfl⟩
theorem zl8 {w W:World} (hb:Below w.heap.size w W):Three w W (.slice none 0 0) (.slice none 0 0) (.slice none 0 0) [] [] []:=
 ⟨hb,PRow.nil _ _,PRow.nil _ _,PRow.nil _ _,.inl rfl,.inl rfl,.inl rfl⟩
theorem CBlk.p0 {W:World} {g:Nat} {x y:Value} {t:TypeId} (h:CBlk W g #[x,y] t):W.cell? ⟨g,0,none⟩=some x:=h.cell 0
theorem CBlk.p1 {W:World} {g:Nat} {x y:Value} {t:TypeId} (h:CBlk W g #[x,y] t):W.cell? ⟨g,1,none⟩=some y:=h.cell 1
theorem zaT (W:World) (o:Obj):Below W.heap.size W (W.alloc o):=(Below.refl _ _).alloc (Nat.le_refl _) o
def isIn (ks:List (Q × Q)) (x:Q) (k:Nat):Bool:=decide (0<k) && (decide (cmpI (ks.getD (k - 1) (m3,m3)).1 x<0) && decide (cmpI x (ks.getD k (m3,m3)).1<0))
theorem zfQ (ks:List (Q × Q)) (x:Q):isIn ks x 0=false:=rfl
theorem ziL {ks:List (Q × Q)} {x:Q} {k:Nat} (h:k<ks.length) (h0:0<k):isIn ks x k=(decide (cmpI (ks[k - 1]'(by omega)).1 x<0) && decide (cmpI x ks[k].1<0)):=by
 unfold isIn;rw [decide_eq_true h0,List.getD,List.getElem?_eq_getElem (by omega),List.getD,List.getElem?_eq_getElem h];rfl
theorem zjc {l:List (ByteArray × ByteArray)} {c:Nat→Bool} {pt:ByteArray × ByteArray}:∀ k,(insL l c pt k).length≤2*k
 | 0=>Nat.le_refl _
 | k+1=>by
  have ih:=zjc (l:=l) (c:=c) (pt:=pt) k;unfold insL
  split
  ·rw [List.length_append,List.length_append,List.length_singleton,List.length_singleton];omega
  ·rw [List.length_append,List.length_singleton];omega
theorem zkw (ks:List (Q × Q)) (c:Q) (k:Nat):(zcp ks c k).length≤k:=by
 unfold zcp;rw [List.length_map,List.length_take];omega
theorem zl0 (ks:List (Q × Q)) (k:Nat):(zeb ks k).length≤k:=by
 unfold zeb zdz;rw [List.length_map,List.length_reverse,List.length_map,List.length_take];omega
structure TabRound (l:List (ByteArray × ByteArray)) (x:Q) (k:Nat) (hk:k<l.length) (hq:k<(l.map rdP).length):Prop where
 g0:(h0:0<k)→zbC 39 #[.string (l[k - 1]'(by omega)).1,.string (txt x)] (.int .i64 (cmpI ((l.map rdP)[k - 1]'(by omega)).1 x))
 g1:zbC 39 #[.string (txt x),.string l[k].1] (.int .i64 (cmpI x (l.map rdP)[k].1))
 g2:zbC 48 #[.string ⟨#[45,51]⟩,.string l[k].2] (.string (txt (mulQ m3 (l.map rdP)[k].2)))
 g3:zbC 42 #[.string l[k].1] (.string (txt (negQ (l.map rdP)[k].1)))
 e1:l[k].1=txt (l.map rdP)[k].1
 e2:l[k].2=txt (l.map rdP)[k].2
theorem zkU {l:List (ByteArray × ByteArray)} (F:TabF l) {x:Q} (hx:LowQ x) (sx:Small x 30) {k:Nat} (hk:k<l.length) (hq:k<(l.map rdP).length):TabRound l x k hk hq:=by
 have hl:(l.map rdP).length=l.length:=by simp
 have T:=F.tab;have S:=F.small;obtain ⟨e1,e2⟩:=F.txt k hk hq;refine ⟨fun h0 => ?_,?_,?_,?_,e1,e2⟩
 ·rw [(F.txt (k - 1) (by omega) (by omega)).1]
  exact tCmp (T.low1 _ (by omega)) hx ((S (k - 1) (by omega)).1.more (show 6≤30 by omega)) sx (by omega) (by omega)
 ·rw [e1]
  exact tCmp hx (T.low1 k hq) sx ((S k hq).1.more (show 6≤30 by omega)) (by omega) (by omega)
 ·rw [e2,zeZ zew]
  exact tMul zew.2 (T.low2 k hq) (zfo.more (show 1≤6 by omega)) (S k hq).2 (by omega) (by omega)
 ·rw [e1]
  exact tNeg (T.low1 k hq) (S k hq).1 (by omega) (by omega)
structure TabStep (l:List (ByteArray × ByteArray)) (x:Q) (pt:ByteArray × ByteArray) (k:Nat) (X Y Z Ng:ByteArray):Prop where
 s1:insL l (isIn (l.map rdP) x) pt (k+1)=(if isIn (l.map rdP) x k then insL l (isIn (l.map rdP) x) pt k++[pt] else insL l (isIn (l.map rdP) x) pt k)++[(X,Y)]
 s2:zcp (l.map rdP) m3 (k+1)=zcp (l.map rdP) m3 k++[(X,Z)]
 s3:zeb (l.map rdP) (k+1)=(Ng,Y) :: zeb (l.map rdP) k
theorem zmX {l:List (ByteArray × ByteArray)} {x:Q} (pt:ByteArray × ByteArray) {k:Nat} {hk:k<l.length} {hq:k<(l.map rdP).length} (R:TabRound l x k hk hq):TabStep l x pt k l[k].1 l[k].2 (txt (mulQ m3 (l.map rdP)[k].2)) (txt (negQ (l.map rdP)[k].1)):=by
 refine ⟨?_,?_,?_⟩
 ·show (if _ then _ else _)++[l.getD k pt]=_
  rw [List.getD,List.getElem?_eq_getElem hk];rfl
 ·rw [ziH hq,R.e1]
 ·rw [zkj hq,R.e2]
theorem znC {ks:List (Q × Q)} (T:TabQ ks) {x:Q} (hx:LowQ x) {i:Nat} (hi:i+1<ks.length) (h1:cmpI (ks[i]'(by omega)).1 x<0) (h2:cmpI x ks[i+1].1<0):∀ k,k<ks.length→isIn ks x k=decide (k=i+1):=by
 intro k hk
 by_cases h0:0<k
 ·rw [ziL hk h0]
  by_cases e:k=i+1
  ·subst e
   simp only [Nat.add_sub_cancel]
   rw [decide_eq_true h1,decide_eq_true h2];rfl
  ·rw [decide_eq_false e]
   by_cases hlt:k≤i
   ·have:¬ cmpI x ks[k].1<0:=by
     intro hc
     by_cases e2:k=i
     ·subst e2
      rw [zbJ (T.low1 k hk).1 hx.1] at hc;omega
     ·have aA:=T.inc k i hk (by omega) (by omega)
      have h3:=zcY (T.low1 k hk).1 (T.low1 i (by omega)).1 hx.1 aA (Int.le_of_lt h1);rw [zbJ (T.low1 k hk).1 hx.1] at hc;omega
    rw [decide_eq_false this,Bool.and_false]
   ·have:¬ cmpI (ks[k - 1]'(by omega)).1 x<0:=by
     intro hc
     by_cases e2:k - 1=i+1
     ·simp only [e2] at hc
      rw [zbJ hx.1 (T.low1 (i+1) hi).1] at hc;omega
     ·have aA:=T.inc (i+1) (k - 1) hi (by omega) (by omega)
      have h3:=zcY hx.1 (T.low1 (i+1) hi).1 (T.low1 (k - 1) (by omega)).1 h2 (Int.le_of_lt aA);rw [zbJ hx.1 (T.low1 (k - 1) (by omega)).1] at hc;omega
    rw [decide_eq_false this,Bool.false_and]
 ·obtain rfl:k=0:=by omega
  rw [zfQ,decide_eq_false (by omega)]
theorem zk6 {ks:List (Q × Q)} (T:TabQ ks) {i:Nat} (hi:i<ks.length):∀ k,k<ks.length→isIn ks ks[i].1 k=false:=by
 intro k hk
 by_cases h0:0<k
 ·rw [ziL hk h0]
  by_cases hlt:k≤i
  ·have:¬ cmpI ks[i].1 ks[k].1<0:=by
    by_cases e:k=i
    ·subst e;rw [zgX (T.low1 k hk)];omega
    ·have:=T.inc k i hk hi (by omega)
     rw [zbJ (T.low1 k hk).1 (T.low1 i hi).1];omega
   rw [decide_eq_false this,Bool.and_false]
  ·have:¬ cmpI (ks[k - 1]'(by omega)).1 ks[i].1<0:=by
    by_cases e:k - 1=i
    ·simp only [e];rw [zgX (T.low1 i hi)];omega
    ·have:=T.inc i (k - 1) hi (by omega) (by omega)
     rw [zbJ (T.low1 i hi).1 (T.low1 (k - 1) (by omega)).1];omega
   rw [decide_eq_false this,Bool.false_and]
 ·obtain rfl:k=0:=by omega
  exact zfQ _ _
def zg7 (M:List (ByteArray × ByteArray)) (y u:ByteArray):Prop:=∀ (A:Option Addr) (c:Nat) (W:World),Tabs W→PtsR W W.heap.size A M.length M→Calls Tryz.prog 50 #[.slice A M.length c,.string y] W fun e w'=>e = .returned (.tuple #[.string u,.int .i64 0])∧Below W.heap.size W w'
theorem zmq {l:List (ByteArray × ByteArray)} (F:TabF l) (h2:2≤l.length) {x y v u:Q} (N:TabNum (l.map rdP) x y v u) :
  zg7 (insL l (isIn (l.map rdP) x) (txt x,txt v) l.length) (txt y) (txt u)∧zg7 (zcp (l.map rdP) m3 l.length) (txt y) (txt (mulQ m3 u))∧zg7 (zeb (l.map rdP) l.length) (txt (negQ y)) (txt u):=by
 have hl:(l.map rdP).length=l.length:=by simp
 have aD:=F.len;have T:=F.tab;have S:=F.small;have aA:l=(l.map rdP).map ptT:=by
  refine List.ext_getElem (by simp) (fun i h1 h2 => ?_);obtain ⟨a,b⟩:=F.txt i h1 (by simpa using h1);rw [List.getElem_map];exact Prod.ext a b
 generalize aF:l.map rdP=ks at *;obtain ⟨i,bi⟩:=N.bx;obtain ⟨j,bj⟩:=N.yb;have hi:=bi.hi;have sy:=N.sy.more (show 30≤100 by omega);have su:=N.su.more (show 80≤100 by omega);have T0:TabS ks 100:=⟨T,fun i h=>⟨(S i h).1.more (by omega),(S i h).2.more (by omega)⟩,by omega,by omega⟩;refine ⟨fun A c W hT hp => ?_,fun A c W hT hp => ?_,fun A c W hT hp => ?_⟩
 ·by_cases hm:cmpI (ks[i]'(by omega)).1 x<0∧cmpI x ks[i+1].1<0
  ·have e:insL l (isIn ks x) (txt x,txt v) l.length=(zel ks i (x,v)).map ptT:=by
    have g:=zlC (p:=(x,v)) hi (znC T N.lx hi hm.1 hm.2);rw [←aA,hl] at g;exact g
   rw [e] at hp ⊢;have aC:=zg1 (ks:=ks) (p:=(x,v)) hi;refine zeB (N:=100) ⟨zi6 T hi N.lx N.lv hm.1 hm.2,fun k hk => ?_,by omega,by omega⟩ (by omega) (by omega) N.ly sy (zjN T hi N.lx N.ly hm.1 hm.2 N.ev bj N.eu) N.lu su W hT hp;rw [zcE hi]
   split
   ·rw [zb0 (by omega)];exact T0.s k (by omega)
   ·split
    ·exact ⟨N.sx.more (by omega),N.sv.more (by omega)⟩
    ·rw [zb0 (by omega)];exact T0.s (k - 1) (by omega)
  ·have hx:∃ m,∃ hm:m<ks.length,x=ks[m].1:=by
    by_cases h1:cmpI (ks[i]'(by omega)).1 x=0
    ·exact ⟨i,by omega,(zdU (T.low1 i (by omega)) N.lx h1).symm⟩
    ·have:=bi.lo
     have:=bi.up;exact ⟨i+1,hi,zdU N.lx (T.low1 _ hi) (by omega)⟩
   obtain ⟨m,hm,aE⟩:=hx;have hf:∀ k,k<l.length→isIn ks x k=false:=fun k hk=>by rw [aE];exact zk6 T hm k (by omega)
   have e:insL l (isIn ks x) (txt x,txt v) l.length=ks.map ptT:=by
    rw [zhu hf l.length (Nat.le_refl _),List.take_length];exact aA
   rw [e] at hp ⊢;exact zeB T0 (by omega) (by omega) N.ly sy N.eu N.lu su W hT hp
 ·rw [←hl,zkm] at hp ⊢
  have aC:(zbE m3 ks).length=ks.length:=by simp [zbE]
  have hg:∀ k (hk:k<(zbE m3 ks).length),(zbE m3 ks)[k]=((ks[k]'(by omega)).1,mulQ m3 (ks[k]'(by omega)).2):=fun k hk=>by simp [zbE]
  refine zeB (N:=100) ⟨zhr T zew.2,fun k hk => ?_,by omega,by omega⟩ (by omega) (by omega) N.ly sy (ziz T zew.2 N.ly bj N.eu) (zbK _ _ zew.2.1 N.lu.1) ((zdB zfo N.su zew.2.1 N.lu.1).more (by omega)) W hT hp;rw [hg];exact ⟨(T0.s k (by omega)).1,(zdB zfo (S k (by omega)).2 zew.2.1 (T.low2 k (by omega)).1).more (by omega)⟩
 ·rw [←hl,zlQ] at hp ⊢
  have aC:(zdz ks).length=ks.length:=by simp [zdz]
  refine zeB (N:=100) ⟨zjB T,fun k hk => ?_,by omega,by omega⟩ (by omega) (by omega) (zeU N.ly) (zfX sy) (zj2 T N.ly bj N.eu) N.lu su W hT hp;rw [zde k hk (by omega)];exact ⟨zfX (T0.s _ (by omega)).1,(T0.s _ (by omega)).2⟩
end Go.Proofs.YtbkgkoenppkhpaaGreatDoor
