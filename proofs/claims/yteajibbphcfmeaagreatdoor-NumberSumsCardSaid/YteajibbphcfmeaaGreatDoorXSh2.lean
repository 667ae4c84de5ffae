/- Contracts of the comparison that Shares sorts by. -/
import Derived.Test.YteajibbphcfmeaaGreatDoorXCo8
namespace Go.Proofs.YteajibbphcfmeaaGreatDoor
open Go.RowKit Bn
set_option maxRecDepth 100000 in
theorem ziU (x:Int) (w:World):Calls Tryz.prog 146 #[.int .i64 x] w fun e w'=>e = .returned (.bool false)∧w=w':=by
 go_enter Tryz.func146,Tryz.ntmps146
 go_wp2
 go_ret;exact ⟨by simp,rfl⟩
def ordI (x y:Int):Int:=if x<y then -1 else if y<x then 1 else 0
set_option maxHeartbeats 1000000 in
set_option maxRecDepth 100000 in
theorem zhR (x y:Int) (w:World):Calls Tryz.prog 92 #[.int .i64 x,.int .i64 y] w fun e w'=>e = .returned (.int .i64 (ordI x y))∧w=w':=by
 have H1:=Lib.hid (ziU x w);have H2:=Lib.hid (ziU y w);obtain ⟨z,hz⟩:∃ z,z=ordI x y:=⟨_,rfl⟩;rw [←hz];have HZ:=Lib.hid hz;clear hz
 by_cases h1:x<y
 ·have d1:decide (x<y)=true:=decide_eq_true h1
  have e1:z = -1:=by rw [HZ.out];unfold ordI;rw [if_pos h1]
  subst e1;clear h1;go_enter Tryz.func92,Tryz.ntmps92
  go_wp2_with fail
  refine H1.out.mono ?_;rintro e w1 ⟨rfl,rfl⟩
  go_wp2_with fail
  refine H2.out.mono ?_;rintro e w1 ⟨rfl,rfl⟩
  go_wp2_with fail
  go_ret;exact ⟨rfl,rfl⟩
 have d1:decide (x<y)=false:=decide_eq_false h1
 by_cases h2:y<x
 ·have d2:decide (y<x)=true:=decide_eq_true h2
  have e1:z=1:=by rw [HZ.out];unfold ordI;rw [if_neg h1,if_pos h2]
  subst e1;clear h1 h2;go_enter Tryz.func92,Tryz.ntmps92
  go_wp2_with fail
  refine H1.out.mono ?_;rintro e w1 ⟨rfl,rfl⟩
  go_wp2_with fail
  refine H2.out.mono ?_;rintro e w1 ⟨rfl,rfl⟩
  go_wp2_with fail
  go_ret;exact ⟨rfl,rfl⟩
 ·have d2:decide (y<x)=false:=decide_eq_false h2
  have e1:z=0:=by rw [HZ.out];unfold ordI;rw [if_neg h1,if_neg h2]
  subst e1;clear h1 h2;go_enter Tryz.func92,Tryz.ntmps92
  go_wp2_with fail
  refine H1.out.mono ?_;rintro e w1 ⟨rfl,rfl⟩
  go_wp2_with fail
  refine H2.out.mono ?_;rintro e w1 ⟨rfl,rfl⟩
  go_wp2_with fail
  go_ret;exact ⟨rfl,rfl⟩
set_option maxHeartbeats 1000000 in
set_option maxRecDepth 100000 in
theorem znl (g G n i j:Nat) (rs:List Nat) (w:World) (q:CBlk w g #[.slice (some ⟨G,0,none⟩) n n] 113) (h:w.ownsRow G 2 1 (.slice (some ⟨G,0,none⟩) n n) n (rs.map natv)) (hi:i<n) (hj:j<n) (hn:n≤256) :
  Calls Tryz.prog 91 #[.int .i64 (i:Int),.int .i64 (j:Int),.pointer (some ⟨g,0,none⟩)] w fun e w'=>e = .returned (.int .i64 (ordI (rs.getD j 0:Nat) (rs.getD i 0:Nat)))∧∃ m,w'=w.drewN m:=by
 have hl:rs.length=n:=by have:=h.1;rw [List.length_map] at this;omega
 have y0:w.cell? ⟨g,0,none⟩=some (.slice (some ⟨G,0,none⟩) n n):=q.cell 0;have ci:w.cell? ⟨G,i,none⟩=some (.int .i64 ((rs.getD i 0:Nat):Int)):=by rw [World.ownsRow.cellAt h i (by omega)];simp [natv,hl,hi,List.getD]
 have cj:w.cell? ⟨G,j,none⟩=some (.int .i64 ((rs.getD j 0:Nat):Int)):=by rw [World.ownsRow.cellAt h j (by omega)];simp [natv,hl,hj,List.getD]
 generalize rs.getD i 0=ri at *;generalize rs.getD j 0=rj at *;have HC:=Lib.hid (zhR (rj:Int) (ri:Int));clear q h hl;go_enter Tryz.func91,Tryz.ntmps91
 go_wp2_with fail
 go_quiet ((go_at_call 92;first | exact zbA (HC.out _) | exact zch (HC.out _)))
 go_wp2_with fail
 go_ret;exact ⟨rfl,_,rfl⟩
theorem zhV (args:Array Value) (w:World):(callFunc 91 args).run Tryz.prog w = .ok (.enter 91 args) w:=by kernel_rfl
def Oth (G:Nat) (w W:World):Prop:=∀ i,i≠G→W.heap[i]? = w.heap[i]?
theorem zgt {w w':World} {base g n c size:Nat} {e:TypeId} {xs:List Value} (h:w.ownsRow base e size (.slice (some ⟨g,0,none⟩) n c) n xs) (he:w'.heap[g]? = w.heap[g]?) :
  w'.ownsRow base e size (.slice (some ⟨g,0,none⟩) n c) n xs:=by
 obtain ⟨h1,h2⟩:=h
 rcases h2 with ⟨a,_⟩ | ⟨g',aA,aC,hv,hb,hh,h3⟩
 ·cases a
 ·have e2:g=g':=by injection hv with e1 _ _;injection e1 with e1;injection e1
  subst e2;exact ⟨h1,.inr ⟨g,aA,aC,hv,hb,he.trans hh,h3⟩⟩
def sink (p:List Nat) (x:Nat) (rest:List Nat) (j:Nat):List Nat:=p.take j++x :: (p.drop j++rest)
theorem zhe (p:List Nat) (x:Nat) (rest:List Nat) (j:Nat) (h:j+1≤p.length):sink p x rest (j+1)=p.take j++p[j] :: x :: (p.drop (j+1)++rest):=by
 unfold sink;rw [List.take_succ_eq_append_getElem (show j<p.length by omega),List.append_assoc];rfl
theorem zlZ (p:List Nat) (x:Nat) (rest:List Nat) (j:Nat) (h:j+1≤p.length):(sink p x rest (j+1))[j+1]? = some x∧(sink p x rest (j+1))[j]? = some p[j]:=by
 rw [zhe p x rest j h];have e:(p.take j).length=j:=by rw [List.length_take];omega
 constructor
 ·rw [List.getElem?_append_right (by omega),e];simp
 ·rw [List.getElem?_append_right (by omega),e];simp
theorem zlN (p:List Nat) (x:Nat) (rest:List Nat) (j:Nat) (h:j+1≤p.length):((sink p x rest (j+1)).set (j+1) p[j]).set j x=sink p x rest j:=by
 rw [zhe p x rest j h];have e:(p.take j).length=j:=by rw [List.length_take];omega
 rw [List.set_append_right _ _ (by omega),e,Nat.add_sub_cancel_left,List.set_append_right _ _ (by omega),e,Nat.sub_self];unfold sink;rw [List.drop_eq_getElem_cons (show j<p.length by omega)];rfl
theorem zmI (p:List Nat) (x:Nat) (rest:List Nat):sink p x rest p.length=p++x :: rest:=by
 unfold sink;simp
theorem ziS (lt:Nat→Nat→Bool) (p:List Nat) (x:Nat) (rest:List Nat) (j:Nat) (hj:j≤p.length) (h1:∀ i (h:i<p.length),j≤i→lt x p[i]=true) (h2:∀ (h:0<j),lt x (p[j - 1]'(by omega))=false) :
  sink p x rest j=Dl.insP lt p x++rest:=by
 unfold Dl.insP sink;rw [Dl.insK_is lt p x j hj h1 h2];simp
def pre (lt:Nat→Nat→Bool) (l:List Nat) (i:Nat):List Nat:=(l.take i).foldl (Dl.insP lt) []
theorem ziQ (lt:Nat→Nat→Bool) (l:List Nat) (i:Nat):(pre lt l i).Perm (l.take i):=by
 have h:=Dl.foldl_perm lt (l.take i) []
 simpa [pre] using h
theorem zov (lt:Nat→Nat→Bool) (l:List Nat) (i:Nat) (h:i≤l.length):(pre lt l i).length=i:=by
 rw [(ziQ lt l i).length_eq,List.length_take];omega
theorem zoi (lt:Nat→Nat→Bool) (l:List Nat) (i y:Nat) (h:y ∈ pre lt l i):y ∈ l:=List.mem_of_mem_take ((ziQ lt l i).mem_iff.1 h)
theorem zmF (lt:Nat→Nat→Bool) (l:List Nat) (i:Nat) (h:i<l.length):pre lt l (i+1)=Dl.insP lt (pre lt l i) l[i]:=by
 unfold pre;rw [List.take_succ_eq_append_getElem h,List.foldl_append];rfl
theorem znV (lt:Nat→Nat→Bool) (l:List Nat) (h:1≤l.length):pre lt l 1++l.drop 1=l:=by
 cases l with
 | nil=>simp at h
 | cons a t=>simp [pre,Dl.insP]
theorem znT (lt:Nat→Nat→Bool) (l:List Nat):pre lt l l.length++l.drop l.length=Dl.sortP lt l:=by
 simp [pre,Dl.sortP]
theorem zki (x y:Nat):decide (ordI (x:Int) (y:Int)<0)=decide (x<y):=by
 unfold ordI
 by_cases h:x<y
 ·have:(x:Int)<y:=by omega
  simp [h,this]
 ·have h1:¬ (x:Int)<y:=by omega
  by_cases h2:(y:Int)<x
  ·simp [h,h1,h2]
  ·simp [h,h1,h2]
set_option maxHeartbeats 4000000 in
set_option maxRecDepth 100000 in
theorem zhz (B G g R n c:Nat) (rs l:List Nat) (w:World) (hn1:1≤n) (hn:n≤256) (hGg:G≠g) (hGR:G≠R)
  (hown:w.ownsRow B 3 1 (.slice (some ⟨G,0,none⟩) n c) n (l.map natv)) (q:CBlk w g #[.slice (some ⟨R,0,none⟩) n n] 113) (hr:w.ownsRow R 2 1 (.slice (some ⟨R,0,none⟩) n n) n (rs.map natv))
  (hl:∀ y ∈ l,y<n) :
  Calls Tryz.prog 186 #[.slice (some ⟨G,0,none⟩) n c,.int .i64 0,.int .i64 (n:Int),.func (.func 91) #[] #[.pointer (some ⟨g,0,none⟩)]] w fun e w'=>e = .returned (.tuple #[]) ∧
   w'.ownsRow B 3 1 (.slice (some ⟨G,0,none⟩) n c) n ((Dl.sortP (Dl.byKey (fun i=>rs.getD i 0)) l).map natv)∧Below G w w'∧Oth G w w':=by
 have aT:l.length=n:=by have:=hown.1;rw [List.length_map] at this;omega
 obtain ⟨lt,aW⟩:∃ f,f=Dl.byKey (fun i=>rs.getD i 0):=⟨_,rfl⟩;rw [←aW];have bS:=Lib.hid aW;have HL:=Lib.hid hl;have aU:=Lib.hid aT;have bG:=Lib.hid hGg;have bC:=Lib.hid hGR;have bQ:w.ownsRow B 3 1 (.slice (some ⟨G,0,none⟩) n c) n ((pre lt l 1++l.drop 1).map natv):=by rw [znV lt l (by omega)];exact hown
 clear aW hl hown hGg hGR;have eg:=zhV;go_enter Tryz.func186,Tryz.ntmps186
 go_wp2_with fail
 go_loopg [8] n (fun m s W=>∃ i:Nat,1≤i∧i≤n∧s = .int .i64 i∧n - i≤m∧W.ownsRow B 3 1 (.slice (some ⟨G,0,none⟩) n c) n ((pre lt l i++l.drop i).map natv)∧CBlk W g #[.slice (some ⟨R,0,none⟩) n n] 113∧W.ownsRow R 2 1 (.slice (some ⟨R,0,none⟩) n n) n (rs.map natv)∧Below G w W∧Oth G w W)
 case atStart=>exact ⟨1,by omega,hn1,by go_num,by omega,bQ,q,hr,Below.refl _ _,fun _ _=>rfl⟩
 case round=>
  obtain ⟨i,bU,hi,rfl,hm,hown,hq,aH,aC,aA⟩:=hrel
  by_cases h0:i<n
  ·have aY:i<l.length:=by omega
   have bF:=zov lt l i (by omega);have aS:=zmF lt l i aY;have aV:=fun y hy=>HL.out y (zoi lt l i y hy)
   have hx:=HL.out l[i] (List.getElem_mem aY);rw [List.drop_eq_getElem_cons aY] at hown;generalize l[i]=x at *;obtain ⟨p,hp⟩:∃ p,p=pre lt l i:=⟨_,rfl⟩;rw [←hp] at bF aS aV hown;rw [←zmI,bF] at hown;clear hp;obtain ⟨aE,aG⟩:∃ t,t=l.drop (i+1):=⟨_,rfl⟩;rw [←aG] at hown;have aK:=Lib.hid aG;have aZ:=Lib.hid aS;have bR:=Lib.hid aV;clear aG aS aV
   go_wp2_with fail
   go_loopg [9] (i+1) (fun m2 s W=>∃ j:Nat,j≤i∧s = .int .i64 j∧j<m2∧Hid (∀ (k:Nat) (h:k<p.length),j≤k→lt x p[k]=true)∧W.ownsRow B 3 1 (.slice (some ⟨G,0,none⟩) n c) n ((sink p x aE j).map natv)∧CBlk W g #[.slice (some ⟨R,0,none⟩) n n] 113∧W.ownsRow R 2 1 (.slice (some ⟨R,0,none⟩) n n) n (rs.map natv)∧Below G w W∧Oth G w W)
   case atStart=>exact ⟨i,Nat.le_refl _,rfl,by omega,fun k h1 h2=>by omega,hown,hq,aH,aC,aA⟩
   case round=>
    clear hown hq aH aC aA;obtain ⟨j,hj,rfl,bV,hk,hown,hq,aH,aC,aA⟩:=hrel
    by_cases hj0:0<j
    ·obtain ⟨j,rfl⟩:∃ j',j=j'+1:=⟨j - 1,by omega⟩
     have bL:j<p.length:=by omega
     have bI:=zlN p x aE j (by omega);obtain ⟨g1,g2⟩:=zlZ p x aE j (by omega);have c1:wr.cell? ⟨G,j+1,none⟩=some (.int .i64 (x:Int)):=by rw [World.ownsRow.cellAt hown (j+1) (by omega)];simp [natv,g1]
     have c2:wr.cell? ⟨G,j,none⟩=some (.int .i64 (p[j]:Int)):=by rw [World.ownsRow.cellAt hown j (by omega)];simp [natv,g2]
     have bJ:=bR.out p[j] (List.getElem_mem bL);have bH:=fun (h:lt x p[j]=false)=>ziS lt p x aE (j+1) (by omega) hk.out (fun _=>h)
     have bE:lt x p[j]=true→∀ (k:Nat) (h:k<p.length),j≤k→lt x p[k]=true:=fun h k bP bT=>by
      by_cases e:k=j
      ·subst e;exact h
      ·exact hk.out k bP (by omega)
     have aX:=Lib.hid bH;have aR:=Lib.hid bE;have aQ:lt x p[j]=decide (rs.getD p[j] 0<rs.getD x 0):=by rw [bS.out];rfl
     have bK:=Lib.hid bI;have G1:=Lib.hid g1;have G2:=Lib.hid g2;clear g1 g2 bH bE hk bI;generalize p[j]=y at *;have HC:=Lib.hid (fun k=>znl g R n x y rs (wr.drewN k) hq aH hx bJ hn);have bX:(j:Int)+1≤n:=by omega
     have bW:j+1<n:=by omega
     generalize rs.getD y 0=ry at *;generalize rs.getD x 0=rx at *
     by_cases hlt2:ry<rx
     ·have d:decide (ordI (ry:Int) (rx:Int)<0)=true:=by rw [zki];exact decide_eq_true hlt2
      have bM:=Lib.hid (aR.out (by rw [aQ];exact decide_eq_true hlt2));clear aQ hlt2 aX aR hj0
      go_wp2_with fail
      go_quiet ((go_at_fn 91;first | exact ze3 (HC.out _) | exact ze6 (HC.out _)))
      have aD:(wr.drewN nq).ownsRow B 3 1 (.slice (some ⟨G,0,none⟩) n c) n ((sink p x aE (j+1)).map natv):=hown;have bA:CBlk (wr.drewN nq) g #[.slice (some ⟨R,0,none⟩) n n] 113:=hq;have aN:(wr.drewN nq).ownsRow R 2 1 (.slice (some ⟨R,0,none⟩) n n) n (rs.map natv):=aH;have aL:Oth G w (wr.drewN nq):=aA;have aM:Below G w (wr.drewN nq):=zad aC _;clear HC hown hq aH aC aA c1 c2;generalize wr.drewN nq=wq at *;have c1:wq.cell? ⟨G,j+1,none⟩=some (.int .i64 (x:Int)):=by rw [World.ownsRow.cellAt aD (j+1) (by omega)];simp [natv,G1.out]
      have c2:wq.cell? ⟨G,j,none⟩=some (.int .i64 (y:Int)):=by rw [World.ownsRow.cellAt aD j (by omega)];simp [natv,G2.out]
      have f1:=zbx aD (j+1);have aP:=zdd aD (j+1) (natv y);have bD:=zdd aP j (natv x);rw [←List.map_set,←List.map_set,bK.out] at bD;obtain ⟨v1,cs⟩:=zdH aP j (by omega);have fs:=zbx aP j;have bB:=(bA.setFar (i:=j+1) bG.out (natv y)).setFar (i:=j) bG.out (natv x);have aO:=ownsRow_setCell_other (ownsRow_setCell_other aN (a:=⟨G,j+1,none⟩) (by simp only [Value.ownBlock];exact fun e=>bC.out (Option.some.inj e).symm) (natv y)) (a:=⟨G,j,none⟩) (by simp only [Value.ownBlock];exact fun e=>bC.out (Option.some.inj e).symm) (natv x);have aJ:=(aM.setCell (p:=⟨G,j+1,none⟩) (Nat.le_refl _) (natv y)).setCell (p:=⟨G,j,none⟩) (Nat.le_refl _) (natv x);have aI:Oth G w ((wq.setCell ⟨G,j+1,none⟩ (natv y)).setCell ⟨G,j,none⟩ (natv x)):=fun i hi=>(Below.heap_setCell _ _ _ i hi).trans ((Below.heap_setCell _ _ _ i hi).trans (aL i hi))
      have bO:=fun (W:World) (a:Addr) (m:_)=>run_store Tryz.prog W a (.int .i64 (x:Int)) m rfl
      have bN:=fun (W:World) (a:Addr) (m:_)=>run_store Tryz.prog W a (.int .i64 (y:Int)) m rfl
      unfold natv at cs fs bB aO aJ aI;clear aP aD bA aN aM aL
      go_wp2_with fail
      go_region
      go_wp2_with fail
      go_roundg (j+1)
      case measure=>omega
      case rel=>exact ⟨j,by omega,by go_num,Nat.lt_succ_self _,bM,bD.drew,by exact bB,by exact aO,aJ.drew,aI⟩
     ·have d:decide (ordI (ry:Int) (rx:Int)<0)=false:=by rw [zki];exact decide_eq_false hlt2
      have aF:=aX.out (by rw [aQ];exact decide_eq_false hlt2);rw [aF,←aZ.out,aK.out] at hown;clear aF aX aR aQ hlt2 hj0
      go_wp2_with fail
      go_quiet ((go_at_fn 91;first | exact ze3 (HC.out _) | exact ze6 (HC.out _)))
      go_wp2_with fail
      go_roundg (n - (i+1))
      case measure=>omega
      case rel=>exact ⟨i+1,by omega,by omega,by go_num,Nat.le_refl _,by exact hown,by exact hq,by exact aH,zad aC _,aA⟩
    ·obtain rfl:j=0:=by omega
     have aF:=ziS lt p x aE 0 (by omega) hk.out (fun h=>absurd h (by omega));rw [aF,←aZ.out,aK.out] at hown;clear aF hk hj0
     go_wp2_with fail
     go_quiet (fail)
     go_wp2_with fail
     go_roundg (n - (i+1))
     case measure=>omega
     case rel=>exact ⟨i+1,by omega,by omega,by go_num,Nat.le_refl _,by exact hown,by exact hq,by exact aH,zad aC _,aA⟩
  ·obtain rfl:n=i:=by omega
   have e:pre lt l n++l.drop n=Dl.sortP lt l:=by rw [←aU.out];exact znT lt l
   rw [e] at hown;clear e;go_wp2
   go_end0
   exact ⟨rfl,hown,aC,aA⟩
set_option maxHeartbeats 1000000 in
set_option maxRecDepth 100000 in
theorem zk6 (B G g R n c:Nat) (rs l:List Nat) (w:World) (hn1:1≤n) (hn:n≤19) (hGg:G≠g) (hGR:G≠R)
  (hown:w.ownsRow B 3 1 (.slice (some ⟨G,0,none⟩) n c) n (l.map natv)) (q:CBlk w g #[.slice (some ⟨R,0,none⟩) n n] 113) (hr:w.ownsRow R 2 1 (.slice (some ⟨R,0,none⟩) n n) n (rs.map natv))
  (hl:∀ y ∈ l,y<n) :
  Calls Tryz.prog 145 #[.slice (some ⟨G,0,none⟩) n c,.int .i64 (n:Int),.func (.func 91) #[] #[.pointer (some ⟨g,0,none⟩)]] w fun e w'=>e = .returned (.tuple #[]) ∧
   w'.ownsRow B 3 1 (.slice (some ⟨G,0,none⟩) n c) n ((Dl.sortP (Dl.byKey (fun i=>rs.getD i 0)) l).map natv)∧Below G w w'∧Oth G w w':=by
 have HC:=Lib.hid (zhz B G g R n c rs l w hn1 (by omega) hGg hGR hown q hr hl);have d1:decide ((20:Int)≤(n:Int))=false:=decide_eq_false (by omega);have d2:decide ((20:Int)<(n:Int))=false:=decide_eq_false (by omega);clear hown q hr hl hn1 hGg hGR;go_enter Tryz.func145,Tryz.ntmps145
 go_wp2_with fail
 go_loopg [7,8] 0 (fun m s t W=>s = .int .i64 0∧t = .int .i64 20∧W=w)
 case atStart=>exact ⟨rfl,rfl,rfl⟩
 case round=>
  obtain ⟨rfl,rfl,rfl⟩:=hrel
  go_wp2_with fail
  refine HC.out.mono ?_;rintro e w1 ⟨rfl,h1,h2,h3⟩
  go_wp2_with fail
  go_loopg [6] 0 (fun m s W=>s = .int .i64 20∧W=w1)
  case atStart=>exact ⟨rfl,rfl⟩
  case round=>
   obtain ⟨rfl,rfl⟩:=hrel
   go_wp2_with fail
   go_end0
   exact ⟨rfl,h1,h2,h3⟩
set_option maxHeartbeats 1000000 in
set_option maxRecDepth 100000 in
theorem zgD (B G g R n c:Nat) (rs l:List Nat) (w:World) (hn1:1≤n) (hn:n≤19) (hGg:G≠g) (hGR:G≠R)
  (hown:w.ownsRow B 3 1 (.slice (some ⟨G,0,none⟩) n c) n (l.map natv)) (q:CBlk w g #[.slice (some ⟨R,0,none⟩) n n] 113) (hr:w.ownsRow R 2 1 (.slice (some ⟨R,0,none⟩) n n) n (rs.map natv))
  (hl:∀ y ∈ l,y<n) :
  Calls Tryz.prog 90 #[.slice (some ⟨G,0,none⟩) n c,.func (.func 91) #[] #[.pointer (some ⟨g,0,none⟩)]] w fun e w'=>e = .returned (.tuple #[]) ∧
   w'.ownsRow B 3 1 (.slice (some ⟨G,0,none⟩) n c) n ((Dl.sortP (Dl.byKey (fun i=>rs.getD i 0)) l).map natv)∧Below G w w'∧Oth G w w':=by
 have HC:=Lib.hid (zk6 B G g R n c rs l w hn1 hn hGg hGR hown q hr hl);clear hown q hr hl hn1 hGg hGR;go_enter Tryz.func90,Tryz.ntmps90
 go_wp2_with fail
 refine HC.out.mono ?_;rintro e w1 ⟨rfl,h1,h2,h3⟩
 go_wp2_with fail
 go_end0
 exact ⟨rfl,h1,h2,h3⟩
end Go.Proofs.YteajibbphcfmeaaGreatDoor
