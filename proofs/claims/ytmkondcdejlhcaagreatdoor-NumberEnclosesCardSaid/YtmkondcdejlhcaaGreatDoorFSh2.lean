/- Contracts of the comparison that Shares sorts by. -/
import Derived.Test.YtmkondcdejlhcaaGreatDoorFCo8
set_option maxRecDepth 100000
set_option maxHeartbeats 4000000
namespace Go.Proofs.YtmkondcdejlhcaaGreatDoor
open Go.RowKit Bn
theorem zjM(x:Int)(w:World):Calls Tryz.prog 149 #[.int .i64 x] w fun e w'=>e = .returned (.bool false)∧w=w':=by
 go_enter Tryz.func149,Tryz.ntmps149
 go_wp2
 go_ret;exact⟨by simp,rfl⟩
def ordI (x y:Int):Int:=if x<y then -1 else if y<x then 1 else 0
theorem ziC(x y:Int)(w:World):Calls Tryz.prog 94 #[.int .i64 x,.int .i64 y] w fun e w'=>e = .returned (.int .i64 (ordI x y))∧w=w':=by
 have H1:=Aa (zjM x w);have H2:=Aa (zjM y w);obtain⟨z,hz⟩:∃ z,z=ordI x y:=⟨_,rfl⟩;rw[←hz];have HZ:=Aa hz;clear hz
 by_cases h1:x<y
 ·have d1:decide (x<y)=true:=decide_eq_true h1
  have e1:z = -1:=by rw[HZ.out];unfold ordI;rw[if_pos h1]
  subst e1;clear h1;go_enter Tryz.func94,Tryz.ntmps94
  go_wp2_with fail
  refine H1.out.mono ?_;rintro e w1 ⟨rfl,rfl⟩
  go_wp2_with fail
  refine H2.out.mono ?_;rintro e w1 ⟨rfl,rfl⟩
  go_wp2_with fail
  go_ret;exact⟨rfl,rfl⟩
 have d1:decide (x<y)=false:=decide_eq_false h1
 by_cases h2:y<x
 ·have d2:decide (y<x)=true:=decide_eq_true h2
  have e1:z=1:=by rw[HZ.out];unfold ordI;rw[if_neg h1,if_pos h2]
  subst e1;clear h1 h2;go_enter Tryz.func94,Tryz.ntmps94
  go_wp2_with fail
  refine H1.out.mono ?_;rintro e w1 ⟨rfl,rfl⟩
  go_wp2_with fail
  refine H2.out.mono ?_;rintro e w1 ⟨rfl,rfl⟩
  go_wp2_with fail
  go_ret;exact⟨rfl,rfl⟩
 ·have d2:decide (y<x)=false:=decide_eq_false h2
  have e1:z=0:=by rw[HZ.out];unfold ordI;rw[if_neg h1,if_neg h2]
  subst e1;clear h1 h2;go_enter Tryz.func94,Tryz.ntmps94
  go_wp2_with fail
  refine H1.out.mono ?_;rintro e w1 ⟨rfl,rfl⟩
  go_wp2_with fail
  refine H2.out.mono ?_;rintro e w1 ⟨rfl,rfl⟩
  go_wp2_with fail
  go_ret;exact⟨rfl,rfl⟩
theorem znq(g G n i j:Nat)(rs:List Nat)(w:World)(q:CBlk w g #[.slice (some ⟨G,0,none⟩) n n] 125)(h:w.ownsRow G 2 1 (.slice (some ⟨G,0,none⟩) n n) n (rs.map natv))(hi:i<n)(hj:j<n)(hn:n≤256) :
  Calls Tryz.prog 93 #[.int .i64 (i:Int),.int .i64 (j:Int),.pointer (some ⟨g,0,none⟩)] w fun e w'=>e = .returned (.int .i64 (ordI (rs.getD j 0:Nat) (rs.getD i 0:Nat)))∧∃ m,w'=w.drewN m:=by
 have hl:rs.length=n:=by have:=h.1;rw[List.length_map] at this;omega
 have y0:w.cell? ⟨g,0,none⟩=some (.slice (some ⟨G,0,none⟩) n n):=q.cell 0;have ci:w.cell? ⟨G,i,none⟩=some (.int .i64 ((rs.getD i 0:Nat):Int)):=by rw[World.ownsRow.cellAt h i (by omega)];simp[natv,hl,hi,List.getD]
 have cj:w.cell? ⟨G,j,none⟩=some (.int .i64 ((rs.getD j 0:Nat):Int)):=by rw[World.ownsRow.cellAt h j (by omega)];simp[natv,hl,hj,List.getD]
 generalize rs.getD i 0=ri at *;generalize rs.getD j 0=rj at *;have HC:=Aa (ziC (rj:Int) (ri:Int));clear q h hl;go_enter Tryz.func93,Tryz.ntmps93
 go_wp2_with fail
 go_quiet ((go_at_call 94;first | exact zbQ (HC.out _) | exact zcw (HC.out _)))
 go_wp2_with fail
 go_ret;exact⟨rfl,_,rfl⟩
theorem zi6(args:Array Value)(w:World):(callFunc 93 args).run Tryz.prog w = .ok (.enter 93 args) w:=by kernel_rfl
def Oth (G:Nat) (w W:World):Prop:=∀ i,i≠G→W.heap[i]? = w.heap[i]?
theorem zg5{w w':World}{base g n c size:Nat}{e:TypeId}{xs:List Value}(h:w.ownsRow base e size (.slice (some ⟨g,0,none⟩) n c) n xs)(he:w'.heap[g]? = w.heap[g]?) :
  w'.ownsRow base e size (.slice (some ⟨g,0,none⟩) n c) n xs:=by
 obtain⟨h1,h2⟩:=h
 rcases h2 with⟨a,_⟩ | ⟨g',aC,aA,hv,hb,hh,h3⟩
 ·cases a
 ·have e2:g=g':=by injection hv with e1 _ _;injection e1 with e1;injection e1
  subst e2;exact⟨h1,.inr ⟨g,aC,aA,hv,hb,he.trans hh,h3⟩⟩
def sink (p:List Nat) (x:Nat) (rest:List Nat) (j:Nat):List Nat:=p.take j++x :: (p.drop j++rest)
theorem zhJ(p:List Nat)(x:Nat)(rest:List Nat)(j:Nat)(h:j+1≤p.length):sink p x rest (j+1)=p.take j++p[j] :: x :: (p.drop (j+1)++rest):=by
 unfold sink;rw[List.take_succ_eq_append_getElem (show j<p.length by omega),List.append_assoc];rfl
theorem zlB(p:List Nat)(x:Nat)(rest:List Nat)(j:Nat)(h:j+1≤p.length):(sink p x rest (j+1))[j+1]? = some x∧(sink p x rest (j+1))[j]? = some p[j]:=by
 rw[zhJ p x rest j h];have e:(p.take j).length=j:=by rw[List.length_take];omega
 constructor
 ·rw[List.getElem?_append_right (by omega),e];simp
 ·rw[List.getElem?_append_right (by omega),e];simp
theorem zmh(p:List Nat)(x:Nat)(rest:List Nat)(j:Nat)(h:j+1≤p.length):((sink p x rest (j+1)).set (j+1) p[j]).set j x=sink p x rest j:=by
 rw[zhJ p x rest j h];have e:(p.take j).length=j:=by rw[List.length_take];omega
 rw[List.set_append_right _ _ (by omega),e,Nat.add_sub_cancel_left,List.set_append_right _ _ (by omega),e,Nat.sub_self];unfold sink;rw[List.drop_eq_getElem_cons (show j<p.length by omega)];rfl
theorem zm8(p:List Nat)(x:Nat)(rest:List Nat):sink p x rest p.length=p++x :: rest:=by
 unfold sink;simp
theorem zjt(lt:Nat→Nat→Bool)(p:List Nat)(x:Nat)(rest:List Nat)(j:Nat)(hj:j≤p.length)(h1:∀ i (h:i<p.length),j≤i→lt x p[i]=true)(h2:∀ (h:0<j),lt x (p[j-1]'(by omega))=false) :
  sink p x rest j=Dl.insP lt p x++rest:=by
 unfold Dl.insP sink;rw[Dl.insK_is lt p x j hj h1 h2];simp
def pre (lt:Nat→Nat→Bool) (l:List Nat) (i:Nat):List Nat:=(l.take i).foldl (Dl.insP lt) []
theorem zjr(lt:Nat→Nat→Bool)(l:List Nat)(i:Nat):(pre lt l i).Perm (l.take i):=by
 have h:=Dl.foldl_perm lt (l.take i) []
 simpa[pre] using h
theorem zo0(lt:Nat→Nat→Bool)(l:List Nat)(i:Nat)(h:i≤l.length):(pre lt l i).length=i:=by
 rw[(zjr lt l i).length_eq,List.length_take];omega
theorem zoY(lt:Nat→Nat→Bool)(l:List Nat)(i y:Nat)(h:y ∈ pre lt l i):y ∈ l:=List.mem_of_mem_take ((zjr lt l i).mem_iff.1 h)
theorem znV (lt:Nat→Nat→Bool) (l:List Nat) (i:Nat) (h:i<l.length):pre lt l (i+1)=Dl.insP lt (pre lt l i) l[i]:=by
 unfold pre;rw[List.take_succ_eq_append_getElem h,List.foldl_append];rfl
theorem zpb(lt:Nat→Nat→Bool)(l:List Nat)(h:1≤l.length):pre lt l 1++l.drop 1=l:=by
 cases l with
 | nil=>simp at h
 | cons a t=>simp[pre,Dl.insP]
theorem zoV(lt:Nat→Nat→Bool)(l:List Nat):pre lt l l.length++l.drop l.length=Dl.sortP lt l:=by
 simp[pre,Dl.sortP]
theorem zl8(x y:Nat):decide (ordI (x:Int) (y:Int)<0)=decide (x<y):=by
 unfold ordI
 by_cases h:x<y
 ·have:(x:Int)<y:=by omega
  simp[h,this]
 ·have h1:¬ (x:Int)<y:=by omega
  by_cases h2:(y:Int)<x
  ·simp[h,h1,h2]
  ·simp[h,h1,h2]
theorem zhF(B G g R n c:Nat)(rs l:List Nat)(w:World)(hn1:1≤n)(hn:n≤256)(hGg:G≠g)(hGR:G≠R)
 (hown:w.ownsRow B 3 1 (.slice (some ⟨G,0,none⟩) n c) n (l.map natv))(q:CBlk w g #[.slice (some ⟨R,0,none⟩) n n] 125)(hr:w.ownsRow R 2 1 (.slice (some ⟨R,0,none⟩) n n) n (rs.map natv))
 (hl:∀ y ∈ l,y<n) :
  Calls Tryz.prog 183 #[.slice (some ⟨G,0,none⟩) n c,.int .i64 0,.int .i64 (n:Int),.func (.func 93) #[] #[.pointer (some ⟨g,0,none⟩)]] w fun e w'=>e = .returned (.tuple #[]) ∧
   w'.ownsRow B 3 1 (.slice (some ⟨G,0,none⟩) n c) n ((Dl.sortP (Dl.byKey (fun i=>rs.getD i 0)) l).map natv)∧Below G w w'∧Oth G w w':=by
 have aU:l.length=n:=by have:=hown.1;rw[List.length_map] at this;omega
 obtain⟨lt,aW⟩:∃ f,f=Dl.byKey (fun i=>rs.getD i 0):=⟨_,rfl⟩;rw[←aW];have bM:=Aa aW;have HL:=Aa hl;have aS:=Aa aU;have bH:=Aa hGg;have aZ:=Aa hGR;have bR:w.ownsRow B 3 1 (.slice (some ⟨G,0,none⟩) n c) n ((pre lt l 1++l.drop 1).map natv):=by rw[zpb lt l (by omega)];exact hown
 clear aW hl hown hGg hGR;have eg:=zi6;go_enter Tryz.func183,Tryz.ntmps183
 go_wp2_with fail
 go_loopg [8] n (fun m s W=>∃ i:Nat,1≤i∧i≤n∧s = .int .i64 i∧n-i≤m∧W.ownsRow B 3 1 (.slice (some ⟨G,0,none⟩) n c) n ((pre lt l i++l.drop i).map natv)∧CBlk W g #[.slice (some ⟨R,0,none⟩) n n] 125∧W.ownsRow R 2 1 (.slice (some ⟨R,0,none⟩) n n) n (rs.map natv)∧Below G w W∧Oth G w W)
 case atStart=>exact⟨1,by omega,hn1,by go_num,by omega,bR,q,hr,Below.refl _ _,fun _ _=>rfl⟩
 case round=>
  obtain⟨i,bV,hi,rfl,hm,hown,hq,aJ,aA,aD⟩:=hrel
  by_cases h0:i<n
  ·have aX:i<l.length:=by omega
   have bA:=zo0 lt l i (by omega);have aY:=znV lt l i aX;have aT:=fun y hy=>HL.out y (zoY lt l i y hy)
   have hx:=HL.out l[i] (List.getElem_mem aX);rw[List.drop_eq_getElem_cons aX] at hown;generalize l[i]=x at *;obtain⟨p,hp⟩:∃ p,p=pre lt l i:=⟨_,rfl⟩;rw[←hp] at bA aY aT hown;rw[←zm8,bA] at hown;clear hp;obtain⟨aE,aG⟩:∃ t,t=l.drop (i+1):=⟨_,rfl⟩;rw[←aG] at hown;have aM:=Aa aG;have bE:=Aa aY;have bN:=Aa aT;clear aG aY aT
   go_wp2_with fail
   go_loopg [9] (i+1) (fun m2 s W=>∃ j:Nat,j≤i∧s = .int .i64 j∧j<m2∧Hid (∀ (k:Nat) (h:k<p.length),j≤k→lt x p[k]=true)∧W.ownsRow B 3 1 (.slice (some ⟨G,0,none⟩) n c) n ((sink p x aE j).map natv)∧CBlk W g #[.slice (some ⟨R,0,none⟩) n n] 125∧W.ownsRow R 2 1 (.slice (some ⟨R,0,none⟩) n n) n (rs.map natv)∧Below G w W∧Oth G w W)
   case atStart=>exact⟨i,Nat.le_refl _,rfl,by omega,fun k h1 h2=>by omega,hown,hq,aJ,aA,aD⟩
   case round=>
    clear hown hq aJ aA aD;obtain⟨j,hj,rfl,bT,hk,hown,hq,aJ,aA,aD⟩:=hrel
    by_cases hj0:0<j
    ·obtain⟨j,rfl⟩:∃ j',j=j'+1:=⟨j-1,by omega⟩
     have bQ:j<p.length:=by omega
     have bC:=zmh p x aE j (by omega);obtain⟨g1,g2⟩:=zlB p x aE j (by omega);have c1:wr.cell? ⟨G,j+1,none⟩=some (.int .i64 (x:Int)):=by rw[World.ownsRow.cellAt hown (j+1) (by omega)];simp[natv,g1]
     have c2:wr.cell? ⟨G,j,none⟩=some (.int .i64 (p[j]:Int)):=by rw[World.ownsRow.cellAt hown j (by omega)];simp[natv,g2]
     have bK:=bN.out p[j] (List.getElem_mem bQ);have bI:=fun (h:lt x p[j]=false)=>zjt lt p x aE (j+1) (by omega) hk.out (fun _=>h)
     have bG:lt x p[j]=true→∀ (k:Nat) (h:k<p.length),j≤k→lt x p[k]=true:=fun h k bS bW=>by
      by_cases e:k=j
      ·subst e;exact h
      ·exact hk.out k bS (by omega)
     have aR:=Aa bI;have aV:=Aa bG;have aQ:lt x p[j]=decide (rs.getD p[j] 0<rs.getD x 0):=by rw[bM.out];rfl
     have bP:=Aa bC;have G1:=Aa g1;have G2:=Aa g2;clear g1 g2 bI bG hk bC;generalize p[j]=y at *;have HC:=Aa (fun k=>znq g R n x y rs (wr.drewN k) hq aJ hx bK hn);have bU:(j:Int)+1≤n:=by omega
     have bX:j+1<n:=by omega
     generalize rs.getD y 0=ry at *;generalize rs.getD x 0=rx at *
     by_cases hlt2:ry<rx
     ·have d:decide (ordI (ry:Int) (rx:Int)<0)=true:=by rw[zl8];exact decide_eq_true hlt2
      have bJ:=Aa (aV.out (by rw[aQ];exact decide_eq_true hlt2));clear aQ hlt2 aR aV hj0
      go_wp2_with fail
      go_quiet ((go_at_fn 93;first | exact zfY (HC.out _) | exact zgb (HC.out _)))
      have aC:(wr.drewN nq).ownsRow B 3 1 (.slice (some ⟨G,0,none⟩) n c) n ((sink p x aE (j+1)).map natv):=hown;have bD:CBlk (wr.drewN nq) g #[.slice (some ⟨R,0,none⟩) n n] 125:=hq;have aO:(wr.drewN nq).ownsRow R 2 1 (.slice (some ⟨R,0,none⟩) n n) n (rs.map natv):=aJ;have aK:Oth G w (wr.drewN nq):=aD;have aL:Below G w (wr.drewN nq):=zac aA _;clear HC hown hq aJ aA aD c1 c2;generalize wr.drewN nq=wq at *;have c1:wq.cell? ⟨G,j+1,none⟩=some (.int .i64 (x:Int)):=by rw[World.ownsRow.cellAt aC (j+1) (by omega)];simp[natv,G1.out]
      have c2:wq.cell? ⟨G,j,none⟩=some (.int .i64 (y:Int)):=by rw[World.ownsRow.cellAt aC j (by omega)];simp[natv,G2.out]
      have f1:=zbG aC (j+1);have aP:=zdm aC (j+1) (natv y);have bB:=zdm aP j (natv x);rw[←List.map_set,←List.map_set,bP.out] at bB;obtain⟨v1,cs⟩:=zdS aP j (by omega);have fs:=zbG aP j;have bF:=(bD.setFar (i:=j+1) bH.out (natv y)).setFar (i:=j) bH.out (natv x);have aN:=ownsRow_setCell_other (ownsRow_setCell_other aO (a:=⟨G,j+1,none⟩) (by simp only[Value.ownBlock];exact fun e=>aZ.out (Option.some.inj e).symm) (natv y)) (a:=⟨G,j,none⟩) (by simp only[Value.ownBlock];exact fun e=>aZ.out (Option.some.inj e).symm) (natv x);have aI:=(aL.setCell (p:=⟨G,j+1,none⟩) (Nat.le_refl _) (natv y)).setCell (p:=⟨G,j,none⟩) (Nat.le_refl _) (natv x);have aH:Oth G w ((wq.setCell ⟨G,j+1,none⟩ (natv y)).setCell ⟨G,j,none⟩ (natv x)):=fun i hi=>(Below.heap_setCell _ _ _ i hi).trans ((Below.heap_setCell _ _ _ i hi).trans (aK i hi))
      have bO:=fun (W:World) (a:Addr) (m:_)=>run_store Tryz.prog W a (.int .i64 (x:Int)) m rfl
      have bL:=fun (W:World) (a:Addr) (m:_)=>run_store Tryz.prog W a (.int .i64 (y:Int)) m rfl
      unfold natv at cs fs bF aN aI aH;clear aP aC bD aO aL aK
      go_wp2_with fail
      go_region
      go_wp2_with fail
      go_roundg (j+1)
      case measure=>omega
      case rel=>exact⟨j,by omega,by go_num,Nat.lt_succ_self _,bJ,bB.drew,by exact bF,by exact aN,aI.drew,aH⟩
     ·have d:decide (ordI (ry:Int) (rx:Int)<0)=false:=by rw[zl8];exact decide_eq_false hlt2
      have aF:=aR.out (by rw[aQ];exact decide_eq_false hlt2);rw[aF,←bE.out,aM.out] at hown;clear aF aR aV aQ hlt2 hj0
      go_wp2_with fail
      go_quiet ((go_at_fn 93;first | exact zfY (HC.out _) | exact zgb (HC.out _)))
      go_wp2_with fail
      go_roundg (n-(i+1))
      case measure=>omega
      case rel=>exact⟨i+1,by omega,by omega,by go_num,Nat.le_refl _,by exact hown,by exact hq,by exact aJ,zac aA _,aD⟩
    ·obtain rfl:j=0:=by omega
     have aF:=zjt lt p x aE 0 (by omega) hk.out (fun h=>absurd h (by omega));rw[aF,←bE.out,aM.out] at hown;clear aF hk hj0
     go_wp2_with fail
     go_quiet (fail)
     go_wp2_with fail
     go_roundg (n-(i+1))
     case measure=>omega
     case rel=>exact⟨i+1,by omega,by omega,by go_num,Nat.le_refl _,by exact hown,by exact hq,by exact aJ,zac aA _,aD⟩
  ·obtain rfl:n=i:=by omega
   have e:pre lt l n++l.drop n=Dl.sortP lt l:=by rw[←aS.out];exact zoV lt l
   rw[e] at hown;clear e;go_wp2
   go_end0
   exact⟨rfl,hown,aA,aD⟩
theorem zl3(B G g R n c:Nat)(rs l:List Nat)(w:World)(hn1:1≤n)(hn:n≤19)(hGg:G≠g)(hGR:G≠R)
 (hown:w.ownsRow B 3 1 (.slice (some ⟨G,0,none⟩) n c) n (l.map natv))(q:CBlk w g #[.slice (some ⟨R,0,none⟩) n n] 125)(hr:w.ownsRow R 2 1 (.slice (some ⟨R,0,none⟩) n n) n (rs.map natv))
 (hl:∀ y ∈ l,y<n) :
  Calls Tryz.prog 148 #[.slice (some ⟨G,0,none⟩) n c,.int .i64 (n:Int),.func (.func 93) #[] #[.pointer (some ⟨g,0,none⟩)]] w fun e w'=>e = .returned (.tuple #[]) ∧
   w'.ownsRow B 3 1 (.slice (some ⟨G,0,none⟩) n c) n ((Dl.sortP (Dl.byKey (fun i=>rs.getD i 0)) l).map natv)∧Below G w w'∧Oth G w w':=by
 have HC:=Aa (zhF B G g R n c rs l w hn1 (by omega) hGg hGR hown q hr hl);have d1:decide ((20:Int)≤(n:Int))=false:=decide_eq_false (by omega);have d2:decide ((20:Int)<(n:Int))=false:=decide_eq_false (by omega);clear hown q hr hl hn1 hGg hGR;go_enter Tryz.func148,Tryz.ntmps148
 go_wp2_with fail
 go_loopg [7,8] 0 (fun m s t W=>s = .int .i64 0∧t = .int .i64 20∧W=w)
 case atStart=>exact⟨rfl,rfl,rfl⟩
 case round=>
  obtain⟨rfl,rfl,rfl⟩:=hrel
  go_wp2_with fail
  refine HC.out.mono ?_;rintro e w1 ⟨rfl,h1,h2,h3⟩
  go_wp2_with fail
  go_loopg [6] 0 (fun m s W=>s = .int .i64 20∧W=w1)
  case atStart=>exact⟨rfl,rfl⟩
  case round=>
   obtain⟨rfl,rfl⟩:=hrel
   go_wp2_with fail
   go_end0
   exact⟨rfl,h1,h2,h3⟩
theorem zg7(B G g R n c:Nat)(rs l:List Nat)(w:World)(hn1:1≤n)(hn:n≤19)(hGg:G≠g)(hGR:G≠R)
 (hown:w.ownsRow B 3 1 (.slice (some ⟨G,0,none⟩) n c) n (l.map natv))(q:CBlk w g #[.slice (some ⟨R,0,none⟩) n n] 125)(hr:w.ownsRow R 2 1 (.slice (some ⟨R,0,none⟩) n n) n (rs.map natv))
 (hl:∀ y ∈ l,y<n) :
  Calls Tryz.prog 92 #[.slice (some ⟨G,0,none⟩) n c,.func (.func 93) #[] #[.pointer (some ⟨g,0,none⟩)]] w fun e w'=>e = .returned (.tuple #[]) ∧
   w'.ownsRow B 3 1 (.slice (some ⟨G,0,none⟩) n c) n ((Dl.sortP (Dl.byKey (fun i=>rs.getD i 0)) l).map natv)∧Below G w w'∧Oth G w w':=by
 have HC:=Aa (zl3 B G g R n c rs l w hn1 hn hGg hGR hown q hr hl);clear hown q hr hl hn1 hGg hGR;go_enter Tryz.func92,Tryz.ntmps92
 go_wp2_with fail
 refine HC.out.mono ?_;rintro e w1 ⟨rfl,h1,h2,h3⟩
 go_wp2_with fail
 go_end0
 exact⟨rfl,h1,h2,h3⟩
end Go.Proofs.YtmkondcdejlhcaaGreatDoor
