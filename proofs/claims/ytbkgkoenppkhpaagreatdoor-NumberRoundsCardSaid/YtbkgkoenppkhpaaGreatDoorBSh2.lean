/- Contracts of the comparison that Shares sorts by. -/
import Derived.Test.YtbkgkoenppkhpaaGreatDoorBCo8
set_option maxRecDepth 100000
set_option maxHeartbeats 4000000
namespace Go.Proofs.YtbkgkoenppkhpaaGreatDoor
open Go.RowKit Bn
theorem zkv(x:Int)(w:World):Calls Tryz.prog 178 #[.int .i64 x] w fun e w'=>e = .returned (.bool false)∧w=w':=by
 go_enter Tryz.func178,Tryz.ntmps178
 go_wp2
 go_ret;exact⟨by simp,rfl⟩
def ordI (x y:Int):Int:=if x<y then -1 else if y<x then 1 else 0
theorem zjz(x y:Int)(w:World):Calls Tryz.prog 122 #[.int .i64 x,.int .i64 y] w fun e w'=>e = .returned (.int .i64 (ordI x y))∧w=w':=by
 have H1:=Aa (zkv x w);have H2:=Aa (zkv y w);obtain⟨z,hz⟩:∃ z,z=ordI x y:=⟨_,rfl⟩;rw[←hz];have HZ:=Aa hz;clear hz
 by_cases h1:x<y
 ·have d1:decide (x<y)=true:=decide_eq_true h1
  have e1:z = -1:=by rw[HZ.out];unfold ordI;rw[if_pos h1]
  subst e1;clear h1;go_enter Tryz.func122,Tryz.ntmps122
  go_wp2_with fail
  refine H1.out.mono ?_;rintro e w1 ⟨rfl,rfl⟩
  go_wp2_with fail
  refine H2.out.mono ?_;rintro e w1 ⟨rfl,rfl⟩
  go_wp2_with fail
  go_ret;exact⟨rfl,rfl⟩
 have d1:decide (x<y)=false:=decide_eq_false h1
 by_cases h2:y<x
 ·have d2:decide (y<x)=true:=decide_eq_true h2
  have e1:z=1:=by rw[HZ.out];unfold ordI;rw[if_neg h1,if_pos h2]
  subst e1;clear h1 h2;go_enter Tryz.func122,Tryz.ntmps122
  go_wp2_with fail
  refine H1.out.mono ?_;rintro e w1 ⟨rfl,rfl⟩
  go_wp2_with fail
  refine H2.out.mono ?_;rintro e w1 ⟨rfl,rfl⟩
  go_wp2_with fail
  go_ret;exact⟨rfl,rfl⟩
 ·have d2:decide (y<x)=false:=decide_eq_false h2
  have e1:z=0:=by rw[HZ.out];unfold ordI;rw[if_neg h1,if_neg h2]
  subst e1;clear h1 h2;go_enter Tryz.func122,Tryz.ntmps122
  go_wp2_with fail
  refine H1.out.mono ?_;rintro e w1 ⟨rfl,rfl⟩
  go_wp2_with fail
  refine H2.out.mono ?_;rintro e w1 ⟨rfl,rfl⟩
  go_wp2_with fail
  go_ret;exact⟨rfl,rfl⟩
theorem zps(g G n i j:Nat)(rs:List Nat)(w:World)(q:CBlk w g #[.slice (some ⟨G,0,none⟩) n n] 152)(h:w.ownsRow G 2 1 (.slice (some ⟨G,0,none⟩) n n) n (rs.map natv))(hi:i<n)(hj:j<n)(hn:n≤256) :
  Calls Tryz.prog 121 #[.int .i64 (i:Int),.int .i64 (j:Int),.pointer (some ⟨g,0,none⟩)] w fun e w'=>e = .returned (.int .i64 (ordI (rs.getD j 0:Nat) (rs.getD i 0:Nat)))∧∃ m,w'=w.drewN m:=by
 have hl:rs.length=n:=by have:=h.1;rw[List.length_map] at this;omega
 have y0:w.cell? ⟨g,0,none⟩=some (.slice (some ⟨G,0,none⟩) n n):=q.cell 0;have ci:w.cell? ⟨G,i,none⟩=some (.int .i64 ((rs.getD i 0:Nat):Int)):=by rw[World.ownsRow.cellAt h i (by omega)];simp[natv,hl,hi,List.getD]
 have cj:w.cell? ⟨G,j,none⟩=some (.int .i64 ((rs.getD j 0:Nat):Int)):=by rw[World.ownsRow.cellAt h j (by omega)];simp[natv,hl,hj,List.getD]
 generalize rs.getD i 0=ri at *;generalize rs.getD j 0=rj at *;have HC:=Aa (zjz (rj:Int) (ri:Int));clear q h hl;go_enter Tryz.func121,Tryz.ntmps121
 go_wp2_with fail
 go_quiet ((go_at_call 122;first | exact zbL (HC.out _) | exact zcD (HC.out _)))
 go_wp2_with fail
 go_ret;exact⟨rfl,_,rfl⟩
theorem zjl(args:Array Value)(w:World):(callFunc 121 args).run Tryz.prog w = .ok (.enter 121 args) w:=by kernel_rfl
def Oth (G:Nat) (w W:World):Prop:=∀ i,i≠G→W.heap[i]? = w.heap[i]?
theorem zhw{w w':World}{base g n c size:Nat}{e:TypeId}{xs:List Value}(h:w.ownsRow base e size (.slice (some ⟨g,0,none⟩) n c) n xs)(he:w'.heap[g]? = w.heap[g]?) :
  w'.ownsRow base e size (.slice (some ⟨g,0,none⟩) n c) n xs:=by
 obtain⟨h1,h2⟩:=h
 rcases h2 with⟨a,_⟩ | ⟨g',aA,aC,hv,hb,hh,h3⟩
 ·cases a
 ·have e2:g=g':=by injection hv with e1 _ _;injection e1 with e1;injection e1
  subst e2;exact⟨h1,.inr ⟨g,aA,aC,hv,hb,he.trans hh,h3⟩⟩
def sink (p:List Nat) (x:Nat) (rest:List Nat) (j:Nat):List Nat:=p.take j++x :: (p.drop j++rest)
theorem ziO(p:List Nat)(x:Nat)(rest:List Nat)(j:Nat)(h:j+1≤p.length):sink p x rest (j+1)=p.take j++p[j] :: x :: (p.drop (j+1)++rest):=by
 unfold sink;rw[List.take_succ_eq_append_getElem (show j<p.length by omega),List.append_assoc];rfl
theorem znT(p:List Nat)(x:Nat)(rest:List Nat)(j:Nat)(h:j+1≤p.length):(sink p x rest (j+1))[j+1]? = some x∧(sink p x rest (j+1))[j]? = some p[j]:=by
 rw[ziO p x rest j h];have e:(p.take j).length=j:=by rw[List.length_take];omega
 constructor
 ·rw[List.getElem?_append_right (by omega),e];simp
 ·rw[List.getElem?_append_right (by omega),e];simp
theorem zm5(p:List Nat)(x:Nat)(rest:List Nat)(j:Nat)(h:j+1≤p.length):((sink p x rest (j+1)).set (j+1) p[j]).set j x=sink p x rest j:=by
 rw[ziO p x rest j h];have e:(p.take j).length=j:=by rw[List.length_take];omega
 rw[List.set_append_right _ _ (by omega),e,Nat.add_sub_cancel_left,List.set_append_right _ _ (by omega),e,Nat.sub_self];unfold sink;rw[List.drop_eq_getElem_cons (show j<p.length by omega)];rfl
theorem zov(p:List Nat)(x:Nat)(rest:List Nat):sink p x rest p.length=p++x :: rest:=by
 unfold sink;simp
theorem zkq(lt:Nat→Nat→Bool)(p:List Nat)(x:Nat)(rest:List Nat)(j:Nat)(hj:j≤p.length)(h1:∀ i (h:i<p.length),j≤i→lt x p[i]=true)(h2:∀ (h:0<j),lt x (p[j-1]'(by omega))=false) :
  sink p x rest j=Dl.insP lt p x++rest:=by
 unfold Dl.insP sink;rw[Dl.insK_is lt p x j hj h1 h2];simp
def pre (lt:Nat→Nat→Bool) (l:List Nat) (i:Nat):List Nat:=(l.take i).foldl (Dl.insP lt) []
theorem zkL(lt:Nat→Nat→Bool)(l:List Nat)(i:Nat):(pre lt l i).Perm (l.take i):=by
 have h:=Dl.foldl_perm lt (l.take i) []
 simpa[pre] using h
theorem zqu(lt:Nat→Nat→Bool)(l:List Nat)(i:Nat)(h:i≤l.length):(pre lt l i).length=i:=by
 rw[(zkL lt l i).length_eq,List.length_take];omega
theorem zrA(lt:Nat→Nat→Bool)(l:List Nat)(i y:Nat)(h:y ∈ pre lt l i):y ∈ l:=List.mem_of_mem_take ((zkL lt l i).mem_iff.1 h)
theorem zpS (lt:Nat→Nat→Bool) (l:List Nat) (i:Nat) (h:i<l.length):pre lt l (i+1)=Dl.insP lt (pre lt l i) l[i]:=by
 unfold pre;rw[List.take_succ_eq_append_getElem h,List.foldl_append];rfl
theorem zqZ(lt:Nat→Nat→Bool)(l:List Nat)(h:1≤l.length):pre lt l 1++l.drop 1=l:=by
 cases l with
 | nil=>simp at h
 | cons a t=>simp[pre,Dl.insP]
theorem zrm(lt:Nat→Nat→Bool)(l:List Nat):pre lt l l.length++l.drop l.length=Dl.sortP lt l:=by
 simp[pre,Dl.sortP]
theorem zmD(x y:Nat):decide (ordI (x:Int) (y:Int)<0)=decide (x<y):=by
 unfold ordI
 by_cases h:x<y
 ·have:(x:Int)<y:=by omega
  simp[h,this]
 ·have h1:¬ (x:Int)<y:=by omega
  by_cases h2:(y:Int)<x
  ·simp[h,h1,h2]
  ·simp[h,h1,h2]
theorem ziG(B G g R n c:Nat)(rs l:List Nat)(w:World)(hn1:1≤n)(hn:n≤256)(hGg:G≠g)(hGR:G≠R)
 (hown:w.ownsRow B 3 1 (.slice (some ⟨G,0,none⟩) n c) n (l.map natv))(q:CBlk w g #[.slice (some ⟨R,0,none⟩) n n] 152)(hr:w.ownsRow R 2 1 (.slice (some ⟨R,0,none⟩) n n) n (rs.map natv))
 (hl:∀ y ∈ l,y<n) :
  Calls Tryz.prog 209 #[.slice (some ⟨G,0,none⟩) n c,.int .i64 0,.int .i64 (n:Int),.func (.func 121) #[] #[.pointer (some ⟨g,0,none⟩)]] w fun e w'=>e = .returned (.tuple #[]) ∧
   w'.ownsRow B 3 1 (.slice (some ⟨G,0,none⟩) n c) n ((Dl.sortP (Dl.byKey (fun i=>rs.getD i 0)) l).map natv)∧Below G w w'∧Oth G w w':=by
 have aR:l.length=n:=by have:=hown.1;rw[List.length_map] at this;omega
 obtain⟨lt,aX⟩:∃ f,f=Dl.byKey (fun i=>rs.getD i 0):=⟨_,rfl⟩;rw[←aX];have bO:=Aa aX;have HL:=Aa hl;have aS:=Aa aR;have bA:=Aa hGg;have bB:=Aa hGR;have bM:w.ownsRow B 3 1 (.slice (some ⟨G,0,none⟩) n c) n ((pre lt l 1++l.drop 1).map natv):=by rw[zqZ lt l (by omega)];exact hown
 clear aX hl hown hGg hGR;have eg:=zjl;go_enter Tryz.func209,Tryz.ntmps209
 go_wp2_with fail
 go_loopg [8] n (fun m s W=>∃ i:Nat,1≤i∧i≤n∧s = .int .i64 i∧n-i≤m∧W.ownsRow B 3 1 (.slice (some ⟨G,0,none⟩) n c) n ((pre lt l i++l.drop i).map natv)∧CBlk W g #[.slice (some ⟨R,0,none⟩) n n] 152∧W.ownsRow R 2 1 (.slice (some ⟨R,0,none⟩) n n) n (rs.map natv)∧Below G w W∧Oth G w W)
 case atStart=>exact⟨1,by omega,hn1,by go_num,by omega,bM,q,hr,Below.refl _ _,fun _ _=>rfl⟩
 case round=>
  obtain⟨i,bX,hi,rfl,hm,hown,hq,aI,aD,aA⟩:=hrel
  by_cases h0:i<n
  ·have aW:i<l.length:=by omega
   have bI:=zqu lt l i (by omega);have aY:=zpS lt l i aW;have aU:=fun y hy=>HL.out y (zrA lt l i y hy)
   have hx:=HL.out l[i] (List.getElem_mem aW);rw[List.drop_eq_getElem_cons aW] at hown;generalize l[i]=x at *;obtain⟨p,hp⟩:∃ p,p=pre lt l i:=⟨_,rfl⟩;rw[←hp] at bI aY aU hown;rw[←zov,bI] at hown;clear hp;obtain⟨aE,aG⟩:∃ t,t=l.drop (i+1):=⟨_,rfl⟩;rw[←aG] at hown;have aH:=Aa aG;have bE:=Aa aY;have bJ:=Aa aU;clear aG aY aU
   go_wp2_with fail
   go_loopg [9] (i+1) (fun m2 s W=>∃ j:Nat,j≤i∧s = .int .i64 j∧j<m2∧Hid (∀ (k:Nat) (h:k<p.length),j≤k→lt x p[k]=true)∧W.ownsRow B 3 1 (.slice (some ⟨G,0,none⟩) n c) n ((sink p x aE j).map natv)∧CBlk W g #[.slice (some ⟨R,0,none⟩) n n] 152∧W.ownsRow R 2 1 (.slice (some ⟨R,0,none⟩) n n) n (rs.map natv)∧Below G w W∧Oth G w W)
   case atStart=>exact⟨i,Nat.le_refl _,rfl,by omega,fun k h1 h2=>by omega,hown,hq,aI,aD,aA⟩
   case round=>
    clear hown hq aI aD aA;obtain⟨j,hj,rfl,bT,hk,hown,hq,aI,aD,aA⟩:=hrel
    by_cases hj0:0<j
    ·obtain⟨j,rfl⟩:∃ j',j=j'+1:=⟨j-1,by omega⟩
     have bP:j<p.length:=by omega
     have bD:=zm5 p x aE j (by omega);obtain⟨g1,g2⟩:=znT p x aE j (by omega);have c1:wr.cell? ⟨G,j+1,none⟩=some (.int .i64 (x:Int)):=by rw[World.ownsRow.cellAt hown (j+1) (by omega)];simp[natv,g1]
     have c2:wr.cell? ⟨G,j,none⟩=some (.int .i64 (p[j]:Int)):=by rw[World.ownsRow.cellAt hown j (by omega)];simp[natv,g2]
     have bS:=bJ.out p[j] (List.getElem_mem bP);have bC:=fun (h:lt x p[j]=false)=>zkq lt p x aE (j+1) (by omega) hk.out (fun _=>h)
     have bG:lt x p[j]=true→∀ (k:Nat) (h:k<p.length),j≤k→lt x p[k]=true:=fun h k bL bU=>by
      by_cases e:k=j
      ·subst e;exact h
      ·exact hk.out k bL (by omega)
     have aV:=Aa bC;have aT:=Aa bG;have aP:lt x p[j]=decide (rs.getD p[j] 0<rs.getD x 0):=by rw[bO.out];rfl
     have bK:=Aa bD;have G1:=Aa g1;have G2:=Aa g2;clear g1 g2 bC bG hk bD;generalize p[j]=y at *;have HC:=Aa (fun k=>zps g R n x y rs (wr.drewN k) hq aI hx bS hn);have bW:(j:Int)+1≤n:=by omega
     have bV:j+1<n:=by omega
     generalize rs.getD y 0=ry at *;generalize rs.getD x 0=rx at *
     by_cases hlt2:ry<rx
     ·have d:decide (ordI (ry:Int) (rx:Int)<0)=true:=by rw[zmD];exact decide_eq_true hlt2
      have bR:=Aa (aT.out (by rw[aP];exact decide_eq_true hlt2));clear aP hlt2 aV aT hj0
      go_wp2_with fail
      go_quiet ((go_at_fn 121;first | exact zf6 (HC.out _) | exact zgI (HC.out _)))
      have aC:(wr.drewN nq).ownsRow B 3 1 (.slice (some ⟨G,0,none⟩) n c) n ((sink p x aE (j+1)).map natv):=hown;have bF:CBlk (wr.drewN nq) g #[.slice (some ⟨R,0,none⟩) n n] 152:=hq;have aN:(wr.drewN nq).ownsRow R 2 1 (.slice (some ⟨R,0,none⟩) n n) n (rs.map natv):=aI;have aK:Oth G w (wr.drewN nq):=aA;have aL:Below G w (wr.drewN nq):=zad aD _;clear HC hown hq aI aD aA c1 c2;generalize wr.drewN nq=wq at *;have c1:wq.cell? ⟨G,j+1,none⟩=some (.int .i64 (x:Int)):=by rw[World.ownsRow.cellAt aC (j+1) (by omega)];simp[natv,G1.out]
      have c2:wq.cell? ⟨G,j,none⟩=some (.int .i64 (y:Int)):=by rw[World.ownsRow.cellAt aC j (by omega)];simp[natv,G2.out]
      have f1:=zbG aC (j+1);have aQ:=zdG aC (j+1) (natv y);have aZ:=zdG aQ j (natv x);rw[←List.map_set,←List.map_set,bK.out] at aZ;obtain⟨v1,cs⟩:=zee aQ j (by omega);have fs:=zbG aQ j;have bH:=(bF.setFar (i:=j+1) bA.out (natv y)).setFar (i:=j) bA.out (natv x);have aO:=ownsRow_setCell_other (ownsRow_setCell_other aN (a:=⟨G,j+1,none⟩) (by simp only[Value.ownBlock];exact fun e=>bB.out (Option.some.inj e).symm) (natv y)) (a:=⟨G,j,none⟩) (by simp only[Value.ownBlock];exact fun e=>bB.out (Option.some.inj e).symm) (natv x);have aM:=(aL.setCell (p:=⟨G,j+1,none⟩) (Nat.le_refl _) (natv y)).setCell (p:=⟨G,j,none⟩) (Nat.le_refl _) (natv x);have aJ:Oth G w ((wq.setCell ⟨G,j+1,none⟩ (natv y)).setCell ⟨G,j,none⟩ (natv x)):=fun i hi=>(Below.heap_setCell _ _ _ i hi).trans ((Below.heap_setCell _ _ _ i hi).trans (aK i hi))
      have bQ:=fun (W:World) (a:Addr) (m:_)=>run_store Tryz.prog W a (.int .i64 (x:Int)) m rfl
      have bN:=fun (W:World) (a:Addr) (m:_)=>run_store Tryz.prog W a (.int .i64 (y:Int)) m rfl
      unfold natv at cs fs bH aO aM aJ;clear aQ aC bF aN aL aK
      go_wp2_with fail
      go_region
      go_wp2_with fail
      go_roundg (j+1)
      case measure=>omega
      case rel=>exact⟨j,by omega,by go_num,Nat.lt_succ_self _,bR,aZ.drew,by exact bH,by exact aO,aM.drew,aJ⟩
     ·have d:decide (ordI (ry:Int) (rx:Int)<0)=false:=by rw[zmD];exact decide_eq_false hlt2
      have aF:=aV.out (by rw[aP];exact decide_eq_false hlt2);rw[aF,←bE.out,aH.out] at hown;clear aF aV aT aP hlt2 hj0
      go_wp2_with fail
      go_quiet ((go_at_fn 121;first | exact zf6 (HC.out _) | exact zgI (HC.out _)))
      go_wp2_with fail
      go_roundg (n-(i+1))
      case measure=>omega
      case rel=>exact⟨i+1,by omega,by omega,by go_num,Nat.le_refl _,by exact hown,by exact hq,by exact aI,zad aD _,aA⟩
    ·obtain rfl:j=0:=by omega
     have aF:=zkq lt p x aE 0 (by omega) hk.out (fun h=>absurd h (by omega));rw[aF,←bE.out,aH.out] at hown;clear aF hk hj0
     go_wp2_with fail
     go_quiet (fail)
     go_wp2_with fail
     go_roundg (n-(i+1))
     case measure=>omega
     case rel=>exact⟨i+1,by omega,by omega,by go_num,Nat.le_refl _,by exact hown,by exact hq,by exact aI,zad aD _,aA⟩
  ·obtain rfl:n=i:=by omega
   have e:pre lt l n++l.drop n=Dl.sortP lt l:=by rw[←aS.out];exact zrm lt l
   rw[e] at hown;clear e;go_wp2
   go_end0
   exact⟨rfl,hown,aD,aA⟩
theorem znV(B G g R n c:Nat)(rs l:List Nat)(w:World)(hn1:1≤n)(hn:n≤19)(hGg:G≠g)(hGR:G≠R)
 (hown:w.ownsRow B 3 1 (.slice (some ⟨G,0,none⟩) n c) n (l.map natv))(q:CBlk w g #[.slice (some ⟨R,0,none⟩) n n] 152)(hr:w.ownsRow R 2 1 (.slice (some ⟨R,0,none⟩) n n) n (rs.map natv))
 (hl:∀ y ∈ l,y<n) :
  Calls Tryz.prog 177 #[.slice (some ⟨G,0,none⟩) n c,.int .i64 (n:Int),.func (.func 121) #[] #[.pointer (some ⟨g,0,none⟩)]] w fun e w'=>e = .returned (.tuple #[]) ∧
   w'.ownsRow B 3 1 (.slice (some ⟨G,0,none⟩) n c) n ((Dl.sortP (Dl.byKey (fun i=>rs.getD i 0)) l).map natv)∧Below G w w'∧Oth G w w':=by
 have HC:=Aa (ziG B G g R n c rs l w hn1 (by omega) hGg hGR hown q hr hl);have d1:decide ((20:Int)≤(n:Int))=false:=decide_eq_false (by omega);have d2:decide ((20:Int)<(n:Int))=false:=decide_eq_false (by omega);clear hown q hr hl hn1 hGg hGR;go_enter Tryz.func177,Tryz.ntmps177
 go_wp2_with fail
 go_loopg [7,8] 0 (fun m s t W=>s = .int .i64 0∧t = .int .i64 20∧W=w)
 case atStart=>exact⟨rfl,rfl,rfl⟩
 case round=>
  obtain⟨rfl,rfl,rfl⟩:=hrel
  go_wp2_with fail
  refine HC.out.mono ?_;rintro e w1 ⟨rfl,h1,h2,h3⟩
  go_wp2_with fail
  go_loopg [6] 0 (fun m s W=>s = .int .i64 20∧W=w1)
  case atStart=>exact⟨rfl,rfl⟩
  case round=>
   obtain⟨rfl,rfl⟩:=hrel
   go_wp2_with fail
   go_end0
   exact⟨rfl,h1,h2,h3⟩
theorem zhW(B G g R n c:Nat)(rs l:List Nat)(w:World)(hn1:1≤n)(hn:n≤19)(hGg:G≠g)(hGR:G≠R)
 (hown:w.ownsRow B 3 1 (.slice (some ⟨G,0,none⟩) n c) n (l.map natv))(q:CBlk w g #[.slice (some ⟨R,0,none⟩) n n] 152)(hr:w.ownsRow R 2 1 (.slice (some ⟨R,0,none⟩) n n) n (rs.map natv))
 (hl:∀ y ∈ l,y<n) :
  Calls Tryz.prog 120 #[.slice (some ⟨G,0,none⟩) n c,.func (.func 121) #[] #[.pointer (some ⟨g,0,none⟩)]] w fun e w'=>e = .returned (.tuple #[]) ∧
   w'.ownsRow B 3 1 (.slice (some ⟨G,0,none⟩) n c) n ((Dl.sortP (Dl.byKey (fun i=>rs.getD i 0)) l).map natv)∧Below G w w'∧Oth G w w':=by
 have HC:=Aa (znV B G g R n c rs l w hn1 hn hGg hGR hown q hr hl);clear hown q hr hl hn1 hGg hGR;go_enter Tryz.func120,Tryz.ntmps120
 go_wp2_with fail
 refine HC.out.mono ?_;rintro e w1 ⟨rfl,h1,h2,h3⟩
 go_wp2_with fail
 go_end0
 exact⟨rfl,h1,h2,h3⟩
end Go.Proofs.YtbkgkoenppkhpaaGreatDoor
