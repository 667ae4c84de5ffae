/- Contract of package number's Draw. -/
import Derived.Test.YteajibbphcfmeaaGreatDoorVCo8
import Derived.Test.YteajibbphcfmeaaGreatDoorVPr4
namespace Go.Proofs.YteajibbphcfmeaaGreatDoor
open Go.RowKit Bn
theorem zmL (key n r:Nat):(Dl.drawAt key n (r+1)).1=40692*(Dl.drawAt key n r).1 % 2147483399:=by
 simp only [Dl.drawAt]
theorem zmn (key n r i:Nat) (hi:i+r+1=n):(Dl.drawAt key n (r+1)).2=((Dl.drawAt key n r).2.set i ((Dl.drawAt key n r).2.getD (40692*(Dl.drawAt key n r).1 % 2147483399 % (i+1)) 0)).set (40692*(Dl.drawAt key n r).1 % 2147483399 % (i+1)) ((Dl.drawAt key n r).2.getD i 0):=by
 simp only [Dl.drawAt]
 rw [show n - 1 - r=i from by omega]
set_option maxHeartbeats 4000000 in
set_option maxRecDepth 100000 in
theorem znc (key n:Nat) (w:World) (hk:1≤key) (hk2:key≤2147483398) (hn:n≤256) :
  Calls Tryz.prog 34 #[.int .i64 (key:Int),.int .i64 (n:Int)] w fun e w'=>
   ∃ g,e = .returned (.tuple #[.slice (some ⟨g,0,none⟩) n n,.int .i64 0])∧w.heap.size≤g∧w'.ownsRow g 3 1 (.slice (some ⟨g,0,none⟩) n n) n ((Dl.drawL key n).map natv)∧Below w.heap.size w w':=by
 obtain ⟨i0,aU,aY,aR,aS⟩:=info_parts zcq
 have HK:=Lib.hid hk2
 have aZ:=Lib.hid (Dl.draw_small key n (by omega))
 have aV:=Lib.hid (Dl.draw_len key n)
 have r1:=Lib.hid (fun W=>zcK (key:Int) 1 2147483398 W (by omega) (by omega))
 have r2:=Lib.hid (fun W=>zcK (n:Int) 0 256 W (by omega) (by omega))
 go_enter Tryz.func34,Tryz.ntmps34
 go_wp2_with fail
 refine (r1.out w).mono ?_
 rintro e w1 ⟨rfl,rfl⟩
 go_wp2_with fail
 refine (r2.out w).mono ?_
 rintro e w1 ⟨rfl,rfl⟩
 go_wp2_with fail
 refine (zef 0 0 w _ _ rfl).mono ?_
 rintro e w2 ⟨rfl,rfl⟩
 have aJ:Below w.heap.size w (w.alloc (.cells #[.int .i64 0,.int .i64 0] 26)):=(Below.refl _ _).alloc (Nat.le_refl _) _
 generalize w.alloc (.cells #[.int .i64 0,.int .i64 0] 26)=w2 at *
 clear r1 r2
 go_wp2_with (at_make;refine wpList_make_full _ rfl _ _ 45 rfl w2.heap.size 3 i0 (.int .i64 0) 1 Tryz.underlying45 aU aY aR _ _ _ _ n rfl rfl (by omega) (by omega) ?b2 ?b3 (Nat.le_refl _) ?_)
 case b2=>rw [aS];omega
 case b3=>unfold maxLen;omega
 intro w6 aC aE
 rw [toList_madeCells_one] at aC
 have aT:Below w.heap.size w w6:=aJ.trans ((zoy aE (Nat.le_refl _)).mono aJ.size)
 have aK:w.heap.size≤w2.heap.size:=aJ.size
 generalize w2.heap.size=G at *
 clear aE aJ
 go_wp2_with fail
 go_loopg [25] n (fun m s W=>∃ k:Nat,k≤n∧s = .int .i64 k∧n - k≤m∧W.ownsRow G 3 1 (.slice (some ⟨G,0,none⟩) n n) n (((List.range n).take k).map natv++List.replicate (n - k) (.int .i64 0))∧Below w.heap.size w W)
 case atStart=>exact ⟨0,Nat.zero_le _,rfl,by omega,by rw [zkA];simpa using aC,aT⟩
 case round=>
  obtain ⟨k,hk,rfl,hm,aA,aD⟩:=hrel
  by_cases h0:k<n
  ·have aX:k<(List.range n).length:=by simpa using h0
   have HS:=Lib.hid (zeM natv (List.range n) (.int .i64 0) n k aX (by simp))
   obtain ⟨v1,bA⟩:=zds aA k h0
   have bC:=zbr aA k
   have aQ:=fun (W:World) (a:Addr) (m:_)=>run_store Tryz.prog W a (.int .i64 (k:Int)) m rfl
   go_wp2_with fail
   go_roundg (n - (k+1))
   case measure=>omega
   case rel=>exact ⟨k+1,by omega,by go_num,Nat.le_refl _,by have h9:=zcV aA k (natv (List.range n)[k]);rw [HS.out] at h9;rw [List.getElem_range] at h9;exact h9,aD.setCell (p:=⟨G,k,none⟩) aK _⟩
  ·obtain rfl:n=k:=by omega
   have HS:=Lib.hid (zeJ natv (List.range n) (.int .i64 0) n (by simp))
   rw [HS.out] at aA
   clear HS aC
   go_wp2_with fail
   clear h0 hm
   go_loopg [9,10] n (fun m s t W=>∃ r:Nat,(r=0∨r+1≤n)∧s = .int .i64 ((Dl.drawAt key n r).1:Int)∧t = .int .i64 ((n:Int) - 1 - r)∧n - r≤m∧W.ownsRow G 3 1 (.slice (some ⟨G,0,none⟩) n n) n ((Dl.drawAt key n r).2.map natv)∧Below w.heap.size w W)
   case atStart=>exact ⟨0,.inl rfl,rfl,by go_num,by omega,by simpa [Dl.drawAt] using aA,aD⟩
   case round=>
    obtain ⟨r,hr,aN,aF,hm,aA,aD⟩:=hrel
    by_cases h0:r+1<n
    ·obtain ⟨i,hi⟩:∃ i,i+r+1=n:=⟨n - 1 - r,by omega⟩
     rw [show (n:Int) - 1 - r=(i:Int) by omega] at aF
     have HF:=Lib.hid (zmL key n r)
     have aG:=Lib.hid (zmn key n r i hi)
     have hx:=aZ.out r
     have hl:=aV.out r
     generalize Dl.drawAt key n r=s at *
     obtain ⟨x,l⟩:=s
     dsimp only at hx hl aN aA HF aG
     subst aN aF
     obtain ⟨y,hy⟩:∃ y,y=40692*x % 2147483399:=⟨_,rfl⟩
     rw [←hy] at HF aG
     have bE:y<2147483399:=by rw [hy];exact Nat.mod_lt _ (by omega)
     obtain ⟨j,hj⟩:∃ j,j=y % (i+1):=⟨_,rfl⟩
     rw [←hj] at aG
     have bF:j<i+1:=by rw [hj];exact Nat.mod_lt _ (by omega)
     have e1:(40692*(x:Int)).tmod 2147483399=(y:Int):=by rw [Int.tmod_eq_emod_of_nonneg (by omega)];omega
     have e2:(y:Int).tmod ((i:Int)+1)=(j:Int):=by rw [Int.tmod_eq_emod_of_nonneg (by omega),hj];simp
     have bD:=Lib.hid e1
     have bB:=Lib.hid e2
     clear hy hj
     have aP:i<n:=by omega
     have aM:j<n:=by omega
     have gi:l.getD i 0=l[i]:=by simp [List.getD,hl,aP]
     have gj:l.getD j 0=l[j]:=by simp [List.getD,hl,aM]
     rw [gi,gj] at aG
     have ci:wr.cell? ⟨G,i,none⟩=some (.int .i64 (l[i]:Int)):=by rw [World.ownsRow.cellAt aA i (by omega)];simp [natv,hl,aP]
     have cj:wr.cell? ⟨G,j,none⟩=some (.int .i64 (l[j]:Int)):=by rw [World.ownsRow.cellAt aA j (by omega)];simp [natv,hl,aM]
     have fi:=zbr aA i
     have aI:=zcV aA i (natv l[j])
     have aL:=zcV aI j (natv l[i])
     obtain ⟨v1,cs⟩:=zds aI j aM
     have fs:=zbr aI j
     rw [←List.map_set,←List.map_set,←aG.out] at aL
     unfold natv at aI aL cs fs
     generalize l[i]=li at *
     generalize l[j]=lj at *
     have aQ:=fun (W:World) (a:Addr) (m:_)=>run_store Tryz.prog W a (.int .i64 (li:Int)) m rfl
     have aW:=fun (W:World) (a:Addr) (m:_)=>run_store Tryz.prog W a (.int .i64 (lj:Int)) m rfl
     clear aI aG gi gj
     go_wp2_with fail
     go_region
     go_wp2_with fail
     go_roundg (n - (r+1))
     case measure=>omega
     case rel=>exact ⟨r+1,.inr (by omega),by rw [HF.out],by go_num,Nat.le_refl _,aL.drew,((aD.setCell (p:=⟨G,i,none⟩) aK _).setCell (p:=⟨G,j,none⟩) aK _).drew⟩
    ·have aO:r=n - 1:=by omega
     subst aN aF
     have d:decide ((1:Int)≤(n:Int) - 1 - r)=false:=decide_eq_false (by omega)
     have aH:(Dl.drawAt key n r).2=Dl.drawL key n:=by unfold Dl.drawL;rw [aO]
     rw [aH] at aA
     clear aH aO
     go_wp2_with fail
     go_ret2
     exact ⟨G,rfl,aK,aA,aD⟩
theorem zi8 {w:World} {g:Nat} (B:Nat) (h:B≤g) (u:Value):Below B w (w.setCell ⟨g,0,none⟩ u):=(Below.refl _ _).setCell (p:=⟨g,0,none⟩) h u
set_option maxHeartbeats 2000000 in
set_option maxRecDepth 100000 in
theorem znG (i:Int) (x g:Nat) (b:Bool) (w:World) (hx:x≤999999999) (q:CBlk w g #[.bool b] 4) :
  Calls Tryz.prog 144 #[.int .i64 i,.int .i64 (x:Int),.pointer (some ⟨g,0,none⟩)] w fun e w'=>e = .returned (.int .i64 0)∧CBlk w' g #[.bool (b && decide (x=0))] 4∧Below g w w':=by
 have H:=Lib.hid (fun W=>zcK (x:Int) 0 999999999 W (by omega) (by omega))
 have y0:=q.cell 0
 have z0:=q.frozen 0
 have d:decide ((x:Int)=0)=decide (x=0):=by simp
 have HX:=Lib.hid hx
 clear hx
 have key:∀ b':Bool,b'=(b && decide (x=0))→CBlk (w.setCell ⟨g,0,none⟩ (.bool b')) g #[.bool (b && decide (x=0))] 4∧Below g w (w.setCell ⟨g,0,none⟩ (.bool b')):=fun b' e=>by
  subst e;exact ⟨q.set 0 _,zi8 g (Nat.le_refl _) _⟩
 cases b
 ·go_enter Tryz.func144,Tryz.ntmps144
  go_wp2_with fail
  refine (H.out _).mono ?_
  rintro e w1 ⟨rfl,rfl⟩
  go_wp2_with fail
  go_ret
  exact ⟨rfl,key _ (by simp)⟩
 ·go_enter Tryz.func144,Tryz.ntmps144
  go_wp2_with fail
  refine (H.out _).mono ?_
  rintro e w1 ⟨rfl,rfl⟩
  go_wp2_with fail
  go_ret
  exact ⟨rfl,key _ (by rw [Bool.eq_iff_iff];simp)⟩
theorem zjA (args:Array Value) (w:World):(callFunc 144 args).run Tryz.prog w = .ok (.enter 144 args) w:=by kernel_rfl
def zgv (l:List Nat):Bool:=l.all (fun x=>decide (x=0))
theorem zji (l:List Nat) (k:Nat) (h:k<l.length):(zgv (l.take k) && decide (l[k]=0))=zgv (l.take (k+1)):=by
 unfold zgv
 rw [List.take_succ_eq_append_getElem h,List.all_append]
 simp
set_option maxHeartbeats 2000000 in
set_option maxRecDepth 100000 in
theorem zju (A:Option Addr) (n c g B:Nat) (l:List Nat) (w:World) (hB:B≤g) (h:zat w B 1 A n (l.map natv)) (hl:∀ x ∈ l,x≤999999999) (hn1:1≤n) (hn:n≤256) (q:CBlk w g #[.bool true] 4) :
  Calls Tryz.prog 143 #[.slice A n c,.int .i64 1,.int .i64 256,.func (.func 144) #[] #[.pointer (some ⟨g,0,none⟩)]] w fun e w'=>e = .returned (.int .i64 0)∧CBlk w' g #[.bool (zgv l)] 4∧Below g w w':=by
 have HL:=Lib.hid hl
 have aF:l.length=n:=by have:=h.1;rw [List.length_map] at this;omega
 clear hl
 have aJ:decide ((n:Int)<1)=false:=decide_eq_false (by omega)
 have aK:decide ((256:Int)<(n:Int))=false:=decide_eq_false (by omega)
 have eg:=zjA
 go_enter Tryz.func143,Tryz.ntmps143
 go_wp2
 go_loopg [22] n (fun m s W=>∃ k:Nat,k≤n∧s = .int .i64 k∧n - k≤m∧CBlk W g #[.bool (zgv (l.take k))] 4∧Below g w W)
 case atStart=>exact ⟨0,Nat.zero_le _,rfl,by omega,q,Below.refl _ _⟩
 case round=>
  obtain ⟨k,hk,rfl,hm,hq,aA⟩:=hrel
  by_cases h0:k<n
  ·have aC:k<l.length:=by omega
   obtain ⟨ad,u,rfl,aI,hu,aD⟩:=(h.below (aA.mono hB)).at_ h0
   have aE:u = .int .i64 (l[k]:Int):=by simp [natv,aC] at hu;exact hu.symm
   subst aE
   have hx:=HL.out l[k] (List.getElem_mem aC)
   have hz:=zji l k aC
   generalize l[k]=x at *
   have HC:=Lib.hid (znG k x g _ wr hx hq)
   rw [hz] at HC
   clear hx hz hu hq
   go_wp2_with (go_at_fn 144;refine HC.out.mono ?_;rintro e w' ⟨rfl,aG,aH⟩)
   go_roundg (n - (k+1))
   case measure=>omega
   case rel=>exact ⟨k+1,by omega,by go_num,Nat.le_refl _,aG,aA.trans aH⟩
  ·obtain rfl:n=k:=by omega
   rw [List.take_of_length_le (by omega)] at hq
   go_wp2
   go_ret
   exact ⟨rfl,hq,aA⟩
set_option maxHeartbeats 2000000 in
set_option maxRecDepth 100000 in
theorem ze2 (A:Option Addr) (n c:Nat) (l:List Nat) (w:World) (h:zat w w.heap.size 1 A n (l.map natv)) (hl:∀ x ∈ l,x≤999999999) (hn1:1≤n) (hn:n≤256) (hz:zgv l=false) :
  Calls Tryz.prog 89 #[.slice A n c] w fun e w'=>e = .returned (.int .i64 0)∧Below w.heap.size w w':=by
 have q:CBlk (w.alloc (.cells #[.bool true] 4)) w.heap.size #[.bool true] 4:=CBlk.new _ _ _ _ rfl
 have hb:Below w.heap.size w (w.alloc (.cells #[.bool true] 4)):=(Below.refl _ _).alloc (Nat.le_refl _) _
 have HC:=Lib.hid (zju A n c w.heap.size w.heap.size l (w.alloc (.cells #[.bool true] 4)) (Nat.le_refl _) (h.below hb) hl hn1 hn q)
 rw [hz] at HC
 clear h hl hn1 hn hz q
 go_enter Tryz.func89,Tryz.ntmps89
 go_wp2_with fail
 refine HC.out.mono ?_
 rintro e w1 ⟨rfl,hq,aA⟩
 have y0:=hq.cell 0
 go_wp2_with fail
 go_ret
 exact ⟨rfl,hb.trans aA⟩
set_option maxRecDepth 100000 in
theorem ziL (x:Int) (w:World):Calls Tryz.prog 146 #[.int .i64 x] w fun e w'=>e = .returned (.bool false)∧w=w':=by
 go_enter Tryz.func146,Tryz.ntmps146
 go_wp2
 go_ret
 exact ⟨by simp,rfl⟩
def ordI (x y:Int):Int:=if x<y then -1 else if y<x then 1 else 0
set_option maxHeartbeats 1000000 in
set_option maxRecDepth 100000 in
theorem zhA (x y:Int) (w:World):Calls Tryz.prog 92 #[.int .i64 x,.int .i64 y] w fun e w'=>e = .returned (.int .i64 (ordI x y))∧w=w':=by
 have H1:=Lib.hid (ziL x w)
 have H2:=Lib.hid (ziL y w)
 obtain ⟨z,hz⟩:∃ z,z=ordI x y:=⟨_,rfl⟩
 rw [←hz]
 have HZ:=Lib.hid hz
 clear hz
 by_cases h1:x<y
 ·have d1:decide (x<y)=true:=decide_eq_true h1
  have e1:z = -1:=by rw [HZ.out];unfold ordI;rw [if_pos h1]
  subst e1
  clear h1
  go_enter Tryz.func92,Tryz.ntmps92
  go_wp2_with fail
  refine H1.out.mono ?_
  rintro e w1 ⟨rfl,rfl⟩
  go_wp2_with fail
  refine H2.out.mono ?_
  rintro e w1 ⟨rfl,rfl⟩
  go_wp2_with fail
  go_ret
  exact ⟨rfl,rfl⟩
 have d1:decide (x<y)=false:=decide_eq_false h1
 by_cases h2:y<x
 ·have d2:decide (y<x)=true:=decide_eq_true h2
  have e1:z=1:=by rw [HZ.out];unfold ordI;rw [if_neg h1,if_pos h2]
  subst e1
  clear h1 h2
  go_enter Tryz.func92,Tryz.ntmps92
  go_wp2_with fail
  refine H1.out.mono ?_
  rintro e w1 ⟨rfl,rfl⟩
  go_wp2_with fail
  refine H2.out.mono ?_
  rintro e w1 ⟨rfl,rfl⟩
  go_wp2_with fail
  go_ret
  exact ⟨rfl,rfl⟩
 ·have d2:decide (y<x)=false:=decide_eq_false h2
  have e1:z=0:=by rw [HZ.out];unfold ordI;rw [if_neg h1,if_neg h2]
  subst e1
  clear h1 h2
  go_enter Tryz.func92,Tryz.ntmps92
  go_wp2_with fail
  refine H1.out.mono ?_
  rintro e w1 ⟨rfl,rfl⟩
  go_wp2_with fail
  refine H2.out.mono ?_
  rintro e w1 ⟨rfl,rfl⟩
  go_wp2_with fail
  go_ret
  exact ⟨rfl,rfl⟩
set_option maxHeartbeats 1000000 in
set_option maxRecDepth 100000 in
theorem zl2 (g G n i j:Nat) (rs:List Nat) (w:World) (q:CBlk w g #[.slice (some ⟨G,0,none⟩) n n] 113) (h:w.ownsRow G 2 1 (.slice (some ⟨G,0,none⟩) n n) n (rs.map natv)) (hi:i<n) (hj:j<n) (hn:n≤256) :
  Calls Tryz.prog 91 #[.int .i64 (i:Int),.int .i64 (j:Int),.pointer (some ⟨g,0,none⟩)] w fun e w'=>e = .returned (.int .i64 (ordI (rs.getD j 0:Nat) (rs.getD i 0:Nat)))∧∃ m,w'=w.drewN m:=by
 have hl:rs.length=n:=by have:=h.1;rw [List.length_map] at this;omega
 have y0:w.cell? ⟨g,0,none⟩=some (.slice (some ⟨G,0,none⟩) n n):=q.cell 0
 have ci:w.cell? ⟨G,i,none⟩=some (.int .i64 ((rs.getD i 0:Nat):Int)):=by rw [World.ownsRow.cellAt h i (by omega)];simp [natv,hl,hi,List.getD]
 have cj:w.cell? ⟨G,j,none⟩=some (.int .i64 ((rs.getD j 0:Nat):Int)):=by rw [World.ownsRow.cellAt h j (by omega)];simp [natv,hl,hj,List.getD]
 generalize rs.getD i 0=ri at *
 generalize rs.getD j 0=rj at *
 have HC:=Lib.hid (zhA (rj:Int) (ri:Int))
 clear q h hl
 go_enter Tryz.func91,Tryz.ntmps91
 go_wp2_with fail
 go_quiet ((go_at_call 92;first | exact zbt (HC.out _) | exact zcD (HC.out _)))
 go_wp2_with fail
 go_ret
 exact ⟨rfl,_,rfl⟩
theorem zhE (args:Array Value) (w:World):(callFunc 91 args).run Tryz.prog w = .ok (.enter 91 args) w:=by kernel_rfl
def Oth (G:Nat) (w W:World):Prop:=∀ i,i≠G→W.heap[i]? = w.heap[i]?
theorem zf7 {w w':World} {base g n c size:Nat} {e:TypeId} {xs:List Value} (h:w.ownsRow base e size (.slice (some ⟨g,0,none⟩) n c) n xs) (he:w'.heap[g]? = w.heap[g]?) :
  w'.ownsRow base e size (.slice (some ⟨g,0,none⟩) n c) n xs:=by
 obtain ⟨h1,h2⟩:=h
 rcases h2 with ⟨a,_⟩ | ⟨g',aA,aC,hv,hb,hh,h3⟩
 ·cases a
 ·have e2:g=g':=by injection hv with e1 _ _;injection e1 with e1;injection e1
  subst e2
  exact ⟨h1,.inr ⟨g,aA,aC,hv,hb,he.trans hh,h3⟩⟩
def sink (p:List Nat) (x:Nat) (rest:List Nat) (j:Nat):List Nat:=p.take j++x :: (p.drop j++rest)
theorem zgO (p:List Nat) (x:Nat) (rest:List Nat) (j:Nat) (h:j+1≤p.length):sink p x rest (j+1)=p.take j++p[j] :: x :: (p.drop (j+1)++rest):=by
 unfold sink
 rw [List.take_succ_eq_append_getElem (show j<p.length by omega),List.append_assoc]
 rfl
theorem zld (p:List Nat) (x:Nat) (rest:List Nat) (j:Nat) (h:j+1≤p.length):(sink p x rest (j+1))[j+1]? = some x∧(sink p x rest (j+1))[j]? = some p[j]:=by
 rw [zgO p x rest j h]
 have e:(p.take j).length=j:=by rw [List.length_take];omega
 constructor
 ·rw [List.getElem?_append_right (by omega),e];simp
 ·rw [List.getElem?_append_right (by omega),e];simp
theorem zkZ (p:List Nat) (x:Nat) (rest:List Nat) (j:Nat) (h:j+1≤p.length):((sink p x rest (j+1)).set (j+1) p[j]).set j x=sink p x rest j:=by
 rw [zgO p x rest j h]
 have e:(p.take j).length=j:=by rw [List.length_take];omega
 rw [List.set_append_right _ _ (by omega),e,Nat.add_sub_cancel_left,List.set_append_right _ _ (by omega),e,Nat.sub_self]
 unfold sink
 rw [List.drop_eq_getElem_cons (show j<p.length by omega)]
 rfl
theorem zmg (p:List Nat) (x:Nat) (rest:List Nat):sink p x rest p.length=p++x :: rest:=by
 unfold sink;simp
theorem zif (lt:Nat→Nat→Bool) (p:List Nat) (x:Nat) (rest:List Nat) (j:Nat) (hj:j≤p.length) (h1:∀ i (h:i<p.length),j≤i→lt x p[i]=true) (h2:∀ (h:0<j),lt x (p[j - 1]'(by omega))=false) :
  sink p x rest j=Dl.insP lt p x++rest:=by
 unfold Dl.insP sink
 rw [Dl.insK_is lt p x j hj h1 h2]
 simp
def pre (lt:Nat→Nat→Bool) (l:List Nat) (i:Nat):List Nat:=(l.take i).foldl (Dl.insP lt) []
theorem ziJ (lt:Nat→Nat→Bool) (l:List Nat) (i:Nat):(pre lt l i).Perm (l.take i):=by
 have h:=Dl.foldl_perm lt (l.take i) []
 simpa [pre] using h
theorem znM (lt:Nat→Nat→Bool) (l:List Nat) (i:Nat) (h:i≤l.length):(pre lt l i).length=i:=by
 rw [(ziJ lt l i).length_eq,List.length_take];omega
theorem znH (lt:Nat→Nat→Bool) (l:List Nat) (i y:Nat) (h:y ∈ pre lt l i):y ∈ l:=List.mem_of_mem_take ((ziJ lt l i).mem_iff.1 h)
theorem zmj (lt:Nat→Nat→Bool) (l:List Nat) (i:Nat) (h:i<l.length):pre lt l (i+1)=Dl.insP lt (pre lt l i) l[i]:=by
 unfold pre
 rw [List.take_succ_eq_append_getElem h,List.foldl_append]
 rfl
theorem zm8 (lt:Nat→Nat→Bool) (l:List Nat) (h:1≤l.length):pre lt l 1++l.drop 1=l:=by
 cases l with
 | nil=>simp at h
 | cons a t=>simp [pre,Dl.insP]
theorem znm (lt:Nat→Nat→Bool) (l:List Nat):pre lt l l.length++l.drop l.length=Dl.sortP lt l:=by
 simp [pre,Dl.sortP]
theorem zkR (x y:Nat):decide (ordI (x:Int) (y:Int)<0)=decide (x<y):=by
 unfold ordI
 by_cases h:x<y
 ·have:(x:Int)<y:=by omega
  simp [h,this]
 ·have h1:¬ (x:Int)<y:=by omega
  by_cases h2:(y:Int)<x
  ·simp [h,h1,h2]
  ·simp [h,h1,h2]
set_option maxHeartbeats 4000000 in
set_option maxRecDepth 100000 in
theorem zgM (B G g R n c:Nat) (rs l:List Nat) (w:World) (hn1:1≤n) (hn:n≤256) (hGg:G≠g) (hGR:G≠R)
  (hown:w.ownsRow B 3 1 (.slice (some ⟨G,0,none⟩) n c) n (l.map natv)) (q:CBlk w g #[.slice (some ⟨R,0,none⟩) n n] 113) (hr:w.ownsRow R 2 1 (.slice (some ⟨R,0,none⟩) n n) n (rs.map natv))
  (hl:∀ y ∈ l,y<n) :
  Calls Tryz.prog 186 #[.slice (some ⟨G,0,none⟩) n c,.int .i64 0,.int .i64 (n:Int),.func (.func 91) #[] #[.pointer (some ⟨g,0,none⟩)]] w fun e w'=>e = .returned (.tuple #[]) ∧
   w'.ownsRow B 3 1 (.slice (some ⟨G,0,none⟩) n c) n ((Dl.sortP (Dl.byKey (fun i=>rs.getD i 0)) l).map natv)∧Below G w w'∧Oth G w w':=by
 have aY:l.length=n:=by have:=hown.1;rw [List.length_map] at this;omega
 obtain ⟨lt,aV⟩:∃ f,f=Dl.byKey (fun i=>rs.getD i 0):=⟨_,rfl⟩
 rw [←aV]
 have bJ:=Lib.hid aV
 have HL:=Lib.hid hl
 have aR:=Lib.hid aY
 have bE:=Lib.hid hGg
 have bH:=Lib.hid hGR
 have bO:w.ownsRow B 3 1 (.slice (some ⟨G,0,none⟩) n c) n ((pre lt l 1++l.drop 1).map natv):=by rw [zm8 lt l (by omega)];exact hown
 clear aV hl hown hGg hGR
 have eg:=zhE
 go_enter Tryz.func186,Tryz.ntmps186
 go_wp2_with fail
 go_loopg [8] n (fun m s W=>∃ i:Nat,1≤i∧i≤n∧s = .int .i64 i∧n - i≤m∧W.ownsRow B 3 1 (.slice (some ⟨G,0,none⟩) n c) n ((pre lt l i++l.drop i).map natv)∧CBlk W g #[.slice (some ⟨R,0,none⟩) n n] 113∧W.ownsRow R 2 1 (.slice (some ⟨R,0,none⟩) n n) n (rs.map natv)∧Below G w W∧Oth G w W)
 case atStart=>exact ⟨1,by omega,hn1,by go_num,by omega,bO,q,hr,Below.refl _ _,fun _ _=>rfl⟩
 case round=>
  obtain ⟨i,bT,hi,rfl,hm,hown,hq,aJ,aC,aD⟩:=hrel
  by_cases h0:i<n
  ·have aU:i<l.length:=by omega
   have bF:=znM lt l i (by omega)
   have aS:=zmj lt l i aU
   have aW:=fun y hy=>HL.out y (znH lt l i y hy)
   have hx:=HL.out l[i] (List.getElem_mem aU)
   rw [List.drop_eq_getElem_cons aU] at hown
   generalize l[i]=x at *
   obtain ⟨p,hp⟩:∃ p,p=pre lt l i:=⟨_,rfl⟩
   rw [←hp] at bF aS aW hown
   rw [←zmg,bF] at hown
   clear hp
   obtain ⟨aE,aG⟩:∃ t,t=l.drop (i+1):=⟨_,rfl⟩
   rw [←aG] at hown
   have aM:=Lib.hid aG
   have bI:=Lib.hid aS
   have bS:=Lib.hid aW
   clear aG aS aW
   go_wp2_with fail
   go_loopg [9] (i+1) (fun m2 s W=>∃ j:Nat,j≤i∧s = .int .i64 j∧j<m2∧Hid (∀ (k:Nat) (h:k<p.length),j≤k→lt x p[k]=true)∧W.ownsRow B 3 1 (.slice (some ⟨G,0,none⟩) n c) n ((sink p x aE j).map natv)∧CBlk W g #[.slice (some ⟨R,0,none⟩) n n] 113∧W.ownsRow R 2 1 (.slice (some ⟨R,0,none⟩) n n) n (rs.map natv)∧Below G w W∧Oth G w W)
   case atStart=>exact ⟨i,Nat.le_refl _,rfl,by omega,fun k h1 h2=>by omega,hown,hq,aJ,aC,aD⟩
   case round=>
    clear hown hq aJ aC aD
    obtain ⟨j,hj,rfl,bX,hk,hown,hq,aJ,aC,aD⟩:=hrel
    by_cases hj0:0<j
    ·obtain ⟨j,rfl⟩:∃ j',j=j'+1:=⟨j - 1,by omega⟩
     have bR:j<p.length:=by omega
     have bG:=zkZ p x aE j (by omega)
     obtain ⟨g1,g2⟩:=zld p x aE j (by omega)
     have c1:wr.cell? ⟨G,j+1,none⟩=some (.int .i64 (x:Int)):=by rw [World.ownsRow.cellAt hown (j+1) (by omega)];simp [natv,g1]
     have c2:wr.cell? ⟨G,j,none⟩=some (.int .i64 (p[j]:Int)):=by rw [World.ownsRow.cellAt hown j (by omega)];simp [natv,g2]
     have bN:=bS.out p[j] (List.getElem_mem bR)
     have bD:=fun (h:lt x p[j]=false)=>zif lt p x aE (j+1) (by omega) hk.out (fun _=>h)
     have aZ:lt x p[j]=true→∀ (k:Nat) (h:k<p.length),j≤k→lt x p[k]=true:=fun h k bK bU=>by
      by_cases e:k=j
      ·subst e;exact h
      ·exact hk.out k bK (by omega)
     have aT:=Lib.hid bD
     have aX:=Lib.hid aZ
     have aP:lt x p[j]=decide (rs.getD p[j] 0<rs.getD x 0):=by rw [bJ.out];rfl
     have bL:=Lib.hid bG
     have G1:=Lib.hid g1
     have G2:=Lib.hid g2
     clear g1 g2 bD aZ hk bG
     generalize p[j]=y at *
     have HC:=Lib.hid (fun k=>zl2 g R n x y rs (wr.drewN k) hq aJ hx bN hn)
     have bW:(j:Int)+1≤n:=by omega
     have bV:j+1<n:=by omega
     generalize rs.getD y 0=ry at *
     generalize rs.getD x 0=rx at *
     by_cases hlt2:ry<rx
     ·have d:decide (ordI (ry:Int) (rx:Int)<0)=true:=by rw [zkR];exact decide_eq_true hlt2
      have bP:=Lib.hid (aX.out (by rw [aP];exact decide_eq_true hlt2))
      clear aP hlt2 aT aX hj0
      go_wp2_with fail
      go_quiet ((go_at_fn 91;first | exact zfg (HC.out _) | exact zfk (HC.out _)))
      have aA:(wr.drewN nq).ownsRow B 3 1 (.slice (some ⟨G,0,none⟩) n c) n ((sink p x aE (j+1)).map natv):=hown
      have bA:CBlk (wr.drewN nq) g #[.slice (some ⟨R,0,none⟩) n n] 113:=hq
      have aN:(wr.drewN nq).ownsRow R 2 1 (.slice (some ⟨R,0,none⟩) n n) n (rs.map natv):=aJ
      have aL:Oth G w (wr.drewN nq):=aD
      have aI:Below G w (wr.drewN nq):=zab aC _
      clear HC hown hq aJ aC aD c1 c2
      generalize wr.drewN nq=wq at *
      have c1:wq.cell? ⟨G,j+1,none⟩=some (.int .i64 (x:Int)):=by rw [World.ownsRow.cellAt aA (j+1) (by omega)];simp [natv,G1.out]
      have c2:wq.cell? ⟨G,j,none⟩=some (.int .i64 (y:Int)):=by rw [World.ownsRow.cellAt aA j (by omega)];simp [natv,G2.out]
      have f1:=zbr aA (j+1)
      have aQ:=zcV aA (j+1) (natv y)
      have bC:=zcV aQ j (natv x)
      rw [←List.map_set,←List.map_set,bL.out] at bC
      obtain ⟨v1,cs⟩:=zds aQ j (by omega)
      have fs:=zbr aQ j
      have bB:=(bA.setFar (i:=j+1) bE.out (natv y)).setFar (i:=j) bE.out (natv x)
      have aO:=ownsRow_setCell_other (ownsRow_setCell_other aN (a:=⟨G,j+1,none⟩) (by simp only [Value.ownBlock];exact fun e=>bH.out (Option.some.inj e).symm) (natv y)) (a:=⟨G,j,none⟩) (by simp only [Value.ownBlock];exact fun e=>bH.out (Option.some.inj e).symm) (natv x)
      have aK:=(aI.setCell (p:=⟨G,j+1,none⟩) (Nat.le_refl _) (natv y)).setCell (p:=⟨G,j,none⟩) (Nat.le_refl _) (natv x)
      have aH:Oth G w ((wq.setCell ⟨G,j+1,none⟩ (natv y)).setCell ⟨G,j,none⟩ (natv x)):=fun i hi=>(Below.heap_setCell _ _ _ i hi).trans ((Below.heap_setCell _ _ _ i hi).trans (aL i hi))
      have bQ:=fun (W:World) (a:Addr) (m:_)=>run_store Tryz.prog W a (.int .i64 (x:Int)) m rfl
      have bM:=fun (W:World) (a:Addr) (m:_)=>run_store Tryz.prog W a (.int .i64 (y:Int)) m rfl
      unfold natv at cs fs bB aO aK aH
      clear aQ aA bA aN aI aL
      go_wp2_with fail
      go_region
      go_wp2_with fail
      go_roundg (j+1)
      case measure=>omega
      case rel=>exact ⟨j,by omega,by go_num,Nat.lt_succ_self _,bP,bC.drew,by exact bB,by exact aO,aK.drew,aH⟩
     ·have d:decide (ordI (ry:Int) (rx:Int)<0)=false:=by rw [zkR];exact decide_eq_false hlt2
      have aF:=aT.out (by rw [aP];exact decide_eq_false hlt2)
      rw [aF,←bI.out,aM.out] at hown
      clear aF aT aX aP hlt2 hj0
      go_wp2_with fail
      go_quiet ((go_at_fn 91;first | exact zfg (HC.out _) | exact zfk (HC.out _)))
      go_wp2_with fail
      go_roundg (n - (i+1))
      case measure=>omega
      case rel=>exact ⟨i+1,by omega,by omega,by go_num,Nat.le_refl _,by exact hown,by exact hq,by exact aJ,zab aC _,aD⟩
    ·obtain rfl:j=0:=by omega
     have aF:=zif lt p x aE 0 (by omega) hk.out (fun h=>absurd h (by omega))
     rw [aF,←bI.out,aM.out] at hown
     clear aF hk hj0
     go_wp2_with fail
     go_quiet (fail)
     go_wp2_with fail
     go_roundg (n - (i+1))
     case measure=>omega
     case rel=>exact ⟨i+1,by omega,by omega,by go_num,Nat.le_refl _,by exact hown,by exact hq,by exact aJ,zab aC _,aD⟩
  ·obtain rfl:n=i:=by omega
   have e:pre lt l n++l.drop n=Dl.sortP lt l:=by rw [←aR.out];exact znm lt l
   rw [e] at hown
   clear e
   go_wp2
   go_end0
   exact ⟨rfl,hown,aC,aD⟩
set_option maxHeartbeats 1000000 in
set_option maxRecDepth 100000 in
theorem zkD (B G g R n c:Nat) (rs l:List Nat) (w:World) (hn1:1≤n) (hn:n≤19) (hGg:G≠g) (hGR:G≠R)
  (hown:w.ownsRow B 3 1 (.slice (some ⟨G,0,none⟩) n c) n (l.map natv)) (q:CBlk w g #[.slice (some ⟨R,0,none⟩) n n] 113) (hr:w.ownsRow R 2 1 (.slice (some ⟨R,0,none⟩) n n) n (rs.map natv))
  (hl:∀ y ∈ l,y<n) :
  Calls Tryz.prog 145 #[.slice (some ⟨G,0,none⟩) n c,.int .i64 (n:Int),.func (.func 91) #[] #[.pointer (some ⟨g,0,none⟩)]] w fun e w'=>e = .returned (.tuple #[]) ∧
   w'.ownsRow B 3 1 (.slice (some ⟨G,0,none⟩) n c) n ((Dl.sortP (Dl.byKey (fun i=>rs.getD i 0)) l).map natv)∧Below G w w'∧Oth G w w':=by
 have HC:=Lib.hid (zgM B G g R n c rs l w hn1 (by omega) hGg hGR hown q hr hl)
 have d1:decide ((20:Int)≤(n:Int))=false:=decide_eq_false (by omega)
 have d2:decide ((20:Int)<(n:Int))=false:=decide_eq_false (by omega)
 clear hown q hr hl hn1 hGg hGR
 go_enter Tryz.func145,Tryz.ntmps145
 go_wp2_with fail
 go_loopg [7,8] 0 (fun m s t W=>s = .int .i64 0∧t = .int .i64 20∧W=w)
 case atStart=>exact ⟨rfl,rfl,rfl⟩
 case round=>
  obtain ⟨rfl,rfl,rfl⟩:=hrel
  go_wp2_with fail
  refine HC.out.mono ?_
  rintro e w1 ⟨rfl,h1,h2,h3⟩
  go_wp2_with fail
  go_loopg [6] 0 (fun m s W=>s = .int .i64 20∧W=w1)
  case atStart=>exact ⟨rfl,rfl⟩
  case round=>
   obtain ⟨rfl,rfl⟩:=hrel
   go_wp2_with fail
   go_end0
   exact ⟨rfl,h1,h2,h3⟩
set_option maxHeartbeats 1000000 in
set_option maxRecDepth 100000 in
theorem zgD (B G g R n c:Nat) (rs l:List Nat) (w:World) (hn1:1≤n) (hn:n≤19) (hGg:G≠g) (hGR:G≠R)
  (hown:w.ownsRow B 3 1 (.slice (some ⟨G,0,none⟩) n c) n (l.map natv)) (q:CBlk w g #[.slice (some ⟨R,0,none⟩) n n] 113) (hr:w.ownsRow R 2 1 (.slice (some ⟨R,0,none⟩) n n) n (rs.map natv))
  (hl:∀ y ∈ l,y<n) :
  Calls Tryz.prog 90 #[.slice (some ⟨G,0,none⟩) n c,.func (.func 91) #[] #[.pointer (some ⟨g,0,none⟩)]] w fun e w'=>e = .returned (.tuple #[]) ∧
   w'.ownsRow B 3 1 (.slice (some ⟨G,0,none⟩) n c) n ((Dl.sortP (Dl.byKey (fun i=>rs.getD i 0)) l).map natv)∧Below G w w'∧Oth G w w':=by
 have HC:=Lib.hid (zkD B G g R n c rs l w hn1 hn hGg hGR hown q hr hl)
 clear hown q hr hl hn1 hGg hGR
 go_enter Tryz.func90,Tryz.ntmps90
 go_wp2_with fail
 refine HC.out.mono ?_
 rintro e w1 ⟨rfl,h1,h2,h3⟩
 go_wp2_with fail
 go_end0
 exact ⟨rfl,h1,h2,h3⟩
end Go.Proofs.YteajibbphcfmeaaGreatDoor
