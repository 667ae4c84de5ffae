/- Contracts of the reference's integers: minus, times, plus. -/
import Derived.Test.YtmkihdjolnlccaaGreatDoorQAd2
import Derived.Test.YtmkihdjolnlccaaGreatDoorQRb8
import Derived.Deep.RegionHeld3
namespace Go.Proofs.YtmkihdjolnlccaaGreatDoor
open Go.RowKit Dn
theorem zdB {g:Nat} (w:World) (u v:Value) {q:Addr} (h:g≠q.block):((w.setCell ⟨g,0,none⟩ u).setCell ⟨g,1,none⟩ v).cell? q=w.cell? q:=by
 rw [World.cell?_setCell_far _ _ _ _ (by exact h),World.cell?_setCell_far _ _ _ _ (by exact h)]
theorem zjB (b1 b2:Bool) (x y:Nat):sgn (!b1==b2) (x*y)=sgn b1 x*sgn b2 y:=by
 unfold sgn
 cases b1<;>cases b2<;>simp [Int.natCast_mul,Int.neg_mul,Int.mul_neg]
theorem ze2 {w:World} {A:Option Addr} {n c x y m k:Nat} (h:DigI w A n c (digs (x*y))) (hx:(digs x).length=m) (hy:(digs y).length=k):n≤m+k:=by
 rw [←h.len]
 refine digs_length_le ?_
 rw [Nat.pow_add]
 have h1:=zaa x
 have h2:=zaa y
 rw [hx] at h1
 rw [hy] at h2
 exact Nat.mul_lt_mul'' h1 h2
set_option maxHeartbeats 4000000 in
set_option maxRecDepth 100000 in
theorem zcO (b1 b2:Bool) (x1 x2:Nat) (A1 A2:Option Addr) (n1 c1 n2 c2:Nat) (w:World) (h1:DigI w A1 n1 c1 (digs x1)) (h2:DigI w A2 n2 c2 (digs x2)) (k1:n1≤524288) (k2:n2≤524288) :
  Calls Tryz.prog 105 #[.agg #[.bool b1,.slice A1 n1 c1],.agg #[.bool b2,.slice A2 n2 c2]] w (RetZ w (sgn b1 x1*sgn b2 x2)):=by
 rw [←zjB]
 go_enter Tryz.func105,Tryz.ntmps105
 go_wp2_with fail
 have hb3:Below w.heap.size w (((w.alloc (.cells #[.bool b1,.slice A1 n1 c1] 152)).alloc (.cells #[.bool b2,.slice A2 n2 c2] 152)).alloc (.cells #[.bool false,.slice none 0 0] 152)):=
  (((Below.refl _ _).alloc (Nat.le_refl _) _).alloc (by simp) _).alloc (by simp;omega) _
 have hx0:CBlk (((w.alloc (.cells #[.bool b1,.slice A1 n1 c1] 152)).alloc (.cells #[.bool b2,.slice A2 n2 c2] 152)).alloc (.cells #[.bool false,.slice none 0 0] 152)) w.heap.size #[.bool b1,.slice A1 n1 c1] 152:=
  (((CBlk.new w _ _ _ rfl).below ((Below.refl _ _).alloc (Nat.le_refl _) _) (by simp))).below ((Below.refl _ _).alloc (Nat.le_refl _) _) (by simp;omega)
 have hx1:CBlk (((w.alloc (.cells #[.bool b1,.slice A1 n1 c1] 152)).alloc (.cells #[.bool b2,.slice A2 n2 c2] 152)).alloc (.cells #[.bool false,.slice none 0 0] 152)) (w.heap.size+1) #[.bool b2,.slice A2 n2 c2] 152:=
  (CBlk.new (w.alloc (.cells #[.bool b1,.slice A1 n1 c1] 152)) #[.bool b2,.slice A2 n2 c2] 152 (w.heap.size+1) (by simp)).below ((Below.refl _ _).alloc (Nat.le_refl _) _) (by simp)
 have hx2:CBlk (((w.alloc (.cells #[.bool b1,.slice A1 n1 c1] 152)).alloc (.cells #[.bool b2,.slice A2 n2 c2] 152)).alloc (.cells #[.bool false,.slice none 0 0] 152)) (w.heap.size+1+1) #[.bool false,.slice none 0 0] 152:=CBlk.new ((w.alloc (.cells #[.bool b1,.slice A1 n1 c1] 152)).alloc (.cells #[.bool b2,.slice A2 n2 c2] 152)) _ _ (w.heap.size+1+1) (by simp)
 generalize (((w.alloc (.cells #[.bool b1,.slice A1 n1 c1] 152)).alloc (.cells #[.bool b2,.slice A2 n2 c2] 152)).alloc (.cells #[.bool false,.slice none 0 0] 152))=w3 at *
 have a0:w3.cell? ⟨w.heap.size,0,none⟩=some (.bool b1):=hx0.cell 0
 have a1:w3.cell? ⟨w.heap.size,1,none⟩=some (.slice A1 n1 c1):=hx0.cell 1
 have q0:w3.cell? ⟨w.heap.size+1,0,none⟩=some (.bool b2):=hx1.cell 0
 have q1:w3.cell? ⟨w.heap.size+1,1,none⟩=some (.slice A2 n2 c2):=hx1.cell 1
 have al:=hx0.lt
 have bl:=hx1.lt
 have cl:=hx2.lt
 have hb3d:Below w.heap.size w w3.drew:=hb3.drew
 have hx2d:CBlk w3.drew (w.heap.size+1+1) #[.bool false,.slice none 0 0] 152:=hx2
 have HT1:=Lib.hid (zcB A1 A2 n1 c1 n2 c2 x1 x2 w3.drew (h1.later hb3d) (h2.later hb3d) (by omega) (by omega))
 have hl1:=Lib.hid h1.len
 have hl2:=Lib.hid h2.len
 go_region_held3 (fun w'=>w'.cell? ⟨w.heap.size,0,none⟩=some (.bool b1)∧w'.cell? ⟨w.heap.size,1,none⟩=some (.slice A1 n1 c1)∧w'.cell? ⟨w.heap.size+1,0,none⟩=some (.bool b2)∧w'.cell? ⟨w.heap.size+1,1,none⟩=some (.slice A2 n2 c2))
  (first | exact ⟨a0,a1,q0,q1⟩ | exact ⟨((hb5.cell (p:=⟨w.heap.size,0,none⟩) (al)).trans a0),((hb5.cell (p:=⟨w.heap.size,1,none⟩) (al)).trans a1),((hb5.cell (p:=⟨w.heap.size+1,0,none⟩) (bl)).trans q0),((hb5.cell (p:=⟨w.heap.size+1,1,none⟩) (bl)).trans q1)⟩ | exact ⟨((hb6.cell (p:=⟨w.heap.size,0,none⟩) (al6)).trans ((hb5.cell (p:=⟨w.heap.size,0,none⟩) (al)).trans a0)),((hb6.cell (p:=⟨w.heap.size,1,none⟩) (al6)).trans ((hb5.cell (p:=⟨w.heap.size,1,none⟩) (al)).trans a1)),((hb6.cell (p:=⟨w.heap.size+1,0,none⟩) (bl6)).trans ((hb5.cell (p:=⟨w.heap.size+1,0,none⟩) (bl)).trans q0)),((hb6.cell (p:=⟨w.heap.size+1,1,none⟩) (bl6)).trans ((hb5.cell (p:=⟨w.heap.size+1,1,none⟩) (bl)).trans q1))⟩ | exact ⟨((zdB _ _ _ (by dsimp only;omega)).trans ((hb6.cell (p:=⟨w.heap.size,0,none⟩) (al6)).trans ((hb5.cell (p:=⟨w.heap.size,0,none⟩) (al)).trans a0))),((zdB _ _ _ (by dsimp only;omega)).trans ((hb6.cell (p:=⟨w.heap.size,1,none⟩) (al6)).trans ((hb5.cell (p:=⟨w.heap.size,1,none⟩) (al)).trans a1))),((zdB _ _ _ (by dsimp only;omega)).trans ((hb6.cell (p:=⟨w.heap.size+1,0,none⟩) (bl6)).trans ((hb5.cell (p:=⟨w.heap.size+1,0,none⟩) (bl)).trans q0))),((zdB _ _ _ (by dsimp only;omega)).trans ((hb6.cell (p:=⟨w.heap.size+1,1,none⟩) (bl6)).trans ((hb5.cell (p:=⟨w.heap.size+1,1,none⟩) (bl)).trans q1)))⟩)
  (first
   |(go_at_call 176;refine (HT1.out).mono ?_;rintro e w4 ⟨A5,m5,c5,rfl,hd5,hb5⟩;have hm5:=ze2 hd5 hl1.out hl2.out;have al6:=Nat.lt_of_lt_of_le al hb5.size;have bl6:=Nat.lt_of_lt_of_le bl hb5.size)
   |(go_at_call 172;refine (zbe _ A5 m5 c5 _ w4 hd5 (by omega)).mono ?_;rintro e w6 ⟨A6,m6,c6,rfl,hd6,hb6⟩;have hk6:=(hx2d.below hb5 cl).below hb6 (Nat.lt_of_lt_of_le cl hb5.size);have e0:=hk6.cell 0;have e1:=hk6.cell 1;have g0:=hk6.frozen 0;have g1:=hk6.frozen 1))
 go_wp2_with fail
 have k0:w6.cell? ⟨w.heap.size+1+1,0,none⟩=some (.bool false):=e0
 have k1':w6.cell? ⟨w.heap.size+1+1,1,none⟩=some (.slice none 0 0):=e1
 have hB:=hb3d.trans ((hb5.trans (hb6.mono hb5.size)).mono hb3d.size)
 refine bodyPost_ret (v := .agg #[.bool (decide (sgn (!b1==b2) (val (digs (x1*x2)))<0)),.slice A6 m6 c6]) (by simp [results,Tryz.results105,go_sem,k0,k1']) rfl ?_
 rw [zai] at hd6 ⊢
 exact ⟨A6,m6,c6,rfl,hd6.box hk6 _ _,zbc hB (by omega) _ _⟩
theorem zp7 (b:Bool) (x y:Nat):sgn b x+sgn b y=sgn b (x+y):=by
 unfold sgn
 cases b<;>simp<;>omega
theorem ztq (b:Bool) (x y:Nat) (h:y≤x):sgn b x+sgn (!b) y=sgn b (x - y):=by
 unfold sgn
 cases b<;>simp<;>omega
theorem ztF (b:Bool) (x y:Nat) (h:x≤y):sgn b x+sgn (!b) y=sgn (!b) (y - x):=by
 unfold sgn
 cases b<;>simp<;>omega
set_option maxHeartbeats 4000000 in
set_option maxRecDepth 100000 in
theorem zlL (b:Bool) (x1 x2:Nat) (A1 A2:Option Addr) (n1 c1 n2 c2:Nat) (w:World) (h1:DigI w A1 n1 c1 (digs x1)) (h2:DigI w A2 n2 c2 (digs x2)) (k1:n1≤524288) (k2:n2≤524288) :
  Calls Tryz.prog 104 #[.agg #[.bool b,.slice A1 n1 c1],.agg #[.bool b,.slice A2 n2 c2]] w (RetZ w (sgn b x1+sgn b x2)):=by
 rw [zp7]
 go_enter Tryz.func104,Tryz.ntmps104
 go_upto_region 2 with (fail)
 have hb3:Below w.heap.size w (((w.alloc (.cells #[.bool b,.slice A1 n1 c1] 152)).alloc (.cells #[.bool b,.slice A2 n2 c2] 152)).alloc (.cells #[.bool false,.slice none 0 0] 152)):=
  (((Below.refl _ _).alloc (Nat.le_refl _) _).alloc (by simp) _).alloc (by simp;omega) _
 have hx0:CBlk (((w.alloc (.cells #[.bool b,.slice A1 n1 c1] 152)).alloc (.cells #[.bool b,.slice A2 n2 c2] 152)).alloc (.cells #[.bool false,.slice none 0 0] 152)) w.heap.size #[.bool b,.slice A1 n1 c1] 152:=
  (((CBlk.new w _ _ _ rfl).below ((Below.refl _ _).alloc (Nat.le_refl _) _) (by simp))).below ((Below.refl _ _).alloc (Nat.le_refl _) _) (by simp;omega)
 have hx1:CBlk (((w.alloc (.cells #[.bool b,.slice A1 n1 c1] 152)).alloc (.cells #[.bool b,.slice A2 n2 c2] 152)).alloc (.cells #[.bool false,.slice none 0 0] 152)) (w.heap.size+1) #[.bool b,.slice A2 n2 c2] 152:=
  (CBlk.new (w.alloc (.cells #[.bool b,.slice A1 n1 c1] 152)) #[.bool b,.slice A2 n2 c2] 152 (w.heap.size+1) (by simp)).below ((Below.refl _ _).alloc (Nat.le_refl _) _) (by simp)
 have hx2:CBlk (((w.alloc (.cells #[.bool b,.slice A1 n1 c1] 152)).alloc (.cells #[.bool b,.slice A2 n2 c2] 152)).alloc (.cells #[.bool false,.slice none 0 0] 152)) (w.heap.size+1+1) #[.bool false,.slice none 0 0] 152:=CBlk.new ((w.alloc (.cells #[.bool b,.slice A1 n1 c1] 152)).alloc (.cells #[.bool b,.slice A2 n2 c2] 152)) _ _ (w.heap.size+1+1) (by simp)
 generalize (((w.alloc (.cells #[.bool b,.slice A1 n1 c1] 152)).alloc (.cells #[.bool b,.slice A2 n2 c2] 152)).alloc (.cells #[.bool false,.slice none 0 0] 152))=w3 at *
 have a0:w3.cell? ⟨w.heap.size,0,none⟩=some (.bool b):=hx0.cell 0
 have a1:w3.cell? ⟨w.heap.size,1,none⟩=some (.slice A1 n1 c1):=hx0.cell 1
 have q0:w3.cell? ⟨w.heap.size+1,0,none⟩=some (.bool b):=hx1.cell 0
 have q1:w3.cell? ⟨w.heap.size+1,1,none⟩=some (.slice A2 n2 c2):=hx1.cell 1
 have al:=hx0.lt
 have bl:=hx1.lt
 have cl:=hx2.lt
 have hb3d:Below w.heap.size w w3.drew:=hb3.drew
 have hx2d:CBlk w3.drew (w.heap.size+1+1) #[.bool false,.slice none 0 0] 152:=hx2
 have HT1:=Lib.hid (zgB A1 A2 n1 c1 n2 c2 (digs x1) (digs x2) w3.drew (h1.later hb3d) (h2.later hb3d) (by omega) (by omega))
 go_region_held3 (fun w'=>w'.cell? ⟨w.heap.size,0,none⟩=some (.bool b)∧w'.cell? ⟨w.heap.size,1,none⟩=some (.slice A1 n1 c1)∧w'.cell? ⟨w.heap.size+1,0,none⟩=some (.bool b)∧w'.cell? ⟨w.heap.size+1,1,none⟩=some (.slice A2 n2 c2))
  (first | exact ⟨a0,a1,q0,q1⟩ | exact ⟨((hb5.cell (p:=⟨w.heap.size,0,none⟩) (al)).trans a0),((hb5.cell (p:=⟨w.heap.size,1,none⟩) (al)).trans a1),((hb5.cell (p:=⟨w.heap.size+1,0,none⟩) (bl)).trans q0),((hb5.cell (p:=⟨w.heap.size+1,1,none⟩) (bl)).trans q1)⟩ | exact ⟨((hb6.cell (p:=⟨w.heap.size,0,none⟩) (al6)).trans ((hb5.cell (p:=⟨w.heap.size,0,none⟩) (al)).trans a0)),((hb6.cell (p:=⟨w.heap.size,1,none⟩) (al6)).trans ((hb5.cell (p:=⟨w.heap.size,1,none⟩) (al)).trans a1)),((hb6.cell (p:=⟨w.heap.size+1,0,none⟩) (bl6)).trans ((hb5.cell (p:=⟨w.heap.size+1,0,none⟩) (bl)).trans q0)),((hb6.cell (p:=⟨w.heap.size+1,1,none⟩) (bl6)).trans ((hb5.cell (p:=⟨w.heap.size+1,1,none⟩) (bl)).trans q1))⟩ | exact ⟨((zdB _ _ _ (by dsimp only;omega)).trans ((hb6.cell (p:=⟨w.heap.size,0,none⟩) (al6)).trans ((hb5.cell (p:=⟨w.heap.size,0,none⟩) (al)).trans a0))),((zdB _ _ _ (by dsimp only;omega)).trans ((hb6.cell (p:=⟨w.heap.size,1,none⟩) (al6)).trans ((hb5.cell (p:=⟨w.heap.size,1,none⟩) (al)).trans a1))),((zdB _ _ _ (by dsimp only;omega)).trans ((hb6.cell (p:=⟨w.heap.size+1,0,none⟩) (bl6)).trans ((hb5.cell (p:=⟨w.heap.size+1,0,none⟩) (bl)).trans q0))),((zdB _ _ _ (by dsimp only;omega)).trans ((hb6.cell (p:=⟨w.heap.size+1,1,none⟩) (bl6)).trans ((hb5.cell (p:=⟨w.heap.size+1,1,none⟩) (bl)).trans q1)))⟩)
  (first
   |(go_at_call 173;refine (HT1.out).mono ?_;rintro e w4 ⟨A5,m5,c5,ls,rfl,hd5,hm5,hv5,hb5⟩;have HV5:=Lib.hid hv5;clear hv5;have al6:=Nat.lt_of_lt_of_le al hb5.size;have bl6:=Nat.lt_of_lt_of_le bl hb5.size)
   |(go_at_call 172;refine (zbe _ A5 m5 c5 _ w4 hd5 (by omega)).mono ?_;rintro e w6 ⟨A6,m6,c6,rfl,hd6,hb6⟩;have hk6:=(hx2d.below hb5 cl).below hb6 (Nat.lt_of_lt_of_le cl hb5.size);have e0:=hk6.cell 0;have e1:=hk6.cell 1;have g0:=hk6.frozen 0;have g1:=hk6.frozen 1))
 go_wp2_with fail
 have k0:w6.cell? ⟨w.heap.size+1+1,0,none⟩=some (.bool false):=e0
 have k1':w6.cell? ⟨w.heap.size+1+1,1,none⟩=some (.slice none 0 0):=e1
 have hB:=hb3d.trans ((hb5.trans (hb6.mono hb5.size)).mono hb3d.size)
 refine bodyPost_ret (v := .agg #[.bool (decide (sgn b (val ls)<0)),.slice A6 m6 c6]) (by simp [results,Tryz.results104,go_sem,k0,k1']) rfl ?_
 have hv5:=HV5.out
 rw [zai,zai] at hv5
 rw [←hv5]
 exact ⟨A6,m6,c6,rfl,hd6.box hk6 _ _,zbc hB (by omega) _ _⟩
set_option maxHeartbeats 4000000 in
set_option maxRecDepth 100000 in
theorem zqa (b:Bool) (x1 x2:Nat) (A1 A2:Option Addr) (n1 c1 n2 c2:Nat) (w:World) (h1:DigI w A1 n1 c1 (digs x1)) (h2:DigI w A2 n2 c2 (digs x2)) (k1:n1≤524288) (k2:n2≤524288) (hx:x2≤x1) :
  Calls Tryz.prog 104 #[.agg #[.bool b,.slice A1 n1 c1],.agg #[.bool (!b),.slice A2 n2 c2]] w (RetZ w (sgn b x1+sgn (!b) x2)):=by
 rw [ztq b x1 x2 hx]
 have hbb:(b == !b)=false:=by cases b<;>rfl
 obtain ⟨r,hr0,hr⟩:∃ r:Int,0≤r∧Bn.ncmp x1 x2=r:=⟨Bn.ncmp x1 x2,by rcases Nat.lt_or_ge x2 x1 with h | h;(· rw [Bn.ncmp_gt h];decide);(· rw [show x1=x2 from by omega,Bn.ncmp_eq];exact Int.le_refl 0),rfl⟩
 have d0:decide (0≤r)=true:=by simpa using hr0
 have HR:=Lib.hid hr
 have HHX:=Lib.hid hx
 clear hr hx hr0
 go_enter Tryz.func104,Tryz.ntmps104
 go_wp2_with fail
 have hb3:Below w.heap.size w (((w.alloc (.cells #[.bool b,.slice A1 n1 c1] 152)).alloc (.cells #[.bool (!b),.slice A2 n2 c2] 152)).alloc (.cells #[.bool false,.slice none 0 0] 152)):=
  (((Below.refl _ _).alloc (Nat.le_refl _) _).alloc (by simp) _).alloc (by simp;omega) _
 have hx0:CBlk (((w.alloc (.cells #[.bool b,.slice A1 n1 c1] 152)).alloc (.cells #[.bool (!b),.slice A2 n2 c2] 152)).alloc (.cells #[.bool false,.slice none 0 0] 152)) w.heap.size #[.bool b,.slice A1 n1 c1] 152:=
  (((CBlk.new w _ _ _ rfl).below ((Below.refl _ _).alloc (Nat.le_refl _) _) (by simp))).below ((Below.refl _ _).alloc (Nat.le_refl _) _) (by simp;omega)
 have hx1:CBlk (((w.alloc (.cells #[.bool b,.slice A1 n1 c1] 152)).alloc (.cells #[.bool (!b),.slice A2 n2 c2] 152)).alloc (.cells #[.bool false,.slice none 0 0] 152)) (w.heap.size+1) #[.bool (!b),.slice A2 n2 c2] 152:=
  (CBlk.new (w.alloc (.cells #[.bool b,.slice A1 n1 c1] 152)) #[.bool (!b),.slice A2 n2 c2] 152 (w.heap.size+1) (by simp)).below ((Below.refl _ _).alloc (Nat.le_refl _) _) (by simp)
 have hx2:CBlk (((w.alloc (.cells #[.bool b,.slice A1 n1 c1] 152)).alloc (.cells #[.bool (!b),.slice A2 n2 c2] 152)).alloc (.cells #[.bool false,.slice none 0 0] 152)) (w.heap.size+1+1) #[.bool false,.slice none 0 0] 152:=CBlk.new ((w.alloc (.cells #[.bool b,.slice A1 n1 c1] 152)).alloc (.cells #[.bool (!b),.slice A2 n2 c2] 152)) _ _ (w.heap.size+1+1) (by simp)
 generalize (((w.alloc (.cells #[.bool b,.slice A1 n1 c1] 152)).alloc (.cells #[.bool (!b),.slice A2 n2 c2] 152)).alloc (.cells #[.bool false,.slice none 0 0] 152))=w3 at *
 have a0:w3.cell? ⟨w.heap.size,0,none⟩=some (.bool b):=hx0.cell 0
 have a1:w3.cell? ⟨w.heap.size,1,none⟩=some (.slice A1 n1 c1):=hx0.cell 1
 have q0:w3.cell? ⟨w.heap.size+1,0,none⟩=some (.bool (!b)):=hx1.cell 0
 have q1:w3.cell? ⟨w.heap.size+1,1,none⟩=some (.slice A2 n2 c2):=hx1.cell 1
 have al:=hx0.lt
 have bl:=hx1.lt
 have cl:=hx2.lt
 have hb3d:Below w.heap.size w w3.drew:=hb3.drew
 have hx2d:CBlk w3.drew (w.heap.size+1+1) #[.bool false,.slice none 0 0] 152:=hx2
 have hc:=zb3 A1 A2 n1 c1 n2 c2 x1 x2 w3 (h1.later hb3).rd (h2.later hb3).rd (by omega) (by omega)
 rw [HR.out] at hc
 have HC:=Lib.hid hc
 clear hc hb3d hx2d
 go_wp2_with fail
 refine HC.out.mono ?_
 rintro e wc ⟨rfl,hbc⟩
 replace a0:=(hbc.cell (p:=⟨w.heap.size,0,none⟩) al).trans a0
 replace a1:=(hbc.cell (p:=⟨w.heap.size,1,none⟩) al).trans a1
 replace q0:=(hbc.cell (p:=⟨w.heap.size+1,0,none⟩) bl).trans q0
 replace q1:=(hbc.cell (p:=⟨w.heap.size+1,1,none⟩) bl).trans q1
 replace hx2:=hx2.below hbc cl
 replace hb3:=hb3.trans (hbc.mono hb3.size)
 replace al:=Nat.lt_of_lt_of_le al hbc.size
 replace bl:=Nat.lt_of_lt_of_le bl hbc.size
 replace cl:=Nat.lt_of_lt_of_le cl hbc.size
 clear hx0 hx1 hbc HC
 have hb3d:Below w.heap.size w wc.drew:=hb3.drew
 have hx2d:CBlk wc.drew (w.heap.size+1+1) #[.bool false,.slice none 0 0] 152:=hx2
 have HT1:=Lib.hid (zdI A1 A2 n1 c1 n2 c2 x1 x2 wc.drew (h1.later hb3d) (h2.later hb3d) HHX.out (by omega) (by omega))
 go_upto_region 4 with (fail)
 have hl5:Hid (∀ m,(digs (x1 - x2)).length=m→m≤524288):=fun m h=>by
  have h9:=zac (Nat.sub_le x1 x2)
  have h8:=h1.len
  omega
 go_region_held3 (fun w'=>w'.cell? ⟨w.heap.size,0,none⟩=some (.bool b)∧w'.cell? ⟨w.heap.size,1,none⟩=some (.slice A1 n1 c1)∧w'.cell? ⟨w.heap.size+1,0,none⟩=some (.bool (!b))∧w'.cell? ⟨w.heap.size+1,1,none⟩=some (.slice A2 n2 c2))
  (first | exact ⟨a0,a1,q0,q1⟩ | exact ⟨((hb5.cell (p:=⟨w.heap.size,0,none⟩) (al)).trans a0),((hb5.cell (p:=⟨w.heap.size,1,none⟩) (al)).trans a1),((hb5.cell (p:=⟨w.heap.size+1,0,none⟩) (bl)).trans q0),((hb5.cell (p:=⟨w.heap.size+1,1,none⟩) (bl)).trans q1)⟩ | exact ⟨((hb6.cell (p:=⟨w.heap.size,0,none⟩) (al6)).trans ((hb5.cell (p:=⟨w.heap.size,0,none⟩) (al)).trans a0)),((hb6.cell (p:=⟨w.heap.size,1,none⟩) (al6)).trans ((hb5.cell (p:=⟨w.heap.size,1,none⟩) (al)).trans a1)),((hb6.cell (p:=⟨w.heap.size+1,0,none⟩) (bl6)).trans ((hb5.cell (p:=⟨w.heap.size+1,0,none⟩) (bl)).trans q0)),((hb6.cell (p:=⟨w.heap.size+1,1,none⟩) (bl6)).trans ((hb5.cell (p:=⟨w.heap.size+1,1,none⟩) (bl)).trans q1))⟩ | exact ⟨((zdB _ _ _ (by dsimp only;omega)).trans ((hb6.cell (p:=⟨w.heap.size,0,none⟩) (al6)).trans ((hb5.cell (p:=⟨w.heap.size,0,none⟩) (al)).trans a0))),((zdB _ _ _ (by dsimp only;omega)).trans ((hb6.cell (p:=⟨w.heap.size,1,none⟩) (al6)).trans ((hb5.cell (p:=⟨w.heap.size,1,none⟩) (al)).trans a1))),((zdB _ _ _ (by dsimp only;omega)).trans ((hb6.cell (p:=⟨w.heap.size+1,0,none⟩) (bl6)).trans ((hb5.cell (p:=⟨w.heap.size+1,0,none⟩) (bl)).trans q0))),((zdB _ _ _ (by dsimp only;omega)).trans ((hb6.cell (p:=⟨w.heap.size+1,1,none⟩) (bl6)).trans ((hb5.cell (p:=⟨w.heap.size+1,1,none⟩) (bl)).trans q1)))⟩)
  (first
   |(go_at_call 175;refine (HT1.out).mono ?_;rintro e w4 ⟨A5,m5,c5,rfl,hd5,hb5⟩;have hm5:=hl5.out m5 hd5.len;have al6:=Nat.lt_of_lt_of_le al hb5.size;have bl6:=Nat.lt_of_lt_of_le bl hb5.size)
   |(go_at_call 172;refine (zbe _ A5 m5 c5 _ w4 hd5 (by omega)).mono ?_;rintro e w6 ⟨A6,m6,c6,rfl,hd6,hb6⟩;have hk6:=(hx2d.below hb5 cl).below hb6 (Nat.lt_of_lt_of_le cl hb5.size);have e0:=hk6.cell 0;have e1:=hk6.cell 1;have g0:=hk6.frozen 0;have g1:=hk6.frozen 1))
 go_wp2_with fail
 have k0:w6.cell? ⟨w.heap.size+1+1,0,none⟩=some (.bool false):=e0
 have k1':w6.cell? ⟨w.heap.size+1+1,1,none⟩=some (.slice none 0 0):=e1
 have hB:=hb3d.trans ((hb5.trans (hb6.mono hb5.size)).mono hb3d.size)
 refine bodyPost_ret (v := .agg #[.bool (decide (sgn b (val (digs (x1 - x2)))<0)),.slice A6 m6 c6]) (by simp [results,Tryz.results104,go_sem,k0,k1']) rfl ?_
 rw [zai] at hd6 ⊢
 exact ⟨A6,m6,c6,rfl,hd6.box hk6 _ _,zbc hB (by omega) _ _⟩
set_option maxHeartbeats 4000000 in
set_option maxRecDepth 100000 in
theorem zqB (b:Bool) (x1 x2:Nat) (A1 A2:Option Addr) (n1 c1 n2 c2:Nat) (w:World) (h1:DigI w A1 n1 c1 (digs x1)) (h2:DigI w A2 n2 c2 (digs x2)) (k1:n1≤524288) (k2:n2≤524288) (hx:x1<x2) :
  Calls Tryz.prog 104 #[.agg #[.bool b,.slice A1 n1 c1],.agg #[.bool (!b),.slice A2 n2 c2]] w (RetZ w (sgn b x1+sgn (!b) x2)):=by
 rw [ztF b x1 x2 (Nat.le_of_lt hx)]
 have hbb:(b == !b)=false:=by cases b<;>rfl
 obtain ⟨r,hr0,hr⟩:∃ r:Int,r<0∧Bn.ncmp x1 x2=r:=⟨Bn.ncmp x1 x2,by rw [Bn.ncmp_lt hx];decide,rfl⟩
 have d0:decide (0≤r)=false:=by simp;omega
 have HR:=Lib.hid hr
 have HHX:=Lib.hid hx
 clear hr hx hr0
 go_enter Tryz.func104,Tryz.ntmps104
 go_wp2_with fail
 have hb3:Below w.heap.size w (((w.alloc (.cells #[.bool b,.slice A1 n1 c1] 152)).alloc (.cells #[.bool (!b),.slice A2 n2 c2] 152)).alloc (.cells #[.bool false,.slice none 0 0] 152)):=
  (((Below.refl _ _).alloc (Nat.le_refl _) _).alloc (by simp) _).alloc (by simp;omega) _
 have hx0:CBlk (((w.alloc (.cells #[.bool b,.slice A1 n1 c1] 152)).alloc (.cells #[.bool (!b),.slice A2 n2 c2] 152)).alloc (.cells #[.bool false,.slice none 0 0] 152)) w.heap.size #[.bool b,.slice A1 n1 c1] 152:=
  (((CBlk.new w _ _ _ rfl).below ((Below.refl _ _).alloc (Nat.le_refl _) _) (by simp))).below ((Below.refl _ _).alloc (Nat.le_refl _) _) (by simp;omega)
 have hx1:CBlk (((w.alloc (.cells #[.bool b,.slice A1 n1 c1] 152)).alloc (.cells #[.bool (!b),.slice A2 n2 c2] 152)).alloc (.cells #[.bool false,.slice none 0 0] 152)) (w.heap.size+1) #[.bool (!b),.slice A2 n2 c2] 152:=
  (CBlk.new (w.alloc (.cells #[.bool b,.slice A1 n1 c1] 152)) #[.bool (!b),.slice A2 n2 c2] 152 (w.heap.size+1) (by simp)).below ((Below.refl _ _).alloc (Nat.le_refl _) _) (by simp)
 have hx2:CBlk (((w.alloc (.cells #[.bool b,.slice A1 n1 c1] 152)).alloc (.cells #[.bool (!b),.slice A2 n2 c2] 152)).alloc (.cells #[.bool false,.slice none 0 0] 152)) (w.heap.size+1+1) #[.bool false,.slice none 0 0] 152:=CBlk.new ((w.alloc (.cells #[.bool b,.slice A1 n1 c1] 152)).alloc (.cells #[.bool (!b),.slice A2 n2 c2] 152)) _ _ (w.heap.size+1+1) (by simp)
 generalize (((w.alloc (.cells #[.bool b,.slice A1 n1 c1] 152)).alloc (.cells #[.bool (!b),.slice A2 n2 c2] 152)).alloc (.cells #[.bool false,.slice none 0 0] 152))=w3 at *
 have a0:w3.cell? ⟨w.heap.size,0,none⟩=some (.bool b):=hx0.cell 0
 have a1:w3.cell? ⟨w.heap.size,1,none⟩=some (.slice A1 n1 c1):=hx0.cell 1
 have q0:w3.cell? ⟨w.heap.size+1,0,none⟩=some (.bool (!b)):=hx1.cell 0
 have q1:w3.cell? ⟨w.heap.size+1,1,none⟩=some (.slice A2 n2 c2):=hx1.cell 1
 have al:=hx0.lt
 have bl:=hx1.lt
 have cl:=hx2.lt
 have hb3d:Below w.heap.size w w3.drew:=hb3.drew
 have hx2d:CBlk w3.drew (w.heap.size+1+1) #[.bool false,.slice none 0 0] 152:=hx2
 have hc:=zb3 A1 A2 n1 c1 n2 c2 x1 x2 w3 (h1.later hb3).rd (h2.later hb3).rd (by omega) (by omega)
 rw [HR.out] at hc
 have HC:=Lib.hid hc
 clear hc hb3d hx2d
 go_wp2_with fail
 refine HC.out.mono ?_
 rintro e wc ⟨rfl,hbc⟩
 replace a0:=(hbc.cell (p:=⟨w.heap.size,0,none⟩) al).trans a0
 replace a1:=(hbc.cell (p:=⟨w.heap.size,1,none⟩) al).trans a1
 replace q0:=(hbc.cell (p:=⟨w.heap.size+1,0,none⟩) bl).trans q0
 replace q1:=(hbc.cell (p:=⟨w.heap.size+1,1,none⟩) bl).trans q1
 replace hx2:=hx2.below hbc cl
 replace hb3:=hb3.trans (hbc.mono hb3.size)
 replace al:=Nat.lt_of_lt_of_le al hbc.size
 replace bl:=Nat.lt_of_lt_of_le bl hbc.size
 replace cl:=Nat.lt_of_lt_of_le cl hbc.size
 clear hx0 hx1 hbc HC
 have hb3d:Below w.heap.size w wc.drew:=hb3.drew
 have hx2d:CBlk wc.drew (w.heap.size+1+1) #[.bool false,.slice none 0 0] 152:=hx2
 have HT1:=Lib.hid (zdI A2 A1 n2 c2 n1 c1 x2 x1 wc.drew (h2.later hb3d) (h1.later hb3d) (Nat.le_of_lt HHX.out) (by omega) (by omega))
 go_upto_region 5 with (fail)
 have hl5:Hid (∀ m,(digs (x2 - x1)).length=m→m≤524288):=fun m h=>by
  have h9:=zac (Nat.sub_le x2 x1)
  have h8:=h2.len
  omega
 go_region_held3 (fun w'=>w'.cell? ⟨w.heap.size,0,none⟩=some (.bool b)∧w'.cell? ⟨w.heap.size,1,none⟩=some (.slice A1 n1 c1)∧w'.cell? ⟨w.heap.size+1,0,none⟩=some (.bool (!b))∧w'.cell? ⟨w.heap.size+1,1,none⟩=some (.slice A2 n2 c2))
  (first | exact ⟨a0,a1,q0,q1⟩ | exact ⟨((hb5.cell (p:=⟨w.heap.size,0,none⟩) (al)).trans a0),((hb5.cell (p:=⟨w.heap.size,1,none⟩) (al)).trans a1),((hb5.cell (p:=⟨w.heap.size+1,0,none⟩) (bl)).trans q0),((hb5.cell (p:=⟨w.heap.size+1,1,none⟩) (bl)).trans q1)⟩ | exact ⟨((hb6.cell (p:=⟨w.heap.size,0,none⟩) (al6)).trans ((hb5.cell (p:=⟨w.heap.size,0,none⟩) (al)).trans a0)),((hb6.cell (p:=⟨w.heap.size,1,none⟩) (al6)).trans ((hb5.cell (p:=⟨w.heap.size,1,none⟩) (al)).trans a1)),((hb6.cell (p:=⟨w.heap.size+1,0,none⟩) (bl6)).trans ((hb5.cell (p:=⟨w.heap.size+1,0,none⟩) (bl)).trans q0)),((hb6.cell (p:=⟨w.heap.size+1,1,none⟩) (bl6)).trans ((hb5.cell (p:=⟨w.heap.size+1,1,none⟩) (bl)).trans q1))⟩ | exact ⟨((zdB _ _ _ (by dsimp only;omega)).trans ((hb6.cell (p:=⟨w.heap.size,0,none⟩) (al6)).trans ((hb5.cell (p:=⟨w.heap.size,0,none⟩) (al)).trans a0))),((zdB _ _ _ (by dsimp only;omega)).trans ((hb6.cell (p:=⟨w.heap.size,1,none⟩) (al6)).trans ((hb5.cell (p:=⟨w.heap.size,1,none⟩) (al)).trans a1))),((zdB _ _ _ (by dsimp only;omega)).trans ((hb6.cell (p:=⟨w.heap.size+1,0,none⟩) (bl6)).trans ((hb5.cell (p:=⟨w.heap.size+1,0,none⟩) (bl)).trans q0))),((zdB _ _ _ (by dsimp only;omega)).trans ((hb6.cell (p:=⟨w.heap.size+1,1,none⟩) (bl6)).trans ((hb5.cell (p:=⟨w.heap.size+1,1,none⟩) (bl)).trans q1)))⟩)
  (first
   |(go_at_call 175;refine (HT1.out).mono ?_;rintro e w4 ⟨A5,m5,c5,rfl,hd5,hb5⟩;have hm5:=hl5.out m5 hd5.len;have al6:=Nat.lt_of_lt_of_le al hb5.size;have bl6:=Nat.lt_of_lt_of_le bl hb5.size)
   |(go_at_call 172;refine (zbe _ A5 m5 c5 _ w4 hd5 (by omega)).mono ?_;rintro e w6 ⟨A6,m6,c6,rfl,hd6,hb6⟩;have hk6:=(hx2d.below hb5 cl).below hb6 (Nat.lt_of_lt_of_le cl hb5.size);have e0:=hk6.cell 0;have e1:=hk6.cell 1;have g0:=hk6.frozen 0;have g1:=hk6.frozen 1))
 go_wp2_with fail
 have k0:w6.cell? ⟨w.heap.size+1+1,0,none⟩=some (.bool false):=e0
 have k1':w6.cell? ⟨w.heap.size+1+1,1,none⟩=some (.slice none 0 0):=e1
 have hB:=hb3d.trans ((hb5.trans (hb6.mono hb5.size)).mono hb3d.size)
 refine bodyPost_ret (v := .agg #[.bool (decide (sgn (!b) (val (digs (x2 - x1)))<0)),.slice A6 m6 c6]) (by simp [results,Tryz.results104,go_sem,k0,k1']) rfl ?_
 rw [zai] at hd6 ⊢
 exact ⟨A6,m6,c6,rfl,hd6.box hk6 _ _,zbc hB (by omega) _ _⟩
theorem zoj (b1 b2:Bool) (x1 x2:Nat) (A1 A2:Option Addr) (n1 c1 n2 c2:Nat) (w:World) (h1:DigI w A1 n1 c1 (digs x1)) (h2:DigI w A2 n2 c2 (digs x2)) (k1:n1≤524288) (k2:n2≤524288) :
  Calls Tryz.prog 104 #[.agg #[.bool b1,.slice A1 n1 c1],.agg #[.bool b2,.slice A2 n2 c2]] w (RetZ w (sgn b1 x1+sgn b2 x2)):=by
 by_cases hb:b2=b1
 ·subst hb
  exact zlL b2 x1 x2 A1 A2 n1 c1 n2 c2 w h1 h2 k1 k2
 ·have e:b2 = !b1:=by cases b1<;>cases b2<;>simp at hb ⊢
  subst e
  rcases Nat.lt_or_ge x1 x2 with h | h
  ·exact zqB b1 x1 x2 A1 A2 n1 c1 n2 c2 w h1 h2 k1 k2 h
  ·exact zqa b1 x1 x2 A1 A2 n1 c1 n2 c2 w h1 h2 k1 k2 h
set_option maxHeartbeats 2000000 in
set_option maxRecDepth 100000 in
theorem zdJ (A A':Option Addr) (n c n' c' x y:Nat) (w:World) (ha:DigI w A n c (digs x)) (hb:DigI w A' n' c' (digs y)) (hn:n≤1048576) (hn':n'≤1048576) :
  Calls Tryz.prog 126 #[.slice A n c,.slice A' n' c'] w (zpF w (Nat.gcd x y)):=by
 go_enter Tryz.func126,Tryz.ntmps126
 go_wp2
 go_loopg [0,1] y (fun q av bv W=>∃ (A:Option Addr) (n c:Nat) (A':Option Addr) (n' c' u v:Nat),av = .slice A n c∧bv = .slice A' n' c'∧DigI W A n c (digs u)∧DigI W A' n' c' (digs v)∧n≤1048576∧n'≤1048576∧Hid (Nat.gcd u v=Nat.gcd x y)∧v≤q∧Below w.heap.size w W)
 case atStart=>exact ⟨A,n,c,A',n',c',x,y,rfl,rfl,ha,hb,hn,hn',rfl,Nat.le_refl _,Below.refl _ _⟩
 case round=>
  obtain ⟨A,n,c,A',n',c',u,v,rfl,rfl,h1,h2,hn,hn',hg,hq,hbel⟩:=hrel
  have hl2:=h2.len
  by_cases hv:v=0
  ·obtain rfl:n'=0:=by rw [←hl2,hv,digs_zero];rfl
   have hgv:Nat.gcd x y=u:=by rw [←hg.out,hv,Nat.gcd_zero_right]
   have HR:Hid (zpF w (Nat.gcd x y) (.returned (.slice A n c)) wr):=⟨A,n,c,rfl,by rw [hgv];exact h1,hbel⟩
   clear hv hgv hl2
   go_wp2
   go_ret
   exact HR.out
  ·have hv0:0<v:=by omega
   have hn0:0<n':=by rw [←hl2];exact zan hv0
   have hmod:=Nat.mod_lt u hv0
   have HO:=Lib.hid (zcx A A' n c n' c' u v wr h1 h2 hv0 hn hn')
   have HG:Hid (Nat.gcd v (u % v)=Nat.gcd x y):=by
    show Nat.gcd v (u % v)=Nat.gcd x y
    rw [←hg.out,Nat.gcd_comm v (u % v),←Nat.gcd_rec,Nat.gcd_comm]
   have HL2:=Lib.hid hl2
   have d1:decide (0<n')=true:=by simpa using hn0
   clear hv hl2
   go_wp2_with fail
   refine HO.out.mono ?_
   rintro e w2 ⟨A3,n3,c3,A4,n4,c4,rfl,hq3,hr4,hb2⟩
   have hn4:n4≤n':=by rw [←hr4.len,←HL2.out];exact zac (Nat.le_of_lt hmod)
   have h2':=h2.later hb2
   generalize u % v=r at *
   go_wp2
   go_roundg r
   case measure=>omega
   case rel=>exact ⟨A',n',c',A4,n4,c4,v,r,rfl,rfl,h2',hr4,hn',by omega,HG.out,Nat.le_refl _,hbel.trans (hb2.mono hbel.size)⟩
theorem zgW {ls:List Nat} {k q n:Nat} (hk:ls.length=k) (h:val ls+B ^ k*q=n):val (ls++[q % B])+B ^ (k+1)*(q / B)=n:=by
 rw [zaJ,zaM,hk,Nat.pow_succ,Nat.mul_assoc,Nat.add_assoc,←Nat.mul_add,Nat.mod_add_div]
 exact h
set_option maxHeartbeats 2000000 in
set_option maxRecDepth 100000 in
theorem zgV (n:Nat) (w:World) (hn:n≤9223372036854775807) :
  Calls Tryz.prog 123 #[.int .i64 (n:Int)] w (RetZ w (n:Int)):=by
 obtain ⟨i0,hi0,hz0,hz1,hz2⟩:=info_parts zbZ
 have hb0:Below w.heap.size w (w.alloc (.cells #[.bool false,.slice none 0 0] 152)):=(Below.refl _ _).alloc (Nat.le_refl _) _
 have hk:=CBlk.new w #[.bool false,.slice none 0 0] 152 _ rfl
 have dn:decide ((n:Int)<0)=false:=by simp
 go_enter Tryz.func123,Tryz.ntmps123
 go_wp2
 generalize (w.alloc (.cells #[.bool false,.slice none 0 0] 152))=w0 at *
 go_loopg [0,3] n (fun g v0 v3 W=>∃ (q k:Nat) (ls:List Nat),v0 = .int .i64 (q:Int)∧q≤g∧q≤9223372036854775807∧k≤100∧q≤9223372036854775807 / 2 ^ k∧W.ownsRow w0.heap.size 3 1 v3 k (ls.map natv)∧Hid (Wf ls∧ls.length=k∧val ls+B ^ k*q=n)∧Below w0.heap.size w0 W)
 case atStart=>exact ⟨n,0,[],rfl,Nat.le_refl _,hn,by omega,by simpa using hn,World.ownsRow_nil _ _ _ _,⟨Wf.nil,rfl,by simp⟩,Below.refl _ _⟩
 case round=>
  obtain ⟨q,k,ls,rfl,hq,hqb,hk9,hqk,hown,hv,hbel⟩:=hrel
  have hsz:=hbel.size
  obtain ⟨hw,hl,hval⟩:=hv.out
  by_cases h0:q=0
  ·subst h0
   rw [Nat.mul_zero,Nat.add_zero] at hval
   obtain ⟨A9,c9,rfl,h91,h92,h93⟩:=zbo hown
   have hs:=zbe false A9 k c9 ls wr ⟨h93,h91,h92,hw⟩ (by omega)
   rw [show sgn false (val ls)=(n:Int) from by rw [hval];rfl] at hs
   have HS:=Lib.hid hs
   have hkb:=hk.below hbel hk.lt
   have hlt:=hk.lt
   clear hs hval hl hw hown h93 hv hqk
   go_wp2_with fail
   refine HS.out.mono ?_
   rintro e w6 ⟨A6,m6,c6,rfl,hd6,hb6⟩
   have hk6:=hkb.below hb6 hkb.lt
   have e0:w6.cell? ⟨w.heap.size,0,none⟩=some (.bool false):=hk6.cell 0
   have e1:w6.cell? ⟨w.heap.size,1,none⟩=some (.slice none 0 0):=hk6.cell 1
   have f0:w6.frozen? ⟨w.heap.size,0,none⟩=false:=hk6.frozen 0
   have f1:w6.frozen? ⟨w.heap.size,1,none⟩=false:=hk6.frozen 1
   have hB:=hb0.trans ((hbel.trans (hb6.mono hbel.size)).mono hb0.size)
   clear hb6
   go_wp2_with fail
   refine bodyPost_ret (v := .agg #[.bool (decide ((n:Int)<0)),.slice A6 m6 c6]) (by simp [results,Tryz.results123,go_sem,e0,e1]) rfl ?_
   exact ⟨A6,m6,c6,rfl,hd6.box hk6 _ _,zbc hB (by omega) _ _⟩
  ·obtain ⟨d,hd⟩:∃ d,d=q % B:=⟨_,rfl⟩
   obtain ⟨q',hq'⟩:∃ q',q'=q / B:=⟨_,rfl⟩
   have hdB:d<B:=by rw [hd];exact Nat.mod_lt _ zaA
   have hdB':d<1000000000:=hdB
   have hq9:q'≤q / 2:=by rw [hq'];unfold B;omega
   have ed:(q:Int) % 1000000000=(d:Int):=by rw [hd];unfold B;omega
   have eq:(q:Int) / 1000000000=(q':Int):=by rw [hq'];unfold B;omega
   have hst:=zgW hl hval
   rw [←hd,←hq'] at hst
   have HI:Hid (Wf (ls++[d])∧(ls++[d]).length=k+1∧val (ls++[d])+B ^ (k+1)*q'=n):=⟨hw.append (Wf.cons hdB Wf.nil),by simp [hl],hst⟩
   have hqk':q'≤9223372036854775807 / 2 ^ (k+1):=by
    rw [Nat.pow_succ,←Nat.div_div_eq_div_mul]
    exact Nat.le_trans hq9 (Nat.div_le_div_right hqk)
   have hk64:k<63:=by
    rcases Nat.lt_or_ge k 63 with h9 | h9
    ·exact h9
    ·exfalso
     have:9223372036854775807 / 2 ^ k≤9223372036854775807 / 2 ^ 63:=Nat.div_le_div_left (Nat.pow_le_pow_right (by omega) h9) (Nat.two_pow_pos _)
     have e63:9223372036854775807 / 2 ^ 63=0:=by decide
     omega
   have HQK:=Lib.hid hqk'
   have d1:((q:Int) != 0)=true:=by rw [bne_iff_ne];omega
   have d2:((q:Int)==0)=false:=by rw [beq_eq_false_iff_ne];omega
   have d3:decide ((d:Int)<0)=false:=by simp
   have hqlt:q'<q:=by omega
   clear hd hq' hst hqk' hqk hval hl hw hv hq9
   go_wp2_with (at_builtin;refine wpList_append_own _ rfl _ _ 35 rfl w0.heap.size 3 i0 (.int .i64 0) 1 8 Tryz.underlying35 hi0 hz0 hz1 hz2 rfl (by decide) _ _ _ rfl (hown.alloc _) ⟨wr.heap.size,0,none⟩ 1 1 [.int .i64 (d:Int)] rfl rfl ?c1 ?c2 ?c3 ?c4 ?c5 ?_)
   case c1=>exact cell_one_new _ _ _
   case c2=>intro u hu;simp at hu;subst hu;rfl
   case c3=>unfold maxLen;omega
   case c4=>omega
   case c5=>simp;omega
   intro v' w2 hown' hgrow _
   have hb2:Below w0.heap.size w0 w2:=(hbel.alloc hsz _).grown hgrow (by simp;omega) (fun g hg=>(World.ownsRow.lt hown g hg).1)
   clear hgrow hown
   go_wp2
   go_roundg q'
   case measure=>omega
   case rel=>exact ⟨q',k+1,ls++[d],rfl,Nat.le_refl _,by omega,by omega,HQK.out,by rw [List.map_append];exact hown',HI.out,hb2⟩
end Go.Proofs.YtmkihdjolnlccaaGreatDoor
