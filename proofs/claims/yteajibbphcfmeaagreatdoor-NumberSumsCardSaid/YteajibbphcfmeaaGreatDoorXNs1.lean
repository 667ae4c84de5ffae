/- NumberSums: plain facts; the law's first and integer; IsZero. -/
import Derived.Test.YteajibbphcfmeaaGreatDoorXKn8
import Derived.Test.YteajibbphcfmeaaGreatDoorXSh5
import Derived.Test.YteajibbphcfmeaaGreatDoorXRc4
import Derived.Test.YteajibbphcfmeaaGreatDoorXSp8
import Derived.Test.YteajibbphcfmeaaGreatDoorXCo8
import Derived.Test.YteajibbphcfmeaaGreatDoorXRat2
import Derived.Test.YteajibbphcfmeaaGreatDoorXSp2
namespace Go.Proofs.YteajibbphcfmeaaGreatDoor
open Go.RowKit Bn Dn
theorem zmX (q:Q):zbQ q=negQ q:=by
 unfold zbQ negQ
 congr 1
 rcases Nat.eq_zero_or_pos q.top with h | h
 ·rw [decide_eq_true h,decide_eq_false (by omega)];rfl
 ·rw [decide_eq_false (by omega),decide_eq_true h];rfl
theorem zjb (p q:Q):subR p q=subQ p q:=by
 unfold subR zaZ;rw [zg2,zmX,zgq]
theorem zje (p q:Q):addR p q=addQ p q:=zg2 p q
theorem zi8 (p q:Q):mulR p q=mulQ p q:=zf3 p q
theorem zmL (p q:Q):divR p q=mulQ p (recS q):=zf3 p (recS q)
theorem zna (p q:Q) (h:q.top=0):zao (divR p q)=6∧zaI (divR p q)=[]:=by
 have e:zao (divR p q)=6:=by
  unfold divR lowQ zao;rw [h,Nat.mul_zero,if_pos rfl];rfl
 refine ⟨e,?_⟩;unfold zaI;rw [e];rfl
theorem zi1 {p q:Q} (hp:LowQ p) (hq:LowQ q):rcmp p q=cmpI p q:=by
 rw [zl6 hp.1 hq.1];obtain ⟨pn,pt,pb⟩:=p;obtain ⟨qn,qt,qb⟩:=q;obtain ⟨p1,_,p3⟩:=hp;obtain ⟨q1,_,q3⟩:=hq
 dsimp only at *
 unfold rcmp sI ncmp
 dsimp only
 have e1:(pt:Int)*(qb:Int)=((pt*qb:Nat):Int):=by rw [Int.natCast_mul]
 have e2:(qt:Int)*(pb:Int)=((qt*pb:Nat):Int):=by rw [Int.natCast_mul]
 cases pn<;>cases qn
 ·simp only [Bool.false_eq_true,if_false,if_true,e1,e2]
  generalize pt*qb=x;generalize qt*pb=y
  split
  ·rw [Int.sign_eq_neg_one_of_neg (by omega)]
  ·split
   ·rename_i h;rw [h,Int.sub_self];rfl
   ·rw [Int.sign_eq_one_of_pos (by omega)]
 ·have hy:0<qt*pb:=Nat.mul_pos (q3 rfl) p1
  simp only [Bool.false_eq_true,if_false,if_true,Int.neg_mul,e1,e2,reduceCtorEq]
  rw [Int.sign_eq_one_of_pos (by omega)]
 ·have hx:0<pt*qb:=Nat.mul_pos (p3 rfl) q1
  simp only [Bool.false_eq_true,if_false,if_true,Int.neg_mul,e1,e2,reduceCtorEq]
  rw [Int.sign_eq_neg_one_of_neg (by omega)]
 ·simp only [if_true,Int.neg_mul,e1,e2]
  generalize pt*qb=x;generalize qt*pb=y
  split
  ·rw [Int.sign_eq_one_of_pos (by omega)];rfl
  ·split
   ·rename_i h;rw [h];simp
   ·rw [Int.sign_eq_neg_one_of_neg (by omega)]
set_option maxHeartbeats 2000000 in
set_option maxRecDepth 100000 in
theorem zeA (x y:Int) (ty:TypeId) (g:Nat) (w:World) (hk:CBlk w g #[.int .i64 x,.int .i64 y] ty) :
  Calls Tryz.prog 9 #[.slice (some ⟨g,0,none⟩) 2 2] w fun e w'=>e = .returned (.int .i64 (err2 x y))∧w=w':=by
 have z0:w.cell? ⟨g,0,none⟩=some (.int .i64 x):=hk.cell 0;have z1:w.cell? ⟨g,1,none⟩=some (.int .i64 y):=hk.cell 1;obtain ⟨E,hE⟩:∃ E,E=err2 x y:=⟨_,rfl⟩;rw [←hE];unfold err2 at hE
 by_cases hx:x=0
 ·rw [if_neg (by omega)] at hE
  subst hE;have dx:(x != 0)=false:=by simpa using hx
  have HX:=Lib.hid hx;clear hx hk
  by_cases hy:E=0
  ·have dy:(E != 0)=false:=by simpa using hy
   have HY:=Lib.hid hy;clear hy;go_enter Tryz.func9,Tryz.ntmps9
   go_wp2
   go_loop [3] (fun s=>∃ k:Nat,k≤2∧s = .int .i64 k) (fun s=>2 - (intOf s).toNat)
   case atStart=>exact ⟨0,by omega,rfl⟩
   case round=>
    obtain ⟨k,hk,rfl⟩:=hrel
    match k,hk with
    | 0,_=>
     go_wp2
     go_round
     case rel=>exact ⟨1,by omega,by go_num⟩
     case measure=>simp [intOf]
    | 1,_=>
     go_wp2
     go_round
     case rel=>exact ⟨2,by omega,by go_num⟩
     case measure=>simp [intOf]
    | 2,_=>
     go_wp2
     go_ret;exact ⟨by rw [HY.out];rfl,rfl⟩
    | n+3,h=>exact absurd h (by omega)
  ·have dy:(E != 0)=true:=by simpa using hy
   clear hy;go_enter Tryz.func9,Tryz.ntmps9
   go_wp2
   go_loop [3] (fun s=>∃ k:Nat,k≤1∧s = .int .i64 k) (fun s=>2 - (intOf s).toNat)
   case atStart=>exact ⟨0,by omega,rfl⟩
   case round=>
    obtain ⟨k,hk,rfl⟩:=hrel
    match k,hk with
    | 0,_=>
     go_wp2
     go_round
     case rel=>exact ⟨1,by omega,by go_num⟩
     case measure=>simp [intOf]
    | 1,_=>
     go_wp2
     go_ret;exact ⟨rfl,rfl⟩
    | n+2,h=>exact absurd h (by omega)
 ·rw [if_pos hx] at hE
  subst hE;have dx:(E != 0)=true:=by simpa using hx
  clear hx hk;go_enter Tryz.func9,Tryz.ntmps9
  go_wp2
  go_loop [3] (fun s=>s = .int .i64 0) (fun s=>2 - (intOf s).toNat)
  case atStart=>rfl
  case round=>
   obtain rfl:=hrel;go_wp2
   go_ret;exact ⟨rfl,rfl⟩
set_option maxHeartbeats 2000000 in
theorem zf7 (x:Int) (w:World):Calls Tryz.prog 18 #[.int .i64 x,.int .i64 0,.int .i64 0,.int .i64 x] w fun e w'=>e = .returned (.bool true)∧w=w':=by
 have d:(x==x)=true:=by simp
 go_enter Tryz.func18,Tryz.ntmps18
 go_wp2
 go_ret;exact ⟨by first | rfl | simp [go_sem],rfl⟩
set_option maxHeartbeats 2000000 in
theorem zh2 (x E:Int) (w:World) (hE:E≠0):Calls Tryz.prog 18 #[.int .i64 0,.int .i64 E,.int .i64 E,.int .i64 x] w fun e w'=>e = .returned (.bool true)∧w=w':=by
 have d1:(E==0)=false:=by simpa using hE
 have d2:(E != 0)=true:=by simpa using hE
 have d:(E==E)=true:=by simp
 clear hE;go_enter Tryz.func18,Tryz.ntmps18
 go_wp2
 go_ret;exact ⟨by first | rfl | simp [go_sem],rfl⟩
set_option maxHeartbeats 2000000 in
theorem zhB (a:ByteArray) (p:Q) (w:World) (h:NumQ a p):Calls Tryz.prog 23 #[.string a] w fun e w'=>e = .returned (.bool (decide (p.top=0)))∧w=w':=by
 have d:=h.is_zero;generalize decide (p.top=0)=b at *;clear h;go_enter Tryz.func23,Tryz.ntmps23
 go_wp2
 go_ret;exact ⟨rfl,rfl⟩
set_option maxHeartbeats 8000000 in
set_option maxRecDepth 100000 in
theorem zix (a b:ByteArray) (w:World) (KV:zg1) (hT:Tabs w) (hg:1300<a.size∨1300<b.size) :
  Calls Tryz.prog 3 #[.string a,.string b] w fun e w'=>e = .returned (.bool true)∧Below w.heap.size w w':=by
 have HK:=Lib.hid KV;clear KV;have aA:(decide ((1300:Int)<(a.size:Int))=true)∨(decide ((1300:Int)<(a.size:Int))=false∧decide ((1300:Int)<(b.size:Int))=true):=by
  simp only [decide_eq_true_eq,decide_eq_false_iff_not]
  omega
 clear hg
 rcases aA with d1 | ⟨d1,d2⟩
 all_goals
  go_enter Tryz.func3,Tryz.ntmps3
  go_wp2_with fail
  refine (HK.out w hT).mono ?_;rintro e w2 ⟨rfl,aC⟩
  go_wp2_with fail
  refine (HK.out w2 (hT.later aC)).mono ?_;rintro e w3 ⟨rfl,aD⟩;go_wp2
  go_ret;exact ⟨rfl,aC.trans (aD.mono aC.size)⟩
set_option maxHeartbeats 8000000 in
set_option maxRecDepth 100000 in
theorem zmN (a b:ByteArray) (w:World) (KV:zg1) (hT:Tabs w) (ha:a.size≤1300) (hb:b.size≤1300) (hx:err2 (zae a.data.toList) (zae b.data.toList)≠0) :
  Calls Tryz.prog 3 #[.string a,.string b] w fun e w'=>e = .returned (.bool true)∧Below w.heap.size w w':=by
 have HK:=Lib.hid KV;have d1:decide ((1300:Int)<(a.size:Int))=false:=decide_eq_false (by omega);have d2:decide ((1300:Int)<(b.size:Int))=false:=decide_eq_false (by omega);have aN:Hid (∀ W,Calls Tryz.prog 10 #[.string a] W fun e w'=>e = .returned (.int .i64 (zae a.data.toList))∧Below W.heap.size W w'):=fun W=>zci a W (by omega)
 have bC:Hid (∀ W,Calls Tryz.prog 10 #[.string b] W fun e w'=>e = .returned (.int .i64 (zae b.data.toList))∧Below W.heap.size W w'):=fun W=>zci b W (by omega)
 have aU:=Lib.hid (fun W hT=>zfe a W hT (by omega));have HA:Hid (∀ W,Tabs W→Calls Tryz.prog 12 #[.string a,.string b] W fun e w'=>e = .returned (.tuple #[.string ⟨#[]⟩,.int .i64 (err2 (zae a.data.toList) (zae b.data.toList))])∧Below W.heap.size W w'):=fun W hT=>by
  have h:=zgx a b W hT (by omega) (by omega);rw [if_pos hx,if_pos hx] at h;exact zc1 #[] h rfl
 have HS:Hid (∀ W,Tabs W→Calls Tryz.prog 13 #[.string a,.string b] W fun e w'=>e = .returned (.tuple #[.string ⟨#[]⟩,.int .i64 (err2 (zae a.data.toList) (zae b.data.toList))])∧Below W.heap.size W w'):=fun W hT=>by
  have h:=zgX a b W hT (by omega) (by omega);rw [if_pos hx,if_pos hx] at h;exact zc1 #[] h rfl
 have HM:Hid (∀ W,Tabs W→Calls Tryz.prog 14 #[.string a,.string b] W fun e w'=>e = .returned (.tuple #[.string ⟨#[]⟩,.int .i64 (err2 (zae a.data.toList) (zae b.data.toList))])∧Below W.heap.size W w'):=fun W hT=>by
  have h:=zgH a b W hT (by omega) (by omega);rw [if_pos hx,if_pos hx] at h;exact zc1 #[] h rfl
 have HD:Hid (∀ W,Tabs W→Calls Tryz.prog 15 #[.string a,.string b] W fun e w'=>e = .returned (.tuple #[.string ⟨#[]⟩,.int .i64 (err2 (zae a.data.toList) (zae b.data.toList))])∧Below W.heap.size W w'):=fun W hT=>by
  have h:=zg0 a b W hT (by omega) (by omega);rw [if_pos hx,if_pos hx] at h;exact zc1 #[] h rfl
 have HO:Hid (∀ W,Tabs W→Calls Tryz.prog 16 #[.string a,.string b] W fun e w'=>e = .returned (.tuple #[.int .i64 0,.int .i64 (err2 (zae a.data.toList) (zae b.data.toList))])∧Below W.heap.size W w'):=fun W hT=>by
  have h:=zfi a b W hT (by omega) (by omega);have e1:(if zae a.data.toList≠0 then 0 else if zae b.data.toList≠0 then 0 else rcmp (zab a.data.toList) (zab b.data.toList))=0:=by
   unfold err2 at hx
   by_cases h1:zae a.data.toList≠0
   ·rw [if_pos h1]
   ·rw [if_neg h1] at hx ⊢
    rw [if_pos hx]
  have e2:(if zae a.data.toList≠0 then zae a.data.toList else zae b.data.toList)=err2 (zae a.data.toList) (zae b.data.toList):=rfl
  rw [e1,e2] at h;exact h
 generalize zae a.data.toList=x at *;generalize zae b.data.toList=y at *;have bH:(x==x)=true:=by simp
 have bF:(x != x)=false:=by simp
 have bE:(err2 x y != 0)=true:=by simpa using hx
 have HN:=Lib.hid (fun W=>zlJ ⟨#[]⟩ (err2 x y) W hx);have HI:=Lib.hid (fun W=>zh2 0 (err2 x y) W hx);clear KV ha hb hx;go_enter Tryz.func3,Tryz.ntmps3
 go_wp2_with fail
 refine (HK.out w hT).mono ?_;rintro e w1 ⟨rfl,aS⟩;have aM:=aS
 go_wp2_with fail
 refine (aN.out w1).mono ?_;rintro e w2 ⟨rfl,bB⟩;have aP:=aM.trans (bB.mono aM.size)
 go_wp2_with fail
 refine (bC.out w2).mono ?_;rintro e w3 ⟨rfl,aZ⟩;have aR:=aP.trans (aZ.mono aP.size);have aQ:Below w3.heap.size w3 (w3.alloc (.cells #[.int .i64 x,.int .i64 y] 3)):=(Below.refl _ _).alloc (Nat.le_refl _) _;have HF:=Lib.hid (zeA x y _ _ _ (CBlk.new w3 #[.int .i64 x,.int .i64 y] 3 _ rfl));have aE:=aR.trans (aQ.mono aR.size);clear aQ
 go_wp2_with fail
 refine HF.out.mono ?_;clear HF;generalize aV:w3.alloc (.cells #[.int .i64 x,.int .i64 y] 3)=w4 at *;clear aV;rintro e bG ⟨rfl,rfl⟩
 go_wp2_with fail
 refine (aU.out w4 (hT.later aE)).mono ?_;rintro e w5 ⟨rfl,bD⟩;have aO:=aE.trans (bD.mono aE.size)
 go_wp2_with fail
 refine (aN.out w5).mono ?_;rintro e w6 ⟨rfl,aY⟩;have aL:=aO.trans (aY.mono aO.size)
 go_wp2_with fail
 refine (HA.out w6 (hT.later aL)).mono ?_;rintro e w7 ⟨rfl,aT⟩;have aJ:=aL.trans (aT.mono aL.size)
 go_wp2_with fail
 refine (HS.out w7 (hT.later aJ)).mono ?_;rintro e w8 ⟨rfl,bA⟩;have aF:=aJ.trans (bA.mono aJ.size)
 go_wp2_with fail
 refine (HM.out w8 (hT.later aF)).mono ?_;rintro e w9 ⟨rfl,aW⟩;have aG:=aF.trans (aW.mono aF.size)
 go_wp2_with fail
 refine (HD.out w9 (hT.later aG)).mono ?_;rintro e aX ⟨rfl,aK⟩;have aC:=aG.trans (aK.mono aG.size)
 go_wp2_with fail
 refine (HO.out aX (hT.later aC)).mono ?_;rintro e aD ⟨rfl,aI⟩;have aH:=aC.trans (aI.mono aC.size)
 go_wp2_with fail
 refine (HN.out aD).mono ?_;rintro e aA ⟨rfl,rfl⟩
 go_wp2_with fail
 refine (HN.out aD).mono ?_;rintro e aA ⟨rfl,rfl⟩
 go_wp2_with fail
 refine (HN.out aD).mono ?_;rintro e aA ⟨rfl,rfl⟩
 go_wp2_with fail
 refine (HN.out aD).mono ?_;rintro e aA ⟨rfl,rfl⟩
 go_wp2_with fail
 refine (HI.out aD).mono ?_;rintro e aA ⟨rfl,rfl⟩;go_wp2
 go_ret;exact ⟨rfl,aH⟩
set_option maxHeartbeats 8000000 in
set_option maxRecDepth 100000 in
theorem zl5 (a b:ByteArray) (w:World) (KV:zg1) (hT:Tabs w) (ha:a.size≤1300) (hb:b.size≤1300) (hx:zae a.data.toList=0) (hy:zae b.data.toList=0) (hz:(zab b.data.toList).top=0) :
  Calls Tryz.prog 3 #[.string a,.string b] w fun e w'=>e = .returned (.bool true)∧Below w.heap.size w w':=by
 have HK:=Lib.hid KV;have d1:decide ((1300:Int)<(a.size:Int))=false:=decide_eq_false (by omega);have d2:decide ((1300:Int)<(b.size:Int))=false:=decide_eq_false (by omega);have bE:Hid (∀ W,Calls Tryz.prog 10 #[.string a] W fun e w'=>e = .returned (.int .i64 (zae a.data.toList))∧Below W.heap.size W w'):=fun W=>zci a W (by omega)
 have cP:Hid (∀ W,Calls Tryz.prog 10 #[.string b] W fun e w'=>e = .returned (.int .i64 (zae b.data.toList))∧Below W.heap.size W w'):=fun W=>zci b W (by omega)
 have cH:=Lib.hid (fun W hT=>zfe a W hT (by omega));have aC:=zeR hx;have aA:=zeR hy;have aN:=aC.small ha (by omega);have aM:=aA.small hb (by omega);have he:err2 (zae a.data.toList) (zae b.data.toList)=0:=by unfold err2;rw [hx,hy];rfl
 have HA:Hid (∀ W,Tabs W→Calls Tryz.prog 12 #[.string a,.string b] W (zaR W (zaI (addQ (zab a.data.toList) (zab b.data.toList))) (zao (addQ (zab a.data.toList) (zab b.data.toList))))):=fun W hT=>by
  have h:=zgx a b W hT (by omega) (by omega);rw [if_neg (by rw [he];simp),if_neg (by rw [he];simp),zje] at h;exact h
 have HS:Hid (∀ W,Tabs W→Calls Tryz.prog 13 #[.string a,.string b] W (zaR W (zaI (subQ (zab a.data.toList) (zab b.data.toList))) (zao (subQ (zab a.data.toList) (zab b.data.toList))))):=fun W hT=>by
  have h:=zgX a b W hT (by omega) (by omega);rw [if_neg (by rw [he];simp),if_neg (by rw [he];simp),zjb] at h;exact h
 have HM:Hid (∀ W,Tabs W→Calls Tryz.prog 14 #[.string a,.string b] W (zaR W (zaI (mulQ (zab a.data.toList) (zab b.data.toList))) (zao (mulQ (zab a.data.toList) (zab b.data.toList))))):=fun W hT=>by
  have h:=zgH a b W hT (by omega) (by omega);rw [if_neg (by rw [he];simp),if_neg (by rw [he];simp),zi8] at h;exact h
 have HD:Hid (∀ W,Tabs W→Calls Tryz.prog 15 #[.string a,.string b] W fun e w'=>e = .returned (.tuple #[.string ⟨#[]⟩,.int .i64 6])∧Below W.heap.size W w'):=fun W hT=>by
  have h:=zg0 a b W hT (by omega) (by omega);have e9:=zna (zab a.data.toList) _ hz;rw [if_neg (by rw [he];simp),if_neg (by rw [he];simp),e9.1,e9.2] at h;exact zc1 #[] h rfl
 have dA:=Lib.hid (fun W=>zlJ ⟨#[]⟩ 6 W (by omega));have HO:Hid (∀ W,Tabs W→Calls Tryz.prog 16 #[.string a,.string b] W fun e w'=>e = .returned (.tuple #[.int .i64 (cmpI (zab a.data.toList) (zab b.data.toList)),.int .i64 0])∧Below W.heap.size W w'):=fun W hT=>by
  have h:=zfi a b W hT (by omega) (by omega);rw [if_neg (by omega),if_neg (by omega),if_neg (by omega),hy,zi1 aC.2 aA.2] at h;exact h
 have bI:=zfF aN aM aC.2.1 aA.2.1;have bP:=ze9 aN aM aC.2.1 aA.2.1;have bF:=zfx aN aM aC.2.1 aA.2.1;have cF:=Lib.hid (fun W=>zlE a b _ _ W aC aA (by omega) (by omega));have cM:=Lib.hid (fun W=>zkz a b _ _ W aC aA (by omega) (by omega));have cZ:=Lib.hid (fun W=>zlY a b _ _ W aC aA (by omega) (by omega));have bX:=Lib.hid (fun W=>znF a b _ _ W aC aA (by omega) (by omega));have bH:=Lib.hid (fun W=>zhB b _ W aA);have dF:=Lib.hid (fun (s t:ByteArray) (W:World) hs (ht:NumQ t (addQ (zab a.data.toList) (zab b.data.toList)))=>zfm s t _ W hs ht (by have:=ht.size bI (by omega);omega));have bV:=Lib.hid (fun (s t:ByteArray) (W:World) hs (ht:NumQ t (subQ (zab a.data.toList) (zab b.data.toList)))=>zfm s t _ W hs ht (by have:=ht.size bP (by omega);omega));have cU:=Lib.hid (fun (s t:ByteArray) (W:World) hs (ht:NumQ t (mulQ (zab a.data.toList) (zab b.data.toList)))=>zfm s t _ W hs ht (by have:=ht.size bF (by omega);omega));have HI:=Lib.hid (fun W=>zf7 (cmpI (zab a.data.toList) (zab b.data.toList)) W);have dz:decide ((zab b.data.toList).top=0)=true:=decide_eq_true hz;rw [dz] at bH;generalize bZ:zae a.data.toList=x at *;generalize cQ:zae b.data.toList=y at *;generalize zab a.data.toList=p at *;generalize zab b.data.toList=q at *;have dJ:(x==x)=true:=by simp
 have dI:(x != x)=false:=by simp
 have dD:err2 x y=0:=he;have bQ:Hid (∀ (ty:TypeId) (g:Nat) (w:World),CBlk w g #[.int .i64 x,.int .i64 y] ty→Calls Tryz.prog 9 #[.slice (some ⟨g,0,none⟩) 2 2] w fun e w'=>e = .returned (.int .i64 (err2 x y))∧w=w'):=fun ty g w hk=>zeA x y ty g w hk
 clear dD;rw [show err2 x y=0 from he] at bQ;clear KV ha hb hx hy hz he bZ cQ aC aA aN aM bI bP bF dz;go_enter Tryz.func3,Tryz.ntmps3
 go_wp2_with fail
 refine (HK.out w hT).mono ?_;rintro e w1 ⟨rfl,cE⟩;have bJ:=cE
 go_wp2_with fail
 refine (bE.out w1).mono ?_;rintro e w2 ⟨rfl,cB⟩;have bN:=bJ.trans (cB.mono bJ.size)
 go_wp2_with fail
 refine (cP.out w2).mono ?_;rintro e w3 ⟨rfl,cN⟩;have bK:=bN.trans (cN.mono bN.size);have bU:Below w3.heap.size w3 (w3.alloc (.cells #[.int .i64 x,.int .i64 y] 3)):=(Below.refl _ _).alloc (Nat.le_refl _) _;have HF:=Lib.hid (bQ.out _ _ _ (CBlk.new w3 #[.int .i64 x,.int .i64 y] 3 _ rfl));have aS:=bK.trans (bU.mono bK.size);clear bU
 go_wp2_with fail
 refine HF.out.mono ?_;clear HF;generalize cK:w3.alloc (.cells #[.int .i64 x,.int .i64 y] 3)=w4 at *;clear cK;rintro e dH ⟨rfl,rfl⟩
 go_wp2_with fail
 refine (cH.out w4 (hT.later aS)).mono ?_;rintro e w5 ⟨rfl,dE⟩;have bR:=aS.trans (dE.mono aS.size)
 go_wp2_with fail
 refine (bE.out w5).mono ?_;rintro e w6 ⟨rfl,bY⟩;have aQ:=bR.trans (bY.mono bR.size)
 go_wp2_with fail
 refine (HA.out w6 (hT.later aQ)).mono ?_;rintro e w7 ⟨t1,rfl,bO,cG⟩;have bC:=aQ.trans (cG.mono aQ.size);have dC:=Lib.hid bO;clear bO
 go_wp2_with fail
 refine (HS.out w7 (hT.later bC)).mono ?_;rintro e w8 ⟨t2,rfl,bM,cO⟩;have aP:=bC.trans (cO.mono bC.size);have cA:=Lib.hid bM;clear bM
 go_wp2_with fail
 refine (HM.out w8 (hT.later aP)).mono ?_;rintro e w9 ⟨t3,rfl,bS,cW⟩;have bB:=aP.trans (cW.mono aP.size);have dB:=Lib.hid bS;clear bS
 go_wp2_with fail
 refine (HD.out w9 (hT.later bB)).mono ?_;rintro e bW ⟨rfl,aY⟩;have aD:=bB.trans (aY.mono bB.size)
 go_wp2_with fail
 refine (HO.out bW (hT.later aD)).mono ?_;rintro e cV ⟨rfl,aV⟩;have aH:=aD.trans (aV.mono aD.size)
 go_wp2_with fail
 refine (cF.out cV).mono ?_;rintro e cL ⟨⟨r1,rfl,bL⟩,aO⟩;have aI:=aH.trans (aO.mono aH.size);have cC:=Lib.hid bL;clear bL
 go_wp2_with fail
 refine (dF.out t1 r1 cL dC.out cC.out).mono ?_;rintro e cT ⟨rfl,aW⟩;have aJ:=aI.trans (aW.mono aI.size)
 go_wp2_with fail
 refine (cM.out cT).mono ?_;rintro e cS ⟨⟨r2,rfl,bT⟩,aX⟩;have aE:=aJ.trans (aX.mono aJ.size);have cR:=Lib.hid bT;clear bT
 go_wp2_with fail
 refine (bV.out t2 r2 cS cA.out cR.out).mono ?_;rintro e cI ⟨rfl,aR⟩;have aG:=aE.trans (aR.mono aE.size)
 go_wp2_with fail
 refine (cZ.out cI).mono ?_;rintro e cJ ⟨⟨r3,rfl,bG⟩,aZ⟩;have aF:=aG.trans (aZ.mono aG.size);have cY:=Lib.hid bG;clear bG
 go_wp2_with fail
 refine (cU.out t3 r3 cJ dB.out cY.out).mono ?_;rintro e dG ⟨rfl,aT⟩;have aL:=aF.trans (aT.mono aF.size)
 go_wp2_with fail
 refine (bX.out dG).mono ?_;rintro e bA ⟨rfl,bD⟩;have aU:=aL.trans (bD.mono aL.size)
 go_wp2_with fail
 refine (HI.out bA).mono ?_;rintro e aK ⟨rfl,rfl⟩
 go_wp2_with fail
 refine (bH.out bA).mono ?_;rintro e aK ⟨rfl,rfl⟩
 go_wp2_with fail
 refine (dA.out bA).mono ?_;rintro e aK ⟨rfl,rfl⟩;go_wp2
 go_ret;exact ⟨rfl,aU⟩
set_option maxHeartbeats 8000000 in
set_option maxRecDepth 100000 in
theorem zkD (a b:ByteArray) (w:World) (KV:zg1) (hT:Tabs w) (ha:a.size≤1300) (hb:b.size≤1300) (hx:zae a.data.toList=0) (hy:zae b.data.toList=0) (hz:(zab b.data.toList).top≠0) :
  Calls Tryz.prog 3 #[.string a,.string b] w fun e w'=>e = .returned (.bool true)∧Below w.heap.size w w':=by
 have HK:=Lib.hid KV;have d1:decide ((1300:Int)<(a.size:Int))=false:=decide_eq_false (by omega);have d2:decide ((1300:Int)<(b.size:Int))=false:=decide_eq_false (by omega);have bJ:Hid (∀ W,Calls Tryz.prog 10 #[.string a] W fun e w'=>e = .returned (.int .i64 (zae a.data.toList))∧Below W.heap.size W w'):=fun W=>zci a W (by omega)
 have cZ:Hid (∀ W,Calls Tryz.prog 10 #[.string b] W fun e w'=>e = .returned (.int .i64 (zae b.data.toList))∧Below W.heap.size W w'):=fun W=>zci b W (by omega)
 have cP:=Lib.hid (fun W hT=>zfe a W hT (by omega));have aC:=zeR hx;have aA:=zeR hy;have aO:=aC.small ha (by omega);have aF:=aA.small hb (by omega);have he:err2 (zae a.data.toList) (zae b.data.toList)=0:=by unfold err2;rw [hx,hy];rfl
 have HA:Hid (∀ W,Tabs W→Calls Tryz.prog 12 #[.string a,.string b] W (zaR W (zaI (addQ (zab a.data.toList) (zab b.data.toList))) (zao (addQ (zab a.data.toList) (zab b.data.toList))))):=fun W hT=>by
  have h:=zgx a b W hT (by omega) (by omega);rw [if_neg (by rw [he];simp),if_neg (by rw [he];simp),zje] at h;exact h
 have HS:Hid (∀ W,Tabs W→Calls Tryz.prog 13 #[.string a,.string b] W (zaR W (zaI (subQ (zab a.data.toList) (zab b.data.toList))) (zao (subQ (zab a.data.toList) (zab b.data.toList))))):=fun W hT=>by
  have h:=zgX a b W hT (by omega) (by omega);rw [if_neg (by rw [he];simp),if_neg (by rw [he];simp),zjb] at h;exact h
 have HM:Hid (∀ W,Tabs W→Calls Tryz.prog 14 #[.string a,.string b] W (zaR W (zaI (mulQ (zab a.data.toList) (zab b.data.toList))) (zao (mulQ (zab a.data.toList) (zab b.data.toList))))):=fun W hT=>by
  have h:=zgH a b W hT (by omega) (by omega);rw [if_neg (by rw [he];simp),if_neg (by rw [he];simp),zi8] at h;exact h
 have HD:Hid (∀ W,Tabs W→Calls Tryz.prog 15 #[.string a,.string b] W (zaR W (zaI (mulQ (zab a.data.toList) (recS (zab b.data.toList)))) (zao (mulQ (zab a.data.toList) (recS (zab b.data.toList)))))):=fun W hT=>by
  have h:=zg0 a b W hT (by omega) (by omega);rw [if_neg (by rw [he];simp),if_neg (by rw [he];simp),zmL] at h;exact h
 have bM:=zfx aO (zfY aF) aC.2.1 (zgN aA.2 (by omega)).1;have cO:=Lib.hid (fun W=>zot a b _ _ W aC aA (by omega) (by omega) (by omega));have dK:=Lib.hid (fun (s t:ByteArray) (W:World) hs (ht:NumQ t (mulQ (zab a.data.toList) (recS (zab b.data.toList))))=>zfm s t _ W hs ht (by have:=ht.size bM (by omega);omega));have HO:Hid (∀ W,Tabs W→Calls Tryz.prog 16 #[.string a,.string b] W fun e w'=>e = .returned (.tuple #[.int .i64 (cmpI (zab a.data.toList) (zab b.data.toList)),.int .i64 0])∧Below W.heap.size W w'):=fun W hT=>by
  have h:=zfi a b W hT (by omega) (by omega);rw [if_neg (by omega),if_neg (by omega),if_neg (by omega),hy,zi1 aC.2 aA.2] at h;exact h
 have bO:=zfF aO aF aC.2.1 aA.2.1;have bW:=ze9 aO aF aC.2.1 aA.2.1;have bK:=zfx aO aF aC.2.1 aA.2.1;have cM:=Lib.hid (fun W=>zlE a b _ _ W aC aA (by omega) (by omega));have cV:=Lib.hid (fun W=>zkz a b _ _ W aC aA (by omega) (by omega));have dJ:=Lib.hid (fun W=>zlY a b _ _ W aC aA (by omega) (by omega));have cF:=Lib.hid (fun W=>znF a b _ _ W aC aA (by omega) (by omega));have bN:=Lib.hid (fun W=>zhB b _ W aA);have dQ:=Lib.hid (fun (s t:ByteArray) (W:World) hs (ht:NumQ t (addQ (zab a.data.toList) (zab b.data.toList)))=>zfm s t _ W hs ht (by have:=ht.size bO (by omega);omega));have cC:=Lib.hid (fun (s t:ByteArray) (W:World) hs (ht:NumQ t (subQ (zab a.data.toList) (zab b.data.toList)))=>zfm s t _ W hs ht (by have:=ht.size bW (by omega);omega));have dF:=Lib.hid (fun (s t:ByteArray) (W:World) hs (ht:NumQ t (mulQ (zab a.data.toList) (zab b.data.toList)))=>zfm s t _ W hs ht (by have:=ht.size bK (by omega);omega));have HI:=Lib.hid (fun W=>zf7 (cmpI (zab a.data.toList) (zab b.data.toList)) W);have dz:decide ((zab b.data.toList).top=0)=false:=decide_eq_false hz;rw [dz] at bN;generalize cH:zae a.data.toList=x at *;generalize dA:zae b.data.toList=y at *;generalize zab a.data.toList=p at *;generalize zab b.data.toList=q at *;have dV:(x==x)=true:=by simp
 have dU:(x != x)=false:=by simp
 have dO:err2 x y=0:=he;have bX:Hid (∀ (ty:TypeId) (g:Nat) (w:World),CBlk w g #[.int .i64 x,.int .i64 y] ty→Calls Tryz.prog 9 #[.slice (some ⟨g,0,none⟩) 2 2] w fun e w'=>e = .returned (.int .i64 (err2 x y))∧w=w'):=fun ty g w hk=>zeA x y ty g w hk
 clear dO;rw [show err2 x y=0 from he] at bX;clear KV ha hb hx hy hz he cH dA aC aA aO aF bO bW bK dz bM;go_enter Tryz.func3,Tryz.ntmps3
 go_wp2_with fail
 refine (HK.out w hT).mono ?_;rintro e w1 ⟨rfl,cL⟩;have bP:=cL
 go_wp2_with fail
 refine (bJ.out w1).mono ?_;rintro e w2 ⟨rfl,cJ⟩;have bU:=bP.trans (cJ.mono bP.size)
 go_wp2_with fail
 refine (cZ.out w2).mono ?_;rintro e w3 ⟨rfl,cW⟩;have bR:=bU.trans (cW.mono bU.size);have cB:Below w3.heap.size w3 (w3.alloc (.cells #[.int .i64 x,.int .i64 y] 3)):=(Below.refl _ _).alloc (Nat.le_refl _) _;have HF:=Lib.hid (bX.out _ _ _ (CBlk.new w3 #[.int .i64 x,.int .i64 y] 3 _ rfl));have aT:=bR.trans (cB.mono bR.size);clear cB
 go_wp2_with fail
 refine HF.out.mono ?_;clear HF;generalize cT:w3.alloc (.cells #[.int .i64 x,.int .i64 y] 3)=w4 at *;clear cT;rintro e dT ⟨rfl,rfl⟩
 go_wp2_with fail
 refine (cP.out w4 (hT.later aT)).mono ?_;rintro e w5 ⟨rfl,dP⟩;have bY:=aT.trans (dP.mono aT.size)
 go_wp2_with fail
 refine (bJ.out w5).mono ?_;rintro e w6 ⟨rfl,cG⟩;have aR:=bY.trans (cG.mono bY.size)
 go_wp2_with fail
 refine (HA.out w6 (hT.later aR)).mono ?_;rintro e w7 ⟨t1,rfl,bV,cN⟩;have bE:=aR.trans (cN.mono aR.size);have dM:=Lib.hid bV;clear bV
 go_wp2_with fail
 refine (HS.out w7 (hT.later bE)).mono ?_;rintro e w8 ⟨t2,rfl,bT,cY⟩;have aQ:=bE.trans (cY.mono bE.size);have cI:=Lib.hid bT;clear bT
 go_wp2_with fail
 refine (HM.out w8 (hT.later aQ)).mono ?_;rintro e w9 ⟨t3,rfl,bZ,dH⟩;have bD:=aQ.trans (dH.mono aQ.size);have dL:=Lib.hid bZ;clear bZ
 go_wp2_with fail
 refine (HD.out w9 (hT.later bD)).mono ?_;rintro e cE ⟨t4,rfl,bQ,bA⟩;have aD:=bD.trans (bA.mono bD.size);have dD:=Lib.hid bQ;clear bQ
 go_wp2_with fail
 refine (HO.out cE (hT.later aD)).mono ?_;rintro e dG ⟨rfl,aY⟩;have aJ:=aD.trans (aY.mono aD.size)
 go_wp2_with fail
 refine (cM.out dG).mono ?_;rintro e cU ⟨⟨r1,rfl,bS⟩,aP⟩;have aK:=aJ.trans (aP.mono aJ.size);have cK:=Lib.hid bS;clear bS
 go_wp2_with fail
 refine (dQ.out t1 r1 cU dM.out cK.out).mono ?_;rintro e dE ⟨rfl,aX⟩;have aL:=aK.trans (aX.mono aK.size)
 go_wp2_with fail
 refine (cV.out dE).mono ?_;rintro e dC ⟨⟨r2,rfl,cA⟩,aZ⟩;have aE:=aL.trans (aZ.mono aL.size);have dB:=Lib.hid cA;clear cA
 go_wp2_with fail
 refine (cC.out t2 r2 dC cI.out dB.out).mono ?_;rintro e cQ ⟨rfl,aS⟩;have aI:=aE.trans (aS.mono aE.size)
 go_wp2_with fail
 refine (dJ.out cQ).mono ?_;rintro e cS ⟨⟨r3,rfl,bL⟩,bB⟩;have aH:=aI.trans (bB.mono aI.size);have dI:=Lib.hid bL;clear bL
 go_wp2_with fail
 refine (dF.out t3 r3 cS dL.out dI.out).mono ?_;rintro e dR ⟨rfl,aV⟩;have aN:=aH.trans (aV.mono aH.size)
 go_wp2_with fail
 refine (cF.out dR).mono ?_;rintro e bC ⟨rfl,bH⟩;have aG:=aN.trans (bH.mono aN.size)
 go_wp2_with fail
 refine (HI.out bC).mono ?_;rintro e bF ⟨rfl,rfl⟩
 go_wp2_with fail
 refine (bN.out bC).mono ?_;rintro e bF ⟨rfl,rfl⟩
 go_wp2_with fail
 refine (cO.out bC).mono ?_;rintro e cR ⟨⟨r4,rfl,bI⟩,bG⟩;have aM:=aG.trans (bG.mono aG.size);have dN:=Lib.hid bI;clear bI
 go_wp2_with fail
 refine (dK.out t4 r4 cR dD.out dN.out).mono ?_;rintro e dS ⟨rfl,aU⟩;have aW:=aM.trans (aU.mono aM.size);go_wp2
 go_ret;exact ⟨rfl,aW⟩
theorem zmJ (a b:ByteArray) (w:World) (KV:zg1) (hT:Tabs w) :
  Calls Tryz.prog 3 #[.string a,.string b] w fun e w'=>e = .returned (.bool true)∧Below w.heap.size w w':=by
 by_cases hg:1300<a.size∨1300<b.size
 ·exact zix a b w KV hT hg
 ·by_cases hx:err2 (zae a.data.toList) (zae b.data.toList)=0
  ·have h1:zae a.data.toList=0:=by
    unfold err2 at hx
    by_cases h:zae a.data.toList=0
    ·exact h
    ·rw [if_pos h] at hx;exact hx
   have h2:zae b.data.toList=0:=by
    unfold err2 at hx;rw [if_neg (by omega)] at hx;exact hx
   by_cases hz:(zab b.data.toList).top=0
   ·exact zl5 a b w KV hT (by omega) (by omega) h1 h2 hz
   ·exact zkD a b w KV hT (by omega) (by omega) h1 h2 hz
  ·exact zmN a b w KV hT (by omega) (by omega) hx
end Go.Proofs.YteajibbphcfmeaaGreatDoor
namespace Go.Proofs.YteajibbphcfmeaaGreatDoor
open Go.RowKit Bn
set_option maxHeartbeats 1000000 in
set_option maxRecDepth 100000 in
theorem zgB (A A':Option Addr) (n c c':Nat) (xs:List Value) (hxs:∀ x ∈ xs,∃ i:Int,x = .int .i64 i) (w:World) (B:Nat) (h:zav w B 1 A n xs) (h':zav w B 1 A' n xs) (hn:n≤4096) :
  Calls Tryz.prog 58 #[.slice A n c,.slice A' n c'] w fun e w'=>e = .returned (.bool true)∧∃ m,w'=w.drewN m:=by
 have aF:xs.length=n:=by have:=h.1;omega
 have HX:=Lib.hid hxs;clear hxs;go_enter Tryz.func58,Tryz.ntmps58
 go_wp2_with fail
 go_loopg [5] n (fun m s W=>∃ k:Nat,k≤n∧s = .int .i64 k∧n - k≤m∧∃ q,W=w.drewN q)
 case atStart=>exact ⟨0,Nat.zero_le _,rfl,by omega,0,rfl⟩
 case round=>
  obtain ⟨k,hk,rfl,hm,q,rfl⟩:=hrel
  by_cases h0:k<n
  ·obtain ⟨ad,u,rfl,aH,hu,aD⟩:=h.at_ h0
   obtain ⟨aG,u2,rfl,aE,aA,aC⟩:=h'.at_ h0;obtain rfl:u=u2:=by rw [hu] at aA;exact Option.some.inj aA
   obtain ⟨i,rfl⟩:=HX.out u (List.mem_of_getElem? hu);clear hu aA
   go_wp2_with fail
   go_region
   go_wp2_with fail
   go_roundg (n - (k+1))
   case measure=>omega
   case rel=>exact ⟨k+1,by omega,by go_num,Nat.le_refl _,_,rfl⟩
  ·obtain rfl:n=k:=by omega
   go_wp2_with fail
   go_ret;exact ⟨rfl,q,rfl⟩
set_option maxHeartbeats 1000000 in
set_option maxRecDepth 100000 in
theorem zmi (s t:ByteArray) (w:World):Calls Tryz.prog 52 #[.string s,.string t] w fun e w'=>e = .returned (.agg #[.string s,.string t])∧Below w.heap.size w w':=by
 have hb:Below w.heap.size w (w.alloc (.cells #[.string { data:=#[] },.string { data:=#[] }] 74)):=(Below.refl _ _).alloc (Nat.le_refl _) _;have q:CBlk (w.alloc (.cells #[.string { data:=#[] },.string { data:=#[] }] 74)) w.heap.size #[.string { data:=#[] },.string { data:=#[] }] 74:=CBlk.new _ _ _ _ rfl;have y0:=q.cell 0;have y1:=q.cell 1;have f0:=q.frozen 0;have f1:=q.frozen 1;have aA:=zbO hb (g:=w.heap.size) (Nat.le_refl _) (.string s) (.string t);go_enter Tryz.func52,Tryz.ntmps52
 go_upto_region 1 with (fail)
 generalize w.alloc (.cells #[.string { data:=#[] },.string { data:=#[] }] 74)=W at *;go_wp2
 refine bodyPost_ret (v := .agg #[.string s,.string t]) (by simp [results,Tryz.results52,go_sem,y0,y1]) rfl ⟨rfl,aA⟩
end Go.Proofs.YteajibbphcfmeaaGreatDoor
