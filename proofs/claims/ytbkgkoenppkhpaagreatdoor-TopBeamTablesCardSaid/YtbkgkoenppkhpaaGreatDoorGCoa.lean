/- Cos and Sin at the arguments of the awake. -/
import Derived.Test.YtbkgkoenppkhpaaGreatDoorGKn8
import Derived.Test.YtbkgkoenppkhpaaGreatDoorGNa1
import Derived.Deep.LoopGhost
import Derived.Test.YtbkgkoenppkhpaaGreatDoorGEx2
import Derived.Test.YtbkgkoenppkhpaaGreatDoorGSp8
import Derived.Test.YtbkgkoenppkhpaaGreatDoorGRb2
import Derived.Test.YtbkgkoenppkhpaaGreatDoorGLdx
import Derived.Test.YtbkgkoenppkhpaaGreatDoorGRead2
import Derived.Test.YtbkgkoenppkhpaaGreatDoorGNum1
import Derived.Test.YtbkgkoenppkhpaaGreatDoorGRb24
import Derived.Deep.RegionHeld3
import Derived.Test.YtbkgkoenppkhpaaGreatDoorGWords
import Derived.Shelf.SlSorted.Search
import Derived.Test.YtbkgkoenppkhpaaGreatDoorGRtx
import Derived.Laws.Cover2
import Derived.Test.YtbkgkoenppkhpaaGreatDoorGRat5
import Derived.Test.YtbkgkoenppkhpaaGreatDoorGStr1
import Derived.Test.YtbkgkoenppkhpaaGreatDoorGCo2
import Derived.Test.YtbkgkoenppkhpaaGreatDoorGFl2
import Derived.Laws.FloatArith
set_option maxHeartbeats 2000000
namespace Go.Proofs.YtbkgkoenppkhpaaGreatDoor
section
open Go.RowKit Bn
theorem zlX (q:Q) (k l mm scale low d:Nat) (hok:Cs.AcOk q.top q.bot 112 k l mm scale low) (hd:d≤12) (hsc:scale=10 ^ d) (hk0:k<4294967296) (hl0:l<4294967296) (hmm:mm<1073741824) (hbot:0<q.bot) (hl:LenQ q 1048576) (v:Value) (w:World) (hT:Tabs w) (hv:RatS w w.heap.size v q) :
  Calls Tryz.prog 173 #[v,.int .i64 (d:Int)] w (zd4 w (lowQ false low scale) (lowQ false (low+1) scale)):=by
 obtain ⟨A1,n1,c1,A2,n2,c2,rfl,h1,h2⟩:=hv;exact zk2 q.neg q.top q.bot k l mm scale low d A1 A2 n1 c1 n2 c2 w hT hok hd hsc hk0 hl0 hmm h1 h2 hbot (by rw [←h1.len];exact hl.1)
theorem zbh {q:Q} (h1:q.top<18446744073709551616) (h2:q.bot<18446744073709551616):LenQ q 1:=⟨zad (by rw [zdm,Nat.pow_one];exact h1),zad (by rw [zdm,Nat.pow_one];exact h2)⟩
theorem zdW (s:ByteArray) (hs:s.size≤4294967296) (q:Q) (hq:zak s.data.toList=q) (he:zam s.data.toList=0) (w:World) (hT:Tabs w):Calls Tryz.prog 59 #[.string s] w (zay w q 0):=by
 have h:=zcb s w hT hs;rw [hq,he] at h;exact h
theorem zpt (w:World) (hT:Tabs w):Calls Tryz.prog 54 #[.string ⟨#[49,47,54]⟩,.int .i64 5] w (zen w [49,47,50] [49,47,50] 0):=
 zi7 ⟨false,1,6⟩ ⟨#[49,47,54]⟩ 5 [49,47,50] [49,47,50] 0 w hT (by decide) (by omega) (by omega) (Aa (fun W hT=>zdW ⟨#[49,47,54]⟩ (by decide) ⟨false,1,6⟩ (by kernel_rfl) (by kernel_rfl) W hT))
  (Aa (fun v W hT hv=>(zfi ⟨false,1,6⟩ ⟨false,1,6⟩ ⟨#[49,47,50]⟩ 5 v W hT hv (Aa (fun v w hT hv=>(show Calls _ _ _ _ (za2 w ⟨false,1,6⟩) from by have h:=zdM ⟨false,1,6⟩ v w hT hv (by decide) ((zbh (by decide) (by decide)).mono (by omega));rw [show zhQ ⟨false,1,6⟩=⟨false,1,6⟩ from by kernel_rfl] at h;exact h)))
   (Aa (fun v w hT hv=>zcR ⟨false,1,6⟩ ⟨#[49,47,54]⟩ ⟨#[49,47,50]⟩ 1 v w hT hv ((zbh (by decide) (by decide)).mono (by omega)) (Aa (by kernel_rfl)) (by kernel_rfl) (Aa (by kernel_rfl))))).mono
   (fun _ _ ⟨he,hb⟩=>⟨⟨#[49,47,50]⟩,⟨#[49,47,50]⟩,he,rfl,rfl,hb⟩)))
theorem zpn (w:World) (hT:Tabs w):Calls Tryz.prog 54 #[.string ⟨#[49,47,54]⟩,.int .i64 4] w (zen w [49,47,50] [49,47,50] 0):=
 zi7 ⟨false,1,6⟩ ⟨#[49,47,54]⟩ 4 [49,47,50] [49,47,50] 0 w hT (by decide) (by omega) (by omega) (Aa (fun W hT=>zdW ⟨#[49,47,54]⟩ (by decide) ⟨false,1,6⟩ (by kernel_rfl) (by kernel_rfl) W hT))
  (Aa (fun v W hT hv=>(zfi ⟨false,1,6⟩ ⟨false,1,6⟩ ⟨#[49,47,50]⟩ 4 v W hT hv (Aa (fun v w hT hv=>(show Calls _ _ _ _ (za2 w ⟨false,1,6⟩) from by have h:=zdM ⟨false,1,6⟩ v w hT hv (by decide) ((zbh (by decide) (by decide)).mono (by omega));rw [show zhQ ⟨false,1,6⟩=⟨false,1,6⟩ from by kernel_rfl] at h;exact h)))
   (Aa (fun v w hT hv=>zcR ⟨false,1,6⟩ ⟨#[49,47,54]⟩ ⟨#[49,47,50]⟩ 1 v w hT hv ((zbh (by decide) (by decide)).mono (by omega)) (Aa (by kernel_rfl)) (by kernel_rfl) (Aa (by kernel_rfl))))).mono
   (fun _ _ ⟨he,hb⟩=>⟨⟨#[49,47,50]⟩,⟨#[49,47,50]⟩,he,rfl,rfl,hb⟩)))
theorem zgR {x:Nat} (h:x<18446744073709551616:=by omega):LenQ (lowQ false x 1000) 33554432:=
 (zdT (K:=1) (zad (by rw [zdm,Nat.pow_one];exact h)) (zad (by rw [zdm];omega)) (Nat.le_refl _)).mono (by omega)
theorem zpu (w:World) (hT:Tabs w):Calls Tryz.prog 54 #[.string ⟨#[49,47,56]⟩,.int .i64 3] w (zen w [55,48,55,47,49,48,48,48] [49,55,55,47,50,53,48] 0):=by
 have eL:zf1 (lowQ false 707 1000) (lowQ false (707+1) 1000)=[55,48,55,47,49,48,48,48]:=by kernel_rfl
 have eH:zfZ (lowQ false 707 1000) (lowQ false (707+1) 1000)=[49,55,55,47,50,53,48]:=by kernel_rfl
 have eE:zdw (lowQ false 707 1000) (lowQ false (707+1) 1000)=0:=by kernel_rfl
 refine zi7 ⟨false,1,8⟩ ⟨#[49,47,56]⟩ 3 [55,48,55,47,49,48,48,48] [49,55,55,47,50,53,48] 0 w hT (by decide) (by omega) (by omega) (Aa (fun W hT=>zdW ⟨#[49,47,56]⟩ (by decide) ⟨false,1,8⟩ (by kernel_rfl) (by kernel_rfl) W hT)) (Aa (fun v W hT hv => ?_));have h:=zft ⟨false,1,8⟩ ⟨false,1,8⟩ ⟨false,3,8⟩ ⟨false,1,8⟩ (lowQ false 707 1000) (lowQ false (707+1) 1000) (lowQ false 707 1000) (lowQ false (707+1) 1000) 3 v W hT hv ((zbh (by decide) (by decide)).mono (by omega)) (zgR (by omega)) (zgR (by omega)) (Aa (by kernel_rfl))
  (Aa (fun h=>absurd h (by rw [show rcmp ⟨false,3,8⟩ ⟨false,1,8⟩=1 from by kernel_rfl];omega))) (Aa (fun _=>⟨rfl,rfl,rfl⟩))
  (Aa (fun v w hT hv=>(show Calls _ _ _ _ (za2 w ⟨false,1,8⟩) from by have h:=zdM ⟨false,1,8⟩ v w hT hv (by decide) ((zbh (by decide) (by decide)).mono (by omega));rw [show zhQ ⟨false,1,8⟩=⟨false,1,8⟩ from by kernel_rfl] at h;exact h))) (Aa (fun v w hT hv=>zdl ⟨false,1,8⟩ ⟨#[49,47,56]⟩ v w hT hv ((zbh (by decide) (by decide)).mono (by omega)) (Aa (by kernel_rfl)) (by kernel_rfl) (Aa (by kernel_rfl)))) (Aa (fun v w hT hv=>zlX ⟨false,1,8⟩ 24 7 15 1000 707 3 Cs.ac8 (by decide) (by decide) (by decide) (by decide) (by decide) (by decide) ((zbh (by decide) (by decide)).mono (by omega)) v w hT hv))
 rw [eL,eH,eE] at h;exact h
theorem zoC (w:World) (hT:Tabs w):Calls Tryz.prog 54 #[.string ⟨#[49,47,49,48]⟩,.int .i64 3] w (zen w [56,48,57,47,49,48,48,48] [56,49,47,49,48,48] 0):=by
 have eL:zf1 (lowQ false 809 1000) (lowQ false (809+1) 1000)=[56,48,57,47,49,48,48,48]:=by kernel_rfl
 have eH:zfZ (lowQ false 809 1000) (lowQ false (809+1) 1000)=[56,49,47,49,48,48]:=by kernel_rfl
 have eE:zdw (lowQ false 809 1000) (lowQ false (809+1) 1000)=0:=by kernel_rfl
 refine zi7 ⟨false,1,10⟩ ⟨#[49,47,49,48]⟩ 3 [56,48,57,47,49,48,48,48] [56,49,47,49,48,48] 0 w hT (by decide) (by omega) (by omega) (Aa (fun W hT=>zdW ⟨#[49,47,49,48]⟩ (by decide) ⟨false,1,10⟩ (by kernel_rfl) (by kernel_rfl) W hT)) (Aa (fun v W hT hv => ?_));have h:=zft ⟨false,1,10⟩ ⟨false,1,10⟩ ⟨false,2,5⟩ ⟨false,1,10⟩ (lowQ false 809 1000) (lowQ false (809+1) 1000) (lowQ false 809 1000) (lowQ false (809+1) 1000) 3 v W hT hv ((zbh (by decide) (by decide)).mono (by omega)) (zgR (by omega)) (zgR (by omega)) (Aa (by kernel_rfl))
  (Aa (fun h=>absurd h (by rw [show rcmp ⟨false,2,5⟩ ⟨false,1,10⟩=1 from by kernel_rfl];omega))) (Aa (fun _=>⟨rfl,rfl,rfl⟩))
  (Aa (fun v w hT hv=>(show Calls _ _ _ _ (za2 w ⟨false,1,10⟩) from by have h:=zdM ⟨false,1,10⟩ v w hT hv (by decide) ((zbh (by decide) (by decide)).mono (by omega));rw [show zhQ ⟨false,1,10⟩=⟨false,1,10⟩ from by kernel_rfl] at h;exact h))) (Aa (fun v w hT hv=>zdl ⟨false,1,10⟩ ⟨#[49,47,49,48]⟩ v w hT hv ((zbh (by decide) (by decide)).mono (by omega)) (Aa (by kernel_rfl)) (by kernel_rfl) (Aa (by kernel_rfl)))) (Aa (fun v w hT hv=>zlX ⟨false,1,10⟩ 24 7 14 1000 809 3 Cs.ac10 (by decide) (by decide) (by decide) (by decide) (by decide) (by decide) ((zbh (by decide) (by decide)).mono (by omega)) v w hT hv))
 rw [eL,eH,eE] at h;exact h
theorem zof {w:World} {l:List UInt8} {x:Int} {f:FuncId} {args:Array Value} (a:Array UInt8) (h:Calls Tryz.prog f args w (zco w l x)) (e:l=a.toList) :
  Calls Tryz.prog f args w fun e w'=>e = .returned (.tuple #[.string ⟨a⟩,.int .i64 x])∧Below w.heap.size w w':=
 h.mono fun _ _ ⟨s,he,hs,hb⟩=>⟨by
  rw [he];obtain ⟨d⟩:=s;have:d=a:=by apply Array.ext';rw [←e];exact hs
  rw [this],hb⟩
theorem zio {w:World} {l m:List UInt8} {x:Int} {f:FuncId} {args:Array Value} (a b:Array UInt8) (h:Calls Tryz.prog f args w (zen w l m x)) (e1:l=a.toList) (e2:m=b.toList) :
  Calls Tryz.prog f args w fun e w'=>e = .returned (.tuple #[.agg #[.string ⟨a⟩,.string ⟨b⟩],.int .i64 x])∧Below w.heap.size w w':=
 h.mono fun _ _ ⟨s,t,he,hs,ht,hb⟩=>⟨by
  rw [he];obtain ⟨d⟩:=s;obtain ⟨d2⟩:=t;have h1:d=a:=by apply Array.ext';rw [←e1];exact hs
  have h2:d2=b:=by apply Array.ext';rw [←e2];exact ht
  rw [h1,h2],hb⟩
theorem zo5 (w:World) (hT:Tabs w):Calls Tryz.prog 20 #[.agg #[.string ⟨#[45,49]⟩,.string ⟨#[50]⟩],.agg #[.string ⟨#[45,51]⟩,.string ⟨#[52]⟩]] w fun e w'=>e = .returned (.tuple #[.agg #[.string ⟨#[45,54]⟩,.string ⟨#[56]⟩],.int .i64 0])∧Below w.heap.size w w':=by
 have h:=zko ⟨#[45,49]⟩ ⟨#[50]⟩ ⟨#[45,51]⟩ ⟨#[52]⟩ w hT (by decide) (by decide) (by decide) (by decide) 0 (by kernel_rfl) _ rfl;rw [if_neg (by omega),if_neg (by omega),if_neg (by omega)] at h;rw [show zdw (zfF (zak ((⟨#[45,49]⟩:ByteArray).data.toList)) (zak ((⟨#[50]⟩:ByteArray).data.toList)) (zak ((⟨#[45,51]⟩:ByteArray).data.toList)) (zak ((⟨#[52]⟩:ByteArray).data.toList))).1 (zfF (zak ((⟨#[45,49]⟩:ByteArray).data.toList)) (zak ((⟨#[50]⟩:ByteArray).data.toList)) (zak ((⟨#[45,51]⟩:ByteArray).data.toList)) (zak ((⟨#[52]⟩:ByteArray).data.toList))).2=0 from by kernel_rfl] at h;exact zio #[45,54] #[56] h (by kernel_rfl) (by kernel_rfl)
theorem zoI (w:World) (hT:Tabs w):Calls Tryz.prog 36 #[.string ⟨#[49,47,51]⟩] w fun e w'=>e = .returned (.tuple #[.float .f32 1051372203,.int .i64 0])∧Below w.heap.size w w':=by
 have h:=zhR ⟨#[49,47,51]⟩ w hT (by decide);rw [show zam ((⟨#[49,47,51]⟩:ByteArray).data.toList)=0 from by kernel_rfl,if_neg (by omega),if_neg (by omega),show flW (zak ((⟨#[49,47,51]⟩:ByteArray).data.toList))=1051372203 from by decide +kernel,show flX (zak ((⟨#[49,47,51]⟩:ByteArray).data.toList))=0 from by decide +kernel] at h;exact h
theorem zlt (w:World) (hT:Tabs w):Calls Tryz.prog 30 #[.float .f32 1051372203] w fun e w'=>e = .returned (.tuple #[.string ⟨#[49,49,49,56,52,56,49,49,47,51,51,53,53,52,52,51,50]⟩,.int .i64 0])∧Below w.heap.size w w':=by
 have h:=zmv 1051372203 w hT;rw [show Flt.fin Ieee.single 1051372203=true from by decide +kernel,if_pos rfl,if_pos rfl,show zaB (exQ 1051372203)=0 from by decide +kernel] at h;exact zof #[49,49,49,56,52,56,49,49,47,51,51,53,53,52,52,51,50] h (by kernel_rfl)
end
section
open Go.RowKit Bn
open Flt
theorem zf4 {l:List UInt8} (h:zam l=0):LowQ (zak l):=⟨zfP h,zkT h,zlK h⟩
end
section
open Go.RowKit Dn
theorem zkb {l:List UInt8} {N:Nat} (h:zam l=0) (hN:N=600):Small (zak l) N:=by
 obtain ⟨h1,h2,_,hf⟩:=zcf h;rw [←hN] at h2 hf;have aA:1≤N:=by omega
 clear hN;unfold zak Small;rw [if_pos h];refine ⟨Nat.lt_of_lt_of_le (zbu _ (zat h1)) (Nat.pow_le_pow_right (by omega) h2),?_⟩
 cases hb:zdn l
 ·simp only [Bool.false_eq_true,if_false]
  have h9:10 ^ 1≤10 ^ N:=Nat.pow_le_pow_right (by omega) aA;omega
 ·obtain ⟨h3,_,_,h4,_⟩:=hf hb
  simp only [if_true]
  exact Nat.lt_of_lt_of_le (zbu _ (zat h3)) (Nat.pow_le_pow_right (by omega) h4)
theorem zdQ {a:ByteArray} (h:zam a.data.toList=0):NumQ a (zak a.data.toList):=⟨(ziG _ h).symm,zf4 h⟩
theorem zhW {a:ByteArray} (h:zam a.data.toList=0):a.size≤1202:=by
 obtain ⟨N,hN⟩:∃ N:Nat,N=600:=⟨_,rfl⟩;have:=(zdQ h).size (zkb h hN) (by omega);omega
end
section
open Go.RowKit Bn
open Flt
theorem zhi (b:Bool) (t d:Nat):lowQ b t d=zbn (sgn b t) d:=by
 unfold zbn;rw [zdH,zcn];unfold lowQ
 by_cases hd:d=0
 ·rw [if_pos hd,if_pos hd]
 ·rw [if_neg hd,if_neg hd]
  by_cases ht:t=0
  ·rw [if_pos ht,if_pos ht]
  ·rw [if_neg ht,if_neg ht,decide_eq_true (Nat.pos_of_ne_zero ht),Bool.and_true]
theorem zjj (p:Q):sI p=sgn p.neg p.top:=rfl
theorem zgB (p q:Q):lowQ (p.neg != q.neg) (p.top*q.top) (p.bot*q.bot)=mulQ p q:=by
 rw [zhi];unfold mulQ;rw [zjj,zjj,←ziF]
 cases p.neg<;>cases q.neg<;>rfl
theorem zh1 (p q:Q):zdo p q=addQ p q:=by
 unfold zdo addQ;rw [zjj,zjj];have e1:∀ b x y,sgn b x*(y:Nat)=sgn b (x*y):=by
  intro b x y;unfold sgn
  cases b<;>simp [Int.natCast_mul,Int.neg_mul]
 rw [e1,e1];generalize p.top*q.bot=u;generalize q.top*p.bot=v;generalize p.bot*q.bot=d
 split
 ·rename_i h
  rw [h,zhi]
  congr 1
  unfold sgn
  cases q.neg<;>simp<;>omega
 ·rename_i h
  split
  ·rename_i h2
   rw [zhi]
   congr 1
   unfold sgn
   cases hp:p.neg<;>cases hq:q.neg<;>rw [hp,hq] at h<;>simp at h ⊢ <;> omega
  ·rename_i h2
   rw [zhi]
   congr 1
   unfold sgn
   cases hp:p.neg<;>cases hq:q.neg<;>rw [hp,hq] at h<;>simp at h ⊢ <;> omega
theorem zdR {p:Q} {N:Nat} (h:Small p N) (hN:N≤600) (hN0:0<N) (hb:0<p.bot):zaB p=0∧zbz p=zaE p:=by
 have h1:=Dec.dec_length_le hN0 h.1;have h2:=Dec.dec_length_le hN0 h.2;have h0:zaB p=0:=by
  unfold zaB;rw [if_neg (by omega),if_neg (by omega)]
 exact ⟨h0,by unfold zbz;rw [if_pos h0]⟩
end
section
open Go.RowKit Bn Dn
theorem zmH (q:Q):zcS q=negQ q:=by
 unfold zcS negQ
 congr 1
 rcases Nat.eq_zero_or_pos q.top with h | h
 ·rw [decide_eq_true h,decide_eq_false (by omega)];rfl
 ·rw [decide_eq_false (by omega),decide_eq_true h];rfl
theorem zdI (p q:Q):subR p q=subQ p q:=by
 unfold subR za1;rw [zh1,zmH,zg5]
theorem zjl (p q:Q):addR p q=addQ p q:=zh1 p q
theorem zi9 (p q:Q):mulR p q=mulQ p q:=zgB p q
theorem zjC (p q:Q):divR p q=mulQ p (recS q):=zgB p (recS q)
theorem zdO {p q:Q} (hp:LowQ p) (hq:LowQ q):rcmp p q=cmpI p q:=by
 rw [zcQ hp.1 hq.1];obtain ⟨pn,pt,pb⟩:=p;obtain ⟨qn,qt,qb⟩:=q;obtain ⟨p1,_,p3⟩:=hp;obtain ⟨q1,_,q3⟩:=hq
 dsimp only at *
 unfold rcmp sI ncmp
 dsimp only
 have e1:(pt:Int)*(qb:Int)=((pt*qb:Nat):Int):=by rw [Int.natCast_mul]
 have e2:(qt:Int)*(pb:Int)=((qt*pb:Nat):Int):=by rw [Int.natCast_mul]
 cases pn<;>cases qn
 ·simp only [Bool.false_eq_true,if_false,if_true,e1,e2]
  generalize pt*qb=x;generalize qt*pb=y
  split
  ·rw [Int.sign_eq_neg_one_of_neg (by omega)]
  ·split
   ·rename_i h;rw [h,Int.sub_self];rfl
   ·rw [Int.sign_eq_one_of_pos (by omega)]
 ·have hy:0<qt*pb:=Nat.mul_pos (q3 rfl) p1
  simp only [Bool.false_eq_true,if_false,if_true,Int.neg_mul,e1,e2,reduceCtorEq]
  rw [Int.sign_eq_one_of_pos (by omega)]
 ·have hx:0<pt*qb:=Nat.mul_pos (p3 rfl) q1
  simp only [Bool.false_eq_true,if_false,if_true,Int.neg_mul,e1,e2,reduceCtorEq]
  rw [Int.sign_eq_neg_one_of_neg (by omega)]
 ·simp only [if_true,Int.neg_mul,e1,e2]
  generalize pt*qb=x;generalize qt*pb=y
  split
  ·rw [Int.sign_eq_one_of_pos (by omega)];rfl
  ·split
   ·rename_i h;rw [h];simp
   ·rw [Int.sign_eq_neg_one_of_neg (by omega)]
end
section
open Go.RowKit Bn
open Flt
def Val (p:Q) (num:Int) (den:Nat):Prop:=sI p*(den:Int)=num*(p.bot:Int)∧0<den∧0<p.bot
theorem Val.frac {num:Int} {den:Nat} (h:0<den):Val (zbn num den) num den:=⟨zoS h,h,(zbH num h).1⟩
theorem Val.trans {p:Q} {a b:Int} {x y:Nat} (h:Val p a x) (hy:0<y) (e:a*(y:Int)=b*(x:Int)):Val p b y:=by
 obtain ⟨h1,h2,h3⟩:=h;refine ⟨?_,hy,h3⟩;have hx:(x:Int)≠0:=by omega
 apply Int.eq_of_mul_eq_mul_right hx
 grind
theorem Val.eq {p q:Q} {a b:Int} {x y:Nat} (h:Val p a x) (h':Val q b y) (hp:LowQ p) (hq:LowQ q) (e:a*(y:Int)=b*(x:Int)):p=q:=by
 obtain ⟨h1,h2,h3⟩:=h;obtain ⟨k1,k2,k3⟩:=h';refine zkG hp hq ?_;have hx:((x:Int)*(y:Int))≠0:=Int.mul_ne_zero (by omega) (by omega)
 apply Int.eq_of_mul_eq_mul_right hx
 grind
theorem Val.mul {p q:Q} {a b:Int} {x y:Nat} (h:Val p a x) (h':Val q b y):Val (mulQ p q) (a*b) (x*y):=by
 obtain ⟨h1,h2,h3⟩:=h;obtain ⟨k1,k2,k3⟩:=h';have hv:Val (mulQ p q) (sI p*sI q) (p.bot*q.bot):=Val.frac (Nat.mul_pos h3 k3);refine hv.trans (Nat.mul_pos h2 k2) ?_;rw [Int.natCast_mul,Int.natCast_mul]
 grind
theorem Val.add {p q:Q} {a b:Int} {x y:Nat} (h:Val p a x) (h':Val q b y):Val (addQ p q) (a*y+b*x) (x*y):=by
 obtain ⟨h1,h2,h3⟩:=h;obtain ⟨k1,k2,k3⟩:=h';have hv:Val (addQ p q) (sI p*(q.bot:Int)+sI q*(p.bot:Int)) (p.bot*q.bot):=Val.frac (Nat.mul_pos h3 k3);refine hv.trans (Nat.mul_pos h2 k2) ?_;rw [Int.natCast_mul,Int.natCast_mul]
 grind
theorem Val.sub {p q:Q} {a b:Int} {x y:Nat} (h:Val p a x) (h':Val q b y):Val (subQ p q) (a*y - b*x) (x*y):=by
 obtain ⟨h1,h2,h3⟩:=h;obtain ⟨k1,k2,k3⟩:=h';have hv:Val (subQ p q) (sI p*(q.bot:Int) - sI q*(p.bot:Int)) (p.bot*q.bot):=Val.frac (Nat.mul_pos h3 k3);refine hv.trans (Nat.mul_pos h2 k2) ?_;rw [Int.natCast_mul,Int.natCast_mul]
 grind
theorem Val.sign {q:Q} {num:Int} {den:Nat} (h:Val q num den):(num<0→zda q = -1)∧(num=0→zda q=0)∧(0<num→zda q=1):=by
 obtain ⟨h1,h2,h3⟩:=h;have hb:(0:Int)<(q.bot:Int):=by omega
 have hd:(0:Int)<(den:Int):=by omega
 have hs:sI q=if q.neg then -(q.top:Int) else (q.top:Int):=rfl
 unfold zda;refine ⟨fun hn => ?_,fun hn => ?_,fun hn => ?_⟩
 ·have aC:sI q*(den:Int)<0:=by rw [h1];exact Int.mul_neg_of_neg_of_pos hn hb
  have aA:sI q<0:=by
   rcases Int.lt_or_le (sI q) 0 with h9 | h9
   ·exact h9
   ·have:=Int.mul_nonneg h9 (Int.le_of_lt hd);omega
  rw [hs] at aA;have ht:q.top≠0:=by intro h9;rw [h9] at aA;simp at aA
  rw [if_neg ht]
  cases hq:q.neg
  ·rw [hq] at aA;simp at aA;omega
  ·simp
 ·rw [hn,Int.zero_mul] at h1
  have h0:=(Int.mul_eq_zero.1 h1).resolve_right (by omega);rw [hs] at h0;have ht:q.top=0:=by split at h0<;>omega
  rw [if_pos ht]
 ·have aC:0<sI q*(den:Int):=by rw [h1];exact Int.mul_pos hn hb
  have aA:0<sI q:=by
   rcases Int.lt_or_le 0 (sI q) with h9 | h9
   ·exact h9
   ·have:=Int.mul_nonpos_of_nonpos_of_nonneg h9 (Int.le_of_lt hd);omega
  rw [hs] at aA;have ht:q.top≠0:=by intro h9;rw [h9] at aA;simp at aA
  rw [if_neg ht]
  cases hq:q.neg
  ·simp
  ·rw [hq] at aA;simp at aA;omega
end
section
open Go.RowKit
open Flt
theorem zla {p q:Q} {a b:Int} {x y:Nat} (h:Val p a x) (h':Val q b y):(a*y<b*x→cmpI p q = -1)∧(a*y=b*x→cmpI p q=0)∧(b*x<a*y→cmpI p q=1):=by
 have h9:=(h.sub h').sign;unfold cmpI;exact ⟨fun e=>h9.1 (by omega),fun e=>h9.2.1 (by omega),fun e=>h9.2.2 (by omega)⟩
end
section
open Go.RowKit Dn
def FewK (k:Nat) (s:ByteArray):Prop:=zam s.data.toList=0∧Small (zak s.data.toList) k∧s.size≤2*k+2
def znY (k:Nat) (s:ByteArray) (b:Bool):Prop:=∀ W,Calls Tryz.prog 38 #[.string s,.int .i64 (k:Int)] W fun e w'=>e = .returned (.bool b)∧Below W.heap.size W w'
theorem zeM {k:Nat} (hk:k≤1000):∃ K2 L:Nat,K2=2*k∧L=2*k+2∧wrap64 (2*(k:Int))=(K2:Int)∧wrap64 ((K2:Int)+2)=(L:Int):=⟨2*k,2*k+2,rfl,rfl,by rw [IntWalk.wrap64_in _ (by omega)];omega,by rw [IntWalk.wrap64_in _ (by omega)];omega⟩
set_option maxRecDepth 100000 in
theorem zkp (k:Nat) (a:ByteArray) (b:Bool) (hk:k≤1000) (h1:a.size≤2*k+2) (h2:zam a.data.toList=0) (hb:b=(decide ((zaE (absQ (numQ (zak a.data.toList)))).length≤k) && decide ((Lib.decDigits (zak a.data.toList).bot).length≤k))) :
    znY k a b:=by
  intro w;obtain ⟨K2,L,_,hL,w1,w2⟩:=zeM hk;have d1:decide ((a.size:Int)≤(L:Int))=true:=decide_eq_true (by omega);have hq:=zdQ h2;have hC:∀ W,Calls Tryz.prog 10 #[.string a] W (RetC W 0):=fun W=>by
    have h:=zcX a W (by omega)
    rwa [h2] at h
  have HC:=Aa hC;have HN:=Aa (fun W=>zoO a _ W hq (by omega));have HA:=Aa (fun (s:ByteArray) (hs:NumQ s (numQ (zak a.data.toList))) (hz:s.size≤1000000) (W:World)=>znQ s (numQ (zak a.data.toList)) W hs hz);have HD:=Aa (fun W=>zo7 a _ W hq (by omega));clear hC;generalize zak a.data.toList=p at *;obtain ⟨L2,aC⟩:∃ L2,L2=(Lib.decDigits p.bot).length:=⟨_,rfl⟩;obtain ⟨L1,aD⟩:∃ L1,L1=(zaE (absQ (numQ p))).length:=⟨_,rfl⟩;rw [←aD,←aC] at hb;rw [←aC] at HD;have HZ:Hid (∀ t:ByteArray,NumQ t (absQ (numQ p))→t.size=L1):=fun t ht=>by
    have h9:=congrArg List.length ht.1;rw [←aD,Array.length_toList] at h9;exact h9
  clear hq h2 aD aC;have aA:(decide (L1≤k)=false∧b=false)∨(decide (L1≤k)=true∧Hid (decide (L2≤k)=b)):=by
    rw [hb]
    by_cases h3:L1≤k
    · refine .inr ⟨decide_eq_true h3,?_⟩
      rw [decide_eq_true h3,Bool.true_and];exact rfl
    · exact .inl ⟨decide_eq_false h3,by rw [decide_eq_false h3];rfl⟩
  clear hb
  rcases aA with ⟨d3,rfl⟩ | ⟨d3,d4⟩
  all_goals
    go_enter Tryz.func38,Tryz.ntmps38
    go_wp2_with fail
    refine (HC.out w).mono ?_;rintro e w1 ⟨rfl,aE⟩
    go_wp2_with fail
    refine (HN.out w1).mono ?_;rintro e w2 ⟨⟨s,rfl,aG,aK⟩,rfl⟩;have HS:=Aa aG;clear aG
    go_wp2_with fail
    refine (HA.out s HS.out (by omega) w1).mono ?_;rintro e w3 ⟨⟨t,rfl,aI⟩,aJ⟩;have aF:=Ad aE aJ;have aH:=HZ.out t aI;rw [←aH] at d3;clear aI aJ aE aH
    go_wp2_with fail
    first
      | (go_ret
         exact ⟨rfl,aF⟩)
      | (refine (HD.out w3).mono ?_
         rintro e w4 ⟨⟨u,rfl,hu⟩,rfl⟩;have HU:=Aa hu;clear hu;go_wp2
         go_ret;exact ⟨by rw [←d4.out,←HU.out];rfl,aF⟩)
theorem zli (k:Nat) (a:ByteArray) (h0:0<k) (hk:k≤1000):∃ b,(b=true→FewK k a)∧znY k a b:=by
 by_cases h1:a.size≤2*k+2
 ·by_cases h2:zam a.data.toList=0
  ·refine ⟨_,fun hb=>⟨h2,?_,h1⟩,zkp k a _ hk h1 h2 rfl⟩
   simp only [Bool.and_eq_true,decide_eq_true_eq] at hb
   have hq:=zdQ h2;generalize zak a.data.toList=p at *;have aC:LowQ (numQ p):=⟨Nat.one_pos,Nat.gcd_one_right _,hq.2.2.2⟩;have ht:NumQ ⟨(zaE (absQ (numQ p))).toArray⟩ (absQ (numQ p)):=⟨by simp,zkL aC⟩;have aA:(⟨(zaE (absQ (numQ p))).toArray⟩:ByteArray).size≤k:=by
    show (zaE (absQ (numQ p))).toArray.size≤k
    rw [List.size_toArray];exact hb.1
   refine ⟨(ht.small aA h0).1,?_⟩;have e2:=zbu _ (zaC p.bot);rw [zaW] at e2;exact Nat.lt_of_lt_of_le e2 (Nat.pow_le_pow_right (by omega) hb.2)
  ·refine ⟨false,(fun h=>by cases h),fun w => ?_⟩
   obtain ⟨K2,L,_,hL,w1,w2⟩:=zeM hk;have d1:decide ((a.size:Int)≤(L:Int))=true:=decide_eq_true (by omega);have HC:=Aa (fun W=>zcX a W (by omega));have d2:(zam a.data.toList==0)=false:=beq_eq_false_iff_ne.2 h2;generalize zam a.data.toList=E at *;clear h2;go_enter Tryz.func38,Tryz.ntmps38
   go_wp2_with fail
   refine (HC.out w).mono ?_;rintro e w1 ⟨rfl,aD⟩;go_wp2
   go_ret;exact ⟨rfl,aD⟩
 ·refine ⟨false,(fun h=>by cases h),fun w => ?_⟩
  obtain ⟨K2,L,_,hL,w1,w2⟩:=zeM hk;have d1:decide ((a.size:Int)≤(L:Int))=false:=decide_eq_false (by omega);go_enter Tryz.func38,Tryz.ntmps38
  go_wp2
  go_ret;exact ⟨rfl,Below.refl _ _⟩
end
section
open Go.RowKit Bn Dn
open Flt
theorem zl7 {s:ByteArray} {p:Q} {K:Nat} (h:NumQ s p) (hs:Small p K) (hK:K≤600) (hK0:0<K):zam s.data.toList=0∧zak s.data.toList=p:=by
 rw [h.1];exact zfU p h.2 (Nat.le_trans (Dec.dec_length_le hK0 hs.1) hK) (Nat.le_trans (Dec.dec_length_le hK0 hs.2) hK)
theorem ze2 {p:Q} (hb:0<p.bot):Val p (sI p) p.bot:=⟨rfl,hb,hb⟩
theorem zph {p q:Q} {a b:Int} {x y:Nat} (h:Val p a x) (h':Val q b y):cmpI p q≤0↔a*(y:Int)≤b*(x:Int):=by
 obtain ⟨c1,c2,c3⟩:=zla h h';generalize a*(y:Int)=u at *;generalize b*(x:Int)=v at *
 rcases Int.lt_trichotomy u v with g | g | g
 ·have:=c1 g;omega
 ·have:=c2 g;omega
 ·have:=c3 g;omega
theorem zor {p q:Q} {a b:Int} {x y:Nat} (h:Val p a x) (h':Val q b y):cmpI p q<0↔a*(y:Int)<b*(x:Int):=by
 obtain ⟨c1,c2,c3⟩:=zla h h';generalize a*(y:Int)=u at *;generalize b*(x:Int)=v at *
 rcases Int.lt_trichotomy u v with g | g | g
 ·have:=c1 g;omega
 ·have:=c2 g;omega
 ·have:=c3 g;omega
theorem zfr (p q:Q) (hp:0<p.bot) (hq:0<q.bot):LowQ (subQ p q):=zbH _ (Nat.mul_pos hp hq)
theorem zbK (p q:Q) (hp:0<p.bot) (hq:0<q.bot):LowQ (mulQ p q):=zbH _ (Nat.mul_pos hp hq)
end
section
open Go.RowKit Bn Dn
theorem zfq {s:ByteArray} {p:Q} {K:Nat} (h:NumQ s p) (hs:Small p K) (hK:K≤600) (hK0:0<K):zam s.data.toList=0∧zak s.data.toList=p:=by
 rw [h.1];exact zfU p h.2 (Nat.le_trans (Dec.dec_length_le hK0 hs.1) hK) (Nat.le_trans (Dec.dec_length_le hK0 hs.2) hK)
theorem zdu {p q:Q} {a b:Int} {d:Nat} (h:Val p a d) (h':Val q b d):cmpI p q≤0↔a≤b:=by
 rw [zph h h'];have hd:(0:Int)<(d:Int):=by have:=h.2.1;omega
 exact ⟨fun g=>Int.le_of_mul_le_mul_right g hd,fun g=>Int.mul_le_mul_of_nonneg_right g (by omega)⟩
theorem zbT {p q:Q} {a b:Int} {d:Nat} (h:Val p a d) (h':Val q b d):cmpI p q<0↔a<b:=by
 rw [zor h h'];have hd:(0:Int)<(d:Int):=by have:=h.2.1;omega
 exact ⟨fun g=>Int.lt_of_mul_lt_mul_right g (by omega),fun g=>Int.mul_lt_mul_of_pos_right g hd⟩
theorem zbJ {p q:Q} (hp:0<p.bot) (hq:0<q.bot):cmpI q p = - cmpI p q:=by
 rw [zcQ hp hq,zcQ hq hp,←Int.sign_neg]
 congr 1
 omega
theorem Val.inj {p:Q} {a b:Int} {d:Nat} (h:Val p a d) (h':Val p b d):a=b:=by
 have h1:cmpI p p≤0↔a≤b:=zdu h h';have h2:cmpI p p≤0↔b≤a:=zdu h' h;have h3:cmpI p p≤0:=(zdu h h).2 (Int.le_refl _);have:=h1.1 h3;have:=h2.1 h3;omega
theorem Val.scale {p:Q} {a:Int} {d:Nat} (h:Val p a d) {k:Nat} (hk:0<k):Val p (a*(k:Int)) (d*k):=by
 refine h.trans (Nat.mul_pos h.2.1 hk) ?_;rw [Int.natCast_mul]
 grind
theorem Val.add1 {p q:Q} {a b:Int} {d:Nat} (h:Val p a d) (h':Val q b d):Val (addQ p q) (a+b) d:=by
 refine (h.add h').trans h.2.1 ?_;rw [Int.natCast_mul]
 grind
theorem Val.sub1 {p q:Q} {a b:Int} {d:Nat} (h:Val p a d) (h':Val q b d):Val (subQ p q) (a - b) d:=by
 refine (h.sub h').trans h.2.1 ?_;rw [Int.natCast_mul]
 grind
theorem zcC {p q:Q} (hp:0<p.bot) (hq:0<q.bot):∃ (P R:Int) (D:Nat),Val p P D∧Val q R D:=
 ⟨sI p*(q.bot:Int),sI q*(p.bot:Int),p.bot*q.bot,(ze2 hp).scale hq,by
  have h:=(ze2 hq).scale hp
  rwa [Nat.mul_comm] at h⟩
def ziD (p q tq:Q):Q:=addQ p (mulQ tq (subQ q p))
structure Mid (p q x:Q) (P R X:Int) (E:Nat):Prop where
 v1:Val p P E
 v2:Val q R E
 vx:Val x X E
 le1:P≤X
 le2:X≤R
theorem zjG {p q tq:Q} (hp:0<p.bot) (hq:0<q.bot) (hle:cmpI p q≤0) {A:Nat} (hA:A≤255) (ht:Val tq (A:Int) 255):∃ (P R X:Int) (E:Nat),Mid p q (ziD p q tq) P R X E:=by
 obtain ⟨P,R,D,h1,h2⟩:=zcC hp hq;have h3:=(zdu h1 h2).1 hle;have h4:=ht.mul (h2.sub1 h1);have h5:=h1.scale (k:=255) (by omega);rw [Nat.mul_comm] at h5;have h6:=h2.scale (k:=255) (by omega);rw [Nat.mul_comm] at h6;have h7:=h5.add1 h4;refine ⟨_,_,_,_,⟨h5,h6,h7,?_,?_⟩⟩
 ·have:=Int.mul_nonneg (show (0:Int)≤(A:Int) by omega) (show 0≤R - P by omega)
  omega
 ·have:=Int.mul_le_mul_of_nonneg_right (show (A:Int)≤255 by omega) (show 0≤R - P by omega)
  omega
theorem zoN {y:Q} {Y R:Int} {E N:Nat} (h:Val y Y E) (hy:y.top≠0) (hN:0<N) (e:R*Y=(E:Int)*(N:Int)):Val (recS y) R N:=by
 obtain ⟨h1,h2,h3⟩:=h;refine ⟨?_,hN,by show 0<y.top;omega⟩;have hs:sI (recS y)*sI y=(y.bot:Int)*(y.top:Int):=by
  unfold sI recS
  dsimp only
  cases y.neg
  ·simp
  ·simp [Int.neg_mul_neg]
 have aA:sI y≠0:=by
  unfold sI
  split<;>omega
 have hc:sI y*(E:Int)≠0:=Int.mul_ne_zero aA (by omega)
 apply Int.eq_of_mul_eq_mul_right hc
 show sI (recS y)*(N:Int)*(sI y*(E:Int))=R*(y.top:Int)*(sI y*(E:Int))
 generalize sI (recS y)=s at *;generalize sI y=t at *;generalize (y.bot:Int)=b at *;generalize (y.top:Int)=c at *;have k1:s*(N:Int)*(t*(E:Int))=(s*t)*((E:Int)*(N:Int)):=by grind
 have k2:R*c*(t*(E:Int))=R*c*(Y*b):=by rw [h1]
 have k3:R*c*(Y*b)=(R*Y)*(b*c):=by grind
 rw [k1,k2,k3,e,hs]
 grind
theorem zms {y:Q} {Y:Int} {E:Nat} (h:Val y Y E) (hY:Y≠0):y.top≠0:=by
 intro h0;obtain ⟨h1,h2,h3⟩:=h;have:sI y=0:=by unfold sI;rw [h0];split<;>rfl
 rw [this,Int.zero_mul] at h1;have:=Int.mul_ne_zero hY (show (y.bot:Int)≠0 by omega);omega
theorem zbG {p q r:Q} (hp:0<p.bot) (hq:0<q.bot) (hr:0<r.bot):∃ (P R S:Int) (D:Nat),Val p P D∧Val q R D∧Val r S D:=by
 obtain ⟨P,R,D,h1,h2⟩:=zcC hp hq;have h:=(ze2 hr).scale h1.2.1;rw [Nat.mul_comm] at h;exact ⟨_,_,_,_,h1.scale hr,h2.scale hr,h⟩
theorem zdU {p q:Q} (hp:LowQ p) (hq:LowQ q) (h:cmpI p q=0):p=q:=by
 obtain ⟨P,R,D,h1,h2⟩:=zcC hp.1 hq.1;have a:=(zdu h1 h2).1 (by omega);have b:=mt (zbT h1 h2).2 (by omega);have e:P=R:=by omega
 subst e;exact Val.eq h1 h2 hp hq rfl
theorem zgX {p:Q} (hp:LowQ p):cmpI p p=0:=by
 rw [zcQ hp.1 hp.1,Int.sub_self];rfl
theorem zcY {p q r:Q} (hp:0<p.bot) (hq:0<q.bot) (hr:0<r.bot) (h1:cmpI p q<0) (h2:cmpI q r≤0):cmpI p r<0:=by
 obtain ⟨P,R,S,D,v1,v2,v3⟩:=zbG hp hq hr;rw [zbT v1 v2] at h1;rw [zdu v2 v3] at h2;rw [zbT v1 v3];omega
structure TabQ (ks:List (Q × Q)):Prop where
 low1:∀ i (h:i<ks.length),LowQ ks[i].1
 low2:∀ i (h:i<ks.length),LowQ ks[i].2
 inc:∀ i j (h:i<ks.length) (h':j<ks.length),i<j→cmpI ks[i].1 ks[j].1<0
theorem zjq:∀ (l:List (ByteArray × ByteArray)) (o:Option Q),zbr o l=0→(∀ q,o=some q→LowQ q)→TabQ (l.map rdP)∧(∀ p ∈ l,zam p.1.data.toList=0∧zam p.2.data.toList=0)∧(∀ q,o=some q→∀ i (h:i<(l.map rdP).length),cmpI q (l.map rdP)[i].1<0)
 | [],o,_,_=>⟨⟨fun i h=>by simp at h,fun i h=>by simp at h,fun i j h=>by simp at h⟩,fun p hp=>by simp at hp,fun q _ i h=>by simp at h⟩
 | p :: t,o,he,ho=>by
  have he2:rowE o p.1.data.toList p.2.data.toList=0∧zbr (some (zak p.1.data.toList)) t=0:=by
   have aA:(if rowE o p.1.data.toList p.2.data.toList≠0 then rowE o p.1.data.toList p.2.data.toList else zbr (some (zak p.1.data.toList)) t)=0:=by
    cases o<;>exact he
   by_cases h:rowE o p.1.data.toList p.2.data.toList=0
   ·rw [if_neg (by omega)] at aA;exact ⟨h,aA⟩
   ·rw [if_pos h] at aA;exact absurd aA h
  obtain ⟨h1,h2⟩:=he2;have hx:zam p.1.data.toList=0:=by
   unfold rowE at h1
   by_cases h:zam p.1.data.toList=0
   ·exact h
   ·rw [if_pos h] at h1;exact h1
  have hy:zam p.2.data.toList=0:=by
   unfold rowE at h1;rw [if_neg (by omega)] at h1
   by_cases h:zam p.2.data.toList=0
   ·exact h
   ·rw [if_pos h] at h1;exact h1
  have lx:=zf4 hx;have ly:=zf4 hy;have aD:∀ q,o=some q→cmpI q (zak p.1.data.toList)<0:=by
   intro q hq;subst hq;unfold rowE at h1;rw [if_neg (by omega),if_neg (by omega)] at h1
   dsimp only at h1
   split at h1
   ·omega
   ·rename_i h
    rw [zdO lx (ho q rfl)] at h;rw [zbJ lx.1 (ho q rfl).1];omega
  obtain ⟨T,hE,hI⟩:=zjq t _ h2 (fun q hq=>by cases hq;exact lx);have hI:=hI _ rfl;refine ⟨⟨?_,?_,?_⟩,?_,?_⟩
  ·intro i h
   match i,h with
   | 0,_=>exact lx
   | i+1,h=>exact T.low1 i (by simpa using h)
  ·intro i h
   match i,h with
   | 0,_=>exact ly
   | i+1,h=>exact T.low2 i (by simpa using h)
  ·intro i j h h' aC
   match i,j,h,h',aC with
   | 0,j+1,_,h',_=>exact hI j (by simpa using h')
   | i+1,j+1,h,h',aC=>exact T.inc i j (by simpa using h) (by simpa using h') (by omega)
   | i,0,_,_,aC=>exact absurd aC (by omega)
  ·intro q hq
   rcases List.mem_cons.1 hq with rfl | h
   ·exact ⟨hx,hy⟩
   ·exact hE q h
  ·intro q hq i h
   match i,h with
   | 0,_=>exact aD q hq
   | i+1,h=>exact zcY (ho q hq).1 lx.1 (T.low1 i (by simpa using h)).1 (aD q hq) (Int.le_of_lt (hI i (by simpa using h)))
theorem zpj {l:List (ByteArray × ByteArray)} (h:tabE l=0):1≤l.length∧l.length≤64∧TabQ (l.map rdP)∧∀ p ∈ l,zam p.1.data.toList=0∧zam p.2.data.toList=0:=by
 unfold tabE at h
 split at h
 ·omega
 ·split at h
  ·omega
  ·obtain ⟨a,b,_⟩:=zjq l none h (fun q hq=>by cases hq)
   exact ⟨by omega,by omega,a,b⟩
theorem zeg {x:Q} {ks:List (Q × Q)} (T:TabQ ks):∀ k,k≤ks.length→(∀ i (h:i<ks.length),i<k→0<rcmp x ks[i].1)→zaU x none ks=zaU x (zeE ks k) (ks.drop k)
 | 0,_,_=>rfl
 | k+1,hk,h=>by
  have hkl:k<ks.length:=by omega
  have ih:=zeg T k (by omega) (fun i hi aA=>h i hi (by omega));exact (zcm (by rw [List.getElem?_eq_getElem hkl]) ih).2.2 (h k hkl (by omega))
theorem zdP {ks:List (Q × Q)} (T:TabQ ks) {i:Nat} (hi:i<ks.length):zaU ks[i].1 none ks=some ks[i].2:=by
 have h:=zeg (x:=ks[i].1) T i (by omega) (fun j hj aA=>by
  rw [zdO (T.low1 i hi) (T.low1 j hj),zbJ (T.low1 j hj).1 (T.low1 i hi).1];have:=T.inc j i hj hi aA;omega)
 exact (zcm (by rw [List.getElem?_eq_getElem hi]) h).1 (by rw [zdO (T.low1 i hi) (T.low1 i hi),zgX (T.low1 i hi)])
theorem zhB {x:Q} {ks:List (Q × Q)} (T:TabQ ks) (hx:LowQ x) {i:Nat} (hi:i+1<ks.length) (h1:cmpI ks[i].1 x<0) (h2:cmpI x ks[i+1].1<0):zaU x none ks=some (zbd ks[i].1 ks[i].2 ks[i+1].1 ks[i+1].2 x):=by
 have h:=zeg (x:=x) T (i+1) (by omega) (fun j hj aA=>by
  rw [zdO hx (T.low1 j hj),zbJ (T.low1 j hj).1 hx.1];have:cmpI ks[j].1 x<0:=by
   by_cases e:j=i
   ·subst e;exact h1
   ·exact zcY (T.low1 j hj).1 (T.low1 i (by omega)).1 hx.1 (T.inc j i hj (by omega) (by omega)) (Int.le_of_lt h1)
  omega)
 have h3:=(zcm (by rw [List.getElem?_eq_getElem hi]) h).2.1 (by rw [zdO hx (T.low1 _ hi)];exact h2);rw [h3];unfold zeE;rw [if_neg (by omega),Nat.add_sub_cancel,List.getElem?_eq_getElem (by omega)];rfl
theorem zec {a b c d x:Q} {A C X B G:Int} {D F:Nat} (va:Val a A D) (vc:Val c C D) (vx:Val x X D) (vb:Val b B F) (vd:Val d G F) (h:A<C) :
  Val (zbd a b c d x) (B*(C - A)+(G - B)*(X - A)) (F*(C - A).toNat)∧LowQ (zbd a b c d x):=by
 have e:zbd a b c d x=addQ b (mulQ (mulQ (subQ d b) (recS (subQ c a))) (subQ x a)):=by
  show addR b (mulR (divR (subR d b) (subR c a)) (subR x a))=_
  rw [zjl,zi9,zjC,zdI,zdI,zdI]
 rw [e];have hK:(((C - A).toNat:Nat):Int)=C - A:=Int.toNat_of_nonneg (by omega);have aA:0<(C - A).toNat:=by omega
 have v1:=vc.sub1 va;have v2:Val (recS (subQ c a)) (D:Int) (C - A).toNat:=zoN v1 (zms v1 (by omega)) aA (by rw [hK]);have v3:=((vd.sub1 vb).mul v2).mul (vx.sub1 va);have v4:=vb.add v3;have hF:=vb.2.1;have hD:=va.2.1;refine ⟨v4.trans (Nat.mul_pos hF aA) ?_,zbH _ (Nat.mul_pos vb.2.2 v3.2.2)⟩;simp only [Int.natCast_mul,hK]
 grind
theorem zeJ {a b c d x:Q} {A C X B G:Int} {D F:Nat} (va:Val a A D) (vc:Val c C D) (vx:Val x X D) (vb:Val b B F) (vd:Val d G F) (h:A<C) :
  mulQ (subQ (zbd a b c d x) b) (subQ c a)=mulQ (subQ d b) (subQ x a):=by
 obtain ⟨v,lv⟩:=zec va vc vx vb vd h;have hK:(((C - A).toNat:Nat):Int)=C - A:=Int.toNat_of_nonneg (by omega);have s1:=vc.sub1 va;have s2:=vx.sub1 va;have s3:=vd.sub1 vb;have s4:=v.sub vb;refine Val.eq (s4.mul s1) (s3.mul s2) (zbK _ _ s4.2.2 s1.2.2) (zbK _ _ s3.2.2 s2.2.2) ?_;simp only [Int.natCast_mul,hK]
 grind
theorem zgU {a b c d x:Q} (ha:LowQ a) (hb:LowQ b) (hc:LowQ c) (hd:LowQ d) (hx:LowQ x) (sa:Small a 6) (sb:Small b 6) (sc:Small c 6) (sd:Small d 6) (sx:Small x 30) (h:(subQ c a).top≠0):Small (zbd a b c d x) 80:=by
 have e:zbd a b c d x=addQ b (mulQ (mulQ (subQ d b) (recS (subQ c a))) (subQ x a)):=by
  show addR b (mulR (divR (subR d b) (subR c a)) (subR x a))=_
  rw [zjl,zi9,zjC,zdI,zdI,zdI]
 rw [e];have l1:=zfr d b hd.1 hb.1;have l2:=zmD (zfr c a hc.1 ha.1) (by omega);have l3:=zfr x a hx.1 ha.1;have s1:=zdE sd sb hd.1 hb.1;have s2:=zjW (zdE sc sa hc.1 ha.1);have s3:=zdE sx sa hx.1 ha.1;have s4:=zdB s1 s2 l1.1 l2.1;have l4:=zbK _ _ l1.1 l2.1;have s5:=zdB s4 s3 l4.1 l3.1;have l5:=zbK _ _ l4.1 l3.1;exact (zfw sb s5 hb.1 l5.1).more (by omega)
theorem zn7 {a c:Q} (ha:LowQ a) (hc:LowQ c) (h:cmpI a c<0):(subQ c a).top≠0:=by
 obtain ⟨A,C,D,va,vc⟩:=zcC ha.1 hc.1;exact zms (vc.sub1 va) (by have:=(zbT va vc).1 h;omega)
theorem zk4 {x:Q} {ks:List (Q × Q)} (T:TabQ ks) (S:∀ i (h:i<ks.length),Small ks[i].1 6∧Small ks[i].2 6) (hx:LowQ x) (sx:Small x 30) {i:Nat} (hi:i+1<ks.length) (h1:cmpI ks[i].1 x≤0) (h2:cmpI x ks[i+1].1≤0) :
  ∃ v,zaU x none ks=some v∧LowQ v∧Small v 80∧mulQ (subQ v ks[i].2) (subQ ks[i+1].1 ks[i].1)=mulQ (subQ ks[i+1].2 ks[i].2) (subQ x ks[i].1):=by
 have aA:i<ks.length:=by omega
 have la:=T.low1 i aA;have lb:=T.low2 i aA;have lc:=T.low1 _ hi;have ld:=T.low2 _ hi
 have aC:=T.inc i (i+1) aA hi (by omega);obtain ⟨A,C,X,D,va,vc,vx⟩:=zbG la.1 lc.1 hx.1;obtain ⟨B,G,F,vb,vd⟩:=zcC lb.1 ld.1;have aD:=(zbT va vc).1 aC
 by_cases e1:cmpI ks[i].1 x=0
 ·have ex:=zdU la hx e1
  refine ⟨_,by rw [←ex];exact zdP T aA,lb,(S i aA).2.more (by omega),?_⟩;rw [←ex];refine Val.eq ((vb.sub1 vb).mul (vc.sub1 va)) ((vd.sub1 vb).mul (va.sub1 va)) (zbK _ _ (vb.sub1 vb).2.2 (vc.sub1 va).2.2) (zbK _ _ (vd.sub1 vb).2.2 (va.sub1 va).2.2) ?_;rw [Int.sub_self,Int.sub_self];simp
 ·by_cases e2:cmpI x ks[i+1].1=0
  ·have ex:=zdU hx lc e2
   subst ex;exact ⟨_,zdP T hi,ld,(S _ hi).2.more (by omega),rfl⟩
  ·exact ⟨_,zhB T hx hi (by omega) (by omega),(zec va vc vx vb vd aD).2,zgU la lb lc ld hx (S i aA).1 (S i aA).2 (S _ hi).1 (S _ hi).2 sx (zn7 la lc aC),zeJ va vc vx vb vd aD⟩
end
end Go.Proofs.YtbkgkoenppkhpaaGreatDoor
