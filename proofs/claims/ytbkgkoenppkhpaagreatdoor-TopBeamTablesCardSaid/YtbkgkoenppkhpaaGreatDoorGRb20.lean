/- The reference's numbers as rationals: Mul and Add; Sign, Neg, Abs, Sub, Cmp, Half. -/
import Derived.Test.YtbkgkoenppkhpaaGreatDoorGRb17
set_option maxHeartbeats 1000000
namespace Go.Proofs.YtbkgkoenppkhpaaGreatDoor
open Go.RowKit Dn
def NumQ (a:ByteArray) (p:Q):Prop:=a.data.toList=zaE p∧LowQ p
theorem NumQ.num {a:ByteArray} {p:Q} (h:NumQ a p):NumT a p.neg p.top p.bot:=h.1
def Small (p:Q) (N:Nat):Prop:=p.top<10 ^ N∧p.bot<10 ^ N
theorem Small.more {p:Q} {N M:Nat} (h:Small p N) (hM:N≤M):Small p M:=
 ⟨Nat.lt_of_lt_of_le h.1 (Nat.pow_le_pow_right (by omega) hM),Nat.lt_of_lt_of_le h.2 (Nat.pow_le_pow_right (by omega) hM)⟩
theorem NumQ.size {a:ByteArray} {p:Q} {N:Nat} (h:NumQ a p) (hs:Small p N) (hN:0<N):a.size≤2*N+2:=by
 have hl:=congrArg List.length h.1;rw [Array.length_toList,zaV,List.length_append] at hl;have h1:=Dec.dec_length_le hN hs.1;have h2:=Dec.dec_length_le hN hs.2;have h3:=zfs p.neg (Lib.decDigits p.top);have h4:a.data.size=a.size:=rfl
 split at hl<;>simp at hl<;>omega
theorem zeR {z:Int} {d N:Nat} (hz:z.natAbs<10 ^ N) (hd:d<10 ^ N) (hd0:0<d):Small (zbn z d) N:=by
 by_cases h0:z=0
 ·subst h0
  rw [zeT hd0];exact ⟨hz,by show 1<10 ^ N;omega⟩
 ·rw [zhm hd0 h0]
  exact ⟨Nat.lt_of_le_of_lt (Nat.div_le_self _ _) hz,Nat.lt_of_le_of_lt (Nat.div_le_self _ _) hd⟩
theorem NumQ.small {a:ByteArray} {p:Q} {N:Nat} (h:NumQ a p) (ha:a.size≤N) (hN:0<N):Small p N:=by
 have h1:=congrArg List.length h.1;rw [Array.length_toList,zaV,List.length_append] at h1;have h3:a.data.size=a.size:=rfl;have h6:(Lib.decDigits p.top).length≤(sgnT p.neg (Lib.decDigits p.top)).length:=by unfold sgnT;split<;>simp
 have e1:=zbu _ (zaC p.top);have e2:=zbu _ (zaC p.bot);rw [zaW] at e1 e2;refine ⟨Nat.lt_of_lt_of_le e1 (Nat.pow_le_pow_right (by omega) (by omega)),?_⟩
 by_cases hb:p.bot=1
 ·rw [hb];exact Nat.one_lt_pow (by omega) (by omega)
 ·rw [if_neg hb,List.length_cons] at h1
  exact Nat.lt_of_lt_of_le e2 (Nat.pow_le_pow_right (by omega) (by omega))
theorem zi1 (p:Q):(sI p).natAbs=p.top:=by unfold sI;split<;>simp
theorem zcO {x y M N:Nat} (hx:x<10 ^ M) (hy:y<10 ^ N):x*y<10 ^ (M+N):=by
 rw [Nat.pow_add];exact Nat.mul_lt_mul'' hx hy
theorem zdB {p q:Q} {M N:Nat} (hp:Small p M) (hq:Small q N) (p0:0<p.bot) (q0:0<q.bot):Small (mulQ p q) (M+N):=by
 refine zeR ?_ (zcO hp.2 hq.2) (Nat.mul_pos p0 q0);rw [Int.natAbs_mul,zi1,zi1];exact zcO hp.1 hq.1
theorem zfw {p q:Q} {M N:Nat} (hp:Small p M) (hq:Small q N) (p0:0<p.bot) (q0:0<q.bot):Small (addQ p q) (M+N+1):=by
 have h1:=zcO hp.1 hq.2;have h2:=zcO hq.1 hp.2;have h3:=zcO hp.2 hq.2;rw [Nat.add_comm N M] at h2;have e:10 ^ (M+N+1)=10 ^ (M+N)*10:=Nat.pow_succ _ _;refine zeR ?_ (by omega) (Nat.mul_pos p0 q0);have h4:=Int.natAbs_add_le (sI p*(q.bot:Int)) (sI q*(p.bot:Int));rw [Int.natAbs_mul,Int.natAbs_mul,zi1,zi1,Int.natAbs_natCast,Int.natAbs_natCast] at h4;omega
def RetS (w:World) (p:Q) (e:Ending) (w':World):Prop:=(∃ s:ByteArray,e = .returned (.string s)∧NumQ s p)∧Below w.heap.size w w'
theorem zpd (a a':ByteArray) (p q:Q) (w:World) (h:NumQ a p) (h':NumQ a' q) (ha:a.size≤100000) (ha':a'.size≤100000) :
  Calls Tryz.prog 48 #[.string a,.string a'] w (RetS w (mulQ p q)):=
 (zmA a a' p.neg q.neg p.top p.bot q.top q.bot w h.num h'.num h.2.2.2 h'.2.2.2 h.2.1 h'.2.1 ha ha').mono fun _ _ ⟨⟨s,he,hs⟩,hb⟩=>⟨⟨s,he,hs,zbH _ (Nat.mul_pos h.2.1 h'.2.1)⟩,hb⟩
theorem znV (a a':ByteArray) (p q:Q) (w:World) (h:NumQ a p) (h':NumQ a' q) (ha:a.size≤100000) (ha':a'.size≤100000) :
  Calls Tryz.prog 45 #[.string a,.string a'] w (RetS w (addQ p q)):=
 (zm0 a a' p.neg q.neg p.top p.bot q.top q.bot w h.num h'.num h.2.2.2 h'.2.2.2 h.2.1 h'.2.1 ha ha').mono fun _ _ ⟨⟨s,he,hs⟩,hb⟩=>⟨⟨s,he,hs,zbH _ (Nat.mul_pos h.2.1 h'.2.1)⟩,hb⟩
theorem LowQ.zero {p:Q} (h:LowQ p) (h0:p.top=0):p=⟨false,0,1⟩:=by
 obtain ⟨n,t,b⟩:=p;obtain ⟨h1,h2,h3⟩:=h
 dsimp only at *
 subst h0;rw [Nat.gcd_zero_left] at h2;subst h2
 cases n
 ·rfl
 ·exact absurd (h3 rfl) (by omega)
theorem NumQ.is_zero {a:ByteArray} {p:Q} (h:NumQ a p):(a.toList==[48])=decide (p.top=0):=by
 rw [ByteArray.toList_eq,h.1,Bool.eq_iff_iff,beq_iff_eq,decide_eq_true_eq]
 constructor
 ·intro he
  rw [zaV] at he
  rcases Nat.eq_zero_or_pos p.top with h0 | h0
  ·exact h0
  ·exfalso
   have h1:=zfl h0;have h2:=Dec.dec_length_pos p.top;have hl:=congrArg List.length he;rw [List.length_append] at hl;simp only [List.length_cons,List.length_nil] at hl
   cases hn:p.neg
   ·rw [hn] at he hl
    have e1:sgnT false (Lib.decDigits p.top)=Lib.decDigits p.top:=rfl;rw [e1] at he hl;have h9:(if p.bot=1 then [] else 47 :: Lib.decDigits p.bot)=[]:=List.eq_nil_of_length_eq_zero (by omega)
    rw [h9,List.append_nil] at he;exact h1 he
   ·rw [hn] at hl
    have e1:(sgnT true (Lib.decDigits p.top)).length=(Lib.decDigits p.top).length+1:=rfl;omega
 ·intro h0
  rw [h.2.zero h0];rw [zaV];show Lib.decDigits 0++[]=[48]
  rw [Dec.dec_lt (by omega)];rfl
theorem zh7 (a:ByteArray) (p:Q) (w:World) (h:NumQ a p) (_ha:a.size≤1000000) :
  Calls Tryz.prog 12 #[.string a] w fun e w'=>e = .returned (.int .i64 (zda p))∧w=w':=by
 have hz:=h.is_zero;obtain ⟨h0,aA⟩:=h.num.head;obtain ⟨c0,aC⟩:∃ c0:Nat,(a[0]'h0).toNat=c0:=⟨_,rfl⟩;rw [aC] at aA;have d0:decide (0<a.size)=true:=by simpa using h0
 by_cases ht:p.top=0
 ·have hs:zda p=0:=by unfold zda;rw [if_pos ht]
  rw [decide_eq_true ht] at hz;have HS:=Aa hs;clear hs h ht aA aC;go_enter Tryz.func12,Tryz.ntmps12
  go_wp2
  go_ret;exact ⟨by rw [HS.out];rfl,rfl⟩
 ·rw [decide_eq_false ht] at hz
  have hs:zda p=if p.neg then -1 else 1:=by unfold zda;rw [if_neg ht]
  cases hn:p.neg
  all_goals
   rw [hn] at hs aA;have HS:=Aa hs;clear hs h ht hn;go_enter Tryz.func12,Tryz.ntmps12
   go_wp2
   go_ret;exact ⟨by rw [HS.out];rfl,rfl⟩
theorem zej (p:Q) (h:LowQ p):(p.neg=true∧zda p = -1)∨(p.neg=false∧p.top=0∧zda p=0)∨(p.neg=false∧0<p.top∧zda p=1):=by
 unfold zda
 by_cases ht:p.top=0
 ·have:=h.zero ht
  rw [this];exact .inr (.inl ⟨rfl,rfl,rfl⟩)
 ·rw [if_neg ht]
  cases hn:p.neg
  ·exact .inr (.inr ⟨rfl,by omega,rfl⟩)
  ·exact .inl ⟨rfl,rfl⟩
theorem zeU {p:Q} (h:LowQ p):LowQ (negQ p):=by
 refine ⟨h.1,h.2.1,fun h9 => ?_⟩;unfold negQ at h9;simp only [Bool.and_eq_true,decide_eq_true_eq] at h9
 exact h9.2
theorem zkL {p:Q} (h:LowQ p):LowQ (absQ p):=⟨h.1,h.2.1,fun h9=>by cases h9⟩
theorem zfc {a:ByteArray} {p:Q} (h:NumQ a p) (hn:p.neg=true):(a.extract 1 a.size).data.toList=zaE ⟨false,p.top,p.bot⟩:=by
 have h1:=h.num.abs;unfold absT at h1;rw [hn] at h1;exact h1
theorem znL (a:ByteArray) (p:Q) (w:World) (h:NumQ a p) (ha:a.size≤1000000) :
  Calls Tryz.prog 42 #[.string a] w (RetS w (negQ p)):=by
 have HK:=Aa (fun W=>zh7 a p W h ha);have hl:=zeU h.2;obtain ⟨h0,_⟩:=h.num.head;have aA:(1:Int)≤(a.size:Int):=by omega
 rcases zej p h.2 with ⟨hn,hs⟩ | ⟨hn,ht,hs⟩ | ⟨hn,ht,hs⟩
 ·have hq:negQ p=⟨false,p.top,p.bot⟩:=by unfold negQ;rw [hn];rfl
  have hw:=zfc h hn;have HR:Hid (NumQ (a.extract 1 a.size) (negQ p)):=⟨by rw [hq];exact hw,hl⟩;simp only [hs] at HK
  clear hq hw hn hs h hl;go_enter Tryz.func42,Tryz.ntmps42
  go_wp2_with fail
  refine (HK.out w).mono ?_;rintro e w1 ⟨rfl,rfl⟩;go_wp2
  go_ret;exact ⟨⟨_,rfl,HR.out⟩,Below.refl _ _⟩
 ·have hq:negQ p=p:=by rw [h.2.zero ht];rfl
  have HR:Hid (NumQ a (negQ p)):=by show NumQ a (negQ p);rw [hq];exact h
  simp only [hs] at HK
  clear hq hn hs h hl ht;go_enter Tryz.func42,Tryz.ntmps42
  go_wp2_with fail
  refine (HK.out w).mono ?_;rintro e w1 ⟨rfl,rfl⟩
  go_wp2_with fail
  refine (HK.out w).mono ?_;rintro e w1 ⟨rfl,rfl⟩;go_wp2
  go_ret;exact ⟨⟨_,rfl,HR.out⟩,Below.refl _ _⟩
 ·have hq:negQ p=⟨true,p.top,p.bot⟩:=by unfold negQ;rw [hn,decide_eq_true ht];rfl
  have HR:Hid (NumQ (⟨#[45]⟩++a) (negQ p)):=by
   refine ⟨?_,hl⟩;rw [ByteArray.data_append,Array.toList_append,h.1,hq,zaV,zaV,hn];rfl
  simp only [hs] at HK
  clear hq hn hs h hl ht;go_enter Tryz.func42,Tryz.ntmps42
  go_wp2_with fail
  refine (HK.out w).mono ?_;rintro e w1 ⟨rfl,rfl⟩
  go_wp2_with fail
  refine (HK.out w).mono ?_;rintro e w1 ⟨rfl,rfl⟩;go_wp2
  go_ret;exact ⟨⟨_,rfl,HR.out⟩,Below.refl _ _⟩
theorem znQ (a:ByteArray) (p:Q) (w:World) (h:NumQ a p) (ha:a.size≤1000000) :
  Calls Tryz.prog 40 #[.string a] w (RetS w (absQ p)):=by
 have HK:=Aa (fun W=>zh7 a p W h ha);have hl:=zkL h.2;obtain ⟨h0,_⟩:=h.num.head;have aC:(1:Int)≤(a.size:Int):=by omega
 by_cases hn:p.neg=true
 ·have hs:zda p = -1:=by rcases zej p h.2 with ⟨_,h9⟩ | ⟨h8,_⟩ | ⟨h8,_⟩;(· exact h9);(· rw [h8] at hn;cases hn);(· rw [h8] at hn;cases hn)
  have HR:Hid (NumQ (a.extract 1 a.size) (absQ p)):=⟨zfc h hn,hl⟩;simp only [hs] at HK
  clear hn hs h hl;go_enter Tryz.func40,Tryz.ntmps40
  go_wp2_with fail
  refine (HK.out w).mono ?_;rintro e w1 ⟨rfl,rfl⟩;go_wp2
  go_ret;exact ⟨⟨_,rfl,HR.out⟩,Below.refl _ _⟩
 ·have aA:p.neg=false:=by simpa using hn
  obtain ⟨r,hr,hs⟩:∃ r:Int,0≤r∧zda p=r:=⟨zda p,by rcases zej p h.2 with ⟨h9,_⟩ | ⟨_,_,h9⟩ | ⟨_,_,h9⟩;(· exact absurd h9 hn);(· rw [h9];decide);(· rw [h9];decide),rfl⟩
  have d0:decide (r<0)=false:=by simp only [decide_eq_false_iff_not];omega
  have hq:absQ p=p:=by
   obtain ⟨n,t,b⟩:=p
   dsimp only at aA
   subst aA;rfl
  have HR:Hid (NumQ a (absQ p)):=by show NumQ a (absQ p);rw [hq];exact h
  simp only [hs] at HK
  clear hn hs h hl hq aA;go_enter Tryz.func40,Tryz.ntmps40
  go_wp2_with fail
  refine (HK.out w).mono ?_;rintro e w1 ⟨rfl,rfl⟩;go_wp2
  go_ret;exact ⟨⟨_,rfl,HR.out⟩,Below.refl _ _⟩
theorem zi4 (q:Q):sI (negQ q) = - sI q:=by
 unfold sI negQ
 dsimp only
 cases q.neg
 ·by_cases h:0<q.top
  ·simp [h]
  ·have:q.top=0:=by omega
   simp [this]
 ·simp
theorem zg5 (p q:Q):addQ p (negQ q)=subQ p q:=by
 unfold addQ subQ;rw [zi4,Int.neg_mul,←Int.sub_eq_add_neg];rfl
theorem znN (a a':ByteArray) (p q:Q) (w:World) (h:NumQ a p) (h':NumQ a' q) (ha:a.size≤100000) (ha':a'.size≤99999) :
  Calls Tryz.prog 41 #[.string a,.string a'] w (RetS w (subQ p q)):=by
 have HN:=Aa (znL a' q w h' (by omega));have aA:∀ s:ByteArray,NumQ s (negQ q)→s.size≤100000:=fun s hs=>by
  have h1:=congrArg List.length hs.1;have h2:=congrArg List.length h'.1;rw [Array.length_toList,zaV,List.length_append] at h1 h2;have h3:s.data.size=s.size:=rfl;have h4:a'.data.size=a'.size:=rfl;have h5:=zfs (negQ q).neg (Lib.decDigits (negQ q).top);have h6:(Lib.decDigits q.top).length≤(sgnT q.neg (Lib.decDigits q.top)).length:=by unfold sgnT;split<;>simp
  have e1:(negQ q).top=q.top:=rfl;have e2:(negQ q).bot=q.bot:=rfl;rw [e1,e2] at h1;rw [e1] at h5;omega
 have HA:=Aa (fun (s:ByteArray) (hs:NumQ s (negQ q)) (W:World)=>znV a s p (negQ q) W h hs ha (aA s hs));rw [zg5] at HA;clear aA;go_enter Tryz.func41,Tryz.ntmps41
 go_wp2_with fail
 refine HN.out.mono ?_;rintro e w1 ⟨⟨s,rfl,hs⟩,aC⟩
 go_wp2_with fail
 refine (HA.out s hs w1).mono ?_;rintro e w2 ⟨⟨t,rfl,ht⟩,aD⟩;go_wp2
 go_ret;exact ⟨⟨t,rfl,ht⟩,aC.trans (aD.mono aC.size)⟩
theorem zfX {p:Q} {N:Nat} (h:Small p N):Small (negQ p) N:=h
theorem zdE {p q:Q} {M N:Nat} (hp:Small p M) (hq:Small q N) (p0:0<p.bot) (q0:0<q.bot):Small (subQ p q) (M+N+1):=by
 rw [←zg5];exact zfw hp (zfX hq) p0 q0
theorem znX (a a':ByteArray) (p q:Q) (w:World) (h:NumQ a p) (h':NumQ a' q) (ha:a.size≤99999) (ha':a'.size≤99999) :
  Calls Tryz.prog 39 #[.string a,.string a'] w fun e w'=>e = .returned (.int .i64 (cmpI p q))∧Below w.heap.size w w':=by
 have HS:=Aa (znN a a' p q w h h' (by omega) ha');have aA:∀ s:ByteArray,NumQ s (subQ p q)→s.size≤1000000:=fun s hs=>by
  obtain ⟨N,hN⟩:∃ N,N=99999:=⟨_,rfl⟩;have s1:Small p N:=h.small (by omega) (by omega);have s2:Small q N:=h'.small (by omega) (by omega);have:=hs.size (zdE s1 s2 h.2.1 h'.2.1) (by omega);omega
 have HG:=Aa (fun (s:ByteArray) (hs:NumQ s (subQ p q)) (W:World)=>zh7 s (subQ p q) W hs (aA s hs));clear aA;go_enter Tryz.func39,Tryz.ntmps39
 go_wp2_with fail
 refine HS.out.mono ?_;rintro e w1 ⟨⟨s,rfl,hs⟩,aC⟩
 go_wp2_with fail
 refine (HG.out s hs w1).mono ?_;rintro e w2 ⟨rfl,rfl⟩;go_wp2
 go_ret;exact ⟨rfl,aC⟩
theorem ziR (s:ByteArray) (w:World) (hs:s.size≤9223372036854775807) :
  Calls Tryz.prog 134 #[.string s] w fun e w'=>e = .returned (.bool (zaq s.data.toList))∧w=w':=by
 have aE:s.data.toList.length=s.size:=by simp
 have aF:=Aa aE;clear aE;obtain ⟨D,hD⟩:∃ D,D=zaq s.data.toList:=⟨_,rfl⟩;have HD:=Aa hD;rw [←hD];clear hD;go_enter Tryz.func134,Tryz.ntmps134
 go_wp2
 go_loop [3] (fun i=>∃ k:Nat,k≤s.size∧i = .int .i64 k∧Hid (D=zaq (s.data.toList.drop k))) (fun i=>s.size - (intOf i).toNat)
 case atStart=>exact ⟨0,Nat.zero_le _,rfl,by rw [Hid,List.drop_zero];exact HD.out⟩
 case round=>
  obtain ⟨k,hk,rfl,hv⟩:=hrel
  by_cases hlt:k<s.size
  ·have aA:=zds s k hlt
   rw [←hv.out] at aA;obtain ⟨c,aG⟩:∃ c:Nat,(s[k]'hlt).toNat=c:=⟨_,rfl⟩;rw [aG] at aA
   by_cases hdig:48≤c∧c≤57
   ·have hb:digB (c:Int)=true:=by unfold digB;simp;omega
    rw [hb,Bool.true_and] at aA;have HV:=Aa aA;have d1:decide ((c:Int)<48)=false:=by simp only [decide_eq_false_iff_not];omega
    have d2:decide ((57:Int)<(c:Int))=false:=by simp only [decide_eq_false_iff_not];omega
    clear aA hb hdig hv;go_wp2
    go_round
    case rel=>exact ⟨k+1,by omega,by go_num,HV.out⟩
    case measure=>simp [intOf];omega
   ·have hb:digB (c:Int)=false:=by
     unfold digB;rw [Bool.and_eq_false_iff];simp only [decide_eq_false_iff_not]
     omega
    rw [hb,Bool.false_and] at aA;have HV:=Aa aA;have aC:(decide ((c:Int)<48)=true)∨(decide ((c:Int)<48)=false∧decide ((57:Int)<(c:Int))=true):=by
     simp only [decide_eq_true_eq,decide_eq_false_iff_not]
     omega
    clear aA hb hdig hv
    rcases aC with d1 | ⟨d1,d2⟩
    all_goals
     go_wp2
     go_ret;exact ⟨by rw [HV.out];rfl,rfl⟩
  ·have aD:D=true:=by
    rw [hv.out,List.drop_of_length_le (by rw [aF.out];omega)];rfl
   have HF:=Aa aD;clear aD hv;go_wp2
   go_ret;exact ⟨by rw [HF.out];rfl,rfl⟩
theorem zb7 (s:ByteArray) (w:World) (hs:s.size≤9223372036854775807) :
  Calls Tryz.prog 63 #[.string s] w fun e w'=>e = .returned (.bool (zax s.data.toList))∧w=w':=by
 have aE:s.data.toList.length=s.size:=by simp
 have HG:=Aa (ziR s w hs);obtain ⟨D,hD⟩:∃ D,D=zax s.data.toList:=⟨_,rfl⟩;rw [←hD]
 by_cases h0:s.size=0
 ·have hl:s.data.toList=[]:=List.eq_nil_of_length_eq_zero (by omega)
  have hF:D=false:=by rw [hD,hl];rfl
  have HF:=Aa hF;have d1:((s.size:Int)==0)=true:=by rw [h0];rfl
  clear hF hl hD h0 aE HG;go_enter Tryz.func63,Tryz.ntmps63
  go_wp2
  go_ret;exact ⟨by rw [HF.out];rfl,rfl⟩
 ·have hpos:0<s.size:=by omega
  have d1:((s.size:Int)==0)=false:=by rw [beq_eq_false_iff_ne];omega
  obtain ⟨c,aG⟩:∃ c:Nat,(s[0]'hpos).toNat=c:=⟨_,rfl⟩;have aC:s.data.toList=(s[0]'hpos) :: s.data.toList.drop 1:=by
   have h9:0<s.data.toList.length:=by omega
   have e:=List.drop_eq_getElem_cons h9;rw [List.drop_zero] at e;exact e
  by_cases hbad:1<s.size∧c=48
  ·obtain ⟨aI,aH⟩:=hbad
   have d2:decide ((1:Int)<(s.size:Int))=true:=by simp only [decide_eq_true_eq];omega
   have d3:((c:Int)==48)=true:=by rw [beq_iff_eq];omega
   have aA:s[0]'hpos=48:=UInt8.toNat_inj.1 (by rw [aG,aH];rfl);have hF:D=false:=by
    rw [hD];unfold zax;rw [Bool.and_eq_false_iff];refine .inr ?_;have n1:s.data.toList≠[48]:=fun e=>by have:=congrArg List.length e;simp at this;omega
    have n2:s.data.toList.head? = some 48:=by rw [aC,aA];rfl
    simp [n1,n2]
   have HF:=Aa hF;clear hF aA aC hD aE HG aI aH;go_enter Tryz.func63,Tryz.ntmps63
   go_wp2
   go_ret;exact ⟨by rw [HF.out];rfl,rfl⟩
  ·have hF:D=zaq s.data.toList:=by
    rw [hD];unfold zax
    by_cases h1:s.size=1
    ·have aF:s.data.toList=[s[0]'hpos]:=by
      rw [aC]
      congr 1
      exact List.drop_eq_nil_of_le (by omega)
     by_cases h48:s[0]'hpos=48
     ·rw [aF,h48];simp
     ·have:s.data.toList.head? ≠ some 48:=by rw [aF];simpa using h48
      have n2:s.data.toList≠[]:=by rw [aF];simp
      simp [this,n2]
    ·have aA:¬ (s[0]'hpos=48):=fun e=>hbad ⟨by omega,by rw [←aG,e];rfl⟩
     have:s.data.toList.head? ≠ some 48:=by rw [aC];simpa using aA
     have n2:s.data.toList≠[]:=by rw [aC];simp
     simp [this,n2]
   rw [←hF] at HG;have aD:(decide ((1:Int)<(s.size:Int))=false)∨(decide ((1:Int)<(s.size:Int))=true∧((c:Int)==48)=false):=by
    simp only [decide_eq_true_eq,decide_eq_false_iff_not,beq_eq_false_iff_ne]
    omega
   clear hF aC hD aE hbad
   rcases aD with d2 | ⟨d2,d3⟩
   all_goals
    go_enter Tryz.func63,Tryz.ntmps63
    go_wp2_with fail
    refine HG.out.mono ?_;rintro e w1 ⟨rfl,rfl⟩;go_wp2
    go_ret;exact ⟨rfl,rfl⟩
theorem zdd:∀ l:List UInt8,(∀ c ∈ l,c≠47)∨∃ t r,l=t++47 :: r∧∀ c ∈ t,c≠47
 | [] => .inl (fun c hc=>by cases hc)
 | x :: l=>by
  by_cases hx:x=47
  ·exact .inr ⟨[],l,by rw [hx];rfl,fun c hc=>by cases hc⟩
  ·rcases zdd l with h | ⟨t,r,rfl,h⟩
   ·exact .inl (fun c hc=>by rcases List.mem_cons.1 hc with rfl | hc;(· exact hx);(· exact h c hc))
   ·exact .inr ⟨x :: t,r,rfl,fun c hc=>by rcases List.mem_cons.1 hc with rfl | hc;(· exact hx);(· exact h c hc)⟩
theorem zjX {l s:List UInt8} {neg:Bool} (hl:l=sgnT neg s) (hn:neg=false→s.head? ≠ some 45) :
  zam l=za7 (s.take (zbs s)) (s.drop (zbs s+1)) neg (decide (zbs s<s.length)):=by
 have aA:∀ t:List UInt8,(neg=false→t.head? ≠ some 45)→Lib.hasPrefix (sgnT neg t) [45]=neg∧Lib.trimPrefix (sgnT neg t) [45]=t:=by
  intro t ht;have h0:Lib.hasPrefix (sgnT neg t) [45]=neg:=by
   cases neg
   ·have h9:=ht rfl
    unfold sgnT Lib.hasPrefix
    cases t with
    | nil=>rfl
    | cons x r=>
     have hx:((45:UInt8)==x)=false:=by
      rw [beq_eq_false_iff_ne];intro e;exact h9 (by rw [←e];rfl)
     simp [List.isPrefixOf,hx]
   ·rfl
  refine ⟨h0,?_⟩;unfold Lib.trimPrefix;rw [h0]
  cases neg<;>rfl
 have aC:∀ t:List UInt8,(∀ c ∈ t,c≠47)→∀ c ∈ sgnT neg t,c≠47:=by
  intro t ht c hc;unfold sgnT at hc
  cases neg
  ·exact ht c hc
  ·rcases List.mem_cons.1 hc with rfl | hc
   ·decide
   ·exact ht c hc
 rcases zdd s with h | ⟨t,r,rfl,h⟩
 ·have e1:zbs s=s.length:=zbZ h
  have ec:=zhX (aC s h);obtain ⟨p1,p2⟩:=aA s hn;unfold zam topL botL negL zdn;rw [hl,ec]
  dsimp only
  rw [p1,p2,e1,List.take_length,List.drop_eq_nil_of_le (by omega),decide_eq_false (by omega)]
 ·have e1:zbs (t++47 :: r)=t.length:=zcr h
  have ht:neg=false→t.head? ≠ some 45:=fun h9=>by
   have h8:=hn h9
   cases t with
   | nil=>simp
   | cons x q=>simpa using h8
  have e2:sgnT neg (t++47 :: r)=sgnT neg t++47 :: r:=by unfold sgnT;cases neg<;>rfl
  have ec:=zgA (r:=r) (aC t h);obtain ⟨p1,p2⟩:=aA t ht;unfold zam topL botL negL zdn;rw [hl,e2,ec]
  dsimp only
  rw [p1,p2,e1,List.take_left,←List.drop_drop,List.drop_left,decide_eq_true (by simp)];rfl
end Go.Proofs.YtbkgkoenppkhpaaGreatDoor
