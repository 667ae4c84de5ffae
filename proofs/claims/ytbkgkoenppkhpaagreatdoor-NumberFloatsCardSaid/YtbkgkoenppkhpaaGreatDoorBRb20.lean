/- The reference's numbers as rationals: Mul and Add; Sign, Neg, Abs, Sub, Cmp, Half. -/
import Derived.Test.YtbkgkoenppkhpaaGreatDoorBRb17
set_option maxRecDepth 100000
set_option maxHeartbeats 4000000
namespace Go.Proofs.YtbkgkoenppkhpaaGreatDoor
open Go.RowKit Dn
def NumQ (a:ByteArray) (p:Q):Prop:=a.data.toList=zaO p∧LowQ p
theorem NumQ.num{a:ByteArray}{p:Q}(h:NumQ a p):NumT a p.neg p.top p.bot:=h.1
def Small (p:Q) (N:Nat):Prop:=p.top<10^N∧p.bot<10^N
theorem Small.more {p:Q} {N M:Nat} (h:Small p N) (hM:N≤M):Small p M:=
 ⟨Nat.lt_of_lt_of_le h.1 (Nat.pow_le_pow_right (by omega) hM),Nat.lt_of_lt_of_le h.2 (Nat.pow_le_pow_right (by omega) hM)⟩
theorem NumQ.size {a:ByteArray} {p:Q} {N:Nat} (h:NumQ a p) (hs:Small p N) (hN:0<N):a.size≤2*N+2:=by
 have hl:=congrArg List.length h.1;rw[Array.length_toList,zaZ,List.length_append] at hl;have h1:=Dec.dec_length_le hN hs.1;have h2:=Dec.dec_length_le hN hs.2;have h3:=zfL p.neg (Lib.decDigits p.top);have h4:a.data.size=a.size:=rfl
 split at hl<;>simp at hl<;>omega
theorem zcB{z:Int}{d N:Nat}(hz:z.natAbs<10^N)(hd:d<10^N)(hd0:0<d):Small (zcn z d) N:=by
 by_cases h0:z=0
 ·subst h0
  rw[zen hd0];exact⟨hz,by show 1<10^N;omega⟩
 ·rw[zfW hd0 h0]
  exact⟨Nat.lt_of_le_of_lt (Nat.div_le_self _ _) hz,Nat.lt_of_le_of_lt (Nat.div_le_self _ _) hd⟩
theorem NumQ.small{a:ByteArray}{p:Q}{N:Nat}(h:NumQ a p)(ha:a.size≤N)(hN:0<N):Small p N:=by
 have h1:=congrArg List.length h.1;rw[Array.length_toList,zaZ,List.length_append] at h1;have h3:a.data.size=a.size:=rfl;have h6:(Lib.decDigits p.top).length≤(sgnT p.neg (Lib.decDigits p.top)).length:=by unfold sgnT;split<;>simp
 have e1:=zbW _ (zaF p.top);have e2:=zbW _ (zaF p.bot);rw[za1] at e1 e2;refine⟨Nat.lt_of_lt_of_le e1 (Nat.pow_le_pow_right (by omega) (by omega)),?_⟩
 by_cases hb:p.bot=1
 ·rw[hb];exact Nat.one_lt_pow (by omega) (by omega)
 ·rw[if_neg hb,List.length_cons] at h1
  exact Nat.lt_of_lt_of_le e2 (Nat.pow_le_pow_right (by omega) (by omega))
theorem zhk(p:Q):(sI p).natAbs=p.top:=by unfold sI;split<;>simp
theorem zdm{x y M N:Nat}(hx:x<10^M)(hy:y<10^N):x*y<10^(M+N):=by
 rw[Nat.pow_add];exact Nat.mul_lt_mul'' hx hy
theorem zmq{p q:Q}{M N:Nat}(hp:Small p M)(hq:Small q N)(p0:0<p.bot)(q0:0<q.bot):Small (addQ p q) (M+N+1):=by
 have h1:=zdm hp.1 hq.2;have h2:=zdm hq.1 hp.2;have h3:=zdm hp.2 hq.2;rw[Nat.add_comm N M] at h2;have e:10^(M+N+1)=10^(M+N)*10:=Nat.pow_succ _ _;refine zcB ?_ (by omega) (Nat.mul_pos p0 q0);have h4:=Int.natAbs_add_le (sI p*(q.bot:Int)) (sI q*(p.bot:Int));rw[Int.natAbs_mul,Int.natAbs_mul,zhk,zhk,Int.natAbs_natCast,Int.natAbs_natCast] at h4;omega
def RetS (w:World) (p:Q) (e:Ending) (w':World):Prop:=(∃ s:ByteArray,e = .returned (.string s)∧NumQ s p)∧Below w.heap.size w w'
theorem zko(a a':ByteArray)(p q:Q)(w:World)(h:NumQ a p)(h':NumQ a' q)(ha:a.size≤100000)(ha':a'.size≤100000) :
  Calls Tryz.prog 48 #[.string a,.string a'] w (RetS w (mulQ p q)):=
 (zo9 a a' p.neg q.neg p.top p.bot q.top q.bot w h.num h'.num h.2.2.2 h'.2.2.2 h.2.1 h'.2.1 ha ha').mono fun _ _ ⟨⟨s,he,hs⟩,hb⟩=>⟨⟨s,he,hs,zbo _ (Nat.mul_pos h.2.1 h'.2.1)⟩,hb⟩
theorem zp3 (a a':ByteArray) (p q:Q) (w:World) (h:NumQ a p) (h':NumQ a' q) (ha:a.size≤100000) (ha':a'.size≤100000) :
  Calls Tryz.prog 45 #[.string a,.string a'] w (RetS w (addQ p q)):=
 (zo2 a a' p.neg q.neg p.top p.bot q.top q.bot w h.num h'.num h.2.2.2 h'.2.2.2 h.2.1 h'.2.1 ha ha').mono fun _ _ ⟨⟨s,he,hs⟩,hb⟩=>⟨⟨s,he,hs,zbo _ (Nat.mul_pos h.2.1 h'.2.1)⟩,hb⟩
theorem LowQ.zero {p:Q} (h:LowQ p) (h0:p.top=0):p=⟨false,0,1⟩:=by
 obtain⟨n,t,b⟩:=p;obtain⟨h1,h2,h3⟩:=h
 dsimp only at *
 subst h0;rw[Nat.gcd_zero_left] at h2;subst h2
 cases n
 ·rfl
 ·exact absurd (h3 rfl) (by omega)
theorem NumQ.is_zero{a:ByteArray}{p:Q}(h:NumQ a p):(a.toList==[48])=decide (p.top=0):=by
 rw[ByteArray.toList_eq,h.1,Bool.eq_iff_iff,beq_iff_eq,decide_eq_true_eq]
 constructor
 ·intro he
  rw[zaZ] at he
  rcases Nat.eq_zero_or_pos p.top with h0 | h0
  ·exact h0
  ·exfalso
   have h1:=zfX h0;have h2:=Dec.dec_length_pos p.top;have hl:=congrArg List.length he;rw[List.length_append] at hl;simp only[List.length_cons,List.length_nil] at hl
   cases hn:p.neg
   ·rw[hn] at he hl
    have e1:sgnT false (Lib.decDigits p.top)=Lib.decDigits p.top:=rfl;rw[e1] at he hl;have h9:(if p.bot=1 then[] else 47 :: Lib.decDigits p.bot)=[]:=List.eq_nil_of_length_eq_zero (by omega)
    rw[h9,List.append_nil] at he;exact h1 he
   ·rw[hn] at hl
    have e1:(sgnT true (Lib.decDigits p.top)).length=(Lib.decDigits p.top).length+1:=rfl;omega
 ·intro h0
  rw[h.2.zero h0];rw[zaZ];show Lib.decDigits 0++[]=[48]
  rw[Dec.dec_lt (by omega)];rfl
theorem zh1(a:ByteArray)(p:Q)(w:World)(h:NumQ a p)(_ha:a.size≤1000000) :
  Calls Tryz.prog 12 #[.string a] w fun e w'=>e = .returned (.int .i64 (zcy p))∧w=w':=by
 have hz:=h.is_zero;obtain⟨h0,aA⟩:=h.num.head;obtain⟨c0,aC⟩:∃ c0:Nat,(a[0]'h0).toNat=c0:=⟨_,rfl⟩;rw[aC] at aA;have d0:decide (0<a.size)=true:=by simpa using h0
 by_cases ht:p.top=0
 ·have hs:zcy p=0:=by unfold zcy;rw[if_pos ht]
  rw[decide_eq_true ht] at hz;have HS:=Aa hs;clear hs h ht aA aC;go_enter Tryz.func12,Tryz.ntmps12
  go_wp2
  go_ret;exact⟨by rw[HS.out];rfl,rfl⟩
 ·rw[decide_eq_false ht] at hz
  have hs:zcy p=if p.neg then -1 else 1:=by unfold zcy;rw[if_neg ht]
  cases hn:p.neg
  all_goals
   rw[hn] at hs aA;have HS:=Aa hs;clear hs h ht hn;go_enter Tryz.func12,Tryz.ntmps12
   go_wp2
   go_ret;exact⟨by rw[HS.out];rfl,rfl⟩
theorem zeF(p:Q)(h:LowQ p):(p.neg=true∧zcy p = -1)∨(p.neg=false∧p.top=0∧zcy p=0)∨(p.neg=false∧0<p.top∧zcy p=1):=by
 unfold zcy
 by_cases ht:p.top=0
 ·have:=h.zero ht
  rw[this];exact .inr (.inl ⟨rfl,rfl,rfl⟩)
 ·rw[if_neg ht]
  cases hn:p.neg
  ·exact .inr (.inr ⟨rfl,by omega,rfl⟩)
  ·exact .inl ⟨rfl,rfl⟩
theorem zig{p:Q}(h:LowQ p):LowQ (negQ p):=by
 refine⟨h.1,h.2.1,fun h9 => ?_⟩;unfold negQ at h9;simp only[Bool.and_eq_true,decide_eq_true_eq] at h9
 exact h9.2
theorem zhA{p:Q}(h:LowQ p):LowQ (absQ p):=⟨h.1,h.2.1,fun h9=>by cases h9⟩
theorem zfF {a:ByteArray} {p:Q} (h:NumQ a p) (hn:p.neg=true):(a.extract 1 a.size).data.toList=zaO ⟨false,p.top,p.bot⟩:=by
 have h1:=h.num.abs;unfold absT at h1;rw[hn] at h1;exact h1
theorem znk(a:ByteArray)(p:Q)(w:World)(h:NumQ a p)(ha:a.size≤1000000) :
  Calls Tryz.prog 42 #[.string a] w (RetS w (negQ p)):=by
 have HK:=Aa (fun W=>zh1 a p W h ha);have hl:=zig h.2;obtain⟨h0,_⟩:=h.num.head;have aA:(1:Int)≤(a.size:Int):=by omega
 rcases zeF p h.2 with⟨hn,hs⟩ | ⟨hn,ht,hs⟩ | ⟨hn,ht,hs⟩
 ·have hq:negQ p=⟨false,p.top,p.bot⟩:=by unfold negQ;rw[hn];rfl
  have hw:=zfF h hn;have HR:Hid (NumQ (a.extract 1 a.size) (negQ p)):=⟨by rw[hq];exact hw,hl⟩;simp only[hs] at HK
  clear hq hw hn hs h hl;go_enter Tryz.func42,Tryz.ntmps42
  go_wp2_with fail
  refine(HK.out w).mono ?_;rintro e w1 ⟨rfl,rfl⟩;go_wp2
  go_ret;exact⟨⟨_,rfl,HR.out⟩,Below.refl _ _⟩
 ·have hq:negQ p=p:=by rw[h.2.zero ht];rfl
  have HR:Hid (NumQ a (negQ p)):=by show NumQ a (negQ p);rw[hq];exact h
  simp only[hs] at HK
  clear hq hn hs h hl ht;go_enter Tryz.func42,Tryz.ntmps42
  go_wp2_with fail
  refine(HK.out w).mono ?_;rintro e w1 ⟨rfl,rfl⟩
  go_wp2_with fail
  refine(HK.out w).mono ?_;rintro e w1 ⟨rfl,rfl⟩;go_wp2
  go_ret;exact⟨⟨_,rfl,HR.out⟩,Below.refl _ _⟩
 ·have hq:negQ p=⟨true,p.top,p.bot⟩:=by unfold negQ;rw[hn,decide_eq_true ht];rfl
  have HR:Hid (NumQ (⟨#[45]⟩++a) (negQ p)):=by
   refine⟨?_,hl⟩;rw[ByteArray.data_append,Array.toList_append,h.1,hq,zaZ,zaZ,hn];rfl
  simp only[hs] at HK
  clear hq hn hs h hl ht;go_enter Tryz.func42,Tryz.ntmps42
  go_wp2_with fail
  refine(HK.out w).mono ?_;rintro e w1 ⟨rfl,rfl⟩
  go_wp2_with fail
  refine(HK.out w).mono ?_;rintro e w1 ⟨rfl,rfl⟩;go_wp2
  go_ret;exact⟨⟨_,rfl,HR.out⟩,Below.refl _ _⟩
theorem zmN(a:ByteArray)(p:Q)(w:World)(h:NumQ a p)(ha:a.size≤1000000) :
  Calls Tryz.prog 40 #[.string a] w (RetS w (absQ p)):=by
 have HK:=Aa (fun W=>zh1 a p W h ha);have hl:=zhA h.2;obtain⟨h0,_⟩:=h.num.head;have aC:(1:Int)≤(a.size:Int):=by omega
 by_cases hn:p.neg=true
 ·have hs:zcy p = -1:=by rcases zeF p h.2 with⟨_,h9⟩ | ⟨h8,_⟩ | ⟨h8,_⟩;(· exact h9);(· rw[h8] at hn;cases hn);(· rw[h8] at hn;cases hn)
  have HR:Hid (NumQ (a.extract 1 a.size) (absQ p)):=⟨zfF h hn,hl⟩;simp only[hs] at HK
  clear hn hs h hl;go_enter Tryz.func40,Tryz.ntmps40
  go_wp2_with fail
  refine(HK.out w).mono ?_;rintro e w1 ⟨rfl,rfl⟩;go_wp2
  go_ret;exact⟨⟨_,rfl,HR.out⟩,Below.refl _ _⟩
 ·have aA:p.neg=false:=by simpa using hn
  obtain⟨r,hr,hs⟩:∃ r:Int,0≤r∧zcy p=r:=⟨zcy p,by rcases zeF p h.2 with⟨h9,_⟩ | ⟨_,_,h9⟩ | ⟨_,_,h9⟩;(· exact absurd h9 hn);(· rw[h9];decide);(· rw[h9];decide),rfl⟩
  have d0:decide (r<0)=false:=by simp only[decide_eq_false_iff_not];omega
  have hq:absQ p=p:=by
   obtain⟨n,t,b⟩:=p
   dsimp only at aA
   subst aA;rfl
  have HR:Hid (NumQ a (absQ p)):=by show NumQ a (absQ p);rw[hq];exact h
  simp only[hs] at HK
  clear hn hs h hl hq aA;go_enter Tryz.func40,Tryz.ntmps40
  go_wp2_with fail
  refine(HK.out w).mono ?_;rintro e w1 ⟨rfl,rfl⟩;go_wp2
  go_ret;exact⟨⟨_,rfl,HR.out⟩,Below.refl _ _⟩
theorem zqa(q:Q):sI (negQ q) = - sI q:=by
 unfold sI negQ
 dsimp only
 cases q.neg
 ·by_cases h:0<q.top
  ·simp[h]
  ·have:q.top=0:=by omega
   simp[this]
 ·simp
theorem zkf(p q:Q):addQ p (negQ q)=subQ p q:=by
 unfold addQ subQ;rw[zqa,Int.neg_mul,←Int.sub_eq_add_neg];rfl
theorem zqf(a a':ByteArray)(p q:Q)(w:World)(h:NumQ a p)(h':NumQ a' q)(ha:a.size≤100000)(ha':a'.size≤99999) :
  Calls Tryz.prog 41 #[.string a,.string a'] w (RetS w (subQ p q)):=by
 have HN:=Aa (znk a' q w h' (by omega));have aA:∀ s:ByteArray,NumQ s (negQ q)→s.size≤100000:=fun s hs=>by
  have h1:=congrArg List.length hs.1;have h2:=congrArg List.length h'.1;rw[Array.length_toList,zaZ,List.length_append] at h1 h2;have h3:s.data.size=s.size:=rfl;have h4:a'.data.size=a'.size:=rfl;have h5:=zfL (negQ q).neg (Lib.decDigits (negQ q).top);have h6:(Lib.decDigits q.top).length≤(sgnT q.neg (Lib.decDigits q.top)).length:=by unfold sgnT;split<;>simp
  have e1:(negQ q).top=q.top:=rfl;have e2:(negQ q).bot=q.bot:=rfl;rw[e1,e2] at h1;rw[e1] at h5;omega
 have HA:=Aa (fun (s:ByteArray) (hs:NumQ s (negQ q)) (W:World)=>zp3 a s p (negQ q) W h hs ha (aA s hs));rw[zkf] at HA;clear aA;go_enter Tryz.func41,Tryz.ntmps41
 go_wp2_with fail
 refine HN.out.mono ?_;rintro e w1 ⟨⟨s,rfl,hs⟩,aC⟩
 go_wp2_with fail
 refine(HA.out s hs w1).mono ?_;rintro e w2 ⟨⟨t,rfl,ht⟩,aD⟩;go_wp2
 go_ret;exact⟨⟨t,rfl,ht⟩,aC.trans (aD.mono aC.size)⟩
theorem zeT{p:Q}{N:Nat}(h:Small p N):Small (negQ p) N:=h
theorem ze1 {p q:Q} {M N:Nat} (hp:Small p M) (hq:Small q N) (p0:0<p.bot) (q0:0<q.bot):Small (subQ p q) (M+N+1):=by
 rw[←zkf];exact zmq hp (zeT hq) p0 q0
theorem zr0(a a':ByteArray)(p q:Q)(w:World)(h:NumQ a p)(h':NumQ a' q)(ha:a.size≤99999)(ha':a'.size≤99999) :
  Calls Tryz.prog 39 #[.string a,.string a'] w fun e w'=>e = .returned (.int .i64 (cmpI p q))∧Below w.heap.size w w':=by
 have HS:=Aa (zqf a a' p q w h h' (by omega) ha');have aA:∀ s:ByteArray,NumQ s (subQ p q)→s.size≤1000000:=fun s hs=>by
  obtain⟨N,hN⟩:∃ N,N=99999:=⟨_,rfl⟩;have s1:Small p N:=h.small (by omega) (by omega);have s2:Small q N:=h'.small (by omega) (by omega);have:=hs.size (ze1 s1 s2 h.2.1 h'.2.1) (by omega);omega
 have HG:=Aa (fun (s:ByteArray) (hs:NumQ s (subQ p q)) (W:World)=>zh1 s (subQ p q) W hs (aA s hs));clear aA;go_enter Tryz.func39,Tryz.ntmps39
 go_wp2_with fail
 refine HS.out.mono ?_;rintro e w1 ⟨⟨s,rfl,hs⟩,aC⟩
 go_wp2_with fail
 refine(HG.out s hs w1).mono ?_;rintro e w2 ⟨rfl,rfl⟩;go_wp2
 go_ret;exact⟨rfl,aC⟩
def zfH:Q:=⟨false,1,2⟩
theorem zfU:NumQ ⟨#[49,47,50]⟩ zfH:=⟨by decide +kernel,by decide,by decide,fun h=>by cases h⟩
theorem zra(a:ByteArray)(p:Q)(w:World)(h:NumQ a p)(ha:a.size≤100000) :
  Calls Tryz.prog 44 #[.string a] w (RetS w (mulQ p zfH)):=by
 have HM:=Aa (zko a ⟨#[49,47,50]⟩ p zfH w h zfU ha (by decide));go_enter Tryz.func44,Tryz.ntmps44
 go_wp2_with fail
 refine HM.out.mono ?_;rintro e w1 ⟨⟨s,rfl,hs⟩,aA⟩;go_wp2
 go_ret;exact⟨⟨s,rfl,hs⟩,aA⟩
def recQ (p:Q):Q:=zcn (p.bot:Int) p.top
theorem zhC{p:Q}(ht:0<p.top):LowQ (recQ p):=zbo _ ht
theorem zma {p:Q} (h:LowQ p) (_hn:p.neg=false) (ht:0<p.top):recQ p=⟨false,p.bot,p.top⟩:=by
 refine zea (zhC ht) ⟨ht,by rw[Nat.gcd_comm];exact h.2.1,fun h9=>by cases h9⟩ ?_;exact zmd ht
theorem zrR(a:ByteArray)(p:Q)(w:World)(h:NumQ a p)(hn:p.neg=false)(ht:0<p.top)(ha:a.size≤100000) :
  Calls Tryz.prog 138 #[.string a] w (RetS w (recQ p)):=by
 have hp:=zbP a p.neg p.top p.bot w h.num h.2.2.2 h.2.1 (by omega);rw[hn] at hp;have HP:=Aa hp;have hl:=h.num.lens2 ha;have HL:=Aa hl;have aF:=Aa (zhC ht);have aE:Hid (∀ s:ByteArray,s.data.toList=zaO (zcn (sgn false p.bot) p.top)→NumQ s (recQ p)):=fun s hs=>⟨hs,zhC ht⟩
 clear hp hl;generalize recQ p=R at *;go_enter Tryz.func138,Tryz.ntmps138
 go_wp2_with fail
 refine HP.out.mono ?_;rintro e w1 ⟨A1,n1,c1,A2,n2,c2,rfl,aD,aC,aA⟩;have hB:Below w1.heap.size w1 ((w1.alloc (.cells #[.bool false,.slice A1 n1 c1] 97)).alloc (.cells #[.bool false,.slice A2 n2 c2] 97)):=((Below.refl _ _).alloc (Nat.le_refl _) _).alloc (by simp) _;have e1:n1≤100000:=by rw[←aD.len];exact HL.out.1
 have e2:n2≤100001:=by rw[←aC.len];exact HL.out.2
 have HF:=Aa (zeZ false p.bot p.top A2 A1 n2 c2 n1 c1 _ (aC.later hB) (aD.later hB) ht (by omega) (by omega));have HB:=Aa (aA.trans (hB.mono aA.size));clear aD aC hB aA
 go_wp2_with fail
 refine HF.out.mono ?_;rintro e w2 ⟨⟨s,rfl,hs⟩,aG⟩;go_wp2
 go_ret;exact⟨⟨s,rfl,aE.out s hs⟩,HB.out.trans (aG.mono HB.out.size)⟩
theorem zpk{p:Q}{N:Nat}(h:Small p N)(ht:0<p.top):Small (recQ p) N:=by
 refine zcB ?_ h.1 ht;rw[Int.natAbs_natCast];exact h.2
def powQ (p:Q) (k:Nat):Q:=⟨false,p.top^k,p.bot^k⟩
theorem zqT{x y:Nat}(h:Nat.gcd x y=1)(k:Nat):Nat.gcd (x^k) (y^k)=1:=by
 have h1:Nat.Coprime x y:=h;exact Nat.Coprime.pow k k h1
theorem zeM{p:Q}(h:LowQ p)(k:Nat):LowQ (powQ p k):=⟨Nat.pow_pos h.1,zqT h.2.1 k,fun h9=>by cases h9⟩
theorem zpi {p:Q} (h:LowQ p) (i j:Nat):mulQ (powQ p i) (powQ p j)=powQ p (i+j):=by
 have hi:=zeM h i;have hj:=zeM h j;refine zea (zbo _ (Nat.mul_pos hi.1 hj.1)) (zeM h (i+j)) ?_;unfold mulQ;have h9:=zmd (num:=sI (powQ p i)*sI (powQ p j)) (Nat.mul_pos hi.1 hj.1);have e1:sI (powQ p (i+j))=sI (powQ p i)*sI (powQ p j):=by
  unfold sI powQ;simp only[Bool.false_eq_true,if_false]
  rw[Nat.pow_add,Int.natCast_mul]
 have e2:(powQ p (i+j)).bot=(powQ p i).bot*(powQ p j).bot:=by
  unfold powQ
  dsimp only
  rw[Nat.pow_add]
 rw[e1,e2];exact h9
theorem zog{p:Q}{N:Nat}(h:Small p N)(k:Nat):Small (powQ p k) (N*k+1):=by
 have h1:p.top^k≤(10^N)^k:=Nat.pow_le_pow_left (Nat.le_of_lt h.1) k;have h2:p.bot^k≤(10^N)^k:=Nat.pow_le_pow_left (Nat.le_of_lt h.2) k;rw[←Nat.pow_mul] at h1 h2;have h3:10^(N*k)<10^(N*k+1):=Nat.pow_lt_pow_right (by omega) (by omega);exact⟨Nat.lt_of_le_of_lt h1 h3,Nat.lt_of_le_of_lt h2 h3⟩
theorem zqw:NumQ ⟨#[49]⟩ ⟨false,1,1⟩:=⟨by decide +kernel,by decide,by decide,fun h=>by cases h⟩
def zkY (p:Q) (k i:Nat) (t s:ByteArray):Prop:=∃ e r,NumQ t (powQ p e)∧NumQ s (powQ p r)∧r+e*i=k∧e≤2*k+1∧r≤k
theorem zlc(m:Nat)(w:World)(hm:m≤4000000000000000000)(hm0:0<m) :
  Calls Tryz.prog 107 #[.int .i64 (-(m:Int))] w (RetZ w (-(m:Int))):=by
 obtain⟨i0,bJ,bE,bR,bO⟩:=info_parts zcc;have bA:Below w.heap.size w (w.alloc (.cells #[.bool false,.slice none 0 0] 97)):=Ac;have hk:=CBlk.new w #[.bool false,.slice none 0 0] 97 _ rfl;obtain⟨zm,aM⟩:∃ zm:Int,zm = -(m:Int):=⟨_,rfl⟩;have dn:decide (zm<0)=true:=by simp only[decide_eq_true_eq];omega
 have aN : -4000000000000000000≤zm:=by omega
 have bI:zm<0:=by omega
 have aX:=Aa aM;rw[←aM];clear aM;go_enter Tryz.func107,Tryz.ntmps107
 go_wp2
 generalize (w.alloc (.cells #[.bool false,.slice none 0 0] 97))=w0 at *
 go_loopg [0,3] m (fun g v0 v3 W=>∃ (q k:Nat) (z:Int) (ls:List Nat),v0 = .int .i64 z∧Hid (z = -(q:Int))∧z≤0 ∧ -4000000000000000000≤z∧q≤g∧q≤4000000000000000000∧k≤100∧q≤4000000000000000000/2^k∧W.ownsRow w0.heap.size 3 1 v3 k (ls.map natv)∧Hid (Wf ls∧ls.length=k∧val ls+B^k*q=m)∧Below w0.heap.size w0 W)
 case atStart=>exact⟨m,0,zm,[],rfl,aX.out,by omega,aN,Nat.le_refl _,hm,by omega,by simpa using hm,World.ownsRow_nil _ _ _ _,⟨Wf.nil,rfl,by simp⟩,Below.refl _ _⟩
 case round=>
  obtain⟨q,k,z,ls,rfl,aS,bP,bU,hq,bZ,bW,aV,aC,hv,aD⟩:=hrel;have bF:=aD.size;obtain⟨hw,hl,aA⟩:=hv.out
  by_cases h0:q=0
  ·have aF:z=0:=by have:=aS.out;omega
   subst h0;rw[Nat.mul_zero,Nat.add_zero] at aA;obtain⟨A9,c9,rfl,bL,bH,bD⟩:=zcF aC;have hs:=za3 true A9 k c9 ls wr ⟨bD,bL,bH,hw⟩ (by omega);rw[show sgn true (val ls)=zm from by rw[aA,aX.out];rfl] at hs;have HS:=Aa hs;have aW:=hk.below aD hk.lt;have bY:=hk.lt;have d1:(z != 0)=false:=by rw[aF];rfl
   have d2:(z==0)=true:=by rw[aF];rfl
   clear hs aA hl hw aC bD hv aV aF aS
   go_wp2_with fail
   refine HS.out.mono ?_;rintro e w6 ⟨A6,m6,c6,rfl,bQ,aP⟩;have aI:=aW.below aP aW.lt;have e0:w6.cell? ⟨w.heap.size,0,none⟩=some (.bool false):=aI.cell 0;have e1:w6.cell? ⟨w.heap.size,1,none⟩=some (.slice none 0 0):=aI.cell 1;have f0:w6.frozen? ⟨w.heap.size,0,none⟩=false:=aI.frozen 0;have f1:w6.frozen? ⟨w.heap.size,1,none⟩=false:=aI.frozen 1;have hB:=bA.trans ((aD.trans (aP.mono aD.size)).mono bA.size);clear aP;have aZ:decide (zm<0)=true:=dn;rw[aZ]
   go_wp2_with fail
   refine bodyPost_ret (v := .agg #[.bool true,.slice A6 m6 c6]) (by simp[results,Tryz.results107,go_sem,e0,e1]) rfl ?_;exact⟨A6,m6,c6,by rw[aZ],bQ.box aI _ _,zbO hB (by omega) _ _⟩
  ·obtain⟨d,hd⟩:∃ d,d=q%B:=⟨_,rfl⟩
   obtain⟨q',aL⟩:∃ q',q'=q/B:=⟨_,rfl⟩;have aY:d<B:=by rw[hd];exact Nat.mod_lt _ zaS
   have bM:d<1000000000:=aY;have bB:q'≤q/2:=by rw[aL];unfold B;omega
   have aT:=zg4 hl aA;rw[←hd,←aL] at aT;have HI:Hid (Wf (ls++[d])∧(ls++[d]).length=k+1∧val (ls++[d])+B^(k+1)*q'=m):=⟨hw.append (Wf.cons aY Wf.nil),by simp[hl],aT⟩;have aJ:q'≤4000000000000000000/2^(k+1):=by
    rw[Nat.pow_succ,←Nat.div_div_eq_div_mul];exact Nat.le_trans bB (Nat.div_le_div_right aV)
   have bK:k<62:=by
    rcases Nat.lt_or_ge k 62 with h9 | h9
    ·exact h9
    ·exfalso
     have:4000000000000000000/2^k≤4000000000000000000/2^62:=Nat.div_le_div_left (Nat.pow_le_pow_right (by omega) h9) (Nat.two_pow_pos _);have bX:4000000000000000000/2^62=0:=by decide
     omega
   have bG:=Aa aJ;have aU:=aS.out;have aH:z≠0:=by omega
   have d1:(z != 0)=true:=by rw[bne_iff_ne];exact aH
   have d2:(z==0)=false:=by rw[beq_eq_false_iff_ne];exact aH
   obtain⟨zd,bC⟩:∃ zd:Int,zd = -(d:Int):=⟨_,rfl⟩;obtain⟨zq,aG⟩:∃ zq:Int,zq = -(q':Int):=⟨_,rfl⟩;have f1:Int.tmod z 1000000000=zd:=by
    rw[aU,Int.neg_tmod,bC,hd,Int.tmod_eq_emod_of_nonneg (by omega)];rfl
   have f2:Int.tdiv z 1000000000=zq:=by
    rw[aU,Int.neg_tdiv,aG,aL,Int.tdiv_eq_ediv_of_nonneg (by omega)];rfl
   have bT:q'<q:=by omega
   have aR:=Aa aG;have aQ:zq≤0:=by omega
   have aO : -4000000000000000000≤zq:=by omega
   by_cases hneg:d=0
   case' pos=>have d3:decide (zd<0)=false:=by simp only[decide_eq_false_iff_not];omega
   case' neg=>have d3:decide (zd<0)=true:=by simp only[decide_eq_true_eq];omega
   case' pos=>have ed:zd=(d:Int):=by omega
   case' pos=>subst ed
   case' neg=>have ed:0-zd=(d:Int):=by omega
   case' neg=>have bV : -zd=(d:Int):=by omega
   case' neg=>have bN : -1000000000≤zd:=by omega
   all_goals
    first | clear bC | skip
    clear hd aL aT aJ aV aA hl hw hv bB aU aG hneg
    go_wp2_with (at_builtin;refine wpList_append_own _ rfl _ _ 78 rfl w0.heap.size 3 i0 (.int .i64 0) 1 8 Tryz.underlying78 bJ bE bR bO rfl (by decide) _ _ _ rfl (aC.alloc _) ⟨wr.heap.size,0,none⟩ 1 1 [.int .i64 (d:Int)] rfl rfl ?c1 ?c2 ?c3 ?c4 ?c5 ?_)
    case c1=>exact cell_one_new _ _ _
    case c2=>intro u hu;simp at hu;subst hu;rfl
    case c3=>unfold maxLen;omega
    case c4=>omega
    case c5=>simp;omega
    intro v' w2 aK aE _;have bS:Below w0.heap.size w0 w2:=(aD.alloc bF _).grown aE (by simp;omega) (fun g hg=>(World.ownsRow.lt aC g hg).1);clear aE aC;go_wp2
    go_roundg q'
    case measure=>omega
    case rel=>exact⟨q',k+1,zq,ls++[d],rfl,aR.out,aQ,aO,Nat.le_refl _,by omega,by omega,bG.out,by rw[List.map_append];exact aK,HI.out,bS⟩
theorem zlq(z:Int)(w:World)(h1 : -4000000000000000000≤z)(h2:z≤4000000000000000000) :
  Calls Tryz.prog 107 #[.int .i64 z] w (RetZ w z):=by
 by_cases h:z<0
 ·obtain⟨m,rfl⟩:∃ m:Nat,z = -(m:Int):=⟨(-z).toNat,by omega⟩
  exact zlc m w (by omega) (by omega)
 ·obtain⟨m,rfl⟩:∃ m:Nat,z=(m:Int):=⟨z.toNat,by omega⟩
  exact zha m w (by omega)
def intQ (z:Int):Q:=⟨decide (z<0),z.natAbs,1⟩
theorem zc4(z:Int):LowQ (intQ z):=⟨Nat.one_pos,Nat.gcd_one_right _,fun h=>by
 have h9:z<0:=by simpa[intQ] using h
 show 0<z.natAbs
 omega⟩
theorem ziu(z:Int):zaO (intQ z)=sgnT (decide (z<0)) (Lib.decDigits z.natAbs):=by
 rw[zaZ];simp[intQ]
theorem zfy(z:Int)(w:World)(h1 : -4000000000000000000≤z)(h2:z≤4000000000000000000) :
  Calls Tryz.prog 93 #[.int .i64 z] w (RetS w (intQ z)):=by
 have HW:=Aa (zlq z w h1 h2);have HR:Hid (∀ s:ByteArray,s.data.toList=sgnT (decide (z<0)) (Lib.decDigits z.natAbs)→NumQ s (intQ z)):=fun s hs=>⟨by rw[ziu];exact hs,zc4 z⟩
 have hT:=fun (A:Option Addr) (n c:Nat) (W:World) (h:DigI W A n c (digs z.natAbs)) (hn:n≤524288)=>zeP (decide (z<0)) z.natAbs A n c W h (by intro h9;simp at h9;omega) hn
 have aA:(digs z.natAbs).length≤3:=zab (by have e:B^3=1000000000000000000000000000:=(by decide);omega);have HT:=Aa hT;have HL:=Aa aA;clear hT aA;go_enter Tryz.func93,Tryz.ntmps93
 go_wp2_with fail
 refine HW.out.mono ?_;rintro e w1 ⟨A1,n1,c1,rfl,aD,aC⟩
 go_wp2_with fail
 refine(HT.out A1 n1 c1 w1 aD (by rw[←aD.len];have:=HL.out;omega)).mono ?_;rintro e w2 ⟨⟨s,rfl,hs⟩,aE⟩;go_wp2
 go_ret;exact⟨⟨s,rfl,HR.out s hs⟩,aC.trans (aE.mono aC.size)⟩
theorem zjw(s:ByteArray)(w:World)(hs:s.size≤9223372036854775807) :
  Calls Tryz.prog 134 #[.string s] w fun e w'=>e = .returned (.bool (zar s.data.toList))∧w=w':=by
 have aE:s.data.toList.length=s.size:=by simp
 have aG:=Aa aE;clear aE;obtain⟨D,hD⟩:∃ D,D=zar s.data.toList:=⟨_,rfl⟩;have HD:=Aa hD;rw[←hD];clear hD;go_enter Tryz.func134,Tryz.ntmps134
 go_wp2
 go_loop [3] (fun i=>∃ k:Nat,k≤s.size∧i = .int .i64 k∧Hid (D=zar (s.data.toList.drop k))) (fun i=>s.size-(intOf i).toNat)
 case atStart=>exact⟨0,Nat.zero_le _,rfl,by rw[Hid,List.drop_zero];exact HD.out⟩
 case round=>
  obtain⟨k,hk,rfl,hv⟩:=hrel
  by_cases hlt:k<s.size
  ·have aA:=zd0 s k hlt
   rw[←hv.out] at aA;obtain⟨c,aF⟩:∃ c:Nat,(s[k]'hlt).toNat=c:=⟨_,rfl⟩;rw[aF] at aA
   by_cases hdig:48≤c∧c≤57
   ·have hb:digB (c:Int)=true:=by unfold digB;simp;omega
    rw[hb,Bool.true_and] at aA;have HV:=Aa aA;have d1:decide ((c:Int)<48)=false:=by simp only[decide_eq_false_iff_not];omega
    have d2:decide ((57:Int)<(c:Int))=false:=by simp only[decide_eq_false_iff_not];omega
    clear aA hb hdig hv;go_wp2
    go_round
    case rel=>exact⟨k+1,by omega,by go_num,HV.out⟩
    case measure=>simp[intOf];omega
   ·have hb:digB (c:Int)=false:=by
     unfold digB;rw[Bool.and_eq_false_iff];simp only[decide_eq_false_iff_not]
     omega
    rw[hb,Bool.false_and] at aA;have HV:=Aa aA;have aD:(decide ((c:Int)<48)=true)∨(decide ((c:Int)<48)=false∧decide ((57:Int)<(c:Int))=true):=by
     simp only[decide_eq_true_eq,decide_eq_false_iff_not]
     omega
    clear aA hb hdig hv
    rcases aD with d1 | ⟨d1,d2⟩
    all_goals
     go_wp2
     go_ret;exact⟨by rw[HV.out];rfl,rfl⟩
  ·have aC:D=true:=by
    rw[hv.out,List.drop_of_length_le (by rw[aG.out];omega)];rfl
   have HF:=Aa aC;clear aC hv;go_wp2
   go_ret;exact⟨by rw[HF.out];rfl,rfl⟩
theorem zco(s:ByteArray)(w:World)(hs:s.size≤9223372036854775807) :
  Calls Tryz.prog 63 #[.string s] w fun e w'=>e = .returned (.bool (zaB s.data.toList))∧w=w':=by
 have aF:s.data.toList.length=s.size:=by simp
 have HG:=Aa (zjw s w hs);obtain⟨D,hD⟩:∃ D,D=zaB s.data.toList:=⟨_,rfl⟩;rw[←hD]
 by_cases h0:s.size=0
 ·have hl:s.data.toList=[]:=List.eq_nil_of_length_eq_zero (by omega)
  have hF:D=false:=by rw[hD,hl];rfl
  have HF:=Aa hF;have d1:((s.size:Int)==0)=true:=by rw[h0];rfl
  clear hF hl hD h0 aF HG;go_enter Tryz.func63,Tryz.ntmps63
  go_wp2
  go_ret;exact⟨by rw[HF.out];rfl,rfl⟩
 ·have hpos:0<s.size:=by omega
  have d1:((s.size:Int)==0)=false:=by rw[beq_eq_false_iff_ne];omega
  obtain⟨c,aG⟩:∃ c:Nat,(s[0]'hpos).toNat=c:=⟨_,rfl⟩;have aC:s.data.toList=(s[0]'hpos) :: s.data.toList.drop 1:=by
   have h9:0<s.data.toList.length:=by omega
   have e:=List.drop_eq_getElem_cons h9;rw[List.drop_zero] at e;exact e
  by_cases hbad:1<s.size∧c=48
  ·obtain⟨aI,aH⟩:=hbad
   have d2:decide ((1:Int)<(s.size:Int))=true:=by simp only[decide_eq_true_eq];omega
   have d3:((c:Int)==48)=true:=by rw[beq_iff_eq];omega
   have aA:s[0]'hpos=48:=UInt8.toNat_inj.1 (by rw[aG,aH];rfl);have hF:D=false:=by
    rw[hD];unfold zaB;rw[Bool.and_eq_false_iff];refine .inr ?_;have n1:s.data.toList≠[48]:=fun e=>by have:=congrArg List.length e;simp at this;omega
    have n2:s.data.toList.head? = some 48:=by rw[aC,aA];rfl
    simp[n1,n2]
   have HF:=Aa hF;clear hF aA aC hD aF HG aI aH;go_enter Tryz.func63,Tryz.ntmps63
   go_wp2
   go_ret;exact⟨by rw[HF.out];rfl,rfl⟩
  ·have hF:D=zar s.data.toList:=by
    rw[hD];unfold zaB
    by_cases h1:s.size=1
    ·have aE:s.data.toList=[s[0]'hpos]:=by
      rw[aC]
      congr 1
      exact List.drop_eq_nil_of_le (by omega)
     by_cases h48:s[0]'hpos=48
     ·rw[aE,h48];simp
     ·have:s.data.toList.head? ≠ some 48:=by rw[aE];simpa using h48
      have n2:s.data.toList≠[]:=by rw[aE];simp
      simp[this,n2]
    ·have aA:¬ (s[0]'hpos=48):=fun e=>hbad ⟨by omega,by rw[←aG,e];rfl⟩
     have:s.data.toList.head? ≠ some 48:=by rw[aC];simpa using aA
     have n2:s.data.toList≠[]:=by rw[aC];simp
     simp[this,n2]
   rw[←hF] at HG;have aD:(decide ((1:Int)<(s.size:Int))=false)∨(decide ((1:Int)<(s.size:Int))=true∧((c:Int)==48)=false):=by
    simp only[decide_eq_true_eq,decide_eq_false_iff_not,beq_eq_false_iff_ne]
    omega
   clear hF aC hD aF hbad
   rcases aD with d2 | ⟨d2,d3⟩
   all_goals
    go_enter Tryz.func63,Tryz.ntmps63
    go_wp2_with fail
    refine HG.out.mono ?_;rintro e w1 ⟨rfl,rfl⟩;go_wp2
    go_ret;exact⟨rfl,rfl⟩
theorem zdy:∀ l:List UInt8,(∀ c ∈ l,c≠47)∨∃ t r,l=t++47 :: r∧∀ c ∈ t,c≠47
 | [] => .inl (fun c hc=>by cases hc)
 | x :: l=>by
  by_cases hx:x=47
  ·exact .inr ⟨[],l,by rw[hx];rfl,fun c hc=>by cases hc⟩
  ·rcases zdy l with h | ⟨t,r,rfl,h⟩
   ·exact .inl (fun c hc=>by rcases List.mem_cons.1 hc with rfl | hc;(· exact hx);(· exact h c hc))
   ·exact .inr ⟨x :: t,r,rfl,fun c hc=>by rcases List.mem_cons.1 hc with rfl | hc;(· exact hx);(· exact h c hc)⟩
theorem zlV{l s:List UInt8}{neg:Bool}(hl:l=sgnT neg s)(hn:neg=false→s.head? ≠ some 45) :
  zan l=zbg (s.take (zbB s)) (s.drop (zbB s+1)) neg (decide (zbB s<s.length)):=by
 have aC:∀ t:List UInt8,(neg=false→t.head? ≠ some 45)→Lib.hasPrefix (sgnT neg t) [45]=neg∧Lib.trimPrefix (sgnT neg t) [45]=t:=by
  intro t ht;have h0:Lib.hasPrefix (sgnT neg t) [45]=neg:=by
   cases neg
   ·have h9:=ht rfl
    unfold sgnT Lib.hasPrefix
    cases t with
    | nil=>rfl
    | cons x r=>
     have hx:((45:UInt8)==x)=false:=by
      rw[beq_eq_false_iff_ne];intro e;exact h9 (by rw[←e];rfl)
     simp[List.isPrefixOf,hx]
   ·rfl
  refine⟨h0,?_⟩;unfold Lib.trimPrefix;rw[h0]
  cases neg<;>rfl
 have aA:∀ t:List UInt8,(∀ c ∈ t,c≠47)→∀ c ∈ sgnT neg t,c≠47:=by
  intro t ht c hc;unfold sgnT at hc
  cases neg
  ·exact ht c hc
  ·rcases List.mem_cons.1 hc with rfl | hc
   ·decide
   ·exact ht c hc
 rcases zdy s with h | ⟨t,r,rfl,h⟩
 ·have e1:zbB s=s.length:=zb6 h
  have ec:=ziR (aA s h);obtain⟨p1,p2⟩:=aC s hn;unfold zan topL botL negL zd4;rw[hl,ec]
  dsimp only
  rw[p1,p2,e1,List.take_length,List.drop_eq_nil_of_le (by omega),decide_eq_false (by omega)]
 ·have e1:zbB (t++47 :: r)=t.length:=zcQ h
  have ht:neg=false→t.head? ≠ some 45:=fun h9=>by
   have h8:=hn h9
   cases t with
   | nil=>simp
   | cons x q=>simpa using h8
  have e2:sgnT neg (t++47 :: r)=sgnT neg t++47 :: r:=by unfold sgnT;cases neg<;>rfl
  have ec:=zhn (r:=r) (aA t h);obtain⟨p1,p2⟩:=aC t ht;unfold zan topL botL negL zd4;rw[hl,e2,ec]
  dsimp only
  rw[p1,p2,e1,List.take_left,←List.drop_drop,List.drop_left,decide_eq_true (by simp)];rfl
end Go.Proofs.YtbkgkoenppkhpaaGreatDoor
