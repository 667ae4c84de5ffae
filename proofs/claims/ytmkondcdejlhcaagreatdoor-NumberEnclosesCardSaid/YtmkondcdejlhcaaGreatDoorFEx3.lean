/- isFinite and Exact of a single that is no number; all cases together. -/
import Derived.Test.YtmkondcdejlhcaaGreatDoorFLdx2
set_option maxRecDepth 100000
set_option maxHeartbeats 2000000
namespace Go.Proofs.YtmkondcdejlhcaaGreatDoor
section
open Go.RowKit Bn
open Flt
def nanW (b:Nat) (W:World):Nat:=(Question.nanConv .f64 b).cut (W.tape W.drawn (Question.nanConv .f64 b))
theorem zl5(b:Nat)(W:World):∃ s f,Ieee.double.read (nanW b W) = .nan s f:=by
 unfold nanW Question.cut;generalize W.tape W.drawn (Question.nanConv .f64 b)=t
 dsimp only
 have aA:(2:Nat)^63=9223372036854775808:=by decide
 have aC:(2:Nat)^52=4503599627370496:=by decide
 rw[aA,aC];have h1:t%2<2:=Nat.mod_lt _ (by omega);have h2:t/2%(4503599627370496-1)<4503599627370495:=Nat.mod_lt _ (by omega);generalize t%2=s at h1;generalize t/2%(4503599627370496-1)=f at h2;unfold Ieee.Format.read;rw[zhe,zbW,zeO];have e1:(s*9223372036854775808+9218868437227405312+1+f)%9223372036854775808=9218868437227405312+1+f:=by omega
 dsimp only
 rw[e1,if_neg (by omega),if_neg (by omega),if_neg (by omega)];exact⟨_,_,rfl⟩
theorem znQ(b:Nat)(W:World):(FloatKind.f64.format.order (nanW b W) (nanW b W) != some .eq)=true:=by
 obtain⟨s,f,h⟩:=zl5 b W;have:FloatKind.f64.format.order (nanW b W) (nanW b W)=none:=by
  show(Ieee.double.read _).order (Ieee.double.read _)=_
  rw[h];rfl
 rw[this];rfl
theorem zio{P:Program}(src dst:TypeId)(b:Nat){s:Bool}{f:Nat}(hs:(P.underlying src).isSome=true)(hd:P.underlying dst=some (.float .f64))(h:Ieee.single.read b = .nan s f)(W:World) :
  (convert src dst (.float .f32 b)).run P W = .ok (.float .f64 (nanW b W)) W.drew:=by
 obtain⟨u,aA⟩:=Option.isSome_iff_exists.1 hs;have h':FloatKind.f32.decode b = .nan s f:=h;have hf:(Question.nanConv .f64 b).forced=false:=rfl
 cases u<;>simp[convert,run_underlying aA,run_underlying hd,Conv.floatToFloat,h',hf,nanW]
theorem zhI{b:Nat}{s:Bool}{f:Nat}(h:Ieee.single.read b = .nan s f)(w:World):Calls Tryz.prog 108 #[.float .f32 b] w fun e w'=>e = .returned (.bool false)∧Below w.heap.size w w':=by
 have aC:=zio (P:=Tryz.prog) 76 138 b (by kernel_rfl) (by kernel_rfl) h;have aA:=zc8 (nanW b w) w.drew;rw[znQ] at aA;have HN:=Aa aA;clear aA;have hb:Below w.heap.size w w.drew:=(Below.refl _ _).drew;go_enter Tryz.func108,Tryz.ntmps108
 go_wp2_with fail
 refine HN.out.mono ?_;rintro e w1 ⟨rfl,rfl⟩
 go_wp2_with fail
 go_ret;exact⟨rfl,hb⟩
theorem zhU(b:Nat)(w:World):Calls Tryz.prog 108 #[.float .f32 b] w fun e w'=>e = .returned (.bool (fin Ieee.single b))∧Below w.heap.size w w':=by
 unfold fin
 rcases h:Ieee.single.read b with⟨s,m,p⟩ | s | ⟨s,f⟩
 ·have hx:∃ x,Fine b x:=by
   rcases Nat.eq_zero_or_pos m with rfl | hm
   ·exact⟨_,zhE h⟩
   ·exact⟨_,zjz h hm⟩
  obtain⟨x,hx⟩:=hx;refine(zdo w hx).mono ?_;rintro e w' ⟨rfl,rfl⟩;exact⟨rfl,Below.refl _ _⟩
 ·refine(zn8 s h w).mono ?_
  rintro e w' ⟨rfl,rfl⟩;exact⟨rfl,Below.refl _ _⟩
 ·exact zhI h w
theorem zlE{b:Nat}(w:World)(h:fin Ieee.single b=false):Calls Tryz.prog 56 #[.float .f32 b] w (zb5 w [] 1):=by
 have h1:=zhU b w;rw[h] at h1;have h2:=Aa h1;clear h1 h;go_enter Tryz.func56,Tryz.ntmps56
 go_wp2_with fail
 refine h2.out.mono ?_;rintro e w1 ⟨rfl,hb⟩
 go_wp2_with fail
 go_ret2
 exact⟨_,rfl,rfl,hb⟩
theorem zmn(b:Nat)(w:World)(hT:Tabs w) :
  Calls Tryz.prog 56 #[.float .f32 b] w (zb5 w (if fin Ieee.single b then zbx (exQ b) else[]) (if fin Ieee.single b then zaC (exQ b) else 1)):=by
 by_cases hf:fin Ieee.single b=true
 ·rw[if_pos hf,if_pos hf]
  unfold fin at hf
  rcases h:Ieee.single.read b with⟨s,m,p⟩ | s | ⟨s,f⟩
  ·exact zk0 w hT h
  ·rw[h] at hf;cases hf
  ·rw[h] at hf;cases hf
 ·rw[if_neg hf,if_neg hf]
  exact zlE w (by simpa using hf)
def sI (p:Q):Int:=if p.neg then -(p.top:Int) else(p.top:Int)
theorem zob(neg:Bool)(t b:Nat)(hb:0<b):LowQ (lowQ neg t b):=by
 unfold lowQ;rw[if_neg (by omega)]
 split
 ·exact⟨by decide,by decide,fun h=>by cases h⟩
 ·rename_i ht
  have hg:0<Nat.gcd t b:=Nat.gcd_pos_of_pos_right _ hb;refine⟨Nat.div_pos (Nat.gcd_le_right _ hb) hg,(Nat.gcd_div (Nat.gcd_dvd_left t b) (Nat.gcd_dvd_right t b)).trans (Nat.div_self hg),fun _=>Nat.div_pos (Nat.gcd_le_left _ (by omega)) hg⟩
end
section
open Go.RowKit Bn
def zbw (num:Int) (den:Nat):Q:=lowQ (decide (num<0)) num.natAbs den
def addQ (p q:Q):Q:=zbw (sI p*(q.bot:Int)+sI q*(p.bot:Int)) (p.bot*q.bot)
def subQ (p q:Q):Q:=zbw (sI p*(q.bot:Int)-sI q*(p.bot:Int)) (p.bot*q.bot)
def mulQ (p q:Q):Q:=zbw (sI p*sI q) (p.bot*q.bot)
def negQ (p:Q):Q:=⟨!p.neg && decide (0<p.top),p.top,p.bot⟩
def absQ (p:Q):Q:=⟨false,p.top,p.bot⟩
def zdd (p:Q):Int:=if p.top=0 then 0 else if p.neg then -1 else 1
def cmpI (p q:Q):Int:=zdd (subQ p q)
theorem zeK{den:Nat}(hd:0<den):zbw 0 den=⟨false,0,1⟩:=by
 unfold zbw lowQ;rw[if_neg (by omega)];rfl
theorem zhi{num:Int}{den:Nat}(hd:0<den)(h0:num≠0):zbw num den=⟨decide (num<0),num.natAbs/Nat.gcd num.natAbs den,den/Nat.gcd num.natAbs den⟩:=by
 unfold zbw lowQ;rw[if_neg (by omega),if_neg (by omega)]
theorem zl0{num:Int}{den:Nat}(hd:0<den):sI (zbw num den)*(den:Int)=num*((zbw num den).bot:Int):=by
 by_cases h0:num=0
 ·subst h0
  rw[zeK hd];simp[sI]
 ·rw[zhi hd h0]
  unfold sI;have d1:=Nat.div_mul_cancel (Nat.gcd_dvd_left num.natAbs den);have d2:=Nat.div_mul_cancel (Nat.gcd_dvd_right num.natAbs den)
  dsimp only
  generalize Nat.gcd num.natAbs den=g at *;have hx:(num.natAbs/g)*den=num.natAbs*(den/g):=by
   conv=>lhs;rw[←d2]
   conv=>rhs;rw[←d1]
   rw[Nat.mul_comm (den/g),Nat.mul_assoc]
  have aA:(((num.natAbs/g:Nat):Int))*(den:Int)=(num.natAbs:Int)*((den/g:Nat):Int):=by
   rw[←Int.natCast_mul,←Int.natCast_mul,hx]
  by_cases hn:num<0
  ·rw[decide_eq_true hn,if_pos rfl,Int.neg_mul,aA,←Int.neg_mul,show -(num.natAbs:Int)=num by omega]
  ·rw[decide_eq_false hn,if_neg (by decide),aA,show(num.natAbs:Int)=num by omega]
theorem za4(num:Int){den:Nat}(hd:0<den):LowQ (zbw num den):=zob _ _ _ hd
theorem zks {num:Int} {den:Nat} (hd:0<den):zdd (zbw num den)=num.sign:=by
 by_cases h0:num=0
 ·subst h0
  rw[zeK hd];rfl
 ·rw[zhi hd h0]
  unfold zdd;have hg:0<Nat.gcd num.natAbs den:=Nat.gcd_pos_of_pos_right _ hd;have hp:0<num.natAbs/Nat.gcd num.natAbs den:=Nat.div_pos (Nat.gcd_le_left _ (by omega)) hg
  dsimp only
  rw[if_neg (by omega)]
  by_cases hn:num<0
  ·rw[decide_eq_true hn,if_pos rfl,Int.sign_eq_neg_one_of_neg hn]
  ·rw[decide_eq_false hn,if_neg (by decide),Int.sign_eq_one_of_pos (by omega)]
theorem zeH{p q:Q}(hp:0<p.bot)(hq:0<q.bot):cmpI p q=(sI p*(q.bot:Int)-sI q*(p.bot:Int)).sign:=zks (Nat.mul_pos hp hq)
theorem zgN {p q:Q} (hp:LowQ p) (hq:LowQ q) (h:sI p*(q.bot:Int)=sI q*(p.bot:Int)):p=q:=by
 obtain⟨pn,pt,pb⟩:=p;obtain⟨qn,qt,qb⟩:=q;obtain⟨p1,p2,p3⟩:=hp;obtain⟨q1,q2,q3⟩:=hq;unfold sI at h
 dsimp only at *
 have hs:pn=qn∧pt*qb=qt*pb:=by
  have e1:(pt:Int)*(qb:Int)=((pt*qb:Nat):Int):=by rw[Int.natCast_mul]
  have e2:(qt:Int)*(pb:Int)=((qt*pb:Nat):Int):=by rw[Int.natCast_mul]
  cases pn<;>cases qn
  ·simp only[Bool.false_eq_true,if_false,e1,e2] at h
   exact⟨rfl,by omega⟩
  ·simp only[Bool.false_eq_true,if_false,if_true,Int.neg_mul,e1,e2] at h
   have:=Nat.mul_pos (q3 rfl) p1;omega
  ·simp only[Bool.false_eq_true,if_false,if_true,Int.neg_mul,e1,e2] at h
   have:=Nat.mul_pos (p3 rfl) q1;omega
  ·simp only[if_true,Int.neg_mul,e1,e2] at h
   exact⟨rfl,by omega⟩
 obtain⟨rfl,hc⟩:=hs;have aA:pb ∣ qb:=(Nat.Coprime.dvd_of_dvd_mul_left (show Nat.Coprime pb pt from by rw[Nat.coprime_comm];exact p2) (by rw[hc];exact Nat.dvd_mul_left _ _));have aC:qb ∣ pb:=(Nat.Coprime.dvd_of_dvd_mul_left (show Nat.Coprime qb qt from by rw[Nat.coprime_comm];exact q2) (by rw[←hc];exact Nat.dvd_mul_left _ _));obtain rfl:pb=qb:=Nat.dvd_antisymm aA aC;obtain rfl:pt=qt:=Nat.eq_of_mul_eq_mul_right p1 hc;rfl
end
section
open Go.RowKit
theorem zof(k r:Nat):Dec.pad (k+1) r=Dec.dgt (r/10^k%10) :: Dec.pad k r:=by
 induction k generalizing r with
 | zero=>simp[Dec.pad]
 | succ k ih=>
  rw[Dec.pad,ih (r/10),Nat.div_div_eq_div_mul,Nat.pow_succ,Nat.mul_comm (10^k) 10,List.cons_append];rfl
def decK (n least:Nat):Nat:=max least (if n=0 then 0 else(Lib.decDigits n).length)
theorem ze8{n:Nat}(h:0<n):10^((Lib.decDigits n).length-1)≤n∧n<10^(Lib.decDigits n).length:=by
 induction n using Nat.strongRecOn with
 | ind n ih=>
  by_cases h1:n<10
  ·rw[Dec.dec_lt h1]
   simp
   omega
  ·rw[Dec.dec_ge h1]
   obtain⟨h2,h3⟩:=ih (n/10) (by omega) (by omega);have hp:=Dec.dec_length_pos (n/10);rw[List.length_append,List.length_singleton,Nat.add_sub_cancel,Nat.pow_succ];obtain⟨k,hk⟩:∃ k,(Lib.decDigits (n/10)).length=k+1:=⟨_,(Nat.succ_pred_eq_of_pos hp).symm⟩;rw[hk,Nat.add_sub_cancel] at h2;rw[hk] at h3 ⊢;rw[Nat.pow_succ] at h3 ⊢;omega
theorem zmH{n least k:Nat}(h:0<n/10^k∨k<least):k+1≤decK n least:=by
 unfold decK
 rcases h with h | h
 ·have hn:0<n:=by
   rcases Nat.eq_zero_or_pos n with h0 | h0
   ·rw[h0,Nat.zero_div] at h;omega
   ·exact h0
  rw[if_neg (by omega)];have h1:=(ze8 hn).2;have h2:10^k≤n:=by
   rcases Nat.lt_or_ge n (10^k) with h3 | h3
   ·rw[Nat.div_eq_of_lt h3] at h;omega
   ·exact h3
  have h3:k<(Lib.decDigits n).length:=by
   rcases Nat.lt_or_ge k (Lib.decDigits n).length with h4 | h4
   ·exact h4
   ·have:=Nat.pow_le_pow_right (n:=10) (by omega) h4
    omega
  omega
 ·omega
theorem znK{n least k:Nat}(h1:n/10^k=0)(h2:least≤k)(h3:k≤decK n least):k=decK n least:=by
 have h4:n<10^k:=by
  rcases Nat.lt_or_ge n (10^k) with h4 | h4
  ·exact h4
  ·have:=Nat.div_pos h4 (Nat.pow_pos (by omega))
   omega
 unfold decK at *
 by_cases h0:n=0
 ·rw[if_pos h0] at *
  omega
 ·rw[if_neg h0] at *
  have h5:=(ze8 (n:=n) (by omega)).1;have h6:(Lib.decDigits n).length-1<k:=by
   rcases Nat.lt_or_ge ((Lib.decDigits n).length-1) k with h6 | h6
   ·exact h6
   ·have:=Nat.pow_le_pow_right (n:=10) (by omega) h6
    omega
  omega
theorem zeC(n:Nat):Dec.pad (decK n 1) n=Lib.decDigits n:=by
 unfold decK;have hp:=Dec.dec_length_pos n
 by_cases h0:n=0
 ·subst h0
  rw[if_pos rfl,Dec.dec_lt (by omega)];rfl
 ·rw[if_neg h0,Nat.max_eq_right (by omega),Dec.pad_dec _ _ hp (ze8 (by omega)).2,Nat.sub_self]
  rfl
theorem zmF{n:Nat}(h:n<Dn.B):decK n 9=9:=by
 have h1:n<10^9:=by rw[←znS];exact h
 unfold decK;have h2:=Dec.dec_length_le (k:=9) (by omega) h1
 split<;>omega
theorem zoz{n least:Nat}(h:n<10000000000000000000)(hl:least≤19):decK n least≤19:=by
 have h1:=Dec.dec_length_le (k:=19) (r:=n) (by omega) (by have e:(10:Nat)^19=10000000000000000000:=(by decide);omega);unfold decK
 split<;>omega
def zbE (l:List UInt8):Nat:=l.findIdx (· == 47)
theorem zb7{l:List UInt8}(h:∀ c ∈ l,c≠47):zbE l=l.length:=by
 unfold zbE;rw[List.findIdx_eq_length];intro c hc
 simpa using h c hc
theorem zcE{l r:List UInt8}(h:∀ c ∈ l,c≠47):zbE (l++47 :: r)=l.length:=by
 unfold zbE;rw[List.findIdx_append,if_neg,List.findIdx_cons]
 ·simp
 ·rw[Nat.not_lt,Nat.le_iff_lt_or_eq]
  refine .inr ?_;exact(zb7 h).symm
theorem zls(l:List UInt8):zbE l≤l.length:=List.findIdx_le_length
end
section
open Go.RowKit Dn
structure DigI (w:World) (A:Option Addr) (n c:Nat) (l:List Nat):Prop where
 rd:zaA w w.heap.size 1 A n (l.map natv)
 nc:n≤c
 cm:c≤maxLen
 wf:Wf l
theorem DigI.later {w w':World} {A:Option Addr} {n c:Nat} {l:List Nat} (h:DigI w A n c l) (hb:Below w.heap.size w w'):DigI w' A n c l:=⟨h.rd.later hb,h.nc,h.cm,h.wf⟩
theorem DigI.len {w:World} {A:Option Addr} {n c:Nat} {l:List Nat} (h:DigI w A n c l):l.length=n:=h.rd.lenM
theorem zcz (A:Option Addr) (n c:Nat) (l:List Nat) (w:World) (h:DigI w A n c l) (hn:n≤1099511627776) :
  Calls Tryz.prog 164 #[.slice A n c] w fun e w'=>∃ m,e = .returned (.slice A m c)∧DigI w' A m c (digs (val l))∧Below w.heap.size w w':=by
 obtain⟨hr,aG,aF,hw⟩:=h;have hl:=hr.lenM;have aH:=Aa aF;have aI:=Aa aG;clear aF;go_enter Tryz.func164,Tryz.ntmps164
 go_wp2
 go_loopg [0] n (fun q s W=>∃ k:Nat,k≤n∧s = .slice A k c∧k≤q∧Hid (∀ j (h:j<l.length),k≤j→l[j]=0)∧Below w.heap.size w W)
 case atStart=>exact⟨n,Nat.le_refl _,rfl,Nat.le_refl _,fun j h h'=>by omega,Below.refl _ _⟩
 case round=>
  obtain⟨k,hk,rfl,hq,hz,aC⟩:=hrel;have aD:∀ (hx:∀ h:k-1<l.length,0<k→l[k-1]≠0) (W:World),Below w.heap.size w W→DigI W A k c (digs (val l)):=fun hx W hb=>by
   have ht:=zet hw k (by omega) (fun j h hj=>hz.out j h hj) hx;have h2:=((hr.below hb).more hb.size).take (m:=k) hk;rw[←List.map_take,ht] at h2;exact⟨h2,by have:=aI.out;omega,aH.out,zaq _⟩
  have aE:=Aa aD;clear aD
  by_cases h0:0<k
  ·obtain⟨ad,aM,rfl,aJ,aA⟩:=(hr.below aC).cellM (k:=k-1) (by omega)
   have aK:c≠0:=by omega
   by_cases hx:l[k-1]=0
   ·rw[hx] at aA
    replace aA:wr.cell? (ad.add (k-1))=some (.int .i64 0):=aA
    have HX:=Aa hx;clear hx;go_wp2
    go_roundg (k-1)
    case measure=>omega
    case rel=>
     refine⟨k-1,by omega,rfl,Nat.le_refl _,?_,aC⟩;intro j h hj
     rcases Nat.lt_or_ge j k with h1 | h1
     ·obtain rfl:j=k-1:=by omega
      exact HX.out
     ·exact hz.out j h h1
   ·have HX:=Aa hx
    unfold natv at aA;generalize hg:l[k-1]=x at *;have aL:(((x:Nat):Int)==0)=false:=by
     rw[beq_eq_false_iff_ne];omega
    have HG:=Aa hg;clear hg hx;go_wp2
    go_ret;exact⟨k,rfl,aE.out (fun h _=>by rw[HG.out];exact HX.out) _ aC,aC⟩
  ·go_wp2
   go_ret;exact⟨k,rfl,aE.out (fun h h1=>absurd h1 h0) _ aC,aC⟩
theorem zeN(A:Option Addr)(n c:Nat)(l:List Nat)(k:Nat)(w:World)(h:zaA w w.heap.size 1 A n (l.map natv))(_hn:n≤1099511627776) :
  Calls Tryz.prog 180 #[.slice A n c,.int .i64 (k:Int)] w fun e w'=>e = .returned (.int .i64 ((l.getD k 0:Nat):Int))∧w=w':=by
 have hl:=h.lenM
 by_cases h0:k<n
 ·obtain⟨ad,aC,rfl,aD,aA⟩:=h.cellM h0
  have hv:l.getD k 0=l[k]:=by simp[List.getD,aC]
  have HV:=Aa hv;unfold natv at aA;clear hv;generalize l[k]=x at *;go_enter Tryz.func180,Tryz.ntmps180
  go_wp2
  go_ret;exact⟨by rw[HV.out];rfl,rfl⟩
 ·have hv:Hid (l.getD k 0=0):=by
   show l.getD k 0=0
   simp[List.getD,List.getElem?_eq_none (show l.length≤k by omega)]
  clear hl;go_enter Tryz.func180,Tryz.ntmps180
  go_wp2
  go_ret;exact⟨by rw[hv.out];rfl,rfl⟩
theorem zci(A A':Option Addr)(n c n' c' x y:Nat)(w:World)(h:zaA w w.heap.size 1 A n ((digs x).map natv))(h':zaA w w.heap.size 1 A' n' ((digs y).map natv))(hn:n≤1099511627776)(hn':n'≤1099511627776) :
  Calls Tryz.prog 135 #[.slice A n c,.slice A' n' c'] w fun e w'=>e = .returned (.int .i64 (Bn.ncmp x y))∧Below w.heap.size w w':=by
 have hl:=h.lenM;have aG:=h'.lenM
 by_cases hne:n=n'
 ·subst hne
  have HL:=Aa hl;have aM:=Aa aG;clear hl aG;have aN:((n:Int) != (n:Int))=false:=by simp
  go_enter Tryz.func135,Tryz.ntmps135
  go_wp2
  go_loopg [5] n (fun q s W=>∃ k:Nat,k≤n∧s = .int .i64 ((k:Int)-1)∧k≤q∧Hid (∀ j,k≤j→(digs x).getD j 0=(digs y).getD j 0)∧Below w.heap.size w W)
  case atStart=>exact⟨n,Nat.le_refl _,rfl,Nat.le_refl _,(fun j hj=>by rw[zb2 (by rw[HL.out];omega),zb2 (by rw[aM.out];omega)]),Below.refl _ _⟩
  case round=>
   obtain⟨k,hk,rfl,hq,hz,aA⟩:=hrel
   by_cases h0:0<k
   ·obtain⟨i,rfl⟩:∃ i:Nat,k=i+1:=⟨k-1,by omega⟩
    have e1:((i+1:Nat):Int)-1=(i:Int):=by omega
    rw[e1];obtain⟨ad,aK,rfl,aP,aE⟩:=(h.below aA).cellM (k:=i) (by omega);obtain⟨aS,aD,rfl,aO,aC⟩:=(h'.below aA).cellM (k:=i) (by omega);have aI:(digs x).getD i 0=(digs x)[i]:=by simp[List.getD,aK]
    have aJ:(digs y).getD i 0=(digs y)[i]:=by simp[List.getD,aD]
    have HX:=Aa aI;have HY:=Aa aJ;have aQ:=zaq x _ (List.getElem_mem aK);have aR:=zaq y _ (List.getElem_mem aD);unfold natv at aE aC;clear aI aJ e1;generalize (digs x)[i]=xk at *;generalize (digs y)[i]=yk at *;have q1:(0:Int)≤(i:Int):=by omega
    have q2:(i:Int)<(n:Int):=by omega
    rcases Nat.lt_trichotomy xk yk with aF | aL | aH
    ·have HR:Hid (Bn.ncmp x y = -1):=Bn.ncmp_lt (zk5 i (fun j hj=>hz.out j (by omega)) (by rw[HX.out,HY.out];exact aF))
     have d1:decide (xk<yk)=true:=by simpa using aF
     go_upto_region 8 with(fail)
     go_quiet (fail)
     go_wp2
     go_ret;exact⟨by rw[HR.out];rfl,by first | exact zac aA _ | exact zac (zac aA _) _⟩
    ·subst aL
     have HZ:Hid (∀ j,i≤j→(digs x).getD j 0=(digs y).getD j 0):=fun j hj=>by
      rcases Nat.lt_or_ge i j with h1 | h1
      ·exact hz.out j (by omega)
      ·obtain rfl:j=i:=by omega
       rw[HX.out,HY.out]
     have d1:decide (xk<xk)=false:=by simp
     go_upto_region 8 with(fail)
     go_quiet (fail)
     go_upto_region 10 with(fail)
     go_quiet (fail)
     go_wp2
     go_roundg i
     case measure=>omega
     case rel=>exact⟨i,by omega,rfl,Nat.le_refl _,HZ.out,by first | exact zac aA _ | exact zac (zac aA _) _⟩
    ·have HR:Hid (Bn.ncmp x y=1):=Bn.ncmp_gt (zk5 i (fun j hj=>(hz.out j (by omega)).symm) (by rw[HX.out,HY.out];exact aH))
     have d1:decide (xk<yk)=false:=by simp;omega
     have d2:decide (yk<xk)=true:=by simpa using aH
     go_upto_region 8 with(fail)
     go_quiet (fail)
     go_upto_region 10 with(fail)
     go_quiet (fail)
     go_wp2
     go_ret;exact⟨by rw[HR.out];rfl,by first | exact zac aA _ | exact zac (zac aA _) _⟩
   ·obtain rfl:k=0:=by omega
    have HR:Hid (Bn.ncmp x y=0):=by
     have:x=y:=zpc (fun j=>hz.out j (Nat.zero_le _));subst this;exact Bn.ncmp_eq x
    go_wp2
    go_ret;exact⟨by rw[HR.out];rfl,aA⟩
 ·have aN:((n:Int) != (n':Int))=true:=by rw[bne_iff_ne];omega
  by_cases aF:n<n'
  ·have HR:Hid (Bn.ncmp x y = -1):=Bn.ncmp_lt (by
    rcases Nat.lt_or_ge x y with h1 | h1
    ·exact h1
    ·have:=zaa h1
     omega)
   have d1:decide (n<n')=true:=by simpa using aF
   clear hl aG;go_enter Tryz.func135,Tryz.ntmps135
   go_wp2
   go_ret;exact⟨by rw[HR.out];rfl,Below.refl _ _⟩
  ·have HR:Hid (Bn.ncmp x y=1):=Bn.ncmp_gt (by
    rcases Nat.lt_or_ge y x with h1 | h1
    ·exact h1
    ·have:=zaa h1
     omega)
   have d1:decide (n<n')=false:=by simpa using aF
   clear hl aG;go_enter Tryz.func135,Tryz.ntmps135
   go_wp2
   go_ret;exact⟨by rw[HR.out];rfl,Below.refl _ _⟩
end
section
open Go.RowKit
theorem zfp{α:Type}(f : α→Value)(ys:List α)(z:Value)(n k:Nat)(hk:k<ys.length)(hy:ys.length=n) :
  ((ys.take k).map f++List.replicate (n-k) z).set k (f ys[k])=(ys.take (k+1)).map f++List.replicate (n-(k+1)) z:=by
 have hl:((ys.take k).map f).length=k:=by rw[List.length_map,List.length_take];omega
 rw[List.set_append_right _ _ (by omega),hl,Nat.sub_self,show n-k=(n-(k+1))+1 from by omega,List.replicate_succ,List.set_cons_zero,List.take_succ_eq_append_getElem hk,List.map_append,List.append_assoc];rfl
theorem zlC{α:Type}(f : α→Value)(ys:List α)(z:Value)(n:Nat):(ys.take 0).map f++List.replicate (n-0) z=List.replicate n z:=by simp
theorem zfs{α:Type}(f : α→Value)(ys:List α)(z:Value)(n:Nat)(hy:ys.length=n):(ys.take n).map f++List.replicate (n-n) z=ys.map f:=by
 rw[List.take_of_length_le (by omega)];simp
end
section
open Flt Bn
def wd:List (List Bool)→Nat→Nat
 | [],_=>0
 | l :: t,i=>(if l.getD i false then 1 else 0)+2*wd t i
end
section
open Go.RowKit
theorem zco:(Tryz.prog.info? 3).map (fun i=>(i.zero,i.size,i.bytes))=some (some (.int .i64 0),1,8):=by kernel_rfl
end
section
open Go.RowKit Dn
def RetI (w:World) (N:Nat) (P:List Nat→Prop) (e:Ending) (w':World):Prop:=∃ A m c ls,e = .returned (.slice A m c)∧DigI w' A m c ls∧m≤N∧P ls∧Below w.heap.size w w'
def znW (w:World) (x:Nat) (e:Ending) (w':World):Prop:=∃ A m c,e = .returned (.slice A m c)∧DigI w' A m c (digs x)∧Below w.heap.size w w'
theorem zpi(w:World)(v:Value)(t:TypeId):∀ (j:Nat) (u:Value),[v][j]? = some u→(w.alloc (.cells #[v] t)).cell? { block:=w.heap.size,off:=j }=some u:=by
 intro j u hu;have h:=cell_one_new w v t j u hu;have e:(⟨w.heap.size,0,none⟩:Addr).add j=⟨w.heap.size,j,none⟩:=by
  unfold Addr.add
  by_cases hj:j=0<;>simp[hj]
 rwa [e] at h
theorem znN(ls a b:List Nat)(k s c0 c1:Nat)(hk:ls.length=k)(hinv:val ls+B^k*c0=val (a.take k)+val (b.take k))(hs:s+B*c1=a.getD k 0+b.getD k 0+c0) :
  val (ls++[s])+B^(k+1)*c1=val (a.take (k+1))+val (b.take (k+1)):=by
 rw[zaP,zaX,hk,zag a,zag b,Nat.pow_succ,Nat.mul_assoc];have h3:B^k*s+B^k*(B*c1)=B^k*a.getD k 0+B^k*b.getD k 0+B^k*c0:=by rw[←Nat.mul_add,hs,Nat.mul_add,Nat.mul_add]
 omega
theorem znr(ls a b:List Nat)(k d b0 b1:Nat)(hk:ls.length=k)(hinv:val ls+val (b.take k)=val (a.take k)+B^k*b0)(hs:d+b.getD k 0+b0=a.getD k 0+B*b1) :
  val (ls++[d])+val (b.take (k+1))=val (a.take (k+1))+B^(k+1)*b1:=by
 rw[zaP,zaX,hk,zag a,zag b,Nat.pow_succ,Nat.mul_assoc];have h3:B^k*d+B^k*b.getD k 0+B^k*b0=B^k*a.getD k 0+B^k*(B*b1):=by rw[←Nat.mul_add,←Nat.mul_add,hs,Nat.mul_add]
 omega
theorem zhL(la lb ls:List Nat)(i c0:Nat)(hwa:Wf la)(hwb:Wf lb)(ha:la.length+1≤i)(hb:lb.length+1≤i)(h:val ls+B^i*c0=val (la.take i)+val (lb.take i)):c0=0:=by
 have h1:=zby (hwa.take i);have h2:=zby (hwb.take i);rw[List.length_take] at h1 h2;have h3:B^min i la.length≤B^(i-1):=Nat.pow_le_pow_right zaQ (by omega);have h4:B^min i lb.length≤B^(i-1):=Nat.pow_le_pow_right zaQ (by omega);have h5:B^(i-1)*2≤B^(i-1)*B:=Nat.mul_le_mul_left _ zd9;rw[←Nat.pow_succ,show(i-1).succ=i from by omega] at h5
 rcases Nat.eq_zero_or_pos c0 with h0 | h0
 ·exact h0
 ·exfalso
  have:=Nat.le_mul_of_pos_right (B^i) h0;omega
theorem zgn(A A':Option Addr)(n c n' c':Nat)(la lb:List Nat)(w:World)(h:DigI w A n c la)(h':DigI w A' n' c' lb)(hn:n≤1048576)(hn':n'≤1048576) :
  Calls Tryz.prog 134 #[.slice A n c,.slice A' n' c'] w (RetI w (max n n'+1) fun ls=>val ls=val la+val lb):=by
 obtain⟨i0,aV,aY,aX,aW⟩:=info_parts zco;obtain⟨N,hN⟩:∃ N,N=max n n':=⟨_,rfl⟩;rw[←hN];have aK:=h.len;have aR:=h'.len;have aO:=Aa aK;have aN:=Aa aR;have aP:=Aa h.wf;have aQ:=Aa h'.wf;have bG:n≤N:=by omega
 have bD:n'≤N:=by omega
 have bE:N≤1048576:=by omega
 clear aK aR hN;go_enter Tryz.func134,Tryz.ntmps134
 go_wp2
 go_loopg [5,6,7] (N+1) (fun q v5 v6 v7 W=>∃ (i c0:Nat) (ls:List Nat),i≤N+1∧c0≤1∧v7 = .int .i64 i∧v6 = .int .i64 c0∧N+1-i≤q∧W.ownsRow w.heap.size 3 1 v5 i (ls.map natv) ∧
  Hid (Wf ls∧ls.length=i∧val ls+B^i*c0=val (la.take i)+val (lb.take i))∧Below w.heap.size w W)
 case atStart=>exact⟨0,0,[],by omega,by omega,rfl,rfl,by omega,World.ownsRow_nil _ _ _ _,⟨Wf.nil,rfl,by simp⟩,Below.refl _ _⟩
 case round=>
  obtain⟨i,c0,ls,hi,bH,rfl,rfl,hq,aC,hv,aA⟩:=hrel
  by_cases hend:¬ i<n∧¬ i<n'∧c0=0
  ·obtain⟨e1,e2,rfl⟩:=hend
   have d1:decide (i<n)=false:=by simpa using e1
   have d2:decide (i<n')=false:=by simpa using e2
   obtain⟨hw,hl,hs⟩:=hv.out;rw[List.take_of_length_le (by have:=aO.out;omega),List.take_of_length_le (by have:=aN.out;omega),Nat.mul_zero,Nat.add_zero] at hs;obtain⟨A9,c9,rfl,aL,aJ,aM⟩:=zc4 aC;have HR:Hid (RetI w (N+1) (fun ls=>val ls=val la+val lb) (.returned (.slice A9 i c9)) wr):=⟨A9,i,c9,ls,rfl,⟨aM,aL,aJ,hw⟩,hi,hs,aA⟩;clear hs hw hl aC hv aL aJ aM;go_wp2
   go_ret;exact HR.out
  ·have bF:i≤N:=by
    obtain⟨hw,hl,hs⟩:=hv.out
    rcases Nat.lt_or_ge N i with h9 | h9
    ·exfalso
     have:=zhL la lb ls i c0 aP.out aQ.out (by have:=aO.out;omega) (by have:=aN.out;omega) hs;exact hend ⟨by omega,by omega,this⟩
    ·exact h9
   have K1:=Aa (zeN A n c la i wr (h.rd.later aA) (by omega));have K2:=Aa (zeN A' n' c' lb i wr (h'.rd.later aA) (by omega));have aU:=zaF aP.out i;have bB:=zaF aQ.out i;obtain⟨xk,aI⟩:∃ xk,la.getD i 0=xk:=⟨_,rfl⟩;obtain⟨yk,aH⟩:∃ yk,lb.getD i 0=yk:=⟨_,rfl⟩;rw[aI] at K1 aU;rw[aH] at K2 bB;obtain⟨t,ht⟩:∃ t,t=xk+yk+c0:=⟨_,rfl⟩;obtain⟨s,hs⟩:∃ s,s=t%B:=⟨_,rfl⟩;obtain⟨d,hd⟩:∃ d,d=t/B:=⟨_,rfl⟩;have aZ:s<B:=by rw[hs];exact Nat.mod_lt _ zaQ
   have aS:d≤1:=by rw[hd];unfold B;omega
   have bC:t<4000000000:=by omega
   have HP:Hid (Wf (ls++[s])∧(ls++[s]).length=i+1∧val (ls++[s])+B^(i+1)*d=val (la.take (i+1))+val (lb.take (i+1))):=by
    obtain⟨hw,hl,aT⟩:=hv.out;exact⟨hw.append (Wf.cons aZ Wf.nil),by simp[hl],znN ls la lb i s c0 d hl aT (by rw[aI,aH,hs,hd,Nat.mod_add_div,ht])⟩
   have es:((t:Nat):Int)%1000000000=(s:Int):=by rw[hs];unfold B;omega
   have ed:((t:Nat):Int)/1000000000=(d:Int):=by rw[hd];unfold B;omega
   have et:(xk:Int)+(yk:Int)+(c0:Int)=(t:Int):=by omega
   have aF:(decide (i<n)=true)∨(decide (i<n)=false∧decide (i<n')=true)∨(decide (i<n)=false∧decide (i<n')=false∧decide (0<c0)=true):=by
    simp only[decide_eq_true_eq,decide_eq_false_iff_not]
    omega
   clear aI aH hs hd ht hv hend
   rcases aF with d1 | ⟨d1,d2⟩ | ⟨d1,d2,d3⟩
   all_goals
    go_wp2_with fail
    refine K1.out.mono ?_;rintro e w1 ⟨rfl,aG⟩;obtain rfl:wr=w1:=aG
    go_wp2_with fail
    refine K2.out.mono ?_;rintro e w1 ⟨rfl,aG⟩;obtain rfl:wr=w1:=aG
    go_wp2_with (at_builtin;refine wpList_append_own _ rfl _ _ 60 rfl w.heap.size 3 i0 (.int .i64 0) 1 8 Tryz.underlying60 aV aY aX aW rfl (by decide) _ _ _ rfl (aC.alloc _) ⟨wr.heap.size,0,none⟩ 1 1 [.int .i64 s] rfl rfl ?c1 ?c2 ?c3 ?c4 ?c5 ?_)
    case c1=>exact cell_one_new _ _ _
    case c2=>intro u hu;simp at hu;subst hu;rfl
    case c3=>unfold maxLen;omega
    case c4=>omega
    case c5=>have:=aA.size;simp;omega
    intro v' w2 aE aD _;have bA:Below w.heap.size w w2:=(aA.alloc aA.size _).grown aD (by have:=aA.size;simp;omega) (fun g hg=>(World.ownsRow.lt aC g hg).1);clear aD aC;go_wp2
    go_roundg (N+1-(i+1))
    case measure=>omega
    case rel=>exact⟨i+1,d,ls++[s],by omega,aS,by go_num,rfl,Nat.le_refl _,by rw[List.map_append];exact aE,HP.out,bA⟩
theorem zd7(A A':Option Addr)(n c n' c' x y:Nat)(w:World)(h:DigI w A n c (digs x))(h':DigI w A' n' c' (digs y))(hyx:y≤x)(hn:n≤1048576)(hn':n'≤1048576) :
  Calls Tryz.prog 136 #[.slice A n c,.slice A' n' c'] w (znW w (x-y)):=by
 obtain⟨i0,aZ,bH,bG,bE⟩:=info_parts zco;have bF:=Aa h.len;have bC:=Aa h'.len;have bD:n'≤n:=by rw[←h.len,←h'.len];exact zaa hyx
 have bI:=Aa hyx;clear hyx;go_enter Tryz.func136,Tryz.ntmps136
 go_wp2
 go_loopg [5,6,7] n (fun q v5 v6 v7 W=>∃ (i b0:Nat) (ls:List Nat),i≤n∧b0≤1∧v7 = .int .i64 i∧v6 = .int .i64 b0∧n-i≤q∧W.ownsRow w.heap.size 3 1 v5 i (ls.map natv) ∧
  Hid (Wf ls∧ls.length=i∧val ls+val ((digs y).take i)=val ((digs x).take i)+B^i*b0)∧Below w.heap.size w W)
 case atStart=>exact⟨0,0,[],by omega,by omega,rfl,rfl,by omega,World.ownsRow_nil _ _ _ _,⟨Wf.nil,rfl,by simp⟩,Below.refl _ _⟩
 case round=>
  obtain⟨i,b0,ls,hi,bA,rfl,rfl,hq,aC,hv,aA⟩:=hrel
  by_cases hin:i<n
  ·obtain⟨ad,aT,rfl,bM,aG⟩:=(h.rd.later aA).cellM hin
   have K2:=Aa (fun q=>zeN A' n' c' (digs y) i (wr.drewN q) ((h'.rd.later aA).drewN q) (by omega));have aP:=zaq x _ (List.getElem_mem aT);have bK:=zaF (zaq y) i;have aN:(digs x).getD i 0=(digs x)[i]:=by simp[List.getD,aT]
   unfold natv at aG;obtain⟨xk,aK⟩:∃ xk,(digs x)[i]=xk:=⟨_,rfl⟩;rw[aK] at aG aP aN;obtain⟨yk,aL⟩:∃ yk,(digs y).getD i 0=yk:=⟨_,rfl⟩;rw[aL] at K2 bK;have HX:=Aa aN;have HY:=Aa aL;have aX:xk<1000000000:=aP;have e1:IntKind.i64.wrap ((xk:Int)-(yk:Int))=(xk:Int)-(yk:Int):=IntWalk.i64_in _ (by omega);obtain⟨z,hz⟩:∃ z:Int,z=(xk:Int)-(yk:Int)-(b0:Int):=⟨_,rfl⟩;have e2:IntKind.i64.wrap ((xk:Int)-(yk:Int)-(b0:Int))=z:=by rw[IntWalk.i64_in _ (by omega)];exact hz.symm
   have bL:(0:Int)≤(i:Int):=by omega
   have bN:(i:Int)<(n:Int):=by omega
   have aE:∀ q,(wr.drewN q).ownsRow w.heap.size 3 1 _ i (ls.map natv):=fun q=>aC
   have aD:=fun q=>zac aA q
   have aJ:=Aa aE;have aM:=Aa aD;have HZ:=Aa hz;have bB:=aA.size;clear aN aK aL aE aD aC
   by_cases hneg:z<0
   case' pos=>obtain⟨dd,aU⟩:∃ dd:Nat,z+1000000000=(dd:Int):=⟨(z+1000000000).toNat,by omega⟩
   case' neg=>obtain⟨dd,aU⟩:∃ dd:Nat,z=(dd:Int):=⟨z.toNat,by omega⟩
   case' pos=>have aH:∃ b1:Nat,b1=1:=⟨_,rfl⟩
   case' neg=>have aH:∃ b1:Nat,b1=0:=⟨_,rfl⟩
   case' pos=>have dz:decide (z<0)=true:=by simpa using hneg
   case' neg=>have dz:decide (z<0)=false:=by simpa using hneg
   all_goals
    obtain⟨b1,aH⟩:=aH;have aO:dd<B:=by unfold B;omega
    have HP:Hid (Wf (ls++[dd])∧(ls++[dd]).length=i+1∧val (ls++[dd])+val ((digs y).take (i+1))=val ((digs x).take (i+1))+B^(i+1)*b1):=by
     obtain⟨hw,hl,aV⟩:=hv.out;exact⟨hw.append (Wf.cons aO Wf.nil),by simp[hl],znr ls _ _ i dd b0 b1 hl aV (by rw[HX.out,HY.out];unfold B;omega)⟩
    have aR:=Aa aH;clear hz aH hv;go_upto_region 6 with(fail)
    go_quiet ((go_at_call 180;exact zcw (K2.out _)))
    clear e1 e2
    go_wp2_with (at_builtin;refine wpList_append_own _ rfl _ _ 60 rfl w.heap.size 3 i0 (.int .i64 0) 1 8 Tryz.underlying60 aZ bH bG bE rfl (by decide) _ _ _ rfl ((aJ.out _).alloc _) ⟨wr.heap.size,0,none⟩ 1 1 [.int .i64 (dd:Int)] rfl rfl ?c1 ?c2 ?c3 ?c4 ?c5 ?_)
    case c1=>first | exact cell_one_new _ _ _ | exact zpi (wr.drewN _) _ _
    case c2=>first | (intro u hu;simp at hu;subst hu;rfl) | rfl
    case c3=>unfold maxLen;omega
    case c4=>omega
    case c5=>first | (simp;omega) | omega
    intro v' w2 aI aF _;have bJ:Below w.heap.size w w2:=((aM.out _).alloc bB _).grown aF (by simp;omega) (fun g hg=>(World.ownsRow.lt (aJ.out 0) g hg).1);clear aF;go_wp2
    go_roundg (n-(i+1))
    case measure=>omega
    case rel=>exact⟨i+1,b1,ls++[dd],by omega,by have:=aR.out;omega,by go_num,by rw[aR.out];rfl,Nat.le_refl _,by rw[List.map_append];exact aI,HP.out,bJ⟩
  ·obtain rfl:i=n:=by omega
   obtain⟨hw,hl,hs⟩:=hv.out;rw[List.take_of_length_le (l:=digs y) (by rw[bC.out];exact bD),List.take_of_length_le (l:=digs x) (by rw[bF.out];exact Nat.le_refl _),zak,zak] at hs;have h2:val ls<B^i:=by have:=zby hw;rwa [hl] at this
   have aS:val ls=x-y:=Bn.minus_end _ _ _ _ _ hs h2 bI.out bA;obtain⟨A9,c9,rfl,aY,aW,aQ⟩:=zc4 aC;have ht:=zcz A9 i c9 ls wr ⟨aQ,aY,aW,hw⟩ (by omega);rw[aS] at ht;have HT:=Aa ht;clear ht aS h2 hs hl hw hv aC aQ
   go_wp2_with fail
   refine HT.out.mono ?_;rintro e w1 ⟨m,rfl,hd,aH⟩;go_wp2
   go_ret;exact⟨A9,m,c9,rfl,hd,aA.trans (aH.mono aA.size)⟩
end
end Go.Proofs.YtmkondcdejlhcaaGreatDoor
