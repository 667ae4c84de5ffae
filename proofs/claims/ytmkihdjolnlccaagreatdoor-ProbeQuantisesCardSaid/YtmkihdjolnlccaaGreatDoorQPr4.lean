/- Contracts of package probe: exact, checkGain, nearestFloat's and isBelow's parts. -/
import Derived.Test.YtmkihdjolnlccaaGreatDoorQPr2
import Derived.Test.YtmkihdjolnlccaaGreatDoorQRat4
import Derived.Test.YtmkihdjolnlccaaGreatDoorQText
import Derived.Test.YtmkihdjolnlccaaGreatDoorQDpu
import Derived.Test.YtmkihdjolnlccaaGreatDoorQDp
import Derived.Test.YtmkihdjolnlccaaGreatDoorQDw
import Derived.Deep.LoopGhost
import Derived.IntWalk
namespace Go.Proofs.YtmkihdjolnlccaaGreatDoor
open Go.RowKit Bn
open Flt
def exT (b:Nat):List UInt8:=if fin Ieee.single b then zaS (exQ b) else []
def ztx (w:World) (l:List UInt8) (e:Ending) (w':World):Prop:=∃ s:ByteArray,e = .returned (.string s)∧s.data.toList=l∧Below w.heap.size w w'
theorem ziD (b:Nat) (w:World) (hT:Tabs w):Calls Tryz.prog 92 #[.float .f32 b] w (ztx w (exT b)):=by
 have h:=zmK b w hT
 unfold exT
 generalize (if fin Ieee.single b=true then zaS (exQ b) else [])=l at *
 generalize (if fin Ieee.single b=true then zaO (exQ b) else 1)=x at *
 have H:=Lib.hid h
 clear h
 go_enter Tryz.func92,Tryz.ntmps92
 go_wp2_with fail
 refine H.out.mono ?_
 rintro e w1 ⟨s,rfl,hs,hb⟩
 go_wp2_with fail
 go_ret
 exact ⟨s,rfl,hs,hb⟩
def ordO (a b:List UInt8):Int:=if zam a≠0 then 0 else if zam b≠0 then 0 else rcmp (zad a) (zad b)
def ordE (a b:List UInt8):Int:=if zam a≠0 then zam a else zam b
theorem zhy (s:ByteArray) (w:World) (hT:Tabs w) (hs:s.size≤4294967296) :
  Calls Tryz.prog 145 #[.string s] w fun e w'=>
   e = .returned (.int .i64 (if ordE s.data.toList [48]=0∧ordO s.data.toList [48]≤0 then 3 else ordE s.data.toList [48]))∧Below w.heap.size w w':=by
 have h:=zft s { data:=#[48] } w hT hs (by decide)
 have e1:(if zam s.data.toList≠0 then zam s.data.toList else zam ({ data:=#[48] }:ByteArray).data.toList)=ordE s.data.toList [48]:=rfl
 have e2:(if zam s.data.toList≠0 then 0 else if zam ({ data:=#[48] }:ByteArray).data.toList≠0 then 0 else rcmp (zad s.data.toList) (zad ({ data:=#[48] }:ByteArray).data.toList))=ordO s.data.toList [48]:=rfl
 rw [e1,e2] at h
 clear e1 e2
 generalize ordE s.data.toList [48]=x at *
 generalize ordO s.data.toList [48]=o at *
 have H:=Lib.hid h
 clear h
 by_cases hx:x=0
 ·subst hx
  by_cases ho:o≤0
  ·have hd:decide (o≤0)=true:=by simpa using ho
   rw [if_pos ⟨rfl,ho⟩]
   go_enter Tryz.func145,Tryz.ntmps145
   go_wp2_with fail
   refine H.out.mono ?_
   rintro e w1 ⟨rfl,hb⟩
   go_wp2_with fail
   go_ret
   exact ⟨rfl,hb⟩
  ·have hd:decide (o≤0)=false:=by simpa using ho
   rw [if_neg (fun h=>ho h.2)]
   go_enter Tryz.func145,Tryz.ntmps145
   go_wp2_with fail
   refine H.out.mono ?_
   rintro e w1 ⟨rfl,hb⟩
   go_wp2_with fail
   go_ret
   exact ⟨rfl,hb⟩
 ·have hd:(x==0)=false:=by simpa using hx
  rw [if_neg (fun h=>hx h.1)]
  go_enter Tryz.func145,Tryz.ntmps145
  go_wp2_with fail
  refine H.out.mono ?_
  rintro e w1 ⟨rfl,hb⟩
  go_wp2_with fail
  go_ret
  exact ⟨rfl,hb⟩
theorem zlG (q:Q):(zaS q).length≤1300:=by
 unfold zaS
 by_cases h:zaO q=0
 ·rw [if_pos h]
  unfold zaO at h
  by_cases hb:q.bot=0
  ·rw [if_pos hb] at h;cases h
  ·rw [if_neg hb] at h
   by_cases hl:600<(Lib.decDigits q.top).length∨600<(Lib.decDigits q.bot).length
   ·rw [if_pos hl] at h;cases h
   ·unfold zay
    rw [List.length_append]
    have h1:(if q.neg=true then 45 :: Lib.decDigits q.top else Lib.decDigits q.top).length≤601:=by
     split
     ·rw [List.length_cons];omega
     ·omega
    have h2:(if q.bot=1 then [] else 47 :: Lib.decDigits q.bot).length≤601:=by
     split
     ·exact Nat.zero_le _
     ·rw [List.length_cons];omega
    omega
 ·rw [if_neg h];exact Nat.zero_le _
theorem zrB (b:Nat):(exT b).length≤1300:=by
 unfold exT;split
 ·exact zlG _
 ·exact Nat.zero_le _
def zba (v:List UInt8) (n e:Nat):Bool:=
 if (FloatKind.f32.format.order n e != some .eq)=true then FloatKind.f32.format.order n e==some .lt else decide (ordO v (exT e)<0)
theorem zjm (s:ByteArray) (n ed:Nat) (w:World) (hT:Tabs w) (hs:s.size≤4294967296) :
  Calls Tryz.prog 158 #[.string s,.float .f32 n,.float .f32 ed] w fun e w'=>e = .returned (.bool (zba s.data.toList n ed))∧Below w.heap.size w w':=by
 unfold zba
 by_cases hq:(FloatKind.f32.format.order n ed != some .eq)=true
 ·rw [if_pos hq]
  go_enter Tryz.func158,Tryz.ntmps158
  go_wp2_with fail
  go_ret
  exact ⟨rfl,Below.refl _ _⟩
 ·rw [if_neg hq]
  have hq':(FloatKind.f32.format.order n ed != some .eq)=false:=by simpa using hq
  have h:=ziD ed w hT
  have hl:=zrB ed
  generalize exT ed=l at *
  have H:=Lib.hid h
  clear h hq
  go_enter Tryz.func158,Tryz.ntmps158
  go_wp2_with fail
  refine H.out.mono ?_
  rintro e w1 ⟨t,rfl,ht,hb⟩
  have hsz:t.size=l.length:=by rw [←ht];exact (Array.length_toList).symm
  have h2:=zft s t w1 (hT.later hb) hs (by omega)
  rw [ht] at h2
  have e2:(if zam s.data.toList≠0 then 0 else if zam l≠0 then 0 else rcmp (zad s.data.toList) (zad l))=ordO s.data.toList l:=rfl
  have e3:(if zam s.data.toList≠0 then zam s.data.toList else zam l)=ordE s.data.toList l:=rfl
  rw [e2,e3] at h2
  clear e2 e3
  have H2:=Lib.hid h2
  clear h2 H
  go_wp2_with fail
  refine H2.out.mono ?_
  rintro e w2 ⟨rfl,hb2⟩
  go_wp2_with fail
  go_ret
  exact ⟨rfl,hb.trans (hb2.mono hb.size)⟩
def sI (p:Q):Int:=if p.neg then -(p.top:Int) else (p.top:Int)
theorem zrz {p q:Q} (hp:0<p.bot) (hq:0<q.bot) (h1:p.neg=true→0<p.top) (h2:q.neg=true→0<q.top):rcmp p q<0↔sI p*(q.bot:Int)<sI q*(p.bot:Int):=by
 obtain ⟨pn,pt,pb⟩:=p
 obtain ⟨qn,qt,qb⟩:=q
 dsimp only at *
 unfold rcmp sI ncmp
 dsimp only
 have e1:(pt:Int)*(qb:Int)=((pt*qb:Nat):Int):=by rw [Int.natCast_mul]
 have e2:(qt:Int)*(pb:Int)=((qt*pb:Nat):Int):=by rw [Int.natCast_mul]
 cases pn<;>cases qn
 ·simp only [if_true,Bool.false_eq_true,if_false,e1,e2]
  generalize pt*qb=x
  generalize qt*pb=y
  split
  ·omega
  ·split<;>omega
 ·have hy:0<qt*pb:=Nat.mul_pos (h2 rfl) hp
  simp only [Bool.false_eq_true,if_false,if_true,Int.neg_mul,e1,e2]
  generalize pt*qb=x
  generalize qt*pb=y at *
  omega
 ·have hx:0<pt*qb:=Nat.mul_pos (h1 rfl) hq
  simp only [Bool.true_eq_false,Bool.false_eq_true,if_false,if_true,Int.neg_mul,e1,e2]
  generalize pt*qb=x at *
  generalize qt*pb=y
  omega
 ·simp only [if_true,Int.neg_mul,e1,e2]
  generalize pt*qb=x
  generalize qt*pb=y
  split
  ·omega
  ·split<;>omega
theorem zkB (neg:Bool) (t b:Nat) (hb:0<b):LowQ (lowQ neg t b):=by
 unfold lowQ
 rw [if_neg (by omega)]
 split
 ·exact ⟨by decide,by decide,fun h=>by cases h⟩
 ·rename_i ht
  have hg:0<Nat.gcd t b:=Nat.gcd_pos_of_pos_right _ hb
  refine ⟨Nat.div_pos (Nat.gcd_le_right _ hb) hg,(Nat.gcd_div (Nat.gcd_dvd_left t b) (Nat.gcd_dvd_right t b)).trans (Nat.div_self hg),fun _=>Nat.div_pos (Nat.gcd_le_left _ (by omega)) hg⟩
theorem zj4 {b m:Nat} {s:Bool} {p:Int} (h:Ieee.single.read b = .number s m p) (hm:0<m) (hm2:m<16777216) (hp : -149≤p) (hp2:p≤104) :
  LowQ (exQ b)∧(exQ b).neg=s∧(exQ b).top*2 ^ 149=m*2 ^ (p+149).toNat*(exQ b).bot∧(exQ b).top<2 ^ 200∧(exQ b).bot<2 ^ 200:=by
 have hl:m.log2<24:=(Nat.log2_lt (by omega)).2 (by omega)
 unfold exQ
 rw [h]
 dsimp only
 rw [if_neg (by omega)]
 have hm24:m<2 ^ 24:=by
  have e24:(2:Nat) ^ 24=16777216:=by decide
  omega
 by_cases hc:p+(m.log2:Int)<23
 ·rw [if_pos hc]
  obtain ⟨j,hj⟩:∃ j:Nat,(23 - (p+(m.log2:Int))).toNat=j:=⟨_,rfl⟩
  rw [hj]
  have hT:0<m*2 ^ (23 - m.log2):=Nat.mul_pos hm (Nat.two_pow_pos _)
  have hD:0<2 ^ j:=Nat.two_pow_pos _
  have hg:0<Nat.gcd (m*2 ^ (23 - m.log2)) (2 ^ j):=Nat.gcd_pos_of_pos_right _ hD
  refine ⟨zkB _ _ _ hD,?_⟩
  have e:m*2 ^ (23 - m.log2)*2 ^ 149=m*2 ^ (p+149).toNat*2 ^ j:=by
   rw [Nat.mul_assoc,Nat.mul_assoc,←Nat.pow_add,←Nat.pow_add,show 23 - m.log2+149=(p+149).toNat+j by omega]
  have hTb:m*2 ^ (23 - m.log2)<2 ^ 200:=by
   have h1:m*2 ^ (23 - m.log2)<2 ^ 24*2 ^ (23 - m.log2):=Nat.mul_lt_mul_of_pos_right hm24 (Nat.two_pow_pos _)
   rw [←Nat.pow_add] at h1
   exact Nat.lt_of_lt_of_le h1 (Nat.pow_le_pow_right (by omega) (by omega))
  have hDb:2 ^ j<2 ^ 200:=Nat.pow_lt_pow_right (by omega) (by omega)
  unfold lowQ
  rw [if_neg (by omega),if_neg (by omega)]
  generalize m*2 ^ (23 - m.log2)=T at *
  generalize 2 ^ j=D at *
  have d1:=Nat.div_mul_cancel (Nat.gcd_dvd_left T D)
  have d2:=Nat.div_mul_cancel (Nat.gcd_dvd_right T D)
  have d3:=Nat.div_le_self T (Nat.gcd T D)
  have d4:=Nat.div_le_self D (Nat.gcd T D)
  dsimp only
  refine ⟨rfl,?_,Nat.lt_of_le_of_lt d3 hTb,Nat.lt_of_le_of_lt d4 hDb⟩
  apply Nat.eq_of_mul_eq_mul_right hg
  rw [Nat.mul_right_comm,d1,Nat.mul_assoc (m*2 ^ (p+149).toNat),d2]
  exact e
 ·rw [if_neg hc]
  have hT:0<m*2 ^ (23 - m.log2)*2 ^ (p+(m.log2:Int) - 23).toNat:=Nat.mul_pos (Nat.mul_pos hm (Nat.two_pow_pos _)) (Nat.two_pow_pos _)
  have e:m*2 ^ (23 - m.log2)*2 ^ (p+(m.log2:Int) - 23).toNat=m*2 ^ p.toNat:=by
   rw [Nat.mul_assoc,←Nat.pow_add,show 23 - m.log2+(p+(m.log2:Int) - 23).toNat=p.toNat by omega]
  refine ⟨⟨Nat.one_pos,Nat.gcd_one_right _,fun _=>hT⟩,rfl,?_,?_,?_⟩
  ·dsimp only
   rw [e,Nat.mul_one,Nat.mul_assoc,←Nat.pow_add,show p.toNat+149=(p+149).toNat by omega]
  ·dsimp only
   rw [e]
   have h1:m*2 ^ p.toNat<2 ^ 24*2 ^ p.toNat:=Nat.mul_lt_mul_of_pos_right hm24 (Nat.two_pow_pos _)
   rw [←Nat.pow_add] at h1
   exact Nat.lt_of_lt_of_le h1 (Nat.pow_le_pow_right (by omega) (by omega))
  ·exact Nat.one_lt_two_pow (by decide)
theorem zey {x:Nat} (h:x<2 ^ 200):(Lib.decDigits x).length≤600:=by
 refine Nat.le_trans (Dec.dec_length_le (k:=200) (by decide) (Nat.lt_of_lt_of_le h ?_)) (by decide)
 exact Nat.pow_le_pow_left (by decide) _
theorem zoO {b m:Nat} {s:Bool} {p:Int} (h:Ieee.single.read b = .number s m p) (hm:0<m) (hm2:m<16777216) (hp : -149≤p) (hp2:p≤104):zam (exT b)=0∧zad (exT b)=exQ b:=by
 obtain ⟨h1,_,_,h4,h5⟩:=zj4 h hm hm2 hp hp2
 have hf:=zaH h
 have hE:zaO (exQ b)=0:=by
  unfold zaO
  rw [if_neg (by have:=h1.1;omega),if_neg (by have:=zey h4;have:=zey h5;omega)]
 unfold exT
 rw [if_pos hf]
 unfold zaS
 rw [if_pos hE]
 exact zdZ _ h1 (zey h4) (zey h5)
end Go.Proofs.YtmkihdjolnlccaaGreatDoor
namespace Go.Proofs.YtmkihdjolnlccaaGreatDoor
open Go.RowKit Bn
def zb4 (num:Int) (den:Nat):Q:=lowQ (decide (num<0)) num.natAbs den
def addQ (p q:Q):Q:=zb4 (sI p*(q.bot:Int)+sI q*(p.bot:Int)) (p.bot*q.bot)
def subQ (p q:Q):Q:=zb4 (sI p*(q.bot:Int) - sI q*(p.bot:Int)) (p.bot*q.bot)
def mulQ (p q:Q):Q:=zb4 (sI p*sI q) (p.bot*q.bot)
def negQ (p:Q):Q:=⟨!p.neg && decide (0<p.top),p.top,p.bot⟩
def absQ (p:Q):Q:=⟨false,p.top,p.bot⟩
def zbs (p:Q):Int:=if p.top=0 then 0 else if p.neg then -1 else 1
def cmpI (p q:Q):Int:=zbs (subQ p q)
theorem zeX {den:Nat} (hd:0<den):zb4 0 den=⟨false,0,1⟩:=by
 unfold zb4 lowQ
 rw [if_neg (by omega)]
 rfl
theorem zhR {num:Int} {den:Nat} (hd:0<den) (h0:num≠0):zb4 num den=⟨decide (num<0),num.natAbs / Nat.gcd num.natAbs den,den / Nat.gcd num.natAbs den⟩:=by
 unfold zb4 lowQ
 rw [if_neg (by omega),if_neg (by omega)]
theorem znz {num:Int} {den:Nat} (hd:0<den):sI (zb4 num den)*(den:Int)=num*((zb4 num den).bot:Int):=by
 by_cases h0:num=0
 ·subst h0
  rw [zeX hd]
  simp [sI]
 ·rw [zhR hd h0]
  unfold sI
  have d1:=Nat.div_mul_cancel (Nat.gcd_dvd_left num.natAbs den)
  have d2:=Nat.div_mul_cancel (Nat.gcd_dvd_right num.natAbs den)
  dsimp only
  generalize Nat.gcd num.natAbs den=g at *
  have hx:(num.natAbs / g)*den=num.natAbs*(den / g):=by
   conv=>lhs;rw [←d2]
   conv=>rhs;rw [←d1]
   rw [Nat.mul_comm (den / g),Nat.mul_assoc]
  have hx2:(((num.natAbs / g:Nat):Int))*(den:Int)=(num.natAbs:Int)*((den / g:Nat):Int):=by
   rw [←Int.natCast_mul,←Int.natCast_mul,hx]
  by_cases hn:num<0
  ·rw [decide_eq_true hn,if_pos rfl,Int.neg_mul,hx2,←Int.neg_mul,show -(num.natAbs:Int)=num by omega]
  ·rw [decide_eq_false hn,if_neg (by decide),hx2,show (num.natAbs:Int)=num by omega]
theorem zbf (num:Int) {den:Nat} (hd:0<den):LowQ (zb4 num den):=zkB _ _ _ hd
theorem zl0 {num:Int} {den:Nat} (hd:0<den):zbs (zb4 num den)=num.sign:=by
 by_cases h0:num=0
 ·subst h0
  rw [zeX hd]
  rfl
 ·rw [zhR hd h0]
  unfold zbs
  have hg:0<Nat.gcd num.natAbs den:=Nat.gcd_pos_of_pos_right _ hd
  have hp:0<num.natAbs / Nat.gcd num.natAbs den:=Nat.div_pos (Nat.gcd_le_left _ (by omega)) hg
  dsimp only
  rw [if_neg (by omega)]
  by_cases hn:num<0
  ·rw [decide_eq_true hn,if_pos rfl,Int.sign_eq_neg_one_of_neg hn]
  ·rw [decide_eq_false hn,if_neg (by decide),Int.sign_eq_one_of_pos (by omega)]
theorem zd5 {p q:Q} (hp:0<p.bot) (hq:0<q.bot):cmpI p q=(sI p*(q.bot:Int) - sI q*(p.bot:Int)).sign:=zl0 (Nat.mul_pos hp hq)
theorem zeN {p q:Q} (hp:LowQ p) (hq:LowQ q) (h:sI p*(q.bot:Int)=sI q*(p.bot:Int)):p=q:=by
 obtain ⟨pn,pt,pb⟩:=p
 obtain ⟨qn,qt,qb⟩:=q
 obtain ⟨p1,p2,p3⟩:=hp
 obtain ⟨q1,q2,q3⟩:=hq
 unfold sI at h
 dsimp only at *
 have hs:pn=qn∧pt*qb=qt*pb:=by
  have e1:(pt:Int)*(qb:Int)=((pt*qb:Nat):Int):=by rw [Int.natCast_mul]
  have e2:(qt:Int)*(pb:Int)=((qt*pb:Nat):Int):=by rw [Int.natCast_mul]
  cases pn<;>cases qn
  ·simp only [Bool.false_eq_true,if_false,e1,e2] at h
   exact ⟨rfl,by omega⟩
  ·simp only [Bool.false_eq_true,if_false,if_true,Int.neg_mul,e1,e2] at h
   have:=Nat.mul_pos (q3 rfl) p1
   omega
  ·simp only [Bool.false_eq_true,if_false,if_true,Int.neg_mul,e1,e2] at h
   have:=Nat.mul_pos (p3 rfl) q1
   omega
  ·simp only [if_true,Int.neg_mul,e1,e2] at h
   exact ⟨rfl,by omega⟩
 obtain ⟨rfl,hc⟩:=hs
 have hb1:pb ∣ qb:=(Nat.Coprime.dvd_of_dvd_mul_left (show Nat.Coprime pb pt from by rw [Nat.coprime_comm];exact p2) (by rw [hc];exact Nat.dvd_mul_left _ _))
 have hb2:qb ∣ pb:=(Nat.Coprime.dvd_of_dvd_mul_left (show Nat.Coprime qb qt from by rw [Nat.coprime_comm];exact q2) (by rw [←hc];exact Nat.dvd_mul_left _ _))
 obtain rfl:pb=qb:=Nat.dvd_antisymm hb1 hb2
 obtain rfl:pt=qt:=Nat.eq_of_mul_eq_mul_right p1 hc
 rfl
end Go.Proofs.YtmkihdjolnlccaaGreatDoor
namespace Go.Proofs.YtmkihdjolnlccaaGreatDoor
open Go.RowKit
theorem zqb (k r:Nat):Dec.pad (k+1) r=Dec.dgt (r / 10 ^ k % 10) :: Dec.pad k r:=by
 induction k generalizing r with
 | zero=>simp [Dec.pad]
 | succ k ih=>
  rw [Dec.pad,ih (r / 10),Nat.div_div_eq_div_mul,Nat.pow_succ,Nat.mul_comm (10 ^ k) 10,List.cons_append]
  rfl
def decK (n least:Nat):Nat:=max least (if n=0 then 0 else (Lib.decDigits n).length)
theorem zeS {n:Nat} (h:0<n):10 ^ ((Lib.decDigits n).length - 1)≤n∧n<10 ^ (Lib.decDigits n).length:=by
 induction n using Nat.strongRecOn with
 | ind n ih=>
  by_cases h1:n<10
  ·rw [Dec.dec_lt h1]
   simp
   omega
  ·rw [Dec.dec_ge h1]
   obtain ⟨h2,h3⟩:=ih (n / 10) (by omega) (by omega)
   have hp:=Dec.dec_length_pos (n / 10)
   rw [List.length_append,List.length_singleton,Nat.add_sub_cancel,Nat.pow_succ]
   obtain ⟨k,hk⟩:∃ k,(Lib.decDigits (n / 10)).length=k+1:=⟨_,(Nat.succ_pred_eq_of_pos hp).symm⟩
   rw [hk,Nat.add_sub_cancel] at h2
   rw [hk] at h3 ⊢
   rw [Nat.pow_succ] at h3 ⊢
   omega
theorem zoJ {n least k:Nat} (h:0<n / 10 ^ k∨k<least):k+1≤decK n least:=by
 unfold decK
 rcases h with h | h
 ·have hn:0<n:=by
   rcases Nat.eq_zero_or_pos n with h0 | h0
   ·rw [h0,Nat.zero_div] at h;omega
   ·exact h0
  rw [if_neg (by omega)]
  have h1:=(zeS hn).2
  have h2:10 ^ k≤n:=by
   rcases Nat.lt_or_ge n (10 ^ k) with h3 | h3
   ·rw [Nat.div_eq_of_lt h3] at h;omega
   ·exact h3
  have h3:k<(Lib.decDigits n).length:=by
   rcases Nat.lt_or_ge k (Lib.decDigits n).length with h4 | h4
   ·exact h4
   ·have:=Nat.pow_le_pow_right (n:=10) (by omega) h4
    omega
  omega
 ·omega
theorem zpr {n least k:Nat} (h1:n / 10 ^ k=0) (h2:least≤k) (h3:k≤decK n least):k=decK n least:=by
 have h4:n<10 ^ k:=by
  rcases Nat.lt_or_ge n (10 ^ k) with h4 | h4
  ·exact h4
  ·have:=Nat.div_pos h4 (Nat.pow_pos (by omega))
   omega
 unfold decK at *
 by_cases h0:n=0
 ·rw [if_pos h0] at *
  omega
 ·rw [if_neg h0] at *
  have h5:=(zeS (n:=n) (by omega)).1
  have h6:(Lib.decDigits n).length - 1<k:=by
   rcases Nat.lt_or_ge ((Lib.decDigits n).length - 1) k with h6 | h6
   ·exact h6
   ·have:=Nat.pow_le_pow_right (n:=10) (by omega) h6
    omega
  omega
theorem zhq (n:Nat):Dec.pad (decK n 1) n=Lib.decDigits n:=by
 unfold decK
 have hp:=Dec.dec_length_pos n
 by_cases h0:n=0
 ·subst h0
  rw [if_pos rfl,Dec.dec_lt (by omega)]
  rfl
 ·rw [if_neg h0,Nat.max_eq_right (by omega),Dec.pad_dec _ _ hp (zeS (by omega)).2,Nat.sub_self]
  rfl
theorem zmQ {n:Nat} (h:n<Dn.B):decK n 9=9:=by
 have h1:n<10 ^ 9:=by rw [←znE];exact h
 unfold decK
 have h2:=Dec.dec_length_le (k:=9) (by omega) h1
 split<;>omega
theorem zsx {n least:Nat} (h:n<10000000000000000000) (hl:least≤19):decK n least≤19:=by
 have h1:=Dec.dec_length_le (k:=19) (r:=n) (by omega) (by have e:(10:Nat) ^ 19=10000000000000000000:=(by decide);omega)
 unfold decK
 split<;>omega
def zbp (l:List UInt8):Nat:=l.findIdx (· == 47)
theorem zbM {l:List UInt8} (h:∀ c ∈ l,c≠47):zbp l=l.length:=by
 unfold zbp
 rw [List.findIdx_eq_length]
 intro c hc
 simpa using h c hc
theorem zcj {l r:List UInt8} (h:∀ c ∈ l,c≠47):zbp (l++47 :: r)=l.length:=by
 unfold zbp
 rw [List.findIdx_append,if_neg,List.findIdx_cons]
 ·simp
 ·rw [Nat.not_lt,Nat.le_iff_lt_or_eq]
  refine .inr ?_
  exact (zbM h).symm
theorem zmX (l:List UInt8):zbp l≤l.length:=List.findIdx_le_length
end Go.Proofs.YtmkihdjolnlccaaGreatDoor
namespace Go.Proofs.YtmkihdjolnlccaaGreatDoor
open Go.RowKit Dn
structure DigI (w:World) (A:Option Addr) (n c:Nat) (l:List Nat):Prop where
 rd:zae w w.heap.size 1 A n (l.map natv)
 nc:n≤c
 cm:c≤maxLen
 wf:Wf l
theorem DigI.later {w w':World} {A:Option Addr} {n c:Nat} {l:List Nat} (h:DigI w A n c l) (hb:Below w.heap.size w w'):DigI w' A n c l:=⟨h.rd.later hb,h.nc,h.cm,h.wf⟩
theorem DigI.len {w:World} {A:Option Addr} {n c:Nat} {l:List Nat} (h:DigI w A n c l):l.length=n:=h.rd.lenM
set_option maxHeartbeats 1000000 in
theorem zcm (A:Option Addr) (n c:Nat) (l:List Nat) (w:World) (h:DigI w A n c l) (hn:n≤1099511627776) :
  Calls Tryz.prog 224 #[.slice A n c] w fun e w'=>∃ m,e = .returned (.slice A m c)∧DigI w' A m c (digs (val l))∧Below w.heap.size w w':=by
 obtain ⟨hr,hnc,hcm,hw⟩:=h
 have hl:=hr.lenM
 have HCM:=Lib.hid hcm
 have HNC:=Lib.hid hnc
 clear hcm
 go_enter Tryz.func224,Tryz.ntmps224
 go_wp2
 go_loopg [0] n (fun q s W=>∃ k:Nat,k≤n∧s = .slice A k c∧k≤q∧Hid (∀ j (h:j<l.length),k≤j→l[j]=0)∧Below w.heap.size w W)
 case atStart=>exact ⟨n,Nat.le_refl _,rfl,Nat.le_refl _,fun j h h'=>by omega,Below.refl _ _⟩
 case round=>
  obtain ⟨k,hk,rfl,hq,hz,hbel⟩:=hrel
  have hfin:∀ (hx:∀ h:k - 1<l.length,0<k→l[k - 1]≠0) (W:World),Below w.heap.size w W→DigI W A k c (digs (val l)):=fun hx W hb=>by
   have ht:=zcM hw k (by omega) (fun j h hj=>hz.out j h hj) hx
   have h2:=((hr.below hb).more hb.size).take (m:=k) hk
   rw [←List.map_take,ht] at h2
   exact ⟨h2,by have:=HNC.out;omega,HCM.out,zak _⟩
  have HFIN:=Lib.hid hfin
  clear hfin
  by_cases h0:0<k
  ·obtain ⟨ad,hkl,rfl,hbb,hcell⟩:=(hr.below hbel).cellM (k:=k - 1) (by omega)
   have hc0:c≠0:=by omega
   by_cases hx:l[k - 1]=0
   ·rw [hx] at hcell
    replace hcell:wr.cell? (ad.add (k - 1))=some (.int .i64 0):=hcell
    have HX:=Lib.hid hx
    clear hx
    go_wp2
    go_roundg (k - 1)
    case measure=>omega
    case rel=>
     refine ⟨k - 1,by omega,rfl,Nat.le_refl _,?_,hbel⟩
     intro j h hj
     rcases Nat.lt_or_ge j k with h1 | h1
     ·obtain rfl:j=k - 1:=by omega
      exact HX.out
     ·exact hz.out j h h1
   ·have HX:=Lib.hid hx
    unfold natv at hcell
    generalize hg:l[k - 1]=x at *
    have hx0:(((x:Nat):Int)==0)=false:=by
     rw [beq_eq_false_iff_ne];omega
    have HG:=Lib.hid hg
    clear hg hx
    go_wp2
    go_ret
    exact ⟨k,rfl,HFIN.out (fun h _=>by rw [HG.out];exact HX.out) _ hbel,hbel⟩
  ·go_wp2
   go_ret
   exact ⟨k,rfl,HFIN.out (fun h h1=>absurd h1 h0) _ hbel,hbel⟩
set_option maxHeartbeats 400000 in
theorem ze3 (A:Option Addr) (n c:Nat) (l:List Nat) (k:Nat) (w:World) (h:zae w w.heap.size 1 A n (l.map natv)) (_hn:n≤1099511627776) :
  Calls Tryz.prog 226 #[.slice A n c,.int .i64 (k:Int)] w fun e w'=>e = .returned (.int .i64 ((l.getD k 0:Nat):Int))∧w=w':=by
 have hl:=h.lenM
 by_cases h0:k<n
 ·obtain ⟨ad,hkl,rfl,hbb,hcell⟩:=h.cellM h0
  have hv:l.getD k 0=l[k]:=by simp [List.getD,hkl]
  have HV:=Lib.hid hv
  unfold natv at hcell
  clear hv
  generalize l[k]=x at *
  go_enter Tryz.func226,Tryz.ntmps226
  go_wp2
  go_ret
  exact ⟨by rw [HV.out];rfl,rfl⟩
 ·have hv:Hid (l.getD k 0=0):=by
   show l.getD k 0=0
   simp [List.getD,List.getElem?_eq_none (show l.length≤k by omega)]
  clear hl
  go_enter Tryz.func226,Tryz.ntmps226
  go_wp2
  go_ret
  exact ⟨by rw [hv.out];rfl,rfl⟩
set_option maxHeartbeats 1000000 in
theorem zb3 (A A':Option Addr) (n c n' c' x y:Nat) (w:World) (h:zae w w.heap.size 1 A n ((digs x).map natv)) (h':zae w w.heap.size 1 A' n' ((digs y).map natv)) (hn:n≤1099511627776) (hn':n'≤1099511627776) :
  Calls Tryz.prog 174 #[.slice A n c,.slice A' n' c'] w fun e w'=>e = .returned (.int .i64 (Bn.ncmp x y))∧Below w.heap.size w w':=by
 have hl:=h.lenM
 have hl':=h'.lenM
 by_cases hne:n=n'
 ·subst hne
  have HL:=Lib.hid hl
  have HL':=Lib.hid hl'
  clear hl hl'
  have hnn:((n:Int) != (n:Int))=false:=by simp
  go_enter Tryz.func174,Tryz.ntmps174
  go_wp2
  go_loopg [5] n (fun q s W=>∃ k:Nat,k≤n∧s = .int .i64 ((k:Int) - 1)∧k≤q∧Hid (∀ j,k≤j→(digs x).getD j 0=(digs y).getD j 0)∧Below w.heap.size w W)
  case atStart=>exact ⟨n,Nat.le_refl _,rfl,Nat.le_refl _,(fun j hj=>by rw [zbr (by rw [HL.out];omega),zbr (by rw [HL'.out];omega)]),Below.refl _ _⟩
  case round=>
   obtain ⟨k,hk,rfl,hq,hz,hbel⟩:=hrel
   by_cases h0:0<k
   ·obtain ⟨i,rfl⟩:∃ i:Nat,k=i+1:=⟨k - 1,by omega⟩
    have e1:((i+1:Nat):Int) - 1=(i:Int):=by omega
    rw [e1]
    obtain ⟨ad,hkl,rfl,hbb,hcell⟩:=(h.below hbel).cellM (k:=i) (by omega)
    obtain ⟨ad',hkl',rfl,hbb',hcell'⟩:=(h'.below hbel).cellM (k:=i) (by omega)
    have hgx:(digs x).getD i 0=(digs x)[i]:=by simp [List.getD,hkl]
    have hgy:(digs y).getD i 0=(digs y)[i]:=by simp [List.getD,hkl']
    have HX:=Lib.hid hgx
    have HY:=Lib.hid hgy
    have hxB:=zak x _ (List.getElem_mem hkl)
    have hyB:=zak y _ (List.getElem_mem hkl')
    unfold natv at hcell hcell'
    clear hgx hgy e1
    generalize (digs x)[i]=xk at *
    generalize (digs y)[i]=yk at *
    have q1:(0:Int)≤(i:Int):=by omega
    have q2:(i:Int)<(n:Int):=by omega
    rcases Nat.lt_trichotomy xk yk with hlt | heq | hgt
    ·have HR:Hid (Bn.ncmp x y = -1):=Bn.ncmp_lt (zhH i (fun j hj=>hz.out j (by omega)) (by rw [HX.out,HY.out];exact hlt))
     have d1:decide (xk<yk)=true:=by simpa using hlt
     go_upto_region 8 with (fail)
     go_quiet (fail)
     go_wp2
     go_ret
     exact ⟨by rw [HR.out];rfl,by first | exact zab hbel _ | exact zab (zab hbel _) _⟩
    ·subst heq
     have HZ:Hid (∀ j,i≤j→(digs x).getD j 0=(digs y).getD j 0):=fun j hj=>by
      rcases Nat.lt_or_ge i j with h1 | h1
      ·exact hz.out j (by omega)
      ·obtain rfl:j=i:=by omega
       rw [HX.out,HY.out]
     have d1:decide (xk<xk)=false:=by simp
     go_upto_region 8 with (fail)
     go_quiet (fail)
     go_upto_region 10 with (fail)
     go_quiet (fail)
     go_wp2
     go_roundg i
     case measure=>omega
     case rel=>exact ⟨i,by omega,rfl,Nat.le_refl _,HZ.out,by first | exact zab hbel _ | exact zab (zab hbel _) _⟩
    ·have HR:Hid (Bn.ncmp x y=1):=Bn.ncmp_gt (zhH i (fun j hj=>(hz.out j (by omega)).symm) (by rw [HX.out,HY.out];exact hgt))
     have d1:decide (xk<yk)=false:=by simp;omega
     have d2:decide (yk<xk)=true:=by simpa using hgt
     go_upto_region 8 with (fail)
     go_quiet (fail)
     go_upto_region 10 with (fail)
     go_quiet (fail)
     go_wp2
     go_ret
     exact ⟨by rw [HR.out];rfl,by first | exact zab hbel _ | exact zab (zab hbel _) _⟩
   ·obtain rfl:k=0:=by omega
    have HR:Hid (Bn.ncmp x y=0):=by
     have:x=y:=zod (fun j=>hz.out j (Nat.zero_le _))
     subst this
     exact Bn.ncmp_eq x
    go_wp2
    go_ret
    exact ⟨by rw [HR.out];rfl,hbel⟩
 ·have hnn:((n:Int) != (n':Int))=true:=by rw [bne_iff_ne];omega
  by_cases hlt:n<n'
  ·have HR:Hid (Bn.ncmp x y = -1):=Bn.ncmp_lt (by
    rcases Nat.lt_or_ge x y with h1 | h1
    ·exact h1
    ·have:=zac h1
     omega)
   have d1:decide (n<n')=true:=by simpa using hlt
   clear hl hl'
   go_enter Tryz.func174,Tryz.ntmps174
   go_wp2
   go_ret
   exact ⟨by rw [HR.out];rfl,Below.refl _ _⟩
  ·have HR:Hid (Bn.ncmp x y=1):=Bn.ncmp_gt (by
    rcases Nat.lt_or_ge y x with h1 | h1
    ·exact h1
    ·have:=zac h1
     omega)
   have d1:decide (n<n')=false:=by simpa using hlt
   clear hl hl'
   go_enter Tryz.func174,Tryz.ntmps174
   go_wp2
   go_ret
   exact ⟨by rw [HR.out];rfl,Below.refl _ _⟩
end Go.Proofs.YtmkihdjolnlccaaGreatDoor
