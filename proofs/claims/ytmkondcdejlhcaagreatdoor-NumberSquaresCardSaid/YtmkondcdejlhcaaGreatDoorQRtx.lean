/- Plain facts of decimal texts: the text of a number in lowest terms, read again, is the number; the text of what was read is the text. No program. -/
import Derived.Test.YtmkondcdejlhcaaGreatDoorBText
import Derived.Test.YtmkondcdejlhcaaGreatDoorBRat2
import Derived.Test.YtmkondcdejlhcaaGreatDoorBRb20
import Derived.Test.YtmkondcdejlhcaaGreatDoorBRb17
import Derived.Test.YtmkondcdejlhcaaGreatDoorBSp6
import Derived.Test.YtmkondcdejlhcaaGreatDoorBDiv4
import Derived.Deep.LoopGhost
namespace Go.Proofs.YtmkondcdejlhcaaGreatDoor
section
open Go.RowKit Bn
theorem ziN (n:Nat):Lib.decDigits n≠[]:=by
 have:=Dec.dec_length_pos n;intro h;rw [h] at this;simp at this
theorem ziD {n:Nat} (h:0<n):(Lib.decDigits n).head? ≠ some 48:=by
 induction n using Nat.strongRecOn with
 | ind n ih=>
  rw [Lib.decDigits]
  split
  ·rename_i h1
   intro e;simp only [List.head?_cons,Option.some.injEq] at e
   have:=congrArg UInt8.toNat e;rw [zds h1] at this;have aC:(48:UInt8).toNat=48:=by decide
   omega
  ·rename_i h1
   have h2:=ih (n / 10) (by omega) (by omega);obtain ⟨x,t,aA⟩:=List.exists_cons_of_ne_nil (ziN (n / 10));rw [aA] at h2 ⊢;exact h2
theorem zcS (n:Nat):zaF (Lib.decDigits n)=true:=by
 unfold zaF;rw [zaA,Bool.true_and]
 rcases Nat.eq_zero_or_pos n with rfl | h
 ·have e:Lib.decDigits 0=[48]:=by rw [Lib.decDigits];rfl
  simp [e]
 ·simp [ziN,ziD h]
theorem zis {neg:Bool} {t:List UInt8} (h:zau t=true):Lib.hasPrefix (sgnT neg t) [45]=neg∧Lib.trimPrefix (sgnT neg t) [45]=t:=by
 have h0:∀ neg,Lib.hasPrefix (sgnT neg t) [45]=neg:=by
  intro neg
  cases neg
  ·unfold sgnT Lib.hasPrefix
   cases t with
   | nil=>rfl
   | cons x r=>
    have:=(zdm h (List.mem_cons_self ..)).1;have hx:((45:UInt8)==x)=false:=by
     rw [beq_eq_false_iff_ne];intro e;rw [←e] at this;exact absurd this (by decide)
    simp [List.isPrefixOf,hx]
  ·rfl
 refine ⟨h0 neg,?_⟩;unfold Lib.trimPrefix;rw [h0 neg]
 cases neg<;>rfl
theorem ziw {n:Nat} (h:n≠1):Lib.decDigits n≠[49]:=fun e=>by
 have:=zaG n;rw [e] at this;have h49:zaj [49]=1:=by decide
 omega
theorem zcY (p:Q) (h:LowQ p) (h1:(Lib.decDigits p.top).length≤600) (h2:(Lib.decDigits p.bot).length≤600):zad (zaq p)=0∧zab (zaq p)=p:=by
 obtain ⟨hb,hg,hn⟩:=h;obtain ⟨hp,ht⟩:=zis (neg:=p.neg) (zaA p.top)
 by_cases hb1:p.bot=1
 ·have hc:cutL (zaq p)=(sgnT p.neg (Lib.decDigits p.top),[],false):=by
   rw [zaP,if_pos hb1,List.append_nil];exact zgv (zb8 (zaA _))
  have e1:topL (zaq p)=Lib.decDigits p.top:=by unfold topL;rw [hc];exact ht
  have e2:negL (zaq p)=p.neg:=by unfold negL;rw [hc];exact hp
  have e3:botL (zaq p)=[]:=by unfold botL;rw [hc]
  have e4:zc3 (zaq p)=false:=by unfold zc3;rw [hc]
  have he:zad (zaq p)=0:=by
   unfold zad zbe;rw [e1,e2,e3,e4,if_neg,if_neg,if_neg,if_neg]
   ·simp
   ·simp;exact h1
   ·simp
   ·rw [zcS]
    rintro (h | ⟨h,h'⟩)
    ·cases h
    ·exact zdV (hn h) h'
  refine ⟨he,?_⟩;unfold zab;rw [if_pos he,e1,e2,e4,zaG]
  cases p
  simp_all
 ·have hc:cutL (zaq p)=(sgnT p.neg (Lib.decDigits p.top),Lib.decDigits p.bot,true):=by
   rw [zaP,if_neg hb1];exact zfy (zb8 (zaA _))
  have e1:topL (zaq p)=Lib.decDigits p.top:=by unfold topL;rw [hc];exact ht
  have e2:negL (zaq p)=p.neg:=by unfold negL;rw [hc];exact hp
  have e3:botL (zaq p)=Lib.decDigits p.bot:=by unfold botL;rw [hc]
  have e4:zc3 (zaq p)=true:=by unfold zc3;rw [hc]
  have he:zad (zaq p)=0:=by
   unfold zad zbe;rw [e1,e2,e3,e4,if_neg,if_neg,if_neg,if_neg]
   ·rw [zaG,zaG]
    simp [hg]
   ·omega
   ·rw [zcS]
    rintro ⟨_,h | h | h⟩
    ·cases h
    ·exact zdV hb h
    ·exact ziw hb1 h
   ·rw [zcS]
    rintro (h | ⟨h,h'⟩)
    ·cases h
    ·exact zdV (hn h) h'
  refine ⟨he,?_⟩;unfold zab;rw [if_pos he,e1,e2,e3,e4,zaG,zaG];rfl
end
section
open Go.RowKit Dn
theorem Small.more {p:Q} {N M:Nat} (h:Small p N) (hM:N≤M):Small p M:=
 ⟨Nat.lt_of_lt_of_le h.1 (Nat.pow_le_pow_right (by omega) hM),Nat.lt_of_lt_of_le h.2 (Nat.pow_le_pow_right (by omega) hM)⟩
end
section
open Go.RowKit Bn
theorem zdQ (a:Nat):∃ s,zbK a s:=by
 induction a with
 | zero=>exact ⟨0,by decide,by decide⟩
 | succ a ih=>
  obtain ⟨s,h1,h2⟩:=ih
  by_cases h:a+1<(s+1)*(s+1)
  ·exact ⟨s,by omega,h⟩
  ·refine ⟨s+1,by omega,?_⟩
   have h3:(s+1+1)*(s+1+1)=(s+1)*(s+1)+2*(s+1)+1:=by
    rw [Nat.add_mul,Nat.mul_add,Nat.mul_one,Nat.one_mul];omega
   omega
end
end Go.Proofs.YtmkondcdejlhcaaGreatDoor
