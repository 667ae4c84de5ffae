/- NumberDeals: the law for every input. -/
import Derived.Test.YtmkondcdejlhcaaGreatDoorDNd2
namespace Go.Proofs.YtmkondcdejlhcaaGreatDoor
open Go.RowKit Bn
theorem zpv {l:List Int} (h:ckW l=0):∃ L:List Nat,l=L.map (fun (d:Nat)=>(d:Int))∧(∀ x ∈ L,x≤999999999)∧zeF L=false∧1≤L.length:=by
 unfold ckW at h
 by_cases h1:l.length=0
 ·rw [if_pos h1] at h;omega
 ·rw [if_neg h1] at h
  by_cases h2:256<l.length
  ·rw [if_pos h2] at h;omega
  ·rw [if_neg h2] at h
   by_cases h3:l.any badW=true
   ·rw [if_pos h3] at h;omega
   ·rw [if_neg h3] at h
    by_cases h4:l.sum=0
    ·rw [if_pos h4] at h;omega
    ·have hb:∀ x ∈ l,0≤x∧x≤999999999:=fun x hx=>by
      have h5:badW x=false:=by
       cases hc:badW x
       ·rfl
       ·exact absurd (List.any_eq_true.2 ⟨x,hx,hc⟩) h3
      unfold badW at h5;rw [Bool.or_eq_false_iff,decide_eq_false_iff_not,decide_eq_false_iff_not] at h5;omega
     have e:l=(l.map Int.toNat).map (fun (d:Nat)=>(d:Int)):=by
      rw [List.map_map];refine List.ext_getElem (by simp) (fun i h6 h7 => ?_);rw [List.getElem_map];have:=hb l[i] (List.getElem_mem h6);show l[i]=((l[i].toNat:Nat):Int)
      omega
     refine ⟨l.map Int.toNat,e,fun x hx => ?_,?_,by rw [List.length_map];omega⟩
     ·obtain ⟨y,hy,rfl⟩:=List.mem_map.1 hx
      have:=hb y hy;omega
     ·cases hz:zeF (l.map Int.toNat)
      ·rfl
      ·exfalso
       apply h4
       unfold zeF at hz;rw [List.all_eq_true] at hz;have aA:∀ x ∈ l,x=0:=fun x hx=>by
        have h6:=hz _ (List.mem_map.2 ⟨x,hx,rfl⟩);have h7:=of_decide_eq_true h6;have:=hb x hx;omega
       clear e h1 h2 h3 h4 h hb hz
       induction l with
       | nil=>rfl
       | cons a t ih=>
        rw [List.sum_cons,aA a (List.mem_cons_self ..)];rw [ih (fun x hx=>aA x (List.mem_cons_of_mem _ hx))];rfl
theorem znU (T:Int) (A:Option Addr) (n c:Nat) (l:List Int) (k m:Int) (w:World) (KV:zcx) (hT:Tabs w) (h:zaC w w.heap.size 1 A n (l.map i64v)) (hn:n≤maxLen) :
  Calls Tryz.prog 7 #[.agg #[.int .i64 T,.slice A n c,.int .i64 k,.int .i64 m]] w fun e w'=>e = .returned (.bool true)∧Below w.heap.size w w':=by
 by_cases hg:T<0∨100000<T∨12<n∨ckW l≠0∨40<m∨zfb k m≠0
 ·exact zjB T A n c l k m w KV hT h hn hg
 ·have aC:ckW l=0:=by omega
  have aA:zfb k m=0:=by omega
  have hr:1≤k∧k≤2147483398∧0≤m∧m≤40:=by
   unfold zfb at aA
   by_cases h1:k<1∨2147483398<k∨m<0∨256<m
   ·rw [if_pos h1] at aA;omega
   ·omega
  obtain ⟨L,rfl,h1,h2,h3⟩:=zpv aC;have aD:L.length=n:=by have:=h.1;simpa using this
  have eT:((T.toNat:Nat):Int)=T:=Int.toNat_of_nonneg (by omega);have ek:((k.toNat:Nat):Int)=k:=Int.toNat_of_nonneg (by omega);have em:((m.toNat:Nat):Int)=m:=Int.toNat_of_nonneg (by omega);rw [←zjd] at h;have g:=zl3 T.toNat A n c L k.toNat m.toNat w KV hT h (by omega) h1 h2 (by omega) (by omega) (by omega) (by omega) (by omega) aC (by rw [ek,em];exact aA)
  rwa [eT,ek,em] at g
end Go.Proofs.YtmkondcdejlhcaaGreatDoor
