/- Plain mathematics: insertion, shares by the largest remainders, and a permutation by exchanges. No program. -/
import Derived.Test.YtmkondcdejlhcaaGreatDoorBCo8
import Derived.Test.YtmkondcdejlhcaaGreatDoorBSh5
import Derived.Test.YtmkondcdejlhcaaGreatDoorBRat2
import Derived.Test.YtmkondcdejlhcaaGreatDoorBSp2
import Derived.Test.YtmkondcdejlhcaaGreatDoorBKn8
set_option maxRecDepth 100000
set_option maxHeartbeats 8000000
namespace Go.Proofs.YtmkondcdejlhcaaGreatDoor.Dl
theorem zqT (lt:Nat→Nat→Bool) (p:List Nat) (x:Nat):insK lt p x≤p.length:=by
 unfold insK;have h:=List.takeWhile_prefix (lt x) (l:=p.reverse)
 simpa using h.length_le
def zhb (r:Nat→Nat) (p:List Nat):Prop:=p.Pairwise (fun a b=>r b≤r a)
theorem zlr (r:Nat→Nat) (p:List Nat) (x:Nat) (h:zhb r p):zhb r (insP (byKey r) p x):=by
 unfold zhb insP;have hk:=zqT (byKey r) p x;generalize hj:p.length - insK (byKey r) p x=j;have hw:=List.takeWhile_append_dropWhile (p:=byKey r x) (l:=p.reverse);have e:p=(p.reverse.dropWhile (byKey r x)).reverse++(p.reverse.takeWhile (byKey r x)).reverse:=by
  rw [←List.reverse_append,hw,List.reverse_reverse]
 have hl:(p.reverse.dropWhile (byKey r x)).reverse.length=j:=by
  have:=congrArg List.length e;rw [List.length_append,List.length_reverse («as»:=p.reverse.takeWhile _)] at this;unfold insK at hj hk;omega
 have ht:p.take j=(p.reverse.dropWhile (byKey r x)).reverse:=by
  conv=>lhs;rw [e]
  rw [←hl,List.take_left]
 have hd:p.drop j=(p.reverse.takeWhile (byKey r x)).reverse:=by
  conv=>lhs;rw [e]
  rw [←hl,List.drop_left]
 have aE:∀ a ∈ p.drop j,r a<r x:=by
  intro a ha;rw [hd,List.mem_reverse] at ha;have:=List.all_takeWhile (p:=byKey r x) (l:=p.reverse);rw [List.all_eq_true] at this
  simpa [byKey] using this a ha
 have hp:(p.take j++p.drop j).Pairwise (fun a b=>r b≤r a):=by rw [List.take_append_drop];exact h
 rw [List.pairwise_append] at hp ⊢;obtain ⟨p1,p2,p3⟩:=hp;have aA:∀ a ∈ p.take j,r x≤r a:=by
  intro a ha;rw [ht] at ha;have aD:p.reverse.dropWhile (byKey r x)≠[]:=by
   intro e0;rw [e0] at ha;simp at ha
  have hh:=List.head_dropWhile_not (byKey r x) aD;have hb:r x≤r ((p.reverse.dropWhile (byKey r x)).head aD):=by
   simpa [byKey] using hh
  rw [List.mem_reverse] at ha;have aC:((p.reverse.dropWhile (byKey r x)).reverse).Pairwise (fun a b=>r b≤r a):=by rw [←ht];exact p1
  rw [List.pairwise_reverse] at aC;generalize p.reverse.dropWhile (byKey r x)=q at *
  cases q with
  | nil=>exact absurd rfl aD
  | cons y q=>
   rw [List.pairwise_cons] at aC
   rcases List.mem_cons.1 ha with rfl | h4
   ·simpa using hb
   ·exact Nat.le_trans (by simpa using hb) (aC.1 a h4)
 refine ⟨p1,?_,?_⟩
 ·rw [List.pairwise_cons]
  exact ⟨fun a ha=>Nat.le_of_lt (aE a ha),p2⟩
 ·intro a ha b hb
  rcases List.mem_cons.1 hb with rfl | h4
  ·exact aA a ha
  ·exact p3 a ha b h4
theorem zgi (r:Nat→Nat):∀ (l p:List Nat),zhb r p→zhb r (l.foldl (insP (byKey r)) p)
 | [],_,h=>h
 | x :: l,p,h=>zgi r l _ (zlr r p x h)
theorem zgF (r:Nat→Nat) (l:List Nat):zhb r (sortP (byKey r) l):=zgi r l [] List.Pairwise.nil
theorem zjp (key n:Nat):∀ r,r<n→(drawAt key n r).2.Perm (List.range n)
 | 0,_=>by simp [drawAt]
 | r+1,h=>by
  have ih:=zjp key n r (by omega);have hl:=draw_len key n r;simp only [drawAt]
  generalize drawAt key n r=s at ih hl ⊢;obtain ⟨x,l⟩:=s
  dsimp only at ih hl ⊢
  generalize hi:n - 1 - r=i;have hj:=Nat.mod_lt (40692*x % 2147483399) (show 0<i+1 by omega);generalize 40692*x % 2147483399 % (i+1)=j at hj;have h1:i<l.length:=by omega
  have h2:j<l.length:=by omega
  have e1:l.getD i 0=l[i]:=by simp [List.getD,h1]
  have e2:l.getD j 0=l[j]:=by simp [List.getD,h2]
  rw [e1,e2];exact (List.set_set_perm h1 h2).trans ih
theorem zi6 (key n:Nat) (hn:2≤n):∀ r,(drawAt key n (r+1)).2.getD (n - 1) 0=40692*key % 2147483399 % n
 | 0=>by
  simp only [drawAt]
  have hj:=Nat.mod_lt (40692*key % 2147483399) (show 0<n - 1 - 0+1 by omega);have e:n - 1 - 0+1=n:=by omega
  rw [e] at hj ⊢;generalize 40692*key % 2147483399 % n=j at hj;rw [Nat.sub_zero];have h1:n - 1<(List.range n).length:=by simp;omega
  have h2:j<(List.range n).length:=by simpa using hj
  rw [show (List.range n).getD j 0=j by simp [List.getD,hj],show (List.range n).getD (n - 1) 0=n - 1 by simp [List.getD,show n - 1<n by omega]]
  by_cases h:j=n - 1
  ·subst h;simp [List.getD,hj]
  ·simp [List.getD,h,show n - 1<n by omega]
 | r+1=>by
  have ih:=zi6 key n hn r;rw [drawAt];generalize drawAt key n (r+1)=s at ih ⊢;obtain ⟨x,l⟩:=s
  dsimp only at ih ⊢
  rw [←ih]
  by_cases hr:r+1<n
  ·generalize hi:n - 1 - (r+1)=i
   have hj:=Nat.mod_lt (40692*x % 2147483399) (show 0<i+1 by omega);generalize 40692*x % 2147483399 % (i+1)=j at hj;simp only [List.getD]
   rw [List.getElem?_set_ne (by omega),List.getElem?_set_ne (by omega)]
  ·have hi:n - 1 - (r+1)=0:=by omega
   rw [hi];simp only [Nat.zero_add,Nat.mod_one]
   simp only [List.getD]
   rw [List.getElem?_set_ne (by omega),List.getElem?_set_ne (by omega)]
theorem drawL_last (key n:Nat) (hn:2≤n):(drawL key n).getD (n - 1) 0=40692*key % 2147483399 % n:=by
 have h:=zi6 key n hn (n - 2)
 rwa [show n - 2+1=n - 1 from by omega] at h
theorem drawL_perm (key n:Nat):(drawL key n).Perm (List.range n):=by
 unfold drawL
 by_cases h:n=0
 ·subst h;simp [drawAt]
 ·exact zjp key n (n - 1) (by omega)
theorem zhI:∀ (p l:List Nat),p.Nodup→(∀ i ∈ p,i<l.length)→∀ k,(incAll l p).getD k 0=l.getD k 0+(if k ∈ p then 1 else 0)
 | [],l,_,_,k=>by simp [incAll]
 | i :: p,l,hn,hi,k=>by
  show (incAll (l.set i (l.getD i 0+1)) p).getD k 0=_
  rw [List.nodup_cons] at hn;have hil:=hi i List.mem_cons_self;rw [zhI p _ hn.2 (fun j hj=>by rw [List.length_set];exact hi j (List.mem_cons_of_mem _ hj)) k]
  by_cases h:k=i
  ·subst h
   rw [if_neg hn.1,if_pos List.mem_cons_self];simp [List.getD,hil]
  ·have e:(l.set i (l.getD i 0+1)).getD k 0=l.getD k 0:=by
    simp only [List.getD]
    rw [List.getElem?_set_ne (fun e=>h e.symm)]
   rw [e];simp [List.mem_cons,h]
theorem zfI (T:Nat) (w:List Nat):((shOrder T w.sum w).take (shRest T w.sum w)).Nodup∧∀ i ∈ (shOrder T w.sum w).take (shRest T w.sum w),i<(shBase T w.sum w).length:=by
 have hp:=shOrder_perm T w.sum w;refine ⟨List.Nodup.sublist (List.take_sublist _ _) (hp.nodup_iff.2 List.nodup_range),fun i hi => ?_⟩;have:=hp.mem_iff.1 (List.mem_of_mem_take hi)
 simpa [shBase] using this
theorem shares_len (T:Nat) (w:List Nat):(shares T w).length=w.length:=by unfold shares;rw [incAll_len];simp [shBase]
theorem shares_sum (T:Nat) (w:List Nat) (hS:0<w.sum):(shares T w).sum=T:=by
 unfold shares;rw [incAll_sum _ _ (zfI T w).2,List.length_take,shOrder_len,Nat.min_eq_left (shRest_len T w hS)];exact (shRest_le T w hS).2.2
theorem zfT (T:Nat) (w:List Nat) (i:Nat) (hi:i<w.length):(shares T w).getD i 0=T*w.getD i 0 / w.sum+(if i ∈ (shOrder T w.sum w).take (shRest T w.sum w) then 1 else 0):=by
 unfold shares;rw [zhI _ _ (zfI T w).1 (zfI T w).2]
 congr 1
 simp [shBase,List.getD,hi]
theorem zhu (T:Nat) (w:List Nat) (hS:0<w.sum) (i:Nat) (hi:i ∈ (shOrder T w.sum w).take (shRest T w.sum w)):0<shRem T w.sum w i:=by
 have hf:zhb (shRem T w.sum w) (shOrder T w.sum w):=zgF _ _;have hp:=shOrder_perm T w.sum w;have hr:=(shRest_le T w hS).2.1;rw [←(hp.filter (fun i=>decide (0<shRem T w.sum w i))).length_eq] at hr;generalize shOrder T w.sum w=o at hi hf hr;generalize shRest T w.sum w=m at hi hr;generalize shRem T w.sum w=r at hf hr ⊢;unfold zhb at hf;clear hp hS
 rcases Nat.eq_zero_or_pos (r i) with h0 | h0
 ·exfalso
  have hd:∀ a ∈ o.drop m,r a=0:=by
   intro a ha;rw [←List.take_append_drop m o,List.pairwise_append] at hf;have:=hf.2.2 i hi a ha;omega
  rw [←List.take_append_drop m o,List.filter_append,List.length_append] at hr;have e:(o.drop m).filter (fun i=>decide (0<r i))=[]:=by
   rw [List.filter_eq_nil_iff];intro a ha;simp [hd a ha]
  rw [e,List.length_nil,Nat.add_zero] at hr;have aD:((o.take m).filter (fun i=>decide (0<r i))).length<(o.take m).length:=by
   rw [←List.countP_eq_length_filter];refine Nat.lt_of_le_of_ne List.countP_le_length ?_;intro aA;have aC:=List.countP_eq_length.1 aA;have:=aC i hi;simp [h0] at this
  have:=List.length_take_le m o;omega
 ·exact h0
theorem shares_near (T:Nat) (w:List Nat) (hS:0<w.sum) (i:Nat) (hi:i<w.length):T*w.getD i 0<(shares T w).getD i 0*w.sum+w.sum∧(shares T w).getD i 0*w.sum<T*w.getD i 0+w.sum:=by
 rw [zfT T w i hi];have h1:=Nat.div_add_mod (T*w.getD i 0) w.sum;have h2:=Nat.mod_lt (T*w.getD i 0) hS;rw [Nat.mul_comm] at h1
 split
 ·rename_i hm
  have h3:=zhu T w hS i hm;unfold shRem at h3;rw [Nat.add_mul];omega
 ·rw [Nat.add_zero];omega
theorem shares_mono (T:Nat) (w:List Nat) (hS:0<w.sum) (i k:Nat) (hi:i<w.length) (hk:k<w.length) (h:w.getD k 0<w.getD i 0):(shares T w).getD k 0≤(shares T w).getD i 0:=by
 rw [zfT T w i hi,zfT T w k hk];have h1:=Nat.div_add_mod (T*w.getD i 0) w.sum;have h2:=Nat.div_add_mod (T*w.getD k 0) w.sum;have hd:T*w.getD k 0 / w.sum≤T*w.getD i 0 / w.sum:=Nat.div_le_div_right (Nat.mul_le_mul_left _ (Nat.le_of_lt h))
 by_cases hki:k ∈ (shOrder T w.sum w).take (shRest T w.sum w)
 ·rw [if_pos hki]
  by_cases he:T*w.getD k 0 / w.sum=T*w.getD i 0 / w.sum
  ·have hp:=zhu T w hS k hki
   have hT:0<T:=by
    rcases Nat.eq_zero_or_pos T with h0 | h0
    ·rw [h0] at hp;simp [shRem] at hp
    ·exact h0
   have hm:T*w.getD k 0<T*w.getD i 0:=Nat.mul_lt_mul_of_pos_left h hT;have hr:shRem T w.sum w k<shRem T w.sum w i:=by
    unfold shRem;rw [he] at h2;omega
   have aC:i ∈ (shOrder T w.sum w).take (shRest T w.sum w):=by
    have aA:i ∈ shOrder T w.sum w:=(shOrder_perm T w.sum w).mem_iff.2 (by simpa using hi);have hf:zhb (shRem T w.sum w) (shOrder T w.sum w):=zgF _ _;unfold zhb at hf;rw [←List.take_append_drop (shRest T w.sum w) (shOrder T w.sum w)] at aA hf;rw [List.pairwise_append] at hf
    rcases List.mem_append.1 aA with h5 | h5
    ·exact h5
    ·have:=hf.2.2 k hki i h5
     omega
   rw [if_pos aC,he];exact Nat.le_refl _
  ·split<;>omega
 ·rw [if_neg hki];omega
end Go.Proofs.YtmkondcdejlhcaaGreatDoor.Dl
namespace Go.Proofs.YtmkondcdejlhcaaGreatDoor
open Go.RowKit Bn
def zfb (k n:Int):Int:=if k<1∨2147483398<k∨n<0∨256<n then 3 else 0
theorem zfc (k n:Int) (w:World):Calls Tryz.prog 44 #[.int .i64 k,.int .i64 n] w fun e w'=>e = .returned (.int .i64 (zfb k n))∧w=w':=by
 obtain ⟨z,hz⟩:∃ z,z=zfb k n:=⟨_,rfl⟩;rw [←hz];unfold zfb at hz
 by_cases h1:k<1
 ·obtain rfl:z=3:=by rw [hz,if_pos (by omega)]
  have d:decide (k<1)=true:=decide_eq_true h1;clear hz h1;go_enter Tryz.func44,Tryz.ntmps44
  go_wp2
  go_ret;exact ⟨rfl,rfl⟩
 have d1:decide (k<1)=false:=decide_eq_false h1
 by_cases h2:2147483398<k
 ·obtain rfl:z=3:=by rw [hz,if_pos (by omega)]
  have d:decide (2147483398<k)=true:=decide_eq_true h2;clear hz h1 h2;go_enter Tryz.func44,Tryz.ntmps44
  go_wp2
  go_ret;exact ⟨rfl,rfl⟩
 have d2:decide (2147483398<k)=false:=decide_eq_false h2
 by_cases h3:n<0
 ·obtain rfl:z=3:=by rw [hz,if_pos (by omega)]
  have d:decide (n<0)=true:=decide_eq_true h3;clear hz h1 h2 h3;go_enter Tryz.func44,Tryz.ntmps44
  go_wp2
  go_ret;exact ⟨rfl,rfl⟩
 have d3:decide (n<0)=false:=decide_eq_false h3
 by_cases h4:256<n
 ·obtain rfl:z=3:=by rw [hz,if_pos (by omega)]
  have d:decide (256<n)=true:=decide_eq_true h4;clear hz h1 h2 h3 h4;go_enter Tryz.func44,Tryz.ntmps44
  go_wp2
  go_ret;exact ⟨rfl,rfl⟩
 have d4:decide (256<n)=false:=decide_eq_false h4;obtain rfl:z=0:=by rw [hz,if_neg (by omega)]
 clear hz h1 h2 h3 h4;go_enter Tryz.func44,Tryz.ntmps44
 go_wp2
 go_ret;exact ⟨rfl,rfl⟩
def badW (x:Int):Bool:=decide (x<0) || decide (999999999<x)
def ckW (l:List Int):Int:=if l.length=0 then 12 else if 256<l.length then 5 else if l.any badW then 3 else if l.sum=0 then 6 else 0
theorem zox (l:List Int) (k:Nat) (h:k<l.length):(l.take (k+1)).sum=(l.take k).sum+l[k]:=by
 rw [List.take_succ_eq_append_getElem h,List.sum_append];simp
theorem zmF (l:List Int) (k:Nat) (h:k<l.length):(l.take (k+1)).any badW=((l.take k).any badW || badW l[k]):=by
 rw [List.take_succ_eq_append_getElem h,List.any_append];simp
theorem zfR:∀ l:List Int,l.any badW=false→0≤l.sum∧l.sum≤l.length*999999999
 | [],_=>by simp
 | a :: t,h=>by
  rw [List.any_cons,Bool.or_eq_false_iff] at h;have h2:=zfR t h.2;have h1:=h.1;unfold badW at h1;rw [Bool.or_eq_false_iff,decide_eq_false_iff_not,decide_eq_false_iff_not] at h1;rw [List.sum_cons,List.length_cons]
  push_cast
  omega
theorem zdu (A:Option Addr) (n c:Nat) (l:List Int) (B:Nat) (w:World) (h:zaC w B 1 A n (l.map i64v)) (hn:n≤maxLen) :
  Calls Tryz.prog 43 #[.slice A n c] w fun e w'=>e = .returned (.int .i64 (ckW l))∧w=w':=by
 unfold maxLen at hn;have aL:l.length=n:=by have:=h.1;rw [List.length_map] at this;omega
 obtain ⟨z,hz⟩:∃ z,z=ckW l:=⟨_,rfl⟩;rw [←hz];unfold ckW at hz;rw [aL] at hz
 by_cases hz0:n=0
 ·subst hz0
  obtain rfl:z=12:=by rw [hz,if_pos rfl]
  clear hz h;go_enter Tryz.func43,Tryz.ntmps43
  go_wp2
  go_ret;exact ⟨rfl,rfl⟩
 have d0:decide ((n:Int)=0)=false:=decide_eq_false (by omega);have aS:((n:Int)==0)=false:=by simpa using hz0
 by_cases hb:256<n
 ·obtain rfl:z=5:=by rw [hz,if_neg hz0,if_pos hb]
  have d1:decide ((256:Int)<(n:Int))=true:=decide_eq_true (by omega);clear hz h;go_enter Tryz.func43,Tryz.ntmps43
  go_wp2
  go_ret;exact ⟨rfl,rfl⟩
 have d1:decide ((256:Int)<(n:Int))=false:=decide_eq_false (by omega);rw [if_neg hz0,if_neg hb] at hz;have HZ:=Aa hz;clear hz;go_enter Tryz.func43,Tryz.ntmps43
 go_wp2_with fail
 go_loopg [3,4] n (fun m s t W=>∃ k:Nat,k≤n∧t = .int .i64 k∧s = .int .i64 (l.take k).sum∧n - k≤m∧Hid ((l.take k).any badW=false)∧W=w)
 case atStart=>exact ⟨0,Nat.zero_le _,rfl,rfl,by omega,rfl,rfl⟩
 case round=>
  obtain ⟨k,hk,rfl,rfl,hm,aA,rfl⟩:=hrel
  by_cases h0:k<n
  ·have aI:k<l.length:=by omega
   obtain ⟨ad,u,rfl,aR,hu,aM⟩:=h.at_ h0;have aN:u = .int .i64 l[k]:=by simp [i64v,aI] at hu;exact hu.symm
   subst aN;have aH:=zox l k aI;have aK:=zmF l k aI;have aJ:=zfR (l.take k) aA.out;rw [List.length_take] at aJ;have aQ:(l.take k).sum≤300000000000:=by
    have h9:((min k l.length:Nat):Int)≤256:=by omega
    omega
   have aG:l[k] ∈ l:=List.getElem_mem aI;have aE:badW l[k]=true→z=3:=fun hb=>by
    rw [HZ.out,if_pos (List.any_eq_true.2 ⟨_,aG,hb⟩)]
   rw [aA.out,Bool.false_or] at aK;have aF:=Aa aK;have aC:=Aa aE;clear hu aG aK aE;unfold badW at aF aC;generalize l[k]=x at *
   by_cases c1:x<0
   ·have e1:decide (x<0)=true:=decide_eq_true c1
    obtain rfl:=aC.out (by rw [e1];rfl);clear aH aF aC
    go_wp2_with fail
    go_ret;exact ⟨rfl,rfl⟩
   ·have e1:decide (x<0)=false:=decide_eq_false c1
    by_cases c2:999999999<x
    ·have e2:decide (999999999<x)=true:=decide_eq_true c2
     obtain rfl:=aC.out (by rw [e1,e2];rfl);clear aH aF aC
     go_wp2_with fail
     go_ret;exact ⟨rfl,rfl⟩
    ·have e2:decide (999999999<x)=false:=decide_eq_false c2
     have aP:Hid ((l.take (k+1)).any (fun x=>decide (x<0) || decide (999999999<x))=false):=by rw [aF.out,e1,e2];rfl
     have aO:=Aa aH;clear aF aC aH;generalize (l.take k).sum=s0 at *
     go_wp2_with fail
     go_roundg (n - (k+1))
     case measure=>omega
     case rel=>exact ⟨k+1,by omega,by go_num,by rw [aO.out],Nat.le_refl _,aP,rfl⟩
  ·obtain rfl:n=k:=by omega
   have hg:=aA.out;have aJ:=zfR _ hg;rw [List.take_of_length_le (by omega)] at hg aJ ⊢;have aD:=HZ.out;rw [hg] at aD;simp only [Bool.false_eq_true,if_false] at aD
   clear hg aA
   by_cases hs:l.sum=0
   ·obtain rfl:z=6:=by rw [aD,if_pos hs]
    have e3:(l.sum==0)=true:=by simpa using hs
    clear aD HZ aJ;rw [hs] at e3 ⊢;clear hs e3
    go_wp2_with fail
    go_ret;exact ⟨rfl,rfl⟩
   ·obtain rfl:z=0:=by rw [aD,if_neg hs]
    have e3:(l.sum==0)=false:=by simpa using hs
    clear aD HZ hs
    go_wp2_with fail
    go_ret;exact ⟨rfl,rfl⟩
theorem zpc {l:List Nat} (hd:l.Nodup) (i k:Nat) (hi:i<l.length) (hk:k<l.length) (e:l[k]=l[i]):k=i:=by
 have h:=List.pairwise_iff_getElem.1 hd
 rcases Nat.lt_trichotomy k i with h1 | h1 | h1
 ·exact absurd e (h k i hk hi h1)
 ·exact h1
 ·exact absurd e.symm (h i k hi hk h1)
theorem zmv (A:Option Addr) (n c:Nat) (l:List Nat) (w:World) (B:Nat) (h:zaC w B 1 A n (l.map natv)) (hn:n≤4096) (hl:∀ y ∈ l,y<n) (hd:l.Nodup) :
  Calls Tryz.prog 47 #[.slice A n c] w fun e w'=>e = .returned (.bool true)∧∃ m,w'=w.drewN m:=by
 have aJ:l.length=n:=by have:=h.1;rw [List.length_map] at this;omega
 have HL:=Aa hl;have HD:=Aa (fun (i k:Nat) (hi:i<l.length) (hk:k<l.length) (e:l[k]=l[i])=>zpc hd i k hi hk e);clear hl hd;go_enter Tryz.func47,Tryz.ntmps47
 go_wp2_with fail
 go_loopg [3] n (fun m s W=>∃ i:Nat,i≤n∧s = .int .i64 i∧n - i≤m∧∃ q,W=w.drewN q)
 case atStart=>exact ⟨0,Nat.zero_le _,rfl,by omega,0,rfl⟩
 case round=>
  obtain ⟨i,hi,rfl,hm,q,rfl⟩:=hrel
  by_cases h0:i<n
  ·have aC:i<l.length:=by omega
   obtain ⟨ad,u,rfl,aN,hu,aE⟩:=h.at_ h0;have aA:u = .int .i64 (l[i]:Int):=by simp [natv,aC] at hu;exact hu.symm
   subst aA;have hx:=HL.out l[i] (List.getElem_mem aC);have aH:=Aa (fun k hk=>HD.out i k aC hk);clear hu;generalize l[i]=x at *;have d1:decide ((n:Int)≤(x:Int))=false:=decide_eq_false (by omega)
   go_wp2_with fail
   go_loopg [4] i (fun m2 s W=>∃ k:Nat,k≤i∧s = .int .i64 k∧i - k≤m2∧∃ q,W=w.drewN q)
   case atStart=>exact ⟨0,Nat.zero_le _,rfl,by omega,q,rfl⟩
   case round=>
    obtain ⟨k,hk,rfl,aM,q2,rfl⟩:=hrel
    by_cases h1:k<i
    ·have aF:k<l.length:=by omega
     obtain ⟨aL,u2,e2,aK,aA,aD⟩:=h.at_ (show k<n by omega);injection e2 with e2
     subst e2;have aI:u2 = .int .i64 (l[k]:Int):=by simp [natv,aF] at aA;exact aA.symm
     subst aI;have aG:l[k]≠x:=fun e=>absurd (aH.out k aF e) (by omega)
     clear aA;generalize l[k]=y at *;have d2:((y:Int)==(x:Int))=false:=by rw [beq_eq_false_iff_ne];intro e;exact aG (by omega)
     clear aG aH
     go_wp2_with fail
     go_region
     go_wp2_with fail
     go_roundg (i - (k+1))
     case measure=>omega
     case rel=>exact ⟨k+1,by omega,by go_num,Nat.le_refl _,_,rfl⟩
    ·obtain rfl:i=k:=by omega
     go_wp2_with fail
     go_roundg (n - (i+1))
     case measure=>omega
     case rel=>exact ⟨i+1,by omega,by go_num,Nat.le_refl _,_,rfl⟩
  ·obtain rfl:n=i:=by omega
   go_wp2_with fail
   go_ret;exact ⟨rfl,q,rfl⟩
theorem zjB (T:Int) (A:Option Addr) (n c:Nat) (l:List Int) (k m:Int) (w:World) (KV:zcx) (hT:Tabs w) (h:zaC w w.heap.size 1 A n (l.map i64v)) (hn:n≤maxLen)
  (hg:T<0∨100000<T∨12<n∨ckW l≠0∨40<m∨zfb k m≠0) :
  Calls Tryz.prog 7 #[.agg #[.int .i64 T,.slice A n c,.int .i64 k,.int .i64 m]] w fun e w'=>e = .returned (.bool true)∧Below w.heap.size w w':=by
 have HK:=Aa KV;clear KV;have aE:Below w.heap.size w (w.alloc (.cells #[.int .i64 T,.slice A n c,.int .i64 k,.int .i64 m] 62)):=Ac;have q1:CBlk (w.alloc (.cells #[.int .i64 T,.slice A n c,.int .i64 k,.int .i64 m] 62)) w.heap.size #[.int .i64 T,.slice A n c,.int .i64 k,.int .i64 m] 62:=CBlk.new _ _ _ _ rfl;have aG:=Aa (fun (W:World) (hW:Below w.heap.size w W)=>zdu A n c l w.heap.size W (h.below hW) hn);have aH:=Aa (fun W=>zfc k m W);clear h;generalize ckW l=z at *;generalize zfb k m=y at *;have aD:(decide (T<0)=true)∨(decide (T<0)=false∧decide (100000<T)=true)∨(decide (T<0)=false∧decide (100000<T)=false∧decide ((12:Int)<(n:Int))=true)
   ∨ (decide (T<0)=false∧decide (100000<T)=false∧decide ((12:Int)<(n:Int))=false∧(z != 0)=true)
   ∨ (decide (T<0)=false∧decide (100000<T)=false∧decide ((12:Int)<(n:Int))=false∧z=0∧decide (40<m)=true)
   ∨ (decide (T<0)=false∧decide (100000<T)=false∧decide ((12:Int)<(n:Int))=false∧z=0∧decide (40<m)=false∧(y != 0)=true):=by
  simp only [decide_eq_true_eq,decide_eq_false_iff_not,bne_iff_ne]
  omega
 clear hg
 rcases aD with d1 | ⟨d1,d2⟩ | ⟨d1,d2,d3⟩ | ⟨d1,d2,d3,d4⟩ | ⟨d1,d2,d3,rfl,d5⟩ | ⟨d1,d2,d3,rfl,d5,d6⟩
 all_goals
  go_enter Tryz.func7,Tryz.ntmps7
  go_wp2_with fail
  generalize (w.alloc (.cells #[.int .i64 T,.slice A n c,.int .i64 k,.int .i64 m] 62))=w1 at *;refine (HK.out w1 (hT.later aE)).mono ?_;rintro e w2 ⟨rfl,aF⟩;have aA:=Ad aE aF;have q2:=q1.below aF q1.lt;have x0:w2.cell? ⟨w.heap.size,0,none⟩=some (.int .i64 T):=q2.cell 0;have x1:w2.cell? ⟨w.heap.size,1,none⟩=some (.slice A n c):=q2.cell 1;have x2:w2.cell? ⟨w.heap.size,2,none⟩=some (.int .i64 k):=q2.cell 2;have x3:w2.cell? ⟨w.heap.size,3,none⟩=some (.int .i64 m):=q2.cell 3;clear q1 aF aE
  go_wp2_with fail
 iterate 3
  ·refine (HK.out w2 (hT.later aA)).mono ?_
   rintro e w3 ⟨rfl,aC⟩;go_wp2
   go_ret;exact ⟨rfl,aA.trans (aC.mono aA.size)⟩
 all_goals
  refine (aG.out w2 aA).mono ?_;rintro e w3 ⟨rfl,rfl⟩
  go_wp2_with fail
 iterate 2
  ·refine (HK.out w2 (hT.later aA)).mono ?_
   rintro e w3 ⟨rfl,aC⟩;go_wp2
   go_ret;exact ⟨rfl,aA.trans (aC.mono aA.size)⟩
 ·refine (aH.out w2).mono ?_
  rintro e w3 ⟨rfl,rfl⟩
  go_wp2_with fail
  refine (HK.out w2 (hT.later aA)).mono ?_;rintro e w3 ⟨rfl,aC⟩;go_wp2
  go_ret;exact ⟨rfl,aA.trans (aC.mono aA.size)⟩
end Go.Proofs.YtmkondcdejlhcaaGreatDoor
