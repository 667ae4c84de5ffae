/- Contracts of package rational's naturals: plus, minus. -/
import Derived.Test.YtmkihdjolnlccaaGreatDoorQDw
import Derived.Test.YtmkihdjolnlccaaGreatDoorQDiv1
import Derived.Test.YtmkihdjolnlccaaGreatDoorQNat4
import Derived.Test.YtmkihdjolnlccaaGreatDoorQWords
import Derived.Test.YtmkihdjolnlccaaGreatDoorQRat4
namespace Go.Proofs.YtmkihdjolnlccaaGreatDoor
open Go.RowKit Dn
def zqq (w wr:World) (N:Nat) (la lb:List Nat) (k c0:Nat):Prop:=
 ∃ ls,zas wr w.heap.size w.heap.size N N ls∧Wf ls∧val (ls.take k)+B ^ k*c0=val (la.take k)+val (lb.take k)∧Below w.heap.size w wr
theorem zrm {x y n n' N:Nat} (h:(digs x).length=n) (h':(digs y).length=n') (h1:n≤N) (h2:n'≤N):x+y<B ^ (N+1):=by
 have hx:=zaa x
 have hy:=zaa y
 rw [h] at hx
 rw [h'] at hy
 have h3:B ^ n≤B ^ N:=Nat.pow_le_pow_right zaA h1
 have h4:B ^ n'≤B ^ N:=Nat.pow_le_pow_right zaA h2
 have h5:B ^ N*2≤B ^ N*B:=Nat.mul_le_mul_left _ zdL
 rw [Nat.pow_succ]
 omega
theorem zqy {v p c s:Nat} (h:v+p*c=s) (hs:s<p):c=0∧v=s:=by
 rcases Nat.eq_zero_or_pos c with rfl | hc
 ·simpa using h
 ·have:p*1≤p*c:=Nat.mul_le_mul_left _ hc
  omega
set_option maxHeartbeats 2000000 in
set_option maxRecDepth 100000 in
theorem zmH (A A':Option Addr) (n c n' c' x y:Nat) (w:World) (ha:NatD w w.heap.size A n c x) (hb:NatD w w.heap.size A' n' c' y) (hn:n≤1099511627776) (hn':n'≤1099511627776) :
  Calls Tryz.prog 214 #[.slice A n c,.slice A' n' c'] w (RetD w (x+y)):=by
 obtain ⟨i0,hi0,hz0,hz1,hz2⟩:=info_parts zbA
 have hN4:∃ N,N=max n n'∧n≤N∧n'≤N∧N≤1099511627776:=⟨max n n',rfl,by omega,by omega,by omega⟩
 rcases Decidable.em (n<n') with hle | hle
 case' inl=>obtain ⟨N,rfl⟩:∃ N,N=n':=⟨_,rfl⟩
 case' inr=>obtain ⟨N,rfl⟩:∃ N,N=n:=⟨_,rfl⟩
 all_goals
  have hN3:N≤1099511627776:=by omega
  have hsum:=zrm (N:=N) ha.len hb.len (by omega) (by omega)
  have hla:=ha.len
  have hlb:=hb.len
  have hta:(digs x).take (N+1)=digs x:=List.take_of_length_le (by omega)
  have htb:(digs y).take (N+1)=digs y:=List.take_of_length_le (by omega)
  have HTA:=Lib.hid hta
  have HTB:=Lib.hid htb
  have HSUM:=Lib.hid hsum
  clear hN4 hla hlb hta htb hsum
  go_enter Tryz.func214,Tryz.ntmps214
  go_wp2_with (at_make;refine wpList_make_full _ rfl _ _ 140 rfl w.heap.size 168 i0 (.int .u64 0) 1 Tryz.underlying140 hi0 hz0 hz1 _ _ _ _ (N+1) rfl rfl (by omega) (by omega) ?b2 ?b3 (Nat.le_refl _) ?_)
  case b2=>rw [hz2];omega
  case b3=>unfold maxLen;omega
  intro w0 hown0 hgrow0
  have hrow0:=zas.made hown0
  have hbel0:Below w.heap.size w w0:=(Below.refl _ _).grown hgrow0 (Nat.le_refl _) (fun k h=>by cases h)
  clear hown0
  go_wp2
  clear hgrow0
  go_loopw [6,17] (fun cy s wr=>∃ k c0:Nat,k≤N+1∧c0≤1∧s = .int .i64 k∧cy = .int .u64 c0∧zqq w wr (N+1) (digs x) (digs y) k c0) (fun _ s _=>N+1 - (intOf s).toNat)
  case atStart=>exact ⟨0,0,by omega,by omega,rfl,rfl,_,hrow0,Wf.replicate _,by simp,hbel0⟩
  case round=>
   obtain ⟨k,c0,hk,hc0,rfl,rfl,ls,hrow,hwf,hval,hbel⟩:=hrel
   have HV:=Lib.hid hval
   clear hval
   by_cases hkn:k<N+1
   ·have K1:=Lib.hid (zcE A _ c (digs x) k _ wr (ha.below hbel).words hn)
    have K2:=Lib.hid (zcE A' _ c' (digs y) k _ wr (hb.below hbel).words hn')
    have hls:k<ls.length:=by rw [hrow.len];omega
    have hcs:=hrow.cell k (by omega)
    have hfs:=hrow.free k
    have hxB:=zar (zak x) k
    have hyB:=zar (zak y) k
    obtain ⟨xk,hgx⟩:∃ xk,(digs x).getD k 0=xk:=⟨_,rfl⟩
    obtain ⟨yk,hgy⟩:∃ yk,(digs y).getD k 0=yk:=⟨_,rfl⟩
    rw [hgx] at K1 hxB
    rw [hgy] at K2 hyB
    generalize ls.getD k 0=old at hcs
    obtain ⟨t,ht⟩:∃ t,t=c0+(xk+yk):=⟨_,rfl⟩
    obtain ⟨s,hs⟩:∃ s,s=t % B:=⟨_,rfl⟩
    obtain ⟨d,hd⟩:∃ d,d=t / B:=⟨_,rfl⟩
    have hsB:s<B:=by rw [hs];exact Nat.mod_lt _ zaA
    have hd1:d≤1:=by rw [hd];unfold B;omega
    have HP:Hid (val ((ls.set k s).take (k+1))+B ^ (k+1)*d=val ((digs x).take (k+1))+val ((digs y).take (k+1))):=
     zeF ls _ _ k hls s c0 d HV.out (by rw [hgx,hgy,hs,hd,Nat.mod_add_div,ht];omega)
    have ht2:t<4000000000:=by omega
    have es:((t:Nat):Int) % 1000000000=(s:Int):=by rw [hs];unfold B;omega
    have ed:((t:Nat):Int) / 1000000000=(d:Int):=by rw [hd];unfold B;omega
    have et:(c0:Int)+((xk:Int)+(yk:Int))=(t:Int):=by omega
    clear hgx hgy hs hd ht
    have hrow':=Lib.hid (hrow.set k s)
    have hwf':=Lib.hid (hwf.set k hsB)
    go_wp2_with fail
    refine K1.out.mono ?_
    rintro e w1 ⟨rfl,rfl⟩
    go_wp2_with fail
    refine K2.out.mono ?_
    rintro e w1 ⟨rfl,rfl⟩
    go_wp2
    go_roundw
    case rel=>exact ⟨k+1,d,by omega,hd1,by go_num,rfl,_,hrow'.out,hwf'.out,HP.out,hbel.setCell (Nat.le_refl _) _⟩
    case measure=>simp [intOf]<;>omega
   ·obtain rfl:k=N+1:=by omega
    have h1:=HV.out
    rw [HTA.out,HTB.out,zai,zai,List.take_of_length_le (by rw [hrow.len];omega)] at h1
    have hv:=(zqy h1 HSUM.out).2
    have ht:=zbF (some ⟨w.heap.size,0,none⟩) (N+1) (N+1) ls wr hrow.words hwf (Nat.le_refl _) (by unfold maxLen;omega)
    rw [hv] at ht
    have HT:=Lib.hid ht
    clear ht hv h1
    go_wp2_with fail
    refine HT.out.mono ?_
    rintro e w1 ⟨m,rfl,hn1,rfl⟩
    go_wp2
    go_ret
    exact ⟨_,m,_,rfl,hn1,hbel⟩
def znr (w wr:World) (N:Nat) (la lb:List Nat) (k b0:Nat):Prop:=
 ∃ ls,zas wr w.heap.size w.heap.size N N ls∧Wf ls∧val (ls.take k)+val (lb.take k)=val (la.take k)+B ^ k*b0∧Below w.heap.size w wr
set_option maxHeartbeats 2000000 in
set_option maxRecDepth 100000 in
theorem zeC (A A':Option Addr) (n c n' c' x y:Nat) (w:World) (ha:NatD w w.heap.size A n c x) (hb:NatD w w.heap.size A' n' c' y) (hyx:y≤x) (hn:n≤1099511627776) (hn':n'≤1099511627776) :
  Calls Tryz.prog 216 #[.slice A n c,.slice A' n' c'] w (zqw w (x - y)):=by
 obtain ⟨i0,hi0,hz0,hz1,hz2⟩:=info_parts zbA
 have hla:=ha.len
 have hlb:=hb.len
 have hle:n'≤n:=by rw [←hla,←hlb];exact zac hyx
 have hta:(digs x).take n=digs x:=List.take_of_length_le (by omega)
 have htb:(digs y).take n=digs y:=List.take_of_length_le (by omega)
 have hxB:x<B ^ n:=by have:=zaa x;rwa [hla] at this
 have HTA:=Lib.hid hta
 have HTB:=Lib.hid htb
 have HXB:=Lib.hid hxB
 clear hla hlb hta htb hxB
 go_enter Tryz.func216,Tryz.ntmps216
 go_wp2_with (at_make;refine wpList_make_full _ rfl _ _ 140 rfl w.heap.size 168 i0 (.int .u64 0) 1 Tryz.underlying140 hi0 hz0 hz1 _ _ _ _ n rfl rfl (by omega) (by omega) ?b2 ?b3 (Nat.le_refl _) ?_)
 case b2=>rw [hz2];omega
 case b3=>unfold maxLen;omega
 intro w0 hown0 hgrow0
 have hrow0:=zas.made hown0
 have hbel0:Below w.heap.size w w0:=(Below.refl _ _).grown hgrow0 (Nat.le_refl _) (fun k h=>by cases h)
 clear hown0
 go_wp2
 clear hgrow0
 go_loopw [6,14] (fun cy s wr=>∃ k b0:Nat,k≤n∧b0≤1∧s = .int .i64 k∧cy = .int .u64 b0∧znr w wr n (digs x) (digs y) k b0) (fun _ s _=>n - (intOf s).toNat)
 case atStart=>exact ⟨0,0,by omega,by omega,rfl,rfl,_,hrow0,Wf.replicate _,by simp,hbel0⟩
 case round=>
  obtain ⟨k,b0,hk,hb0,rfl,rfl,ls,hrow,hwf,hval,hbel⟩:=hrel
  have HV:=Lib.hid hval
  clear hval
  by_cases hkn:k<n
  ·obtain ⟨ad,rfl,hba,hca⟩:=(ha.below hbel).words.word (k:=k) hkn
   have K2:=Lib.hid (fun q=>zcE A' n' c' (digs y) k _ (wr.drewN q) (hb.below hbel).words hn')
   have hls:k<ls.length:=by rw [hrow.len];omega
   have hcs:=hrow.cell k (by omega)
   have hfs:=hrow.free k
   have hxB:=zar (zak x) k
   have hyB:=zar (zak y) k
   obtain ⟨xk,hgx⟩:∃ xk,(digs x).getD k 0=xk:=⟨_,rfl⟩
   obtain ⟨yk,hgy⟩:∃ yk,(digs y).getD k 0=yk:=⟨_,rfl⟩
   rw [hgx] at hca hxB
   rw [hgy] at K2 hyB
   generalize ls.getD k 0=old at hcs
   obtain ⟨t,ht⟩:∃ t,t=1000000000+xk - yk - b0:=⟨_,rfl⟩
   obtain ⟨s,hs⟩:∃ s,s=t % B:=⟨_,rfl⟩
   obtain ⟨d,hd⟩:∃ d,d=1 - t / B:=⟨_,rfl⟩
   have hsB:s<B:=by rw [hs];exact Nat.mod_lt _ zaA
   have hd1:d≤1:=by rw [hd];exact Nat.sub_le _ _
   have ht2:t<2000000000:=by omega
   have HP:Hid (val ((ls.set k s).take (k+1))+val ((digs y).take (k+1))=val ((digs x).take (k+1))+B ^ (k+1)*d):=
    zdX ls _ _ k hls s b0 d HV.out (by rw [hgx,hgy,hs,hd];unfold B;omega)
   have es:((t:Nat):Int) % 1000000000=(s:Int):=by rw [hs];unfold B;omega
   have eq:((t:Nat):Int) / 1000000000=1 - (d:Int):=by rw [hd];unfold B;omega
   have ed:(1:Int) - (1 - (d:Int))=(d:Int):=by omega
   have e1:IntKind.u64.wrap (1000000000+(xk:Int))=1000000000+(xk:Int):=IntWalk.u64_in _ (by omega)
   have e2:IntKind.u64.wrap (1000000000+(xk:Int) - (yk:Int))=1000000000+(xk:Int) - (yk:Int):=IntWalk.u64_in _ (by omega)
   have e3:IntKind.u64.wrap (1000000000+(xk:Int) - (yk:Int) - (b0:Int))=(t:Int):=by rw [IntWalk.u64_in _ (by omega)];omega
   have hp1:(0:Int)≤(k:Int):=by omega
   have hp2:(k:Int)<(n:Int):=by omega
   clear hgx hgy hs hd ht
   have hrow':=Lib.hid (hrow.set k s)
   have hwf':=Lib.hid (hwf.set k hsB)
   go_upto_region 6 with (fail)
   go_quiet ((go_at_call 251;exact zcd (K2.out _)))
   clear e1 e2 e3
   go_wp2
   go_roundw
   case rel=>exact ⟨k+1,d,by omega,hd1,by go_num,rfl,_,hrow'.out,hwf'.out,HP.out,(zab hbel _).setCell (Nat.le_refl _) _⟩
   case measure=>simp [intOf]<;>omega
  ·obtain rfl:k=n:=by omega
   have h1:=HV.out
   rw [HTA.out,HTB.out,zai,zai,List.take_of_length_le (by rw [hrow.len];omega)] at h1
   have h2:val ls<B ^ k:=by have:=za9 hwf;rwa [hrow.len] at this
   have hv:val ls=x - y:=Bn.minus_end _ _ _ _ _ h1 h2 hyx hb0
   have ht:=zbF (some ⟨w.heap.size,0,none⟩) k k ls wr hrow.words hwf (Nat.le_refl _) (by unfold maxLen;omega)
   rw [hv] at ht
   have HT:=Lib.hid ht
   clear ht hv h1 h2
   go_wp2_with fail
   refine HT.out.mono ?_
   rintro e w1 ⟨m,rfl,hn1,rfl⟩
   go_wp2
   go_ret
   exact ⟨_,m,_,rfl,Nat.le_refl _,hn1,hbel⟩
theorem zmi (A A':Option Addr) (n c n' c' x y:Nat) (w:World) (ha:NatD w w.heap.size A n c x) (hb:NatD w w.heap.size A' n' c' y) (hyx:y≤x) (hn:n≤1099511627776) (hn':n'≤1099511627776) :
  Calls Tryz.prog 216 #[.slice A n c,.slice A' n' c'] w (RetD w (x - y)):=
 (zeC A A' n c n' c' x y w ha hb hyx hn hn').mono fun _ _ h=>h.ret
def Weak (l:List Nat):Prop:=(∀ k,l.getD k 0≤B)∧val l≤B ^ l.length
theorem Weak.wf {l:List Nat} (h:Wf l):Weak l:=⟨fun k=>Nat.le_of_lt (zar h k),Nat.le_of_lt (za9 h)⟩
theorem Weak.one {x:Nat} (h:x≤B):Weak [x]:=⟨fun k=>by
 rcases k with _ | k
 ·simpa using h
 ·simp,by simpa using h⟩
theorem zkl (l la lb:List Nat) (i n' c:Nat) (hk:i+n'<l.length) (hv:val (l.set (i+n') c)=val (la.take (i+1))*val lb) (hwa:Wf la) (hb:val lb≤B ^ n'):c<B:=by
 have h1:=zav (l.set (i+n') c) (i+n'+1) (by rw [List.length_set];exact hk)
 rw [zaK l (i+n') c hk] at h1
 have h2:val (la.take (i+1))<B ^ (i+1):=Nat.lt_of_lt_of_le (za9 (hwa.take _)) (Nat.pow_le_pow_right zaA (by rw [List.length_take];omega))
 have h3:val (la.take (i+1))*val lb≤val (la.take (i+1))*B ^ n':=Nat.mul_le_mul_left _ hb
 have h4:val (la.take (i+1))*B ^ n'<B ^ (i+1)*B ^ n':=Nat.mul_lt_mul_of_pos_right h2 (Nat.pow_pos zaA)
 have e5:B ^ (i+n')*B=B ^ (i+1)*B ^ n':=by
  rw [←Nat.pow_succ,show (i+n').succ=i+1+n' from by omega,Nat.pow_add]
 have h5:B ^ (i+n')*c<B ^ (i+n')*B:=by
  rw [e5]
  omega
 exact Nat.lt_of_mul_lt_mul_left h5
def zoD (w wr:World) (n n':Nat) (la lb:List Nat) (i:Nat):Prop:=
 ∃ ls,zas wr w.heap.size w.heap.size (n+n') (n+n') ls∧Wf ls∧val ls=val (la.take i)*val lb∧(∀ t,i+n'≤t→ls.getD t 0=0)∧Below w.heap.size w wr
def zpW (w wr:World) (n n':Nat) (la lb:List Nat) (i j c:Nat):Prop:=
 ∃ ls,zas wr w.heap.size w.heap.size (n+n') (n+n') ls∧Wf ls∧val ls+B ^ (i+j)*c=val (la.take i)*val lb+B ^ i*(la.getD i 0*val (lb.take j))∧(∀ t,i+n'≤t→ls.getD t 0=0)∧Below w.heap.size w wr
set_option maxHeartbeats 4000000 in
set_option maxRecDepth 100000 in
theorem zgO (A A':Option Addr) (n c n' c' x:Nat) (lb:List Nat) (w:World) (ha:NatD w w.heap.size A n c x) (hb:zaB w w.heap.size A' n' lb) (hw:Weak lb) (hn:n≤1099511627776) (hn':n'≤1099511627776) :
  Calls Tryz.prog 163 #[.slice A n c,.slice A' n' c'] w (zqw w (x*val lb)):=by
 obtain ⟨i0,hi0,hz0,hz1,hz2⟩:=info_parts zbA
 have hla:=ha.len
 have hlb:=hb.len
 have hvb:=hw.2
 rw [hlb] at hvb
 have HA:=Lib.hid hla
 have HB:=Lib.hid hlb
 have HVB:=Lib.hid hvb
 have HW:=Lib.hid hw.1
 clear hla hlb hvb hw
 go_enter Tryz.func163,Tryz.ntmps163
 go_wp2_with (at_make;refine wpList_make_full _ rfl _ _ 140 rfl w.heap.size 168 i0 (.int .u64 0) 1 Tryz.underlying140 hi0 hz0 hz1 _ _ _ _ (n+n') rfl rfl (by omega) (by omega) ?b2 ?b3 (Nat.le_refl _) ?_)
 case b2=>rw [hz2];omega
 case b3=>unfold maxLen;omega
 intro w0 hown0 hgrow0
 have hbel0:Below w.heap.size w w0:=(Below.refl _ _).grown hgrow0 (Nat.le_refl _) (fun k h=>by cases h)
 have hrow0:=zas.made hown0
 clear hown0 hgrow0
 go_wp2
 go_loopw [19] (fun s wr=>∃ i:Nat,i≤n∧s = .int .i64 i∧zoD w wr n n' (digs x) lb i) (fun s _=>n - (intOf s).toNat)
 case atStart=>exact ⟨0,by omega,rfl,_,hrow0,Wf.replicate _,by simp [zaL],fun t _=>zbO _ _,hbel0⟩
 case round=>
  obtain ⟨i,hi,rfl,ls,hrow,hwf,hval,hz,hbel⟩:=hrel
  obtain ⟨wo,rfl⟩:∃ wo:World,wo=wr:=⟨_,rfl⟩
  have HV:=Lib.hid hval
  have HZ:=Lib.hid hz
  clear hval hz
  by_cases hin:i<n
  ·obtain ⟨ad,rfl,hba,hca⟩:=(ha.below hbel).words.word (k:=i) hin
   have hxB:=zar (zak x) i
   obtain ⟨f,hgx⟩:∃ f,(digs x).getD i 0=f:=⟨_,rfl⟩
   rw [hgx] at hca hxB
   have HF:=Lib.hid hgx
   clear hgx
   go_wp2_with fail
   go_loopw [8,26] (fun cy s wr=>∃ j c0:Nat,j≤n'∧c0≤1000000000∧s = .int .i64 j∧cy = .int .u64 c0∧zpW w wr n n' (digs x) lb i j c0) (fun _ s _=>n' - (intOf s).toNat)
   case atStart=>exact ⟨0,0,by omega,by omega,rfl,rfl,ls,hrow,hwf,by rw [HV.out];simp,HZ.out,hbel⟩
   case round=>
    obtain ⟨j,c0,hj,hc0,rfl,rfl,l2,hrow2,hwf2,hval2,hz2',hbel2⟩:=hrel
    have HV2:=Lib.hid hval2
    have HZ2:=Lib.hid hz2'
    clear hval2 hz2'
    by_cases hjn:j<n'
    ·obtain ⟨ad',rfl,hbb,hcb⟩:=zaB.word (zae.below hb hbel2) (k:=j) hjn
     have hyB:=HW.out j
     obtain ⟨yk,hgy⟩:∃ yk,lb.getD j 0=yk:=⟨_,rfl⟩
     rw [hgy] at hcb hyB
     have hcs:=hrow2.cell (i+j) (by omega)
     have hfs:=hrow2.free (i+j)
     have hoB:=zar hwf2 (i+j)
     obtain ⟨o,hgo⟩:∃ o,l2.getD (i+j) 0=o:=⟨_,rfl⟩
     rw [hgo] at hcs hoB
     obtain ⟨p,hp⟩:∃ p,p=f*yk:=⟨_,rfl⟩
     have hpB:p≤999999999000000000:=by
      rw [hp];exact Nat.le_trans (Nat.mul_le_mul (show f≤999999999 by omega) (show yk≤1000000000 from hyB)) (by decide)
     have em:(f:Int)*(yk:Int)=(p:Int):=by rw [hp];exact (Int.natCast_mul f yk).symm
     obtain ⟨t,ht⟩:∃ t,t=c0+(p+o):=⟨_,rfl⟩
     obtain ⟨lo,hlo⟩:∃ lo,lo=t % B:=⟨_,rfl⟩
     obtain ⟨hi',hhi⟩:∃ hi',hi'=t / B:=⟨_,rfl⟩
     have hloB:lo<B:=by rw [hlo];exact Nat.mod_lt _ zaA
     have ht2:t≤1000000000999999999:=by omega
     have hhiB:hi'≤1000000000:=by rw [hhi];unfold B;omega
     have e1:lo+B*hi'=f*yk+o+c0:=by rw [hlo,hhi,Nat.mod_add_div,←hp,ht];omega
     have HP:Hid (val (l2.set (i+j) lo)+B ^ (i+(j+1))*hi'=val ((digs x).take i)*val lb+B ^ i*((digs x).getD i 0*val (lb.take (j+1)))):=
      zc6 l2 lb i j _ _ lo hi' c0 (by rw [hrow2.len];omega) HV2.out (by rw [hgy,hgo,HF.out];exact e1)
     have HZ3:Hid (∀ t,i+n'≤t→(l2.set (i+j) lo).getD t 0=0):=fun t ht=>by rw [zaz _ _ _ _ (by omega)];exact HZ2.out t ht
     have es:((t:Nat):Int) % 1000000000=(lo:Int):=by rw [hlo];unfold B;omega
     have ed:((t:Nat):Int) / 1000000000=(hi':Int):=by rw [hhi];unfold B;omega
     have et:(c0:Int)+((p:Int)+(o:Int))=(t:Int):=by omega
     clear e1 hgy hgo hp ht hlo hhi
     have hrow3:=Lib.hid (hrow2.set (i+j) lo)
     have hwf3:=Lib.hid (hwf2.set (i+j) hloB)
     go_wp2
     go_roundw
     case rel=>exact ⟨j+1,hi',by omega,hhiB,by go_num,rfl,_,hrow3.out,hwf3.out,HP.out,HZ3.out,hbel2.setCell (Nat.le_refl _) _⟩
     case measure=>simp [intOf]<;>omega
    ·obtain rfl:j=n':=by omega
     have hcs:=hrow2.cell (i+j) (by omega)
     have hfs:=hrow2.free (i+j)
     have hlen:i+j<l2.length:=by rw [hrow2.len];omega
     have HP:Hid (val (l2.set (i+j) c0)=val ((digs x).take (i+1))*val lb):=
      zd7 l2 (digs x) lb i j c0 hlen (HZ2.out _ (Nat.le_refl _)) HB.out HV2.out
     have hcB:Hid (c0<B):=zkl l2 (digs x) lb i j c0 hlen HP.out (zak x) HVB.out
     have HZ3:Hid (∀ t,i+1+j≤t→(l2.set (i+j) c0).getD t 0=0):=fun t ht=>by rw [zaz _ _ _ _ (by omega)];exact HZ2.out t (by omega)
     generalize l2.getD (i+j) 0=old at hcs
     clear hlen
     go_wp2
     go_roundw
     case rel=>exact ⟨i+1,by omega,by go_num,_,hrow2.set (i+j) c0,hwf2.set _ hcB.out,HP.out,HZ3.out,hbel2.setCell (Nat.le_refl _) _⟩
     case measure=>simp [intOf]<;>omega
  ·obtain rfl:i=n:=by omega
   have hv:val ls=x*val lb:=by rw [HV.out,List.take_of_length_le (by rw [HA.out];exact Nat.le_refl _),zai]
   have ht:=zbF (some ⟨w.heap.size,0,none⟩) (i+n') (i+n') ls wo hrow.words hwf (Nat.le_refl _) (by unfold maxLen;omega)
   rw [hv] at ht
   have HC:=Lib.hid ht
   clear ht hv
   go_wp2_with fail
   refine HC.out.mono ?_
   rintro e w1 ⟨m,rfl,hn1,rfl⟩
   go_wp2
   go_ret
   exact ⟨_,m,_,rfl,Nat.le_refl _,hn1,hbel⟩
theorem zl5 (A A':Option Addr) (n c n' c' x:Nat) (lb:List Nat) (w:World) (ha:NatD w w.heap.size A n c x) (hb:zaB w w.heap.size A' n' lb) (hw:Weak lb) (hn:n≤1099511627776) (hn':n'≤1099511627776) :
  Calls Tryz.prog 163 #[.slice A n c,.slice A' n' c'] w (RetD w (x*val lb)):=
 (zgO A A' n c n' c' x lb w ha hb hw hn hn').mono fun _ _ h=>h.ret
theorem zbN (A A':Option Addr) (n c n' c' x y:Nat) (w:World) (ha:NatD w w.heap.size A n c x) (hb:NatD w w.heap.size A' n' c' y) (hn:n≤1099511627776) (hn':n'≤1099511627776) :
  Calls Tryz.prog 163 #[.slice A n c,.slice A' n' c'] w (RetD w (x*y)):=by
 have h:=zl5 A A' n c n' c' x (digs y) w ha hb.words (Weak.wf (zak y)) hn hn'
 rwa [zai] at h
theorem ziC (A:Option Addr) (n c:Nat) (l:List Nat) (k:Nat) (B:Nat) (w:World) (h1:1≤k) (hr:zaB w B A n l) (hn:n≤1099511627776) :
  Calls Tryz.prog 251 #[.slice A n c,.int .i64 ((k:Int) - 1)] w fun e w'=>e = .returned (.int .u64 ((l.getD (k - 1) 0:Nat):Int))∧w=w':=
 (zf4 A n c l _ B w hr hn).mono fun e w' ⟨he,hw⟩=>⟨by rw [he,if_pos (by omega),show ((k:Int) - 1).toNat=k - 1 from by omega],hw⟩
theorem zjg (A:Option Addr) (n c:Nat) (l:List Nat) (k:Nat) (B:Nat) (w:World) (hr:zaB w B A n l) (hn:n≤1099511627776) :
  Calls Tryz.prog 251 #[.slice A n c,.int .i64 ((k:Int) - 2)] w fun e w'=>e = .returned (.int .u64 ((if 2≤k then l.getD (k - 2) 0 else 0:Nat):Int))∧w=w':=
 (zf4 A n c l _ B w hr hn).mono fun e w' ⟨he,hw⟩=>⟨by
  rw [he]
  by_cases h:2≤k
  ·rw [if_pos (by omega),if_pos h,show ((k:Int) - 2).toNat=k - 2 from by omega]
  ·rw [if_neg (by omega),if_neg h],hw⟩
theorem zqT {l:List Nat} (h:Wf l) (k:Nat):(if 2≤k then l.getD (k - 2) 0 else 0)<1000000000:=by
 split
 ·exact zar h _
 ·omega
theorem zrc (hi cy s lo z h1:Nat) (e1:lo+18446744073709551616*hi=h1*1000000000) (e2:s+18446744073709551616*cy=lo+z):(hi+cy)*18446744073709551616+s=h1*1000000000+z:=by omega
set_option maxHeartbeats 2000000 in
set_option maxRecDepth 100000 in
theorem zh2 (A A':Option Addr) (n c n' c' r y:Nat) (w:World) (ha:NatD w w.heap.size A n c r) (hb:NatD w w.heap.size A' n' c' y) (h1:1≤n') (hry:r<y*B) (hn:n≤1099511627776) (hn':n'≤1099511627776) :
  Calls Tryz.prog 252 #[.slice A n c,.slice A' n' c'] w fun e w'=>e = .returned (.int .u64 ((estA r n' / estB y n':Nat):Int))∧∃ k,w'=w.drewN k:=by
 have hlen:=hb.len
 have hok:=zqL hlen h1 hry
 have hpos:=zke hlen h1
 have hqB:r / y<B:=Nat.div_lt_of_lt_mul hry
 have hBB:=zrh (y:=y) (n:=n')
 have W1:=Lib.hid (fun W h=>zcE A n c (digs r) n' w.heap.size W h hn)
 have W2:=Lib.hid (fun W h=>ziC A n c (digs r) n' w.heap.size W h1 h hn)
 have W3:=Lib.hid (fun W h=>zjg A n c (digs r) n' w.heap.size W h hn)
 have W4:=Lib.hid (fun W h=>ziC A' n' c' (digs y) n' w.heap.size W h1 h hn')
 have W5:=Lib.hid (fun W h=>zjg A' n' c' (digs y) n' w.heap.size W h hn')
 have b1:=zar (zak r) n'
 have b2:=zar (zak r) (n' - 1)
 have b3:=zqT (zak r) n'
 have b4:=zar (zak y) (n' - 1)
 have b5:=zqT (zak y) n'
 have hwa:=Lib.hid ha.words
 have hwb:=Lib.hid hb.words
 unfold estA estB at hok hpos hBB ⊢
 generalize (digs r).getD n' 0=u at *
 generalize (digs r).getD (n' - 1) 0=v at *
 generalize (if 2≤n' then (digs r).getD (n' - 2) 0 else 0)=z at *
 generalize (digs y).getD (n' - 1) 0=p at *
 generalize (if 2≤n' then (digs y).getD (n' - 2) 0 else 0)=o at *
 unfold B at *
 obtain ⟨h,hh⟩:∃ h,h=u*1000000000+v:=⟨_,rfl⟩
 obtain ⟨d,hd⟩:∃ d,d=p*1000000000+o:=⟨_,rfl⟩
 rw [←hh,←hd] at hok
 rw [←hd] at hpos hBB
 rw [←hh,←hd]
 have hhb:h<1000000000000000000:=by omega
 obtain ⟨hi,lo,e1,hlo,hhi,hmul⟩:=zew h 1000000000 (by omega) (by omega)
 obtain ⟨s,cy,e2,hsB,hcy,hadd⟩:=zbP lo z 0 hlo (by omega) (by omega)
 have e3:=zrc hi cy s lo z h (by rw [←e1]) (by omega)
 have hq:(h*1000000000+z) / d≤1000000000:=by omega
 have hlt:h*1000000000+z<d*1000000001:=by
  have h6:=Nat.lt_mul_div_succ (h*1000000000+z) (show 0<d by omega)
  exact Nat.lt_of_lt_of_le h6 (Nat.mul_le_mul_left d (by omega))
 have hic:hi+cy<d:=by omega
 have hh9:hi+cy<18446744073709551616:=by omega
 have hdd:d<18446744073709551616:=by omega
 have HDIV:=Lib.hid (fun W=>zge (hi+cy) s d W hic hsB hdd)
 replace hadd:∀ w:World,(callFunc 244 #[.int .u64 lo,.int .u64 z,.int .u64 0]).run Tryz.prog w = .ok (.value (.tuple #[.int .u64 s,.int .u64 cy])) w:=hadd
 have eh:(u:Int)*1000000000+(v:Int)=(h:Int):=by omega
 have edd:(p:Int)*1000000000+(o:Int)=(d:Int):=by omega
 have HMUL:=Lib.hid hmul
 have E3:=Lib.hid e3
 obtain ⟨q,rm,e4,hrm,_,hcall⟩:=HDIV.out w
 have e5:(h*1000000000+z) / d=q:=by
  rw [←E3.out,e4,Nat.add_comm,Nat.add_mul_div_right _ _ (by omega),Nat.div_eq_of_lt hrm,Nat.zero_add]
 have E5:=Lib.hid e5
 have HC:=Lib.hid hcall
 clear e4 e5 hcall
 clear hok hpos hBB hqB hlen e1 e2 e3 hq hlt hic hh hd hmul hry hrm
 go_enter Tryz.func252,Tryz.ntmps252
 go_wp2_with fail
 refine (W1.out _ hwa.out).mono ?_
 rintro e w1 ⟨rfl,rfl⟩
 go_wp2_with fail
 refine (W2.out _ hwa.out).mono ?_
 rintro e w1 ⟨rfl,rfl⟩
 go_wp2_with fail
 refine (HMUL.out _).mono ?_
 rintro e w1 ⟨rfl,hw1⟩
 obtain rfl:w=w1:=hw1.symm
 clear hw1
 go_wp2_with fail
 refine (W3.out _ hwa.out).mono ?_
 rintro e w1 ⟨rfl,rfl⟩
 go_wp2_with fail
 refine (W4.out _ hwb.out).mono ?_
 rintro e w1 ⟨rfl,rfl⟩
 go_wp2_with fail
 refine (W5.out _ hwb.out).mono ?_
 rintro e w1 ⟨rfl,rfl⟩
 go_wp2_with fail
 refine HC.out.mono ?_
 rintro e w1 ⟨rfl,k,rfl⟩
 go_wp2
 go_ret
 exact ⟨by rw [E5.out];rfl,k,rfl⟩
end Go.Proofs.YtmkihdjolnlccaaGreatDoor
namespace Go.Proofs.YtmkihdjolnlccaaGreatDoor
open Go.RowKit
def f32v (x:Nat):Value := .float .f32 x
def zcR (b:Bool):Value := .bool b
def u16v (d:Nat):Value := .int .u16 (d:Int)
def natv (d:Nat):Value := .int .i64 (d:Int)
theorem zpM:∀ l:List Nat,∀ u ∈ l.map u16v,u.oneCell'=true:=by
 intro l u hu
 obtain ⟨d,_,rfl⟩:=List.mem_map.1 hu
 rfl
theorem zqf:∀ l:List Nat,∀ u ∈ l.map natv,u.oneCell'=true:=by
 intro l u hu
 obtain ⟨d,_,rfl⟩:=List.mem_map.1 hu
 rfl
theorem zae.cellM {α:Type} {w:World} {B n:Nat} {A:Option Addr} {l:List α} {f : α→Value} (h:zae w B 1 A n (l.map f)) {k:Nat} (hk:k<n) :
  ∃ (ad:Addr) (hl:k<l.length),A=some ad∧ad.block<B∧w.cell? (ad.add k)=some (f l[k]):=by
 obtain ⟨ad,u,hA,hb,hu,hc⟩:=h.at_ hk
 have hl:k<l.length:=by have:=h.1;rw [List.length_map] at this;omega
 rw [List.getElem?_map,List.getElem?_eq_getElem hl] at hu
 injection hu with hu
 exact ⟨ad,hl,hA,hb,by rw [hc,←hu]⟩
theorem zae.lenM {α:Type} {w:World} {B n:Nat} {A:Option Addr} {l:List α} {f : α→Value} (h:zae w B 1 A n (l.map f)):l.length=n:=by
 have:=h.1;rw [List.length_map] at this;omega
theorem zae.later {w w':World} {size n:Nat} {A:Option Addr} {xs:List Value} (h:zae w w.heap.size size A n xs) (hb:Below w.heap.size w w'):zae w' w'.heap.size size A n xs:=(h.below hb).more hb.size
def zcG {α:Type} (f : α→Value) (w:World) (B:Nat) (A:Option Addr) (n:Nat) (rows:List (List α)):Prop:=
 rows.length=n∧∃ vs:List Value,zae w B 1 A n vs∧∀ i (h:i<rows.length),∃ A' c',vs[i]? = some (.slice A' rows[i].length c')∧rows[i].length≤c'∧c'≤maxLen∧zae w B 1 A' rows[i].length (rows[i].map f)
section
variable {α:Type} {f : α→Value} {w w':World} {B B' n:Nat} {A:Option Addr} {rows:List (List α)}
theorem zcG.below (h:zcG f w B A n rows) (hb:Below B w w'):zcG f w' B A n rows:=by
 obtain ⟨hl,vs,hr,hv⟩:=h
 exact ⟨hl,vs,hr.below hb,fun i hi=>by
  obtain ⟨A',c',h1,h2,h3,h4⟩:=hv i hi
  exact ⟨A',c',h1,h2,h3,h4.below hb⟩⟩
theorem zcG.more (h:zcG f w B A n rows) (hB:B≤B'):zcG f w B' A n rows:=by
 obtain ⟨hl,vs,hr,hv⟩:=h
 exact ⟨hl,vs,hr.more hB,fun i hi=>by
  obtain ⟨A',c',h1,h2,h3,h4⟩:=hv i hi
  exact ⟨A',c',h1,h2,h3,h4.more hB⟩⟩
theorem zcG.later (h:zcG f w w.heap.size A n rows) (hb:Below w.heap.size w w'):zcG f w' w'.heap.size A n rows:=(h.below hb).more hb.size
theorem zcG.row (h:zcG f w B A n rows) {k:Nat} (hk:k<n) :
  ∃ (ad:Addr) (hl:k<rows.length) (A':Option Addr) (c':Nat),A=some ad∧ad.block<B∧w.cell? (ad.add k)=some (.slice A' rows[k].length c')∧rows[k].length≤c'∧c'≤maxLen∧zae w B 1 A' rows[k].length (rows[k].map f):=by
 obtain ⟨hl,vs,hr,hv⟩:=h
 have hk2:k<rows.length:=by omega
 obtain ⟨A',c',h1,h2,h3,h4⟩:=hv k hk2
 obtain ⟨ad,u,hA,hb,hu,hc⟩:=hr.at_ hk
 rw [h1] at hu
 injection hu with hu
 exact ⟨ad,hk2,A',c',hA,hb,by rw [hc,←hu],h2,h3,h4⟩
end
theorem zii {a b c:World} {row:Option Nat} (h:a.grownBy b row) (k:b.grownBy c row):a.grownBy c row:=
 ⟨k.os.trans h.os,k.tape.trans h.tape,k.output.trans h.output,Nat.le_trans h.size k.size,fun i hi hne=>(k.block i (Nat.lt_of_lt_of_le hi h.size) hne).trans (h.block i hi hne)⟩
theorem gset {a b:World} {row:Option Nat} (h:a.grownBy b row) {p:Addr} (hp:a.heap.size≤p.block) (u:Value):a.grownBy (b.setCell p u) row:=
 ⟨h.os,h.tape,h.output,by simpa [World.setCell] using h.size,fun i hi hne=>(Below.heap_setCell b p u i (by omega)).trans (h.block i hi hne)⟩
theorem zgr {a b:World} {B:Nat} (h:a.grownBy b none) (hB:B≤a.heap.size):Below B a b:=(Below.refl _ _).grown h hB (fun k e=>by cases e)
theorem zkV {w:World} {base g n c size:Nat} {e:TypeId} {xs:List Value} (h:w.ownsRow base e size (.slice (some ⟨g,0,none⟩) n c) n xs):base≤g∧g<w.heap.size:=World.ownsRow.lt h g rfl
theorem zcn {w w':World} {base g n c size:Nat} {e:TypeId} {xs:List Value} {row:Option Nat} (h:w.ownsRow base e size (.slice (some ⟨g,0,none⟩) n c) n xs) (hg:w.grownBy w' row) (hr:row≠some g) :
  w'.ownsRow base e size (.slice (some ⟨g,0,none⟩) n c) n xs:=World.ownsRow.kept h hg (.inr (by simpa [Value.ownBlock] using fun e=>hr e.symm))
theorem zda {w:World} {base g n c:Nat} {e:TypeId} {xs:List Value} (h:w.ownsRow base e 1 (.slice (some ⟨g,0,none⟩) n c) n xs) (k:Nat) (u:Value) :
  (w.setCell ⟨g,k,none⟩ u).ownsRow base e 1 (.slice (some ⟨g,0,none⟩) n c) n (xs.set k u):=(World.ownsRow.stored h k u).1
theorem zc0 {w:World} {base g n c:Nat} {e:TypeId} {xs:List Value} (h:w.ownsRow base e 1 (.slice (some ⟨g,0,none⟩) n c) n xs) (k:Nat) (hk:k<n):∃ u,w.cell? ⟨g,k,none⟩=some u:=by
 rw [World.ownsRow.cellAt h k (by omega)]
 have:=h.1
 exact ⟨_,List.getElem?_eq_getElem (by omega)⟩
theorem zbw {w:World} {base g n c:Nat} {e:TypeId} {xs:List Value} (h:w.ownsRow base e 1 (.slice (some ⟨g,0,none⟩) n c) n xs) (k:Nat):w.frozen? ⟨g,k,none⟩=false:=World.ownsRow.frozenAt h k
def CBlk (w:World) (g:Nat) (c:Array Value) (t:TypeId):Prop:=w.heap[g]? = some (.cells c t (0,0))
section
variable {w w':World} {g B:Nat} {c:Array Value} {t:TypeId}
theorem CBlk.new (w:World) (c:Array Value) (t:TypeId) (g:Nat) (hg:g=w.heap.size):CBlk (w.alloc (.cells c t)) g c t:=by subst hg;exact heap_alloc_new w _
theorem CBlk.below (h:CBlk w g c t) (hb:Below B w w') (hg:g<B):CBlk w' g c t:=(hb.block g hg).trans h
theorem CBlk.grown {row:Option Nat} (h:CBlk w g c t) (hb:w.grownBy w' row) (hg:g<w.heap.size) (hr:row≠some g):CBlk w' g c t:=(hb.block g hg (fun e=>hr e.symm)).trans h
theorem CBlk.cell (h:CBlk w g c t) (i:Nat):w.cell? ⟨g,i,none⟩=c[i]? := cell_of_row w g i _ _ _ h
theorem CBlk.frozen (h:CBlk w g c t) (i:Nat):w.frozen? ⟨g,i,none⟩=false:=by
 unfold CBlk at h
 simp [World.frozen?,h]
theorem CBlk.lt (h:CBlk w g c t):g<w.heap.size:=by
 unfold CBlk at h
 rcases Nat.lt_or_ge g w.heap.size with hlt | hge
 ·exact hlt
 ·rw [Array.getElem?_eq_none hge] at h;cases h
theorem CBlk.set0 {v u:Value} (h:CBlk w g #[v] t):CBlk (w.setCell ⟨g,0,none⟩ u) g #[u] t:=heap_setCell_same w g 0 #[v] t u h
end
theorem zep {w:World} {base base' size n:Nat} {e:TypeId} {v:Value} {xs:List Value} (h:w.ownsRow base e size v n xs) (hb:base'≤base):w.ownsRow base' e size v n xs:=by
 refine ⟨h.1,?_⟩
 rcases h.2 with h' | ⟨g',cap',cur,h',hb',r⟩
 ·exact .inl h'
 ·exact .inr ⟨g',cap',cur,h',by omega,r⟩
theorem zbo {w:World} {base size n:Nat} {e:TypeId} {v:Value} {xs:List Value} (h:w.ownsRow base e size v n xs):∃ A c,v = .slice A n c∧n≤c∧c≤maxLen∧zae w w.heap.size size A n xs:=by
 rcases h.2 with ⟨rfl,rfl⟩ | ⟨g,cap,cur,rfl,hb,hg,hnc,hcm,hcs,htake⟩
 ·exact ⟨none,0,rfl,Nat.le_refl _,by unfold maxLen;omega,h.1,fun h0=>absurd h0 (by omega)⟩
 ·exact ⟨some ⟨g,0,none⟩,cap,rfl,hnc,hcm,zae.of_own h⟩
theorem zfG {w:World} {base size n g:Nat} {e:TypeId} {xs:List Value} (h:w.ownsRow base e size (.slice (some ⟨g,0,none⟩) n n) n xs):w.heap[g]? = some (.cells xs.toArray e (0,0)):=by
 rcases h.2 with ⟨h',_⟩ | ⟨g',cap,cur,h',hb,hg,hnc,hcm,hcs,htake⟩
 ·simp at h'
 ·simp only [Value.slice.injEq,Option.some.injEq,Addr.mk.injEq,and_true,true_and] at h'
  obtain ⟨rfl,rfl⟩:=h'
  rw [List.take_of_length_le (by rw [Array.length_toList,hcs];exact Nat.le_refl _)] at htake
  rw [←htake]
  exact hg
theorem zb1 {w:World} {base size n g:Nat} {e:TypeId} {xs:List Value} (h:w.heap[g]? = some (.cells xs.toArray e (0,0))) (hb:base≤g) (hn:n≤maxLen) (hl:xs.length=n*size):w.ownsRow base e size (.slice (some ⟨g,0,none⟩) n n) n xs:=
 ⟨hl,.inr ⟨g,n,xs.toArray,rfl,hb,h,Nat.le_refl _,hn,by simpa using hl,by rw [List.take_of_length_le (by simp;omega)]⟩⟩
end Go.Proofs.YtmkihdjolnlccaaGreatDoor
