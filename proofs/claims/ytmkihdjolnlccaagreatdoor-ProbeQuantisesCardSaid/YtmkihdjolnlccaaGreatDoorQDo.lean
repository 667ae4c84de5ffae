/- Contracts of package rational's naturals: over. -/
import Derived.Test.YtmkihdjolnlccaaGreatDoorQDp
import Derived.Test.YtmkihdjolnlccaaGreatDoorQRead2
import Derived.Shelf.Strconv.ParseUint10At
import Derived.Test.YtmkihdjolnlccaaGreatDoorProg
namespace Go.Proofs.YtmkihdjolnlccaaGreatDoor
open Go.RowKit Dn
theorem zit:∀ (k x:Nat),digs (x / B ^ k)=(digs x).drop k
 | 0,x=>by simp
 | k+1,x=>by
  rcases Nat.eq_zero_or_pos x with rfl | h
  ·simp [digs_zero]
  ·rw [zaZ h,List.drop_succ_cons,←zit k (x / B),Nat.div_div_eq_div_mul,Nat.pow_succ,Nat.mul_comm]
theorem znW (x y i:Nat) (hy:0<y) :
  (digs x).getD i 0+B*(x / B ^ (i+1) % y)<y*B∧x / B ^ i / y=((digs x).getD i 0+B*(x / B ^ (i+1) % y)) / y+B*(x / B ^ (i+1) / y)∧x / B ^ i % y=((digs x).getD i 0+B*(x / B ^ (i+1) % y)) % y:=by
 have ha:=zar (zak x) i
 have hX:=zdQ x i
 generalize (digs x).getD i 0=a at *
 generalize x / B ^ (i+1)=X at *
 generalize x / B ^ i=Z at *
 have hR:=Nat.mod_lt X hy
 have hD:=Nat.mod_add_div X y
 generalize X % y=R at *
 generalize X / y=D at *
 have e:Z=a+B*R+y*(B*D):=by
  rw [hX,←hD,Nat.mul_add,Nat.mul_left_comm B y D]
  omega
 refine ⟨?_,?_,?_⟩
 ·have h1:B*(R+1)≤B*y:=Nat.mul_le_mul_left B hR
  rw [Nat.mul_add,Nat.mul_comm B y] at h1
  have:a<B:=ha
  omega
 ·rw [e,Nat.add_mul_div_left _ _ hy]
 ·rw [e,Nat.add_mul_mod_self_left]
theorem zo3 {x y n n':Nat} (hn:(digs x).length=n) (hn':(digs y).length=n') (h1:1≤n') (hle:n'≤n):x / B ^ (n - n'+1)<y:=by
 have hx:x<B ^ n:=by have:=zaa x;rwa [hn] at this
 have hy:0<y:=by
  rcases Nat.eq_zero_or_pos y with rfl | h
  ·simp [digs_zero] at hn';omega
  ·exact h
 have h2:=zau hy
 rw [hn'] at h2
 apply Nat.lt_of_lt_of_le _ h2
 apply Nat.div_lt_of_lt_mul
 rw [←Nat.pow_add,show n - n'+1+(n' - 1)=n from by omega]
 exact hx
theorem zdg (l:List Nat) (k x:Nat) (hk:k<l.length):val ((l.set k x).drop k)=x+B*val (l.drop (k+1)):=by
 have h1:(l.set k x).drop k=x :: (l.set k x).drop (k+1):=by
  rw [List.drop_eq_getElem_cons (by simpa using hk)]
  simp
 rw [h1,val_cons,List.drop_set_of_lt (by omega)]
theorem zae.dropD {w:World} {B n k:Nat} {ad:Addr} {xs:List Value} (h:zae w B 1 (some ad) n xs) (hk:k≤n):zae w B 1 (some (ad.add k)) (n - k) (xs.drop k):=by
 refine ⟨by rw [List.length_drop,h.1];omega,fun h0 => ?_⟩
 obtain ⟨ad',e,hb,hc⟩:=h.2 (by omega)
 injection e with e
 subst e
 refine ⟨_,rfl,by rw [zaI];exact hb,fun j u hu => ?_⟩
 rw [zeP]
 rw [List.getElem?_drop] at hu
 exact hc _ u hu
theorem NatD.dropW {w:World} {ad:Addr} {n c x k:Nat} (h:NatD w w.heap.size (some ad) n c x) (hk:k≤n):zaB w w.heap.size (some (ad.add k)) (n - k) (digs (x / B ^ k)):=by
 rw [zit]
 have h1:=zae.dropD h.words hk
 rwa [←List.map_drop] at h1
theorem zaB.zero {w:World} {B:Nat} {A:Option Addr}:zaB w B A 0 []:=⟨rfl,fun h=>absurd h (by omega)⟩
theorem zae.cellsD {w:World} {B n:Nat} {a:Addr} {xs:List Value} (h:zae w B 1 (some a) n xs):∀ j u,xs[j]? = some u→w.cell? (a.add j)=some u:=by
 intro j u hu
 have hl:=h.1
 have hj:j<xs.length:=by
  rcases Nat.lt_or_ge j xs.length with h1 | h1
  ·exact h1
  ·rw [List.getElem?_eq_none h1] at hu;cases hu
 obtain ⟨ad,e,_,hc⟩:=h.2 (by omega)
 injection e with e
 subst e
 exact hc j u hu
theorem zhe {w:World} {base size n:Nat} {e:TypeId} {v:Value} {xs:List Value} (h:w.ownsRow base e size v n xs) (hn:0<n):∃ g c,v = .slice (some ⟨g,0,none⟩) n c∧base≤g:=by
 rcases h.2 with ⟨rfl,h0⟩ | ⟨g,cap,cur,rfl,hb,_⟩
 ·omega
 ·exact ⟨g,cap,rfl,hb⟩
theorem NatD.kept {w w':World} {n c x g:Nat} {A:Option Addr} (h:NatD w w.heap.size A n c x) (hg:w.grownBy w' (some g)) (ho:0<n→Off A g):NatD w' w'.heap.size A n c x:=
 ⟨(h.words.kept hg (Nat.le_refl _) ho).more hg.size,h.nc,h.cm⟩
theorem NatD.stored {w:World} {n c x g g' i:Nat} {u:Value} (h:NatD w w.heap.size (some ⟨g,0,none⟩) n c x) (hne:g≠g'):NatD (w.setCell ⟨g',i,none⟩ u) (w.setCell ⟨g',i,none⟩ u).heap.size (some ⟨g,0,none⟩) n c x:=
 h.kept (zaN (World.grownBy.refl w _) (.inl rfl) u) (fun _ ad e=>by injection e with e;subst e;exact hne)
def zfn (w wr:World) (m x y k:Nat) (A:Option Addr) (n c:Nat):Prop:=
 ∃ ls,zas wr w.heap.size w.heap.size m m ls∧Wf ls∧val (ls.drop k)=x / B ^ k / y∧NatD wr wr.heap.size A n c (x / B ^ k % y)∧Below w.heap.size w wr
def zhg (w:World) (x y:Nat) (e:Ending) (w':World):Prop:=
 ∃ A n c A' n' c',e = .returned (.tuple #[.slice A n c,.slice A' n' c'])∧NatD w' w'.heap.size A n c (x / y)∧NatD w' w'.heap.size A' n' c' (x % y)∧Below w.heap.size w w'
set_option maxHeartbeats 400000 in
set_option maxRecDepth 100000 in
theorem zmb (A A':Option Addr) (n c n' c' x y:Nat) (w:World) (ha:NatD w w.heap.size A n c x) (hb:NatD w w.heap.size A' n' c' y) (hlt:x<y) (hn:n≤549755813888) (hn':n'≤549755813888) :
  Calls Tryz.prog 218 #[.slice A n c,.slice A' n' c'] w (zhg w x y):=by
 have hc:=zcv A A' n c n' c' x y w ha hb (by omega) (by omega)
 rw [Bn.ncmp_lt hlt] at hc
 have HC:=Lib.hid hc
 have hd:x / y=0:=Nat.div_eq_of_lt hlt
 have hm:x % y=x:=Nat.mod_eq_of_lt hlt
 have HR:Hid (zhg w x y (.returned (.tuple #[.slice none 0 0,.slice A n c])) w):=⟨none,0,0,A,n,c,rfl,by rw [hd];exact NatD.zero _ _,by rw [hm];exact ha,Below.refl _ _⟩
 clear hc hd hm
 go_enter Tryz.func218,Tryz.ntmps218
 go_wp2_with fail
 refine HC.out.mono ?_
 rintro e w1 ⟨rfl,rfl⟩
 go_wp2
 go_ret2
 exact HR.out
set_option maxHeartbeats 4000000 in
set_option maxRecDepth 100000 in
theorem zl1 (ad:Addr) (A':Option Addr) (n c n' c' x y:Nat) (w:World) (ha:NatD w w.heap.size (some ad) n c x) (hb:NatD w w.heap.size A' n' c' y) (hy:0<y) (hyx:y≤x) (hn:n≤549755813888) (hn':n'≤549755813888) :
  Calls Tryz.prog 218 #[.slice (some ad) n c,.slice A' n' c'] w (zhg w x y):=by
 obtain ⟨i0,hi0,hz0,hz1,hz2⟩:=info_parts zbA
 have hla:=ha.len
 have hlb:=hb.len
 have hc0:∃ r:Int,0≤r∧Bn.ncmp x y=r:=⟨Bn.ncmp x y,by rcases Nat.lt_or_ge y x with h | h;(· rw [Bn.ncmp_gt h];decide);(· rw [show x=y from by omega,Bn.ncmp_eq];exact Int.le_refl 0),rfl⟩
 obtain ⟨r,hr0,hr⟩:=hc0
 have hc:=zcv (some ad) A' n c n' c' x y w ha hb (by omega) (by omega)
 rw [hr] at hc
 have HC:=Lib.hid hc
 have d0:decide (r<0)=false:=by simp;omega
 have h1:1≤n':=by have:=zan hy;omega
 have hle:n'≤n:=by have:=zac hyx;omega
 have htop:=zo3 hla hlb h1 hle
 obtain ⟨m,hm⟩:∃ m,m=n - n'+1:=⟨_,rfl⟩
 have em:(n:Int) - (n':Int)+1=(m:Int):=by omega
 rw [←hm] at htop
 have hmn:m≤n:=by omega
 have hm1:1≤m:=by omega
 have hnc:=ha.nc
 have hcm:=ha.cm
 unfold maxLen at hcm
 have hw0:=Lib.hid (ha.dropW hmn)
 have hlow:n - m≤c - m:=by omega
 have hLA:=Lib.hid hla
 have hLB:=Lib.hid hlb
 have HTOP:=Lib.hid htop
 have HYX:=Lib.hid hyx
 have hmm:=Lib.hid hm
 clear hla hlb hc hr htop hm hyx
 go_enter Tryz.func218,Tryz.ntmps218
 go_wp2_with fail
 refine HC.out.mono ?_
 rintro e w1 ⟨rfl,rfl⟩
 go_wp2_with (at_make;refine wpList_make_full _ rfl _ _ 140 rfl w.heap.size 168 i0 (.int .u64 0) 1 Tryz.underlying140 hi0 hz0 hz1 _ _ _ _ m rfl rfl (by omega) (by omega) ?b2 ?b3 (Nat.le_refl _) ?_)
 case b2=>rw [hz2];omega
 case b3=>unfold maxLen;omega
 intro w0 hown0 hgrow0
 have hbel0:Below w.heap.size w w0:=(Below.refl _ _).grown hgrow0 (Nat.le_refl _) (fun k h=>by cases h)
 have hrow0:=zas.made hown0
 clear hown0 hgrow0
 have hs0:∀ (A:Option Addr) (c7:Nat),zaB w w.heap.size A (n - m) (digs (x / B ^ m))→n - m≤c7→c7≤c→zfn w w0 m x y m A (n - m) c7:=fun A c7 hw h2 h3=>
  ⟨_,hrow0,Wf.replicate _,by rw [List.drop_of_length_le (by simp),Nat.div_eq_of_lt HTOP.out];rfl,⟨by rw [Nat.mod_eq_of_lt HTOP.out];exact (hw.below hbel0).more hbel0.size,h2,by unfold maxLen;omega⟩,hbel0⟩
 have HS2:Hid (zfn w w0 m x y m (some (ad.add m)) (n - m) (c - m)):=hs0 _ _ hw0.out hlow (by omega)
 have HS1:Hid (c=m→zfn w w0 m x y m (some ad) (n - m) 0):=fun e=>hs0 _ _ ⟨hw0.out.1,fun h=>absurd h (by omega)⟩ (by omega) (by omega)
 clear hs0 hrow0 hbel0
 go_wp2
 all_goals
  go_loopg [7,8] m (fun q rs s W=>∃ (k:Nat) (A:Addr) (n1 c1:Nat),k≤m∧s = .int .i64 ((k:Int) - 1)∧rs = .slice (some A) n1 c1∧k≤q∧zfn w W m x y k (some A) n1 c1)
  case atStart=>first | exact ⟨m,_,_,_,Nat.le_refl _,rfl,rfl,Nat.le_refl _,HS2.out⟩ | exact ⟨m,_,_,_,Nat.le_refl _,rfl,rfl,Nat.le_refl _,HS1.out (by assumption)⟩
  case round=>
   obtain ⟨k,a1,n1,c1,hk,rfl,rfl,hq,ls,hrow,hwf,hval,hrest,hbel⟩:=hrel
   by_cases h0:0<k
   ·obtain ⟨i,rfl⟩:∃ i:Nat,k=i+1:=⟨k - 1,by omega⟩
    have e1:((i+1:Nat):Int) - 1=(i:Int):=by omega
    rw [e1]
    obtain ⟨ad',e,hba,hca⟩:=(ha.below hbel).words.word (k:=i) (by omega)
    injection e with e
    subst e
    obtain ⟨hTB,hD2,hR2⟩:=znW x y i hy
    have haB:=zar (zak x) i
    have hlw:=hrest.len
    have hRn:=Nat.mod_lt (x / B ^ (i+1)) hy
    obtain ⟨a,hga⟩:∃ a,(digs x).getD i 0=a:=⟨_,rfl⟩
    rw [hga] at hca hTB hD2 hR2 haB
    obtain ⟨R,hR⟩:∃ R,x / B ^ (i+1) % y=R:=⟨_,rfl⟩
    rw [hR] at hTB hD2 hR2 hrest hlw hRn
    obtain ⟨T,hT⟩:∃ T,T=a+B*R:=⟨_,rfl⟩
    rw [←hT] at hTB hD2 hR2
    have hvT:val (a :: digs R)=T:=by rw [val_cons,zai,hT]
    have hn1:n1≤n':=by have:=zac (Nat.le_of_lt hRn);have:=hLB.out;omega
    have hlT:(digs T).length≤n'+1:=digs_length_le (by rw [Nat.pow_succ];exact Nat.lt_of_lt_of_le hTB (Nat.mul_le_mul_right B (by have:=zaa y;rw [hLB.out] at this;omega)))
    have HVT:=Lib.hid hvT
    have HTB:=Lib.hid hTB
    have HD2:=Lib.hid hD2
    have HR2:=Lib.hid hR2
    have HVAL:=Lib.hid hval
    have HLT:=Lib.hid hlT
    have hcs0:=Lib.hid (hrest.words)
    have hsz:=hbel.size
    have hrow':=Lib.hid hrow
    have hwlt:=hrow.lt
    clear hTB hD2 hR2 hval hlT hvT hT hR hga e1 hlw hrest hrow
    go_wp2_with (at_builtin;refine wpList_append_own _ rfl _ _ 140 rfl wr.heap.size 168 i0 (.int .u64 0) 1 8 Tryz.underlying140 hi0 hz0 hz1 hz2 rfl (by decide) _ _ _ rfl (zb1 (n:=1) (xs:=[.int .u64 (a:Int)]) (heap_alloc_new wr _) (Nat.le_refl _) (by unfold maxLen;omega) rfl) a1 n1 c1 ((digs R).map u64v) rfl ?c0 ?c1 ?c2 ?c3 ?c4 ?c5 ?_)
    case c0=>exact hcs0.out.1
    case c1=>exact zae.cellsD (hcs0.out.below ((Below.refl _ _).alloc (Nat.le_refl _) _))
    case c2=>exact zkp _
    case c3=>unfold maxLen;omega
    case c4=>omega
    case c5=>simp
    intro v1 w3 hown1 hgrow1 _
    obtain ⟨g3,c3,rfl,hg3⟩:=zhe hown1 (by omega)
    obtain ⟨A3,c3',e3,hc31,hc32,hr3⟩:=zbo hown1
    injection e3 with e3 _ e3'
    subst e3 e3'
    have hb3:Below wr.heap.size wr w3:=((Below.refl _ _).alloc (Nat.le_refl _) _).grown hgrow1 (by simp) (fun g hg=>by simp [Value.ownBlock] at hg;omega)
    have hr3':zaB w3 w3.heap.size (some ⟨g3,0,none⟩) (1+n1) (a :: digs R):=hr3
    have ht:=zbF (some ⟨g3,0,none⟩) (1+n1) c3 (a :: digs R) w3 hr3' (Wf.cons haB (zak R)) hc31 hc32
    rw [HVT.out] at ht
    have HT:=Lib.hid ht
    clear ht hr3 hr3' hown1 hgrow1
    go_wp2_with fail
    refine HT.out.mono ?_
    rintro e w4 ⟨n4,rfl,hN4,hw4⟩
    obtain rfl:w3=w4:=hw4
    have hn4:n4≤n'+1:=by have:=hN4.len;have:=HLT.out;omega
    have hB4:=hbel.trans (hb3.mono hbel.size)
    have hest:=zqL hLB.out h1 HTB.out
    have HE:=Lib.hid (zh2 (some ⟨g3,0,none⟩) A' n4 c3 n' c' T y w3 hN4 (hb.later hB4) h1 HTB.out (by omega) (by omega))
    generalize estA T n' / estB y n'=g0 at *
    have hqB:T / y<B:=Nat.div_lt_of_lt_mul HTB.out
    have hTd:=Nat.div_add_mod T y
    have hTm:=Nat.mod_lt T hy
    obtain ⟨q,hqd⟩:∃ q,q=T / y:=⟨_,rfl⟩
    obtain ⟨rm,hrm⟩:∃ rm,rm=T % y:=⟨_,rfl⟩
    rw [←hqd] at hest hqB hTd HD2
    rw [←hrm] at hTd hTm HR2
    have HTD:=Lib.hid hTd
    have HG0:=Lib.hid hest
    have hg0B:g0≤B:=by omega
    have hq9:q≤999999999:=by unfold B at hqB;omega
    have hg9:g0≤1000000000:=hg0B
    clear hest hqd hrm hTd
    go_wp2_with fail
    refine HE.out.mono ?_
    rintro e w5 ⟨rfl,kd,rfl⟩
    have hN5:NatD (w3.drewN kd) (w3.drewN kd).heap.size (some ⟨g3,0,none⟩) n4 c3 T:=hN4.later (zab (Below.refl _ _) kd)
    have hb5:Below wr.heap.size wr (w3.drewN kd):=zab hb3 kd
    clear hN4 hb3
    generalize w3.drewN kd=w5 at *
    have hB5:=hbel.trans (hb5.mono hbel.size)
    have hal:Below w5.heap.size w5 (w5.alloc (.cells ([g0].map u64v).toArray 168)):=(Below.refl _ _).alloc (Nat.le_refl _) _
    have hB6:=hB5.trans (hal.mono hB5.size)
    have HTI:=Lib.hid (zgO A' (some ⟨w5.heap.size,0,none⟩) n' c' 1 1 y [g0] (w5.alloc (.cells ([g0].map u64v).toArray 168)) (hb.later hB6) (by have:=zaB.lit w5 [g0] 168;simpa using this) (Weak.one hg0B) (by omega) (by omega))
    go_wp2_with fail
    refine HTI.out.mono ?_
    rintro e w6 ⟨gp,np,cp,rfl,hgp,hNp,hb6⟩
    rw [zaM] at hNp
    have hb56:Below w5.heap.size w5 w6:=hal.trans (hb6.mono hal.size)
    have hN6:=hN5.later hb56
    have hB7:=hB5.trans (hb56.mono hB5.size)
    have hb06:Below wr.heap.size wr w6:=hb5.trans (hb56.mono hb5.size)
    have hgp2:w.heap.size<gp:=by have h1:=hal.size;have h2:=hb5.size;omega
    have hg32:w.heap.size<g3:=by omega
    clear hN5 hb5 hal hb6 hB6 hb56 hgp hB5 hB4
    go_wp2
    go_loopg [9,10] 2 (fun q9 gv pv W=>∃ (g gp np cp:Nat),q≤g∧g≤q+1∧gv = .int .u64 g∧pv = .slice (some ⟨gp,0,none⟩) np cp∧NatD W W.heap.size (some ⟨gp,0,none⟩) np cp (y*g)∧g - q≤q9∧w.heap.size<gp∧Below w6.heap.size w6 W)
    case atStart=>exact ⟨g0,gp,np,cp,HG0.out.1,HG0.out.2,rfl,rfl,hNp,by have:=HG0.out;omega,hgp2,Below.refl _ _⟩
    case round=>
     obtain ⟨g,gp',np',cp',hg1,hg2,rfl,rfl,hNg,hq9',hgp3,hbel6⟩:=hrel
     have hT9:=hN6.later hbel6
     have hB8:=hB7.trans (hbel6.mono hB7.size)
     have hlp:np'≤n'+1:=by
      rw [←hNg.len]
      apply digs_length_le
      have h3:=zaa y
      rw [hLB.out] at h3
      rw [Nat.pow_succ]
      exact Nat.lt_of_le_of_lt (Nat.mul_le_mul_left y (show g≤B by omega)) (Nat.mul_lt_mul_of_pos_right h3 zaA)
     have hcmp:=zcv (some ⟨gp',0,none⟩) (some ⟨g3,0,none⟩) np' cp' n4 c3 (y*g) T wr hNg hT9 (by omega) (by omega)
     have htd:=HTD.out
     by_cases hgq:g=q+1
     ·subst hgq
      rw [Bn.ncmp_gt (show T<y*(q+1) by rw [Nat.mul_add,Nat.mul_one];omega)] at hcmp
      have hmin:=zeC (some ⟨gp',0,none⟩) A' np' cp' n' c' (y*(q+1)) y wr hNg (hb.later hB8) (by rw [Nat.mul_add,Nat.mul_one];omega) (by omega) (by omega)
      rw [show y*(q+1) - y=y*q by rw [Nat.mul_add,Nat.mul_one];omega] at hmin
      have HCM:=Lib.hid hcmp
      have HMN:=Lib.hid hmin
      have hszw:w.heap.size<wr.heap.size:=by have h1:=hb06.size;have h2:=hbel6.size;have h3:=hwlt.2;omega
      clear hcmp hmin htd hT9
      go_wp2_with fail
      refine HCM.out.mono ?_
      rintro e wx ⟨rfl,hwx⟩
      obtain rfl:wr=wx:=hwx
      go_wp2_with fail
      refine HMN.out.mono ?_
      rintro e w7 ⟨g7,n7,c7,rfl,hg7,hN7,hb7⟩
      go_wp2
      go_roundg 0
      case measure=>omega
      case rel=>exact ⟨q,g7,n7,c7,Nat.le_refl _,by omega,by go_num,rfl,hN7,by omega,by omega,hbel6.trans (hb7.mono hbel6.size)⟩
     ·obtain rfl:q=g:=by omega
      have hle2:y*q≤T:=by omega
      obtain ⟨r2,hr2,hr3⟩:∃ r2:Int,r2≤0∧Bn.ncmp (y*q) T=r2:=⟨Bn.ncmp (y*q) T,by rcases Nat.lt_or_ge (y*q) T with h | h;(· rw [Bn.ncmp_lt h];decide);(· rw [show y*q=T from by omega,Bn.ncmp_eq];exact Int.le_refl 0),rfl⟩
      rw [hr3] at hcmp
      have d1:decide (0<r2)=false:=by simp;omega
      have hbW:=hb06.trans (hbel6.mono hb06.size)
      have hrowW:=hrow'.out.below hbW
      have hcs:=hrowW.cell i (by omega)
      have hfs:=hrowW.free i
      generalize ls.getD i 0=old at hcs
      have hmin:=zeC (some ⟨g3,0,none⟩) (some ⟨gp',0,none⟩) n4 c3 np' cp' T (y*q) _ (hT9.stored (g':=w.heap.size) (i:=i) (u := .int .u64 (q:Int)) (by omega)) (hNg.stored (g':=w.heap.size) (i:=i) (u := .int .u64 (q:Int)) (by omega)) hle2 (by omega) (by omega)
      rw [show T - y*q=rm by omega] at hmin
      have HCM:=Lib.hid hcmp
      have HMN:=Lib.hid hmin
      have hBS:Below w.heap.size w (wr.setCell ⟨w.heap.size,i,none⟩ (.int .u64 (q:Int))):=hB8.setCell (Nat.le_refl _) _
      have HRS:=Lib.hid (hrowW.set i q)
      have hwf2:=Lib.hid (hwf.set i hqB)
      have hlsl:i<ls.length:=by rw [hrowW.len];omega
      have HV2:Hid (val ((ls.set i q).drop i)=x / B ^ i / y):=by
       have h5:=zdg ls i q hlsl
       rw [HVAL.out] at h5
       rw [HD2.out]
       exact h5
      clear hcmp hmin htd hT9 hr3 hrowW hwf hlsl
      go_wp2_with fail
      refine HCM.out.mono ?_
      rintro e wx ⟨rfl,hwx⟩
      obtain rfl:wr=wx:=hwx
      go_wp2_with fail
      refine HMN.out.mono ?_
      rintro e w7 ⟨g7,n7,c7,rfl,hg7,hN7,hb7⟩
      rw [←HR2.out] at hN7
      have hrow7:=HRS.out.below hb7
      have hB9:=hBS.trans (hb7.mono hBS.size)
      go_wp2
      go_roundg i
      case measure=>omega
      case rel=>exact ⟨i,⟨g7,0,none⟩,n7,c7,by omega,rfl,rfl,Nat.le_refl _,_,hrow7,hwf2.out,HV2.out,hN7,hB9⟩
   ·obtain rfl:k=0:=by omega
    have hv:val ls=x / y:=by simpa using hval
    have hrem:NatD wr wr.heap.size (some a1) n1 c1 (x % y):=by simpa using hrest
    have ht:=zbF (some ⟨w.heap.size,0,none⟩) m m ls wr hrow.words hwf (Nat.le_refl _) (by unfold maxLen;omega)
    rw [hv] at ht
    have HT:=Lib.hid ht
    clear ht hv hval hrest
    go_wp2_with fail
    refine HT.out.mono ?_
    rintro e w1 ⟨mq,rfl,hNq,hwq⟩
    obtain rfl:wr=w1:=hwq
    go_wp2
    go_ret2
    exact ⟨_,mq,_,_,n1,c1,rfl,hNq,hrem,hbel⟩
theorem zfB (A A':Option Addr) (n c n' c' x y:Nat) (w:World) (ha:NatD w w.heap.size A n c x) (hb:NatD w w.heap.size A' n' c' y) (hy:0<y) (hn:n≤549755813888) (hn':n'≤549755813888) :
  Calls Tryz.prog 218 #[.slice A n c,.slice A' n' c'] w (zhg w x y):=by
 rcases Nat.lt_or_ge x y with h | h
 ·exact zmb A A' n c n' c' x y w ha hb h hn hn'
 ·have h1:0<n:=by rw [←ha.len];exact zan (by omega)
  obtain ⟨ad,rfl,_⟩:=ha.words.2 h1
  exact zl1 ad A' n c n' c' x y w ha hb hy h hn hn'
theorem zbn (A:Option Addr) (n c x:Nat) (w:World) (h:NatD w w.heap.size A n c x) :
  Calls Tryz.prog 164 #[.slice A n c] w fun e w'=>e = .returned (.bool (decide (x=0)))∧w=w':=by
 have hz:=zj7 A n c w (by have:=h.nc;have:=h.cm;omega)
 have e:((n:Int)==0)=decide (x=0):=by
  rw [Bool.eq_iff_iff]
  simp only [beq_iff_eq,decide_eq_true_eq]
  rw [←zaT (n:=x),h.len]
  omega
 rwa [e] at hz
set_option maxHeartbeats 2000000 in
set_option maxRecDepth 100000 in
theorem zps (A A':Option Addr) (n c n' c' x y:Nat) (w:World) (ha:NatD w w.heap.size A n c x) (hb:NatD w w.heap.size A' n' c' y) (hn:n≤549755813888) (hn':n'≤549755813888) :
  Calls Tryz.prog 217 #[.slice A n c,.slice A' n' c'] w (RetD w (Nat.gcd x y)):=by
 go_enter Tryz.func217,Tryz.ntmps217
 go_wp2
 go_loopg [0,1] y (fun q av bv W=>∃ (A:Option Addr) (n c:Nat) (A':Option Addr) (n' c' u v:Nat),av = .slice A n c∧bv = .slice A' n' c'∧NatD W W.heap.size A n c u∧NatD W W.heap.size A' n' c' v∧n≤549755813888∧n'≤549755813888∧Hid (Nat.gcd u v=Nat.gcd x y)∧v≤q∧Below w.heap.size w W)
 case atStart=>exact ⟨A,n,c,A',n',c',x,y,rfl,rfl,ha,hb,hn,hn',rfl,Nat.le_refl _,Below.refl _ _⟩
 case round=>
  obtain ⟨A,n,c,A',n',c',u,v,rfl,rfl,h1,h2,hn,hn',hg,hq,hbel⟩:=hrel
  have hz:=zbn A' n' c' v wr h2
  by_cases hv:v=0
  ·have d1:decide (v=0)=true:=by simpa using hv
   rw [d1] at hz
   have hgv:Nat.gcd x y=u:=by rw [←hg.out,hv,Nat.gcd_zero_right]
   have HZ:=Lib.hid hz
   have HR:Hid (RetD w (Nat.gcd x y) (.returned (.slice A n c)) wr):=⟨A,n,c,rfl,by rw [hgv];exact h1,hbel⟩
   clear hz hv d1 hgv
   go_wp2_with fail
   refine HZ.out.mono ?_
   rintro e w1 ⟨rfl,hw⟩
   obtain rfl:wr=w1:=hw
   go_wp2
   go_ret
   exact HR.out
  ·have d1:decide (v=0)=false:=by simpa using hv
   rw [d1] at hz
   have hv0:0<v:=by omega
   have hmod:=Nat.mod_lt u hv0
   have HZ:=Lib.hid hz
   have HO:=Lib.hid (zfB A A' n c n' c' u v wr h1 h2 hv0 hn hn')
   have HG:Hid (Nat.gcd v (u % v)=Nat.gcd x y):=by
    show Nat.gcd v (u % v)=Nat.gcd x y
    rw [←hg.out,Nat.gcd_comm v (u % v),←Nat.gcd_rec,Nat.gcd_comm]
   have hl2:=h2.len
   have HL2:=Lib.hid hl2
   clear hz hv d1 hl2
   go_wp2_with fail
   refine HZ.out.mono ?_
   rintro e w1 ⟨rfl,hw⟩
   obtain rfl:wr=w1:=hw
   go_wp2_with fail
   refine HO.out.mono ?_
   rintro e w2 ⟨A3,n3,c3,A4,n4,c4,rfl,hq3,hr4,hb2⟩
   have hn4:n4≤n':=by rw [←hr4.len,←HL2.out];exact zac (Nat.le_of_lt hmod)
   have h2':=h2.later hb2
   generalize u % v=r at *
   go_wp2
   go_roundg r
   case measure=>omega
   case rel=>exact ⟨A',n',c',A4,n4,c4,v,r,rfl,rfl,h2',hr4,hn',by omega,HG.out,Nat.le_refl _,hbel.trans (hb2.mono hbel.size)⟩
def RatD (w:World) (B:Nat) (v:Value) (q:Q):Prop:=
 ∃ A n c A' n' c',v = .agg #[.bool q.neg,.slice A n c,.slice A' n' c']∧NatD w B A n c q.top∧NatD w B A' n' c' q.bot
def zbH (w:World) (q:Q) (e:Ending) (w':World):Prop:=∃ v,e = .returned v∧RatD w' w'.heap.size v q∧Below w.heap.size w w'
def zaQ (w:World) (g:Nat) (b:Bool) (v1 v2:Value):Prop:=w.heap[g]? = some (.cells #[.bool b,v1,v2] 142 (0,0))
theorem zaQ.new (w:World) (b:Bool) (v1 v2:Value):zaQ (w.alloc (.cells #[.bool b,v1,v2] 142)) w.heap.size b v1 v2:=heap_alloc_new w _
theorem zaQ.below {w w':World} {g B:Nat} {b:Bool} {v1 v2:Value} (h:zaQ w g b v1 v2) (hb:Below B w w') (hg:g<B):zaQ w' g b v1 v2:=(hb.block g hg).trans h
theorem zaQ.cells {w:World} {g:Nat} {b:Bool} {v1 v2:Value} (h:zaQ w g b v1 v2) :
  w.cell? ⟨g,0,none⟩=some (.bool b)∧w.cell? ⟨g,1,none⟩=some v1∧w.cell? ⟨g,2,none⟩=some v2∧w.frozen? ⟨g,0,none⟩=false∧w.frozen? ⟨g,1,none⟩=false∧w.frozen? ⟨g,2,none⟩=false∧g<w.heap.size:=by
 unfold zaQ at h
 have hlt:g<w.heap.size:=by
  rcases Nat.lt_or_ge g w.heap.size with hlt | hge
  ·exact hlt
  ·rw [Array.getElem?_eq_none hge] at h;cases h
 exact ⟨by rw [cell_of_row w g 0 _ _ _ h];rfl,by rw [cell_of_row w g 1 _ _ _ h];rfl,by rw [cell_of_row w g 2 _ _ _ h];rfl,by simp [World.frozen?,h],by simp [World.frozen?,h],by simp [World.frozen?,h],hlt⟩
theorem NatD.res {w:World} {B n c x g:Nat} {A A1 A2:Option Addr} {b:Bool} {n1 c1 n2 c2:Nat} (h:NatD w B A n c x) (hk:zaQ w g b (.slice A1 n1 c1) (.slice A2 n2 c2)) (u v y:Value) :
  NatD (((w.setCell ⟨g,0,none⟩ u).setCell ⟨g,1,none⟩ v).setCell ⟨g,2,none⟩ y) B A n c x:=by
 obtain ⟨k0,k1,k2,_,_,_,_⟩:=hk.cells
 refine ⟨⟨h.words.1,fun hn => ?_⟩,h.nc,h.cm⟩
 obtain ⟨ad,e,hb,hc⟩:=h.words.2 hn
 refine ⟨ad,e,hb,fun j z hz => ?_⟩
 have hcell:=hc j z hz
 have hint:∃ d:Nat,z = .int .u64 (d:Int):=by
  rw [List.getElem?_map] at hz
  cases hd:(digs x)[j]? with
  | none=>rw [hd] at hz;cases hz
  | some d=>rw [hd] at hz;injection hz with hz;exact ⟨d,hz.symm⟩
 obtain ⟨d,rfl⟩:=hint
 have n0:ad.add j≠⟨g,0,none⟩:=fun e0=>by rw [e0,k0] at hcell;injection hcell with hcell;cases hcell
 have n1':ad.add j≠⟨g,1,none⟩:=fun e0=>by rw [e0,k1] at hcell;injection hcell with hcell;cases hcell
 have n2':ad.add j≠⟨g,2,none⟩:=fun e0=>by rw [e0,k2] at hcell;injection hcell with hcell;cases hcell
 rw [World.cell?_setCell_other _ _ _ _ n2'.symm,World.cell?_setCell_other _ _ _ _ n1'.symm,World.cell?_setCell_other _ _ _ _ n0.symm]
 exact hcell
theorem zle (neg:Bool) (x y:Nat) (hy:0<y):lowQ neg x y=⟨neg && !decide (x / Nat.gcd x y=0),x / Nat.gcd x y,y / Nat.gcd x y⟩:=by
 unfold lowQ
 rw [if_neg (by omega)]
 by_cases hx:x=0
 ·subst hx
  rw [if_pos rfl,Nat.gcd_zero_left,Nat.zero_div,Nat.div_self hy]
  simp
 ·rw [if_neg hx]
  have h1:0<x / Nat.gcd x y:=Nat.div_pos (Nat.gcd_le_left _ (by omega)) (Nat.gcd_pos_of_pos_right _ hy)
  have h2:decide (x / Nat.gcd x y=0)=false:=decide_eq_false (Nat.ne_of_gt h1)
  rw [h2]
  simp
set_option maxHeartbeats 2000000 in
set_option maxRecDepth 100000 in
theorem zce (neg:Bool) (A A':Option Addr) (n c n' c' x y:Nat) (w:World) (_hT:Tabs w) (ha:NatD w w.heap.size A n c x) (hb:NatD w w.heap.size A' n' c' y) (hn:n≤1073741824) (hn':n'≤1073741824) :
  Calls Tryz.prog 162 #[.bool neg,.slice A n c,.slice A' n' c'] w (zbH w (lowQ neg x y)):=by
 have hb0:Below w.heap.size w (w.alloc (.cells #[.bool false,.slice none 0 0,.slice none 0 0] 142)):=(Below.refl _ _).alloc (Nat.le_refl _) _
 by_cases hy0:y=0
 ·subst hy0
  have hz:=fun W:World=>fun h=>zbn A' n' c' 0 W h
  go_enter Tryz.func162,Tryz.ntmps162
  go_wp2_with fail
  refine (hz _ (hb.later hb0)).mono ?_
  rintro e w1 ⟨rfl,rfl⟩
  go_wp2
  refine bodyPost_ret (v := .agg #[.bool false,.slice none 0 0,.slice none 0 0]) (by simp [results,Tryz.results162,go_sem]) rfl ⟨_,rfl,⟨none,0,0,none,0,0,by simp [lowQ],?_,?_⟩,?_⟩
  ·simp only [lowQ,if_pos];exact NatD.zero _ _
  ·simp only [lowQ,if_pos];exact NatD.zero _ _
  ·exact hb0
 ·have hy:0<y:=by omega
  have hz:=fun W:World=>fun h=>zbn A' n' c' y W h
  have d1:decide (y=0)=false:=by simpa using hy0
  simp only [d1] at hz
  have hgc:=zps A A' n c n' c' x y _ (ha.later hb0) (hb.later hb0) (by omega) (by omega)
  have HE:=Lib.hid (zle neg x y hy)
  have hg0:0<Nat.gcd x y:=Nat.gcd_pos_of_pos_right _ hy
  have hgl:Nat.gcd x y≤y:=Nat.gcd_le_right _ hy
  have hgn:(digs (Nat.gcd x y)).length≤n':=by rw [←hb.len];exact zac hgl
  generalize Nat.gcd x y=g at *
  clear d1 hy0
  go_enter Tryz.func162,Tryz.ntmps162
  go_wp2_with fail
  refine (hz _ (hb.later hb0)).mono ?_
  rintro e w1 ⟨rfl,rfl⟩
  go_wp2_with fail
  refine hgc.mono ?_
  rintro e w2 ⟨A2,m2,c2,rfl,hn2,hb2⟩
  have hb02:=hb0.trans (hb2.mono hb0.size)
  have hm2:m2≤n':=by rw [←hn2.len];exact hgn
  go_wp2_with fail
  refine (zfB A A2 n c m2 c2 x g _ (ha.later hb02) hn2 hg0 (by omega) (by omega)).mono ?_
  rintro e w4 ⟨A4,m4,c4,_,_,_,rfl,hq4,_,hb4⟩
  have hb04:=hb02.trans (hb4.mono hb02.size)
  go_wp2_with fail
  refine (zfB A' A2 n' c' m2 c2 y g _ (hb.later hb04) (hn2.later hb4) hg0 (by omega) (by omega)).mono ?_
  rintro e w5 ⟨A5,m5,c5,_,_,_,rfl,hq5,_,hb5⟩
  have hb05:=hb04.trans (hb5.mono hb04.size)
  have hblk:=(((zaQ.new w false (.slice none 0 0) (.slice none 0 0)).below hb2 (by simp)).below hb4 (by have:=hb2.size;simp at this;omega)).below hb5 (by have:=hb2.size;have:=hb4.size;simp at *; omega)
  obtain ⟨k0,k1,k2,f0,f1,f2,hlt⟩:=hblk.cells
  have hq4':=hq4.later hb5
  have hz4:=zbn A4 m4 c4 (x / g) w5 hq4'
  obtain ⟨zb,hzb⟩:∃ zb,zb=decide (x / g=0):=⟨_,rfl⟩
  rw [←hzb] at hz4 HE
  clear hzb hgn
  have hset:=zao hb05 (g:=w.heap.size) (Nat.le_refl _) (.bool (neg && !zb)) (.slice A4 m4 c4) (.slice A5 m5 c5)
  cases neg
  ·go_wp2
   refine bodyPost_ret (v := .agg #[.bool false,.slice A4 m4 c4,.slice A5 m5 c5]) (by simp [results,Tryz.results162,go_sem,k0,k1,k2]) rfl ⟨_,rfl,⟨A4,m4,c4,A5,m5,c5,by rw [HE.out];rfl,?_,?_⟩,hset⟩
   ·rw [HE.out,zah];exact hq4'.res hblk _ _ _
   ·rw [HE.out,zah];exact hq5.res hblk _ _ _
  ·have HZ4:=Lib.hid hz4
   clear hz4
   go_wp2_with fail
   refine HZ4.out.mono ?_
   rintro e w6 ⟨rfl,hw6⟩
   obtain rfl:w5=w6:=hw6
   cases zb
   all_goals
    go_wp2
    refine bodyPost_ret (v := .agg #[.bool _,.slice A4 m4 c4,.slice A5 m5 c5]) (by simp [results,Tryz.results162,go_sem,k0,k1,k2];first | rfl | done) rfl ⟨_,rfl,⟨A4,m4,c4,A5,m5,c5,by rw [HE.out];rfl,?_,?_⟩,hset⟩
    ·rw [HE.out,zah];exact hq4'.res hblk _ _ _
    ·rw [HE.out,zah];exact hq5.res hblk _ _ _
theorem zgX (A A':Option Addr) (n c n' c' x y:Nat) (w:World) (ha:NatD w w.heap.size A n c x) (hb:NatD w w.heap.size A' n' c' y) (hn:n≤1099511627776) (hn':n'≤1099511627776) :
  Calls Tryz.prog 215 #[.slice A n c,.slice A' n' c'] w fun e w'=>e = .returned (.int .i64 (Bn.ncmp x y))∧∃ q,w'=w.drewN q:=
 (zcv A A' n c n' c' x y w ha hb hn hn').mono fun e w' ⟨he,hw⟩=>⟨he,0,by rw [←hw];rfl⟩
theorem zgQ (A A':Option Addr) (n c n' c' x y:Nat) (w:World) (ha:NatD w w.heap.size A n c x) (hb:NatD w w.heap.size A' n' c' y) (hyx:y≤x) (hn:n≤1099511627776) :
  Calls Tryz.prog 216 #[.slice A n c,.slice A' n' c'] w (RetD w (x - y)):=
 zmi A A' n c n' c' x y w ha hb hyx hn (by have:=zac hyx;have:=ha.len;have:=hb.len;omega)
end Go.Proofs.YtmkihdjolnlccaaGreatDoor
namespace Go.Proofs
open Go.Shelf
def Tryz.lays287_ren:Go.Shelf.Ren:=⟨fun | 287=>263 | 321=>276 | 322=>277 | n=>n,fun | 9=>9 | 3=>3 | 53=>168 | 75=>259 | 4=>4 | 167=>305 | 5=>5 | 46=>248 | 37=>255 | 0=>0 | 21=>21 | 80=>212 | n=>n,fun | n=>n⟩
theorem Tryz.lays287:Go.Proofs.Lays.n287 Tryz.prog Tryz.lays287_ren:={
 mixed:=by kernel_rfl
 f287:=Tryz.func263.trans (congrArg some (by kernel_rfl))
 f321:=Tryz.func276.trans (congrArg some (by kernel_rfl))
 f322:=Tryz.func277.trans (congrArg some (by kernel_rfl))
 t0:=Tryz.underlying0
 a0:=Tryz.isAgg0
 z0:=Tryz.sizeOf0
 v0:=Tryz.zeroValue0
 t3:=Tryz.underlying3
 a3:=Tryz.isAgg3
 z3:=Tryz.sizeOf3
 v3:=Tryz.zeroValue3
 t4:=Tryz.underlying4
 a4:=Tryz.isAgg4
 z4:=Tryz.sizeOf4
 v4:=Tryz.zeroValue4
 t5:=Tryz.underlying5
 a5:=Tryz.isAgg5
 z5:=Tryz.sizeOf5
 v5:=Tryz.zeroValue5
 t9:=Tryz.underlying9
 a9:=Tryz.isAgg9
 z9:=Tryz.sizeOf9
 v9:=Tryz.zeroValue9
 t21:=Tryz.underlying21
 a21:=Tryz.isAgg21
 z21:=Tryz.sizeOf21
 v21:=Tryz.zeroValue21
 t37:=Tryz.underlying255
 a37:=Tryz.isAgg255
 z37:=Tryz.sizeOf255
 v37:=Tryz.zeroValue255
 t46:=Tryz.underlying248
 a46:=Tryz.isAgg248
 z46:=Tryz.sizeOf248
 v46:=Tryz.zeroValue248
 t53:=Tryz.underlying168
 a53:=Tryz.isAgg168
 z53:=Tryz.sizeOf168
 v53:=Tryz.zeroValue168
 t75:=Tryz.underlying259
 a75:=Tryz.isAgg259
 z75:=Tryz.sizeOf259
 v75:=Tryz.zeroValue259
 t167:=Tryz.underlying305
 a167:=Tryz.isAgg305
 z167:=Tryz.sizeOf305
 v167:=Tryz.zeroValue305 }
end Go.Proofs
