/- Contracts of the functions of package number on naturals: bitLength, twos, shiftedLeft, shift, shiftedRight. -/
import Derived.Test.YteajibbphcfmeaaGreatDoorTRow
import Derived.WalkSmall
import Derived.Lib.LaidTab
import Derived.Lib.ItoaNum
import Derived.Test.YteajibbphcfmeaaGreatDoorTShelf
import Derived.StillTailTactics
namespace Go.Proofs.YteajibbphcfmeaaGreatDoor
open Go.RowKit Bn
theorem or_val (o f r:Nat) (hr:r≤64) (_hf:f<18446744073709551616) (ho:o<2 ^ r) :
  bits BinOp.or IntKind.u64 (o:Int) (IntKind.u64.wrap ((f:Int)*2 ^ r))=((o+f*2 ^ r % B:Nat):Int):=by
 have hlo:f*2 ^ r % B<18446744073709551616:=Nat.mod_lt _ B_pos
 have e1:IntKind.u64.wrap ((f:Int)*2 ^ r)=((f*2 ^ r % B:Nat):Int):=by
  rw [IntKind.wrap_u64,Int.natCast_emod,Int.natCast_mul,Int.natCast_pow]
  rfl
 have ho2:o<18446744073709551616:=by
  have:=shl_le f r (by omega)
  have e:B=18446744073709551616:=rfl
  omega
 rw [e1,bits_or_u64_nat o _ ho2 hlo,shl_mod f r (by omega),Nat.or_comm,←Nat.two_pow_add_eq_or_of_lt ho,Nat.add_comm]
theorem shr_val (f k:Nat):(f:Int) / 2 ^ k=((f / 2 ^ k:Nat):Int):=by
 rw [Int.natCast_ediv,Int.natCast_pow];rfl
set_option maxHeartbeats 1000000 in
set_option maxRecDepth 100000 in
theorem shiftedLeft_any (A:Option Addr) (n c x s:Nat) (w:World) (ha:NatS w w.heap.size A n c x) (hn:n≤1099511627776) (hs:s≤1099511627776) :
  Calls Tryz.prog 103 #[.slice A n c,.int .i64 s] w (RetNat w (x*2 ^ s)):=by
 obtain ⟨i0,hi0,hz0,hz1,hz2⟩:=info_parts info_u64
 have hla:=ha.len
 have hA:=Lib.hid hla
 clear hla
 have h1:=ha.nc
 have h2:=ha.cm
 unfold maxLen at h2
 obtain ⟨p,hp⟩:∃ p,s / 64=p:=⟨_,rfl⟩
 obtain ⟨r,hr⟩:∃ r,s % 64=r:=⟨_,rfl⟩
 have hsp:s=64*p+r:=by omega
 have hr64:r<64:=by omega
 have hpb:p≤1099511627776:=by omega
 have e1:(s:Int) / 64=(p:Int):=by omega
 have e2:(s:Int) % 64=(r:Int):=by omega
 have HS:=Lib.hid hsp
 clear hsp hp hr
 go_enter Tryz.func103,Tryz.ntmps103
 go_wp2_with (at_make;refine wpList_make_full _ rfl _ _ 89 rfl w.heap.size 120 i0 (.int .u64 0) 1 Tryz.underlying89 hi0 hz0 hz1 _ _ _ _ (n+p+1) rfl rfl (by omega) (by omega) ?b2 ?b3 (Nat.le_refl _) ?_)
 case b2=>rw [hz2];omega
 case b3=>unfold maxLen;omega
 intro w0 hown0 hgrow0
 have hbel0:Below w.heap.size w w0:=(Below.refl _ _).grown hgrow0 (Nat.le_refl _) (fun k h=>by cases h)
 have hrow0:=RowAt.made hown0
 clear hown0 hgrow0 e1 e2
 go_wp2
 go_loopw [22] (fun s wr=>∃ i:Nat,i≤n∧s = .int .i64 i∧∃ ls,RowAt wr w.heap.size w.heap.size (n+p+1) (n+p+1) ls∧Wf ls∧Hid (val ls=val ((digs x).take i)*2 ^ r*B ^ p)∧Hid (∀ t,i+p<t→ls.getD t 0=0)∧Hid (ls.getD (i+p) 0<2 ^ r)∧Below w.heap.size w wr) (fun s _=>n - (intOf s).toNat)
 case atStart=>exact ⟨0,by omega,rfl,_,hrow0,Wf.replicate _,by simp [Hid,val_replicate_zero],fun t _=>lgetD_zeros _ _,by rw [Hid,lgetD_zeros];exact Nat.two_pow_pos r,hbel0⟩
 case round=>
  obtain ⟨i,hi,rfl,ls,hrow,hwf,hval,hz,ho,hbel⟩:=hrel
  by_cases hin:i<n
  ·obtain ⟨ad,rfl,hba,hca⟩:=(ha.below hbel).words.word (k:=i) hin
   have hxB:=getD_lt (wf_digs x) i
   obtain ⟨f,hgx⟩:∃ f,(digs x).getD i 0=f:=⟨_,rfl⟩
   rw [hgx] at hca hxB
   have HF:=Lib.hid hgx
   clear hgx
   have hcs:=hrow.cell (i+p) (by omega)
   have hfs:=hrow.free (i+p)
   have hcs1:=hrow.cell (i+p+1) (by omega)
   have hfs1:=hrow.free (i+p+1)
   obtain ⟨o,hgo⟩:∃ o,ls.getD (i+p) 0=o:=⟨_,rfl⟩
   rw [hgo] at hcs
   have HO:=Lib.hid hgo
   clear hgo
   generalize ls.getD (i+p+1) 0=o1 at hcs1
   go_wp2
   go_region
   go_wp2
   go_roundw
   case rel=>
    have hrow2:=(hrow.set (i+p) (o+f*2 ^ r % B)).set (i+p+1) (f / 2 ^ (64 - r))
    have hor:=ho.out
    rw [HO.out] at hor
    rw [or_val o f r (by omega) hxB hor,shr_val]
    have hll:i+p+1<ls.length:=by rw [hrow.len];omega
    have hlo:=shl_le f r (by omega)
    refine ⟨i+1,by omega,by go_num,_,hrow2,(hwf.set _ ?_).set _ ?_,?_,?_,?_,?_⟩
    ·omega
    ·exact Nat.lt_of_le_of_lt (Nat.div_le_self _ _) hxB
    ·exact shl_round ls (digs x) i p r f o hll (by omega) HF.out HO.out (hz.out _ (by omega)) hval.out
    ·intro t ht
     rw [lgetD_set_ne _ _ _ _ (by omega),lgetD_set_ne _ _ _ _ (by omega)]
     exact hz.out t (by omega)
    ·rw [Hid,show i+1+p=i+p+1 from by omega,lgetD_set_self _ _ _ (by simpa using hll)]
     exact shr_lt f r (by omega) hxB
    ·exact ((hbel.setCell (p:=⟨w.heap.size,i+p,none⟩) (Nat.le_refl _) _).setCell (p:=⟨w.heap.size,i+p+1,none⟩) (Nat.le_refl _) _).drew
   case measure=>simp [intOf]<;>omega
  ·obtain rfl:i=n:=by omega
   have hv:val ls=x*2 ^ s:=by
    rw [hval.out,List.take_of_length_le (by rw [hA.out];exact Nat.le_refl _),val_digs]
    exact shl_done x s p r HS.out
   have ht:=trimmed_nat (some ⟨w.heap.size,0,none⟩) (i+p+1) (i+p+1) ls wr hrow.words hwf (Nat.le_refl _) (by unfold maxLen;omega)
   rw [hv] at ht
   have HC:=Lib.hid ht
   clear ht hv
   go_wp2_with fail
   refine HC.out.mono ?_
   rintro e w1 ⟨m,rfl,hn1,rfl⟩
   go_wp2
   go_ret
   exact ⟨_,m,_,rfl,hn1,hbel⟩
theorem shift_gone (T A:Option Addr) (nt ct n c s:Nat) (w:World) (_hn:n≤maxLen) (hs:s≤1099511627776) (hp:n≤s / 64) :
  Calls Tryz.prog 175 #[.slice T nt ct,.slice A n c,.int .i64 s] w fun e w'=>e = .returned (.slice none 0 0)∧w=w':=by
 unfold maxLen at _hn
 obtain ⟨p,hq⟩:∃ p,s / 64=p:=⟨_,rfl⟩
 rw [hq] at hp
 have e1:(s:Int) / 64=(p:Int):=by omega
 clear hq
 go_enter Tryz.func175,Tryz.ntmps175
 go_wp2
 go_ret
 exact ⟨rfl,rfl⟩
def ShrInv (w wr:World) (base g nt ct:Nat) (lt la:List Nat) (same:Prop) (p r k:Nat):Prop:=
 ∃ ls,RowAt wr base g nt ct ls∧Wf ls∧val (ls.take k)*2 ^ r+la.getD p 0 % 2 ^ r=val ((la.drop p).take k)+B ^ k*(la.getD (p+k) 0 % 2 ^ r)∧(same→∀ j,k≤j→ls.getD j 0=lt.getD j 0)∧w.grownBy wr (some g)
set_option maxHeartbeats 4000000 in
set_option maxRecDepth 100000 in
theorem shift_any (A:Option Addr) (base g nt ct n c x s:Nat) (lt:List Nat) (w:World) (same:Prop) (ht:RowAt w base g nt ct lt) (hlt:Wf lt) (ha:NatS w w.heap.size A n c x)
  (hAs:((0<n→Off A g)∧¬ same)∨(A=some ⟨g,0,none⟩∧lt=digs x∧same)) (hnt:n≤nt) (hn:n≤1099511627776) (hs:s≤1099511627776) (hpn:s / 64<n) :
  Calls Tryz.prog 175 #[.slice (some ⟨g,0,none⟩) nt ct,.slice A n c,.int .i64 s] w fun e w'=>∃ m,e = .returned (.slice (some ⟨g,0,none⟩) m ct)∧RowAt w' base g m ct (digs (x / 2 ^ s))∧w.grownBy w' (some g):=by
 have hla:=ha.len
 have hA:=Lib.hid hla
 clear hla
 have h1:=ha.nc
 have h2:=ha.cm
 have h5:=ht.caps
 unfold maxLen at h2 h5
 obtain ⟨h5,h6⟩:=h5
 have HT:=Lib.hid ht
 have HAS:=Lib.hid hAs
 clear ht hAs
 obtain ⟨p,hp⟩:∃ p,s / 64=p:=⟨_,rfl⟩
 obtain ⟨r,hr⟩:∃ r,s % 64=r:=⟨_,rfl⟩
 have hsp:s=64*p+r:=by omega
 have hr64:r<64:=by omega
 rw [hp] at hpn
 have e1:(s:Int) / 64=(p:Int):=by omega
 have e2:(s:Int) % 64=(r:Int):=by omega
 have e3:s % 64=r:=hr
 have HS:=Lib.hid hsp
 clear hsp hp hr
 go_enter Tryz.func175,Tryz.ntmps175
 go_wp2
 simp only [e2]
 clear e1 e2 e3
 go_loopw [9] (fun sl wr=>∃ i:Nat,p≤i∧i≤n∧sl = .int .i64 i∧ShrInv w wr base g nt ct lt (digs x) same p r (i - p)) (fun sl _=>n - (intOf sl).toNat)
 case atStart=>
  refine ⟨p,Nat.le_refl _,by omega,rfl,?_⟩
  rw [Nat.sub_self]
  exact ⟨lt,HT.out,hlt,by simp,fun _ _ _=>rfl,World.grownBy.refl w _⟩
 case round=>
  obtain ⟨i,hpi,hin',rfl,ls,hrow,hwf,hval,hsm,hgr⟩:=hrel
  have HV:=Lib.hid hval
  have HM:=Lib.hid hsm
  clear hval hsm
  by_cases hin:i<n
  ·have hA2:∀ k,i≤k→k<n→∃ ad,A=some ad∧wr.cell? (ad.add k)=some (.int .u64 (((digs x).getD k 0:Nat):Int)):=by
    intro k hk1 hk2
    rcases HAS.out with ⟨ho,_⟩ | ⟨hAe,hle',hs⟩
    ·obtain ⟨ad,e,_,hc⟩:=(ha.words.kept hgr (Nat.le_refl _) ho).word (k:=k) hk2
     exact ⟨ad,e,hc⟩
    ·refine ⟨_,hAe,?_⟩
     have:=hrow.cell k (by omega)
     rw [HM.out hs k (by omega),hle'] at this
     have e0:(⟨g,0,none⟩:Addr).add k=⟨g,k,none⟩:=by
      unfold Addr.add
      by_cases hj:k=0<;>simp [hj]
     rw [e0];exact this
   obtain ⟨ad,hAe,hca⟩:=hA2 i (Nat.le_refl _) hin
   have hls:i - p<ls.length:=by rw [hrow.len];omega
   have hcs:=hrow.cell (i - p) (by omega)
   have hfs:=hrow.free (i - p)
   have hxB:=getD_lt (wf_digs x) i
   have hyB:=getD_lt (wf_digs x) (i+1)
   obtain ⟨z,hgx⟩:∃ z,(digs x).getD i 0=z:=⟨_,rfl⟩
   obtain ⟨z',hgy⟩:∃ z',(digs x).getD (i+1) 0=z':=⟨_,rfl⟩
   rw [hgx] at hca hxB
   rw [hgy] at hyB
   generalize ls.getD (i - p) 0=old at hcs
   have ht:z / 2 ^ r<2 ^ (64 - r):=by
    rw [Nat.div_lt_iff_lt_mul (Nat.two_pow_pos _),Nat.mul_comm,←B_split r (by omega)];exact hxB
   have HOR:Hid (bits BinOp.or IntKind.u64 ((z / 2 ^ r:Nat):Int) (IntKind.u64.wrap ((z':Int)*2 ^ (64 - r)))=((z / 2 ^ r+z'*2 ^ (64 - r) % B:Nat):Int)):=
    or_val (z / 2 ^ r) z' (64 - r) (by omega) hyB ht
   have hwB:=(shr_word z z' r hr64 hxB).1
   obtain ⟨t,hgt⟩:∃ t,z / 2 ^ r+z'*2 ^ (64 - r) % B=t:=⟨_,rfl⟩
   rw [hgt] at HOR hwB
   have HP:Hid (val ((ls.set (i - p) t).take (i+1 - p))*2 ^ r+(digs x).getD p 0 % 2 ^ r=val (((digs x).drop p).take (i+1 - p))+B ^ (i+1 - p)*((digs x).getD (p+(i+1 - p)) 0 % 2 ^ r)):=by
    rw [show i+1 - p=i - p+1 from by omega]
    exact shr_round ls (digs x) p (i - p) r t hls hr64 (wf_digs x) (by rw [show p+(i - p)=i from by omega,hgx,hgy,hgt]) HV.out
   have HM2:Hid (same→∀ j,i+1 - p≤j→(ls.set (i - p) t).getD j 0=lt.getD j 0):=fun hs j hj=>by
    rw [←HM.out hs j (by omega),lgetD_set_ne _ _ _ _ (by omega)]
   have HG:Hid (w.grownBy ((wr.setCell ⟨g,i - p,none⟩ (.int .u64 t)).drew) (some g)):=only_drew (only_setCell hgr (p:=⟨g,i - p,none⟩) (.inl rfl) _)
   have HR:Hid (RowAt ((wr.setCell ⟨g,i - p,none⟩ (.int .u64 t)).drew) base g nt ct (ls.set (i - p) t)):=(hrow.set (i - p) t)
   by_cases hin1:i+1<n
   ·obtain ⟨ad',hAe',hcb⟩:=hA2 (i+1) (by omega) hin1
    have hadad:ad'=ad:=by rw [hAe] at hAe';injection hAe' with h;exact h.symm
    subst hadad
    rw [hgy] at hcb
    subst hAe
    have hcb2:wr.cell? ⟨ad'.block,ad'.off+(i+1),none⟩=some (.int .u64 (z':Int)):=by simpa [Addr.add] using hcb
    clear hAe' hA2 hgx hgy hgt ht hcb
    go_wp2
    go_region
    go_wp2
    go_roundw
    case rel=>
     rw [shr_val,HOR.out]
     exact ⟨i+1,by omega,by omega,by go_num,_,HR.out,hwf.set _ hwB,HP.out,HM2.out,HG.out⟩
    case measure=>simp [intOf]<;>omega
   ·have hy0:z'=0:=by rw [←hgy];exact getD_out (by rw [hA.out];omega)
    subst hy0
    subst hAe
    clear hA2 hgx hgy hgt ht
    go_wp2
    go_region
    go_wp2
    go_roundw
    case rel=>
     have HOR0:bits BinOp.or IntKind.u64 ((z / 2 ^ r:Nat):Int) 0=(t:Int):=by
      have h:=HOR.out
      rw [show ((0:Nat):Int)*2 ^ (64 - r)=0 from by simp,show IntKind.u64.wrap 0=0 from by decide] at h
      exact h
     rw [shr_val,HOR0]
     exact ⟨i+1,by omega,by omega,by go_num,_,HR.out,hwf.set _ hwB,HP.out,HM2.out,HG.out⟩
    case measure=>simp [intOf]<;>omega
  ·obtain rfl:i=n:=by omega
   have hv:val (ls.take (i - p))=x / 2 ^ s:=
    shr_done ls (digs x) x s p r (i - p) HS.out rfl (by rw [hA.out];omega) (by rw [hA.out]) HV.out
   have ht:=trimmed_row base g (i - p) ct (ls.take (i - p)) wr (hrow.take (by omega)) (hwf.take _)
   rw [hv] at ht
   have HC:=Lib.hid ht
   clear ht hv
   go_wp2_with fail
   refine HC.out.mono ?_
   rintro e w1 ⟨m,rfl,hn1,rfl⟩
   go_wp2
   go_ret
   exact ⟨m,rfl,hn1,hgr⟩
set_option maxHeartbeats 1000000 in
set_option maxRecDepth 100000 in
theorem shiftedRight_any (A:Option Addr) (n c x s:Nat) (w:World) (ha:NatS w w.heap.size A n c x) (hn:n≤1099511627776) (hs:s≤1099511627776) :
  Calls Tryz.prog 172 #[.slice A n c,.int .i64 s] w fun e w'=>Below w.heap.size w w'∧NatRow w.heap.size (x / 2 ^ s) e w':=by
 obtain ⟨i0,hi0,hz0,hz1,hz2⟩:=info_parts info_u64
 go_enter Tryz.func172,Tryz.ntmps172
 go_wp2_with (at_make;refine wpList_make_full _ rfl _ _ 89 rfl w.heap.size 120 i0 (.int .u64 0) 1 Tryz.underlying89 hi0 hz0 hz1 _ _ _ _ n rfl rfl (by omega) (by omega) ?b2 ?b3 (Nat.le_refl _) ?_)
 case b2=>rw [hz2];omega
 case b3=>unfold maxLen;omega
 intro w0 hown0 hgrow0
 have hbel0:Below w.heap.size w w0:=(Below.refl _ _).grown hgrow0 (Nat.le_refl _) (fun k h=>by cases h)
 have hrow0:=RowAt.made hown0
 clear hown0 hgrow0
 by_cases hp:n≤s / 64
 ·have hz:x / 2 ^ s=0:=shr_gone x s (s / 64) (by omega) (by rw [ha.len];exact hp)
  have hc:=shift_gone (some ⟨w.heap.size,0,none⟩) A n n n c s w0 (by unfold maxLen;omega) hs hp
  have HZ:=Lib.hid hz
  clear hz
  go_wp2_with fail
  refine hc.mono ?_
  rintro e w1 ⟨rfl,rfl⟩
  go_wp2
  go_ret
  exact ⟨hbel0,.inl ⟨rfl,HZ.out⟩⟩
 ·have hc:=shift_any A w.heap.size w.heap.size n n n c x s _ w0 False hrow0 (Wf.replicate n) (ha.later hbel0) (.inl ⟨ha.off (Nat.le_refl _),id⟩) (Nat.le_refl _) hn hs (by omega)
  go_wp2_with fail
  refine hc.mono ?_
  rintro e w1 ⟨m,rfl,hn1,hg1⟩
  go_wp2
  go_ret
  exact ⟨hbel0.grown hg1 hbel0.size (fun k hk=>by cases hk;exact Nat.le_refl _),.inr ⟨w.heap.size,m,n,rfl,hn1⟩⟩
structure Tabs (w:World):Prop where
 tz:TabAt 3 Lib.deBruijn64tab w
 pow:Lib.TabIs Tryz.prog w "internal/strconv.uint64pow10" .u64 Lib.pow10Tab
 maxl:∃ m:Int,w.cell? ⟨2,0,none⟩=some (.int .i64 m)
 prec:w.cell? ⟨1,0,none⟩=some (.int .i64 48)∧w.cell? ⟨1,1,none⟩=some (.int .i64 96)∧w.cell? ⟨1,2,none⟩=some (.int .i64 192)
theorem cell_lt {w:World} {p:Addr} {v:Value} (h:w.cell? p=some v):p.block<w.heap.size:=by
 rcases Nat.lt_or_ge p.block w.heap.size with h1 | h1
 ·exact h1
 ·exfalso
  unfold World.cell? at h
  rw [Array.getElem?_eq_none h1] at h
  simp at h
theorem tabIs_below {w w':World} {n:String} {k:IntKind} {zs:List Int} (h:Lib.TabIs Tryz.prog w n k zs) (hb:Below w.heap.size w w'):Lib.TabIs Tryz.prog w' n k zs:=by
 cases hg:Tryz.prog.globalNamed n with
 | none=>unfold Lib.TabIs World.var? at h;rw [hg] at h;cases h
 | some g=>
  refine var?_below hb hg ?_ h
  unfold Lib.TabIs World.var? at h
  rw [hg] at h
  simp only [Option.bind_some] at h
  rcases Nat.lt_or_ge g w.heap.size with h1 | h1
  ·exact h1
  ·rw [Array.getElem?_eq_none h1] at h;cases h
theorem Tabs.later {w w':World} (h:Tabs w) (hb:Below w.heap.size w w'):Tabs w' where
 tz:=fun j hj=>(hb.cell (cell_lt (h.tz j hj))).trans (h.tz j hj)
 pow:=tabIs_below h.pow hb
 maxl:=h.maxl.imp fun _ hm=>(hb.cell (cell_lt hm)).trans hm
 prec:=⟨(hb.cell (cell_lt h.prec.1)).trans h.prec.1,(hb.cell (cell_lt h.prec.2.1)).trans h.prec.2.1,(hb.cell (cell_lt h.prec.2.2)).trans h.prec.2.2⟩
theorem Tabs.only4 {w w1 w':World} {g:Nat} (h:Tabs w) (hb:Below w.heap.size w w1) (hg:w1.grownBy w' (some g)) (hle:w.heap.size≤g):Tabs w':=
 h.later (hb.grown hg hb.size fun k e=>by cases e;exact hle)
theorem tz64 (x:Nat) (w:World) (hT:Tabs w) (hx:x<18446744073709551616) :
  Calls Tryz.prog 199 #[.int .u64 x] w fun e w'=>e = .returned (.int .i64 (Lib.ctz 64 x))∧w'=w:=
 Any7.bits_TrailingZeros64 Tryz.lays29 x hx w fun _=>hT.tz
theorem ctz_spec {x:Nat} (h0:0<x) (hx:x<18446744073709551616):∃ m,x=2 ^ Lib.ctz 64 x*(2*m+1)∧Lib.ctz 64 x<64:=by
 have:=Lib.ctzFrom_spec 64 x h0 hx
 rwa [Lib.ctz,if_neg (by omega)]
set_option maxHeartbeats 1000000 in
theorem twos_any (A:Option Addr) (n c x:Nat) (w:World) (hT:Tabs w) (ha:NatS w w.heap.size A n c x) (hx:0<x) (hn:n≤1099511627776) :
  Calls Tryz.prog 173 #[.slice A n c] w fun e w'=>e = .returned (.int .i64 (ntz x))∧w=w':=by
 have hA:=Lib.hid ha.len
 have h1:=ha.nc
 have h2:=ha.cm
 unfold maxLen at h2
 have hpos:0<n:=by rw [←ha.len];exact digs_length_pos hx
 go_enter Tryz.func173,Tryz.ntmps173
 go_wp2
 go_loop [3] (fun s=>∃ i:Nat,i<n∧s = .int .i64 i∧Hid (∀ j,j<i→(digs x).getD j 0=0)) (fun s=>n - (intOf s).toNat)
 case atStart=>exact ⟨0,hpos,rfl,fun j hj=>by omega⟩
 case round=>
  obtain ⟨i,hi,rfl,hz⟩:=hrel
  obtain ⟨ad,rfl,hba,hca⟩:=ha.words.word (k:=i) hi
  have hzB:=getD_lt (wf_digs x) i
  obtain ⟨z,hg⟩:∃ z,(digs x).getD i 0=z:=⟨_,rfl⟩
  rw [hg] at hca hzB
  by_cases h0:z=0
  ·subst h0
   have hi1:i+1<n:=by
    have:=top_word hx i (by rw [hA.out];exact hi) hz.out hg
    rw [hA.out] at this
    exact this
   have HG:Hid (∀ j,j<i+1→(digs x).getD j 0=0):=fun j hj=>by
    rcases Nat.lt_or_ge j i with h | h
    ·exact hz.out j h
    ·obtain rfl:j=i:=by omega
     exact hg
   clear hg
   go_wp2
   go_round
   case rel=>exact ⟨i+1,hi1,by go_num,HG.out⟩
   case measure=>simp [intOf]<;>omega
  ·have hz0:(((z:Nat):Int)==0)=false:=by rw [beq_eq_false_iff_ne];omega
   obtain ⟨m,hm,hc64⟩:=ctz_spec (x:=z) (by omega) hzB
   have hr:ntz x=64*i+Lib.ctz 64 z:=ntz_words hx i (by rw [hA.out];exact hi) hz.out z m _ hg hm hc64
   have ht:=tz64 z w hT hzB
   generalize Lib.ctz 64 z=cz at *
   have HR:=Lib.hid hr
   clear hr hg hm
   go_wp2_with fail
   refine ht.mono ?_
   rintro e w1 ⟨rfl,rfl⟩
   go_wp2
   go_ret
   exact ⟨by rw [HR.out];simp,rfl⟩
set_option maxHeartbeats 1000000 in
theorem bitLength_any (A:Option Addr) (n c x:Nat) (w:World) (ha:NatS w w.heap.size A n c x) (hn:n≤1099511627776) :
  Calls Tryz.prog 147 #[.slice A n c] w fun e w'=>e = .returned (.int .i64 (nbits x))∧w=w':=by
 have hA:=Lib.hid ha.len
 have h1:=ha.nc
 have h2:=ha.cm
 have hz:=isZero_any A n c w (by omega)
 unfold maxLen at h2
 by_cases h0:n=0
 ·subst h0
  obtain rfl:x=0:=digs_length_zero.1 hA.out
  go_enter Tryz.func147,Tryz.ntmps147
  go_wp2_with fail
  refine hz.mono ?_
  rintro e w1 ⟨rfl,rfl⟩
  go_wp2
  go_ret
  exact ⟨by simp [nbits],rfl⟩
 ·have hx:0<x:=by
   rcases Nat.eq_zero_or_pos x with rfl | h
   ·exact absurd (by rw [←hA.out,digs_zero];rfl) h0
   ·exact h
  obtain ⟨ad,rfl,hba,hca⟩:=ha.words.word (k:=n - 1) (by omega)
  have hzB:=getD_lt (wf_digs x) (n - 1)
  obtain ⟨z,hg⟩:∃ z,(digs x).getD (n - 1) 0=z:=⟨_,rfl⟩
  rw [hg] at hca hzB
  have hzp:z≠0:=by
   have:=norm_digs x (by rw [hA.out];omega)
   rw [←hg,Bn.getD_in (by rw [hA.out];omega)]
   simpa only [hA.out] using this
  obtain ⟨b1,b2,b3⟩:=Lib.bitLenAux_bounds 64 z (by simpa using hzB) hzp
  have b4:=Lib.bitLen_le z 64 (Nat.le_refl _) (by simpa using hzB)
  have hl:=Tryz.bits_LeadingZeros64 (z:Int) w (by omega) (by omega)
  rw [Int.toNat_natCast] at hl
  have eb:Lib.bitLen z=Lib.bitLenAux 64 z:=rfl
  rw [←eb] at b1 b2 b3
  generalize Lib.bitLen z=b at *
  have hr:nbits x=64*(n - 1)+b:=nbits_words hx (n - 1) (by rw [hA.out];omega) z b hg b1 b2 b3
  have HR:=Lib.hid hr
  have hn0:(((n:Nat):Int)==0)=false:=by rw [beq_eq_false_iff_ne];omega
  clear hr hg b2 b3 eb
  go_enter Tryz.func147,Tryz.ntmps147
  go_wp2_with fail
  refine hz.mono ?_
  rintro e w1 ⟨rfl,rfl⟩
  go_wp2_with fail
  refine hl.mono ?_
  rintro e w1 ⟨rfl,rfl⟩
  go_wp2
  go_ret
  exact ⟨by rw [HR.out];show Ending.returned (Value.int .i64 _)=Ending.returned (Value.int .i64 _);congr 2;omega,rfl⟩
end Go.Proofs.YteajibbphcfmeaaGreatDoor
namespace Go.Proofs.YteajibbphcfmeaaGreatDoor.Bn
set_option maxRecDepth 100000
section
variable {h U u Y y1 y0 q r:Nat}
theorem half_lt (hu:u<h) (hUY:U<Y):(U*h+u) / Y<h:=by
 rw [Nat.div_lt_iff_lt_mul (by omega)]
 have:(U+1)*h≤Y*h:=Nat.mul_le_mul_right _ hUY
 rw [Nat.add_mul,Nat.one_mul] at this
 rw [Nat.mul_comm h Y]
 omega
theorem half_init (hu:u<h) (hY:Y=y1*h+y0) (h1:0<y1):(U*h+u) / Y≤U / y1:=by
 rw [Nat.le_div_iff_mul_le h1]
 have h2:(U*h+u) / Y*Y≤U*h+u:=Nat.div_mul_le_self _ _
 generalize (U*h+u) / Y=t at *
 rw [hY,Nat.mul_add,←Nat.mul_assoc] at h2
 generalize t*y1=a at *
 have h3:a*h<(U+1)*h:=by
  rw [Nat.add_mul,Nat.one_mul]
  generalize t*y0=c at *
  omega
 have:=Nat.lt_of_mul_lt_mul_right h3
 omega
theorem half_step (hu:u<h) (hUY:U<Y) (hY:Y=y1*h+y0) (hq:U=q*y1+r) (hc:h≤q∨h*r+u<q*y0):1≤q∧(U*h+u) / Y≤q - 1:=by
 have h1:1≤q:=by
  rcases hc with h' | h'
  ·omega
  ·rcases Nat.eq_zero_or_pos q with rfl | h''
   ·simp at h'
   ·exact h''
 refine ⟨h1,?_⟩
 rcases hc with h' | h'
 ·have:=half_lt (U:=U) hu hUY
  omega
 ·have:(U*h+u) / Y<q:=by
   rw [Nat.div_lt_iff_lt_mul (by omega),hY,hq,Nat.mul_add,Nat.add_mul,←Nat.mul_assoc,Nat.mul_comm r h]
   omega
  omega
theorem half_stop (hY:Y=y1*h+y0) (hq:U=q*y1+r) (hY0:0<Y) (ht:(U*h+u) / Y≤q) (hc:q*y0≤h*r+u):q=(U*h+u) / Y:=by
 refine Nat.le_antisymm ?_ ht
 rw [Nat.le_div_iff_mul_le hY0,hY,hq,Nat.mul_add,Nat.add_mul,←Nat.mul_assoc,Nat.mul_comm r h]
 omega
theorem half_break (hUY:U<Y) (hY:Y=y1*h+y0) (h0:y0<h) (hq:U=q*y1+r) (ht:(U*h+u) / Y≤q) (hr:h≤r):q=(U*h+u) / Y:=by
 have hlt:q<h:=by
  rcases Nat.lt_or_ge q h with h' | h'
  ·exact h'
  ·exfalso
   have:h*y1≤q*y1:=Nat.mul_le_mul_right _ h'
   rw [Nat.mul_comm h y1] at this
   omega
 refine half_stop hY hq (by omega) ht ?_
 have h2:q*y0≤h*r:=Nat.mul_le_mul (by omega) (by omega)
 omega
theorem half_dec (hq:U=q*y1+r) (h1:1≤q):U=(q - 1)*y1+(r+y1):=by
 obtain ⟨p,rfl⟩:∃ p,q=p+1:=⟨q - 1,by omega⟩
 rw [Nat.add_sub_cancel]
 rw [Nat.add_mul] at hq
 omega
end
theorem div_two (g h hi lo y s Y u32 u10 u1 u0 q1 q0 U:Nat) (hg:g=h*h) (hY:Y=y*2 ^ s) (hy:0<y) (hu:u32*g+u10=(hi*g+lo)*2 ^ s) (h10:u10=u1*h+u0)
  (hq1:q1=(u32*h+u1) / Y) (hU:U=(u32*h+u1) % Y) (hq0:q0=(U*h+u0) / Y) :
  q1*h+q0=(hi*g+lo) / y∧(U*h+u0) % Y / 2 ^ s=(hi*g+lo) % y:=by
 have hp:=Nat.two_pow_pos s
 have hYp:0<Y:=by rw [hY];exact Nat.mul_pos hy hp
 have e1:=Nat.div_add_mod (u32*h+u1) Y
 rw [←hq1,←hU] at e1
 have e2:=Nat.div_add_mod (U*h+u0) Y
 rw [←hq0] at e2
 have hr:=Nat.mod_lt (U*h+u0) hYp
 generalize (U*h+u0) % Y=R at *
 have e3:(hi*g+lo)*2 ^ s=Y*(q1*h+q0)+R:=by
  rw [←hu,h10,Nat.mul_add,←Nat.mul_assoc,hg,←Nat.mul_assoc]
  have:Y*q1*h+U*h=(u32*h+u1)*h:=by rw [←Nat.add_mul,e1]
  rw [Nat.add_mul] at this
  generalize u32*h*h=a1 at *
  generalize Y*q1*h=a2 at *
  generalize U*h=a3 at *
  generalize u1*h=a4 at *
  generalize Y*q0=a5 at *
  omega
 generalize hi*g+lo=N at *
 generalize q1*h+q0=Q at *
 have e4:R=2 ^ s*(R / 2 ^ s):=by
  have hdvd:2 ^ s ∣ R:=by
   have h1:2 ^ s ∣ N*2 ^ s:=Nat.dvd_mul_left _ _
   rw [e3] at h1
   refine (Nat.dvd_add_right ?_).1 h1
   rw [hY,Nat.mul_assoc,Nat.mul_comm y,Nat.mul_assoc]
   exact Nat.dvd_mul_right _ _
  exact (Nat.mul_div_cancel' hdvd).symm
 generalize R / 2 ^ s = ρ at *
 have hρ : ρ < y:=by
  rw [e4,hY,Nat.mul_comm y] at hr
  exact Nat.lt_of_mul_lt_mul_left hr
 have e5:N=y*Q + ρ := by
  have:N*2 ^ s=(y*Q + ρ)*2 ^ s:=by
   rw [e3,e4,hY,Nat.add_mul,Nat.mul_comm (2 ^ s) ρ,Nat.mul_assoc,Nat.mul_assoc,Nat.mul_comm (2 ^ s) Q]
  exact Nat.eq_of_mul_eq_mul_right hp this
 rw [e5]
 refine ⟨?_,?_⟩
 ·rw [Nat.mul_add_div hy,Nat.div_eq_of_lt hρ,Nat.add_zero]
 ·rw [Nat.mul_add_mod,Nat.mod_eq_of_lt hρ]
theorem norm_words (hi lo y s:Nat) (hs:s≤63) (hlo:lo<18446744073709551616) (hhy:hi<y) (hY:y*2 ^ s<18446744073709551616) :
  hi*2 ^ s % B=hi*2 ^ s∧hi*2 ^ s+lo / 2 ^ (64 - s)<y*2 ^ s∧lo / 2 ^ (64 - s)<2 ^ s ∧
   (hi*2 ^ s+lo / 2 ^ (64 - s))*18446744073709551616+lo*2 ^ s % B=(hi*18446744073709551616+lo)*2 ^ s:=by
 have h1:=shr_lt lo s (by omega) hlo
 have h2:(hi+1)*2 ^ s≤y*2 ^ s:=Nat.mul_le_mul_right _ hhy
 rw [Nat.add_mul,Nat.one_mul] at h2
 have h4:hi*2 ^ s<18446744073709551616∧hi*2 ^ s+lo / 2 ^ (64 - s)<y*2 ^ s:=by
  generalize lo / 2 ^ (64 - s)=l at *
  generalize hi*2 ^ s=a at *
  generalize y*2 ^ s=b at *
  generalize 2 ^ s=c at *
  omega
 refine ⟨Nat.mod_eq_of_lt h4.1,h4.2,h1,?_⟩
 rw [shr_eq lo s (by omega),Nat.add_mul,Nat.add_mul,Nat.add_assoc]
 have h3:=Nat.div_add_mod (lo*2 ^ s) B
 rw [Nat.mul_comm] at h3
 have e:B=18446744073709551616:=rfl
 rw [←e] at *
 rw [h3,Nat.mul_assoc,Nat.mul_assoc,Nat.mul_comm B]
end Go.Proofs.YteajibbphcfmeaaGreatDoor.Bn
