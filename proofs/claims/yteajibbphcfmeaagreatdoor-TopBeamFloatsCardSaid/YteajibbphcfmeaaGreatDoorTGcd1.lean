/- Contract of commonDivisor. -/
import Derived.Test.YteajibbphcfmeaaGreatDoorTDiv4
import Derived.Deep.LoopGhost
namespace Go.Proofs.YteajibbphcfmeaaGreatDoor
open Go.RowKit Bn
theorem coprime_two_odd (m:Nat):Nat.Coprime 2 (2*m+1):=by
 unfold Nat.Coprime
 rw [Nat.gcd_rec,Nat.mul_add_mod,Nat.gcd_comm]
 rfl
theorem gcd_pow_odd (k a m:Nat):Nat.gcd (2 ^ k*a) (2*m+1)=Nat.gcd a (2*m+1):=
 Nat.Coprime.gcd_mul_left_cancel a (Nat.Coprime.pow_left k (coprime_two_odd m))
def odd (n:Nat):Nat:=n / 2 ^ ntz n
theorem odd_spec {n:Nat} (h:0<n):n=2 ^ ntz n*odd n∧∃ m,odd n=2*m+1:=by
 obtain ⟨m,hm⟩:=ntz_spec h
 have e:odd n=2*m+1:=by
  unfold odd
  conv=>lhs;lhs;rw [hm]
  rw [Nat.mul_div_cancel_left _ (Nat.two_pow_pos _)]
 exact ⟨by rw [e];exact hm,m,e⟩
theorem odd_pos {n:Nat} (h:0<n):0<odd n:=by
 obtain ⟨_,m,e⟩:=odd_spec h
 omega
theorem ntz_le {n k:Nat} (h:0<n) (hk:(digs n).length≤k):ntz n≤64*k:=by
 obtain ⟨m,hm⟩:=ntz_spec h
 have h1:=lt_of_digs_length n
 have h2:B ^ (digs n).length≤B ^ k:=Nat.pow_le_pow_right B_pos hk
 have h3:2 ^ ntz n≤n:=by
  conv=>rhs;rw [hm]
  exact Nat.le_mul_of_pos_right _ (by omega)
 rcases Nat.lt_or_ge (64*k) (ntz n) with h4 | h4
 ·exfalso
  have h5:2 ^ (64*k)≤2 ^ ntz n:=Nat.pow_le_pow_right (by omega) (by omega)
  rw [Nat.pow_mul,←B_two] at h5
  omega
 ·exact h4
theorem ntz_div {n:Nat} (h:0<n):ntz n / 64<(digs n).length:=by
 obtain ⟨m,hm⟩:=ntz_spec h
 have h1:=lt_of_digs_length n
 have h3:2 ^ ntz n≤n:=by
  conv=>rhs;rw [hm]
  exact Nat.le_mul_of_pos_right _ (by omega)
 rcases Nat.lt_or_ge (ntz n / 64) (digs n).length with h4 | h4
 ·exact h4
 ·exfalso
  have h5:2 ^ (64*(digs n).length)≤2 ^ ntz n:=Nat.pow_le_pow_right (by omega) (by omega)
  rw [Nat.pow_mul,←B_two] at h5
  omega
theorem gcd_two_pows (s t a b:Nat) (ha:∃ m,a=2*m+1) (hb:∃ m,b=2*m+1):Nat.gcd (2 ^ s*a) (2 ^ t*b)=2 ^ min s t*Nat.gcd a b:=by
 obtain ⟨m,rfl⟩:=ha
 obtain ⟨k,rfl⟩:=hb
 rcases Nat.le_total s t with h | h
 ·obtain ⟨d,rfl⟩:∃ d,t=s+d:=⟨t - s,by omega⟩
  rw [Nat.min_eq_left h,Nat.pow_add,Nat.mul_assoc,Nat.gcd_mul_left,Nat.gcd_comm,gcd_pow_odd,Nat.gcd_comm]
 ·obtain ⟨d,rfl⟩:∃ d,s=t+d:=⟨s - t,by omega⟩
  rw [Nat.min_eq_right h,Nat.pow_add,Nat.mul_assoc,Nat.gcd_mul_left,gcd_pow_odd]
theorem gcd_odds {x y:Nat} (hx:0<x) (hy:0<y):Nat.gcd x y=Nat.gcd (odd x) (odd y)*2 ^ min (ntz x) (ntz y):=by
 obtain ⟨e1,o1⟩:=odd_spec hx
 obtain ⟨e2,o2⟩:=odd_spec hy
 have h:=gcd_two_pows (ntz x) (ntz y) (odd x) (odd y) o1 o2
 rw [←e1,←e2] at h
 rw [h,Nat.mul_comm]
theorem gcd_step {x y:Nat} (hy:∃ m,y=2*m+1) (hlt:y<x):Nat.gcd (odd (x - y)) y=Nat.gcd x y:=by
 obtain ⟨e,_⟩:=odd_spec (n:=x - y) (by omega)
 obtain ⟨m,rfl⟩:=hy
 have h1:Nat.gcd (x - (2*m+1)) (2*m+1)=Nat.gcd x (2*m+1):=Nat.gcd_sub_self_left (by omega)
 rw [←h1]
 conv=>rhs;rw [e]
 rw [gcd_pow_odd]
theorem odd_le {n:Nat} (_h:0<n):odd n≤n:=Nat.div_le_self _ _
set_option maxHeartbeats 4000000 in
set_option maxRecDepth 100000 in
theorem gcd_any (A A':Option Addr) (n c n' c' x y:Nat) (w:World) (hT:Tabs w) (ha:NatS w w.heap.size A n c x) (hb:NatS w w.heap.size A' n' c' y) (hn:n≤1073741824) (hn':n'≤1073741824) :
  Calls Tryz.prog 126 #[.slice A n c,.slice A' n' c'] w (RetNat w (Nat.gcd x y)):=by
 have h1:=ha.nc
 have h2:=ha.cm
 have h3:=hb.nc
 have h4:=hb.cm
 unfold maxLen at h2 h4
 go_enter Tryz.func126,Tryz.ntmps126
 go_upto_if 12 with (fail)
 go_cut [0,1] (fun s s' wc=>∃ A n c A' n' c' u v,s = .slice A n c∧s' = .slice A' n' c'∧NatS w w.heap.size A n c u∧NatS w w.heap.size A' n' c' v∧n'≤n∧n≤1073741824∧Hid (Nat.gcd u v=Nat.gcd x y)∧wc=w)
 case first=>
  by_cases hlt:n<n'
  ·have hd:decide (n<n')=true:=by simpa using hlt
   go_wp2_with fail
   go_meet
   exact ⟨A',n',c',A,n,c,y,x,rfl,rfl,hb,ha,by omega,hn',Nat.gcd_comm _ _,rfl⟩
  ·have hd:decide (n<n')=false:=by simpa using hlt
   go_wp2_with fail
   go_meet
   exact ⟨A,n,c,A',n',c',x,y,rfl,rfl,ha,hb,by omega,hn,rfl,rfl⟩
 case rest=>
  clear ha hb hn hn' h1 h2 h3 h4
  obtain ⟨A,n,c,A',n',c',u,v,rfl,rfl,ha,hb,hle,hn,hg,rfl⟩:=hcut
  have h1:=ha.nc
  have h2:=ha.cm
  have h3:=hb.nc
  have h4:=hb.cm
  have hz:=isZero_any A' n' c' wc (by omega)
  unfold maxLen at h2 h4
  have HA:=Lib.hid ha.len
  have HB:=Lib.hid hb.len
  have hn'2:n'≤1073741824:=by omega
  obtain ⟨tb,htb⟩:∃ tb,tb=(decide (n'<n) && !decide (n'=0)):=⟨_,rfl⟩
  have HTB:=Lib.hid htb
  clear htb
  go_upto_region 3 with (fail)
  go_cut [24] (fun b wd=>b = .bool tb∧wd=wc)
  case first=>
   by_cases hlt:n'<n
   ·have hd:decide (n'<n)=true:=by simpa using hlt
    have hn0:∃ z,((n':Int)==0)=z:=⟨_,rfl⟩
    obtain ⟨z,hn0⟩:=hn0
    rw [hn0] at hz
    go_wp2_with (go_at_call 131;refine hz.mono ?_;rintro e w1 ⟨rfl,rfl⟩)
    go_meet
    refine ⟨?_,rfl⟩
    rw [HTB.out,hd,←hn0]
    congr 1
    rw [Bool.true_and]
    congr 1
    rw [Bool.eq_iff_iff]
    simp
   ·have hd:decide (n'<n)=false:=by simpa using hlt
    go_wp2_with fail
    go_meet
    exact ⟨by rw [HTB.out,hd];rfl,rfl⟩
  case rest=>
   obtain ⟨rfl,rfl⟩:=hcut
   go_upto_if 24 with (fail)
   go_cut [0] (fun s wd=>∃ A2 n2 c2 u2,s = .slice A2 n2 c2∧NatS wd wd.heap.size A2 n2 c2 u2∧NatS wd wd.heap.size A' n' c' v∧n2≤1073741824∧Hid (Nat.gcd u2 v=Nat.gcd x y)∧Below wc.heap.size wc wd)
   case first=>
    cases tb
    ·go_wp2_with fail
     go_meet
     exact ⟨A,n,c,u,rfl,ha,hb,hn,hg,Below.refl _ _⟩
    ·have hv:0<v:=by
      have h:=HTB.out
      rcases Nat.eq_zero_or_pos v with rfl | h0
      ·have h5:=HB.out
       rw [digs_zero] at h5
       simp at h5
       subst h5
       simp at h
      ·exact h0
     have hov:=over_any A A' n c n' c' u v wc ha hb hv (by omega)
     go_wp2_with fail
     refine hov.mono ?_
     rintro e w1 ⟨A1,m1,c1,A2,m2,c2,rfl,hq1,hr1,hb1⟩
     go_wp2_with fail
     go_meet
     refine ⟨A2,m2,c2,u % v,rfl,hr1,hb.later hb1,?_,?_,hb1⟩
     ·have h6:=hr1.len
      have h7:=digs_length_mono (Nat.le_of_lt (Nat.mod_lt u hv))
      rw [HB.out] at h7
      omega
     ·rw [Hid,←hg.out,←Nat.gcd_rec v u,Nat.gcd_comm]
   case rest=>
    clear ha hb h1 h2 h3 h4 hz HA HTB hg hn
    obtain ⟨A,n,c,u,rfl,ha,hb,hn,hg,hbel⟩:=hcut
    have hTd:=hT.later hbel
    have h1:=ha.nc
    have h2:=ha.cm
    have h3:=hb.nc
    have h4:=hb.cm
    have hz1:=fun W:World=>isZero_any A n c W (by omega)
    have hz2:=fun W:World=>isZero_any A' n' c' W (by omega)
    unfold maxLen at h2 h4
    by_cases hu0:n=0
    ·subst hu0
     obtain rfl:u=0:=digs_length_zero.1 ha.len
     go_wp2_with fail
     refine (hz1 _).mono ?_
     rintro e w1 ⟨rfl,rfl⟩
     go_wp2_with fail
     go_ret
     exact ⟨A',n',c',rfl,by rw [←hg.out,Nat.gcd_zero_left];exact hb,hbel⟩
    ·have hu:0<u:=by
      rcases Nat.eq_zero_or_pos u with rfl | h
      ·exact absurd (by rw [←ha.len,digs_zero];rfl) hu0
      ·exact h
     have hn0:(((n:Nat):Int)==0)=false:=by rw [beq_eq_false_iff_ne];omega
     simp only [hn0] at hz1
     by_cases hv0:n'=0
     ·subst hv0
      obtain rfl:v=0:=digs_length_zero.1 hb.len
      go_wp2_with fail
      refine (hz1 _).mono ?_
      rintro e w1 ⟨rfl,rfl⟩
      go_wp2_with fail
      refine (hz2 _).mono ?_
      rintro e w1 ⟨rfl,rfl⟩
      go_wp2_with fail
      go_ret
      exact ⟨A,n,c,rfl,by rw [←hg.out,Nat.gcd_zero_right];exact ha,hbel⟩
     ·have hv:0<v:=by
       rcases Nat.eq_zero_or_pos v with rfl | h
       ·exact absurd (by rw [←hb.len,digs_zero];rfl) hv0
       ·exact h
      have hn0':(((n':Nat):Int)==0)=false:=by rw [beq_eq_false_iff_ne];omega
      simp only [hn0'] at hz2
      have hlz:ntz u≤1099511627776∧ntz v≤1099511627776:=by
       have k1:=ntz_le hu (by rw [ha.len];exact hn)
       have k2:=ntz_le hv (by rw [hb.len];exact hn'2)
       omega
      go_wp2_with fail
      refine (hz1 _).mono ?_
      rintro e w1 ⟨rfl,rfl⟩
      go_wp2_with fail
      refine (hz2 _).mono ?_
      rintro e w1 ⟨rfl,rfl⟩
      go_wp2_with fail
      refine (twos_any A n c u _ hTd ha hu (by omega)).mono ?_
      rintro e w1 ⟨rfl,rfl⟩
      go_wp2_with fail
      refine (shiftedRight_any A n c u (ntz u) _ ha (by omega) hlz.1).mono ?_
      rintro e w1 ⟨hb1,hr1⟩
      rcases hr1 with ⟨_,hbad⟩ | ⟨gx,mx,cx,rfl,hrx⟩
      ·exact absurd hbad (by have:=odd_pos hu;unfold odd at this;omega)
      have hTd1:=hTd.later hb1
      go_wp2_with fail
      refine (twos_any A' n' c' v _ hTd1 (hb.later hb1) hv (by omega)).mono ?_
      rintro e w2 ⟨rfl,rfl⟩
      go_wp2_with fail
      refine (shiftedRight_any A' n' c' v (ntz v) _ (hb.later hb1) (by omega) hlz.2).mono ?_
      rintro e w3 ⟨hb3,hr3⟩
      rcases hr3 with ⟨_,hbad⟩ | ⟨gy,my,cy,rfl,hry⟩
      ·exact absurd hbad (by have:=odd_pos hv;unfold odd at this;omega)
      have hrx3:=hrx.below hb3
      have hgne:gx≠gy:=by have:=hrx.lt;have:=hry.lt;omega
      have hry3:=hry.mono hb1.size
      have hbel3:Below wc.heap.size wc w3:=hb1.trans (hb3.mono hb1.size)
      have hlx:mx≤1073741824:=by
       have k1:=hrx.len
       have k2:=digs_length_mono (odd_le hu)
       have k3:=ha.len
       unfold odd at k2
       omega
      have hly:my≤1073741824:=by
       have k1:=hry.len
       have k2:=digs_length_mono (odd_le hv)
       have k3:=hb.len
       unfold odd at k2
       omega
      have HU:=Lib.hid (odd_spec hu)
      have HV:=Lib.hid (odd_spec hv)
      have HUP:=Lib.hid (odd_pos hu)
      have HVP:=Lib.hid (odd_pos hv)
      have HG:Hid (Nat.gcd u v=Nat.gcd (odd u) (odd v)*2 ^ min (ntz u) (ntz v)):=gcd_odds hu hv
      have hrx4:RowAt w3 wc.heap.size gx mx cx (digs (odd u)):=hrx3
      have hry4:RowAt w3 wc.heap.size gy my cy (digs (odd v)):=hry3
      clear hrx hry hrx3 hry3 hz1 hz2 hTd1 hb1 hb3
      obtain ⟨U,hU⟩:∃ U,U=odd u:=⟨_,rfl⟩
      obtain ⟨V,hV⟩:∃ V,V=odd v:=⟨_,rfl⟩
      rw [←hU] at HU HUP HG hrx4
      rw [←hV] at HV HVP HG hry4
      clear hU hV
      go_upto_block 0 with (fail)
      go_cut [5,6,7] (fun sx sy _ we=>∃ gx mx cx X gy my cy Y,sx = .slice (some ⟨gx,0,none⟩) mx cx∧sy = .slice (some ⟨gy,0,none⟩) my cy∧RowAt we wc.heap.size gx mx cx (digs X)∧RowAt we wc.heap.size gy my cy (digs Y)∧mx≤1073741824∧my≤1073741824∧Hid (Nat.gcd X Y=Nat.gcd U V)∧Hid (Y=1∨Nat.gcd X Y=X∧Y≠1)∧Below wc.heap.size wc we)
      case first=>
       go_wp2_with fail
       go_loopg [5,6,7] (U+V) (fun G sx sy _ we=>∃ gx mx cx X gy my cy Y,sx = .slice (some ⟨gx,0,none⟩) mx cx∧sy = .slice (some ⟨gy,0,none⟩) my cy∧gx≠gy∧RowAt we wc.heap.size gx mx cx (digs X)∧RowAt we wc.heap.size gy my cy (digs Y)∧mx≤1073741824∧my≤1073741824∧(0<X∧0<Y∧(∃ m,X=2*m+1)∧∃ m,Y=2*m+1)∧Hid (Nat.gcd X Y=Nat.gcd U V)∧Below wc.heap.size wc we∧X+Y≤G)
       case atStart=>exact ⟨gx,mx,cx,U,gy,my,cy,V,rfl,rfl,hgne,hrx4,hry4,hlx,hly,⟨HUP.out,HVP.out,HU.out.2,HV.out.2⟩,rfl,hbel3,Nat.le_refl _⟩
       case round=>
        clear hrx4 hry4 hlx hly hgne hbel3
        obtain ⟨gx,mx,cx,X,gy,my,cy,Y,rfl,rfl,hne,hrx,hry,hlx,hly,hp,hgc,hbe,hG⟩:=hrel
        obtain ⟨we,rfl⟩:∃ we:World,we=wr:=⟨_,rfl⟩
        have hT4:=hTd.later hbe
        have ho1:=isOne_any _ mx cx X we hrx.nat
        have ho2:=isOne_any _ my cy Y we hry.nat
        have hcm:=compare_any _ _ mx cx my cy X Y we hrx.nat hry.nat
        have HP:=Lib.hid hp
        clear hp
        by_cases hX1:X=1
        ·have d1:decide (X=1)=true:=by simpa using hX1
         rw [d1] at ho1
         have HX1:=Lib.hid hX1
         clear hX1 d1
         go_wp2_with fail
         refine ho1.mono ?_
         rintro e w1 ⟨rfl,rfl⟩
         go_wp2_with fail
         go_meet
         refine ⟨gx,mx,cx,X,gy,my,cy,Y,rfl,rfl,hrx,hry,hlx,hly,hgc,?_,hbe⟩
         by_cases hY1:Y=1
         ·exact .inl hY1
         ·exact .inr ⟨by rw [HX1.out,Nat.gcd_one_left],hY1⟩
        ·have d1:decide (X=1)=false:=by simpa using hX1
         rw [d1] at ho1
         by_cases hY1:Y=1
         ·have d2:decide (Y=1)=true:=by simpa using hY1
          rw [d2] at ho2
          have HY1:=Lib.hid hY1
          clear hX1 d1 hY1 d2
          go_wp2_with fail
          refine ho1.mono ?_
          rintro e w1 ⟨rfl,rfl⟩
          go_wp2_with fail
          refine ho2.mono ?_
          rintro e w1 ⟨rfl,rfl⟩
          go_wp2_with fail
          go_meet
          exact ⟨gx,mx,cx,X,gy,my,cy,Y,rfl,rfl,hrx,hry,hlx,hly,hgc,.inl HY1.out,hbe⟩
         ·have d2:decide (Y=1)=false:=by simpa using hY1
          rw [d2] at ho2
          have HY1:=Lib.hid hY1
          clear hX1 d1 hY1 d2
          rcases Nat.lt_trichotomy X Y with hlt | heq | hgt
          ·rw [ncmp_lt hlt] at hcm
           go_wp2_with fail
           refine ho1.mono ?_
           rintro e w1 ⟨rfl,rfl⟩
           go_wp2_with fail
           refine ho2.mono ?_
           rintro e w1 ⟨rfl,rfl⟩
           go_wp2_with fail
           refine hcm.mono ?_
           rintro e w1 ⟨rfl,q4,rfl⟩
           have hrx:=hrx.drewN q4
           have hry:=hry.drewN q4
           have hbe:=below_drewN hbe q4
           have hT4:=hTd.later hbe
           have hp:=HP.out
           clear ho1 ho2 hcm
           have hle:X≤Y:=by omega
           have hsub:=subtract_any (some ⟨gy,0,none⟩) (some ⟨gx,0,none⟩) wc.heap.size gy my cy my cy mx cx Y X (digs Y) (we.drewN q4) True hry (wf_digs Y) hry.nat hrx.nat (.inr ⟨rfl,rfl,trivial⟩) (fun _ ad h=>by injection h with h;subst h;exact hne) (Nat.le_refl _) hle (by omega)
           go_wp2_with fail
           refine hsub.mono ?_
           rintro e w5 ⟨m5,rfl,hr5,hg5⟩
           have hp5:0<Y - X:=by omega
           have hT5:=hTd.only4 hbe hg5 hry.lt.1
           have hm5:m5≤1073741824:=by
            have k1:=hr5.len
            have k2:=digs_length_mono (Nat.sub_le Y X)
            have k3:=hry.len
            omega
           go_wp2_with fail
           refine (twos_any _ m5 cy (Y - X) _ hT5 hr5.nat hp5 (by omega)).mono ?_
           rintro e w6 ⟨rfl,rfl⟩
           have hz5:=ntz_le hp5 (by rw [hr5.len];exact hm5)
           have hsh:=shift_any (some ⟨gy,0,none⟩) wc.heap.size gy m5 cy m5 cy (Y - X) (ntz (Y - X)) (digs (Y - X)) w5 True hr5 (wf_digs _) hr5.nat (.inr ⟨rfl,rfl,trivial⟩) (Nat.le_refl _) (by omega) (by omega) (by rw [←hr5.len];exact ntz_div hp5)
           go_wp2_with fail
           refine hsh.mono ?_
           rintro e w7 ⟨m7,rfl,hr7,hg7⟩
           have hm7:m7≤1073741824:=by
            have k1:=hr7.len
            have k2:=digs_length_mono (odd_le hp5)
            have k3:=hr5.len
            unfold odd at k2
            omega
           have hgg:=only_trans hg5 hg7
           have hry7:=hrx.kept hgg (by intro e;injection e with e;exact hne e.symm)
           have hbe7:=hbe.grown hgg hbe.size (fun k hk=>by cases hk;exact hry.lt.1)
           have hr8:RowAt w7 wc.heap.size gy m7 cy (digs (odd (Y - X))):=hr7
           have hlt7:=odd_le hp5
           have hpo7:=odd_pos hp5
           have hod7:=(odd_spec hp5).2
           have hgc7:Hid (Nat.gcd (odd (Y - X)) X=Nat.gcd U V):=by rw [Hid,←hgc.out];rw [Nat.gcd_comm X Y];exact gcd_step hp.2.2.1 (by omega)
           go_wp2_with fail
           go_roundg (odd (Y - X)+X)
           case measure=>omega
           case rel=>exact ⟨gy,m7,cy,odd (Y - X),gx,mx,cx,X,rfl,rfl,hne.symm,hr8,hry7,hm7,hlx,⟨hpo7,hp.1,hod7,hp.2.2.1⟩,hgc7,hbe7,Nat.le_refl _⟩
          ·rw [heq,ncmp_eq] at hcm
           have HE:=Lib.hid heq
           clear heq
           go_wp2_with fail
           refine ho1.mono ?_
           rintro e w1 ⟨rfl,rfl⟩
           go_wp2_with fail
           refine ho2.mono ?_
           rintro e w1 ⟨rfl,rfl⟩
           go_wp2_with fail
           refine hcm.mono ?_
           rintro e w1 ⟨rfl,q4,rfl⟩
           go_wp2_with fail
           go_meet
           exact ⟨gx,mx,cx,X,gy,my,cy,Y,rfl,rfl,hrx.drewN q4,hry.drewN q4,hlx,hly,hgc,.inr ⟨by rw [HE.out,Nat.gcd_self],HY1.out⟩,below_drewN hbe q4⟩
          ·rw [ncmp_gt hgt] at hcm
           go_wp2_with fail
           refine ho1.mono ?_
           rintro e w1 ⟨rfl,rfl⟩
           go_wp2_with fail
           refine ho2.mono ?_
           rintro e w1 ⟨rfl,rfl⟩
           go_wp2_with fail
           refine hcm.mono ?_
           rintro e w1 ⟨rfl,q4,rfl⟩
           have hrx:=hrx.drewN q4
           have hry:=hry.drewN q4
           have hbe:=below_drewN hbe q4
           have hT4:=hTd.later hbe
           have hp:=HP.out
           clear ho1 ho2 hcm
           have hle:Y≤X:=by omega
           have hsub:=subtract_any (some ⟨gx,0,none⟩) (some ⟨gy,0,none⟩) wc.heap.size gx mx cx mx cx my cy X Y (digs X) (we.drewN q4) True hrx (wf_digs X) hrx.nat hry.nat (.inr ⟨rfl,rfl,trivial⟩) (fun _ ad h=>by injection h with h;subst h;exact hne.symm) (Nat.le_refl _) hle (by omega)
           go_wp2_with fail
           refine hsub.mono ?_
           rintro e w5 ⟨m5,rfl,hr5,hg5⟩
           have hp5:0<X - Y:=by omega
           have hT5:=hTd.only4 hbe hg5 hrx.lt.1
           have hm5:m5≤1073741824:=by
            have k1:=hr5.len
            have k2:=digs_length_mono (Nat.sub_le X Y)
            have k3:=hrx.len
            omega
           go_wp2_with fail
           refine (twos_any _ m5 cx (X - Y) _ hT5 hr5.nat hp5 (by omega)).mono ?_
           rintro e w6 ⟨rfl,rfl⟩
           have hz5:=ntz_le hp5 (by rw [hr5.len];exact hm5)
           have hsh:=shift_any (some ⟨gx,0,none⟩) wc.heap.size gx m5 cx m5 cx (X - Y) (ntz (X - Y)) (digs (X - Y)) w5 True hr5 (wf_digs _) hr5.nat (.inr ⟨rfl,rfl,trivial⟩) (Nat.le_refl _) (by omega) (by omega) (by rw [←hr5.len];exact ntz_div hp5)
           go_wp2_with fail
           refine hsh.mono ?_
           rintro e w7 ⟨m7,rfl,hr7,hg7⟩
           have hm7:m7≤1073741824:=by
            have k1:=hr7.len
            have k2:=digs_length_mono (odd_le hp5)
            have k3:=hr5.len
            unfold odd at k2
            omega
           have hgg:=only_trans hg5 hg7
           have hry7:=hry.kept hgg (by intro e;injection e with e;exact hne e)
           have hbe7:=hbe.grown hgg hbe.size (fun k hk=>by cases hk;exact hrx.lt.1)
           have hr8:RowAt w7 wc.heap.size gx m7 cx (digs (odd (X - Y))):=hr7
           have hlt7:=odd_le hp5
           have hpo7:=odd_pos hp5
           have hod7:=(odd_spec hp5).2
           have hgc7:Hid (Nat.gcd (odd (X - Y)) Y=Nat.gcd U V):=by rw [Hid,←hgc.out];exact gcd_step hp.2.2.2 (by omega)
           go_wp2_with fail
           go_roundg (odd (X - Y)+Y)
           case measure=>omega
           case rel=>exact ⟨gx,m7,cx,odd (X - Y),gy,my,cy,Y,rfl,rfl,hne,hr8,hry7,hm7,hly,⟨hpo7,hp.2.1,hod7,hp.2.2.2⟩,hgc7,hbe7,Nat.le_refl _⟩
      case rest=>
       clear hrx4 hry4 hlx hly hgne
       obtain ⟨gx,mx,cx,X,gy,my,cy,Y,rfl,rfl,hrx,hry,hlx,hly,hgc,hend,hbe⟩:=hcut
       have ho2:=fun W:World=>fun h=>isOne_any (some ⟨gy,0,none⟩) my cy Y W h
       have hTe:=hTd.later hbe
       have hau:=ha.later hbe
       have hbv:=hb.later hbe
       have hmin:Nat.gcd x y=Nat.gcd X Y*2 ^ min (ntz u) (ntz v):=by rw [←hg.out,HG.out,hgc.out]
       obtain ⟨sm,hsm⟩:∃ sm,sm=min (ntz u) (ntz v):=⟨_,rfl⟩
       have hsml:sm≤1099511627776:=by rw [hsm];exact Nat.le_trans (Nat.min_le_left _ _) hlz.1
       have esm:min ((ntz u:Nat):Int) ((ntz v:Nat):Int)=(sm:Int):=by rw [hsm];omega
       rw [←hsm] at hmin
       have HM:=Lib.hid hmin
       clear hmin hsm
       rcases hend.out with h1Y | ⟨hXg,hY1⟩
       ·have d2:decide (Y=1)=true:=by simpa using h1Y
        have ho:=ho2 _ hry.nat
        rw [d2] at ho
        have HY:=Lib.hid h1Y
        clear ho2 d2 h1Y
        go_wp2_with fail
        refine ho.mono ?_
        rintro e w4 ⟨rfl,rfl⟩
        go_wp2_with fail
        refine (twos_any A n c u _ hTe hau hu (by omega)).mono ?_
        rintro e w4 ⟨rfl,rfl⟩
        go_wp2_with fail
        refine (twos_any A' n' c' v _ hTe hbv hv (by omega)).mono ?_
        rintro e w4 ⟨rfl,rfl⟩
        have hsl:=shiftedLeft_any (some ⟨gy,0,none⟩) my cy Y sm _ hry.nat (by omega) hsml
        have HSL:=Lib.hid hsl
        clear hsl
        go_wp2_with fail
        refine HSL.out.mono ?_
        rintro e w5 ⟨A5,m5,c5,rfl,hn5,hb5⟩
        go_wp2_with fail
        go_ret
        refine ⟨A5,m5,c5,rfl,?_,hbel.trans ((hbe.trans (hb5.mono hbe.size)).mono hbel.size)⟩
        rw [HM.out,show Nat.gcd X Y=Y by rw [HY.out,Nat.gcd_one_right]]
        exact hn5
       ·have d2:decide (Y=1)=false:=by simpa using hY1
        have ho:=ho2 _ hry.nat
        rw [d2] at ho
        have HXG:=Lib.hid hXg
        clear ho2 d2 hXg hY1
        go_wp2_with fail
        refine ho.mono ?_
        rintro e w4 ⟨rfl,rfl⟩
        go_wp2_with fail
        refine (twos_any A n c u _ hTe hau hu (by omega)).mono ?_
        rintro e w4 ⟨rfl,rfl⟩
        go_wp2_with fail
        refine (twos_any A' n' c' v _ hTe hbv hv (by omega)).mono ?_
        rintro e w4 ⟨rfl,rfl⟩
        have hsl:=shiftedLeft_any (some ⟨gx,0,none⟩) mx cx X sm _ hrx.nat (by omega) hsml
        have HSL:=Lib.hid hsl
        clear hsl
        go_wp2_with fail
        refine HSL.out.mono ?_
        rintro e w5 ⟨A5,m5,c5,rfl,hn5,hb5⟩
        go_wp2_with fail
        go_ret
        refine ⟨A5,m5,c5,rfl,?_,hbel.trans ((hbe.trans (hb5.mono hbe.size)).mono hbel.size)⟩
        rw [HM.out,HXG.out]
        exact hn5
structure Q where
 neg:Bool
 top:Nat
 bot:Nat
def RatS (w:World) (B:Nat) (v:Value) (q:Q):Prop:=
 ∃ A n c A' n' c',v = .agg #[.bool q.neg,.slice A n c,.slice A' n' c']∧NatS w B A n c q.top∧NatS w B A' n' c' q.bot
def RetRat (w:World) (q:Q) (e:Ending) (w':World):Prop:=∃ v,e = .returned v∧RatS w' w'.heap.size v q∧Below w.heap.size w w'
def lowQ (neg:Bool) (t b:Nat):Q:=if b=0 then ⟨false,0,0⟩ else if t=0 then ⟨false,0,1⟩ else ⟨neg,t / Nat.gcd t b,b / Nat.gcd t b⟩
theorem isZero_val (A:Option Addr) (n c x:Nat) (w:World) (h:NatS w w.heap.size A n c x) :
  Calls Tryz.prog 131 #[.slice A n c] w fun e w'=>e = .returned (.bool (decide (x=0)))∧w=w':=by
 have hz:=isZero_any A n c w (by have:=h.nc;have:=h.cm;omega)
 have e:((n:Int)==0)=decide (x=0):=by
  rw [Bool.eq_iff_iff]
  simp only [beq_iff_eq,decide_eq_true_eq]
  rw [←digs_length_zero (n:=x),h.len]
  omega
 rwa [e] at hz
def ResBlk (w:World) (g:Nat) (b:Bool) (v1 v2:Value):Prop:=w.heap[g]? = some (.cells #[.bool b,v1,v2] 91 (0,0))
theorem ResBlk.new (w:World) (b:Bool) (v1 v2:Value):ResBlk (w.alloc (.cells #[.bool b,v1,v2] 91)) w.heap.size b v1 v2:=heap_alloc_new w _
theorem ResBlk.below {w w':World} {g B:Nat} {b:Bool} {v1 v2:Value} (h:ResBlk w g b v1 v2) (hb:Below B w w') (hg:g<B):ResBlk w' g b v1 v2:=(hb.block g hg).trans h
theorem ResBlk.cells {w:World} {g:Nat} {b:Bool} {v1 v2:Value} (h:ResBlk w g b v1 v2) :
  w.cell? ⟨g,0,none⟩=some (.bool b)∧w.cell? ⟨g,1,none⟩=some v1∧w.cell? ⟨g,2,none⟩=some v2∧w.frozen? ⟨g,0,none⟩=false∧w.frozen? ⟨g,1,none⟩=false∧w.frozen? ⟨g,2,none⟩=false∧g<w.heap.size:=by
 unfold ResBlk at h
 have hlt:g<w.heap.size:=by
  rcases Nat.lt_or_ge g w.heap.size with hlt | hge
  ·exact hlt
  ·rw [Array.getElem?_eq_none hge] at h;cases h
 exact ⟨by rw [cell_of_row w g 0 _ _ _ h];rfl,by rw [cell_of_row w g 1 _ _ _ h];rfl,by rw [cell_of_row w g 2 _ _ _ h];rfl,by simp [World.frozen?,h],by simp [World.frozen?,h],by simp [World.frozen?,h],hlt⟩
theorem size_set3 (w:World) (p q r:Addr) (u v x:Value):(((w.setCell p u).setCell q v).setCell r x).heap.size=w.heap.size:=by simp [World.setCell]
theorem NatS.res {w:World} {B n c x g:Nat} {A A1 A2:Option Addr} {b:Bool} {n1 c1 n2 c2:Nat} (h:NatS w B A n c x) (hk:ResBlk w g b (.slice A1 n1 c1) (.slice A2 n2 c2)) (u v y:Value) :
  NatS (((w.setCell ⟨g,0,none⟩ u).setCell ⟨g,1,none⟩ v).setCell ⟨g,2,none⟩ y) B A n c x:=by
 obtain ⟨k0,k1,k2,_,_,_,_⟩:=hk.cells
 refine ⟨⟨h.words.1,fun hn => ?_⟩,h.nc,h.cm⟩
 obtain ⟨ad,e,hb,hc⟩:=h.words.2 hn
 refine ⟨ad,e,hb,fun j z hz => ?_⟩
 have hcell:=hc j z hz
 have hint:∃ d:Nat,z = .int .u64 (d:Int):=by
  rw [List.getElem?_map] at hz
  cases hd:(digs x)[j]? with
  | none=>rw [hd] at hz;cases hz
  | some d=>rw [hd] at hz;injection hz with hz;exact ⟨d,hz.symm⟩
 obtain ⟨d,rfl⟩:=hint
 have n0:ad.add j≠⟨g,0,none⟩:=fun e0=>by rw [e0,k0] at hcell;injection hcell with hcell;cases hcell
 have n1':ad.add j≠⟨g,1,none⟩:=fun e0=>by rw [e0,k1] at hcell;injection hcell with hcell;cases hcell
 have n2':ad.add j≠⟨g,2,none⟩:=fun e0=>by rw [e0,k2] at hcell;injection hcell with hcell;cases hcell
 rw [World.cell?_setCell_other _ _ _ _ n2'.symm,World.cell?_setCell_other _ _ _ _ n1'.symm,World.cell?_setCell_other _ _ _ _ n0.symm]
 exact hcell
theorem three_set {a w:World} {B g:Nat} (h:Below B a w) (hg:B≤g) (u v x:Value):Below B a (((w.setCell ⟨g,0,none⟩ u).setCell ⟨g,1,none⟩ v).setCell ⟨g,2,none⟩ x):=
 ((h.setCell (p:=⟨g,0,none⟩) hg _).setCell (p:=⟨g,1,none⟩) hg _).setCell (p:=⟨g,2,none⟩) hg _
set_option maxHeartbeats 2000000 in
set_option maxRecDepth 100000 in
theorem lowest_any (neg:Bool) (A A':Option Addr) (n c n' c' x y:Nat) (w:World) (hT:Tabs w) (ha:NatS w w.heap.size A n c x) (hb:NatS w w.heap.size A' n' c' y) (hn:n≤1073741824) (hn':n'≤1073741824) :
  Calls Tryz.prog 104 #[.bool neg,.slice A n c,.slice A' n' c'] w (RetRat w (lowQ neg x y)):=by
 have hb0:Below w.heap.size w (w.alloc (.cells #[.bool false,.slice none 0 0,.slice none 0 0] 91)):=(Below.refl _ _).alloc (Nat.le_refl _) _
 by_cases hy0:y=0
 ·subst hy0
  have hz:=fun W:World=>fun h=>isZero_val A' n' c' 0 W h
  go_enter Tryz.func104,Tryz.ntmps104
  go_wp2_with fail
  refine (hz _ (hb.later hb0)).mono ?_
  rintro e w1 ⟨rfl,rfl⟩
  go_wp2
  refine bodyPost_ret (v := .agg #[.bool false,.slice none 0 0,.slice none 0 0]) (by simp [results,Tryz.results104,go_sem]) rfl ⟨_,rfl,⟨none,0,0,none,0,0,by simp [lowQ],?_,?_⟩,?_⟩
  ·simp only [lowQ,if_pos];exact NatS.nil _ _
  ·simp only [lowQ,if_pos];exact NatS.nil _ _
  ·exact hb0
 ·have hz:=fun W:World=>fun h=>isZero_val A' n' c' y W h
  have d1:decide (y=0)=false:=by simpa using hy0
  simp only [d1] at hz
  by_cases hx0:x=0
  ·subst hx0
   have hz2:=fun W:World=>fun h=>isZero_val A n c 0 W h
   go_enter Tryz.func104,Tryz.ntmps104
   go_wp2_with fail
   refine (hz _ (hb.later hb0)).mono ?_
   rintro e w1 ⟨rfl,rfl⟩
   go_wp2_with fail
   refine (hz2 _ (ha.later hb0)).mono ?_
   rintro e w1 ⟨rfl,rfl⟩
   have hno:=naturalOf_any 1 (w.alloc (.cells #[.bool false,.slice none 0 0,.slice none 0 0] 91)) (by omega) (by omega)
   go_wp2_with fail
   refine hno.mono ?_
   rintro e w2 ⟨A2,m2,c2,rfl,hn2,hb2⟩
   have hblk:=(ResBlk.new w false (.slice none 0 0) (.slice none 0 0)).below hb2 (by simp)
   obtain ⟨k0,k1,k2,f0,f1,f2,hlt⟩:=hblk.cells
   have HE:Hid (lowQ neg 0 y=⟨false,0,1⟩):=by unfold Hid lowQ;rw [if_neg hy0,if_pos rfl]
   have hb3:=hb0.trans (hb2.mono hb0.size)
   have hset:=three_set hb3 (g:=w.heap.size) (Nat.le_refl _) (.bool false) (.slice none 0 0) (.slice A2 m2 c2)
   go_wp2
   refine bodyPost_ret (v := .agg #[.bool false,.slice none 0 0,.slice A2 m2 c2]) (by simp [results,Tryz.results104,go_sem,k0,k1,k2]) rfl ⟨_,rfl,⟨none,0,0,A2,m2,c2,by rw [HE.out],?_,?_⟩,?_⟩
   ·rw [HE.out];exact NatS.nil _ _
   ·rw [HE.out,size_set3];exact hn2.res hblk _ _ _
   ·exact hset
  ·have hz2:=fun W:World=>fun h=>isZero_val A n c x W h
   have d2:decide (x=0)=false:=by simpa using hx0
   simp only [d2] at hz2
   have hx:0<x:=by omega
   have hy:0<y:=by omega
   obtain ⟨g,hgg⟩:∃ g,g=Nat.gcd x y:=⟨_,rfl⟩
   have hg0:0<g:=by rw [hgg];exact Nat.gcd_pos_of_pos_left _ hx
   have HE:Hid (lowQ neg x y=⟨neg,x / g,y / g⟩):=by unfold Hid lowQ;rw [if_neg hy0,if_neg hx0,hgg]
   have hgc:=gcd_any A A' n c n' c' x y _ (hT.later hb0) (ha.later hb0) (hb.later hb0) hn hn'
   rw [←hgg] at hgc
   have hgl:g≤x:=by rw [hgg];exact Nat.gcd_le_left _ hx
   have HG:=Lib.hid hgg
   clear hgg d1 d2 hx0 hy0
   go_enter Tryz.func104,Tryz.ntmps104
   go_wp2_with fail
   refine (hz _ (hb.later hb0)).mono ?_
   rintro e w1 ⟨rfl,rfl⟩
   go_wp2_with fail
   refine (hz2 _ (ha.later hb0)).mono ?_
   rintro e w1 ⟨rfl,rfl⟩
   go_wp2_with fail
   refine hgc.mono ?_
   rintro e w2 ⟨A2,m2,c2,rfl,hn2,hb2⟩
   have hb02:=hb0.trans (hb2.mono hb0.size)
   have ho:=isOne_any A2 m2 c2 g w2 hn2
   by_cases hg1:g=1
   ·have d3:decide (g=1)=true:=by simpa using hg1
    rw [d3] at ho
    have HG1:=Lib.hid hg1
    clear hg1 d3
    have hblk:=(ResBlk.new w false (.slice none 0 0) (.slice none 0 0)).below hb2 (by simp)
    obtain ⟨k0,k1,k2,f0,f1,f2,hlt⟩:=hblk.cells
    have hset:=three_set hb02 (g:=w.heap.size) (Nat.le_refl _) (.bool neg) (.slice A n c) (.slice A' n' c')
    go_wp2_with fail
    refine ho.mono ?_
    rintro e w3 ⟨rfl,rfl⟩
    go_wp2
    refine bodyPost_ret (v := .agg #[.bool neg,.slice A n c,.slice A' n' c']) (by simp [results,Tryz.results104,go_sem,k0,k1,k2]) rfl ⟨_,rfl,⟨A,n,c,A',n',c',by rw [HE.out],?_,?_⟩,hset⟩
    ·rw [HE.out,size_set3];show NatS _ _ A n c (x / g);rw [HG1.out,Nat.div_one];exact (ha.later hb02).res hblk _ _ _
    ·rw [HE.out,size_set3];show NatS _ _ A' n' c' (y / g);rw [HG1.out,Nat.div_one];exact (hb.later hb02).res hblk _ _ _
   ·have d3:decide (g=1)=false:=by simpa using hg1
    rw [d3] at ho
    clear hg1 d3
    go_wp2_with fail
    refine ho.mono ?_
    rintro e w3 ⟨rfl,rfl⟩
    go_wp2_with fail
    refine (over_any A A2 n c m2 c2 x g _ (ha.later hb02) hn2 hg0 (by omega)).mono ?_
    rintro e w4 ⟨A4,m4,c4,_,_,_,rfl,hq4,_,hb4⟩
    have hb04:=hb02.trans (hb4.mono hb02.size)
    go_wp2_with fail
    refine (over_any A' A2 n' c' m2 c2 y g _ (hb.later hb04) (hn2.later hb4) hg0 (by omega)).mono ?_
    rintro e w5 ⟨A5,m5,c5,_,_,_,rfl,hq5,_,hb5⟩
    have hb05:=hb04.trans (hb5.mono hb04.size)
    have hblk:=(((ResBlk.new w false (.slice none 0 0) (.slice none 0 0)).below hb2 (by simp)).below hb4 (by have:=hb2.size;simp at this;omega)).below hb5 (by have:=hb2.size;have:=hb4.size;simp at *; omega)
    obtain ⟨k0,k1,k2,f0,f1,f2,hlt⟩:=hblk.cells
    have hset:=three_set hb05 (g:=w.heap.size) (Nat.le_refl _) (.bool neg) (.slice A4 m4 c4) (.slice A5 m5 c5)
    go_wp2
    refine bodyPost_ret (v := .agg #[.bool neg,.slice A4 m4 c4,.slice A5 m5 c5]) (by simp [results,Tryz.results104,go_sem,k0,k1,k2]) rfl ⟨_,rfl,⟨A4,m4,c4,A5,m5,c5,by rw [HE.out],?_,?_⟩,hset⟩
    ·rw [HE.out,size_set3];exact (hq4.later hb5).res hblk _ _ _
    ·rw [HE.out,size_set3];exact hq5.res hblk _ _ _
end Go.Proofs.YteajibbphcfmeaaGreatDoor
