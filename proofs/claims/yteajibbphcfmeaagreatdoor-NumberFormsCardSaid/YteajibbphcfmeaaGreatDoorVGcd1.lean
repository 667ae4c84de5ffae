/- Contract of commonDivisor. -/
import Derived.Test.YteajibbphcfmeaaGreatDoorVDiv4
import Derived.Deep.LoopGhost
namespace Go.Proofs.YteajibbphcfmeaaGreatDoor
open Go.RowKit Bn
theorem ze9 (m:Nat):Nat.Coprime 2 (2*m+1):=by
 unfold Nat.Coprime
 rw [Nat.gcd_rec,Nat.mul_add_mod,Nat.gcd_comm]
 rfl
theorem zdO (k a m:Nat):Nat.gcd (2 ^ k*a) (2*m+1)=Nat.gcd a (2*m+1):=
 Nat.Coprime.gcd_mul_left_cancel a (Nat.Coprime.pow_left k (ze9 m))
def odd (n:Nat):Nat:=n / 2 ^ ntz n
theorem zco {n:Nat} (h:0<n):n=2 ^ ntz n*odd n∧∃ m,odd n=2*m+1:=by
 obtain ⟨m,hm⟩:=zgx h
 have e:odd n=2*m+1:=by
  unfold odd
  conv=>lhs;lhs;rw [hm]
  rw [Nat.mul_div_cancel_left _ (Nat.two_pow_pos _)]
 exact ⟨by rw [e];exact hm,m,e⟩
theorem zeu {n:Nat} (h:0<n):0<odd n:=by
 obtain ⟨_,m,e⟩:=zco h
 omega
theorem ziv {n k:Nat} (h:0<n) (hk:(digs n).length≤k):ntz n≤64*k:=by
 obtain ⟨m,hm⟩:=zgx h
 have h1:=zac n
 have h2:B ^ (digs n).length≤B ^ k:=Nat.pow_le_pow_right zaL hk
 have h3:2 ^ ntz n≤n:=by
  conv=>rhs;rw [hm]
  exact Nat.le_mul_of_pos_right _ (by omega)
 rcases Nat.lt_or_ge (64*k) (ntz n) with h4 | h4
 ·exfalso
  have h5:2 ^ (64*k)≤2 ^ ntz n:=Nat.pow_le_pow_right (by omega) (by omega)
  rw [Nat.pow_mul,←zeq] at h5
  omega
 ·exact h4
theorem zk0 {n:Nat} (h:0<n):ntz n / 64<(digs n).length:=by
 obtain ⟨m,hm⟩:=zgx h
 have h1:=zac n
 have h3:2 ^ ntz n≤n:=by
  conv=>rhs;rw [hm]
  exact Nat.le_mul_of_pos_right _ (by omega)
 rcases Nat.lt_or_ge (ntz n / 64) (digs n).length with h4 | h4
 ·exact h4
 ·exfalso
  have h5:2 ^ (64*(digs n).length)≤2 ^ ntz n:=Nat.pow_le_pow_right (by omega) (by omega)
  rw [Nat.pow_mul,←zeq] at h5
  omega
theorem zgZ (s t a b:Nat) (ha:∃ m,a=2*m+1) (hb:∃ m,b=2*m+1):Nat.gcd (2 ^ s*a) (2 ^ t*b)=2 ^ min s t*Nat.gcd a b:=by
 obtain ⟨m,rfl⟩:=ha
 obtain ⟨k,rfl⟩:=hb
 rcases Nat.le_total s t with h | h
 ·obtain ⟨d,rfl⟩:∃ d,t=s+d:=⟨t - s,by omega⟩
  rw [Nat.min_eq_left h,Nat.pow_add,Nat.mul_assoc,Nat.gcd_mul_left,Nat.gcd_comm,zdO,Nat.gcd_comm]
 ·obtain ⟨d,rfl⟩:∃ d,s=t+d:=⟨s - t,by omega⟩
  rw [Nat.min_eq_right h,Nat.pow_add,Nat.mul_assoc,Nat.gcd_mul_left,zdO]
theorem zlI {x y:Nat} (hx:0<x) (hy:0<y):Nat.gcd x y=Nat.gcd (odd x) (odd y)*2 ^ min (ntz x) (ntz y):=by
 obtain ⟨e1,o1⟩:=zco hx
 obtain ⟨e2,o2⟩:=zco hy
 have h:=zgZ (ntz x) (ntz y) (odd x) (odd y) o1 o2
 rw [←e1,←e2] at h
 rw [h,Nat.mul_comm]
theorem ziG {x y:Nat} (hy:∃ m,y=2*m+1) (hlt:y<x):Nat.gcd (odd (x - y)) y=Nat.gcd x y:=by
 obtain ⟨e,_⟩:=zco (n:=x - y) (by omega)
 obtain ⟨m,rfl⟩:=hy
 have h1:Nat.gcd (x - (2*m+1)) (2*m+1)=Nat.gcd x (2*m+1):=Nat.gcd_sub_self_left (by omega)
 rw [←h1]
 conv=>rhs;rw [e]
 rw [zdO]
theorem zf1 {n:Nat} (_h:0<n):odd n≤n:=Nat.div_le_self _ _
set_option maxHeartbeats 4000000 in
set_option maxRecDepth 100000 in
theorem zdG (A A':Option Addr) (n c n' c' x y:Nat) (w:World) (hT:Tabs w) (ha:NatS w w.heap.size A n c x) (hb:NatS w w.heap.size A' n' c' y) (hn:n≤1073741824) (hn':n'≤1073741824) :
  Calls Tryz.prog 126 #[.slice A n c,.slice A' n' c'] w (zbX w (Nat.gcd x y)):=by
 have h1:=ha.nc
 have h2:=ha.cm
 have h3:=hb.nc
 have h4:=hb.cm
 unfold maxLen at h2 h4
 go_enter Tryz.func126,Tryz.ntmps126
 go_upto_if 12 with (fail)
 go_cut [0,1] (fun s s' wc=>∃ A n c A' n' c' u v,s = .slice A n c∧s' = .slice A' n' c'∧NatS w w.heap.size A n c u∧NatS w w.heap.size A' n' c' v∧n'≤n∧n≤1073741824∧Hid (Nat.gcd u v=Nat.gcd x y)∧wc=w)
 case first=>
  by_cases aW:n<n'
  ·have hd:decide (n<n')=true:=by simpa using aW
   go_wp2_with fail
   go_meet
   exact ⟨A',n',c',A,n,c,y,x,rfl,rfl,hb,ha,by omega,hn',Nat.gcd_comm _ _,rfl⟩
  ·have hd:decide (n<n')=false:=by simpa using aW
   go_wp2_with fail
   go_meet
   exact ⟨A,n,c,A',n',c',x,y,rfl,rfl,ha,hb,by omega,hn,rfl,rfl⟩
 case rest=>
  clear ha hb hn hn' h1 h2 h3 h4
  obtain ⟨A,n,c,A',n',c',u,v,rfl,rfl,ha,hb,bS,hn,hg,rfl⟩:=hcut
  have h1:=ha.nc
  have h2:=ha.cm
  have h3:=hb.nc
  have h4:=hb.cm
  have hz:=zb9 A' n' c' wc (by omega)
  unfold maxLen at h2 h4
  have HA:=Lib.hid ha.len
  have HB:=Lib.hid hb.len
  have bV:n'≤1073741824:=by omega
  obtain ⟨tb,cN⟩:∃ tb,tb=(decide (n'<n) && !decide (n'=0)):=⟨_,rfl⟩
  have bT:=Lib.hid cN
  clear cN
  go_upto_region 3 with (fail)
  go_cut [24] (fun b wd=>b = .bool tb∧wd=wc)
  case first=>
   by_cases aW:n'<n
   ·have hd:decide (n'<n)=true:=by simpa using aW
    have bE:∃ z,((n':Int)==0)=z:=⟨_,rfl⟩
    obtain ⟨z,bE⟩:=bE
    rw [bE] at hz
    go_wp2_with (go_at_call 131;refine hz.mono ?_;rintro e w1 ⟨rfl,rfl⟩)
    go_meet
    refine ⟨?_,rfl⟩
    rw [bT.out,hd,←bE]
    congr 1
    rw [Bool.true_and]
    congr 1
    rw [Bool.eq_iff_iff]
    simp
   ·have hd:decide (n'<n)=false:=by simpa using aW
    go_wp2_with fail
    go_meet
    exact ⟨by rw [bT.out,hd];rfl,rfl⟩
  case rest=>
   obtain ⟨rfl,rfl⟩:=hcut
   go_upto_if 24 with (fail)
   go_cut [0] (fun s wd=>∃ A2 n2 c2 u2,s = .slice A2 n2 c2∧NatS wd wd.heap.size A2 n2 c2 u2∧NatS wd wd.heap.size A' n' c' v∧n2≤1073741824∧Hid (Nat.gcd u2 v=Nat.gcd x y)∧Below wc.heap.size wc wd)
   case first=>
    cases tb
    ·go_wp2_with fail
     go_meet
     exact ⟨A,n,c,u,rfl,ha,hb,hn,hg,Below.refl _ _⟩
    ·have hv:0<v:=by
      have h:=bT.out
      rcases Nat.eq_zero_or_pos v with rfl | h0
      ·have h5:=HB.out
       rw [digs_zero] at h5
       simp at h5
       subst h5
       simp at h
      ·exact h0
     have dA:=zcs A A' n c n' c' u v wc ha hb hv (by omega)
     go_wp2_with fail
     refine dA.mono ?_
     rintro e w1 ⟨A1,m1,c1,A2,m2,c2,rfl,dC,bR,aJ⟩
     go_wp2_with fail
     go_meet
     refine ⟨A2,m2,c2,u % v,rfl,bR,hb.later aJ,?_,?_,aJ⟩
     ·have h6:=bR.len
      have h7:=zaa (Nat.le_of_lt (Nat.mod_lt u hv))
      rw [HB.out] at h7
      omega
     ·rw [Hid,←hg.out,←Nat.gcd_rec v u,Nat.gcd_comm]
   case rest=>
    clear ha hb h1 h2 h3 h4 hz HA bT hg hn
    obtain ⟨A,n,c,u,rfl,ha,hb,hn,hg,aF⟩:=hcut
    have aR:=hT.later aF
    have h1:=ha.nc
    have h2:=ha.cm
    have h3:=hb.nc
    have h4:=hb.cm
    have bM:=fun W:World=>zb9 A n c W (by omega)
    have bQ:=fun W:World=>zb9 A' n' c' W (by omega)
    unfold maxLen at h2 h4
    by_cases hu0:n=0
    ·subst hu0
     obtain rfl:u=0:=za1.1 ha.len
     go_wp2_with fail
     refine (bM _).mono ?_
     rintro e w1 ⟨rfl,rfl⟩
     go_wp2_with fail
     go_ret
     exact ⟨A',n',c',rfl,by rw [←hg.out,Nat.gcd_zero_left];exact hb,aF⟩
    ·have hu:0<u:=by
      rcases Nat.eq_zero_or_pos u with rfl | h
      ·exact absurd (by rw [←ha.len,digs_zero];rfl) hu0
      ·exact h
     have bE:(((n:Nat):Int)==0)=false:=by rw [beq_eq_false_iff_ne];omega
     simp only [bE] at bM
     by_cases hv0:n'=0
     ·subst hv0
      obtain rfl:v=0:=za1.1 hb.len
      go_wp2_with fail
      refine (bM _).mono ?_
      rintro e w1 ⟨rfl,rfl⟩
      go_wp2_with fail
      refine (bQ _).mono ?_
      rintro e w1 ⟨rfl,rfl⟩
      go_wp2_with fail
      go_ret
      exact ⟨A,n,c,rfl,by rw [←hg.out,Nat.gcd_zero_right];exact ha,aF⟩
     ·have hv:0<v:=by
       rcases Nat.eq_zero_or_pos v with rfl | h
       ·exact absurd (by rw [←hb.len,digs_zero];rfl) hv0
       ·exact h
      have bU:(((n':Nat):Int)==0)=false:=by rw [beq_eq_false_iff_ne];omega
      simp only [bU] at bQ
      have cJ:ntz u≤1099511627776∧ntz v≤1099511627776:=by
       have k1:=ziv hu (by rw [ha.len];exact hn)
       have k2:=ziv hv (by rw [hb.len];exact bV)
       omega
      go_wp2_with fail
      refine (bM _).mono ?_
      rintro e w1 ⟨rfl,rfl⟩
      go_wp2_with fail
      refine (bQ _).mono ?_
      rintro e w1 ⟨rfl,rfl⟩
      go_wp2_with fail
      refine (zct A n c u _ aR ha hu (by omega)).mono ?_
      rintro e w1 ⟨rfl,rfl⟩
      go_wp2_with fail
      refine (zaO A n c u (ntz u) _ ha (by omega) cJ.1).mono ?_
      rintro e w1 ⟨aJ,bR⟩
      rcases bR with ⟨_,bA⟩ | ⟨gx,mx,cx,rfl,aD⟩
      ·exact absurd bA (by have:=zeu hu;unfold odd at this;omega)
      have bF:=aR.later aJ
      go_wp2_with fail
      refine (zct A' n' c' v _ bF (hb.later aJ) hv (by omega)).mono ?_
      rintro e w2 ⟨rfl,rfl⟩
      go_wp2_with fail
      refine (zaO A' n' c' v (ntz v) _ (hb.later aJ) (by omega) cJ.2).mono ?_
      rintro e w3 ⟨cI,cU⟩
      rcases cU with ⟨_,bA⟩ | ⟨gy,my,cy,rfl,aA⟩
      ·exact absurd bA (by have:=zeu hv;unfold odd at this;omega)
      have bN:=aD.below cI
      have bB:gx≠gy:=by have:=aD.lt;have:=aA.lt;omega
      have bK:=aA.mono aJ.size
      have aQ:Below wc.heap.size wc w3:=aJ.trans (cI.mono aJ.size)
      have aM:mx≤1073741824:=by
       have k1:=aD.len
       have k2:=zaa (zf1 hu)
       have k3:=ha.len
       unfold odd at k2
       omega
      have aN:my≤1073741824:=by
       have k1:=aA.len
       have k2:=zaa (zf1 hv)
       have k3:=hb.len
       unfold odd at k2
       omega
      have HU:=Lib.hid (zco hu)
      have HV:=Lib.hid (zco hv)
      have cS:=Lib.hid (zeu hu)
      have cO:=Lib.hid (zeu hv)
      have HG:Hid (Nat.gcd u v=Nat.gcd (odd u) (odd v)*2 ^ min (ntz u) (ntz v)):=zlI hu hv
      have aO:zav w3 wc.heap.size gx mx cx (digs (odd u)):=bN
      have aL:zav w3 wc.heap.size gy my cy (digs (odd v)):=bK
      clear aD aA bN bK bM bQ bF aJ cI
      obtain ⟨U,hU⟩:∃ U,U=odd u:=⟨_,rfl⟩
      obtain ⟨V,hV⟩:∃ V,V=odd v:=⟨_,rfl⟩
      rw [←hU] at HU cS HG aO
      rw [←hV] at HV cO HG aL
      clear hU hV
      go_upto_block 0 with (fail)
      go_cut [5,6,7] (fun sx sy _ we=>∃ gx mx cx X gy my cy Y,sx = .slice (some ⟨gx,0,none⟩) mx cx∧sy = .slice (some ⟨gy,0,none⟩) my cy∧zav we wc.heap.size gx mx cx (digs X)∧zav we wc.heap.size gy my cy (digs Y)∧mx≤1073741824∧my≤1073741824∧Hid (Nat.gcd X Y=Nat.gcd U V)∧Hid (Y=1∨Nat.gcd X Y=X∧Y≠1)∧Below wc.heap.size wc we)
      case first=>
       go_wp2_with fail
       go_loopg [5,6,7] (U+V) (fun G sx sy _ we=>∃ gx mx cx X gy my cy Y,sx = .slice (some ⟨gx,0,none⟩) mx cx∧sy = .slice (some ⟨gy,0,none⟩) my cy∧gx≠gy∧zav we wc.heap.size gx mx cx (digs X)∧zav we wc.heap.size gy my cy (digs Y)∧mx≤1073741824∧my≤1073741824∧(0<X∧0<Y∧(∃ m,X=2*m+1)∧∃ m,Y=2*m+1)∧Hid (Nat.gcd X Y=Nat.gcd U V)∧Below wc.heap.size wc we∧X+Y≤G)
       case atStart=>exact ⟨gx,mx,cx,U,gy,my,cy,V,rfl,rfl,bB,aO,aL,aM,aN,⟨cS.out,cO.out,HU.out.2,HV.out.2⟩,rfl,aQ,Nat.le_refl _⟩
       case round=>
        clear aO aL aM aN bB aQ
        obtain ⟨gx,mx,cx,X,gy,my,cy,Y,rfl,rfl,bD,aD,aA,aM,aN,hp,aV,aC,hG⟩:=hrel
        obtain ⟨we,rfl⟩:∃ we:World,we=wr:=⟨_,rfl⟩
        have cT:=aR.later aC
        have aK:=zbo _ mx cx X we aD.nat
        have aH:=zbo _ my cy Y we aA.nat
        have aP:=zaM _ _ mx cx my cy X Y we aD.nat aA.nat
        have HP:=Lib.hid hp
        clear hp
        by_cases hX1:X=1
        ·have d1:decide (X=1)=true:=by simpa using hX1
         rw [d1] at aK
         have cV:=Lib.hid hX1
         clear hX1 d1
         go_wp2_with fail
         refine aK.mono ?_
         rintro e w1 ⟨rfl,rfl⟩
         go_wp2_with fail
         go_meet
         refine ⟨gx,mx,cx,X,gy,my,cy,Y,rfl,rfl,aD,aA,aM,aN,aV,?_,aC⟩
         by_cases aI:Y=1
         ·exact .inl aI
         ·exact .inr ⟨by rw [cV.out,Nat.gcd_one_left],aI⟩
        ·have d1:decide (X=1)=false:=by simpa using hX1
         rw [d1] at aK
         by_cases aI:Y=1
         ·have d2:decide (Y=1)=true:=by simpa using aI
          rw [d2] at aH
          have cM:=Lib.hid aI
          clear hX1 d1 aI d2
          go_wp2_with fail
          refine aK.mono ?_
          rintro e w1 ⟨rfl,rfl⟩
          go_wp2_with fail
          refine aH.mono ?_
          rintro e w1 ⟨rfl,rfl⟩
          go_wp2_with fail
          go_meet
          exact ⟨gx,mx,cx,X,gy,my,cy,Y,rfl,rfl,aD,aA,aM,aN,aV,.inl cM.out,aC⟩
         ·have d2:decide (Y=1)=false:=by simpa using aI
          rw [d2] at aH
          have cM:=Lib.hid aI
          clear hX1 d1 aI d2
          rcases Nat.lt_trichotomy X Y with aW | bY | cW
          ·rw [ncmp_lt aW] at aP
           go_wp2_with fail
           refine aK.mono ?_
           rintro e w1 ⟨rfl,rfl⟩
           go_wp2_with fail
           refine aH.mono ?_
           rintro e w1 ⟨rfl,rfl⟩
           go_wp2_with fail
           refine aP.mono ?_
           rintro e w1 ⟨rfl,q4,rfl⟩
           have aD:=aD.drewN q4
           have aA:=aA.drewN q4
           have aC:=zab aC q4
           have cT:=aR.later aC
           have hp:=HP.out
           clear aK aH aP
           have bS:X≤Y:=by omega
           have bC:=zdc (some ⟨gy,0,none⟩) (some ⟨gx,0,none⟩) wc.heap.size gy my cy my cy mx cx Y X (digs Y) (we.drewN q4) True aA (zap Y) aA.nat aD.nat (.inr ⟨rfl,rfl,trivial⟩) (fun _ ad h=>by injection h with h;subst h;exact bD) (Nat.le_refl _) bS (by omega)
           go_wp2_with fail
           refine bC.mono ?_
           rintro e w5 ⟨m5,rfl,aG,bH⟩
           have aE:0<Y - X:=by omega
           have bX:=aR.only4 aC bH aA.lt.1
           have cL:m5≤1073741824:=by
            have k1:=aG.len
            have k2:=zaa (Nat.sub_le Y X)
            have k3:=aA.len
            omega
           go_wp2_with fail
           refine (zct _ m5 cy (Y - X) _ bX aG.nat aE (by omega)).mono ?_
           rintro e w6 ⟨rfl,rfl⟩
           have cZ:=ziv aE (by rw [aG.len];exact cL)
           have cC:=zeZ (some ⟨gy,0,none⟩) wc.heap.size gy m5 cy m5 cy (Y - X) (ntz (Y - X)) (digs (Y - X)) w5 True aG (zap _) aG.nat (.inr ⟨rfl,rfl,trivial⟩) (Nat.le_refl _) (by omega) (by omega) (by rw [←aG.len];exact zk0 aE)
           go_wp2_with fail
           refine cC.mono ?_
           rintro e w7 ⟨m7,rfl,bI,cK⟩
           have cA:m7≤1073741824:=by
            have k1:=bI.len
            have k2:=zaa (zf1 aE)
            have k3:=aG.len
            unfold odd at k2
            omega
           have bG:=zf0 bH cK
           have aT:=aD.kept bG (by intro e;injection e with e;exact bD e.symm)
           have aZ:=aC.grown bG aC.size (fun k hk=>by cases hk;exact aA.lt.1)
           have cE:zav w7 wc.heap.size gy m7 cy (digs (odd (Y - X))):=bI
           have cG:=zf1 aE
           have aX:=zeu aE
           have aY:=(zco aE).2
           have aS:Hid (Nat.gcd (odd (Y - X)) X=Nat.gcd U V):=by rw [Hid,←aV.out];rw [Nat.gcd_comm X Y];exact ziG hp.2.2.1 (by omega)
           go_wp2_with fail
           go_roundg (odd (Y - X)+X)
           case measure=>omega
           case rel=>exact ⟨gy,m7,cy,odd (Y - X),gx,mx,cx,X,rfl,rfl,bD.symm,cE,aT,cA,aM,⟨aX,hp.1,aY,hp.2.2.1⟩,aS,aZ,Nat.le_refl _⟩
          ·rw [bY,ncmp_eq] at aP
           have HE:=Lib.hid bY
           clear bY
           go_wp2_with fail
           refine aK.mono ?_
           rintro e w1 ⟨rfl,rfl⟩
           go_wp2_with fail
           refine aH.mono ?_
           rintro e w1 ⟨rfl,rfl⟩
           go_wp2_with fail
           refine aP.mono ?_
           rintro e w1 ⟨rfl,q4,rfl⟩
           go_wp2_with fail
           go_meet
           exact ⟨gx,mx,cx,X,gy,my,cy,Y,rfl,rfl,aD.drewN q4,aA.drewN q4,aM,aN,aV,.inr ⟨by rw [HE.out,Nat.gcd_self],cM.out⟩,zab aC q4⟩
          ·rw [ncmp_gt cW] at aP
           go_wp2_with fail
           refine aK.mono ?_
           rintro e w1 ⟨rfl,rfl⟩
           go_wp2_with fail
           refine aH.mono ?_
           rintro e w1 ⟨rfl,rfl⟩
           go_wp2_with fail
           refine aP.mono ?_
           rintro e w1 ⟨rfl,q4,rfl⟩
           have aD:=aD.drewN q4
           have aA:=aA.drewN q4
           have aC:=zab aC q4
           have cT:=aR.later aC
           have hp:=HP.out
           clear aK aH aP
           have bS:Y≤X:=by omega
           have bC:=zdc (some ⟨gx,0,none⟩) (some ⟨gy,0,none⟩) wc.heap.size gx mx cx mx cx my cy X Y (digs X) (we.drewN q4) True aD (zap X) aD.nat aA.nat (.inr ⟨rfl,rfl,trivial⟩) (fun _ ad h=>by injection h with h;subst h;exact bD.symm) (Nat.le_refl _) bS (by omega)
           go_wp2_with fail
           refine bC.mono ?_
           rintro e w5 ⟨m5,rfl,aG,bH⟩
           have aE:0<X - Y:=by omega
           have bX:=aR.only4 aC bH aD.lt.1
           have cL:m5≤1073741824:=by
            have k1:=aG.len
            have k2:=zaa (Nat.sub_le X Y)
            have k3:=aD.len
            omega
           go_wp2_with fail
           refine (zct _ m5 cx (X - Y) _ bX aG.nat aE (by omega)).mono ?_
           rintro e w6 ⟨rfl,rfl⟩
           have cZ:=ziv aE (by rw [aG.len];exact cL)
           have cC:=zeZ (some ⟨gx,0,none⟩) wc.heap.size gx m5 cx m5 cx (X - Y) (ntz (X - Y)) (digs (X - Y)) w5 True aG (zap _) aG.nat (.inr ⟨rfl,rfl,trivial⟩) (Nat.le_refl _) (by omega) (by omega) (by rw [←aG.len];exact zk0 aE)
           go_wp2_with fail
           refine cC.mono ?_
           rintro e w7 ⟨m7,rfl,bI,cK⟩
           have cA:m7≤1073741824:=by
            have k1:=bI.len
            have k2:=zaa (zf1 aE)
            have k3:=aG.len
            unfold odd at k2
            omega
           have bG:=zf0 bH cK
           have aT:=aA.kept bG (by intro e;injection e with e;exact bD e)
           have aZ:=aC.grown bG aC.size (fun k hk=>by cases hk;exact aD.lt.1)
           have cE:zav w7 wc.heap.size gx m7 cx (digs (odd (X - Y))):=bI
           have cG:=zf1 aE
           have aX:=zeu aE
           have aY:=(zco aE).2
           have aS:Hid (Nat.gcd (odd (X - Y)) Y=Nat.gcd U V):=by rw [Hid,←aV.out];exact ziG hp.2.2.2 (by omega)
           go_wp2_with fail
           go_roundg (odd (X - Y)+Y)
           case measure=>omega
           case rel=>exact ⟨gx,m7,cx,odd (X - Y),gy,my,cy,Y,rfl,rfl,bD,cE,aT,cA,aN,⟨aX,hp.2.1,aY,hp.2.2.2⟩,aS,aZ,Nat.le_refl _⟩
      case rest=>
       clear aO aL aM aN bB
       obtain ⟨gx,mx,cx,X,gy,my,cy,Y,rfl,rfl,aD,aA,aM,aN,aV,cB,aC⟩:=hcut
       have aH:=fun W:World=>fun h=>zbo (some ⟨gy,0,none⟩) my cy Y W h
       have bP:=aR.later aC
       have cP:=ha.later aC
       have cQ:=hb.later aC
       have aU:Nat.gcd x y=Nat.gcd X Y*2 ^ min (ntz u) (ntz v):=by rw [←hg.out,HG.out,aV.out]
       obtain ⟨sm,bO⟩:∃ sm,sm=min (ntz u) (ntz v):=⟨_,rfl⟩
       have bJ:sm≤1099511627776:=by rw [bO];exact Nat.le_trans (Nat.min_le_left _ _) cJ.1
       have dB:min ((ntz u:Nat):Int) ((ntz v:Nat):Int)=(sm:Int):=by rw [bO];omega
       rw [←bO] at aU
       have HM:=Lib.hid aU
       clear aU bO
       rcases cB.out with bW | ⟨cR,aI⟩
       ·have d2:decide (Y=1)=true:=by simpa using bW
        have ho:=aH _ aA.nat
        rw [d2] at ho
        have HY:=Lib.hid bW
        clear aH d2 bW
        go_wp2_with fail
        refine ho.mono ?_
        rintro e w4 ⟨rfl,rfl⟩
        go_wp2_with fail
        refine (zct A n c u _ bP cP hu (by omega)).mono ?_
        rintro e w4 ⟨rfl,rfl⟩
        go_wp2_with fail
        refine (zct A' n' c' v _ bP cQ hv (by omega)).mono ?_
        rintro e w4 ⟨rfl,rfl⟩
        have bL:=zau (some ⟨gy,0,none⟩) my cy Y sm _ aA.nat (by omega) bJ
        have bZ:=Lib.hid bL
        clear bL
        go_wp2_with fail
        refine bZ.out.mono ?_
        rintro e w5 ⟨A5,m5,c5,rfl,cH,cF⟩
        go_wp2_with fail
        go_ret
        refine ⟨A5,m5,c5,rfl,?_,aF.trans ((aC.trans (cF.mono aC.size)).mono aF.size)⟩
        rw [HM.out,show Nat.gcd X Y=Y by rw [HY.out,Nat.gcd_one_right]]
        exact cH
       ·have d2:decide (Y=1)=false:=by simpa using aI
        have ho:=aH _ aA.nat
        rw [d2] at ho
        have cY:=Lib.hid cR
        clear aH d2 cR aI
        go_wp2_with fail
        refine ho.mono ?_
        rintro e w4 ⟨rfl,rfl⟩
        go_wp2_with fail
        refine (zct A n c u _ bP cP hu (by omega)).mono ?_
        rintro e w4 ⟨rfl,rfl⟩
        go_wp2_with fail
        refine (zct A' n' c' v _ bP cQ hv (by omega)).mono ?_
        rintro e w4 ⟨rfl,rfl⟩
        have bL:=zau (some ⟨gx,0,none⟩) mx cx X sm _ aD.nat (by omega) bJ
        have bZ:=Lib.hid bL
        clear bL
        go_wp2_with fail
        refine bZ.out.mono ?_
        rintro e w5 ⟨A5,m5,c5,rfl,cH,cF⟩
        go_wp2_with fail
        go_ret
        refine ⟨A5,m5,c5,rfl,?_,aF.trans ((aC.trans (cF.mono aC.size)).mono aF.size)⟩
        rw [HM.out,cY.out]
        exact cH
structure Q where
 neg:Bool
 top:Nat
 bot:Nat
def RatS (w:World) (B:Nat) (v:Value) (q:Q):Prop:=
 ∃ A n c A' n' c',v = .agg #[.bool q.neg,.slice A n c,.slice A' n' c']∧NatS w B A n c q.top∧NatS w B A' n' c' q.bot
def zaT (w:World) (q:Q) (e:Ending) (w':World):Prop:=∃ v,e = .returned v∧RatS w' w'.heap.size v q∧Below w.heap.size w w'
def lowQ (neg:Bool) (t b:Nat):Q:=if b=0 then ⟨false,0,0⟩ else if t=0 then ⟨false,0,1⟩ else ⟨neg,t / Nat.gcd t b,b / Nat.gcd t b⟩
theorem zaK (A:Option Addr) (n c x:Nat) (w:World) (h:NatS w w.heap.size A n c x) :
  Calls Tryz.prog 131 #[.slice A n c] w fun e w'=>e = .returned (.bool (decide (x=0)))∧w=w':=by
 have hz:=zb9 A n c w (by have:=h.nc;have:=h.cm;omega)
 have e:((n:Int)==0)=decide (x=0):=by
  rw [Bool.eq_iff_iff]
  simp only [beq_iff_eq,decide_eq_true_eq]
  rw [←za1 (n:=x),h.len]
  omega
 rwa [e] at hz
def zad (w:World) (g:Nat) (b:Bool) (v1 v2:Value):Prop:=w.heap[g]? = some (.cells #[.bool b,v1,v2] 91 (0,0))
theorem zad.new (w:World) (b:Bool) (v1 v2:Value):zad (w.alloc (.cells #[.bool b,v1,v2] 91)) w.heap.size b v1 v2:=heap_alloc_new w _
theorem zad.below {w w':World} {g B:Nat} {b:Bool} {v1 v2:Value} (h:zad w g b v1 v2) (hb:Below B w w') (hg:g<B):zad w' g b v1 v2:=(hb.block g hg).trans h
theorem zad.cells {w:World} {g:Nat} {b:Bool} {v1 v2:Value} (h:zad w g b v1 v2) :
  w.cell? ⟨g,0,none⟩=some (.bool b)∧w.cell? ⟨g,1,none⟩=some v1∧w.cell? ⟨g,2,none⟩=some v2∧w.frozen? ⟨g,0,none⟩=false∧w.frozen? ⟨g,1,none⟩=false∧w.frozen? ⟨g,2,none⟩=false∧g<w.heap.size:=by
 unfold zad at h
 have aA:g<w.heap.size:=by
  rcases Nat.lt_or_ge g w.heap.size with aA | aC
  ·exact aA
  ·rw [Array.getElem?_eq_none aC] at h;cases h
 exact ⟨by rw [cell_of_row w g 0 _ _ _ h];rfl,by rw [cell_of_row w g 1 _ _ _ h];rfl,by rw [cell_of_row w g 2 _ _ _ h];rfl,by simp [World.frozen?,h],by simp [World.frozen?,h],by simp [World.frozen?,h],aA⟩
theorem zaf (w:World) (p q r:Addr) (u v x:Value):(((w.setCell p u).setCell q v).setCell r x).heap.size=w.heap.size:=by simp [World.setCell]
theorem NatS.res {w:World} {B n c x g:Nat} {A A1 A2:Option Addr} {b:Bool} {n1 c1 n2 c2:Nat} (h:NatS w B A n c x) (hk:zad w g b (.slice A1 n1 c1) (.slice A2 n2 c2)) (u v y:Value) :
  NatS (((w.setCell ⟨g,0,none⟩ u).setCell ⟨g,1,none⟩ v).setCell ⟨g,2,none⟩ y) B A n c x:=by
 obtain ⟨k0,k1,k2,_,_,_,_⟩:=hk.cells
 refine ⟨⟨h.words.1,fun hn => ?_⟩,h.nc,h.cm⟩
 obtain ⟨ad,e,hb,hc⟩:=h.words.2 hn
 refine ⟨ad,e,hb,fun j z hz => ?_⟩
 have aA:=hc j z hz
 have aC:∃ d:Nat,z = .int .u64 (d:Int):=by
  rw [List.getElem?_map] at hz
  cases hd:(digs x)[j]? with
  | none=>rw [hd] at hz;cases hz
  | some d=>rw [hd] at hz;injection hz with hz;exact ⟨d,hz.symm⟩
 obtain ⟨d,rfl⟩:=aC
 have n0:ad.add j≠⟨g,0,none⟩:=fun e0=>by rw [e0,k0] at aA;injection aA with aA;cases aA
 have aE:ad.add j≠⟨g,1,none⟩:=fun e0=>by rw [e0,k1] at aA;injection aA with aA;cases aA
 have aD:ad.add j≠⟨g,2,none⟩:=fun e0=>by rw [e0,k2] at aA;injection aA with aA;cases aA
 rw [World.cell?_setCell_other _ _ _ _ aD.symm,World.cell?_setCell_other _ _ _ _ aE.symm,World.cell?_setCell_other _ _ _ _ n0.symm]
 exact aA
theorem zak {a w:World} {B g:Nat} (h:Below B a w) (hg:B≤g) (u v x:Value):Below B a (((w.setCell ⟨g,0,none⟩ u).setCell ⟨g,1,none⟩ v).setCell ⟨g,2,none⟩ x):=
 ((h.setCell (p:=⟨g,0,none⟩) hg _).setCell (p:=⟨g,1,none⟩) hg _).setCell (p:=⟨g,2,none⟩) hg _
set_option maxHeartbeats 2000000 in
set_option maxRecDepth 100000 in
theorem zbq (neg:Bool) (A A':Option Addr) (n c n' c' x y:Nat) (w:World) (hT:Tabs w) (ha:NatS w w.heap.size A n c x) (hb:NatS w w.heap.size A' n' c' y) (hn:n≤1073741824) (hn':n'≤1073741824) :
  Calls Tryz.prog 104 #[.bool neg,.slice A n c,.slice A' n' c'] w (zaT w (lowQ neg x y)):=by
 have aD:Below w.heap.size w (w.alloc (.cells #[.bool false,.slice none 0 0,.slice none 0 0] 91)):=(Below.refl _ _).alloc (Nat.le_refl _) _
 by_cases hy0:y=0
 ·subst hy0
  have hz:=fun W:World=>fun h=>zaK A' n' c' 0 W h
  go_enter Tryz.func104,Tryz.ntmps104
  go_wp2_with fail
  refine (hz _ (hb.later aD)).mono ?_
  rintro e w1 ⟨rfl,rfl⟩
  go_wp2
  refine bodyPost_ret (v := .agg #[.bool false,.slice none 0 0,.slice none 0 0]) (by simp [results,Tryz.results104,go_sem]) rfl ⟨_,rfl,⟨none,0,0,none,0,0,by simp [lowQ],?_,?_⟩,?_⟩
  ·simp only [lowQ,if_pos];exact NatS.nil _ _
  ·simp only [lowQ,if_pos];exact NatS.nil _ _
  ·exact aD
 ·have hz:=fun W:World=>fun h=>zaK A' n' c' y W h
  have d1:decide (y=0)=false:=by simpa using hy0
  simp only [d1] at hz
  by_cases hx0:x=0
  ·subst hx0
   have aJ:=fun W:World=>fun h=>zaK A n c 0 W h
   go_enter Tryz.func104,Tryz.ntmps104
   go_wp2_with fail
   refine (hz _ (hb.later aD)).mono ?_
   rintro e w1 ⟨rfl,rfl⟩
   go_wp2_with fail
   refine (aJ _ (ha.later aD)).mono ?_
   rintro e w1 ⟨rfl,rfl⟩
   have aR:=zah 1 (w.alloc (.cells #[.bool false,.slice none 0 0,.slice none 0 0] 91)) (by omega) (by omega)
   go_wp2_with fail
   refine aR.mono ?_
   rintro e w2 ⟨A2,m2,c2,rfl,aI,aF⟩
   have aA:=(zad.new w false (.slice none 0 0) (.slice none 0 0)).below aF (by simp)
   obtain ⟨k0,k1,k2,f0,f1,f2,aP⟩:=aA.cells
   have HE:Hid (lowQ neg 0 y=⟨false,0,1⟩):=by unfold Hid lowQ;rw [if_neg hy0,if_pos rfl]
   have aT:=aD.trans (aF.mono aD.size)
   have aE:=zak aT (g:=w.heap.size) (Nat.le_refl _) (.bool false) (.slice none 0 0) (.slice A2 m2 c2)
   go_wp2
   refine bodyPost_ret (v := .agg #[.bool false,.slice none 0 0,.slice A2 m2 c2]) (by simp [results,Tryz.results104,go_sem,k0,k1,k2]) rfl ⟨_,rfl,⟨none,0,0,A2,m2,c2,by rw [HE.out],?_,?_⟩,?_⟩
   ·rw [HE.out];exact NatS.nil _ _
   ·rw [HE.out,zaf];exact aI.res aA _ _ _
   ·exact aE
  ·have aJ:=fun W:World=>fun h=>zaK A n c x W h
   have d2:decide (x=0)=false:=by simpa using hx0
   simp only [d2] at aJ
   have hx:0<x:=by omega
   have hy:0<y:=by omega
   obtain ⟨g,aH⟩:∃ g,g=Nat.gcd x y:=⟨_,rfl⟩
   have aO:0<g:=by rw [aH];exact Nat.gcd_pos_of_pos_left _ hx
   have HE:Hid (lowQ neg x y=⟨neg,x / g,y / g⟩):=by unfold Hid lowQ;rw [if_neg hy0,if_neg hx0,aH]
   have aN:=zdG A A' n c n' c' x y _ (hT.later aD) (ha.later aD) (hb.later aD) hn hn'
   rw [←aH] at aN
   have aV:g≤x:=by rw [aH];exact Nat.gcd_le_left _ hx
   have HG:=Lib.hid aH
   clear aH d1 d2 hx0 hy0
   go_enter Tryz.func104,Tryz.ntmps104
   go_wp2_with fail
   refine (hz _ (hb.later aD)).mono ?_
   rintro e w1 ⟨rfl,rfl⟩
   go_wp2_with fail
   refine (aJ _ (ha.later aD)).mono ?_
   rintro e w1 ⟨rfl,rfl⟩
   go_wp2_with fail
   refine aN.mono ?_
   rintro e w2 ⟨A2,m2,c2,rfl,aI,aF⟩
   have aC:=aD.trans (aF.mono aD.size)
   have ho:=zbo A2 m2 c2 g w2 aI
   by_cases hg1:g=1
   ·have d3:decide (g=1)=true:=by simpa using hg1
    rw [d3] at ho
    have aQ:=Lib.hid hg1
    clear hg1 d3
    have aA:=(zad.new w false (.slice none 0 0) (.slice none 0 0)).below aF (by simp)
    obtain ⟨k0,k1,k2,f0,f1,f2,aP⟩:=aA.cells
    have aE:=zak aC (g:=w.heap.size) (Nat.le_refl _) (.bool neg) (.slice A n c) (.slice A' n' c')
    go_wp2_with fail
    refine ho.mono ?_
    rintro e w3 ⟨rfl,rfl⟩
    go_wp2
    refine bodyPost_ret (v := .agg #[.bool neg,.slice A n c,.slice A' n' c']) (by simp [results,Tryz.results104,go_sem,k0,k1,k2]) rfl ⟨_,rfl,⟨A,n,c,A',n',c',by rw [HE.out],?_,?_⟩,aE⟩
    ·rw [HE.out,zaf];show NatS _ _ A n c (x / g);rw [aQ.out,Nat.div_one];exact (ha.later aC).res aA _ _ _
    ·rw [HE.out,zaf];show NatS _ _ A' n' c' (y / g);rw [aQ.out,Nat.div_one];exact (hb.later aC).res aA _ _ _
   ·have d3:decide (g=1)=false:=by simpa using hg1
    rw [d3] at ho
    clear hg1 d3
    go_wp2_with fail
    refine ho.mono ?_
    rintro e w3 ⟨rfl,rfl⟩
    go_wp2_with fail
    refine (zcs A A2 n c m2 c2 x g _ (ha.later aC) aI aO (by omega)).mono ?_
    rintro e w4 ⟨A4,m4,c4,_,_,_,rfl,aU,_,aK⟩
    have aG:=aC.trans (aK.mono aC.size)
    go_wp2_with fail
    refine (zcs A' A2 n' c' m2 c2 y g _ (hb.later aG) (aI.later aK) aO (by omega)).mono ?_
    rintro e w5 ⟨A5,m5,c5,_,_,_,rfl,aS,_,aM⟩
    have aL:=aG.trans (aM.mono aG.size)
    have aA:=(((zad.new w false (.slice none 0 0) (.slice none 0 0)).below aF (by simp)).below aK (by have:=aF.size;simp at this;omega)).below aM (by have:=aF.size;have:=aK.size;simp at *; omega)
    obtain ⟨k0,k1,k2,f0,f1,f2,aP⟩:=aA.cells
    have aE:=zak aL (g:=w.heap.size) (Nat.le_refl _) (.bool neg) (.slice A4 m4 c4) (.slice A5 m5 c5)
    go_wp2
    refine bodyPost_ret (v := .agg #[.bool neg,.slice A4 m4 c4,.slice A5 m5 c5]) (by simp [results,Tryz.results104,go_sem,k0,k1,k2]) rfl ⟨_,rfl,⟨A4,m4,c4,A5,m5,c5,by rw [HE.out],?_,?_⟩,aE⟩
    ·rw [HE.out,zaf];exact (aU.later aM).res aA _ _ _
    ·rw [HE.out,zaf];exact aS.res aA _ _ _
end Go.Proofs.YteajibbphcfmeaaGreatDoor
