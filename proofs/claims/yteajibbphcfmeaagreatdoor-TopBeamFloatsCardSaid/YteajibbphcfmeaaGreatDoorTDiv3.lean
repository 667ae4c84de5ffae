/- Contract of divideStep. -/
import Derived.Test.YteajibbphcfmeaaGreatDoorTNat4
import Derived.Test.YteajibbphcfmeaaGreatDoorTWords
namespace Go.Proofs.YteajibbphcfmeaaGreatDoor
open Go.RowKit Bn
theorem drop_set (l:List Nat) (o k x:Nat):(l.set (o+k) x).drop o=(l.drop o).set k x:=by
 rw [List.drop_set]
 rw [if_neg (by omega)]
 congr 1
 omega
theorem drop_get (l:List Nat) (o k:Nat):(l.drop o).getD k 0=l.getD (o+k) 0:=by simp [List.getD,List.getElem?_drop]
theorem step_round (l' l d:List Nat) (k q p r c b c' b':Nat) (hk:k<l'.length) (hinv:val (l'.take k)+q*val (d.take k)=val (l.take k)+B ^ k*(c+b))
  (h1:p+B*c'=q*d.getD k 0+c) (h2:r+p+b=l.getD k 0+B*b') :
  val ((l'.set k r).take (k+1))+q*val (d.take (k+1))=val (l.take (k+1))+B ^ (k+1)*(c'+b'):=by
 rw [val_take_set l' k r hk,val_take_getD d,val_take_getD l,Nat.pow_succ,Nat.mul_add q,Nat.mul_assoc]
 have h3:B ^ k*r+B ^ k*(q*d.getD k 0)+B ^ k*(c+b)=B ^ k*l.getD k 0+B ^ k*(B*(c'+b')):=by
  rw [←Nat.mul_add,←Nat.mul_add,←Nat.mul_add]
  congr 1
  rw [Nat.mul_add]
  omega
 have h4:q*(B ^ k*d.getD k 0)=B ^ k*(q*d.getD k 0):=Nat.mul_left_comm _ _ _
 rw [h4]
 omega
theorem step_top (l' l:List Nat) (n q D r c b b':Nat) (hk:n<l'.length) (hinv:val (l'.take n)+q*D=val (l.take n)+B ^ n*(c+b))
  (h2:r+c+b=l.getD n 0+B*b'):val ((l'.set n r).take (n+1))+q*D=val (l.take (n+1))+B ^ (n+1)*b':=by
 rw [val_take_set l' n r hk,val_take_getD l,Nat.pow_succ,Nat.mul_assoc]
 have h3:B ^ n*r+B ^ n*(c+b)=B ^ n*l.getD n 0+B ^ n*(B*b'):=by
  rw [←Nat.mul_add,←Nat.mul_add]
  congr 1
  omega
 omega
theorem step_fits (R D q V p:Nat) (hD:0<D) (h:V+q*D=R+p*0) (h1:R / D≤q):q=R / D∧V=R % D:=by
 have hq:q≤R / D:=by rw [Nat.le_div_iff_mul_le hD];omega
 have e:q=R / D:=Nat.le_antisymm hq h1
 refine ⟨e,?_⟩
 have h3:=Nat.div_add_mod R D
 rw [Nat.mul_comm,←e] at h3
 omega
theorem step_back (R D q V p F c t d0:Nat) (hD:0<D) (hDp:D≤p) (h:V+q*D=R+p) (hV:V<p) (h2:q≤R / D+1) (hF:F<p) (hc:F+p*c=V+D):q - 1=R / D∧1≤q∧F=R % D:=by
 have _:=t
 have _:=d0
 have h3:R<q*D:=by omega
 have h4:R / D<q:=by rw [Nat.div_lt_iff_lt_mul hD];exact h3
 have e:q=R / D+1:=by omega
 have h5:=Nat.div_add_mod R D
 rw [Nat.mul_comm] at h5
 have h6:=Nat.mod_lt R hD
 have h7:q*D=R / D*D+D:=by rw [e,Nat.add_mul,Nat.one_mul]
 generalize R / D=a at *
 generalize R % D=b at *
 generalize a*D=ad at *
 generalize q*D=qd at *
 refine ⟨by omega,by omega,?_⟩
 have h8:F+p*c=b+p:=by omega
 rcases Nat.lt_or_ge 0 c with hc0 | hc0
 ·have h9:p*1≤p*c:=Nat.mul_le_mul_left _ hc0
  rcases Nat.lt_or_ge 1 c with hc1 | hc1
  ·have h10:p*2≤p*c:=Nat.mul_le_mul_left _ hc1
   omega
  ·obtain rfl:c=1:=by omega
   omega
 ·obtain rfl:c=0:=by omega
  omega
theorem back_sum (l4 l3:List Nat) (k r cc x e D:Nat) (hk:k<l4.length) (hr:l3.getD k 0=r) (hx:x+B*e=r+cc)
  (hinv:val (l4.take k)+B ^ k*cc=val (l3.take k)+D):val ((l4.set k x).take (k+1))+B ^ (k+1)*e=val (l3.take (k+1))+D:=by
 rw [val_take_set l4 k x hk,val_take_getD l3,hr,Nat.pow_succ,Nat.mul_assoc]
 have h3:B ^ k*x+B ^ k*(B*e)=B ^ k*r+B ^ k*cc:=by rw [←Nat.mul_add,←Nat.mul_add,hx]
 omega
theorem win_lt {l:List Nat} (hw:Wf l) (o k:Nat) (h:o+k<l.length):val ((l.drop o).take (k+1))<B ^ (k+1):=by
 have:=val_lt ((hw.drop o).take (k+1))
 rwa [List.length_take,List.length_drop,Nat.min_eq_left (by omega)] at this
set_option maxHeartbeats 4000000 in
set_option maxRecDepth 100000 in
theorem divideStep_any (A:Option Addr) (base g o N C n c c' D:Nat) (ls:List Nat) (w:World) (hrow:RowAt w base g N C ls) (hwf:Wf ls) (ha:NatS w w.heap.size A n c' D) (hoff:0<n→Off A g) (hn2:2≤n) (hn:n≤1099511627776)
  (hoN:o+n+1≤N) (hlt:val ((ls.drop o).take (n+1))<D*B) :
  Calls Tryz.prog 185 #[.slice (some ⟨g,o,none⟩) (n+1) c,.slice A n c'] w fun e w'=>e = .returned (.int .u64 ((val ((ls.drop o).take (n+1)) / D:Nat):Int)) ∧
   ∃ ls',RowAt w' base g N C ls'∧Wf ls'∧val ((ls'.drop o).take (n+1))=val ((ls.drop o).take (n+1)) % D∧(∀ j,j<o∨o+n+1≤j→ls'.getD j 0=ls.getD j 0)∧w.grownBy w' (some g):=by
 have hA:=Lib.hid ha.len
 have h1:=ha.nc
 have h2:=ha.cm
 unfold maxLen at h2
 obtain ⟨ad,rfl,hba,hd1⟩:=ha.words.word (k:=n - 1) (by omega)
 obtain ⟨ad',e',_,hd0⟩:=ha.words.word (k:=n - 2) (by omega)
 injection e' with e'
 subst e'
 have hr2:=hrow.cell (o+n) (by omega)
 have hr1:=hrow.cell (o+(n - 1)) (by omega)
 have hr0:=hrow.cell (o+(n - 2)) (by omega)
 obtain ⟨R,hR⟩:∃ v,v=val ((ls.drop o).take (n+1)):=⟨_,rfl⟩
 rw [←hR] at hlt ⊢
 have hlen:ls.length=N:=hrow.len
 have hD0:0<D:=by
  rcases Nat.eq_zero_or_pos D with rfl | h
  ·have:=ha.len
   rw [digs_zero] at this
   simp at this
   omega
  ·exact h
 have bd1:=getD_lt (wf_digs D) (n - 1)
 have bd0:=getD_lt (wf_digs D) (n - 2)
 have br2:=getD_lt hwf (o+n)
 have br1:=getD_lt hwf (o+(n - 1))
 have br0:=getD_lt hwf (o+(n - 2))
 have hd1p:0<(digs D).getD (n - 1) 0:=by
  have:=norm_digs D (by rw [hA.out];omega)
  rw [Bn.getD_in (by rw [hA.out];omega)]
  simp only [hA.out] at this
  omega
 have eD:D=((digs D).getD (n - 1) 0*B+(digs D).getD (n - 2) 0)*B ^ (n - 2)+val ((digs D).take (n - 2)):=by
  have h:=val_take_getD (digs D) (n - 1)
  rw [show n - 1+1=n from by omega,List.take_of_length_le (by rw [hA.out];exact Nat.le_refl _),val_digs,show n - 1=n - 2+1 from by omega,val_take_getD,←show n - 1=n - 2+1 from by omega] at h
  rw [Nat.add_mul,Nat.mul_assoc,←Nat.pow_succ',show (n - 2).succ=n - 1 from by omega,Nat.mul_comm _ (B ^ (n - 1)),Nat.mul_comm _ (B ^ (n - 2))]
  omega
 have eR:R=((ls.getD (o+n) 0*B+ls.getD (o+(n - 1)) 0)*B+ls.getD (o+(n - 2)) 0)*B ^ (n - 2)+val ((ls.drop o).take (n - 2)):=by
  have h:=val_take_getD (ls.drop o) n
  have h':=val_take_getD (ls.drop o) (n - 1)
  have h'':=val_take_getD (ls.drop o) (n - 2)
  rw [show n - 1+1=n from by omega] at h'
  rw [show n - 2+1=n - 1 from by omega] at h''
  rw [h',h'',drop_get,drop_get,drop_get] at h
  rw [hR,h,Nat.add_mul,Nat.add_mul,Nat.add_mul]
  have e1:B*B ^ (n - 2)=B ^ (n - 1):=by rw [←Nat.pow_succ',show (n - 2).succ=n - 1 from by omega]
  have e2:B*B ^ (n - 1)=B ^ n:=by rw [←Nat.pow_succ',show (n - 1).succ=n from by omega]
  rw [Nat.mul_assoc _ B (B ^ (n - 2)),e1,Nat.mul_assoc (ls.getD (o+n) 0) B,e2,Nat.mul_assoc (ls.getD (o+(n - 1)) 0) B,e1,Nat.mul_comm _ (B ^ n),Nat.mul_comm _ (B ^ (n - 1)),Nat.mul_comm _ (B ^ (n - 2))]
  omega
 obtain ⟨r2,gr2⟩:∃ v,ls.getD (o+n) 0=v:=⟨_,rfl⟩
 obtain ⟨r1,gr1⟩:∃ v,ls.getD (o+(n - 1)) 0=v:=⟨_,rfl⟩
 obtain ⟨r0,gr0⟩:∃ v,ls.getD (o+(n - 2)) 0=v:=⟨_,rfl⟩
 obtain ⟨d1,gd1⟩:∃ v,(digs D).getD (n - 1) 0=v:=⟨_,rfl⟩
 obtain ⟨d0,gd0⟩:∃ v,(digs D).getD (n - 2) 0=v:=⟨_,rfl⟩
 rw [gr2,gr1,gr0] at eR
 rw [gd1,gd0] at eD
 rw [gr2] at hr2 br2
 rw [gr1] at hr1 br1
 rw [gr0] at hr0 br0
 rw [gd1] at hd1 bd1 hd1p
 rw [gd0] at hd0 bd0
 have hlr:val ((ls.drop o).take (n - 2))<B ^ (n - 2):=by
  have:=val_lt ((hwf.drop o).take (n - 2))
  rwa [List.length_take,List.length_drop,Nat.min_eq_left (by omega)] at this
 have hld:val ((digs D).take (n - 2))<B ^ (n - 2):=by
  have:=val_lt ((wf_digs D).take (n - 2))
  rwa [List.length_take,Nat.min_eq_left (by rw [hA.out];omega)] at this
 have hD2:B≤d1*B+d0:=by
  have:1*B≤d1*B:=Nat.mul_le_mul_right _ hd1p
  omega
 have hr2d1:r2≤d1:=by
  have hm:=Nat.pow_pos (n:=n - 2) B_pos
  rcases Nat.lt_or_ge d1 r2 with h | h
  ·exfalso
   have k1:D<(d1+1)*B*B ^ (n - 2):=by
    rw [eD]
    have:(d1*B+d0+1)*B ^ (n - 2)≤(d1+1)*B*B ^ (n - 2):=Nat.mul_le_mul_right _ (by rw [Nat.add_mul];have:d0<B:=bd0;omega)
    rw [Nat.add_mul,Nat.one_mul] at this
    omega
   have k2:D*B≤(d1+1)*B*B ^ (n - 2)*B:=Nat.mul_le_mul_right _ (Nat.le_of_lt k1)
   have k3:(d1+1)*B*B ^ (n - 2)*B≤R:=by
    rw [eR]
    have:(d1+1)*B*B*B ^ (n - 2)≤((r2*B+r1)*B+r0)*B ^ (n - 2):=Nat.mul_le_mul_right _ (by
     have k4:(d1+1)*B≤r2*B:=Nat.mul_le_mul_right _ h
     have k5:(d1+1)*B*B≤(r2*B+r1)*B:=Nat.mul_le_mul_right _ (by omega)
     omega)
    rw [Nat.mul_assoc _ (B ^ (n - 2)),Nat.mul_comm (B ^ (n - 2)) B,←Nat.mul_assoc]
    omega
   omega
  ·exact h
 obtain ⟨q,hq⟩:∃ q,q=min (B - 1) (((r2*B+r1)*B+r0) / (d1*B+d0)):=⟨_,rfl⟩
 obtain ⟨g1,g2⟩:=est_good B (B ^ (n - 2)) R D _ _ _ _ q eR eD hlr hld hD2 hq hlt B_gt1
 have hqB:q<18446744073709551616:=by
  have h5:q≤B - 1:=by rw [hq];exact Nat.min_le_left _ _
  exact Nat.lt_of_le_of_lt h5 (Nat.sub_lt B_pos Nat.one_pos)
 have hest:∀ W:World,Calls Tryz.prog 208 #[.int .u64 r2,.int .u64 r1,.int .u64 r0,.int .u64 d1,.int .u64 d0] W fun e w'=>e = .returned (.int .u64 (q:Int))∧∃ k,w'=W.drewN k:=fun W=>by
  rw [hq];exact estimate_any r2 r1 r0 d1 d0 W hr2d1 br1 br0 bd1 bd0 hd1p
 have HE:=Lib.hid hest
 have HG1:=Lib.hid g1
 have HG2:=Lib.hid g2
 have HR:=Lib.hid hR
 clear hest g1 g2 hq eR eD hlr hld hD2 hR gr2 gr1 gr0 gd1 gd0 hlt hr2d1
 have i1:(n:Int)<(n:Int)+1:=by omega
 go_enter Tryz.func185,Tryz.ntmps185
 go_wp2
 go_quiet ((go_at_call 208;first | exact quiet_add (HE.out _) | exact quiet_one (HE.out _)))
 go_wp2_with fail
 have HRow:=Lib.hid hrow
 have HWf:=Lib.hid hwf
 have HLT:Hid (val ((ls.drop o).take n)+B ^ n*ls.getD (o+n) 0=R):=by
  have h:=val_take_getD (ls.drop o) n
  rw [drop_get,←HR.out] at h
  exact h.symm
 clear hr2 hr1 hr0 hd1 hd0 bd1 bd0 br2 br1 br0 hd1p i1
 go_loopw [7,8,43] (fun cy bo s wr=>∃ k cc bb:Nat,k≤n∧cc<18446744073709551616∧bb≤1∧s = .int .i64 k∧cy = .int .u64 cc∧bo = .int .u64 bb∧∃ l2,RowAt wr base g N C l2∧Wf l2∧Hid (val ((l2.drop o).take k)+q*val ((digs D).take k)=val ((ls.drop o).take k)+B ^ k*(cc+bb))∧Hid (∀ j,j<o∨o+k≤j→l2.getD j 0=ls.getD j 0)∧w.grownBy wr (some g)) (fun _ _ s _=>n - (intOf s).toNat)
 case atStart=>exact ⟨0,0,0,by omega,by omega,by omega,rfl,rfl,rfl,ls,HRow.out,HWf.out,by simp [Hid],fun j _=>rfl,only_drewN (World.grownBy.refl w _) _⟩
 case round=>
  obtain ⟨k,cc,bb,hk,hcc,hbb,rfl,rfl,rfl,l2,hrow2,hwf2,hval,hsame,hgr⟩:=hrel
  by_cases hkn:k<n
  ·obtain ⟨ad2,e2,_,hcd⟩:=(ha.kept hgr hoff).words.word (k:=k) hkn
   injection e2 with e2
   subst e2
   have hdB:=getD_lt (wf_digs D) k
   obtain ⟨dk,gdk⟩:∃ v,(digs D).getD k 0=v:=⟨_,rfl⟩
   rw [gdk] at hcd hdB
   have hcs:=hrow2.cell (o+k) (by omega)
   have hfs:=hrow2.free (o+k)
   have hsB:=getD_lt hwf2 (o+k)
   obtain ⟨z,gz⟩:∃ v,l2.getD (o+k) 0=v:=⟨_,rfl⟩
   rw [gz] at hcs hsB
   obtain ⟨p,cc',t1,hp,hcc',hcall⟩:=timesPlus_any q dk cc 0 hqB hdB hcc (by omega)
   replace hcall:∀ w:World,Calls Tryz.prog 156 #[.int .u64 q,.int .u64 dk,.int .u64 cc,.int .u64 0] w fun e w'=>e = .returned (.tuple #[.int .u64 (p:Int),.int .u64 (cc':Int)])∧w=w':=hcall
   obtain ⟨r,bb',t2,hr,hbb',hrun⟩:=call_sub64 z p bb hsB hp hbb
   have HP:Hid (val (((l2.set (o+k) r).drop o).take (k+1))+q*val ((digs D).take (k+1))=val ((ls.drop o).take (k+1))+B ^ (k+1)*(cc'+bb')):=by
    rw [Hid,drop_set]
    exact step_round (l2.drop o) (ls.drop o) (digs D) k q p r cc bb cc' bb' (by rw [List.length_drop,hrow2.len];omega) hval.out (by rw [gdk];exact t1) (by rw [drop_get,←hsame.out (o+k) (.inr (Nat.le_refl _)),gz];exact t2)
   have HS2:Hid (∀ j,j<o∨o+(k+1)≤j→(l2.set (o+k) r).getD j 0=ls.getD j 0):=fun j hj=>by
    rw [lgetD_set_ne _ _ _ _ (by omega)]
    exact hsame.out j (by omega)
   clear t1 t2 gdk gz
   go_wp2_with fail
   refine (hcall _).mono ?_
   rintro e w' ⟨rfl,rfl⟩
   go_wp2
   go_roundw
   case rel=>exact ⟨k+1,cc',bb',by omega,hcc',hbb',by go_num,rfl,rfl,_,hrow2.set (o+k) r,hwf2.set _ hr,HP,HS2,only_setCell hgr (p:=⟨g,o+k,none⟩) (.inl rfl) _⟩
   case measure=>simp [intOf]<;>omega
  ·obtain rfl:k=n:=by omega
   have hcs:=hrow2.cell (o+k) (by omega)
   have hfs:=hrow2.free (o+k)
   have hsB:=getD_lt hwf2 (o+k)
   obtain ⟨z,gz⟩:∃ v,l2.getD (o+k) 0=v:=⟨_,rfl⟩
   rw [gz] at hcs hsB
   obtain ⟨r,bb',t2,hr,hbb',hrun⟩:=call_sub64 z cc bb hsB hcc hbb
   have hvD:val ((digs D).take k)=D:=by rw [List.take_of_length_le (by rw [hA.out];exact Nat.le_refl _),val_digs]
   have HP:Hid (val (((l2.set (o+k) r).drop o).take (k+1))+q*D=R+B ^ (k+1)*bb'):=by
    have h:=hval.out
    rw [hvD] at h
    have h2:=step_top (l2.drop o) (ls.drop o) k q D r cc bb bb' (by rw [List.length_drop,hrow2.len];omega) h (by rw [drop_get,←hsame.out (o+k) (.inr (Nat.le_refl _)),gz];exact t2)
    rw [Hid,drop_set,h2,HR.out]
   have HS2:Hid (∀ j,j<o∨o+(k+1)≤j→(l2.set (o+k) r).getD j 0=ls.getD j 0):=fun j hj=>by
    rw [lgetD_set_ne _ _ _ _ (by omega)]
    exact hsame.out j (by omega)
   have hrow3:=hrow2.set (o+k) r
   have hwf3:=hwf2.set (o+k) hr
   have hgr3:w.grownBy (wr.setCell ⟨g,o+k,none⟩ (.int .u64 (r:Int))) (some g):=only_setCell hgr (p:=⟨g,o+k,none⟩) (.inl rfl) _
   have HR3:=Lib.hid hrow3
   have HW3:=Lib.hid hwf3
   have HG3:=Lib.hid hgr3
   clear t2 gz hvD hrow3 hwf3 hgr3
   by_cases hb0:bb'=0
   ·subst hb0
    obtain ⟨f1,f2⟩:=step_fits R D q _ (B ^ (k+1)) hD0 HP.out HG1.out
    have F1:=Lib.hid f1
    have F2:=Lib.hid f2
    clear f1 f2
    go_wp2
    go_ret
    exact ⟨by rw [←F1.out];rfl,_,HR3.out,HW3.out,F2.out,fun j hj=>HS2.out j (by omega),HG3.out⟩
   ·obtain rfl:bb'=1:=by omega
    go_wp2
    obtain ⟨l3,hl3⟩:∃ l3,l3=l2.set (o+k) r:=⟨_,rfl⟩
    rw [←hl3] at HP HS2 HR3 HW3
    have h3r:l3.getD (o+k) 0=r:=by rw [hl3];exact lgetD_set_self _ _ _ (by rw [hrow2.len];omega)
    have H3:=Lib.hid h3r
    have HS3:=Lib.hid hsame
    clear hl3 h3r hsame hval hrow2 hwf2 hgr hcs hfs hrun
    go_loopw [7,87] (fun cy s wr=>∃ j cc:Nat,j≤k∧cc≤1∧s = .int .i64 j∧cy = .int .u64 cc∧∃ l4,RowAt wr base g N C l4∧Wf l4∧Hid (val ((l4.drop o).take j)+B ^ j*cc=val ((l3.drop o).take j)+val ((digs D).take j))∧Hid (∀ t,t<o∨o+j≤t→l4.getD t 0=l3.getD t 0)∧w.grownBy wr (some g)) (fun _ s _=>k - (intOf s).toNat)
    case atStart=>exact ⟨0,0,by omega,by omega,rfl,rfl,l3,HR3.out,HW3.out,by simp [Hid],fun j _=>rfl,HG3.out⟩
    case round=>
     obtain ⟨j,c4,hj,hc4,rfl,rfl,l4,hrow4,hwf4,hval4,hsame4,hgr4⟩:=hrel
     by_cases hjk:j<k
     ·obtain ⟨ad2,e2,_,hcd⟩:=(ha.kept hgr4 hoff).words.word (k:=j) hjk
      injection e2 with e2
      subst e2
      have hdB:=getD_lt (wf_digs D) j
      obtain ⟨dk,gdk⟩:∃ v,(digs D).getD j 0=v:=⟨_,rfl⟩
      rw [gdk] at hcd hdB
      have hcs:=hrow4.cell (o+j) (by omega)
      have hfs:=hrow4.free (o+j)
      have hsB':=getD_lt hwf4 (o+j)
      obtain ⟨z4,gz⟩:∃ v,l4.getD (o+j) 0=v:=⟨_,rfl⟩
      rw [gz] at hcs hsB'
      obtain ⟨s4,d4,t2,hs4,hd4,hrun⟩:=call_add64 z4 dk c4 hsB' hdB hc4
      have HP4:Hid (val (((l4.set (o+j) s4).drop o).take (j+1))+B ^ (j+1)*d4=val ((l3.drop o).take (j+1))+val ((digs D).take (j+1))):=by
       rw [Hid,drop_set]
       exact plus_round (l4.drop o) (l3.drop o) (digs D) j (by rw [List.length_drop,hrow4.len];omega) s4 c4 d4 hval4.out (by rw [drop_get,←hsame4.out (o+j) (.inr (Nat.le_refl _)),gz,gdk];exact t2)
      have HS4:Hid (∀ t,t<o∨o+(j+1)≤t→(l4.set (o+j) s4).getD t 0=l3.getD t 0):=fun t ht=>by
       rw [lgetD_set_ne _ _ _ _ (by omega)]
       exact hsame4.out t (by omega)
      clear t2 gdk gz
      go_wp2
      go_roundw
      case rel=>exact ⟨j+1,d4,by omega,hd4,by go_num,rfl,_,hrow4.set (o+j) s4,hwf4.set _ hs4,HP4,HS4,only_setCell hgr4 (p:=⟨g,o+j,none⟩) (.inl rfl) _⟩
      case measure=>simp [intOf]<;>omega
     ·obtain rfl:j=k:=by omega
      have hcs:=hrow4.cell (o+j) (by omega)
      have hfs:=hrow4.free (o+j)
      rw [hsame4.out (o+j) (.inr (Nat.le_refl _)),H3.out] at hcs
      have ew:IntKind.u64.wrap ((r:Int)+(c4:Int))=(((r+c4) % B:Nat):Int):=by
       rw [←Int.natCast_add,wrap_mod];rfl
      have hsum:=back_sum (l4.drop o) (l3.drop o) j r c4 ((r+c4) % B) ((r+c4) / B) D (by rw [List.length_drop,hrow4.len];omega) (by rw [drop_get];exact H3.out) (Nat.mod_add_div _ _)
       (by rw [hval4.out,List.take_of_length_le (l:=digs D) (by rw [hA.out];exact Nat.le_refl _),val_digs])
      rw [←drop_set] at hsum
      have hrow5:=hrow4.set (o+j) ((r+c4) % B)
      have hwf5:=hwf4.set (o+j) (Nat.mod_lt (r+c4) B_pos)
      have hDp:D≤B ^ (j+1):=by
       have h6:=lt_of_digs_length D
       rw [hA.out] at h6
       have h7:B ^ j≤B ^ (j+1):=Nat.pow_le_pow_right B_pos (by omega)
       omega
      have hVp:val ((l3.drop o).take (j+1))+q*D=R+B ^ (j+1):=by have h:=HP.out;rwa [Nat.mul_one] at h
      obtain ⟨f1,f2,f3⟩:=step_back R D q _ (B ^ (j+1)) _ ((r+c4) / B) 0 0 hD0 hDp hVp (win_lt HW3.out o j (by rw [HR3.out.len];omega)) HG2.out (win_lt hwf5 o j (by rw [hrow5.len];omega)) hsum
      have hgr5:w.grownBy (wr.setCell ⟨g,o+j,none⟩ (.int .u64 (((r+c4) % B:Nat):Int))) (some g):=only_setCell hgr4 (p:=⟨g,o+j,none⟩) (.inl rfl) _
      have HS5:Hid (∀ t,t<o∨o+j+1≤t→(l4.set (o+j) ((r+c4) % B)).getD t 0=ls.getD t 0):=fun t ht=>by
       rw [lgetD_set_ne _ _ _ _ (by omega),hsame4.out t (by omega),HS2.out t (by omega)]
      have hq1:(1:Int)≤q:=by omega
      have HV:Hid (((R / D:Nat):Int)=(q:Int) - 1):=by unfold Hid;rw [←f1];omega
      have F3:=Lib.hid f3
      have HR5:=Lib.hid hrow5
      have HW5:=Lib.hid hwf5
      have HG5:=Lib.hid hgr5
      clear f1 f2 f3 hrow5 hwf5 hgr5 hsum hVp
      generalize (r+c4) % B=x5 at *
      go_wp2
      go_ret
      exact ⟨by rw [HV.out];rfl,_,HR5.out,HW5.out,F3.out,HS5.out,HG5.out⟩
set_option maxHeartbeats 1000000 in
theorem compare_any (A A':Option Addr) (n c n' c' x y:Nat) (w:World) (ha:NatS w w.heap.size A n c x) (hb:NatS w w.heap.size A' n' c' y) :
  Calls Tryz.prog 129 #[.slice A n c,.slice A' n' c'] w fun e w'=>e = .returned (.int .i64 (ncmp x y))∧∃ q,w'=w.drewN q:=by
 have hla:=ha.len
 have hlb:=hb.len
 have h1:=ha.cm
 have h2:=ha.nc
 have h3:=hb.cm
 have h4:=hb.nc
 unfold maxLen at h1 h3
 rcases Nat.lt_trichotomy n n' with hlt | heq | hgt
 ·have hr:ncmp x y = -1:=ncmp_lt (lt_of_length_lt (by omega))
  have HR:=Lib.hid hr
  clear hr hla hlb
  have e1:(((n:Nat):Int) != n')=true:=by rw [bne_iff_ne];omega
  have e2:decide (n'<n)=false:=by simp;omega
  go_enter Tryz.func129,Tryz.ntmps129
  go_wp2_with fail
  refine (sign_any _ _).mono ?_
  rintro e w1 ⟨rfl,rfl⟩
  go_wp2
  go_ret
  exact ⟨by rw [HR.out];rfl,0,rfl⟩
 ·subst heq
  go_enter Tryz.func129,Tryz.ntmps129
  have HA:=Lib.hid hla
  have HB:=Lib.hid hlb
  clear hla hlb
  go_wp2_with fail
  go_loopw [5] (fun s wr=>∃ i:Int, -1≤i∧i<n∧s = .int .i64 i∧Hid (∀ j (h:j<(digs x).length) (h':j<(digs y).length),i<(j:Int)→(digs x)[j]=(digs y)[j])∧∃ q,wr=w.drewN q) (fun s _=>(intOf s+1).toNat)
  case atStart=>
   refine ⟨_,by omega,by omega,rfl,?_,0,rfl⟩
   intro j h h' hj
   have:=HA.out
   omega
  case round=>
   obtain ⟨i,hi1,hi2,rfl,hz,q,rfl⟩:=hrel
   by_cases h0:0≤i
   ·obtain ⟨k,rfl⟩:=Int.eq_ofNat_of_zero_le h0
    have hkn:k<n:=by omega
    obtain ⟨ad,rfl,hba,hca⟩:=ha.words.word (k:=k) hkn
    obtain ⟨ad',rfl,hbb,hcb⟩:=hb.words.word (k:=k) hkn
    have hkx:k<(digs x).length:=by rw [HA.out];exact hkn
    have hky:k<(digs y).length:=by rw [HB.out];exact hkn
    have hcx:(digs x).getD k 0=(digs x)[k]:=by simp [List.getD,hkx]
    have hcy:(digs y).getD k 0=(digs y)[k]:=by simp [List.getD,hky]
    have HX:=Lib.hid hcx
    have HY:=Lib.hid hcy
    clear hcx hcy
    generalize hgx:(digs x).getD k 0=xk at hca
    generalize hgy:(digs y).getD k 0=yk at hcb
    have HGX:=Lib.hid hgx
    have HGY:=Lib.hid hgy
    clear hgx hgy
    have hck:=hca
    have hi3:(k:Int)<(n:Int):=by omega
    by_cases he:xk=yk
    ·subst he
     have e3:(((xk:Nat):Int) != xk)=false:=by simp
     go_wp2
     go_quiet (fail)
     go_wp2
     go_roundw
     case rel=>
      refine ⟨(k:Int) - 1,by omega,by omega,by go_num,?_,_,rfl⟩
      intro j h h' hj
      rcases Nat.lt_or_ge k j with h5 | h5
      ·exact hz.out j h h' (by omega)
      ·obtain rfl:j=k:=by omega
       rw [←HX.out,←HY.out,HGX.out,HGY.out]
     case measure=>simp [intOf]<;>omega
    ·have e3:(((xk:Nat):Int) != yk)=true:=by rw [bne_iff_ne];omega
     have hlen:(digs x).length=(digs y).length:=by rw [HA.out,HB.out]
     have HL:=Lib.hid hlen
     clear hlen
     by_cases hlt:xk<yk
     ·have hr:ncmp x y = -1:=ncmp_lt (digs_lt_at HL.out k hkx (fun j h h' hj=>hz.out j h h' (by omega)) (by rw [HGX.out,HGY.out];exact hlt))
      have HR:=Lib.hid hr
      clear hr
      have e4:decide (yk<xk)=false:=by simp;omega
      go_wp2
      go_quiet (fail)
      go_wp2
      go_quiet ((go_at_call 134;first | exact quiet_add_left (sign_any _ _) | exact quiet_left (sign_any _ _)))
      go_wp2
      go_ret
      exact ⟨by rw [HR.out];rfl,by first | exact ⟨_,rfl⟩ | (simp only [World.drewN_drewN];exact ⟨_,rfl⟩)⟩
     ·have hgt:yk<xk:=by omega
      have hr:ncmp x y=1:=ncmp_gt (digs_lt_at HL.out.symm k hky (fun j h h' hj=>(hz.out j h' h (by omega)).symm) (by rw [HGX.out,HGY.out];exact hgt))
      have HR:=Lib.hid hr
      clear hr
      have e4:decide (yk<xk)=true:=by simp;omega
      go_wp2
      go_quiet (fail)
      go_wp2
      go_quiet ((go_at_call 134;first | exact quiet_add_left (sign_any _ _) | exact quiet_left (sign_any _ _)))
      go_wp2
      go_ret
      exact ⟨by rw [HR.out];rfl,by first | exact ⟨_,rfl⟩ | (simp only [World.drewN_drewN];exact ⟨_,rfl⟩)⟩
   ·go_wp2
    go_ret
    obtain rfl:x=y:=digs_eq_of (by rw [HA.out,HB.out]) (fun j h h'=>hz.out j h h' (by omega))
    exact ⟨by rw [ncmp_eq];rfl,q,rfl⟩
 ·have hr:ncmp x y=1:=ncmp_gt (lt_of_length_lt (by omega))
  have HR:=Lib.hid hr
  clear hr hla hlb
  have e1:(((n:Nat):Int) != n')=true:=by rw [bne_iff_ne];omega
  have e2:decide (n'<n)=true:=by simp;omega
  go_enter Tryz.func129,Tryz.ntmps129
  go_wp2_with fail
  refine (sign_any _ _).mono ?_
  rintro e w1 ⟨rfl,rfl⟩
  go_wp2
  go_ret
  exact ⟨by rw [HR.out];rfl,0,rfl⟩
end Go.Proofs.YteajibbphcfmeaaGreatDoor
