/- Contract of over: the integer part of a quotient, and the remainder. -/
import Derived.Test.YteajibbphcfmeaaGreatDoorVDiv3
import Derived.Laws.CopyOwn
namespace Go.Proofs.YteajibbphcfmeaaGreatDoor
open Go.RowKit Bn
def zfb (w:World) (x y:Nat) (e:Ending) (w':World):Prop:=
 ∃ A1 m1 c1 A2 m2 c2,e = .returned (.tuple #[.slice A1 m1 c1,.slice A2 m2 c2])∧NatS w' w'.heap.size A1 m1 c1 x∧NatS w' w'.heap.size A2 m2 c2 y∧Below w.heap.size w w'
theorem zav.block {w:World} {base g n:Nat} {l:List Nat} (h:zav w base g n n l):w.heap[g]? = some (.cells (l.map u64v).toArray 120 (0,0)):=by
 rcases h.2 with ⟨h',_⟩ | ⟨g',aD,aE,h',hb,hg,aF,aG,aC,aA⟩
 ·simp at h'
 ·simp only [Value.slice.injEq,Option.some.injEq,Addr.mk.injEq,and_true,true_and] at h'
  obtain ⟨rfl,rfl⟩:=h'
  rw [hg,←aA,List.take_of_length_le (by rw [Array.length_toList,aC];exact Nat.le_refl _)]
theorem zav.of_block {w:World} {base g n:Nat} {l:List Nat} (h:w.heap[g]? = some (.cells (l.map u64v).toArray 120 (0,0))) (hb:base≤g) (hl:l.length=n) (hn:n≤maxLen):zav w base g n n l:=by
 refine ⟨by simp [hl],.inr ⟨g,n,(l.map u64v).toArray,rfl,hb,h,Nat.le_refl _,hn,by simp [hl],?_⟩⟩
 rw [List.take_of_length_le (by simp [hl])]
theorem zea (l:List Nat) (k:Nat):val (l++List.replicate k 0)=val l:=by rw [zaN,zaR,Nat.mul_zero,Nat.add_zero]
theorem zjx {l l':List Nat} (j:Nat) (hl:l.length=l'.length) (h:∀ t,t<j→l.getD t 0=l'.getD t 0):l.take j=l'.take j:=by
 apply List.ext_getElem
 ·simp [hl]
 ·intro t h1 h2
  rw [List.length_take] at h1 h2
  simp only [List.getElem_take]
  have:=h t (by omega)
  rwa [Bn.getD_in (by omega),Bn.getD_in (by omega)] at this
theorem ziO {l l':List Nat} (j:Nat) (hl:l.length=l'.length) (h:∀ t,j≤t→l.getD t 0=l'.getD t 0):l.drop j=l'.drop j:=by
 apply List.ext_getElem
 ·simp [hl]
 ·intro t h1 h2
  rw [List.length_drop] at h1 h2
  simp only [List.getElem_drop]
  have:=h (j+t) (by omega)
  rwa [Bn.getD_in (by omega),Bn.getD_in (by omega)] at this
theorem zkO (lr lr' lq:List Nat) (j n q D X R:Nat) (hw:Wf lr) (hl:lr'.length=lr.length) (hlen:j+n+1≤lr.length) (hlq:j<lq.length) (hDn:D≤B ^ n) (hD0:0<D)
  (hX:val lr+D*(B ^ (j+1)*val (lq.drop (j+1)))=X) (hlt:val (lr.drop (j+1))<D) (hR:R=val ((lr.drop j).take (n+1)))
  (hR':val ((lr'.drop j).take (n+1))=R % D) (hq:q=R / D) (hsame:∀ t,t<j∨j+n+1≤t→lr'.getD t 0=lr.getD t 0) :
  val lr'+D*(B ^ j*val ((lq.set j q).drop j))=X∧val (lr'.drop j)<D:=by
 have e1:=zfh lr j (by omega)
 have aA:=zaD hw j
 have h1:val (lr.drop j)<D*B:=by
  rw [e1,val_cons]
  have h:B*(val (lr.drop (j+1))+1)≤B*D:=Nat.mul_le_mul_left _ hlt
  rw [Nat.mul_add,Nat.mul_one,Nat.mul_comm B D] at h
  have:lr.getD j 0<B:=aA
  omega
 have h2:=zaw (lr.drop j) (n+1) (by rw [List.length_drop];omega)
 rw [←hR] at h2
 have hz:val ((lr.drop j).drop (n+1))=0:=by
  rcases Nat.eq_zero_or_pos (val ((lr.drop j).drop (n+1))) with h | h
  ·exact h
  ·exfalso
   have h3:B ^ (n+1)*1≤B ^ (n+1)*val ((lr.drop j).drop (n+1)):=Nat.mul_le_mul_left _ h
   have h4:D*B≤B ^ (n+1):=by rw [Nat.pow_succ];exact Nat.mul_le_mul_right _ hDn
   omega
 have h3:=zaw (lr'.drop j) (n+1) (by rw [List.length_drop,hl];omega)
 have hd:(lr'.drop j).drop (n+1)=(lr.drop j).drop (n+1):=by
  rw [List.drop_drop,List.drop_drop]
  exact ziO _ hl (fun t ht=>hsame t (by omega))
 rw [hd,hz,Nat.mul_zero,Nat.add_zero,hR'] at h3
 rw [hz,Nat.mul_zero,Nat.add_zero] at h2
 have h4:=Nat.mod_lt R hD0
 refine ⟨?_,by omega⟩
 have h5:=zaw lr j (by omega)
 have h6:=zaw lr' j (by omega)
 rw [zjx (l:=lr') (l':=lr) j hl (fun t ht=>hsame t (.inl ht)),h3] at h6
 rw [h2] at h5
 rw [zd7 lq j q hlq,val_cons,←hX,h5,h6,hq]
 have h7:=Nat.div_add_mod R D
 have h8:B ^ j*R=B ^ j*(D*(R / D))+B ^ j*(R % D):=by rw [←Nat.mul_add,h7]
 have h9:D*(B ^ j*(R / D+B*val (lq.drop (j+1))))=B ^ j*(D*(R / D))+D*(B ^ (j+1)*val (lq.drop (j+1))):=by
  rw [Nat.mul_add (B ^ j),Nat.mul_add D,Nat.mul_left_comm D (B ^ j),Nat.pow_succ,Nat.mul_assoc]
 rw [h8,h9]
 omega
theorem zkd (lr:List Nat) (j n D:Nat) (hw:Wf lr) (hlt:val (lr.drop (j+1))<D) (hj:j<lr.length):val ((lr.drop j).take (n+1))<D*B:=by
 have e1:=zfh lr j hj
 have aA:lr.getD j 0<B:=zaD hw j
 have h1:val (lr.drop j)<D*B:=by
  rw [e1,val_cons]
  have h:B*(val (lr.drop (j+1))+1)≤B*D:=Nat.mul_le_mul_left _ hlt
  rw [Nat.mul_add,Nat.mul_one,Nat.mul_comm B D] at h
  omega
 rcases Nat.lt_or_ge (n+1) (lr.drop j).length with h | h
 ·have h2:=zaw (lr.drop j) (n+1) (by omega)
  omega
 ·rw [List.take_of_length_le h];exact h1
theorem zlE (X D x y s la n:Nat) (lr:List Nat) (hw:Wf lr) (hla:(digs x).length=la) (hn:(digs y).length=n) (hy:0<y) (hle:n≤la) (hX:val lr=X) (eX:X=x*2 ^ s) (eD:D=y*2 ^ s) (hlen:la - n+1≤lr.length) :
  val (lr.drop (la - n+1))<D:=by
 rw [zeA hw _ hlen,hX,Nat.div_lt_iff_lt_mul (Nat.pow_pos zaL),eX,eD]
 have h1:=zac x
 rw [hla] at h1
 have h2:=zaC hy
 rw [hn] at h2
 have aA:0<n:=by rw [←hn];exact zan hy
 have h3:B ^ la=B ^ (n - 1)*B ^ (la - n+1):=by rw [←Nat.pow_add];congr 1;omega
 have h4:x<y*B ^ (la - n+1):=by
  have:=Nat.mul_le_mul_right (B ^ (la - n+1)) h2
  omega
 rw [Nat.mul_assoc,Nat.mul_comm (2 ^ s),←Nat.mul_assoc]
 exact (Nat.mul_lt_mul_right (Nat.two_pow_pos s)).2 h4
theorem zll (X D x y s V Q:Nat) (eX:X=x*2 ^ s) (eD:D=y*2 ^ s) (hy:0<y) (h:V+D*Q=X) (hlt:V<D):Q=x / y∧V / 2 ^ s=x % y:=by
 have hp:=Nat.two_pow_pos s
 have hD:0<D:=by omega
 have h1:Q=X / D:=by
  rw [←h,Nat.add_comm,Nat.mul_add_div hD,Nat.div_eq_of_lt hlt,Nat.add_zero]
 have h2:V=X % D:=by
  rw [←h,Nat.add_comm,Nat.mul_add_mod,Nat.mod_eq_of_lt hlt]
 have _:=hy
 constructor
 ·rw [h1,eX,eD,Nat.mul_div_mul_right _ _ hp]
 ·rw [h2,eX,eD,Nat.mul_mod_mul_right,Nat.mul_div_cancel _ hp]
set_option maxHeartbeats 2000000 in
set_option maxRecDepth 100000 in
theorem zjj (A A':Option Addr) (n c n' c' x y:Nat) (w:World) (ha:NatS w w.heap.size A n c x) (hb:NatS w w.heap.size A' n' c' y) (hlt:x<y) :
  Calls Tryz.prog 142 #[.slice A n c,.slice A' n' c'] w (zfb w (x / y) (x % y)):=by
 have hc:=zaM A A' n c n' c' x y w ha hb
 rw [ncmp_lt hlt] at hc
 go_enter Tryz.func142,Tryz.ntmps142
 go_wp2_with fail
 refine hc.mono ?_
 rintro e w1 ⟨rfl,q,rfl⟩
 go_wp2
 go_ret2
 refine ⟨none,0,0,A,n,c,rfl,?_,?_,zab (Below.refl _ _) q⟩
 ·rw [Nat.div_eq_of_lt hlt];exact NatS.nil _ _
 ·rw [Nat.mod_eq_of_lt hlt];exact ⟨ha.words,ha.nc,ha.cm⟩
set_option maxHeartbeats 2000000 in
set_option maxRecDepth 100000 in
theorem zlh (A A':Option Addr) (n c c' x y:Nat) (w:World) (ha:NatS w w.heap.size A n c x) (hb:NatS w w.heap.size A' 1 c' y) (hle:y≤x) (hy:0<y) (hn:n≤1099511627776) :
  Calls Tryz.prog 142 #[.slice A n c,.slice A' 1 c'] w (zfb w (x / y) (x % y)):=by
 have hc:=zaM A A' n c 1 c' x y w ha hb
 have aK:0≤ncmp x y:=by
  unfold ncmp
  rw [if_neg (by omega)]
  split<;>omega
 obtain ⟨v,hv⟩:∃ v,v=ncmp x y:=⟨_,rfl⟩
 rw [←hv] at hc aK
 clear hv
 have hB:=hb.len
 obtain ⟨ad,rfl,aL,aC⟩:=hb.words.word (k:=0) (by omega)
 have e0:ad.add 0=ad:=by simp [Addr.add]
 have aF:(digs y).getD 0 0=y:=by
  match hd:digs y,hB with
  | [d],_=>
   have:=zal y
   rw [hd] at this
   simpa using this
 have aH:=zaD (zap y) 0
 rw [aF] at aC aH
 rw [e0] at aC
 have HY:=Lib.hid aF
 have HB:=Lib.hid hB
 clear aF e0 hB
 go_enter Tryz.func142,Tryz.ntmps142
 go_wp2_with fail
 refine hc.mono ?_
 rintro e w1 ⟨rfl,q,rfl⟩
 have aI:=za2 A n c x y (w.drewN q) ⟨ha.words,ha.nc,ha.cm⟩ hn hy aH
 go_wp2_with fail
 refine aI.mono ?_
 rintro e w2 ⟨m,c2,rfl,aE,aD⟩
 have aG:=zah ((x % y:Nat):Int) w2 (by omega) (by have:=Nat.mod_lt x hy;omega)
 rw [Int.toNat_natCast] at aG
 go_wp2_with fail
 refine aG.mono ?_
 rintro e w3 ⟨A3,m3,c3,rfl,aJ,aA⟩
 go_wp2
 go_ret2
 exact ⟨_,m,c2,A3,m3,c3,rfl,aE.nat.later aA,aJ,(zab (Below.refl w.heap.size w) q).trans (aD.trans (aA.mono aD.size))⟩
set_option maxHeartbeats 8000000 in
set_option maxRecDepth 100000 in
theorem zkM (A A':Option Addr) (n c n' c' x y:Nat) (w:World) (ha:NatS w w.heap.size A n c x) (hb:NatS w w.heap.size A' n' c' y) (hle:y≤x) (hn2:2≤n') (hn:n≤549755813888) :
  Calls Tryz.prog 142 #[.slice A n c,.slice A' n' c'] w (zfb w (x / y) (x % y)):=by
 obtain ⟨i0,bS,cZ,cC,cN⟩:=info_parts zb2
 have hc:=zaM A A' n c n' c' x y w ha hb
 have fB:0≤ncmp x y:=by
  unfold ncmp
  rw [if_neg (by omega)]
  split<;>omega
 obtain ⟨v,hv⟩:∃ v,v=ncmp x y:=⟨_,rfl⟩
 rw [←hv] at hc fB
 clear hv
 have hA:=Lib.hid ha.len
 have hB:=Lib.hid hb.len
 have bZ:n'≤n:=by rw [←ha.len,←hb.len];exact zaa hle
 have hy:0<y:=by
  rcases Nat.eq_zero_or_pos y with rfl | h
  ·have:=hb.len
   rw [digs_zero] at this
   simp at this
   omega
  ·exact h
 have h1:=ha.nc
 have h2:=ha.cm
 have h3:=hb.nc
 have h4:=hb.cm
 unfold maxLen at h2 h4
 obtain ⟨ad,rfl,fH,dJ⟩:=hb.words.word (k:=n' - 1) (by omega)
 have cA:=zaD (zap y) (n' - 1)
 obtain ⟨t,gt⟩:∃ t,(digs y).getD (n' - 1) 0=t:=⟨_,rfl⟩
 rw [gt] at dJ cA
 have fE:t≠0:=by
  have:=zcB y (by rw [hB.out];omega)
  rw [←gt,Bn.getD_in (by rw [hB.out];omega)]
  simpa only [hB.out] using this
 obtain ⟨b1,b2,b3⟩:=Lib.bitLenAux_bounds 64 t (by simpa using cA) fE
 have b4:=Lib.bitLen_le t 64 (Nat.le_refl _) (by simpa using cA)
 have hl:=fun W:World=>Tryz.bits_LeadingZeros64 (t:Int) W (by omega) (by omega)
 have eb:Lib.bitLen t=Lib.bitLenAux 64 t:=rfl
 rw [←eb] at b1 b2 b3
 obtain ⟨b,bY⟩:∃ b,b=Lib.bitLen t:=⟨_,rfl⟩
 rw [←bY] at b1 b2 b3 b4
 obtain ⟨s,hs⟩:∃ s,s=64 - b:=⟨_,rfl⟩
 have dC:∀ W:World,Calls Tryz.prog 184 #[.int .u64 (t:Int)] W fun e w'=>e = .returned (.int .i64 (s:Int))∧w'=W:=fun W=>by
  have h:=hl W
  rw [Int.toNat_natCast,←bY,show (64 - (b:Int))=(s:Int) from by omega] at h
  exact h
 have HL:=Lib.hid dC
 have dP:s≤63:=by omega
 have cK:zaJ y=64*(n' - 1)+b:=zfc hy (n' - 1) (by rw [hB.out];omega) t b gt b1 b2 b3
 obtain ⟨D,hD⟩:∃ D,D=y*2 ^ s:=⟨_,rfl⟩
 obtain ⟨X,hX⟩:∃ X,X=x*2 ^ s:=⟨_,rfl⟩
 have aY:D<B ^ n':=by
  have h5:=zeN y
  rw [cK] at h5
  have h6:=(Nat.mul_lt_mul_right (Nat.two_pow_pos s)).2 h5
  rw [←Nat.pow_add,show 64*(n' - 1)+b+s=64*n' from by omega,Nat.pow_mul,←zeq] at h6
  rw [hD];exact h6
 have dA:y≤D:=by rw [hD];exact Nat.le_mul_of_pos_right _ (Nat.two_pow_pos s)
 have aS:(digs D).length=n':=by
  have h5:=digs_length_le aY
  have h6:=zaa dA
  rw [hB.out] at h6
  omega
 have aX:(digs X).length≤n+1:=by
  refine digs_length_le ?_
  rw [hX,Nat.pow_succ]
  have h5:=zac x
  rw [hA.out] at h5
  have h6:2 ^ s≤B:=by rw [zeq];exact Nat.pow_le_pow_right (by omega) (by omega)
  exact Nat.lt_of_lt_of_le ((Nat.mul_lt_mul_right (Nat.two_pow_pos s)).2 h5) (Nat.mul_le_mul_left _ h6)
 have dU:=zau
 have HD:=Lib.hid hD
 have HX:=Lib.hid hX
 have dZ:=Lib.hid aS
 have dV:=Lib.hid aX
 have dE:=Lib.hid aY
 clear hl dC bY hs b1 b2 b3 b4 eb gt cK hD hX aS aX aY dA dU
 go_enter Tryz.func142,Tryz.ntmps142
 go_wp2_with fail
 refine hc.mono ?_
 rintro e w1 ⟨rfl,q,rfl⟩
 have fG:(((n':Nat):Int)==1)=false:=by rw [beq_eq_false_iff_ne];omega
 go_wp2_with fail
 refine (HL.out _).mono ?_
 rintro e w1 ⟨rfl,rfl⟩
 have cU:=zau (some ad) n' c' y s (w.drewN q) ⟨hb.words,hb.nc,hb.cm⟩ (by omega) (by omega)
 rw [←HD.out] at cU
 go_wp2_with fail
 refine cU.mono ?_
 rintro e w2 ⟨AD,nD,cD,rfl,aT,aQ⟩
 have dF:nD=n':=by rw [←aT.len,dZ.out]
 subst dF
 go_wp2_with (at_make;refine wpList_make_full _ rfl _ _ 89 rfl w.heap.size 120 i0 (.int .u64 0) 1 Tryz.underlying89 bS cZ cC _ _ _ _ (n+1) rfl rfl (by omega) (by omega) ?b2 ?b3 aQ.size ?_)
 case b2=>rw [cN];omega
 case b3=>unfold maxLen;omega
 intro w3 aR aH
 have aL:=zav.made aR
 have bT:Below w2.heap.size w2 w3:=(Below.refl _ _).grown aH (Nat.le_refl _) (fun k h=>by cases h)
 have aC:Below w.heap.size w w2:=(zab (Below.refl w.heap.size w) q).trans aQ
 have cG:Below w.heap.size w w3:=aC.trans (bT.mono aC.size)
 have cP:=zau A n c x s w3 (ha.later cG) (by omega) (by omega)
 rw [←HX.out] at cP
 clear aR aH
 go_wp2_with fail
 refine cP.mono ?_
 rintro e w4 ⟨AX,mX,cX,rfl,aP,aF⟩
 have cT:Below w2.heap.size w2 w4:=bT.trans (aF.mono bT.size)
 have aO:=aL.below aF
 have cV:mX≤n+1:=by rw [←aP.len];exact dV.out
 have bJ:=Lib.hid aO
 clear aL aO
 go_wp2_with (with_reducible refine wpList_copy_splice rfl (.tmp 46) (.tmp 49) 89 89 rfl 120 Tryz.underlying89 ?sz (some ⟨w2.heap.size,0,none⟩) AX (n+1) (n+1) mX cX rfl rfl w2.heap.size 0 ((List.replicate (n+1) 0).map u64v) 120 bJ.out.block ((digs X).map u64v) ?cn ?cp ?cf ?c1 w2.heap.size w4 (Below.refl _ _) (Nat.le_refl _) ?_)
 case sz=>rw [bS];simp [cC]
 case cn=>rw [List.length_map,aP.len];exact (Nat.min_eq_left cV).symm
 case cp=>
  intro h0
  have fD:0<mX:=by rw [←aP.len];simpa using h0
  obtain ⟨dW,ex,_,dI⟩:=aP.words.2 fD
  exact ⟨dW,ex,fun j a h=>dI j _ (by rw [List.getElem?_map,h];rfl)⟩
 case cf=>simp [aP.len];exact cV
 case c1=>exact zmi _
 intro w5 cM cR
 have bO:(digs X++List.replicate (n+1 - mX) 0).length=n+1:=by rw [List.length_append,aP.len,List.length_replicate];omega
 have aA:zav w5 w.heap.size w2.heap.size (n+1) (n+1) (digs X++List.replicate (n+1 - mX) 0):=by
  refine zav.of_block ?_ aC.size bO (by unfold maxLen;omega)
  have h5:=cM.out
  rw [h5]
  congr 3
  simp [splice,aP.len]
 have aJ:Wf (digs X++List.replicate (n+1 - mX) 0):=(zap X).append (Wf.replicate _)
 have bP:val (digs X++List.replicate (n+1 - mX) 0)=X:=by rw [zea,zal]
 have bA:Below w2.heap.size w2 w5:=cT.trans cR
 have bC:=aT.later bA
 have aM:0<nD→Off AD w2.heap.size:=aT.off (Nat.le_refl _)
 clear cM cR bJ aP aF aT bT cT
 obtain ⟨lr,cS⟩:∃ lr,lr=digs X++List.replicate (n+1 - mX) 0:=⟨_,rfl⟩
 rw [←cS] at aA aJ bP bO
 clear cS
 have aI:Below w.heap.size w w5:=aC.trans (bA.mono aC.size)
 go_wp2_with (at_make;refine wpList_make_full _ rfl _ _ 89 rfl w.heap.size 120 i0 (.int .u64 0) 1 Tryz.underlying89 bS cZ cC _ _ _ _ (n - nD+1) rfl rfl (by omega) (by omega) ?b4 ?b5 aI.size ?_)
 case b4=>rw [cN];omega
 case b5=>unfold maxLen;omega
 intro w6 aU aD
 have aN:=zav.made aU
 have bQ:Below w5.heap.size w5 w6:=(Below.refl _ _).grown aD (Nat.le_refl _) (fun k h=>by cases h)
 have aG:=aA.below bQ
 have bH:=bC.later bQ
 have bG:Below w.heap.size w w6:=aI.trans (bQ.mono aI.size)
 have bM:w2.heap.size≠w5.heap.size:=by have:=aA.lt;omega
 have aW:=zlE X D x y s n nD lr aJ hA.out hB.out hy bZ bP HX.out HD.out (by rw [bO];omega)
 have cB:0<nD→Off AD w5.heap.size:=bC.off (Nat.le_refl _)
 have HI:=Lib.hid aW
 have cO:=Lib.hid bP
 clear aW bP aU aD aA bC bO bA
 have cJ:0<D:=by rw [HD.out];exact Nat.mul_pos hy (Nat.two_pow_pos s)
 go_wp2_with fail
 go_loopw [12] (fun sl wr=>∃ (k:Nat) (i:Int),i=(k:Int) - 1∧k≤n - nD+1∧sl = .int .i64 i∧∃ lr lq,zav wr w.heap.size w2.heap.size (n+1) (n+1) lr∧Wf lr∧zav wr w.heap.size w5.heap.size (n - nD+1) (n - nD+1) lq∧Wf lq ∧
   Hid (val lr+D*(B ^ k*val (lq.drop k))=X)∧Hid (val (lr.drop k)<D)∧NatS wr wr.heap.size AD nD cD D∧Below w.heap.size w wr) (fun sl _=>(intOf sl+1).toNat)
 case atStart=>
  refine ⟨n - nD+1,_,rfl,Nat.le_refl _,by congr 1;omega,lr,_,aG,aJ,aN,Wf.replicate _,?_,HI,bH,bG⟩
  rw [Hid,List.drop_of_length_le (by simp),val_nil,Nat.mul_zero,Nat.mul_zero,Nat.add_zero]
  exact cO.out
 case round=>
  clear aG aJ aN HI cO bH bG bQ
  obtain ⟨k,i,hi,hk,rfl,lr,lq,bD,bK,bU,cI,hX,bI,aT,aK⟩:=hrel
  by_cases hk0:0<k
  ·obtain ⟨j,rfl⟩:∃ j,k=j+1:=⟨k - 1,by omega⟩
   obtain rfl:i=(j:Int):=by omega
   clear hi
   have cH:val ((lr.drop j).take (nD+1))<D*B:=by
    have h6:=zkd lr j nD D bK bI.out (by rw [bD.len];omega)
    exact h6
   have cW:=zfC AD w.heap.size w2.heap.size j (n+1) (n+1) nD (n+1 - j) cD D lr wr bD bK aT (fun h=>aM h) hn2 (by omega) (by omega) cH
   have dD:=Lib.hid cW
   have bF:val ((lr.drop j).take (nD+1)) / D<18446744073709551616:=by
    rw [Nat.div_lt_iff_lt_mul cJ,Nat.mul_comm];exact cH
   obtain ⟨q1,cF⟩:∃ q1,q1=val ((lr.drop j).take (nD+1)) / D:=⟨_,rfl⟩
   rw [←cF] at dD bF
   have HQ:=Lib.hid cF
   clear cF cW cH
   go_wp2_with fail
   rw [show j+nD+1 - j=nD+1 from by omega]
   refine dD.out.mono ?_
   rintro e wd ⟨rfl,dB,aZ,bX,aV,aE,bR⟩
   have bB:=bU.kept bR (by simpa using bM)
   have dL:=bB.cell j (by omega)
   have fI:=bB.free j
   generalize lq.getD j 0=old at dL
   obtain ⟨f1,f2⟩:=zkO lr dB lq j nD q1 D X _ bK (by rw [aZ.len,bD.len]) (by rw [bD.len];omega) (by rw [bU.len];omega) (Nat.le_of_lt dE.out) cJ hX.out bI.out rfl aV HQ.out aE
   have F1:=Lib.hid f1
   have F2:=Lib.hid f2
   have dX:Below w.heap.size w wd:=aK.grown bR aK.size (fun k hk=>by cases hk;exact aC.size)
   have bW:wd.grownBy (wd.setCell ⟨w5.heap.size,j,none⟩ (.int .u64 (q1:Int))) (some w5.heap.size):=zaU (World.grownBy.refl wd _) (p:=⟨w5.heap.size,j,none⟩) (.inl rfl) _
   have bN:=aZ.kept bW (by simpa using fun h=>bM h.symm)
   have bL:=bB.set j q1
   have bE:=(aT.kept bR aM).kept bW (fun h0=>cB h0)
   have cY:Below w.heap.size w (wd.setCell ⟨w5.heap.size,j,none⟩ (.int .u64 (q1:Int))):=dX.setCell (p:=⟨w5.heap.size,j,none⟩) aI.size _
   have dM:=Lib.hid bN
   have fA:=Lib.hid bL
   have dY:=Lib.hid bE
   have dR:=Lib.hid cY
   have dO:=Lib.hid bX
   clear f1 f2 bW bN bL bE cY aV aE bR hX bI bD aZ bU aT
   go_wp2
   go_roundw
   case rel=>exact ⟨j,(j:Int) - 1,rfl,by omega,by go_num,dB,_,dM.out,dO.out,fA.out,cI.set j bF,F1.out,F2.out,dY.out,dR.out⟩
   case measure=>simp [intOf]<;>omega
  ·obtain rfl:k=0:=by omega
   have bS:i<0:=by omega
   clear hi
   obtain ⟨g1,g2⟩:=zll X D x y s (val lr) (val lq) HX.out HD.out hy (by have h:=hX.out;rwa [Nat.pow_zero,Nat.one_mul,List.drop_zero] at h) (by have h:=bI.out;rwa [List.drop_zero] at h)
   have cE:=zbP w.heap.size w5.heap.size (n - nD+1) (n - nD+1) lq wr bU cI
   rw [g1] at cE
   have dK:=Lib.hid cE
   have dH:=Lib.hid (zbP w.heap.size w2.heap.size (n+1) (n+1) lr wr bD bK)
   have dN:=Lib.hid g2
   clear cE g1 g2 hX bI
   go_wp2_with fail
   refine dK.out.mono ?_
   rintro e w7 ⟨m7,rfl,dQ,rfl⟩
   go_wp2_with fail
   refine dH.out.mono ?_
   rintro e w8 ⟨m8,rfl,cQ,rfl⟩
   have fF:m8≤n+1:=by
    have h9:=cQ.len
    have fC:=digs_length_le (zbk bK)
    rw [bD.len] at fC
    omega
   have cL:=zaO (some ⟨w2.heap.size,0,none⟩) m8 (n+1) (val lr) s wr cQ.nat (by omega) (by omega)
   rw [dN.out] at cL
   go_wp2_with fail
   refine cL.mono ?_
   rintro e w9 ⟨bV,dS⟩
   obtain ⟨A9,m9,c9,dG,dT,_⟩:=dS.ret bV
   subst dG
   go_wp2
   go_ret2
   exact ⟨_,m7,_,A9,m9,c9,rfl,dQ.nat.later bV,dT,aK.trans (bV.mono aK.size)⟩
theorem zcs (A A':Option Addr) (n c n' c' x y:Nat) (w:World) (ha:NatS w w.heap.size A n c x) (hb:NatS w w.heap.size A' n' c' y) (hy:0<y) (hn:n≤549755813888) :
  Calls Tryz.prog 142 #[.slice A n c,.slice A' n' c'] w (zfb w (x / y) (x % y)):=by
 rcases Nat.lt_or_ge x y with h | h
 ·exact zjj A A' n c n' c' x y w ha hb h
 ·have h1:0<n':=by rw [←hb.len];exact zan hy
  rcases Nat.lt_or_ge n' 2 with h2 | h2
  ·obtain rfl:n'=1:=by omega
   exact zlh A A' n c c' x y w ha hb h hy (by omega)
  ·exact zkM A A' n c n' c' x y w ha hb h h2 hn
end Go.Proofs.YteajibbphcfmeaaGreatDoor
