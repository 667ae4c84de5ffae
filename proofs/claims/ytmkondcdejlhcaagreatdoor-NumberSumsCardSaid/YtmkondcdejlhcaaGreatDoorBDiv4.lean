/- Contract of over: the integer part of a quotient, and the remainder. -/
import Derived.Test.YtmkondcdejlhcaaGreatDoorBNum3
import Derived.Laws.CopyOwn
import Derived.Deep.LoopGhost
set_option maxRecDepth 100000
set_option maxHeartbeats 8000000
namespace Go.Proofs.YtmkondcdejlhcaaGreatDoor
open Go.RowKit Bn
def zgS (w:World) (x y:Nat) (e:Ending) (w':World):Prop:=
 ∃ A1 m1 c1 A2 m2 c2,e = .returned (.tuple #[.slice A1 m1 c1,.slice A2 m2 c2])∧NatS w' w'.heap.size A1 m1 c1 x∧NatS w' w'.heap.size A2 m2 c2 y∧Below w.heap.size w w'
theorem zaz.block {w:World} {base g n:Nat} {l:List Nat} (h:zaz w base g n n l):w.heap[g]? = some (.cells (l.map u64v).toArray 136 (0,0)):=by
 rcases h.2 with ⟨h',_⟩ | ⟨g',aC,aG,h',hb,hg,aF,aE,aD,aA⟩
 ·simp at h'
 ·simp only [Value.slice.injEq,Option.some.injEq,Addr.mk.injEq,and_true,true_and] at h'
  obtain ⟨rfl,rfl⟩:=h';rw [hg,←aA,List.take_of_length_le (by rw [Array.length_toList,aD];exact Nat.le_refl _)]
theorem zaz.of_block {w:World} {base g n:Nat} {l:List Nat} (h:w.heap[g]? = some (.cells (l.map u64v).toArray 136 (0,0))) (hb:base≤g) (hl:l.length=n) (hn:n≤maxLen):zaz w base g n n l:=by
 refine ⟨by simp [hl],.inr ⟨g,n,(l.map u64v).toArray,rfl,hb,h,Nat.le_refl _,hn,by simp [hl],?_⟩⟩;rw [List.take_of_length_le (by simp [hl])]
theorem zfS (l:List Nat) (k:Nat):val (l++List.replicate k 0)=val l:=by rw [zaT,za6,Nat.mul_zero,Nat.add_zero]
theorem zmd {l l':List Nat} (j:Nat) (hl:l.length=l'.length) (h:∀ t,t<j→l.getD t 0=l'.getD t 0):l.take j=l'.take j:=by
 apply List.ext_getElem
 ·simp [hl]
 ·intro t h1 h2
  rw [List.length_take] at h1 h2;simp only [List.getElem_take]
  have:=h t (by omega)
  rwa [Bn.getD_in (by omega),Bn.getD_in (by omega)] at this
theorem zml {l l':List Nat} (j:Nat) (hl:l.length=l'.length) (h:∀ t,j≤t→l.getD t 0=l'.getD t 0):l.drop j=l'.drop j:=by
 apply List.ext_getElem
 ·simp [hl]
 ·intro t h1 h2
  rw [List.length_drop] at h1 h2;simp only [List.getElem_drop]
  have:=h (j+t) (by omega)
  rwa [Bn.getD_in (by omega),Bn.getD_in (by omega)] at this
theorem zm6 (lr lr' lq:List Nat) (j n q D X R:Nat) (hw:Wf lr) (hl:lr'.length=lr.length) (hlen:j+n+1≤lr.length) (hlq:j<lq.length) (hDn:D≤B ^ n) (hD0:0<D)
  (hX:val lr+D*(B ^ (j+1)*val (lq.drop (j+1)))=X) (hlt:val (lr.drop (j+1))<D) (hR:R=val ((lr.drop j).take (n+1)))
  (hR':val ((lr'.drop j).take (n+1))=R % D) (hq:q=R / D) (hsame:∀ t,t<j∨j+n+1≤t→lr'.getD t 0=lr.getD t 0) :
  val lr'+D*(B ^ j*val ((lq.set j q).drop j))=X∧val (lr'.drop j)<D:=by
 have e1:=zgG lr j (by omega);have aA:=zaI hw j;have h1:val (lr.drop j)<D*B:=by
  rw [e1,val_cons];have h:B*(val (lr.drop (j+1))+1)≤B*D:=Nat.mul_le_mul_left _ hlt;rw [Nat.mul_add,Nat.mul_one,Nat.mul_comm B D] at h;have:lr.getD j 0<B:=aA;omega
 have h2:=zaD (lr.drop j) (n+1) (by rw [List.length_drop];omega);rw [←hR] at h2;have hz:val ((lr.drop j).drop (n+1))=0:=by
  rcases Nat.eq_zero_or_pos (val ((lr.drop j).drop (n+1))) with h | h
  ·exact h
  ·exfalso
   have h3:B ^ (n+1)*1≤B ^ (n+1)*val ((lr.drop j).drop (n+1)):=Nat.mul_le_mul_left _ h;have h4:D*B≤B ^ (n+1):=by rw [Nat.pow_succ];exact Nat.mul_le_mul_right _ hDn
   omega
 have h3:=zaD (lr'.drop j) (n+1) (by rw [List.length_drop,hl];omega);have hd:(lr'.drop j).drop (n+1)=(lr.drop j).drop (n+1):=by
  rw [List.drop_drop,List.drop_drop];exact zml _ hl (fun t ht=>hsame t (by omega))
 rw [hd,hz,Nat.mul_zero,Nat.add_zero,hR'] at h3;rw [hz,Nat.mul_zero,Nat.add_zero] at h2;have h4:=Nat.mod_lt R hD0;refine ⟨?_,by omega⟩;have h5:=zaD lr j (by omega);have h6:=zaD lr' j (by omega);rw [zmd (l:=lr') (l':=lr) j hl (fun t ht=>hsame t (.inl ht)),h3] at h6;rw [h2] at h5;rw [ze0 lq j q hlq,val_cons,←hX,h5,h6,hq];have h7:=Nat.div_add_mod R D;have h8:B ^ j*R=B ^ j*(D*(R / D))+B ^ j*(R % D):=by rw [←Nat.mul_add,h7]
 have h9:D*(B ^ j*(R / D+B*val (lq.drop (j+1))))=B ^ j*(D*(R / D))+D*(B ^ (j+1)*val (lq.drop (j+1))):=by
  rw [Nat.mul_add (B ^ j),Nat.mul_add D,Nat.mul_left_comm D (B ^ j),Nat.pow_succ,Nat.mul_assoc]
 rw [h8,h9];omega
theorem zow (lr:List Nat) (j n D:Nat) (hw:Wf lr) (hlt:val (lr.drop (j+1))<D) (hj:j<lr.length):val ((lr.drop j).take (n+1))<D*B:=by
 have e1:=zgG lr j hj;have aA:lr.getD j 0<B:=zaI hw j;have h1:val (lr.drop j)<D*B:=by
  rw [e1,val_cons];have h:B*(val (lr.drop (j+1))+1)≤B*D:=Nat.mul_le_mul_left _ hlt;rw [Nat.mul_add,Nat.mul_one,Nat.mul_comm B D] at h;omega
 rcases Nat.lt_or_ge (n+1) (lr.drop j).length with h | h
 ·have h2:=zaD (lr.drop j) (n+1) (by omega)
  omega
 ·rw [List.take_of_length_le h];exact h1
theorem znS (X D x y s la n:Nat) (lr:List Nat) (hw:Wf lr) (hla:(digs x).length=la) (hn:(digs y).length=n) (hy:0<y) (hle:n≤la) (hX:val lr=X) (eX:X=x*2 ^ s) (eD:D=y*2 ^ s) (hlen:la - n+1≤lr.length) :
  val (lr.drop (la - n+1))<D:=by
 rw [zfZ hw _ hlen,hX,Nat.div_lt_iff_lt_mul (Nat.pow_pos zaV),eX,eD];have h1:=zae x;rw [hla] at h1;have h2:=zaH hy;rw [hn] at h2;have aA:0<n:=by rw [←hn];exact zav hy
 have h3:B ^ la=B ^ (n - 1)*B ^ (la - n+1):=by rw [←Nat.pow_add];congr 1;omega
 have h4:x<y*B ^ (la - n+1):=by
  have:=Nat.mul_le_mul_right (B ^ (la - n+1)) h2;omega
 rw [Nat.mul_assoc,Nat.mul_comm (2 ^ s),←Nat.mul_assoc];exact (Nat.mul_lt_mul_right (Nat.two_pow_pos s)).2 h4
theorem zoq (X D x y s V Q:Nat) (eX:X=x*2 ^ s) (eD:D=y*2 ^ s) (hy:0<y) (h:V+D*Q=X) (hlt:V<D):Q=x / y∧V / 2 ^ s=x % y:=by
 have hp:=Nat.two_pow_pos s;have hD:0<D:=by omega
 have h1:Q=X / D:=by
  rw [←h,Nat.add_comm,Nat.mul_add_div hD,Nat.div_eq_of_lt hlt,Nat.add_zero]
 have h2:V=X % D:=by
  rw [←h,Nat.add_comm,Nat.mul_add_mod,Nat.mod_eq_of_lt hlt]
 have _:=hy
 constructor
 ·rw [h1,eX,eD,Nat.mul_div_mul_right _ _ hp]
 ·rw [h2,eX,eD,Nat.mul_mod_mul_right,Nat.mul_div_cancel _ hp]
theorem zlx (A A':Option Addr) (n c n' c' x y:Nat) (w:World) (ha:NatS w w.heap.size A n c x) (hb:NatS w w.heap.size A' n' c' y) (hlt:x<y) :
  Calls Tryz.prog 142 #[.slice A n c,.slice A' n' c'] w (zgS w (x / y) (x % y)):=by
 have hc:=zaX A A' n c n' c' x y w ha hb;rw [ncmp_lt hlt] at hc;go_enter Tryz.func142,Tryz.ntmps142
 go_wp2_with fail
 refine hc.mono ?_;rintro e w1 ⟨rfl,q,rfl⟩;go_wp2
 go_ret2
 refine ⟨none,0,0,A,n,c,rfl,?_,?_,zac (Below.refl _ _) q⟩
 ·rw [Nat.div_eq_of_lt hlt];exact NatS.nil _ _
 ·rw [Nat.mod_eq_of_lt hlt];exact ⟨ha.words,ha.nc,ha.cm⟩
theorem zm9 (A A':Option Addr) (n c c' x y:Nat) (w:World) (ha:NatS w w.heap.size A n c x) (hb:NatS w w.heap.size A' 1 c' y) (hle:y≤x) (hy:0<y) (hn:n≤1099511627776) :
  Calls Tryz.prog 142 #[.slice A n c,.slice A' 1 c'] w (zgS w (x / y) (x % y)):=by
 have hc:=zaX A A' n c 1 c' x y w ha hb;have aI:0≤ncmp x y:=by
  unfold ncmp;rw [if_neg (by omega)]
  split<;>omega
 obtain ⟨v,hv⟩:∃ v,v=ncmp x y:=⟨_,rfl⟩;rw [←hv] at hc aI;clear hv;have hB:=hb.len;obtain ⟨ad,rfl,aL,aA⟩:=hb.words.word (k:=0) (by omega);have e0:ad.add 0=ad:=by simp [Addr.add]
 have aF:(digs y).getD 0 0=y:=by
  match hd:digs y,hB with
  | [d],_=>
   have:=zak y;rw [hd] at this
   simpa using this
 have aG:=zaI (zat y) 0;rw [aF] at aA aG;rw [e0] at aA;have HY:=Aa aF;have HB:=Aa hB;clear aF e0 hB;go_enter Tryz.func142,Tryz.ntmps142
 go_wp2_with fail
 refine hc.mono ?_;rintro e w1 ⟨rfl,q,rfl⟩;have aK:=zbl A n c x y (w.drewN q) ⟨ha.words,ha.nc,ha.cm⟩ hn hy aG
 go_wp2_with fail
 refine aK.mono ?_;rintro e w2 ⟨m,c2,rfl,aE,aD⟩;have aH:=zah ((x % y:Nat):Int) w2 (by omega) (by have:=Nat.mod_lt x hy;omega);rw [Int.toNat_natCast] at aH
 go_wp2_with fail
 refine aH.mono ?_;rintro e w3 ⟨A3,m3,c3,rfl,aJ,aC⟩;go_wp2
 go_ret2
 exact ⟨_,m,c2,A3,m3,c3,rfl,aE.nat.later aC,aJ,(zac (Below.refl w.heap.size w) q).trans (aD.trans (aC.mono aD.size))⟩
theorem znE (A A':Option Addr) (n c n' c' x y:Nat) (w:World) (ha:NatS w w.heap.size A n c x) (hb:NatS w w.heap.size A' n' c' y) (hle:y≤x) (hn2:2≤n') (hn:n≤549755813888) :
  Calls Tryz.prog 142 #[.slice A n c,.slice A' n' c'] w (zgS w (x / y) (x % y)):=by
 obtain ⟨i0,bR,dI,cJ,cN⟩:=info_parts zcF;have hc:=zaX A A' n c n' c' x y w ha hb;have dR:0≤ncmp x y:=by
  unfold ncmp;rw [if_neg (by omega)]
  split<;>omega
 obtain ⟨v,hv⟩:∃ v,v=ncmp x y:=⟨_,rfl⟩;rw [←hv] at hc dR;clear hv;have hA:=Aa ha.len;have hB:=Aa hb.len;have cI:n'≤n:=by rw [←ha.len,←hb.len];exact zaa hle
 have hy:0<y:=by
  rcases Nat.eq_zero_or_pos y with rfl | h
  ·have:=hb.len
   rw [zam] at this;simp at this
   omega
  ·exact h
 have h1:=ha.nc;have h2:=ha.cm;have h3:=hb.nc;have h4:=hb.cm;unfold maxLen at h2 h4;obtain ⟨ad,rfl,fN,dP⟩:=hb.words.word (k:=n' - 1) (by omega);have cE:=zaI (zat y) (n' - 1);obtain ⟨t,gt⟩:∃ t,(digs y).getD (n' - 1) 0=t:=⟨_,rfl⟩;rw [gt] at dP cE;have dS:t≠0:=by
  have:=zdl y (by rw [hB.out];omega);rw [←gt,Bn.getD_in (by rw [hB.out];omega)]
  simpa only [hB.out] using this
 obtain ⟨b1,b2,b3⟩:=Lib.bitLenAux_bounds 64 t (by simpa using cE) dS;have b4:=Lib.bitLen_le t 64 (Nat.le_refl _) (by simpa using cE);have hl:=fun W:World=>Tryz.bits_LeadingZeros64 (t:Int) W (by omega) (by omega)
 have eb:Lib.bitLen t=Lib.bitLenAux 64 t:=rfl;rw [←eb] at b1 b2 b3;obtain ⟨b,cA⟩:∃ b,b=Lib.bitLen t:=⟨_,rfl⟩;rw [←cA] at b1 b2 b3 b4;obtain ⟨s,hs⟩:∃ s,s=64 - b:=⟨_,rfl⟩;have cV:∀ W:World,Calls Tryz.prog 181 #[.int .u64 (t:Int)] W fun e w'=>e = .returned (.int .i64 (s:Int))∧w'=W:=fun W=>by
  have h:=hl W;rw [Int.toNat_natCast,←cA,show (64 - (b:Int))=(s:Int) from by omega] at h;exact h
 have HL:=Aa cV;have fE:s≤63:=by omega
 have dG:zaR y=64*(n' - 1)+b:=zgK hy (n' - 1) (by rw [hB.out];omega) t b gt b1 b2 b3;obtain ⟨D,hD⟩:∃ D,D=y*2 ^ s:=⟨_,rfl⟩;obtain ⟨X,hX⟩:∃ X,X=x*2 ^ s:=⟨_,rfl⟩;have bB:D<B ^ n':=by
  have h5:=zgd y;rw [dG] at h5;have h6:=(Nat.mul_lt_mul_right (Nat.two_pow_pos s)).2 h5;rw [←Nat.pow_add,show 64*(n' - 1)+b+s=64*n' from by omega,Nat.pow_mul,←zfH] at h6;rw [hD];exact h6
 have cO:y≤D:=by rw [hD];exact Nat.le_mul_of_pos_right _ (Nat.two_pow_pos s)
 have aP:(digs D).length=n':=by
  have h5:=digs_length_le bB;have h6:=zaa cO;rw [hB.out] at h6;omega
 have aV:(digs X).length≤n+1:=by
  refine digs_length_le ?_;rw [hX,Nat.pow_succ];have h5:=zae x;rw [hA.out] at h5;have h6:2 ^ s≤B:=by rw [zfH];exact Nat.pow_le_pow_right (by omega) (by omega)
  exact Nat.lt_of_lt_of_le ((Nat.mul_lt_mul_right (Nat.two_pow_pos s)).2 h5) (Nat.mul_le_mul_left _ h6)
 have fF:=zay;have HD:=Aa hD;have HX:=Aa hX;have dN:=Aa aP;have dV:=Aa aV;have fG:=Aa bB;clear hl cV cA hs b1 b2 b3 b4 eb gt dG hD hX aP aV bB cO fF;go_enter Tryz.func142,Tryz.ntmps142
 go_wp2_with fail
 refine hc.mono ?_;rintro e w1 ⟨rfl,q,rfl⟩;have fM:(((n':Nat):Int)==1)=false:=by rw [beq_eq_false_iff_ne];omega
 go_wp2_with fail
 refine (HL.out _).mono ?_;rintro e w1 ⟨rfl,rfl⟩;have dA:=zay (some ad) n' c' y s (w.drewN q) ⟨hb.words,hb.nc,hb.cm⟩ (by omega) (by omega);rw [←HD.out] at dA
 go_wp2_with fail
 refine dA.mono ?_;rintro e w2 ⟨AD,nD,cD,rfl,aN,aO⟩;have dX:nD=n':=by rw [←aN.len,dN.out]
 subst dX
 go_wp2_with (at_make;refine wpList_make_full _ rfl _ _ 89 rfl w.heap.size 136 i0 (.int .u64 0) 1 Tryz.underlying89 bR dI cJ _ _ _ _ (n+1) rfl rfl (by omega) (by omega) ?b2 ?b3 aO.size ?_)
 case b2=>rw [cN];omega
 case b3=>unfold maxLen;omega
 intro w3 aT aG;have aW:=zaz.made aT;have bU:Below w2.heap.size w2 w3:=(Below.refl _ _).grown aG (Nat.le_refl _) (fun k h=>by cases h);have aC:Below w.heap.size w w2:=(zac (Below.refl w.heap.size w) q).trans aO;have cL:Below w.heap.size w w3:=Ad aC bU;have dD:=zay A n c x s w3 (ha.later cL) (by omega) (by omega);rw [←HX.out] at dD;clear aT aG
 go_wp2_with fail
 refine dD.mono ?_;rintro e w4 ⟨AX,mX,cX,rfl,aR,aH⟩;have dF:Below w2.heap.size w2 w4:=Ad bU aH;have aZ:=aW.below aH;have dJ:mX≤n+1:=by rw [←aR.len];exact dV.out
 have bL:=Aa aZ;clear aW aZ
 go_wp2_with (with_reducible refine wpList_copy_splice rfl (.tmp 46) (.tmp 49) 89 89 rfl 136 Tryz.underlying89 ?sz (some ⟨w2.heap.size,0,none⟩) AX (n+1) (n+1) mX cX rfl rfl w2.heap.size 0 ((List.replicate (n+1) 0).map u64v) 136 bL.out.block ((digs X).map u64v) ?cn ?cp ?cf ?c1 w2.heap.size w4 (Below.refl _ _) (Nat.le_refl _) ?_)
 case sz=>rw [bR];simp [cJ]
 case cn=>rw [List.length_map,aR.len];exact (Nat.min_eq_left dJ).symm
 case cp=>
  intro h0;have fC:0<mX:=by rw [←aR.len];simpa using h0
  obtain ⟨dY,ex,_,dW⟩:=aR.words.2 fC;exact ⟨dY,ex,fun j a h=>dW j _ (by rw [List.getElem?_map,h];rfl)⟩
 case cf=>simp [aR.len];exact dJ
 case c1=>exact zpd _
 intro w5 dB cY;have bT:(digs X++List.replicate (n+1 - mX) 0).length=n+1:=by rw [List.length_append,aR.len,List.length_replicate];omega
 have aA:zaz w5 w.heap.size w2.heap.size (n+1) (n+1) (digs X++List.replicate (n+1 - mX) 0):=by
  refine zaz.of_block ?_ aC.size bT (by unfold maxLen;omega);have h5:=dB.out;rw [h5]
  congr 3
  simp [splice,aR.len]
 have aI:Wf (digs X++List.replicate (n+1 - mX) 0):=(zat X).append (Wf.replicate _);have bQ:val (digs X++List.replicate (n+1 - mX) 0)=X:=by rw [zfS,zak]
 have bF:Below w2.heap.size w2 w5:=dF.trans cY;have bE:=aN.later bF;have aQ:0<nD→Off AD w2.heap.size:=aN.off (Nat.le_refl _);clear dB cY bL aR aH aN bU dF;obtain ⟨lr,cW⟩:∃ lr,lr=digs X++List.replicate (n+1 - mX) 0:=⟨_,rfl⟩;rw [←cW] at aA aI bQ bT;clear cW;have aK:Below w.heap.size w w5:=Ad aC bF
 go_wp2_with (at_make;refine wpList_make_full _ rfl _ _ 89 rfl w.heap.size 136 i0 (.int .u64 0) 1 Tryz.underlying89 bR dI cJ _ _ _ _ (n - nD+1) rfl rfl (by omega) (by omega) ?b4 ?b5 aK.size ?_)
 case b4=>rw [cN];omega
 case b5=>unfold maxLen;omega
 intro w6 aM aF;have aU:=zaz.made aM;have bV:Below w5.heap.size w5 w6:=(Below.refl _ _).grown aF (Nat.le_refl _) (fun k h=>by cases h);have aE:=aA.below bV;have bH:=bE.later bV;have bO:Below w.heap.size w w6:=Ad aK bV;have bI:w2.heap.size≠w5.heap.size:=by have:=aA.lt;omega
 have aS:=znS X D x y s n nD lr aI hA.out hB.out hy cI bQ HX.out HD.out (by rw [bT];omega);have cB:0<nD→Off AD w5.heap.size:=bE.off (Nat.le_refl _);have HI:=Aa aS;have cZ:=Aa bQ;clear aS bQ aM aF aA bE bT bF;have cU:0<D:=by rw [HD.out];exact Nat.mul_pos hy (Nat.two_pow_pos s)
 go_wp2_with fail
 go_loopw [12] (fun sl wr=>∃ (k:Nat) (i:Int),i=(k:Int) - 1∧k≤n - nD+1∧sl = .int .i64 i∧∃ lr lq,zaz wr w.heap.size w2.heap.size (n+1) (n+1) lr∧Wf lr∧zaz wr w.heap.size w5.heap.size (n - nD+1) (n - nD+1) lq∧Wf lq ∧
   Hid (val lr+D*(B ^ k*val (lq.drop k))=X)∧Hid (val (lr.drop k)<D)∧NatS wr wr.heap.size AD nD cD D∧Below w.heap.size w wr) (fun sl _=>(intOf sl+1).toNat)
 case atStart=>
  refine ⟨n - nD+1,_,rfl,Nat.le_refl _,by congr 1;omega,lr,_,aE,aI,aU,Wf.replicate _,?_,HI,bH,bO⟩;rw [Hid,List.drop_of_length_le (by simp),val_nil,Nat.mul_zero,Nat.mul_zero,Nat.add_zero];exact cZ.out
 case round=>
  clear aE aI aU HI cZ bH bO bV;obtain ⟨k,i,hi,hk,rfl,lr,lq,bC,bJ,bS,cQ,hX,bP,aN,aJ⟩:=hrel
  by_cases hk0:0<k
  ·obtain ⟨j,rfl⟩:∃ j,k=j+1:=⟨k - 1,by omega⟩
   obtain rfl:i=(j:Int):=by omega
   clear hi;have cF:val ((lr.drop j).take (nD+1))<D*B:=by
    have h6:=zow lr j nD D bJ bP.out (by rw [bC.len];omega);exact h6
   have cM:=zhe AD w.heap.size w2.heap.size j (n+1) (n+1) nD (n+1 - j) cD D lr wr bC bJ aN (fun h=>aQ h) hn2 (by omega) (by omega) cF;have cS:=Aa cM;have bK:val ((lr.drop j).take (nD+1)) / D<18446744073709551616:=by
    rw [Nat.div_lt_iff_lt_mul cU,Nat.mul_comm];exact cF
   obtain ⟨q1,cK⟩:∃ q1,q1=val ((lr.drop j).take (nD+1)) / D:=⟨_,rfl⟩;rw [←cK] at cS bK;have HQ:=Aa cK;clear cK cM cF
   go_wp2_with fail
   rw [show j+nD+1 - j=nD+1 from by omega];refine cS.out.mono ?_;rintro e wd ⟨rfl,cT,bA,bZ,aL,aD,bW⟩;have bD:=bS.kept bW (by simpa using bI);have dO:=bD.cell j (by omega);have fO:=bD.free j;generalize lq.getD j 0=old at dO;obtain ⟨f1,f2⟩:=zm6 lr cT lq j nD q1 D X _ bJ (by rw [bA.len,bC.len]) (by rw [bC.len];omega) (by rw [bS.len];omega) (Nat.le_of_lt fG.out) cU hX.out bP.out rfl aL HQ.out aD;have F1:=Aa f1;have F2:=Aa f2;have dL:Below w.heap.size w wd:=aJ.grown bW aJ.size (fun k hk=>by cases hk;exact aC.size);have cG:wd.grownBy (wd.setCell ⟨w5.heap.size,j,none⟩ (.int .u64 (q1:Int))) (some w5.heap.size):=zbi (World.grownBy.refl wd _) (p:=⟨w5.heap.size,j,none⟩) (.inl rfl) _;have bG:=bA.kept cG (by simpa using fun h=>bI h.symm);have bN:=bD.set j q1;have bM:=(aN.kept bW aQ).kept cG (fun h0=>cB h0);have dH:Below w.heap.size w (wd.setCell ⟨w5.heap.size,j,none⟩ (.int .u64 (q1:Int))):=dL.setCell (p:=⟨w5.heap.size,j,none⟩) aK.size _;have fA:=Aa bG;have dK:=Aa bN;have dZ:=Aa bM;have fB:=Aa dH;have fK:=Aa bZ;clear f1 f2 cG bG bN bM dH aL aD bW hX bP bC bA bS aN;go_wp2
   go_roundw
   case rel=>exact ⟨j,(j:Int) - 1,rfl,by omega,by go_num,cT,_,fA.out,fK.out,dK.out,cQ.set j bK,F1.out,F2.out,dZ.out,fB.out⟩
   case measure=>simp [intOf]<;>omega
  ·obtain rfl:k=0:=by omega
   have bR:i<0:=by omega
   clear hi;obtain ⟨g1,g2⟩:=zoq X D x y s (val lr) (val lq) HX.out HD.out hy (by have h:=hX.out;rwa [Nat.pow_zero,Nat.one_mul,List.drop_zero] at h) (by have h:=bP.out;rwa [List.drop_zero] at h);have cH:=zcq w.heap.size w5.heap.size (n - nD+1) (n - nD+1) lq wr bS cQ;rw [g1] at cH;have fI:=Aa cH;have dQ:=Aa (zcq w.heap.size w2.heap.size (n+1) (n+1) lr wr bC bJ);have dU:=Aa g2;clear cH g1 g2 hX bP
   go_wp2_with fail
   refine fI.out.mono ?_;rintro e w7 ⟨m7,rfl,dT,rfl⟩
   go_wp2_with fail
   refine dQ.out.mono ?_;rintro e w8 ⟨m8,rfl,cP,rfl⟩;have fL:m8≤n+1:=by
    have h9:=cP.len;have fJ:=digs_length_le (zbI bJ);rw [bC.len] at fJ;omega
   have cR:=zaY (some ⟨w2.heap.size,0,none⟩) m8 (n+1) (val lr) s wr cP.nat (by omega) (by omega);rw [dU.out] at cR
   go_wp2_with fail
   refine cR.mono ?_;rintro e w9 ⟨cC,dM⟩;obtain ⟨A9,m9,c9,fD,fH,_⟩:=dM.ret cC;subst fD;go_wp2
   go_ret2
   exact ⟨_,m7,_,A9,m9,c9,rfl,dT.nat.later cC,fH,aJ.trans (cC.mono aJ.size)⟩
theorem zcM (A A':Option Addr) (n c n' c' x y:Nat) (w:World) (ha:NatS w w.heap.size A n c x) (hb:NatS w w.heap.size A' n' c' y) (hy:0<y) (hn:n≤549755813888) :
  Calls Tryz.prog 142 #[.slice A n c,.slice A' n' c'] w (zgS w (x / y) (x % y)):=by
 rcases Nat.lt_or_ge x y with h | h
 ·exact zlx A A' n c n' c' x y w ha hb h
 ·have h1:0<n':=by rw [←hb.len];exact zav hy
  rcases Nat.lt_or_ge n' 2 with h2 | h2
  ·obtain rfl:n'=1:=by omega
   exact zm9 A A' n c c' x y w ha hb h hy (by omega)
  ·exact znE A A' n c n' c' x y w ha hb h h2 hn
theorem zgx (m:Nat):Nat.Coprime 2 (2*m+1):=by
 unfold Nat.Coprime;rw [Nat.gcd_rec,Nat.mul_add_mod,Nat.gcd_comm];rfl
theorem zeO (k a m:Nat):Nat.gcd (2 ^ k*a) (2*m+1)=Nat.gcd a (2*m+1):=
 Nat.Coprime.gcd_mul_left_cancel a (Nat.Coprime.pow_left k (zgx m))
def odd (n:Nat):Nat:=n / 2 ^ ntz n
theorem zc5 {n:Nat} (h:0<n):n=2 ^ ntz n*odd n∧∃ m,odd n=2*m+1:=by
 obtain ⟨m,hm⟩:=zhY h;have e:odd n=2*m+1:=by
  unfold odd
  conv=>lhs;lhs;rw [hm]
  rw [Nat.mul_div_cancel_left _ (Nat.two_pow_pos _)]
 exact ⟨by rw [e];exact hm,m,e⟩
theorem zfz {n:Nat} (h:0<n):0<odd n:=by
 obtain ⟨_,m,e⟩:=zc5 h;omega
theorem zlf {n k:Nat} (h:0<n) (hk:(digs n).length≤k):ntz n≤64*k:=by
 obtain ⟨m,hm⟩:=zhY h;have h1:=zae n;have h2:B ^ (digs n).length≤B ^ k:=Nat.pow_le_pow_right zaV hk;have h3:2 ^ ntz n≤n:=by
  conv=>rhs;rw [hm]
  exact Nat.le_mul_of_pos_right _ (by omega)
 rcases Nat.lt_or_ge (64*k) (ntz n) with h4 | h4
 ·exfalso
  have h5:2 ^ (64*k)≤2 ^ ntz n:=Nat.pow_le_pow_right (by omega) (by omega);rw [Nat.pow_mul,←zfH] at h5;omega
 ·exact h4
theorem znp {n:Nat} (h:0<n):ntz n / 64<(digs n).length:=by
 obtain ⟨m,hm⟩:=zhY h;have h1:=zae n;have h3:2 ^ ntz n≤n:=by
  conv=>rhs;rw [hm]
  exact Nat.le_mul_of_pos_right _ (by omega)
 rcases Nat.lt_or_ge (ntz n / 64) (digs n).length with h4 | h4
 ·exact h4
 ·exfalso
  have h5:2 ^ (64*(digs n).length)≤2 ^ ntz n:=Nat.pow_le_pow_right (by omega) (by omega);rw [Nat.pow_mul,←zfH] at h5;omega
theorem ziP (s t a b:Nat) (ha:∃ m,a=2*m+1) (hb:∃ m,b=2*m+1):Nat.gcd (2 ^ s*a) (2 ^ t*b)=2 ^ min s t*Nat.gcd a b:=by
 obtain ⟨m,rfl⟩:=ha;obtain ⟨k,rfl⟩:=hb
 rcases Nat.le_total s t with h | h
 ·obtain ⟨d,rfl⟩:∃ d,t=s+d:=⟨t - s,by omega⟩
  rw [Nat.min_eq_left h,Nat.pow_add,Nat.mul_assoc,Nat.gcd_mul_left,Nat.gcd_comm,zeO,Nat.gcd_comm]
 ·obtain ⟨d,rfl⟩:∃ d,s=t+d:=⟨s - t,by omega⟩
  rw [Nat.min_eq_right h,Nat.pow_add,Nat.mul_assoc,Nat.gcd_mul_left,zeO]
theorem zo8 {x y:Nat} (hx:0<x) (hy:0<y):Nat.gcd x y=Nat.gcd (odd x) (odd y)*2 ^ min (ntz x) (ntz y):=by
 obtain ⟨e1,o1⟩:=zc5 hx;obtain ⟨e2,o2⟩:=zc5 hy;have h:=ziP (ntz x) (ntz y) (odd x) (odd y) o1 o2;rw [←e1,←e2] at h;rw [h,Nat.mul_comm]
theorem zll {x y:Nat} (hy:∃ m,y=2*m+1) (hlt:y<x):Nat.gcd (odd (x - y)) y=Nat.gcd x y:=by
 obtain ⟨e,_⟩:=zc5 (n:=x - y) (by omega);obtain ⟨m,rfl⟩:=hy;have h1:Nat.gcd (x - (2*m+1)) (2*m+1)=Nat.gcd x (2*m+1):=Nat.gcd_sub_self_left (by omega);rw [←h1]
 conv=>rhs;rw [e]
 rw [zeO]
theorem zhF {n:Nat} (_h:0<n):odd n≤n:=Nat.div_le_self _ _
theorem zeS (A A':Option Addr) (n c n' c' x y:Nat) (w:World) (hT:Tabs w) (ha:NatS w w.heap.size A n c x) (hb:NatS w w.heap.size A' n' c' y) (hn:n≤1073741824) (hn':n'≤1073741824) :
  Calls Tryz.prog 121 #[.slice A n c,.slice A' n' c'] w (zcy w (Nat.gcd x y)):=by
 have h1:=ha.nc;have h2:=ha.cm;have h3:=hb.nc;have h4:=hb.cm;unfold maxLen at h2 h4;go_enter Tryz.func121,Tryz.ntmps121
 go_upto_if 12 with (fail)
 go_cut [0,1] (fun s s' wc=>∃ A n c A' n' c' u v,s = .slice A n c∧s' = .slice A' n' c'∧NatS w w.heap.size A n c u∧NatS w w.heap.size A' n' c' v∧n'≤n∧n≤1073741824∧Hid (Nat.gcd u v=Nat.gcd x y)∧wc=w)
 case first=>
  by_cases bD:n<n'
  ·have hd:decide (n<n')=true:=by simpa using bD
   go_wp2_with fail
   go_meet
   exact ⟨A',n',c',A,n,c,y,x,rfl,rfl,hb,ha,by omega,hn',Nat.gcd_comm _ _,rfl⟩
  ·have hd:decide (n<n')=false:=by simpa using bD
   go_wp2_with fail
   go_meet
   exact ⟨A,n,c,A',n',c',x,y,rfl,rfl,ha,hb,by omega,hn,rfl,rfl⟩
 case rest=>
  clear ha hb hn hn' h1 h2 h3 h4;obtain ⟨A,n,c,A',n',c',u,v,rfl,rfl,ha,hb,bU,hn,hg,rfl⟩:=hcut;have h1:=ha.nc;have h2:=ha.cm;have h3:=hb.nc;have h4:=hb.cm;have hz:=zcP A' n' c' wc (by omega);unfold maxLen at h2 h4;have HA:=Aa ha.len;have HB:=Aa hb.len;have cG:n'≤1073741824:=by omega
  obtain ⟨tb,cV⟩:∃ tb,tb=(decide (n'<n) && !decide (n'=0)):=⟨_,rfl⟩;have bV:=Aa cV;clear cV;go_upto_region 3 with (fail)
  go_cut [24] (fun b wd=>b = .bool tb∧wd=wc)
  case first=>
   by_cases bD:n'<n
   ·have hd:decide (n'<n)=true:=by simpa using bD
    have bG:∃ z,((n':Int)==0)=z:=⟨_,rfl⟩;obtain ⟨z,bG⟩:=bG;rw [bG] at hz
    go_wp2_with (go_at_call 126;refine hz.mono ?_;rintro e w1 ⟨rfl,rfl⟩)
    go_meet
    refine ⟨?_,rfl⟩;rw [bV.out,hd,←bG]
    congr 1
    rw [Bool.true_and]
    congr 1
    rw [Bool.eq_iff_iff];simp
   ·have hd:decide (n'<n)=false:=by simpa using bD
    go_wp2_with fail
    go_meet
    exact ⟨by rw [bV.out,hd];rfl,rfl⟩
  case rest=>
   obtain ⟨rfl,rfl⟩:=hcut
   go_upto_if 24 with (fail)
   go_cut [0] (fun s wd=>∃ A2 n2 c2 u2,s = .slice A2 n2 c2∧NatS wd wd.heap.size A2 n2 c2 u2∧NatS wd wd.heap.size A' n' c' v∧n2≤1073741824∧Hid (Nat.gcd u2 v=Nat.gcd x y)∧Below wc.heap.size wc wd)
   case first=>
    cases tb
    ·go_wp2_with fail
     go_meet
     exact ⟨A,n,c,u,rfl,ha,hb,hn,hg,Below.refl _ _⟩
    ·have hv:0<v:=by
      have h:=bV.out
      rcases Nat.eq_zero_or_pos v with rfl | h0
      ·have h5:=HB.out
       rw [zam] at h5;simp at h5
       subst h5;simp at h
      ·exact h0
     have dF:=zcM A A' n c n' c' u v wc ha hb hv (by omega)
     go_wp2_with fail
     refine dF.mono ?_;rintro e w1 ⟨A1,m1,c1,A2,m2,c2,rfl,dH,bS,aJ⟩
     go_wp2_with fail
     go_meet
     refine ⟨A2,m2,c2,u % v,rfl,bS,hb.later aJ,?_,?_,aJ⟩
     ·have h6:=bS.len
      have h7:=zaa (Nat.le_of_lt (Nat.mod_lt u hv));rw [HB.out] at h7;omega
     ·rw [Hid,←hg.out,←Nat.gcd_rec v u,Nat.gcd_comm]
   case rest=>
    clear ha hb h1 h2 h3 h4 hz HA bV hg hn;obtain ⟨A,n,c,u,rfl,ha,hb,hn,hg,aG⟩:=hcut;have aP:=hT.later aG;have h1:=ha.nc;have h2:=ha.cm;have h3:=hb.nc;have h4:=hb.cm;have bO:=fun W:World=>zcP A n c W (by omega)
    have bQ:=fun W:World=>zcP A' n' c' W (by omega)
    unfold maxLen at h2 h4
    by_cases hu0:n=0
    ·subst hu0
     obtain rfl:u=0:=za8.1 ha.len
     go_wp2_with fail
     refine (bO _).mono ?_;rintro e w1 ⟨rfl,rfl⟩
     go_wp2_with fail
     go_ret;exact ⟨A',n',c',rfl,by rw [←hg.out,Nat.gcd_zero_left];exact hb,aG⟩
    ·have hu:0<u:=by
      rcases Nat.eq_zero_or_pos u with rfl | h
      ·exact absurd (by rw [←ha.len,zam];rfl) hu0
      ·exact h
     have bG:(((n:Nat):Int)==0)=false:=by rw [beq_eq_false_iff_ne];omega
     simp only [bG] at bO
     by_cases hv0:n'=0
     ·subst hv0
      obtain rfl:v=0:=za8.1 hb.len
      go_wp2_with fail
      refine (bO _).mono ?_;rintro e w1 ⟨rfl,rfl⟩
      go_wp2_with fail
      refine (bQ _).mono ?_;rintro e w1 ⟨rfl,rfl⟩
      go_wp2_with fail
      go_ret;exact ⟨A,n,c,rfl,by rw [←hg.out,Nat.gcd_zero_right];exact ha,aG⟩
     ·have hv:0<v:=by
       rcases Nat.eq_zero_or_pos v with rfl | h
       ·exact absurd (by rw [←hb.len,zam];rfl) hv0
       ·exact h
      have cQ:(((n':Nat):Int)==0)=false:=by rw [beq_eq_false_iff_ne];omega
      simp only [cQ] at bQ
      have cA:ntz u≤1099511627776∧ntz v≤1099511627776:=by
       have k1:=zlf hu (by rw [ha.len];exact hn);have k2:=zlf hv (by rw [hb.len];exact cG);omega
      go_wp2_with fail
      refine (bO _).mono ?_;rintro e w1 ⟨rfl,rfl⟩
      go_wp2_with fail
      refine (bQ _).mono ?_;rintro e w1 ⟨rfl,rfl⟩
      go_wp2_with fail
      refine (zc9 A n c u _ aP ha hu (by omega)).mono ?_;rintro e w1 ⟨rfl,rfl⟩
      go_wp2_with fail
      refine (zaY A n c u (ntz u) _ ha (by omega) cA.1).mono ?_;rintro e w1 ⟨aJ,bS⟩
      rcases bS with ⟨_,bE⟩ | ⟨gx,mx,cx,rfl,aD⟩
      ·exact absurd bE (by have:=zfz hu;unfold odd at this;omega)
      have bK:=aP.later aJ
      go_wp2_with fail
      refine (zc9 A' n' c' v _ bK (hb.later aJ) hv (by omega)).mono ?_;rintro e w2 ⟨rfl,rfl⟩
      go_wp2_with fail
      refine (zaY A' n' c' v (ntz v) _ (hb.later aJ) (by omega) cA.2).mono ?_;rintro e w3 ⟨cO,dB⟩
      rcases dB with ⟨_,bE⟩ | ⟨gy,my,cy,rfl,aA⟩
      ·exact absurd bE (by have:=zfz hv;unfold odd at this;omega)
      have bI:=aD.below cO;have aU:gx≠gy:=by have:=aD.lt;have:=aA.lt;omega
      have bN:=aA.mono aJ.size;have aR:Below wc.heap.size wc w3:=Ad aJ cO;have aL:mx≤1073741824:=by
       have k1:=aD.len;have k2:=zaa (zhF hu);have k3:=ha.len;unfold odd at k2;omega
      have aO:my≤1073741824:=by
       have k1:=aA.len;have k2:=zaa (zhF hv);have k3:=hb.len;unfold odd at k2;omega
      have HU:=Aa (zc5 hu);have HV:=Aa (zc5 hv);have cW:=Aa (zfz hu);have cU:=Aa (zfz hv);have HG:Hid (Nat.gcd u v=Nat.gcd (odd u) (odd v)*2 ^ min (ntz u) (ntz v)):=zo8 hu hv;have aN:zaz w3 wc.heap.size gx mx cx (digs (odd u)):=bI;have aM:zaz w3 wc.heap.size gy my cy (digs (odd v)):=bN;clear aD aA bI bN bO bQ bK aJ cO;obtain ⟨U,hU⟩:∃ U,U=odd u:=⟨_,rfl⟩;obtain ⟨V,hV⟩:∃ V,V=odd v:=⟨_,rfl⟩;rw [←hU] at HU cW HG aN;rw [←hV] at HV cU HG aM;clear hU hV
      go_upto_block 0 with (fail)
      go_cut [5,6,7] (fun sx sy _ we=>∃ gx mx cx X gy my cy Y,sx = .slice (some ⟨gx,0,none⟩) mx cx∧sy = .slice (some ⟨gy,0,none⟩) my cy∧zaz we wc.heap.size gx mx cx (digs X)∧zaz we wc.heap.size gy my cy (digs Y)∧mx≤1073741824∧my≤1073741824∧Hid (Nat.gcd X Y=Nat.gcd U V)∧Hid (Y=1∨Nat.gcd X Y=X∧Y≠1)∧Below wc.heap.size wc we)
      case first=>
       go_wp2_with fail
       go_loopg [5,6,7] (U+V) (fun G sx sy _ we=>∃ gx mx cx X gy my cy Y,sx = .slice (some ⟨gx,0,none⟩) mx cx∧sy = .slice (some ⟨gy,0,none⟩) my cy∧gx≠gy∧zaz we wc.heap.size gx mx cx (digs X)∧zaz we wc.heap.size gy my cy (digs Y)∧mx≤1073741824∧my≤1073741824∧(0<X∧0<Y∧(∃ m,X=2*m+1)∧∃ m,Y=2*m+1)∧Hid (Nat.gcd X Y=Nat.gcd U V)∧Below wc.heap.size wc we∧X+Y≤G)
       case atStart=>exact ⟨gx,mx,cx,U,gy,my,cy,V,rfl,rfl,aU,aN,aM,aL,aO,⟨cW.out,cU.out,HU.out.2,HV.out.2⟩,rfl,aR,Nat.le_refl _⟩
       case round=>
        clear aN aM aL aO aU aR;obtain ⟨gx,mx,cx,X,gy,my,cy,Y,rfl,rfl,bF,aD,aA,aL,aO,hp,aV,aC,hG⟩:=hrel;obtain ⟨we,rfl⟩:∃ we:World,we=wr:=⟨_,rfl⟩;have cR:=aP.later aC;have aK:=zbN _ mx cx X we aD.nat;have aH:=zbN _ my cy Y we aA.nat;have aQ:=zaX _ _ mx cx my cy X Y we aD.nat aA.nat;have HP:=Aa hp;clear hp
        by_cases hX1:X=1
        ·have d1:decide (X=1)=true:=by simpa using hX1
         rw [d1] at aK;have dD:=Aa hX1;clear hX1 d1
         go_wp2_with fail
         refine aK.mono ?_;rintro e w1 ⟨rfl,rfl⟩
         go_wp2_with fail
         go_meet
         refine ⟨gx,mx,cx,X,gy,my,cy,Y,rfl,rfl,aD,aA,aL,aO,aV,?_,aC⟩
         by_cases aI:Y=1
         ·exact .inl aI
         ·exact .inr ⟨by rw [dD.out,Nat.gcd_one_left],aI⟩
        ·have d1:decide (X=1)=false:=by simpa using hX1
         rw [d1] at aK
         by_cases aI:Y=1
         ·have d2:decide (Y=1)=true:=by simpa using aI
          rw [d2] at aH;have cI:=Aa aI;clear hX1 d1 aI d2
          go_wp2_with fail
          refine aK.mono ?_;rintro e w1 ⟨rfl,rfl⟩
          go_wp2_with fail
          refine aH.mono ?_;rintro e w1 ⟨rfl,rfl⟩
          go_wp2_with fail
          go_meet
          exact ⟨gx,mx,cx,X,gy,my,cy,Y,rfl,rfl,aD,aA,aL,aO,aV,.inl cI.out,aC⟩
         ·have d2:decide (Y=1)=false:=by simpa using aI
          rw [d2] at aH;have cI:=Aa aI;clear hX1 d1 aI d2
          rcases Nat.lt_trichotomy X Y with bD | cN | cZ
          ·rw [ncmp_lt bD] at aQ
           go_wp2_with fail
           refine aK.mono ?_;rintro e w1 ⟨rfl,rfl⟩
           go_wp2_with fail
           refine aH.mono ?_;rintro e w1 ⟨rfl,rfl⟩
           go_wp2_with fail
           refine aQ.mono ?_;rintro e w1 ⟨rfl,q4,rfl⟩;have aD:=aD.drewN q4;have aA:=aA.drewN q4;have aC:=zac aC q4;have cR:=aP.later aC;have hp:=HP.out;clear aK aH aQ;have bU:X≤Y:=by omega
           have aS:=zee (some ⟨gy,0,none⟩) (some ⟨gx,0,none⟩) wc.heap.size gy my cy my cy mx cx Y X (digs Y) (we.drewN q4) True aA (zat Y) aA.nat aD.nat (.inr ⟨rfl,rfl,trivial⟩) (fun _ ad h=>by injection h with h;subst h;exact bF) (Nat.le_refl _) bU (by omega)
           go_wp2_with fail
           refine aS.mono ?_;rintro e w5 ⟨m5,rfl,aE,bJ⟩;have aF:0<Y - X:=by omega
           have cB:=aP.only4 aC bJ aA.lt.1;have bZ:m5≤1073741824:=by
            have k1:=aE.len;have k2:=zaa (Nat.sub_le Y X);have k3:=aA.len;omega
           go_wp2_with fail
           refine (zc9 _ m5 cy (Y - X) _ cB aE.nat aF (by omega)).mono ?_;rintro e w6 ⟨rfl,rfl⟩;have dG:=zlf aF (by rw [aE.len];exact bZ);have cP:=zgP (some ⟨gy,0,none⟩) wc.heap.size gy m5 cy m5 cy (Y - X) (ntz (Y - X)) (digs (Y - X)) w5 True aE (zat _) aE.nat (.inr ⟨rfl,rfl,trivial⟩) (Nat.le_refl _) (by omega) (by omega) (by rw [←aE.len];exact znp aF)
           go_wp2_with fail
           refine cP.mono ?_;rintro e w7 ⟨m7,rfl,bH,bW⟩;have cL:m7≤1073741824:=by
            have k1:=bH.len;have k2:=zaa (zhF aF);have k3:=aE.len;unfold odd at k2;omega
           have bP:=zhB bJ bW;have bA:=aD.kept bP (by intro e;injection e with e;exact bF e.symm)
           have aZ:=aC.grown bP aC.size (fun k hk=>by cases hk;exact aA.lt.1);have cC:zaz w7 wc.heap.size gy m7 cy (digs (odd (Y - X))):=bH;have cF:=zhF aF;have aT:=zfz aF;have aW:=(zc5 aF).2;have bC:Hid (Nat.gcd (odd (Y - X)) X=Nat.gcd U V):=by rw [Hid,←aV.out];rw [Nat.gcd_comm X Y];exact zll hp.2.2.1 (by omega)
           go_wp2_with fail
           go_roundg (odd (Y - X)+X)
           case measure=>omega
           case rel=>exact ⟨gy,m7,cy,odd (Y - X),gx,mx,cx,X,rfl,rfl,bF.symm,cC,bA,cL,aL,⟨aT,hp.1,aW,hp.2.2.1⟩,bC,aZ,Nat.le_refl _⟩
          ·rw [cN,ncmp_eq] at aQ
           have HE:=Aa cN;clear cN
           go_wp2_with fail
           refine aK.mono ?_;rintro e w1 ⟨rfl,rfl⟩
           go_wp2_with fail
           refine aH.mono ?_;rintro e w1 ⟨rfl,rfl⟩
           go_wp2_with fail
           refine aQ.mono ?_;rintro e w1 ⟨rfl,q4,rfl⟩
           go_wp2_with fail
           go_meet
           exact ⟨gx,mx,cx,X,gy,my,cy,Y,rfl,rfl,aD.drewN q4,aA.drewN q4,aL,aO,aV,.inr ⟨by rw [HE.out,Nat.gcd_self],cI.out⟩,zac aC q4⟩
          ·rw [ncmp_gt cZ] at aQ
           go_wp2_with fail
           refine aK.mono ?_;rintro e w1 ⟨rfl,rfl⟩
           go_wp2_with fail
           refine aH.mono ?_;rintro e w1 ⟨rfl,rfl⟩
           go_wp2_with fail
           refine aQ.mono ?_;rintro e w1 ⟨rfl,q4,rfl⟩;have aD:=aD.drewN q4;have aA:=aA.drewN q4;have aC:=zac aC q4;have cR:=aP.later aC;have hp:=HP.out;clear aK aH aQ;have bU:Y≤X:=by omega
           have aS:=zee (some ⟨gx,0,none⟩) (some ⟨gy,0,none⟩) wc.heap.size gx mx cx mx cx my cy X Y (digs X) (we.drewN q4) True aD (zat X) aD.nat aA.nat (.inr ⟨rfl,rfl,trivial⟩) (fun _ ad h=>by injection h with h;subst h;exact bF.symm) (Nat.le_refl _) bU (by omega)
           go_wp2_with fail
           refine aS.mono ?_;rintro e w5 ⟨m5,rfl,aE,bJ⟩;have aF:0<X - Y:=by omega
           have cB:=aP.only4 aC bJ aD.lt.1;have bZ:m5≤1073741824:=by
            have k1:=aE.len;have k2:=zaa (Nat.sub_le X Y);have k3:=aD.len;omega
           go_wp2_with fail
           refine (zc9 _ m5 cx (X - Y) _ cB aE.nat aF (by omega)).mono ?_;rintro e w6 ⟨rfl,rfl⟩;have dG:=zlf aF (by rw [aE.len];exact bZ);have cP:=zgP (some ⟨gx,0,none⟩) wc.heap.size gx m5 cx m5 cx (X - Y) (ntz (X - Y)) (digs (X - Y)) w5 True aE (zat _) aE.nat (.inr ⟨rfl,rfl,trivial⟩) (Nat.le_refl _) (by omega) (by omega) (by rw [←aE.len];exact znp aF)
           go_wp2_with fail
           refine cP.mono ?_;rintro e w7 ⟨m7,rfl,bH,bW⟩;have cL:m7≤1073741824:=by
            have k1:=bH.len;have k2:=zaa (zhF aF);have k3:=aE.len;unfold odd at k2;omega
           have bP:=zhB bJ bW;have bA:=aA.kept bP (by intro e;injection e with e;exact bF e)
           have aZ:=aC.grown bP aC.size (fun k hk=>by cases hk;exact aD.lt.1);have cC:zaz w7 wc.heap.size gx m7 cx (digs (odd (X - Y))):=bH;have cF:=zhF aF;have aT:=zfz aF;have aW:=(zc5 aF).2;have bC:Hid (Nat.gcd (odd (X - Y)) Y=Nat.gcd U V):=by rw [Hid,←aV.out];exact zll hp.2.2.2 (by omega)
           go_wp2_with fail
           go_roundg (odd (X - Y)+Y)
           case measure=>omega
           case rel=>exact ⟨gx,m7,cx,odd (X - Y),gy,my,cy,Y,rfl,rfl,bF,cC,bA,cL,aO,⟨aT,hp.2.1,aW,hp.2.2.2⟩,bC,aZ,Nat.le_refl _⟩
      case rest=>
       clear aN aM aL aO aU;obtain ⟨gx,mx,cx,X,gy,my,cy,Y,rfl,rfl,aD,aA,aL,aO,aV,cE,aC⟩:=hcut;have aH:=fun W:World=>fun h=>zbN (some ⟨gy,0,none⟩) my cy Y W h
       have bT:=aP.later aC;have cS:=ha.later aC;have cY:=hb.later aC;have bB:Nat.gcd x y=Nat.gcd X Y*2 ^ min (ntz u) (ntz v):=by rw [←hg.out,HG.out,aV.out]
       obtain ⟨sm,bR⟩:∃ sm,sm=min (ntz u) (ntz v):=⟨_,rfl⟩;have bM:sm≤1099511627776:=by rw [bR];exact Nat.le_trans (Nat.min_le_left _ _) cA.1
       have dI:min ((ntz u:Nat):Int) ((ntz v:Nat):Int)=(sm:Int):=by rw [bR];omega
       rw [←bR] at bB;have HM:=Aa bB;clear bB bR
       rcases cE.out with cH | ⟨cT,aI⟩
       ·have d2:decide (Y=1)=true:=by simpa using cH
        have ho:=aH _ aA.nat;rw [d2] at ho;have HY:=Aa cH;clear aH d2 cH
        go_wp2_with fail
        refine ho.mono ?_;rintro e w4 ⟨rfl,rfl⟩
        go_wp2_with fail
        refine (zc9 A n c u _ bT cS hu (by omega)).mono ?_;rintro e w4 ⟨rfl,rfl⟩
        go_wp2_with fail
        refine (zc9 A' n' c' v _ bT cY hv (by omega)).mono ?_;rintro e w4 ⟨rfl,rfl⟩;have bL:=zay (some ⟨gy,0,none⟩) my cy Y sm _ aA.nat (by omega) bM;have cJ:=Aa bL;clear bL
        go_wp2_with fail
        refine cJ.out.mono ?_;rintro e w5 ⟨A5,m5,c5,rfl,cK,cM⟩
        go_wp2_with fail
        go_ret;refine ⟨A5,m5,c5,rfl,?_,aG.trans ((aC.trans (cM.mono aC.size)).mono aG.size)⟩;rw [HM.out,show Nat.gcd X Y=Y by rw [HY.out,Nat.gcd_one_right]];exact cK
       ·have d2:decide (Y=1)=false:=by simpa using aI
        have ho:=aH _ aA.nat;rw [d2] at ho;have dA:=Aa cT;clear aH d2 cT aI
        go_wp2_with fail
        refine ho.mono ?_;rintro e w4 ⟨rfl,rfl⟩
        go_wp2_with fail
        refine (zc9 A n c u _ bT cS hu (by omega)).mono ?_;rintro e w4 ⟨rfl,rfl⟩
        go_wp2_with fail
        refine (zc9 A' n' c' v _ bT cY hv (by omega)).mono ?_;rintro e w4 ⟨rfl,rfl⟩;have bL:=zay (some ⟨gx,0,none⟩) mx cx X sm _ aD.nat (by omega) bM;have cJ:=Aa bL;clear bL
        go_wp2_with fail
        refine cJ.out.mono ?_;rintro e w5 ⟨A5,m5,c5,rfl,cK,cM⟩
        go_wp2_with fail
        go_ret;refine ⟨A5,m5,c5,rfl,?_,aG.trans ((aC.trans (cM.mono aC.size)).mono aG.size)⟩;rw [HM.out,dA.out];exact cK
end Go.Proofs.YtmkondcdejlhcaaGreatDoor
