/- Contract of over: the integer part of a quotient, and the remainder. -/
import Derived.Test.YtbkgkoenppkhpaaGreatDoorGDiv3
import Derived.Laws.CopyOwn
import Derived.Deep.LoopGhost
set_option maxRecDepth 100000
set_option maxHeartbeats 8000000
namespace Go.Proofs.YtbkgkoenppkhpaaGreatDoor
open Go.RowKit Bn
def zfJ (w:World) (x y:Nat) (e:Ending) (w':World):Prop:=
 ∃ A1 m1 c1 A2 m2 c2,e = .returned (.tuple #[.slice A1 m1 c1,.slice A2 m2 c2])∧NatS w' w'.heap.size A1 m1 c1 x∧NatS w' w'.heap.size A2 m2 c2 y∧Below w.heap.size w w'
theorem zau.block {w:World} {base g n:Nat} {l:List Nat} (h:zau w base g n n l):w.heap[g]? = some (.cells (l.map u64v).toArray 116 (0,0)):=by
 rcases h.2 with ⟨h',_⟩ | ⟨g',aD,aE,h',hb,hg,aG,aF,aC,aA⟩
 ·simp at h'
 ·simp only [Value.slice.injEq,Option.some.injEq,Addr.mk.injEq,and_true,true_and] at h'
  obtain ⟨rfl,rfl⟩:=h';rw [hg,←aA,List.take_of_length_le (by rw [Array.length_toList,aC];exact Nat.le_refl _)]
theorem zau.of_block {w:World} {base g n:Nat} {l:List Nat} (h:w.heap[g]? = some (.cells (l.map u64v).toArray 116 (0,0))) (hb:base≤g) (hl:l.length=n) (hn:n≤maxLen):zau w base g n n l:=by
 refine ⟨by simp [hl],.inr ⟨g,n,(l.map u64v).toArray,rfl,hb,h,Nat.le_refl _,hn,by simp [hl],?_⟩⟩;rw [List.take_of_length_le (by simp [hl])]
theorem zeN (l:List Nat) (k:Nat):val (l++List.replicate k 0)=val l:=by rw [zaM,zaX,Nat.mul_zero,Nat.add_zero]
theorem zjP {l l':List Nat} (j:Nat) (hl:l.length=l'.length) (h:∀ t,t<j→l.getD t 0=l'.getD t 0):l.take j=l'.take j:=by
 apply List.ext_getElem
 ·simp [hl]
 ·intro t h1 h2
  rw [List.length_take] at h1 h2;simp only [List.getElem_take]
  have:=h t (by omega)
  rwa [Bn.getD_in (by omega),Bn.getD_in (by omega)] at this
theorem zjV {l l':List Nat} (j:Nat) (hl:l.length=l'.length) (h:∀ t,j≤t→l.getD t 0=l'.getD t 0):l.drop j=l'.drop j:=by
 apply List.ext_getElem
 ·simp [hl]
 ·intro t h1 h2
  rw [List.length_drop] at h1 h2;simp only [List.getElem_drop]
  have:=h (j+t) (by omega)
  rwa [Bn.getD_in (by omega),Bn.getD_in (by omega)] at this
theorem zlz (lr lr' lq:List Nat) (j n q D X R:Nat) (hw:Wf lr) (hl:lr'.length=lr.length) (hlen:j+n+1≤lr.length) (hlq:j<lq.length) (hDn:D≤B ^ n) (hD0:0<D)
  (hX:val lr+D*(B ^ (j+1)*val (lq.drop (j+1)))=X) (hlt:val (lr.drop (j+1))<D) (hR:R=val ((lr.drop j).take (n+1)))
  (hR':val ((lr'.drop j).take (n+1))=R % D) (hq:q=R / D) (hsame:∀ t,t<j∨j+n+1≤t→lr'.getD t 0=lr.getD t 0) :
  val lr'+D*(B ^ j*val ((lq.set j q).drop j))=X∧val (lr'.drop j)<D:=by
 have e1:=zfI lr j (by omega);have aA:=zaA hw j;have h1:val (lr.drop j)<D*B:=by
  rw [e1,val_cons];have h:B*(val (lr.drop (j+1))+1)≤B*D:=Nat.mul_le_mul_left _ hlt;rw [Nat.mul_add,Nat.mul_one,Nat.mul_comm B D] at h;have:lr.getD j 0<B:=aA;omega
 have h2:=zav (lr.drop j) (n+1) (by rw [List.length_drop];omega);rw [←hR] at h2;have hz:val ((lr.drop j).drop (n+1))=0:=by
  rcases Nat.eq_zero_or_pos (val ((lr.drop j).drop (n+1))) with h | h
  ·exact h
  ·exfalso
   have h3:B ^ (n+1)*1≤B ^ (n+1)*val ((lr.drop j).drop (n+1)):=Nat.mul_le_mul_left _ h;have h4:D*B≤B ^ (n+1):=by rw [Nat.pow_succ];exact Nat.mul_le_mul_right _ hDn
   omega
 have h3:=zav (lr'.drop j) (n+1) (by rw [List.length_drop,hl];omega);have hd:(lr'.drop j).drop (n+1)=(lr.drop j).drop (n+1):=by
  rw [List.drop_drop,List.drop_drop];exact zjV _ hl (fun t ht=>hsame t (by omega))
 rw [hd,hz,Nat.mul_zero,Nat.add_zero,hR'] at h3;rw [hz,Nat.mul_zero,Nat.add_zero] at h2;have h4:=Nat.mod_lt R hD0;refine ⟨?_,by omega⟩;have h5:=zav lr j (by omega);have h6:=zav lr' j (by omega);rw [zjP (l:=lr') (l':=lr) j hl (fun t ht=>hsame t (.inl ht)),h3] at h6;rw [h2] at h5;rw [zeq lq j q hlq,val_cons,←hX,h5,h6,hq];have h7:=Nat.div_add_mod R D;have h8:B ^ j*R=B ^ j*(D*(R / D))+B ^ j*(R % D):=by rw [←Nat.mul_add,h7]
 have h9:D*(B ^ j*(R / D+B*val (lq.drop (j+1))))=B ^ j*(D*(R / D))+D*(B ^ (j+1)*val (lq.drop (j+1))):=by
  rw [Nat.mul_add (B ^ j),Nat.mul_add D,Nat.mul_left_comm D (B ^ j),Nat.pow_succ,Nat.mul_assoc]
 rw [h8,h9];omega
theorem zlq (lr:List Nat) (j n D:Nat) (hw:Wf lr) (hlt:val (lr.drop (j+1))<D) (hj:j<lr.length):val ((lr.drop j).take (n+1))<D*B:=by
 have e1:=zfI lr j hj;have aA:lr.getD j 0<B:=zaA hw j;have h1:val (lr.drop j)<D*B:=by
  rw [e1,val_cons];have h:B*(val (lr.drop (j+1))+1)≤B*D:=Nat.mul_le_mul_left _ hlt;rw [Nat.mul_add,Nat.mul_one,Nat.mul_comm B D] at h;omega
 rcases Nat.lt_or_ge (n+1) (lr.drop j).length with h | h
 ·have h2:=zav (lr.drop j) (n+1) (by omega)
  omega
 ·rw [List.take_of_length_le h];exact h1
theorem zk8 (X D x y s la n:Nat) (lr:List Nat) (hw:Wf lr) (hla:(digs x).length=la) (hn:(digs y).length=n) (hy:0<y) (hle:n≤la) (hX:val lr=X) (eX:X=x*2 ^ s) (eD:D=y*2 ^ s) (hlen:la - n+1≤lr.length) :
  val (lr.drop (la - n+1))<D:=by
 rw [zfg hw _ hlen,hX,Nat.div_lt_iff_lt_mul (Nat.pow_pos zaO),eX,eD];have h1:=zab x;rw [hla] at h1;have h2:=zaz hy;rw [hn] at h2;have aA:0<n:=by rw [←hn];exact zar hy
 have h3:B ^ la=B ^ (n - 1)*B ^ (la - n+1):=by rw [←Nat.pow_add];congr 1;omega
 have h4:x<y*B ^ (la - n+1):=by
  have:=Nat.mul_le_mul_right (B ^ (la - n+1)) h2;omega
 rw [Nat.mul_assoc,Nat.mul_comm (2 ^ s),←Nat.mul_assoc];exact (Nat.mul_lt_mul_right (Nat.two_pow_pos s)).2 h4
theorem zlR (X D x y s V Q:Nat) (eX:X=x*2 ^ s) (eD:D=y*2 ^ s) (hy:0<y) (h:V+D*Q=X) (hlt:V<D):Q=x / y∧V / 2 ^ s=x % y:=by
 have hp:=Nat.two_pow_pos s;have hD:0<D:=by omega
 have h1:Q=X / D:=by
  rw [←h,Nat.add_comm,Nat.mul_add_div hD,Nat.div_eq_of_lt hlt,Nat.add_zero]
 have h2:V=X % D:=by
  rw [←h,Nat.add_comm,Nat.mul_add_mod,Nat.mod_eq_of_lt hlt]
 have _:=hy
 constructor
 ·rw [h1,eX,eD,Nat.mul_div_mul_right _ _ hp]
 ·rw [h2,eX,eD,Nat.mul_mod_mul_right,Nat.mul_div_cancel _ hp]
theorem zjL (A A':Option Addr) (n c n' c' x y:Nat) (w:World) (ha:NatS w w.heap.size A n c x) (hb:NatS w w.heap.size A' n' c' y) (hlt:x<y) :
  Calls Tryz.prog 132 #[.slice A n c,.slice A' n' c'] w (zfJ w (x / y) (x % y)):=by
 have hc:=zaR A A' n c n' c' x y w ha hb;rw [ncmp_lt hlt] at hc;go_enter Tryz.func132,Tryz.ntmps132
 go_wp2_with fail
 refine hc.mono ?_;rintro e w1 ⟨rfl,q,rfl⟩;go_wp2
 go_ret2
 refine ⟨none,0,0,A,n,c,rfl,?_,?_,zac (Below.refl _ _) q⟩
 ·rw [Nat.div_eq_of_lt hlt];exact NatS.nil _ _
 ·rw [Nat.mod_eq_of_lt hlt];exact ⟨ha.words,ha.nc,ha.cm⟩
theorem zl3 (A A':Option Addr) (n c c' x y:Nat) (w:World) (ha:NatS w w.heap.size A n c x) (hb:NatS w w.heap.size A' 1 c' y) (hle:y≤x) (hy:0<y) (hn:n≤1099511627776) :
  Calls Tryz.prog 132 #[.slice A n c,.slice A' 1 c'] w (zfJ w (x / y) (x % y)):=by
 have hc:=zaR A A' n c 1 c' x y w ha hb;have aK:0≤ncmp x y:=by
  unfold ncmp;rw [if_neg (by omega)]
  split<;>omega
 obtain ⟨v,hv⟩:∃ v,v=ncmp x y:=⟨_,rfl⟩;rw [←hv] at hc aK;clear hv;have hB:=hb.len;obtain ⟨ad,rfl,aL,aC⟩:=hb.words.word (k:=0) (by omega);have e0:ad.add 0=ad:=by simp [Addr.add]
 have aF:(digs y).getD 0 0=y:=by
  match hd:digs y,hB with
  | [d],_=>
   have:=zaj y;rw [hd] at this
   simpa using this
 have aG:=zaA (zap y) 0;rw [aF] at aC aG;rw [e0] at aC;have HY:=Aa aF;have HB:=Aa hB;clear aF e0 hB;go_enter Tryz.func132,Tryz.ntmps132
 go_wp2_with fail
 refine hc.mono ?_;rintro e w1 ⟨rfl,q,rfl⟩;have aJ:=za9 A n c x y (w.drewN q) ⟨ha.words,ha.nc,ha.cm⟩ hn hy aG
 go_wp2_with fail
 refine aJ.mono ?_;rintro e w2 ⟨m,c2,rfl,aE,aD⟩;have aH:=zai ((x % y:Nat):Int) w2 (by omega) (by have:=Nat.mod_lt x hy;omega);rw [Int.toNat_natCast] at aH
 go_wp2_with fail
 refine aH.mono ?_;rintro e w3 ⟨A3,m3,c3,rfl,aI,aA⟩;go_wp2
 go_ret2
 exact ⟨_,m,c2,A3,m3,c3,rfl,aE.nat.later aA,aI,(zac (Below.refl w.heap.size w) q).trans (aD.trans (aA.mono aD.size))⟩
theorem zlT (A A':Option Addr) (n c n' c' x y:Nat) (w:World) (ha:NatS w w.heap.size A n c x) (hb:NatS w w.heap.size A' n' c' y) (hle:y≤x) (hn2:2≤n') (hn:n≤549755813888) :
  Calls Tryz.prog 132 #[.slice A n c,.slice A' n' c'] w (zfJ w (x / y) (x % y)):=by
 obtain ⟨i0,bQ,cZ,cA,cO⟩:=info_parts zca;have hc:=zaR A A' n c n' c' x y w ha hb;have dQ:0≤ncmp x y:=by
  unfold ncmp;rw [if_neg (by omega)]
  split<;>omega
 obtain ⟨v,hv⟩:∃ v,v=ncmp x y:=⟨_,rfl⟩;rw [←hv] at hc dQ;clear hv;have hA:=Aa ha.len;have hB:=Aa hb.len;have cC:n'≤n:=by rw [←ha.len,←hb.len];exact zaa hle
 have hy:0<y:=by
  rcases Nat.eq_zero_or_pos y with rfl | h
  ·have:=hb.len
   rw [zao] at this;simp at this
   omega
  ·exact h
 have h1:=ha.nc;have h2:=ha.cm;have h3:=hb.nc;have h4:=hb.cm;unfold maxLen at h2 h4;obtain ⟨ad,rfl,fK,dY⟩:=hb.words.word (k:=n' - 1) (by omega);have cF:=zaA (zap y) (n' - 1);obtain ⟨t,gt⟩:∃ t,(digs y).getD (n' - 1) 0=t:=⟨_,rfl⟩;rw [gt] at dY cF;have dX:t≠0:=by
  have:=zc1 y (by rw [hB.out];omega);rw [←gt,Bn.getD_in (by rw [hB.out];omega)]
  simpa only [hB.out] using this
 obtain ⟨b1,b2,b3⟩:=Lib.bitLenAux_bounds 64 t (by simpa using cF) dX;have b4:=Lib.bitLen_le t 64 (Nat.le_refl _) (by simpa using cF);have hl:=fun W:World=>Tryz.bits_LeadingZeros64 (t:Int) W (by omega) (by omega)
 have eb:Lib.bitLen t=Lib.bitLenAux 64 t:=rfl;rw [←eb] at b1 b2 b3;obtain ⟨b,bV⟩:∃ b,b=Lib.bitLen t:=⟨_,rfl⟩;rw [←bV] at b1 b2 b3 b4;obtain ⟨s,hs⟩:∃ s,s=64 - b:=⟨_,rfl⟩;have cV:∀ W:World,Calls Tryz.prog 187 #[.int .u64 (t:Int)] W fun e w'=>e = .returned (.int .i64 (s:Int))∧w'=W:=fun W=>by
  have h:=hl W;rw [Int.toNat_natCast,←bV,show (64 - (b:Int))=(s:Int) from by omega] at h;exact h
 have HL:=Aa cV;have fF:s≤63:=by omega
 have cL:za0 y=64*(n' - 1)+b:=zfE hy (n' - 1) (by rw [hB.out];omega) t b gt b1 b2 b3;obtain ⟨D,hD⟩:∃ D,D=y*2 ^ s:=⟨_,rfl⟩;obtain ⟨X,hX⟩:∃ X,X=x*2 ^ s:=⟨_,rfl⟩;have bC:D<B ^ n':=by
  have h5:=zgP y;rw [cL] at h5;have h6:=(Nat.mul_lt_mul_right (Nat.two_pow_pos s)).2 h5;rw [←Nat.pow_add,show 64*(n' - 1)+b+s=64*n' from by omega,Nat.pow_mul,←zfT] at h6;rw [hD];exact h6
 have cN:y≤D:=by rw [hD];exact Nat.le_mul_of_pos_right _ (Nat.two_pow_pos s)
 have aU:(digs D).length=n':=by
  have h5:=zad bC;have h6:=zaa cN;rw [hB.out] at h6;omega
 have aS:(digs X).length≤n+1:=by
  refine zad ?_;rw [hX,Nat.pow_succ];have h5:=zab x;rw [hA.out] at h5;have h6:2 ^ s≤B:=by rw [zfT];exact Nat.pow_le_pow_right (by omega) (by omega)
  exact Nat.lt_of_lt_of_le ((Nat.mul_lt_mul_right (Nat.two_pow_pos s)).2 h5) (Nat.mul_le_mul_left _ h6)
 have dR:=zaw;have HD:=Aa hD;have HX:=Aa hX;have fA:=Aa aU;have dK:=Aa aS;have dU:=Aa bC;clear hl cV bV hs b1 b2 b3 b4 eb gt cL hD hX aU aS bC cN dR;go_enter Tryz.func132,Tryz.ntmps132
 go_wp2_with fail
 refine hc.mono ?_;rintro e w1 ⟨rfl,q,rfl⟩;have fH:(((n':Nat):Int)==1)=false:=by rw [beq_eq_false_iff_ne];omega
 go_wp2_with fail
 refine (HL.out _).mono ?_;rintro e w1 ⟨rfl,rfl⟩;have cT:=zaw (some ad) n' c' y s (w.drewN q) ⟨hb.words,hb.nc,hb.cm⟩ (by omega) (by omega);rw [←HD.out] at cT
 go_wp2_with fail
 refine cT.mono ?_;rintro e w2 ⟨AD,nD,cD,rfl,aM,aP⟩;have dG:nD=n':=by rw [←aM.len,fA.out]
 subst dG
 go_wp2_with (at_make;refine wpList_make_full _ rfl _ _ 85 rfl w.heap.size 116 i0 (.int .u64 0) 1 Tryz.underlying85 bQ cZ cA _ _ _ _ (n+1) rfl rfl (by omega) (by omega) ?b2 ?b3 aP.size ?_)
 case b2=>rw [cO];omega
 case b3=>unfold maxLen;omega
 intro w3 aR aE;have aQ:=zau.made aR;have bU:Below w2.heap.size w2 w3:=(Below.refl _ _).grown aE (Nat.le_refl _) (fun k h=>by cases h);have aC:Below w.heap.size w w2:=(zac (Below.refl w.heap.size w) q).trans aP;have bY:Below w.heap.size w w3:=Ad aC bU;have cY:=zaw A n c x s w3 (ha.later bY) (by omega) (by omega);rw [←HX.out] at cY;clear aR aE
 go_wp2_with fail
 refine cY.mono ?_;rintro e w4 ⟨AX,mX,cX,rfl,aV,aG⟩;have cS:Below w2.heap.size w2 w4:=Ad bU aG;have aN:=aQ.below aG;have dD:mX≤n+1:=by rw [←aV.len];exact dK.out
 have bG:=Aa aN;clear aQ aN
 go_wp2_with (with_reducible refine wpList_copy_splice rfl (.tmp 46) (.tmp 49) 85 85 rfl 116 Tryz.underlying85 ?sz (some ⟨w2.heap.size,0,none⟩) AX (n+1) (n+1) mX cX rfl rfl w2.heap.size 0 ((List.replicate (n+1) 0).map u64v) 116 bG.out.block ((digs X).map u64v) ?cn ?cp ?cf ?c1 w2.heap.size w4 (Below.refl _ _) (Nat.le_refl _) ?_)
 case sz=>rw [bQ];simp [cA]
 case cn=>rw [List.length_map,aV.len];exact (Nat.min_eq_left dD).symm
 case cp=>
  intro h0;have fB:0<mX:=by rw [←aV.len];simpa using h0
  obtain ⟨dV,ex,_,dP⟩:=aV.words.2 fB;exact ⟨dV,ex,fun j a h=>dP j _ (by rw [List.getElem?_map,h];rfl)⟩
 case cf=>simp [aV.len];exact dD
 case c1=>exact zmK _
 intro w5 dB dF;have bO:(digs X++List.replicate (n+1 - mX) 0).length=n+1:=by rw [List.length_append,aV.len,List.length_replicate];omega
 have aA:zau w5 w.heap.size w2.heap.size (n+1) (n+1) (digs X++List.replicate (n+1 - mX) 0):=by
  refine zau.of_block ?_ aC.size bO (by unfold maxLen;omega);have h5:=dB.out;rw [h5]
  congr 3
  simp [splice,aV.len]
 have aI:Wf (digs X++List.replicate (n+1 - mX) 0):=(zap X).append (Wf.replicate _);have bR:val (digs X++List.replicate (n+1 - mX) 0)=X:=by rw [zeN,zaj]
 have aZ:Below w2.heap.size w2 w5:=cS.trans dF;have bA:=aM.later aZ;have aO:0<nD→Off AD w2.heap.size:=aM.off (Nat.le_refl _);clear dB dF bG aV aG aM bU cS;obtain ⟨lr,cJ⟩:∃ lr,lr=digs X++List.replicate (n+1 - mX) 0:=⟨_,rfl⟩;rw [←cJ] at aA aI bR bO;clear cJ;have aK:Below w.heap.size w w5:=Ad aC aZ
 go_wp2_with (at_make;refine wpList_make_full _ rfl _ _ 85 rfl w.heap.size 116 i0 (.int .u64 0) 1 Tryz.underlying85 bQ cZ cA _ _ _ _ (n - nD+1) rfl rfl (by omega) (by omega) ?b4 ?b5 aK.size ?_)
 case b4=>rw [cO];omega
 case b5=>unfold maxLen;omega
 intro w6 aL aD;have aW:=zau.made aL;have bT:Below w5.heap.size w5 w6:=(Below.refl _ _).grown aD (Nat.le_refl _) (fun k h=>by cases h);have aH:=aA.below bT;have bM:=bA.later bT;have bF:Below w.heap.size w w6:=Ad aK bT;have bK:w2.heap.size≠w5.heap.size:=by have:=aA.lt;omega
 have aX:=zk8 X D x y s n nD lr aI hA.out hB.out hy cC bR HX.out HD.out (by rw [bO];omega);have cE:0<nD→Off AD w5.heap.size:=bA.off (Nat.le_refl _);have HI:=Aa aX;have cU:=Aa bR;clear aX bR aL aD aA bA bO aZ;have cQ:0<D:=by rw [HD.out];exact Nat.mul_pos hy (Nat.two_pow_pos s)
 go_wp2_with fail
 go_loopw [12] (fun sl wr=>∃ (k:Nat) (i:Int),i=(k:Int) - 1∧k≤n - nD+1∧sl = .int .i64 i∧∃ lr lq,zau wr w.heap.size w2.heap.size (n+1) (n+1) lr∧Wf lr∧zau wr w.heap.size w5.heap.size (n - nD+1) (n - nD+1) lq∧Wf lq ∧
   Hid (val lr+D*(B ^ k*val (lq.drop k))=X)∧Hid (val (lr.drop k)<D)∧NatS wr wr.heap.size AD nD cD D∧Below w.heap.size w wr) (fun sl _=>(intOf sl+1).toNat)
 case atStart=>
  refine ⟨n - nD+1,_,rfl,Nat.le_refl _,by congr 1;omega,lr,_,aH,aI,aW,Wf.replicate _,?_,HI,bM,bF⟩;rw [Hid,List.drop_of_length_le (by simp),val_nil,Nat.mul_zero,Nat.mul_zero,Nat.add_zero];exact cU.out
 case round=>
  clear aH aI aW HI cU bM bF bT;obtain ⟨k,i,hi,hk,rfl,lr,lq,bD,bH,bS,cI,hX,bE,aM,aJ⟩:=hrel
  by_cases hk0:0<k
  ·obtain ⟨j,rfl⟩:∃ j,k=j+1:=⟨k - 1,by omega⟩
   obtain rfl:i=(j:Int):=by omega
   clear hi;have bW:val ((lr.drop j).take (nD+1))<D*B:=by
    have h6:=zlq lr j nD D bH bE.out (by rw [bD.len];omega);exact h6
   have dA:=zgd AD w.heap.size w2.heap.size j (n+1) (n+1) nD (n+1 - j) cD D lr wr bD bH aM (fun h=>aO h) hn2 (by omega) (by omega) bW;have cR:=Aa dA;have bN:val ((lr.drop j).take (nD+1)) / D<18446744073709551616:=by
    rw [Nat.div_lt_iff_lt_mul cQ,Nat.mul_comm];exact bW
   obtain ⟨q1,cG⟩:∃ q1,q1=val ((lr.drop j).take (nD+1)) / D:=⟨_,rfl⟩;rw [←cG] at cR bN;have HQ:=Aa cG;clear cG dA bW
   go_wp2_with fail
   rw [show j+nD+1 - j=nD+1 from by omega];refine cR.out.mono ?_;rintro e wd ⟨rfl,cW,aY,cH,aT,aF,bP⟩;have bB:=bS.kept bP (by simpa using bK);have dN:=bB.cell j (by omega);have fI:=bB.free j;generalize lq.getD j 0=old at dN;obtain ⟨f1,f2⟩:=zlz lr cW lq j nD q1 D X _ bH (by rw [aY.len,bD.len]) (by rw [bD.len];omega) (by rw [bS.len];omega) (Nat.le_of_lt dU.out) cQ hX.out bE.out rfl aT HQ.out aF;have F1:=Aa f1;have F2:=Aa f2;have dL:Below w.heap.size w wd:=aJ.grown bP aJ.size (fun k hk=>by cases hk;exact aC.size);have cB:wd.grownBy (wd.setCell ⟨w5.heap.size,j,none⟩ (.int .u64 (q1:Int))) (some w5.heap.size):=za8 (World.grownBy.refl wd _) (p:=⟨w5.heap.size,j,none⟩) (.inl rfl) _;have bJ:=aY.kept cB (by simpa using fun h=>bK h.symm);have bI:=bB.set j q1;have bL:=(aM.kept bP aO).kept cB (fun h0=>cE h0);have cK:Below w.heap.size w (wd.setCell ⟨w5.heap.size,j,none⟩ (.int .u64 (q1:Int))):=dL.setCell (p:=⟨w5.heap.size,j,none⟩) aK.size _;have dS:=Aa bJ;have fC:=Aa bI;have dH:=Aa bL;have dM:=Aa cK;have dJ:=Aa cH;clear f1 f2 cB bJ bI bL cK aT aF bP hX bE bD aY bS aM;go_wp2
   go_roundw
   case rel=>exact ⟨j,(j:Int) - 1,rfl,by omega,by go_num,cW,_,dS.out,dJ.out,fC.out,cI.set j bN,F1.out,F2.out,dH.out,dM.out⟩
   case measure=>simp [intOf]<;>omega
  ·obtain rfl:k=0:=by omega
   have bQ:i<0:=by omega
   clear hi;obtain ⟨g1,g2⟩:=zlR X D x y s (val lr) (val lq) HX.out HD.out hy (by have h:=hX.out;rwa [Nat.pow_zero,Nat.one_mul,List.drop_zero] at h) (by have h:=bE.out;rwa [List.drop_zero] at h);have bZ:=zb1 w.heap.size w5.heap.size (n - nD+1) (n - nD+1) lq wr bS cI;rw [g1] at bZ;have dZ:=Aa bZ;have dI:=Aa (zb1 w.heap.size w2.heap.size (n+1) (n+1) lr wr bD bH);have fG:=Aa g2;clear bZ g1 g2 hX bE
   go_wp2_with fail
   refine dZ.out.mono ?_;rintro e w7 ⟨m7,rfl,fD,rfl⟩
   go_wp2_with fail
   refine dI.out.mono ?_;rintro e w8 ⟨m8,rfl,cM,rfl⟩;have fJ:m8≤n+1:=by
    have h9:=cM.len;have dO:=zad (zbm bH);rw [bD.len] at dO;omega
   have cP:=zaZ (some ⟨w2.heap.size,0,none⟩) m8 (n+1) (val lr) s wr cM.nat (by omega) (by omega);rw [fG.out] at cP
   go_wp2_with fail
   refine cP.mono ?_;rintro e w9 ⟨bX,fE⟩;obtain ⟨A9,m9,c9,dW,dT,_⟩:=fE.ret bX;subst dW;go_wp2
   go_ret2
   exact ⟨_,m7,_,A9,m9,c9,rfl,fD.nat.later bX,dT,aJ.trans (bX.mono aJ.size)⟩
theorem zdL (A A':Option Addr) (n c n' c' x y:Nat) (w:World) (ha:NatS w w.heap.size A n c x) (hb:NatS w w.heap.size A' n' c' y) (hy:0<y) (hn:n≤549755813888) :
  Calls Tryz.prog 132 #[.slice A n c,.slice A' n' c'] w (zfJ w (x / y) (x % y)):=by
 rcases Nat.lt_or_ge x y with h | h
 ·exact zjL A A' n c n' c' x y w ha hb h
 ·have h1:0<n':=by rw [←hb.len];exact zar hy
  rcases Nat.lt_or_ge n' 2 with h2 | h2
  ·obtain rfl:n'=1:=by omega
   exact zl3 A A' n c c' x y w ha hb h hy (by omega)
  ·exact zlT A A' n c n' c' x y w ha hb h h2 hn
theorem zf7 (m:Nat):Nat.Coprime 2 (2*m+1):=by
 unfold Nat.Coprime;rw [Nat.gcd_rec,Nat.mul_add_mod,Nat.gcd_comm];rfl
theorem zea (k a m:Nat):Nat.gcd (2 ^ k*a) (2*m+1)=Nat.gcd a (2*m+1):=
 Nat.Coprime.gcd_mul_left_cancel a (Nat.Coprime.pow_left k (zf7 m))
def odd (n:Nat):Nat:=n / 2 ^ ntz n
theorem zcD {n:Nat} (h:0<n):n=2 ^ ntz n*odd n∧∃ m,odd n=2*m+1:=by
 obtain ⟨m,hm⟩:=zg3 h;have e:odd n=2*m+1:=by
  unfold odd
  conv=>lhs;lhs;rw [hm]
  rw [Nat.mul_div_cancel_left _ (Nat.two_pow_pos _)]
 exact ⟨by rw [e];exact hm,m,e⟩
theorem zeS {n:Nat} (h:0<n):0<odd n:=by
 obtain ⟨_,m,e⟩:=zcD h;omega
theorem zjx {n k:Nat} (h:0<n) (hk:(digs n).length≤k):ntz n≤64*k:=by
 obtain ⟨m,hm⟩:=zg3 h;have h1:=zab n;have h2:B ^ (digs n).length≤B ^ k:=Nat.pow_le_pow_right zaO hk;have h3:2 ^ ntz n≤n:=by
  conv=>rhs;rw [hm]
  exact Nat.le_mul_of_pos_right _ (by omega)
 rcases Nat.lt_or_ge (64*k) (ntz n) with h4 | h4
 ·exfalso
  have h5:2 ^ (64*k)≤2 ^ ntz n:=Nat.pow_le_pow_right (by omega) (by omega);rw [Nat.pow_mul,←zfT] at h5;omega
 ·exact h4
theorem zkW {n:Nat} (h:0<n):ntz n / 64<(digs n).length:=by
 obtain ⟨m,hm⟩:=zg3 h;have h1:=zab n;have h3:2 ^ ntz n≤n:=by
  conv=>rhs;rw [hm]
  exact Nat.le_mul_of_pos_right _ (by omega)
 rcases Nat.lt_or_ge (ntz n / 64) (digs n).length with h4 | h4
 ·exact h4
 ·exfalso
  have h5:2 ^ (64*(digs n).length)≤2 ^ ntz n:=Nat.pow_le_pow_right (by omega) (by omega);rw [Nat.pow_mul,←zfT] at h5;omega
theorem zhp (s t a b:Nat) (ha:∃ m,a=2*m+1) (hb:∃ m,b=2*m+1):Nat.gcd (2 ^ s*a) (2 ^ t*b)=2 ^ min s t*Nat.gcd a b:=by
 obtain ⟨m,rfl⟩:=ha;obtain ⟨k,rfl⟩:=hb
 rcases Nat.le_total s t with h | h
 ·obtain ⟨d,rfl⟩:∃ d,t=s+d:=⟨t - s,by omega⟩
  rw [Nat.min_eq_left h,Nat.pow_add,Nat.mul_assoc,Nat.gcd_mul_left,Nat.gcd_comm,zea,Nat.gcd_comm]
 ·obtain ⟨d,rfl⟩:∃ d,s=t+d:=⟨s - t,by omega⟩
  rw [Nat.min_eq_right h,Nat.pow_add,Nat.mul_assoc,Nat.gcd_mul_left,zea]
theorem znw {x y:Nat} (hx:0<x) (hy:0<y):Nat.gcd x y=Nat.gcd (odd x) (odd y)*2 ^ min (ntz x) (ntz y):=by
 obtain ⟨e1,o1⟩:=zcD hx;obtain ⟨e2,o2⟩:=zcD hy;have h:=zhp (ntz x) (ntz y) (odd x) (odd y) o1 o2;rw [←e1,←e2] at h;rw [h,Nat.mul_comm]
theorem zi2 {x y:Nat} (hy:∃ m,y=2*m+1) (hlt:y<x):Nat.gcd (odd (x - y)) y=Nat.gcd x y:=by
 obtain ⟨e,_⟩:=zcD (n:=x - y) (by omega);obtain ⟨m,rfl⟩:=hy;have h1:Nat.gcd (x - (2*m+1)) (2*m+1)=Nat.gcd x (2*m+1):=Nat.gcd_sub_self_left (by omega);rw [←h1]
 conv=>rhs;rw [e]
 rw [zea]
theorem zgF {n:Nat} (_h:0<n):odd n≤n:=Nat.div_le_self _ _
theorem zd7 (A A':Option Addr) (n c n' c' x y:Nat) (w:World) (hT:Tabs w) (ha:NatS w w.heap.size A n c x) (hb:NatS w w.heap.size A' n' c' y) (hn:n≤1073741824) (hn':n'≤1073741824) :
  Calls Tryz.prog 127 #[.slice A n c,.slice A' n' c'] w (zb9 w (Nat.gcd x y)):=by
 have h1:=ha.nc;have h2:=ha.cm;have h3:=hb.nc;have h4:=hb.cm;unfold maxLen at h2 h4;go_enter Tryz.func127,Tryz.ntmps127
 go_upto_if 12 with (fail)
 go_cut [0,1] (fun s s' wc=>∃ A n c A' n' c' u v,s = .slice A n c∧s' = .slice A' n' c'∧NatS w w.heap.size A n c u∧NatS w w.heap.size A' n' c' v∧n'≤n∧n≤1073741824∧Hid (Nat.gcd u v=Nat.gcd x y)∧wc=w)
 case first=>
  by_cases aS:n<n'
  ·have hd:decide (n<n')=true:=by simpa using aS
   go_wp2_with fail
   go_meet
   exact ⟨A',n',c',A,n,c,y,x,rfl,rfl,hb,ha,by omega,hn',Nat.gcd_comm _ _,rfl⟩
  ·have hd:decide (n<n')=false:=by simpa using aS
   go_wp2_with fail
   go_meet
   exact ⟨A,n,c,A',n',c',x,y,rfl,rfl,ha,hb,by omega,hn,rfl,rfl⟩
 case rest=>
  clear ha hb hn hn' h1 h2 h3 h4;obtain ⟨A,n,c,A',n',c',u,v,rfl,rfl,ha,hb,bP,hn,hg,rfl⟩:=hcut;have h1:=ha.nc;have h2:=ha.cm;have h3:=hb.nc;have h4:=hb.cm;have hz:=zcW A' n' c' wc (by omega);unfold maxLen at h2 h4;have HA:=Aa ha.len;have HB:=Aa hb.len;have cA:n'≤1073741824:=by omega
  obtain ⟨tb,cP⟩:∃ tb,tb=(decide (n'<n) && !decide (n'=0)):=⟨_,rfl⟩;have bT:=Aa cP;clear cP;go_upto_region 3 with (fail)
  go_cut [24] (fun b wd=>b = .bool tb∧wd=wc)
  case first=>
   by_cases aS:n'<n
   ·have hd:decide (n'<n)=true:=by simpa using aS
    have bE:∃ z,((n':Int)==0)=z:=⟨_,rfl⟩;obtain ⟨z,bE⟩:=bE;rw [bE] at hz
    go_wp2_with (go_at_call 154;refine hz.mono ?_;rintro e w1 ⟨rfl,rfl⟩)
    go_meet
    refine ⟨?_,rfl⟩;rw [bT.out,hd,←bE]
    congr 1
    rw [Bool.true_and]
    congr 1
    rw [Bool.eq_iff_iff];simp
   ·have hd:decide (n'<n)=false:=by simpa using aS
    go_wp2_with fail
    go_meet
    exact ⟨by rw [bT.out,hd];rfl,rfl⟩
  case rest=>
   obtain ⟨rfl,rfl⟩:=hcut
   go_upto_if 24 with (fail)
   go_cut [0] (fun s wd=>∃ A2 n2 c2 u2,s = .slice A2 n2 c2∧NatS wd wd.heap.size A2 n2 c2 u2∧NatS wd wd.heap.size A' n' c' v∧n2≤1073741824∧Hid (Nat.gcd u2 v=Nat.gcd x y)∧Below wc.heap.size wc wd)
   case first=>
    cases tb
    ·go_wp2_with fail
     go_meet
     exact ⟨A,n,c,u,rfl,ha,hb,hn,hg,Below.refl _ _⟩
    ·have hv:0<v:=by
      have h:=bT.out
      rcases Nat.eq_zero_or_pos v with rfl | h0
      ·have h5:=HB.out
       rw [zao] at h5;simp at h5
       subst h5;simp at h
      ·exact h0
     have cW:=zdL A A' n c n' c' u v wc ha hb hv (by omega)
     go_wp2_with fail
     refine cW.mono ?_;rintro e w1 ⟨A1,m1,c1,A2,m2,c2,rfl,dD,bQ,aJ⟩
     go_wp2_with fail
     go_meet
     refine ⟨A2,m2,c2,u % v,rfl,bQ,hb.later aJ,?_,?_,aJ⟩
     ·have h6:=bQ.len
      have h7:=zaa (Nat.le_of_lt (Nat.mod_lt u hv));rw [HB.out] at h7;omega
     ·rw [Hid,←hg.out,←Nat.gcd_rec v u,Nat.gcd_comm]
   case rest=>
    clear ha hb h1 h2 h3 h4 hz HA bT hg hn;obtain ⟨A,n,c,u,rfl,ha,hb,hn,hg,aF⟩:=hcut;have aQ:=hT.later aF;have h1:=ha.nc;have h2:=ha.cm;have h3:=hb.nc;have h4:=hb.cm;have bI:=fun W:World=>zcW A n c W (by omega)
    have bO:=fun W:World=>zcW A' n' c' W (by omega)
    unfold maxLen at h2 h4
    by_cases hu0:n=0
    ·subst hu0
     obtain rfl:u=0:=za6.1 ha.len
     go_wp2_with fail
     refine (bI _).mono ?_;rintro e w1 ⟨rfl,rfl⟩
     go_wp2_with fail
     go_ret;exact ⟨A',n',c',rfl,by rw [←hg.out,Nat.gcd_zero_left];exact hb,aF⟩
    ·have hu:0<u:=by
      rcases Nat.eq_zero_or_pos u with rfl | h
      ·exact absurd (by rw [←ha.len,zao];rfl) hu0
      ·exact h
     have bE:(((n:Nat):Int)==0)=false:=by rw [beq_eq_false_iff_ne];omega
     simp only [bE] at bI
     by_cases hv0:n'=0
     ·subst hv0
      obtain rfl:v=0:=za6.1 hb.len
      go_wp2_with fail
      refine (bI _).mono ?_;rintro e w1 ⟨rfl,rfl⟩
      go_wp2_with fail
      refine (bO _).mono ?_;rintro e w1 ⟨rfl,rfl⟩
      go_wp2_with fail
      go_ret;exact ⟨A,n,c,rfl,by rw [←hg.out,Nat.gcd_zero_right];exact ha,aF⟩
     ·have hv:0<v:=by
       rcases Nat.eq_zero_or_pos v with rfl | h
       ·exact absurd (by rw [←hb.len,zao];rfl) hv0
       ·exact h
      have bZ:(((n':Nat):Int)==0)=false:=by rw [beq_eq_false_iff_ne];omega
      simp only [bZ] at bO
      have bY:ntz u≤1099511627776∧ntz v≤1099511627776:=by
       have k1:=zjx hu (by rw [ha.len];exact hn);have k2:=zjx hv (by rw [hb.len];exact cA);omega
      go_wp2_with fail
      refine (bI _).mono ?_;rintro e w1 ⟨rfl,rfl⟩
      go_wp2_with fail
      refine (bO _).mono ?_;rintro e w1 ⟨rfl,rfl⟩
      go_wp2_with fail
      refine (zcx A n c u _ aQ ha hu (by omega)).mono ?_;rintro e w1 ⟨rfl,rfl⟩
      go_wp2_with fail
      refine (zaZ A n c u (ntz u) _ ha (by omega) bY.1).mono ?_;rintro e w1 ⟨aJ,bQ⟩
      rcases bQ with ⟨_,aU⟩ | ⟨gx,mx,cx,rfl,aD⟩
      ·exact absurd aU (by have:=zeS hu;unfold odd at this;omega)
      have bH:=aQ.later aJ
      go_wp2_with fail
      refine (zcx A' n' c' v _ bH (hb.later aJ) hv (by omega)).mono ?_;rintro e w2 ⟨rfl,rfl⟩
      go_wp2_with fail
      refine (zaZ A' n' c' v (ntz v) _ (hb.later aJ) (by omega) bY.2).mono ?_;rintro e w3 ⟨cL,cY⟩
      rcases cY with ⟨_,aU⟩ | ⟨gy,my,cy,rfl,aA⟩
      ·exact absurd aU (by have:=zeS hv;unfold odd at this;omega)
      have bF:=aD.below cL;have aY:gx≠gy:=by have:=aD.lt;have:=aA.lt;omega
      have bN:=aA.mono aJ.size;have aR:Below wc.heap.size wc w3:=Ad aJ cL;have aK:mx≤1073741824:=by
       have k1:=aD.len;have k2:=zaa (zgF hu);have k3:=ha.len;unfold odd at k2;omega
      have aN:my≤1073741824:=by
       have k1:=aA.len;have k2:=zaa (zgF hv);have k3:=hb.len;unfold odd at k2;omega
      have HU:=Aa (zcD hu);have HV:=Aa (zcD hv);have cQ:=Aa (zeS hu);have cT:=Aa (zeS hv);have HG:Hid (Nat.gcd u v=Nat.gcd (odd u) (odd v)*2 ^ min (ntz u) (ntz v)):=znw hu hv;have aL:zau w3 wc.heap.size gx mx cx (digs (odd u)):=bF;have aM:zau w3 wc.heap.size gy my cy (digs (odd v)):=bN;clear aD aA bF bN bI bO bH aJ cL;obtain ⟨U,hU⟩:∃ U,U=odd u:=⟨_,rfl⟩;obtain ⟨V,hV⟩:∃ V,V=odd v:=⟨_,rfl⟩;rw [←hU] at HU cQ HG aL;rw [←hV] at HV cT HG aM;clear hU hV
      go_upto_block 0 with (fail)
      go_cut [5,6,7] (fun sx sy _ we=>∃ gx mx cx X gy my cy Y,sx = .slice (some ⟨gx,0,none⟩) mx cx∧sy = .slice (some ⟨gy,0,none⟩) my cy∧zau we wc.heap.size gx mx cx (digs X)∧zau we wc.heap.size gy my cy (digs Y)∧mx≤1073741824∧my≤1073741824∧Hid (Nat.gcd X Y=Nat.gcd U V)∧Hid (Y=1∨Nat.gcd X Y=X∧Y≠1)∧Below wc.heap.size wc we)
      case first=>
       go_wp2_with fail
       go_loopg [5,6,7] (U+V) (fun G sx sy _ we=>∃ gx mx cx X gy my cy Y,sx = .slice (some ⟨gx,0,none⟩) mx cx∧sy = .slice (some ⟨gy,0,none⟩) my cy∧gx≠gy∧zau we wc.heap.size gx mx cx (digs X)∧zau we wc.heap.size gy my cy (digs Y)∧mx≤1073741824∧my≤1073741824∧(0<X∧0<Y∧(∃ m,X=2*m+1)∧∃ m,Y=2*m+1)∧Hid (Nat.gcd X Y=Nat.gcd U V)∧Below wc.heap.size wc we∧X+Y≤G)
       case atStart=>exact ⟨gx,mx,cx,U,gy,my,cy,V,rfl,rfl,aY,aL,aM,aK,aN,⟨cQ.out,cT.out,HU.out.2,HV.out.2⟩,rfl,aR,Nat.le_refl _⟩
       case round=>
        clear aL aM aK aN aY aR;obtain ⟨gx,mx,cx,X,gy,my,cy,Y,rfl,rfl,bD,aD,aA,aK,aN,hp,aX,aC,hG⟩:=hrel;obtain ⟨we,rfl⟩:∃ we:World,we=wr:=⟨_,rfl⟩;have cR:=aQ.later aC;have aO:=zbq _ mx cx X we aD.nat;have aH:=zbq _ my cy Y we aA.nat;have aP:=zaR _ _ mx cx my cy X Y we aD.nat aA.nat;have HP:=Aa hp;clear hp
        by_cases hX1:X=1
        ·have d1:decide (X=1)=true:=by simpa using hX1
         rw [d1] at aO;have cV:=Aa hX1;clear hX1 d1
         go_wp2_with fail
         refine aO.mono ?_;rintro e w1 ⟨rfl,rfl⟩
         go_wp2_with fail
         go_meet
         refine ⟨gx,mx,cx,X,gy,my,cy,Y,rfl,rfl,aD,aA,aK,aN,aX,?_,aC⟩
         by_cases aI:Y=1
         ·exact .inl aI
         ·exact .inr ⟨by rw [cV.out,Nat.gcd_one_left],aI⟩
        ·have d1:decide (X=1)=false:=by simpa using hX1
         rw [d1] at aO
         by_cases aI:Y=1
         ·have d2:decide (Y=1)=true:=by simpa using aI
          rw [d2] at aH;have cE:=Aa aI;clear hX1 d1 aI d2
          go_wp2_with fail
          refine aO.mono ?_;rintro e w1 ⟨rfl,rfl⟩
          go_wp2_with fail
          refine aH.mono ?_;rintro e w1 ⟨rfl,rfl⟩
          go_wp2_with fail
          go_meet
          exact ⟨gx,mx,cx,X,gy,my,cy,Y,rfl,rfl,aD,aA,aK,aN,aX,.inl cE.out,aC⟩
         ·have d2:decide (Y=1)=false:=by simpa using aI
          rw [d2] at aH;have cE:=Aa aI;clear hX1 d1 aI d2
          rcases Nat.lt_trichotomy X Y with aS | cB | cU
          ·rw [ncmp_lt aS] at aP
           go_wp2_with fail
           refine aO.mono ?_;rintro e w1 ⟨rfl,rfl⟩
           go_wp2_with fail
           refine aH.mono ?_;rintro e w1 ⟨rfl,rfl⟩
           go_wp2_with fail
           refine aP.mono ?_;rintro e w1 ⟨rfl,q4,rfl⟩;have aD:=aD.drewN q4;have aA:=aA.drewN q4;have aC:=zac aC q4;have cR:=aQ.later aC;have hp:=HP.out;clear aO aH aP;have bP:X≤Y:=by omega
           have aT:=zdF (some ⟨gy,0,none⟩) (some ⟨gx,0,none⟩) wc.heap.size gy my cy my cy mx cx Y X (digs Y) (we.drewN q4) True aA (zap Y) aA.nat aD.nat (.inr ⟨rfl,rfl,trivial⟩) (fun _ ad h=>by injection h with h;subst h;exact bD) (Nat.le_refl _) bP (by omega)
           go_wp2_with fail
           refine aT.mono ?_;rintro e w5 ⟨m5,rfl,aG,bL⟩;have aE:0<Y - X:=by omega
           have bX:=aQ.only4 aC bL aA.lt.1;have cC:m5≤1073741824:=by
            have k1:=aG.len;have k2:=zaa (Nat.sub_le Y X);have k3:=aA.len;omega
           go_wp2_with fail
           refine (zcx _ m5 cy (Y - X) _ bX aG.nat aE (by omega)).mono ?_;rintro e w6 ⟨rfl,rfl⟩;have cZ:=zjx aE (by rw [aG.len];exact cC);have cF:=zfW (some ⟨gy,0,none⟩) wc.heap.size gy m5 cy m5 cy (Y - X) (ntz (Y - X)) (digs (Y - X)) w5 True aG (zap _) aG.nat (.inr ⟨rfl,rfl,trivial⟩) (Nat.le_refl _) (by omega) (by omega) (by rw [←aG.len];exact zkW aE)
           go_wp2_with fail
           refine cF.mono ?_;rintro e w7 ⟨m7,rfl,bM,cI⟩;have cG:m7≤1073741824:=by
            have k1:=bM.len;have k2:=zaa (zgF aE);have k3:=aG.len;unfold odd at k2;omega
           have bK:=zgJ bL cI;have aV:=aD.kept bK (by intro e;injection e with e;exact bD e.symm)
           have aW:=aC.grown bK aC.size (fun k hk=>by cases hk;exact aA.lt.1);have bV:zau w7 wc.heap.size gy m7 cy (digs (odd (Y - X))):=bM;have cK:=zgF aE;have aZ:=zeS aE;have bC:=(zcD aE).2;have bA:Hid (Nat.gcd (odd (Y - X)) X=Nat.gcd U V):=by rw [Hid,←aX.out];rw [Nat.gcd_comm X Y];exact zi2 hp.2.2.1 (by omega)
           go_wp2_with fail
           go_roundg (odd (Y - X)+X)
           case measure=>omega
           case rel=>exact ⟨gy,m7,cy,odd (Y - X),gx,mx,cx,X,rfl,rfl,bD.symm,bV,aV,cG,aK,⟨aZ,hp.1,bC,hp.2.2.1⟩,bA,aW,Nat.le_refl _⟩
          ·rw [cB,ncmp_eq] at aP
           have HE:=Aa cB;clear cB
           go_wp2_with fail
           refine aO.mono ?_;rintro e w1 ⟨rfl,rfl⟩
           go_wp2_with fail
           refine aH.mono ?_;rintro e w1 ⟨rfl,rfl⟩
           go_wp2_with fail
           refine aP.mono ?_;rintro e w1 ⟨rfl,q4,rfl⟩
           go_wp2_with fail
           go_meet
           exact ⟨gx,mx,cx,X,gy,my,cy,Y,rfl,rfl,aD.drewN q4,aA.drewN q4,aK,aN,aX,.inr ⟨by rw [HE.out,Nat.gcd_self],cE.out⟩,zac aC q4⟩
          ·rw [ncmp_gt cU] at aP
           go_wp2_with fail
           refine aO.mono ?_;rintro e w1 ⟨rfl,rfl⟩
           go_wp2_with fail
           refine aH.mono ?_;rintro e w1 ⟨rfl,rfl⟩
           go_wp2_with fail
           refine aP.mono ?_;rintro e w1 ⟨rfl,q4,rfl⟩;have aD:=aD.drewN q4;have aA:=aA.drewN q4;have aC:=zac aC q4;have cR:=aQ.later aC;have hp:=HP.out;clear aO aH aP;have bP:Y≤X:=by omega
           have aT:=zdF (some ⟨gx,0,none⟩) (some ⟨gy,0,none⟩) wc.heap.size gx mx cx mx cx my cy X Y (digs X) (we.drewN q4) True aD (zap X) aD.nat aA.nat (.inr ⟨rfl,rfl,trivial⟩) (fun _ ad h=>by injection h with h;subst h;exact bD.symm) (Nat.le_refl _) bP (by omega)
           go_wp2_with fail
           refine aT.mono ?_;rintro e w5 ⟨m5,rfl,aG,bL⟩;have aE:0<X - Y:=by omega
           have bX:=aQ.only4 aC bL aD.lt.1;have cC:m5≤1073741824:=by
            have k1:=aG.len;have k2:=zaa (Nat.sub_le X Y);have k3:=aD.len;omega
           go_wp2_with fail
           refine (zcx _ m5 cx (X - Y) _ bX aG.nat aE (by omega)).mono ?_;rintro e w6 ⟨rfl,rfl⟩;have cZ:=zjx aE (by rw [aG.len];exact cC);have cF:=zfW (some ⟨gx,0,none⟩) wc.heap.size gx m5 cx m5 cx (X - Y) (ntz (X - Y)) (digs (X - Y)) w5 True aG (zap _) aG.nat (.inr ⟨rfl,rfl,trivial⟩) (Nat.le_refl _) (by omega) (by omega) (by rw [←aG.len];exact zkW aE)
           go_wp2_with fail
           refine cF.mono ?_;rintro e w7 ⟨m7,rfl,bM,cI⟩;have cG:m7≤1073741824:=by
            have k1:=bM.len;have k2:=zaa (zgF aE);have k3:=aG.len;unfold odd at k2;omega
           have bK:=zgJ bL cI;have aV:=aA.kept bK (by intro e;injection e with e;exact bD e)
           have aW:=aC.grown bK aC.size (fun k hk=>by cases hk;exact aD.lt.1);have bV:zau w7 wc.heap.size gx m7 cx (digs (odd (X - Y))):=bM;have cK:=zgF aE;have aZ:=zeS aE;have bC:=(zcD aE).2;have bA:Hid (Nat.gcd (odd (X - Y)) Y=Nat.gcd U V):=by rw [Hid,←aX.out];exact zi2 hp.2.2.2 (by omega)
           go_wp2_with fail
           go_roundg (odd (X - Y)+Y)
           case measure=>omega
           case rel=>exact ⟨gx,m7,cx,odd (X - Y),gy,my,cy,Y,rfl,rfl,bD,bV,aV,cG,aN,⟨aZ,hp.2.1,bC,hp.2.2.2⟩,bA,aW,Nat.le_refl _⟩
      case rest=>
       clear aL aM aK aN aY;obtain ⟨gx,mx,cx,X,gy,my,cy,Y,rfl,rfl,aD,aA,aK,aN,aX,cJ,aC⟩:=hcut;have aH:=fun W:World=>fun h=>zbq (some ⟨gy,0,none⟩) my cy Y W h
       have bR:=aQ.later aC;have cO:=ha.later aC;have cN:=hb.later aC;have bB:Nat.gcd x y=Nat.gcd X Y*2 ^ min (ntz u) (ntz v):=by rw [←hg.out,HG.out,aX.out]
       obtain ⟨sm,bS⟩:∃ sm,sm=min (ntz u) (ntz v):=⟨_,rfl⟩;have bJ:sm≤1099511627776:=by rw [bS];exact Nat.le_trans (Nat.min_le_left _ _) bY.1
       have dB:min ((ntz u:Nat):Int) ((ntz v:Nat):Int)=(sm:Int):=by rw [bS];omega
       rw [←bS] at bB;have HM:=Aa bB;clear bB bS
       rcases cJ.out with cM | ⟨cS,aI⟩
       ·have d2:decide (Y=1)=true:=by simpa using cM
        have ho:=aH _ aA.nat;rw [d2] at ho;have HY:=Aa cM;clear aH d2 cM
        go_wp2_with fail
        refine ho.mono ?_;rintro e w4 ⟨rfl,rfl⟩
        go_wp2_with fail
        refine (zcx A n c u _ bR cO hu (by omega)).mono ?_;rintro e w4 ⟨rfl,rfl⟩
        go_wp2_with fail
        refine (zcx A' n' c' v _ bR cN hv (by omega)).mono ?_;rintro e w4 ⟨rfl,rfl⟩;have bG:=zaw (some ⟨gy,0,none⟩) my cy Y sm _ aA.nat (by omega) bJ;have bU:=Aa bG;clear bG
        go_wp2_with fail
        refine bU.out.mono ?_;rintro e w5 ⟨A5,m5,c5,rfl,bW,cH⟩
        go_wp2_with fail
        go_ret;refine ⟨A5,m5,c5,rfl,?_,aF.trans ((aC.trans (cH.mono aC.size)).mono aF.size)⟩;rw [HM.out,show Nat.gcd X Y=Y by rw [HY.out,Nat.gcd_one_right]];exact bW
       ·have d2:decide (Y=1)=false:=by simpa using aI
        have ho:=aH _ aA.nat;rw [d2] at ho;have dA:=Aa cS;clear aH d2 cS aI
        go_wp2_with fail
        refine ho.mono ?_;rintro e w4 ⟨rfl,rfl⟩
        go_wp2_with fail
        refine (zcx A n c u _ bR cO hu (by omega)).mono ?_;rintro e w4 ⟨rfl,rfl⟩
        go_wp2_with fail
        refine (zcx A' n' c' v _ bR cN hv (by omega)).mono ?_;rintro e w4 ⟨rfl,rfl⟩;have bG:=zaw (some ⟨gx,0,none⟩) mx cx X sm _ aD.nat (by omega) bJ;have bU:=Aa bG;clear bG
        go_wp2_with fail
        refine bU.out.mono ?_;rintro e w5 ⟨A5,m5,c5,rfl,bW,cH⟩
        go_wp2_with fail
        go_ret;refine ⟨A5,m5,c5,rfl,?_,aF.trans ((aC.trans (cH.mono aC.size)).mono aF.size)⟩;rw [HM.out,dA.out];exact bW
end Go.Proofs.YtbkgkoenppkhpaaGreatDoor
