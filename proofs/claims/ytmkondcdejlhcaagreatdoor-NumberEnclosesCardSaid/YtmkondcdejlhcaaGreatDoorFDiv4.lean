/- Contract of over: the integer part of a quotient, and the remainder. -/
import Derived.Test.YtmkondcdejlhcaaGreatDoorFNum3
import Derived.Laws.CopyOwn
set_option maxRecDepth 100000
set_option maxHeartbeats 8000000
namespace Go.Proofs.YtmkondcdejlhcaaGreatDoor
open Go.RowKit Bn
def zfy (w:World) (x y:Nat) (e:Ending) (w':World):Prop:=
 ∃ A1 m1 c1 A2 m2 c2,e = .returned (.tuple #[.slice A1 m1 c1,.slice A2 m2 c2])∧NatS w' w'.heap.size A1 m1 c1 x∧NatS w' w'.heap.size A2 m2 c2 y∧Below w.heap.size w w'
theorem zav.block{w:World}{base g n:Nat}{l:List Nat}(h:zav w base g n n l):w.heap[g]? = some (.cells (l.map u64v).toArray 136 (0,0)):=by
 rcases h.2 with⟨h',_⟩ | ⟨g',aD,aF,h',hb,hg,aE,aG,aC,aA⟩
 ·simp at h'
 ·simp only[Value.slice.injEq,Option.some.injEq,Addr.mk.injEq,and_true,true_and] at h'
  obtain⟨rfl,rfl⟩:=h';rw[hg,←aA,List.take_of_length_le (by rw[Array.length_toList,aC];exact Nat.le_refl _)]
theorem zav.of_block{w:World}{base g n:Nat}{l:List Nat}(h:w.heap[g]? = some (.cells (l.map u64v).toArray 136 (0,0)))(hb:base≤g)(hl:l.length=n)(hn:n≤maxLen):zav w base g n n l:=by
 refine⟨by simp[hl],.inr ⟨g,n,(l.map u64v).toArray,rfl,hb,h,Nat.le_refl _,hn,by simp[hl],?_⟩⟩;rw[List.take_of_length_le (by simp[hl])]
theorem zeR(l:List Nat)(k:Nat):val (l++List.replicate k 0)=val l:=by rw[zaP,za1,Nat.mul_zero,Nat.add_zero]
theorem zkc{l l':List Nat}(j:Nat)(hl:l.length=l'.length)(h:∀ t,t<j→l.getD t 0=l'.getD t 0):l.take j=l'.take j:=by
 apply List.ext_getElem
 ·simp[hl]
 ·intro t h1 h2
  rw[List.length_take] at h1 h2;simp only[List.getElem_take]
  have:=h t (by omega)
  rwa [Bn.getD_in (by omega),Bn.getD_in (by omega)] at this
theorem zkL{l l':List Nat}(j:Nat)(hl:l.length=l'.length)(h:∀ t,j≤t→l.getD t 0=l'.getD t 0):l.drop j=l'.drop j:=by
 apply List.ext_getElem
 ·simp[hl]
 ·intro t h1 h2
  rw[List.length_drop] at h1 h2;simp only[List.getElem_drop]
  have:=h (j+t) (by omega)
  rwa [Bn.getD_in (by omega),Bn.getD_in (by omega)] at this
theorem zmD(lr lr' lq:List Nat)(j n q D X R:Nat)(hw:Wf lr)(hl:lr'.length=lr.length)(hlen:j+n+1≤lr.length)(hlq:j<lq.length)(hDn:D≤B^n)(hD0:0<D)
 (hX:val lr+D*(B^(j+1)*val (lq.drop (j+1)))=X)(hlt:val (lr.drop (j+1))<D)(hR:R=val ((lr.drop j).take (n+1)))
 (hR':val ((lr'.drop j).take (n+1))=R%D)(hq:q=R/D)(hsame:∀ t,t<j∨j+n+1≤t→lr'.getD t 0=lr.getD t 0) :
  val lr'+D*(B^j*val ((lq.set j q).drop j))=X∧val (lr'.drop j)<D:=by
 have e1:=zfG lr j (by omega);have aA:=zaF hw j;have h1:val (lr.drop j)<D*B:=by
  rw[e1,val_cons];have h:B*(val (lr.drop (j+1))+1)≤B*D:=Nat.mul_le_mul_left _ hlt;rw[Nat.mul_add,Nat.mul_one,Nat.mul_comm B D] at h;have:lr.getD j 0<B:=aA;omega
 have h2:=zax (lr.drop j) (n+1) (by rw[List.length_drop];omega);rw[←hR] at h2;have hz:val ((lr.drop j).drop (n+1))=0:=by
  rcases Nat.eq_zero_or_pos (val ((lr.drop j).drop (n+1))) with h | h
  ·exact h
  ·exfalso
   have h3:B^(n+1)*1≤B^(n+1)*val ((lr.drop j).drop (n+1)):=Nat.mul_le_mul_left _ h;have h4:D*B≤B^(n+1):=by rw[Nat.pow_succ];exact Nat.mul_le_mul_right _ hDn
   omega
 have h3:=zax (lr'.drop j) (n+1) (by rw[List.length_drop,hl];omega);have hd:(lr'.drop j).drop (n+1)=(lr.drop j).drop (n+1):=by
  rw[List.drop_drop,List.drop_drop];exact zkL _ hl (fun t ht=>hsame t (by omega))
 rw[hd,hz,Nat.mul_zero,Nat.add_zero,hR'] at h3;rw[hz,Nat.mul_zero,Nat.add_zero] at h2;have h4:=Nat.mod_lt R hD0;refine⟨?_,by omega⟩;have h5:=zax lr j (by omega);have h6:=zax lr' j (by omega);rw[zkc (l:=lr') (l':=lr) j hl (fun t ht=>hsame t (.inl ht)),h3] at h6;rw[h2] at h5;rw[zeE lq j q hlq,val_cons,←hX,h5,h6,hq];have h7:=Nat.div_add_mod R D;have h8:B^j*R=B^j*(D*(R/D))+B^j*(R%D):=by rw[←Nat.mul_add,h7]
 have h9:D*(B^j*(R/D+B*val (lq.drop (j+1))))=B^j*(D*(R/D))+D*(B^(j+1)*val (lq.drop (j+1))):=by
  rw[Nat.mul_add (B^j),Nat.mul_add D,Nat.mul_left_comm D (B^j),Nat.pow_succ,Nat.mul_assoc]
 rw[h8,h9];omega
theorem zmM(lr:List Nat)(j n D:Nat)(hw:Wf lr)(hlt:val (lr.drop (j+1))<D)(hj:j<lr.length):val ((lr.drop j).take (n+1))<D*B:=by
 have e1:=zfG lr j hj;have aA:lr.getD j 0<B:=zaF hw j;have h1:val (lr.drop j)<D*B:=by
  rw[e1,val_cons];have h:B*(val (lr.drop (j+1))+1)≤B*D:=Nat.mul_le_mul_left _ hlt;rw[Nat.mul_add,Nat.mul_one,Nat.mul_comm B D] at h;omega
 rcases Nat.lt_or_ge (n+1) (lr.drop j).length with h | h
 ·have h2:=zax (lr.drop j) (n+1) (by omega)
  omega
 ·rw[List.take_of_length_le h];exact h1
theorem zk1(X D x y s la n:Nat)(lr:List Nat)(hw:Wf lr)(hla:(digs x).length=la)(hn:(digs y).length=n)(hy:0<y)(hle:n≤la)(hX:val lr=X)(eX:X=x*2^s)(eD:D=y*2^s)(hlen:la-n+1≤lr.length) :
  val (lr.drop (la-n+1))<D:=by
 rw[zfa hw _ hlen,hX,Nat.div_lt_iff_lt_mul (Nat.pow_pos zaQ),eX,eD];have h1:=zad x;rw[hla] at h1;have h2:=zaG hy;rw[hn] at h2;have aA:0<n:=by rw[←hn];exact zas hy
 have h3:B^la=B^(n-1)*B^(la-n+1):=by rw[←Nat.pow_add];congr 1;omega
 have h4:x<y*B^(la-n+1):=by
  have:=Nat.mul_le_mul_right (B^(la-n+1)) h2;omega
 rw[Nat.mul_assoc,Nat.mul_comm (2^s),←Nat.mul_assoc];exact(Nat.mul_lt_mul_right (Nat.two_pow_pos s)).2 h4
theorem zlw(X D x y s V Q:Nat)(eX:X=x*2^s)(eD:D=y*2^s)(hy:0<y)(h:V+D*Q=X)(hlt:V<D):Q=x/y∧V/2^s=x%y:=by
 have hp:=Nat.two_pow_pos s;have hD:0<D:=by omega
 have h1:Q=X/D:=by
  rw[←h,Nat.add_comm,Nat.mul_add_div hD,Nat.div_eq_of_lt hlt,Nat.add_zero]
 have h2:V=X%D:=by
  rw[←h,Nat.add_comm,Nat.mul_add_mod,Nat.mod_eq_of_lt hlt]
 have _:=hy
 constructor
 ·rw[h1,eX,eD,Nat.mul_div_mul_right _ _ hp]
 ·rw[h2,eX,eD,Nat.mul_mod_mul_right,Nat.mul_div_cancel _ hp]
theorem zkT(A A':Option Addr)(n c n' c' x y:Nat)(w:World)(ha:NatS w w.heap.size A n c x)(hb:NatS w w.heap.size A' n' c' y)(hlt:x<y) :
  Calls Tryz.prog 142 #[.slice A n c,.slice A' n' c'] w (zfy w (x/y) (x%y)):=by
 have hc:=zaS A A' n c n' c' x y w ha hb;rw[ncmp_lt hlt] at hc;go_enter Tryz.func142,Tryz.ntmps142
 go_wp2_with fail
 refine hc.mono ?_;rintro e w1 ⟨rfl,q,rfl⟩;go_wp2
 go_ret2
 refine⟨none,0,0,A,n,c,rfl,?_,?_,zac (Below.refl _ _) q⟩
 ·rw[Nat.div_eq_of_lt hlt];exact NatS.nil _ _
 ·rw[Nat.mod_eq_of_lt hlt];exact⟨ha.words,ha.nc,ha.cm⟩
theorem zlS(A A':Option Addr)(n c c' x y:Nat)(w:World)(ha:NatS w w.heap.size A n c x)(hb:NatS w w.heap.size A' 1 c' y)(hle:y≤x)(hy:0<y)(hn:n≤1099511627776) :
  Calls Tryz.prog 142 #[.slice A n c,.slice A' 1 c'] w (zfy w (x/y) (x%y)):=by
 have hc:=zaS A A' n c 1 c' x y w ha hb;have aI:0≤ncmp x y:=by
  unfold ncmp;rw[if_neg (by omega)]
  split<;>omega
 obtain⟨v,hv⟩:∃ v,v=ncmp x y:=⟨_,rfl⟩;rw[←hv] at hc aI;clear hv;have hB:=hb.len;obtain⟨ad,rfl,aL,aC⟩:=hb.words.word (k:=0) (by omega);have e0:ad.add 0=ad:=by simp[Addr.add]
 have aE:(digs y).getD 0 0=y:=by
  match hd:digs y,hB with
  | [d],_=>
   have:=zak y;rw[hd] at this
   simpa using this
 have aH:=zaF (zaq y) 0;rw[aE] at aC aH;rw[e0] at aC;have HY:=Aa aE;have HB:=Aa hB;clear aE e0 hB;go_enter Tryz.func142,Tryz.ntmps142
 go_wp2_with fail
 refine hc.mono ?_;rintro e w1 ⟨rfl,q,rfl⟩;have aJ:=zbe A n c x y (w.drewN q) ⟨ha.words,ha.nc,ha.cm⟩ hn hy aH
 go_wp2_with fail
 refine aJ.mono ?_;rintro e w2 ⟨m,c2,rfl,aF,aD⟩;have aG:=zai ((x%y:Nat):Int) w2 (by omega) (by have:=Nat.mod_lt x hy;omega);rw[Int.toNat_natCast] at aG
 go_wp2_with fail
 refine aG.mono ?_;rintro e w3 ⟨A3,m3,c3,rfl,aK,aA⟩;go_wp2
 go_ret2
 exact⟨_,m,c2,A3,m3,c3,rfl,aF.nat.later aA,aK,(zac (Below.refl w.heap.size w) q).trans (aD.trans (aA.mono aD.size))⟩
theorem zmx(A A':Option Addr)(n c n' c' x y:Nat)(w:World)(ha:NatS w w.heap.size A n c x)(hb:NatS w w.heap.size A' n' c' y)(hle:y≤x)(hn2:2≤n')(hn:n≤549755813888) :
  Calls Tryz.prog 142 #[.slice A n c,.slice A' n' c'] w (zfy w (x/y) (x%y)):=by
 obtain⟨i0,bU,cZ,bX,cW⟩:=info_parts zcm;have hc:=zaS A A' n c n' c' x y w ha hb;have dJ:0≤ncmp x y:=by
  unfold ncmp;rw[if_neg (by omega)]
  split<;>omega
 obtain⟨v,hv⟩:∃ v,v=ncmp x y:=⟨_,rfl⟩;rw[←hv] at hc dJ;clear hv;have hA:=Aa ha.len;have hB:=Aa hb.len;have bY:n'≤n:=by rw[←ha.len,←hb.len];exact zaa hle
 have hy:0<y:=by
  rcases Nat.eq_zero_or_pos y with rfl | h
  ·have:=hb.len
   rw[zam] at this;simp at this
   omega
  ·exact h
 have h1:=ha.nc;have h2:=ha.cm;have h3:=hb.nc;have h4:=hb.cm;unfold maxLen at h2 h4;obtain⟨ad,rfl,fF,dG⟩:=hb.words.word (k:=n'-1) (by omega);have cC:=zaF (zaq y) (n'-1);obtain⟨t,gt⟩:∃ t,(digs y).getD (n'-1) 0=t:=⟨_,rfl⟩;rw[gt] at dG cC;have fA:t≠0:=by
  have:=zda y (by rw[hB.out];omega);rw[←gt,Bn.getD_in (by rw[hB.out];omega)]
  simpa only[hB.out] using this
 obtain⟨b1,b2,b3⟩:=Lib.bitLenAux_bounds 64 t (by simpa using cC) fA;have b4:=Lib.bitLen_le t 64 (Nat.le_refl _) (by simpa using cC);have hl:=fun W:World=>Tryz.bits_LeadingZeros64 (t:Int) W (by omega) (by omega)
 have eb:Lib.bitLen t=Lib.bitLenAux 64 t:=rfl;rw[←eb] at b1 b2 b3;obtain⟨b,bV⟩:∃ b,b=Lib.bitLen t:=⟨_,rfl⟩;rw[←bV] at b1 b2 b3 b4;obtain⟨s,hs⟩:∃ s,s=64-b:=⟨_,rfl⟩;have dB:∀ W:World,Calls Tryz.prog 181 #[.int .u64 (t:Int)] W fun e w'=>e = .returned (.int .i64 (s:Int))∧w'=W:=fun W=>by
  have h:=hl W;rw[Int.toNat_natCast,←bV,show(64-(b:Int))=(s:Int) from by omega] at h;exact h
 have HL:=Aa dB;have fB:s≤63:=by omega
 have cQ:zaN y=64*(n'-1)+b:=zfX hy (n'-1) (by rw[hB.out];omega) t b gt b1 b2 b3;obtain⟨D,hD⟩:∃ D,D=y*2^s:=⟨_,rfl⟩;obtain⟨X,hX⟩:∃ X,X=x*2^s:=⟨_,rfl⟩;have bC:D<B^n':=by
  have h5:=zfm y;rw[cQ] at h5;have h6:=(Nat.mul_lt_mul_right (Nat.two_pow_pos s)).2 h5;rw[←Nat.pow_add,show 64*(n'-1)+b+s=64*n' from by omega,Nat.pow_mul,←ze9] at h6;rw[hD];exact h6
 have dD:y≤D:=by rw[hD];exact Nat.le_mul_of_pos_right _ (Nat.two_pow_pos s)
 have aT:(digs D).length=n':=by
  have h5:=zab bC;have h6:=zaa dD;rw[hB.out] at h6;omega
 have aO:(digs X).length≤n+1:=by
  refine zab ?_;rw[hX,Nat.pow_succ];have h5:=zad x;rw[hA.out] at h5;have h6:2^s≤B:=by rw[ze9];exact Nat.pow_le_pow_right (by omega) (by omega)
  exact Nat.lt_of_lt_of_le ((Nat.mul_lt_mul_right (Nat.two_pow_pos s)).2 h5) (Nat.mul_le_mul_left _ h6)
 have dF:=zaw;have HD:=Aa hD;have HX:=Aa hX;have dK:=Aa aT;have dZ:=Aa aO;have dH:=Aa bC;clear hl dB bV hs b1 b2 b3 b4 eb gt cQ hD hX aT aO bC dD dF;go_enter Tryz.func142,Tryz.ntmps142
 go_wp2_with fail
 refine hc.mono ?_;rintro e w1 ⟨rfl,q,rfl⟩;have fG:(((n':Nat):Int)==1)=false:=by rw[beq_eq_false_iff_ne];omega
 go_wp2_with fail
 refine(HL.out _).mono ?_;rintro e w1 ⟨rfl,rfl⟩;have cR:=zaw (some ad) n' c' y s (w.drewN q) ⟨hb.words,hb.nc,hb.cm⟩ (by omega) (by omega);rw[←HD.out] at cR
 go_wp2_with fail
 refine cR.mono ?_;rintro e w2 ⟨AD,nD,cD,rfl,aS,aP⟩;have dR:nD=n':=by rw[←aS.len,dK.out]
 subst dR
 go_wp2_with (at_make;refine wpList_make_full _ rfl _ _ 89 rfl w.heap.size 136 i0 (.int .u64 0) 1 Tryz.underlying89 bU cZ bX _ _ _ _ (n+1) rfl rfl (by omega) (by omega) ?b2 ?b3 aP.size ?_)
 case b2=>rw[cW];omega
 case b3=>unfold maxLen;omega
 intro w3 aM aF;have aX:=zav.made aM;have bR:Below w2.heap.size w2 w3:=(Below.refl _ _).grown aF (Nat.le_refl _) (fun k h=>by cases h);have aC:Below w.heap.size w w2:=(zac (Below.refl w.heap.size w) q).trans aP;have bW:Below w.heap.size w w3:=Ad aC bR;have cU:=zaw A n c x s w3 (ha.later bW) (by omega) (by omega);rw[←HX.out] at cU;clear aM aF
 go_wp2_with fail
 refine cU.mono ?_;rintro e w4 ⟨AX,mX,cX,rfl,aQ,aE⟩;have cK:Below w2.heap.size w2 w4:=Ad bR aE;have aU:=aX.below aE;have cS:mX≤n+1:=by rw[←aQ.len];exact dZ.out
 have bK:=Aa aU;clear aX aU
 go_wp2_with (with_reducible refine wpList_copy_splice rfl (.tmp 46) (.tmp 49) 89 89 rfl 136 Tryz.underlying89 ?sz (some ⟨w2.heap.size,0,none⟩) AX (n+1) (n+1) mX cX rfl rfl w2.heap.size 0 ((List.replicate (n+1) 0).map u64v) 136 bK.out.block ((digs X).map u64v) ?cn ?cp ?cf ?c1 w2.heap.size w4 (Below.refl _ _) (Nat.le_refl _) ?_)
 case sz=>rw[bU];simp[bX]
 case cn=>rw[List.length_map,aQ.len];exact(Nat.min_eq_left cS).symm
 case cp=>
  intro h0;have dE:0<mX:=by rw[←aQ.len];simpa using h0
  obtain⟨dP,ex,_,fD⟩:=aQ.words.2 dE;exact⟨dP,ex,fun j a h=>fD j _ (by rw[List.getElem?_map,h];rfl)⟩
 case cf=>simp[aQ.len];exact cS
 case c1=>exact zn6 _
 intro w5 dC cJ;have bP:(digs X++List.replicate (n+1-mX) 0).length=n+1:=by rw[List.length_append,aQ.len,List.length_replicate];omega
 have aA:zav w5 w.heap.size w2.heap.size (n+1) (n+1) (digs X++List.replicate (n+1-mX) 0):=by
  refine zav.of_block ?_ aC.size bP (by unfold maxLen;omega);have h5:=dC.out;rw[h5]
  congr 3
  simp[splice,aQ.len]
 have aJ:Wf (digs X++List.replicate (n+1-mX) 0):=(zaq X).append (Wf.replicate _);have bT:val (digs X++List.replicate (n+1-mX) 0)=X:=by rw[zeR,zak]
 have aY:Below w2.heap.size w2 w5:=cK.trans cJ;have aZ:=aS.later aY;have aL:0<nD→Off AD w2.heap.size:=aS.off (Nat.le_refl _);clear dC cJ bK aQ aE aS bR cK;obtain⟨lr,cM⟩:∃ lr,lr=digs X++List.replicate (n+1-mX) 0:=⟨_,rfl⟩;rw[←cM] at aA aJ bT bP;clear cM;have aK:Below w.heap.size w w5:=Ad aC aY
 go_wp2_with (at_make;refine wpList_make_full _ rfl _ _ 89 rfl w.heap.size 136 i0 (.int .u64 0) 1 Tryz.underlying89 bU cZ bX _ _ _ _ (n-nD+1) rfl rfl (by omega) (by omega) ?b4 ?b5 aK.size ?_)
 case b4=>rw[cW];omega
 case b5=>unfold maxLen;omega
 intro w6 aV aG;have aW:=zav.made aV;have bQ:Below w5.heap.size w5 w6:=(Below.refl _ _).grown aG (Nat.le_refl _) (fun k h=>by cases h);have aH:=aA.below bQ;have bI:=aZ.later bQ;have bF:Below w.heap.size w w6:=Ad aK bQ;have bG:w2.heap.size≠w5.heap.size:=by have:=aA.lt;omega
 have aN:=zk1 X D x y s n nD lr aJ hA.out hB.out hy bY bT HX.out HD.out (by rw[bP];omega);have cG:0<nD→Off AD w5.heap.size:=aZ.off (Nat.le_refl _);have HI:=Aa aN;have cL:=Aa bT;clear aN bT aV aG aA aZ bP aY;have cO:0<D:=by rw[HD.out];exact Nat.mul_pos hy (Nat.two_pow_pos s)
 go_wp2_with fail
 go_loopw [12] (fun sl wr=>∃ (k:Nat) (i:Int),i=(k:Int)-1∧k≤n-nD+1∧sl = .int .i64 i∧∃ lr lq,zav wr w.heap.size w2.heap.size (n+1) (n+1) lr∧Wf lr∧zav wr w.heap.size w5.heap.size (n-nD+1) (n-nD+1) lq∧Wf lq ∧
   Hid (val lr+D*(B^k*val (lq.drop k))=X)∧Hid (val (lr.drop k)<D)∧NatS wr wr.heap.size AD nD cD D∧Below w.heap.size w wr) (fun sl _=>(intOf sl+1).toNat)
 case atStart=>
  refine⟨n-nD+1,_,rfl,Nat.le_refl _,by congr 1;omega,lr,_,aH,aJ,aW,Wf.replicate _,?_,HI,bI,bF⟩;rw[Hid,List.drop_of_length_le (by simp),val_nil,Nat.mul_zero,Nat.mul_zero,Nat.add_zero];exact cL.out
 case round=>
  clear aH aJ aW HI cL bI bF bQ;obtain⟨k,i,hi,hk,rfl,lr,lq,bA,bN,bS,cY,hX,bJ,aS,aI⟩:=hrel
  by_cases hk0:0<k
  ·obtain⟨j,rfl⟩:∃ j,k=j+1:=⟨k-1,by omega⟩
   obtain rfl:i=(j:Int):=by omega
   clear hi;have bZ:val ((lr.drop j).take (nD+1))<D*B:=by
    have h6:=zmM lr j nD D bN bJ.out (by rw[bA.len];omega);exact h6
   have dA:=zgk AD w.heap.size w2.heap.size j (n+1) (n+1) nD (n+1-j) cD D lr wr bA bN aS (fun h=>aL h) hn2 (by omega) (by omega) bZ;have cP:=Aa dA;have bE:val ((lr.drop j).take (nD+1))/D<18446744073709551616:=by
    rw[Nat.div_lt_iff_lt_mul cO,Nat.mul_comm];exact bZ
   obtain⟨q1,cB⟩:∃ q1,q1=val ((lr.drop j).take (nD+1))/D:=⟨_,rfl⟩;rw[←cB] at cP bE;have HQ:=Aa cB;clear cB dA bZ
   go_wp2_with fail
   rw[show j+nD+1-j=nD+1 from by omega];refine cP.out.mono ?_;rintro e wd ⟨rfl,cI,bB,cH,aR,aD,bO⟩;have bD:=bS.kept bO (by simpa using bG);have dQ:=bD.cell j (by omega);have fI:=bD.free j;generalize lq.getD j 0=old at dQ;obtain⟨f1,f2⟩:=zmD lr cI lq j nD q1 D X _ bN (by rw[bB.len,bA.len]) (by rw[bA.len];omega) (by rw[bS.len];omega) (Nat.le_of_lt dH.out) cO hX.out bJ.out rfl aR HQ.out aD;have F1:=Aa f1;have F2:=Aa f2;have dW:Below w.heap.size w wd:=aI.grown bO aI.size (fun k hk=>by cases hk;exact aC.size);have cA:wd.grownBy (wd.setCell ⟨w5.heap.size,j,none⟩ (.int .u64 (q1:Int))) (some w5.heap.size):=zbd (World.grownBy.refl wd _) (p:=⟨w5.heap.size,j,none⟩) (.inl rfl) _;have bH:=bB.kept cA (by simpa using fun h=>bG h.symm);have bM:=bD.set j q1;have bL:=(aS.kept bO aL).kept cA (fun h0=>cG h0);have cT:Below w.heap.size w (wd.setCell ⟨w5.heap.size,j,none⟩ (.int .u64 (q1:Int))):=dW.setCell (p:=⟨w5.heap.size,j,none⟩) aK.size _;have dI:=Aa bH;have dV:=Aa bM;have dL:=Aa bL;have dX:=Aa cT;have dN:=Aa cH;clear f1 f2 cA bH bM bL cT aR aD bO hX bJ bA bB bS aS;go_wp2
   go_roundw
   case rel=>exact⟨j,(j:Int)-1,rfl,by omega,by go_num,cI,_,dI.out,dN.out,dV.out,cY.set j bE,F1.out,F2.out,dL.out,dX.out⟩
   case measure=>simp[intOf]<;>omega
  ·obtain rfl:k=0:=by omega
   have bU:i<0:=by omega
   clear hi;obtain⟨g1,g2⟩:=zlw X D x y s (val lr) (val lq) HX.out HD.out hy (by have h:=hX.out;rwa [Nat.pow_zero,Nat.one_mul,List.drop_zero] at h) (by have h:=bJ.out;rwa [List.drop_zero] at h);have cF:=zb4 w.heap.size w5.heap.size (n-nD+1) (n-nD+1) lq wr bS cY;rw[g1] at cF;have dO:=Aa cF;have fE:=Aa (zb4 w.heap.size w2.heap.size (n+1) (n+1) lr wr bA bN);have dT:=Aa g2;clear cF g1 g2 hX bJ
   go_wp2_with fail
   refine dO.out.mono ?_;rintro e w7 ⟨m7,rfl,dS,rfl⟩
   go_wp2_with fail
   refine fE.out.mono ?_;rintro e w8 ⟨m8,rfl,cN,rfl⟩;have fH:m8≤n+1:=by
    have h9:=cN.len;have fC:=zab (zby bN);rw[bA.len] at fC;omega
   have cV:=zaT (some ⟨w2.heap.size,0,none⟩) m8 (n+1) (val lr) s wr cN.nat (by omega) (by omega);rw[dT.out] at cV
   go_wp2_with fail
   refine cV.mono ?_;rintro e w9 ⟨cE,dY⟩;obtain⟨A9,m9,c9,dM,dU,_⟩:=dY.ret cE;subst dM;go_wp2
   go_ret2
   exact⟨_,m7,_,A9,m9,c9,rfl,dS.nat.later cE,dU,aI.trans (cE.mono aI.size)⟩
theorem zcK(A A':Option Addr)(n c n' c' x y:Nat)(w:World)(ha:NatS w w.heap.size A n c x)(hb:NatS w w.heap.size A' n' c' y)(hy:0<y)(hn:n≤549755813888) :
  Calls Tryz.prog 142 #[.slice A n c,.slice A' n' c'] w (zfy w (x/y) (x%y)):=by
 rcases Nat.lt_or_ge x y with h | h
 ·exact zkT A A' n c n' c' x y w ha hb h
 ·have h1:0<n':=by rw[←hb.len];exact zas hy
  rcases Nat.lt_or_ge n' 2 with h2 | h2
  ·obtain rfl:n'=1:=by omega
   exact zlS A A' n c c' x y w ha hb h hy (by omega)
  ·exact zmx A A' n c n' c' x y w ha hb h h2 hn
theorem zfB(m:Nat):Nat.Coprime 2 (2*m+1):=by
 unfold Nat.Coprime;rw[Nat.gcd_rec,Nat.mul_add_mod,Nat.gcd_comm];rfl
theorem zef(k a m:Nat):Nat.gcd (2^k*a) (2*m+1)=Nat.gcd a (2*m+1):=
 Nat.Coprime.gcd_mul_left_cancel a (Nat.Coprime.pow_left k (zfB m))
def odd (n:Nat):Nat:=n/2^ntz n
theorem zcN {n:Nat} (h:0<n):n=2^ntz n*odd n∧∃ m,odd n=2*m+1:=by
 obtain⟨m,hm⟩:=zgY h;have e:odd n=2*m+1:=by
  unfold odd
  conv=>lhs;lhs;rw[hm]
  rw[Nat.mul_div_cancel_left _ (Nat.two_pow_pos _)]
 exact⟨by rw[e];exact hm,m,e⟩
theorem zeU{n:Nat}(h:0<n):0<odd n:=by
 obtain⟨_,m,e⟩:=zcN h;omega
theorem zjK{n k:Nat}(h:0<n)(hk:(digs n).length≤k):ntz n≤64*k:=by
 obtain⟨m,hm⟩:=zgY h;have h1:=zad n;have h2:B^(digs n).length≤B^k:=Nat.pow_le_pow_right zaQ hk;have h3:2^ntz n≤n:=by
  conv=>rhs;rw[hm]
  exact Nat.le_mul_of_pos_right _ (by omega)
 rcases Nat.lt_or_ge (64*k) (ntz n) with h4 | h4
 ·exfalso
  have h5:2^(64*k)≤2^ntz n:=Nat.pow_le_pow_right (by omega) (by omega);rw[Nat.pow_mul,←ze9] at h5;omega
 ·exact h4
theorem zlP{n:Nat}(h:0<n):ntz n/64<(digs n).length:=by
 obtain⟨m,hm⟩:=zgY h;have h1:=zad n;have h3:2^ntz n≤n:=by
  conv=>rhs;rw[hm]
  exact Nat.le_mul_of_pos_right _ (by omega)
 rcases Nat.lt_or_ge (ntz n/64) (digs n).length with h4 | h4
 ·exact h4
 ·exfalso
  have h5:2^(64*(digs n).length)≤2^ntz n:=Nat.pow_le_pow_right (by omega) (by omega);rw[Nat.pow_mul,←ze9] at h5;omega
theorem zhY(s t a b:Nat)(ha:∃ m,a=2*m+1)(hb:∃ m,b=2*m+1):Nat.gcd (2^s*a) (2^t*b)=2^min s t*Nat.gcd a b:=by
 obtain⟨m,rfl⟩:=ha;obtain⟨k,rfl⟩:=hb
 rcases Nat.le_total s t with h | h
 ·obtain⟨d,rfl⟩:∃ d,t=s+d:=⟨t-s,by omega⟩
  rw[Nat.min_eq_left h,Nat.pow_add,Nat.mul_assoc,Nat.gcd_mul_left,Nat.gcd_comm,zef,Nat.gcd_comm]
 ·obtain⟨d,rfl⟩:∃ d,s=t+d:=⟨s-t,by omega⟩
  rw[Nat.min_eq_right h,Nat.pow_add,Nat.mul_assoc,Nat.gcd_mul_left,zef]
theorem zn1{x y:Nat}(hx:0<x)(hy:0<y):Nat.gcd x y=Nat.gcd (odd x) (odd y)*2^min (ntz x) (ntz y):=by
 obtain⟨e1,o1⟩:=zcN hx;obtain⟨e2,o2⟩:=zcN hy;have h:=zhY (ntz x) (ntz y) (odd x) (odd y) o1 o2;rw[←e1,←e2] at h;rw[h,Nat.mul_comm]
theorem zjs{x y:Nat}(hy:∃ m,y=2*m+1)(hlt:y<x):Nat.gcd (odd (x-y)) y=Nat.gcd x y:=by
 obtain⟨e,_⟩:=zcN (n:=x-y) (by omega);obtain⟨m,rfl⟩:=hy;have h1:Nat.gcd (x-(2*m+1)) (2*m+1)=Nat.gcd x (2*m+1):=Nat.gcd_sub_self_left (by omega);rw[←h1]
 conv=>rhs;rw[e]
 rw[zef]
theorem zgu{n:Nat}(_h:0<n):odd n≤n:=Nat.div_le_self _ _
theorem zd8 (A A':Option Addr) (n c n' c' x y:Nat) (w:World) (hT:Tabs w) (ha:NatS w w.heap.size A n c x) (hb:NatS w w.heap.size A' n' c' y) (hn:n≤1073741824) (hn':n'≤1073741824) :
  Calls Tryz.prog 121 #[.slice A n c,.slice A' n' c'] w (zch w (Nat.gcd x y)):=by
 have h1:=ha.nc;have h2:=ha.cm;have h3:=hb.nc;have h4:=hb.cm;unfold maxLen at h2 h4;go_enter Tryz.func121,Tryz.ntmps121
 go_upto_if 12 with(fail)
 go_cut [0,1] (fun s s' wc=>∃ A n c A' n' c' u v,s = .slice A n c∧s' = .slice A' n' c'∧NatS w w.heap.size A n c u∧NatS w w.heap.size A' n' c' v∧n'≤n∧n≤1073741824∧Hid (Nat.gcd u v=Nat.gcd x y)∧wc=w)
 case first=>
  by_cases aY:n<n'
  ·have hd:decide (n<n')=true:=by simpa using aY
   go_wp2_with fail
   go_meet
   exact⟨A',n',c',A,n,c,y,x,rfl,rfl,hb,ha,by omega,hn',Nat.gcd_comm _ _,rfl⟩
  ·have hd:decide (n<n')=false:=by simpa using aY
   go_wp2_with fail
   go_meet
   exact⟨A,n,c,A',n',c',x,y,rfl,rfl,ha,hb,by omega,hn,rfl,rfl⟩
 case rest=>
  clear ha hb hn hn' h1 h2 h3 h4;obtain⟨A,n,c,A',n',c',u,v,rfl,rfl,ha,hb,bO,hn,hg,rfl⟩:=hcut;have h1:=ha.nc;have h2:=ha.cm;have h3:=hb.nc;have h4:=hb.cm;have hz:=zcv A' n' c' wc (by omega);unfold maxLen at h2 h4;have HA:=Aa ha.len;have HB:=Aa hb.len;have bZ:n'≤1073741824:=by omega
  obtain⟨tb,cP⟩:∃ tb,tb=(decide (n'<n) && !decide (n'=0)):=⟨_,rfl⟩;have bT:=Aa cP;clear cP;go_upto_region 3 with(fail)
  go_cut [24] (fun b wd=>b = .bool tb∧wd=wc)
  case first=>
   by_cases aY:n'<n
   ·have hd:decide (n'<n)=true:=by simpa using aY
    have bE:∃ z,((n':Int)==0)=z:=⟨_,rfl⟩;obtain⟨z,bE⟩:=bE;rw[bE] at hz
    go_wp2_with (go_at_call 126;refine hz.mono ?_;rintro e w1 ⟨rfl,rfl⟩)
    go_meet
    refine⟨?_,rfl⟩;rw[bT.out,hd,←bE]
    congr 1
    rw[Bool.true_and]
    congr 1
    rw[Bool.eq_iff_iff];simp
   ·have hd:decide (n'<n)=false:=by simpa using aY
    go_wp2_with fail
    go_meet
    exact⟨by rw[bT.out,hd];rfl,rfl⟩
  case rest=>
   obtain⟨rfl,rfl⟩:=hcut
   go_upto_if 24 with(fail)
   go_cut [0] (fun s wd=>∃ A2 n2 c2 u2,s = .slice A2 n2 c2∧NatS wd wd.heap.size A2 n2 c2 u2∧NatS wd wd.heap.size A' n' c' v∧n2≤1073741824∧Hid (Nat.gcd u2 v=Nat.gcd x y)∧Below wc.heap.size wc wd)
   case first=>
    cases tb
    ·go_wp2_with fail
     go_meet
     exact⟨A,n,c,u,rfl,ha,hb,hn,hg,Below.refl _ _⟩
    ·have hv:0<v:=by
      have h:=bT.out
      rcases Nat.eq_zero_or_pos v with rfl | h0
      ·have h5:=HB.out
       rw[zam] at h5;simp at h5
       subst h5;simp at h
      ·exact h0
     have cY:=zcK A A' n c n' c' u v wc ha hb hv (by omega)
     go_wp2_with fail
     refine cY.mono ?_;rintro e w1 ⟨A1,m1,c1,A2,m2,c2,rfl,dC,bP,aJ⟩
     go_wp2_with fail
     go_meet
     refine⟨A2,m2,c2,u%v,rfl,bP,hb.later aJ,?_,?_,aJ⟩
     ·have h6:=bP.len
      have h7:=zaa (Nat.le_of_lt (Nat.mod_lt u hv));rw[HB.out] at h7;omega
     ·rw[Hid,←hg.out,←Nat.gcd_rec v u,Nat.gcd_comm]
   case rest=>
    clear ha hb h1 h2 h3 h4 hz HA bT hg hn;obtain⟨A,n,c,u,rfl,ha,hb,hn,hg,aE⟩:=hcut;have aQ:=hT.later aE;have h1:=ha.nc;have h2:=ha.cm;have h3:=hb.nc;have h4:=hb.cm;have bJ:=fun W:World=>zcv A n c W (by omega)
    have bR:=fun W:World=>zcv A' n' c' W (by omega)
    unfold maxLen at h2 h4
    by_cases hu0:n=0
    ·subst hu0
     obtain rfl:u=0:=za2.1 ha.len
     go_wp2_with fail
     refine(bJ _).mono ?_;rintro e w1 ⟨rfl,rfl⟩
     go_wp2_with fail
     go_ret;exact⟨A',n',c',rfl,by rw[←hg.out,Nat.gcd_zero_left];exact hb,aE⟩
    ·have hu:0<u:=by
      rcases Nat.eq_zero_or_pos u with rfl | h
      ·exact absurd (by rw[←ha.len,zam];rfl) hu0
      ·exact h
     have bE:(((n:Nat):Int)==0)=false:=by rw[beq_eq_false_iff_ne];omega
     simp only[bE] at bJ
     by_cases hv0:n'=0
     ·subst hv0
      obtain rfl:v=0:=za2.1 hb.len
      go_wp2_with fail
      refine(bJ _).mono ?_;rintro e w1 ⟨rfl,rfl⟩
      go_wp2_with fail
      refine(bR _).mono ?_;rintro e w1 ⟨rfl,rfl⟩
      go_wp2_with fail
      go_ret;exact⟨A,n,c,rfl,by rw[←hg.out,Nat.gcd_zero_right];exact ha,aE⟩
     ·have hv:0<v:=by
       rcases Nat.eq_zero_or_pos v with rfl | h
       ·exact absurd (by rw[←hb.len,zam];rfl) hv0
       ·exact h
      have cA:(((n':Nat):Int)==0)=false:=by rw[beq_eq_false_iff_ne];omega
      simp only[cA] at bR
      have bW:ntz u≤1099511627776∧ntz v≤1099511627776:=by
       have k1:=zjK hu (by rw[ha.len];exact hn);have k2:=zjK hv (by rw[hb.len];exact bZ);omega
      go_wp2_with fail
      refine(bJ _).mono ?_;rintro e w1 ⟨rfl,rfl⟩
      go_wp2_with fail
      refine(bR _).mono ?_;rintro e w1 ⟨rfl,rfl⟩
      go_wp2_with fail
      refine(zcP A n c u _ aQ ha hu (by omega)).mono ?_;rintro e w1 ⟨rfl,rfl⟩
      go_wp2_with fail
      refine(zaT A n c u (ntz u) _ ha (by omega) bW.1).mono ?_;rintro e w1 ⟨aJ,bP⟩
      rcases bP with⟨_,aU⟩ | ⟨gx,mx,cx,rfl,aD⟩
      ·exact absurd aU (by have:=zeU hu;unfold odd at this;omega)
      have bF:=aQ.later aJ
      go_wp2_with fail
      refine(zcP A' n' c' v _ bF (hb.later aJ) hv (by omega)).mono ?_;rintro e w2 ⟨rfl,rfl⟩
      go_wp2_with fail
      refine(zaT A' n' c' v (ntz v) _ (hb.later aJ) (by omega) bW.2).mono ?_;rintro e w3 ⟨cB,cU⟩
      rcases cU with⟨_,aU⟩ | ⟨gy,my,cy,rfl,aA⟩
      ·exact absurd aU (by have:=zeU hv;unfold odd at this;omega)
      have bM:=aD.below cB;have aW:gx≠gy:=by have:=aD.lt;have:=aA.lt;omega
      have bG:=aA.mono aJ.size;have aR:Below wc.heap.size wc w3:=Ad aJ cB;have aN:mx≤1073741824:=by
       have k1:=aD.len;have k2:=zaa (zgu hu);have k3:=ha.len;unfold odd at k2;omega
      have aM:my≤1073741824:=by
       have k1:=aA.len;have k2:=zaa (zgu hv);have k3:=hb.len;unfold odd at k2;omega
      have HU:=Aa (zcN hu);have HV:=Aa (zcN hv);have cR:=Aa (zeU hu);have cS:=Aa (zeU hv);have HG:Hid (Nat.gcd u v=Nat.gcd (odd u) (odd v)*2^min (ntz u) (ntz v)):=zn1 hu hv;have aL:zav w3 wc.heap.size gx mx cx (digs (odd u)):=bM;have aK:zav w3 wc.heap.size gy my cy (digs (odd v)):=bG;clear aD aA bM bG bJ bR bF aJ cB;obtain⟨U,hU⟩:∃ U,U=odd u:=⟨_,rfl⟩;obtain⟨V,hV⟩:∃ V,V=odd v:=⟨_,rfl⟩;rw[←hU] at HU cR HG aL;rw[←hV] at HV cS HG aK;clear hU hV
      go_upto_block 0 with(fail)
      go_cut [5,6,7] (fun sx sy _ we=>∃ gx mx cx X gy my cy Y,sx = .slice (some ⟨gx,0,none⟩) mx cx∧sy = .slice (some ⟨gy,0,none⟩) my cy∧zav we wc.heap.size gx mx cx (digs X)∧zav we wc.heap.size gy my cy (digs Y)∧mx≤1073741824∧my≤1073741824∧Hid (Nat.gcd X Y=Nat.gcd U V)∧Hid (Y=1∨Nat.gcd X Y=X∧Y≠1)∧Below wc.heap.size wc we)
      case first=>
       go_wp2_with fail
       go_loopg [5,6,7] (U+V) (fun G sx sy _ we=>∃ gx mx cx X gy my cy Y,sx = .slice (some ⟨gx,0,none⟩) mx cx∧sy = .slice (some ⟨gy,0,none⟩) my cy∧gx≠gy∧zav we wc.heap.size gx mx cx (digs X)∧zav we wc.heap.size gy my cy (digs Y)∧mx≤1073741824∧my≤1073741824∧(0<X∧0<Y∧(∃ m,X=2*m+1)∧∃ m,Y=2*m+1)∧Hid (Nat.gcd X Y=Nat.gcd U V)∧Below wc.heap.size wc we∧X+Y≤G)
       case atStart=>exact⟨gx,mx,cx,U,gy,my,cy,V,rfl,rfl,aW,aL,aK,aN,aM,⟨cR.out,cS.out,HU.out.2,HV.out.2⟩,rfl,aR,Nat.le_refl _⟩
       case round=>
        clear aL aK aN aM aW aR;obtain⟨gx,mx,cx,X,gy,my,cy,Y,rfl,rfl,bD,aD,aA,aN,aM,hp,aX,aC,hG⟩:=hrel;obtain⟨we,rfl⟩:∃ we:World,we=wr:=⟨_,rfl⟩;have cT:=aQ.later aC;have aO:=zbA _ mx cx X we aD.nat;have aH:=zbA _ my cy Y we aA.nat;have aP:=zaS _ _ mx cx my cy X Y we aD.nat aA.nat;have HP:=Aa hp;clear hp
        by_cases hX1:X=1
        ·have d1:decide (X=1)=true:=by simpa using hX1
         rw[d1] at aO;have cW:=Aa hX1;clear hX1 d1
         go_wp2_with fail
         refine aO.mono ?_;rintro e w1 ⟨rfl,rfl⟩
         go_wp2_with fail
         go_meet
         refine⟨gx,mx,cx,X,gy,my,cy,Y,rfl,rfl,aD,aA,aN,aM,aX,?_,aC⟩
         by_cases aI:Y=1
         ·exact .inl aI
         ·exact .inr ⟨by rw[cW.out,Nat.gcd_one_left],aI⟩
        ·have d1:decide (X=1)=false:=by simpa using hX1
         rw[d1] at aO
         by_cases aI:Y=1
         ·have d2:decide (Y=1)=true:=by simpa using aI
          rw[d2] at aH;have bV:=Aa aI;clear hX1 d1 aI d2
          go_wp2_with fail
          refine aO.mono ?_;rintro e w1 ⟨rfl,rfl⟩
          go_wp2_with fail
          refine aH.mono ?_;rintro e w1 ⟨rfl,rfl⟩
          go_wp2_with fail
          go_meet
          exact⟨gx,mx,cx,X,gy,my,cy,Y,rfl,rfl,aD,aA,aN,aM,aX,.inl bV.out,aC⟩
         ·have d2:decide (Y=1)=false:=by simpa using aI
          rw[d2] at aH;have bV:=Aa aI;clear hX1 d1 aI d2
          rcases Nat.lt_trichotomy X Y with aY | cC | cZ
          ·rw[ncmp_lt aY] at aP
           go_wp2_with fail
           refine aO.mono ?_;rintro e w1 ⟨rfl,rfl⟩
           go_wp2_with fail
           refine aH.mono ?_;rintro e w1 ⟨rfl,rfl⟩
           go_wp2_with fail
           refine aP.mono ?_;rintro e w1 ⟨rfl,q4,rfl⟩;have aD:=aD.drewN q4;have aA:=aA.drewN q4;have aC:=zac aC q4;have cT:=aQ.later aC;have hp:=HP.out;clear aO aH aP;have bO:X≤Y:=by omega
           have aV:=zdN (some ⟨gy,0,none⟩) (some ⟨gx,0,none⟩) wc.heap.size gy my cy my cy mx cx Y X (digs Y) (we.drewN q4) True aA (zaq Y) aA.nat aD.nat (.inr ⟨rfl,rfl,trivial⟩) (fun _ ad h=>by injection h with h;subst h;exact bD) (Nat.le_refl _) bO (by omega)
           go_wp2_with fail
           refine aV.mono ?_;rintro e w5 ⟨m5,rfl,aG,bN⟩;have aF:0<Y-X:=by omega
           have cF:=aQ.only4 aC bN aA.lt.1;have cK:m5≤1073741824:=by
            have k1:=aG.len;have k2:=zaa (Nat.sub_le Y X);have k3:=aA.len;omega
           go_wp2_with fail
           refine(zcP _ m5 cy (Y-X) _ cF aG.nat aF (by omega)).mono ?_;rintro e w6 ⟨rfl,rfl⟩;have dA:=zjK aF (by rw[aG.len];exact cK);have cG:=zf4 (some ⟨gy,0,none⟩) wc.heap.size gy m5 cy m5 cy (Y-X) (ntz (Y-X)) (digs (Y-X)) w5 True aG (zaq _) aG.nat (.inr ⟨rfl,rfl,trivial⟩) (Nat.le_refl _) (by omega) (by omega) (by rw[←aG.len];exact zlP aF)
           go_wp2_with fail
           refine cG.mono ?_;rintro e w7 ⟨m7,rfl,bK,cH⟩;have cE:m7≤1073741824:=by
            have k1:=bK.len;have k2:=zaa (zgu aF);have k3:=aG.len;unfold odd at k2;omega
           have bI:=zgF bN cH;have bC:=aD.kept bI (by intro e;injection e with e;exact bD e.symm)
           have bB:=aC.grown bI aC.size (fun k hk=>by cases hk;exact aA.lt.1);have bX:zav w7 wc.heap.size gy m7 cy (digs (odd (Y-X))):=bK;have cM:=zgu aF;have aZ:=zeU aF;have bA:=(zcN aF).2;have aS:Hid (Nat.gcd (odd (Y-X)) X=Nat.gcd U V):=by rw[Hid,←aX.out];rw[Nat.gcd_comm X Y];exact zjs hp.2.2.1 (by omega)
           go_wp2_with fail
           go_roundg (odd (Y-X)+X)
           case measure=>omega
           case rel=>exact⟨gy,m7,cy,odd (Y-X),gx,mx,cx,X,rfl,rfl,bD.symm,bX,bC,cE,aN,⟨aZ,hp.1,bA,hp.2.2.1⟩,aS,bB,Nat.le_refl _⟩
          ·rw[cC,ncmp_eq] at aP
           have HE:=Aa cC;clear cC
           go_wp2_with fail
           refine aO.mono ?_;rintro e w1 ⟨rfl,rfl⟩
           go_wp2_with fail
           refine aH.mono ?_;rintro e w1 ⟨rfl,rfl⟩
           go_wp2_with fail
           refine aP.mono ?_;rintro e w1 ⟨rfl,q4,rfl⟩
           go_wp2_with fail
           go_meet
           exact⟨gx,mx,cx,X,gy,my,cy,Y,rfl,rfl,aD.drewN q4,aA.drewN q4,aN,aM,aX,.inr ⟨by rw[HE.out,Nat.gcd_self],bV.out⟩,zac aC q4⟩
          ·rw[ncmp_gt cZ] at aP
           go_wp2_with fail
           refine aO.mono ?_;rintro e w1 ⟨rfl,rfl⟩
           go_wp2_with fail
           refine aH.mono ?_;rintro e w1 ⟨rfl,rfl⟩
           go_wp2_with fail
           refine aP.mono ?_;rintro e w1 ⟨rfl,q4,rfl⟩;have aD:=aD.drewN q4;have aA:=aA.drewN q4;have aC:=zac aC q4;have cT:=aQ.later aC;have hp:=HP.out;clear aO aH aP;have bO:Y≤X:=by omega
           have aV:=zdN (some ⟨gx,0,none⟩) (some ⟨gy,0,none⟩) wc.heap.size gx mx cx mx cx my cy X Y (digs X) (we.drewN q4) True aD (zaq X) aD.nat aA.nat (.inr ⟨rfl,rfl,trivial⟩) (fun _ ad h=>by injection h with h;subst h;exact bD.symm) (Nat.le_refl _) bO (by omega)
           go_wp2_with fail
           refine aV.mono ?_;rintro e w5 ⟨m5,rfl,aG,bN⟩;have aF:0<X-Y:=by omega
           have cF:=aQ.only4 aC bN aD.lt.1;have cK:m5≤1073741824:=by
            have k1:=aG.len;have k2:=zaa (Nat.sub_le X Y);have k3:=aD.len;omega
           go_wp2_with fail
           refine(zcP _ m5 cx (X-Y) _ cF aG.nat aF (by omega)).mono ?_;rintro e w6 ⟨rfl,rfl⟩;have dA:=zjK aF (by rw[aG.len];exact cK);have cG:=zf4 (some ⟨gx,0,none⟩) wc.heap.size gx m5 cx m5 cx (X-Y) (ntz (X-Y)) (digs (X-Y)) w5 True aG (zaq _) aG.nat (.inr ⟨rfl,rfl,trivial⟩) (Nat.le_refl _) (by omega) (by omega) (by rw[←aG.len];exact zlP aF)
           go_wp2_with fail
           refine cG.mono ?_;rintro e w7 ⟨m7,rfl,bK,cH⟩;have cE:m7≤1073741824:=by
            have k1:=bK.len;have k2:=zaa (zgu aF);have k3:=aG.len;unfold odd at k2;omega
           have bI:=zgF bN cH;have bC:=aA.kept bI (by intro e;injection e with e;exact bD e)
           have bB:=aC.grown bI aC.size (fun k hk=>by cases hk;exact aD.lt.1);have bX:zav w7 wc.heap.size gx m7 cx (digs (odd (X-Y))):=bK;have cM:=zgu aF;have aZ:=zeU aF;have bA:=(zcN aF).2;have aS:Hid (Nat.gcd (odd (X-Y)) Y=Nat.gcd U V):=by rw[Hid,←aX.out];exact zjs hp.2.2.2 (by omega)
           go_wp2_with fail
           go_roundg (odd (X-Y)+Y)
           case measure=>omega
           case rel=>exact⟨gx,m7,cx,odd (X-Y),gy,my,cy,Y,rfl,rfl,bD,bX,bC,cE,aM,⟨aZ,hp.2.1,bA,hp.2.2.2⟩,aS,bB,Nat.le_refl _⟩
      case rest=>
       clear aL aK aN aM aW;obtain⟨gx,mx,cx,X,gy,my,cy,Y,rfl,rfl,aD,aA,aN,aM,aX,cI,aC⟩:=hcut;have aH:=fun W:World=>fun h=>zbA (some ⟨gy,0,none⟩) my cy Y W h
       have bQ:=aQ.later aC;have cQ:=ha.later aC;have cN:=hb.later aC;have aT:Nat.gcd x y=Nat.gcd X Y*2^min (ntz u) (ntz v):=by rw[←hg.out,HG.out,aX.out]
       obtain⟨sm,bS⟩:∃ sm,sm=min (ntz u) (ntz v):=⟨_,rfl⟩;have bL:sm≤1099511627776:=by rw[bS];exact Nat.le_trans (Nat.min_le_left _ _) bW.1
       have dB:min ((ntz u:Nat):Int) ((ntz v:Nat):Int)=(sm:Int):=by rw[bS];omega
       rw[←bS] at aT;have HM:=Aa aT;clear aT bS
       rcases cI.out with bY | ⟨cO,aI⟩
       ·have d2:decide (Y=1)=true:=by simpa using bY
        have ho:=aH _ aA.nat;rw[d2] at ho;have HY:=Aa bY;clear aH d2 bY
        go_wp2_with fail
        refine ho.mono ?_;rintro e w4 ⟨rfl,rfl⟩
        go_wp2_with fail
        refine(zcP A n c u _ bQ cQ hu (by omega)).mono ?_;rintro e w4 ⟨rfl,rfl⟩
        go_wp2_with fail
        refine(zcP A' n' c' v _ bQ cN hv (by omega)).mono ?_;rintro e w4 ⟨rfl,rfl⟩;have bH:=zaw (some ⟨gy,0,none⟩) my cy Y sm _ aA.nat (by omega) bL;have cJ:=Aa bH;clear bH
        go_wp2_with fail
        refine cJ.out.mono ?_;rintro e w5 ⟨A5,m5,c5,rfl,cL,bU⟩
        go_wp2_with fail
        go_ret;refine⟨A5,m5,c5,rfl,?_,aE.trans ((aC.trans (bU.mono aC.size)).mono aE.size)⟩;rw[HM.out,show Nat.gcd X Y=Y by rw[HY.out,Nat.gcd_one_right]];exact cL
       ·have d2:decide (Y=1)=false:=by simpa using aI
        have ho:=aH _ aA.nat;rw[d2] at ho;have cV:=Aa cO;clear aH d2 cO aI
        go_wp2_with fail
        refine ho.mono ?_;rintro e w4 ⟨rfl,rfl⟩
        go_wp2_with fail
        refine(zcP A n c u _ bQ cQ hu (by omega)).mono ?_;rintro e w4 ⟨rfl,rfl⟩
        go_wp2_with fail
        refine(zcP A' n' c' v _ bQ cN hv (by omega)).mono ?_;rintro e w4 ⟨rfl,rfl⟩;have bH:=zaw (some ⟨gx,0,none⟩) mx cx X sm _ aD.nat (by omega) bL;have cJ:=Aa bH;clear bH
        go_wp2_with fail
        refine cJ.out.mono ?_;rintro e w5 ⟨A5,m5,c5,rfl,cL,bU⟩
        go_wp2_with fail
        go_ret;refine⟨A5,m5,c5,rfl,?_,aE.trans ((aC.trans (bU.mono aC.size)).mono aE.size)⟩;rw[HM.out,cV.out];exact cL
end Go.Proofs.YtmkondcdejlhcaaGreatDoor
