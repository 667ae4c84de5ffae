/- Contract of over: the integer part of a quotient, and the remainder. -/
import Derived.Test.YtbkgkoenppkhpaaGreatDoorBNum3
import Derived.Laws.CopyOwn
set_option maxRecDepth 100000
set_option maxHeartbeats 8000000
namespace Go.Proofs.YtbkgkoenppkhpaaGreatDoor
open Go.RowKit Bn
def zfY (w:World) (x y:Nat) (e:Ending) (w':World):Prop:=
 ∃ A1 m1 c1 A2 m2 c2,e = .returned (.tuple #[.slice A1 m1 c1,.slice A2 m2 c2])∧NatS w' w'.heap.size A1 m1 c1 x∧NatS w' w'.heap.size A2 m2 c2 y∧Below w.heap.size w w'
theorem zav.block{w:World}{base g n:Nat}{l:List Nat}(h:zav w base g n n l):w.heap[g]? = some (.cells (l.map u64v).toArray 116 (0,0)):=by
 rcases h.2 with⟨h',_⟩ | ⟨g',aC,aF,h',hb,hg,aE,aG,aD,aA⟩
 ·simp at h'
 ·simp only[Value.slice.injEq,Option.some.injEq,Addr.mk.injEq,and_true,true_and] at h'
  obtain⟨rfl,rfl⟩:=h';rw[hg,←aA,List.take_of_length_le (by rw[Array.length_toList,aD];exact Nat.le_refl _)]
theorem zav.of_block{w:World}{base g n:Nat}{l:List Nat}(h:w.heap[g]? = some (.cells (l.map u64v).toArray 116 (0,0)))(hb:base≤g)(hl:l.length=n)(hn:n≤maxLen):zav w base g n n l:=by
 refine⟨by simp[hl],.inr ⟨g,n,(l.map u64v).toArray,rfl,hb,h,Nat.le_refl _,hn,by simp[hl],?_⟩⟩;rw[List.take_of_length_le (by simp[hl])]
theorem zfa(l:List Nat)(k:Nat):val (l++List.replicate k 0)=val l:=by rw[zaQ,za2,Nat.mul_zero,Nat.add_zero]
theorem zlZ{l l':List Nat}(j:Nat)(hl:l.length=l'.length)(h:∀ t,t<j→l.getD t 0=l'.getD t 0):l.take j=l'.take j:=by
 apply List.ext_getElem
 ·simp[hl]
 ·intro t h1 h2
  rw[List.length_take] at h1 h2;simp only[List.getElem_take]
  have:=h t (by omega)
  rwa [Bn.getD_in (by omega),Bn.getD_in (by omega)] at this
theorem zlN{l l':List Nat}(j:Nat)(hl:l.length=l'.length)(h:∀ t,j≤t→l.getD t 0=l'.getD t 0):l.drop j=l'.drop j:=by
 apply List.ext_getElem
 ·simp[hl]
 ·intro t h1 h2
  rw[List.length_drop] at h1 h2;simp only[List.getElem_drop]
  have:=h (j+t) (by omega)
  rwa [Bn.getD_in (by omega),Bn.getD_in (by omega)] at this
theorem znx(lr lr' lq:List Nat)(j n q D X R:Nat)(hw:Wf lr)(hl:lr'.length=lr.length)(hlen:j+n+1≤lr.length)(hlq:j<lq.length)(hDn:D≤B^n)(hD0:0<D)
 (hX:val lr+D*(B^(j+1)*val (lq.drop (j+1)))=X)(hlt:val (lr.drop (j+1))<D)(hR:R=val ((lr.drop j).take (n+1)))
 (hR':val ((lr'.drop j).take (n+1))=R%D)(hq:q=R/D)(hsame:∀ t,t<j∨j+n+1≤t→lr'.getD t 0=lr.getD t 0) :
  val lr'+D*(B^j*val ((lq.set j q).drop j))=X∧val (lr'.drop j)<D:=by
 have e1:=zgs lr j (by omega);have aA:=zaH hw j;have h1:val (lr.drop j)<D*B:=by
  rw[e1,val_cons];have h:B*(val (lr.drop (j+1))+1)≤B*D:=Nat.mul_le_mul_left _ hlt;rw[Nat.mul_add,Nat.mul_one,Nat.mul_comm B D] at h;have:lr.getD j 0<B:=aA;omega
 have h2:=zay (lr.drop j) (n+1) (by rw[List.length_drop];omega);rw[←hR] at h2;have hz:val ((lr.drop j).drop (n+1))=0:=by
  rcases Nat.eq_zero_or_pos (val ((lr.drop j).drop (n+1))) with h | h
  ·exact h
  ·exfalso
   have h3:B^(n+1)*1≤B^(n+1)*val ((lr.drop j).drop (n+1)):=Nat.mul_le_mul_left _ h;have h4:D*B≤B^(n+1):=by rw[Nat.pow_succ];exact Nat.mul_le_mul_right _ hDn
   omega
 have h3:=zay (lr'.drop j) (n+1) (by rw[List.length_drop,hl];omega);have hd:(lr'.drop j).drop (n+1)=(lr.drop j).drop (n+1):=by
  rw[List.drop_drop,List.drop_drop];exact zlN _ hl (fun t ht=>hsame t (by omega))
 rw[hd,hz,Nat.mul_zero,Nat.add_zero,hR'] at h3;rw[hz,Nat.mul_zero,Nat.add_zero] at h2;have h4:=Nat.mod_lt R hD0;refine⟨?_,by omega⟩;have h5:=zay lr j (by omega);have h6:=zay lr' j (by omega);rw[zlZ (l:=lr') (l':=lr) j hl (fun t ht=>hsame t (.inl ht)),h3] at h6;rw[h2] at h5;rw[ze4 lq j q hlq,val_cons,←hX,h5,h6,hq];have h7:=Nat.div_add_mod R D;have h8:B^j*R=B^j*(D*(R/D))+B^j*(R%D):=by rw[←Nat.mul_add,h7]
 have h9:D*(B^j*(R/D+B*val (lq.drop (j+1))))=B^j*(D*(R/D))+D*(B^(j+1)*val (lq.drop (j+1))):=by
  rw[Nat.mul_add (B^j),Nat.mul_add D,Nat.mul_left_comm D (B^j),Nat.pow_succ,Nat.mul_assoc]
 rw[h8,h9];omega
theorem zoq(lr:List Nat)(j n D:Nat)(hw:Wf lr)(hlt:val (lr.drop (j+1))<D)(hj:j<lr.length):val ((lr.drop j).take (n+1))<D*B:=by
 have e1:=zgs lr j hj;have aA:lr.getD j 0<B:=zaH hw j;have h1:val (lr.drop j)<D*B:=by
  rw[e1,val_cons];have h:B*(val (lr.drop (j+1))+1)≤B*D:=Nat.mul_le_mul_left _ hlt;rw[Nat.mul_add,Nat.mul_one,Nat.mul_comm B D] at h;omega
 rcases Nat.lt_or_ge (n+1) (lr.drop j).length with h | h
 ·have h2:=zay (lr.drop j) (n+1) (by omega)
  omega
 ·rw[List.take_of_length_le h];exact h1
theorem zmC(X D x y s la n:Nat)(lr:List Nat)(hw:Wf lr)(hla:(digs x).length=la)(hn:(digs y).length=n)(hy:0<y)(hle:n≤la)(hX:val lr=X)(eX:X=x*2^s)(eD:D=y*2^s)(hlen:la-n+1≤lr.length) :
  val (lr.drop (la-n+1))<D:=by
 rw[zfE hw _ hlen,hX,Nat.div_lt_iff_lt_mul (Nat.pow_pos zaS),eX,eD];have h1:=zac x;rw[hla] at h1;have h2:=zaG hy;rw[hn] at h2;have aA:0<n:=by rw[←hn];exact zap hy
 have h3:B^la=B^(n-1)*B^(la-n+1):=by rw[←Nat.pow_add];congr 1;omega
 have h4:x<y*B^(la-n+1):=by
  have:=Nat.mul_le_mul_right (B^(la-n+1)) h2;omega
 rw[Nat.mul_assoc,Nat.mul_comm (2^s),←Nat.mul_assoc];exact(Nat.mul_lt_mul_right (Nat.two_pow_pos s)).2 h4
theorem zn6(X D x y s V Q:Nat)(eX:X=x*2^s)(eD:D=y*2^s)(hy:0<y)(h:V+D*Q=X)(hlt:V<D):Q=x/y∧V/2^s=x%y:=by
 have hp:=Nat.two_pow_pos s;have hD:0<D:=by omega
 have h1:Q=X/D:=by
  rw[←h,Nat.add_comm,Nat.mul_add_div hD,Nat.div_eq_of_lt hlt,Nat.add_zero]
 have h2:V=X%D:=by
  rw[←h,Nat.add_comm,Nat.mul_add_mod,Nat.mod_eq_of_lt hlt]
 have _:=hy
 constructor
 ·rw[h1,eX,eD,Nat.mul_div_mul_right _ _ hp]
 ·rw[h2,eX,eD,Nat.mul_mod_mul_right,Nat.mul_div_cancel _ hp]
theorem zl2(A A':Option Addr)(n c n' c' x y:Nat)(w:World)(ha:NatS w w.heap.size A n c x)(hb:NatS w w.heap.size A' n' c' y)(hlt:x<y) :
  Calls Tryz.prog 132 #[.slice A n c,.slice A' n' c'] w (zfY w (x/y) (x%y)):=by
 have hc:=zaU A A' n c n' c' x y w ha hb;rw[ncmp_lt hlt] at hc;go_enter Tryz.func132,Tryz.ntmps132
 go_wp2_with fail
 refine hc.mono ?_;rintro e w1 ⟨rfl,q,rfl⟩;go_wp2
 go_ret2
 refine⟨none,0,0,A,n,c,rfl,?_,?_,zad (Below.refl _ _) q⟩
 ·rw[Nat.div_eq_of_lt hlt];exact NatS.nil _ _
 ·rw[Nat.mod_eq_of_lt hlt];exact⟨ha.words,ha.nc,ha.cm⟩
theorem zom(A A':Option Addr)(n c c' x y:Nat)(w:World)(ha:NatS w w.heap.size A n c x)(hb:NatS w w.heap.size A' 1 c' y)(hle:y≤x)(hy:0<y)(hn:n≤1099511627776) :
  Calls Tryz.prog 132 #[.slice A n c,.slice A' 1 c'] w (zfY w (x/y) (x%y)):=by
 have hc:=zaU A A' n c 1 c' x y w ha hb;have aI:0≤ncmp x y:=by
  unfold ncmp;rw[if_neg (by omega)]
  split<;>omega
 obtain⟨v,hv⟩:∃ v,v=ncmp x y:=⟨_,rfl⟩;rw[←hv] at hc aI;clear hv;have hB:=hb.len;obtain⟨ad,rfl,aL,aA⟩:=hb.words.word (k:=0) (by omega);have e0:ad.add 0=ad:=by simp[Addr.add]
 have aE:(digs y).getD 0 0=y:=by
  match hd:digs y,hB with
  | [d],_=>
   have:=zak y;rw[hd] at this
   simpa using this
 have aG:=zaH (zaq y) 0;rw[aE] at aA aG;rw[e0] at aA;have HY:=Aa aE;have HB:=Aa hB;clear aE e0 hB;go_enter Tryz.func132,Tryz.ntmps132
 go_wp2_with fail
 refine hc.mono ?_;rintro e w1 ⟨rfl,q,rfl⟩;have aJ:=zbb A n c x y (w.drewN q) ⟨ha.words,ha.nc,ha.cm⟩ hn hy aG
 go_wp2_with fail
 refine aJ.mono ?_;rintro e w2 ⟨m,c2,rfl,aF,aD⟩;have aH:=zai ((x%y:Nat):Int) w2 (by omega) (by have:=Nat.mod_lt x hy;omega);rw[Int.toNat_natCast] at aH
 go_wp2_with fail
 refine aH.mono ?_;rintro e w3 ⟨A3,m3,c3,rfl,aK,aC⟩;go_wp2
 go_ret2
 exact⟨_,m,c2,A3,m3,c3,rfl,aF.nat.later aC,aK,(zad (Below.refl w.heap.size w) q).trans (aD.trans (aC.mono aD.size))⟩
theorem znZ(A A':Option Addr)(n c n' c' x y:Nat)(w:World)(ha:NatS w w.heap.size A n c x)(hb:NatS w w.heap.size A' n' c' y)(hle:y≤x)(hn2:2≤n')(hn:n≤549755813888) :
  Calls Tryz.prog 132 #[.slice A n c,.slice A' n' c'] w (zfY w (x/y) (x%y)):=by
 obtain⟨i0,bP,cJ,bZ,cR⟩:=info_parts zct;have hc:=zaU A A' n c n' c' x y w ha hb;have dU:0≤ncmp x y:=by
  unfold ncmp;rw[if_neg (by omega)]
  split<;>omega
 obtain⟨v,hv⟩:∃ v,v=ncmp x y:=⟨_,rfl⟩;rw[←hv] at hc dU;clear hv;have hA:=Aa ha.len;have hB:=Aa hb.len;have bX:n'≤n:=by rw[←ha.len,←hb.len];exact zaa hle
 have hy:0<y:=by
  rcases Nat.eq_zero_or_pos y with rfl | h
  ·have:=hb.len
   rw[zal] at this;simp at this
   omega
  ·exact h
 have h1:=ha.nc;have h2:=ha.cm;have h3:=hb.nc;have h4:=hb.cm;unfold maxLen at h2 h4;obtain⟨ad,rfl,fH,dG⟩:=hb.words.word (k:=n'-1) (by omega);have cH:=zaH (zaq y) (n'-1);obtain⟨t,gt⟩:∃ t,(digs y).getD (n'-1) 0=t:=⟨_,rfl⟩;rw[gt] at dG cH;have dW:t≠0:=by
  have:=zdc y (by rw[hB.out];omega);rw[←gt,Bn.getD_in (by rw[hB.out];omega)]
  simpa only[hB.out] using this
 obtain⟨b1,b2,b3⟩:=Lib.bitLenAux_bounds 64 t (by simpa using cH) dW;have b4:=Lib.bitLen_le t 64 (Nat.le_refl _) (by simpa using cH);have hl:=fun W:World=>Tryz.bits_LeadingZeros64 (t:Int) W (by omega) (by omega)
 have eb:Lib.bitLen t=Lib.bitLenAux 64 t:=rfl;rw[←eb] at b1 b2 b3;obtain⟨b,cA⟩:∃ b,b=Lib.bitLen t:=⟨_,rfl⟩;rw[←cA] at b1 b2 b3 b4;obtain⟨s,hs⟩:∃ s,s=64-b:=⟨_,rfl⟩;have cN:∀ W:World,Calls Tryz.prog 187 #[.int .u64 (t:Int)] W fun e w'=>e = .returned (.int .i64 (s:Int))∧w'=W:=fun W=>by
  have h:=hl W;rw[Int.toNat_natCast,←cA,show(64-(b:Int))=(s:Int) from by omega] at h;exact h
 have HL:=Aa cN;have dT:s≤63:=by omega
 have cT:zaP y=64*(n'-1)+b:=zgM hy (n'-1) (by rw[hB.out];omega) t b gt b1 b2 b3;obtain⟨D,hD⟩:∃ D,D=y*2^s:=⟨_,rfl⟩;obtain⟨X,hX⟩:∃ X,X=x*2^s:=⟨_,rfl⟩;have bB:D<B^n':=by
  have h5:=zfN y;rw[cT] at h5;have h6:=(Nat.mul_lt_mul_right (Nat.two_pow_pos s)).2 h5;rw[←Nat.pow_add,show 64*(n'-1)+b+s=64*n' from by omega,Nat.pow_mul,←zfd] at h6;rw[hD];exact h6
 have cP:y≤D:=by rw[hD];exact Nat.le_mul_of_pos_right _ (Nat.two_pow_pos s)
 have aS:(digs D).length=n':=by
  have h5:=zab bB;have h6:=zaa cP;rw[hB.out] at h6;omega
 have aN:(digs X).length≤n+1:=by
  refine zab ?_;rw[hX,Nat.pow_succ];have h5:=zac x;rw[hA.out] at h5;have h6:2^s≤B:=by rw[zfd];exact Nat.pow_le_pow_right (by omega) (by omega)
  exact Nat.lt_of_lt_of_le ((Nat.mul_lt_mul_right (Nat.two_pow_pos s)).2 h5) (Nat.mul_le_mul_left _ h6)
 have fE:=zaw;have HD:=Aa hD;have HX:=Aa hX;have dY:=Aa aS;have fF:=Aa aN;have dX:=Aa bB;clear hl cN cA hs b1 b2 b3 b4 eb gt cT hD hX aS aN bB cP fE;go_enter Tryz.func132,Tryz.ntmps132
 go_wp2_with fail
 refine hc.mono ?_;rintro e w1 ⟨rfl,q,rfl⟩;have fJ:(((n':Nat):Int)==1)=false:=by rw[beq_eq_false_iff_ne];omega
 go_wp2_with fail
 refine(HL.out _).mono ?_;rintro e w1 ⟨rfl,rfl⟩;have cM:=zaw (some ad) n' c' y s (w.drewN q) ⟨hb.words,hb.nc,hb.cm⟩ (by omega) (by omega);rw[←HD.out] at cM
 go_wp2_with fail
 refine cM.mono ?_;rintro e w2 ⟨AD,nD,cD,rfl,aT,aX⟩;have dR:nD=n':=by rw[←aT.len,dY.out]
 subst dR
 go_wp2_with (at_make;refine wpList_make_full _ rfl _ _ 85 rfl w.heap.size 116 i0 (.int .u64 0) 1 Tryz.underlying85 bP cJ bZ _ _ _ _ (n+1) rfl rfl (by omega) (by omega) ?b2 ?b3 aX.size ?_)
 case b2=>rw[cR];omega
 case b3=>unfold maxLen;omega
 intro w3 aM aH;have aL:=zav.made aM;have bR:Below w2.heap.size w2 w3:=(Below.refl _ _).grown aH (Nat.le_refl _) (fun k h=>by cases h);have aC:Below w.heap.size w w2:=(zad (Below.refl w.heap.size w) q).trans aX;have bW:Below w.heap.size w w3:=Ad aC bR;have cZ:=zaw A n c x s w3 (ha.later bW) (by omega) (by omega);rw[←HX.out] at cZ;clear aM aH
 go_wp2_with fail
 refine cZ.mono ?_;rintro e w4 ⟨AX,mX,cX,rfl,aP,aF⟩;have cK:Below w2.heap.size w2 w4:=Ad bR aF;have aR:=aL.below aF;have cV:mX≤n+1:=by rw[←aP.len];exact fF.out
 have bM:=Aa aR;clear aL aR
 go_wp2_with (with_reducible refine wpList_copy_splice rfl (.tmp 46) (.tmp 49) 85 85 rfl 116 Tryz.underlying85 ?sz (some ⟨w2.heap.size,0,none⟩) AX (n+1) (n+1) mX cX rfl rfl w2.heap.size 0 ((List.replicate (n+1) 0).map u64v) 116 bM.out.block ((digs X).map u64v) ?cn ?cp ?cf ?c1 w2.heap.size w4 (Below.refl _ _) (Nat.le_refl _) ?_)
 case sz=>rw[bP];simp[bZ]
 case cn=>rw[List.length_map,aP.len];exact(Nat.min_eq_left cV).symm
 case cp=>
  intro h0;have dV:0<mX:=by rw[←aP.len];simpa using h0
  obtain⟨dF,ex,_,fD⟩:=aP.words.2 dV;exact⟨dF,ex,fun j a h=>fD j _ (by rw[List.getElem?_map,h];rfl)⟩
 case cf=>simp[aP.len];exact cV
 case c1=>exact zoC _
 intro w5 dD cQ;have bS:(digs X++List.replicate (n+1-mX) 0).length=n+1:=by rw[List.length_append,aP.len,List.length_replicate];omega
 have aA:zav w5 w.heap.size w2.heap.size (n+1) (n+1) (digs X++List.replicate (n+1-mX) 0):=by
  refine zav.of_block ?_ aC.size bS (by unfold maxLen;omega);have h5:=dD.out;rw[h5]
  congr 3
  simp[splice,aP.len]
 have aK:Wf (digs X++List.replicate (n+1-mX) 0):=(zaq X).append (Wf.replicate _);have bO:val (digs X++List.replicate (n+1-mX) 0)=X:=by rw[zfa,zak]
 have bD:Below w2.heap.size w2 w5:=cK.trans cQ;have aY:=aT.later bD;have aQ:0<nD→Off AD w2.heap.size:=aT.off (Nat.le_refl _);clear dD cQ bM aP aF aT bR cK;obtain⟨lr,cU⟩:∃ lr,lr=digs X++List.replicate (n+1-mX) 0:=⟨_,rfl⟩;rw[←cU] at aA aK bO bS;clear cU;have aI:Below w.heap.size w w5:=Ad aC bD
 go_wp2_with (at_make;refine wpList_make_full _ rfl _ _ 85 rfl w.heap.size 116 i0 (.int .u64 0) 1 Tryz.underlying85 bP cJ bZ _ _ _ _ (n-nD+1) rfl rfl (by omega) (by omega) ?b4 ?b5 aI.size ?_)
 case b4=>rw[cR];omega
 case b5=>unfold maxLen;omega
 intro w6 aO aG;have aW:=zav.made aO;have bQ:Below w5.heap.size w5 w6:=(Below.refl _ _).grown aG (Nat.le_refl _) (fun k h=>by cases h);have aD:=aA.below bQ;have bF:=aY.later bQ;have bL:Below w.heap.size w w6:=Ad aI bQ;have bI:w2.heap.size≠w5.heap.size:=by have:=aA.lt;omega
 have aU:=zmC X D x y s n nD lr aK hA.out hB.out hy bX bO HX.out HD.out (by rw[bS];omega);have cE:0<nD→Off AD w5.heap.size:=aY.off (Nat.le_refl _);have HI:=Aa aU;have dA:=Aa bO;clear aU bO aO aG aA aY bS bD;have cW:0<D:=by rw[HD.out];exact Nat.mul_pos hy (Nat.two_pow_pos s)
 go_wp2_with fail
 go_loopw [12] (fun sl wr=>∃ (k:Nat) (i:Int),i=(k:Int)-1∧k≤n-nD+1∧sl = .int .i64 i∧∃ lr lq,zav wr w.heap.size w2.heap.size (n+1) (n+1) lr∧Wf lr∧zav wr w.heap.size w5.heap.size (n-nD+1) (n-nD+1) lq∧Wf lq ∧
   Hid (val lr+D*(B^k*val (lq.drop k))=X)∧Hid (val (lr.drop k)<D)∧NatS wr wr.heap.size AD nD cD D∧Below w.heap.size w wr) (fun sl _=>(intOf sl+1).toNat)
 case atStart=>
  refine⟨n-nD+1,_,rfl,Nat.le_refl _,by congr 1;omega,lr,_,aD,aK,aW,Wf.replicate _,?_,HI,bF,bL⟩;rw[Hid,List.drop_of_length_le (by simp),val_nil,Nat.mul_zero,Nat.mul_zero,Nat.add_zero];exact dA.out
 case round=>
  clear aD aK aW HI dA bF bL bQ;obtain⟨k,i,hi,hk,rfl,lr,lq,bC,bK,bU,cL,hX,bN,aT,aJ⟩:=hrel
  by_cases hk0:0<k
  ·obtain⟨j,rfl⟩:∃ j,k=j+1:=⟨k-1,by omega⟩
   obtain rfl:i=(j:Int):=by omega
   clear hi;have bY:val ((lr.drop j).take (nD+1))<D*B:=by
    have h6:=zoq lr j nD D bK bN.out (by rw[bC.len];omega);exact h6
   have cO:=zgW AD w.heap.size w2.heap.size j (n+1) (n+1) nD (n+1-j) cD D lr wr bC bK aT (fun h=>aQ h) hn2 (by omega) (by omega) bY;have cS:=Aa cO;have bH:val ((lr.drop j).take (nD+1))/D<18446744073709551616:=by
    rw[Nat.div_lt_iff_lt_mul cW,Nat.mul_comm];exact bY
   obtain⟨q1,cB⟩:∃ q1,q1=val ((lr.drop j).take (nD+1))/D:=⟨_,rfl⟩;rw[←cB] at cS bH;have HQ:=Aa cB;clear cB cO bY
   go_wp2_with fail
   rw[show j+nD+1-j=nD+1 from by omega];refine cS.out.mono ?_;rintro e wd ⟨rfl,dB,aZ,bV,aV,aE,bT⟩;have bA:=bU.kept bT (by simpa using bI);have dL:=bA.cell j (by omega);have fK:=bA.free j;generalize lq.getD j 0=old at dL;obtain⟨f1,f2⟩:=znx lr dB lq j nD q1 D X _ bK (by rw[aZ.len,bC.len]) (by rw[bC.len];omega) (by rw[bU.len];omega) (Nat.le_of_lt dX.out) cW hX.out bN.out rfl aV HQ.out aE;have F1:=Aa f1;have F2:=Aa f2;have fG:Below w.heap.size w wd:=aJ.grown bT aJ.size (fun k hk=>by cases hk;exact aC.size);have cG:wd.grownBy (wd.setCell ⟨w5.heap.size,j,none⟩ (.int .u64 (q1:Int))) (some w5.heap.size):=zbf (World.grownBy.refl wd _) (p:=⟨w5.heap.size,j,none⟩) (.inl rfl) _;have bJ:=aZ.kept cG (by simpa using fun h=>bI h.symm);have bG:=bA.set j q1;have bE:=(aT.kept bT aQ).kept cG (fun h0=>cE h0);have dC:Below w.heap.size w (wd.setCell ⟨w5.heap.size,j,none⟩ (.int .u64 (q1:Int))):=fG.setCell (p:=⟨w5.heap.size,j,none⟩) aI.size _;have dI:=Aa bJ;have fA:=Aa bG;have dK:=Aa bE;have dM:=Aa dC;have dJ:=Aa bV;clear f1 f2 cG bJ bG bE dC aV aE bT hX bN bC aZ bU aT;go_wp2
   go_roundw
   case rel=>exact⟨j,(j:Int)-1,rfl,by omega,by go_num,dB,_,dI.out,dJ.out,fA.out,cL.set j bH,F1.out,F2.out,dK.out,dM.out⟩
   case measure=>simp[intOf]<;>omega
  ·obtain rfl:k=0:=by omega
   have bP:i<0:=by omega
   clear hi;obtain⟨g1,g2⟩:=zn6 X D x y s (val lr) (val lq) HX.out HD.out hy (by have h:=hX.out;rwa [Nat.pow_zero,Nat.one_mul,List.drop_zero] at h) (by have h:=bN.out;rwa [List.drop_zero] at h);have cF:=zb8 w.heap.size w5.heap.size (n-nD+1) (n-nD+1) lq wr bU cL;rw[g1] at cF;have dZ:=Aa cF;have fC:=Aa (zb8 w.heap.size w2.heap.size (n+1) (n+1) lr wr bC bK);have dQ:=Aa g2;clear cF g1 g2 hX bN
   go_wp2_with fail
   refine dZ.out.mono ?_;rintro e w7 ⟨m7,rfl,fB,rfl⟩
   go_wp2_with fail
   refine fC.out.mono ?_;rintro e w8 ⟨m8,rfl,cI,rfl⟩;have fI:m8≤n+1:=by
    have h9:=cI.len;have dH:=zab (zbA bK);rw[bC.len] at dH;omega
   have cY:=zaV (some ⟨w2.heap.size,0,none⟩) m8 (n+1) (val lr) s wr cI.nat (by omega) (by omega);rw[dQ.out] at cY
   go_wp2_with fail
   refine cY.mono ?_;rintro e w9 ⟨cC,dN⟩;obtain⟨A9,m9,c9,dO,dP,_⟩:=dN.ret cC;subst dO;go_wp2
   go_ret2
   exact⟨_,m7,_,A9,m9,c9,rfl,fB.nat.later cC,dP,aJ.trans (cC.mono aJ.size)⟩
theorem zcU(A A':Option Addr)(n c n' c' x y:Nat)(w:World)(ha:NatS w w.heap.size A n c x)(hb:NatS w w.heap.size A' n' c' y)(hy:0<y)(hn:n≤549755813888) :
  Calls Tryz.prog 132 #[.slice A n c,.slice A' n' c'] w (zfY w (x/y) (x%y)):=by
 rcases Nat.lt_or_ge x y with h | h
 ·exact zl2 A A' n c n' c' x y w ha hb h
 ·have h1:0<n':=by rw[←hb.len];exact zap hy
  rcases Nat.lt_or_ge n' 2 with h2 | h2
  ·obtain rfl:n'=1:=by omega
   exact zom A A' n c c' x y w ha hb h hy (by omega)
  ·exact znZ A A' n c n' c' x y w ha hb h h2 hn
theorem zgH(m:Nat):Nat.Coprime 2 (2*m+1):=by
 unfold Nat.Coprime;rw[Nat.gcd_rec,Nat.mul_add_mod,Nat.gcd_comm];rfl
theorem zeB(k a m:Nat):Nat.gcd (2^k*a) (2*m+1)=Nat.gcd a (2*m+1):=
 Nat.Coprime.gcd_mul_left_cancel a (Nat.Coprime.pow_left k (zgH m))
def odd (n:Nat):Nat:=n/2^ntz n
theorem zcV {n:Nat} (h:0<n):n=2^ntz n*odd n∧∃ m,odd n=2*m+1:=by
 obtain⟨m,hm⟩:=zid h;have e:odd n=2*m+1:=by
  unfold odd
  conv=>lhs;lhs;rw[hm]
  rw[Nat.mul_div_cancel_left _ (Nat.two_pow_pos _)]
 exact⟨by rw[e];exact hm,m,e⟩
theorem zfg{n:Nat}(h:0<n):0<odd n:=by
 obtain⟨_,m,e⟩:=zcV h;omega
theorem zkg{n k:Nat}(h:0<n)(hk:(digs n).length≤k):ntz n≤64*k:=by
 obtain⟨m,hm⟩:=zid h;have h1:=zac n;have h2:B^(digs n).length≤B^k:=Nat.pow_le_pow_right zaS hk;have h3:2^ntz n≤n:=by
  conv=>rhs;rw[hm]
  exact Nat.le_mul_of_pos_right _ (by omega)
 rcases Nat.lt_or_ge (64*k) (ntz n) with h4 | h4
 ·exfalso
  have h5:2^(64*k)≤2^ntz n:=Nat.pow_le_pow_right (by omega) (by omega);rw[Nat.pow_mul,←zfd] at h5;omega
 ·exact h4
theorem zmn{n:Nat}(h:0<n):ntz n/64<(digs n).length:=by
 obtain⟨m,hm⟩:=zid h;have h1:=zac n;have h3:2^ntz n≤n:=by
  conv=>rhs;rw[hm]
  exact Nat.le_mul_of_pos_right _ (by omega)
 rcases Nat.lt_or_ge (ntz n/64) (digs n).length with h4 | h4
 ·exact h4
 ·exfalso
  have h5:2^(64*(digs n).length)≤2^ntz n:=Nat.pow_le_pow_right (by omega) (by omega);rw[Nat.pow_mul,←zfd] at h5;omega
theorem zin(s t a b:Nat)(ha:∃ m,a=2*m+1)(hb:∃ m,b=2*m+1):Nat.gcd (2^s*a) (2^t*b)=2^min s t*Nat.gcd a b:=by
 obtain⟨m,rfl⟩:=ha;obtain⟨k,rfl⟩:=hb
 rcases Nat.le_total s t with h | h
 ·obtain⟨d,rfl⟩:∃ d,t=s+d:=⟨t-s,by omega⟩
  rw[Nat.min_eq_left h,Nat.pow_add,Nat.mul_assoc,Nat.gcd_mul_left,Nat.gcd_comm,zeB,Nat.gcd_comm]
 ·obtain⟨d,rfl⟩:∃ d,s=t+d:=⟨s-t,by omega⟩
  rw[Nat.min_eq_right h,Nat.pow_add,Nat.mul_assoc,Nat.gcd_mul_left,zeB]
theorem zoL{x y:Nat}(hx:0<x)(hy:0<y):Nat.gcd x y=Nat.gcd (odd x) (odd y)*2^min (ntz x) (ntz y):=by
 obtain⟨e1,o1⟩:=zcV hx;obtain⟨e2,o2⟩:=zcV hy;have h:=zin (ntz x) (ntz y) (odd x) (odd y) o1 o2;rw[←e1,←e2] at h;rw[h,Nat.mul_comm]
theorem zkc{x y:Nat}(hy:∃ m,y=2*m+1)(hlt:y<x):Nat.gcd (odd (x-y)) y=Nat.gcd x y:=by
 obtain⟨e,_⟩:=zcV (n:=x-y) (by omega);obtain⟨m,rfl⟩:=hy;have h1:Nat.gcd (x-(2*m+1)) (2*m+1)=Nat.gcd x (2*m+1):=Nat.gcd_sub_self_left (by omega);rw[←h1]
 conv=>rhs;rw[e]
 rw[zeB]
theorem zhq{n:Nat}(_h:0<n):odd n≤n:=Nat.div_le_self _ _
theorem zeN (A A':Option Addr) (n c n' c' x y:Nat) (w:World) (hT:Tabs w) (ha:NatS w w.heap.size A n c x) (hb:NatS w w.heap.size A' n' c' y) (hn:n≤1073741824) (hn':n'≤1073741824) :
  Calls Tryz.prog 127 #[.slice A n c,.slice A' n' c'] w (zcj w (Nat.gcd x y)):=by
 have h1:=ha.nc;have h2:=ha.cm;have h3:=hb.nc;have h4:=hb.cm;unfold maxLen at h2 h4;go_enter Tryz.func127,Tryz.ntmps127
 go_upto_if 12 with(fail)
 go_cut [0,1] (fun s s' wc=>∃ A n c A' n' c' u v,s = .slice A n c∧s' = .slice A' n' c'∧NatS w w.heap.size A n c u∧NatS w w.heap.size A' n' c' v∧n'≤n∧n≤1073741824∧Hid (Nat.gcd u v=Nat.gcd x y)∧wc=w)
 case first=>
  by_cases bB:n<n'
  ·have hd:decide (n<n')=true:=by simpa using bB
   go_wp2_with fail
   go_meet
   exact⟨A',n',c',A,n,c,y,x,rfl,rfl,hb,ha,by omega,hn',Nat.gcd_comm _ _,rfl⟩
  ·have hd:decide (n<n')=false:=by simpa using bB
   go_wp2_with fail
   go_meet
   exact⟨A,n,c,A',n',c',x,y,rfl,rfl,ha,hb,by omega,hn,rfl,rfl⟩
 case rest=>
  clear ha hb hn hn' h1 h2 h3 h4;obtain⟨A,n,c,A',n',c',u,v,rfl,rfl,ha,hb,bO,hn,hg,rfl⟩:=hcut;have h1:=ha.nc;have h2:=ha.cm;have h3:=hb.nc;have h4:=hb.cm;have hz:=zcC A' n' c' wc (by omega);unfold maxLen at h2 h4;have HA:=Aa ha.len;have HB:=Aa hb.len;have bZ:n'≤1073741824:=by omega
  obtain⟨tb,cO⟩:∃ tb,tb=(decide (n'<n) && !decide (n'=0)):=⟨_,rfl⟩;have bT:=Aa cO;clear cO;go_upto_region 3 with(fail)
  go_cut [24] (fun b wd=>b = .bool tb∧wd=wc)
  case first=>
   by_cases bB:n'<n
   ·have hd:decide (n'<n)=true:=by simpa using bB
    have bE:∃ z,((n':Int)==0)=z:=⟨_,rfl⟩;obtain⟨z,bE⟩:=bE;rw[bE] at hz
    go_wp2_with (go_at_call 154;refine hz.mono ?_;rintro e w1 ⟨rfl,rfl⟩)
    go_meet
    refine⟨?_,rfl⟩;rw[bT.out,hd,←bE]
    congr 1
    rw[Bool.true_and]
    congr 1
    rw[Bool.eq_iff_iff];simp
   ·have hd:decide (n'<n)=false:=by simpa using bB
    go_wp2_with fail
    go_meet
    exact⟨by rw[bT.out,hd];rfl,rfl⟩
  case rest=>
   obtain⟨rfl,rfl⟩:=hcut
   go_upto_if 24 with(fail)
   go_cut [0] (fun s wd=>∃ A2 n2 c2 u2,s = .slice A2 n2 c2∧NatS wd wd.heap.size A2 n2 c2 u2∧NatS wd wd.heap.size A' n' c' v∧n2≤1073741824∧Hid (Nat.gcd u2 v=Nat.gcd x y)∧Below wc.heap.size wc wd)
   case first=>
    cases tb
    ·go_wp2_with fail
     go_meet
     exact⟨A,n,c,u,rfl,ha,hb,hn,hg,Below.refl _ _⟩
    ·have hv:0<v:=by
      have h:=bT.out
      rcases Nat.eq_zero_or_pos v with rfl | h0
      ·have h5:=HB.out
       rw[zal] at h5;simp at h5
       subst h5;simp at h
      ·exact h0
     have cV:=zcU A A' n c n' c' u v wc ha hb hv (by omega)
     go_wp2_with fail
     refine cV.mono ?_;rintro e w1 ⟨A1,m1,c1,A2,m2,c2,rfl,dC,bR,aJ⟩
     go_wp2_with fail
     go_meet
     refine⟨A2,m2,c2,u%v,rfl,bR,hb.later aJ,?_,?_,aJ⟩
     ·have h6:=bR.len
      have h7:=zaa (Nat.le_of_lt (Nat.mod_lt u hv));rw[HB.out] at h7;omega
     ·rw[Hid,←hg.out,←Nat.gcd_rec v u,Nat.gcd_comm]
   case rest=>
    clear ha hb h1 h2 h3 h4 hz HA bT hg hn;obtain⟨A,n,c,u,rfl,ha,hb,hn,hg,aE⟩:=hcut;have aR:=hT.later aE;have h1:=ha.nc;have h2:=ha.cm;have h3:=hb.nc;have h4:=hb.cm;have bG:=fun W:World=>zcC A n c W (by omega)
    have bP:=fun W:World=>zcC A' n' c' W (by omega)
    unfold maxLen at h2 h4
    by_cases hu0:n=0
    ·subst hu0
     obtain rfl:u=0:=za4.1 ha.len
     go_wp2_with fail
     refine(bG _).mono ?_;rintro e w1 ⟨rfl,rfl⟩
     go_wp2_with fail
     go_ret;exact⟨A',n',c',rfl,by rw[←hg.out,Nat.gcd_zero_left];exact hb,aE⟩
    ·have hu:0<u:=by
      rcases Nat.eq_zero_or_pos u with rfl | h
      ·exact absurd (by rw[←ha.len,zal];rfl) hu0
      ·exact h
     have bE:(((n:Nat):Int)==0)=false:=by rw[beq_eq_false_iff_ne];omega
     simp only[bE] at bG
     by_cases hv0:n'=0
     ·subst hv0
      obtain rfl:v=0:=za4.1 hb.len
      go_wp2_with fail
      refine(bG _).mono ?_;rintro e w1 ⟨rfl,rfl⟩
      go_wp2_with fail
      refine(bP _).mono ?_;rintro e w1 ⟨rfl,rfl⟩
      go_wp2_with fail
      go_ret;exact⟨A,n,c,rfl,by rw[←hg.out,Nat.gcd_zero_right];exact ha,aE⟩
     ·have hv:0<v:=by
       rcases Nat.eq_zero_or_pos v with rfl | h
       ·exact absurd (by rw[←hb.len,zal];rfl) hv0
       ·exact h
      have bU:(((n':Nat):Int)==0)=false:=by rw[beq_eq_false_iff_ne];omega
      simp only[bU] at bP
      have cA:ntz u≤1099511627776∧ntz v≤1099511627776:=by
       have k1:=zkg hu (by rw[ha.len];exact hn);have k2:=zkg hv (by rw[hb.len];exact bZ);omega
      go_wp2_with fail
      refine(bG _).mono ?_;rintro e w1 ⟨rfl,rfl⟩
      go_wp2_with fail
      refine(bP _).mono ?_;rintro e w1 ⟨rfl,rfl⟩
      go_wp2_with fail
      refine(zc2 A n c u _ aR ha hu (by omega)).mono ?_;rintro e w1 ⟨rfl,rfl⟩
      go_wp2_with fail
      refine(zaV A n c u (ntz u) _ ha (by omega) cA.1).mono ?_;rintro e w1 ⟨aJ,bR⟩
      rcases bR with⟨_,aV⟩ | ⟨gx,mx,cx,rfl,aD⟩
      ·exact absurd aV (by have:=zfg hu;unfold odd at this;omega)
      have bK:=aR.later aJ
      go_wp2_with fail
      refine(zc2 A' n' c' v _ bK (hb.later aJ) hv (by omega)).mono ?_;rintro e w2 ⟨rfl,rfl⟩
      go_wp2_with fail
      refine(zaV A' n' c' v (ntz v) _ (hb.later aJ) (by omega) cA.2).mono ?_;rintro e w3 ⟨cG,cU⟩
      rcases cU with⟨_,aV⟩ | ⟨gy,my,cy,rfl,aA⟩
      ·exact absurd aV (by have:=zfg hv;unfold odd at this;omega)
      have bH:=aD.below cG;have aX:gx≠gy:=by have:=aD.lt;have:=aA.lt;omega
      have bF:=aA.mono aJ.size;have aP:Below wc.heap.size wc w3:=Ad aJ cG;have aK:mx≤1073741824:=by
       have k1:=aD.len;have k2:=zaa (zhq hu);have k3:=ha.len;unfold odd at k2;omega
      have aL:my≤1073741824:=by
       have k1:=aA.len;have k2:=zaa (zhq hv);have k3:=hb.len;unfold odd at k2;omega
      have HU:=Aa (zcV hu);have HV:=Aa (zcV hv);have cS:=Aa (zfg hu);have cT:=Aa (zfg hv);have HG:Hid (Nat.gcd u v=Nat.gcd (odd u) (odd v)*2^min (ntz u) (ntz v)):=zoL hu hv;have aM:zav w3 wc.heap.size gx mx cx (digs (odd u)):=bH;have aN:zav w3 wc.heap.size gy my cy (digs (odd v)):=bF;clear aD aA bH bF bG bP bK aJ cG;obtain⟨U,hU⟩:∃ U,U=odd u:=⟨_,rfl⟩;obtain⟨V,hV⟩:∃ V,V=odd v:=⟨_,rfl⟩;rw[←hU] at HU cS HG aM;rw[←hV] at HV cT HG aN;clear hU hV
      go_upto_block 0 with(fail)
      go_cut [5,6,7] (fun sx sy _ we=>∃ gx mx cx X gy my cy Y,sx = .slice (some ⟨gx,0,none⟩) mx cx∧sy = .slice (some ⟨gy,0,none⟩) my cy∧zav we wc.heap.size gx mx cx (digs X)∧zav we wc.heap.size gy my cy (digs Y)∧mx≤1073741824∧my≤1073741824∧Hid (Nat.gcd X Y=Nat.gcd U V)∧Hid (Y=1∨Nat.gcd X Y=X∧Y≠1)∧Below wc.heap.size wc we)
      case first=>
       go_wp2_with fail
       go_loopg [5,6,7] (U+V) (fun G sx sy _ we=>∃ gx mx cx X gy my cy Y,sx = .slice (some ⟨gx,0,none⟩) mx cx∧sy = .slice (some ⟨gy,0,none⟩) my cy∧gx≠gy∧zav we wc.heap.size gx mx cx (digs X)∧zav we wc.heap.size gy my cy (digs Y)∧mx≤1073741824∧my≤1073741824∧(0<X∧0<Y∧(∃ m,X=2*m+1)∧∃ m,Y=2*m+1)∧Hid (Nat.gcd X Y=Nat.gcd U V)∧Below wc.heap.size wc we∧X+Y≤G)
       case atStart=>exact⟨gx,mx,cx,U,gy,my,cy,V,rfl,rfl,aX,aM,aN,aK,aL,⟨cS.out,cT.out,HU.out.2,HV.out.2⟩,rfl,aP,Nat.le_refl _⟩
       case round=>
        clear aM aN aK aL aX aP;obtain⟨gx,mx,cx,X,gy,my,cy,Y,rfl,rfl,bD,aD,aA,aK,aL,hp,aU,aC,hG⟩:=hrel;obtain⟨we,rfl⟩:∃ we:World,we=wr:=⟨_,rfl⟩;have cQ:=aR.later aC;have aO:=zbE _ mx cx X we aD.nat;have aH:=zbE _ my cy Y we aA.nat;have aQ:=zaU _ _ mx cx my cy X Y we aD.nat aA.nat;have HP:=Aa hp;clear hp
        by_cases hX1:X=1
        ·have d1:decide (X=1)=true:=by simpa using hX1
         rw[d1] at aO;have dA:=Aa hX1;clear hX1 d1
         go_wp2_with fail
         refine aO.mono ?_;rintro e w1 ⟨rfl,rfl⟩
         go_wp2_with fail
         go_meet
         refine⟨gx,mx,cx,X,gy,my,cy,Y,rfl,rfl,aD,aA,aK,aL,aU,?_,aC⟩
         by_cases aI:Y=1
         ·exact .inl aI
         ·exact .inr ⟨by rw[dA.out,Nat.gcd_one_left],aI⟩
        ·have d1:decide (X=1)=false:=by simpa using hX1
         rw[d1] at aO
         by_cases aI:Y=1
         ·have d2:decide (Y=1)=true:=by simpa using aI
          rw[d2] at aH;have cJ:=Aa aI;clear hX1 d1 aI d2
          go_wp2_with fail
          refine aO.mono ?_;rintro e w1 ⟨rfl,rfl⟩
          go_wp2_with fail
          refine aH.mono ?_;rintro e w1 ⟨rfl,rfl⟩
          go_wp2_with fail
          go_meet
          exact⟨gx,mx,cx,X,gy,my,cy,Y,rfl,rfl,aD,aA,aK,aL,aU,.inl cJ.out,aC⟩
         ·have d2:decide (Y=1)=false:=by simpa using aI
          rw[d2] at aH;have cJ:=Aa aI;clear hX1 d1 aI d2
          rcases Nat.lt_trichotomy X Y with bB | cI | cY
          ·rw[ncmp_lt bB] at aQ
           go_wp2_with fail
           refine aO.mono ?_;rintro e w1 ⟨rfl,rfl⟩
           go_wp2_with fail
           refine aH.mono ?_;rintro e w1 ⟨rfl,rfl⟩
           go_wp2_with fail
           refine aQ.mono ?_;rintro e w1 ⟨rfl,q4,rfl⟩;have aD:=aD.drewN q4;have aA:=aA.drewN q4;have aC:=zad aC q4;have cQ:=aR.later aC;have hp:=HP.out;clear aO aH aQ;have bO:X≤Y:=by omega
           have aS:=zd1 (some ⟨gy,0,none⟩) (some ⟨gx,0,none⟩) wc.heap.size gy my cy my cy mx cx Y X (digs Y) (we.drewN q4) True aA (zaq Y) aA.nat aD.nat (.inr ⟨rfl,rfl,trivial⟩) (fun _ ad h=>by injection h with h;subst h;exact bD) (Nat.le_refl _) bO (by omega)
           go_wp2_with fail
           refine aS.mono ?_;rintro e w5 ⟨m5,rfl,aF,bN⟩;have aG:0<Y-X:=by omega
           have bX:=aR.only4 aC bN aA.lt.1;have cC:m5≤1073741824:=by
            have k1:=aF.len;have k2:=zaa (Nat.sub_le Y X);have k3:=aA.len;omega
           go_wp2_with fail
           refine(zc2 _ m5 cy (Y-X) _ bX aF.nat aG (by omega)).mono ?_;rintro e w6 ⟨rfl,rfl⟩;have cZ:=zkg aG (by rw[aF.len];exact cC);have bW:=zgc (some ⟨gy,0,none⟩) wc.heap.size gy m5 cy m5 cy (Y-X) (ntz (Y-X)) (digs (Y-X)) w5 True aF (zaq _) aF.nat (.inr ⟨rfl,rfl,trivial⟩) (Nat.le_refl _) (by omega) (by omega) (by rw[←aF.len];exact zmn aG)
           go_wp2_with fail
           refine bW.mono ?_;rintro e w7 ⟨m7,rfl,bL,cH⟩;have cB:m7≤1073741824:=by
            have k1:=bL.len;have k2:=zaa (zhq aG);have k3:=aF.len;unfold odd at k2;omega
           have bI:=zg8 bN cH;have aZ:=aD.kept bI (by intro e;injection e with e;exact bD e.symm)
           have aT:=aC.grown bI aC.size (fun k hk=>by cases hk;exact aA.lt.1);have bV:zav w7 wc.heap.size gy m7 cy (digs (odd (Y-X))):=bL;have cM:=zhq aG;have bA:=zfg aG;have bC:=(zcV aG).2;have aY:Hid (Nat.gcd (odd (Y-X)) X=Nat.gcd U V):=by rw[Hid,←aU.out];rw[Nat.gcd_comm X Y];exact zkc hp.2.2.1 (by omega)
           go_wp2_with fail
           go_roundg (odd (Y-X)+X)
           case measure=>omega
           case rel=>exact⟨gy,m7,cy,odd (Y-X),gx,mx,cx,X,rfl,rfl,bD.symm,bV,aZ,cB,aK,⟨bA,hp.1,bC,hp.2.2.1⟩,aY,aT,Nat.le_refl _⟩
          ·rw[cI,ncmp_eq] at aQ
           have HE:=Aa cI;clear cI
           go_wp2_with fail
           refine aO.mono ?_;rintro e w1 ⟨rfl,rfl⟩
           go_wp2_with fail
           refine aH.mono ?_;rintro e w1 ⟨rfl,rfl⟩
           go_wp2_with fail
           refine aQ.mono ?_;rintro e w1 ⟨rfl,q4,rfl⟩
           go_wp2_with fail
           go_meet
           exact⟨gx,mx,cx,X,gy,my,cy,Y,rfl,rfl,aD.drewN q4,aA.drewN q4,aK,aL,aU,.inr ⟨by rw[HE.out,Nat.gcd_self],cJ.out⟩,zad aC q4⟩
          ·rw[ncmp_gt cY] at aQ
           go_wp2_with fail
           refine aO.mono ?_;rintro e w1 ⟨rfl,rfl⟩
           go_wp2_with fail
           refine aH.mono ?_;rintro e w1 ⟨rfl,rfl⟩
           go_wp2_with fail
           refine aQ.mono ?_;rintro e w1 ⟨rfl,q4,rfl⟩;have aD:=aD.drewN q4;have aA:=aA.drewN q4;have aC:=zad aC q4;have cQ:=aR.later aC;have hp:=HP.out;clear aO aH aQ;have bO:Y≤X:=by omega
           have aS:=zd1 (some ⟨gx,0,none⟩) (some ⟨gy,0,none⟩) wc.heap.size gx mx cx mx cx my cy X Y (digs X) (we.drewN q4) True aD (zaq X) aD.nat aA.nat (.inr ⟨rfl,rfl,trivial⟩) (fun _ ad h=>by injection h with h;subst h;exact bD.symm) (Nat.le_refl _) bO (by omega)
           go_wp2_with fail
           refine aS.mono ?_;rintro e w5 ⟨m5,rfl,aF,bN⟩;have aG:0<X-Y:=by omega
           have bX:=aR.only4 aC bN aD.lt.1;have cC:m5≤1073741824:=by
            have k1:=aF.len;have k2:=zaa (Nat.sub_le X Y);have k3:=aD.len;omega
           go_wp2_with fail
           refine(zc2 _ m5 cx (X-Y) _ bX aF.nat aG (by omega)).mono ?_;rintro e w6 ⟨rfl,rfl⟩;have cZ:=zkg aG (by rw[aF.len];exact cC);have bW:=zgc (some ⟨gx,0,none⟩) wc.heap.size gx m5 cx m5 cx (X-Y) (ntz (X-Y)) (digs (X-Y)) w5 True aF (zaq _) aF.nat (.inr ⟨rfl,rfl,trivial⟩) (Nat.le_refl _) (by omega) (by omega) (by rw[←aF.len];exact zmn aG)
           go_wp2_with fail
           refine bW.mono ?_;rintro e w7 ⟨m7,rfl,bL,cH⟩;have cB:m7≤1073741824:=by
            have k1:=bL.len;have k2:=zaa (zhq aG);have k3:=aF.len;unfold odd at k2;omega
           have bI:=zg8 bN cH;have aZ:=aA.kept bI (by intro e;injection e with e;exact bD e)
           have aT:=aC.grown bI aC.size (fun k hk=>by cases hk;exact aD.lt.1);have bV:zav w7 wc.heap.size gx m7 cx (digs (odd (X-Y))):=bL;have cM:=zhq aG;have bA:=zfg aG;have bC:=(zcV aG).2;have aY:Hid (Nat.gcd (odd (X-Y)) Y=Nat.gcd U V):=by rw[Hid,←aU.out];exact zkc hp.2.2.2 (by omega)
           go_wp2_with fail
           go_roundg (odd (X-Y)+Y)
           case measure=>omega
           case rel=>exact⟨gx,m7,cx,odd (X-Y),gy,my,cy,Y,rfl,rfl,bD,bV,aZ,cB,aL,⟨bA,hp.2.1,bC,hp.2.2.2⟩,aY,aT,Nat.le_refl _⟩
      case rest=>
       clear aM aN aK aL aX;obtain⟨gx,mx,cx,X,gy,my,cy,Y,rfl,rfl,aD,aA,aK,aL,aU,cE,aC⟩:=hcut;have aH:=fun W:World=>fun h=>zbE (some ⟨gy,0,none⟩) my cy Y W h
       have bQ:=aR.later aC;have cR:=ha.later aC;have cN:=hb.later aC;have aW:Nat.gcd x y=Nat.gcd X Y*2^min (ntz u) (ntz v):=by rw[←hg.out,HG.out,aU.out]
       obtain⟨sm,bS⟩:∃ sm,sm=min (ntz u) (ntz v):=⟨_,rfl⟩;have bJ:sm≤1099511627776:=by rw[bS];exact Nat.le_trans (Nat.min_le_left _ _) cA.1
       have dB:min ((ntz u:Nat):Int) ((ntz v:Nat):Int)=(sm:Int):=by rw[bS];omega
       rw[←bS] at aW;have HM:=Aa aW;clear aW bS
       rcases cE.out with cK | ⟨cP,aI⟩
       ·have d2:decide (Y=1)=true:=by simpa using cK
        have ho:=aH _ aA.nat;rw[d2] at ho;have HY:=Aa cK;clear aH d2 cK
        go_wp2_with fail
        refine ho.mono ?_;rintro e w4 ⟨rfl,rfl⟩
        go_wp2_with fail
        refine(zc2 A n c u _ bQ cR hu (by omega)).mono ?_;rintro e w4 ⟨rfl,rfl⟩
        go_wp2_with fail
        refine(zc2 A' n' c' v _ bQ cN hv (by omega)).mono ?_;rintro e w4 ⟨rfl,rfl⟩;have bM:=zaw (some ⟨gy,0,none⟩) my cy Y sm _ aA.nat (by omega) bJ;have bY:=Aa bM;clear bM
        go_wp2_with fail
        refine bY.out.mono ?_;rintro e w5 ⟨A5,m5,c5,rfl,cL,cF⟩
        go_wp2_with fail
        go_ret;refine⟨A5,m5,c5,rfl,?_,aE.trans ((aC.trans (cF.mono aC.size)).mono aE.size)⟩;rw[HM.out,show Nat.gcd X Y=Y by rw[HY.out,Nat.gcd_one_right]];exact cL
       ·have d2:decide (Y=1)=false:=by simpa using aI
        have ho:=aH _ aA.nat;rw[d2] at ho;have cW:=Aa cP;clear aH d2 cP aI
        go_wp2_with fail
        refine ho.mono ?_;rintro e w4 ⟨rfl,rfl⟩
        go_wp2_with fail
        refine(zc2 A n c u _ bQ cR hu (by omega)).mono ?_;rintro e w4 ⟨rfl,rfl⟩
        go_wp2_with fail
        refine(zc2 A' n' c' v _ bQ cN hv (by omega)).mono ?_;rintro e w4 ⟨rfl,rfl⟩;have bM:=zaw (some ⟨gx,0,none⟩) mx cx X sm _ aD.nat (by omega) bJ;have bY:=Aa bM;clear bM
        go_wp2_with fail
        refine bY.out.mono ?_;rintro e w5 ⟨A5,m5,c5,rfl,cL,cF⟩
        go_wp2_with fail
        go_ret;refine⟨A5,m5,c5,rfl,?_,aE.trans ((aC.trans (cF.mono aC.size)).mono aE.size)⟩;rw[HM.out,cW.out];exact cL
end Go.Proofs.YtbkgkoenppkhpaaGreatDoor
