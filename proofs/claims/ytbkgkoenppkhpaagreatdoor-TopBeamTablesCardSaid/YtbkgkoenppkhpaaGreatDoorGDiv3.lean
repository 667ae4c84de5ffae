/- Contract of divideStep. -/
import Derived.Test.YtbkgkoenppkhpaaGreatDoorGNat3
import Derived.Test.YtbkgkoenppkhpaaGreatDoorGWords
set_option maxHeartbeats 4000000
namespace Go.Proofs.YtbkgkoenppkhpaaGreatDoor
open Go.RowKit Bn
theorem drop_set (l:List Nat) (o k x:Nat):(l.set (o+k) x).drop o=(l.drop o).set k x:=by
 rw [List.drop_set];rw [if_neg (by omega)]
 congr 1
 omega
theorem zcA (l:List Nat) (o k:Nat):(l.drop o).getD k 0=l.getD (o+k) 0:=by simp [List.getD,List.getElem?_drop]
theorem zkI (l' l d:List Nat) (k q p r c b c' b':Nat) (hk:k<l'.length) (hinv:val (l'.take k)+q*val (d.take k)=val (l.take k)+B ^ k*(c+b))
  (h1:p+B*c'=q*d.getD k 0+c) (h2:r+p+b=l.getD k 0+B*b') :
  val ((l'.set k r).take (k+1))+q*val (d.take (k+1))=val (l.take (k+1))+B ^ (k+1)*(c'+b'):=by
 rw [zaF l' k r hk,zaf d,zaf l,Nat.pow_succ,Nat.mul_add q,Nat.mul_assoc];have h3:B ^ k*r+B ^ k*(q*d.getD k 0)+B ^ k*(c+b)=B ^ k*l.getD k 0+B ^ k*(B*(c'+b')):=by
  rw [←Nat.mul_add,←Nat.mul_add,←Nat.mul_add]
  congr 1
  rw [Nat.mul_add];omega
 have h4:q*(B ^ k*d.getD k 0)=B ^ k*(q*d.getD k 0):=Nat.mul_left_comm _ _ _;rw [h4];omega
theorem znj (l' l:List Nat) (n q D r c b b':Nat) (hk:n<l'.length) (hinv:val (l'.take n)+q*D=val (l.take n)+B ^ n*(c+b))
  (h2:r+c+b=l.getD n 0+B*b'):val ((l'.set n r).take (n+1))+q*D=val (l.take (n+1))+B ^ (n+1)*b':=by
 rw [zaF l' n r hk,zaf l,Nat.pow_succ,Nat.mul_assoc];have h3:B ^ n*r+B ^ n*(c+b)=B ^ n*l.getD n 0+B ^ n*(B*b'):=by
  rw [←Nat.mul_add,←Nat.mul_add]
  congr 1
  omega
 omega
theorem zlb (R D q V p:Nat) (hD:0<D) (h:V+q*D=R+p*0) (h1:R / D≤q):q=R / D∧V=R % D:=by
 have hq:q≤R / D:=by rw [Nat.le_div_iff_mul_le hD];omega
 have e:q=R / D:=Nat.le_antisymm hq h1;refine ⟨e,?_⟩;have h3:=Nat.div_add_mod R D;rw [Nat.mul_comm,←e] at h3;omega
theorem zmx (R D q V p F c t d0:Nat) (hD:0<D) (hDp:D≤p) (h:V+q*D=R+p) (hV:V<p) (h2:q≤R / D+1) (hF:F<p) (hc:F+p*c=V+D):q - 1=R / D∧1≤q∧F=R % D:=by
 have _:=t;have _:=d0;have h3:R<q*D:=by omega
 have h4:R / D<q:=by rw [Nat.div_lt_iff_lt_mul hD];exact h3
 have e:q=R / D+1:=by omega
 have h5:=Nat.div_add_mod R D;rw [Nat.mul_comm] at h5;have h6:=Nat.mod_lt R hD;have h7:q*D=R / D*D+D:=by rw [e,Nat.add_mul,Nat.one_mul]
 generalize R / D=a at *;generalize R % D=b at *;generalize a*D=ad at *;generalize q*D=qd at *;refine ⟨by omega,by omega,?_⟩;have h8:F+p*c=b+p:=by omega
 rcases Nat.lt_or_ge 0 c with aC | aC
 ·have h9:p*1≤p*c:=Nat.mul_le_mul_left _ aC
  rcases Nat.lt_or_ge 1 c with aA | aA
  ·have aD:p*2≤p*c:=Nat.mul_le_mul_left _ aA
   omega
  ·obtain rfl:c=1:=by omega
   omega
 ·obtain rfl:c=0:=by omega
  omega
theorem zm2 (l4 l3:List Nat) (k r cc x e D:Nat) (hk:k<l4.length) (hr:l3.getD k 0=r) (hx:x+B*e=r+cc)
  (hinv:val (l4.take k)+B ^ k*cc=val (l3.take k)+D):val ((l4.set k x).take (k+1))+B ^ (k+1)*e=val (l3.take (k+1))+D:=by
 rw [zaF l4 k x hk,zaf l3,hr,Nat.pow_succ,Nat.mul_assoc];have h3:B ^ k*x+B ^ k*(B*e)=B ^ k*r+B ^ k*cc:=by rw [←Nat.mul_add,←Nat.mul_add,hx]
 omega
theorem znZ {l:List Nat} (hw:Wf l) (o k:Nat) (h:o+k<l.length):val ((l.drop o).take (k+1))<B ^ (k+1):=by
 have:=zbm ((hw.drop o).take (k+1))
 rwa [List.length_take,List.length_drop,Nat.min_eq_left (by omega)] at this
set_option maxRecDepth 100000 in
theorem zgd (A:Option Addr) (base g o N C n c c' D:Nat) (ls:List Nat) (w:World) (hrow:zau w base g N C ls) (hwf:Wf ls) (ha:NatS w w.heap.size A n c' D) (hoff:0<n→Off A g) (hn2:2≤n) (hn:n≤1099511627776)
  (hoN:o+n+1≤N) (hlt:val ((ls.drop o).take (n+1))<D*B) :
  Calls Tryz.prog 188 #[.slice (some ⟨g,o,none⟩) (n+1) c,.slice A n c'] w fun e w'=>e = .returned (.int .u64 ((val ((ls.drop o).take (n+1)) / D:Nat):Int)) ∧
   ∃ ls',zau w' base g N C ls'∧Wf ls'∧val ((ls'.drop o).take (n+1))=val ((ls.drop o).take (n+1)) % D∧(∀ j,j<o∨o+n+1≤j→ls'.getD j 0=ls.getD j 0)∧w.grownBy w' (some g):=by
 have hA:=Aa ha.len;have h1:=ha.nc;have h2:=ha.cm;unfold maxLen at h2;obtain ⟨ad,rfl,dK,cN⟩:=ha.words.word (k:=n - 1) (by omega);obtain ⟨dJ,e',_,cG⟩:=ha.words.word (k:=n - 2) (by omega);injection e' with e'
 subst e';have cE:=hrow.cell (o+n) (by omega);have cJ:=hrow.cell (o+(n - 1)) (by omega);have cL:=hrow.cell (o+(n - 2)) (by omega);obtain ⟨R,hR⟩:∃ v,v=val ((ls.drop o).take (n+1)):=⟨_,rfl⟩;rw [←hR] at hlt ⊢;have cR:ls.length=N:=hrow.len;have cB:0<D:=by
  rcases Nat.eq_zero_or_pos D with rfl | h
  ·have:=ha.len
   rw [zao] at this;simp at this
   omega
  ·exact h
 have bU:=zaA (zap D) (n - 1);have bJ:=zaA (zap D) (n - 2);have cF:=zaA hwf (o+n);have bR:=zaA hwf (o+(n - 1));have bP:=zaA hwf (o+(n - 2));have aI:0<(digs D).getD (n - 1) 0:=by
  have:=zc1 D (by rw [hA.out];omega);rw [Bn.getD_in (by rw [hA.out];omega)];simp only [hA.out] at this
  omega
 have eD:D=((digs D).getD (n - 1) 0*B+(digs D).getD (n - 2) 0)*B ^ (n - 2)+val ((digs D).take (n - 2)):=by
  have h:=zaf (digs D) (n - 1);rw [show n - 1+1=n from by omega,List.take_of_length_le (by rw [hA.out];exact Nat.le_refl _),zaj,show n - 1=n - 2+1 from by omega,zaf,←show n - 1=n - 2+1 from by omega] at h;rw [Nat.add_mul,Nat.mul_assoc,←Nat.pow_succ',show (n - 2).succ=n - 1 from by omega,Nat.mul_comm _ (B ^ (n - 1)),Nat.mul_comm _ (B ^ (n - 2))];omega
 have eR:R=((ls.getD (o+n) 0*B+ls.getD (o+(n - 1)) 0)*B+ls.getD (o+(n - 2)) 0)*B ^ (n - 2)+val ((ls.drop o).take (n - 2)):=by
  have h:=zaf (ls.drop o) n;have h':=zaf (ls.drop o) (n - 1);have cK:=zaf (ls.drop o) (n - 2);rw [show n - 1+1=n from by omega] at h';rw [show n - 2+1=n - 1 from by omega] at cK;rw [h',cK,zcA,zcA,zcA] at h;rw [hR,h,Nat.add_mul,Nat.add_mul,Nat.add_mul];have e1:B*B ^ (n - 2)=B ^ (n - 1):=by rw [←Nat.pow_succ',show (n - 2).succ=n - 1 from by omega]
  have e2:B*B ^ (n - 1)=B ^ n:=by rw [←Nat.pow_succ',show (n - 1).succ=n from by omega]
  rw [Nat.mul_assoc _ B (B ^ (n - 2)),e1,Nat.mul_assoc (ls.getD (o+n) 0) B,e2,Nat.mul_assoc (ls.getD (o+(n - 1)) 0) B,e1,Nat.mul_comm _ (B ^ n),Nat.mul_comm _ (B ^ (n - 1)),Nat.mul_comm _ (B ^ (n - 2))];omega
 obtain ⟨r2,bS⟩:∃ v,ls.getD (o+n) 0=v:=⟨_,rfl⟩;obtain ⟨r1,bV⟩:∃ v,ls.getD (o+(n - 1)) 0=v:=⟨_,rfl⟩;obtain ⟨r0,bO⟩:∃ v,ls.getD (o+(n - 2)) 0=v:=⟨_,rfl⟩;obtain ⟨d1,bN⟩:∃ v,(digs D).getD (n - 1) 0=v:=⟨_,rfl⟩;obtain ⟨d0,bT⟩:∃ v,(digs D).getD (n - 2) 0=v:=⟨_,rfl⟩;rw [bS,bV,bO] at eR;rw [bN,bT] at eD;rw [bS] at cE cF;rw [bV] at cJ bR;rw [bO] at cL bP;rw [bN] at cN bU aI;rw [bT] at cG bJ;have bX:val ((ls.drop o).take (n - 2))<B ^ (n - 2):=by
  have:=zbm ((hwf.drop o).take (n - 2))
  rwa [List.length_take,List.length_drop,Nat.min_eq_left (by omega)] at this
 have cH:val ((digs D).take (n - 2))<B ^ (n - 2):=by
  have:=zbm ((zap D).take (n - 2))
  rwa [List.length_take,Nat.min_eq_left (by rw [hA.out];omega)] at this
 have cC:B≤d1*B+d0:=by
  have:1*B≤d1*B:=Nat.mul_le_mul_right _ aI;omega
 have aN:r2≤d1:=by
  have hm:=Nat.pow_pos (n:=n - 2) zaO
  rcases Nat.lt_or_ge d1 r2 with h | h
  ·exfalso
   have k1:D<(d1+1)*B*B ^ (n - 2):=by
    rw [eD];have:(d1*B+d0+1)*B ^ (n - 2)≤(d1+1)*B*B ^ (n - 2):=Nat.mul_le_mul_right _ (by rw [Nat.add_mul];have:d0<B:=bJ;omega);rw [Nat.add_mul,Nat.one_mul] at this;omega
   have k2:D*B≤(d1+1)*B*B ^ (n - 2)*B:=Nat.mul_le_mul_right _ (Nat.le_of_lt k1);have k3:(d1+1)*B*B ^ (n - 2)*B≤R:=by
    rw [eR];have:(d1+1)*B*B*B ^ (n - 2)≤((r2*B+r1)*B+r0)*B ^ (n - 2):=Nat.mul_le_mul_right _ (by
     have k4:(d1+1)*B≤r2*B:=Nat.mul_le_mul_right _ h;have k5:(d1+1)*B*B≤(r2*B+r1)*B:=Nat.mul_le_mul_right _ (by omega);omega)
    rw [Nat.mul_assoc _ (B ^ (n - 2)),Nat.mul_comm (B ^ (n - 2)) B,←Nat.mul_assoc];omega
   omega
  ·exact h
 obtain ⟨q,hq⟩:∃ q,q=min (B - 1) (((r2*B+r1)*B+r0) / (d1*B+d0)):=⟨_,rfl⟩;obtain ⟨g1,g2⟩:=znn B (B ^ (n - 2)) R D _ _ _ _ q eR eD bX cH cC hq hlt zeA;have cY:q<18446744073709551616:=by
  have h5:q≤B - 1:=by rw [hq];exact Nat.min_le_left _ _
  exact Nat.lt_of_le_of_lt h5 (Nat.sub_lt zaO Nat.one_pos)
 have aW:∀ W:World,Calls Tryz.prog 217 #[.int .u64 r2,.int .u64 r1,.int .u64 r0,.int .u64 d1,.int .u64 d0] W fun e w'=>e = .returned (.int .u64 (q:Int))∧∃ k,w'=W.drewN k:=fun W=>by
  rw [hq];exact zhs r2 r1 r0 d1 d0 W aN bR bP bU bJ aI
 have HE:=Aa aW;have dB:=Aa g1;have dD:=Aa g2;have HR:=Aa hR;clear aW g1 g2 hq eR eD bX cH cC hR bS bV bO bN bT hlt aN;have i1:(n:Int)<(n:Int)+1:=by omega
 go_enter Tryz.func188,Tryz.ntmps188
 go_wp2
 go_quiet ((go_at_call 217;first | exact zln (HE.out _) | exact zle (HE.out _)))
 go_wp2_with fail
 have bQ:=Aa hrow;have dA:=Aa hwf;have dI:Hid (val ((ls.drop o).take n)+B ^ n*ls.getD (o+n) 0=R):=by
  have h:=zaf (ls.drop o) n;rw [zcA,←HR.out] at h;exact h.symm
 clear cE cJ cL cN cG bU bJ cF bR bP aI i1
 go_loopw [7,8,43] (fun cy bo s wr=>∃ k cc bb:Nat,k≤n∧cc<18446744073709551616∧bb≤1∧s = .int .i64 k∧cy = .int .u64 cc∧bo = .int .u64 bb∧∃ l2,zau wr base g N C l2∧Wf l2∧Hid (val ((l2.drop o).take k)+q*val ((digs D).take k)=val ((ls.drop o).take k)+B ^ k*(cc+bb))∧Hid (∀ j,j<o∨o+k≤j→l2.getD j 0=ls.getD j 0)∧w.grownBy wr (some g)) (fun _ _ s _=>n - (intOf s).toNat)
 case atStart=>exact ⟨0,0,0,by omega,by omega,by omega,rfl,rfl,rfl,ls,bQ.out,dA.out,by simp [Hid],fun j _=>rfl,zkl (World.grownBy.refl w _) _⟩
 case round=>
  obtain ⟨k,cc,bb,hk,bZ,bY,rfl,rfl,rfl,l2,aA,aH,aT,aD,bH⟩:=hrel
  by_cases hkn:k<n
  ·obtain ⟨cU,e2,_,bM⟩:=(ha.kept bH hoff).words.word (k:=k) hkn
   injection e2 with e2
   subst e2;have bD:=zaA (zap D) k;obtain ⟨dk,aP⟩:∃ v,(digs D).getD k 0=v:=⟨_,rfl⟩;rw [aP] at bM bD;have aJ:=aA.cell (o+k) (by omega);have bG:=aA.free (o+k);have aY:=zaA aH (o+k);obtain ⟨z,gz⟩:∃ v,l2.getD (o+k) 0=v:=⟨_,rfl⟩;rw [gz] at aJ aY;obtain ⟨p,bF,t1,hp,bK,aF⟩:=zc5 q dk cc 0 cY bD bZ (by omega)
   replace aF:∀ w:World,Calls Tryz.prog 156 #[.int .u64 q,.int .u64 dk,.int .u64 cc,.int .u64 0] w fun e w'=>e = .returned (.tuple #[.int .u64 (p:Int),.int .u64 (bF:Int)])∧w=w':=aF
   obtain ⟨r,aM,t2,hr,aV,aQ⟩:=ze0 z p bb aY hp bY;have HP:Hid (val (((l2.set (o+k) r).drop o).take (k+1))+q*val ((digs D).take (k+1))=val ((ls.drop o).take (k+1))+B ^ (k+1)*(bF+aM)):=by
    rw [Hid,drop_set];exact zkI (l2.drop o) (ls.drop o) (digs D) k q p r cc bb bF aM (by rw [List.length_drop,aA.len];omega) aT.out (by rw [aP];exact t1) (by rw [zcA,←aD.out (o+k) (.inr (Nat.le_refl _)),gz];exact t2)
   have aZ:Hid (∀ j,j<o∨o+(k+1)≤j→(l2.set (o+k) r).getD j 0=ls.getD j 0):=fun j hj=>by
    rw [zaG _ _ _ _ (by omega)];exact aD.out j (by omega)
   clear t1 t2 aP gz
   go_wp2_with fail
   refine (aF _).mono ?_;rintro e w' ⟨rfl,rfl⟩;go_wp2
   go_roundw
   case rel=>exact ⟨k+1,bF,aM,by omega,bK,aV,by go_num,rfl,rfl,_,aA.set (o+k) r,aH.set _ hr,HP,aZ,za8 bH (p:=⟨g,o+k,none⟩) (.inl rfl) _⟩
   case measure=>simp [intOf]<;>omega
  ·obtain rfl:k=n:=by omega
   have aJ:=aA.cell (o+k) (by omega);have bG:=aA.free (o+k);have aY:=zaA aH (o+k);obtain ⟨z,gz⟩:∃ v,l2.getD (o+k) 0=v:=⟨_,rfl⟩;rw [gz] at aJ aY;obtain ⟨r,aM,t2,hr,aV,aQ⟩:=ze0 z cc bb aY bZ bY;have cA:val ((digs D).take k)=D:=by rw [List.take_of_length_le (by rw [hA.out];exact Nat.le_refl _),zaj]
   have HP:Hid (val (((l2.set (o+k) r).drop o).take (k+1))+q*D=R+B ^ (k+1)*aM):=by
    have h:=aT.out;rw [cA] at h;have h2:=znj (l2.drop o) (ls.drop o) k q D r cc bb aM (by rw [List.length_drop,aA.len];omega) h (by rw [zcA,←aD.out (o+k) (.inr (Nat.le_refl _)),gz];exact t2);rw [Hid,drop_set,h2,HR.out]
   have aZ:Hid (∀ j,j<o∨o+(k+1)≤j→(l2.set (o+k) r).getD j 0=ls.getD j 0):=fun j hj=>by
    rw [zaG _ _ _ _ (by omega)];exact aD.out j (by omega)
   have aL:=aA.set (o+k) r;have bB:=aH.set (o+k) hr;have aX:w.grownBy (wr.setCell ⟨g,o+k,none⟩ (.int .u64 (r:Int))) (some g):=za8 bH (p:=⟨g,o+k,none⟩) (.inl rfl) _;have bI:=Aa aL;have bE:=Aa bB;have cM:=Aa aX;clear t2 gz cA aL bB aX
   by_cases hb0:aM=0
   ·subst hb0
    obtain ⟨f1,f2⟩:=zlb R D q _ (B ^ (k+1)) cB HP.out dB.out;have F1:=Aa f1;have F2:=Aa f2;clear f1 f2;go_wp2
    go_ret;exact ⟨by rw [←F1.out];rfl,_,bI.out,bE.out,F2.out,fun j hj=>aZ.out j (by omega),cM.out⟩
   ·obtain rfl:aM=1:=by omega
    go_wp2
    obtain ⟨l3,bL⟩:∃ l3,l3=l2.set (o+k) r:=⟨_,rfl⟩;rw [←bL] at HP aZ bI bE;have cI:l3.getD (o+k) 0=r:=by rw [bL];exact zcL _ _ _ (by rw [aA.len];omega)
    have H3:=Aa cI;have dH:=Aa aD;clear bL cI aD aT aA aH bH aJ bG aQ
    go_loopw [7,87] (fun cy s wr=>∃ j cc:Nat,j≤k∧cc≤1∧s = .int .i64 j∧cy = .int .u64 cc∧∃ l4,zau wr base g N C l4∧Wf l4∧Hid (val ((l4.drop o).take j)+B ^ j*cc=val ((l3.drop o).take j)+val ((digs D).take j))∧Hid (∀ t,t<o∨o+j≤t→l4.getD t 0=l3.getD t 0)∧w.grownBy wr (some g)) (fun _ s _=>k - (intOf s).toNat)
    case atStart=>exact ⟨0,0,by omega,by omega,rfl,rfl,l3,bI.out,bE.out,by simp [Hid],fun j _=>rfl,cM.out⟩
    case round=>
     obtain ⟨j,c4,hj,cW,rfl,rfl,l4,aC,aS,aK,aE,aU⟩:=hrel
     by_cases hjk:j<k
     ·obtain ⟨cU,e2,_,bM⟩:=(ha.kept aU hoff).words.word (k:=j) hjk
      injection e2 with e2
      subst e2;have bD:=zaA (zap D) j;obtain ⟨dk,aP⟩:∃ v,(digs D).getD j 0=v:=⟨_,rfl⟩;rw [aP] at bM bD;have aJ:=aC.cell (o+j) (by omega);have bG:=aC.free (o+j);have bA:=zaA aS (o+j);obtain ⟨z4,gz⟩:∃ v,l4.getD (o+j) 0=v:=⟨_,rfl⟩;rw [gz] at aJ bA;obtain ⟨s4,d4,t2,cP,dF,aQ⟩:=zbX z4 dk c4 bA bD cW;have cZ:Hid (val (((l4.set (o+j) s4).drop o).take (j+1))+B ^ (j+1)*d4=val ((l3.drop o).take (j+1))+val ((digs D).take (j+1))):=by
       rw [Hid,drop_set];exact zeQ (l4.drop o) (l3.drop o) (digs D) j (by rw [List.length_drop,aC.len];omega) s4 c4 d4 aK.out (by rw [zcA,←aE.out (o+j) (.inr (Nat.le_refl _)),gz,aP];exact t2)
      have cQ:Hid (∀ t,t<o∨o+(j+1)≤t→(l4.set (o+j) s4).getD t 0=l3.getD t 0):=fun t ht=>by
       rw [zaG _ _ _ _ (by omega)];exact aE.out t (by omega)
      clear t2 aP gz;go_wp2
      go_roundw
      case rel=>exact ⟨j+1,d4,by omega,dF,by go_num,rfl,_,aC.set (o+j) s4,aS.set _ cP,cZ,cQ,za8 aU (p:=⟨g,o+j,none⟩) (.inl rfl) _⟩
      case measure=>simp [intOf]<;>omega
     ·obtain rfl:j=k:=by omega
      have aJ:=aC.cell (o+j) (by omega);have bG:=aC.free (o+j);rw [aE.out (o+j) (.inr (Nat.le_refl _)),H3.out] at aJ;have ew:IntKind.u64.wrap ((r:Int)+(c4:Int))=(((r+c4) % B:Nat):Int):=by
       rw [←Int.natCast_add,zjg];rfl
      have aR:=zm2 (l4.drop o) (l3.drop o) j r c4 ((r+c4) % B) ((r+c4) / B) D (by rw [List.length_drop,aC.len];omega) (by rw [zcA];exact H3.out) (Nat.mod_add_div _ _)
       (by rw [aK.out,List.take_of_length_le (l:=digs D) (by rw [hA.out];exact Nat.le_refl _),zaj])
      rw [←drop_set] at aR;have aG:=aC.set (o+j) ((r+c4) % B);have aO:=aS.set (o+j) (Nat.mod_lt (r+c4) zaO);have cS:D≤B ^ (j+1):=by
       have h6:=zab D;rw [hA.out] at h6;have h7:B ^ j≤B ^ (j+1):=Nat.pow_le_pow_right zaO (by omega);omega
      have bW:val ((l3.drop o).take (j+1))+q*D=R+B ^ (j+1):=by have h:=HP.out;rwa [Nat.mul_one] at h
      obtain ⟨f1,f2,f3⟩:=zmx R D q _ (B ^ (j+1)) _ ((r+c4) / B) 0 0 cB cS bW (znZ bE.out o j (by rw [bI.out.len];omega)) dD.out (znZ aO o j (by rw [aG.len];omega)) aR;have bC:w.grownBy (wr.setCell ⟨g,o+j,none⟩ (.int .u64 (((r+c4) % B:Nat):Int))) (some g):=za8 aU (p:=⟨g,o+j,none⟩) (.inl rfl) _;have cT:Hid (∀ t,t<o∨o+j+1≤t→(l4.set (o+j) ((r+c4) % B)).getD t 0=ls.getD t 0):=fun t ht=>by
       rw [zaG _ _ _ _ (by omega),aE.out t (by omega),aZ.out t (by omega)]
      have dL:(1:Int)≤q:=by omega
      have HV:Hid (((R / D:Nat):Int)=(q:Int) - 1):=by unfold Hid;rw [←f1];omega
      have F3:=Aa f3;have cV:=Aa aG;have dG:=Aa aO;have cO:=Aa bC;clear f1 f2 f3 aG aO bC aR bW;generalize (r+c4) % B=x5 at *;go_wp2
      go_ret;exact ⟨by rw [HV.out];rfl,_,cV.out,dG.out,F3.out,cT.out,cO.out⟩
theorem zaR (A A':Option Addr) (n c n' c' x y:Nat) (w:World) (ha:NatS w w.heap.size A n c x) (hb:NatS w w.heap.size A' n' c' y) :
  Calls Tryz.prog 130 #[.slice A n c,.slice A' n' c'] w fun e w'=>e = .returned (.int .i64 (ncmp x y))∧∃ q,w'=w.drewN q:=by
 have aC:=ha.len;have aD:=hb.len;have h1:=ha.cm;have h2:=ha.nc;have h3:=hb.cm;have h4:=hb.nc;unfold maxLen at h1 h3
 rcases Nat.lt_trichotomy n n' with aI | aR | aH
 ·have hr:ncmp x y = -1:=ncmp_lt (zbo (by omega))
  have HR:=Aa hr;clear hr aC aD;have e1:(((n:Nat):Int) != n')=true:=by rw [bne_iff_ne];omega
  have e2:decide (n'<n)=false:=by simp;omega
  go_enter Tryz.func130,Tryz.ntmps130
  go_wp2_with fail
  refine (zcG _ _).mono ?_;rintro e w1 ⟨rfl,rfl⟩;go_wp2
  go_ret;exact ⟨by rw [HR.out];rfl,0,rfl⟩
 ·subst aR
  go_enter Tryz.func130,Tryz.ntmps130
  have HA:=Aa aC;have HB:=Aa aD;clear aC aD
  go_wp2_with fail
  go_loopw [5] (fun s wr=>∃ i:Int, -1≤i∧i<n∧s = .int .i64 i∧Hid (∀ j (h:j<(digs x).length) (h':j<(digs y).length),i<(j:Int)→(digs x)[j]=(digs y)[j])∧∃ q,wr=w.drewN q) (fun s _=>(intOf s+1).toNat)
  case atStart=>
   refine ⟨_,by omega,by omega,rfl,?_,0,rfl⟩;intro j h h' hj;have:=HA.out;omega
  case round=>
   obtain ⟨i,aS,aT,rfl,hz,q,rfl⟩:=hrel
   by_cases h0:0≤i
   ·obtain ⟨k,rfl⟩:=Int.eq_ofNat_of_zero_le h0
    have aE:k<n:=by omega
    obtain ⟨ad,rfl,aX,aM⟩:=ha.words.word (k:=k) aE;obtain ⟨aV,rfl,aW,aQ⟩:=hb.words.word (k:=k) aE;have aO:k<(digs x).length:=by rw [HA.out];exact aE
    have aN:k<(digs y).length:=by rw [HB.out];exact aE
    have aJ:(digs x).getD k 0=(digs x)[k]:=by simp [List.getD,aO]
    have aP:(digs y).getD k 0=(digs y)[k]:=by simp [List.getD,aN]
    have HX:=Aa aJ;have HY:=Aa aP;clear aJ aP;generalize aK:(digs x).getD k 0=xk at aM;generalize aL:(digs y).getD k 0=yk at aQ;have aG:=Aa aK;have aF:=Aa aL;clear aK aL;have aY:=aM;have aU:(k:Int)<(n:Int):=by omega
    by_cases he:xk=yk
    ·subst he
     have e3:(((xk:Nat):Int) != xk)=false:=by simp
     go_wp2
     go_quiet (fail)
     go_wp2
     go_roundw
     case rel=>
      refine ⟨(k:Int) - 1,by omega,by omega,by go_num,?_,_,rfl⟩;intro j h h' hj
      rcases Nat.lt_or_ge k j with h5 | h5
      ·exact hz.out j h h' (by omega)
      ·obtain rfl:j=k:=by omega
       rw [←HX.out,←HY.out,aG.out,aF.out]
     case measure=>simp [intOf]<;>omega
    ·have e3:(((xk:Nat):Int) != yk)=true:=by rw [bne_iff_ne];omega
     have aA:(digs x).length=(digs y).length:=by rw [HA.out,HB.out]
     have HL:=Aa aA;clear aA
     by_cases aI:xk<yk
     ·have hr:ncmp x y = -1:=ncmp_lt (zeP HL.out k aO (fun j h h' hj=>hz.out j h h' (by omega)) (by rw [aG.out,aF.out];exact aI))
      have HR:=Aa hr;clear hr;have e4:decide (yk<xk)=false:=by simp;omega
      go_wp2
      go_quiet (fail)
      go_wp2
      go_quiet ((go_at_call 146;first | exact zb4 (zcG _ _) | exact zcP (zcG _ _)))
      go_wp2
      go_ret;exact ⟨by rw [HR.out];rfl,by first | exact ⟨_,rfl⟩ | (simp only [World.drewN_drewN];exact ⟨_,rfl⟩)⟩
     ·have aH:yk<xk:=by omega
      have hr:ncmp x y=1:=ncmp_gt (zeP HL.out.symm k aN (fun j h h' hj=>(hz.out j h' h (by omega)).symm) (by rw [aG.out,aF.out];exact aH));have HR:=Aa hr;clear hr;have e4:decide (yk<xk)=true:=by simp;omega
      go_wp2
      go_quiet (fail)
      go_wp2
      go_quiet ((go_at_call 146;first | exact zb4 (zcG _ _) | exact zcP (zcG _ _)))
      go_wp2
      go_ret;exact ⟨by rw [HR.out];rfl,by first | exact ⟨_,rfl⟩ | (simp only [World.drewN_drewN];exact ⟨_,rfl⟩)⟩
   ·go_wp2
    go_ret;obtain rfl:x=y:=zgt (by rw [HA.out,HB.out]) (fun j h h'=>hz.out j h h' (by omega));exact ⟨by rw [ncmp_eq];rfl,q,rfl⟩
 ·have hr:ncmp x y=1:=ncmp_gt (zbo (by omega))
  have HR:=Aa hr;clear hr aC aD;have e1:(((n:Nat):Int) != n')=true:=by rw [bne_iff_ne];omega
  have e2:decide (n'<n)=true:=by simp;omega
  go_enter Tryz.func130,Tryz.ntmps130
  go_wp2_with fail
  refine (zcG _ _).mono ?_;rintro e w1 ⟨rfl,rfl⟩;go_wp2
  go_ret;exact ⟨by rw [HR.out];rfl,0,rfl⟩
end Go.Proofs.YtbkgkoenppkhpaaGreatDoor
