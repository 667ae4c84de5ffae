/- Contracts of the functions of package number on naturals: plus, subtract, minus. -/
import Derived.Test.YtbkgkoenppkhpaaGreatDoorGWords
import Derived.Test.YtbkgkoenppkhpaaGreatDoorGNum1
import Derived.Test.YtbkgkoenppkhpaaGreatDoorGNat5
set_option maxRecDepth 100000
set_option maxHeartbeats 4000000
namespace Go.Proofs.YtbkgkoenppkhpaaGreatDoor
section
open Go.RowKit Bn
def zoo (w wr:World) (g n:Nat) (la lb:List Nat) (k c0:Nat):Prop:=
 ∃ ls,zau wr w.heap.size g (n+1) (n+1) ls∧Wf ls∧val (ls.take k)+B ^ k*c0=val (la.take k)+val (lb.take k)∧Below w.heap.size w wr
theorem zcF (A A':Option Addr) (n c n' c' x y:Nat) (w:World) (ha:NatS w w.heap.size A n c x) (hb:NatS w w.heap.size A' n' c' y) (hn:n≤1099511627776) (hn':n'≤1099511627776) :
  Calls Tryz.prog 170 #[.slice A n c,.slice A' n' c'] w (zb9 w (x+y)):=by
 obtain ⟨i0,bH,bG,bB,bK⟩:=info_parts zca;go_enter Tryz.func170,Tryz.ntmps170
 go_upto_if 14 with (fail)
 go_cut [0,1] (fun s s' wc=>∃ A n c A' n' c' u v,s = .slice A n c∧s' = .slice A' n' c'∧NatS w w.heap.size A n c u∧NatS w w.heap.size A' n' c' v∧n'≤n∧n≤1099511627776∧u+v=x+y∧wc=w)
 case first=>
  by_cases hlt:n<n'
  ·have hd:decide (n<n')=true:=by simpa using hlt
   go_wp2_with fail
   go_meet
   exact ⟨A',n',c',A,n,c,y,x,rfl,rfl,hb,ha,by omega,hn',by omega,rfl⟩
  ·have hd:decide (n<n')=false:=by simpa using hlt
   go_wp2_with fail
   go_meet
   exact ⟨A,n,c,A',n',c',x,y,rfl,rfl,ha,hb,by omega,hn,by omega,rfl⟩
 case rest=>
  clear ha hb hn hn';obtain ⟨A,n,c,A',n',c',u,v,rfl,rfl,ha,hb,bA,hn,aW,rfl⟩:=hcut;have aT:=ha.len;have aU:=hb.len;have hA:=Aa aT;have hB:=Aa aU;have aZ:=Aa aW;clear aT aU aW;have h1:=ha.nc;have h2:=ha.cm;have h3:=hb.nc;have h4:=hb.cm;unfold maxLen at h2 h4
  go_wp2_with (at_make;refine wpList_make_full _ rfl _ _ 85 rfl wc.heap.size 116 i0 (.int .u64 0) 1 Tryz.underlying85 bH bG bB _ _ _ _ (n+1) rfl rfl (by omega) (by omega) ?b2 ?b3 (Nat.le_refl _) ?_)
  case b2=>rw [bK];omega
  case b3=>unfold maxLen;omega
  intro w0 aF aD;have aK:=zau.made aF;have aJ:Below wc.heap.size wc w0:=(Below.refl _ _).grown aD (Nat.le_refl _) (fun k h=>by cases h);clear aF;go_wp2
  clear aD
  go_loopw [6,23] (fun cy s wr=>∃ k c0:Nat,k≤n∧c0≤1∧s = .int .i64 k∧cy = .int .u64 c0∧zoo wc wr wc.heap.size n (digs u) (digs v) k c0) (fun _ s _=>n - (intOf s).toNat)
  case atStart=>exact ⟨0,0,by omega,by omega,rfl,rfl,_,aK,Wf.replicate _,by simp,aJ⟩
  case round=>
   obtain ⟨k,c0,hk,bJ,rfl,rfl,ls,aA,aR,aL,aC⟩:=hrel;have HV:=Aa aL;clear aL
   by_cases hkn:k<n
   ·obtain ⟨ad,rfl,bN,bC⟩:=(ha.below aC).words.word (k:=k) hkn
    have aQ:k<ls.length:=by rw [aA.len];omega
    have aO:=aA.cell k (by omega);have bI:=aA.free k;have aX:=zaA (zap u) k;have aS:=zaA (zap v) k;obtain ⟨xk,aN⟩:∃ xk,(digs u).getD k 0=xk:=⟨_,rfl⟩;obtain ⟨yk,aG⟩:∃ yk,(digs v).getD k 0=yk:=⟨_,rfl⟩;rw [aN] at bC aX;rw [aG] at aS;generalize ls.getD k 0=old at aO;obtain ⟨s,d,aP,aV,aY,aI⟩:=zbX xk yk c0 aX aS bJ;have HP:Hid (val ((ls.set k s).take (k+1))+B ^ (k+1)*d=val ((digs u).take (k+1))+val ((digs v).take (k+1))):=
     zeQ ls _ _ k aQ s c0 d HV.out (by rw [aN,aG];exact aP)
    by_cases hkn':k<n'
    ·obtain ⟨bL,rfl,bM,bF⟩:=(hb.below aC).words.word (k:=k) hkn'
     rw [aG] at bF;clear aP aN aG;go_wp2
     go_roundw
     case rel=>exact ⟨k+1,d,by omega,aY,by go_num,rfl,_,aA.set k s,aR.set k aV,HP.out,aC.setCell (Nat.le_refl _) _⟩
     case measure=>simp [intOf]<;>omega
    ·have bD:yk=0:=by rw [←aG];exact zbU (by rw [hB.out];omega)
     subst bD
     replace aI:∀ w:World,(callFunc 203 #[.int .u64 xk,.int .u64 0,.int .u64 c0]).run Tryz.prog w = .ok (.value (.tuple #[.int .u64 s,.int .u64 d])) w:=aI
     clear aP aN aG;go_wp2
     go_roundw
     case rel=>exact ⟨k+1,d,by omega,aY,by go_num,rfl,_,aA.set k s,aR.set k aV,HP.out,aC.setCell (Nat.le_refl _) _⟩
     case measure=>simp [intOf]<;>omega
   ·obtain rfl:k=n:=by omega
    have aQ:k<ls.length:=by rw [aA.len];omega
    have aO:=aA.cell k (by omega);have bI:=aA.free k;generalize ls.getD k 0=old at aO;have aH:=aA.set k c0;have aE:val (ls.set k c0)=x+y:=by
     have h5:=zaF ls k c0 aQ;rw [List.take_of_length_le (by simp [aA.len]),HV.out,List.take_of_length_le (by rw [hA.out];exact Nat.le_refl _),List.take_of_length_le (by rw [hB.out];exact bA),zaj,zaj] at h5;rw [h5,aZ.out]
    have aM:Below wc.heap.size wc (wr.setCell ⟨wc.heap.size,k,none⟩ (.int .u64 c0)):=aC.setCell (Nat.le_refl _) _;have ht:=zc4 (some ⟨wc.heap.size,0,none⟩) (k+1) (k+1) (ls.set k c0) _ aH.words (aR.set k (by unfold B;omega)) (Nat.le_refl _) (by unfold maxLen;omega);rw [aE] at ht;have HT:=Aa ht;clear ht aE
    go_wp2_with fail
    refine HT.out.mono ?_;rintro e w1 ⟨m,rfl,bE,rfl⟩;go_wp2
    go_ret;exact ⟨_,m,_,rfl,bE,aM⟩
def zoT (w wr:World) (base g nt ct:Nat) (lt la lb:List Nat) (same:Prop) (k b0:Nat):Prop:=
 ∃ ls,zau wr base g nt ct ls∧Wf ls∧val (ls.take k)+val (lb.take k)=val (la.take k)+B ^ k*b0∧(same→∀ j,k≤j→ls.getD j 0=lt.getD j 0)∧w.grownBy wr (some g)
theorem zdF (A A':Option Addr) (base g nt ct n c n' c' x y:Nat) (lt:List Nat) (w:World) (same:Prop) (ht:zau w base g nt ct lt) (hlt:Wf lt) (ha:NatS w w.heap.size A n c x)
  (hb:NatS w w.heap.size A' n' c' y) (hAs:((0<n→Off A g)∧¬ same)∨(A=some ⟨g,0,none⟩∧lt=digs x∧same)) (hob:0<n'→Off A' g) (hnt:n≤nt) (hyx:y≤x) (hn:n≤1099511627776) :
  Calls Tryz.prog 184 #[.slice (some ⟨g,0,none⟩) nt ct,.slice A n c,.slice A' n' c'] w fun e w'=>∃ m,e = .returned (.slice (some ⟨g,0,none⟩) m ct)∧zau w' base g m ct (digs (x - y))∧w.grownBy w' (some g):=by
 have aJ:=ha.len;have aK:=hb.len;have hA:=Aa aJ;have hB:=Aa aK;have aV:n'≤n:=by rw [←aJ,←aK];exact zaa hyx
 clear aJ aK;have h1:=ha.nc;have h2:=ha.cm;have h3:=hb.nc;have h4:=hb.cm;have h5:=ht.caps;unfold maxLen at h2 h4 h5;obtain ⟨h5,h6⟩:=h5;have HT:=Aa ht;have HS:=Aa hAs;clear ht hAs;go_enter Tryz.func184,Tryz.ntmps184
 go_wp2
 go_loopw [7,13] (fun cy s wr=>∃ k b0:Nat,k≤n∧b0≤1∧s = .int .i64 k∧cy = .int .u64 b0∧zoT w wr base g nt ct lt (digs x) (digs y) same k b0) (fun _ s _=>n - (intOf s).toNat)
 case atStart=>exact ⟨0,0,by omega,by omega,rfl,rfl,lt,HT.out,hlt,by simp,fun _ _ _=>rfl,World.grownBy.refl w _⟩
 case round=>
  obtain ⟨k,b0,hk,aR,rfl,rfl,ls,aA,aI,aE,aQ,aF⟩:=hrel;have HV:=Aa aE;have HM:=Aa aQ;clear aE aQ
  by_cases hkn:k<n
  ·have bA:∃ ad,A=some ad∧wr.cell? (ad.add k)=some (.int .u64 (((digs x).getD k 0:Nat):Int)):=by
    rcases HS.out with ⟨ho,_⟩ | ⟨aH,aM,hs⟩
    ·obtain ⟨ad,e,_,hc⟩:=(ha.words.kept aF (Nat.le_refl _) ho).word (k:=k) hkn
     exact ⟨ad,e,hc⟩
    ·refine ⟨_,aH,?_⟩
     have:=aA.cell k (by omega);rw [HM.out hs k (Nat.le_refl _),aM] at this;have e0:(⟨g,0,none⟩:Addr).add k=⟨g,k,none⟩:=by
      unfold Addr.add
      by_cases hj:k=0<;>simp [hj]
     rw [e0];exact this
   obtain ⟨ad,aH,aX⟩:=bA;have bF:=Aa aH;have bB:k<ls.length:=by rw [aA.len];omega
   have aU:=aA.cell k (by omega);have bE:=aA.free k;have aS:=zaA (zap x) k;have aN:=zaA (zap y) k;obtain ⟨xk,aG⟩:∃ xk,(digs x).getD k 0=xk:=⟨_,rfl⟩;obtain ⟨yk,aC⟩:∃ yk,(digs y).getD k 0=yk:=⟨_,rfl⟩;rw [aG] at aX aS;rw [aC] at aN;generalize ls.getD k 0=old at aU;obtain ⟨s,d,aL,aP,aT,aD⟩:=ze0 xk yk b0 aS aN aR;have HP:Hid (val ((ls.set k s).take (k+1))+val ((digs y).take (k+1))=val ((digs x).take (k+1))+B ^ (k+1)*d):=
    zga ls _ _ k bB s b0 d HV.out (by rw [aG,aC];exact aL)
   have aO:Hid (same→∀ j,k+1≤j→(ls.set k s).getD j 0=lt.getD j 0):=fun hs j hj=>by
    rw [←HM.out hs j (by omega)];simp only [List.getD]
    rw [List.getElem?_set_ne (by omega)]
   subst aH
   by_cases hkn':k<n'
   ·obtain ⟨bC,rfl,bD,aZ⟩:=(hb.words.kept aF (Nat.le_refl _) hob).word (k:=k) hkn'
    rw [aC] at aZ;clear aL aG aC;go_wp2
    go_roundw
    case rel=>exact ⟨k+1,d,by omega,aT,by go_num,rfl,_,aA.set k s,aI.set k aP,HP.out,aO.out,za8 aF (.inl rfl) _⟩
    case measure=>simp [intOf]<;>omega
   ·have aW:yk=0:=by rw [←aC];exact zbU (by rw [hB.out];omega)
    subst aW
    replace aD:∀ w:World,(callFunc 214 #[.int .u64 xk,.int .u64 0,.int .u64 b0]).run Tryz.prog w = .ok (.value (.tuple #[.int .u64 s,.int .u64 d])) w:=aD
    clear aL aG aC;go_wp2
    go_roundw
    case rel=>exact ⟨k+1,d,by omega,aT,by go_num,rfl,_,aA.set k s,aI.set k aP,HP.out,aO.out,za8 aF (.inl rfl) _⟩
    case measure=>simp [intOf]<;>omega
  ·obtain rfl:k=n:=by omega
   have hv:val (ls.take k)=x - y:=by
    have h7:=HV.out;rw [List.take_of_length_le (l:=digs x) (by rw [hA.out];exact Nat.le_refl _),List.take_of_length_le (l:=digs y) (by rw [hB.out];exact aV),zaj,zaj] at h7;have h8:=zbm (aI.take k);rw [List.length_take,aA.len,Nat.min_eq_left hnt] at h8;have h9:=zab x;rw [hA.out] at h9;exact minus_end _ _ _ _ _ h7 h8 hyx aR
   have ht:=zb1 base g k ct (ls.take k) wr (aA.take hnt) (aI.take k);rw [hv] at ht;have HC:=Aa ht;clear ht hv
   go_wp2_with fail
   refine HC.out.mono ?_;rintro e w1 ⟨m,rfl,aY,rfl⟩;go_wp2
   go_ret;exact ⟨m,rfl,aY,aF⟩
theorem zc0 (A A':Option Addr) (n c n' c' x y:Nat) (w:World) (ha:NatS w w.heap.size A n c x) (hb:NatS w w.heap.size A' n' c' y) (hyx:y≤x) (hn:n≤1099511627776) :
  Calls Tryz.prog 192 #[.slice A n c,.slice A' n' c'] w (zb9 w (x - y)):=by
 obtain ⟨i0,aK,aJ,aG,aI⟩:=info_parts zca;go_enter Tryz.func192,Tryz.ntmps192
 go_wp2_with (at_make;refine wpList_make_full _ rfl _ _ 85 rfl w.heap.size 116 i0 (.int .u64 0) 1 Tryz.underlying85 aK aJ aG _ _ _ _ n rfl rfl (by omega) (by omega) ?b2 ?b3 (Nat.le_refl _) ?_)
 case b2=>rw [aI];omega
 case b3=>unfold maxLen;omega
 intro w0 aD aC;have aA:Below w.heap.size w w0:=(Below.refl _ _).grown aC (Nat.le_refl _) (fun k h=>by cases h);have aE:=zau.made aD;clear aD aC;have hc:=zdF A A' w.heap.size w.heap.size n n n c n' c' x y _ w0 False aE (Wf.replicate n) (ha.later aA) (hb.later aA) (.inl ⟨ha.off (Nat.le_refl _),id⟩) (hb.off (Nat.le_refl _)) (Nat.le_refl _) hyx hn
 go_wp2_with fail
 refine hc.mono ?_;rintro e w1 ⟨m,rfl,aH,aF⟩;go_wp2
 go_ret;exact ⟨_,m,_,rfl,aH.nat,aA.grown aF aA.size (fun k hk=>by cases hk;exact Nat.le_refl _)⟩
theorem zgH (x y:Nat) (hx:x<18446744073709551616) (hy:y<18446744073709551616) :
  ∃ hi lo:Nat,lo+18446744073709551616*hi=x*y∧lo<18446744073709551616∧hi<18446744073709551616 ∧
   ∀ w:World,Calls Tryz.prog 202 #[.int .u64 x,.int .u64 y] w fun e w'=>e = .returned (.tuple #[.int .u64 (hi:Int),.int .u64 (lo:Int)])∧w'=w:=by
 refine ⟨x*y / 18446744073709551616,x*y % 18446744073709551616,Nat.mod_add_div _ _,Nat.mod_lt _ (by omega),?_,fun w=>Tryz.bits_Mul64 x y hx hy w⟩;exact Nat.div_lt_of_lt_mul (zjT x y hx hy)
theorem zc5 (a b c d:Nat) (ha:a<18446744073709551616) (hb:b<18446744073709551616) (hc:c<18446744073709551616) (hd:d<18446744073709551616) :
  ∃ lo hi:Nat,lo+18446744073709551616*hi=a*b+c+d∧lo<18446744073709551616∧hi<18446744073709551616 ∧
   ∀ w:World,Calls Tryz.prog 156 #[.int .u64 a,.int .u64 b,.int .u64 c,.int .u64 d] w fun e w'=>e = .returned (.tuple #[.int .u64 (lo:Int),.int .u64 (hi:Int)])∧w=w':=by
 obtain ⟨h,l,hm,hl,hh,aE⟩:=zgH a b ha hb;obtain ⟨l1,c1,e1,aG,aI,aC⟩:=zbX l c 0 hl hc (by omega);obtain ⟨l2,c2,e2,aF,aJ,aD⟩:=zbX l1 d 0 aG hd (by omega);have aA:=zhE a b ha hb;have aH:h+c1+c2<18446744073709551616:=by omega
 refine ⟨l2,h+c1+c2,by omega,aF,aH,fun w => ?_⟩
 replace aC:∀ w:World,(callFunc 203 #[.int .u64 l,.int .u64 c,.int .u64 0]).run Tryz.prog w = .ok (.value (.tuple #[.int .u64 l1,.int .u64 c1])) w:=aC
 replace aD:∀ w:World,(callFunc 203 #[.int .u64 l1,.int .u64 d,.int .u64 0]).run Tryz.prog w = .ok (.value (.tuple #[.int .u64 l2,.int .u64 c2])) w:=aD
 clear e1 e2 hm aA;go_enter Tryz.func156,Tryz.ntmps156
 go_wp2_with fail
 refine (aE _).mono ?_;rintro e w' ⟨rfl,rfl⟩;go_wp2
 go_ret2
 exact ⟨rfl,rfl⟩
def znp (w wr:World) (n n':Nat) (la lb:List Nat) (i:Nat):Prop:=
 ∃ ls,zau wr w.heap.size w.heap.size (n+n') (n+n') ls∧Wf ls∧val ls=val (la.take i)*val lb∧(∀ t,i+n'≤t→ls.getD t 0=0)∧Below w.heap.size w wr
def zoD (w wr:World) (n n':Nat) (la lb:List Nat) (i j c:Nat):Prop:=
 ∃ ls,zau wr w.heap.size w.heap.size (n+n') (n+n') ls∧Wf ls∧val ls+B ^ (i+j)*c=val (la.take i)*val lb+B ^ i*(la.getD i 0*val (lb.take j))∧(∀ t,i+n'≤t→ls.getD t 0=0)∧Below w.heap.size w wr
theorem zaL (A A':Option Addr) (n c n' c' x y:Nat) (w:World) (ha:NatS w w.heap.size A n c x) (hb:NatS w w.heap.size A' n' c' y) (hn:n≤1099511627776) (hn':n'≤1099511627776) :
  Calls Tryz.prog 90 #[.slice A n c,.slice A' n' c'] w (zb9 w (x*y)):=by
 obtain ⟨i0,bK,bJ,bE,bM⟩:=info_parts zca;have aX:=ha.len;have aY:=hb.len;have hA:=Aa aX;have hB:=Aa aY;clear aX aY;have h1:=ha.nc;have h2:=ha.cm;have h3:=hb.nc;have h4:=hb.cm;unfold maxLen at h2 h4;go_enter Tryz.func90,Tryz.ntmps90
 go_wp2_with (at_make;refine wpList_make_full _ rfl _ _ 85 rfl w.heap.size 116 i0 (.int .u64 0) 1 Tryz.underlying85 bK bJ bE _ _ _ _ (n+n') rfl rfl (by omega) (by omega) ?b2 ?b3 (Nat.le_refl _) ?_)
 case b2=>rw [bM];omega
 case b3=>unfold maxLen;omega
 intro w0 aF aC;have aI:Below w.heap.size w w0:=(Below.refl _ _).grown aC (Nat.le_refl _) (fun k h=>by cases h);have aJ:=zau.made aF;clear aF aC;go_wp2
 go_loopw [19] (fun s wr=>∃ i:Nat,i≤n∧s = .int .i64 i∧znp w wr n n' (digs x) (digs y) i) (fun s _=>n - (intOf s).toNat)
 case atStart=>exact ⟨0,by omega,rfl,_,aJ,Wf.replicate _,by simp [zaX],fun t _=>zcu _ _,aI⟩
 case round=>
  obtain ⟨i,hi,rfl,ls,aM,bB,aK,hz,aG⟩:=hrel;obtain ⟨wo,rfl⟩:∃ wo:World,wo=wr:=⟨_,rfl⟩;have HV:=Aa aK;have HZ:=Aa hz;clear aK hz
  by_cases hin:i<n
  ·obtain ⟨ad,rfl,bP,bF⟩:=(ha.below aG).words.word (k:=i) hin
   have bC:=zaA (zap x) i;obtain ⟨f,aQ⟩:∃ f,(digs x).getD i 0=f:=⟨_,rfl⟩;rw [aQ] at bF bC;have HF:=Aa aQ;clear aQ
   go_wp2_with fail
   go_loopw [8,26] (fun cy s wr=>∃ j c0:Nat,j≤n'∧c0<18446744073709551616∧s = .int .i64 j∧cy = .int .u64 c0∧zoD w wr n n' (digs x) (digs y) i j c0) (fun _ s _=>n' - (intOf s).toNat)
   case atStart=>exact ⟨0,0,by omega,by omega,rfl,rfl,ls,aM,bB,by rw [HV.out];simp,HZ.out,aG⟩
   case round=>
    obtain ⟨j,c0,hj,bA,rfl,rfl,l2,aA,aH,aE,aN,aD⟩:=hrel;have aV:=Aa aE;have aR:=Aa aN;clear aE aN
    by_cases hjn:j<n'
    ·obtain ⟨bN,rfl,bO,bH⟩:=(hb.below aD).words.word (k:=j) hjn
     have aW:=zaA (zap y) j;obtain ⟨yk,aS⟩:∃ yk,(digs y).getD j 0=yk:=⟨_,rfl⟩;rw [aS] at bH aW;have aO:=aA.cell (i+j) (by omega);have bL:=aA.free (i+j);have aZ:=zaA aH (i+j);obtain ⟨o,aU⟩:∃ o,l2.getD (i+j) 0=o:=⟨_,rfl⟩;rw [aU] at aO aZ;obtain ⟨lo,aT,e1,bI,bD,aL⟩:=zc5 f yk o c0 bC aW aZ bA;have HP:Hid (val (l2.set (i+j) lo)+B ^ (i+(j+1))*aT=val ((digs x).take i)*val (digs y)+B ^ i*((digs x).getD i 0*val ((digs y).take (j+1)))):=
      zef l2 (digs y) i j _ _ lo aT c0 (by rw [aA.len];omega) aV.out (by rw [aS,aU,HF.out];exact e1)
     have aP:Hid (∀ t,i+n'≤t→(l2.set (i+j) lo).getD t 0=0):=fun t ht=>by rw [zaG _ _ _ _ (by omega)];exact aR.out t ht
     clear e1 aS aU
     go_wp2_with fail
     refine (aL _).mono ?_;rintro e w' ⟨rfl,rfl⟩;go_wp2
     go_roundw
     case rel=>exact ⟨j+1,aT,by omega,bD,by go_num,rfl,_,aA.set (i+j) lo,aH.set _ bI,HP.out,aP.out,aD.setCell (Nat.le_refl _) _⟩
     case measure=>simp [intOf]<;>omega
    ·obtain rfl:j=n':=by omega
     have aO:=aA.cell (i+j) (by omega);have bL:=aA.free (i+j);have HP:Hid (val (l2.set (i+j) c0)=val ((digs x).take (i+1))*val (digs y)):=
      zfM l2 (digs x) (digs y) i j c0 (by rw [aA.len];omega) (aR.out _ (Nat.le_refl _)) hB.out aV.out
     have aP:Hid (∀ t,i+1+j≤t→(l2.set (i+j) c0).getD t 0=0):=fun t ht=>by rw [zaG _ _ _ _ (by omega)];exact aR.out t (by omega)
     generalize l2.getD (i+j) 0=old at aO;go_wp2
     go_roundw
     case rel=>exact ⟨i+1,by omega,by go_num,_,aA.set (i+j) c0,aH.set _ bA,HP.out,aP.out,aD.setCell (Nat.le_refl _) _⟩
     case measure=>simp [intOf]<;>omega
  ·obtain rfl:i=n:=by omega
   have hv:val ls=x*y:=by rw [HV.out,List.take_of_length_le (by rw [hA.out];exact Nat.le_refl _),zaj,zaj]
   have ht:=zc4 (some ⟨w.heap.size,0,none⟩) (i+n') (i+n') ls wo aM.words bB (Nat.le_refl _) (by unfold maxLen;omega);rw [hv] at ht;have HC:=Aa ht;clear ht hv
   go_wp2_with fail
   refine HC.out.mono ?_;rintro e w1 ⟨m,rfl,bG,rfl⟩;go_wp2
   go_ret;exact ⟨_,m,_,rfl,bG,aG⟩
end
end Go.Proofs.YtbkgkoenppkhpaaGreatDoor
namespace Go.Proofs.YtbkgkoenppkhpaaGreatDoor.Bn
section
variable {b r2 r1 r0 d1 d0 q rest:Nat}
theorem zjz (hq:r2*b+r1=q*d1+rest) (_hb:0<b) (ht:min (b - 1) (((r2*b+r1)*b+r0) / (d1*b+d0))≤q) (hlt:rest*b+r0<q*d0) :
  1≤q∧min (b - 1) (((r2*b+r1)*b+r0) / (d1*b+d0))≤q - 1:=by
 have _:=ht;have h1:1≤q:=by
  rcases Nat.eq_zero_or_pos q with rfl | h
  ·simp at hlt
  ·exact h
 refine ⟨h1,Nat.le_trans (Nat.min_le_right _ _) ?_⟩;have:((r2*b+r1)*b+r0) / (d1*b+d0)<q:=by
  rcases Nat.eq_zero_or_pos (d1*b+d0) with h | h
  ·have:d0=0:=by omega
   subst this;simp at hlt
  ·rw [Nat.div_lt_iff_lt_mul h,hq,Nat.mul_add,Nat.add_mul,←Nat.mul_assoc]
   omega
 omega
theorem zgO (hq:r2*b+r1=q*d1+rest) (hb:0<b) (hd:0<d1) (hqb:q<b) (ht:min (b - 1) (((r2*b+r1)*b+r0) / (d1*b+d0))≤q) (hle:q*d0≤rest*b+r0) :
  q=min (b - 1) (((r2*b+r1)*b+r0) / (d1*b+d0)):=by
 refine Nat.le_antisymm (Nat.le_min.2 ⟨by omega,?_⟩) ht;have h0:0<d1*b+d0:=by have:=Nat.mul_pos hd hb;omega
 rw [Nat.le_div_iff_mul_le h0,hq,Nat.mul_add,Nat.add_mul,←Nat.mul_assoc];omega
theorem zlY (hq:r2*b+r1=q*d1+rest) (hb:0<b) (hd:0<d1) (hqb:q<b) (hd0:d0<b) (ht:min (b - 1) (((r2*b+r1)*b+r0) / (d1*b+d0))≤q) (hr:b≤rest) :
  q=min (b - 1) (((r2*b+r1)*b+r0) / (d1*b+d0)):=by
 refine zgO hq hb hd hqb ht ?_;have h1:q*d0≤b*b:=Nat.mul_le_mul (by omega) (by omega);have h2:b*b≤rest*b:=Nat.mul_le_mul_right _ hr;omega
theorem zlw (hq:r2*b+r1=q*d1+rest) (h1:1≤q):r2*b+r1=(q - 1)*d1+(rest+d1):=by
 obtain ⟨p,rfl⟩:∃ p,q=p+1:=⟨q - 1,by omega⟩;rw [Nat.add_sub_cancel];rw [Nat.add_mul] at hq;omega
theorem ziq (hd:0<d1) (hr0:r0<b) (hq:q=(r2*b+r1) / d1):min (b - 1) (((r2*b+r1)*b+r0) / (d1*b+d0))≤q:=by
 refine Nat.le_trans (Nat.min_le_right _ _) ?_;rw [hq];exact zfG hr0 rfl hd
end
theorem znn (b m R D N3 D2 lr ld q:Nat) (hR:R=N3*m+lr) (hD:D=D2*m+ld) (hlr:lr<m) (hld:ld<m) (hD2:b≤D2) (hq:q=min (b - 1) (N3 / D2)) (hlt:R<D*b) (hb:1<b) :
  R / D≤q∧q≤R / D+1:=by
 have hm:0<m:=by omega
 have aA:0<D:=by
  rw [hD];have:=Nat.mul_pos (show 0<D2 by omega) hm;omega
 constructor
 ·rw [hq]
  refine Nat.le_min.2 ⟨?_,?_⟩
  ·have:R / D<b:=by rw [Nat.div_lt_iff_lt_mul aA,Nat.mul_comm];exact hlt
   omega
  ·rw [Nat.le_div_iff_mul_le (by omega)]
   have h1:R / D*D≤R:=Nat.div_mul_le_self _ _;generalize R / D=t at *;rw [hD,hR,Nat.mul_add,←Nat.mul_assoc] at h1;have h2:t*D2*m<(N3+1)*m:=by rw [Nat.add_mul,Nat.one_mul];omega
   have:=Nat.lt_of_mul_lt_mul_right h2;omega
 ·have h1:q*D2≤N3:=by
   have:q≤N3 / D2:=by rw [hq];exact Nat.min_le_right _ _
   exact (Nat.le_div_iff_mul_le (by omega)).1 this
  have h2:q≤b - 1:=by rw [hq];exact Nat.min_le_left _ _
  rcases Nat.eq_zero_or_pos q with h0 | h0
  ·rw [h0];exact Nat.zero_le _
  have h3:q - 1≤R / D:=by
   rw [Nat.le_div_iff_mul_le aA];have h4:q*ld≤D:=by
    have h5:q*ld≤b*m:=Nat.mul_le_mul (by omega) (by omega);have h6:b*m≤D2*m:=Nat.mul_le_mul_right _ hD2;omega
   have h7:q*D=q*D2*m+q*ld:=by rw [hD,Nat.mul_add,Nat.mul_assoc]
   have h8:q*D2*m≤N3*m:=Nat.mul_le_mul_right _ h1;have h9:(q - 1)*D+D=q*D:=by
    obtain ⟨p,rfl⟩:∃ p,q=p+1:=⟨q - 1,by omega⟩;rw [Nat.add_sub_cancel,Nat.add_mul,Nat.one_mul]
   omega
  generalize R / D=t at *;clear hq;omega
end Go.Proofs.YtbkgkoenppkhpaaGreatDoor.Bn
namespace Go.Proofs.YtbkgkoenppkhpaaGreatDoor
section
open Go.RowKit Bn
theorem zeq (l:List Nat) (k x:Nat) (hk:k<l.length):(l.set k x).drop k=x :: l.drop (k+1):=by
 rw [List.drop_eq_getElem_cons (by simpa using hk),List.getElem_set_self,List.drop_set_of_lt (by omega)]
theorem zfI (l:List Nat) (k:Nat) (hk:k<l.length):l.drop k=l.getD k 0 :: l.drop (k+1):=by
 rw [List.drop_eq_getElem_cons hk,Bn.getD_in hk]
theorem zkF (ls la:List Nat) (k q r rest b:Nat) (hk:k<ls.length) (hk':k<la.length) (hinv:val (ls.drop (k+1))*b+rest=val (la.drop (k+1)))
  (hd:rest*18446744073709551616+la.getD k 0=q*b+r):val ((ls.set k q).drop k)*b+r=val (la.drop k):=by
 rw [zeq ls k q hk,zfI la k hk',val_cons,val_cons,←hinv,Nat.add_mul,Nat.mul_add,Nat.mul_assoc];have e:B*rest=rest*18446744073709551616:=Nat.mul_comm _ _;rw [e];generalize B*(val (ls.drop (k+1))*b)=t;omega
theorem za9 (A:Option Addr) (n c x b:Nat) (w:World) (ha:NatS w w.heap.size A n c x) (hn:n≤1099511627776) (hb0:0<b) (hb:b<18446744073709551616) :
  Calls Tryz.prog 186 #[.slice A n c,.int .u64 b] w fun e w'=>∃ m c',e = .returned (.tuple #[.slice (some ⟨w.heap.size,0,none⟩) m c',.int .u64 ((x % b:Nat):Int)])∧zau w' w.heap.size w.heap.size m c' (digs (x / b))∧Below w.heap.size w w':=by
 obtain ⟨i0,aT,aS,aO,aU⟩:=info_parts zca;have hA:=Aa ha.len;have h1:=ha.nc;have h2:=ha.cm;unfold maxLen at h2;go_enter Tryz.func186,Tryz.ntmps186
 go_wp2_with (at_make;refine wpList_make_full _ rfl _ _ 85 rfl w.heap.size 116 i0 (.int .u64 0) 1 Tryz.underlying85 aT aS aO _ _ _ _ n rfl rfl (by omega) (by omega) ?b2 ?b3 (Nat.le_refl _) ?_)
 case b2=>rw [aU];omega
 case b3=>unfold maxLen;omega
 intro w0 aF aE;have aH:Below w.heap.size w w0:=(Below.refl _ _).grown aE (Nat.le_refl _) (fun k h=>by cases h);have aI:=zau.made aF;clear aF aE;go_wp2
 go_loopw [7,8] (fun rs s wr=>∃ (k aA:Nat) (i:Int),i=(k:Int) - 1∧k≤n∧aA<b∧s = .int .i64 i∧rs = .int .u64 aA∧∃ ls,zau wr w.heap.size w.heap.size n n ls∧Wf ls∧Hid (val (ls.drop k)*b+aA=val ((digs x).drop k))∧Below w.heap.size w wr) (fun _ s _=>(intOf s+1).toNat)
 case atStart=>
  refine ⟨n,0,_,rfl,Nat.le_refl _,hb0,rfl,rfl,_,aI,Wf.replicate _,?_,aH⟩;rw [Hid,List.drop_of_length_le (by simp),List.drop_of_length_le (by rw [hA.out];exact Nat.le_refl _)];simp
 case round=>
  obtain ⟨k,aA,i,hi,hk,aD,rfl,rfl,ls,aC,aL,aJ,aG⟩:=hrel;have HI:=Aa hi
  by_cases hk0:0<k
  ·obtain ⟨j,rfl⟩:∃ j,k=j+1:=⟨k - 1,by omega⟩
   obtain rfl:i=(j:Int):=by omega
   clear hi HI;obtain ⟨ad,rfl,aV,aP⟩:=(ha.below aG).words.word (k:=j) (by omega);have aM:=zaA (zap x) j;obtain ⟨z,hg⟩:∃ z,(digs x).getD j 0=z:=⟨_,rfl⟩;rw [hg] at aP aM;have aN:=aC.cell j (by omega);have aW:=aC.free j;generalize ls.getD j 0=old at aN;obtain ⟨q,r,hd,hr,hq,aK⟩:=zhF aA z b wr aD aM hb;have HP:Hid (val ((ls.set j q).drop j)*b+r=val ((digs x).drop j)):=
    zkF ls (digs x) j q r aA b (by rw [aC.len];omega) (by rw [hA.out];omega) aJ.out (by rw [hg];exact hd)
   clear hd hg
   go_wp2_with fail
   refine aK.mono ?_;rintro e w' ⟨rfl,kq,rfl⟩;go_wp2
   go_roundw
   case rel=>exact ⟨j,r,(j:Int) - 1,rfl,by omega,hr,by go_num,rfl,_,(aC.drewN kq).set j q,aL.set _ hq,HP,(zac aG kq).setCell (Nat.le_refl _) _⟩
   case measure=>simp [intOf]<;>omega
  ·obtain rfl:k=0:=by omega
   have aR:i<0:=by omega
   have hv:val ls=x / b∧aA=x % b:=by
    have h:=aJ.out;rw [List.drop_zero,List.drop_zero,zaj] at h;rw [←h,Nat.mul_comm,Nat.mul_add_div hb0,Nat.div_eq_of_lt aD,Nat.mul_add_mod,Nat.mod_eq_of_lt aD];exact ⟨rfl,rfl⟩
   have ht:=zb1 w.heap.size w.heap.size n n ls wr aC aL;rw [hv.1] at ht;have HC:=Aa ht;have HR:=Aa hv.2;clear ht hv hi
   go_wp2_with fail
   refine HC.out.mono ?_;rintro e w1 ⟨m,rfl,aQ,rfl⟩;go_wp2
   go_ret2
   exact ⟨m,n,by rw [←HR.out];rfl,aQ,aG⟩
theorem zhs (r2 r1 r0 d1 d0:Nat) (w:World) (h2:r2≤d1) (h1:r1<18446744073709551616) (h0:r0<18446744073709551616) (hd1:d1<18446744073709551616) (hd0:d0<18446744073709551616) (hd:0<d1) :
  Calls Tryz.prog 217 #[.int .u64 r2,.int .u64 r1,.int .u64 r0,.int .u64 d1,.int .u64 d0] w fun e w'=>e = .returned (.int .u64 ((min (B - 1) (((r2*B+r1)*B+r0) / (d1*B+d0)):Nat):Int))∧∃ k,w'=w.drewN k:=by
 obtain ⟨T,hT⟩:∃ v,v=min (B - 1) (((r2*B+r1)*B+r0) / (d1*B+d0)):=⟨_,rfl⟩;have HT:=Aa hT;rw [←hT];clear hT;go_enter Tryz.func217,Tryz.ntmps217
 go_upto_if 18 with (fail)
 go_cut [11,12,13] (fun a b c wc=>∃ q rest k cy:Nat,a = .int .u64 (q:Int)∧b = .int .u64 (rest:Int)∧c = .int .u64 (cy:Int)∧q<18446744073709551616∧rest<18446744073709551616∧cy≤1∧Hid (r2*B+r1=q*d1+(rest+B*cy))∧Hid (T≤q)∧wc=w.drewN k)
 case first=>
  by_cases hlt:r2<d1
  ·have hd:decide ((r2:Int)<(d1:Int))=true:=by rw [decide_eq_true_iff];omega
   obtain ⟨q,r,aP,hr,hq,aA⟩:=zhF r2 r1 d1 w hlt h1 hd1;have HQ:=Aa aP;clear aP
   go_wp2_with fail
   refine aA.mono ?_;rintro e w' ⟨rfl,kq,rfl⟩
   go_wp2_with fail
   go_meet
   refine ⟨q,r,kq,0,rfl,rfl,rfl,hq,by omega,by omega,?_,?_,rfl⟩
   ·rw [Hid,Nat.mul_zero,Nat.add_zero];exact HQ.out
   ·rw [Hid,HT.out]
    refine ziq (by omega) h0 ?_;have e:=HQ.out;show q=(r2*18446744073709551616+r1) / d1
    rw [e,Nat.mul_comm,Nat.mul_add_div (by omega),Nat.div_eq_of_lt hr,Nat.add_zero]
  ·obtain rfl:r2=d1:=by omega
   obtain ⟨s,cy,hs,aI,aJ,aC⟩:=zbX r1 r2 0 h1 hd1 (by omega)
   replace aC:∀ w:World,(callFunc 203 #[.int .u64 r1,.int .u64 r2,.int .u64 0]).run Tryz.prog w = .ok (.value (.tuple #[.int .u64 s,.int .u64 cy])) w:=aC
   have HS:=Aa hs;clear hs hlt
   go_wp2_with fail
   go_meet
   refine ⟨18446744073709551615,s,0,cy,rfl,rfl,rfl,by omega,aI,aJ,?_,?_,rfl⟩
   ·rw [Hid]
    have e:=HS.out;have e2:B*cy=18446744073709551616*cy:=rfl;have e3:r2*B=18446744073709551615*r2+r2:=by
     have:B=18446744073709551615+1:=rfl;rw [this,Nat.mul_add,Nat.mul_comm,Nat.mul_one]
    rw [e2,e3];generalize 18446744073709551615*r2=t;omega
   ·rw [Hid,HT.out];exact Nat.min_le_left _ _
 case rest=>
  obtain ⟨q,rest,k,cy,rfl,rfl,rfl,hq,aD,aO,HQ,aF,rfl⟩:=hcut
  go_wp2_with fail
  go_loop [11,12,13] (fun a b c=>∃ q rest cy:Nat,a = .int .u64 (q:Int)∧b = .int .u64 (rest:Int)∧c = .int .u64 (cy:Int)∧q<18446744073709551616∧rest<18446744073709551616∧cy≤1∧Hid (r2*B+r1=q*d1+(rest+B*cy))∧Hid (T≤q)) (fun a _ _=>(intOf a).toNat)
  case atStart=>exact ⟨q,rest,cy,rfl,rfl,rfl,hq,aD,aO,HQ,aF⟩
  case round=>
   clear HQ aF hq aD aO;obtain ⟨q,rest,cy,rfl,rfl,rfl,hq,aD,aO,HQ,aF⟩:=hrel
   by_cases hc0:cy=0
   ·subst hc0
    have aE:r2*B+r1=q*d1+rest:=by have h:=HQ.out;rwa [Nat.mul_zero,Nat.add_zero] at h
    obtain ⟨hi,lo,hm,aQ,aU,aA⟩:=zgH q d0 hq hd0;have em:lo+18446744073709551616*hi=hi*B+lo:=by
     have e:hi*B=18446744073709551616*hi:=Nat.mul_comm _ _;omega
    rw [em] at hm;clear em
    by_cases ha:hi<rest
    ·have aR:decide ((hi:Int)<(rest:Int))=true:=by rw [decide_eq_true_iff];omega
     have aL:hi*B+lo≤rest*B+r0:=by
      have h5:(hi+1)*B≤rest*B:=Nat.mul_le_mul_right _ ha;rw [Nat.add_mul,Nat.one_mul] at h5;have:lo<B:=aQ;omega
     have HB:Hid (q=T):=by
      rw [Hid,HT.out];exact zgO (b:=B) aE zaO hd hq (by rw [←HT.out];exact aF.out) (by rw [←hm];exact aL)
     clear hm aE
     go_wp2_with fail
     refine (aA _).mono ?_;rintro e w' ⟨rfl,rfl⟩;go_wp2
     go_ret;exact ⟨by rw [←HB.out];rfl,k,rfl⟩
    ·have aR:decide ((hi:Int)<(rest:Int))=false:=by rw [decide_eq_false_iff_not];omega
     by_cases hb:hi=rest
     ·have aS:((hi:Int)==(rest:Int))=true:=by rw [beq_iff_eq];omega
      by_cases hc:lo≤r0
      ·have aJ:decide ((lo:Int)≤(r0:Int))=true:=by rw [decide_eq_true_iff];omega
       have aL:hi*B+lo≤rest*B+r0:=by rw [hb];omega
       clear hb;have HB:Hid (q=T):=by
        rw [Hid,HT.out];exact zgO (b:=B) aE zaO hd hq (by rw [←HT.out];exact aF.out) (by rw [←hm];exact aL)
       clear hm aE
       go_wp2_with fail
       refine (aA _).mono ?_;rintro e w' ⟨rfl,rfl⟩;go_wp2
       go_ret;exact ⟨by rw [←HB.out];rfl,k,rfl⟩
      ·have aJ:decide ((lo:Int)≤(r0:Int))=false:=by rw [decide_eq_false_iff_not];omega
       have aM:rest*B+r0<hi*B+lo:=by rw [hb];omega
       clear hb;have aH:rest*B+r0<q*d0:=by rw [←hm];exact aM
       obtain ⟨aK,aG⟩:=zjz (b:=B) (r2:=r2) (r1:=r1) (r0:=r0) (d1:=d1) aE zaO (by rw [←HT.out];exact aF.out) aH;rw [←HT.out] at aG;have HD:=Aa (zlw aE aK);have aN:=Aa aG;obtain ⟨s,c',hs,aI,aT,aC⟩:=zbX rest d1 0 aD hd1 (by omega)
       replace aC:∀ w:World,(callFunc 203 #[.int .u64 rest,.int .u64 d1,.int .u64 0]).run Tryz.prog w = .ok (.value (.tuple #[.int .u64 s,.int .u64 c'])) w:=aC
       have HV:Hid (Value.int .u64 ((q:Int) - 1)=Value.int .u64 ((q - 1:Nat):Int)):=by unfold Hid;congr 1;omega
       have HS:Hid (rest+d1=s+B*c'):=by unfold Hid;have e:B*c'=18446744073709551616*c':=rfl;rw [e];omega
       clear hs aG hm aH aE
       go_wp2_with fail
       refine (aA _).mono ?_;rintro e w' ⟨rfl,rfl⟩
       go_wp2_with fail
       go_round
       case rel=>exact ⟨q - 1,s,c',HV.out,rfl,rfl,by omega,aI,aT,by rw [Hid,←HS.out];exact HD.out,aN.out⟩
       case measure=>simp [intOf]<;>omega
     ·have aS:((hi:Int)==(rest:Int))=false:=by rw [beq_eq_false_iff_ne];omega
      have aM:rest*B+r0<hi*B+lo:=by
       have h5:(rest+1)*B≤hi*B:=Nat.mul_le_mul_right _ (by omega);rw [Nat.add_mul,Nat.one_mul] at h5;have:r0<B:=h0;omega
      have aH:rest*B+r0<q*d0:=by rw [←hm];exact aM
      obtain ⟨aK,aG⟩:=zjz (b:=B) (r2:=r2) (r1:=r1) (r0:=r0) (d1:=d1) aE zaO (by rw [←HT.out];exact aF.out) aH;rw [←HT.out] at aG;have HD:=Aa (zlw aE aK);have aN:=Aa aG;obtain ⟨s,c',hs,aI,aJ,aC⟩:=zbX rest d1 0 aD hd1 (by omega)
      replace aC:∀ w:World,(callFunc 203 #[.int .u64 rest,.int .u64 d1,.int .u64 0]).run Tryz.prog w = .ok (.value (.tuple #[.int .u64 s,.int .u64 c'])) w:=aC
      have HV:Hid (Value.int .u64 ((q:Int) - 1)=Value.int .u64 ((q - 1:Nat):Int)):=by unfold Hid;congr 1;omega
      have HS:Hid (rest+d1=s+B*c'):=by unfold Hid;have e:B*c'=18446744073709551616*c':=rfl;rw [e];omega
      clear hs aG hm aH aE
      go_wp2_with fail
      refine (aA _).mono ?_;rintro e w' ⟨rfl,rfl⟩
      go_wp2_with fail
      go_round
      case rel=>exact ⟨q - 1,s,c',HV.out,rfl,rfl,by omega,aI,aJ,by rw [Hid,←HS.out];exact HD.out,aN.out⟩
      case measure=>simp [intOf]<;>omega
   ·obtain rfl:cy=1:=by omega
    have HB:Hid (q=T):=by
     rw [Hid,HT.out];refine zlY (b:=B) (r2:=r2) (r1:=r1) (rest:=rest+B) ?_ zaO hd hq hd0 (by rw [←HT.out];exact aF.out) (Nat.le_add_left _ _);have h:=HQ.out
     rwa [Nat.mul_one] at h
    go_wp2
    go_ret;exact ⟨by rw [←HB.out];rfl,k,rfl⟩
end
end Go.Proofs.YtbkgkoenppkhpaaGreatDoor
