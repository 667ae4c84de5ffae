/- Contracts of the functions of package number on naturals: bitLength, twos, shiftedLeft, shift, shiftedRight. -/
import Derived.Test.YtbkgkoenppkhpaaGreatDoorGWords
import Derived.Test.YtbkgkoenppkhpaaGreatDoorGNum1
import Derived.WalkSmall
import Derived.Lib.LaidTab
import Derived.Lib.ItoaNum
import Derived.StillTailTactics
set_option maxRecDepth 100000
set_option maxHeartbeats 4000000
namespace Go.Proofs.YtbkgkoenppkhpaaGreatDoor
section
open Go.RowKit Bn
theorem znR (o f r:Nat) (hr:r≤64) (_hf:f<18446744073709551616) (ho:o<2 ^ r) :
  bits BinOp.or IntKind.u64 (o:Int) (IntKind.u64.wrap ((f:Int)*2 ^ r))=((o+f*2 ^ r % B:Nat):Int):=by
 have aC:f*2 ^ r % B<18446744073709551616:=Nat.mod_lt _ zaO;have e1:IntKind.u64.wrap ((f:Int)*2 ^ r)=((f*2 ^ r % B:Nat):Int):=by
  rw [IntKind.wrap_u64,Int.natCast_emod,Int.natCast_mul,Int.natCast_pow];rfl
 have aA:o<18446744073709551616:=by
  have:=znS f r (by omega);have e:B=18446744073709551616:=rfl;omega
 rw [e1,bits_or_u64_nat o _ aA aC,ziY f r (by omega),Nat.or_comm,←Nat.two_pow_add_eq_or_of_lt ho,Nat.add_comm]
theorem zfu (f k:Nat):(f:Int) / 2 ^ k=((f / 2 ^ k:Nat):Int):=by
 rw [Int.natCast_ediv,Int.natCast_pow];rfl
theorem zaw (A:Option Addr) (n c x s:Nat) (w:World) (ha:NatS w w.heap.size A n c x) (hn:n≤1099511627776) (hs:s≤1099511627776) :
  Calls Tryz.prog 87 #[.slice A n c,.int .i64 s] w (zb9 w (x*2 ^ s)):=by
 obtain ⟨i0,aZ,aY,aV,bA⟩:=info_parts zca;have aN:=ha.len;have hA:=Aa aN;clear aN;have h1:=ha.nc;have h2:=ha.cm;unfold maxLen at h2;obtain ⟨p,hp⟩:∃ p,s / 64=p:=⟨_,rfl⟩;obtain ⟨r,hr⟩:∃ r,s % 64=r:=⟨_,rfl⟩;have aR:s=64*p+r:=by omega
 have aU:r<64:=by omega
 have bB:p≤1099511627776:=by omega
 have e1:(s:Int) / 64=(p:Int):=by omega
 have e2:(s:Int) % 64=(r:Int):=by omega
 have HS:=Aa aR;clear aR hp hr;go_enter Tryz.func87,Tryz.ntmps87
 go_wp2_with (at_make;refine wpList_make_full _ rfl _ _ 85 rfl w.heap.size 116 i0 (.int .u64 0) 1 Tryz.underlying85 aZ aY aV _ _ _ _ (n+p+1) rfl rfl (by omega) (by omega) ?b2 ?b3 (Nat.le_refl _) ?_)
 case b2=>rw [bA];omega
 case b3=>unfold maxLen;omega
 intro w0 aD aC;have aF:Below w.heap.size w w0:=(Below.refl _ _).grown aC (Nat.le_refl _) (fun k h=>by cases h);have aG:=zau.made aD;clear aD aC e1 e2;go_wp2
 go_loopw [22] (fun s wr=>∃ i:Nat,i≤n∧s = .int .i64 i∧∃ ls,zau wr w.heap.size w.heap.size (n+p+1) (n+p+1) ls∧Wf ls∧Hid (val ls=val ((digs x).take i)*2 ^ r*B ^ p)∧Hid (∀ t,i+p<t→ls.getD t 0=0)∧Hid (ls.getD (i+p) 0<2 ^ r)∧Below w.heap.size w wr) (fun s _=>n - (intOf s).toNat)
 case atStart=>exact ⟨0,by omega,rfl,_,aG,Wf.replicate _,by simp [Hid,zaX],fun t _=>zcu _ _,by rw [Hid,zcu];exact Nat.two_pow_pos r,aF⟩
 case round=>
  obtain ⟨i,hi,rfl,ls,aA,aQ,aH,hz,ho,aE⟩:=hrel
  by_cases hin:i<n
  ·obtain ⟨ad,rfl,bD,aW⟩:=(ha.below aE).words.word (k:=i) hin
   have aJ:=zaA (zap x) i;obtain ⟨f,aK⟩:∃ f,(digs x).getD i 0=f:=⟨_,rfl⟩;rw [aK] at aW aJ;have HF:=Aa aK;clear aK;have aS:=aA.cell (i+p) (by omega);have bE:=aA.free (i+p);have aL:=aA.cell (i+p+1) (by omega);have aT:=aA.free (i+p+1);obtain ⟨o,aM⟩:∃ o,ls.getD (i+p) 0=o:=⟨_,rfl⟩;rw [aM] at aS;have HO:=Aa aM;clear aM;generalize ls.getD (i+p+1) 0=o1 at aL;go_wp2
   go_region
   go_wp2
   go_roundw
   case rel=>
    have aI:=(aA.set (i+p) (o+f*2 ^ r % B)).set (i+p+1) (f / 2 ^ (64 - r));have aO:=ho.out;rw [HO.out] at aO;rw [znR o f r (by omega) aJ aO,zfu];have aP:i+p+1<ls.length:=by rw [aA.len];omega
    have bC:=znS f r (by omega);refine ⟨i+1,by omega,by go_num,_,aI,(aQ.set _ ?_).set _ ?_,?_,?_,?_,?_⟩
    ·omega
    ·exact Nat.lt_of_le_of_lt (Nat.div_le_self _ _) aJ
    ·exact zkV ls (digs x) i p r f o aP (by omega) HF.out HO.out (hz.out _ (by omega)) aH.out
    ·intro t ht
     rw [zaG _ _ _ _ (by omega),zaG _ _ _ _ (by omega)];exact hz.out t (by omega)
    ·rw [Hid,show i+1+p=i+p+1 from by omega,zcL _ _ _ (by simpa using aP)]
     exact znK f r (by omega) aJ
    ·exact ((aE.setCell (p:=⟨w.heap.size,i+p,none⟩) (Nat.le_refl _) _).setCell (p:=⟨w.heap.size,i+p+1,none⟩) (Nat.le_refl _) _).drew
   case measure=>simp [intOf]<;>omega
  ·obtain rfl:i=n:=by omega
   have hv:val ls=x*2 ^ s:=by
    rw [aH.out,List.take_of_length_le (by rw [hA.out];exact Nat.le_refl _),zaj];exact znq x s p r HS.out
   have ht:=zc4 (some ⟨w.heap.size,0,none⟩) (i+p+1) (i+p+1) ls wr aA.words aQ (Nat.le_refl _) (by unfold maxLen;omega);rw [hv] at ht;have HC:=Aa ht;clear ht hv
   go_wp2_with fail
   refine HC.out.mono ?_;rintro e w1 ⟨m,rfl,aX,rfl⟩;go_wp2
   go_ret;exact ⟨_,m,_,rfl,aX,aE⟩
theorem zj3 (T A:Option Addr) (nt ct n c s:Nat) (w:World) (_hn:n≤maxLen) (hs:s≤1099511627776) (hp:n≤s / 64) :
  Calls Tryz.prog 185 #[.slice T nt ct,.slice A n c,.int .i64 s] w fun e w'=>e = .returned (.slice none 0 0)∧w=w':=by
 unfold maxLen at _hn;obtain ⟨p,hq⟩:∃ p,s / 64=p:=⟨_,rfl⟩;rw [hq] at hp;have e1:(s:Int) / 64=(p:Int):=by omega
 clear hq;go_enter Tryz.func185,Tryz.ntmps185
 go_wp2
 go_ret;exact ⟨rfl,rfl⟩
def zoZ (w wr:World) (base g nt ct:Nat) (lt la:List Nat) (same:Prop) (p r k:Nat):Prop:=
 ∃ ls,zau wr base g nt ct ls∧Wf ls∧val (ls.take k)*2 ^ r+la.getD p 0 % 2 ^ r=val ((la.drop p).take k)+B ^ k*(la.getD (p+k) 0 % 2 ^ r)∧(same→∀ j,k≤j→ls.getD j 0=lt.getD j 0)∧w.grownBy wr (some g)
theorem zfW (A:Option Addr) (base g nt ct n c x s:Nat) (lt:List Nat) (w:World) (same:Prop) (ht:zau w base g nt ct lt) (hlt:Wf lt) (ha:NatS w w.heap.size A n c x)
  (hAs:((0<n→Off A g)∧¬ same)∨(A=some ⟨g,0,none⟩∧lt=digs x∧same)) (hnt:n≤nt) (hn:n≤1099511627776) (hs:s≤1099511627776) (hpn:s / 64<n) :
  Calls Tryz.prog 185 #[.slice (some ⟨g,0,none⟩) nt ct,.slice A n c,.int .i64 s] w fun e w'=>∃ m,e = .returned (.slice (some ⟨g,0,none⟩) m ct)∧zau w' base g m ct (digs (x / 2 ^ s))∧w.grownBy w' (some g):=by
 have aV:=ha.len;have hA:=Aa aV;clear aV;have h1:=ha.nc;have h2:=ha.cm;have h5:=ht.caps;unfold maxLen at h2 h5;obtain ⟨h5,h6⟩:=h5;have HT:=Aa ht;have bH:=Aa hAs;clear ht hAs;obtain ⟨p,hp⟩:∃ p,s / 64=p:=⟨_,rfl⟩;obtain ⟨r,hr⟩:∃ r,s % 64=r:=⟨_,rfl⟩;have aY:s=64*p+r:=by omega
 have aF:r<64:=by omega
 rw [hp] at hpn;have e1:(s:Int) / 64=(p:Int):=by omega
 have e2:(s:Int) % 64=(r:Int):=by omega
 have e3:s % 64=r:=hr;have HS:=Aa aY;clear aY hp hr;go_enter Tryz.func185,Tryz.ntmps185
 go_wp2
 simp only [e2]
 clear e1 e2 e3
 go_loopw [9] (fun sl wr=>∃ i:Nat,p≤i∧i≤n∧sl = .int .i64 i∧zoZ w wr base g nt ct lt (digs x) same p r (i - p)) (fun sl _=>n - (intOf sl).toNat)
 case atStart=>
  refine ⟨p,Nat.le_refl _,by omega,rfl,?_⟩;rw [Nat.sub_self];exact ⟨lt,HT.out,hlt,by simp,fun _ _ _=>rfl,World.grownBy.refl w _⟩
 case round=>
  obtain ⟨i,bJ,bG,rfl,ls,aA,aQ,aE,aX,aM⟩:=hrel;have HV:=Aa aE;have HM:=Aa aX;clear aE aX
  by_cases hin:i<n
  ·have aK:∀ k,i≤k→k<n→∃ ad,A=some ad∧wr.cell? (ad.add k)=some (.int .u64 (((digs x).getD k 0:Nat):Int)):=by
    intro k bI bF
    rcases bH.out with ⟨ho,_⟩ | ⟨aG,aS,hs⟩
    ·obtain ⟨ad,e,_,hc⟩:=(ha.words.kept aM (Nat.le_refl _) ho).word (k:=k) bF
     exact ⟨ad,e,hc⟩
    ·refine ⟨_,aG,?_⟩
     have:=aA.cell k (by omega);rw [HM.out hs k (by omega),aS] at this;have e0:(⟨g,0,none⟩:Addr).add k=⟨g,k,none⟩:=by
      unfold Addr.add
      by_cases hj:k=0<;>simp [hj]
     rw [e0];exact this
   obtain ⟨ad,aG,bA⟩:=aK i (Nat.le_refl _) hin;have bE:i - p<ls.length:=by rw [aA.len];omega
   have aZ:=aA.cell (i - p) (by omega);have bK:=aA.free (i - p);have aR:=zaA (zap x) i;have aU:=zaA (zap x) (i+1);obtain ⟨z,aJ⟩:∃ z,(digs x).getD i 0=z:=⟨_,rfl⟩;obtain ⟨z',aD⟩:∃ z',(digs x).getD (i+1) 0=z':=⟨_,rfl⟩;rw [aJ] at bA aR;rw [aD] at aU;generalize ls.getD (i - p) 0=old at aZ;have ht:z / 2 ^ r<2 ^ (64 - r):=by
    rw [Nat.div_lt_iff_lt_mul (Nat.two_pow_pos _),Nat.mul_comm,←zd6 r (by omega)];exact aR
   have aT:Hid (bits BinOp.or IntKind.u64 ((z / 2 ^ r:Nat):Int) (IntKind.u64.wrap ((z':Int)*2 ^ (64 - r)))=((z / 2 ^ r+z'*2 ^ (64 - r) % B:Nat):Int)):=
    znR (z / 2 ^ r) z' (64 - r) (by omega) aU ht
   have aP:=(zjy z z' r aF aR).1;obtain ⟨t,aI⟩:∃ t,z / 2 ^ r+z'*2 ^ (64 - r) % B=t:=⟨_,rfl⟩;rw [aI] at aT aP;have HP:Hid (val ((ls.set (i - p) t).take (i+1 - p))*2 ^ r+(digs x).getD p 0 % 2 ^ r=val (((digs x).drop p).take (i+1 - p))+B ^ (i+1 - p)*((digs x).getD (p+(i+1 - p)) 0 % 2 ^ r)):=by
    rw [show i+1 - p=i - p+1 from by omega];exact zmm ls (digs x) p (i - p) r t bE aF (zap x) (by rw [show p+(i - p)=i from by omega,aJ,aD,aI]) HV.out
   have aW:Hid (same→∀ j,i+1 - p≤j→(ls.set (i - p) t).getD j 0=lt.getD j 0):=fun hs j hj=>by
    rw [←HM.out hs j (by omega),zaG _ _ _ _ (by omega)]
   have HG:Hid (w.grownBy ((wr.setCell ⟨g,i - p,none⟩ (.int .u64 t)).drew) (some g)):=zlm (za8 aM (p:=⟨g,i - p,none⟩) (.inl rfl) _);have HR:Hid (zau ((wr.setCell ⟨g,i - p,none⟩ (.int .u64 t)).drew) base g nt ct (ls.set (i - p) t)):=(aA.set (i - p) t)
   by_cases hin1:i+1<n
   ·obtain ⟨aL,aC,aN⟩:=aK (i+1) (by omega) hin1
    have aH:aL=ad:=by rw [aG] at aC;injection aC with h;exact h.symm
    subst aH;rw [aD] at aN;subst aG;have bD:wr.cell? ⟨aL.block,aL.off+(i+1),none⟩=some (.int .u64 (z':Int)):=by simpa [Addr.add] using aN
    clear aC aK aJ aD aI ht aN;go_wp2
    go_region
    go_wp2
    go_roundw
    case rel=>
     rw [zfu,aT.out];exact ⟨i+1,by omega,by omega,by go_num,_,HR.out,aQ.set _ aP,HP.out,aW.out,HG.out⟩
    case measure=>simp [intOf]<;>omega
   ·have bB:z'=0:=by rw [←aD];exact zbU (by rw [hA.out];omega)
    subst bB;subst aG;clear aK aJ aD aI ht;go_wp2
    go_region
    go_wp2
    go_roundw
    case rel=>
     have aO:bits BinOp.or IntKind.u64 ((z / 2 ^ r:Nat):Int) 0=(t:Int):=by
      have h:=aT.out;rw [show ((0:Nat):Int)*2 ^ (64 - r)=0 from by simp,show IntKind.u64.wrap 0=0 from by decide] at h;exact h
     rw [zfu,aO];exact ⟨i+1,by omega,by omega,by go_num,_,HR.out,aQ.set _ aP,HP.out,aW.out,HG.out⟩
    case measure=>simp [intOf]<;>omega
  ·obtain rfl:i=n:=by omega
   have hv:val (ls.take (i - p))=x / 2 ^ s:=
    znE ls (digs x) x s p r (i - p) HS.out rfl (by rw [hA.out];omega) (by rw [hA.out]) HV.out
   have ht:=zb1 base g (i - p) ct (ls.take (i - p)) wr (aA.take (by omega)) (aQ.take _);rw [hv] at ht;have HC:=Aa ht;clear ht hv
   go_wp2_with fail
   refine HC.out.mono ?_;rintro e w1 ⟨m,rfl,bC,rfl⟩;go_wp2
   go_ret;exact ⟨m,rfl,bC,aM⟩
theorem zaZ (A:Option Addr) (n c x s:Nat) (w:World) (ha:NatS w w.heap.size A n c x) (hn:n≤1099511627776) (hs:s≤1099511627776) :
  Calls Tryz.prog 182 #[.slice A n c,.int .i64 s] w fun e w'=>Below w.heap.size w w'∧zkR w.heap.size (x / 2 ^ s) e w':=by
 obtain ⟨i0,aK,aJ,aG,aI⟩:=info_parts zca;go_enter Tryz.func182,Tryz.ntmps182
 go_wp2_with (at_make;refine wpList_make_full _ rfl _ _ 85 rfl w.heap.size 116 i0 (.int .u64 0) 1 Tryz.underlying85 aK aJ aG _ _ _ _ n rfl rfl (by omega) (by omega) ?b2 ?b3 (Nat.le_refl _) ?_)
 case b2=>rw [aI];omega
 case b3=>unfold maxLen;omega
 intro w0 aD aC;have aA:Below w.heap.size w w0:=(Below.refl _ _).grown aC (Nat.le_refl _) (fun k h=>by cases h);have aE:=zau.made aD;clear aD aC
 by_cases hp:n≤s / 64
 ·have hz:x / 2 ^ s=0:=zns x s (s / 64) (by omega) (by rw [ha.len];exact hp)
  have hc:=zj3 (some ⟨w.heap.size,0,none⟩) A n n n c s w0 (by unfold maxLen;omega) hs hp;have HZ:=Aa hz;clear hz
  go_wp2_with fail
  refine hc.mono ?_;rintro e w1 ⟨rfl,rfl⟩;go_wp2
  go_ret;exact ⟨aA,.inl ⟨rfl,HZ.out⟩⟩
 ·have hc:=zfW A w.heap.size w.heap.size n n n c x s _ w0 False aE (Wf.replicate n) (ha.later aA) (.inl ⟨ha.off (Nat.le_refl _),id⟩) (Nat.le_refl _) hn hs (by omega)
  go_wp2_with fail
  refine hc.mono ?_;rintro e w1 ⟨m,rfl,aH,aF⟩;go_wp2
  go_ret;exact ⟨aA.grown aF aA.size (fun k hk=>by cases hk;exact Nat.le_refl _),.inr ⟨w.heap.size,m,n,rfl,aH⟩⟩
structure Tabs (w:World):Prop where
 tz:TabAt 3 Lib.deBruijn64tab w
 pow:Lib.TabIs Tryz.prog w "internal/strconv.uint64pow10" .u64 Lib.pow10Tab
 maxl:∃ m:Int,w.cell? ⟨2,0,none⟩=some (.int .i64 m)
 prec:w.cell? ⟨1,0,none⟩=some (.int .i64 48)∧w.cell? ⟨1,1,none⟩=some (.int .i64 96)∧w.cell? ⟨1,2,none⟩=some (.int .i64 192)
theorem zfY {w:World} {p:Addr} {v:Value} (h:w.cell? p=some v):p.block<w.heap.size:=by
 rcases Nat.lt_or_ge p.block w.heap.size with h1 | h1
 ·exact h1
 ·exfalso
  unfold World.cell? at h;rw [Array.getElem?_eq_none h1] at h;simp at h
theorem zir {w w':World} {n:String} {k:IntKind} {zs:List Int} (h:Lib.TabIs Tryz.prog w n k zs) (hb:Below w.heap.size w w'):Lib.TabIs Tryz.prog w' n k zs:=by
 cases hg:Tryz.prog.globalNamed n with
 | none=>unfold Lib.TabIs World.var? at h;rw [hg] at h;cases h
 | some g=>
  refine var?_below hb hg ?_ h;unfold Lib.TabIs World.var? at h;rw [hg] at h;simp only [Option.bind_some] at h
  rcases Nat.lt_or_ge g w.heap.size with h1 | h1
  ·exact h1
  ·rw [Array.getElem?_eq_none h1] at h;cases h
theorem Tabs.later {w w':World} (h:Tabs w) (hb:Below w.heap.size w w'):Tabs w' where
 tz:=fun j hj=>(hb.cell (zfY (h.tz j hj))).trans (h.tz j hj)
 pow:=zir h.pow hb
 maxl:=h.maxl.imp fun _ hm=>(hb.cell (zfY hm)).trans hm
 prec:=⟨(hb.cell (zfY h.prec.1)).trans h.prec.1,(hb.cell (zfY h.prec.2.1)).trans h.prec.2.1,(hb.cell (zfY h.prec.2.2)).trans h.prec.2.2⟩
theorem Tabs.only4 {w w1 w':World} {g:Nat} (h:Tabs w) (hb:Below w.heap.size w w1) (hg:w1.grownBy w' (some g)) (hle:w.heap.size≤g):Tabs w':=
 h.later (hb.grown hg hb.size fun k e=>by cases e;exact hle)
theorem tz64 (x:Nat) (w:World) (hT:Tabs w) (hx:x<18446744073709551616) :
  Calls Tryz.prog 213 #[.int .u64 x] w fun e w'=>e = .returned (.int .i64 (Lib.ctz 64 x))∧w'=w:=
 Any7.bits_TrailingZeros64 Tryz.lays29 x hx w fun _=>hT.tz
theorem znG {x:Nat} (h0:0<x) (hx:x<18446744073709551616):∃ m,x=2 ^ Lib.ctz 64 x*(2*m+1)∧Lib.ctz 64 x<64:=by
 have:=Lib.ctzFrom_spec 64 x h0 hx
 rwa [Lib.ctz,if_neg (by omega)]
theorem zcx (A:Option Addr) (n c x:Nat) (w:World) (hT:Tabs w) (ha:NatS w w.heap.size A n c x) (hx:0<x) (hn:n≤1099511627776) :
  Calls Tryz.prog 183 #[.slice A n c] w fun e w'=>e = .returned (.int .i64 (ntz x))∧w=w':=by
 have hA:=Aa ha.len;have h1:=ha.nc;have h2:=ha.cm;unfold maxLen at h2;have aA:0<n:=by rw [←ha.len];exact zar hx
 go_enter Tryz.func183,Tryz.ntmps183
 go_wp2
 go_loop [3] (fun s=>∃ i:Nat,i<n∧s = .int .i64 i∧Hid (∀ j,j<i→(digs x).getD j 0=0)) (fun s=>n - (intOf s).toNat)
 case atStart=>exact ⟨0,aA,rfl,fun j hj=>by omega⟩
 case round=>
  obtain ⟨i,hi,rfl,hz⟩:=hrel;obtain ⟨ad,rfl,aH,aF⟩:=ha.words.word (k:=i) hi;have aD:=zaA (zap x) i;obtain ⟨z,hg⟩:∃ z,(digs x).getD i 0=z:=⟨_,rfl⟩;rw [hg] at aF aD
  by_cases h0:z=0
  ·subst h0
   have aE:i+1<n:=by
    have:=zmY hx i (by rw [hA.out];exact hi) hz.out hg;rw [hA.out] at this;exact this
   have HG:Hid (∀ j,j<i+1→(digs x).getD j 0=0):=fun j hj=>by
    rcases Nat.lt_or_ge j i with h | h
    ·exact hz.out j h
    ·obtain rfl:j=i:=by omega
     exact hg
   clear hg;go_wp2
   go_round
   case rel=>exact ⟨i+1,aE,by go_num,HG.out⟩
   case measure=>simp [intOf]<;>omega
  ·have aG:(((z:Nat):Int)==0)=false:=by rw [beq_eq_false_iff_ne];omega
   obtain ⟨m,hm,aC⟩:=znG (x:=z) (by omega) aD;have hr:ntz x=64*i+Lib.ctz 64 z:=zlF hx i (by rw [hA.out];exact hi) hz.out z m _ hg hm aC;have ht:=tz64 z w hT aD;generalize Lib.ctz 64 z=cz at *;have HR:=Aa hr;clear hr hg hm
   go_wp2_with fail
   refine ht.mono ?_;rintro e w1 ⟨rfl,rfl⟩;go_wp2
   go_ret;exact ⟨by rw [HR.out];simp,rfl⟩
theorem zeI (A:Option Addr) (n c x:Nat) (w:World) (ha:NatS w w.heap.size A n c x) (hn:n≤1099511627776) :
  Calls Tryz.prog 157 #[.slice A n c] w fun e w'=>e = .returned (.int .i64 (za0 x))∧w=w':=by
 have hA:=Aa ha.len;have h1:=ha.nc;have h2:=ha.cm;have hz:=zcW A n c w (by omega);unfold maxLen at h2
 by_cases h0:n=0
 ·subst h0
  obtain rfl:x=0:=za6.1 hA.out;go_enter Tryz.func157,Tryz.ntmps157
  go_wp2_with fail
  refine hz.mono ?_;rintro e w1 ⟨rfl,rfl⟩;go_wp2
  go_ret;exact ⟨by simp [za0],rfl⟩
 ·have hx:0<x:=by
   rcases Nat.eq_zero_or_pos x with rfl | h
   ·exact absurd (by rw [←hA.out,zao];rfl) h0
   ·exact h
  obtain ⟨ad,rfl,aF,aC⟩:=ha.words.word (k:=n - 1) (by omega);have aA:=zaA (zap x) (n - 1);obtain ⟨z,hg⟩:∃ z,(digs x).getD (n - 1) 0=z:=⟨_,rfl⟩;rw [hg] at aC aA;have aD:z≠0:=by
   have:=zc1 x (by rw [hA.out];omega);rw [←hg,Bn.getD_in (by rw [hA.out];omega)]
   simpa only [hA.out] using this
  obtain ⟨b1,b2,b3⟩:=Lib.bitLenAux_bounds 64 z (by simpa using aA) aD;have b4:=Lib.bitLen_le z 64 (Nat.le_refl _) (by simpa using aA);have hl:=Tryz.bits_LeadingZeros64 (z:Int) w (by omega) (by omega);rw [Int.toNat_natCast] at hl;have eb:Lib.bitLen z=Lib.bitLenAux 64 z:=rfl;rw [←eb] at b1 b2 b3;generalize Lib.bitLen z=b at *;have hr:za0 x=64*(n - 1)+b:=zfE hx (n - 1) (by rw [hA.out];omega) z b hg b1 b2 b3;have HR:=Aa hr;have aE:(((n:Nat):Int)==0)=false:=by rw [beq_eq_false_iff_ne];omega
  clear hr hg b2 b3 eb;go_enter Tryz.func157,Tryz.ntmps157
  go_wp2_with fail
  refine hz.mono ?_;rintro e w1 ⟨rfl,rfl⟩
  go_wp2_with fail
  refine hl.mono ?_;rintro e w1 ⟨rfl,rfl⟩;go_wp2
  go_ret;exact ⟨by rw [HR.out];show Ending.returned (Value.int .i64 _)=Ending.returned (Value.int .i64 _);congr 2;omega,rfl⟩
end
end Go.Proofs.YtbkgkoenppkhpaaGreatDoor
namespace Go.Proofs.YtbkgkoenppkhpaaGreatDoor.Bn
set_option maxRecDepth 100000
section
variable {h U u Y y1 y0 q r:Nat}
theorem zha (hu:u<h) (hUY:U<Y):(U*h+u) / Y<h:=by
 rw [Nat.div_lt_iff_lt_mul (by omega)];have:(U+1)*h≤Y*h:=Nat.mul_le_mul_right _ hUY;rw [Nat.add_mul,Nat.one_mul] at this;rw [Nat.mul_comm h Y];omega
theorem zfG (hu:u<h) (hY:Y=y1*h+y0) (h1:0<y1):(U*h+u) / Y≤U / y1:=by
 rw [Nat.le_div_iff_mul_le h1];have h2:(U*h+u) / Y*Y≤U*h+u:=Nat.div_mul_le_self _ _;generalize (U*h+u) / Y=t at *;rw [hY,Nat.mul_add,←Nat.mul_assoc] at h2;generalize t*y1=a at *;have h3:a*h<(U+1)*h:=by
  rw [Nat.add_mul,Nat.one_mul];generalize t*y0=c at *;omega
 have:=Nat.lt_of_mul_lt_mul_right h3;omega
theorem zho (hu:u<h) (hUY:U<Y) (hY:Y=y1*h+y0) (hq:U=q*y1+r) (hc:h≤q∨h*r+u<q*y0):1≤q∧(U*h+u) / Y≤q - 1:=by
 have h1:1≤q:=by
  rcases hc with h' | h'
  ·omega
  ·rcases Nat.eq_zero_or_pos q with rfl | aA
   ·simp at h'
   ·exact aA
 refine ⟨h1,?_⟩
 rcases hc with h' | h'
 ·have:=zha (U:=U) hu hUY
  omega
 ·have:(U*h+u) / Y<q:=by
   rw [Nat.div_lt_iff_lt_mul (by omega),hY,hq,Nat.mul_add,Nat.add_mul,←Nat.mul_assoc,Nat.mul_comm r h];omega
  omega
theorem zfK (hY:Y=y1*h+y0) (hq:U=q*y1+r) (hY0:0<Y) (ht:(U*h+u) / Y≤q) (hc:q*y0≤h*r+u):q=(U*h+u) / Y:=by
 refine Nat.le_antisymm ?_ ht;rw [Nat.le_div_iff_mul_le hY0,hY,hq,Nat.mul_add,Nat.add_mul,←Nat.mul_assoc,Nat.mul_comm r h];omega
theorem zgr (hUY:U<Y) (hY:Y=y1*h+y0) (h0:y0<h) (hq:U=q*y1+r) (ht:(U*h+u) / Y≤q) (hr:h≤r):q=(U*h+u) / Y:=by
 have aA:q<h:=by
  rcases Nat.lt_or_ge q h with h' | h'
  ·exact h'
  ·exfalso
   have:h*y1≤q*y1:=Nat.mul_le_mul_right _ h';rw [Nat.mul_comm h y1] at this;omega
 refine zfK hY hq (by omega) ht ?_;have h2:q*y0≤h*r:=Nat.mul_le_mul (by omega) (by omega);omega
theorem zja (hq:U=q*y1+r) (h1:1≤q):U=(q - 1)*y1+(r+y1):=by
 obtain ⟨p,rfl⟩:∃ p,q=p+1:=⟨q - 1,by omega⟩;rw [Nat.add_sub_cancel];rw [Nat.add_mul] at hq;omega
end
theorem zn1 (g h hi lo y s Y u32 u10 u1 u0 q1 q0 U:Nat) (hg:g=h*h) (hY:Y=y*2 ^ s) (hy:0<y) (hu:u32*g+u10=(hi*g+lo)*2 ^ s) (h10:u10=u1*h+u0)
  (hq1:q1=(u32*h+u1) / Y) (hU:U=(u32*h+u1) % Y) (hq0:q0=(U*h+u0) / Y) :
  q1*h+q0=(hi*g+lo) / y∧(U*h+u0) % Y / 2 ^ s=(hi*g+lo) % y:=by
 have hp:=Nat.two_pow_pos s;have aC:0<Y:=by rw [hY];exact Nat.mul_pos hy hp
 have e1:=Nat.div_add_mod (u32*h+u1) Y;rw [←hq1,←hU] at e1;have e2:=Nat.div_add_mod (U*h+u0) Y;rw [←hq0] at e2;have hr:=Nat.mod_lt (U*h+u0) aC;generalize (U*h+u0) % Y=R at *;have e3:(hi*g+lo)*2 ^ s=Y*(q1*h+q0)+R:=by
  rw [←hu,h10,Nat.mul_add,←Nat.mul_assoc,hg,←Nat.mul_assoc];have:Y*q1*h+U*h=(u32*h+u1)*h:=by rw [←Nat.add_mul,e1]
  rw [Nat.add_mul] at this;generalize u32*h*h=a1 at *;generalize Y*q1*h=a2 at *;generalize U*h=a3 at *;generalize u1*h=a4 at *;generalize Y*q0=a5 at *;omega
 generalize hi*g+lo=N at *;generalize q1*h+q0=Q at *;have e4:R=2 ^ s*(R / 2 ^ s):=by
  have aA:2 ^ s ∣ R:=by
   have h1:2 ^ s ∣ N*2 ^ s:=Nat.dvd_mul_left _ _;rw [e3] at h1;refine (Nat.dvd_add_right ?_).1 h1;rw [hY,Nat.mul_assoc,Nat.mul_comm y,Nat.mul_assoc];exact Nat.dvd_mul_right _ _
  exact (Nat.mul_div_cancel' aA).symm
 generalize R / 2 ^ s = ρ at *;have hρ : ρ < y:=by
  rw [e4,hY,Nat.mul_comm y] at hr;exact Nat.lt_of_mul_lt_mul_left hr
 have e5:N=y*Q + ρ := by
  have:N*2 ^ s=(y*Q + ρ)*2 ^ s:=by
   rw [e3,e4,hY,Nat.add_mul,Nat.mul_comm (2 ^ s) ρ,Nat.mul_assoc,Nat.mul_assoc,Nat.mul_comm (2 ^ s) Q]
  exact Nat.eq_of_mul_eq_mul_right hp this
 rw [e5];refine ⟨?_,?_⟩
 ·rw [Nat.mul_add_div hy,Nat.div_eq_of_lt hρ,Nat.add_zero]
 ·rw [Nat.mul_add_mod,Nat.mod_eq_of_lt hρ]
theorem zjK (hi lo y s:Nat) (hs:s≤63) (hlo:lo<18446744073709551616) (hhy:hi<y) (hY:y*2 ^ s<18446744073709551616) :
  hi*2 ^ s % B=hi*2 ^ s∧hi*2 ^ s+lo / 2 ^ (64 - s)<y*2 ^ s∧lo / 2 ^ (64 - s)<2 ^ s ∧
   (hi*2 ^ s+lo / 2 ^ (64 - s))*18446744073709551616+lo*2 ^ s % B=(hi*18446744073709551616+lo)*2 ^ s:=by
 have h1:=znK lo s (by omega) hlo;have h2:(hi+1)*2 ^ s≤y*2 ^ s:=Nat.mul_le_mul_right _ hhy;rw [Nat.add_mul,Nat.one_mul] at h2;have h4:hi*2 ^ s<18446744073709551616∧hi*2 ^ s+lo / 2 ^ (64 - s)<y*2 ^ s:=by
  generalize lo / 2 ^ (64 - s)=l at *;generalize hi*2 ^ s=a at *;generalize y*2 ^ s=b at *;generalize 2 ^ s=c at *;omega
 refine ⟨Nat.mod_eq_of_lt h4.1,h4.2,h1,?_⟩;rw [znO lo s (by omega),Nat.add_mul,Nat.add_mul,Nat.add_assoc];have h3:=Nat.div_add_mod (lo*2 ^ s) B;rw [Nat.mul_comm] at h3;have e:B=18446744073709551616:=rfl;rw [←e] at *;rw [h3,Nat.mul_assoc,Nat.mul_assoc,Nat.mul_comm B]
end Go.Proofs.YtbkgkoenppkhpaaGreatDoor.Bn
namespace Go.Proofs.YtbkgkoenppkhpaaGreatDoor
section
open Go.RowKit Bn
theorem zif (lo y:Nat) (w:World) (hlo:lo<18446744073709551616) (hy:y<18446744073709551616) (hy0:0<y) :
  Calls Tryz.prog 215 #[.int .u64 0,.int .u64 lo,.int .u64 y] w fun e w'=>e = .returned (.tuple #[.int .u64 ((lo / y:Nat):Int),.int .u64 ((lo % y:Nat):Int)])∧∃ q,w'=w.drewN q:=by
 have h1:(((y:Nat):Int)==0)=false:=by rw [beq_eq_false_iff_ne];omega
 have h2:¬ ((y:Int)≤0):=by omega
 have h3:(1:Int)≤y:=by omega
 have hq:IntKind.u64.wrap ((lo:Int) / (y:Int))=((lo / y:Nat):Int):=by
  rw [←Int.natCast_ediv,IntKind.wrap_u64];have:=Nat.div_le_self lo y;generalize lo / y=d at *;omega
 go_enter Tryz.func215,Tryz.ntmps215
 go_wp2
 go_quiet (fail)
 go_wp2
 go_ret2
 exact ⟨rfl,_,rfl⟩
theorem zb2 (n:Nat) (h:n<18446744073709551616):IntKind.u64.wrap (n:Int)=(n:Int):=by rw [IntKind.wrap_u64];omega
theorem zjg (n:Nat):IntKind.u64.wrap (n:Int)=((n % 18446744073709551616:Nat):Int):=by rw [IntKind.wrap_u64];omega
theorem ziZ (Y:Nat) (h:Y<18446744073709551616):bits BinOp.and IntKind.u64 (Y:Int) 4294967295=((Y % 4294967296:Nat):Int):=by
 have:=bits_and_u64_nat Y 4294967295 h (by omega);rw [show ((4294967295:Nat):Int)=4294967295 from rfl] at this;rw [this]
 congr 1
 exact Nat.and_two_pow_sub_one_eq_mod Y 32
theorem zme (hi lo y:Nat) (w:World) (hhi:0<hi) (hhy:hi<y) (hlo:lo<18446744073709551616) (hy:y<18446744073709551616) :
  Calls Tryz.prog 215 #[.int .u64 hi,.int .u64 lo,.int .u64 y] w fun e w'=>e = .returned (.tuple #[.int .u64 (((hi*18446744073709551616+lo) / y:Nat):Int),.int .u64 (((hi*18446744073709551616+lo) % y:Nat):Int)])∧w'=w:=by
 have h1:(((y:Nat):Int)==0)=false:=by rw [beq_eq_false_iff_ne];omega
 have dA:(((hi:Nat):Int)==0)=false:=by rw [beq_eq_false_iff_ne];omega
 have h2:¬ ((y:Int)≤hi):=by omega
 obtain ⟨b1,b2,b3⟩:=Lib.bitLenAux_bounds 64 y (by simpa using hy) (by omega);have b4:=Lib.bitLen_le y 64 (Nat.le_refl _) (by simpa using hy);have hl:=Tryz.bits_LeadingZeros64 (y:Int) w (by omega) (by omega);rw [Int.toNat_natCast] at hl;have eb:Lib.bitLen y=Lib.bitLenAux 64 y:=rfl;rw [←eb] at b1 b2 b3;generalize Lib.bitLen y=b at *;obtain ⟨s,hs⟩:∃ s,s=64 - b:=⟨_,rfl⟩;have es:(64 - (b:Int))=(s:Int):=by omega
 rw [es] at hl;have bS:s≤63:=by omega
 obtain ⟨Y,hY⟩:∃ Y,Y=y*2 ^ s:=⟨_,rfl⟩;have aQ:Y<18446744073709551616:=by
  have h:=(Nat.mul_lt_mul_right (Nat.two_pow_pos s)).2 b3;rw [←Nat.pow_add,show b+s=64 from by omega] at h;rw [hY];exact h
 have cS:9223372036854775808≤Y:=by
  have h:=Nat.mul_le_mul_right (2 ^ s) b2;rw [←Nat.pow_add,show b - 1+s=63 from by omega] at h;rw [hY];exact h
 have eY:IntKind.u64.wrap ((y:Int)*2 ^ s)=(Y:Int):=by
  have:(y:Int)*2 ^ s=(Y:Int):=by rw [hY,Int.natCast_mul,Int.natCast_pow];rfl
  rw [this,zb2 Y aQ]
 obtain ⟨n1,n2,n3,n4⟩:=zjK hi lo y s bS hlo hhy (by rw [←hY];exact aQ);rw [←hY] at n2;obtain ⟨aR,bJ⟩:∃ v,v=hi*2 ^ s:=⟨_,rfl⟩;obtain ⟨aX,bI⟩:∃ v,v=lo / 2 ^ (64 - s):=⟨_,rfl⟩;obtain ⟨aM,aL⟩:∃ v,v=lo*2 ^ s % B:=⟨_,rfl⟩;rw [←bJ,←bI] at n2 n4;rw [←bI] at n3;rw [←aL] at n4;have aS:aM<18446744073709551616:=by rw [aL];exact Nat.mod_lt _ zaO
 have cE:IntKind.u64.wrap ((hi:Int)*2 ^ s)=(aR:Int):=by
  have:(hi:Int)*2 ^ s=(aR:Int):=by rw [bJ,Int.natCast_mul,Int.natCast_pow];rfl
  rw [this,zb2 aR (by omega)]
 have bT:(lo:Int) / 2 ^ (64 - s)=(aX:Int):=by rw [bI,zfu]
 have bN:bits BinOp.or IntKind.u64 (aR:Int) (aX:Int)=((aR+aX:Nat):Int):=by
  rw [bits_or_u64_nat aR aX (by omega) (by omega),bJ,Nat.mul_comm,←Nat.two_pow_add_eq_or_of_lt n3]
 have cG:IntKind.u64.wrap ((lo:Int)*2 ^ s)=(aM:Int):=by
  have:(lo:Int)*2 ^ s=((lo*2 ^ s:Nat):Int):=by rw [Int.natCast_mul,Int.natCast_pow];rfl
  rw [this,zjg,aL];rfl
 obtain ⟨aC,bA⟩:∃ v,v=aR+aX:=⟨_,rfl⟩;rw [←bA] at bN n2 n4;obtain ⟨y1,cU⟩:∃ v,v=Y / 4294967296:=⟨_,rfl⟩;obtain ⟨y0,bZ⟩:∃ v,v=Y % 4294967296:=⟨_,rfl⟩;obtain ⟨u1,cT⟩:∃ v,v=aM / 4294967296:=⟨_,rfl⟩;obtain ⟨u0,bX⟩:∃ v,v=aM % 4294967296:=⟨_,rfl⟩;have e9:(Y:Int) / 4294967296=(y1:Int):=by omega
 have bY:=ziZ Y aQ;rw [←bZ] at bY;have cA:(aM:Int) / 4294967296=(u1:Int):=by omega
 have bO:=ziZ aM aS;rw [←bX] at bO;have HY:Hid (Y=y1*4294967296+y0):=by unfold Hid;omega
 have HU:Hid (aM=u1*4294967296+u0):=by unfold Hid;omega
 have cP:=Aa hY;have HN:=Aa n4;have bV:y1<4294967296:=by omega
 have cN:2147483648≤y1:=by omega
 have aP:y0<4294967296:=by omega
 have aI:u1<4294967296:=by omega
 have aE:u0<4294967296:=by omega
 have bQ:aC<18446744073709551616:=by omega
 obtain ⟨q,hq⟩:∃ v,v=aC / y1:=⟨_,rfl⟩;obtain ⟨r,hr⟩:∃ v,v=aC % y1:=⟨_,rfl⟩;have cK:aC=q*y1+r:=by rw [hq,hr,Nat.mul_comm];exact (Nat.div_add_mod _ _).symm
 have bD:r<y1:=by rw [hr];exact Nat.mod_lt _ (by omega)
 have bH:q≤aC:=by rw [hq];exact Nat.div_le_self _ _
 have cM:IntKind.u64.wrap ((aC:Int) / (y1:Int))=(q:Int):=by rw [←Int.natCast_ediv,←hq,zb2 q (by omega)]
 obtain ⟨m,hm⟩:∃ v,v=q*y1:=⟨_,rfl⟩;have cL:IntKind.u64.wrap ((q:Int)*(y1:Int))=(m:Int):=by rw [←Int.natCast_mul,←hm,zb2 m (by omega)]
 have cC:(aC:Int) - (m:Int)=(r:Int):=by omega
 have HT:Hid ((aC*4294967296+u1) / Y≤q):=by rw [hq];exact zfG aI HY.out (by omega)
 have aJ:=Aa cK;clear hs b1 b2 b3 b4 eb es hY n1 n3 n4 bJ bI aL bA cU bZ cT bX hq hr cK hm;go_enter Tryz.func215,Tryz.ntmps215
 go_wp2_with fail
 refine hl.mono ?_;rintro e w1 ⟨rfl,rfl⟩
 go_upto_block 0 with (fail)
 obtain ⟨t1,cI⟩:∃ v,v=(aC*4294967296+u1) / Y:=⟨_,rfl⟩;have bE:=Aa cI;clear cI
 go_cut [15,16] from 67 to 85 (fun a _ wc=>a = .int .u64 (t1:Int)∧wc=w1)
 case first=>
  go_wp2_with fail
  go_loop [15,16] (fun a b=>∃ q r:Nat,a = .int .u64 (q:Int)∧b = .int .u64 (r:Int)∧q<18446744073709551616∧r<4294967296∧Hid (aC=q*y1+r)∧Hid ((aC*4294967296+u1) / Y≤q)) (fun a _=>(intOf a).toNat)
  case atStart=>exact ⟨q,r,rfl,rfl,by omega,by omega,aJ,HT⟩
  case round=>
   clear aJ HT bH bD cM cL cC bN cG cA bO cE bT;obtain ⟨q,r,rfl,rfl,hq,hr,aJ,HT⟩:=hrel
   by_cases hc:4294967296≤q∨4294967296*r+u1<q*y0
   ·obtain ⟨bR,bC⟩:=zho aI n2 HY.out aJ.out hc
    have HD:=Aa (zja aJ.out bR);have aT:=Aa bC;clear bC;have aK:Value.int .u64 ((q:Int) - 1)=Value.int .u64 ((q - 1:Nat):Int):=by congr 1;omega
    have aA:=Aa aK;clear aK;have aF:4294967296≤r+y1→Hid (q - 1=t1):=fun h=>by
     rw [Hid,bE.out];exact zgr n2 HY.out aP HD.out aT.out h
    by_cases aH:4294967296≤q
    ·clear hc
     have bG:(4294967296:Int)≤(q:Int):=by omega
     have cW:=Aa aH;clear aH
     by_cases hr2:4294967296≤r+y1
     ·have HB:=aF hr2
      clear aF;have aU:(4294967296:Int)≤(r:Int)+(y1:Int):=by omega
      have aG:=Aa hr2;clear hr2
      go_wp2_with fail
      go_meet
      exact ⟨by rw [aA.out,HB.out],rfl⟩
     ·clear aF
      have aU:decide ((4294967296:Int)≤(r:Int)+(y1:Int))=false:=by rw [decide_eq_false_iff_not];omega
      have aG:=Aa hr2;clear hr2
      go_wp2_with fail
      have bM:=aG.out
      go_round
      case rel=>exact ⟨q - 1,r+y1,aA.out,by go_num,by omega,by omega,HD,aT⟩
      case measure=>simp [intOf]<;>omega
    ·obtain ⟨m,hm⟩:∃ v,v=q*y0:=⟨_,rfl⟩
     have aD:m<18446744073709551616:=by
      rw [hm];exact Nat.lt_of_le_of_lt (Nat.mul_le_mul (show q≤4294967295 by omega) (show y0≤4294967295 by omega)) (by decide)
     have bK:IntKind.u64.wrap ((q:Int)*(y0:Int))=(m:Int):=by rw [←Int.natCast_mul,←hm,zb2 m aD]
     have aV:(4294967296:Int)*(r:Int)+(u1:Int)<(m:Int):=by
      have:4294967296*r+u1<m:=by rw [hm];omega
      omega
     have bG:(q:Int)<4294967296:=by omega
     clear hc hm aH
     by_cases hr2:4294967296≤r+y1
     ·have HB:=aF hr2
      clear aF;have aU:(4294967296:Int)≤(r:Int)+(y1:Int):=by omega
      have aG:=Aa hr2;clear hr2
      go_wp2_with fail
      go_meet
      exact ⟨by rw [aA.out,HB.out],rfl⟩
     ·clear aF
      have aU:decide ((4294967296:Int)≤(r:Int)+(y1:Int))=false:=by rw [decide_eq_false_iff_not];omega
      have aG:=Aa hr2;clear hr2
      go_wp2_with fail
      have bM:=aG.out
      go_round
      case rel=>exact ⟨q - 1,r+y1,aA.out,by go_num,by omega,by omega,HD,aT⟩
      case measure=>simp [intOf]<;>omega
   ·have aH:q<4294967296:=by omega
    obtain ⟨m,hm⟩:∃ v,v=q*y0:=⟨_,rfl⟩;have aD:m<18446744073709551616:=by
     rw [hm];exact Nat.lt_of_le_of_lt (Nat.mul_le_mul (show q≤4294967295 by omega) (show y0≤4294967295 by omega)) (by decide)
    have bK:IntKind.u64.wrap ((q:Int)*(y0:Int))=(m:Int):=by rw [←Int.natCast_mul,←hm,zb2 m aD]
    have aV:m≤4294967296*r+u1:=by rw [hm];omega
    have HB:Hid (q=t1):=by
     rw [Hid,bE.out];exact zfK HY.out aJ.out (by omega) HT.out (by rw [←hm];exact aV)
    have cY:decide ((4294967296:Int)*(r:Int)+(u1:Int)<(m:Int))=false:=by rw [decide_eq_false_iff_not];omega
    have bG:decide ((4294967296:Int)≤(q:Int))=false:=by rw [decide_eq_false_iff_not];omega
    clear hc hm aV aH
    go_wp2_with fail
    go_meet
    exact ⟨by rw [HB.out],rfl⟩
 case rest=>
  obtain ⟨rfl,rfl⟩:=hcut;clear HT bH bD cM cL cC bN cG cA bO cE bT e9 bY;obtain ⟨U,hU⟩:∃ v,v=(aC*4294967296+u1) % Y:=⟨_,rfl⟩;have bL:U<Y:=by rw [hU];exact Nat.mod_lt _ (by omega)
  have cR:IntKind.u64.wrap (IntKind.u64.wrap (IntKind.u64.wrap ((aC:Int)*4294967296)+(u1:Int)) - IntKind.u64.wrap ((t1:Int)*(Y:Int)))=(U:Int):=by
   have h:=Nat.div_add_mod (aC*4294967296+u1) Y;rw [←bE.out,←hU,Nat.mul_comm] at h;rw [←Int.natCast_mul];generalize t1*Y=M at *;simp only [IntKind.wrap_u64]
   omega
  obtain ⟨q0,bB⟩:∃ v,v=U / y1:=⟨_,rfl⟩;obtain ⟨r0,bP⟩:∃ v,v=U % y1:=⟨_,rfl⟩;have aW:U=q0*y1+r0:=by rw [bB,bP,Nat.mul_comm];exact (Nat.div_add_mod _ _).symm
  have aN:r0<y1:=by rw [bP];exact Nat.mod_lt _ (by omega)
  have aO:q0≤U:=by rw [bB];exact Nat.div_le_self _ _
  have bW:IntKind.u64.wrap ((U:Int) / (y1:Int))=(q0:Int):=by rw [←Int.natCast_ediv,←bB,zb2 q0 (by omega)]
  obtain ⟨m0,cO⟩:∃ v,v=q0*y1:=⟨_,rfl⟩;have aZ:IntKind.u64.wrap ((q0:Int)*(y1:Int))=(m0:Int):=by rw [←Int.natCast_mul,←cO,zb2 m0 (by omega)]
  have bF:(U:Int) - (m0:Int)=(r0:Int):=by omega
  have bU:Hid ((U*4294967296+u0) / Y≤q0):=by rw [bB];exact zfG aE HY.out (by omega)
  have cH:=Aa aW;have cZ:=Aa hU;clear hU bB bP aW cO;obtain ⟨t0,cJ⟩:∃ v,v=(U*4294967296+u0) / Y:=⟨_,rfl⟩;have aY:=Aa cJ;clear cJ
  go_upto_block 2 with (fail)
  go_cut [18,16] from 102 to 120 (fun a _ wd=>a = .int .u64 (t0:Int)∧wd=wc)
  case first=>
   go_wp2_with fail
   go_loop [18,16] (fun a b=>∃ q r:Nat,a = .int .u64 (q:Int)∧b = .int .u64 (r:Int)∧q<18446744073709551616∧r<4294967296∧Hid (U=q*y1+r)∧Hid ((U*4294967296+u0) / Y≤q)) (fun a _=>(intOf a).toNat)
   case atStart=>exact ⟨q0,r0,rfl,rfl,by omega,by omega,cH,bU⟩
   case round=>
    clear aJ cH bU aO aN bW aZ bF;obtain ⟨q,r,rfl,rfl,hq,hr,aJ,HT⟩:=hrel
    by_cases hc:4294967296≤q∨4294967296*r+u0<q*y0
    ·obtain ⟨bR,bC⟩:=zho aE bL HY.out aJ.out hc
     have HD:=Aa (zja aJ.out bR);have aT:=Aa bC;clear bC;have aK:Value.int .u64 ((q:Int) - 1)=Value.int .u64 ((q - 1:Nat):Int):=by congr 1;omega
     have aA:=Aa aK;clear aK;have aF:4294967296≤r+y1→Hid (q - 1=t0):=fun h=>by
      rw [Hid,aY.out];exact zgr bL HY.out aP HD.out aT.out h
     by_cases aH:4294967296≤q
     ·clear hc
      have bG:(4294967296:Int)≤(q:Int):=by omega
      have cW:=Aa aH;clear aH
      by_cases hr2:4294967296≤r+y1
      ·have HB:=aF hr2
       clear aF;have aU:(4294967296:Int)≤(r:Int)+(y1:Int):=by omega
       have aG:=Aa hr2;clear hr2
       go_wp2_with fail
       go_meet
       exact ⟨by rw [aA.out,HB.out],rfl⟩
      ·clear aF
       have aU:decide ((4294967296:Int)≤(r:Int)+(y1:Int))=false:=by rw [decide_eq_false_iff_not];omega
       have aG:=Aa hr2;clear hr2
       go_wp2_with fail
       have bM:=aG.out
       go_round
       case rel=>exact ⟨q - 1,r+y1,aA.out,by go_num,by omega,by omega,HD,aT⟩
       case measure=>simp [intOf]<;>omega
     ·obtain ⟨m,hm⟩:∃ v,v=q*y0:=⟨_,rfl⟩
      have aD:m<18446744073709551616:=by
       rw [hm];exact Nat.lt_of_le_of_lt (Nat.mul_le_mul (show q≤4294967295 by omega) (show y0≤4294967295 by omega)) (by decide)
      have bK:IntKind.u64.wrap ((q:Int)*(y0:Int))=(m:Int):=by rw [←Int.natCast_mul,←hm,zb2 m aD]
      have aV:(4294967296:Int)*(r:Int)+(u0:Int)<(m:Int):=by
       have:4294967296*r+u0<m:=by rw [hm];omega
       omega
      have bG:(q:Int)<4294967296:=by omega
      clear hc hm aH
      by_cases hr2:4294967296≤r+y1
      ·have HB:=aF hr2
       clear aF;have aU:(4294967296:Int)≤(r:Int)+(y1:Int):=by omega
       have aG:=Aa hr2;clear hr2
       go_wp2_with fail
       go_meet
       exact ⟨by rw [aA.out,HB.out],rfl⟩
      ·clear aF
       have aU:decide ((4294967296:Int)≤(r:Int)+(y1:Int))=false:=by rw [decide_eq_false_iff_not];omega
       have aG:=Aa hr2;clear hr2
       go_wp2_with fail
       have bM:=aG.out
       go_round
       case rel=>exact ⟨q - 1,r+y1,aA.out,by go_num,by omega,by omega,HD,aT⟩
       case measure=>simp [intOf]<;>omega
    ·have aH:q<4294967296:=by omega
     obtain ⟨m,hm⟩:∃ v,v=q*y0:=⟨_,rfl⟩;have aD:m<18446744073709551616:=by
      rw [hm];exact Nat.lt_of_le_of_lt (Nat.mul_le_mul (show q≤4294967295 by omega) (show y0≤4294967295 by omega)) (by decide)
     have bK:IntKind.u64.wrap ((q:Int)*(y0:Int))=(m:Int):=by rw [←Int.natCast_mul,←hm,zb2 m aD]
     have aV:m≤4294967296*r+u0:=by rw [hm];omega
     have HB:Hid (q=t0):=by
      rw [Hid,aY.out];exact zfK HY.out aJ.out (by omega) HT.out (by rw [←hm];exact aV)
     have cY:decide ((4294967296:Int)*(r:Int)+(u0:Int)<(m:Int))=false:=by rw [decide_eq_false_iff_not];omega
     have bG:decide ((4294967296:Int)≤(q:Int))=false:=by rw [decide_eq_false_iff_not];omega
     clear hc hm aV aH
     go_wp2_with fail
     go_meet
     exact ⟨by rw [HB.out],rfl⟩
  case rest=>
   obtain ⟨rfl,rfl⟩:=hcut;clear aO aN bW aZ bF cR;have dD:u0<4294967296:=aE;obtain ⟨R,hR⟩:∃ v,v=(U*4294967296+u0) % Y:=⟨_,rfl⟩;have dB:R<Y:=by rw [hR];exact Nat.mod_lt _ (by omega)
   obtain ⟨f1,f2⟩:=zn1 18446744073709551616 4294967296 hi lo y s Y aC aM u1 u0 t1 t0 U rfl cP.out (by omega) HN.out HU.out bE.out cZ.out aY.out;have cF:t1<4294967296:=by rw [bE.out];exact zha aI n2
   have cB:t0<4294967296:=by rw [aY.out];exact zha aE bL
   have cV:IntKind.u64.wrap (IntKind.u64.wrap ((t1:Int)*4294967296)+(t0:Int))=((t1*4294967296+t0:Nat):Int):=by
    simp only [IntKind.wrap_u64]
    omega
   have cQ:IntKind.u64.wrap (IntKind.u64.wrap (IntKind.u64.wrap ((U:Int)*4294967296)+(u0:Int)) - IntKind.u64.wrap ((t0:Int)*(Y:Int)))=(R:Int):=by
    have h:=Nat.div_add_mod (U*4294967296+u0) Y;rw [←aY.out,←hR,Nat.mul_comm] at h;rw [←Int.natCast_mul];generalize t0*Y=M at *;simp only [IntKind.wrap_u64]
    omega
   rw [←hR] at f2;have F1:=Aa f1;have F2:=Aa f2;clear f1 f2 hR;go_wp2
   go_ret2
   refine ⟨?_,rfl⟩;show Ending.returned (Value.tuple #[Value.int .u64 ((t1:Int)*4294967296+(t0:Int)),Value.int .u64 ((R:Int) / 2 ^ s)])=_
   have e:(t1:Int)*4294967296+(t0:Int)=((t1*4294967296+t0:Nat):Int):=by omega
   rw [e,F1.out,zfu,F2.out]
theorem zhF (hi lo y:Nat) (w:World) (hhy:hi<y) (hlo:lo<18446744073709551616) (hy:y<18446744073709551616) :
  ∃ q r:Nat,hi*18446744073709551616+lo=q*y+r∧r<y∧q<18446744073709551616 ∧
   Calls Tryz.prog 215 #[.int .u64 hi,.int .u64 lo,.int .u64 y] w fun e w'=>e = .returned (.tuple #[.int .u64 (q:Int),.int .u64 (r:Int)])∧∃ k,w'=w.drewN k:=by
 refine ⟨(hi*18446744073709551616+lo) / y,(hi*18446744073709551616+lo) % y,?_,Nat.mod_lt _ (by omega),zha hlo hhy,?_⟩
 ·exact (Nat.div_add_mod' _ _).symm
 ·rcases Nat.eq_zero_or_pos hi with rfl | h
  ·rw [Nat.zero_mul,Nat.zero_add]
   exact zif lo y w hlo hy (by omega)
  ·exact (zme hi lo y w h hhy hlo hy).mono fun e w' ⟨he,hw⟩=>⟨he,0,hw⟩
end
end Go.Proofs.YtbkgkoenppkhpaaGreatDoor
