/- Contracts of the functions of package number on naturals: bitLength, twos, shiftedLeft, shift, shiftedRight. -/
import Derived.Test.YtbkgkoenppkhpaaGreatDoorBStr2
import Derived.StillTailTactics
set_option maxRecDepth 100000
set_option maxHeartbeats 4000000
namespace Go.Proofs.YtbkgkoenppkhpaaGreatDoor
section
open Go.RowKit Bn
theorem zqb(o f r:Nat)(hr:r≤64)(_hf:f<18446744073709551616)(ho:o<2^r) :
  bits BinOp.or IntKind.u64 (o:Int) (IntKind.u64.wrap ((f:Int)*2^r))=((o+f*2^r%B:Nat):Int):=by
 have aC:f*2^r%B<18446744073709551616:=Nat.mod_lt _ zaS;have e1:IntKind.u64.wrap ((f:Int)*2^r)=((f*2^r%B:Nat):Int):=by
  rw[IntKind.wrap_u64,Int.natCast_emod,Int.natCast_mul,Int.natCast_pow];rfl
 have aA:o<18446744073709551616:=by
  have:=zqi f r (by omega);have e:B=18446744073709551616:=rfl;omega
 rw[e1,bits_or_u64_nat o _ aA aC,zje f r (by omega),Nat.or_comm,←Nat.two_pow_add_eq_or_of_lt ho,Nat.add_comm]
theorem zf9(f k:Nat):(f:Int)/2^k=((f/2^k:Nat):Int):=by
 rw[Int.natCast_ediv,Int.natCast_pow];rfl
theorem zaw(A:Option Addr)(n c x s:Nat)(w:World)(ha:NatS w w.heap.size A n c x)(hn:n≤1099511627776)(hs:s≤1099511627776) :
  Calls Tryz.prog 87 #[.slice A n c,.int .i64 s] w (zcj w (x*2^s)):=by
 obtain⟨i0,aT,aS,aZ,aW⟩:=info_parts zct;have aR:=ha.len;have hA:=Aa aR;clear aR;have h1:=ha.nc;have h2:=ha.cm;unfold maxLen at h2;obtain⟨p,hp⟩:∃ p,s/64=p:=⟨_,rfl⟩;obtain⟨r,hr⟩:∃ r,s%64=r:=⟨_,rfl⟩;have aN:s=64*p+r:=by omega
 have aU:r<64:=by omega
 have bD:p≤1099511627776:=by omega
 have e1:(s:Int)/64=(p:Int):=by omega
 have e2:(s:Int)%64=(r:Int):=by omega
 have HS:=Aa aN;clear aN hp hr;go_enter Tryz.func87,Tryz.ntmps87
 go_wp2_with (at_make;refine wpList_make_full _ rfl _ _ 85 rfl w.heap.size 116 i0 (.int .u64 0) 1 Tryz.underlying85 aT aS aZ _ _ _ _ (n+p+1) rfl rfl (by omega) (by omega) ?b2 ?b3 (Nat.le_refl _) ?_)
 case b2=>rw[aW];omega
 case b3=>unfold maxLen;omega
 intro w0 aD aC;have aG:Below w.heap.size w w0:=(Below.refl _ _).grown aC (Nat.le_refl _) (fun k h=>by cases h);have aH:=zav.made aD;clear aD aC e1 e2;go_wp2
 go_loopw [22] (fun s wr=>∃ i:Nat,i≤n∧s = .int .i64 i∧∃ ls,zav wr w.heap.size w.heap.size (n+p+1) (n+p+1) ls∧Wf ls∧Hid (val ls=val ((digs x).take i)*2^r*B^p)∧Hid (∀ t,i+p<t→ls.getD t 0=0)∧Hid (ls.getD (i+p) 0<2^r)∧Below w.heap.size w wr) (fun s _=>n-(intOf s).toNat)
 case atStart=>exact⟨0,by omega,rfl,_,aH,Wf.replicate _,by simp[Hid,za2],fun t _=>zcJ _ _,by rw[Hid,zcJ];exact Nat.two_pow_pos r,aG⟩
 case round=>
  obtain⟨i,hi,rfl,ls,aA,aO,aF,hz,ho,aE⟩:=hrel
  by_cases hin:i<n
  ·obtain⟨ad,rfl,bC,aV⟩:=(ha.below aE).words.word (k:=i) hin
   have aJ:=zaH (zaq x) i;obtain⟨f,aM⟩:∃ f,(digs x).getD i 0=f:=⟨_,rfl⟩;rw[aM] at aV aJ;have HF:=Aa aM;clear aM;have bA:=aA.cell (i+p) (by omega);have bB:=aA.free (i+p);have aK:=aA.cell (i+p+1) (by omega);have aY:=aA.free (i+p+1);obtain⟨o,aL⟩:∃ o,ls.getD (i+p) 0=o:=⟨_,rfl⟩;rw[aL] at bA;have HO:=Aa aL;clear aL;generalize ls.getD (i+p+1) 0=o1 at aK;go_wp2
   go_region
   go_wp2
   go_roundw
   case rel=>
    have aI:=(aA.set (i+p) (o+f*2^r%B)).set (i+p+1) (f/2^(64-r));have aP:=ho.out;rw[HO.out] at aP;rw[zqb o f r (by omega) aJ aP,zf9];have aQ:i+p+1<ls.length:=by rw[aA.len];omega
    have bE:=zqi f r (by omega);refine⟨i+1,by omega,by go_num,_,aI,(aO.set _ ?_).set _ ?_,?_,?_,?_,?_⟩
    ·omega
    ·exact Nat.lt_of_le_of_lt (Nat.div_le_self _ _) aJ
    ·exact znj ls (digs x) i p r f o aQ (by omega) HF.out HO.out (hz.out _ (by omega)) aF.out
    ·intro t ht
     rw[zaM _ _ _ _ (by omega),zaM _ _ _ _ (by omega)];exact hz.out t (by omega)
    ·rw[Hid,show i+1+p=i+p+1 from by omega,zc8 _ _ _ (by simpa using aQ)]
     exact zqg f r (by omega) aJ
    ·exact((aE.setCell (p:=⟨w.heap.size,i+p,none⟩) (Nat.le_refl _) _).setCell (p:=⟨w.heap.size,i+p+1,none⟩) (Nat.le_refl _) _).drew
   case measure=>simp[intOf]<;>omega
  ·obtain rfl:i=n:=by omega
   have hv:val ls=x*2^s:=by
    rw[aF.out,List.take_of_length_le (by rw[hA.out];exact Nat.le_refl _),zak];exact zpM x s p r HS.out
   have ht:=zdt (some ⟨w.heap.size,0,none⟩) (i+p+1) (i+p+1) ls wr aA.words aO (Nat.le_refl _) (by unfold maxLen;omega);rw[hv] at ht;have HC:=Aa ht;clear ht hv
   go_wp2_with fail
   refine HC.out.mono ?_;rintro e w1 ⟨m,rfl,aX,rfl⟩;go_wp2
   go_ret;exact⟨_,m,_,rfl,aX,aE⟩
theorem zlT(T A:Option Addr)(nt ct n c s:Nat)(w:World)(_hn:n≤maxLen)(hs:s≤1099511627776)(hp:n≤s/64) :
  Calls Tryz.prog 185 #[.slice T nt ct,.slice A n c,.int .i64 s] w fun e w'=>e = .returned (.slice none 0 0)∧w=w':=by
 unfold maxLen at _hn;obtain⟨p,hq⟩:∃ p,s/64=p:=⟨_,rfl⟩;rw[hq] at hp;have e1:(s:Int)/64=(p:Int):=by omega
 clear hq;go_enter Tryz.func185,Tryz.ntmps185
 go_wp2
 go_ret;exact⟨rfl,rfl⟩
def zr8 (w wr:World) (base g nt ct:Nat) (lt la:List Nat) (same:Prop) (p r k:Nat):Prop:=
 ∃ ls,zav wr base g nt ct ls∧Wf ls∧val (ls.take k)*2^r+la.getD p 0%2^r=val ((la.drop p).take k)+B^k*(la.getD (p+k) 0%2^r)∧(same→∀ j,k≤j→ls.getD j 0=lt.getD j 0)∧w.grownBy wr (some g)
theorem zgc(A:Option Addr)(base g nt ct n c x s:Nat)(lt:List Nat)(w:World)(same:Prop)(ht:zav w base g nt ct lt)(hlt:Wf lt)(ha:NatS w w.heap.size A n c x)
 (hAs:((0<n→Off A g)∧¬ same)∨(A=some ⟨g,0,none⟩∧lt=digs x∧same))(hnt:n≤nt)(hn:n≤1099511627776)(hs:s≤1099511627776)(hpn:s/64<n) :
  Calls Tryz.prog 185 #[.slice (some ⟨g,0,none⟩) nt ct,.slice A n c,.int .i64 s] w fun e w'=>∃ m,e = .returned (.slice (some ⟨g,0,none⟩) m ct)∧zav w' base g m ct (digs (x/2^s))∧w.grownBy w' (some g):=by
 have aW:=ha.len;have hA:=Aa aW;clear aW;have h1:=ha.nc;have h2:=ha.cm;have h5:=ht.caps;unfold maxLen at h2 h5;obtain⟨h5,h6⟩:=h5;have HT:=Aa ht;have bE:=Aa hAs;clear ht hAs;obtain⟨p,hp⟩:∃ p,s/64=p:=⟨_,rfl⟩;obtain⟨r,hr⟩:∃ r,s%64=r:=⟨_,rfl⟩;have aU:s=64*p+r:=by omega
 have aF:r<64:=by omega
 rw[hp] at hpn;have e1:(s:Int)/64=(p:Int):=by omega
 have e2:(s:Int)%64=(r:Int):=by omega
 have e3:s%64=r:=hr;have HS:=Aa aU;clear aU hp hr;go_enter Tryz.func185,Tryz.ntmps185
 go_wp2
 simp only[e2]
 clear e1 e2 e3
 go_loopw [9] (fun sl wr=>∃ i:Nat,p≤i∧i≤n∧sl = .int .i64 i∧zr8 w wr base g nt ct lt (digs x) same p r (i-p)) (fun sl _=>n-(intOf sl).toNat)
 case atStart=>
  refine⟨p,Nat.le_refl _,by omega,rfl,?_⟩;rw[Nat.sub_self];exact⟨lt,HT.out,hlt,by simp,fun _ _ _=>rfl,World.grownBy.refl w _⟩
 case round=>
  obtain⟨i,bK,bD,rfl,ls,aA,aP,aE,aY,aT⟩:=hrel;have HV:=Aa aE;have HM:=Aa aY;clear aE aY
  by_cases hin:i<n
  ·have aI:∀ k,i≤k→k<n→∃ ad,A=some ad∧wr.cell? (ad.add k)=some (.int .u64 (((digs x).getD k 0:Nat):Int)):=by
    intro k bJ bA
    rcases bE.out with⟨ho,_⟩ | ⟨aG,aR,hs⟩
    ·obtain⟨ad,e,_,hc⟩:=(ha.words.kept aT (Nat.le_refl _) ho).word (k:=k) bA
     exact⟨ad,e,hc⟩
    ·refine⟨_,aG,?_⟩
     have:=aA.cell k (by omega);rw[HM.out hs k (by omega),aR] at this;have e0:(⟨g,0,none⟩:Addr).add k=⟨g,k,none⟩:=by
      unfold Addr.add
      by_cases hj:k=0<;>simp[hj]
     rw[e0];exact this
   obtain⟨ad,aG,bC⟩:=aI i (Nat.le_refl _) hin;have aZ:i-p<ls.length:=by rw[aA.len];omega
   have bH:=aA.cell (i-p) (by omega);have bI:=aA.free (i-p);have aL:=zaH (zaq x) i;have aV:=zaH (zaq x) (i+1);obtain⟨z,aK⟩:∃ z,(digs x).getD i 0=z:=⟨_,rfl⟩;obtain⟨z',aD⟩:∃ z',(digs x).getD (i+1) 0=z':=⟨_,rfl⟩;rw[aK] at bC aL;rw[aD] at aV;generalize ls.getD (i-p) 0=old at bH;have ht:z/2^r<2^(64-r):=by
    rw[Nat.div_lt_iff_lt_mul (Nat.two_pow_pos _),Nat.mul_comm,←zez r (by omega)];exact aL
   have aN:Hid (bits BinOp.or IntKind.u64 ((z/2^r:Nat):Int) (IntKind.u64.wrap ((z':Int)*2^(64-r)))=((z/2^r+z'*2^(64-r)%B:Nat):Int)):=
    zqb (z/2^r) z' (64-r) (by omega) aV ht
   have aO:=(zke z z' r aF aL).1;obtain⟨t,aJ⟩:∃ t,z/2^r+z'*2^(64-r)%B=t:=⟨_,rfl⟩;rw[aJ] at aN aO;have HP:Hid (val ((ls.set (i-p) t).take (i+1-p))*2^r+(digs x).getD p 0%2^r=val (((digs x).drop p).take (i+1-p))+B^(i+1-p)*((digs x).getD (p+(i+1-p)) 0%2^r)):=by
    rw[show i+1-p=i-p+1 from by omega];exact zon ls (digs x) p (i-p) r t aZ aF (zaq x) (by rw[show p+(i-p)=i from by omega,aK,aD,aJ]) HV.out
   have aX:Hid (same→∀ j,i+1-p≤j→(ls.set (i-p) t).getD j 0=lt.getD j 0):=fun hs j hj=>by
    rw[←HM.out hs j (by omega),zaM _ _ _ _ (by omega)]
   have HG:Hid (w.grownBy ((wr.setCell ⟨g,i-p,none⟩ (.int .u64 t)).drew) (some g)):=znA (zbf aT (p:=⟨g,i-p,none⟩) (.inl rfl) _);have HR:Hid (zav ((wr.setCell ⟨g,i-p,none⟩ (.int .u64 t)).drew) base g nt ct (ls.set (i-p) t)):=(aA.set (i-p) t)
   by_cases hin1:i+1<n
   ·obtain⟨aQ,aC,aM⟩:=aI (i+1) (by omega) hin1
    have aH:aQ=ad:=by rw[aG] at aC;injection aC with h;exact h.symm
    subst aH;rw[aD] at aM;subst aG;have bF:wr.cell? ⟨aQ.block,aQ.off+(i+1),none⟩=some (.int .u64 (z':Int)):=by simpa[Addr.add] using aM
    clear aC aI aK aD aJ ht aM;go_wp2
    go_region
    go_wp2
    go_roundw
    case rel=>
     rw[zf9,aN.out];exact⟨i+1,by omega,by omega,by go_num,_,HR.out,aP.set _ aO,HP.out,aX.out,HG.out⟩
    case measure=>simp[intOf]<;>omega
   ·have bB:z'=0:=by rw[←aD];exact zbV (by rw[hA.out];omega)
    subst bB;subst aG;clear aI aK aD aJ ht;go_wp2
    go_region
    go_wp2
    go_roundw
    case rel=>
     have aS:bits BinOp.or IntKind.u64 ((z/2^r:Nat):Int) 0=(t:Int):=by
      have h:=aN.out;rw[show((0:Nat):Int)*2^(64-r)=0 from by simp,show IntKind.u64.wrap 0=0 from by decide] at h;exact h
     rw[zf9,aS];exact⟨i+1,by omega,by omega,by go_num,_,HR.out,aP.set _ aO,HP.out,aX.out,HG.out⟩
    case measure=>simp[intOf]<;>omega
  ·obtain rfl:i=n:=by omega
   have hv:val (ls.take (i-p))=x/2^s:=
    zpv ls (digs x) x s p r (i-p) HS.out rfl (by rw[hA.out];omega) (by rw[hA.out]) HV.out
   have ht:=zb8 base g (i-p) ct (ls.take (i-p)) wr (aA.take (by omega)) (aP.take _);rw[hv] at ht;have HC:=Aa ht;clear ht hv
   go_wp2_with fail
   refine HC.out.mono ?_;rintro e w1 ⟨m,rfl,bG,rfl⟩;go_wp2
   go_ret;exact⟨m,rfl,bG,aT⟩
theorem zaV(A:Option Addr)(n c x s:Nat)(w:World)(ha:NatS w w.heap.size A n c x)(hn:n≤1099511627776)(hs:s≤1099511627776) :
  Calls Tryz.prog 182 #[.slice A n c,.int .i64 s] w fun e w'=>Below w.heap.size w w'∧znI w.heap.size (x/2^s) e w':=by
 obtain⟨i0,aF,aH,aG,aI⟩:=info_parts zct;go_enter Tryz.func182,Tryz.ntmps182
 go_wp2_with (at_make;refine wpList_make_full _ rfl _ _ 85 rfl w.heap.size 116 i0 (.int .u64 0) 1 Tryz.underlying85 aF aH aG _ _ _ _ n rfl rfl (by omega) (by omega) ?b2 ?b3 (Nat.le_refl _) ?_)
 case b2=>rw[aI];omega
 case b3=>unfold maxLen;omega
 intro w0 aD aC;have aA:Below w.heap.size w w0:=(Below.refl _ _).grown aC (Nat.le_refl _) (fun k h=>by cases h);have aE:=zav.made aD;clear aD aC
 by_cases hp:n≤s/64
 ·have hz:x/2^s=0:=zpL x s (s/64) (by omega) (by rw[ha.len];exact hp)
  have hc:=zlT (some ⟨w.heap.size,0,none⟩) A n n n c s w0 (by unfold maxLen;omega) hs hp;have HZ:=Aa hz;clear hz
  go_wp2_with fail
  refine hc.mono ?_;rintro e w1 ⟨rfl,rfl⟩;go_wp2
  go_ret;exact⟨aA,.inl ⟨rfl,HZ.out⟩⟩
 ·have hc:=zgc A w.heap.size w.heap.size n n n c x s _ w0 False aE (Wf.replicate n) (ha.later aA) (.inl ⟨ha.off (Nat.le_refl _),id⟩) (Nat.le_refl _) hn hs (by omega)
  go_wp2_with fail
  refine hc.mono ?_;rintro e w1 ⟨m,rfl,aK,aJ⟩;go_wp2
  go_ret;exact⟨aA.grown aJ aA.size (fun k hk=>by cases hk;exact Nat.le_refl _),.inr ⟨w.heap.size,m,n,rfl,aK⟩⟩
structure Tabs (w:World):Prop where
 tz:TabAt 3 Lib.deBruijn64tab w
 pow:Lib.TabIs Tryz.prog w "internal/strconv.uint64pow10" .u64 Lib.pow10Tab
 maxl:∃ m:Int,w.cell? ⟨2,0,none⟩=some (.int .i64 m)
 prec:w.cell? ⟨1,0,none⟩=some (.int .i64 48)∧w.cell? ⟨1,1,none⟩=some (.int .i64 96)∧w.cell? ⟨1,2,none⟩=some (.int .i64 192)
theorem zgt{w:World}{p:Addr}{v:Value}(h:w.cell? p=some v):p.block<w.heap.size:=by
 rcases Nat.lt_or_ge p.block w.heap.size with h1 | h1
 ·exact h1
 ·exfalso
  unfold World.cell? at h;rw[Array.getElem?_eq_none h1] at h;simp at h
theorem zjM{w w':World}{n:String}{k:IntKind}{zs:List Int}(h:Lib.TabIs Tryz.prog w n k zs)(hb:Below w.heap.size w w'):Lib.TabIs Tryz.prog w' n k zs:=by
 cases hg:Tryz.prog.globalNamed n with
 | none=>unfold Lib.TabIs World.var? at h;rw[hg] at h;cases h
 | some g=>
  refine var?_below hb hg ?_ h;unfold Lib.TabIs World.var? at h;rw[hg] at h;simp only[Option.bind_some] at h
  rcases Nat.lt_or_ge g w.heap.size with h1 | h1
  ·exact h1
  ·rw[Array.getElem?_eq_none h1] at h;cases h
theorem Tabs.later{w w':World}(h:Tabs w)(hb:Below w.heap.size w w'):Tabs w' where
 tz:=fun j hj=>(hb.cell (zgt (h.tz j hj))).trans (h.tz j hj)
 pow:=zjM h.pow hb
 maxl:=h.maxl.imp fun _ hm=>(hb.cell (zgt hm)).trans hm
 prec:=⟨(hb.cell (zgt h.prec.1)).trans h.prec.1,(hb.cell (zgt h.prec.2.1)).trans h.prec.2.1,(hb.cell (zgt h.prec.2.2)).trans h.prec.2.2⟩
theorem Tabs.only4 {w w1 w':World} {g:Nat} (h:Tabs w) (hb:Below w.heap.size w w1) (hg:w1.grownBy w' (some g)) (hle:w.heap.size≤g):Tabs w':=
 h.later (hb.grown hg hb.size fun k e=>by cases e;exact hle)
theorem tz64 (x:Nat) (w:World) (hT:Tabs w) (hx:x<18446744073709551616) :
  Calls Tryz.prog 213 #[.int .u64 x] w fun e w'=>e = .returned (.int .i64 (Lib.ctz 64 x))∧w'=w:=
 Any7.bits_TrailingZeros64 Tryz.lays29 x hx w fun _=>hT.tz
theorem zpI {x:Nat} (h0:0<x) (hx:x<18446744073709551616):∃ m,x=2^Lib.ctz 64 x*(2*m+1)∧Lib.ctz 64 x<64:=by
 have:=Lib.ctzFrom_spec 64 x h0 hx
 rwa [Lib.ctz,if_neg (by omega)]
theorem zc2(A:Option Addr)(n c x:Nat)(w:World)(hT:Tabs w)(ha:NatS w w.heap.size A n c x)(hx:0<x)(hn:n≤1099511627776) :
  Calls Tryz.prog 183 #[.slice A n c] w fun e w'=>e = .returned (.int .i64 (ntz x))∧w=w':=by
 have hA:=Aa ha.len;have h1:=ha.nc;have h2:=ha.cm;unfold maxLen at h2;have aD:0<n:=by rw[←ha.len];exact zap hx
 go_enter Tryz.func183,Tryz.ntmps183
 go_wp2
 go_loop [3] (fun s=>∃ i:Nat,i<n∧s = .int .i64 i∧Hid (∀ j,j<i→(digs x).getD j 0=0)) (fun s=>n-(intOf s).toNat)
 case atStart=>exact⟨0,aD,rfl,fun j hj=>by omega⟩
 case round=>
  obtain⟨i,hi,rfl,hz⟩:=hrel;obtain⟨ad,rfl,aH,aE⟩:=ha.words.word (k:=i) hi;have aC:=zaH (zaq x) i;obtain⟨z,hg⟩:∃ z,(digs x).getD i 0=z:=⟨_,rfl⟩;rw[hg] at aE aC
  by_cases h0:z=0
  ·subst h0
   have aF:i+1<n:=by
    have:=zoF hx i (by rw[hA.out];exact hi) hz.out hg;rw[hA.out] at this;exact this
   have HG:Hid (∀ j,j<i+1→(digs x).getD j 0=0):=fun j hj=>by
    rcases Nat.lt_or_ge j i with h | h
    ·exact hz.out j h
    ·obtain rfl:j=i:=by omega
     exact hg
   clear hg;go_wp2
   go_round
   case rel=>exact⟨i+1,aF,by go_num,HG.out⟩
   case measure=>simp[intOf]<;>omega
  ·have aG:(((z:Nat):Int)==0)=false:=by rw[beq_eq_false_iff_ne];omega
   obtain⟨m,hm,aA⟩:=zpI (x:=z) (by omega) aC;have hr:ntz x=64*i+Lib.ctz 64 z:=zoa hx i (by rw[hA.out];exact hi) hz.out z m _ hg hm aA;have ht:=tz64 z w hT aC;generalize Lib.ctz 64 z=cz at *;have HR:=Aa hr;clear hr hg hm
   go_wp2_with fail
   refine ht.mono ?_;rintro e w1 ⟨rfl,rfl⟩;go_wp2
   go_ret;exact⟨by rw[HR.out];simp,rfl⟩
theorem zdz(A:Option Addr)(n c x:Nat)(w:World)(ha:NatS w w.heap.size A n c x)(hn:n≤1099511627776) :
  Calls Tryz.prog 157 #[.slice A n c] w fun e w'=>e = .returned (.int .i64 (zaP x))∧w=w':=by
 have hA:=Aa ha.len;have h1:=ha.nc;have h2:=ha.cm;have hz:=zcC A n c w (by omega);unfold maxLen at h2
 by_cases h0:n=0
 ·subst h0
  obtain rfl:x=0:=za4.1 hA.out;go_enter Tryz.func157,Tryz.ntmps157
  go_wp2_with fail
  refine hz.mono ?_;rintro e w1 ⟨rfl,rfl⟩;go_wp2
  go_ret;exact⟨by simp[zaP],rfl⟩
 ·have hx:0<x:=by
   rcases Nat.eq_zero_or_pos x with rfl | h
   ·exact absurd (by rw[←hA.out,zal];rfl) h0
   ·exact h
  obtain⟨ad,rfl,aE,aD⟩:=ha.words.word (k:=n-1) (by omega);have aA:=zaH (zaq x) (n-1);obtain⟨z,hg⟩:∃ z,(digs x).getD (n-1) 0=z:=⟨_,rfl⟩;rw[hg] at aD aA;have aC:z≠0:=by
   have:=zdc x (by rw[hA.out];omega);rw[←hg,Bn.getD_in (by rw[hA.out];omega)]
   simpa only[hA.out] using this
  obtain⟨b1,b2,b3⟩:=Lib.bitLenAux_bounds 64 z (by simpa using aA) aC;have b4:=Lib.bitLen_le z 64 (Nat.le_refl _) (by simpa using aA);have hl:=Tryz.bits_LeadingZeros64 (z:Int) w (by omega) (by omega);rw[Int.toNat_natCast] at hl;have eb:Lib.bitLen z=Lib.bitLenAux 64 z:=rfl;rw[←eb] at b1 b2 b3;generalize Lib.bitLen z=b at *;have hr:zaP x=64*(n-1)+b:=zgM hx (n-1) (by rw[hA.out];omega) z b hg b1 b2 b3;have HR:=Aa hr;have aF:(((n:Nat):Int)==0)=false:=by rw[beq_eq_false_iff_ne];omega
  clear hr hg b2 b3 eb;go_enter Tryz.func157,Tryz.ntmps157
  go_wp2_with fail
  refine hz.mono ?_;rintro e w1 ⟨rfl,rfl⟩
  go_wp2_with fail
  refine hl.mono ?_;rintro e w1 ⟨rfl,rfl⟩;go_wp2
  go_ret;exact⟨by rw[HR.out];show Ending.returned (Value.int .i64 _)=Ending.returned (Value.int .i64 _);congr 2;omega,rfl⟩
end
end Go.Proofs.YtbkgkoenppkhpaaGreatDoor
namespace Go.Proofs.YtbkgkoenppkhpaaGreatDoor.Bn
set_option maxRecDepth 100000
section
variable {h U u Y y1 y0 q r:Nat}
theorem zh2(hu:u<h)(hUY:U<Y):(U*h+u)/Y<h:=by
 rw[Nat.div_lt_iff_lt_mul (by omega)];have:(U+1)*h≤Y*h:=Nat.mul_le_mul_right _ hUY;rw[Nat.add_mul,Nat.one_mul] at this;rw[Nat.mul_comm h Y];omega
theorem zgf(hu:u<h)(hY:Y=y1*h+y0)(h1:0<y1):(U*h+u)/Y≤U/y1:=by
 rw[Nat.le_div_iff_mul_le h1];have h2:(U*h+u)/Y*Y≤U*h+u:=Nat.div_mul_le_self _ _;generalize (U*h+u)/Y=t at *;rw[hY,Nat.mul_add,←Nat.mul_assoc] at h2;generalize t*y1=a at *;have h3:a*h<(U+1)*h:=by
  rw[Nat.add_mul,Nat.one_mul];generalize t*y0=c at *;omega
 have:=Nat.lt_of_mul_lt_mul_right h3;omega
theorem ziT(hu:u<h)(hUY:U<Y)(hY:Y=y1*h+y0)(hq:U=q*y1+r)(hc:h≤q∨h*r+u<q*y0):1≤q∧(U*h+u)/Y≤q-1:=by
 have h1:1≤q:=by
  rcases hc with h' | h'
  ·omega
  ·rcases Nat.eq_zero_or_pos q with rfl | aA
   ·simp at h'
   ·exact aA
 refine⟨h1,?_⟩
 rcases hc with h' | h'
 ·have:=zh2 (U:=U) hu hUY
  omega
 ·have:(U*h+u)/Y<q:=by
   rw[Nat.div_lt_iff_lt_mul (by omega),hY,hq,Nat.mul_add,Nat.add_mul,←Nat.mul_assoc,Nat.mul_comm r h];omega
  omega
theorem zgd(hY:Y=y1*h+y0)(hq:U=q*y1+r)(hY0:0<Y)(ht:(U*h+u)/Y≤q)(hc:q*y0≤h*r+u):q=(U*h+u)/Y:=by
 refine Nat.le_antisymm ?_ ht;rw[Nat.le_div_iff_mul_le hY0,hY,hq,Nat.mul_add,Nat.add_mul,←Nat.mul_assoc,Nat.mul_comm r h];omega
theorem zg5(hUY:U<Y)(hY:Y=y1*h+y0)(h0:y0<h)(hq:U=q*y1+r)(ht:(U*h+u)/Y≤q)(hr:h≤r):q=(U*h+u)/Y:=by
 have aA:q<h:=by
  rcases Nat.lt_or_ge q h with h' | h'
  ·exact h'
  ·exfalso
   have:h*y1≤q*y1:=Nat.mul_le_mul_right _ h';rw[Nat.mul_comm h y1] at this;omega
 refine zgd hY hq (by omega) ht ?_;have h2:q*y0≤h*r:=Nat.mul_le_mul (by omega) (by omega);omega
theorem zks(hq:U=q*y1+r)(h1:1≤q):U=(q-1)*y1+(r+y1):=by
 obtain⟨p,rfl⟩:∃ p,q=p+1:=⟨q-1,by omega⟩;rw[Nat.add_sub_cancel];rw[Nat.add_mul] at hq;omega
end
theorem zqR(g h hi lo y s Y u32 u10 u1 u0 q1 q0 U:Nat)(hg:g=h*h)(hY:Y=y*2^s)(hy:0<y)(hu:u32*g+u10=(hi*g+lo)*2^s)(h10:u10=u1*h+u0)
 (hq1:q1=(u32*h+u1)/Y)(hU:U=(u32*h+u1)%Y)(hq0:q0=(U*h+u0)/Y) :
  q1*h+q0=(hi*g+lo)/y∧(U*h+u0)%Y/2^s=(hi*g+lo)%y:=by
 have hp:=Nat.two_pow_pos s;have aC:0<Y:=by rw[hY];exact Nat.mul_pos hy hp
 have e1:=Nat.div_add_mod (u32*h+u1) Y;rw[←hq1,←hU] at e1;have e2:=Nat.div_add_mod (U*h+u0) Y;rw[←hq0] at e2;have hr:=Nat.mod_lt (U*h+u0) aC;generalize (U*h+u0)%Y=R at *;have e3:(hi*g+lo)*2^s=Y*(q1*h+q0)+R:=by
  rw[←hu,h10,Nat.mul_add,←Nat.mul_assoc,hg,←Nat.mul_assoc];have:Y*q1*h+U*h=(u32*h+u1)*h:=by rw[←Nat.add_mul,e1]
  rw[Nat.add_mul] at this;generalize u32*h*h=a1 at *;generalize Y*q1*h=a2 at *;generalize U*h=a3 at *;generalize u1*h=a4 at *;generalize Y*q0=a5 at *;omega
 generalize hi*g+lo=N at *;generalize q1*h+q0=Q at *;have e4:R=2^s*(R/2^s):=by
  have aA:2^s ∣ R:=by
   have h1:2^s ∣ N*2^s:=Nat.dvd_mul_left _ _;rw[e3] at h1;refine(Nat.dvd_add_right ?_).1 h1;rw[hY,Nat.mul_assoc,Nat.mul_comm y,Nat.mul_assoc];exact Nat.dvd_mul_right _ _
  exact(Nat.mul_div_cancel' aA).symm
 generalize R/2^s = ρ at *;have hρ : ρ < y:=by
  rw[e4,hY,Nat.mul_comm y] at hr;exact Nat.lt_of_mul_lt_mul_left hr
 have e5:N=y*Q + ρ := by
  have:N*2^s=(y*Q + ρ)*2^s:=by
   rw[e3,e4,hY,Nat.add_mul,Nat.mul_comm (2^s) ρ,Nat.mul_assoc,Nat.mul_assoc,Nat.mul_comm (2^s) Q]
  exact Nat.eq_of_mul_eq_mul_right hp this
 rw[e5];refine⟨?_,?_⟩
 ·rw[Nat.mul_add_div hy,Nat.div_eq_of_lt hρ,Nat.add_zero]
 ·rw[Nat.mul_add_mod,Nat.mod_eq_of_lt hρ]
theorem zld(hi lo y s:Nat)(hs:s≤63)(hlo:lo<18446744073709551616)(hhy:hi<y)(hY:y*2^s<18446744073709551616) :
  hi*2^s%B=hi*2^s∧hi*2^s+lo/2^(64-s)<y*2^s∧lo/2^(64-s)<2^s ∧
   (hi*2^s+lo/2^(64-s))*18446744073709551616+lo*2^s%B=(hi*18446744073709551616+lo)*2^s:=by
 have h1:=zqg lo s (by omega) hlo;have h2:(hi+1)*2^s≤y*2^s:=Nat.mul_le_mul_right _ hhy;rw[Nat.add_mul,Nat.one_mul] at h2;have h4:hi*2^s<18446744073709551616∧hi*2^s+lo/2^(64-s)<y*2^s:=by
  generalize lo/2^(64-s)=l at *;generalize hi*2^s=a at *;generalize y*2^s=b at *;generalize 2^s=c at *;omega
 refine⟨Nat.mod_eq_of_lt h4.1,h4.2,h1,?_⟩;rw[zp8 lo s (by omega),Nat.add_mul,Nat.add_mul,Nat.add_assoc];have h3:=Nat.div_add_mod (lo*2^s) B;rw[Nat.mul_comm] at h3;have e:B=18446744073709551616:=rfl;rw[←e] at *;rw[h3,Nat.mul_assoc,Nat.mul_assoc,Nat.mul_comm B]
end Go.Proofs.YtbkgkoenppkhpaaGreatDoor.Bn
namespace Go.Proofs.YtbkgkoenppkhpaaGreatDoor
section
open Go.RowKit Bn
theorem zjC(lo y:Nat)(w:World)(hlo:lo<18446744073709551616)(hy:y<18446744073709551616)(hy0:0<y) :
  Calls Tryz.prog 215 #[.int .u64 0,.int .u64 lo,.int .u64 y] w fun e w'=>e = .returned (.tuple #[.int .u64 ((lo/y:Nat):Int),.int .u64 ((lo%y:Nat):Int)])∧∃ q,w'=w.drewN q:=by
 have h1:(((y:Nat):Int)==0)=false:=by rw[beq_eq_false_iff_ne];omega
 have h2:¬ ((y:Int)≤0):=by omega
 have h3:(1:Int)≤y:=by omega
 have hq:IntKind.u64.wrap ((lo:Int)/(y:Int))=((lo/y:Nat):Int):=by
  rw[←Int.natCast_ediv,IntKind.wrap_u64];have:=Nat.div_le_self lo y;generalize lo/y=d at *;omega
 go_enter Tryz.func215,Tryz.ntmps215
 go_wp2
 go_quiet (fail)
 go_wp2
 go_ret2
 exact⟨rfl,_,rfl⟩
theorem zcb(n:Nat)(h:n<18446744073709551616):IntKind.u64.wrap (n:Int)=(n:Int):=by rw[IntKind.wrap_u64];omega
theorem zkH(n:Nat):IntKind.u64.wrap (n:Int)=((n%18446744073709551616:Nat):Int):=by rw[IntKind.wrap_u64];omega
theorem zkd(Y:Nat)(h:Y<18446744073709551616):bits BinOp.and IntKind.u64 (Y:Int) 4294967295=((Y%4294967296:Nat):Int):=by
 have:=bits_and_u64_nat Y 4294967295 h (by omega);rw[show((4294967295:Nat):Int)=4294967295 from rfl] at this;rw[this]
 congr 1
 exact Nat.and_two_pow_sub_one_eq_mod Y 32
theorem zn2(hi lo y:Nat)(w:World)(hhi:0<hi)(hhy:hi<y)(hlo:lo<18446744073709551616)(hy:y<18446744073709551616) :
  Calls Tryz.prog 215 #[.int .u64 hi,.int .u64 lo,.int .u64 y] w fun e w'=>e = .returned (.tuple #[.int .u64 (((hi*18446744073709551616+lo)/y:Nat):Int),.int .u64 (((hi*18446744073709551616+lo)%y:Nat):Int)])∧w'=w:=by
 have h1:(((y:Nat):Int)==0)=false:=by rw[beq_eq_false_iff_ne];omega
 have dC:(((hi:Nat):Int)==0)=false:=by rw[beq_eq_false_iff_ne];omega
 have h2:¬ ((y:Int)≤hi):=by omega
 obtain⟨b1,b2,b3⟩:=Lib.bitLenAux_bounds 64 y (by simpa using hy) (by omega);have b4:=Lib.bitLen_le y 64 (Nat.le_refl _) (by simpa using hy);have hl:=Tryz.bits_LeadingZeros64 (y:Int) w (by omega) (by omega);rw[Int.toNat_natCast] at hl;have eb:Lib.bitLen y=Lib.bitLenAux 64 y:=rfl;rw[←eb] at b1 b2 b3;generalize Lib.bitLen y=b at *;obtain⟨s,hs⟩:∃ s,s=64-b:=⟨_,rfl⟩;have es:(64-(b:Int))=(s:Int):=by omega
 rw[es] at hl;have bP:s≤63:=by omega
 obtain⟨Y,hY⟩:∃ Y,Y=y*2^s:=⟨_,rfl⟩;have aV:Y<18446744073709551616:=by
  have h:=(Nat.mul_lt_mul_right (Nat.two_pow_pos s)).2 b3;rw[←Nat.pow_add,show b+s=64 from by omega] at h;rw[hY];exact h
 have cW:9223372036854775808≤Y:=by
  have h:=Nat.mul_le_mul_right (2^s) b2;rw[←Nat.pow_add,show b-1+s=63 from by omega] at h;rw[hY];exact h
 have eY:IntKind.u64.wrap ((y:Int)*2^s)=(Y:Int):=by
  have:(y:Int)*2^s=(Y:Int):=by rw[hY,Int.natCast_mul,Int.natCast_pow];rfl
  rw[this,zcb Y aV]
 obtain⟨n1,n2,n3,n4⟩:=zld hi lo y s bP hlo hhy (by rw[←hY];exact aV);rw[←hY] at n2;obtain⟨aU,bJ⟩:∃ v,v=hi*2^s:=⟨_,rfl⟩;obtain⟨aW,bI⟩:∃ v,v=lo/2^(64-s):=⟨_,rfl⟩;obtain⟨aN,aL⟩:∃ v,v=lo*2^s%B:=⟨_,rfl⟩;rw[←bJ,←bI] at n2 n4;rw[←bI] at n3;rw[←aL] at n4;have aR:aN<18446744073709551616:=by rw[aL];exact Nat.mod_lt _ zaS
 have bV:IntKind.u64.wrap ((hi:Int)*2^s)=(aU:Int):=by
  have:(hi:Int)*2^s=(aU:Int):=by rw[bJ,Int.natCast_mul,Int.natCast_pow];rfl
  rw[this,zcb aU (by omega)]
 have bW:(lo:Int)/2^(64-s)=(aW:Int):=by rw[bI,zf9]
 have bM:bits BinOp.or IntKind.u64 (aU:Int) (aW:Int)=((aU+aW:Nat):Int):=by
  rw[bits_or_u64_nat aU aW (by omega) (by omega),bJ,Nat.mul_comm,←Nat.two_pow_add_eq_or_of_lt n3]
 have cJ:IntKind.u64.wrap ((lo:Int)*2^s)=(aN:Int):=by
  have:(lo:Int)*2^s=((lo*2^s:Nat):Int):=by rw[Int.natCast_mul,Int.natCast_pow];rfl
  rw[this,zkH,aL];rfl
 obtain⟨aD,bE⟩:∃ v,v=aU+aW:=⟨_,rfl⟩;rw[←bE] at bM n2 n4;obtain⟨y1,cR⟩:∃ v,v=Y/4294967296:=⟨_,rfl⟩;obtain⟨y0,cL⟩:∃ v,v=Y%4294967296:=⟨_,rfl⟩;obtain⟨u1,cP⟩:∃ v,v=aN/4294967296:=⟨_,rfl⟩;obtain⟨u0,cC⟩:∃ v,v=aN%4294967296:=⟨_,rfl⟩;have e9:(Y:Int)/4294967296=(y1:Int):=by omega
 have cI:=zkd Y aV;rw[←cL] at cI;have bT:(aN:Int)/4294967296=(u1:Int):=by omega
 have bN:=zkd aN aR;rw[←cC] at bN;have HY:Hid (Y=y1*4294967296+y0):=by unfold Hid;omega
 have HU:Hid (aN=u1*4294967296+u0):=by unfold Hid;omega
 have cV:=Aa hY;have HN:=Aa n4;have cM:y1<4294967296:=by omega
 have cE:2147483648≤y1:=by omega
 have aO:y0<4294967296:=by omega
 have aI:u1<4294967296:=by omega
 have aE:u0<4294967296:=by omega
 have bR:aD<18446744073709551616:=by omega
 obtain⟨q,hq⟩:∃ v,v=aD/y1:=⟨_,rfl⟩;obtain⟨r,hr⟩:∃ v,v=aD%y1:=⟨_,rfl⟩;have bU:aD=q*y1+r:=by rw[hq,hr,Nat.mul_comm];exact(Nat.div_add_mod _ _).symm
 have aX:r<y1:=by rw[hr];exact Nat.mod_lt _ (by omega)
 have aY:q≤aD:=by rw[hq];exact Nat.div_le_self _ _
 have bY:IntKind.u64.wrap ((aD:Int)/(y1:Int))=(q:Int):=by rw[←Int.natCast_ediv,←hq,zcb q (by omega)]
 obtain⟨m,hm⟩:∃ v,v=q*y1:=⟨_,rfl⟩;have cH:IntKind.u64.wrap ((q:Int)*(y1:Int))=(m:Int):=by rw[←Int.natCast_mul,←hm,zcb m (by omega)]
 have cK:(aD:Int)-(m:Int)=(r:Int):=by omega
 have HT:Hid ((aD*4294967296+u1)/Y≤q):=by rw[hq];exact zgf aI HY.out (by omega)
 have aG:=Aa bU;clear hs b1 b2 b3 b4 eb es hY n1 n3 n4 bJ bI aL bE cR cL cP cC hq hr bU hm;go_enter Tryz.func215,Tryz.ntmps215
 go_wp2_with fail
 refine hl.mono ?_;rintro e w1 ⟨rfl,rfl⟩
 go_upto_block 0 with(fail)
 obtain⟨t1,cG⟩:∃ v,v=(aD*4294967296+u1)/Y:=⟨_,rfl⟩;have bG:=Aa cG;clear cG
 go_cut [15,16] from 67 to 85 (fun a _ wc=>a = .int .u64 (t1:Int)∧wc=w1)
 case first=>
  go_wp2_with fail
  go_loop [15,16] (fun a b=>∃ q r:Nat,a = .int .u64 (q:Int)∧b = .int .u64 (r:Int)∧q<18446744073709551616∧r<4294967296∧Hid (aD=q*y1+r)∧Hid ((aD*4294967296+u1)/Y≤q)) (fun a _=>(intOf a).toNat)
  case atStart=>exact⟨q,r,rfl,rfl,by omega,by omega,aG,HT⟩
  case round=>
   clear aG HT aY aX bY cH cK bM cJ bT bN bV bW;obtain⟨q,r,rfl,rfl,hq,hr,aG,HT⟩:=hrel
   by_cases hc:4294967296≤q∨4294967296*r+u1<q*y0
   ·obtain⟨bO,bB⟩:=ziT aI n2 HY.out aG.out hc
    have HD:=Aa (zks aG.out bO);have aT:=Aa bB;clear bB;have aJ:Value.int .u64 ((q:Int)-1)=Value.int .u64 ((q-1:Nat):Int):=by congr 1;omega
    have aA:=Aa aJ;clear aJ;have aF:4294967296≤r+y1→Hid (q-1=t1):=fun h=>by
     rw[Hid,bG.out];exact zg5 n2 HY.out aO HD.out aT.out h
    by_cases aH:4294967296≤q
    ·clear hc
     have bH:(4294967296:Int)≤(q:Int):=by omega
     have cT:=Aa aH;clear aH
     by_cases hr2:4294967296≤r+y1
     ·have HB:=aF hr2
      clear aF;have aQ:(4294967296:Int)≤(r:Int)+(y1:Int):=by omega
      have aK:=Aa hr2;clear hr2
      go_wp2_with fail
      go_meet
      exact⟨by rw[aA.out,HB.out],rfl⟩
     ·clear aF
      have aQ:decide ((4294967296:Int)≤(r:Int)+(y1:Int))=false:=by rw[decide_eq_false_iff_not];omega
      have aK:=Aa hr2;clear hr2
      go_wp2_with fail
      have bK:=aK.out
      go_round
      case rel=>exact⟨q-1,r+y1,aA.out,by go_num,by omega,by omega,HD,aT⟩
      case measure=>simp[intOf]<;>omega
    ·obtain⟨m,hm⟩:∃ v,v=q*y0:=⟨_,rfl⟩
     have aC:m<18446744073709551616:=by
      rw[hm];exact Nat.lt_of_le_of_lt (Nat.mul_le_mul (show q≤4294967295 by omega) (show y0≤4294967295 by omega)) (by decide)
     have bS:IntKind.u64.wrap ((q:Int)*(y0:Int))=(m:Int):=by rw[←Int.natCast_mul,←hm,zcb m aC]
     have aS:(4294967296:Int)*(r:Int)+(u1:Int)<(m:Int):=by
      have:4294967296*r+u1<m:=by rw[hm];omega
      omega
     have bH:(q:Int)<4294967296:=by omega
     clear hc hm aH
     by_cases hr2:4294967296≤r+y1
     ·have HB:=aF hr2
      clear aF;have aQ:(4294967296:Int)≤(r:Int)+(y1:Int):=by omega
      have aK:=Aa hr2;clear hr2
      go_wp2_with fail
      go_meet
      exact⟨by rw[aA.out,HB.out],rfl⟩
     ·clear aF
      have aQ:decide ((4294967296:Int)≤(r:Int)+(y1:Int))=false:=by rw[decide_eq_false_iff_not];omega
      have aK:=Aa hr2;clear hr2
      go_wp2_with fail
      have bK:=aK.out
      go_round
      case rel=>exact⟨q-1,r+y1,aA.out,by go_num,by omega,by omega,HD,aT⟩
      case measure=>simp[intOf]<;>omega
   ·have aH:q<4294967296:=by omega
    obtain⟨m,hm⟩:∃ v,v=q*y0:=⟨_,rfl⟩;have aC:m<18446744073709551616:=by
     rw[hm];exact Nat.lt_of_le_of_lt (Nat.mul_le_mul (show q≤4294967295 by omega) (show y0≤4294967295 by omega)) (by decide)
    have bS:IntKind.u64.wrap ((q:Int)*(y0:Int))=(m:Int):=by rw[←Int.natCast_mul,←hm,zcb m aC]
    have aS:m≤4294967296*r+u1:=by rw[hm];omega
    have HB:Hid (q=t1):=by
     rw[Hid,bG.out];exact zgd HY.out aG.out (by omega) HT.out (by rw[←hm];exact aS)
    have cY:decide ((4294967296:Int)*(r:Int)+(u1:Int)<(m:Int))=false:=by rw[decide_eq_false_iff_not];omega
    have bH:decide ((4294967296:Int)≤(q:Int))=false:=by rw[decide_eq_false_iff_not];omega
    clear hc hm aS aH
    go_wp2_with fail
    go_meet
    exact⟨by rw[HB.out],rfl⟩
 case rest=>
  obtain⟨rfl,rfl⟩:=hcut;clear HT aY aX bY cH cK bM cJ bT bN bV bW e9 cI;obtain⟨U,hU⟩:∃ v,v=(aD*4294967296+u1)%Y:=⟨_,rfl⟩;have bL:U<Y:=by rw[hU];exact Nat.mod_lt _ (by omega)
  have cZ:IntKind.u64.wrap (IntKind.u64.wrap (IntKind.u64.wrap ((aD:Int)*4294967296)+(u1:Int))-IntKind.u64.wrap ((t1:Int)*(Y:Int)))=(U:Int):=by
   have h:=Nat.div_add_mod (aD*4294967296+u1) Y;rw[←bG.out,←hU,Nat.mul_comm] at h;rw[←Int.natCast_mul];generalize t1*Y=M at *;simp only[IntKind.wrap_u64]
   omega
  obtain⟨q0,bF⟩:∃ v,v=U/y1:=⟨_,rfl⟩;obtain⟨r0,bQ⟩:∃ v,v=U%y1:=⟨_,rfl⟩;have bA:U=q0*y1+r0:=by rw[bF,bQ,Nat.mul_comm];exact(Nat.div_add_mod _ _).symm
  have aP:r0<y1:=by rw[bQ];exact Nat.mod_lt _ (by omega)
  have aM:q0≤U:=by rw[bF];exact Nat.div_le_self _ _
  have bZ:IntKind.u64.wrap ((U:Int)/(y1:Int))=(q0:Int):=by rw[←Int.natCast_ediv,←bF,zcb q0 (by omega)]
  obtain⟨m0,cB⟩:∃ v,v=q0*y1:=⟨_,rfl⟩;have bC:IntKind.u64.wrap ((q0:Int)*(y1:Int))=(m0:Int):=by rw[←Int.natCast_mul,←cB,zcb m0 (by omega)]
  have aZ:(U:Int)-(m0:Int)=(r0:Int):=by omega
  have cN:Hid ((U*4294967296+u0)/Y≤q0):=by rw[bF];exact zgf aE HY.out (by omega)
  have cO:=Aa bA;have cQ:=Aa hU;clear hU bF bQ bA cB;obtain⟨t0,cF⟩:∃ v,v=(U*4294967296+u0)/Y:=⟨_,rfl⟩;have bD:=Aa cF;clear cF
  go_upto_block 2 with(fail)
  go_cut [18,16] from 102 to 120 (fun a _ wd=>a = .int .u64 (t0:Int)∧wd=wc)
  case first=>
   go_wp2_with fail
   go_loop [18,16] (fun a b=>∃ q r:Nat,a = .int .u64 (q:Int)∧b = .int .u64 (r:Int)∧q<18446744073709551616∧r<4294967296∧Hid (U=q*y1+r)∧Hid ((U*4294967296+u0)/Y≤q)) (fun a _=>(intOf a).toNat)
   case atStart=>exact⟨q0,r0,rfl,rfl,by omega,by omega,cO,cN⟩
   case round=>
    clear aG cO cN aM aP bZ bC aZ;obtain⟨q,r,rfl,rfl,hq,hr,aG,HT⟩:=hrel
    by_cases hc:4294967296≤q∨4294967296*r+u0<q*y0
    ·obtain⟨bO,bB⟩:=ziT aE bL HY.out aG.out hc
     have HD:=Aa (zks aG.out bO);have aT:=Aa bB;clear bB;have aJ:Value.int .u64 ((q:Int)-1)=Value.int .u64 ((q-1:Nat):Int):=by congr 1;omega
     have aA:=Aa aJ;clear aJ;have aF:4294967296≤r+y1→Hid (q-1=t0):=fun h=>by
      rw[Hid,bD.out];exact zg5 bL HY.out aO HD.out aT.out h
     by_cases aH:4294967296≤q
     ·clear hc
      have bH:(4294967296:Int)≤(q:Int):=by omega
      have cT:=Aa aH;clear aH
      by_cases hr2:4294967296≤r+y1
      ·have HB:=aF hr2
       clear aF;have aQ:(4294967296:Int)≤(r:Int)+(y1:Int):=by omega
       have aK:=Aa hr2;clear hr2
       go_wp2_with fail
       go_meet
       exact⟨by rw[aA.out,HB.out],rfl⟩
      ·clear aF
       have aQ:decide ((4294967296:Int)≤(r:Int)+(y1:Int))=false:=by rw[decide_eq_false_iff_not];omega
       have aK:=Aa hr2;clear hr2
       go_wp2_with fail
       have bK:=aK.out
       go_round
       case rel=>exact⟨q-1,r+y1,aA.out,by go_num,by omega,by omega,HD,aT⟩
       case measure=>simp[intOf]<;>omega
     ·obtain⟨m,hm⟩:∃ v,v=q*y0:=⟨_,rfl⟩
      have aC:m<18446744073709551616:=by
       rw[hm];exact Nat.lt_of_le_of_lt (Nat.mul_le_mul (show q≤4294967295 by omega) (show y0≤4294967295 by omega)) (by decide)
      have bS:IntKind.u64.wrap ((q:Int)*(y0:Int))=(m:Int):=by rw[←Int.natCast_mul,←hm,zcb m aC]
      have aS:(4294967296:Int)*(r:Int)+(u0:Int)<(m:Int):=by
       have:4294967296*r+u0<m:=by rw[hm];omega
       omega
      have bH:(q:Int)<4294967296:=by omega
      clear hc hm aH
      by_cases hr2:4294967296≤r+y1
      ·have HB:=aF hr2
       clear aF;have aQ:(4294967296:Int)≤(r:Int)+(y1:Int):=by omega
       have aK:=Aa hr2;clear hr2
       go_wp2_with fail
       go_meet
       exact⟨by rw[aA.out,HB.out],rfl⟩
      ·clear aF
       have aQ:decide ((4294967296:Int)≤(r:Int)+(y1:Int))=false:=by rw[decide_eq_false_iff_not];omega
       have aK:=Aa hr2;clear hr2
       go_wp2_with fail
       have bK:=aK.out
       go_round
       case rel=>exact⟨q-1,r+y1,aA.out,by go_num,by omega,by omega,HD,aT⟩
       case measure=>simp[intOf]<;>omega
    ·have aH:q<4294967296:=by omega
     obtain⟨m,hm⟩:∃ v,v=q*y0:=⟨_,rfl⟩;have aC:m<18446744073709551616:=by
      rw[hm];exact Nat.lt_of_le_of_lt (Nat.mul_le_mul (show q≤4294967295 by omega) (show y0≤4294967295 by omega)) (by decide)
     have bS:IntKind.u64.wrap ((q:Int)*(y0:Int))=(m:Int):=by rw[←Int.natCast_mul,←hm,zcb m aC]
     have aS:m≤4294967296*r+u0:=by rw[hm];omega
     have HB:Hid (q=t0):=by
      rw[Hid,bD.out];exact zgd HY.out aG.out (by omega) HT.out (by rw[←hm];exact aS)
     have cY:decide ((4294967296:Int)*(r:Int)+(u0:Int)<(m:Int))=false:=by rw[decide_eq_false_iff_not];omega
     have bH:decide ((4294967296:Int)≤(q:Int))=false:=by rw[decide_eq_false_iff_not];omega
     clear hc hm aS aH
     go_wp2_with fail
     go_meet
     exact⟨by rw[HB.out],rfl⟩
  case rest=>
   obtain⟨rfl,rfl⟩:=hcut;clear aM aP bZ bC aZ cZ;have dA:u0<4294967296:=aE;obtain⟨R,hR⟩:∃ v,v=(U*4294967296+u0)%Y:=⟨_,rfl⟩;have dB:R<Y:=by rw[hR];exact Nat.mod_lt _ (by omega)
   obtain⟨f1,f2⟩:=zqR 18446744073709551616 4294967296 hi lo y s Y aD aN u1 u0 t1 t0 U rfl cV.out (by omega) HN.out HU.out bG.out cQ.out bD.out;have bX:t1<4294967296:=by rw[bG.out];exact zh2 aI n2
   have cA:t0<4294967296:=by rw[bD.out];exact zh2 aE bL
   have cU:IntKind.u64.wrap (IntKind.u64.wrap ((t1:Int)*4294967296)+(t0:Int))=((t1*4294967296+t0:Nat):Int):=by
    simp only[IntKind.wrap_u64]
    omega
   have cS:IntKind.u64.wrap (IntKind.u64.wrap (IntKind.u64.wrap ((U:Int)*4294967296)+(u0:Int))-IntKind.u64.wrap ((t0:Int)*(Y:Int)))=(R:Int):=by
    have h:=Nat.div_add_mod (U*4294967296+u0) Y;rw[←bD.out,←hR,Nat.mul_comm] at h;rw[←Int.natCast_mul];generalize t0*Y=M at *;simp only[IntKind.wrap_u64]
    omega
   rw[←hR] at f2;have F1:=Aa f1;have F2:=Aa f2;clear f1 f2 hR;go_wp2
   go_ret2
   refine⟨?_,rfl⟩;show Ending.returned (Value.tuple #[Value.int .u64 ((t1:Int)*4294967296+(t0:Int)),Value.int .u64 ((R:Int)/2^s)])=_
   have e:(t1:Int)*4294967296+(t0:Int)=((t1*4294967296+t0:Nat):Int):=by omega
   rw[e,F1.out,zf9,F2.out]
theorem ziM(hi lo y:Nat)(w:World)(hhy:hi<y)(hlo:lo<18446744073709551616)(hy:y<18446744073709551616) :
  ∃ q r:Nat,hi*18446744073709551616+lo=q*y+r∧r<y∧q<18446744073709551616 ∧
   Calls Tryz.prog 215 #[.int .u64 hi,.int .u64 lo,.int .u64 y] w fun e w'=>e = .returned (.tuple #[.int .u64 (q:Int),.int .u64 (r:Int)])∧∃ k,w'=w.drewN k:=by
 refine⟨(hi*18446744073709551616+lo)/y,(hi*18446744073709551616+lo)%y,?_,Nat.mod_lt _ (by omega),zh2 hlo hhy,?_⟩
 ·exact(Nat.div_add_mod' _ _).symm
 ·rcases Nat.eq_zero_or_pos hi with rfl | h
  ·rw[Nat.zero_mul,Nat.zero_add]
   exact zjC lo y w hlo hy (by omega)
  ·exact(zn2 hi lo y w h hhy hlo hy).mono fun e w' ⟨he,hw⟩=>⟨he,0,hw⟩
end
end Go.Proofs.YtbkgkoenppkhpaaGreatDoor
