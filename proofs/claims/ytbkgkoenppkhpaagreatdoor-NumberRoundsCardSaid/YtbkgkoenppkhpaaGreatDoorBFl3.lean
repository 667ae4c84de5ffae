/- Plain mathematics: a double of few bits, rounded to a single. No program. -/
import Derived.Test.YtbkgkoenppkhpaaGreatDoorBDw
set_option maxRecDepth 100000
set_option maxHeartbeats 4000000
namespace Go.Proofs.YtbkgkoenppkhpaaGreatDoor.Flt
open Ieee
set_option maxHeartbeats 20000
theorem zaT{f:Format}{b m:Nat}{s:Bool}{p:Int}(h:f.read b = .number s m p):fin f b=true:=by
 unfold fin;rw[h]
theorem zbh{f:Format}{b m:Nat}{p:Int}(h:f.read b = .number false m p):key f b=((m*2^(p-f.leastPlace).toNat:Nat):Int):=by
 unfold key;rw[h]
 simp only[Ieee.signed,Nat.shiftLeft_eq]
 simp
theorem zkn{n:Nat}{e:Int}(h0:0<n)(h1:n<9007199254740992)(he : -1022≤e+n.log2)(he2:e+n.log2≤1023):fin double (dn n e)=true:=
 zaT (zjr h0 h1 he he2)
theorem zkK {n:Nat} {e:Int} (h0:0<n) (h1:n<9007199254740992) (he : -1022≤e+n.log2) (he2:e+n.log2≤1023) (hz : -1074≤e):key double (dn n e)=((n*2^(e+1074).toNat:Nat):Int):=by
 have aA:(2:Nat)^53=9007199254740992:=by decide
 have a3:n.log2<53:=(Nat.log2_lt (by omega)).2 (by omega);rw[zbh (zjr h0 h1 he he2),zbq];unfold sg;generalize hl:n.log2=l at *;rw[Nat.mul_assoc,←Nat.pow_add,show 52-l+(e+(l:Int)-52 - -1074).toNat=(e+1074).toNat from by omega]
def rung (n:Nat) (e:Int):Nat:=(e+149).toNat*8388608+n
structure Rnd (n:Nat) (e:Int):Prop where
 place : -149≤e
 hi:n≤16777216
 lo:e = -149∨8388608≤n
theorem Rnd.log2{n:Nat}{e:Int}(h:Rnd n e)(h0:0<n):n.log2≤24∧(n.log2=24→n=16777216)∧(e ≠ -149→23≤n.log2):=by
 have hh:=h.hi;have aC:(2:Nat)^25=33554432:=by decide
 have aE:(2:Nat)^23=8388608:=by decide
 have aD:(2:Nat)^24=16777216:=by decide
 refine⟨?_,?_,?_⟩
 ·have:n.log2<25:=(Nat.log2_lt (by omega)).2 (by omega)
  omega
 ·intro hl
  have a1:=(Nat.le_log2 (n:=n) (k:=n.log2) (by omega)).1 (Nat.le_refl _);rw[hl] at a1;omega
 ·intro aA
  rcases h.lo with hl | hl
  ·exact absurd hl aA
  ·exact(Nat.le_log2 (by omega)).2 (by omega)
theorem zqG(n d t:Nat)(h:n≤16777216)(hl:t<d→8388608≤n):2^(24+t)≤n*2^d↔(t<d∨(t=d∧n=16777216)):=by
 have aC:(2:Nat)^24=16777216:=by decide
 have aA:(2:Nat)^23=8388608:=by decide
 rcases Nat.lt_trichotomy d t with h1 | h1 | h1
 ·have hx:n*2^d<2^(24+t):=by
   rw[show 24+t=25+(t-1) from by omega,Nat.pow_add];refine Nat.lt_of_le_of_lt (Nat.mul_le_mul_left n (Nat.pow_le_pow_right (by omega) (show d≤t-1 by omega))) (Nat.mul_lt_mul_of_pos_right ?_ (Nat.two_pow_pos _));have aD:(2:Nat)^25=33554432:=by decide
   omega
  constructor
  ·intro h;exact absurd h (Nat.not_le.2 hx)
  ·intro h;omega
 ·subst h1
  have hp:=Nat.two_pow_pos d;rw[Nat.pow_add,aC]
  constructor
  ·intro h
   have:=Nat.le_of_mul_le_mul_right h hp;omega
  ·rintro(h | ⟨_,h⟩)
   ·omega
   ·rw[h];exact Nat.le_refl _
 ·constructor
  ·intro _;exact Or.inl h1
  ·intro _
   rw[show 24+t=23+(1+t) from by omega,Nat.pow_add];exact Nat.mul_le_mul (by rw[aA];exact hl h1) (Nat.pow_le_pow_right (by omega) (by omega))
theorem zof{e:Int}{u:Nat}(he : -1022≤e)(he2:e≤1023)(hu:e+1074=24+(u:Int)):key double (dn 1 e)=((2^(24+u):Nat):Int):=by
 have b1:(1:Nat).log2=0:=by decide
 rw[zkK (n:=1) (by omega) (by omega) (by rw[b1];omega) (by rw[b1];omega) (by omega),Nat.one_mul,show(e+1074).toNat=24+u from by omega]
theorem znX{e:Int}(he : -1022≤e)(he2:e≤1023):fin double (dn 1 e)=true:=by
 have b1:(1:Nat).log2=0:=by decide
 exact zkn (n:=1) (by omega) (by omega) (by rw[b1];omega) (by rw[b1];omega)
theorem zrO{n:Nat}{e t:Int}(h:Rnd n e)(h0:0<n)(he2:e+n.log2≤1023)(ht:t=128):(double.order (dn n e) (dn 1 t)==some .gt || double.order (dn n e) (dn 1 t)==some .eq)=decide (2139095040≤rung n e):=by
 have hp:=h.place;have hh:=h.hi;have hl:=h.log2 h0;obtain⟨u,hu⟩:∃ u:Nat,(u:Int)=t+1050:=⟨(t+1050).toNat,by omega⟩;obtain⟨d,hd⟩:∃ d:Nat,(e+1074).toNat=d:=⟨_,rfl⟩;have aC:=zof (e:=t) (u:=u) (by omega) (by omega) (by omega);have aA:=zkK h0 (by omega) (by omega) he2 (show -1074≤e by omega);have f1:=zkn (n:=n) (e:=e) h0 (by omega) (by omega) he2;have f2:=znX (e:=t) (by omega) (by omega);rw[zba f1 f2,aA,aC,hd];clear aA aC f1 f2;have key:(2^(24+u)≤n*2^d)↔2139095040≤rung n e:=by
  rw[zqG n d u hh (by intro _;rcases h.lo with h2 | h2<;>omega)]
  unfold rung
  constructor
  ·rintro(h1 | ⟨h1,h2⟩)
   ·have:8388608≤n:=by rcases h.lo with h2 | h2<;>omega
    omega
   ·omega
  ·intro h1
   omega
 clear hu hd;generalize 2^(24+u)=A at key;generalize n*2^d=B at key;generalize rung n e=R at key
 by_cases hR:2139095040≤R
 ·rw[decide_eq_true hR]
  have:=key.2 hR
  rcases Nat.lt_or_ge A B with hx | hx
  ·rw[zdR (by omega)];rfl
  ·have:A=B:=by omega
   subst this;rw[zd3];rfl
 ·rw[decide_eq_false hR]
  have:B<A:=by
   rcases Nat.lt_or_ge B A with hx | hx
   ·exact hx
   ·exact absurd (key.1 hx) hR
  rw[zda (by omega)];rfl
theorem zoZ(s:Bool){R:Nat}(h:R<2139095040):(single.read (single.word s R)).isInfinity=false:=by
 unfold Format.read Format.word;rw[zeh,za9,zdx];have e1:(if s=true then 2147483648+R else R)%2147483648=R:=by split<;>omega
 simp only[e1]
 by_cases h1:R<8388608
 ·rw[if_pos h1];rfl
 ·rw[if_neg h1,if_pos h];rfl
theorem zeb(s:Bool){m k l:Nat}{p q:Int}(hm:0<m)(hlog:m.log2=l)(hq:p+k=q)(hl:max (q+l-23) (-149)=q)(hr:(q+149).toNat*8388608+m≤2139095040) :
  single.write (.number s (m*2^k) p)=single.word s ((q+149).toNat*8388608+m):=by
 show single.nearest s (m*2^k) p=_
 subst hq;rw[zfA single s m k p hm (by rw[hlog,zaI];exact hl) (by rw[zaI,za9,zdx,show p+(k:Int) - -149=p+k+149 from by omega];exact hr)];rw[zaI,za9,show p+(k:Int) - -149=p+k+149 from by omega]
theorem zlG{b m r:Nat}{s:Bool}{e:Int}(h:double.read b = .number s m e)(hw:single.write (.number s m e)=r)(hi:(single.read r).isInfinity=false):floatToFloatBits .f64 b .f32=some r:=by
 have h':FloatKind.f64.decode b = .number s m e:=h;have aA:FloatKind.f32.encode (.number s m e)=r:=hw;have aC:(FloatKind.f32.decode r).isInfinity=false:=hi;unfold floatToFloatBits;rw[if_neg (by decide),h'];simp only[aA,aC]
 rfl
theorem zqM(s:Bool){n:Nat}{e:Int}(h:Rnd n e)(h0:0<n)(hR:rung n e<2139095040):floatToFloatBits .f64 (dw s (sg n) (e+n.log2-52)) .f32=some (single.word s (rung n e)):=by
 have hp:=h.place;have hh:=h.hi;have hl:=h.log2 h0;have aF:=hl.1;have he:e≤105:=by unfold rung at hR;omega
 have hn:=zeY (n:=n) (e:=e) h0 (by omega) (by omega) (by omega);refine zlG (zcK s hn) ?_ (zoZ s hR);clear hn;unfold sg rung at *
 by_cases h24:n.log2=24
 ·have aA:=hl.2.1 h24
  obtain⟨m,hm⟩:∃ m:Nat,n=m*2:=⟨8388608,aA⟩;have aH:m=8388608:=by omega
  have aE:(2:Nat)^23=8388608:=by decide
  have aD:(2:Nat)^(23+1)=16777216:=by decide
  have aC:m.log2=23:=zoj (by rw[aE];omega) (by rw[aD];omega);have e1:n*2^(52-n.log2)=m*2^29:=by rw[h24,hm,Nat.mul_assoc]
  rw[e1,h24,zeb s (k:=29) (q:=e+1) (by omega) aC (by omega) (by omega) (by omega),show(e+1+149).toNat*8388608+m=(e+149).toNat*8388608+n from by omega]
 ·have aG:n.log2≤23:=by omega
  have hc:max (e+(n.log2:Int)-23) (-149)=e:=by
   by_cases h9:e = -149
   ·omega
   ·have:=hl.2.2 h9;omega
  rw[zeb s (q:=e) h0 rfl (by omega) hc (by omega)]
end Go.Proofs.YtbkgkoenppkhpaaGreatDoor.Flt
namespace Go.Proofs.YtbkgkoenppkhpaaGreatDoor
section
open Go.RowKit Bn
theorem zlw(b:Bool)(x1 x2 s:Nat)(A1 A2:Option Addr)(n1 c1 n2 c2:Nat)(w:World)(h1:NatS w w.heap.size A1 n1 c1 x1)(h2:NatS w w.heap.size A2 n2 c2 x2)(k1:n1≤134217728)(_k2:n2≤134217728)(hs:s≤1099511627776)(hs0:0<s) :
  Calls Tryz.prog 158 #[.agg #[.bool b,.slice A1 n1 c1,.slice A2 n2 c2],.int .i64 (-(s:Int))] w (zfY w (x1*2^s) x2):=by
 have aC:Below w.heap.size w (w.alloc (.cells #[.bool b,.slice A1 n1 c1,.slice A2 n2 c2] 87)):=Ac;have aE:zae (w.alloc (.cells #[.bool b,.slice A1 n1 c1,.slice A2 n2 c2] 87)) w.heap.size b (.slice A1 n1 c1) (.slice A2 n2 c2):=zae.new w _ _ _;have aI:decide (-(s:Int)<0)=true:=by simp;omega
 have hw:wrap64 (s:Int)=(s:Int):=IntWalk.wrap64_in _ (by omega);have aJ:IntKind.i64.wrap (s:Int)=(s:Int):=IntWalk.i64_in _ (by omega);have aK:IntKind.i64.wrap (- -(s:Int))=(s:Int):=by rw[Int.neg_neg];exact IntWalk.i64_in _ (by omega)
 go_enter Tryz.func158,Tryz.ntmps158
 go_wp2_with fail
 generalize (w.alloc (.cells #[.bool b,.slice A1 n1 c1,.slice A2 n2 c2] 87))=w3 at *;obtain⟨a0,a1,a2,_,_,_,al⟩:=aE.cells;have aD:Below w3.heap.size w3 w3.drew:=Below.drew (Below.refl _ _);have g:=(h1.later aC).later aD
 go_region_held3 (fun w'=>w'.cell? ⟨w.heap.size,0,none⟩=some (.bool b)∧w'.cell? ⟨w.heap.size,1,none⟩=some (.slice A1 n1 c1)∧w'.cell? ⟨w.heap.size,2,none⟩=some (.slice A2 n2 c2))
  (first | exact⟨a0,a1,a2⟩ | exact⟨((aA.cell (p:=⟨w.heap.size,0,none⟩) al).trans a0),((aA.cell (p:=⟨w.heap.size,1,none⟩) al).trans a1),((aA.cell (p:=⟨w.heap.size,2,none⟩) al).trans a2)⟩)
  (first | (go_at_call 87;refine(zaw A1 n1 c1 x1 s w3.drew g (by omega) hs).mono ?_;rintro e w4 ⟨A5,m5,c5,rfl,aG,aA⟩;have aH:=Nat.lt_of_lt_of_le al aA.size))
 have aF:Below w.heap.size w w4:=(aC.trans (aD.mono aC.size)).trans (aA.mono aC.size);have hO:=(((h2.later aC).later aD).later aA);go_wp2
 go_ret2
 exact⟨A5,m5,c5,A2,n2,c2,rfl,aG,hO,aF⟩
theorem zl3(b:Bool)(x1 x2 s:Nat)(A1 A2:Option Addr)(n1 c1 n2 c2:Nat)(w:World)(h1:NatS w w.heap.size A1 n1 c1 x1)(h2:NatS w w.heap.size A2 n2 c2 x2)(_k1:n1≤134217728)(k2:n2≤134217728)(hs:s≤1099511627776) :
  Calls Tryz.prog 158 #[.agg #[.bool b,.slice A1 n1 c1,.slice A2 n2 c2],.int .i64 ((s:Int))] w (zfY w x1 (x2*2^s)):=by
 have aC:Below w.heap.size w (w.alloc (.cells #[.bool b,.slice A1 n1 c1,.slice A2 n2 c2] 87)):=Ac;have aE:zae (w.alloc (.cells #[.bool b,.slice A1 n1 c1,.slice A2 n2 c2] 87)) w.heap.size b (.slice A1 n1 c1) (.slice A2 n2 c2):=zae.new w _ _ _;have aI:decide ((s:Int)<0)=false:=by simp
 go_enter Tryz.func158,Tryz.ntmps158
 go_wp2_with fail
 generalize (w.alloc (.cells #[.bool b,.slice A1 n1 c1,.slice A2 n2 c2] 87))=w3 at *;obtain⟨a0,a1,a2,_,_,_,al⟩:=aE.cells;have aD:Below w3.heap.size w3 w3.drew:=Below.drew (Below.refl _ _);have g:=(h2.later aC).later aD
 go_region_held3 (fun w'=>w'.cell? ⟨w.heap.size,0,none⟩=some (.bool b)∧w'.cell? ⟨w.heap.size,1,none⟩=some (.slice A1 n1 c1)∧w'.cell? ⟨w.heap.size,2,none⟩=some (.slice A2 n2 c2))
  (first | exact⟨a0,a1,a2⟩ | exact⟨((aA.cell (p:=⟨w.heap.size,0,none⟩) al).trans a0),((aA.cell (p:=⟨w.heap.size,1,none⟩) al).trans a1),((aA.cell (p:=⟨w.heap.size,2,none⟩) al).trans a2)⟩)
  (first | (go_at_call 87;refine(zaw A2 n2 c2 x2 s w3.drew g (by omega) hs).mono ?_;rintro e w4 ⟨A5,m5,c5,rfl,aG,aA⟩;have aH:=Nat.lt_of_lt_of_le al aA.size))
 have aF:Below w.heap.size w w4:=(aC.trans (aD.mono aC.size)).trans (aA.mono aC.size);have hO:=(((h1.later aC).later aD).later aA);go_wp2
 go_ret2
 exact⟨A1,n1,c1,A5,m5,c5,rfl,hO,aG,aF⟩
def scT (t:Nat) (e:Int):Nat:=if e<0 then t*2^(-e).toNat else t
def scB (b:Nat) (e:Int):Nat:=if e<0 then b else b*2^e.toNat
theorem zhc(b:Bool)(x1 x2:Nat)(i:Int)(A1 A2:Option Addr)(n1 c1 n2 c2:Nat)(w:World)(h1:NatS w w.heap.size A1 n1 c1 x1)(h2:NatS w w.heap.size A2 n2 c2 x2)(k1:n1≤134217728)(k2:n2≤134217728)(hs : -1099511627776≤i∧i≤1099511627776) :
  Calls Tryz.prog 158 #[.agg #[.bool b,.slice A1 n1 c1,.slice A2 n2 c2],.int .i64 i] w (zfY w (scT x1 i) (scB x2 i)):=by
 by_cases h:i<0
 ·obtain⟨s,rfl⟩:∃ s:Nat,i = -(s:Int):=⟨(-i).toNat,by omega⟩
  have e1:scT x1 (-(s:Int))=x1*2^s:=by unfold scT;rw[if_pos h];congr 2;omega
  have e2:scB x2 (-(s:Int))=x2:=by unfold scB;rw[if_pos h]
  rw[e1,e2];exact zlw b x1 x2 s A1 A2 n1 c1 n2 c2 w h1 h2 k1 k2 (by omega) (by omega)
 ·obtain⟨s,rfl⟩:=Int.eq_ofNat_of_zero_le (Int.not_lt.1 h)
  have e1:scT x1 (s:Int)=x1:=by unfold scT;rw[if_neg h]
  have e2:scB x2 (s:Int)=x2*2^s:=by unfold scB;rw[if_neg h];simp
  rw[e1,e2];exact zl3 b x1 x2 s A1 A2 n1 c1 n2 c2 w h1 h2 k1 k2 (by omega)
def bexp (t b:Nat):Int:=
 if scT t ((zaP t:Int)-(zaP b:Int))<scB b ((zaP t:Int)-(zaP b:Int)) then(zaP t:Int)-(zaP b:Int)-1 else(zaP t:Int)-(zaP b:Int)
theorem zb3{x n:Nat}(h:(digs x).length≤n):zaP x≤64*n:=by
 rcases Nat.eq_zero_or_pos x with rfl | hx
 ·simp[zaP]
 ·have h1:=zfM hx
  have h2:=zac x;have h3:B^(digs x).length≤B^n:=Nat.pow_le_pow_right zaS h;have h4:B^n=2^(64*n):=by rw[Nat.pow_mul];rfl
  have h5:2^(zaP x-1)<2^(64*n):=by omega
  have h6:=(Nat.pow_lt_pow_iff_right (by omega:1<2)).1 h5;omega
theorem ncmp_lt{x y:Nat}(h:x<y):ncmp x y = -1:=by unfold ncmp;rw[if_pos h]
theorem zre{x y:Nat}(h:¬ x<y):0≤ncmp x y:=by unfold ncmp;rw[if_neg h];split<;>omega
theorem ze6(b:Bool)(x1 x2:Nat)(A1 A2:Option Addr)(n1 c1 n2 c2:Nat)(w:World)(h1:NatS w w.heap.size A1 n1 c1 x1)(h2:NatS w w.heap.size A2 n2 c2 x2)(k1:n1≤134217728)(k2:n2≤134217728) :
  Calls Tryz.prog 98 #[.agg #[.bool b,.slice A1 n1 c1,.slice A2 n2 c2]] w fun e w'=>e = .returned (.int .i64 (bexp x1 x2))∧Below w.heap.size w w':=by
 have aA:Below w.heap.size w (w.alloc (.cells #[.bool b,.slice A1 n1 c1,.slice A2 n2 c2] 87)):=Ac;have aK:zae (w.alloc (.cells #[.bool b,.slice A1 n1 c1,.slice A2 n2 c2] 87)) w.heap.size b (.slice A1 n1 c1) (.slice A2 n2 c2):=zae.new w _ _ _;have aQ:=zb3 (Nat.le_of_eq h1.len);have aP:=zb3 (Nat.le_of_eq h2.len);have aE:Hid (bexp x1 x2=if scT x1 ((zaP x1:Int)-(zaP x2:Int))<scB x2 ((zaP x1:Int)-(zaP x2:Int)) then(zaP x1:Int)-(zaP x2:Int)-1 else(zaP x1:Int)-(zaP x2:Int)):=rfl
 go_enter Tryz.func98,Tryz.ntmps98
 go_wp2_with fail
 generalize (w.alloc (.cells #[.bool b,.slice A1 n1 c1,.slice A2 n2 c2] 87))=w3 at *;obtain⟨a0,a1,a2,_,_,_,al⟩:=aK.cells;have q1:=h1.later aA;have q2:=h2.later aA;have aI:∀ q,Calls Tryz.prog 157 #[.slice A1 n1 c1] (w3.drewN q) fun e w'=>e = .returned (.int .i64 (zaP x1))∧w3.drewN q=w':=fun q=>zdz A1 n1 c1 x1 (w3.drewN q) (q1.later (zad (Below.refl _ _) q)) (by omega)
 have aF:∀ q,Calls Tryz.prog 157 #[.slice A2 n2 c2] (w3.drewN q) fun e w'=>e = .returned (.int .i64 (zaP x2))∧w3.drewN q=w':=fun q=>zdz A2 n2 c2 x2 (w3.drewN q) (q2.later (zad (Below.refl _ _) q)) (by omega)
 have aM:IntKind.i64.wrap ((zaP x1:Int)-(zaP x2:Int))=(zaP x1:Int)-(zaP x2:Int):=IntWalk.i64_in _ (by omega);have H1:=Aa aI;have H2:=Aa aF;clear aI aF
 go_quiet ((first | (go_at_call_of 157 (Value.slice A1 n1 c1);first | exact zbL (H1.out _) | exact zcD (H1.out _)) | (go_at_call_of 157 (Value.slice A2 n2 c2);first | exact zbL (H2.out _) | exact zcD (H2.out _))))
 have aD:Below w3.heap.size w3 (w3.drewN nq):=zad (Below.refl _ _) nq;have aG:=zhc b x1 x2 ((zaP x1:Int)-(zaP x2:Int)) A1 A2 n1 c1 n2 c2 (w3.drewN nq) (q1.later aD) (q2.later aD) k1 k2 (by omega);have aO:=Aa aG;have aN : -8589934592≤(zaP x1:Int)-(zaP x2:Int):=by omega
 have aL:(zaP x1:Int)-(zaP x2:Int)≤8589934592:=by omega
 generalize (zaP x1:Int)-(zaP x2:Int)=i at *;clear aG aM H1 H2
 go_wp2_with fail
 refine aO.out.mono ?_;rintro e w5 ⟨A5,m5,c5,A6,m6,c6,rfl,h5,h6,aJ⟩;have aH:Below w.heap.size w w5:=(aA.trans (aD.mono aA.size)).trans (aJ.mono aA.size);have aC:=zaU A5 A6 m5 c5 m6 c6 _ _ w5 h5 h6
 by_cases hlt:scT x1 i<scB x2 i
 ·rw[ncmp_lt hlt] at aC
  have HV:Hid (bexp x1 x2=i-1):=by unfold Hid;rw[aE.out,if_pos hlt]
  clear hlt
  go_wp2_with fail
  refine aC.mono ?_;rintro e w6 ⟨rfl,k,rfl⟩;go_wp2
  go_ret;exact⟨by rw[HV.out];rfl,zad aH k⟩
 ·have hg:=zre hlt
  have HV:Hid (bexp x1 x2=i):=by unfold Hid;rw[aE.out,if_neg hlt]
  generalize ncmp (scT x1 i) (scB x2 i)=cv at aC hg;have hd:decide (cv<0)=false:=by simp;omega
  clear hlt
  go_wp2_with fail
  refine aC.mono ?_;rintro e w6 ⟨rfl,k,rfl⟩;go_wp2
  go_ret;exact⟨by rw[HV.out];rfl,zad aH k⟩
theorem zjb{x n s:Nat}(h:(digs x).length≤n):(digs (x*2^s)).length≤n+s/64+1:=by
 refine zab ?_;have h1:=zac x;have h2:B^(digs x).length≤B^n:=Nat.pow_le_pow_right zaS h;have h3:2^s<2^(64*(s/64+1)):=Nat.pow_lt_pow_right (by omega) (by omega);have h4:2^(64*(s/64+1))=B^(s/64+1):=by rw[Nat.pow_mul];rfl
 rw[h4] at h3;rw[Nat.add_assoc,Nat.pow_add];exact Nat.mul_lt_mul'' (Nat.lt_of_lt_of_le h1 h2) h3
def near (t b:Nat):Nat:=if b<t%b*2∨(t%b*2=b∧t/b%2=1) then t/b+1 else t/b
theorem zjQ(b:Bool)(x1 x2:Nat)(i:Int)(A1 A2:Option Addr)(n1 c1 n2 c2:Nat)(w:World)(h1:NatS w w.heap.size A1 n1 c1 x1)(h2:NatS w w.heap.size A2 n2 c2 x2)(k1:n1≤134217728)(k2:n2≤134217728)(hs : -1073741824≤i∧i≤1073741824)
 (hp:0<scB x2 i)(hq:scT x1 i/scB x2 i<9223372036854775808) :
  Calls Tryz.prog 100 #[.agg #[.bool b,.slice A1 n1 c1,.slice A2 n2 c2],.int .i64 i] w fun e w'=>e = .returned (.int .u64 (near (scT x1 i) (scB x2 i):Int))∧Below w.heap.size w w':=by
 have aI:Below w.heap.size w (w.alloc (.cells #[.bool b,.slice A1 n1 c1,.slice A2 n2 c2] 87)):=Ac;have aY:=zhc b x1 x2 i A1 A2 n1 c1 n2 c2 _ (h1.later aI) (h2.later aI) k1 k2 (by omega);have aN:(digs (scT x1 i)).length≤151000000:=by
  unfold scT;split
  ·have:=zjb (s:=(-i).toNat) (Nat.le_of_eq h1.len);omega
  ·rw[h1.len];omega
 have aX:(digs (scB x2 i)).length≤151000000:=by
  unfold scB;split
  ·rw[h2.len];omega
  ·have:=zjb (s:=i.toNat) (Nat.le_of_eq h2.len);omega
 generalize scT x1 i=t at *;generalize scB x2 i=u at *;go_enter Tryz.func100,Tryz.ntmps100
 go_wp2_with fail
 refine aY.mono ?_;rintro e w3 ⟨A3,n3,c3,A4,n4,c4,rfl,h3,h4,aZ⟩;have aT:Below w.heap.size w w3:=Ad aI aZ;rw[h3.len] at aN;rw[h4.len] at aX
 go_wp2_with fail
 refine(zcU A3 A4 n3 c3 n4 c4 t u w3 h3 h4 hp (by omega)).mono ?_;rintro e w5 ⟨A5,n5,c5,A6,n6,c6,rfl,h5,h6,aO⟩;have aL:Below w.heap.size w w5:=Ad aT aO;have aS:=h4.later aO;have l6:n6≤n4:=by
  rw[←h6.len,←h4.len];exact zaa (Nat.le_of_lt (Nat.mod_lt _ hp))
 have hz:=zaR A5 n5 c5 (t/u) w5 h5;obtain⟨z,aJ,aA⟩:∃ z:Bool,decide (t/u=0)=z∧(z=false→∃ ad,A5=some ad∧0<n5∧w5.cell? (ad.add 0)=some (.int .u64 ((t/u:Nat):Int))):=by
  refine⟨_,rfl,fun aH => ?_⟩;have aP:t/u≠0:=by simpa using aH
  have aF:0<n5:=by rw[←h5.len];exact zap (Nat.pos_of_ne_zero aP)
  obtain⟨ad,e,_,hc⟩:=h5.words.word (k:=0) aF;refine⟨ad,e,aF,?_⟩;rw[hc,zbm (Nat.pos_of_ne_zero aP)];simp only[List.getD_cons_zero]
  rw[Nat.mod_eq_of_lt (by rw[zdC];omega)]
 rw[aJ] at hz;have aM:∀ W:World,Below w5.heap.size w5 W→Calls Tryz.prog 87 #[.slice A6 n6 c6,.int .i64 1] W (zcj W (t%u*2)):=fun W hb=>by
  have h:=zaw A6 n6 c6 (t%u) 1 W (h6.later hb) (by omega) (by omega);rw[Nat.pow_one] at h;exact h
 have HN:Hid (near t u=if u<t%u*2∨(t%u*2=u∧t/u%2=1) then t/u+1 else t/u):=rfl
 have aH:z=true→t/u=0:=by intro h;rw[h] at aJ;simpa using aJ
 have aK:=Aa aH;generalize t/u=q at hq aA HN aK hz;generalize t%u=r at HN aM;have aR:=Aa aM;clear aM aJ aH h5 h3 h4 aN hp;have aQ:ncmp (r*2) u = -1∧r*2<u∨ncmp (r*2) u=0∧r*2=u∨ncmp (r*2) u=1∧u<r*2:=by
  rcases Nat.lt_trichotomy (r*2) u with h | h | h
  ·exact .inl ⟨ncmp_lt h,h⟩
  ·exact .inr (.inl ⟨by unfold ncmp;rw[if_neg (by omega)];rw[if_pos h],h⟩)
  ·exact .inr (.inr ⟨by unfold ncmp;rw[if_neg (by omega),if_neg (by omega)],h⟩)
 have aU:=Aa aQ;clear aQ
 cases z
 ·obtain⟨ad,rfl,bA,aG⟩:=aA rfl
  have e0:ad.add 0=ad:=by simp[Addr.add]
  rw[e0] at aG;clear e0;clear aA aK
  go_wp2_with fail
  refine hz.mono ?_;rintro e w6 ⟨rfl,rfl⟩;clear hz
  go_wp2_with fail
  refine(aR.out w5 (Below.refl _ _)).mono ?_;rintro e w7 ⟨A7,n7,c7,rfl,h7,aE⟩;have aC:=zaU A7 A4 n7 c7 n4 c4 _ _ w7 h7 (aS.later aE);have aD:=Ad aL aE
  rcases aU.out with⟨e1,h1⟩ | ⟨e1,h1⟩ | ⟨e1,h1⟩
  ·have HV:Hid (near t u=q):=by unfold Hid;rw[HN.out,if_neg (by omega)]
   rw[e1] at aC;clear e1 h1
   go_wp2_with fail
   refine aC.mono ?_;rintro e w8 ⟨rfl,k,rfl⟩;go_wp2
   go_ret;exact⟨by rw[HV.out];rfl,zad aD k⟩
  ·by_cases hm:q%2=1
   ·have HV:Hid (near t u=q+1):=by unfold Hid;rw[HN.out,if_pos (.inr ⟨h1,hm⟩)]
    rw[e1] at aC;have aV:((q:Int)%2==1)=true:=by simp;omega
    clear e1 h1 hm
    go_wp2_with fail
    refine aC.mono ?_;rintro e w8 ⟨rfl,k,rfl⟩;go_wp2
    go_ret;exact⟨by rw[HV.out];rfl,zad aD k⟩
   ·have HV:Hid (near t u=q):=by unfold Hid;rw[HN.out,if_neg (by omega)]
    rw[e1] at aC;have aV:((q:Int)%2==1)=false:=by simp;omega
    clear e1 h1 hm
    go_wp2_with fail
    refine aC.mono ?_;rintro e w8 ⟨rfl,k,rfl⟩;go_wp2
    go_ret;exact⟨by rw[HV.out];rfl,zad aD k⟩
  ·have HV:Hid (near t u=q+1):=by unfold Hid;rw[HN.out,if_pos (.inl h1)]
   rw[e1] at aC;clear e1 h1
   go_wp2_with fail
   refine aC.mono ?_;rintro e w8 ⟨rfl,k,rfl⟩;go_wp2
   go_ret;exact⟨by rw[HV.out];rfl,zad aD k⟩
 ·have aW:=aK.out rfl
  subst aW;clear aA aK
  go_wp2_with fail
  refine hz.mono ?_;rintro e w6 ⟨rfl,rfl⟩;clear hz
  go_wp2_with fail
  refine(aR.out w5 (Below.refl _ _)).mono ?_;rintro e w7 ⟨A7,n7,c7,rfl,h7,aE⟩;have aC:=zaU A7 A4 n7 c7 n4 c4 _ _ w7 h7 (aS.later aE);have aD:=Ad aL aE
  rcases aU.out with⟨e1,h1⟩ | ⟨e1,h1⟩ | ⟨e1,h1⟩
  ·have HV:Hid (near t u=0):=by unfold Hid;rw[HN.out,if_neg (by omega)]
   rw[e1] at aC;clear e1 h1
   go_wp2_with fail
   refine aC.mono ?_;rintro e w8 ⟨rfl,k,rfl⟩;go_wp2
   go_ret;exact⟨by rw[HV.out];rfl,zad aD k⟩
  ·have HV:Hid (near t u=0):=by unfold Hid;rw[HN.out,if_neg (by omega)]
   rw[e1] at aC;clear e1 h1
   go_wp2_with fail
   refine aC.mono ?_;rintro e w8 ⟨rfl,k,rfl⟩;go_wp2
   go_ret;exact⟨by rw[HV.out];rfl,zad aD k⟩
  ·have HV:Hid (near t u=1):=by unfold Hid;rw[HN.out,if_pos (.inl h1)]
   rw[e1] at aC;clear e1 h1
   go_wp2_with fail
   refine aC.mono ?_;rintro e w8 ⟨rfl,k,rfl⟩;go_wp2
   go_ret;exact⟨by rw[HV.out];rfl,zad aD k⟩
theorem zgZ(t b m:Nat)(e:Int)(a c:Nat)(h:(a:Int)-c = -e):scB b e*m≤scT t e↔b*2^c*m≤t*2^a:=by
 unfold scB scT
 by_cases he:e<0
 ·rw[if_pos he,if_pos he]
  have:a=(-e).toNat+c:=by omega
  subst this;generalize (-e).toNat=s;rw[Nat.pow_add,←Nat.mul_assoc,Nat.mul_right_comm,Nat.mul_le_mul_right_iff (Nat.two_pow_pos _)]
 ·rw[if_neg he,if_neg he]
  have:c=e.toNat+a:=by omega
  subst this;generalize e.toNat=s;rw[Nat.pow_add,←Nat.mul_assoc,Nat.mul_right_comm _ (2^a),Nat.mul_le_mul_right_iff (Nat.two_pow_pos _)]
theorem zse(t b m:Nat)(e:Int)(a c:Nat)(h:(a:Int)-c = -e):scT t e<scB b e*m↔t*2^a<b*2^c*m:=by
 have:=zgZ t b m e a c h;omega
theorem zdO{b:Nat}(hb:0<b)(e:Int):0<scB b e:=by
 unfold scB;split
 ·exact hb
 ·exact Nat.mul_pos hb (Nat.two_pow_pos _)
theorem zdg{t b:Nat}(ht:0<t)(hb:0<b)(a c:Nat)(h:(a:Int)-c = -(bexp t b)):b*2^c≤t*2^a∧t*2^a<b*2^c*2:=by
 have t1:=zfM ht;have t2:=zfN t;have b1:=zfM hb;have b2:=zfN b;have tp:=ziZ ht;have bp:=ziZ hb;generalize aF:zaP t=nt at *;generalize aC:zaP b=nb at *;unfold bexp at h;rw[aF,aC] at h;have low:∀ a c:Nat,(a:Int)-c = -((nt:Int)-nb-1)→b*2^c≤t*2^a:=by
  intro a c aD;have h1:b*2^c≤2^(nb+c):=by rw[Nat.pow_add];exact Nat.mul_le_mul_right _ (Nat.le_of_lt b2)
  have h2:2^(nt-1+a)≤t*2^a:=by rw[Nat.pow_add];exact Nat.mul_le_mul_right _ t1
  have h3:nb+c=nt-1+a:=by omega
  rw[h3] at h1;exact Nat.le_trans h1 h2
 have high:∀ a c:Nat,(a:Int)-c = -((nt:Int)-nb)→t*2^a<b*2^c*2:=by
  intro a c aD;have h1:t*2^a<2^(nt+a):=by rw[Nat.pow_add];exact Nat.mul_lt_mul_of_pos_right t2 (Nat.two_pow_pos _)
  have h2:2^(nb-1+(c+1))≤b*2^(c+1):=by rw[Nat.pow_add];exact Nat.mul_le_mul_right _ b1
  have h3:nt+a=nb-1+(c+1):=by omega
  rw[h3] at h1;rw[Nat.pow_succ,←Nat.mul_assoc] at h2;exact Nat.lt_of_lt_of_le h1 h2
 split at h
 ·rename_i hlt
  have aA:scT t ((nt:Int)-nb)<scB b ((nt:Int)-nb)*1:=by rw[Nat.mul_one];exact hlt
  have h4:=(zse t b 1 ((nt:Int)-nb) a (c+1) (by omega)).1 aA;rw[Nat.mul_one,Nat.pow_succ,←Nat.mul_assoc] at h4;exact⟨low a c (by omega),h4⟩
 ·rename_i hlt
  have aE:scB b ((nt:Int)-nb)*1≤scT t ((nt:Int)-nb):=by omega
  have h4:=(zgZ t b 1 ((nt:Int)-nb) a c (by omega)).1 aE;rw[Nat.mul_one] at h4;exact⟨h4,high a c (by omega)⟩
def flE (t b:Nat):Int:=max (bexp t b+1-24) (-149)
def flN (t b:Nat):Nat:=near (scT t (flE t b)) (scB b (flE t b))
theorem zf5{t b lo hi:Nat}(hb:0<b)(h1:b*lo≤t)(h2:t<b*hi):lo≤near t b∧near t b≤hi:=by
 have q1:lo≤t/b:=(Nat.le_div_iff_mul_le hb).2 (by rw[Nat.mul_comm];exact h1);have q2:t/b<hi:=(Nat.div_lt_iff_lt_mul hb).2 (by rw[Nat.mul_comm];exact h2);unfold near
 split<;>omega
theorem zdD{t b:Nat}(ht:0<t)(hb:0<b):Flt.Rnd (flN t b) (flE t b)∧scT t (flE t b)/scB b (flE t b)<16777216:=by
 have aD:(2:Nat)^24=16777216:=by decide
 have aG:(2:Nat)^23=8388608:=by decide
 have hs:=@zdg t b ht hb;have hB:=zdO hb (flE t b);have aE:flE t b = -149∨flE t b=bexp t b-23:=by unfold flE;omega
 have aH:bexp t b-23≤flE t b:=by unfold flE;omega
 have aF : -149≤flE t b:=by unfold flE;omega
 unfold flN;generalize flE t b=e at *;generalize bexp t b=k at *;obtain⟨c,hc⟩:∃ c:Nat,0≤(c:Int)-e:=⟨e.toNat,by omega⟩;obtain⟨a,ha⟩:∃ a:Nat,(a:Int)=c-e:=⟨((c:Int)-e).toNat,by omega⟩;have aA:scT t e<scB b e*16777216:=by
  rw[zse t b _ e a c (by omega)];obtain⟨d,hd⟩:∃ d:Nat,(d:Int)=e-(k-23):=⟨(e-(k-23)).toNat,by omega⟩;have h1:=(hs (a+d) (c+23) (by omega)).2;have h2:t*2^a≤t*2^(a+d):=Nat.mul_le_mul_left _ (Nat.pow_le_pow_right (by omega) (by omega));have h3:b*2^(c+23)*2=b*2^c*16777216:=by
   rw[Nat.mul_assoc,←Nat.pow_succ,show(c+23).succ=c+24 from rfl,Nat.pow_add,aD,Nat.mul_assoc]
  omega
 have hq:scT t e/scB b e<16777216:=(Nat.div_lt_iff_lt_mul hB).2 (by rw[Nat.mul_comm];exact aA);have hn:=zf5 (lo:=0) hB (by omega) aA;refine⟨⟨aF,hn.2,?_⟩,hq⟩
 rcases aE with h | h
 ·exact Or.inl h
 ·refine Or.inr ?_
  have aC:scB b e*8388608≤scT t e:=by
   rw[zgZ t b _ e a c (by omega),←aG,Nat.mul_assoc,←Nat.pow_add];exact(hs a (c+23) (by omega)).1
  exact(zf5 hB aC aA).1
theorem zg6{t b N:Nat}(h1:zaP t≤N)(h2:zaP b≤N) : -(N:Int)-1≤bexp t b∧bexp t b≤N:=by
 unfold bexp;split<;>omega
def flW (q:Q):Nat:=if q.top=0 then 0 else if flN q.top q.bot=0 then 0 else if 2139095040≤Flt.rung (flN q.top q.bot) (flE q.top q.bot) then 0 else Ieee.single.word q.neg (Flt.rung (flN q.top q.bot) (flE q.top q.bot))
def flX (q:Q):Int:=if q.top=0 then 0 else if flN q.top q.bot=0 then 0 else if 2139095040≤Flt.rung (flN q.top q.bot) (flE q.top q.bot) then 4 else 0
theorem zcf(t b:Nat):(flE t b = -149∨flE t b=bexp t b-23)∧bexp t b-23≤flE t b ∧ -149≤flE t b:=by unfold flE;omega
end
section
open Go.RowKit
theorem zeR(x:Nat)(w:World):(callFunc 195 #[.float .f64 x]).run Tryz.prog w = .ok (.value (.int .u64 x)) w:=by
 rw[run_callFunc_extern Tryz.func195 (by kernel_rfl) (by kernel_rfl) (by kernel_rfl) (e:=Extern.MathFloatBits.float64bits) (by kernel_rfl)];rfl
theorem zcz(x:Nat)(w:World):(callFunc 196 #[.int .u64 x]).run Tryz.prog w = .ok (.value (.float .f64 x)) w:=by
 rw[run_callFunc_extern Tryz.func196 (by kernel_rfl) (by kernel_rfl) (by kernel_rfl) (e:=Extern.MathFloatBits.float64frombits) (by kernel_rfl)];rfl
def absB (x:Nat):Nat:=x%9223372036854775808
theorem zln(x:Nat)(hx:x<18446744073709551616):bits BinOp.andNot IntKind.u64 (x:Int) 9223372036854775808=((absB x:Nat):Int):=by
 have h:=u64_andNot_nat x 9223372036854775808 hx (by omega);have e:x &&& (18446744073709551615-9223372036854775808)=absB x:=by
  rw[show 18446744073709551615-9223372036854775808=2^63-1 from by decide,Nat.and_two_pow_sub_one_eq_mod];rfl
 rw[e] at h;exact h
theorem zdf(x:Nat)(w:World):Calls Tryz.prog 149 #[.float .f64 x] w fun e w'=>e = .returned (.bool (FloatKind.f64.format.order x x != some .eq))∧w=w':=by
 go_enter Tryz.func149,Tryz.ntmps149
 go_wp2
 go_ret;exact⟨rfl,rfl⟩
theorem zmU(x:Nat)(w:World)(hx:x<18446744073709551616):Calls Tryz.prog 193 #[.float .f64 x] w fun e w'=>e = .returned (.float .f64 (absB x))∧w=w':=by
 have h1:=zln x hx;have hb:=zeR x;have hf:=zcz (absB x);go_enter Tryz.func193,Tryz.ntmps193
 go_wp2
 go_ret;exact⟨rfl,rfl⟩
theorem zdY(x:Nat)(w:World)(hx:x<18446744073709551616):Calls Tryz.prog 150 #[.float .f64 x,.int .i64 0] w fun e w'=>e = .returned (.bool (FloatKind.f64.format.order (absB x) 9218868437227405311==some .gt))∧w=w':=by
 go_enter Tryz.func150,Tryz.ntmps150
 go_wp2_with fail
 refine(zmU x _ hx).mono ?_;rintro e w1 ⟨rfl,rfl⟩;go_wp2
 go_ret;exact⟨rfl,rfl⟩
structure Norm64 (x:Nat):Prop where
 lt:x<18446744073709551616
 nz:(FloatKind.f64.format.order x 0==some .eq)=false
 inf:(FloatKind.f64.format.order (absB x) 9218868437227405311==some .gt)=false
 nan:(FloatKind.f64.format.order x x != some .eq)=false
 big:(FloatKind.f64.format.order (absB x) 4503599627370496==some .lt)=false
theorem zdq(x:Nat)(w:World)(h:Norm64 x):Calls Tryz.prog 194 #[.float .f64 x] w fun e w'=>e = .returned (.tuple #[.float .f64 x,.int .i64 0])∧w=w':=by
 have hb:=h.big;go_enter Tryz.func194,Tryz.ntmps194
 go_wp2_with fail
 refine(zmU x _ h.lt).mono ?_;rintro e w1 ⟨rfl,rfl⟩;go_wp2
 go_ret2
 exact⟨rfl,rfl⟩
def ldY (x:Nat) (m:Int):Nat:=x%4503599627370496+x/9223372036854775808*9223372036854775808+(m+1023).toNat*4503599627370496
theorem zhj(x:Nat)(hx:x<18446744073709551616):bits BinOp.andNot IntKind.u64 (x:Int) 9218868437227405312=((x%4503599627370496+x/9223372036854775808*9223372036854775808:Nat):Int):=by
 have h:=u64_andNot_nat x 9218868437227405312 hx (by omega);have e:x &&& (18446744073709551615-9218868437227405312)=x%4503599627370496+x/9223372036854775808*9223372036854775808:=by
  have e1:18446744073709551615-9218868437227405312=2^63 ||| (2^52-1):=by decide
  rw[e1,Nat.and_or_distrib_left,Nat.and_two_pow_sub_one_eq_mod,nat_bit];have h7:(2:Nat)^52=4503599627370496:=by decide
  have h8:(2:Nat)^63=9223372036854775808:=by decide
  rw[nat_join 63 _ _ (Nat.mul_mod_left _ _) (by rw[h7,h8];omega),h7,h8];omega
 rw[e] at h;exact h
theorem zgu(n:Nat):bits BinOp.and IntKind.i64 (n:Int) 2047=((n%2048:Nat):Int):=by
 have aA:(BitVec.ofInt 64 2047).toNat=2^11-1:=by decide
 have key:(BitVec.ofInt 64 (n:Int) &&& BitVec.ofInt 64 2047).toNat=((n:Int)%((2^64:Nat):Int)).toNat%2^11:=by
  rw[BitVec.toNat_and,BitVec.toNat_ofInt,aA,Nat.and_two_pow_sub_one_eq_mod]
 show IntKind.i64.wrap ((BitVec.ofInt 64 (n:Int) &&& BitVec.ofInt 64 2047).toNat:Nat)=_
 rw[key,IntKind.wrap_i64];omega
theorem zp5(x:Nat)(k:Nat)(hx:x<18446744073709551616)(hk:k<2048) :
  bits BinOp.or IntKind.u64 ((x%4503599627370496+x/9223372036854775808*9223372036854775808:Nat):Int) ((k*4503599627370496:Nat):Int)=((x%4503599627370496+x/9223372036854775808*9223372036854775808+k*4503599627370496:Nat):Int):=by
 have hs:x/9223372036854775808<2:=by omega
 generalize x/9223372036854775808=s at hs ⊢;have hf:x%4503599627370496<4503599627370496:=Nat.mod_lt _ (by omega);generalize x%4503599627370496=f at hf ⊢;rw[u64_or_nat _ _ (by omega) (by omega)];have h7:(2:Nat)^52=4503599627370496:=by decide
 have h8:(2:Nat)^63=9223372036854775808:=by decide
 have a1:=Nat.two_pow_add_eq_or_of_lt (i:=63) (b:=f) (by rw[h8];omega) s;have a2:=Nat.two_pow_add_eq_or_of_lt (i:=52) (b:=f) (by rw[h7];omega) k;have a3:=Nat.two_pow_add_eq_or_of_lt (i:=63) (b:=2^52*k+f) (by rw[h7,h8];omega) s;have e1:f+s*9223372036854775808=2^63*s+f:=by rw[h8];omega
 have e2:k*4503599627370496=2^52*k:=by rw[h7];omega
 congr 1
 rw[e1,e2,a1,Nat.or_assoc,Nat.or_comm f,←a2,←a3,a1.symm];omega
theorem zpF(x:Nat)(e m:Int)(r:Nat)(w:World)(h:Norm64 x)(he : -9223372036854775808≤e∧e<9223372036854775808)(hm:m=e+((x/4503599627370496%2048:Nat):Int)-1023)(hm1 : -1022≤m)(hm2:m≤1023)
 (hr:floatBits .mul .f64 4607182418800017408 (ldY x m)=some r):Calls Tryz.prog 160 #[.float .f64 x,.int .i64 e] w fun e w'=>e = .returned (.float .f64 r)∧w=w':=by
 have hz:=h.nz;have aC:=zdY x w h.lt;rw[h.inf] at aC;have aD:=zdf x w;rw[h.nan] at aD;have aF:=zdq x w h;have aI:=zeR x;have f1:wrap64 ((x:Int)/4503599627370496)=((x/4503599627370496:Nat):Int):=by
  have:=h.lt;rw[IntWalk.wrap64_in _ (by omega)];rfl
 have f2:bits BinOp.and IntKind.i64 ((x/4503599627370496:Nat):Int) 2047=((x/4503599627370496%2048:Nat):Int):=zgu _;have f4:wrap64 e=e:=IntWalk.wrap64_in _ (by omega);have hE:x/4503599627370496%2048<2048:=Nat.mod_lt _ (by omega);have f3:wrap64 (((x/4503599627370496%2048:Nat):Int)-1023)=((x/4503599627370496%2048:Nat):Int)-1023:=IntWalk.wrap64_in _ (by omega);have f5:wrap64 (e+(((x/4503599627370496%2048:Nat):Int)-1023))=m:=by rw[IntWalk.wrap64_in _ (by omega)];omega
 obtain⟨k,hk⟩:∃ k:Nat,m=(k:Int)-1023:=⟨(m+1023).toNat,by omega⟩;subst hk;have aH:1≤k:=by omega
 have aJ:k≤2046:=by omega
 have f6:=zhj x h.lt;have f7:=zp5 x k h.lt (by omega);have f8:((k*4503599627370496:Nat):Int)=(k:Int)*4503599627370496:=by omega
 rw[f8] at f7;have hY:ldY x ((k:Int)-1023)=x%4503599627370496+x/9223372036854775808*9223372036854775808+k*4503599627370496:=by
  unfold ldY;rw[show(k:Int)-1023+1023=(k:Int) from by omega];rfl
 rw[hY] at hr;generalize x%4503599627370496+x/9223372036854775808*9223372036854775808+k*4503599627370496=Y at f7 hr;generalize x%4503599627370496+x/9223372036854775808*9223372036854775808=F at f6 f7;have aE:=fun W:World=>run_float_arith (P:=Tryz.prog) W .mul 111 .f64 4607182418800017408 Y r hr
 have aG:=zcz Y;generalize x/4503599627370496%2048=E at *;generalize x/4503599627370496=X at *;have aA:=Aa aC;clear aC hm hr hY hm1 hm2 he;go_enter Tryz.func160,Tryz.ntmps160
 go_wp2_with fail
 refine aA.out.mono ?_;rintro e w1 ⟨rfl,rfl⟩
 go_wp2_with fail
 refine aD.mono ?_;rintro e w1 ⟨rfl,rfl⟩
 go_wp2_with fail
 refine aF.mono ?_;rintro e w1 ⟨rfl,rfl⟩
 go_wp2_with fail
 go_ret;exact⟨rfl,rfl⟩
end
end Go.Proofs.YtbkgkoenppkhpaaGreatDoor
