/- The reference's built and Above: halves and doubles of singles that are exact. -/
import Derived.Test.YtbkgkoenppkhpaaGreatDoorBSh5
set_option maxRecDepth 100000
set_option maxHeartbeats 2000000
namespace Go.Proofs.YtbkgkoenppkhpaaGreatDoor
section
open Go.RowKit
open Flt
theorem zry{f n:Nat}{e:Int}(h:Ps f n e)(hv:e = -149→n%2=0):∃ r n' e',floatBits .quo .f32 f 1073741824=some r∧Ps r n' e'∧2*(n'*2^(e'+149).toNat)=n*2^(e+149).toNat:=by
 have aG:=h.lo;have aF:=h.hi;have aC:=h.top
 by_cases he:e = -149
 ·subst he
  have h2:=hv rfl
  rcases Nat.eq_zero_or_pos n with rfl | hn
  ·refine⟨0,0, -149,?_,Ps.of zhI,by omega⟩
   show((Ieee.single.read f).quotient 25 (Ieee.single.read 1073741824)).map Ieee.single.write=some 0
   rw[h.rd,ze5]
   decide +kernel
  ·obtain⟨m,rfl⟩:∃ m,n=2*m:=⟨n/2,by omega⟩
   have hr:Rnd m (-149):=⟨by omega,by omega,.inl rfl⟩;refine⟨_,m, -149,?_,Ps.wd hr (by omega) (by omega),(Nat.mul_assoc _ _ _).symm⟩;show((Ieee.single.read f).quotient 25 (Ieee.single.read 1073741824)).map Ieee.single.write=some (Ieee.single.word false (rung m (-149)))
   rw[h.rd,ze5];have aD:(8388608:Nat).log2=23:=by decide
   show some (Ieee.single.write (.number (false ^^ false) (2*(((2*m) <<< (25+(8388608:Nat).log2-(2*m).log2))/8388608)+(((2*m) <<< (25+(8388608:Nat).log2-(2*m).log2))%8388608 != 0).toNat) ((-149:Int) - -22-((25+(8388608:Nat).log2-(2*m).log2:Nat):Int)-1)))=_
   have aH:(2:Nat)^24=16777216:=by decide
   have hl:(2*m).log2<24:=(Nat.log2_lt (by omega)).2 (by omega);have aI:m.log2<24:=(Nat.log2_lt (by omega)).2 (by omega);rw[aD,Nat.shiftLeft_eq];generalize (2*m).log2=l at *;obtain⟨s,hs⟩:∃ s,s=25-l:=⟨_,rfl⟩;have aA:25+23-l=s+23:=by omega
   have aE:(2:Nat)^23=8388608:=by decide
   rw[aA,Nat.pow_add,aE,←Nat.mul_assoc,Nat.mul_div_cancel _ (by omega),Nat.mul_mod_left];have e0:((0:Nat) != 0).toNat=0:=rfl;have e1:2*(2*m*2^s)+((0:Nat) != 0).toNat=m*2^(s+2):=by
    rw[e0,Nat.pow_add,show(2:Nat)^2=4 from rfl];generalize 2^s=X
    grind
   rw[e1,Bool.xor_false,zeb false (q := -149) (by omega) rfl (by omega) (by omega) (by omega)];rfl
 ·have h1:8388608≤n:=by have:=h.can;omega
  have hw:=zi5 false h1 h.hi (show -148≤e by omega) h.top;refine⟨_,n,e-1,?_,Ps.wd (ziq h1 h.hi (by omega)) h.hi (by omega),?_⟩
  ·rw[←hw]
   show((Ieee.single.read f).quotient 25 (Ieee.single.read 1073741824)).map Ieee.single.write=((Ieee.single.read (Ieee.single.word false (rung n e))).quotient 25 (Ieee.single.read 1073741824)).map Ieee.single.write
   rw[h.rd,zcl false h.rnd h.hi (zb1 h.hi h.lo h.top)]
  ·rw[show(e+149).toNat=(e-1+149).toNat+1 by omega,Nat.pow_succ,Nat.mul_comm 2,Nat.mul_assoc]
theorem zl9{f n:Nat}{e:Int}(h:Ps f n e)(h1:8388608≤n)(he:e≤103):∃ r,floatBits .mul .f32 f 1073741824=some r∧Ps r n (e+1):=by
 have aA:=h.lo;have hw:=zg1 false h1 h.hi h.lo he;refine⟨_,?_,Ps.wd (ziq h1 h.hi (by omega)) h.hi (by omega)⟩;rw[←hw];show((Ieee.single.read f).product (Ieee.single.read 1073741824)).map Ieee.single.write=((Ieee.single.read (Ieee.single.word false (rung n e))).product (Ieee.single.read 1073741824)).map Ieee.single.write
 rw[h.rd,zcl false h.rnd h.hi (zb1 h.hi h.lo h.top)]
theorem zkp(m:Nat)(hm:m≤16777216):∃ n e,Ps (floatOfInt .f32 (m:Int)) n e∧n*2^(e+149).toNat=m*2^149∧(8388608≤m→8388608≤n∧(e=0∨(m=16777216∧e=1))):=by
 by_cases hz:m=0
 ·subst hz
  refine⟨0, -149,Ps.of (by decide +kernel),by omega,by omega⟩
 by_cases hb:m=16777216
 ·subst hb
  refine⟨8388608,1,Ps.of (by decide +kernel),?_,fun _=>⟨by omega,.inr ⟨rfl,rfl⟩⟩⟩;have aA:((1:Int)+149).toNat=150:=by decide
  rw[aA]
 have aE:(2:Nat)^24=16777216:=by decide
 have hl:m.log2<24:=(Nat.log2_lt (by omega)).2 (by omega);have aD:2^m.log2≤m:=Nat.log2_self_le (by omega);have aC:m<2^(m.log2+1):=Nat.lt_log2_self;have g1:2^m.log2*2^(23-m.log2)=8388608:=by
  rw[←Nat.pow_add,show m.log2+(23-m.log2)=23 by omega]
 have g2:2^(m.log2+1)*2^(23-m.log2)=16777216:=by
  rw[←Nat.pow_add,show m.log2+1+(23-m.log2)=24 by omega]
 have g3:8388608≤m*2^(23-m.log2):=by rw[←g1];exact Nat.mul_le_mul_right _ aD
 have g4:m*2^(23-m.log2)<16777216:=by rw[←g2];exact Nat.mul_lt_mul_of_pos_right aC (Nat.two_pow_pos _)
 have hw:floatOfInt .f32 (m:Int)=Ieee.single.word false (rung (m*2^(23-m.log2)) (-((23-m.log2:Nat):Int))):=by
  show Ieee.single.write (.number (decide ((m:Int)<0)) (m:Int).natAbs 0)=_
  rw[show decide ((m:Int)<0)=false by simp,Int.natAbs_natCast];show Ieee.single.nearest false m 0=_
  rw[zeo Ieee.single false m (23-m.log2) 0 (by omega) (by rw[zaI];show max ((0:Int)+(m.log2:Int)-((23:Nat):Int)) (-149)=_;omega) (by
   rw[zaI,za9,zdx];have:(0-((23-m.log2:Nat):Int) - -149).toNat≤149:=by omega
   omega)]
  rw[zaI,za9];unfold rung;rw[show(0-((23-m.log2:Nat):Int) - -149).toNat=(-((23-m.log2:Nat):Int)+149).toNat by omega]
 refine⟨m*2^(23-m.log2), -((23-m.log2:Nat):Int),?_,?_,?_⟩
 ·rw[hw]
  exact Ps.wd (ziq g3 g4 (by omega)) g4 (by omega)
 ·rw[Nat.mul_assoc,←Nat.pow_add,show(23-m.log2)+(-((23-m.log2:Nat):Int)+149).toNat=149 by omega]
 ·intro h
  have:=zpw h (by omega);exact⟨g3,.inl (by omega)⟩
theorem zlp(n:Nat)(hn:n≤16777216)(m:Nat)(hm:m≤149):∃ F:Nat→Nat,floatOfInt .f32 (n:Int)=F 0∧(∀ i,i<m→floatBits .quo .f32 (F i) 1073741824=some (F (i+1)))∧∃ n' e',Ps (F m) n' e'∧n'*2^(e'+149).toNat=n*2^(149-m):=by
 induction m with
 | zero=>
  obtain⟨n0,e0,h1,h2, -⟩:=zkp n hn;exact⟨fun _=>_,rfl,fun i h=>absurd h (by omega),n0,e0,h1,h2⟩
 | succ m ih=>
  obtain⟨F,f0,fs,n',e',hp,hu⟩:=ih (by omega);have aD:(2:Nat)^(149-m)=2^(149-(m+1))*2:=by rw[←Nat.pow_succ];congr 1;omega
  rw[aD] at hu;obtain⟨r,n2,e2,hr,aC,aA⟩:=zry hp (fun e=>by
   rw[e] at hu;have e0:((-149:Int)+149).toNat=0:=by decide
   rw[e0,Nat.pow_zero,Nat.mul_one,←Nat.mul_assoc] at hu;omega)
  refine⟨fun i=>if i≤m then F i else r,?_,?_,n2,e2,?_,?_⟩
  ·rw[f0];exact(if_pos (Nat.zero_le m)).symm
  ·intro i hi
   by_cases h:i<m
   ·show floatBits .quo .f32 (if i≤m then F i else r) 1073741824=some (if i+1≤m then F (i+1) else r)
    rw[if_pos (by omega),if_pos (by omega)];exact fs i h
   ·obtain rfl:i=m:=by omega
    show floatBits .quo .f32 (if i≤i then F i else r) 1073741824=some (if i+1≤i then F (i+1) else r)
    rw[if_pos (by omega),if_neg (by omega)];exact hr
  ·show Ps (if m+1≤m then F (m+1) else r) n2 e2
   rw[if_neg (by omega)];exact aC
  ·rw[hu] at aA
   generalize n2*2^(e2+149).toNat=X at *;generalize (2:Nat)^(149-(m+1))=Y at *;rw[←Nat.mul_assoc] at aA;omega
theorem zpA(n:Nat)(h0:8388608≤n)(hn:n≤16777216)(m:Nat)(hm:m≤104)(hx:n=16777216→m≤103):∃ F:Nat→Nat,floatOfInt .f32 (n:Int)=F 0∧(∀ i,i<m→floatBits .mul .f32 (F i) 1073741824=some (F (i+1)))∧∃ n' e',Ps (F m) n' e'∧n'*2^(e'+149).toNat=n*2^(149+m)∧8388608≤n'∧(e'=m∨(n=16777216∧e'=m+1)):=by
 induction m with
 | zero=>
  obtain⟨n0,e0,h1,h2,h3⟩:=zkp n hn;exact⟨fun _=>_,rfl,fun i h=>absurd h (by omega),n0,e0,h1,h2,(h3 h0).1,by have:=(h3 h0).2;omega⟩
 | succ m ih=>
  obtain⟨F,f0,fs,n',e',hp,hu,h1,h2⟩:=ih (by omega) (by omega);obtain⟨r,hr,aA⟩:=zl9 hp h1 (by omega);have aC:=hp.lo;refine⟨fun i=>if i≤m then F i else r,?_,?_,n',e'+1,?_,?_,h1,by omega⟩
  ·rw[f0];exact(if_pos (Nat.zero_le m)).symm
  ·intro i hi
   by_cases h:i<m
   ·show floatBits .mul .f32 (if i≤m then F i else r) 1073741824=some (if i+1≤m then F (i+1) else r)
    rw[if_pos (by omega),if_pos (by omega)];exact fs i h
   ·obtain rfl:i=m:=by omega
    show floatBits .mul .f32 (if i≤i then F i else r) 1073741824=some (if i+1≤i then F (i+1) else r)
    rw[if_pos (by omega),if_neg (by omega)];exact hr
  ·show Ps (if m+1≤m then F (m+1) else r) n' (e'+1)
   rw[if_neg (by omega)];exact aA
  ·rw[show(e'+1+149).toNat=(e'+149).toNat+1 by omega,Nat.pow_succ,←Nat.mul_assoc,hu,show 149+(m+1)=149+m+1 by omega,Nat.pow_succ,Nat.mul_assoc]
theorem zmb(n m:Nat)(F:Nat→Nat)(w:World)(hc:floatOfInt .f32 (n:Int)=F 0)(hs:∀ i,i<m→floatBits .quo .f32 (F i) 1073741824=some (F (i+1)))(hm:m≤149) :
  Calls Tryz.prog 102 #[.int .i64 (n:Int),.int .i64 (-(m:Int))] w fun e w'=>e = .returned (.float .f32 (F m))∧w=w':=by
 have HS:=Aa hs;clear hs;have d0:decide ((0:Int) < -(m:Int))=false:=decide_eq_false (by omega);go_enter Tryz.func102,Tryz.ntmps102
 go_wp2
 go_loopg [5,6] 0 (fun g v5 v6 W=>g=0∧v5 = .float .f32 (F 0)∧v6 = .int .i64 0∧W=w)
 case atStart=>exact⟨rfl,rfl,rfl,rfl⟩
 case round=>
  obtain⟨rfl,rfl,rfl,rfl⟩:=hrel;go_wp2
  go_loopg [5,7] m (fun g v5 v7 W=>∃ i:Nat,v5 = .float .f32 (F i)∧v7 = .int .i64 (-(i:Int))∧i≤m∧g+i=m∧W=wr)
  case atStart=>exact⟨0,rfl,rfl,Nat.zero_le _,rfl,rfl⟩
  case round=>
   obtain⟨i,rfl,rfl,hi,hg,rfl⟩:=hrel
   by_cases hlt:i<m
   ·have d1:decide (-(m:Int) < -(i:Int))=true:=decide_eq_true (by omega)
    obtain⟨ii,aA⟩:∃ ii,ii=i+1:=⟨_,rfl⟩;have ha:=fun W=>run_float_arith (P:=Tryz.prog) W .quo 46 .f32 (F i) 1073741824 (F ii) (by rw[aA];exact HS.out i hlt)
    have hw:IntKind.i64.wrap (-(i:Int)-1) = -(ii:Int):=by rw[IntWalk.i64_in _ (by omega)];omega
    go_wp2
    go_roundg (m-ii)
    case rel=>exact⟨ii,by rw[aA],by congr 1;omega,by omega,by omega,rfl⟩
    case measure=>omega
   ·obtain rfl:i=m:=by omega
    have d1:decide (-(i:Int) < -(i:Int))=false:=decide_eq_false (by omega);go_wp2
    go_ret;exact⟨rfl,rfl⟩
theorem zmx(n m:Nat)(F:Nat→Nat)(w:World)(hc:floatOfInt .f32 (n:Int)=F 0)(hs:∀ i,i<m→floatBits .mul .f32 (F i) 1073741824=some (F (i+1)))(hm:m≤149) :
  Calls Tryz.prog 102 #[.int .i64 (n:Int),.int .i64 (m:Int)] w fun e w'=>e = .returned (.float .f32 (F m))∧w=w':=by
 have HS:=Aa hs;clear hs;have d0:decide ((m:Int)<0)=false:=decide_eq_false (by omega);go_enter Tryz.func102,Tryz.ntmps102
 go_wp2
 go_loopg [5,6] m (fun g v5 v6 W=>∃ i:Nat,v5 = .float .f32 (F i)∧v6 = .int .i64 (i:Int)∧i≤m∧g+i=m∧W=w)
 case atStart=>exact⟨0,rfl,rfl,Nat.zero_le _,rfl,rfl⟩
 case round=>
  obtain⟨i,rfl,rfl,hi,hg,rfl⟩:=hrel
  by_cases hlt:i<m
  ·have d1:decide ((i:Int)<(m:Int))=true:=decide_eq_true (by omega)
   obtain⟨ii,aA⟩:∃ ii,ii=i+1:=⟨_,rfl⟩;have ha:=fun W=>run_float_arith (P:=Tryz.prog) W .mul 46 .f32 (F i) 1073741824 (F ii) (by rw[aA];exact HS.out i hlt)
   have hw:IntKind.i64.wrap ((i:Int)+1)=(ii:Int):=by rw[IntWalk.i64_in _ (by omega)];omega
   go_wp2
   go_roundg (m-ii)
   case rel=>exact⟨ii,by rw[aA],by congr 1;omega,by omega,by omega,rfl⟩
   case measure=>omega
  ·obtain rfl:i=m:=by omega
   have d1:decide ((i:Int)<(i:Int))=false:=decide_eq_false (by omega);go_wp2
   go_loopg [5,7] 0 (fun g v5 v7 W=>g=0∧v5 = .float .f32 (F i)∧v7 = .int .i64 0∧W=wr)
   case atStart=>exact⟨rfl,rfl,rfl,rfl⟩
   case round=>
    obtain⟨rfl,rfl,rfl,rfl⟩:=hrel;go_wp2
    go_ret;exact⟨rfl,rfl⟩
theorem zg3(n:Nat)(k:Int)(hn:n≤16777216)(hk : -149≤k∧k≤104)(hx:¬ (n=16777216∧k=104))(hc:k≤0∨8388608≤n) :
  ∃ F,fin Ieee.single F=true∧key Ieee.single F=((n*2^(k+149).toNat:Nat):Int)∧∀ w,Calls Tryz.prog 102 #[.int .i64 (n:Int),.int .i64 k] w fun e w'=>e = .returned (.float .f32 F)∧w=w':=by
 by_cases h:k≤0
 ·obtain⟨m,rfl⟩:∃ m:Nat,k = -(m:Int):=⟨(-k).toNat,by omega⟩
  obtain⟨F,f0,fs,n',e',hp,hu⟩:=zlp n hn m (by omega);obtain⟨k1,k2⟩:=hp.key;refine⟨F m,k1,?_,fun w=>zmb n m F w f0 fs (by omega)⟩;rw[k2,hu,show(-(m:Int)+149).toNat=149-m by omega]
 ·obtain⟨m,rfl⟩:∃ m:Nat,k=(m:Int):=⟨k.toNat,by omega⟩
  obtain⟨F,f0,fs,n',e',hp,hu, -, -⟩:=zpA n (by omega) hn m (by omega) (by omega);obtain⟨k1,k2⟩:=hp.key;refine⟨F m,k1,?_,fun w=>zmx n m F w f0 fs (by omega)⟩;rw[k2,hu,show((m:Int)+149).toNat=149+m by omega]
end
section
open Go.RowKit Bn Dn
theorem bvia{w w1 w2:World}(h:Below w.heap.size w w1)(hb:Below w1.heap.size w1 w2):Below w.heap.size w w2:=Ad h hb
def txt (q:Q):ByteArray:=⟨(zaO q).toArray⟩
theorem zbs {q:Q} (h:LowQ q):NumQ (txt q) q:=⟨by simp[txt],h⟩
theorem zeJ {a:ByteArray} {q:Q} (h:NumQ a q):a=txt q:=by
 obtain⟨d⟩:=a;have h1:d.toList=zaO q:=h.1;unfold txt
 congr 1
 rw[←h1,Array.toArray_toList]
theorem zhF{a:ByteArray}(h:zan a.data.toList=0):a=txt (zaf a.data.toList):=zeJ (zfT h)
theorem zbl {q:Q} {N:Nat} (h:LowQ q) (hs:Small q N) (hN:0<N):(txt q).size≤2*N+2:=(zbs h).size hs hN
def zax (f:FuncId) (args:Array Value) (v:Value):Prop:=∀ W,Calls Tryz.prog f args W fun e w'=>e = .returned v∧Below W.heap.size W w'
def zcr (f:FuncId) (args:Array Value) (v:Value):Prop:=∀ W,Tabs W→Calls Tryz.prog f args W fun e w'=>e = .returned v∧Below W.heap.size W w'
theorem zcH {f:FuncId} {args:Array Value} {q:Q} {w:World} (h:Calls Tryz.prog f args w (RetS w q)):Calls Tryz.prog f args w fun e w'=>e = .returned (.string (txt q))∧Below w.heap.size w w':=
 h.mono fun _ _ ⟨⟨s,he,hs⟩,hb⟩=>⟨by rw[he,zeJ hs],hb⟩
theorem tMul {p q:Q} (hp:LowQ p) (hq:LowQ q) {N:Nat} (sp:Small p N) (sq:Small q N) (h0:0<N) (hN:N≤300):zax 48 #[.string (txt p),.string (txt q)] (.string (txt (mulQ p q))):=fun W=>
 zcH (zko _ _ _ _ W (zbs hp) (zbs hq) (by have:=zbl hp sp h0;omega) (by have:=zbl hq sq h0;omega))
theorem tSub {p q:Q} (hp:LowQ p) (hq:LowQ q) {N:Nat} (sp:Small p N) (sq:Small q N) (h0:0<N) (hN:N≤300):zax 41 #[.string (txt p),.string (txt q)] (.string (txt (subQ p q))):=fun W=>
 zcH (zqf _ _ _ _ W (zbs hp) (zbs hq) (by have:=zbl hp sp h0;omega) (by have:=zbl hq sq h0;omega))
theorem tAbs {p:Q} (hp:LowQ p) {N:Nat} (sp:Small p N) (h0:0<N) (hN:N≤300):zax 40 #[.string (txt p)] (.string (txt (absQ p))):=fun W=>
 zcH (zmN _ _ W (zbs hp) (by have:=zbl hp sp h0;omega))
theorem tNeg {p:Q} (hp:LowQ p) {N:Nat} (sp:Small p N) (h0:0<N) (hN:N≤300):zax 42 #[.string (txt p)] (.string (txt (negQ p))):=fun W=>
 zcH (znk _ _ W (zbs hp) (by have:=zbl hp sp h0;omega))
theorem zrN {p:Q} (hp:LowQ p) {N:Nat} (sp:Small p N) (h0:0<N) (hN:N≤300):zax 44 #[.string (txt p)] (.string (txt (mulQ p zfH))):=fun W=>
 zcH (zra _ _ W (zbs hp) (by have:=zbl hp sp h0;omega))
theorem tCmp {p q:Q} (hp:LowQ p) (hq:LowQ q) {N:Nat} (sp:Small p N) (sq:Small q N) (h0:0<N) (hN:N≤300):zax 39 #[.string (txt p),.string (txt q)] (.int .i64 (cmpI p q)):=fun W=>
 zr0 _ _ _ _ W (zbs hp) (zbs hq) (by have:=zbl hp sp h0;omega) (by have:=zbl hq sq h0;omega)
end
section
open Go.RowKit Bn
theorem zhT (A A':Option Addr) (n c c':Nat) (xs:List Value) (hxs:∀ x ∈ xs,∃ i:Int,x = .int .i64 i) (w:World) (B:Nat) (h:zaA w B 1 A n xs) (h':zaA w B 1 A' n xs) (hn:n≤4096) :
  Calls Tryz.prog 58 #[.slice A n c,.slice A' n c'] w fun e w'=>e = .returned (.bool true)∧∃ m,w'=w.drewN m:=by
 have aF:xs.length=n:=by have:=h.1;omega
 have HX:=Aa hxs;clear hxs;go_enter Tryz.func58,Tryz.ntmps58
 go_wp2_with fail
 go_loopg [5] n (fun m s W=>∃ k:Nat,k≤n∧s = .int .i64 k∧n-k≤m∧∃ q,W=w.drewN q)
 case atStart=>exact⟨0,Nat.zero_le _,rfl,by omega,0,rfl⟩
 case round=>
  obtain⟨k,hk,rfl,hm,q,rfl⟩:=hrel
  by_cases h0:k<n
  ·obtain⟨ad,u,rfl,aH,hu,aD⟩:=h.at_ h0
   obtain⟨aG,u2,rfl,aE,aA,aC⟩:=h'.at_ h0;obtain rfl:u=u2:=by rw[hu] at aA;exact Option.some.inj aA
   obtain⟨i,rfl⟩:=HX.out u (List.mem_of_getElem? hu);clear hu aA
   go_wp2_with fail
   go_region
   go_wp2_with fail
   go_roundg (n-(k+1))
   case measure=>omega
   case rel=>exact⟨k+1,by omega,by go_num,Nat.le_refl _,_,rfl⟩
  ·obtain rfl:n=k:=by omega
   go_wp2_with fail
   go_ret;exact⟨rfl,q,rfl⟩
theorem zox(s t:ByteArray)(w:World):Calls Tryz.prog 53 #[.string s,.string t] w fun e w'=>e = .returned (.agg #[.string s,.string t])∧Below w.heap.size w w':=by
 have hb:Below w.heap.size w (w.alloc (.cells #[.string ⟨#[]⟩,.string ⟨#[]⟩] 24)):=Ac;have q:CBlk (w.alloc (.cells #[.string ⟨#[]⟩,.string ⟨#[]⟩] 24)) w.heap.size #[.string ⟨#[]⟩,.string ⟨#[]⟩] 24:=CBlk.new _ _ _ _ rfl;have y0:=q.cell 0;have y1:=q.cell 1;have f0:=q.frozen 0;have f1:=q.frozen 1;have aA:=zbN hb (g:=w.heap.size) (Nat.le_refl _) (.string s) (.string t);go_enter Tryz.func53,Tryz.ntmps53
 go_upto_region 1 with(fail)
 generalize w.alloc (.cells #[.string ⟨#[]⟩,.string ⟨#[]⟩] 24)=W at *;go_wp2
 refine bodyPost_ret (v := .agg #[.string s,.string t]) (by simp[results,Tryz.results53,go_sem,y0,y1]) rfl ⟨rfl,aA⟩
end
section
open Go.RowKit
open Flt
theorem zk0(s:Bool)(m k:Nat):Ieee.signed s m k+Ieee.signed (!s) m k=0:=by
 unfold Ieee.signed
 cases s<;>simp<;>omega
theorem sub_self{b:Nat}(h:fin Ieee.single b=true):floatBits .sub .f32 b b=some 0:=by
 unfold fin at h;show((Ieee.single.read b).sum (Ieee.single.read b).opposite).map Ieee.single.write=some 0
 rcases hr:Ieee.single.read b with⟨s,m,p⟩ | s | ⟨s,f⟩
 ·have e1:(Ieee.Datum.number s m p).opposite = .number (!s) m p:=rfl
  rw[e1];unfold Ieee.Datum.sum;simp only[Int.min_self,zk0]
  have e2:(s && !s)=false:=by cases s<;>rfl
  simp only[if_true,e2,Int.natAbs_zero,Option.map_some]
  congr 1
 ·rw[hr] at h;cases h
 ·rw[hr] at h;cases h
theorem zoG{b:Nat}(h:fin Ieee.single b=false):FloatKind.f32.format.sub b b=none:=by
 unfold fin at h;show((Ieee.single.read b).sum (Ieee.single.read b).opposite).map Ieee.single.write=none
 rcases hr:Ieee.single.read b with⟨s,m,p⟩ | s | ⟨s,f⟩
 ·rw[hr] at h;cases h
 ·cases s<;>rfl
 ·rfl
def nanX (x y:Nat) (W:World):Nat:=(Question.nanBits .f32 x y).cut (W.tape W.drawn (Question.nanBits .f32 x y))
theorem zmk(x y:Nat)(W:World):∃ s f,Ieee.single.read (nanX x y W) = .nan s f:=by
 unfold nanX Question.cut;generalize W.tape W.drawn (Question.nanBits .f32 x y)=t
 dsimp only
 have aC:(2:Nat)^31=2147483648:=by decide
 have aA:(2:Nat)^23=8388608:=by decide
 rw[aC,aA];have h1:t%2<2:=Nat.mod_lt _ (by omega);have h2:t/2%(8388608-1)<8388607:=Nat.mod_lt _ (by omega);generalize t%2=s at h1;generalize t/2%(8388608-1)=f at h2;unfold Ieee.Format.read;rw[zeh,za9,zdx];have e1:(s*2147483648+2139095040+1+f)%2147483648=2139095040+1+f:=by omega
 dsimp only
 rw[e1,if_neg (by omega),if_neg (by omega),if_neg (by omega)];exact⟨_,_,rfl⟩
theorem zn4(x y:Nat)(W:World):(FloatKind.f32.format.order (nanX x y W) 0==some .eq)=false:=by
 obtain⟨s,f,h⟩:=zmk x y W;have:FloatKind.f32.format.order (nanX x y W) 0=none:=by
  show(Ieee.single.read _).order (Ieee.single.read _)=_
  rw[h];rfl
 rw[this];rfl
theorem zj0{P:Program}(t:TypeId){b:Nat}(h:fin Ieee.single b=false)(W:World):(binOp .sub t (.float .f32 b) (.float .f32 b)).run P W = .ok (.float .f32 (nanX b b W)) W.drew:=by
 have hs:=zoG h;have hf:(Question.nanBits .f32 b b).forced=false:=rfl;simp[binOp,Op.floatArith,hs,hf,nanX]
theorem zdi(b:Nat)(w:World):Calls Tryz.prog 31 #[.float .f32 b] w fun e w'=>e = .returned (.bool (fin Ieee.single b))∧Below w.heap.size w w':=by
 by_cases h:fin Ieee.single b=true
 ·have ha:=fun W:World=>run_float_arith (P:=Tryz.prog) W .sub 46 .f32 b b 0 (sub_self h)
  have hz:(FloatKind.f32.format.order 0 0==some .eq)=true:=by decide +kernel
  have hb:Below w.heap.size w w:=Below.refl _ _;rw[h];clear h;go_enter Tryz.func31,Tryz.ntmps31
  go_wp2
  go_ret;exact⟨rfl,hb⟩
 ·have h':fin Ieee.single b=false:=by simpa using h
  have ha:=fun W:World=>zj0 (P:=Tryz.prog) 46 h' W
  have hz:=zn4 b b w;have hb:Below w.heap.size w w.drew:=(Below.refl _ _).drew;rw[h'];clear h h';go_enter Tryz.func31,Tryz.ntmps31
  go_wp2
  go_ret;exact⟨rfl,hb⟩
end
section
open Go.RowKit Bn Dn
open Flt
theorem zhs {f:Nat} (hf:fin Ieee.single f=true):zcr 30 #[.float .f32 f] (.tuple #[.string (txt (za0 (key Ieee.single f))),.int .i64 0]):=fun W hT=>
 (zk3 f W hT hf).mono fun _ _ ⟨⟨s,he,hs⟩,hb⟩=>⟨by rw[he,zeJ hs],hb⟩
theorem zm9 {f:Nat} (hf:fin Ieee.single f=true):zax 33 #[.float .f32 f] (.string (txt (za0 (key Ieee.single f)))):=fun W=>zcH (zli f W hf)
end
end Go.Proofs.YtbkgkoenppkhpaaGreatDoor
