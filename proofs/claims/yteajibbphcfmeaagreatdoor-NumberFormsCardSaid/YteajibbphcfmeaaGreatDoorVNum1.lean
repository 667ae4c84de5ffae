/- Plain mathematics: shifts of words. -/
import Derived.Test.YteajibbphcfmeaaGreatDoorVWords
import Derived.WalkSmall
import Derived.Lib.LaidTab
import Derived.Lib.ItoaNum
import Derived.Test.YteajibbphcfmeaaGreatDoorVStr1
import Derived.StillTailTactics
namespace Go.Proofs.YteajibbphcfmeaaGreatDoor.Bn
theorem zeq:B=2 ^ 64:=by decide
theorem zdN (r:Nat) (h:r≤64):B=2 ^ r*2 ^ (64 - r):=by rw [zeq,←Nat.pow_add];congr 1;omega
theorem zmZ (f r:Nat) (h:r≤64):f / 2 ^ (64 - r)=f*2 ^ r / B:=by
 rw [zdN r h,Nat.mul_comm f,Nat.mul_div_mul_left _ _ (Nat.two_pow_pos r)]
theorem zhJ (f r:Nat) (h:r≤64):f*2 ^ r % B=2 ^ r*(f % 2 ^ (64 - r)):=by
 rw [zdN r h,Nat.mul_comm f,Nat.mul_mod_mul_left]
theorem zmT (f r:Nat) (h:r≤64):f*2 ^ r % B+2 ^ r≤B:=by
 have h1:f % 2 ^ (64 - r)+1≤2 ^ (64 - r):=Nat.mod_lt _ (Nat.two_pow_pos _)
 have h2:=Nat.mul_le_mul_left (2 ^ r) h1
 rw [←zdN r h,Nat.mul_add,Nat.mul_one] at h2
 rw [zhJ f r h]
 exact h2
theorem zm0 (f r:Nat) (h:r≤64) (hf:f<B):f / 2 ^ (64 - r)<2 ^ r:=by
 rw [Nat.div_lt_iff_lt_mul (Nat.two_pow_pos _),←zdN r h]
 exact hf
theorem zj4 (l la:List Nat) (i p r f o:Nat) (hk:i+p+1<l.length) (hr:r≤64) (hf:la.getD i 0=f) (ho:l.getD (i+p) 0=o) (hz:l.getD (i+p+1) 0=0)
  (hinv:val l=val (la.take i)*2 ^ r*B ^ p) :
  val ((l.set (i+p) (o+f*2 ^ r % B)).set (i+p+1) (f / 2 ^ (64 - r)))=val (la.take (i+1))*2 ^ r*B ^ p:=by
 have h1:=zdL l (i+p) (o+f*2 ^ r % B) (by omega)
 have h2:=zdL (l.set (i+p) (o+f*2 ^ r % B)) (i+p+1) (f / 2 ^ (64 - r)) (by simpa using hk)
 rw [zaH _ _ _ _ (by omega),hz,Nat.mul_zero,Nat.add_zero] at h2
 rw [ho,Nat.mul_add] at h1
 have h3:B ^ (i+p+1)*(f / 2 ^ (64 - r))+B ^ (i+p)*(f*2 ^ r % B)=B ^ (i+p)*(f*2 ^ r):=by
  rw [zmZ f r hr,Nat.pow_succ,Nat.mul_assoc,←Nat.mul_add,Nat.div_add_mod]
 have h4:val (la.take (i+1))*2 ^ r*B ^ p=val (la.take i)*2 ^ r*B ^ p+B ^ (i+p)*(f*2 ^ r):=by
  rw [zae,hf,Nat.add_mul,Nat.add_mul,Nat.pow_add]
  congr 1
  rw [Nat.mul_assoc (B ^ i) f,Nat.mul_assoc (B ^ i),Nat.mul_comm (f*2 ^ r) (B ^ p),←Nat.mul_assoc]
 rw [h4,h2]
 generalize B ^ (i+p+1)*(f / 2 ^ (64 - r))=a1 at *
 generalize B ^ (i+p)*(f*2 ^ r % B)=a2 at *
 generalize B ^ (i+p)*(f*2 ^ r)=a3 at *
 generalize B ^ (i+p)*o=a4 at *
 generalize val (la.take i)*2 ^ r*B ^ p=a5 at *
 omega
theorem zlP (x s p r:Nat) (h:s=64*p+r):x*2 ^ r*B ^ p=x*2 ^ s:=by
 rw [h,zeq,←Nat.pow_mul,Nat.mul_assoc,←Nat.pow_add]
 congr 2
 omega
theorem zig (z z' r:Nat) (hr:r<64) (hz:z<B):z / 2 ^ r+z'*2 ^ (64 - r) % B<B ∧
  (z / 2 ^ r+z'*2 ^ (64 - r) % B)*2 ^ r+z % 2 ^ r=z+B*(z' % 2 ^ r):=by
 have e:z'*2 ^ (64 - r) % B=2 ^ (64 - r)*(z' % 2 ^ r):=by
  have:=zhJ z' (64 - r) (by omega)
  rwa [show 64 - (64 - r)=r from by omega] at this
 have h1:z / 2 ^ r<2 ^ (64 - r):=by
  rw [Nat.div_lt_iff_lt_mul (Nat.two_pow_pos _),Nat.mul_comm,←zdN r (by omega)];exact hz
 have h2:z' % 2 ^ r+1≤2 ^ r:=Nat.mod_lt _ (Nat.two_pow_pos _)
 have h3:=Nat.mul_le_mul_left (2 ^ (64 - r)) h2
 have h4:=zdN r (by omega)
 rw [Nat.mul_comm] at h4
 rw [←h4,Nat.mul_add,Nat.mul_one] at h3
 rw [e]
 refine ⟨by omega,?_⟩
 have h5:2 ^ (64 - r)*(z' % 2 ^ r)*2 ^ r=B*(z' % 2 ^ r):=by
  rw [h4,Nat.mul_assoc,Nat.mul_assoc,Nat.mul_comm (z' % 2 ^ r)]
 have h6:=Nat.div_add_mod z (2 ^ r)
 rw [Nat.add_mul,h5,Nat.mul_comm (z / 2 ^ r)]
 omega
theorem zlt (l la:List Nat) (p k r t:Nat) (hk:k<l.length) (hr:r<64) (hw:Wf la)
  (ht:t=la.getD (p+k) 0 / 2 ^ r+la.getD (p+k+1) 0*2 ^ (64 - r) % B)
  (hinv:val (l.take k)*2 ^ r+la.getD p 0 % 2 ^ r=val ((la.drop p).take k)+B ^ k*(la.getD (p+k) 0 % 2 ^ r)) :
  val ((l.set k t).take (k+1))*2 ^ r+la.getD p 0 % 2 ^ r=val ((la.drop p).take (k+1))+B ^ (k+1)*(la.getD (p+(k+1)) 0 % 2 ^ r):=by
 have h1:=(zig (la.getD (p+k) 0) (la.getD (p+k+1) 0) r hr (zaD hw _)).2
 rw [←ht] at h1
 have hd:(la.drop p).getD k 0=la.getD (p+k) 0:=by simp [List.getD,List.getElem?_drop]
 rw [zaF l k t hk,zae,hd,Nat.add_mul,←Nat.add_assoc p k 1]
 have h2:B ^ k*t*2 ^ r+B ^ k*(la.getD (p+k) 0 % 2 ^ r)=B ^ k*la.getD (p+k) 0+B ^ (k+1)*(la.getD (p+k+1) 0 % 2 ^ r):=by
  rw [Nat.pow_succ,Nat.mul_assoc,Nat.mul_assoc,←Nat.mul_add,←Nat.mul_add,h1]
 generalize B ^ k*t*2 ^ r=a1 at *
 generalize B ^ k*(la.getD (p+k) 0 % 2 ^ r)=a2 at *
 generalize B ^ k*la.getD (p+k) 0=a3 at *
 generalize B ^ (k+1)*(la.getD (p+k+1) 0 % 2 ^ r)=a4 at *
 generalize val (l.take k)*2 ^ r=a5 at *
 omega
theorem zeA {l:List Nat} (hw:Wf l) (p:Nat) (hp:p≤l.length):val (l.drop p)=val l / B ^ p:=by
 have h:=zaw l p hp
 have h2:=zbk (hw.take p)
 rw [List.length_take,Nat.min_eq_left hp] at h2
 rw [h,Nat.add_mul_div_left _ _ (Nat.pow_pos zaL),Nat.div_eq_of_lt h2,Nat.zero_add]
theorem zlS (l la:List Nat) (x s p r m:Nat) (h:s=64*p+r) (hla:la=digs x) (hp:p≤la.length) (hm:m=la.length - p)
  (hinv:val (l.take m)*2 ^ r+la.getD p 0 % 2 ^ r=val ((la.drop p).take m)+B ^ m*(la.getD (p+m) 0 % 2 ^ r)):val (l.take m)=x / 2 ^ s:=by
 subst hla
 rw [zbG (l:=digs x) (k:=p+m) (by omega),Nat.zero_mod,Nat.mul_zero,Nat.add_zero,List.take_of_length_le (l:=(digs x).drop p) (by rw [List.length_drop];omega),zeA (zap x) p hp,zal] at hinv
 have e:x / 2 ^ s=x / B ^ p / 2 ^ r:=by
  rw [Nat.div_div_eq_div_mul,h,zeq,←Nat.pow_mul,←Nat.pow_add]
 have aA:=Nat.mod_lt ((digs x).getD p 0) (Nat.two_pow_pos r)
 rw [e,←hinv,Nat.mul_comm,Nat.mul_add_div (Nat.two_pow_pos r),Nat.div_eq_of_lt aA,Nat.add_zero]
theorem zmq (x s p:Nat) (h:64*p≤s) (hp:(digs x).length≤p):x / 2 ^ s=0:=by
 rw [Nat.div_eq_zero_iff]
 right
 have h1:=zac x
 have h2:B ^ (digs x).length≤B ^ p:=Nat.pow_le_pow_right zaL hp
 have h3:B ^ p≤2 ^ s:=by rw [zeq,←Nat.pow_mul];exact Nat.pow_le_pow_right (by omega) h
 omega
def ntz (n:Nat):Nat:=if n=0 then 0 else if n % 2=1 then 0 else ntz (n / 2)+1
termination_by n
decreasing_by
 rename_i h _
 omega
theorem znn (m:Nat):ntz (2*m+1)=0:=by
 rw [ntz,if_neg (by omega),if_pos (by omega)]
theorem zlg {n:Nat} (h:0<n):ntz (2*n)=ntz n+1:=by
 rw [ntz,if_neg (by omega),if_neg (by omega),Nat.mul_div_cancel_left _ (by omega)]
theorem znQ (t m:Nat):ntz (2 ^ t*(2*m+1))=t:=by
 induction t with
 | zero=>rw [Nat.pow_zero,Nat.one_mul,znn]
 | succ t ih=>
  rw [Nat.pow_succ,Nat.mul_comm (2 ^ t) 2,Nat.mul_assoc,zlg (Nat.mul_pos (Nat.two_pow_pos _) (by omega)),ih]
theorem zgx {n:Nat} (h:0<n):∃ m,n=2 ^ ntz n*(2*m+1):=by
 induction n using Nat.strongRecOn with
 | ind n ih=>
  rcases Nat.mod_two_eq_zero_or_one n with h0 | h1
  ·obtain ⟨m,hm⟩:=ih (n / 2) (by omega) (by omega)
   refine ⟨m,?_⟩
   have e:n=2*(n / 2):=by omega
   have e2:ntz n=ntz (n / 2)+1:=by rw [e,zlg (by omega)];congr 2;omega
   rw [e2,Nat.pow_succ,Nat.mul_comm (2 ^ _) 2,Nat.mul_assoc,←hm]
   omega
  ·refine ⟨n / 2,?_⟩
   have e:ntz n=0:=by rw [ntz,if_neg (by omega),if_pos h1]
   rw [e]
   omega
def zaJ (n:Nat):Nat:=if n=0 then 0 else Nat.log2 n+1
theorem zlQ {n k:Nat} (h1:2 ^ k≤n) (h2:n<2 ^ (k+1)):zaJ n=k+1:=by
 have hn:n≠0:=by have:=Nat.two_pow_pos k;omega
 rw [zaJ,if_neg hn]
 congr 1
 have a:=Nat.log2_self_le hn
 have b:=Nat.lt_log2_self (n:=n)
 have c:¬ k+1≤n.log2:=fun hh=>by have:=Nat.pow_le_pow_right (n:=2) (by omega) hh;omega
 have d:¬ n.log2+1≤k:=fun hh=>by have:=Nat.pow_le_pow_right (n:=2) (by omega) hh;omega
 omega
theorem zeN (n:Nat):n<2 ^ zaJ n:=by
 by_cases h:n=0
 ·subst h;simp [zaJ]
 ·rw [zaJ,if_neg h];exact Nat.lt_log2_self
theorem zeO {n:Nat} (h:0<n):2 ^ (zaJ n - 1)≤n:=by
 rw [zaJ,if_neg (by omega),Nat.add_sub_cancel];exact Nat.log2_self_le (by omega)
theorem zgL {n:Nat} (h:0<n):0<zaJ n:=by rw [zaJ,if_neg (by omega)];omega
theorem zc3 {l:List Nat}:∀ (i:Nat),(∀ j,j<i→l.getD j 0=0)→val (l.take i)=0
 | 0,_=>by simp
 | i+1,h=>by rw [zae,zc3 i (fun j hj=>h j (by omega)),h i (by omega),Nat.mul_zero]
theorem zml {x:Nat} (hx:0<x) (i:Nat) (hi:i<(digs x).length) (hz:∀ j,j<i→(digs x).getD j 0=0) (h0:(digs x).getD i 0=0):i+1<(digs x).length:=by
 rcases Nat.lt_or_ge (i+1) (digs x).length with h | h
 ·exact h
 ·exfalso
  have e:=zc3 (l:=digs x) (i+1) (fun j hj=>by
   rcases Nat.lt_or_ge j i with h1 | h1
   ·exact hz j h1
   ·obtain rfl:j=i:=by omega
    exact h0)
  rw [List.take_of_length_le h,zal] at e
  omega
theorem zm2 {x:Nat} (i:Nat) (hi:i<(digs x).length):x=val ((digs x).take i)+B ^ i*((digs x).getD i 0+B*val ((digs x).drop (i+1))):=by
 have h:=zaw (digs x) i (by omega)
 rw [zal,List.drop_eq_getElem_cons hi,val_cons,←getD_in hi] at h
 exact h
theorem zku {x:Nat} (hx:0<x) (i:Nat) (hi:i<(digs x).length) (hz:∀ j,j<i→(digs x).getD j 0=0) (z m c:Nat) (hg:(digs x).getD i 0=z) (hm:z=2 ^ c*(2*m+1)) (hc:c<64) :
  ntz x=64*i+c:=by
 have _:=hx
 have h:=zm2 i hi
 rw [zc3 i hz,Nat.zero_add,hg,hm] at h
 generalize val ((digs x).drop (i+1))=y at h
 have e:2 ^ c*(2*m+1)+B*y=2 ^ c*(2*(m+2 ^ (63 - c)*y)+1):=by
  have hb:B=2 ^ c*(2*2 ^ (63 - c)):=by
   rw [zeq,←Nat.pow_succ',←Nat.pow_add]
   congr 1
   omega
  rw [hb,Nat.mul_assoc,←Nat.mul_add,Nat.mul_add 2 m,Nat.mul_assoc 2]
  congr 1
  omega
 rw [e,zeq,←Nat.pow_mul,←Nat.mul_assoc,←Nat.pow_add] at h
 rw [h,znQ]
theorem zfc {x:Nat} (hx:0<x) (i:Nat) (hi:i+1=(digs x).length) (z b:Nat) (hg:(digs x).getD i 0=z) (hb:1≤b) (h1:2 ^ (b - 1)≤z) (h2:z<2 ^ b) :
  zaJ x=64*i+b:=by
 have _:=hx
 have h:=zm2 (x:=x) i (by omega)
 rw [hg,List.drop_of_length_le (by omega),val_nil,Nat.mul_zero,Nat.add_zero] at h
 have h3:=zbk ((zap x).take i)
 rw [List.length_take,Nat.min_eq_left (by omega)] at h3
 generalize val ((digs x).take i)=y at *
 have h4:B ^ i*z+B ^ i≤B ^ i*2 ^ b:=by
  have:=Nat.mul_le_mul_left (B ^ i) h2
  rwa [Nat.mul_succ] at this
 have h5:=Nat.mul_le_mul_left (B ^ i) h1
 have e:B ^ i=2 ^ (64*i):=by rw [zeq,←Nat.pow_mul]
 rw [e,←Nat.pow_add] at h4 h5
 rw [e] at h h3
 rw [show 64*i+b=64*i+b - 1+1 from by omega]
 apply zlQ
 ·rw [show 64*i+b - 1=64*i+(b - 1) from by omega];omega
 ·rw [show 64*i+b - 1+1=64*i+b from by omega];omega
end Go.Proofs.YteajibbphcfmeaaGreatDoor.Bn
namespace Go.Proofs.YteajibbphcfmeaaGreatDoor
open Go.RowKit Bn
theorem zmY (o f r:Nat) (hr:r≤64) (_hf:f<18446744073709551616) (ho:o<2 ^ r) :
  bits BinOp.or IntKind.u64 (o:Int) (IntKind.u64.wrap ((f:Int)*2 ^ r))=((o+f*2 ^ r % B:Nat):Int):=by
 have aC:f*2 ^ r % B<18446744073709551616:=Nat.mod_lt _ zaL
 have e1:IntKind.u64.wrap ((f:Int)*2 ^ r)=((f*2 ^ r % B:Nat):Int):=by
  rw [IntKind.wrap_u64,Int.natCast_emod,Int.natCast_mul,Int.natCast_pow]
  rfl
 have aA:o<18446744073709551616:=by
  have:=zmT f r (by omega)
  have e:B=18446744073709551616:=rfl
  omega
 rw [e1,bits_or_u64_nat o _ aA aC,zhJ f r (by omega),Nat.or_comm,←Nat.two_pow_add_eq_or_of_lt ho,Nat.add_comm]
theorem zfr (f k:Nat):(f:Int) / 2 ^ k=((f / 2 ^ k:Nat):Int):=by
 rw [Int.natCast_ediv,Int.natCast_pow];rfl
set_option maxHeartbeats 1000000 in
set_option maxRecDepth 100000 in
theorem zau (A:Option Addr) (n c x s:Nat) (w:World) (ha:NatS w w.heap.size A n c x) (hn:n≤1099511627776) (hs:s≤1099511627776) :
  Calls Tryz.prog 103 #[.slice A n c,.int .i64 s] w (zbX w (x*2 ^ s)):=by
 obtain ⟨i0,aU,aZ,aS,aT⟩:=info_parts zb2
 have aR:=ha.len
 have hA:=Lib.hid aR
 clear aR
 have h1:=ha.nc
 have h2:=ha.cm
 unfold maxLen at h2
 obtain ⟨p,hp⟩:∃ p,s / 64=p:=⟨_,rfl⟩
 obtain ⟨r,hr⟩:∃ r,s % 64=r:=⟨_,rfl⟩
 have aQ:s=64*p+r:=by omega
 have bA:r<64:=by omega
 have bB:p≤1099511627776:=by omega
 have e1:(s:Int) / 64=(p:Int):=by omega
 have e2:(s:Int) % 64=(r:Int):=by omega
 have HS:=Lib.hid aQ
 clear aQ hp hr
 go_enter Tryz.func103,Tryz.ntmps103
 go_wp2_with (at_make;refine wpList_make_full _ rfl _ _ 89 rfl w.heap.size 120 i0 (.int .u64 0) 1 Tryz.underlying89 aU aZ aS _ _ _ _ (n+p+1) rfl rfl (by omega) (by omega) ?b2 ?b3 (Nat.le_refl _) ?_)
 case b2=>rw [aT];omega
 case b3=>unfold maxLen;omega
 intro w0 aD aC
 have aG:Below w.heap.size w w0:=(Below.refl _ _).grown aC (Nat.le_refl _) (fun k h=>by cases h)
 have aH:=zav.made aD
 clear aD aC e1 e2
 go_wp2
 go_loopw [22] (fun s wr=>∃ i:Nat,i≤n∧s = .int .i64 i∧∃ ls,zav wr w.heap.size w.heap.size (n+p+1) (n+p+1) ls∧Wf ls∧Hid (val ls=val ((digs x).take i)*2 ^ r*B ^ p)∧Hid (∀ t,i+p<t→ls.getD t 0=0)∧Hid (ls.getD (i+p) 0<2 ^ r)∧Below w.heap.size w wr) (fun s _=>n - (intOf s).toNat)
 case atStart=>exact ⟨0,by omega,rfl,_,aH,Wf.replicate _,by simp [Hid,zaR],fun t _=>zcj _ _,by rw [Hid,zcj];exact Nat.two_pow_pos r,aG⟩
 case round=>
  obtain ⟨i,hi,rfl,ls,aA,aN,aF,hz,ho,aE⟩:=hrel
  by_cases hin:i<n
  ·obtain ⟨ad,rfl,bC,aW⟩:=(ha.below aE).words.word (k:=i) hin
   have aJ:=zaD (zap x) i
   obtain ⟨f,aM⟩:∃ f,(digs x).getD i 0=f:=⟨_,rfl⟩
   rw [aM] at aW aJ
   have HF:=Lib.hid aM
   clear aM
   have aY:=aA.cell (i+p) (by omega)
   have bD:=aA.free (i+p)
   have aL:=aA.cell (i+p+1) (by omega)
   have aV:=aA.free (i+p+1)
   obtain ⟨o,aK⟩:∃ o,ls.getD (i+p) 0=o:=⟨_,rfl⟩
   rw [aK] at aY
   have HO:=Lib.hid aK
   clear aK
   generalize ls.getD (i+p+1) 0=o1 at aL
   go_wp2
   go_region
   go_wp2
   go_roundw
   case rel=>
    have aI:=(aA.set (i+p) (o+f*2 ^ r % B)).set (i+p+1) (f / 2 ^ (64 - r))
    have aO:=ho.out
    rw [HO.out] at aO
    rw [zmY o f r (by omega) aJ aO,zfr]
    have aP:i+p+1<ls.length:=by rw [aA.len];omega
    have bE:=zmT f r (by omega)
    refine ⟨i+1,by omega,by go_num,_,aI,(aN.set _ ?_).set _ ?_,?_,?_,?_,?_⟩
    ·omega
    ·exact Nat.lt_of_le_of_lt (Nat.div_le_self _ _) aJ
    ·exact zj4 ls (digs x) i p r f o aP (by omega) HF.out HO.out (hz.out _ (by omega)) aF.out
    ·intro t ht
     rw [zaH _ _ _ _ (by omega),zaH _ _ _ _ (by omega)]
     exact hz.out t (by omega)
    ·rw [Hid,show i+1+p=i+p+1 from by omega,zcx _ _ _ (by simpa using aP)]
     exact zm0 f r (by omega) aJ
    ·exact ((aE.setCell (p:=⟨w.heap.size,i+p,none⟩) (Nat.le_refl _) _).setCell (p:=⟨w.heap.size,i+p+1,none⟩) (Nat.le_refl _) _).drew
   case measure=>simp [intOf]<;>omega
  ·obtain rfl:i=n:=by omega
   have hv:val ls=x*2 ^ s:=by
    rw [aF.out,List.take_of_length_le (by rw [hA.out];exact Nat.le_refl _),zal]
    exact zlP x s p r HS.out
   have ht:=zc0 (some ⟨w.heap.size,0,none⟩) (i+p+1) (i+p+1) ls wr aA.words aN (Nat.le_refl _) (by unfold maxLen;omega)
   rw [hv] at ht
   have HC:=Lib.hid ht
   clear ht hv
   go_wp2_with fail
   refine HC.out.mono ?_
   rintro e w1 ⟨m,rfl,aX,rfl⟩
   go_wp2
   go_ret
   exact ⟨_,m,_,rfl,aX,aE⟩
theorem ziV (T A:Option Addr) (nt ct n c s:Nat) (w:World) (_hn:n≤maxLen) (hs:s≤1099511627776) (hp:n≤s / 64) :
  Calls Tryz.prog 175 #[.slice T nt ct,.slice A n c,.int .i64 s] w fun e w'=>e = .returned (.slice none 0 0)∧w=w':=by
 unfold maxLen at _hn
 obtain ⟨p,hq⟩:∃ p,s / 64=p:=⟨_,rfl⟩
 rw [hq] at hp
 have e1:(s:Int) / 64=(p:Int):=by omega
 clear hq
 go_enter Tryz.func175,Tryz.ntmps175
 go_wp2
 go_ret
 exact ⟨rfl,rfl⟩
def zoc (w wr:World) (base g nt ct:Nat) (lt la:List Nat) (same:Prop) (p r k:Nat):Prop:=
 ∃ ls,zav wr base g nt ct ls∧Wf ls∧val (ls.take k)*2 ^ r+la.getD p 0 % 2 ^ r=val ((la.drop p).take k)+B ^ k*(la.getD (p+k) 0 % 2 ^ r)∧(same→∀ j,k≤j→ls.getD j 0=lt.getD j 0)∧w.grownBy wr (some g)
set_option maxHeartbeats 4000000 in
set_option maxRecDepth 100000 in
theorem zeZ (A:Option Addr) (base g nt ct n c x s:Nat) (lt:List Nat) (w:World) (same:Prop) (ht:zav w base g nt ct lt) (hlt:Wf lt) (ha:NatS w w.heap.size A n c x)
  (hAs:((0<n→Off A g)∧¬ same)∨(A=some ⟨g,0,none⟩∧lt=digs x∧same)) (hnt:n≤nt) (hn:n≤1099511627776) (hs:s≤1099511627776) (hpn:s / 64<n) :
  Calls Tryz.prog 175 #[.slice (some ⟨g,0,none⟩) nt ct,.slice A n c,.int .i64 s] w fun e w'=>∃ m,e = .returned (.slice (some ⟨g,0,none⟩) m ct)∧zav w' base g m ct (digs (x / 2 ^ s))∧w.grownBy w' (some g):=by
 have aX:=ha.len
 have hA:=Lib.hid aX
 clear aX
 have h1:=ha.nc
 have h2:=ha.cm
 have h5:=ht.caps
 unfold maxLen at h2 h5
 obtain ⟨h5,h6⟩:=h5
 have HT:=Lib.hid ht
 have aZ:=Lib.hid hAs
 clear ht hAs
 obtain ⟨p,hp⟩:∃ p,s / 64=p:=⟨_,rfl⟩
 obtain ⟨r,hr⟩:∃ r,s % 64=r:=⟨_,rfl⟩
 have aW:s=64*p+r:=by omega
 have aH:r<64:=by omega
 rw [hp] at hpn
 have e1:(s:Int) / 64=(p:Int):=by omega
 have e2:(s:Int) % 64=(r:Int):=by omega
 have e3:s % 64=r:=hr
 have HS:=Lib.hid aW
 clear aW hp hr
 go_enter Tryz.func175,Tryz.ntmps175
 go_wp2
 simp only [e2]
 clear e1 e2 e3
 go_loopw [9] (fun sl wr=>∃ i:Nat,p≤i∧i≤n∧sl = .int .i64 i∧zoc w wr base g nt ct lt (digs x) same p r (i - p)) (fun sl _=>n - (intOf sl).toNat)
 case atStart=>
  refine ⟨p,Nat.le_refl _,by omega,rfl,?_⟩
  rw [Nat.sub_self]
  exact ⟨lt,HT.out,hlt,by simp,fun _ _ _=>rfl,World.grownBy.refl w _⟩
 case round=>
  obtain ⟨i,bI,bE,rfl,ls,aA,aL,aF,aV,aT⟩:=hrel
  have HV:=Lib.hid aF
  have HM:=Lib.hid aV
  clear aF aV
  by_cases hin:i<n
  ·have aI:∀ k,i≤k→k<n→∃ ad,A=some ad∧wr.cell? (ad.add k)=some (.int .u64 (((digs x).getD k 0:Nat):Int)):=by
    intro k bJ bB
    rcases aZ.out with ⟨ho,_⟩ | ⟨aE,aP,hs⟩
    ·obtain ⟨ad,e,_,hc⟩:=(ha.words.kept aT (Nat.le_refl _) ho).word (k:=k) bB
     exact ⟨ad,e,hc⟩
    ·refine ⟨_,aE,?_⟩
     have:=aA.cell k (by omega)
     rw [HM.out hs k (by omega),aP] at this
     have e0:(⟨g,0,none⟩:Addr).add k=⟨g,k,none⟩:=by
      unfold Addr.add
      by_cases hj:k=0<;>simp [hj]
     rw [e0];exact this
   obtain ⟨ad,aE,bC⟩:=aI i (Nat.le_refl _) hin
   have bH:i - p<ls.length:=by rw [aA.len];omega
   have bF:=aA.cell (i - p) (by omega)
   have bK:=aA.free (i - p)
   have aQ:=zaD (zap x) i
   have aY:=zaD (zap x) (i+1)
   obtain ⟨z,aJ⟩:∃ z,(digs x).getD i 0=z:=⟨_,rfl⟩
   obtain ⟨z',aD⟩:∃ z',(digs x).getD (i+1) 0=z':=⟨_,rfl⟩
   rw [aJ] at bC aQ
   rw [aD] at aY
   generalize ls.getD (i - p) 0=old at bF
   have ht:z / 2 ^ r<2 ^ (64 - r):=by
    rw [Nat.div_lt_iff_lt_mul (Nat.two_pow_pos _),Nat.mul_comm,←zdN r (by omega)];exact aQ
   have aN:Hid (bits BinOp.or IntKind.u64 ((z / 2 ^ r:Nat):Int) (IntKind.u64.wrap ((z':Int)*2 ^ (64 - r)))=((z / 2 ^ r+z'*2 ^ (64 - r) % B:Nat):Int)):=
    zmY (z / 2 ^ r) z' (64 - r) (by omega) aY ht
   have aO:=(zig z z' r aH aQ).1
   obtain ⟨t,aK⟩:∃ t,z / 2 ^ r+z'*2 ^ (64 - r) % B=t:=⟨_,rfl⟩
   rw [aK] at aN aO
   have HP:Hid (val ((ls.set (i - p) t).take (i+1 - p))*2 ^ r+(digs x).getD p 0 % 2 ^ r=val (((digs x).drop p).take (i+1 - p))+B ^ (i+1 - p)*((digs x).getD (p+(i+1 - p)) 0 % 2 ^ r)):=by
    rw [show i+1 - p=i - p+1 from by omega]
    exact zlt ls (digs x) p (i - p) r t bH aH (zap x) (by rw [show p+(i - p)=i from by omega,aJ,aD,aK]) HV.out
   have aU:Hid (same→∀ j,i+1 - p≤j→(ls.set (i - p) t).getD j 0=lt.getD j 0):=fun hs j hj=>by
    rw [←HM.out hs j (by omega),zaH _ _ _ _ (by omega)]
   have HG:Hid (w.grownBy ((wr.setCell ⟨g,i - p,none⟩ (.int .u64 t)).drew) (some g)):=zla (zaU aT (p:=⟨g,i - p,none⟩) (.inl rfl) _)
   have HR:Hid (zav ((wr.setCell ⟨g,i - p,none⟩ (.int .u64 t)).drew) base g nt ct (ls.set (i - p) t)):=(aA.set (i - p) t)
   by_cases hin1:i+1<n
   ·obtain ⟨aS,aC,aM⟩:=aI (i+1) (by omega) hin1
    have aG:aS=ad:=by rw [aE] at aC;injection aC with h;exact h.symm
    subst aG
    rw [aD] at aM
    subst aE
    have bG:wr.cell? ⟨aS.block,aS.off+(i+1),none⟩=some (.int .u64 (z':Int)):=by simpa [Addr.add] using aM
    clear aC aI aJ aD aK ht aM
    go_wp2
    go_region
    go_wp2
    go_roundw
    case rel=>
     rw [zfr,aN.out]
     exact ⟨i+1,by omega,by omega,by go_num,_,HR.out,aL.set _ aO,HP.out,aU.out,HG.out⟩
    case measure=>simp [intOf]<;>omega
   ·have bA:z'=0:=by rw [←aD];exact zbG (by rw [hA.out];omega)
    subst bA
    subst aE
    clear aI aJ aD aK ht
    go_wp2
    go_region
    go_wp2
    go_roundw
    case rel=>
     have aR:bits BinOp.or IntKind.u64 ((z / 2 ^ r:Nat):Int) 0=(t:Int):=by
      have h:=aN.out
      rw [show ((0:Nat):Int)*2 ^ (64 - r)=0 from by simp,show IntKind.u64.wrap 0=0 from by decide] at h
      exact h
     rw [zfr,aR]
     exact ⟨i+1,by omega,by omega,by go_num,_,HR.out,aL.set _ aO,HP.out,aU.out,HG.out⟩
    case measure=>simp [intOf]<;>omega
  ·obtain rfl:i=n:=by omega
   have hv:val (ls.take (i - p))=x / 2 ^ s:=
    zlS ls (digs x) x s p r (i - p) HS.out rfl (by rw [hA.out];omega) (by rw [hA.out]) HV.out
   have ht:=zbP base g (i - p) ct (ls.take (i - p)) wr (aA.take (by omega)) (aL.take _)
   rw [hv] at ht
   have HC:=Lib.hid ht
   clear ht hv
   go_wp2_with fail
   refine HC.out.mono ?_
   rintro e w1 ⟨m,rfl,bD,rfl⟩
   go_wp2
   go_ret
   exact ⟨m,rfl,bD,aT⟩
set_option maxHeartbeats 1000000 in
set_option maxRecDepth 100000 in
theorem zaO (A:Option Addr) (n c x s:Nat) (w:World) (ha:NatS w w.heap.size A n c x) (hn:n≤1099511627776) (hs:s≤1099511627776) :
  Calls Tryz.prog 172 #[.slice A n c,.int .i64 s] w fun e w'=>Below w.heap.size w w'∧zlf w.heap.size (x / 2 ^ s) e w':=by
 obtain ⟨i0,aK,aG,aF,aJ⟩:=info_parts zb2
 go_enter Tryz.func172,Tryz.ntmps172
 go_wp2_with (at_make;refine wpList_make_full _ rfl _ _ 89 rfl w.heap.size 120 i0 (.int .u64 0) 1 Tryz.underlying89 aK aG aF _ _ _ _ n rfl rfl (by omega) (by omega) ?b2 ?b3 (Nat.le_refl _) ?_)
 case b2=>rw [aJ];omega
 case b3=>unfold maxLen;omega
 intro w0 aD aC
 have aA:Below w.heap.size w w0:=(Below.refl _ _).grown aC (Nat.le_refl _) (fun k h=>by cases h)
 have aE:=zav.made aD
 clear aD aC
 by_cases hp:n≤s / 64
 ·have hz:x / 2 ^ s=0:=zmq x s (s / 64) (by omega) (by rw [ha.len];exact hp)
  have hc:=ziV (some ⟨w.heap.size,0,none⟩) A n n n c s w0 (by unfold maxLen;omega) hs hp
  have HZ:=Lib.hid hz
  clear hz
  go_wp2_with fail
  refine hc.mono ?_
  rintro e w1 ⟨rfl,rfl⟩
  go_wp2
  go_ret
  exact ⟨aA,.inl ⟨rfl,HZ.out⟩⟩
 ·have hc:=zeZ A w.heap.size w.heap.size n n n c x s _ w0 False aE (Wf.replicate n) (ha.later aA) (.inl ⟨ha.off (Nat.le_refl _),id⟩) (Nat.le_refl _) hn hs (by omega)
  go_wp2_with fail
  refine hc.mono ?_
  rintro e w1 ⟨m,rfl,aH,aI⟩
  go_wp2
  go_ret
  exact ⟨aA.grown aI aA.size (fun k hk=>by cases hk;exact Nat.le_refl _),.inr ⟨w.heap.size,m,n,rfl,aH⟩⟩
structure Tabs (w:World):Prop where
 tz:TabAt 3 Lib.deBruijn64tab w
 pow:Lib.TabIs Tryz.prog w "internal/strconv.uint64pow10" .u64 Lib.pow10Tab
 maxl:∃ m:Int,w.cell? ⟨2,0,none⟩=some (.int .i64 m)
 prec:w.cell? ⟨1,0,none⟩=some (.int .i64 48)∧w.cell? ⟨1,1,none⟩=some (.int .i64 96)∧w.cell? ⟨1,2,none⟩=some (.int .i64 192)
theorem zeP {w:World} {p:Addr} {v:Value} (h:w.cell? p=some v):p.block<w.heap.size:=by
 rcases Nat.lt_or_ge p.block w.heap.size with h1 | h1
 ·exact h1
 ·exfalso
  unfold World.cell? at h
  rw [Array.getElem?_eq_none h1] at h
  simp at h
theorem zhM {w w':World} {n:String} {k:IntKind} {zs:List Int} (h:Lib.TabIs Tryz.prog w n k zs) (hb:Below w.heap.size w w'):Lib.TabIs Tryz.prog w' n k zs:=by
 cases hg:Tryz.prog.globalNamed n with
 | none=>unfold Lib.TabIs World.var? at h;rw [hg] at h;cases h
 | some g=>
  refine var?_below hb hg ?_ h
  unfold Lib.TabIs World.var? at h
  rw [hg] at h
  simp only [Option.bind_some] at h
  rcases Nat.lt_or_ge g w.heap.size with h1 | h1
  ·exact h1
  ·rw [Array.getElem?_eq_none h1] at h;cases h
theorem Tabs.later {w w':World} (h:Tabs w) (hb:Below w.heap.size w w'):Tabs w' where
 tz:=fun j hj=>(hb.cell (zeP (h.tz j hj))).trans (h.tz j hj)
 pow:=zhM h.pow hb
 maxl:=h.maxl.imp fun _ hm=>(hb.cell (zeP hm)).trans hm
 prec:=⟨(hb.cell (zeP h.prec.1)).trans h.prec.1,(hb.cell (zeP h.prec.2.1)).trans h.prec.2.1,(hb.cell (zeP h.prec.2.2)).trans h.prec.2.2⟩
theorem Tabs.only4 {w w1 w':World} {g:Nat} (h:Tabs w) (hb:Below w.heap.size w w1) (hg:w1.grownBy w' (some g)) (hle:w.heap.size≤g):Tabs w':=
 h.later (hb.grown hg hb.size fun k e=>by cases e;exact hle)
theorem tz64 (x:Nat) (w:World) (hT:Tabs w) (hx:x<18446744073709551616) :
  Calls Tryz.prog 199 #[.int .u64 x] w fun e w'=>e = .returned (.int .i64 (Lib.ctz 64 x))∧w'=w:=
 Any7.bits_TrailingZeros64 Tryz.lays29 x hx w fun _=>hT.tz
theorem zlY {x:Nat} (h0:0<x) (hx:x<18446744073709551616):∃ m,x=2 ^ Lib.ctz 64 x*(2*m+1)∧Lib.ctz 64 x<64:=by
 have:=Lib.ctzFrom_spec 64 x h0 hx
 rwa [Lib.ctz,if_neg (by omega)]
set_option maxHeartbeats 1000000 in
theorem zct (A:Option Addr) (n c x:Nat) (w:World) (hT:Tabs w) (ha:NatS w w.heap.size A n c x) (hx:0<x) (hn:n≤1099511627776) :
  Calls Tryz.prog 173 #[.slice A n c] w fun e w'=>e = .returned (.int .i64 (ntz x))∧w=w':=by
 have hA:=Lib.hid ha.len
 have h1:=ha.nc
 have h2:=ha.cm
 unfold maxLen at h2
 have aD:0<n:=by rw [←ha.len];exact zan hx
 go_enter Tryz.func173,Tryz.ntmps173
 go_wp2
 go_loop [3] (fun s=>∃ i:Nat,i<n∧s = .int .i64 i∧Hid (∀ j,j<i→(digs x).getD j 0=0)) (fun s=>n - (intOf s).toNat)
 case atStart=>exact ⟨0,aD,rfl,fun j hj=>by omega⟩
 case round=>
  obtain ⟨i,hi,rfl,hz⟩:=hrel
  obtain ⟨ad,rfl,aH,aE⟩:=ha.words.word (k:=i) hi
  have aC:=zaD (zap x) i
  obtain ⟨z,hg⟩:∃ z,(digs x).getD i 0=z:=⟨_,rfl⟩
  rw [hg] at aE aC
  by_cases h0:z=0
  ·subst h0
   have aF:i+1<n:=by
    have:=zml hx i (by rw [hA.out];exact hi) hz.out hg
    rw [hA.out] at this
    exact this
   have HG:Hid (∀ j,j<i+1→(digs x).getD j 0=0):=fun j hj=>by
    rcases Nat.lt_or_ge j i with h | h
    ·exact hz.out j h
    ·obtain rfl:j=i:=by omega
     exact hg
   clear hg
   go_wp2
   go_round
   case rel=>exact ⟨i+1,aF,by go_num,HG.out⟩
   case measure=>simp [intOf]<;>omega
  ·have aG:(((z:Nat):Int)==0)=false:=by rw [beq_eq_false_iff_ne];omega
   obtain ⟨m,hm,aA⟩:=zlY (x:=z) (by omega) aC
   have hr:ntz x=64*i+Lib.ctz 64 z:=zku hx i (by rw [hA.out];exact hi) hz.out z m _ hg hm aA
   have ht:=tz64 z w hT aC
   generalize Lib.ctz 64 z=cz at *
   have HR:=Lib.hid hr
   clear hr hg hm
   go_wp2_with fail
   refine ht.mono ?_
   rintro e w1 ⟨rfl,rfl⟩
   go_wp2
   go_ret
   exact ⟨by rw [HR.out];simp,rfl⟩
set_option maxHeartbeats 1000000 in
theorem zcQ (A:Option Addr) (n c x:Nat) (w:World) (ha:NatS w w.heap.size A n c x) (hn:n≤1099511627776) :
  Calls Tryz.prog 147 #[.slice A n c] w fun e w'=>e = .returned (.int .i64 (zaJ x))∧w=w':=by
 have hA:=Lib.hid ha.len
 have h1:=ha.nc
 have h2:=ha.cm
 have hz:=zb9 A n c w (by omega)
 unfold maxLen at h2
 by_cases h0:n=0
 ·subst h0
  obtain rfl:x=0:=za1.1 hA.out
  go_enter Tryz.func147,Tryz.ntmps147
  go_wp2_with fail
  refine hz.mono ?_
  rintro e w1 ⟨rfl,rfl⟩
  go_wp2
  go_ret
  exact ⟨by simp [zaJ],rfl⟩
 ·have hx:0<x:=by
   rcases Nat.eq_zero_or_pos x with rfl | h
   ·exact absurd (by rw [←hA.out,digs_zero];rfl) h0
   ·exact h
  obtain ⟨ad,rfl,aF,aC⟩:=ha.words.word (k:=n - 1) (by omega)
  have aA:=zaD (zap x) (n - 1)
  obtain ⟨z,hg⟩:∃ z,(digs x).getD (n - 1) 0=z:=⟨_,rfl⟩
  rw [hg] at aC aA
  have aD:z≠0:=by
   have:=zcB x (by rw [hA.out];omega)
   rw [←hg,Bn.getD_in (by rw [hA.out];omega)]
   simpa only [hA.out] using this
  obtain ⟨b1,b2,b3⟩:=Lib.bitLenAux_bounds 64 z (by simpa using aA) aD
  have b4:=Lib.bitLen_le z 64 (Nat.le_refl _) (by simpa using aA)
  have hl:=Tryz.bits_LeadingZeros64 (z:Int) w (by omega) (by omega)
  rw [Int.toNat_natCast] at hl
  have eb:Lib.bitLen z=Lib.bitLenAux 64 z:=rfl
  rw [←eb] at b1 b2 b3
  generalize Lib.bitLen z=b at *
  have hr:zaJ x=64*(n - 1)+b:=zfc hx (n - 1) (by rw [hA.out];omega) z b hg b1 b2 b3
  have HR:=Lib.hid hr
  have aE:(((n:Nat):Int)==0)=false:=by rw [beq_eq_false_iff_ne];omega
  clear hr hg b2 b3 eb
  go_enter Tryz.func147,Tryz.ntmps147
  go_wp2_with fail
  refine hz.mono ?_
  rintro e w1 ⟨rfl,rfl⟩
  go_wp2_with fail
  refine hl.mono ?_
  rintro e w1 ⟨rfl,rfl⟩
  go_wp2
  go_ret
  exact ⟨by rw [HR.out];show Ending.returned (Value.int .i64 _)=Ending.returned (Value.int .i64 _);congr 2;omega,rfl⟩
end Go.Proofs.YteajibbphcfmeaaGreatDoor
namespace Go.Proofs.YteajibbphcfmeaaGreatDoor.Bn
set_option maxRecDepth 100000
section
variable {h U u Y y1 y0 q r:Nat}
theorem zgE (hu:u<h) (hUY:U<Y):(U*h+u) / Y<h:=by
 rw [Nat.div_lt_iff_lt_mul (by omega)]
 have:(U+1)*h≤Y*h:=Nat.mul_le_mul_right _ hUY
 rw [Nat.add_mul,Nat.one_mul] at this
 rw [Nat.mul_comm h Y]
 omega
theorem zeX (hu:u<h) (hY:Y=y1*h+y0) (h1:0<y1):(U*h+u) / Y≤U / y1:=by
 rw [Nat.le_div_iff_mul_le h1]
 have h2:(U*h+u) / Y*Y≤U*h+u:=Nat.div_mul_le_self _ _
 generalize (U*h+u) / Y=t at *
 rw [hY,Nat.mul_add,←Nat.mul_assoc] at h2
 generalize t*y1=a at *
 have h3:a*h<(U+1)*h:=by
  rw [Nat.add_mul,Nat.one_mul]
  generalize t*y0=c at *
  omega
 have:=Nat.lt_of_mul_lt_mul_right h3
 omega
theorem zhh (hu:u<h) (hUY:U<Y) (hY:Y=y1*h+y0) (hq:U=q*y1+r) (hc:h≤q∨h*r+u<q*y0):1≤q∧(U*h+u) / Y≤q - 1:=by
 have h1:1≤q:=by
  rcases hc with h' | h'
  ·omega
  ·rcases Nat.eq_zero_or_pos q with rfl | aA
   ·simp at h'
   ·exact aA
 refine ⟨h1,?_⟩
 rcases hc with h' | h'
 ·have:=zgE (U:=U) hu hUY
  omega
 ·have:(U*h+u) / Y<q:=by
   rw [Nat.div_lt_iff_lt_mul (by omega),hY,hq,Nat.mul_add,Nat.add_mul,←Nat.mul_assoc,Nat.mul_comm r h]
   omega
  omega
theorem ze4 (hY:Y=y1*h+y0) (hq:U=q*y1+r) (hY0:0<Y) (ht:(U*h+u) / Y≤q) (hc:q*y0≤h*r+u):q=(U*h+u) / Y:=by
 refine Nat.le_antisymm ?_ ht
 rw [Nat.le_div_iff_mul_le hY0,hY,hq,Nat.mul_add,Nat.add_mul,←Nat.mul_assoc,Nat.mul_comm r h]
 omega
theorem zfT (hUY:U<Y) (hY:Y=y1*h+y0) (h0:y0<h) (hq:U=q*y1+r) (ht:(U*h+u) / Y≤q) (hr:h≤r):q=(U*h+u) / Y:=by
 have aA:q<h:=by
  rcases Nat.lt_or_ge q h with h' | h'
  ·exact h'
  ·exfalso
   have:h*y1≤q*y1:=Nat.mul_le_mul_right _ h'
   rw [Nat.mul_comm h y1] at this
   omega
 refine ze4 hY hq (by omega) ht ?_
 have h2:q*y0≤h*r:=Nat.mul_le_mul (by omega) (by omega)
 omega
theorem zix (hq:U=q*y1+r) (h1:1≤q):U=(q - 1)*y1+(r+y1):=by
 obtain ⟨p,rfl⟩:∃ p,q=p+1:=⟨q - 1,by omega⟩
 rw [Nat.add_sub_cancel]
 rw [Nat.add_mul] at hq
 omega
end
theorem znW (g h hi lo y s Y u32 u10 u1 u0 q1 q0 U:Nat) (hg:g=h*h) (hY:Y=y*2 ^ s) (hy:0<y) (hu:u32*g+u10=(hi*g+lo)*2 ^ s) (h10:u10=u1*h+u0)
  (hq1:q1=(u32*h+u1) / Y) (hU:U=(u32*h+u1) % Y) (hq0:q0=(U*h+u0) / Y) :
  q1*h+q0=(hi*g+lo) / y∧(U*h+u0) % Y / 2 ^ s=(hi*g+lo) % y:=by
 have hp:=Nat.two_pow_pos s
 have aC:0<Y:=by rw [hY];exact Nat.mul_pos hy hp
 have e1:=Nat.div_add_mod (u32*h+u1) Y
 rw [←hq1,←hU] at e1
 have e2:=Nat.div_add_mod (U*h+u0) Y
 rw [←hq0] at e2
 have hr:=Nat.mod_lt (U*h+u0) aC
 generalize (U*h+u0) % Y=R at *
 have e3:(hi*g+lo)*2 ^ s=Y*(q1*h+q0)+R:=by
  rw [←hu,h10,Nat.mul_add,←Nat.mul_assoc,hg,←Nat.mul_assoc]
  have:Y*q1*h+U*h=(u32*h+u1)*h:=by rw [←Nat.add_mul,e1]
  rw [Nat.add_mul] at this
  generalize u32*h*h=a1 at *
  generalize Y*q1*h=a2 at *
  generalize U*h=a3 at *
  generalize u1*h=a4 at *
  generalize Y*q0=a5 at *
  omega
 generalize hi*g+lo=N at *
 generalize q1*h+q0=Q at *
 have e4:R=2 ^ s*(R / 2 ^ s):=by
  have aA:2 ^ s ∣ R:=by
   have h1:2 ^ s ∣ N*2 ^ s:=Nat.dvd_mul_left _ _
   rw [e3] at h1
   refine (Nat.dvd_add_right ?_).1 h1
   rw [hY,Nat.mul_assoc,Nat.mul_comm y,Nat.mul_assoc]
   exact Nat.dvd_mul_right _ _
  exact (Nat.mul_div_cancel' aA).symm
 generalize R / 2 ^ s = ρ at *
 have hρ : ρ < y:=by
  rw [e4,hY,Nat.mul_comm y] at hr
  exact Nat.lt_of_mul_lt_mul_left hr
 have e5:N=y*Q + ρ := by
  have:N*2 ^ s=(y*Q + ρ)*2 ^ s:=by
   rw [e3,e4,hY,Nat.add_mul,Nat.mul_comm (2 ^ s) ρ,Nat.mul_assoc,Nat.mul_assoc,Nat.mul_comm (2 ^ s) Q]
  exact Nat.eq_of_mul_eq_mul_right hp this
 rw [e5]
 refine ⟨?_,?_⟩
 ·rw [Nat.mul_add_div hy,Nat.div_eq_of_lt hρ,Nat.add_zero]
 ·rw [Nat.mul_add_mod,Nat.mod_eq_of_lt hρ]
theorem ziW (hi lo y s:Nat) (hs:s≤63) (hlo:lo<18446744073709551616) (hhy:hi<y) (hY:y*2 ^ s<18446744073709551616) :
  hi*2 ^ s % B=hi*2 ^ s∧hi*2 ^ s+lo / 2 ^ (64 - s)<y*2 ^ s∧lo / 2 ^ (64 - s)<2 ^ s ∧
   (hi*2 ^ s+lo / 2 ^ (64 - s))*18446744073709551616+lo*2 ^ s % B=(hi*18446744073709551616+lo)*2 ^ s:=by
 have h1:=zm0 lo s (by omega) hlo
 have h2:(hi+1)*2 ^ s≤y*2 ^ s:=Nat.mul_le_mul_right _ hhy
 rw [Nat.add_mul,Nat.one_mul] at h2
 have h4:hi*2 ^ s<18446744073709551616∧hi*2 ^ s+lo / 2 ^ (64 - s)<y*2 ^ s:=by
  generalize lo / 2 ^ (64 - s)=l at *
  generalize hi*2 ^ s=a at *
  generalize y*2 ^ s=b at *
  generalize 2 ^ s=c at *
  omega
 refine ⟨Nat.mod_eq_of_lt h4.1,h4.2,h1,?_⟩
 rw [zmZ lo s (by omega),Nat.add_mul,Nat.add_mul,Nat.add_assoc]
 have h3:=Nat.div_add_mod (lo*2 ^ s) B
 rw [Nat.mul_comm] at h3
 have e:B=18446744073709551616:=rfl
 rw [←e] at *
 rw [h3,Nat.mul_assoc,Nat.mul_assoc,Nat.mul_comm B]
end Go.Proofs.YteajibbphcfmeaaGreatDoor.Bn
