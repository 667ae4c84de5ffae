/- Plain mathematics: shifts of words. -/
import Derived.Test.YtbkgkoenppkhpaaGreatDoorGWords
import Derived.Shelf.Strings.Builder1
import Derived.Shelf.Strings.Builder2
import Derived.Shelf.Small.Bits
import Derived.Shelf.Small.Wraps
import Derived.Shelf.Strings.BuilderF
import Derived.Shelf.Strings.BuilderK
import Derived.Shelf.Strings.Builder2Cap
import Derived.Shelf.Strconv.Itoa0
import Derived.Shelf.Strconv.Itoa1
import Derived.Shelf.LaysM
import Derived.Shelf.Strconv.Itoa2
import Derived.Shelf.Strings.Search1
import Derived.Shelf.Strings.Search2
import Derived.Shelf.Strings.Cut
import Derived.Shelf.Strings.Shaped
import Derived.Shelf.Strings.Prefix
import Derived.Shelf.Bits.Mul64
import Derived.Shelf.Strings.Repeat
import Derived.Shelf.Strings.BuilderCap
import Derived.Ground.SlsfProg
import Derived.Shelf.SlSortCmp.Insertion
import Derived.Shelf.Spec.TrailingZeros
import Derived.Test.YtbkgkoenppkhpaaGreatDoorProg
namespace Go.Proofs.YtbkgkoenppkhpaaGreatDoor.Bn
theorem zfT:B=2 ^ 64:=by decide
theorem zd6 (r:Nat) (h:r≤64):B=2 ^ r*2 ^ (64 - r):=by rw [zfT,←Nat.pow_add];congr 1;omega
theorem znO (f r:Nat) (h:r≤64):f / 2 ^ (64 - r)=f*2 ^ r / B:=by
 rw [zd6 r h,Nat.mul_comm f,Nat.mul_div_mul_left _ _ (Nat.two_pow_pos r)]
theorem ziY (f r:Nat) (h:r≤64):f*2 ^ r % B=2 ^ r*(f % 2 ^ (64 - r)):=by
 rw [zd6 r h,Nat.mul_comm f,Nat.mul_mod_mul_left]
theorem znS (f r:Nat) (h:r≤64):f*2 ^ r % B+2 ^ r≤B:=by
 have h1:f % 2 ^ (64 - r)+1≤2 ^ (64 - r):=Nat.mod_lt _ (Nat.two_pow_pos _);have h2:=Nat.mul_le_mul_left (2 ^ r) h1;rw [←zd6 r h,Nat.mul_add,Nat.mul_one] at h2;rw [ziY f r h];exact h2
theorem znK (f r:Nat) (h:r≤64) (hf:f<B):f / 2 ^ (64 - r)<2 ^ r:=by
 rw [Nat.div_lt_iff_lt_mul (Nat.two_pow_pos _),←zd6 r h];exact hf
theorem zkV (l la:List Nat) (i p r f o:Nat) (hk:i+p+1<l.length) (hr:r≤64) (hf:la.getD i 0=f) (ho:l.getD (i+p) 0=o) (hz:l.getD (i+p+1) 0=0)
  (hinv:val l=val (la.take i)*2 ^ r*B ^ p) :
  val ((l.set (i+p) (o+f*2 ^ r % B)).set (i+p+1) (f / 2 ^ (64 - r)))=val (la.take (i+1))*2 ^ r*B ^ p:=by
 have h1:=zd5 l (i+p) (o+f*2 ^ r % B) (by omega);have h2:=zd5 (l.set (i+p) (o+f*2 ^ r % B)) (i+p+1) (f / 2 ^ (64 - r)) (by simpa using hk);rw [zaG _ _ _ _ (by omega),hz,Nat.mul_zero,Nat.add_zero] at h2;rw [ho,Nat.mul_add] at h1;have h3:B ^ (i+p+1)*(f / 2 ^ (64 - r))+B ^ (i+p)*(f*2 ^ r % B)=B ^ (i+p)*(f*2 ^ r):=by
  rw [znO f r hr,Nat.pow_succ,Nat.mul_assoc,←Nat.mul_add,Nat.div_add_mod]
 have h4:val (la.take (i+1))*2 ^ r*B ^ p=val (la.take i)*2 ^ r*B ^ p+B ^ (i+p)*(f*2 ^ r):=by
  rw [zaf,hf,Nat.add_mul,Nat.add_mul,Nat.pow_add]
  congr 1
  rw [Nat.mul_assoc (B ^ i) f,Nat.mul_assoc (B ^ i),Nat.mul_comm (f*2 ^ r) (B ^ p),←Nat.mul_assoc]
 rw [h4,h2];generalize B ^ (i+p+1)*(f / 2 ^ (64 - r))=a1 at *;generalize B ^ (i+p)*(f*2 ^ r % B)=a2 at *;generalize B ^ (i+p)*(f*2 ^ r)=a3 at *;generalize B ^ (i+p)*o=a4 at *;generalize val (la.take i)*2 ^ r*B ^ p=a5 at *;omega
theorem znq (x s p r:Nat) (h:s=64*p+r):x*2 ^ r*B ^ p=x*2 ^ s:=by
 rw [h,zfT,←Nat.pow_mul,Nat.mul_assoc,←Nat.pow_add]
 congr 2
 omega
theorem zjy (z z' r:Nat) (hr:r<64) (hz:z<B):z / 2 ^ r+z'*2 ^ (64 - r) % B<B ∧
  (z / 2 ^ r+z'*2 ^ (64 - r) % B)*2 ^ r+z % 2 ^ r=z+B*(z' % 2 ^ r):=by
 have e:z'*2 ^ (64 - r) % B=2 ^ (64 - r)*(z' % 2 ^ r):=by
  have:=ziY z' (64 - r) (by omega)
  rwa [show 64 - (64 - r)=r from by omega] at this
 have h1:z / 2 ^ r<2 ^ (64 - r):=by
  rw [Nat.div_lt_iff_lt_mul (Nat.two_pow_pos _),Nat.mul_comm,←zd6 r (by omega)];exact hz
 have h2:z' % 2 ^ r+1≤2 ^ r:=Nat.mod_lt _ (Nat.two_pow_pos _);have h3:=Nat.mul_le_mul_left (2 ^ (64 - r)) h2;have h4:=zd6 r (by omega);rw [Nat.mul_comm] at h4;rw [←h4,Nat.mul_add,Nat.mul_one] at h3;rw [e];refine ⟨by omega,?_⟩;have h5:2 ^ (64 - r)*(z' % 2 ^ r)*2 ^ r=B*(z' % 2 ^ r):=by
  rw [h4,Nat.mul_assoc,Nat.mul_assoc,Nat.mul_comm (z' % 2 ^ r)]
 have h6:=Nat.div_add_mod z (2 ^ r);rw [Nat.add_mul,h5,Nat.mul_comm (z / 2 ^ r)];omega
theorem zmm (l la:List Nat) (p k r t:Nat) (hk:k<l.length) (hr:r<64) (hw:Wf la)
  (ht:t=la.getD (p+k) 0 / 2 ^ r+la.getD (p+k+1) 0*2 ^ (64 - r) % B)
  (hinv:val (l.take k)*2 ^ r+la.getD p 0 % 2 ^ r=val ((la.drop p).take k)+B ^ k*(la.getD (p+k) 0 % 2 ^ r)) :
  val ((l.set k t).take (k+1))*2 ^ r+la.getD p 0 % 2 ^ r=val ((la.drop p).take (k+1))+B ^ (k+1)*(la.getD (p+(k+1)) 0 % 2 ^ r):=by
 have h1:=(zjy (la.getD (p+k) 0) (la.getD (p+k+1) 0) r hr (zaA hw _)).2;rw [←ht] at h1;have hd:(la.drop p).getD k 0=la.getD (p+k) 0:=by simp [List.getD,List.getElem?_drop]
 rw [zaF l k t hk,zaf,hd,Nat.add_mul,←Nat.add_assoc p k 1];have h2:B ^ k*t*2 ^ r+B ^ k*(la.getD (p+k) 0 % 2 ^ r)=B ^ k*la.getD (p+k) 0+B ^ (k+1)*(la.getD (p+k+1) 0 % 2 ^ r):=by
  rw [Nat.pow_succ,Nat.mul_assoc,Nat.mul_assoc,←Nat.mul_add,←Nat.mul_add,h1]
 generalize B ^ k*t*2 ^ r=a1 at *;generalize B ^ k*(la.getD (p+k) 0 % 2 ^ r)=a2 at *;generalize B ^ k*la.getD (p+k) 0=a3 at *;generalize B ^ (k+1)*(la.getD (p+k+1) 0 % 2 ^ r)=a4 at *;generalize val (l.take k)*2 ^ r=a5 at *;omega
theorem zfg {l:List Nat} (hw:Wf l) (p:Nat) (hp:p≤l.length):val (l.drop p)=val l / B ^ p:=by
 have h:=zav l p hp;have h2:=zbm (hw.take p);rw [List.length_take,Nat.min_eq_left hp] at h2;rw [h,Nat.add_mul_div_left _ _ (Nat.pow_pos zaO),Nat.div_eq_of_lt h2,Nat.zero_add]
theorem znE (l la:List Nat) (x s p r m:Nat) (h:s=64*p+r) (hla:la=digs x) (hp:p≤la.length) (hm:m=la.length - p)
  (hinv:val (l.take m)*2 ^ r+la.getD p 0 % 2 ^ r=val ((la.drop p).take m)+B ^ m*(la.getD (p+m) 0 % 2 ^ r)):val (l.take m)=x / 2 ^ s:=by
 subst hla;rw [zbU (l:=digs x) (k:=p+m) (by omega),Nat.zero_mod,Nat.mul_zero,Nat.add_zero,List.take_of_length_le (l:=(digs x).drop p) (by rw [List.length_drop];omega),zfg (zap x) p hp,zaj] at hinv;have e:x / 2 ^ s=x / B ^ p / 2 ^ r:=by
  rw [Nat.div_div_eq_div_mul,h,zfT,←Nat.pow_mul,←Nat.pow_add]
 have aA:=Nat.mod_lt ((digs x).getD p 0) (Nat.two_pow_pos r);rw [e,←hinv,Nat.mul_comm,Nat.mul_add_div (Nat.two_pow_pos r),Nat.div_eq_of_lt aA,Nat.add_zero]
theorem zns (x s p:Nat) (h:64*p≤s) (hp:(digs x).length≤p):x / 2 ^ s=0:=by
 rw [Nat.div_eq_zero_iff]
 right
 have h1:=zab x;have h2:B ^ (digs x).length≤B ^ p:=Nat.pow_le_pow_right zaO hp;have h3:B ^ p≤2 ^ s:=by rw [zfT,←Nat.pow_mul];exact Nat.pow_le_pow_right (by omega) h
 omega
def ntz (n:Nat):Nat:=if n=0 then 0 else if n % 2=1 then 0 else ntz (n / 2)+1
termination_by n
decreasing_by
 rename_i h _
 omega
theorem zn5 (m:Nat):ntz (2*m+1)=0:=by
 rw [ntz,if_neg (by omega),if_pos (by omega)]
theorem zmh {n:Nat} (h:0<n):ntz (2*n)=ntz n+1:=by
 rw [ntz,if_neg (by omega),if_neg (by omega),Nat.mul_div_cancel_left _ (by omega)]
theorem zod (t m:Nat):ntz (2 ^ t*(2*m+1))=t:=by
 induction t with
 | zero=>rw [Nat.pow_zero,Nat.one_mul,zn5]
 | succ t ih=>
  rw [Nat.pow_succ,Nat.mul_comm (2 ^ t) 2,Nat.mul_assoc,zmh (Nat.mul_pos (Nat.two_pow_pos _) (by omega)),ih]
theorem zg3 {n:Nat} (h:0<n):∃ m,n=2 ^ ntz n*(2*m+1):=by
 induction n using Nat.strongRecOn with
 | ind n ih=>
  rcases Nat.mod_two_eq_zero_or_one n with h0 | h1
  ·obtain ⟨m,hm⟩:=ih (n / 2) (by omega) (by omega)
   refine ⟨m,?_⟩;have e:n=2*(n / 2):=by omega
   have e2:ntz n=ntz (n / 2)+1:=by rw [e,zmh (by omega)];congr 2;omega
   rw [e2,Nat.pow_succ,Nat.mul_comm (2 ^ _) 2,Nat.mul_assoc,←hm];omega
  ·refine ⟨n / 2,?_⟩
   have e:ntz n=0:=by rw [ntz,if_neg (by omega),if_pos h1]
   rw [e];omega
def za0 (n:Nat):Nat:=if n=0 then 0 else Nat.log2 n+1
theorem zmQ {n k:Nat} (h1:2 ^ k≤n) (h2:n<2 ^ (k+1)):za0 n=k+1:=by
 have hn:n≠0:=by have:=Nat.two_pow_pos k;omega
 rw [za0,if_neg hn]
 congr 1
 have a:=Nat.log2_self_le hn;have b:=Nat.lt_log2_self (n:=n);have c:¬ k+1≤n.log2:=fun hh=>by have:=Nat.pow_le_pow_right (n:=2) (by omega) hh;omega
 have d:¬ n.log2+1≤k:=fun hh=>by have:=Nat.pow_le_pow_right (n:=2) (by omega) hh;omega
 omega
theorem zgP (n:Nat):n<2 ^ za0 n:=by
 by_cases h:n=0
 ·subst h;simp [za0]
 ·rw [za0,if_neg h];exact Nat.lt_log2_self
theorem zhb {n:Nat} (h:0<n):2 ^ (za0 n - 1)≤n:=by
 rw [za0,if_neg (by omega),Nat.add_sub_cancel];exact Nat.log2_self_le (by omega)
theorem zh5 {n:Nat} (h:0<n):0<za0 n:=by rw [za0,if_neg (by omega)];omega
theorem zc9 {l:List Nat}:∀ (i:Nat),(∀ j,j<i→l.getD j 0=0)→val (l.take i)=0
 | 0,_=>by simp
 | i+1,h=>by rw [zaf,zc9 i (fun j hj=>h j (by omega)),h i (by omega),Nat.mul_zero]
theorem zmY {x:Nat} (hx:0<x) (i:Nat) (hi:i<(digs x).length) (hz:∀ j,j<i→(digs x).getD j 0=0) (h0:(digs x).getD i 0=0):i+1<(digs x).length:=by
 rcases Nat.lt_or_ge (i+1) (digs x).length with h | h
 ·exact h
 ·exfalso
  have e:=zc9 (l:=digs x) (i+1) (fun j hj=>by
   rcases Nat.lt_or_ge j i with h1 | h1
   ·exact hz j h1
   ·obtain rfl:j=i:=by omega
    exact h0)
  rw [List.take_of_length_le h,zaj] at e;omega
theorem znU {x:Nat} (i:Nat) (hi:i<(digs x).length):x=val ((digs x).take i)+B ^ i*((digs x).getD i 0+B*val ((digs x).drop (i+1))):=by
 have h:=zav (digs x) i (by omega);rw [zaj,List.drop_eq_getElem_cons hi,val_cons,←getD_in hi] at h;exact h
theorem zlF {x:Nat} (hx:0<x) (i:Nat) (hi:i<(digs x).length) (hz:∀ j,j<i→(digs x).getD j 0=0) (z m c:Nat) (hg:(digs x).getD i 0=z) (hm:z=2 ^ c*(2*m+1)) (hc:c<64) :
  ntz x=64*i+c:=by
 have _:=hx;have h:=znU i hi;rw [zc9 i hz,Nat.zero_add,hg,hm] at h;generalize val ((digs x).drop (i+1))=y at h;have e:2 ^ c*(2*m+1)+B*y=2 ^ c*(2*(m+2 ^ (63 - c)*y)+1):=by
  have hb:B=2 ^ c*(2*2 ^ (63 - c)):=by
   rw [zfT,←Nat.pow_succ',←Nat.pow_add]
   congr 1
   omega
  rw [hb,Nat.mul_assoc,←Nat.mul_add,Nat.mul_add 2 m,Nat.mul_assoc 2]
  congr 1
  omega
 rw [e,zfT,←Nat.pow_mul,←Nat.mul_assoc,←Nat.pow_add] at h;rw [h,zod]
theorem zfE {x:Nat} (hx:0<x) (i:Nat) (hi:i+1=(digs x).length) (z b:Nat) (hg:(digs x).getD i 0=z) (hb:1≤b) (h1:2 ^ (b - 1)≤z) (h2:z<2 ^ b) :
  za0 x=64*i+b:=by
 have _:=hx;have h:=znU (x:=x) i (by omega);rw [hg,List.drop_of_length_le (by omega),val_nil,Nat.mul_zero,Nat.add_zero] at h;have h3:=zbm ((zap x).take i);rw [List.length_take,Nat.min_eq_left (by omega)] at h3;generalize val ((digs x).take i)=y at *;have h4:B ^ i*z+B ^ i≤B ^ i*2 ^ b:=by
  have:=Nat.mul_le_mul_left (B ^ i) h2
  rwa [Nat.mul_succ] at this
 have h5:=Nat.mul_le_mul_left (B ^ i) h1;have e:B ^ i=2 ^ (64*i):=by rw [zfT,←Nat.pow_mul]
 rw [e,←Nat.pow_add] at h4 h5;rw [e] at h h3;rw [show 64*i+b=64*i+b - 1+1 from by omega]
 apply zmQ
 ·rw [show 64*i+b - 1=64*i+(b - 1) from by omega];omega
 ·rw [show 64*i+b - 1+1=64*i+b from by omega];omega
end Go.Proofs.YtbkgkoenppkhpaaGreatDoor.Bn
namespace Go.Proofs
open Go.Shelf
def Tryz.lays170_ren:Go.Shelf.Ren:=⟨fun | 170=>198 | n=>n,fun | 70=>209 | 3=>3 | 0=>0 | 72=>212 | 37=>210 | 5=>5 | n=>n,fun | n=>n⟩
theorem Tryz.lays170:Go.Proofs.Lays.n170 Tryz.prog Tryz.lays170_ren:={
 mixed:=by kernel_rfl
 f170:=Tryz.func198.trans (congrArg some (by kernel_rfl))
 t0:=Tryz.underlying0
 a0:=Tryz.isAgg0
 z0:=Tryz.sizeOf0
 v0:=Tryz.zeroValue0
 t3:=Tryz.underlying3
 a3:=Tryz.isAgg3
 z3:=Tryz.sizeOf3
 v3:=Tryz.zeroValue3
 t37:=Tryz.underlying210
 a37:=Tryz.isAgg210
 z37:=Tryz.sizeOf210
 v37:=Tryz.zeroValue210
 t70:=Tryz.underlying209
 a70:=Tryz.isAgg209
 z70:=Tryz.sizeOf209
 v70:=Tryz.zeroValue209
 t72:=Tryz.underlying212
 a72:=Tryz.isAgg212
 z72:=Tryz.sizeOf212
 v72:=Tryz.zeroValue212 }
open Go.RowKit in
theorem Tryz.Builder_Len (B b:Nat) (bs:List Value) (w:World) (h:Lib.IsBuilder 212 5 B b bs w) :
  Calls Tryz.prog 198 #[.pointer (some ⟨b,0,none⟩)] w fun e w'=>e = .returned (.int .i64 bs.length)∧w'=w:=Any.Builder_Len Tryz.lays170 B b bs w h
def Tryz.lays169_ren:Go.Shelf.Ren:=⟨fun | 169=>201 | n=>n,fun | 70=>209 | 9=>9 | 0=>0 | 72=>212 | 37=>210 | 127=>235 | 3=>3 | 5=>5 | n=>n,fun | n=>n⟩
theorem Tryz.lays169:Go.Proofs.Lays.n169 Tryz.prog Tryz.lays169_ren:={
 mixed:=by kernel_rfl
 f169:=Tryz.func201.trans (congrArg some (by kernel_rfl))
 t0:=Tryz.underlying0
 a0:=Tryz.isAgg0
 z0:=Tryz.sizeOf0
 v0:=Tryz.zeroValue0
 t3:=Tryz.underlying3
 a3:=Tryz.isAgg3
 z3:=Tryz.sizeOf3
 v3:=Tryz.zeroValue3
 t9:=Tryz.underlying9
 a9:=Tryz.isAgg9
 z9:=Tryz.sizeOf9
 v9:=Tryz.zeroValue9
 t37:=Tryz.underlying210
 a37:=Tryz.isAgg210
 z37:=Tryz.sizeOf210
 v37:=Tryz.zeroValue210
 t70:=Tryz.underlying209
 a70:=Tryz.isAgg209
 z70:=Tryz.sizeOf209
 v70:=Tryz.zeroValue209
 t72:=Tryz.underlying212
 a72:=Tryz.isAgg212
 z72:=Tryz.sizeOf212
 v72:=Tryz.zeroValue212
 t127:=Tryz.underlying235
 a127:=Tryz.isAgg235
 z127:=Tryz.sizeOf235
 v127:=Tryz.zeroValue235 }
theorem Tryz.Builder_Extra_169:Builder.Extra Tryz.prog Tryz.lays169_ren:={
 sizeBuilder:=by kernel_rfl
 liesBuilder:=by kernel_rfl
 t5:=Tryz.underlying5
 a5:=Tryz.isAgg5
 z5:=Tryz.sizeOf5
 v5:=Tryz.zeroValue5
 infoByte:=by kernel_rfl
 cellsByte:=by kernel_rfl
 sizeByte:=by kernel_rfl
 neB5:=by decide }
open Go.RowKit in
open Go.RowKit in
open Go.RowKit in
theorem Tryz.Builder_String_any (B b:Nat) (l:List UInt8) (w:World) (h:Lib.IsBuilder 212 5 B b (Lib.byteCells l) w) (hBw:B≤w.heap.size) :
  Calls Tryz.prog 201 #[.pointer (some ⟨b,0,none⟩)] w fun e w'=>e = .returned (.string ⟨l.toArray⟩)∧Below B w w':=Any.Builder_String_any Tryz.lays169 Tryz.Builder_Extra_169 B b l w h hBw
open Go.RowKit in
open Go.RowKit in
def Tryz.lays134_ren:Go.Shelf.Ren:=⟨fun | 134=>187 | 129=>216 | n=>n,fun | 53=>116 | 3=>3 | 4=>4 | 46=>207 | 5=>5 | 9=>9 | n=>n,fun | n=>n⟩
theorem Tryz.lays134:Go.Proofs.Lays.n134 Tryz.prog Tryz.lays134_ren:={
 mixed:=by kernel_rfl
 f129:=Tryz.func216.trans (congrArg some (by kernel_rfl))
 f134:=Tryz.func187.trans (congrArg some (by kernel_rfl))
 t3:=Tryz.underlying3
 a3:=Tryz.isAgg3
 z3:=Tryz.sizeOf3
 v3:=Tryz.zeroValue3
 t4:=Tryz.underlying4
 a4:=Tryz.isAgg4
 z4:=Tryz.sizeOf4
 v4:=Tryz.zeroValue4
 t5:=Tryz.underlying5
 a5:=Tryz.isAgg5
 z5:=Tryz.sizeOf5
 v5:=Tryz.zeroValue5
 t9:=Tryz.underlying9
 a9:=Tryz.isAgg9
 z9:=Tryz.sizeOf9
 v9:=Tryz.zeroValue9
 t46:=Tryz.underlying207
 a46:=Tryz.isAgg207
 z46:=Tryz.sizeOf207
 v46:=Tryz.zeroValue207
 t53:=Tryz.underlying116
 a53:=Tryz.isAgg116
 z53:=Tryz.sizeOf116
 v53:=Tryz.zeroValue116 }
theorem Tryz.bits_LeadingZeros64 (x:Int) (w:World) (h0:0≤x) (h1:x≤18446744073709551615) :
  Calls Tryz.prog 187 #[.int .u64 x] w fun e w'=>e = .returned (.int .i64 (64 - (Lib.bitLen x.toNat:Int)))∧w'=w:=Any.bits_LeadingZeros64 Tryz.lays134 x w h0 h1
open Go.RowKit in
def Tryz.lays103_ren:Go.Shelf.Ren:=⟨fun | 103=>124 | 210=>180 | 206=>212 | n=>n,fun | 9=>9 | 4=>4 | 24=>157 | 3=>3 | n=>n,fun | n=>n⟩
theorem Tryz.lays103:Go.Proofs.Lays.n103 Tryz.prog Tryz.lays103_ren:={
 mixed:=by kernel_rfl
 f103:=Tryz.func124.trans (congrArg some (by kernel_rfl))
 f206:=Tryz.func212.trans (congrArg some (by kernel_rfl))
 f210:=Tryz.func180.trans (congrArg some (by kernel_rfl))
 t3:=Tryz.underlying3
 a3:=Tryz.isAgg3
 z3:=Tryz.sizeOf3
 v3:=Tryz.zeroValue3
 t4:=Tryz.underlying4
 a4:=Tryz.isAgg4
 z4:=Tryz.sizeOf4
 v4:=Tryz.zeroValue4
 t9:=Tryz.underlying9
 a9:=Tryz.isAgg9
 z9:=Tryz.sizeOf9
 v9:=Tryz.zeroValue9
 t24:=Tryz.underlying157
 a24:=Tryz.isAgg157
 z24:=Tryz.sizeOf157
 v24:=Tryz.zeroValue157 }
open Go.RowKit in
theorem Tryz.strings_CutPrefix (s p:ByteArray) (w:World) :
  Calls Tryz.prog 124 #[.string s,.string p] w fun e w'=>e = .returned (.tuple #[.string ⟨(Lib.trimPrefix s.data.toList p.data.toList).toArray⟩,.bool (Lib.hasPrefix s.data.toList p.data.toList)])∧w'=w:=Any.strings_CutPrefix Tryz.lays103 s p w
open Go.RowKit in
open Go.RowKit in
open Go.RowKit in
open Go.RowKit in
open Go.RowKit in
open Go.RowKit in
open Go.RowKit in
open Go.RowKit in
open Go.RowKit in
open Go.Lib in
open Go.Lib in
def Tryz.lays283_ren:Go.Shelf.Ren:=⟨fun | 283=>229 | n=>n,fun | 3=>3 | 9=>9 | 4=>4 | n=>n,fun | n=>n⟩
theorem Tryz.lays283:Go.Proofs.Lays.n283 Tryz.prog Tryz.lays283_ren:={
 mixed:=by kernel_rfl
 f283:=Tryz.func229.trans (congrArg some (by kernel_rfl))
 t3:=Tryz.underlying3
 a3:=Tryz.isAgg3
 z3:=Tryz.sizeOf3
 v3:=Tryz.zeroValue3
 t4:=Tryz.underlying4
 a4:=Tryz.isAgg4
 z4:=Tryz.sizeOf4
 v4:=Tryz.zeroValue4
 t9:=Tryz.underlying9
 a9:=Tryz.isAgg9
 z9:=Tryz.sizeOf9
 v9:=Tryz.zeroValue9 }
open Go.Lib in
theorem Tryz.internal_strconv_small (i:Nat) (h:i<100) (w:World) :
  Calls Tryz.prog 229 #[.int .i64 i] w fun e w'=>e = .returned (.string ⟨(Lib.decDigits i).toArray⟩)∧w'=w:=Any.internal_strconv_small Tryz.lays283 i h w
def Tryz.laysM284_ren:Go.Shelf.Ren:=⟨fun | 284=>230 | 129=>216 | 317=>240 | 318=>241 | n=>n,fun | 53=>116 | 3=>3 | 212=>252 | 0=>0 | 4=>4 | 46=>207 | 5=>5 | 9=>9 | n=>n,fun | 17=>6 | n=>n⟩
theorem Tryz.laysM284:Go.Proofs.LaysM.n284 Tryz.prog Tryz.laysM284_ren:={
 mixed:=by kernel_rfl
 f129:=Tryz.func216.trans (congrArg some (by kernel_rfl))
 f284:=Tryz.func230.trans (congrArg some (by kernel_rfl))
 f317:=Tryz.func240.trans (congrArg some (by kernel_rfl))
 f318:=Tryz.func241.trans (congrArg some (by kernel_rfl))
 t0:=Tryz.underlying0
 a0:=Tryz.isAgg0
 z0:=Tryz.sizeOf0
 v0:=Tryz.zeroValue0
 t3:=Tryz.underlying3
 a3:=Tryz.isAgg3
 z3:=Tryz.sizeOf3
 v3:=Tryz.zeroValue3
 t4:=Tryz.underlying4
 a4:=Tryz.isAgg4
 z4:=Tryz.sizeOf4
 v4:=Tryz.zeroValue4
 t5:=Tryz.underlying5
 a5:=Tryz.isAgg5
 z5:=Tryz.sizeOf5
 v5:=Tryz.zeroValue5
 t9:=Tryz.underlying9
 a9:=Tryz.isAgg9
 z9:=Tryz.sizeOf9
 v9:=Tryz.zeroValue9
 t46:=Tryz.underlying207
 a46:=Tryz.isAgg207
 z46:=Tryz.sizeOf207
 v46:=Tryz.zeroValue207
 t53:=Tryz.underlying116
 a53:=Tryz.isAgg116
 z53:=Tryz.sizeOf116
 v53:=Tryz.zeroValue116
 t212:=Tryz.underlying252
 a212:=Tryz.isAgg252
 z212:=Tryz.sizeOf252
 v212:=Tryz.zeroValue252
 g17:=by kernel_rfl
 i0:=by kernel_rfl
 i3:=by kernel_rfl
 i4:=by kernel_rfl
 i5:=by kernel_rfl
 i9:=by kernel_rfl
 i46:=by kernel_rfl
 i53:=by kernel_rfl
 i212:=by kernel_rfl
 m17:=by kernel_rfl }
open Go.Lib in
theorem Tryz.internal_strconv_numDigits (u:Nat) (h1:1≤u) (h2:u<18446744073709551616) (w:World) (htab:Lib.TabIs Tryz.prog w "internal/strconv.uint64pow10" .u64 Lib.pow10Tab) :
  Calls Tryz.prog 230 #[.int .u64 u] w fun e w'=>e = .returned (.int .i64 (Lib.nDigits u))∧w'=w:=Any.internal_strconv_numDigits Tryz.laysM284 u h1 h2 w htab
def Tryz.lays285_ren:Go.Shelf.Ren:=⟨fun | 285=>231 | n=>n,fun | 37=>210 | 53=>116 | 3=>3 | 4=>4 | 51=>247 | 9=>9 | 5=>5 | 0=>0 | n=>n,fun | n=>n⟩
theorem Tryz.lays285:Go.Proofs.Lays.n285 Tryz.prog Tryz.lays285_ren:={
 mixed:=by kernel_rfl
 f285:=Tryz.func231.trans (congrArg some (by kernel_rfl))
 t0:=Tryz.underlying0
 a0:=Tryz.isAgg0
 z0:=Tryz.sizeOf0
 v0:=Tryz.zeroValue0
 t3:=Tryz.underlying3
 a3:=Tryz.isAgg3
 z3:=Tryz.sizeOf3
 v3:=Tryz.zeroValue3
 t4:=Tryz.underlying4
 a4:=Tryz.isAgg4
 z4:=Tryz.sizeOf4
 v4:=Tryz.zeroValue4
 t5:=Tryz.underlying5
 a5:=Tryz.isAgg5
 z5:=Tryz.sizeOf5
 v5:=Tryz.zeroValue5
 t9:=Tryz.underlying9
 a9:=Tryz.isAgg9
 z9:=Tryz.sizeOf9
 v9:=Tryz.zeroValue9
 t37:=Tryz.underlying210
 a37:=Tryz.isAgg210
 z37:=Tryz.sizeOf210
 v37:=Tryz.zeroValue210
 t51:=Tryz.underlying247
 a51:=Tryz.isAgg247
 z51:=Tryz.sizeOf247
 v51:=Tryz.zeroValue247
 t53:=Tryz.underlying116
 a53:=Tryz.isAgg116
 z53:=Tryz.sizeOf116
 v53:=Tryz.zeroValue116 }
open Go.RowKit Go.Sort Go.Lib in
theorem Tryz.internal_strconv_formatBase10 (blk off cap:Nat) (u:Nat) (d:Array UInt8) (w:World) (hH:Holds (fun (b:UInt8)=>Value.int .u8 (b.toNat:Int)) w blk off d) (hu:u<10 ^ d.size) (hu64:u<18446744073709551616) (hsz:d.size<4611686018427387904) :
  Calls Tryz.prog 231 #[.slice (some ⟨blk,off,none⟩) d.size cap,.int .u64 u] w fun e w'=>
   e = .returned (.tuple #[])∧∃ (n v':Nat) (dk:Array UInt8),w'=(putRow (fun (b:UInt8)=>Value.int .u8 (b.toNat:Int)) w blk off dk).drewN n∧FmtInv d.size u 0 v' dk:=Any.internal_strconv_formatBase10 Tryz.lays285 blk off cap u d w hH hu hu64 hsz
def Tryz.lays217_ren:Go.Shelf.Ren:=⟨fun | 217=>225 | 266=>238 | n=>n,fun | 9=>9 | 5=>5 | 3=>3 | n=>n,fun | n=>n⟩
theorem Tryz.lays217:Go.Proofs.Lays.n217 Tryz.prog Tryz.lays217_ren:={
 mixed:=by kernel_rfl
 f217:=Tryz.func225.trans (congrArg some (by kernel_rfl))
 f266:=Tryz.func238.trans (congrArg some (by kernel_rfl))
 t3:=Tryz.underlying3
 a3:=Tryz.isAgg3
 z3:=Tryz.sizeOf3
 v3:=Tryz.zeroValue3
 t5:=Tryz.underlying5
 a5:=Tryz.isAgg5
 z5:=Tryz.sizeOf5
 v5:=Tryz.zeroValue5
 t9:=Tryz.underlying9
 a9:=Tryz.isAgg9
 z9:=Tryz.sizeOf9
 v9:=Tryz.zeroValue9 }
open Go.RowKit Go.Lib in
theorem Tryz.stringslite_IndexByte (s:ByteArray) (c:Int) (w:World) :
  Calls Tryz.prog 225 #[.string s,.int .u8 c] w fun e w'=>e = .returned (.int .i64 (Lib.indexByte s.data.toList c.toNat.toUInt8))∧w'=w:=Any.stringslite_IndexByte Tryz.lays217 s c w
open Go.RowKit Go.Lib in
open Go.RowKit Go.Lib in
open Go.RowKit Go.Lib in
def Tryz.lays219_ren:Go.Shelf.Ren:=⟨fun | 219=>211 | 217=>225 | 225=>226 | 224=>227 | 267=>228 | 266=>238 | 314=>239 | n=>n,fun | 9=>9 | 3=>3 | 4=>4 | 5=>5 | 46=>207 | 146=>248 | 51=>247 | n=>n,fun | 1=>2 | n=>n⟩
open Go.RowKit Go.Lib in
open Go.RowKit Go.Lib in
open Go.RowKit Go.Lib in
open Go.RowKit Go.Lib in
open Go.RowKit Go.Lib in
open Go.RowKit Go.Lib in
open Go.RowKit Go.Lib in
open Go.RowKit Go.Lib in
open Go.RowKit Go.Lib in
def Tryz.lays264_ren:Go.Shelf.Ren:=⟨fun | 264=>202 | n=>n,fun | 53=>116 | 46=>207 | n=>n,fun | n=>n⟩
theorem Tryz.lays264:Go.Proofs.Lays.n264 Tryz.prog Tryz.lays264_ren:={
 mixed:=by kernel_rfl
 f264:=Tryz.func202.trans (congrArg some (by kernel_rfl))
 t46:=Tryz.underlying207
 a46:=Tryz.isAgg207
 z46:=Tryz.sizeOf207
 v46:=Tryz.zeroValue207
 t53:=Tryz.underlying116
 a53:=Tryz.isAgg116
 z53:=Tryz.sizeOf116
 v53:=Tryz.zeroValue116 }
open Go.RowKit Go.Lib in
theorem Tryz.bits_Mul64 (x y:Nat) (hx:x<18446744073709551616) (hy:y<18446744073709551616) (w:World) :
  Calls Tryz.prog 202 #[.int .u64 x,.int .u64 y] w fun e w'=>e = .returned (.tuple #[.int .u64 ((x*y / 18446744073709551616:Nat):Int),.int .u64 ((x*y % 18446744073709551616:Nat):Int)])∧w'=w:=Any.bits_Mul64 Tryz.lays264 x y hx hy w
open Go.RowKit Go.Lib in
def Tryz.lays105_ren:Go.Shelf.Ren:=⟨fun | 105=>200 | 212=>220 | 99=>221 | 165=>222 | 166=>199 | 170=>198 | 169=>201 | 263=>234 | 264=>202 | 206=>212 | 240=>219 | 241=>235 | 276=>233 | 277=>244 | n=>n,fun | 9=>9 | 3=>3 | 4=>4 | 20=>20 | 0=>0 | 46=>207 | 109=>232 | 5=>5 | 72=>212 | 76=>216 | 51=>247 | 146=>248 | 53=>116 | 148=>178 | 70=>209 | 37=>210 | 75=>215 | 127=>235 | 164=>245 | 80=>177 | n=>n,fun | n=>n⟩
theorem Tryz.lays105:Go.Proofs.Lays.n105 Tryz.prog Tryz.lays105_ren:={
 mixed:=by kernel_rfl
 f99:=Tryz.func221.trans (congrArg some (by kernel_rfl))
 f105:=Tryz.func200.trans (congrArg some (by kernel_rfl))
 f165:=Tryz.func222.trans (congrArg some (by kernel_rfl))
 f166:=Tryz.func199.trans (congrArg some (by kernel_rfl))
 f169:=Tryz.func201.trans (congrArg some (by kernel_rfl))
 f170:=Tryz.func198.trans (congrArg some (by kernel_rfl))
 f206:=Tryz.func212.trans (congrArg some (by kernel_rfl))
 f212:=Tryz.func220.trans (congrArg some (by kernel_rfl))
 f240:=Tryz.func219.trans (congrArg some (by kernel_rfl))
 f241:=Tryz.func235.trans (congrArg some (by kernel_rfl))
 f263:=Tryz.func234.trans (congrArg some (by kernel_rfl))
 f264:=Tryz.func202.trans (congrArg some (by kernel_rfl))
 f276:=Tryz.func233.trans (congrArg some (by kernel_rfl))
 f277:=Tryz.func244.trans (congrArg some (by kernel_rfl))
 t0:=Tryz.underlying0
 a0:=Tryz.isAgg0
 z0:=Tryz.sizeOf0
 v0:=Tryz.zeroValue0
 t3:=Tryz.underlying3
 a3:=Tryz.isAgg3
 z3:=Tryz.sizeOf3
 v3:=Tryz.zeroValue3
 t4:=Tryz.underlying4
 a4:=Tryz.isAgg4
 z4:=Tryz.sizeOf4
 v4:=Tryz.zeroValue4
 t5:=Tryz.underlying5
 a5:=Tryz.isAgg5
 z5:=Tryz.sizeOf5
 v5:=Tryz.zeroValue5
 t9:=Tryz.underlying9
 a9:=Tryz.isAgg9
 z9:=Tryz.sizeOf9
 v9:=Tryz.zeroValue9
 t20:=Tryz.underlying20
 a20:=Tryz.isAgg20
 z20:=Tryz.sizeOf20
 v20:=Tryz.zeroValue20
 t37:=Tryz.underlying210
 a37:=Tryz.isAgg210
 z37:=Tryz.sizeOf210
 v37:=Tryz.zeroValue210
 t46:=Tryz.underlying207
 a46:=Tryz.isAgg207
 z46:=Tryz.sizeOf207
 v46:=Tryz.zeroValue207
 t51:=Tryz.underlying247
 a51:=Tryz.isAgg247
 z51:=Tryz.sizeOf247
 v51:=Tryz.zeroValue247
 t53:=Tryz.underlying116
 a53:=Tryz.isAgg116
 z53:=Tryz.sizeOf116
 v53:=Tryz.zeroValue116
 t70:=Tryz.underlying209
 a70:=Tryz.isAgg209
 z70:=Tryz.sizeOf209
 v70:=Tryz.zeroValue209
 t72:=Tryz.underlying212
 a72:=Tryz.isAgg212
 z72:=Tryz.sizeOf212
 v72:=Tryz.zeroValue212
 t75:=Tryz.underlying215
 a75:=Tryz.isAgg215
 z75:=Tryz.sizeOf215
 v75:=Tryz.zeroValue215
 t76:=Tryz.underlying216
 a76:=Tryz.isAgg216
 z76:=Tryz.sizeOf216
 v76:=Tryz.zeroValue216
 t109:=Tryz.underlying232
 a109:=Tryz.isAgg232
 z109:=Tryz.sizeOf232
 v109:=Tryz.zeroValue232
 t127:=Tryz.underlying235
 a127:=Tryz.isAgg235
 z127:=Tryz.sizeOf235
 v127:=Tryz.zeroValue235
 t146:=Tryz.underlying248
 a146:=Tryz.isAgg248
 z146:=Tryz.sizeOf248
 v146:=Tryz.zeroValue248
 t148:=Tryz.underlying178
 a148:=Tryz.isAgg178
 z148:=Tryz.sizeOf178
 v148:=Tryz.zeroValue178
 t164:=Tryz.underlying245
 a164:=Tryz.isAgg245
 z164:=Tryz.sizeOf245
 v164:=Tryz.zeroValue245 }
theorem Tryz.Builder_Extra_105:Builder.Extra Tryz.prog Tryz.lays105_ren:={
 sizeBuilder:=by kernel_rfl
 liesBuilder:=by kernel_rfl
 t5:=Tryz.underlying5
 a5:=Tryz.isAgg5
 z5:=Tryz.sizeOf5
 v5:=Tryz.zeroValue5
 infoByte:=by kernel_rfl
 cellsByte:=by kernel_rfl
 sizeByte:=by kernel_rfl
 neB5:=by decide }
open Go.RowKit Go.Lib in
open Go.RowKit Go.Lib in
open Go.RowKit Go.Lib in
open Go.RowKit Go.Lib in
open Go.RowKit Go.Lib in
open Go.RowKit Go.Lib in
open Go.RowKit Go.Lib in
theorem Tryz.strings_Repeat (s:ByteArray) (c:Nat) (w:World) (hc:c≤9223372036854775807) (hlen:s.size*c≤140737488355328) :
  Calls Tryz.prog 200 #[.string s,.int .i64 c] w fun e w'=>e = .returned (.string ⟨(Lib.repeatL s.data.toList c).toArray⟩)∧Below w.heap.size w w':=Any.strings_Repeat Tryz.lays105 Tryz.Builder_Extra_105 s c w hc hlen
open Go.RowKit Go.Lib Go.Sort in
def Tryz.lays29_ren:Go.Shelf.Ren:=⟨fun | 29=>213 | n=>n,fun | 22=>116 | 3=>3 | 4=>4 | 25=>207 | 54=>239 | 0=>0 | 5=>5 | n=>n,fun | 1=>3 | n=>n⟩
theorem Tryz.lays29:Go.Proofs.Lays7.n29 Tryz.prog Tryz.lays29_ren:={
 mixed:=by kernel_rfl
 f29:=Tryz.func213.trans (congrArg some (by kernel_rfl))
 t0:=Tryz.underlying0
 a0:=Tryz.isAgg0
 z0:=Tryz.sizeOf0
 v0:=Tryz.zeroValue0
 i0:=by kernel_rfl
 t3:=Tryz.underlying3
 a3:=Tryz.isAgg3
 z3:=Tryz.sizeOf3
 v3:=Tryz.zeroValue3
 i3:=by kernel_rfl
 t4:=Tryz.underlying4
 a4:=Tryz.isAgg4
 z4:=Tryz.sizeOf4
 v4:=Tryz.zeroValue4
 i4:=by kernel_rfl
 t5:=Tryz.underlying5
 a5:=Tryz.isAgg5
 z5:=Tryz.sizeOf5
 v5:=Tryz.zeroValue5
 i5:=by kernel_rfl
 t22:=Tryz.underlying116
 a22:=Tryz.isAgg116
 z22:=Tryz.sizeOf116
 v22:=Tryz.zeroValue116
 i22:=by kernel_rfl
 t25:=Tryz.underlying207
 a25:=Tryz.isAgg207
 z25:=Tryz.sizeOf207
 v25:=Tryz.zeroValue207
 i25:=by kernel_rfl
 t54:=Tryz.underlying239
 a54:=Tryz.isAgg239
 z54:=Tryz.sizeOf239
 g1:=by kernel_rfl }
end Go.Proofs
