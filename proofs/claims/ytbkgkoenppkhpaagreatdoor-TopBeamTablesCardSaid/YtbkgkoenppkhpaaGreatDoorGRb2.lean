/- Contracts of the reference's digits to the base 10^9: addDigits, subDigits. -/
import Derived.Test.YtbkgkoenppkhpaaGreatDoorGEx2
import Derived.Test.YtbkgkoenppkhpaaGreatDoorGWords
import Derived.Test.YtbkgkoenppkhpaaGreatDoorGRtx
import Derived.Maps.AppendAt
import Derived.IntWalk
import Derived.Test.YtbkgkoenppkhpaaGreatDoorGFl2
import Derived.Test.YtbkgkoenppkhpaaGreatDoorGLdx
import Derived.Test.YtbkgkoenppkhpaaGreatDoorGRead2
import Derived.Test.YtbkgkoenppkhpaaGreatDoorGBld
import Derived.Deep.RegionHeld3
import Derived.Test.YtbkgkoenppkhpaaGreatDoorGRat5
import Derived.Test.YtbkgkoenppkhpaaGreatDoorGNum1
import Derived.Deep.LoopGhost
import Derived.Shelf.SlSorted.Search
import Derived.Laws.Cover2
import Derived.Test.YtbkgkoenppkhpaaGreatDoorGNa1
set_option maxRecDepth 100000
set_option maxHeartbeats 4000000
namespace Go.Proofs.YtbkgkoenppkhpaaGreatDoor
section
open Go.RowKit Dn
def RetI (w:World) (N:Nat) (P:List Nat→Prop) (e:Ending) (w':World):Prop:=∃ A m c ls,e = .returned (.slice A m c)∧DigI w' A m c ls∧m≤N∧P ls∧Below w.heap.size w w'
def zmU (w:World) (x:Nat) (e:Ending) (w':World):Prop:=∃ A m c,e = .returned (.slice A m c)∧DigI w' A m c (digs x)∧Below w.heap.size w w'
theorem zoe (w:World) (v:Value) (t:TypeId):∀ (j:Nat) (u:Value),[v][j]? = some u→(w.alloc (.cells #[v] t)).cell? { block:=w.heap.size,off:=j }=some u:=by
 intro j u hu;have h:=cell_one_new w v t j u hu;have e:(⟨w.heap.size,0,none⟩:Addr).add j=⟨w.heap.size,j,none⟩:=by
  unfold Addr.add
  by_cases hj:j=0<;>simp [hj]
 rwa [e] at h
theorem znb (ls a b:List Nat) (k s c0 c1:Nat) (hk:ls.length=k) (hinv:val ls+B ^ k*c0=val (a.take k)+val (b.take k)) (hs:s+B*c1=a.getD k 0+b.getD k 0+c0) :
  val (ls++[s])+B ^ (k+1)*c1=val (a.take (k+1))+val (b.take (k+1)):=by
 rw [zaM,zaQ,hk,zaf a,zaf b,Nat.pow_succ,Nat.mul_assoc];have h3:B ^ k*s+B ^ k*(B*c1)=B ^ k*a.getD k 0+B ^ k*b.getD k 0+B ^ k*c0:=by rw [←Nat.mul_add,hs,Nat.mul_add,Nat.mul_add]
 omega
theorem znF (ls a b:List Nat) (k d b0 b1:Nat) (hk:ls.length=k) (hinv:val ls+val (b.take k)=val (a.take k)+B ^ k*b0) (hs:d+b.getD k 0+b0=a.getD k 0+B*b1) :
  val (ls++[d])+val (b.take (k+1))=val (a.take (k+1))+B ^ (k+1)*b1:=by
 rw [zaM,zaQ,hk,zaf a,zaf b,Nat.pow_succ,Nat.mul_assoc];have h3:B ^ k*d+B ^ k*b.getD k 0+B ^ k*b0=B ^ k*a.getD k 0+B ^ k*(B*b1):=by rw [←Nat.mul_add,←Nat.mul_add,hs,Nat.mul_add]
 omega
theorem zh3 (la lb ls:List Nat) (i c0:Nat) (hwa:Wf la) (hwb:Wf lb) (ha:la.length+1≤i) (hb:lb.length+1≤i) (h:val ls+B ^ i*c0=val (la.take i)+val (lb.take i)):c0=0:=by
 have h1:=zbm (hwa.take i);have h2:=zbm (hwb.take i);rw [List.length_take] at h1 h2;have h3:B ^ min i la.length≤B ^ (i - 1):=Nat.pow_le_pow_right zaO (by omega);have h4:B ^ min i lb.length≤B ^ (i - 1):=Nat.pow_le_pow_right zaO (by omega);have h5:B ^ (i - 1)*2≤B ^ (i - 1)*B:=Nat.mul_le_mul_left _ zeA;rw [←Nat.pow_succ,show (i - 1).succ=i from by omega] at h5
 rcases Nat.eq_zero_or_pos c0 with h0 | h0
 ·exact h0
 ·exfalso
  have:=Nat.le_mul_of_pos_right (B ^ i) h0;omega
theorem zgo (A A':Option Addr) (n c n' c':Nat) (la lb:List Nat) (w:World) (h:DigI w A n c la) (h':DigI w A' n' c' lb) (hn:n≤1048576) (hn':n'≤1048576) :
  Calls Tryz.prog 164 #[.slice A n c,.slice A' n' c'] w (RetI w (max n n'+1) fun ls=>val ls=val la+val lb):=by
 obtain ⟨i0,aY,aX,aV,bA⟩:=info_parts zdk;obtain ⟨N,hN⟩:∃ N,N=max n n':=⟨_,rfl⟩;rw [←hN];have aJ:=h.len;have aL:=h'.len;have aM:=Aa aJ;have aN:=Aa aL;have aR:=Aa h.wf;have aO:=Aa h'.wf;have bE:n≤N:=by omega
 have bD:n'≤N:=by omega
 have bC:N≤1048576:=by omega
 clear aJ aL hN;go_enter Tryz.func164,Tryz.ntmps164
 go_wp2
 go_loopg [5,6,7] (N+1) (fun q v5 v6 v7 W=>∃ (i c0:Nat) (ls:List Nat),i≤N+1∧c0≤1∧v7 = .int .i64 i∧v6 = .int .i64 c0∧N+1 - i≤q∧W.ownsRow w.heap.size 3 1 v5 i (ls.map natv) ∧
  Hid (Wf ls∧ls.length=i∧val ls+B ^ i*c0=val (la.take i)+val (lb.take i))∧Below w.heap.size w W)
 case atStart=>exact ⟨0,0,[],by omega,by omega,rfl,rfl,by omega,World.ownsRow_nil _ _ _ _,⟨Wf.nil,rfl,by simp⟩,Below.refl _ _⟩
 case round=>
  obtain ⟨i,c0,ls,hi,bF,rfl,rfl,hq,aC,hv,aA⟩:=hrel
  by_cases hend:¬ i<n∧¬ i<n'∧c0=0
  ·obtain ⟨e1,e2,rfl⟩:=hend
   have d1:decide (i<n)=false:=by simpa using e1
   have d2:decide (i<n')=false:=by simpa using e2
   obtain ⟨hw,hl,hs⟩:=hv.out;rw [List.take_of_length_le (by have:=aM.out;omega),List.take_of_length_le (by have:=aN.out;omega),Nat.mul_zero,Nat.add_zero] at hs;obtain ⟨A9,c9,rfl,aP,aK,aQ⟩:=zcs aC;have HR:Hid (RetI w (N+1) (fun ls=>val ls=val la+val lb) (.returned (.slice A9 i c9)) wr):=⟨A9,i,c9,ls,rfl,⟨aQ,aP,aK,hw⟩,hi,hs,aA⟩;clear hs hw hl aC hv aP aK aQ;go_wp2
   go_ret;exact HR.out
  ·have bG:i≤N:=by
    obtain ⟨hw,hl,hs⟩:=hv.out
    rcases Nat.lt_or_ge N i with h9 | h9
    ·exfalso
     have:=zh3 la lb ls i c0 aR.out aO.out (by have:=aM.out;omega) (by have:=aN.out;omega) hs;exact hend ⟨by omega,by omega,this⟩
    ·exact h9
   have K1:=Aa (ze6 A n c la i wr (h.rd.later aA) (by omega));have K2:=Aa (ze6 A' n' c' lb i wr (h'.rd.later aA) (by omega));have aZ:=zaA aR.out i;have aS:=zaA aO.out i;obtain ⟨xk,aG⟩:∃ xk,la.getD i 0=xk:=⟨_,rfl⟩;obtain ⟨yk,aI⟩:∃ yk,lb.getD i 0=yk:=⟨_,rfl⟩;rw [aG] at K1 aZ;rw [aI] at K2 aS;obtain ⟨t,ht⟩:∃ t,t=xk+yk+c0:=⟨_,rfl⟩;obtain ⟨s,hs⟩:∃ s,s=t % B:=⟨_,rfl⟩;obtain ⟨d,hd⟩:∃ d,d=t / B:=⟨_,rfl⟩;have aU:s<B:=by rw [hs];exact Nat.mod_lt _ zaO
   have bB:d≤1:=by rw [hd];unfold B;omega
   have bH:t<4000000000:=by omega
   have HP:Hid (Wf (ls++[s])∧(ls++[s]).length=i+1∧val (ls++[s])+B ^ (i+1)*d=val (la.take (i+1))+val (lb.take (i+1))):=by
    obtain ⟨hw,hl,aT⟩:=hv.out;exact ⟨hw.append (Wf.cons aU Wf.nil),by simp [hl],znb ls la lb i s c0 d hl aT (by rw [aG,aI,hs,hd,Nat.mod_add_div,ht])⟩
   have es:((t:Nat):Int) % 1000000000=(s:Int):=by rw [hs];unfold B;omega
   have ed:((t:Nat):Int) / 1000000000=(d:Int):=by rw [hd];unfold B;omega
   have et:(xk:Int)+(yk:Int)+(c0:Int)=(t:Int):=by omega
   have aE:(decide (i<n)=true)∨(decide (i<n)=false∧decide (i<n')=true)∨(decide (i<n)=false∧decide (i<n')=false∧decide (0<c0)=true):=by
    simp only [decide_eq_true_eq,decide_eq_false_iff_not]
    omega
   clear aG aI hs hd ht hv hend
   rcases aE with d1 | ⟨d1,d2⟩ | ⟨d1,d2,d3⟩
   all_goals
    go_wp2_with fail
    refine K1.out.mono ?_;rintro e w1 ⟨rfl,aH⟩;obtain rfl:wr=w1:=aH
    go_wp2_with fail
    refine K2.out.mono ?_;rintro e w1 ⟨rfl,aH⟩;obtain rfl:wr=w1:=aH
    go_wp2_with (at_builtin;refine wpList_append_own _ rfl _ _ 78 rfl w.heap.size 3 i0 (.int .i64 0) 1 8 Tryz.underlying78 aY aX aV bA rfl (by decide) _ _ _ rfl (aC.alloc _) ⟨wr.heap.size,0,none⟩ 1 1 [.int .i64 s] rfl rfl ?c1 ?c2 ?c3 ?c4 ?c5 ?_)
    case c1=>exact cell_one_new _ _ _
    case c2=>intro u hu;simp at hu;subst hu;rfl
    case c3=>unfold maxLen;omega
    case c4=>omega
    case c5=>have:=aA.size;simp;omega
    intro v' w2 aF aD _;have aW:Below w.heap.size w w2:=(aA.alloc aA.size _).grown aD (by have:=aA.size;simp;omega) (fun g hg=>(World.ownsRow.lt aC g hg).1);clear aD aC;go_wp2
    go_roundg (N+1 - (i+1))
    case measure=>omega
    case rel=>exact ⟨i+1,d,ls++[s],by omega,bB,by go_num,rfl,Nat.le_refl _,by rw [List.map_append];exact aF,HP.out,aW⟩
theorem zd2 (A A':Option Addr) (n c n' c' x y:Nat) (w:World) (h:DigI w A n c (digs x)) (h':DigI w A' n' c' (digs y)) (hyx:y≤x) (hn:n≤1048576) (hn':n'≤1048576) :
  Calls Tryz.prog 166 #[.slice A n c,.slice A' n' c'] w (zmU w (x - y)):=by
 obtain ⟨i0,bG,bF,bB,bJ⟩:=info_parts zdk;have bD:=Aa h.len;have bE:=Aa h'.len;have aZ:n'≤n:=by rw [←h.len,←h'.len];exact zaa hyx
 have bK:=Aa hyx;clear hyx;go_enter Tryz.func166,Tryz.ntmps166
 go_wp2
 go_loopg [5,6,7] n (fun q v5 v6 v7 W=>∃ (i b0:Nat) (ls:List Nat),i≤n∧b0≤1∧v7 = .int .i64 i∧v6 = .int .i64 b0∧n - i≤q∧W.ownsRow w.heap.size 3 1 v5 i (ls.map natv) ∧
  Hid (Wf ls∧ls.length=i∧val ls+val ((digs y).take i)=val ((digs x).take i)+B ^ i*b0)∧Below w.heap.size w W)
 case atStart=>exact ⟨0,0,[],by omega,by omega,rfl,rfl,by omega,World.ownsRow_nil _ _ _ _,⟨Wf.nil,rfl,by simp⟩,Below.refl _ _⟩
 case round=>
  obtain ⟨i,b0,ls,hi,bH,rfl,rfl,hq,aC,hv,aA⟩:=hrel
  by_cases hin:i<n
  ·obtain ⟨ad,aT,rfl,bM,aF⟩:=(h.rd.later aA).cellM hin
   have K2:=Aa (fun q=>ze6 A' n' c' (digs y) i (wr.drewN q) ((h'.rd.later aA).drewN q) (by omega));have aR:=zap x _ (List.getElem_mem aT);have aV:=zaA (zap y) i;have aM:(digs x).getD i 0=(digs x)[i]:=by simp [List.getD,aT]
   unfold natv at aF;obtain ⟨xk,aI⟩:∃ xk,(digs x)[i]=xk:=⟨_,rfl⟩;rw [aI] at aF aR aM;obtain ⟨yk,aN⟩:∃ yk,(digs y).getD i 0=yk:=⟨_,rfl⟩;rw [aN] at K2 aV;have HX:=Aa aM;have HY:=Aa aN;have aY:xk<1000000000:=aR;have e1:IntKind.i64.wrap ((xk:Int) - (yk:Int))=(xk:Int) - (yk:Int):=IntWalk.i64_in _ (by omega);obtain ⟨z,hz⟩:∃ z:Int,z=(xk:Int) - (yk:Int) - (b0:Int):=⟨_,rfl⟩;have e2:IntKind.i64.wrap ((xk:Int) - (yk:Int) - (b0:Int))=z:=by rw [IntWalk.i64_in _ (by omega)];exact hz.symm
   have bN:(0:Int)≤(i:Int):=by omega
   have bL:(i:Int)<(n:Int):=by omega
   have aD:∀ q,(wr.drewN q).ownsRow w.heap.size 3 1 _ i (ls.map natv):=fun q=>aC
   have aE:=fun q=>zac aA q
   have aJ:=Aa aD;have aO:=Aa aE;have HZ:=Aa hz;have bA:=aA.size;clear aM aI aN aD aE aC
   by_cases hneg:z<0
   case' pos=>obtain ⟨dd,aU⟩:∃ dd:Nat,z+1000000000=(dd:Int):=⟨(z+1000000000).toNat,by omega⟩
   case' neg=>obtain ⟨dd,aU⟩:∃ dd:Nat,z=(dd:Int):=⟨z.toNat,by omega⟩
   case' pos=>have aH:∃ b1:Nat,b1=1:=⟨_,rfl⟩
   case' neg=>have aH:∃ b1:Nat,b1=0:=⟨_,rfl⟩
   case' pos=>have dz:decide (z<0)=true:=by simpa using hneg
   case' neg=>have dz:decide (z<0)=false:=by simpa using hneg
   all_goals
    obtain ⟨b1,aH⟩:=aH;have aL:dd<B:=by unfold B;omega
    have HP:Hid (Wf (ls++[dd])∧(ls++[dd]).length=i+1∧val (ls++[dd])+val ((digs y).take (i+1))=val ((digs x).take (i+1))+B ^ (i+1)*b1):=by
     obtain ⟨hw,hl,aX⟩:=hv.out;exact ⟨hw.append (Wf.cons aL Wf.nil),by simp [hl],znF ls _ _ i dd b0 b1 hl aX (by rw [HX.out,HY.out];unfold B;omega)⟩
    have aP:=Aa aH;clear hz aH hv;go_upto_region 6 with (fail)
    go_quiet ((go_at_call 206;exact zcP (K2.out _)))
    clear e1 e2
    go_wp2_with (at_builtin;refine wpList_append_own _ rfl _ _ 78 rfl w.heap.size 3 i0 (.int .i64 0) 1 8 Tryz.underlying78 bG bF bB bJ rfl (by decide) _ _ _ rfl ((aJ.out _).alloc _) ⟨wr.heap.size,0,none⟩ 1 1 [.int .i64 (dd:Int)] rfl rfl ?c1 ?c2 ?c3 ?c4 ?c5 ?_)
    case c1=>first | exact cell_one_new _ _ _ | exact zoe (wr.drewN _) _ _
    case c2=>first | (intro u hu;simp at hu;subst hu;rfl) | rfl
    case c3=>unfold maxLen;omega
    case c4=>omega
    case c5=>first | (simp;omega) | omega
    intro v' w2 aK aG _;have bC:Below w.heap.size w w2:=((aO.out _).alloc bA _).grown aG (by simp;omega) (fun g hg=>(World.ownsRow.lt (aJ.out 0) g hg).1);clear aG;go_wp2
    go_roundg (n - (i+1))
    case measure=>omega
    case rel=>exact ⟨i+1,b1,ls++[dd],by omega,by have:=aP.out;omega,by go_num,by rw [aP.out];rfl,Nat.le_refl _,by rw [List.map_append];exact aK,HP.out,bC⟩
  ·obtain rfl:i=n:=by omega
   obtain ⟨hw,hl,hs⟩:=hv.out;rw [List.take_of_length_le (l:=digs y) (by rw [bE.out];exact aZ),List.take_of_length_le (l:=digs x) (by rw [bD.out];exact Nat.le_refl _),zaj,zaj] at hs;have h2:val ls<B ^ i:=by have:=zbm hw;rwa [hl] at this
   have aQ:val ls=x - y:=Bn.minus_end _ _ _ _ _ hs h2 bK.out bH;obtain ⟨A9,c9,rfl,bI,aW,aS⟩:=zcs aC;have ht:=zcl A9 i c9 ls wr ⟨aS,bI,aW,hw⟩ (by omega);rw [aQ] at ht;have HT:=Aa ht;clear ht aQ h2 hs hl hw hv aC aS
   go_wp2_with fail
   refine HT.out.mono ?_;rintro e w1 ⟨m,rfl,hd,aH⟩;go_wp2
   go_ret;exact ⟨A9,m,c9,rfl,hd,aA.trans (aH.mono aA.size)⟩
def RowI (w:World) (base g n c:Nat) (l:List Nat):Prop:=w.ownsRow base 3 1 (.slice (some ⟨g,0,none⟩) n c) n (l.map natv)
section
variable {w w':World} {base g n c:Nat} {l:List Nat}
theorem RowI.len (h:RowI w base g n c l):l.length=n:=by
 have:=h.1;rw [List.length_map] at this;omega
theorem RowI.cell (h:RowI w base g n c l) (k:Nat) (hk:k<n):w.cell? ⟨g,k,none⟩=some (.int .i64 ((l.getD k 0:Nat):Int)):=by
 have hl:k<l.length:=by rw [h.len];exact hk
 rw [World.ownsRow.cellAt h k (by omega)];simp [natv,List.getD,hl]
theorem RowI.free (h:RowI w base g n c l) (k:Nat):w.frozen? ⟨g,k,none⟩=false:=World.ownsRow.frozenAt h k
theorem RowI.set (h:RowI w base g n c l) (k x:Nat):RowI (w.setCell ⟨g,k,none⟩ (.int .i64 (x:Int))) base g n c (l.set k x):=by
 have:=(World.ownsRow.stored h k (natv x)).1;unfold RowI;rw [List.map_set];exact this
theorem RowI.lt (h:RowI w base g n c l):base≤g∧g<w.heap.size:=World.ownsRow.lt h g rfl
theorem RowI.reads (h:RowI w base g n c l):zaY w w.heap.size 1 (some ⟨g,0,none⟩) n (l.map natv):=zaY.of_own h
theorem RowI.kept {row:Option Nat} (h:RowI w base g n c l) (hg:w.grownBy w' row) (hr:row≠some g):RowI w' base g n c l:=
 World.ownsRow.kept h hg (.inr (by simpa [Value.ownBlock] using fun e=>hr e.symm))
theorem RowI.drewN (h:RowI w base g n c l) (q:Nat):RowI (w.drewN q) base g n c l:=h
theorem RowI.caps (h:RowI w base g n c l):n≤c∧c≤maxLen:=by
 rcases h.2 with ⟨h',_⟩ | ⟨g',aC,aG,h',hb,hg,aE,aD,aF,aA⟩
 ·simp at h'
 ·simp only [Value.slice.injEq] at h'
  obtain ⟨_,_,rfl⟩:=h';exact ⟨aE,aD⟩
theorem RowI.dig (h:RowI w base g n c l) (hw:Wf l):DigI w (some ⟨g,0,none⟩) n c l:=⟨h.reads,h.caps.1,h.caps.2,hw⟩
end
theorem RowI.made {w1:World} {base g n:Nat} (h:w1.ownsRow base 3 1 (.slice (some ⟨g,0,none⟩) n n) n (madeCells #[Value.int .i64 0] n).toList) :
  RowI w1 base g n n (List.replicate n 0):=by
 unfold RowI;rw [List.map_replicate]
 rwa [toList_madeCells_one] at h
def zoK (w wr:World) (n n':Nat) (la lb:List Nat) (i:Nat):Prop:=
 ∃ ls,RowI wr w.heap.size w.heap.size (n+n') (n+n') ls∧Wf ls∧val ls=val (la.take i)*val lb∧(∀ t,i+n'≤t→ls.getD t 0=0)∧Below w.heap.size w wr
def zoU (w wr:World) (n n':Nat) (la lb:List Nat) (i j c:Nat):Prop:=
 ∃ ls,RowI wr w.heap.size w.heap.size (n+n') (n+n') ls∧Wf ls∧val ls+B ^ (i+j)*c=val (la.take i)*val lb+B ^ i*(la.getD i 0*val (lb.take j))∧(∀ t,i+n'≤t→ls.getD t 0=0)∧Below w.heap.size w wr
theorem zcI (A A':Option Addr) (n c n' c' x y:Nat) (w:World) (ha:DigI w A n c (digs x)) (hb:DigI w A' n' c' (digs y)) (hn:n≤1048576) (hn':n'≤1048576) :
  Calls Tryz.prog 167 #[.slice A n c,.slice A' n' c'] w fun e w'=>zmU w (x*y) e w':=by
 obtain ⟨i0,cA,bY,bU,cH⟩:=info_parts zdk;have bI:=ha.len;have aZ:=hb.len;have bJ:val (digs y)≤B ^ n':=by have:=zbm (zap y);rw [aZ] at this;omega
 have HA:=Aa bI;have HB:=Aa aZ;have bT:=Aa bJ;clear bI aZ bJ;go_enter Tryz.func167,Tryz.ntmps167
 go_wp2_with (at_make;refine wpList_make_full _ rfl _ _ 78 rfl w.heap.size 3 i0 (.int .i64 0) 1 Tryz.underlying78 cA bY bU _ _ _ _ (n+n') rfl rfl (by omega) (by omega) ?b2 ?b3 (Nat.le_refl _) ?_)
 case b2=>rw [cH];omega
 case b3=>unfold maxLen;omega
 intro w0 aH aE;have aL:Below w.heap.size w w0:=(Below.refl _ _).grown aE (Nat.le_refl _) (fun k h=>by cases h);have aN:=RowI.made aH;clear aH aE;go_wp2
 go_loopw [6] (fun s wr=>∃ i:Nat,i≤n∧s = .int .i64 i∧zoK w wr n n' (digs x) (digs y) i) (fun s _=>n - (intOf s).toNat)
 case atStart=>exact ⟨0,by omega,rfl,_,aN,Wf.replicate _,by simp [zaX],fun t _=>zcu _ _,aL⟩
 case round=>
  obtain ⟨i,hi,rfl,ls,aP,bO,aO,hz,aD⟩:=hrel;obtain ⟨wo,rfl⟩:∃ wo:World,wo=wr:=⟨_,rfl⟩;have HV:=Aa aO;have HZ:=Aa hz;clear aO hz
  by_cases hin:i<n
  ·obtain ⟨ad,bP,rfl,bL,bB⟩:=(ha.rd.below aD).cellM (k:=i) hin
   have bM:=zap x _ (List.getElem_mem bP);have aY:(digs x).getD i 0=(digs x)[i]:=by simp [List.getD,bP]
   unfold natv at bB;obtain ⟨f,bN⟩:∃ f,(digs x)[i]=f:=⟨_,rfl⟩;rw [bN] at bB bM aY;have HF:=Aa aY;clear aY bN;have bQ:f<1000000000:=bM
   go_wp2_with fail
   go_loopw [7,8] (fun cy s wr=>∃ j c0:Nat,j≤n'∧c0≤1000000000∧s = .int .i64 j∧cy = .int .i64 c0∧zoU w wr n n' (digs x) (digs y) i j c0) (fun _ s _=>n' - (intOf s).toNat)
   case atStart=>exact ⟨0,0,by omega,by omega,rfl,rfl,ls,aP,bO,by rw [HV.out];simp,HZ.out,aD⟩
   case round=>
    obtain ⟨j,c0,hj,cM,rfl,rfl,l2,aA,aI,aF,aS,aC⟩:=hrel;have bG:=Aa aF;have aT:=Aa aS;clear aF aS;have bV:=(aC.cell (p:=ad.add i) (by rw [zaK];exact bL)).trans (((aD.cell (p:=ad.add i) (by rw [zaK];exact bL)).symm).trans bB)
    by_cases hjn:j<n'
    ·obtain ⟨cK,aR,rfl,cL,bK⟩:=(hb.rd.below aC).cellM (k:=j) hjn
     have bH:=zap y _ (List.getElem_mem aR);have bA:(digs y).getD j 0=(digs y)[j]:=by simp [List.getD,aR]
     unfold natv at bK;obtain ⟨yk,bF⟩:∃ yk,(digs y)[j]=yk:=⟨_,rfl⟩;rw [bF] at bK bH bA;have bR:yk<1000000000:=bH;have aK:=aA.cell (i+j) (by omega);have cC:=aA.free (i+j);have bX:=zaA aI (i+j);obtain ⟨o,bE⟩:∃ o,l2.getD (i+j) 0=o:=⟨_,rfl⟩;rw [bE] at aK bX;obtain ⟨p,hp⟩:∃ p,p=f*yk:=⟨_,rfl⟩;have cJ:p≤999999999000000000:=by
      rw [hp];exact Nat.le_trans (Nat.mul_le_mul (show f≤999999999 by omega) (show yk≤1000000000 by omega)) (by decide)
     have em:(f:Int)*(yk:Int)=(p:Int):=by rw [hp];exact (Int.natCast_mul f yk).symm
     obtain ⟨t,ht⟩:∃ t,t=o+p+c0:=⟨_,rfl⟩;obtain ⟨lo,aV⟩:∃ lo,lo=t % B:=⟨_,rfl⟩;obtain ⟨aG,aU⟩:∃ aG,aG=t / B:=⟨_,rfl⟩;have bD:lo<B:=by rw [aV];exact Nat.mod_lt _ zaO
     have cN:t≤1000000000999999999:=by omega
     have aW:aG≤1000000000:=by rw [aU];unfold B;omega
     have e1:lo+B*aG=f*yk+o+c0:=by rw [aV,aU,Nat.mod_add_div,←hp,ht];omega
     have HP:Hid (val (l2.set (i+j) lo)+B ^ (i+(j+1))*aG=val ((digs x).take i)*val (digs y)+B ^ i*((digs x).getD i 0*val ((digs y).take (j+1)))):=
      zef l2 (digs y) i j _ _ lo aG c0 (by rw [aA.len];omega) bG.out (by rw [bA,bE,HF.out];exact e1)
     have aX:Hid (∀ t,i+n'≤t→(l2.set (i+j) lo).getD t 0=0):=fun t ht=>by rw [zaG _ _ _ _ (by omega)];exact aT.out t ht
     have es:((t:Nat):Int) % 1000000000=(lo:Int):=by rw [aV];unfold B;omega
     have ed:((t:Nat):Int) / 1000000000=(aG:Int):=by rw [aU];unfold B;omega
     have cB:IntKind.i64.wrap ((i:Int)+(j:Int))=((i+j:Nat):Int):=by rw [IntWalk.i64_in _ (by omega)];omega
     have cE:IntKind.i64.wrap ((f:Int)*(yk:Int))=(p:Int):=by rw [em,IntWalk.i64_in _ (by omega)]
     obtain ⟨op,cG⟩:∃ op:Nat,op=o+p:=⟨_,rfl⟩;have bS:IntKind.i64.wrap ((o:Int)+(p:Int))=(op:Int):=by rw [IntWalk.i64_in _ (by omega)];omega
     have cI:IntKind.i64.wrap ((op:Int)+(c0:Int))=(t:Int):=by rw [IntWalk.i64_in _ (by omega)];omega
     have q1:(0:Int)≤((i+j:Nat):Int):=by omega
     have q2:((i+j:Nat):Int)<((n+n':Nat):Int):=by omega
     have q3:(0:Int)≤(i:Int):=by omega
     have q4:(i:Int)<(n:Int):=by omega
     have q5:(0:Int)≤(j:Int):=by omega
     have q6:(j:Int)<(n':Int):=by omega
     clear e1 bA bE hp ht aV aU bF em cG;have aM:=Aa (fun q=>(aA.drewN q).set (i+j) lo);have bC:=Aa (aI.set (i+j) bD);have aQ:=Aa (fun q=>zac aC q);go_upto_region 9 with (fail)
     go_quiet (fail)
     clear cB cE bS cI q1 q2 q3 q4 q5 q6;go_wp2
     go_roundw
     case rel=>exact ⟨j+1,aG,by omega,aW,by go_num,rfl,_,aM.out _,bC.out,HP.out,aX.out,(aQ.out _).setCell (Nat.le_refl _) _⟩
     case measure=>simp [intOf]<;>omega
    ·obtain rfl:j=n':=by omega
     have aK:=aA.cell (i+j) (by omega);have cC:=aA.free (i+j);have aJ:i+j<l2.length:=by rw [aA.len];omega
     have HP:Hid (val (l2.set (i+j) c0)=val ((digs x).take (i+1))*val (digs y)):=
      zfM l2 (digs x) (digs y) i j c0 aJ (aT.out _ (Nat.le_refl _)) HB.out bG.out
     have cF:Hid (c0<B):=zni l2 (digs x) (digs y) i j c0 aJ HP.out (zap x) bT.out;have aX:Hid (∀ t,i+1+j≤t→(l2.set (i+j) c0).getD t 0=0):=fun t ht=>by rw [zaG _ _ _ _ (by omega)];exact aT.out t (by omega)
     rw [aT.out _ (Nat.le_refl _)] at aK
     replace aK:wr.cell? ⟨w.heap.size,i+j,none⟩=some (.int .i64 0):=aK
     clear aJ;go_wp2
     go_roundw
     case rel=>exact ⟨i+1,by omega,by go_num,_,aA.set (i+j) c0,aI.set _ cF.out,HP.out,aX.out,aC.setCell (Nat.le_refl _) _⟩
     case measure=>simp [intOf]<;>omega
  ·obtain rfl:i=n:=by omega
   have hv:val ls=x*y:=by rw [HV.out,List.take_of_length_le (by rw [HA.out];exact Nat.le_refl _),zaj,zaj]
   have ht:=zcl (some ⟨w.heap.size,0,none⟩) (i+n') (i+n') ls wo (aP.dig bO) (by omega);rw [hv] at ht;have HC:=Aa ht;clear ht hv
   go_wp2_with fail
   refine HC.out.mono ?_;rintro e w1 ⟨m,rfl,bW,bZ⟩;go_wp2
   go_ret;exact ⟨_,m,_,rfl,bW,aD.trans (bZ.mono aD.size)⟩
theorem zlx (a X d:Nat) (hd:0<d):(a+B*X) / d=(B*(X % d)+a) / d+B*(X / d)∧(a+B*X) % d=(B*(X % d)+a) % d:=by
 have hX:=Nat.mod_add_div X d;have e:a+B*X=B*(X % d)+a+d*(B*(X / d)):=by
  conv=>lhs;rw [←hX]
  rw [Nat.mul_add,Nat.mul_left_comm B d];omega
 constructor
 ·rw [e,Nat.add_mul_div_left _ _ hd]
 ·rw [e,Nat.add_mul_mod_self_left]
theorem zes (A:Option Addr) (n c d:Nat) (la:List Nat) (w:World) (h:DigI w A n c la) (hd:0<d) (hdB:d<B) (hn:n≤1048576) :
  Calls Tryz.prog 189 #[.slice A n c,.int .i64 (d:Int)] w fun e w'=>∃ A' m c',e = .returned (.tuple #[.slice A' m c',.int .i64 ((val la % d:Nat):Int)])∧DigI w' A' m c' (digs (val la / d))∧Below w.heap.size w w':=by
 obtain ⟨i0,bB,aZ,aV,bD⟩:=info_parts zdk;have aO:=h.len;have aP:=Aa aO;have bE:=Aa h.wf;have aW:d<1000000000:=hdB;clear aO hdB;go_enter Tryz.func189,Tryz.ntmps189
 go_wp2_with (at_make;refine wpList_make_full _ rfl _ _ 78 rfl w.heap.size 3 i0 (.int .i64 0) 1 Tryz.underlying78 bB aZ aV _ _ _ _ n rfl rfl (by omega) (by omega) ?b2 ?b3 (Nat.le_refl _) ?_)
 case b2=>rw [bD];omega
 case b3=>unfold maxLen;omega
 intro w0 aF aC;have aG:Below w.heap.size w w0:=(Below.refl _ _).grown aC (Nat.le_refl _) (fun k h=>by cases h);have aH:=RowI.made aF;clear aF aC;go_wp2
 go_loopg [7,8] n (fun q r s W=>∃ (k rs:Nat) (ls:List Nat),k≤n∧s = .int .i64 ((k:Int) - 1)∧r = .int .i64 (rs:Int)∧rs<d∧k≤q∧RowI W w.heap.size w.heap.size n n ls∧Hid (Wf ls∧val (ls.drop k)=val (la.drop k) / d∧rs=val (la.drop k) % d)∧Below w.heap.size w W)
 case atStart=>exact ⟨n,0,_,Nat.le_refl _,rfl,rfl,hd,Nat.le_refl _,aH,⟨Wf.replicate _,by rw [List.drop_of_length_le (by simp),List.drop_of_length_le (by rw [aP.out];exact Nat.le_refl _)];simp,by rw [List.drop_of_length_le (by rw [aP.out];exact Nat.le_refl _)];simp⟩,aG⟩
 case round=>
  obtain ⟨k,rs,ls,hk,rfl,rfl,aY,hq,aA,hv,aD⟩:=hrel
  by_cases h0:0<k
  ·obtain ⟨i,rfl⟩:∃ i:Nat,k=i+1:=⟨k - 1,by omega⟩
   have e1:((i+1:Nat):Int) - 1=(i:Int):=by omega
   rw [e1];obtain ⟨ad,aS,rfl,bI,aE⟩:=(h.rd.below aD).cellM (k:=i) (by omega);have aR:=bE.out _ (List.getElem_mem aS);have aK:la.drop i=la[i] :: la.drop (i+1):=List.drop_eq_getElem_cons aS;unfold natv at aE;obtain ⟨a,aN⟩:∃ a,la[i]=a:=⟨_,rfl⟩;rw [aN] at aE aR aK;have aU:a<1000000000:=aR;obtain ⟨t,ht⟩:∃ t,t=rs*1000000000+a:=⟨_,rfl⟩;have bF:t<1000000000*d:=by
    have:(rs+1)*1000000000≤d*1000000000:=Nat.mul_le_mul_right _ aY;rw [ht];omega
   have bG:t<1000000000000000000:=by omega
   obtain ⟨q1,aJ⟩:∃ q1,q1=t / d:=⟨_,rfl⟩;obtain ⟨r1,aL⟩:∃ r1,r1=t % d:=⟨_,rfl⟩;have aM:r1<d:=by rw [aL];exact Nat.mod_lt _ hd
   have aI:q1<B:=by rw [aJ];exact (Nat.div_lt_iff_lt_mul hd).2 bF
   have HP:Hid (Wf (ls.set i q1)∧val ((ls.set i q1).drop i)=val (la.drop i) / d∧r1=val (la.drop i) % d):=by
    obtain ⟨hw,h1,h2⟩:=hv.out;obtain ⟨s1,s2⟩:=zlx a (val (la.drop (i+1))) d hd;refine ⟨hw.set _ aI,?_,?_⟩
    ·rw [zfd _ _ _ (by rw [aA.len];omega),h1,aK,val_cons,s1,aJ,ht,h2]
     rw [Nat.mul_comm (val (la.drop (i+1)) % d) 1000000000];rfl
    ·rw [aK,val_cons,s2,aL,ht,h2,Nat.mul_comm (val (la.drop (i+1)) % d) 1000000000]
     rfl
   have et:(rs:Int)*1000000000+(a:Int)=(t:Int):=by omega
   have ed:(t:Int) / (d:Int)=(q1:Int):=by rw [aJ];exact (Int.natCast_ediv t d).symm
   have em:(t:Int) % (d:Int)=(r1:Int):=by rw [aL];exact (Int.natCast_emod t d).symm
   have bH:((d:Int)==0)=false:=by rw [beq_eq_false_iff_ne];omega
   have bJ:=aA.free i;have aT:=aA.cell i (by omega);generalize ls.getD i 0=old at aT;have HR:=Aa (aA.set i q1);have bC:=Aa em;have aQ:q1<1000000000:=aI;clear aN aK ht aJ aL hv e1;go_wp2
   go_roundg i
   case measure=>omega
   case rel=>exact ⟨i,r1,_,by omega,rfl,by first | rfl | rw [bC.out],aM,Nat.le_refl _,HR.out,HP.out,aD.setCell (Nat.le_refl _) _⟩
  ·obtain rfl:k=0:=by omega
   obtain ⟨hw,h1,h2⟩:=hv.out;rw [List.drop_zero,List.drop_zero] at h1;rw [List.drop_zero] at h2;have ht:=zcl (some ⟨w.heap.size,0,none⟩) n n ls wr (aA.dig hw) (by omega);rw [h1] at ht;have HC:=Aa ht;have H2:=Aa h2;clear ht h1 h2 hv
   go_wp2_with fail
   refine HC.out.mono ?_;rintro e w1 ⟨m,rfl,aX,bA⟩;go_wp2
   go_ret2
   exact ⟨_,m,_,by rw [H2.out];rfl,aX,aD.trans (bA.mono aD.size)⟩
end
section
open Go.RowKit Bn
open Flt
theorem zoW:dn 1 0=4607182418800017408:=by decide +kernel
theorem zhk (W:World):Calls Tryz.prog 99 #[.float .f64 4607182418800017408,.int .i64 128] W fun e' w'=>e' = .returned (.float .f64 (dn 1 128))∧W=w':=by
 rw [←zoW];have b1:(1:Nat).log2=0:=by decide
 exact zet W (zjm W (by omega) (by omega) (by rw [b1];omega) (by rw [b1];omega))
theorem zm3:Ieee.double.read 9218868437227405312 = .infinity false:=by decide +kernel
theorem zpl {x m:Nat} {p:Int} (h:Ieee.double.read x = .number false m p):(FloatKind.f64.format.order 9218868437227405312 x==some .gt || FloatKind.f64.format.order 9218868437227405312 x==some .eq)=true:=by
 have:FloatKind.f64.format.order 9218868437227405312 x=some .gt:=by
  show (Ieee.double.read 9218868437227405312).order (Ieee.double.read x)=_
  rw [zm3,h];rfl
 rw [this];rfl
theorem zot {n:Nat} {e:Int} (h:Rnd n e) (h0:0<n) (he:e≤1099511627776) :
  ∃ r:Nat,(∀ W:World,Calls Tryz.prog 99 #[.float .f64 (dn n 0),.int .i64 e] W fun e' w'=>e' = .returned (.float .f64 r)∧W=w') ∧
   (FloatKind.f64.format.order r (dn 1 128)==some .gt || FloatKind.f64.format.order r (dn 1 128)==some .eq)=decide (2139095040≤rung n e) ∧
   (rung n e<2139095040→r=dn n e∧Nrm (sg n) (e+n.log2 - 52)):=by
 have hp:=h.place;have hh:=h.hi;have hl:=h.log2 h0
 by_cases hc:e+n.log2≤1023
 ·exact ⟨dn n e,fun W=>zet W (zjm W h0 (by omega) (by omega) hc),zpc h h0 hc rfl,fun _=>⟨rfl,zem h0 (by omega) (by omega) hc⟩⟩
 ·have hr:2139095040≤rung n e:=by unfold rung;omega
  refine ⟨9218868437227405312,fun W=>zet W (zmg W h0 (by omega) (by omega) (by omega)),?_,fun hx=>absurd hr (by omega)⟩;have b1:(1:Nat).log2=0:=by decide
  rw [zpl (zim (n:=1) (e:=128) (by omega) (by omega) (by rw [b1];omega) (by rw [b1];omega)),decide_eq_true hr]
theorem zk9 (s:ByteArray) (w:World) (hT:Tabs w) (hs:s.size≤4294967296) (hx:zam s.data.toList≠0) :
  Calls Tryz.prog 36 #[.string s] w fun e w'=>e = .returned (.tuple #[.float .f32 0,.int .i64 (zam s.data.toList)])∧Below w.heap.size w w':=by
 have hr:=zcb s w hT hs;generalize zam s.data.toList=x at hr hx ⊢;generalize zak s.data.toList=q at hr;have aA:(x != 0)=true:=by simpa using hx
 go_enter Tryz.func36,Tryz.ntmps36
 go_wp2_with fail
 refine hr.mono ?_;rintro e w1 ⟨v,rfl,⟨A,n,c,A',n',c',rfl,h1,h2⟩,hb⟩;go_wp2
 go_ret2
 exact ⟨rfl,hb.alloc hb.size _⟩
theorem zkv (s:ByteArray) (w:World) (hT:Tabs w) (hs:s.size≤4294967296) (hx:zam s.data.toList=0) (hz:(zak s.data.toList).top=0) :
  Calls Tryz.prog 36 #[.string s] w fun e w'=>e = .returned (.tuple #[.float .f32 0,.int .i64 0])∧Below w.heap.size w w':=by
 have hr:=zcb s w hT hs;rw [hx] at hr;generalize zak s.data.toList=q at hr hz;go_enter Tryz.func36,Tryz.ntmps36
 go_wp2_with fail
 refine hr.mono ?_;rintro e w1 ⟨v,rfl,⟨A,n,c,A',n',c',rfl,h1,h2⟩,hb⟩;have aC:Below w1.heap.size w1 (w1.alloc (.cells #[.bool q.neg,.slice A n c,.slice A' n' c'] 87)):=Ac;have aA:=zc7 q.neg q.top A A' n c n' c' _ (h1.later aC);rw [decide_eq_true hz] at aA;have aE:=Aa aA;clear aA hr
 go_wp2_with fail
 refine aE.out.mono ?_;rintro e w3 ⟨rfl,aD⟩;go_wp2
 go_ret2
 exact ⟨rfl,(hb.trans (aC.mono hb.size)).trans (aD.mono (by have:=hb.size;simp;omega))⟩
theorem zeX (s:ByteArray) (w:World) (X r r2 R E:Nat) (g:Bool) (hT:Tabs w) (hs:s.size≤4294967296) (hx:zam s.data.toList=0) (hz:0<(zak s.data.toList).top)
  (hX:floatOfInt .f64 ((flN (zak s.data.toList).top (zak s.data.toList).bot:Nat):Int)=X)
  (hL:∀ W:World,Calls Tryz.prog 99 #[.float .f64 X,.int .i64 (flE (zak s.data.toList).top (zak s.data.toList).bot)] W fun e' w'=>e' = .returned (.float .f64 r)∧W=w')
  (hE:∀ W:World,Calls Tryz.prog 99 #[.float .f64 4607182418800017408,.int .i64 128] W fun e' w'=>e' = .returned (.float .f64 E)∧W=w')
  (hG:(FloatKind.f64.format.order r E==some .gt || FloatKind.f64.format.order r E==some .eq)=g)
  (hN:g=false→(zak s.data.toList).neg=true→floatBits .sub .f64 0 r=some r2)
  (hR:g=false→floatToFloatBits .f64 (if (zak s.data.toList).neg then r2 else r) .f32=some R) :
  Calls Tryz.prog 36 #[.string s] w fun e w'=>e = .returned (.tuple #[.float .f32 (if g then 0 else R),.int .i64 (if g then 4 else 0)])∧Below w.heap.size w w':=by
 have hr:=zcb s w hT hs;have hl:=@zaN s.data.toList hx;have aA:=@zfP s.data.toList hx;rw [hx] at hr;generalize zak s.data.toList=q at hr hz hX hL hN hR hl aA;obtain ⟨aU,hq⟩:=zk3 hz aA;have nb:=zgE (zbW hl.1) (zbW hl.2);have aV:flE q.top q.bot≤1073741824:=by unfold flE;omega
 have aR : -1073741824≤flE q.top q.bot:=by unfold flE;omega
 have aX:=zlp aA (flE q.top q.bot);have w1:wrap64 (bexp q.top q.bot+1)=bexp q.top q.bot+1:=IntWalk.wrap64_in _ (by omega);have w2:wrap64 (bexp q.top q.bot+1 - 24)=bexp q.top q.bot+1 - 24:=IntWalk.wrap64_in _ (by omega);have bA:max (bexp q.top q.bot+1 - 24) (-149)=flE q.top q.bot:=rfl;obtain ⟨l1,l2⟩:=hl;have HZ:=Aa hz;have HL:=Aa hL;have HE:=Aa hE;have HN:=Aa hN;have HR:=Aa hR;have HG:=Aa hG;clear hz hL hE hN hR hG;go_enter Tryz.func36,Tryz.ntmps36
 go_wp2_with fail
 refine hr.mono ?_;rintro e w1 ⟨v,rfl,⟨A,n,c,A',n',c',rfl,h1,h2⟩,hb⟩;rw [h1.len] at l1;rw [h2.len] at l2;have aE:Below w1.heap.size w1 (w1.alloc (.cells #[.bool q.neg,.slice A n c,.slice A' n' c'] 87)):=Ac;have aF:=zc7 q.neg q.top A A' n c n' c' _ (h1.later aE);rw [decide_eq_false (show ¬ q.top=0 by have:=HZ.out;omega)] at aF;have aL:=Aa aF;clear aF hr
 go_wp2_with fail
 refine aL.out.mono ?_;rintro e w3 ⟨rfl,aD⟩;clear aL;have aN:zae w3 w1.heap.size q.neg (.slice A n c) (.slice A' n' c'):=(zae.new w1 _ _ _).below aD (by simp);have aH:Below w.heap.size w w3:=(hb.trans (aE.mono hb.size)).trans (aD.mono (by have:=hb.size;simp;omega));have aQ:w1.heap.size<w3.heap.size:=by have:=aD.size;simp at this;omega
 have g1:=(h1.later aE).later aD;have g2:=(h2.later aE).later aD;have aK:=zeo q.neg q.top q.bot A A' n c n' c' w3 g1 g2 (by omega) (by omega);obtain ⟨x0,x1,x2,_,_,_,xl⟩:=aN.cells;have aJ:=Aa aK;clear aK
 go_wp2_with fail
 refine aJ.out.mono ?_;rintro e w4 ⟨rfl,aC⟩;clear aJ x0 x1 x2 xl;have aM:=aN.below aC aQ;have aS:w1.heap.size<w4.heap.size:=by have:=aC.size;omega
 have aG:=ziP q.neg q.top q.bot (flE q.top q.bot) A A' n c n' c' w4 (g1.later aC) (g2.later aC) (by omega) (by omega) ⟨aR,aV⟩ aX (by omega);have aY:near (scT q.top (flE q.top q.bot)) (scB q.bot (flE q.top q.bot))=flN q.top q.bot:=rfl;rw [aY] at aG;obtain ⟨x0,x1,x2,_,_,_,xl⟩:=aM.cells;have aP:=Aa aG;clear aG
 go_wp2_with fail
 refine aP.out.mono ?_;rintro e w5 ⟨rfl,aO⟩;clear aP x0 x1 x2 xl;have aT:=aM.below aO aS;obtain ⟨x0,x1,x2,_,_,_,xl⟩:=aT.cells;have aI:Below w.heap.size w w5:=(aH.trans (aC.mono aH.size)).trans (aO.mono (by have:=aH.size;have:=aC.size;omega));generalize flN q.top q.bot=N at *;generalize flE q.top q.bot=e at *
 go_wp2_with fail
 refine (HL.out _).mono ?_;rintro e6 w6 ⟨rfl,rfl⟩
 go_wp2_with fail
 refine (HE.out _).mono ?_;rintro e7 w7 ⟨rfl,rfl⟩;have hG:=HG.out
 cases hg:g
 ·subst hg
  have hR:=HR.out rfl
  cases hn:q.neg
  ·rw [hn,if_neg (by decide)] at hR
   rw [hn] at x0;have aW:=fun W:World=>run_convert_float_float (P:=Tryz.prog) W 111 46 .f64 .f32 r R (by kernel_rfl) (by kernel_rfl) hR
   go_wp2
   go_ret2
   exact ⟨rfl,aI⟩
  ·have hN:=HN.out rfl hn
   rw [hn,if_pos rfl] at hR;rw [hn] at x0;have aZ:=fun W:World=>run_float_arith (P:=Tryz.prog) W .sub 111 .f64 0 r r2 hN
   have aW:=fun W:World=>run_convert_float_float (P:=Tryz.prog) W 111 46 .f64 .f32 r2 R (by kernel_rfl) (by kernel_rfl) hR
   go_wp2
   go_ret2
   exact ⟨rfl,aI⟩
 ·subst hg
  go_wp2
  go_ret2
  exact ⟨rfl,aI⟩
theorem zkA:floatOfInt .f64 ((0:Nat):Int)=0:=by decide +kernel
theorem zij:(FloatKind.f64.format.order 0 (dn 1 128)==some .gt || FloatKind.f64.format.order 0 (dn 1 128)==some .eq)=false:=by
 have b1:(1:Nat).log2=0:=by decide
 have f2:=zlG (e:=128) (by omega) (by omega);have k2:=zkO (e:=128) (u:=1178) (by omega) (by omega) (by omega);have f4:=za3 zb6;have k4:=zbb zb6;rw [Nat.zero_mul] at k4;show (Ieee.double.order _ _==some .gt || Ieee.double.order _ _==some .eq)=false
 rw [zcT f4 f2,k4,k2];have:=Nat.two_pow_pos (24+1178);generalize 2 ^ (24+1178)=A at this;rw [zgp (by omega)];rfl
theorem zlv:floatToFloatBits .f64 0 .f32=some 0:=by decide +kernel
theorem zhR (s:ByteArray) (w:World) (hT:Tabs w) (hs:s.size≤4294967296) :
  Calls Tryz.prog 36 #[.string s] w fun e w'=>
   e = .returned (.tuple #[.float .f32 (if zam s.data.toList≠0 then 0 else flW (zak s.data.toList)),.int .i64 (if zam s.data.toList≠0 then zam s.data.toList else flX (zak s.data.toList))])∧Below w.heap.size w w':=by
 by_cases hx:zam s.data.toList=0
 ·rw [if_neg (by simpa using hx),if_neg (by simpa using hx)]
  by_cases hz:(zak s.data.toList).top=0
  ·have:=zkv s w hT hs hx hz
   unfold flW flX;rw [if_pos hz,if_pos hz];exact this
  ·have aC:0<(zak s.data.toList).top:=by omega
   obtain ⟨aA,hq⟩:=zk3 aC (zfP hx);have hl:=zaN hx;have nb:=zgE (zbW hl.1) (zbW hl.2);have aD:flE (zak s.data.toList).top (zak s.data.toList).bot≤1073741824:=by unfold flE;omega
   unfold flW flX;rw [if_neg hz,if_neg hz]
   by_cases hN:flN (zak s.data.toList).top (zak s.data.toList).bot=0
   ·rw [if_pos hN,if_pos hN]
    exact zeX s w 0 0 0 0 (dn 1 128) false hT hs hx aC (by rw [hN];exact zkA) (fun W=>zet W (zkg W)) zhk zij (fun _ _=>zg0) (fun _=>by rw [ite_self];exact zlv)
   ·rw [if_neg hN,if_neg hN]
    have h0:0<flN (zak s.data.toList).top (zak s.data.toList).bot:=by omega
    obtain ⟨r,hL,hG,hD⟩:=zot aA h0 (by omega);have hX:=zmE (n:=flN (zak s.data.toList).top (zak s.data.toList).bot) h0 (by have:=aA.hi;omega)
    by_cases hR:2139095040≤rung (flN (zak s.data.toList).top (zak s.data.toList).bot) (flE (zak s.data.toList).top (zak s.data.toList).bot)
    ·rw [if_pos hR,if_pos hR]
     rw [decide_eq_true hR] at hG;exact zeX s w _ r 0 0 (dn 1 128) true hT hs hx aC hX hL zhk hG (fun h=>by cases h) (fun h=>by cases h)
    ·rw [if_neg hR,if_neg hR]
     rw [decide_eq_false hR] at hG;obtain ⟨hr,hn⟩:=hD (by omega);refine zeX s w _ r (dw true (sg (flN (zak s.data.toList).top (zak s.data.toList).bot)) (flE (zak s.data.toList).top (zak s.data.toList).bot+(flN (zak s.data.toList).top (zak s.data.toList).bot).log2 - 52)) _ (dn 1 128) false hT hs hx aC hX hL zhk hG (fun _ _ => ?_) (fun _ => ?_)
     ·rw [hr];exact zm1 hn
     ·rw [hr]
      have hc:=fun b=>zn9 b aA h0 (by omega)
      cases (zak s.data.toList).neg
      ·exact hc false
      ·exact hc true
 ·rw [if_pos (by simpa using hx),if_pos (by simpa using hx)]
  exact zk9 s w hT hs hx
theorem zct {a w:World} {B g:Nat} (h:Below B a w) (hg:B≤g) (u v:Value):Below B a ((w.setCell ⟨g,0,none⟩ u).setCell ⟨g,1,none⟩ v):=
 (h.setCell (p:=⟨g,0,none⟩) hg _).setCell (p:=⟨g,1,none⟩) hg _
theorem CBlk.far2 {w:World} {g g':Nat} {c:Array Value} {t:TypeId} (h:CBlk w g c t) (hne:g'≠g) (u v:Value):CBlk ((w.setCell ⟨g',0,none⟩ u).setCell ⟨g',1,none⟩ v) g c t:=
 (Below.heap_setCell _ ⟨g',1,none⟩ v g (fun e=>hne e.symm)).trans ((Below.heap_setCell w ⟨g',0,none⟩ u g (fun e=>hne e.symm)).trans h)
end
end Go.Proofs.YtbkgkoenppkhpaaGreatDoor
