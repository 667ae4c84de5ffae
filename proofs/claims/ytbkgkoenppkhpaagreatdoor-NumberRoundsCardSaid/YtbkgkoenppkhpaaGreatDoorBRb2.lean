/- Contracts of the reference's digits to the base 10^9: addDigits, subDigits. -/
import Derived.Test.YtbkgkoenppkhpaaGreatDoorBEx2
set_option maxRecDepth 100000
set_option maxHeartbeats 4000000
namespace Go.Proofs.YtbkgkoenppkhpaaGreatDoor
open Go.RowKit Dn
def RetI (w:World) (N:Nat) (P:List Nat→Prop) (e:Ending) (w':World):Prop:=∃ A m c ls,e = .returned (.slice A m c)∧DigI w' A m c ls∧m≤N∧P ls∧Below w.heap.size w w'
def zpQ (w:World) (x:Nat) (e:Ending) (w':World):Prop:=∃ A m c,e = .returned (.slice A m c)∧DigI w' A m c (digs x)∧Below w.heap.size w w'
theorem zqO(w:World)(v:Value)(t:TypeId):∀ (j:Nat) (u:Value),[v][j]? = some u→(w.alloc (.cells #[v] t)).cell? { block:=w.heap.size,off:=j }=some u:=by
 intro j u hu;have h:=cell_one_new w v t j u hu;have e:(⟨w.heap.size,0,none⟩:Addr).add j=⟨w.heap.size,j,none⟩:=by
  unfold Addr.add
  by_cases hj:j=0<;>simp[hj]
 rwa [e] at h
theorem zoQ(ls a b:List Nat)(k s c0 c1:Nat)(hk:ls.length=k)(hinv:val ls+B^k*c0=val (a.take k)+val (b.take k))(hs:s+B*c1=a.getD k 0+b.getD k 0+c0) :
  val (ls++[s])+B^(k+1)*c1=val (a.take (k+1))+val (b.take (k+1)):=by
 rw[zaQ,zaX,hk,zag a,zag b,Nat.pow_succ,Nat.mul_assoc];have h3:B^k*s+B^k*(B*c1)=B^k*a.getD k 0+B^k*b.getD k 0+B^k*c0:=by rw[←Nat.mul_add,hs,Nat.mul_add,Nat.mul_add]
 omega
theorem zpK(ls a b:List Nat)(k d b0 b1:Nat)(hk:ls.length=k)(hinv:val ls+val (b.take k)=val (a.take k)+B^k*b0)(hs:d+b.getD k 0+b0=a.getD k 0+B*b1) :
  val (ls++[d])+val (b.take (k+1))=val (a.take (k+1))+B^(k+1)*b1:=by
 rw[zaQ,zaX,hk,zag a,zag b,Nat.pow_succ,Nat.mul_assoc];have h3:B^k*d+B^k*b.getD k 0+B^k*b0=B^k*a.getD k 0+B^k*(B*b1):=by rw[←Nat.mul_add,←Nat.mul_add,hs,Nat.mul_add]
 omega
theorem ziB(la lb ls:List Nat)(i c0:Nat)(hwa:Wf la)(hwb:Wf lb)(ha:la.length+1≤i)(hb:lb.length+1≤i)(h:val ls+B^i*c0=val (la.take i)+val (lb.take i)):c0=0:=by
 have h1:=zbA (hwa.take i);have h2:=zbA (hwb.take i);rw[List.length_take] at h1 h2;have h3:B^min i la.length≤B^(i-1):=Nat.pow_le_pow_right zaS (by omega);have h4:B^min i lb.length≤B^(i-1):=Nat.pow_le_pow_right zaS (by omega);have h5:B^(i-1)*2≤B^(i-1)*B:=Nat.mul_le_mul_left _ zey;rw[←Nat.pow_succ,show(i-1).succ=i from by omega] at h5
 rcases Nat.eq_zero_or_pos c0 with h0 | h0
 ·exact h0
 ·exfalso
  have:=Nat.le_mul_of_pos_right (B^i) h0;omega
theorem zev(A A':Option Addr)(n c n' c':Nat)(la lb:List Nat)(w:World)(h:DigI w A n c la)(h':DigI w A' n' c' lb)(hn:n≤1048576)(hn':n'≤1048576) :
  Calls Tryz.prog 164 #[.slice A n c,.slice A' n' c'] w (RetI w (max n n'+1) fun ls=>val ls=val la+val lb):=by
 obtain⟨i0,aV,aT,bA,aX⟩:=info_parts zcc;obtain⟨N,hN⟩:∃ N,N=max n n':=⟨_,rfl⟩;rw[←hN];have aP:=h.len;have aO:=h'.len;have aN:=Aa aP;have aQ:=Aa aO;have aK:=Aa h.wf;have aJ:=Aa h'.wf;have bD:n≤N:=by omega
 have bH:n'≤N:=by omega
 have bC:N≤1048576:=by omega
 clear aP aO hN;go_enter Tryz.func164,Tryz.ntmps164
 go_wp2
 go_loopg [5,6,7] (N+1) (fun q v5 v6 v7 W=>∃ (i c0:Nat) (ls:List Nat),i≤N+1∧c0≤1∧v7 = .int .i64 i∧v6 = .int .i64 c0∧N+1-i≤q∧W.ownsRow w.heap.size 3 1 v5 i (ls.map natv) ∧
  Hid (Wf ls∧ls.length=i∧val ls+B^i*c0=val (la.take i)+val (lb.take i))∧Below w.heap.size w W)
 case atStart=>exact⟨0,0,[],by omega,by omega,rfl,rfl,by omega,World.ownsRow_nil _ _ _ _,⟨Wf.nil,rfl,by simp⟩,Below.refl _ _⟩
 case round=>
  obtain⟨i,c0,ls,hi,bG,rfl,rfl,hq,aC,hv,aA⟩:=hrel
  by_cases hend:¬ i<n∧¬ i<n'∧c0=0
  ·obtain⟨e1,e2,rfl⟩:=hend
   have d1:decide (i<n)=false:=by simpa using e1
   have d2:decide (i<n')=false:=by simpa using e2
   obtain⟨hw,hl,hs⟩:=hv.out;rw[List.take_of_length_le (by have:=aN.out;omega),List.take_of_length_le (by have:=aQ.out;omega),Nat.mul_zero,Nat.add_zero] at hs;obtain⟨A9,c9,rfl,aM,aL,aR⟩:=zcF aC;have HR:Hid (RetI w (N+1) (fun ls=>val ls=val la+val lb) (.returned (.slice A9 i c9)) wr):=⟨A9,i,c9,ls,rfl,⟨aR,aM,aL,hw⟩,hi,hs,aA⟩;clear hs hw hl aC hv aM aL aR;go_wp2
   go_ret;exact HR.out
  ·have bE:i≤N:=by
    obtain⟨hw,hl,hs⟩:=hv.out
    rcases Nat.lt_or_ge N i with h9 | h9
    ·exfalso
     have:=ziB la lb ls i c0 aK.out aJ.out (by have:=aN.out;omega) (by have:=aQ.out;omega) hs;exact hend ⟨by omega,by omega,this⟩
    ·exact h9
   have K1:=Aa (zfc A n c la i wr (h.rd.later aA) (by omega));have K2:=Aa (zfc A' n' c' lb i wr (h'.rd.later aA) (by omega));have aS:=zaH aK.out i;have aU:=zaH aJ.out i;obtain⟨xk,aI⟩:∃ xk,la.getD i 0=xk:=⟨_,rfl⟩;obtain⟨yk,aG⟩:∃ yk,lb.getD i 0=yk:=⟨_,rfl⟩;rw[aI] at K1 aS;rw[aG] at K2 aU;obtain⟨t,ht⟩:∃ t,t=xk+yk+c0:=⟨_,rfl⟩;obtain⟨s,hs⟩:∃ s,s=t%B:=⟨_,rfl⟩;obtain⟨d,hd⟩:∃ d,d=t/B:=⟨_,rfl⟩;have aY:s<B:=by rw[hs];exact Nat.mod_lt _ zaS
   have aW:d≤1:=by rw[hd];unfold B;omega
   have bF:t<4000000000:=by omega
   have HP:Hid (Wf (ls++[s])∧(ls++[s]).length=i+1∧val (ls++[s])+B^(i+1)*d=val (la.take (i+1))+val (lb.take (i+1))):=by
    obtain⟨hw,hl,aZ⟩:=hv.out;exact⟨hw.append (Wf.cons aY Wf.nil),by simp[hl],zoQ ls la lb i s c0 d hl aZ (by rw[aI,aG,hs,hd,Nat.mod_add_div,ht])⟩
   have es:((t:Nat):Int)%1000000000=(s:Int):=by rw[hs];unfold B;omega
   have ed:((t:Nat):Int)/1000000000=(d:Int):=by rw[hd];unfold B;omega
   have et:(xk:Int)+(yk:Int)+(c0:Int)=(t:Int):=by omega
   have aF:(decide (i<n)=true)∨(decide (i<n)=false∧decide (i<n')=true)∨(decide (i<n)=false∧decide (i<n')=false∧decide (0<c0)=true):=by
    simp only[decide_eq_true_eq,decide_eq_false_iff_not]
    omega
   clear aI aG hs hd ht hv hend
   rcases aF with d1 | ⟨d1,d2⟩ | ⟨d1,d2,d3⟩
   all_goals
    go_wp2_with fail
    refine K1.out.mono ?_;rintro e w1 ⟨rfl,aH⟩;obtain rfl:wr=w1:=aH
    go_wp2_with fail
    refine K2.out.mono ?_;rintro e w1 ⟨rfl,aH⟩;obtain rfl:wr=w1:=aH
    go_wp2_with (at_builtin;refine wpList_append_own _ rfl _ _ 78 rfl w.heap.size 3 i0 (.int .i64 0) 1 8 Tryz.underlying78 aV aT bA aX rfl (by decide) _ _ _ rfl (aC.alloc _) ⟨wr.heap.size,0,none⟩ 1 1 [.int .i64 s] rfl rfl ?c1 ?c2 ?c3 ?c4 ?c5 ?_)
    case c1=>exact cell_one_new _ _ _
    case c2=>intro u hu;simp at hu;subst hu;rfl
    case c3=>unfold maxLen;omega
    case c4=>omega
    case c5=>have:=aA.size;simp;omega
    intro v' w2 aE aD _;have bB:Below w.heap.size w w2:=(aA.alloc aA.size _).grown aD (by have:=aA.size;simp;omega) (fun g hg=>(World.ownsRow.lt aC g hg).1);clear aD aC;go_wp2
    go_roundg (N+1-(i+1))
    case measure=>omega
    case rel=>exact⟨i+1,d,ls++[s],by omega,aW,by go_num,rfl,Nat.le_refl _,by rw[List.map_append];exact aE,HP.out,bB⟩
theorem zeu(A A':Option Addr)(n c n' c' x y:Nat)(w:World)(h:DigI w A n c (digs x))(h':DigI w A' n' c' (digs y))(hyx:y≤x)(hn:n≤1048576)(hn':n'≤1048576) :
  Calls Tryz.prog 166 #[.slice A n c,.slice A' n' c'] w (zpQ w (x-y)):=by
 obtain⟨i0,bA,aW,bI,bG⟩:=info_parts zcc;have bE:=Aa h.len;have bJ:=Aa h'.len;have bB:n'≤n:=by rw[←h.len,←h'.len];exact zaa hyx
 have bF:=Aa hyx;clear hyx;go_enter Tryz.func166,Tryz.ntmps166
 go_wp2
 go_loopg [5,6,7] n (fun q v5 v6 v7 W=>∃ (i b0:Nat) (ls:List Nat),i≤n∧b0≤1∧v7 = .int .i64 i∧v6 = .int .i64 b0∧n-i≤q∧W.ownsRow w.heap.size 3 1 v5 i (ls.map natv) ∧
  Hid (Wf ls∧ls.length=i∧val ls+val ((digs y).take i)=val ((digs x).take i)+B^i*b0)∧Below w.heap.size w W)
 case atStart=>exact⟨0,0,[],by omega,by omega,rfl,rfl,by omega,World.ownsRow_nil _ _ _ _,⟨Wf.nil,rfl,by simp⟩,Below.refl _ _⟩
 case round=>
  obtain⟨i,b0,ls,hi,bD,rfl,rfl,hq,aC,hv,aA⟩:=hrel
  by_cases hin:i<n
  ·obtain⟨ad,aQ,rfl,bN,aD⟩:=(h.rd.later aA).cellM hin
   have K2:=Aa (fun q=>zfc A' n' c' (digs y) i (wr.drewN q) ((h'.rd.later aA).drewN q) (by omega));have aP:=zaq x _ (List.getElem_mem aQ);have aZ:=zaH (zaq y) i;have aO:(digs x).getD i 0=(digs x)[i]:=by simp[List.getD,aQ]
   unfold natv at aD;obtain⟨xk,aI⟩:∃ xk,(digs x)[i]=xk:=⟨_,rfl⟩;rw[aI] at aD aP aO;obtain⟨yk,aM⟩:∃ yk,(digs y).getD i 0=yk:=⟨_,rfl⟩;rw[aM] at K2 aZ;have HX:=Aa aO;have HY:=Aa aM;have aV:xk<1000000000:=aP;have e1:IntKind.i64.wrap ((xk:Int)-(yk:Int))=(xk:Int)-(yk:Int):=IntWalk.i64_in _ (by omega);obtain⟨z,hz⟩:∃ z:Int,z=(xk:Int)-(yk:Int)-(b0:Int):=⟨_,rfl⟩;have e2:IntKind.i64.wrap ((xk:Int)-(yk:Int)-(b0:Int))=z:=by rw[IntWalk.i64_in _ (by omega)];exact hz.symm
   have bL:(0:Int)≤(i:Int):=by omega
   have bM:(i:Int)<(n:Int):=by omega
   have aG:∀ q,(wr.drewN q).ownsRow w.heap.size 3 1 _ i (ls.map natv):=fun q=>aC
   have aE:=fun q=>zad aA q
   have aJ:=Aa aG;have aN:=Aa aE;have HZ:=Aa hz;have aX:=aA.size;clear aO aI aM aG aE aC
   by_cases hneg:z<0
   case' pos=>obtain⟨dd,aU⟩:∃ dd:Nat,z+1000000000=(dd:Int):=⟨(z+1000000000).toNat,by omega⟩
   case' neg=>obtain⟨dd,aU⟩:∃ dd:Nat,z=(dd:Int):=⟨z.toNat,by omega⟩
   case' pos=>have aH:∃ b1:Nat,b1=1:=⟨_,rfl⟩
   case' neg=>have aH:∃ b1:Nat,b1=0:=⟨_,rfl⟩
   case' pos=>have dz:decide (z<0)=true:=by simpa using hneg
   case' neg=>have dz:decide (z<0)=false:=by simpa using hneg
   all_goals
    obtain⟨b1,aH⟩:=aH;have aL:dd<B:=by unfold B;omega
    have HP:Hid (Wf (ls++[dd])∧(ls++[dd]).length=i+1∧val (ls++[dd])+val ((digs y).take (i+1))=val ((digs x).take (i+1))+B^(i+1)*b1):=by
     obtain⟨hw,hl,bH⟩:=hv.out;exact⟨hw.append (Wf.cons aL Wf.nil),by simp[hl],zpK ls _ _ i dd b0 b1 hl bH (by rw[HX.out,HY.out];unfold B;omega)⟩
    have aT:=Aa aH;clear hz aH hv;go_upto_region 6 with(fail)
    go_quiet ((go_at_call 206;exact zcD (K2.out _)))
    clear e1 e2
    go_wp2_with (at_builtin;refine wpList_append_own _ rfl _ _ 78 rfl w.heap.size 3 i0 (.int .i64 0) 1 8 Tryz.underlying78 bA aW bI bG rfl (by decide) _ _ _ rfl ((aJ.out _).alloc _) ⟨wr.heap.size,0,none⟩ 1 1 [.int .i64 (dd:Int)] rfl rfl ?c1 ?c2 ?c3 ?c4 ?c5 ?_)
    case c1=>first | exact cell_one_new _ _ _ | exact zqO (wr.drewN _) _ _
    case c2=>first | (intro u hu;simp at hu;subst hu;rfl) | rfl
    case c3=>unfold maxLen;omega
    case c4=>omega
    case c5=>first | (simp;omega) | omega
    intro v' w2 aK aF _;have bK:Below w.heap.size w w2:=((aN.out _).alloc aX _).grown aF (by simp;omega) (fun g hg=>(World.ownsRow.lt (aJ.out 0) g hg).1);clear aF;go_wp2
    go_roundg (n-(i+1))
    case measure=>omega
    case rel=>exact⟨i+1,b1,ls++[dd],by omega,by have:=aT.out;omega,by go_num,by rw[aT.out];rfl,Nat.le_refl _,by rw[List.map_append];exact aK,HP.out,bK⟩
  ·obtain rfl:i=n:=by omega
   obtain⟨hw,hl,hs⟩:=hv.out;rw[List.take_of_length_le (l:=digs y) (by rw[bJ.out];exact bB),List.take_of_length_le (l:=digs x) (by rw[bE.out];exact Nat.le_refl _),zak,zak] at hs;have h2:val ls<B^i:=by have:=zbA hw;rwa [hl] at this
   have aR:val ls=x-y:=Bn.minus_end _ _ _ _ _ hs h2 bF.out bD;obtain⟨A9,c9,rfl,bC,aY,aS⟩:=zcF aC;have ht:=zcM A9 i c9 ls wr ⟨aS,bC,aY,hw⟩ (by omega);rw[aR] at ht;have HT:=Aa ht;clear ht aR h2 hs hl hw hv aC aS
   go_wp2_with fail
   refine HT.out.mono ?_;rintro e w1 ⟨m,rfl,hd,aH⟩;go_wp2
   go_ret;exact⟨A9,m,c9,rfl,hd,aA.trans (aH.mono aA.size)⟩
def RowI (w:World) (base g n c:Nat) (l:List Nat):Prop:=w.ownsRow base 3 1 (.slice (some ⟨g,0,none⟩) n c) n (l.map natv)
section
variable {w w':World} {base g n c:Nat} {l:List Nat}
theorem RowI.len(h:RowI w base g n c l):l.length=n:=by
 have:=h.1;rw[List.length_map] at this;omega
theorem RowI.cell(h:RowI w base g n c l)(k:Nat)(hk:k<n):w.cell? ⟨g,k,none⟩=some (.int .i64 ((l.getD k 0:Nat):Int)):=by
 have hl:k<l.length:=by rw[h.len];exact hk
 rw[World.ownsRow.cellAt h k (by omega)];simp[natv,List.getD,hl]
theorem RowI.free(h:RowI w base g n c l)(k:Nat):w.frozen? ⟨g,k,none⟩=false:=World.ownsRow.frozenAt h k
theorem RowI.set (h:RowI w base g n c l) (k x:Nat):RowI (w.setCell ⟨g,k,none⟩ (.int .i64 (x:Int))) base g n c (l.set k x):=by
 have:=(World.ownsRow.stored h k (natv x)).1;unfold RowI;rw[List.map_set];exact this
theorem RowI.lt(h:RowI w base g n c l):base≤g∧g<w.heap.size:=World.ownsRow.lt h g rfl
theorem RowI.reads (h:RowI w base g n c l):zaA w w.heap.size 1 (some ⟨g,0,none⟩) n (l.map natv):=zaA.of_own h
theorem RowI.kept {row:Option Nat} (h:RowI w base g n c l) (hg:w.grownBy w' row) (hr:row≠some g):RowI w' base g n c l:=
 World.ownsRow.kept h hg (.inr (by simpa[Value.ownBlock] using fun e=>hr e.symm))
theorem RowI.drewN (h:RowI w base g n c l) (q:Nat):RowI (w.drewN q) base g n c l:=h
theorem RowI.caps (h:RowI w base g n c l):n≤c∧c≤maxLen:=by
 rcases h.2 with⟨h',_⟩ | ⟨g',aC,aF,h',hb,hg,aD,aE,aG,aA⟩
 ·simp at h'
 ·simp only[Value.slice.injEq] at h'
  obtain⟨_,_,rfl⟩:=h';exact⟨aD,aE⟩
theorem RowI.dig(h:RowI w base g n c l)(hw:Wf l):DigI w (some ⟨g,0,none⟩) n c l:=⟨h.reads,h.caps.1,h.caps.2,hw⟩
end
theorem RowI.made {w1:World} {base g n:Nat} (h:w1.ownsRow base 3 1 (.slice (some ⟨g,0,none⟩) n n) n (madeCells #[Value.int .i64 0] n).toList) :
  RowI w1 base g n n (List.replicate n 0):=by
 unfold RowI;rw[List.map_replicate]
 rwa [toList_madeCells_one] at h
def zrc (w wr:World) (n n':Nat) (la lb:List Nat) (i:Nat):Prop:=
 ∃ ls,RowI wr w.heap.size w.heap.size (n+n') (n+n') ls∧Wf ls∧val ls=val (la.take i)*val lb∧(∀ t,i+n'≤t→ls.getD t 0=0)∧Below w.heap.size w wr
def zr1 (w wr:World) (n n':Nat) (la lb:List Nat) (i j c:Nat):Prop:=
 ∃ ls,RowI wr w.heap.size w.heap.size (n+n') (n+n') ls∧Wf ls∧val ls+B^(i+j)*c=val (la.take i)*val lb+B^i*(la.getD i 0*val (lb.take j))∧(∀ t,i+n'≤t→ls.getD t 0=0)∧Below w.heap.size w wr
theorem zc3(A A':Option Addr)(n c n' c' x y:Nat)(w:World)(ha:DigI w A n c (digs x))(hb:DigI w A' n' c' (digs y))(hn:n≤1048576)(hn':n'≤1048576) :
  Calls Tryz.prog 167 #[.slice A n c,.slice A' n' c'] w fun e w'=>zpQ w (x*y) e w':=by
 obtain⟨i0,bW,bU,cG,cA⟩:=info_parts zcc;have bN:=ha.len;have bA:=hb.len;have bM:val (digs y)≤B^n':=by have:=zbA (zaq y);rw[bA] at this;omega
 have HA:=Aa bN;have HB:=Aa bA;have bQ:=Aa bM;clear bN bA bM;go_enter Tryz.func167,Tryz.ntmps167
 go_wp2_with (at_make;refine wpList_make_full _ rfl _ _ 78 rfl w.heap.size 3 i0 (.int .i64 0) 1 Tryz.underlying78 bW bU cG _ _ _ _ (n+n') rfl rfl (by omega) (by omega) ?b2 ?b3 (Nat.le_refl _) ?_)
 case b2=>rw[cA];omega
 case b3=>unfold maxLen;omega
 intro w0 aG aD;have aO:Below w.heap.size w w0:=(Below.refl _ _).grown aD (Nat.le_refl _) (fun k h=>by cases h);have aQ:=RowI.made aG;clear aG aD;go_wp2
 go_loopw [6] (fun s wr=>∃ i:Nat,i≤n∧s = .int .i64 i∧zrc w wr n n' (digs x) (digs y) i) (fun s _=>n-(intOf s).toNat)
 case atStart=>exact⟨0,by omega,rfl,_,aQ,Wf.replicate _,by simp[za2],fun t _=>zcJ _ _,aO⟩
 case round=>
  obtain⟨i,hi,rfl,ls,aR,bL,aN,hz,aE⟩:=hrel;obtain⟨wo,rfl⟩:∃ wo:World,wo=wr:=⟨_,rfl⟩;have HV:=Aa aN;have HZ:=Aa hz;clear aN hz
  by_cases hin:i<n
  ·obtain⟨ad,bJ,rfl,bG,aY⟩:=(ha.rd.below aE).cellM (k:=i) hin
   have bF:=zaq x _ (List.getElem_mem bJ);have bE:(digs x).getD i 0=(digs x)[i]:=by simp[List.getD,bJ]
   unfold natv at aY;obtain⟨f,bO⟩:∃ f,(digs x)[i]=f:=⟨_,rfl⟩;rw[bO] at aY bF bE;have HF:=Aa bE;clear bE bO;have bT:f<1000000000:=bF
   go_wp2_with fail
   go_loopw [7,8] (fun cy s wr=>∃ j c0:Nat,j≤n'∧c0≤1000000000∧s = .int .i64 j∧cy = .int .i64 c0∧zr1 w wr n n' (digs x) (digs y) i j c0) (fun _ s _=>n'-(intOf s).toNat)
   case atStart=>exact⟨0,0,by omega,by omega,rfl,rfl,ls,aR,bL,by rw[HV.out];simp,HZ.out,aE⟩
   case round=>
    obtain⟨j,c0,hj,cN,rfl,rfl,l2,aA,aJ,aH,aP,aC⟩:=hrel;have bP:=Aa aH;have aU:=Aa aP;clear aH aP;have cH:=(aC.cell (p:=ad.add i) (by rw[zbe];exact bG)).trans (((aE.cell (p:=ad.add i) (by rw[zbe];exact bG)).symm).trans aY)
    by_cases hjn:j<n'
    ·obtain⟨cJ,aL,rfl,cM,bH⟩:=(hb.rd.below aC).cellM (k:=j) hjn
     have bK:=zaq y _ (List.getElem_mem aL);have aX:(digs y).getD j 0=(digs y)[j]:=by simp[List.getD,aL]
     unfold natv at bH;obtain⟨yk,bI⟩:∃ yk,(digs y)[j]=yk:=⟨_,rfl⟩;rw[bI] at bH bK aX;have bX:yk<1000000000:=bK;have aS:=aA.cell (i+j) (by omega);have bR:=aA.free (i+j);have cC:=zaH aJ (i+j);obtain⟨o,bB⟩:∃ o,l2.getD (i+j) 0=o:=⟨_,rfl⟩;rw[bB] at aS cC;obtain⟨p,hp⟩:∃ p,p=f*yk:=⟨_,rfl⟩;have cK:p≤999999999000000000:=by
      rw[hp];exact Nat.le_trans (Nat.mul_le_mul (show f≤999999999 by omega) (show yk≤1000000000 by omega)) (by decide)
     have em:(f:Int)*(yk:Int)=(p:Int):=by rw[hp];exact(Int.natCast_mul f yk).symm
     obtain⟨t,ht⟩:∃ t,t=o+p+c0:=⟨_,rfl⟩;obtain⟨lo,aV⟩:∃ lo,lo=t%B:=⟨_,rfl⟩;obtain⟨aF,aT⟩:∃ aF,aF=t/B:=⟨_,rfl⟩;have bD:lo<B:=by rw[aV];exact Nat.mod_lt _ zaS
     have cL:t≤1000000000999999999:=by omega
     have aZ:aF≤1000000000:=by rw[aT];unfold B;omega
     have e1:lo+B*aF=f*yk+o+c0:=by rw[aV,aT,Nat.mod_add_div,←hp,ht];omega
     have HP:Hid (val (l2.set (i+j) lo)+B^(i+(j+1))*aF=val ((digs x).take i)*val (digs y)+B^i*((digs x).getD i 0*val ((digs y).take (j+1)))):=
      zeC l2 (digs y) i j _ _ lo aF c0 (by rw[aA.len];omega) bP.out (by rw[aX,bB,HF.out];exact e1)
     have bC:Hid (∀ t,i+n'≤t→(l2.set (i+j) lo).getD t 0=0):=fun t ht=>by rw[zaM _ _ _ _ (by omega)];exact aU.out t ht
     have es:((t:Nat):Int)%1000000000=(lo:Int):=by rw[aV];unfold B;omega
     have ed:((t:Nat):Int)/1000000000=(aF:Int):=by rw[aT];unfold B;omega
     have cI:IntKind.i64.wrap ((i:Int)+(j:Int))=((i+j:Nat):Int):=by rw[IntWalk.i64_in _ (by omega)];omega
     have cF:IntKind.i64.wrap ((f:Int)*(yk:Int))=(p:Int):=by rw[em,IntWalk.i64_in _ (by omega)]
     obtain⟨op,bZ⟩:∃ op:Nat,op=o+p:=⟨_,rfl⟩;have bS:IntKind.i64.wrap ((o:Int)+(p:Int))=(op:Int):=by rw[IntWalk.i64_in _ (by omega)];omega
     have bY:IntKind.i64.wrap ((op:Int)+(c0:Int))=(t:Int):=by rw[IntWalk.i64_in _ (by omega)];omega
     have q1:(0:Int)≤((i+j:Nat):Int):=by omega
     have q2:((i+j:Nat):Int)<((n+n':Nat):Int):=by omega
     have q3:(0:Int)≤(i:Int):=by omega
     have q4:(i:Int)<(n:Int):=by omega
     have q5:(0:Int)≤(j:Int):=by omega
     have q6:(j:Int)<(n':Int):=by omega
     clear e1 aX bB hp ht aV aT bI em bZ;have aM:=Aa (fun q=>(aA.drewN q).set (i+j) lo);have aW:=Aa (aJ.set (i+j) bD);have aK:=Aa (fun q=>zad aC q);go_upto_region 9 with(fail)
     go_quiet (fail)
     clear cI cF bS bY q1 q2 q3 q4 q5 q6;go_wp2
     go_roundw
     case rel=>exact⟨j+1,aF,by omega,aZ,by go_num,rfl,_,aM.out _,aW.out,HP.out,bC.out,(aK.out _).setCell (Nat.le_refl _) _⟩
     case measure=>simp[intOf]<;>omega
    ·obtain rfl:j=n':=by omega
     have aS:=aA.cell (i+j) (by omega);have bR:=aA.free (i+j);have aI:i+j<l2.length:=by rw[aA.len];omega
     have HP:Hid (val (l2.set (i+j) c0)=val ((digs x).take (i+1))*val (digs y)):=
      zgl l2 (digs x) (digs y) i j c0 aI (aU.out _ (Nat.le_refl _)) HB.out bP.out
     have cE:Hid (c0<B):=zpy l2 (digs x) (digs y) i j c0 aI HP.out (zaq x) bQ.out;have bC:Hid (∀ t,i+1+j≤t→(l2.set (i+j) c0).getD t 0=0):=fun t ht=>by rw[zaM _ _ _ _ (by omega)];exact aU.out t (by omega)
     rw[aU.out _ (Nat.le_refl _)] at aS
     replace aS:wr.cell? ⟨w.heap.size,i+j,none⟩=some (.int .i64 0):=aS
     clear aI;go_wp2
     go_roundw
     case rel=>exact⟨i+1,by omega,by go_num,_,aA.set (i+j) c0,aJ.set _ cE.out,HP.out,bC.out,aC.setCell (Nat.le_refl _) _⟩
     case measure=>simp[intOf]<;>omega
  ·obtain rfl:i=n:=by omega
   have hv:val ls=x*y:=by rw[HV.out,List.take_of_length_le (by rw[HA.out];exact Nat.le_refl _),zak,zak]
   have ht:=zcM (some ⟨w.heap.size,0,none⟩) (i+n') (i+n') ls wo (aR.dig bL) (by omega);rw[hv] at ht;have HC:=Aa ht;clear ht hv
   go_wp2_with fail
   refine HC.out.mono ?_;rintro e w1 ⟨m,rfl,cB,bV⟩;go_wp2
   go_ret;exact⟨_,m,_,rfl,cB,aE.trans (bV.mono aE.size)⟩
theorem zmu(a X d:Nat)(hd:0<d):(a+B*X)/d=(B*(X%d)+a)/d+B*(X/d)∧(a+B*X)%d=(B*(X%d)+a)%d:=by
 have hX:=Nat.mod_add_div X d;have e:a+B*X=B*(X%d)+a+d*(B*(X/d)):=by
  conv=>lhs;rw[←hX]
  rw[Nat.mul_add,Nat.mul_left_comm B d];omega
 constructor
 ·rw[e,Nat.add_mul_div_left _ _ hd]
 ·rw[e,Nat.add_mul_mod_self_left]
theorem zeU(A:Option Addr)(n c d:Nat)(la:List Nat)(w:World)(h:DigI w A n c la)(hd:0<d)(hdB:d<B)(hn:n≤1048576) :
  Calls Tryz.prog 189 #[.slice A n c,.int .i64 (d:Int)] w fun e w'=>∃ A' m c',e = .returned (.tuple #[.slice A' m c',.int .i64 ((val la%d:Nat):Int)])∧DigI w' A' m c' (digs (val la/d))∧Below w.heap.size w w':=by
 obtain⟨i0,aX,aV,bC,bA⟩:=info_parts zcc;have aS:=h.len;have aR:=Aa aS;have aU:=Aa h.wf;have aY:d<1000000000:=hdB;clear aS hdB;go_enter Tryz.func189,Tryz.ntmps189
 go_wp2_with (at_make;refine wpList_make_full _ rfl _ _ 78 rfl w.heap.size 3 i0 (.int .i64 0) 1 Tryz.underlying78 aX aV bC _ _ _ _ n rfl rfl (by omega) (by omega) ?b2 ?b3 (Nat.le_refl _) ?_)
 case b2=>rw[bA];omega
 case b3=>unfold maxLen;omega
 intro w0 aF aA;have aG:Below w.heap.size w w0:=(Below.refl _ _).grown aA (Nat.le_refl _) (fun k h=>by cases h);have aI:=RowI.made aF;clear aF aA;go_wp2
 go_loopg [7,8] n (fun q r s W=>∃ (k rs:Nat) (ls:List Nat),k≤n∧s = .int .i64 ((k:Int)-1)∧r = .int .i64 (rs:Int)∧rs<d∧k≤q∧RowI W w.heap.size w.heap.size n n ls∧Hid (Wf ls∧val (ls.drop k)=val (la.drop k)/d∧rs=val (la.drop k)%d)∧Below w.heap.size w W)
 case atStart=>exact⟨n,0,_,Nat.le_refl _,rfl,rfl,hd,Nat.le_refl _,aI,⟨Wf.replicate _,by rw[List.drop_of_length_le (by simp),List.drop_of_length_le (by rw[aR.out];exact Nat.le_refl _)];simp,by rw[List.drop_of_length_le (by rw[aR.out];exact Nat.le_refl _)];simp⟩,aG⟩
 case round=>
  obtain⟨k,rs,ls,hk,rfl,rfl,bF,hq,aC,hv,aD⟩:=hrel
  by_cases h0:0<k
  ·obtain⟨i,rfl⟩:∃ i:Nat,k=i+1:=⟨k-1,by omega⟩
   have e1:((i+1:Nat):Int)-1=(i:Int):=by omega
   rw[e1];obtain⟨ad,aQ,rfl,bJ,aE⟩:=(h.rd.below aD).cellM (k:=i) (by omega);have aN:=aU.out _ (List.getElem_mem aQ);have aK:la.drop i=la[i] :: la.drop (i+1):=List.drop_eq_getElem_cons aQ;unfold natv at aE;obtain⟨a,aP⟩:∃ a,la[i]=a:=⟨_,rfl⟩;rw[aP] at aE aN aK;have aT:a<1000000000:=aN;obtain⟨t,ht⟩:∃ t,t=rs*1000000000+a:=⟨_,rfl⟩;have aZ:t<1000000000*d:=by
    have:(rs+1)*1000000000≤d*1000000000:=Nat.mul_le_mul_right _ bF;rw[ht];omega
   have bH:t<1000000000000000000:=by omega
   obtain⟨q1,aJ⟩:∃ q1,q1=t/d:=⟨_,rfl⟩;obtain⟨r1,aL⟩:∃ r1,r1=t%d:=⟨_,rfl⟩;have aM:r1<d:=by rw[aL];exact Nat.mod_lt _ hd
   have aH:q1<B:=by rw[aJ];exact(Nat.div_lt_iff_lt_mul hd).2 aZ
   have HP:Hid (Wf (ls.set i q1)∧val ((ls.set i q1).drop i)=val (la.drop i)/d∧r1=val (la.drop i)%d):=by
    obtain⟨hw,h1,h2⟩:=hv.out;obtain⟨s1,s2⟩:=zmu a (val (la.drop (i+1))) d hd;refine⟨hw.set _ aH,?_,?_⟩
    ·rw[zfx _ _ _ (by rw[aC.len];omega),h1,aK,val_cons,s1,aJ,ht,h2]
     rw[Nat.mul_comm (val (la.drop (i+1))%d) 1000000000];rfl
    ·rw[aK,val_cons,s2,aL,ht,h2,Nat.mul_comm (val (la.drop (i+1))%d) 1000000000]
     rfl
   have et:(rs:Int)*1000000000+(a:Int)=(t:Int):=by omega
   have ed:(t:Int)/(d:Int)=(q1:Int):=by rw[aJ];exact(Int.natCast_ediv t d).symm
   have em:(t:Int)%(d:Int)=(r1:Int):=by rw[aL];exact(Int.natCast_emod t d).symm
   have bI:((d:Int)==0)=false:=by rw[beq_eq_false_iff_ne];omega
   have bG:=aC.free i;have bE:=aC.cell i (by omega);generalize ls.getD i 0=old at bE;have HR:=Aa (aC.set i q1);have bD:=Aa em;have aO:q1<1000000000:=aH;clear aP aK ht aJ aL hv e1;go_wp2
   go_roundg i
   case measure=>omega
   case rel=>exact⟨i,r1,_,by omega,rfl,by first | rfl | rw[bD.out],aM,Nat.le_refl _,HR.out,HP.out,aD.setCell (Nat.le_refl _) _⟩
  ·obtain rfl:k=0:=by omega
   obtain⟨hw,h1,h2⟩:=hv.out;rw[List.drop_zero,List.drop_zero] at h1;rw[List.drop_zero] at h2;have ht:=zcM (some ⟨w.heap.size,0,none⟩) n n ls wr (aC.dig hw) (by omega);rw[h1] at ht;have HC:=Aa ht;have H2:=Aa h2;clear ht h1 h2 hv
   go_wp2_with fail
   refine HC.out.mono ?_;rintro e w1 ⟨m,rfl,bB,aW⟩;go_wp2
   go_ret2
   exact⟨_,m,_,by rw[H2.out];rfl,bB,aD.trans (aW.mono aD.size)⟩
end Go.Proofs.YtbkgkoenppkhpaaGreatDoor
