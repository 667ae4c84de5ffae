/- Contracts of the reference's digits to the base 10^9: rows of one's own that hold digits; mulDigits, divDigit. -/
import Derived.Test.YtmkondcdejlhcaaGreatDoorFEx3
set_option maxRecDepth 100000
set_option maxHeartbeats 8000000
namespace Go.Proofs.YtmkondcdejlhcaaGreatDoor
section
open Go.RowKit Dn
def RowI (w:World) (base g n c:Nat) (l:List Nat):Prop:=w.ownsRow base 3 1 (.slice (some ⟨g,0,none⟩) n c) n (l.map natv)
section
variable {w w':World} {base g n c:Nat} {l:List Nat}
theorem RowI.len(h:RowI w base g n c l):l.length=n:=by
 have:=h.1;rw[List.length_map] at this;omega
theorem RowI.cell(h:RowI w base g n c l)(k:Nat)(hk:k<n):w.cell? ⟨g,k,none⟩=some (.int .i64 ((l.getD k 0:Nat):Int)):=by
 have hl:k<l.length:=by rw[h.len];exact hk
 rw[World.ownsRow.cellAt h k (by omega)];simp[natv,List.getD,hl]
theorem RowI.free(h:RowI w base g n c l)(k:Nat):w.frozen? ⟨g,k,none⟩=false:=World.ownsRow.frozenAt h k
theorem RowI.set (h:RowI w base g n c l) (k x:Nat):RowI (w.setCell ⟨g,k,none⟩ (.int .i64 (x:Int))) base g n c (l.set k x):=by
 have:=(World.ownsRow.stored h k (natv x)).1;unfold RowI;rw[List.map_set];exact this
theorem RowI.lt(h:RowI w base g n c l):base≤g∧g<w.heap.size:=World.ownsRow.lt h g rfl
theorem RowI.reads (h:RowI w base g n c l):zaA w w.heap.size 1 (some ⟨g,0,none⟩) n (l.map natv):=zaA.of_own h
theorem RowI.kept {row:Option Nat} (h:RowI w base g n c l) (hg:w.grownBy w' row) (hr:row≠some g):RowI w' base g n c l:=
 World.ownsRow.kept h hg (.inr (by simpa[Value.ownBlock] using fun e=>hr e.symm))
theorem RowI.drewN (h:RowI w base g n c l) (q:Nat):RowI (w.drewN q) base g n c l:=h
theorem RowI.caps (h:RowI w base g n c l):n≤c∧c≤maxLen:=by
 rcases h.2 with⟨h',_⟩ | ⟨g',aE,aF,h',hb,hg,aC,aD,aG,aA⟩
 ·simp at h'
 ·simp only[Value.slice.injEq] at h'
  obtain⟨_,_,rfl⟩:=h';exact⟨aC,aD⟩
theorem RowI.dig(h:RowI w base g n c l)(hw:Wf l):DigI w (some ⟨g,0,none⟩) n c l:=⟨h.reads,h.caps.1,h.caps.2,hw⟩
end
theorem RowI.made {w1:World} {base g n:Nat} (h:w1.ownsRow base 3 1 (.slice (some ⟨g,0,none⟩) n n) n (madeCells #[Value.int .i64 0] n).toList) :
  RowI w1 base g n n (List.replicate n 0):=by
 unfold RowI;rw[List.map_replicate]
 rwa [toList_madeCells_one] at h
def zo8 (w wr:World) (n n':Nat) (la lb:List Nat) (i:Nat):Prop:=
 ∃ ls,RowI wr w.heap.size w.heap.size (n+n') (n+n') ls∧Wf ls∧val ls=val (la.take i)*val lb∧(∀ t,i+n'≤t→ls.getD t 0=0)∧Below w.heap.size w wr
def zpA (w wr:World) (n n':Nat) (la lb:List Nat) (i j c:Nat):Prop:=
 ∃ ls,RowI wr w.heap.size w.heap.size (n+n') (n+n') ls∧Wf ls∧val ls+B^(i+j)*c=val (la.take i)*val lb+B^i*(la.getD i 0*val (lb.take j))∧(∀ t,i+n'≤t→ls.getD t 0=0)∧Below w.heap.size w wr
theorem zcS(A A':Option Addr)(n c n' c' x y:Nat)(w:World)(ha:DigI w A n c (digs x))(hb:DigI w A' n' c' (digs y))(hn:n≤1048576)(hn':n'≤1048576) :
  Calls Tryz.prog 137 #[.slice A n c,.slice A' n' c'] w fun e w'=>znW w (x*y) e w':=by
 obtain⟨i0,bT,cB,bX,bV⟩:=info_parts zco;have bI:=ha.len;have bE:=hb.len;have bJ:val (digs y)≤B^n':=by have:=zby (zaq y);rw[bE] at this;omega
 have HA:=Aa bI;have HB:=Aa bE;have cE:=Aa bJ;clear bI bE bJ;go_enter Tryz.func137,Tryz.ntmps137
 go_wp2_with (at_make;refine wpList_make_full _ rfl _ _ 60 rfl w.heap.size 3 i0 (.int .i64 0) 1 Tryz.underlying60 bT cB bX _ _ _ _ (n+n') rfl rfl (by omega) (by omega) ?b2 ?b3 (Nat.le_refl _) ?_)
 case b2=>rw[bV];omega
 case b3=>unfold maxLen;omega
 intro w0 aF aE;have aQ:Below w.heap.size w w0:=(Below.refl _ _).grown aE (Nat.le_refl _) (fun k h=>by cases h);have aO:=RowI.made aF;clear aF aE;go_wp2
 go_loopw [6] (fun s wr=>∃ i:Nat,i≤n∧s = .int .i64 i∧zo8 w wr n n' (digs x) (digs y) i) (fun s _=>n-(intOf s).toNat)
 case atStart=>exact⟨0,by omega,rfl,_,aO,Wf.replicate _,by simp[za1],fun t _=>zcy _ _,aQ⟩
 case round=>
  obtain⟨i,hi,rfl,ls,aM,bF,aL,hz,aD⟩:=hrel;obtain⟨wo,rfl⟩:∃ wo:World,wo=wr:=⟨_,rfl⟩;have HV:=Aa aL;have HZ:=Aa hz;clear aL hz
  by_cases hin:i<n
  ·obtain⟨ad,bN,rfl,bG,bC⟩:=(ha.rd.below aD).cellM (k:=i) hin
   have bH:=zaq x _ (List.getElem_mem bN);have bD:(digs x).getD i 0=(digs x)[i]:=by simp[List.getD,bN]
   unfold natv at bC;obtain⟨f,bM⟩:∃ f,(digs x)[i]=f:=⟨_,rfl⟩;rw[bM] at bC bH bD;have HF:=Aa bD;clear bD bM;have bR:f<1000000000:=bH
   go_wp2_with fail
   go_loopw [7,8] (fun cy s wr=>∃ j c0:Nat,j≤n'∧c0≤1000000000∧s = .int .i64 j∧cy = .int .i64 c0∧zpA w wr n n' (digs x) (digs y) i j c0) (fun _ s _=>n'-(intOf s).toNat)
   case atStart=>exact⟨0,0,by omega,by omega,rfl,rfl,ls,aM,bF,by rw[HV.out];simp,HZ.out,aD⟩
   case round=>
    obtain⟨j,c0,hj,cN,rfl,rfl,l2,aA,aJ,aH,aK,aC⟩:=hrel;have bO:=Aa aH;have aV:=Aa aK;clear aH aK;have bY:=(aC.cell (p:=ad.add i) (by rw[zbr];exact bG)).trans (((aD.cell (p:=ad.add i) (by rw[zbr];exact bG)).symm).trans bC)
    by_cases hjn:j<n'
    ·obtain⟨cL,aN,rfl,cK,bK⟩:=(hb.rd.below aC).cellM (k:=j) hjn
     have bP:=zaq y _ (List.getElem_mem aN);have aX:(digs y).getD j 0=(digs y)[j]:=by simp[List.getD,aN]
     unfold natv at bK;obtain⟨yk,bL⟩:∃ yk,(digs y)[j]=yk:=⟨_,rfl⟩;rw[bL] at bK bP aX;have cH:yk<1000000000:=bP;have aR:=aA.cell (i+j) (by omega);have cC:=aA.free (i+j);have bW:=zaF aJ (i+j);obtain⟨o,aW⟩:∃ o,l2.getD (i+j) 0=o:=⟨_,rfl⟩;rw[aW] at aR bW;obtain⟨p,hp⟩:∃ p,p=f*yk:=⟨_,rfl⟩;have cM:p≤999999999000000000:=by
      rw[hp];exact Nat.le_trans (Nat.mul_le_mul (show f≤999999999 by omega) (show yk≤1000000000 by omega)) (by decide)
     have em:(f:Int)*(yk:Int)=(p:Int):=by rw[hp];exact(Int.natCast_mul f yk).symm
     obtain⟨t,ht⟩:∃ t,t=o+p+c0:=⟨_,rfl⟩;obtain⟨lo,aU⟩:∃ lo,lo=t%B:=⟨_,rfl⟩;obtain⟨aG,aT⟩:∃ aG,aG=t/B:=⟨_,rfl⟩;have aZ:lo<B:=by rw[aU];exact Nat.mod_lt _ zaQ
     have cJ:t≤1000000000999999999:=by omega
     have bB:aG≤1000000000:=by rw[aT];unfold B;omega
     have e1:lo+B*aG=f*yk+o+c0:=by rw[aU,aT,Nat.mod_add_div,←hp,ht];omega
     have HP:Hid (val (l2.set (i+j) lo)+B^(i+(j+1))*aG=val ((digs x).take i)*val (digs y)+B^i*((digs x).getD i 0*val ((digs y).take (j+1)))):=
      zea l2 (digs y) i j _ _ lo aG c0 (by rw[aA.len];omega) bO.out (by rw[aX,aW,HF.out];exact e1)
     have aY:Hid (∀ t,i+n'≤t→(l2.set (i+j) lo).getD t 0=0):=fun t ht=>by rw[zaJ _ _ _ _ (by omega)];exact aV.out t ht
     have es:((t:Nat):Int)%1000000000=(lo:Int):=by rw[aU];unfold B;omega
     have ed:((t:Nat):Int)/1000000000=(aG:Int):=by rw[aT];unfold B;omega
     have bQ:IntKind.i64.wrap ((i:Int)+(j:Int))=((i+j:Nat):Int):=by rw[IntWalk.i64_in _ (by omega)];omega
     have bZ:IntKind.i64.wrap ((f:Int)*(yk:Int))=(p:Int):=by rw[em,IntWalk.i64_in _ (by omega)]
     obtain⟨op,cG⟩:∃ op:Nat,op=o+p:=⟨_,rfl⟩;have bU:IntKind.i64.wrap ((o:Int)+(p:Int))=(op:Int):=by rw[IntWalk.i64_in _ (by omega)];omega
     have cF:IntKind.i64.wrap ((op:Int)+(c0:Int))=(t:Int):=by rw[IntWalk.i64_in _ (by omega)];omega
     have q1:(0:Int)≤((i+j:Nat):Int):=by omega
     have q2:((i+j:Nat):Int)<((n+n':Nat):Int):=by omega
     have q3:(0:Int)≤(i:Int):=by omega
     have q4:(i:Int)<(n:Int):=by omega
     have q5:(0:Int)≤(j:Int):=by omega
     have q6:(j:Int)<(n':Int):=by omega
     clear e1 aX aW hp ht aU aT bL em cG;have aP:=Aa (fun q=>(aA.drewN q).set (i+j) lo);have bA:=Aa (aJ.set (i+j) aZ);have aS:=Aa (fun q=>zac aC q);go_upto_region 9 with(fail)
     go_quiet (fail)
     clear bQ bZ bU cF q1 q2 q3 q4 q5 q6;go_wp2
     go_roundw
     case rel=>exact⟨j+1,aG,by omega,bB,by go_num,rfl,_,aP.out _,bA.out,HP.out,aY.out,(aS.out _).setCell (Nat.le_refl _) _⟩
     case measure=>simp[intOf]<;>omega
    ·obtain rfl:j=n':=by omega
     have aR:=aA.cell (i+j) (by omega);have cC:=aA.free (i+j);have aI:i+j<l2.length:=by rw[aA.len];omega
     have HP:Hid (val (l2.set (i+j) c0)=val ((digs x).take (i+1))*val (digs y)):=
      zge l2 (digs x) (digs y) i j c0 aI (aV.out _ (Nat.le_refl _)) HB.out bO.out
     have cI:Hid (c0<B):=zn5 l2 (digs x) (digs y) i j c0 aI HP.out (zaq x) cE.out;have aY:Hid (∀ t,i+1+j≤t→(l2.set (i+j) c0).getD t 0=0):=fun t ht=>by rw[zaJ _ _ _ _ (by omega)];exact aV.out t (by omega)
     rw[aV.out _ (Nat.le_refl _)] at aR
     replace aR:wr.cell? ⟨w.heap.size,i+j,none⟩=some (.int .i64 0):=aR
     clear aI;go_wp2
     go_roundw
     case rel=>exact⟨i+1,by omega,by go_num,_,aA.set (i+j) c0,aJ.set _ cI.out,HP.out,aY.out,aC.setCell (Nat.le_refl _) _⟩
     case measure=>simp[intOf]<;>omega
  ·obtain rfl:i=n:=by omega
   have hv:val ls=x*y:=by rw[HV.out,List.take_of_length_le (by rw[HA.out];exact Nat.le_refl _),zak,zak]
   have ht:=zcz (some ⟨w.heap.size,0,none⟩) (i+n') (i+n') ls wo (aM.dig bF) (by omega);rw[hv] at ht;have HC:=Aa ht;clear ht hv
   go_wp2_with fail
   refine HC.out.mono ?_;rintro e w1 ⟨m,rfl,cA,bS⟩;go_wp2
   go_ret;exact⟨_,m,_,rfl,cA,aD.trans (bS.mono aD.size)⟩
theorem zmR(a X d:Nat)(hd:0<d):(a+B*X)/d=(B*(X%d)+a)/d+B*(X/d)∧(a+B*X)%d=(B*(X%d)+a)%d:=by
 have hX:=Nat.mod_add_div X d;have e:a+B*X=B*(X%d)+a+d*(B*(X/d)):=by
  conv=>lhs;rw[←hX]
  rw[Nat.mul_add,Nat.mul_left_comm B d];omega
 constructor
 ·rw[e,Nat.add_mul_div_left _ _ hd]
 ·rw[e,Nat.add_mul_mod_self_left]
theorem zeu(A:Option Addr)(n c d:Nat)(la:List Nat)(w:World)(h:DigI w A n c la)(hd:0<d)(hdB:d<B)(hn:n≤1048576) :
  Calls Tryz.prog 163 #[.slice A n c,.int .i64 (d:Int)] w fun e w'=>∃ A' m c',e = .returned (.tuple #[.slice A' m c',.int .i64 ((val la%d:Nat):Int)])∧DigI w' A' m c' (digs (val la/d))∧Below w.heap.size w w':=by
 obtain⟨i0,aX,bE,bC,bA⟩:=info_parts zco;have aO:=h.len;have aP:=Aa aO;have bB:=Aa h.wf;have aV:d<1000000000:=hdB;clear aO hdB;go_enter Tryz.func163,Tryz.ntmps163
 go_wp2_with (at_make;refine wpList_make_full _ rfl _ _ 60 rfl w.heap.size 3 i0 (.int .i64 0) 1 Tryz.underlying60 aX bE bC _ _ _ _ n rfl rfl (by omega) (by omega) ?b2 ?b3 (Nat.le_refl _) ?_)
 case b2=>rw[bA];omega
 case b3=>unfold maxLen;omega
 intro w0 aE aC;have aH:Below w.heap.size w w0:=(Below.refl _ _).grown aC (Nat.le_refl _) (fun k h=>by cases h);have aG:=RowI.made aE;clear aE aC;go_wp2
 go_loopg [7,8] n (fun q r s W=>∃ (k rs:Nat) (ls:List Nat),k≤n∧s = .int .i64 ((k:Int)-1)∧r = .int .i64 (rs:Int)∧rs<d∧k≤q∧RowI W w.heap.size w.heap.size n n ls∧Hid (Wf ls∧val (ls.drop k)=val (la.drop k)/d∧rs=val (la.drop k)%d)∧Below w.heap.size w W)
 case atStart=>exact⟨n,0,_,Nat.le_refl _,rfl,rfl,hd,Nat.le_refl _,aG,⟨Wf.replicate _,by rw[List.drop_of_length_le (by simp),List.drop_of_length_le (by rw[aP.out];exact Nat.le_refl _)];simp,by rw[List.drop_of_length_le (by rw[aP.out];exact Nat.le_refl _)];simp⟩,aH⟩
 case round=>
  obtain⟨k,rs,ls,hk,rfl,rfl,aZ,hq,aA,hv,aD⟩:=hrel
  by_cases h0:0<k
  ·obtain⟨i,rfl⟩:∃ i:Nat,k=i+1:=⟨k-1,by omega⟩
   have e1:((i+1:Nat):Int)-1=(i:Int):=by omega
   rw[e1];obtain⟨ad,aR,rfl,bH,aF⟩:=(h.rd.below aD).cellM (k:=i) (by omega);have aN:=bB.out _ (List.getElem_mem aR);have aL:la.drop i=la[i] :: la.drop (i+1):=List.drop_eq_getElem_cons aR;unfold natv at aF;obtain⟨a,aS⟩:∃ a,la[i]=a:=⟨_,rfl⟩;rw[aS] at aF aN aL;have aT:a<1000000000:=aN;obtain⟨t,ht⟩:∃ t,t=rs*1000000000+a:=⟨_,rfl⟩;have aU:t<1000000000*d:=by
    have:(rs+1)*1000000000≤d*1000000000:=Nat.mul_le_mul_right _ aZ;rw[ht];omega
   have bG:t<1000000000000000000:=by omega
   obtain⟨q1,aK⟩:∃ q1,q1=t/d:=⟨_,rfl⟩;obtain⟨r1,aJ⟩:∃ r1,r1=t%d:=⟨_,rfl⟩;have aM:r1<d:=by rw[aJ];exact Nat.mod_lt _ hd
   have aI:q1<B:=by rw[aK];exact(Nat.div_lt_iff_lt_mul hd).2 aU
   have HP:Hid (Wf (ls.set i q1)∧val ((ls.set i q1).drop i)=val (la.drop i)/d∧r1=val (la.drop i)%d):=by
    obtain⟨hw,h1,h2⟩:=hv.out;obtain⟨s1,s2⟩:=zmR a (val (la.drop (i+1))) d hd;refine⟨hw.set _ aI,?_,?_⟩
    ·rw[zfg _ _ _ (by rw[aA.len];omega),h1,aL,val_cons,s1,aK,ht,h2]
     rw[Nat.mul_comm (val (la.drop (i+1))%d) 1000000000];rfl
    ·rw[aL,val_cons,s2,aJ,ht,h2,Nat.mul_comm (val (la.drop (i+1))%d) 1000000000]
     rfl
   have et:(rs:Int)*1000000000+(a:Int)=(t:Int):=by omega
   have ed:(t:Int)/(d:Int)=(q1:Int):=by rw[aK];exact(Int.natCast_ediv t d).symm
   have em:(t:Int)%(d:Int)=(r1:Int):=by rw[aJ];exact(Int.natCast_emod t d).symm
   have bJ:((d:Int)==0)=false:=by rw[beq_eq_false_iff_ne];omega
   have bI:=aA.free i;have bF:=aA.cell i (by omega);generalize ls.getD i 0=old at bF;have HR:=Aa (aA.set i q1);have aY:=Aa em;have aQ:q1<1000000000:=aI;clear aS aL ht aK aJ hv e1;go_wp2
   go_roundg i
   case measure=>omega
   case rel=>exact⟨i,r1,_,by omega,rfl,by first | rfl | rw[aY.out],aM,Nat.le_refl _,HR.out,HP.out,aD.setCell (Nat.le_refl _) _⟩
  ·obtain rfl:k=0:=by omega
   obtain⟨hw,h1,h2⟩:=hv.out;rw[List.drop_zero,List.drop_zero] at h1;rw[List.drop_zero] at h2;have ht:=zcz (some ⟨w.heap.size,0,none⟩) n n ls wr (aA.dig hw) (by omega);rw[h1] at ht;have HC:=Aa ht;have H2:=Aa h2;clear ht h1 h2 hv
   go_wp2_with fail
   refine HC.out.mono ?_;rintro e w1 ⟨m,rfl,bD,aW⟩;go_wp2
   go_ret2
   exact⟨_,m,_,by rw[H2.out];rfl,bD,aD.trans (aW.mono aD.size)⟩
end
section
open Go.RowKit Bn
def zb0 (p q:Q):Q:=
 if p.neg=q.neg then lowQ p.neg (p.top*q.bot+q.top*p.bot) (p.bot*q.bot)
 else if p.top*q.bot<q.top*p.bot then lowQ q.neg (q.top*p.bot-p.top*q.bot) (p.bot*q.bot)
 else lowQ p.neg (p.top*q.bot-q.top*p.bot) (p.bot*q.bot)
theorem zdp{a b x y:Nat}(hx:(digs x).length≤a)(hy:(digs y).length≤b):(digs (x+y)).length≤a+b+1:=by
 refine zab ?_;have h1:=zad x;have h2:=zad y;have h3:B^(digs x).length≤B^(a+b):=Nat.pow_le_pow_right zaQ (by omega);have h4:B^(digs y).length≤B^(a+b):=Nat.pow_le_pow_right zaQ (by omega);rw[Nat.pow_succ];have h5:B^(a+b)*2≤B^(a+b)*B:=Nat.mul_le_mul_left _ (by rw[zdi];omega);omega
theorem zdF(x y:Nat):(digs (x-y)).length≤(digs x).length:=zaa (Nat.sub_le _ _)
theorem zaB {a b x y:Nat} (hx:(digs x).length≤a) (hy:(digs y).length≤b):(digs (x*y)).length≤a+b:=by
 refine zab ?_;rw[Nat.pow_add];have h3:B^(digs x).length≤B^a:=Nat.pow_le_pow_right zaQ hx;have h4:B^(digs y).length≤B^b:=Nat.pow_le_pow_right zaQ hy;exact Nat.mul_lt_mul'' (Nat.lt_of_lt_of_le (zad x) h3) (Nat.lt_of_lt_of_le (zad y) h4)
theorem ziT(p q:Q)(A1 A2 A3 A4:Option Addr)(n1 c1 n2 c2 n3 c3 n4 c4:Nat)(w:World)(hT:Tabs w)
 (h1:NatS w w.heap.size A1 n1 c1 p.top)(h2:NatS w w.heap.size A2 n2 c2 p.bot)(h3:NatS w w.heap.size A3 n3 c3 q.top)(h4:NatS w w.heap.size A4 n4 c4 q.bot)
 (k1:n1≤134217728)(k2:n2≤134217728)(k3:n3≤134217728)(k4:n4≤134217728) :
  Calls Tryz.prog 64 #[.agg #[.bool p.neg,.slice A1 n1 c1,.slice A2 n2 c2],.agg #[.bool q.neg,.slice A3 n3 c3,.slice A4 n4 c4]] w (za3 w (zb0 p q)):=by
 obtain⟨bp,x1,x2⟩:=p;obtain⟨bq,x3,x4⟩:=q
 dsimp only at h1 h2 h3 h4 ⊢
 have bG:Below w.heap.size w (((w.alloc (.cells #[.bool bp,.slice A1 n1 c1,.slice A2 n2 c2] 91)).alloc (.cells #[.bool bq,.slice A3 n3 c3,.slice A4 n4 c4] 91)).alloc (.cells #[.bool false,.slice none 0 0,.slice none 0 0] 91)):=
  (((Below.refl _ _).alloc (Nat.le_refl _) _).alloc (by simp) _).alloc (by simp;omega) _
 have bX:zae (((w.alloc (.cells #[.bool bp,.slice A1 n1 c1,.slice A2 n2 c2] 91)).alloc (.cells #[.bool bq,.slice A3 n3 c3,.slice A4 n4 c4] 91)).alloc (.cells #[.bool false,.slice none 0 0,.slice none 0 0] 91)) (w.heap.size) bp (.slice A1 n1 c1) (.slice A2 n2 c2):=
  (((zae.new w _ _ _).below ((Below.refl _ _).alloc (Nat.le_refl _) _) (by simp))).below ((Below.refl _ _).alloc (Nat.le_refl _) _) (by simp;omega)
 have bV:zae (((w.alloc (.cells #[.bool bp,.slice A1 n1 c1,.slice A2 n2 c2] 91)).alloc (.cells #[.bool bq,.slice A3 n3 c3,.slice A4 n4 c4] 91)).alloc (.cells #[.bool false,.slice none 0 0,.slice none 0 0] 91)) (w.heap.size+1) bq (.slice A3 n3 c3) (.slice A4 n4 c4):=by
  have h:=(zae.new (w.alloc (.cells #[.bool bp,.slice A1 n1 c1,.slice A2 n2 c2] 91)) bq (.slice A3 n3 c3) (.slice A4 n4 c4)).below ((Below.refl _ _).alloc (Nat.le_refl _) (.cells #[.bool false,.slice none 0 0,.slice none 0 0] 91)) (by simp)
  simpa using h
 have bT:zae (((w.alloc (.cells #[.bool bp,.slice A1 n1 c1,.slice A2 n2 c2] 91)).alloc (.cells #[.bool bq,.slice A3 n3 c3,.slice A4 n4 c4] 91)).alloc (.cells #[.bool false,.slice none 0 0,.slice none 0 0] 91)) (w.heap.size+1+1) false (.slice none 0 0) (.slice none 0 0):=by
  have h:=zae.new ((w.alloc (.cells #[.bool bp,.slice A1 n1 c1,.slice A2 n2 c2] 91)).alloc (.cells #[.bool bq,.slice A3 n3 c3,.slice A4 n4 c4] 91)) false (.slice none 0 0) (.slice none 0 0)
  simpa using h
 go_enter Tryz.func64,Tryz.ntmps64
 go_wp2_with fail
 generalize (((w.alloc (.cells #[.bool bp,.slice A1 n1 c1,.slice A2 n2 c2] 91)).alloc (.cells #[.bool bq,.slice A3 n3 c3,.slice A4 n4 c4] 91)).alloc (.cells #[.bool false,.slice none 0 0,.slice none 0 0] 91))=w3 at *;obtain⟨a0,a1,a2,_,_,_,al⟩:=bX.cells;obtain⟨b0,b1,b2,_,_,_,bl⟩:=bV.cells;have bK:Below w3.heap.size w3 w3.drew:=Below.drew (Below.refl _ _);have g1:=(h1.later bG).later bK;have g2:=(h2.later bG).later bK;have g3:=(h3.later bG).later bK;have g4:=(h4.later bG).later bK
 go_region_held3 (fun w'=>w'.cell? ⟨w.heap.size,0,none⟩=some (.bool bp)∧w'.cell? ⟨w.heap.size,1,none⟩=some (.slice A1 n1 c1)∧w'.cell? ⟨w.heap.size,2,none⟩=some (.slice A2 n2 c2)∧w'.cell? ⟨w.heap.size+1,0,none⟩=some (.bool bq)∧w'.cell? ⟨w.heap.size+1,1,none⟩=some (.slice A3 n3 c3)∧w'.cell? ⟨w.heap.size+1,2,none⟩=some (.slice A4 n4 c4))
  (first | exact⟨a0,a1,a2,b0,b1,b2⟩ | exact⟨((aH.cell (p:=⟨w.heap.size,0,none⟩) al).trans a0),((aH.cell (p:=⟨w.heap.size,1,none⟩) al).trans a1),((aH.cell (p:=⟨w.heap.size,2,none⟩) al).trans a2),((aH.cell (p:=⟨w.heap.size+1,0,none⟩) bl).trans b0),((aH.cell (p:=⟨w.heap.size+1,1,none⟩) bl).trans b1),((aH.cell (p:=⟨w.heap.size+1,2,none⟩) bl).trans b2)⟩ | exact⟨((aY.cell (p:=⟨w.heap.size,0,none⟩) bQ).trans ((aH.cell (p:=⟨w.heap.size,0,none⟩) al).trans a0)),((aY.cell (p:=⟨w.heap.size,1,none⟩) bQ).trans ((aH.cell (p:=⟨w.heap.size,1,none⟩) al).trans a1)),((aY.cell (p:=⟨w.heap.size,2,none⟩) bQ).trans ((aH.cell (p:=⟨w.heap.size,2,none⟩) al).trans a2)),((aY.cell (p:=⟨w.heap.size+1,0,none⟩) bP).trans ((aH.cell (p:=⟨w.heap.size+1,0,none⟩) bl).trans b0)),((aY.cell (p:=⟨w.heap.size+1,1,none⟩) bP).trans ((aH.cell (p:=⟨w.heap.size+1,1,none⟩) bl).trans b1)),((aY.cell (p:=⟨w.heap.size+1,2,none⟩) bP).trans ((aH.cell (p:=⟨w.heap.size+1,2,none⟩) bl).trans b2))⟩)
  (first
   |(go_at_call_of 113 (Value.slice A1 n1 c1);refine(zaI A1 A4 n1 c1 n4 c4 x1 x4 w3.drew g1 g4 (by omega) (by omega)).mono ?_;rintro e w4 ⟨A5,m5,c5,rfl,bY,aH⟩;have bQ:=Nat.lt_of_lt_of_le al aH.size;have bP:=Nat.lt_of_lt_of_le bl aH.size)
   |(go_at_call_of 113 (Value.slice A3 n3 c3);refine(zaI A3 A2 n3 c3 n2 c2 x3 x2 w4 (g3.later aH) (g2.later aH) (by omega) (by omega)).mono ?_;rintro e w6 ⟨A6,m6,c6,rfl,bU,aY⟩))
 have bH:Below w3.heap.size w3 w6:=(bK.trans aH).trans (aY.mono aH.size);have y2:=(bH.cell (p:=⟨w.heap.size,2,none⟩) al).trans a2;have y4:=(bH.cell (p:=⟨w.heap.size+1,2,none⟩) bl).trans b2;have q2:=(g2.later aH).later aY;have q4:=(g4.later aH).later aY;have p5:=bY.later aY;clear g1 g2 g3 g4 bY
 go_wp2_with fail
 refine(zaI A2 A4 n2 c2 n4 c4 x2 x4 w6 q2 q4 (by omega) (by omega)).mono ?_;rintro e w8 ⟨A7,m7,c7,rfl,bM,bN⟩;have bA:Below w3.heap.size w3 w8:=Ad bH bN;have aP:=(bA.cell (p:=⟨w.heap.size,0,none⟩) al).trans a0;have aQ:=(bA.cell (p:=⟨w.heap.size,1,none⟩) al).trans a1;have aN:=(bA.cell (p:=⟨w.heap.size,2,none⟩) al).trans a2;have aO:=(bA.cell (p:=⟨w.heap.size+1,0,none⟩) bl).trans b0;have aL:=(bA.cell (p:=⟨w.heap.size+1,1,none⟩) bl).trans b1;have aM:=(bA.cell (p:=⟨w.heap.size+1,2,none⟩) bl).trans b2;have bO:=bT.below bA bT.cells.2.2.2.2.2.2;have bB:=bO.cells.2.2.2.2.2.2;have aD:=Nat.lt_of_lt_of_le al bA.size;have aE:=Nat.lt_of_lt_of_le bl bA.size;have aZ:Below w.heap.size w w8:=Ad bG bA;have bR:=hT.later aZ;have r5:=p5.later bN;have r6:=bU.later bN;have l5:m5≤n1+n4:=by have h:=zaB (Nat.le_of_eq h1.len) (Nat.le_of_eq h4.len);rw[r5.len] at h;exact h
 have l6:m6≤n3+n2:=by have h:=zaB (Nat.le_of_eq h3.len) (Nat.le_of_eq h2.len);rw[r6.len] at h;exact h
 have l7:m7≤n2+n4:=by have h:=zaB (Nat.le_of_eq h2.len) (Nat.le_of_eq h4.len);rw[bM.len] at h;exact h
 have bC:=aZ.size;clear p5 q2 q4 bU y2 y4 aH aY bN bH bX bV bT a0 a1 a2 b0 b1 b2
 by_cases hs:bp=bq
 ·have HV:Hid (zb0 ⟨bp,x1,x2⟩ ⟨bq,x3,x4⟩=lowQ bp (x1*x4+x3*x2) (x2*x4)):=by unfold Hid zb0;rw[if_pos hs]
  have bZ:(bp==bq)=true:=by simpa using hs
  have bF:=zdp (Nat.le_of_eq r5.len) (Nat.le_of_eq r6.len);have aF:Below w8.heap.size w8 w8.drew:=Below.drew (Below.refl _ _);clear hs
  go_wp2_with fail
  go_region_held3 (fun w'=>w'.cell? ⟨w.heap.size,0,none⟩=some (.bool bp)∧w'.cell? ⟨w.heap.size,1,none⟩=some (.slice A1 n1 c1)∧w'.cell? ⟨w.heap.size,2,none⟩=some (.slice A2 n2 c2)∧w'.cell? ⟨w.heap.size+1,0,none⟩=some (.bool bq)∧w'.cell? ⟨w.heap.size+1,1,none⟩=some (.slice A3 n3 c3)∧w'.cell? ⟨w.heap.size+1,2,none⟩=some (.slice A4 n4 c4))
   (first | exact⟨aP,aQ,aN,aO,aL,aM⟩ | exact⟨((aC.cell (p:=⟨w.heap.size,0,none⟩) aD).trans aP),((aC.cell (p:=⟨w.heap.size,1,none⟩) aD).trans aQ),((aC.cell (p:=⟨w.heap.size,2,none⟩) aD).trans aN),((aC.cell (p:=⟨w.heap.size+1,0,none⟩) aE).trans aO),((aC.cell (p:=⟨w.heap.size+1,1,none⟩) aE).trans aL),((aC.cell (p:=⟨w.heap.size+1,2,none⟩) aE).trans aM)⟩ | exact⟨((aA.cell (p:=⟨w.heap.size,0,none⟩) aJ).trans ((aC.cell (p:=⟨w.heap.size,0,none⟩) aD).trans aP)),((aA.cell (p:=⟨w.heap.size,1,none⟩) aJ).trans ((aC.cell (p:=⟨w.heap.size,1,none⟩) aD).trans aQ)),((aA.cell (p:=⟨w.heap.size,2,none⟩) aJ).trans ((aC.cell (p:=⟨w.heap.size,2,none⟩) aD).trans aN)),((aA.cell (p:=⟨w.heap.size+1,0,none⟩) aI).trans ((aC.cell (p:=⟨w.heap.size+1,0,none⟩) aE).trans aO)),((aA.cell (p:=⟨w.heap.size+1,1,none⟩) aI).trans ((aC.cell (p:=⟨w.heap.size+1,1,none⟩) aE).trans aL)),((aA.cell (p:=⟨w.heap.size+1,2,none⟩) aI).trans ((aC.cell (p:=⟨w.heap.size+1,2,none⟩) aE).trans aM))⟩ | exact⟨((far3 _ _ _ _ (by dsimp only;omega)).trans ((aA.cell (p:=⟨w.heap.size,0,none⟩) aJ).trans ((aC.cell (p:=⟨w.heap.size,0,none⟩) aD).trans aP))),((far3 _ _ _ _ (by dsimp only;omega)).trans ((aA.cell (p:=⟨w.heap.size,1,none⟩) aJ).trans ((aC.cell (p:=⟨w.heap.size,1,none⟩) aD).trans aQ))),((far3 _ _ _ _ (by dsimp only;omega)).trans ((aA.cell (p:=⟨w.heap.size,2,none⟩) aJ).trans ((aC.cell (p:=⟨w.heap.size,2,none⟩) aD).trans aN))),((far3 _ _ _ _ (by dsimp only;omega)).trans ((aA.cell (p:=⟨w.heap.size+1,0,none⟩) aI).trans ((aC.cell (p:=⟨w.heap.size+1,0,none⟩) aE).trans aO))),((far3 _ _ _ _ (by dsimp only;omega)).trans ((aA.cell (p:=⟨w.heap.size+1,1,none⟩) aI).trans ((aC.cell (p:=⟨w.heap.size+1,1,none⟩) aE).trans aL))),((far3 _ _ _ _ (by dsimp only;omega)).trans ((aA.cell (p:=⟨w.heap.size+1,2,none⟩) aI).trans ((aC.cell (p:=⟨w.heap.size+1,2,none⟩) aE).trans aM)))⟩)
   (first
    |(go_at_call 123;refine(zcq A5 A6 m5 c5 m6 c6 (x1*x4) (x3*x2) w8.drew (r5.later aF) (r6.later aF) (by omega) (by omega)).mono ?_;rintro e w9 ⟨A9,m9,c9,rfl,bD,aC⟩;have aJ:=Nat.lt_of_lt_of_le aD aC.size;have aI:=Nat.lt_of_lt_of_le aE aC.size)
    |(go_at_call 112;refine(zbF _ A9 A7 m9 c9 m7 c7 _ _ w9 ((bR.later aF).later aC) bD ((bM.later aF).later aC) (by have:=bD.len;have:=bF;omega) (by omega)).mono ?_;rintro e bI ⟨v,rfl,⟨aT,aW,aR,aU,aX,aV,rfl,bL,bJ⟩,aA⟩;have aG:=((bO.below aF bB).below aC (Nat.lt_of_lt_of_le bB aF.size)).below aA (Nat.lt_of_lt_of_le (Nat.lt_of_lt_of_le bB aF.size) aC.size);obtain⟨e0,e1,e2,f0,f1,f2,gl⟩:=aG.cells))
  go_wp2_with fail
  have aK:Below w.heap.size w bI:=((aZ.trans (aF.mono bC)).trans (aC.mono bC)).trans (aA.mono (by have:=aC.size;exact Nat.le_trans bC this));have aS:=zan aK (g:=w.heap.size+1+1) (by omega) (.bool (lowQ bp (x1*x4+x3*x2) (x2*x4)).neg) (.slice aT aW aR) (.slice aU aX aV);refine bodyPost_ret (v := .agg #[.bool (lowQ bp (x1*x4+x3*x2) (x2*x4)).neg,.slice aT aW aR,.slice aU aX aV]) (by simp[results,Tryz.results64,go_sem,e0,e1,e2]) rfl ⟨_,rfl,⟨aT,aW,aR,aU,aX,aV,by rw[HV.out],?_,?_⟩,aS⟩
  ·rw[zah,HV.out];exact bL.res aG _ _ _
  ·rw[zah,HV.out];exact bJ.res aG _ _ _
 ·have bZ:(bp==bq)=false:=by simpa using hs
  by_cases hlt:x1*x4<x3*x2
  ·have HV:Hid (zb0 ⟨bp,x1,x2⟩ ⟨bq,x3,x4⟩=lowQ bq (x3*x2-x1*x4) (x2*x4)):=by unfold Hid zb0;rw[if_neg hs,if_pos hlt]
   have bE:=zaS A5 A6 m5 c5 m6 c6 (x1*x4) (x3*x2) w8 r5 r6;rw[show ncmp (x1*x4) (x3*x2) = -1 from by unfold ncmp;rw[if_pos hlt]] at bE;have bF:=zdF (x3*x2) (x1*x4);rw[r6.len] at bF;have bS:=Aa hlt;clear hs hlt
   go_wp2_with fail
   refine bE.mono ?_;rintro e wq ⟨rfl,nq,rfl⟩;clear bE
   go_wp2_with fail
   have aF:Below w8.heap.size w8 (w8.drewN nq).drew:=Below.drew (zac (Below.refl _ _) nq)
   go_region_held3 (fun w'=>w'.cell? ⟨w.heap.size,0,none⟩=some (.bool bp)∧w'.cell? ⟨w.heap.size,1,none⟩=some (.slice A1 n1 c1)∧w'.cell? ⟨w.heap.size,2,none⟩=some (.slice A2 n2 c2)∧w'.cell? ⟨w.heap.size+1,0,none⟩=some (.bool bq)∧w'.cell? ⟨w.heap.size+1,1,none⟩=some (.slice A3 n3 c3)∧w'.cell? ⟨w.heap.size+1,2,none⟩=some (.slice A4 n4 c4))
    (first | exact⟨aP,aQ,aN,aO,aL,aM⟩ | exact⟨((aC.cell (p:=⟨w.heap.size,0,none⟩) aD).trans aP),((aC.cell (p:=⟨w.heap.size,1,none⟩) aD).trans aQ),((aC.cell (p:=⟨w.heap.size,2,none⟩) aD).trans aN),((aC.cell (p:=⟨w.heap.size+1,0,none⟩) aE).trans aO),((aC.cell (p:=⟨w.heap.size+1,1,none⟩) aE).trans aL),((aC.cell (p:=⟨w.heap.size+1,2,none⟩) aE).trans aM)⟩ | exact⟨((aA.cell (p:=⟨w.heap.size,0,none⟩) aJ).trans ((aC.cell (p:=⟨w.heap.size,0,none⟩) aD).trans aP)),((aA.cell (p:=⟨w.heap.size,1,none⟩) aJ).trans ((aC.cell (p:=⟨w.heap.size,1,none⟩) aD).trans aQ)),((aA.cell (p:=⟨w.heap.size,2,none⟩) aJ).trans ((aC.cell (p:=⟨w.heap.size,2,none⟩) aD).trans aN)),((aA.cell (p:=⟨w.heap.size+1,0,none⟩) aI).trans ((aC.cell (p:=⟨w.heap.size+1,0,none⟩) aE).trans aO)),((aA.cell (p:=⟨w.heap.size+1,1,none⟩) aI).trans ((aC.cell (p:=⟨w.heap.size+1,1,none⟩) aE).trans aL)),((aA.cell (p:=⟨w.heap.size+1,2,none⟩) aI).trans ((aC.cell (p:=⟨w.heap.size+1,2,none⟩) aE).trans aM))⟩ | exact⟨((far3 _ _ _ _ (by dsimp only;omega)).trans ((aA.cell (p:=⟨w.heap.size,0,none⟩) aJ).trans ((aC.cell (p:=⟨w.heap.size,0,none⟩) aD).trans aP))),((far3 _ _ _ _ (by dsimp only;omega)).trans ((aA.cell (p:=⟨w.heap.size,1,none⟩) aJ).trans ((aC.cell (p:=⟨w.heap.size,1,none⟩) aD).trans aQ))),((far3 _ _ _ _ (by dsimp only;omega)).trans ((aA.cell (p:=⟨w.heap.size,2,none⟩) aJ).trans ((aC.cell (p:=⟨w.heap.size,2,none⟩) aD).trans aN))),((far3 _ _ _ _ (by dsimp only;omega)).trans ((aA.cell (p:=⟨w.heap.size+1,0,none⟩) aI).trans ((aC.cell (p:=⟨w.heap.size+1,0,none⟩) aE).trans aO))),((far3 _ _ _ _ (by dsimp only;omega)).trans ((aA.cell (p:=⟨w.heap.size+1,1,none⟩) aI).trans ((aC.cell (p:=⟨w.heap.size+1,1,none⟩) aE).trans aL))),((far3 _ _ _ _ (by dsimp only;omega)).trans ((aA.cell (p:=⟨w.heap.size+1,2,none⟩) aI).trans ((aC.cell (p:=⟨w.heap.size+1,2,none⟩) aE).trans aM)))⟩)
    (first
     |(go_at_call 125;refine(zc9 A6 A5 m6 c6 m5 c5 (x3*x2) (x1*x4) (w8.drewN nq).drew (r6.later aF) (r5.later aF) (Nat.le_of_lt bS.out) (by omega)).mono ?_;rintro e w9 ⟨A9,m9,c9,rfl,bD,aC⟩;have aJ:=Nat.lt_of_lt_of_le aD aC.size;have aI:=Nat.lt_of_lt_of_le aE aC.size)
     |(go_at_call 112;refine(zbF _ A9 A7 m9 c9 m7 c7 _ _ w9 ((bR.later aF).later aC) bD ((bM.later aF).later aC) (by have:=bD.len;have:=bF;omega) (by omega)).mono ?_;rintro e bI ⟨v,rfl,⟨aT,aW,aR,aU,aX,aV,rfl,bL,bJ⟩,aA⟩;have aG:=((bO.below aF bB).below aC (Nat.lt_of_lt_of_le bB aF.size)).below aA (Nat.lt_of_lt_of_le (Nat.lt_of_lt_of_le bB aF.size) aC.size);obtain⟨e0,e1,e2,f0,f1,f2,gl⟩:=aG.cells))
   go_wp2_with fail
   have aK:Below w.heap.size w bI:=((aZ.trans (aF.mono bC)).trans (aC.mono bC)).trans (aA.mono (by have:=aC.size;exact Nat.le_trans bC this));have aS:=zan aK (g:=w.heap.size+1+1) (by omega) (.bool (lowQ bq (x3*x2-x1*x4) (x2*x4)).neg) (.slice aT aW aR) (.slice aU aX aV);refine bodyPost_ret (v := .agg #[.bool (lowQ bq (x3*x2-x1*x4) (x2*x4)).neg,.slice aT aW aR,.slice aU aX aV]) (by simp[results,Tryz.results64,go_sem,e0,e1,e2]) rfl ⟨_,rfl,⟨aT,aW,aR,aU,aX,aV,by rw[HV.out],?_,?_⟩,aS⟩
   ·rw[zah,HV.out];exact bL.res aG _ _ _
   ·rw[zah,HV.out];exact bJ.res aG _ _ _
  ·have HV:Hid (zb0 ⟨bp,x1,x2⟩ ⟨bq,x3,x4⟩=lowQ bp (x1*x4-x3*x2) (x2*x4)):=by unfold Hid zb0;rw[if_neg hs,if_neg hlt]
   have bE:=zaS A5 A6 m5 c5 m6 c6 (x1*x4) (x3*x2) w8 r5 r6;have bW:ncmp (x1*x4) (x3*x2)=0∨ncmp (x1*x4) (x3*x2)=1:=by
    unfold ncmp;rw[if_neg hlt];split<;>simp
   have bF:=zdF (x1*x4) (x3*x2);rw[r5.len] at bF;have bS:=Aa (Nat.le_of_not_lt hlt);generalize ncmp (x1*x4) (x3*x2)=cv at bE bW;have cA:decide (cv<0)=false:=by simp;omega
   clear hs hlt bW
   go_wp2_with fail
   refine bE.mono ?_;rintro e wq ⟨rfl,nq,rfl⟩;clear bE
   go_wp2_with fail
   have aF:Below w8.heap.size w8 (w8.drewN nq).drew:=Below.drew (zac (Below.refl _ _) nq)
   go_region_held3 (fun w'=>w'.cell? ⟨w.heap.size,0,none⟩=some (.bool bp)∧w'.cell? ⟨w.heap.size,1,none⟩=some (.slice A1 n1 c1)∧w'.cell? ⟨w.heap.size,2,none⟩=some (.slice A2 n2 c2)∧w'.cell? ⟨w.heap.size+1,0,none⟩=some (.bool bq)∧w'.cell? ⟨w.heap.size+1,1,none⟩=some (.slice A3 n3 c3)∧w'.cell? ⟨w.heap.size+1,2,none⟩=some (.slice A4 n4 c4))
    (first | exact⟨aP,aQ,aN,aO,aL,aM⟩ | exact⟨((aC.cell (p:=⟨w.heap.size,0,none⟩) aD).trans aP),((aC.cell (p:=⟨w.heap.size,1,none⟩) aD).trans aQ),((aC.cell (p:=⟨w.heap.size,2,none⟩) aD).trans aN),((aC.cell (p:=⟨w.heap.size+1,0,none⟩) aE).trans aO),((aC.cell (p:=⟨w.heap.size+1,1,none⟩) aE).trans aL),((aC.cell (p:=⟨w.heap.size+1,2,none⟩) aE).trans aM)⟩ | exact⟨((aA.cell (p:=⟨w.heap.size,0,none⟩) aJ).trans ((aC.cell (p:=⟨w.heap.size,0,none⟩) aD).trans aP)),((aA.cell (p:=⟨w.heap.size,1,none⟩) aJ).trans ((aC.cell (p:=⟨w.heap.size,1,none⟩) aD).trans aQ)),((aA.cell (p:=⟨w.heap.size,2,none⟩) aJ).trans ((aC.cell (p:=⟨w.heap.size,2,none⟩) aD).trans aN)),((aA.cell (p:=⟨w.heap.size+1,0,none⟩) aI).trans ((aC.cell (p:=⟨w.heap.size+1,0,none⟩) aE).trans aO)),((aA.cell (p:=⟨w.heap.size+1,1,none⟩) aI).trans ((aC.cell (p:=⟨w.heap.size+1,1,none⟩) aE).trans aL)),((aA.cell (p:=⟨w.heap.size+1,2,none⟩) aI).trans ((aC.cell (p:=⟨w.heap.size+1,2,none⟩) aE).trans aM))⟩ | exact⟨((far3 _ _ _ _ (by dsimp only;omega)).trans ((aA.cell (p:=⟨w.heap.size,0,none⟩) aJ).trans ((aC.cell (p:=⟨w.heap.size,0,none⟩) aD).trans aP))),((far3 _ _ _ _ (by dsimp only;omega)).trans ((aA.cell (p:=⟨w.heap.size,1,none⟩) aJ).trans ((aC.cell (p:=⟨w.heap.size,1,none⟩) aD).trans aQ))),((far3 _ _ _ _ (by dsimp only;omega)).trans ((aA.cell (p:=⟨w.heap.size,2,none⟩) aJ).trans ((aC.cell (p:=⟨w.heap.size,2,none⟩) aD).trans aN))),((far3 _ _ _ _ (by dsimp only;omega)).trans ((aA.cell (p:=⟨w.heap.size+1,0,none⟩) aI).trans ((aC.cell (p:=⟨w.heap.size+1,0,none⟩) aE).trans aO))),((far3 _ _ _ _ (by dsimp only;omega)).trans ((aA.cell (p:=⟨w.heap.size+1,1,none⟩) aI).trans ((aC.cell (p:=⟨w.heap.size+1,1,none⟩) aE).trans aL))),((far3 _ _ _ _ (by dsimp only;omega)).trans ((aA.cell (p:=⟨w.heap.size+1,2,none⟩) aI).trans ((aC.cell (p:=⟨w.heap.size+1,2,none⟩) aE).trans aM)))⟩)
    (first
     |(go_at_call 125;refine(zc9 A5 A6 m5 c5 m6 c6 (x1*x4) (x3*x2) (w8.drewN nq).drew (r5.later aF) (r6.later aF) bS.out (by omega)).mono ?_;rintro e w9 ⟨A9,m9,c9,rfl,bD,aC⟩;have aJ:=Nat.lt_of_lt_of_le aD aC.size;have aI:=Nat.lt_of_lt_of_le aE aC.size)
     |(go_at_call 112;refine(zbF _ A9 A7 m9 c9 m7 c7 _ _ w9 ((bR.later aF).later aC) bD ((bM.later aF).later aC) (by have:=bD.len;have:=bF;omega) (by omega)).mono ?_;rintro e bI ⟨v,rfl,⟨aT,aW,aR,aU,aX,aV,rfl,bL,bJ⟩,aA⟩;have aG:=((bO.below aF bB).below aC (Nat.lt_of_lt_of_le bB aF.size)).below aA (Nat.lt_of_lt_of_le (Nat.lt_of_lt_of_le bB aF.size) aC.size);obtain⟨e0,e1,e2,f0,f1,f2,gl⟩:=aG.cells))
   go_wp2_with fail
   have aK:Below w.heap.size w bI:=((aZ.trans (aF.mono bC)).trans (aC.mono bC)).trans (aA.mono (by have:=aC.size;exact Nat.le_trans bC this));have aS:=zan aK (g:=w.heap.size+1+1) (by omega) (.bool (lowQ bp (x1*x4-x3*x2) (x2*x4)).neg) (.slice aT aW aR) (.slice aU aX aV);refine bodyPost_ret (v := .agg #[.bool (lowQ bp (x1*x4-x3*x2) (x2*x4)).neg,.slice aT aW aR,.slice aU aX aV]) (by simp[results,Tryz.results64,go_sem,e0,e1,e2]) rfl ⟨_,rfl,⟨aT,aW,aR,aU,aX,aV,by rw[HV.out],?_,?_⟩,aS⟩
   ·rw[zah,HV.out];exact bL.res aG _ _ _
   ·rw[zah,HV.out];exact bJ.res aG _ _ _
end
end Go.Proofs.YtmkondcdejlhcaaGreatDoor
