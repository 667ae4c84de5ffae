/- Contracts of the reference's digits to the base 10^9: rows of one's own that hold digits; mulDigits, divDigit. -/
import Derived.Test.YteajibbphcfmeaaGreatDoorVPr4
import Derived.Test.YteajibbphcfmeaaGreatDoorVRtx
import Derived.Test.YteajibbphcfmeaaGreatDoorVDl
import Derived.Test.YteajibbphcfmeaaGreatDoorVBld
import Derived.Deep.RegionHeld3
import Derived.Test.YteajibbphcfmeaaGreatDoorVRat2
namespace Go.Proofs.YteajibbphcfmeaaGreatDoor
open Go.RowKit Dn
def RowI (w:World) (base g n c:Nat) (l:List Nat):Prop:=w.ownsRow base 3 1 (.slice (some ⟨g,0,none⟩) n c) n (l.map natv)
section
variable {w w':World} {base g n c:Nat} {l:List Nat}
theorem RowI.len (h:RowI w base g n c l):l.length=n:=by
 have:=h.1;rw [List.length_map] at this;omega
theorem RowI.cell (h:RowI w base g n c l) (k:Nat) (hk:k<n):w.cell? ⟨g,k,none⟩=some (.int .i64 ((l.getD k 0:Nat):Int)):=by
 have hl:k<l.length:=by rw [h.len];exact hk
 rw [World.ownsRow.cellAt h k (by omega)]
 simp [natv,List.getD,hl]
theorem RowI.free (h:RowI w base g n c l) (k:Nat):w.frozen? ⟨g,k,none⟩=false:=World.ownsRow.frozenAt h k
theorem RowI.set (h:RowI w base g n c l) (k x:Nat):RowI (w.setCell ⟨g,k,none⟩ (.int .i64 (x:Int))) base g n c (l.set k x):=by
 have:=(World.ownsRow.stored h k (natv x)).1
 unfold RowI
 rw [List.map_set]
 exact this
theorem RowI.lt (h:RowI w base g n c l):base≤g∧g<w.heap.size:=World.ownsRow.lt h g rfl
theorem RowI.reads (h:RowI w base g n c l):zat w w.heap.size 1 (some ⟨g,0,none⟩) n (l.map natv):=zat.of_own h
theorem RowI.kept {row:Option Nat} (h:RowI w base g n c l) (hg:w.grownBy w' row) (hr:row≠some g):RowI w' base g n c l:=
 World.ownsRow.kept h hg (.inr (by simpa [Value.ownBlock] using fun e=>hr e.symm))
theorem RowI.below (h:RowI w base g n c l) (hb:Below w.heap.size w w'):RowI w' base g n c l:=
 h.kept (World.grownBy.mk hb.os hb.tape hb.output hb.size (fun i hi _=>hb.block i hi):w.grownBy w' none) (by simp)
theorem RowI.drewN (h:RowI w base g n c l) (q:Nat):RowI (w.drewN q) base g n c l:=h
theorem RowI.caps (h:RowI w base g n c l):n≤c∧c≤maxLen:=by
 rcases h.2 with ⟨h',_⟩ | ⟨g',aC,aG,h',hb,hg,aD,aE,aF,aA⟩
 ·simp at h'
 ·simp only [Value.slice.injEq] at h'
  obtain ⟨_,_,rfl⟩:=h'
  exact ⟨aD,aE⟩
theorem RowI.dig (h:RowI w base g n c l) (hw:Wf l):DigI w (some ⟨g,0,none⟩) n c l:=⟨h.reads,h.caps.1,h.caps.2,hw⟩
end
theorem RowI.made {w1:World} {base g n:Nat} (h:w1.ownsRow base 3 1 (.slice (some ⟨g,0,none⟩) n n) n (madeCells #[Value.int .i64 0] n).toList) :
  RowI w1 base g n n (List.replicate n 0):=by
 unfold RowI
 rw [List.map_replicate]
 rwa [toList_madeCells_one] at h
def znk (w wr:World) (n n':Nat) (la lb:List Nat) (i:Nat):Prop:=
 ∃ ls,RowI wr w.heap.size w.heap.size (n+n') (n+n') ls∧Wf ls∧val ls=val (la.take i)*val lb∧(∀ t,i+n'≤t→ls.getD t 0=0)∧Below w.heap.size w wr
def zn7 (w wr:World) (n n':Nat) (la lb:List Nat) (i j c:Nat):Prop:=
 ∃ ls,RowI wr w.heap.size w.heap.size (n+n') (n+n') ls∧Wf ls∧val ls+B ^ (i+j)*c=val (la.take i)*val lb+B ^ i*(la.getD i 0*val (lb.take j))∧(∀ t,i+n'≤t→ls.getD t 0=0)∧Below w.heap.size w wr
set_option maxHeartbeats 4000000 in
set_option maxRecDepth 100000 in
theorem zdC (A A':Option Addr) (n c n' c' x y:Nat) (w:World) (ha:DigI w A n c (digs x)) (hb:DigI w A' n' c' (digs y)) (hn:n≤1048576) (hn':n'≤1048576) :
  Calls Tryz.prog 141 #[.slice A n c,.slice A' n' c'] w fun e w'=>znb w (x*y) e w':=by
 obtain ⟨i0,bW,cI,bS,bV⟩:=info_parts zcq
 have bN:=ha.len
 have bC:=hb.len
 have bM:val (digs y)≤B ^ n':=by have:=zbk (zap y);rw [bC] at this;omega
 have HA:=Lib.hid bN
 have HB:=Lib.hid bC
 have bU:=Lib.hid bM
 clear bN bC bM
 go_enter Tryz.func141,Tryz.ntmps141
 go_wp2_with (at_make;refine wpList_make_full _ rfl _ _ 45 rfl w.heap.size 3 i0 (.int .i64 0) 1 Tryz.underlying45 bW cI bS _ _ _ _ (n+n') rfl rfl (by omega) (by omega) ?b2 ?b3 (Nat.le_refl _) ?_)
 case b2=>rw [bV];omega
 case b3=>unfold maxLen;omega
 intro w0 aF aE
 have aM:Below w.heap.size w w0:=(Below.refl _ _).grown aE (Nat.le_refl _) (fun k h=>by cases h)
 have aN:=RowI.made aF
 clear aF aE
 go_wp2
 go_loopw [6] (fun s wr=>∃ i:Nat,i≤n∧s = .int .i64 i∧znk w wr n n' (digs x) (digs y) i) (fun s _=>n - (intOf s).toNat)
 case atStart=>exact ⟨0,by omega,rfl,_,aN,Wf.replicate _,by simp [zaR],fun t _=>zcj _ _,aM⟩
 case round=>
  obtain ⟨i,hi,rfl,ls,aR,bF,aL,hz,aD⟩:=hrel
  obtain ⟨wo,rfl⟩:∃ wo:World,wo=wr:=⟨_,rfl⟩
  have HV:=Lib.hid aL
  have HZ:=Lib.hid hz
  clear aL hz
  by_cases hin:i<n
  ·obtain ⟨ad,bH,rfl,bI,bB⟩:=(ha.rd.below aD).cellM (k:=i) hin
   have bL:=zap x _ (List.getElem_mem bH)
   have bA:(digs x).getD i 0=(digs x)[i]:=by simp [List.getD,bH]
   unfold natv at bB
   obtain ⟨f,bJ⟩:∃ f,(digs x)[i]=f:=⟨_,rfl⟩
   rw [bJ] at bB bL bA
   have HF:=Lib.hid bA
   clear bA bJ
   have cH:f<1000000000:=bL
   go_wp2_with fail
   go_loopw [7,8] (fun cy s wr=>∃ j c0:Nat,j≤n'∧c0≤1000000000∧s = .int .i64 j∧cy = .int .i64 c0∧zn7 w wr n n' (digs x) (digs y) i j c0) (fun _ s _=>n' - (intOf s).toNat)
   case atStart=>exact ⟨0,0,by omega,by omega,rfl,rfl,ls,aR,bF,by rw [HV.out];simp,HZ.out,aD⟩
   case round=>
    obtain ⟨j,c0,hj,cJ,rfl,rfl,l2,aA,aJ,aG,aS,aC⟩:=hrel
    have bK:=Lib.hid aG
    have aU:=Lib.hid aS
    clear aG aS
    have cG:=(aC.cell (p:=ad.add i) (by rw [zbd];exact bI)).trans (((aD.cell (p:=ad.add i) (by rw [zbd];exact bI)).symm).trans bB)
    by_cases hjn:j<n'
    ·obtain ⟨cN,aK,rfl,cL,bG⟩:=(hb.rd.below aC).cellM (k:=j) hjn
     have bP:=zap y _ (List.getElem_mem aK)
     have bD:(digs y).getD j 0=(digs y)[j]:=by simp [List.getD,aK]
     unfold natv at bG
     obtain ⟨yk,bO⟩:∃ yk,(digs y)[j]=yk:=⟨_,rfl⟩
     rw [bO] at bG bP bD
     have bQ:yk<1000000000:=bP
     have aQ:=aA.cell (i+j) (by omega)
     have bZ:=aA.free (i+j)
     have cB:=zaD aJ (i+j)
     obtain ⟨o,aZ⟩:∃ o,l2.getD (i+j) 0=o:=⟨_,rfl⟩
     rw [aZ] at aQ cB
     obtain ⟨p,hp⟩:∃ p,p=f*yk:=⟨_,rfl⟩
     have cK:p≤999999999000000000:=by
      rw [hp];exact Nat.le_trans (Nat.mul_le_mul (show f≤999999999 by omega) (show yk≤1000000000 by omega)) (by decide)
     have em:(f:Int)*(yk:Int)=(p:Int):=by rw [hp];exact (Int.natCast_mul f yk).symm
     obtain ⟨t,ht⟩:∃ t,t=o+p+c0:=⟨_,rfl⟩
     obtain ⟨lo,aV⟩:∃ lo,lo=t % B:=⟨_,rfl⟩
     obtain ⟨aH,aT⟩:∃ aH,aH=t / B:=⟨_,rfl⟩
     have aW:lo<B:=by rw [aV];exact Nat.mod_lt _ zaL
     have cM:t≤1000000000999999999:=by omega
     have aY:aH≤1000000000:=by rw [aT];unfold B;omega
     have e1:lo+B*aH=f*yk+o+c0:=by rw [aV,aT,Nat.mod_add_div,←hp,ht];omega
     have HP:Hid (val (l2.set (i+j) lo)+B ^ (i+(j+1))*aH=val ((digs x).take i)*val (digs y)+B ^ i*((digs x).getD i 0*val ((digs y).take (j+1)))):=
      zdF l2 (digs y) i j _ _ lo aH c0 (by rw [aA.len];omega) bK.out (by rw [bD,aZ,HF.out];exact e1)
     have bE:Hid (∀ t,i+n'≤t→(l2.set (i+j) lo).getD t 0=0):=fun t ht=>by rw [zaH _ _ _ _ (by omega)];exact aU.out t ht
     have es:((t:Nat):Int) % 1000000000=(lo:Int):=by rw [aV];unfold B;omega
     have ed:((t:Nat):Int) / 1000000000=(aH:Int):=by rw [aT];unfold B;omega
     have cA:IntKind.i64.wrap ((i:Int)+(j:Int))=((i+j:Nat):Int):=by rw [IntWalk.i64_in _ (by omega)];omega
     have cF:IntKind.i64.wrap ((f:Int)*(yk:Int))=(p:Int):=by rw [em,IntWalk.i64_in _ (by omega)]
     obtain ⟨op,bX⟩:∃ op:Nat,op=o+p:=⟨_,rfl⟩
     have bR:IntKind.i64.wrap ((o:Int)+(p:Int))=(op:Int):=by rw [IntWalk.i64_in _ (by omega)];omega
     have cE:IntKind.i64.wrap ((op:Int)+(c0:Int))=(t:Int):=by rw [IntWalk.i64_in _ (by omega)];omega
     have q1:(0:Int)≤((i+j:Nat):Int):=by omega
     have q2:((i+j:Nat):Int)<((n+n':Nat):Int):=by omega
     have q3:(0:Int)≤(i:Int):=by omega
     have q4:(i:Int)<(n:Int):=by omega
     have q5:(0:Int)≤(j:Int):=by omega
     have q6:(j:Int)<(n':Int):=by omega
     clear e1 bD aZ hp ht aV aT bO em bX
     have aO:=Lib.hid (fun q=>(aA.drewN q).set (i+j) lo)
     have aX:=Lib.hid (aJ.set (i+j) aW)
     have aP:=Lib.hid (fun q=>zab aC q)
     go_upto_region 9 with (fail)
     go_quiet (fail)
     clear cA cF bR cE q1 q2 q3 q4 q5 q6
     go_wp2
     go_roundw
     case rel=>exact ⟨j+1,aH,by omega,aY,by go_num,rfl,_,aO.out _,aX.out,HP.out,bE.out,(aP.out _).setCell (Nat.le_refl _) _⟩
     case measure=>simp [intOf]<;>omega
    ·obtain rfl:j=n':=by omega
     have aQ:=aA.cell (i+j) (by omega)
     have bZ:=aA.free (i+j)
     have aI:i+j<l2.length:=by rw [aA.len];omega
     have HP:Hid (val (l2.set (i+j) c0)=val ((digs x).take (i+1))*val (digs y)):=
      ze3 l2 (digs x) (digs y) i j c0 aI (aU.out _ (Nat.le_refl _)) HB.out bK.out
     have bT:Hid (c0<B):=zl1 l2 (digs x) (digs y) i j c0 aI HP.out (zap x) bU.out
     have bE:Hid (∀ t,i+1+j≤t→(l2.set (i+j) c0).getD t 0=0):=fun t ht=>by rw [zaH _ _ _ _ (by omega)];exact aU.out t (by omega)
     rw [aU.out _ (Nat.le_refl _)] at aQ
     replace aQ:wr.cell? ⟨w.heap.size,i+j,none⟩=some (.int .i64 0):=aQ
     clear aI
     go_wp2
     go_roundw
     case rel=>exact ⟨i+1,by omega,by go_num,_,aA.set (i+j) c0,aJ.set _ bT.out,HP.out,bE.out,aC.setCell (Nat.le_refl _) _⟩
     case measure=>simp [intOf]<;>omega
  ·obtain rfl:i=n:=by omega
   have hv:val ls=x*y:=by rw [HV.out,List.take_of_length_le (by rw [HA.out];exact Nat.le_refl _),zal,zal]
   have ht:=zcJ (some ⟨w.heap.size,0,none⟩) (i+n') (i+n') ls wo (aR.dig bF) (by omega)
   rw [hv] at ht
   have HC:=Lib.hid ht
   clear ht hv
   go_wp2_with fail
   refine HC.out.mono ?_
   rintro e w1 ⟨m,rfl,cC,bY⟩
   go_wp2
   go_ret
   exact ⟨_,m,_,rfl,cC,aD.trans (bY.mono aD.size)⟩
theorem zln (a X d:Nat) (hd:0<d):(a+B*X) / d=(B*(X % d)+a) / d+B*(X / d)∧(a+B*X) % d=(B*(X % d)+a) % d:=by
 have hX:=Nat.mod_add_div X d
 have e:a+B*X=B*(X % d)+a+d*(B*(X / d)):=by
  conv=>lhs;rw [←hX]
  rw [Nat.mul_add,Nat.mul_left_comm B d]
  omega
 constructor
 ·rw [e,Nat.add_mul_div_left _ _ hd]
 ·rw [e,Nat.add_mul_mod_self_left]
set_option maxHeartbeats 2000000 in
set_option maxRecDepth 100000 in
theorem zd4 (A:Option Addr) (n c d:Nat) (la:List Nat) (w:World) (h:DigI w A n c la) (hd:0<d) (hdB:d<B) (hn:n≤1048576) :
  Calls Tryz.prog 167 #[.slice A n c,.int .i64 (d:Int)] w fun e w'=>∃ A' m c',e = .returned (.tuple #[.slice A' m c',.int .i64 ((val la % d:Nat):Int)])∧DigI w' A' m c' (digs (val la / d))∧Below w.heap.size w w':=by
 obtain ⟨i0,aV,bF,aT,aU⟩:=info_parts zcq
 have aR:=h.len
 have aN:=Lib.hid aR
 have aX:=Lib.hid h.wf
 have aY:d<1000000000:=hdB
 clear aR hdB
 go_enter Tryz.func167,Tryz.ntmps167
 go_wp2_with (at_make;refine wpList_make_full _ rfl _ _ 45 rfl w.heap.size 3 i0 (.int .i64 0) 1 Tryz.underlying45 aV bF aT _ _ _ _ n rfl rfl (by omega) (by omega) ?b2 ?b3 (Nat.le_refl _) ?_)
 case b2=>rw [aU];omega
 case b3=>unfold maxLen;omega
 intro w0 aE aA
 have aG:Below w.heap.size w w0:=(Below.refl _ _).grown aA (Nat.le_refl _) (fun k h=>by cases h)
 have aH:=RowI.made aE
 clear aE aA
 go_wp2
 go_loopg [7,8] n (fun q r s W=>∃ (k rs:Nat) (ls:List Nat),k≤n∧s = .int .i64 ((k:Int) - 1)∧r = .int .i64 (rs:Int)∧rs<d∧k≤q∧RowI W w.heap.size w.heap.size n n ls∧Hid (Wf ls∧val (ls.drop k)=val (la.drop k) / d∧rs=val (la.drop k) % d)∧Below w.heap.size w W)
 case atStart=>exact ⟨n,0,_,Nat.le_refl _,rfl,rfl,hd,Nat.le_refl _,aH,⟨Wf.replicate _,by rw [List.drop_of_length_le (by simp),List.drop_of_length_le (by rw [aN.out];exact Nat.le_refl _)];simp,by rw [List.drop_of_length_le (by rw [aN.out];exact Nat.le_refl _)];simp⟩,aG⟩
 case round=>
  obtain ⟨k,rs,ls,hk,rfl,rfl,bA,hq,aC,hv,aD⟩:=hrel
  by_cases h0:0<k
  ·obtain ⟨i,rfl⟩:∃ i:Nat,k=i+1:=⟨k - 1,by omega⟩
   have e1:((i+1:Nat):Int) - 1=(i:Int):=by omega
   rw [e1]
   obtain ⟨ad,aO,rfl,bI,aF⟩:=(h.rd.below aD).cellM (k:=i) (by omega)
   have aQ:=aX.out _ (List.getElem_mem aO)
   have aK:la.drop i=la[i] :: la.drop (i+1):=List.drop_eq_getElem_cons aO
   unfold natv at aF
   obtain ⟨a,aP⟩:∃ a,la[i]=a:=⟨_,rfl⟩
   rw [aP] at aF aQ aK
   have bC:a<1000000000:=aQ
   obtain ⟨t,ht⟩:∃ t,t=rs*1000000000+a:=⟨_,rfl⟩
   have bD:t<1000000000*d:=by
    have:(rs+1)*1000000000≤d*1000000000:=Nat.mul_le_mul_right _ bA
    rw [ht];omega
   have bJ:t<1000000000000000000:=by omega
   obtain ⟨q1,aJ⟩:∃ q1,q1=t / d:=⟨_,rfl⟩
   obtain ⟨r1,aL⟩:∃ r1,r1=t % d:=⟨_,rfl⟩
   have aM:r1<d:=by rw [aL];exact Nat.mod_lt _ hd
   have aI:q1<B:=by rw [aJ];exact (Nat.div_lt_iff_lt_mul hd).2 bD
   have HP:Hid (Wf (ls.set i q1)∧val ((ls.set i q1).drop i)=val (la.drop i) / d∧r1=val (la.drop i) % d):=by
    obtain ⟨hw,h1,h2⟩:=hv.out
    obtain ⟨s1,s2⟩:=zln a (val (la.drop (i+1))) d hd
    refine ⟨hw.set _ aI,?_,?_⟩
    ·rw [zeF _ _ _ (by rw [aC.len];omega),h1,aK,val_cons,s1,aJ,ht,h2]
     rw [Nat.mul_comm (val (la.drop (i+1)) % d) 1000000000]
     rfl
    ·rw [aK,val_cons,s2,aL,ht,h2,Nat.mul_comm (val (la.drop (i+1)) % d) 1000000000]
     rfl
   have et:(rs:Int)*1000000000+(a:Int)=(t:Int):=by omega
   have ed:(t:Int) / (d:Int)=(q1:Int):=by rw [aJ];exact (Int.natCast_ediv t d).symm
   have em:(t:Int) % (d:Int)=(r1:Int):=by rw [aL];exact (Int.natCast_emod t d).symm
   have bG:((d:Int)==0)=false:=by rw [beq_eq_false_iff_ne];omega
   have bH:=aC.free i
   have bB:=aC.cell i (by omega)
   generalize ls.getD i 0=old at bB
   have HR:=Lib.hid (aC.set i q1)
   have bE:=Lib.hid em
   have aS:q1<1000000000:=aI
   clear aP aK ht aJ aL hv e1
   go_wp2
   go_roundg i
   case measure=>omega
   case rel=>exact ⟨i,r1,_,by omega,rfl,by first | rfl | rw [bE.out],aM,Nat.le_refl _,HR.out,HP.out,aD.setCell (Nat.le_refl _) _⟩
  ·obtain rfl:k=0:=by omega
   obtain ⟨hw,h1,h2⟩:=hv.out
   rw [List.drop_zero,List.drop_zero] at h1
   rw [List.drop_zero] at h2
   have ht:=zcJ (some ⟨w.heap.size,0,none⟩) n n ls wr (aC.dig hw) (by omega)
   rw [h1] at ht
   have HC:=Lib.hid ht
   have H2:=Lib.hid h2
   clear ht h1 h2 hv
   go_wp2_with fail
   refine HC.out.mono ?_
   rintro e w1 ⟨m,rfl,aZ,aW⟩
   go_wp2
   go_ret2
   exact ⟨_,m,_,by rw [H2.out];rfl,aZ,aD.trans (aW.mono aD.size)⟩
theorem RatD.zero (w:World) (B:Nat):RatD w B (.agg #[.bool false,.slice none 0 0,.slice none 0 0]) ⟨false,0,0⟩:=⟨none,0,0,none,0,0,rfl,NatD.zero _ _,NatD.zero _ _⟩
end Go.Proofs.YteajibbphcfmeaaGreatDoor
