/- Contract of the reference's guess: the digit of a quotient, or one more. -/
import Derived.Test.YteajibbphcfmeaaGreatDoorVRb3
import Derived.Test.YteajibbphcfmeaaGreatDoorVCode
import Derived.Deep.RegionHeld3
import Derived.Test.YteajibbphcfmeaaGreatDoorVRtx
import Derived.Test.YteajibbphcfmeaaGreatDoorVFrx
import Derived.Test.YteajibbphcfmeaaGreatDoorVPr4
import Derived.IntWalk
namespace Go.Proofs.YteajibbphcfmeaaGreatDoor
open Go.RowKit Dn
set_option maxHeartbeats 2000000 in
set_option maxRecDepth 100000 in
theorem ziX (Au Av:Option Addr) (mu cu nv cv j k:Nat) (lu lv:List Nat) (w:World)
  (hu:zat w w.heap.size 1 Au mu (lu.map natv)) (hv:zat w w.heap.size 1 Av nv (lv.map natv)) (hwu:Wf lu) (hwv:Wf lv)
  (hn:nv=k+2) (hj:j+(k+2)<mu) (hmu:mu≤2097152) (hbig:∀ h:k+1<lv.length,B≤2*lv[k+1]+1)
  (hz:val (lu.drop (j+(k+3)))=0) (hUV:val (lu.drop j)<B*val lv) :
  Calls Tryz.prog 169 #[.slice Au mu cu,.slice Av nv cv,.int .i64 (j:Int)] w fun e w'=>(∃ t:Nat,e = .returned (.int .i64 (t:Int))∧t<B∧(t=val (lu.drop j) / val lv∨t=val (lu.drop j) / val lv+1))∧∃ q,w'=w.drewN q:=by
 obtain ⟨cZ,bI,rfl,cW,bQ⟩:=hu.cellM (k:=j+(k+2)) (by omega)
 obtain ⟨_,bR,e9,_,bL⟩:=hu.cellM (k:=j+(k+1)) (by omega)
 injection e9 with e9;subst e9
 obtain ⟨_,bJ,e9,_,bM⟩:=hu.cellM (k:=j+k) (by omega)
 injection e9 with e9;subst e9
 obtain ⟨cN,aZ,rfl,cT,aD⟩:=hv.cellM (k:=k+1) (by omega)
 obtain ⟨_,bW,e9,_,bD⟩:=hv.cellM (k:=k) (by omega)
 injection e9 with e9;subst e9
 have aS:lv.length=k+2:=by rw [hv.lenM];exact hn
 have aT:k+2<(lu.drop j).length:=by rw [List.length_drop];omega
 have aU:val ((lu.drop j).drop (k+3))=0:=by rw [List.drop_drop];exact hz
 have aY:=hwu.drop j
 have GS:=zhZ (lu.drop j) lv aT aS aY hwv aU rfl rfl hUV (hbig aZ)
 have GE:=fun t r=>@zky t r k _ _ (lu.drop j) lv aT aS aY hwv aU rfl rfl GS.2.2 hUV
 have GL:=fun t r=>@zjB t r k _ _ (lu.drop j) lv aT aS aY aU rfl rfl hUV
 simp only [List.getElem_drop] at GS GE GL
 generalize val (lu.drop j) / val lv=Q at *
 have ha:=hwu.get bI
 have hb:=hwu.get bR
 have hc:=hwu.get bJ
 have bT:=hwv.get aZ
 have bH:=hwv.get bW
 unfold natv at bQ bL bM aD bD
 clear hbig hz hUV aU aY hwu hwv hu hv
 generalize lu[j+(k+2)]=a at *
 generalize lu[j+(k+1)]=b at *
 generalize lu[j+k]=c at *
 generalize lv[k+1]=v1 at *
 generalize lv[k]=v2 at *
 obtain ⟨jn,bO⟩:∃ jn,jn=j+(k+2):=⟨_,rfl⟩
 obtain ⟨aJ,aM⟩:∃ aJ,aJ=j+(k+1):=⟨_,rfl⟩
 obtain ⟨aI,aP⟩:∃ aI,aI=j+k:=⟨_,rfl⟩
 obtain ⟨k1,bN⟩:∃ k1,k1=k+1:=⟨_,rfl⟩
 rw [←bO] at bQ
 rw [←aM] at bL
 rw [←aP] at bM
 rw [←bN] at aD
 have cU:a<1000000000:=ha
 have cY:b<1000000000:=hb
 have cV:c<1000000000:=hc
 have cM:v1<1000000000:=bT
 have cQ:v2<1000000000:=bH
 obtain ⟨aA,aC⟩:∃ aA,aA=a*B+b:=⟨_,rfl⟩
 rw [←aC] at GS
 simp only [←aC] at GE GL
 obtain ⟨aB,bK⟩:∃ aB,aB=a*1000000000:=⟨_,rfl⟩
 have aK:aA=aB+b:=by rw [aC,bK];rfl
 have bF:aA<1000000000000000000:=by omega
 obtain ⟨t0,aR⟩:∃ t0,t0=aA / v1:=⟨_,rfl⟩
 obtain ⟨r0,aV⟩:∃ r0,r0=aA % v1:=⟨_,rfl⟩
 rw [←aR] at GS
 obtain ⟨bP,bU,cJ⟩:=GS
 have cE:r0<v1:=by rw [aV];exact Nat.mod_lt _ cJ
 have aO:t0*v1+r0=aA:=by rw [aR,aV,Nat.mul_comm];exact Nat.div_add_mod _ _
 have aG:B=1000000000:=rfl
 rw [aG] at bU
 have f1:IntKind.i64.wrap ((j:Int)+(nv:Int))=(jn:Int):=by rw [IntWalk.i64_in _ (by omega)];omega
 have f2:IntKind.i64.wrap ((jn:Int) - 1)=(aJ:Int):=by rw [IntWalk.i64_in _ (by omega)];omega
 have f3:IntKind.i64.wrap ((a:Int)*1000000000)=(aB:Int):=by rw [IntWalk.i64_in _ (by omega)];omega
 have f4:IntKind.i64.wrap ((aB:Int)+(b:Int))=(aA:Int):=by rw [IntWalk.i64_in _ (by omega)];omega
 have f5:IntKind.i64.wrap ((nv:Int) - 1)=(k1:Int):=by rw [IntWalk.i64_in _ (by omega)];omega
 have f6:IntKind.i64.wrap (Int.tdiv (aA:Int) (v1:Int))=(t0:Int):=by rw [Int.tdiv_eq_ediv_of_nonneg (by omega),←Int.natCast_ediv,←aR,IntWalk.i64_in _ (by omega)]
 have f7:Int.tmod (aA:Int) (v1:Int)=(r0:Int):=by rw [Int.tmod_eq_emod_of_nonneg (by omega),←Int.natCast_emod,←aV]
 have f8:Int.tdiv (aA:Int) (v1:Int)=(t0:Int):=by rw [Int.tdiv_eq_ediv_of_nonneg (by omega),←Int.natCast_ediv,←aR]
 have f9:IntKind.i64.wrap ((nv:Int) - 2)=(k:Int):=by rw [IntWalk.i64_in _ (by omega)];omega
 have cR:IntKind.i64.wrap ((jn:Int) - 2)=(aI:Int):=by rw [IntWalk.i64_in _ (by omega)];omega
 have bV:(nv:Int) - 1=(k1:Int):=by omega
 have z1:((v1:Int)==0)=false:=by rw [beq_eq_false_iff_ne];omega
 have cG:k1<2097152:=by omega
 have p1:(0:Int)≤(jn:Int):=by omega
 have p2:(jn:Int)<(mu:Int):=by omega
 have p3:(0:Int)≤(aJ:Int):=by omega
 have p4:(aJ:Int)<(mu:Int):=by omega
 have p5:(0:Int)≤(k1:Int):=by omega
 have p6:(k1:Int)<(nv:Int):=by omega
 have p7:(0:Int)≤(aI:Int):=by omega
 have p8:(aI:Int)<(mu:Int):=by omega
 have p9:(0:Int)≤(k:Int):=by omega
 have cS:(k:Int)<(nv:Int):=by omega
 have bS:=Lib.hid GE
 have cF:=Lib.hid GL
 have cP:=Lib.hid aO
 have HN:=Lib.hid hn
 have cL:=Lib.hid bV
 have HQ:=Lib.hid bP
 clear GE GL aO bO aM aP bN aC aK bK aR aV hn aS aG ha hb hc bT bH bI bR bJ aZ bW hj aT bV bP
 go_enter Tryz.func169,Tryz.ntmps169
 go_upto_region 2 with (fail)
 go_quiet (fail)
 go_upto_region 3 with (fail)
 go_quiet (fail)
 clear f2 f3 f4 f5 f6 f7 f8
 go_wp2
 go_loopg [9,10] t0 (fun q v9 bX W=>∃ t r:Nat,v9 = .int .i64 (t:Int)∧bX = .int .i64 (r:Int)∧t≤q∧t≤1000000002∧r<1000000000∧Hid (t*v1+r=aA∧Q≤t)∧∃ nq,W=w.drewN nq)
 case atStart=>exact ⟨t0,r0,rfl,rfl,Nat.le_refl _,bU,by omega,⟨cP.out,HQ.out⟩,by first | exact ⟨_,rfl⟩ | exact ⟨_,World.drewN_drewN _ _ _⟩⟩
 case round=>
  obtain ⟨t,r,rfl,rfl,hq,ht,hr,hv,nq,rfl⟩:=hrel
  obtain ⟨rB,bE⟩:∃ rB,rB=r*1000000000:=⟨_,rfl⟩
  obtain ⟨tp,aH⟩:∃ tp,tp=t*v2:=⟨_,rfl⟩
  have aF:tp≤1000000002*999999999:=by rw [aH];exact Nat.mul_le_mul ht (by omega)
  have cI:tp<2000000000000000000:=Nat.lt_of_le_of_lt aF (by decide)
  obtain ⟨rc,bB⟩:∃ rc,rc=rB+c:=⟨_,rfl⟩
  have cB:IntKind.i64.wrap ((r:Int)*1000000000)=(rB:Int):=by rw [IntWalk.i64_in _ (by omega)];omega
  have bY:IntKind.i64.wrap ((t:Int)*(v2:Int))=(tp:Int):=by
   have e:(t:Int)*(v2:Int)=(tp:Int):=by rw [aH];exact (Int.natCast_mul t v2).symm
   rw [e,IntWalk.i64_in _ (by omega)]
  have bZ:IntKind.i64.wrap ((rB:Int)+(c:Int))=(rc:Int):=by rw [IntWalk.i64_in _ (by omega)];omega
  have aW:=bS.out t r
  have aX:=cF.out t r
  have aG:B=1000000000:=rfl
  have aE:r*B+c=rc:=by rw [bB,bE];rfl
  rw [aE,←aH] at aW aX
  have HV:=hv.out
  have F9:=Lib.hid f9
  by_cases hex:t<1000000000∧tp≤rc
  ·obtain ⟨h1,h2⟩:=hex
   have d1:decide ((1000000000:Int)≤(t:Int))=false:=by simp;omega
   have d2:decide (rc<tp)=false:=by simp;omega
   have HR:=Lib.hid (aW (.inr ⟨h1,h2⟩) HV.1 HV.2)
   clear aW aX bE aH aF bB aG aE HV
   go_upto_region 4 with (fail)
   go_quiet (fail)
   go_wp2
   go_ret
   exact ⟨⟨t,rfl,HR.out⟩,by first | exact ⟨_,rfl⟩ | exact ⟨_,World.drewN_drewN _ _ _⟩⟩
  ·have aL:(decide ((1000000000:Int)≤(t:Int))=true)∨(decide ((1000000000:Int)≤(t:Int))=false∧decide (rc<tp)=true):=by
    simp only [decide_eq_true_eq,decide_eq_false_iff_not]
    omega
   obtain ⟨hQ,cA⟩:=aX (by rw [aG];omega) HV.1
   obtain ⟨t',rfl⟩:∃ t',t=t'+1:=⟨t - 1,by omega⟩
   obtain ⟨r',cC⟩:∃ r',r'=r+v1:=⟨_,rfl⟩
   have aN:t'*v1+r'=aA:=by
    have:=HV.1
    rw [Nat.add_mul,Nat.one_mul] at this
    omega
   have aQ:=bS.out t' r'
   have cH:=Lib.hid aQ
   have bA:Hid (t'*v1+r'=aA∧Q≤t'):=⟨aN,by omega⟩
   have et:((t'+1:Nat):Int) - 1=(t':Int):=by omega
   have er:(r:Int)+(v1:Int)=(r':Int):=by omega
   have cK:r'<2000000000:=by omega
   have bC:=cL.out
   have cO:=Lib.hid bC
   generalize bF:t'+1=t9 at *
   have bG:=Lib.hid bF
   clear aW aX bE aH aF bB aG aE HV aQ cC aN hex hQ cA bC hv bF
   rcases aL with d1 | ⟨d1,d2⟩
   all_goals
    go_upto_region 4 with (fail)
    go_quiet (fail)
    clear f1 f9 cR cB bY bZ
    have bC:=cO.out
    first | rw [World.drewN_drewN] | skip
    generalize hW:w.drewN _=W
    have c1:W.cell? (cN.add k1)=some (.int .i64 (v1:Int)):=by rw [←hW];exact aD
    have HW:Hid (∃ nq,W=w.drewN nq):=⟨_,hW.symm⟩
    clear hW
    by_cases hlast:1000000000≤r'
    ·have d3:decide ((1000000000:Int)≤(r':Int))=true:=by simp;omega
     have HR:=Lib.hid (cH.out (.inl hlast) bA.out.1 bA.out.2)
     go_wp2
     go_ret
     exact ⟨⟨t',rfl,HR.out⟩,HW.out⟩
    ·have d3:decide ((1000000000:Int)≤(r':Int))=false:=by simp;omega
     go_wp2
     go_roundg t'
     case measure=>have:=bG.out;omega
     case rel=>exact ⟨t',r',rfl,rfl,Nat.le_refl _,by have:=bG.out;omega,by omega,bA.out,HW.out⟩
def zhc (w:World) (x y:Nat) (e:Ending) (w':World):Prop:=
 ∃ A n c A' n' c',e = .returned (.tuple #[.slice A n c,.slice A' n' c'])∧DigI w' A n c (digs (x / y))∧DigI w' A' n' c' (digs (x % y))∧Below w.heap.size w w'
theorem DigI.zero (w:World):DigI w none 0 0 (digs 0):=⟨by rw [digs_zero];exact zat.none_,Nat.le_refl _,Nat.zero_le _,zap 0⟩
theorem DigI.one {w:World} {g d:Nat} (h:CBlk w g #[.int .i64 (d:Int)] 3) (hd:d<B):DigI w (some ⟨g,0,none⟩) 1 1 [d]:=
 ⟨⟨rfl,fun _=>⟨_,rfl,h.lt,fun j u hu=>by
  have hj:j=0:=by
   rcases j with _ | j
   ·rfl
   ·cases hu
  subst hj
  have h0:=h.cell 0
  rw [show ((⟨g,0,none⟩:Addr).add 0)=⟨g,0,none⟩ from rfl,h0]
  simpa [natv] using hu⟩⟩,Nat.le_refl _,by unfold maxLen;omega,Wf.cons hd Wf.nil⟩
theorem zbQ {d:Nat} (h0:0<d) (hd:d<B):digs d=[d]:=by rw [za7 h0,Nat.mod_eq_of_lt hd,Nat.div_eq_of_lt hd,digs_zero]
set_option maxHeartbeats 1000000 in
set_option maxRecDepth 100000 in
theorem zkx (A A':Option Addr) (n c n' c' x y:Nat) (w:World) (ha:DigI w A n c (digs x)) (hb:DigI w A' n' c' (digs y)) (hlt:x<y) (hn:n≤1048576) (hn':n'≤1048576) :
  Calls Tryz.prog 121 #[.slice A n c,.slice A' n' c'] w (zhc w x y):=by
 have hc:=zdf A A' n c n' c' x y w ha.rd hb.rd (by omega) (by omega)
 rw [Bn.ncmp_lt hlt] at hc
 have HC:=Lib.hid hc
 have HR:Hid (∀ w',Below w.heap.size w w'→zhc w x y (.returned (.tuple #[.slice none 0 0,.slice A n c])) w'):=fun w' hb=>⟨none,0,0,A,n,c,rfl,by rw [Nat.div_eq_of_lt hlt];exact DigI.zero _,by rw [Nat.mod_eq_of_lt hlt];exact ha.later hb,hb⟩
 clear hc
 go_enter Tryz.func121,Tryz.ntmps121
 go_wp2_with fail
 refine HC.out.mono ?_
 rintro e w1 ⟨rfl,aA⟩
 go_wp2
 go_ret2
 exact HR.out _ aA
set_option maxHeartbeats 1000000 in
set_option maxRecDepth 100000 in
theorem zmw (A A':Option Addr) (n c c' x y:Nat) (w:World) (ha:DigI w A n c (digs x)) (hb:DigI w A' 1 c' (digs y)) (hyx:y≤x) (hy:0<y) (hyB:y<B) (hn:n≤1048576) :
  Calls Tryz.prog 121 #[.slice A n c,.slice A' 1 c'] w (zhc w x y):=by
 have aO:∃ r:Int,0≤r∧Bn.ncmp x y=r:=⟨Bn.ncmp x y,by rcases Nat.lt_or_ge y x with h | h;(· rw [Bn.ncmp_gt h];decide);(· rw [show x=y from by omega,Bn.ncmp_eq];exact Int.le_refl 0),rfl⟩
 obtain ⟨r,aP,hr⟩:=aO
 have hc:=zdf A A' n c 1 c' x y w ha.rd hb.rd (by omega) (by omega)
 rw [hr] at hc
 have d0:decide (r<0)=false:=by simp;omega
 have HC:=Lib.hid hc
 have HA:=Lib.hid ha
 have HB:=Lib.hid hb
 clear hc hr ha hb
 go_enter Tryz.func121,Tryz.ntmps121
 go_wp2_with fail
 refine HC.out.mono ?_
 rintro e w1 ⟨rfl,aE⟩
 have aG:=HB.out.later aE
 rw [zbQ hy hyB] at aG
 obtain ⟨ad,aR,rfl,aQ,aA⟩:=aG.rd.cellM (k:=0) (by omega)
 replace aA:w1.cell? ad=some (.int .i64 (y:Int)):=aA
 have aF:=zd4 A n c y (digs x) w1 (HA.out.later aE) hy hyB hn
 rw [zal] at aF
 have HD:=Lib.hid aF
 clear aF aG
 go_wp2_with fail
 refine HD.out.mono ?_
 rintro e w2 ⟨A2,m2,c2,rfl,hq,aJ⟩
 obtain ⟨rm,aD⟩:∃ rm,rm=x % y:=⟨_,rfl⟩
 rw [←aD]
 have aH:rm<B:=by rw [aD];exact Nat.lt_trans (Nat.mod_lt _ hy) hyB
 have hk:=CBlk.new w2 #[.int .i64 (rm:Int)] 3 _ rfl
 have aK:Below w2.heap.size w2 (w2.alloc (.cells #[.int .i64 (rm:Int)] 3)):=(Below.refl _ _).alloc (Nat.le_refl _) _
 have ht:=zcJ _ 1 1 _ _ (DigI.one hk aH) (by omega)
 rw [zaS,aD] at ht
 have HT:=Lib.hid ht
 have aN:=Lib.hid aD
 clear ht aD
 go_wp2_with fail
 have hh:=aN.out
 subst hh
 refine HT.out.mono ?_
 rintro e w3 ⟨m3,rfl,aL,aM⟩
 have aC:=aK.trans (aM.mono aK.size)
 have aI:=aJ.trans (aC.mono aJ.size)
 go_wp2
 go_ret2
 exact ⟨_,_,_,_,_,_,rfl,hq.later aC,aL,aE.trans (aI.mono aE.size)⟩
theorem zle {x y n k F V X:Nat} (hx:(digs x).length=n) (hy:(digs y).length=k+2) (hyx:y≤x) (hFd:F=B / ((digs y).getD (k+1) 0+1)) (hVd:V=y*F) (hXd:X=x*F) :
  0<F∧F<B∧k+2≤n∧(digs V).length=k+2∧(∀ h:k+1<(digs V).length,B≤2*(digs V)[k+1]+1) ∧
  n≤(digs X).length∧(digs X).length≤n+1∧X<B ^ (n+1 - (k+2))*V∧0<V:=by
 subst hVd hXd
 have aC:0<y:=by
  rcases Nat.eq_zero_or_pos y with rfl | h
  ·rw [digs_zero] at hy;simp at hy
  ·exact h
 have h1:=zaC aC
 have h2:=zac y
 rw [hy] at h1 h2
 have e1:(digs y).getD (k+1) 0=y / B ^ (k+1):=by
  rw [zca,Nat.mod_eq_of_lt]
  exact Nat.div_lt_of_lt_mul (by rw [←Nat.pow_succ];exact h2)
 have hP:0<B ^ (k+1):=Nat.pow_pos zaL
 have aI:1≤y / B ^ (k+1):=(Nat.le_div_iff_mul_le hP).2 (by rw [Nat.one_mul];exact h1)
 have aH:y / B ^ (k+1)<B:=by rw [←e1];exact zaD (zap y) _
 have hF:F=B / (y / B ^ (k+1)+1):=by rw [←e1];exact hFd
 have aA:0<F:=by rw [hF];exact Nat.div_pos (by omega) (by omega)
 have aD:F<B:=by rw [hF];exact Nat.div_lt_self zaL (by omega)
 obtain ⟨s1,s2⟩:=zlD (n:=k+1) h2 h1 hF rfl
 have aF:0<y*F:=Nat.mul_pos aC aA
 have aG:(digs (y*F)).length=k+2:=by
  have h3:=digs_length_le s1
  have h4:=zaa (Nat.le_mul_of_pos_right y aA)
  omega
 have aE:0<x:=Nat.lt_of_lt_of_le aC hyx
 have h5:=zaC aE
 have h6:=zac x
 rw [hx] at h5 h6
 have hn:k+2≤n:=by rw [←hx,←hy];exact zaa hyx
 refine ⟨aA,aD,hn,aG,?_,?_,?_,?_,aF⟩
 ·intro h
  have e2:(digs (y*F))[k+1]=y*F / B ^ (k+1):=by
   have h7:=zca (k+1) (y*F)
   rw [Dn.getD_in h,Nat.mod_eq_of_lt] at h7
   ·exact h7
   ·exact Nat.div_lt_of_lt_mul (by rw [←Nat.pow_succ];exact s1)
  rw [e2]
  exact s2
 ·rw [←hx];exact zaa (Nat.le_mul_of_pos_right x aA)
 ·refine digs_length_le ?_
  rw [Nat.pow_succ]
  exact Nat.mul_lt_mul'' h6 aD
 ·rw [←Nat.mul_assoc]
  refine Nat.mul_lt_mul_of_pos_right ?_ aA
  have h7:B ^ (n+1 - (k+2))*B ^ (k+1)≤B ^ (n+1 - (k+2))*y:=Nat.mul_le_mul_left _ h1
  rw [←Nat.pow_add,show n+1 - (k+2)+(k+1)=n from by omega] at h7
  omega
def zdg (X V L k:Nat) (lu lq:List Nat):Prop:=Wf lu∧Wf lq∧lq.length=L∧X=V*val (lq.drop k)*B ^ k+val lu∧val (lu.drop k)<V
theorem zdg.start {X V L:Nat} {lu:List Nat} (hw:Wf lu) (hv:val lu=X) (_hV:0<V) (hX:X<B ^ L*V) (hL:L≤lu.length):zdg X V L L lu (List.replicate L 0):=by
 refine ⟨hw,Wf.replicate _,by simp,?_,?_⟩
 ·rw [List.drop_of_length_le (by simp),val_nil,Nat.mul_zero,Nat.zero_mul,Nat.zero_add,hv]
 ·have hs:=zaw lu L hL
  rw [hv] at hs
  have h1:B ^ L*val (lu.drop L)<B ^ L*V:=by omega
  exact Nat.lt_of_mul_lt_mul_left h1
theorem zdg.window {X V L j n:Nat} {lu lq:List Nat} (h:zdg X V L (j+1) lu lq) (hV:V<B ^ n) (hj:j+n<lu.length) :
  val (lu.drop (j+(n+1)))=0∧val (lu.drop j)<B*V∧val (lu.drop j)=val ((lu.drop j).take n)+B ^ n*lu.getD (j+n) 0:=by
 obtain ⟨hw,_,_,_,aA⟩:=h
 have hz:=ziQ lu j n V aA hV
 rw [List.drop_drop] at hz
 refine ⟨hz,?_,?_⟩
 ·have hd:lu.drop j=lu[j] :: lu.drop (j+1):=List.drop_eq_getElem_cons (by omega)
  rw [hd,val_cons]
  have h1:=hw.get (i:=j) (by omega)
  have h2:B*(val (lu.drop (j+1))+1)≤B*V:=Nat.mul_le_mul_left B aA
  rw [Nat.mul_add,Nat.mul_one] at h2
  omega
 ·have hs:=zaw (lu.drop j) (n+1) (by rw [List.length_drop];omega)
  rw [List.drop_drop,hz,Nat.mul_zero,Nat.add_zero,zae] at hs
  rw [hs]
  congr 2
  simp [List.getD,List.getElem?_drop]
theorem zdg.next {X V L j n t:Nat} {lu lq ws:List Nat} (h:zdg X V L (j+1) lu lq) (hn:ws.length=n) (hj:j+n<lu.length) (hV:V<B ^ n) (hV0:0<V) (hw:Wf ws) (hjL:j<L)
  (ht:t=val (lu.drop j) / V) (hr:val ws=val (lu.drop j) % V) (htB:t<B):zdg X V L j (mid lu j (ws++[0])) (lq.set j t):=by
 obtain ⟨hz,_,_⟩:=h.window hV hj
 obtain ⟨aC,aA,hl,hX,aD⟩:=h
 obtain ⟨m1,m2⟩:=znp lu ws j n hn hj hz
 refine ⟨zou aC (hw.append (Wf.cons zaL Wf.nil)),aA.set _ htB,by rw [List.length_set];exact hl,?_,?_⟩
 ·rw [m2,hr,zeF _ _ _ (by omega),ht]
  refine zkb (lo:=val (lu.take j)) ?_
  rw [Nat.pow_succ] at hX
  rw [hX,zaw lu j (by omega)]
 ·rw [m1,hr]
  exact Nat.mod_lt _ hV0
theorem zdg.done {x y F L:Nat} {lu lq:List Nat} (h:zdg (x*F) (y*F) L 0 lu lq) (hy:0<y) (hF:0<F):val lq=x / y∧val lu=x % y*F:=by
 obtain ⟨_,_,_,hX,aA⟩:=h
 simp only [List.drop_zero,Nat.pow_zero,Nat.mul_one] at hX aA
 exact znw hy hF hX aA
end Go.Proofs.YteajibbphcfmeaaGreatDoor
namespace Go.Proofs.YteajibbphcfmeaaGreatDoor
open Go.RowKit
open Flt
end Go.Proofs.YteajibbphcfmeaaGreatDoor
namespace Go.Proofs.YteajibbphcfmeaaGreatDoor
open Go.RowKit
def Grow {α:Type} (f : α→Value) (tS tE:TypeId) (W:World) (B:Nat) (v:Value) (n:Nat) (rows:List (List α)):Prop:=
 rows.length=n∧∃ vs:List Value,W.ownsRow B tS 1 v n vs∧∀ i (h:i<rows.length),∃ u,vs[i]? = some u∧W.ownsRow B tE 1 u rows[i].length (rows[i].map f)
section
variable {α:Type} {f : α→Value} {tS tE:TypeId} {W W':World} {B n:Nat} {v:Value} {rows:List (List α)}
theorem Grow.nil:Grow f tS tE W B (.slice none 0 0) 0 ([]:List (List α)):=
 ⟨rfl,[],⟨rfl,.inl ⟨rfl,rfl⟩⟩,fun i hi=>absurd hi (by simp)⟩
theorem zir {w w':World} {base size n:Nat} {e:TypeId} {v:Value} {xs:List Value} (h:w.ownsRow base e size v n xs) (hb:Below w.heap.size w w'):w'.ownsRow base e size v n xs:=
 h.kept (zc5 hb none) (by cases v.ownBlock<;>simp)
theorem Grow.below (h:Grow f tS tE W B v n rows) (hb:Below W.heap.size W W'):Grow f tS tE W' B v n rows:=by
 obtain ⟨hl,vs,ho,hv⟩:=h
 exact ⟨hl,vs,zir ho hb,fun i hi=>by
  obtain ⟨u,h1,h2⟩:=hv i hi
  exact ⟨u,h1,zir h2 hb⟩⟩
theorem zg0 {w:World} {b1 b2 s1 s2 n1 n2:Nat} {e1 e2:TypeId} {v1 v2:Value} {x1 x2:List Value} (h1:w.ownsRow b1 e1 s1 v1 n1 x1) (h2:w.ownsRow b2 e2 s2 v2 n2 x2) (hne:e1≠e2):v1.ownBlock=none∨v1.ownBlock≠v2.ownBlock:=by
 rcases h1.2 with ⟨rfl,_⟩ | ⟨g,aG,aE,rfl,hb,hg,_⟩
 ·exact .inl rfl
 ·right
  rcases h2.2 with ⟨rfl,_⟩ | ⟨g',aD,aC,rfl,aF,aA,_⟩
  ·simp [Value.ownBlock]
  ·intro e
   have e':g=g':=by simpa [Value.ownBlock] using e
   subst e'
   rw [hg] at aA
   injection aA with aA
   injection aA with _ h3
   exact hne h3
theorem Grow.snoc {v' u:Value} {r:List α} {vs:List Value} (h:rows.length=n) (hown:W.ownsRow B tS 1 v n vs) (hin:∀ i (h:i<rows.length),∃ u,vs[i]? = some u∧W.ownsRow B tE 1 u rows[i].length (rows[i].map f))
  (hu:W.ownsRow B tE 1 u r.length (r.map f)) (ht:tE≠tS) (hg:W.grownBy W' v.ownBlock) (ho':W'.ownsRow B tS 1 v' (n+1) (vs++[u])):Grow f tS tE W' B v' (n+1) (rows++[r]):=by
 refine ⟨by rw [List.length_append,h];rfl,_,ho',fun i hi => ?_⟩
 have aA:vs.length=n:=by have:=hown.1;omega
 by_cases hlt:i<rows.length
 ·obtain ⟨u',h1,h2⟩:=hin i hlt
  rw [List.getElem_append_left hlt,List.getElem?_append_left (by omega)]
  exact ⟨u',h1,h2.kept hg (zg0 h2 hown ht)⟩
 ·have e:i=rows.length:=by rw [List.length_append] at hi;simp at hi;omega
  subst e
  rw [List.getElem_append_right (Nat.le_refl _),List.getElem?_append_right (by omega)]
  simp only [h,aA,Nat.sub_self,List.getElem_singleton]
  exact ⟨u,rfl,hu.kept hg (zg0 hu hown ht)⟩
end
theorem zj1 (w:World) (B:Nat) (e:TypeId) (hB:B≤w.heap.size):(w.alloc (.cells #[] e)).ownsRow B e 1 (.slice (some ⟨w.heap.size,0,none⟩) 0 0) 0 []:=
 zhn (heap_alloc_new w _) hB (Nat.zero_le _) rfl
end Go.Proofs.YteajibbphcfmeaaGreatDoor
