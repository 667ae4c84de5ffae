/- Contract of the reference's long division: divDigits by two digits or more. -/
import Derived.Test.YteajibbphcfmeaaGreatDoorTRkd3
import Derived.Test.YteajibbphcfmeaaGreatDoorTAlg
import Derived.Test.YteajibbphcfmeaaGreatDoorTDw2
import Derived.Deep.RegionHeld3
namespace Go.Proofs.YteajibbphcfmeaaGreatDoor
open Go.RowKit Dn
theorem RowI.store {w:World} {base g g' n c:Nat} {l:List Nat} (h:RowI w base g n c l) (hne:g'≠g) (i:Nat) (u:Value):RowI (w.setCell ⟨g',i,none⟩ u) base g n c l:=
 h.kept (only_setCell (World.grownBy.refl w _) (.inl rfl) u) (fun e=>by injection e with e;exact hne e)
theorem own_mid {w:World} {base g n c j i:Nat} {L ws:List Value} (h:w.ownsRow base 3 1 (.slice (some ⟨g,0,none⟩) n c) n (mid L j ws)) (hi:ws.length=i) (hj:j+i<L.length) :
  w.cell? ⟨g,i+j,none⟩=L[j+i]? ∧ ∀ u:Value,(w.setCell ⟨g,i+j,none⟩ u).ownsRow base 3 1 (.slice (some ⟨g,0,none⟩) n c) n (mid L j (ws++[u])):=by
 subst hi
 have hl:=h.1
 rw [mid_len _ _ _ (by omega)] at hl
 constructor
 ·rw [World.ownsRow.cellAt h (ws.length+j) (by omega),Nat.add_comm ws.length j,mid_get _ _ _ (by omega)]
 ·intro u
  have h1:=(World.ownsRow.stored h (ws.length+j) u).1
  rw [show ws.length+j=j+ws.length from Nat.add_comm _ _,mid_set _ _ _ _ hj] at h1
  rw [show ws.length+j=j+ws.length from Nat.add_comm _ _]
  exact h1
theorem own_mid' {w:World} {base g n c j i:Nat} {L ws:List Value} (h:w.ownsRow base 3 1 (.slice (some ⟨g,0,none⟩) n c) n (mid L j ws)) (hi:ws.length=i) (hj:j+i<L.length) :
  w.cell? ⟨g,j+i,none⟩=L[j+i]? ∧ ∀ u:Value,(w.setCell ⟨g,j+i,none⟩ u).ownsRow base 3 1 (.slice (some ⟨g,0,none⟩) n c) n (mid L j (ws++[u])):=by
 have h1:=own_mid h hi hj
 rwa [Nat.add_comm i j] at h1
set_option maxHeartbeats 8000000 in
set_option maxRecDepth 100000 in
theorem rdiv_long (A A':Option Addr) (n c n' c' x y k:Nat) (w:World) (ha:DigI w A n c (digs x)) (hb:DigI w A' n' c' (digs y)) (hk:n'=k+2) (hyx:y≤x) (hn:n≤1048576) :
  Calls Tryz.prog 121 #[.slice A n c,.slice A' n' c'] w (RetDiv w x y):=by
 obtain ⟨i0,hi0,hz0,hz1,hz2⟩:=info_parts info_int
 have hlx:(digs x).length=n:=ha.len
 have hly:(digs y).length=k+2:=by rw [hb.len];exact hk
 obtain ⟨F,hF⟩:∃ F,F=B / ((digs y).getD (k+1) 0+1):=⟨_,rfl⟩
 obtain ⟨V,hV⟩:∃ V,V=y*F:=⟨_,rfl⟩
 obtain ⟨X,hX⟩:∃ X,X=x*F:=⟨_,rfl⟩
 obtain ⟨hF0,hFB,hkn,hVl,hVbig,hXl1,hXl2,hXlt,hV0⟩:=scaled_ok hlx hly hyx hF hV hX
 have hn':n'≤1048576:=by omega
 have hn'2:2≤n':=by omega
 have hc0:∃ r:Int,0≤r∧Bn.ncmp x y=r:=⟨Bn.ncmp x y,by rcases Nat.lt_or_ge y x with h | h;(· rw [Bn.ncmp_gt h];decide);(· rw [show x=y from by omega,Bn.ncmp_eq];exact Int.le_refl 0),rfl⟩
 obtain ⟨r,hr0,hr⟩:=hc0
 have hc:=rcompare_any A A' n c n' c' x y w ha.rd hb.rd (by omega) (by omega)
 rw [hr] at hc
 have d0:decide (r<0)=false:=by simp;omega
 have d1:((n':Int)==1)=false:=by rw [beq_eq_false_iff_ne];omega
 have HC:=Lib.hid hc
 obtain ⟨k1,hk1⟩:∃ k1,k1=k+1:=⟨_,rfl⟩
 have e1:(n':Int) - 1=(k1:Int):=by omega
 have hFB':F<1000000000:=hFB
 have HA:=Lib.hid ha
 have HB:=Lib.hid hb
 have HVL:=Lib.hid hVl
 have HVB:=Lib.hid hVbig
 have HXL:=Lib.hid (And.intro hXl1 hXl2)
 have HXT:=Lib.hid hXlt
 have HV0:=Lib.hid hV0
 have HVd:=Lib.hid hV
 have HXd:=Lib.hid hX
 have HK:=Lib.hid hk
 have HK1:=Lib.hid hk1
 have HF0:=Lib.hid hF0
 have HFd:=Lib.hid hF
 have HLY:=Lib.hid hly
 have hn2:2≤n:=by omega
 have hy0:0<y:=by
  rcases Nat.eq_zero_or_pos y with h0 | h0
  ·rw [h0,Nat.zero_mul] at hV;omega
  ·exact h0
 have HY0:=Lib.hid hy0
 have HKN:=Lib.hid hkn
 clear hc hr hVl hVbig hXl1 hXl2 hXlt hV0 hV hX hk hk1 hF0 hF hlx hly hyx ha hb hy0 hkn hFB
 go_enter Tryz.func121,Tryz.ntmps121
 go_wp2_with fail
 refine HC.out.mono ?_
 rintro e w1 ⟨rfl,hb1⟩
 have hbw:=HB.out.later hb1
 have haw:=HA.out.later hb1
 obtain ⟨adb,hkl,rfl,hbb,hcb⟩:=hbw.rd.cellM (k:=k1) (by have:=HK.out;have:=HK1.out;omega)
 have hb1B:=wf_digs y _ (List.getElem_mem hkl)
 have hgb:(digs y).getD (k+1) 0=(digs y)[k1]:=by
  have:=HK1.out
  subst this
  exact Dn.getD_in hkl
 unfold natv at hcb
 obtain ⟨b1,hb1v⟩:∃ b1,(digs y)[k1]=b1:=⟨_,rfl⟩
 rw [hb1v] at hcb hgb hb1B
 have eF:(1000000000:Int) / ((b1:Int)+1)=(F:Int):=by
  rw [HFd.out,hgb]
  show _=((1000000000 / (b1+1):Nat):Int)
  rw [Int.natCast_ediv]
  simp
 have hb1B':b1<1000000000:=hb1B
 have dz:(((b1:Int)+1)==0)=false:=by rw [beq_eq_false_iff_ne];omega
 have HBW:=Lib.hid hbw
 have HAW:=Lib.hid haw
 have hal:Below w1.heap.size w1 (w1.alloc (.cells #[.int .i64 (F:Int)] 3)):=(Below.refl _ _).alloc (Nat.le_refl _) _
 have hfk:=CBlk.new w1 #[.int .i64 (F:Int)] 3 _ rfl
 have hfd:DigI (w1.alloc (.cells #[.int .i64 (F:Int)] 3)) (some ⟨w1.heap.size,0,none⟩) 1 1 (digs F):=by rw [digs_single HF0.out hFB'];exact DigI.one hfk hFB'
 have HM1:=Lib.hid (rmulDigits_any (some adb) _ n' c' 1 1 y F _ (hbw.later hal) hfd (by omega) (by omega))
 rw [←HVd.out] at HM1
 clear hb1v hgb hb1B hbw haw
 go_wp2_with fail
 refine HM1.out.mono ?_
 rintro e w2 ⟨Av,nv,cv,rfl,hv,hb2⟩
 have hf2:=hfd.later hb2
 have hbw2:=hb1.trans ((hal.trans (hb2.mono hal.size)).mono hb1.size)
 have ha2:=HA.out.later hbw2
 have HNV:Hid (nv=n'):=by
  show nv=n'
  rw [←hv.len,HVL.out,HK.out]
 have hnvb:nv≤1048576:=by rw [HNV.out];exact hn'
 have hf0:w2.cell? ⟨w1.heap.size,0,none⟩=some (.int .i64 (F:Int)):=(hfk.below hb2 (by simp)).cell 0
 have hfl:w1.heap.size<w2.heap.size:=by have:=hb2.size;simp at this;omega
 clear hfd hfk HM1 hal hcb eF dz
 have hal3:Below w2.heap.size w2 (w2.alloc (.cells #[] 3)):=(Below.refl _ _).alloc (Nat.le_refl _) _
 have hne3:=own_empty w2 w2.heap.size 3 (Nat.le_refl _)
 have HM2:=Lib.hid (rmulDigits_any A _ n c 1 1 x F _ (ha2.later hal3) (hf2.later hal3) (by omega) (by omega))
 rw [←HXd.out] at HM2
 go_wp2_with fail
 refine HM2.out.mono ?_
 rintro e w4 ⟨Ax,nx,cx,rfl,hx4,hb4⟩
 have hown4:=own_belwD hne3 hb4
 have hbel4:=hal3.trans (hb4.mono hal3.size)
 have hnx:=hx4.len
 have hnx1:n≤nx:=by rw [←hnx];exact HXL.out.1
 have hnx2:nx≤n+1:=by rw [←hnx];exact HXL.out.2
 obtain ⟨ax,rfl,_⟩:=hx4.rd.2 (by omega)
 have HX4:=Lib.hid hx4
 have HNX:=Lib.hid hnx
 have hsz4:=hbel4.size
 clear hnx hx4 hne3 hal3 HM2 hf2 ha2
 go_wp2_with (at_builtin;refine wpList_append_own _ rfl _ _ 45 rfl w2.heap.size 3 i0 (.int .i64 0) 1 8 Tryz.underlying45 hi0 hz0 hz1 hz2 rfl (by decide) _ _ _ rfl hown4 ax nx cx ((digs X).map natv) rfl ?c0 ?c1 ?c2 ?c3 ?c4 ?c5 ?_)
 case c0=>rw [List.length_map,HNX.out,Nat.mul_one]
 case c1=>exact Reads.cellsD HX4.out.rd
 case c2=>exact natv_one _
 case c3=>unfold maxLen;omega
 case c4=>omega
 case c5=>exact hsz4
 intro v5 w5 hown5 hgrow5 _
 obtain ⟨gu,cu,rfl,hgu⟩:=own_some hown5 (by omega)
 have hbel5:Below w2.heap.size w2 w5:=hbel4.grown hgrow5 hsz4 (fun g hg=>(World.ownsRow.lt hown4 g hg).1)
 clear hgrow5 hown4 hbel4 hb4 hsz4
 obtain ⟨M,hM⟩:∃ M,M=n+1:=⟨_,rfl⟩
 have eM:(n:Int)+1=(M:Int):=by omega
 have hMb:M≤1048577:=by omega
 have HM:=Lib.hid hM
 have hMX:nx≤M:=by omega
 clear hM hnx2
 go_wp2
 go_loopg [11] M (fun q v11 W=>∃ (m g cg:Nat) (ls:List Nat),v11 = .slice (some ⟨g,0,none⟩) m cg∧n≤m∧m≤M∧M - m≤q∧RowI W w2.heap.size g m cg ls∧Hid (Wf ls∧val ls=X)∧Below w2.heap.size w2 W)
 case atStart=>exact ⟨nx,gu,cu,digs X,rfl,hnx1,hMX,by omega,hown5,⟨wf_digs X,val_digs X⟩,hbel5⟩
 case round=>
  clear hbel5 hown5 hgu
  obtain ⟨m,g,cg,ls,rfl,hm1,hm2,hq,hrow,hls,hbel⟩:=hrel
  have hsz:=hbel.size
  by_cases hm:m<M
  ·have hlt:decide (m<M)=true:=by simp;omega
   go_wp2_with (at_builtin;refine wpList_append_own _ rfl _ _ 45 rfl w2.heap.size 3 i0 (.int .i64 0) 1 8 Tryz.underlying45 hi0 hz0 hz1 hz2 rfl (by decide) _ _ _ rfl (hrow.alloc _) ⟨wr.heap.size,0,none⟩ 1 1 [.int .i64 0] rfl rfl ?c1 ?c2 ?c3 ?c4 ?c5 ?_)
   case c1=>exact cell_one_new _ _ _
   case c2=>intro u hu;simp at hu;subst hu;rfl
   case c3=>unfold maxLen;omega
   case c4=>omega
   case c5=>simp;omega
   intro v' w6 hown' hgrow _
   obtain ⟨g',c9,rfl,hg'⟩:=own_some hown' (by omega)
   have hb6:Below w2.heap.size w2 w6:=(hbel.alloc hsz _).grown hgrow (by simp;omega) (fun g hg=>(World.ownsRow.lt hrow g hg).1)
   clear hgrow
   go_wp2
   go_roundg (M - (m+1))
   case measure=>omega
   case rel=>exact ⟨m+1,g',c9,ls++[0],rfl,by omega,by omega,Nat.le_refl _,by unfold RowI;rw [List.map_append];exact hown',⟨hls.out.1.append (Wf.cons B_pos Wf.nil),by rw [val_append,hls.out.2];simp⟩,hb6⟩
  ·obtain rfl:m=M:=by omega
   have hlt:decide (m<m)=false:=by simp
   obtain ⟨L,hL⟩:∃ L,L=m - nv:=⟨_,rfl⟩
   have hkn:=HKN.out
   have hkk:=HK.out
   have hMM:=HM.out
   have hnvv:=HNV.out
   have eL:(m:Int) - (nv:Int)=(L:Int):=by omega
   have hL1:1≤L:=by omega
   have hL2:L≤n:=by omega
   have HL:=Lib.hid hL
   have hnv2:2≤nv:=by omega
   have hnvn:nv≤n:=by omega
   clear hL hkn hkk hnvv hMM
   go_wp2_with (at_make;refine wpList_make_full _ rfl _ _ 45 rfl w2.heap.size 3 i0 (.int .i64 0) 1 Tryz.underlying45 hi0 hz0 hz1 _ _ _ _ L rfl rfl (by omega) (by omega) ?b2 ?b3 hsz ?_)
   case b2=>rw [hz2];omega
   case b3=>unfold maxLen;omega
   intro w6 hown6 hgrow6
   have hrowq:=RowI.made hown6
   have hrowu:=hrow.kept hgrow6 (by simp)
   have hbel6:Below w2.heap.size w2 w6:=hbel.grown hgrow6 hsz (fun k h=>by cases h)
   have hne:g≠wr.heap.size:=by have:=hrow.lt.2;omega
   clear hown6 hgrow6
   generalize hgq:wr.heap.size=gq at *
   have hinv0:=DivInv.start (L:=L) hls.out.1 hls.out.2 HV0.out (by have:=HXT.out;rw [HL.out,HNV.out,HK.out,HM.out];exact this) (by rw [hrow.len];have:=HL.out;omega)
   have HI0:=Lib.hid hinv0
   clear hinv0 hbel hrow hls hgq
   go_wp2
   go_loopg [13] L (fun q v13 W=>∃ (kk:Nat) (lu lq:List Nat),kk≤L∧v13 = .int .i64 ((kk:Int) - 1)∧kk≤q∧RowI W w2.heap.size g m cg lu∧RowI W w2.heap.size gq L L lq∧Hid (DivInv X V L kk lu lq)∧Below w2.heap.size w2 W)
   case atStart=>exact ⟨L,ls,_,Nat.le_refl _,by first | rfl | go_num,Nat.le_refl _,hrowu,hrowq,HI0.out,hbel6⟩
   case round=>
    clear hbel6 hrowu hrowq HI0
    obtain ⟨kk,lu,lq,hkk,rfl,hq,hrowu,hrowq,hinv,hbel⟩:=hrel
    by_cases h0:0<kk
    ·obtain ⟨j,rfl⟩:∃ j:Nat,kk=j+1:=⟨kk - 1,by omega⟩
     have ej:((j+1:Nat):Int) - 1=(j:Int):=by omega
     rw [ej]
     have hVn:V<B ^ (k+2):=by have:=lt_of_digs_length V;rwa [HVL.out] at this
     have hjl:j+(k+2)<lu.length:=by have:=HL.out;have:=HNV.out;have:=HK.out;rw [hrowu.len];omega
     obtain ⟨hw1,hw2,hw3⟩:=hinv.out.window hVn hjl
     have hvr:=hv.later hbel
     have hg:=rguess_any (some ⟨g,0,none⟩) Av m cg nv cv j k lu (digs V) wr hrowu.reads hvr.rd hinv.out.1 (wf_digs V) (by rw [HNV.out,HK.out]) (by rw [←hrowu.len];exact hjl) (by omega) HVB.out hw1 (by rw [val_digs];exact hw2)
     rw [val_digs] at hg
     have HG:=Lib.hid hg
     have HW3:=Lib.hid hw3
     have HVN:=Lib.hid hVn
     have HJL:=Lib.hid hjl
     have hjn:j+nv<m:=by have:=HNV.out;have:=HK.out;have:=hrowu.len;omega
     clear hg hw1 hw2 hw3 hVn hjl hvr ej
     go_wp2_with fail
     refine HG.out.mono ?_
     rintro e w7 ⟨⟨t,rfl,htB,htd⟩,qd,rfl⟩
     have hrowu7:=hrowu.drewN qd
     have hrowq7:=hrowq.drewN qd
     have hbel7:=below_drewN hbel qd
     have HTD:=Lib.hid htd
     have htB':t<1000000000:=htB
     clear hrowu hrowq hbel htd HG
     generalize wr.drewN qd=w7 at *
     go_wp2
     go_loopg [15,16] nv (fun q vb vi W=>∃ (ii bb:Nat) (ws:List Nat),ii≤nv∧vi = .int .i64 (ii:Int)∧vb = .int .i64 (bb:Int)∧bb≤1000000000∧nv - ii≤q ∧
      W.ownsRow w2.heap.size 3 1 (.slice (some ⟨g,0,none⟩) m cg) m (mid (lu.map natv) j (ws.map natv))∧RowI W w2.heap.size gq L L lq ∧
      Hid (Wf ws∧ws.length=ii∧val ws+t*val ((digs V).take ii)=val ((lu.drop j).take ii)+B ^ ii*bb)∧Below w2.heap.size w2 W)
     case atStart=>exact ⟨0,0,[],by omega,rfl,rfl,by omega,by omega,by rw [List.map_nil,mid_nil];exact hrowu7,hrowq7,⟨Wf.nil,rfl,by simp⟩,hbel7⟩
     case round=>
      clear hbel7 hrowq7
      obtain ⟨ii,bb,ws,hii,rfl,rfl,hbb9,hq3,hown,hrowq,hws,hbel⟩:=hrel
      obtain ⟨hwsw,hwsl,hwsv⟩:=hws.out
      have hlu:lu.length=m:=hrowu7.len
      have hlm:(lu.map natv).length=m:=by rw [List.length_map];exact hlu
      have hwl:(ws.map natv).length=ii:=by rw [List.length_map];exact hwsl
      by_cases hin:ii<nv
      ·obtain ⟨adv,hvl,rfl,hvb,hcv⟩:=(hv.later hbel).rd.cellM (k:=ii) hin
       have hvB:=wf_digs V _ (List.getElem_mem hvl)
       unfold natv at hcv
       obtain ⟨vk,hvk⟩:∃ vk,(digs V)[ii]=vk:=⟨_,rfl⟩
       rw [hvk] at hcv hvB
       obtain ⟨hc1,hst⟩:=own_mid hown hwl (by rw [hlm];omega)
       have hul:j+ii<lu.length:=by omega
       obtain ⟨uk,huk⟩:∃ uk,lu[j+ii]=uk:=⟨_,rfl⟩
       have huB:=hinv.out.1.get hul
       rw [huk] at huB
       have hcu:wr.cell? ⟨g,ii+j,none⟩=some (.int .i64 (uk:Int)):=by
        rw [hc1,List.getElem?_map,List.getElem?_eq_getElem hul,huk]
        rfl
       have hfs:=own_free hown (ii+j)
       have hvB':vk<1000000000:=hvB
       have huB':uk<1000000000:=huB
       obtain ⟨pv,hpv⟩:∃ pv,pv=t*vk:=⟨_,rfl⟩
       have hpvB:pv≤999999999000000000:=by
        rw [hpv];exact Nat.le_trans (Nat.mul_le_mul (show t≤999999999 by omega) (show vk≤1000000000 by omega)) (by decide)
       have em:(t:Int)*(vk:Int)=(pv:Int):=by rw [hpv];exact (Int.natCast_mul t vk).symm
       obtain ⟨pp,hpp⟩:∃ pp,pp=pv+bb:=⟨_,rfl⟩
       have ep:(pv:Int)+(bb:Int)=(pp:Int):=by omega
       obtain ⟨pm,hpm⟩:∃ pm,pm=pp % B:=⟨_,rfl⟩
       obtain ⟨pd,hpd⟩:∃ pd,pd=pp / B:=⟨_,rfl⟩
       have hpp2:pp≤999999999000000000+1000000000:=by omega
       have hpmB:pm<1000000000:=by rw [hpm];exact Nat.mod_lt _ B_pos
       have hpdB:pd≤999999999+1:=by rw [hpd];unfold B;omega
       have hpd9:pd≤999999999:=by
        have h1:pv≤999999999*999999999:=by rw [hpv];exact Nat.mul_le_mul (by omega) (by omega)
        rw [hpd];unfold B;omega
       have es:(pp:Int) % 1000000000=(pm:Int):=by rw [hpm];unfold B;omega
       have ed:(pp:Int) / 1000000000=(pd:Int):=by rw [hpd];unfold B;omega
       obtain ⟨m1,m2⟩:=ms_digit (p:=pp) huB
       rw [←hpm,←hpd] at m1 m2
       have hdl:ii<(lu.drop j).length:=by rw [List.length_drop];omega
       have hsn:=fun (d b':Nat)=>ms_snoc ws (digs V) (lu.drop j) ii t d bb b' hwsl hvl hdl hwsv
       simp only [List.getElem_drop,hvk,huk] at hsn
       rw [←hpv] at hsn
       have HSN:=Lib.hid hsn
       have HST:=Lib.hid hst
       have HWS:=Lib.hid (And.intro hwsw hwsl)
       have hglt:=(own_lt hown).1
       have hpe:pv+bb=pp:=hpp.symm
       have HPE:=Lib.hid hpe
       by_cases hneg:uk<pm
       case' pos=>obtain ⟨h1,h2⟩:=m2 hneg
       case' neg=>obtain ⟨h1,h2⟩:=m1 (by omega)
       case' pos=>obtain ⟨dd,hdd⟩:∃ dd,dd=uk+B - pm:=⟨_,rfl⟩
       case' neg=>obtain ⟨dd,hdd⟩:∃ dd,dd=uk - pm:=⟨_,rfl⟩
       case' pos=>obtain ⟨b2,hb2'⟩:∃ b2,b2=pd+1:=⟨_,rfl⟩
       case' neg=>obtain ⟨b2,hb2'⟩:∃ b2,b2=pd:=⟨_,rfl⟩
       case' pos=>obtain ⟨z,hz⟩:∃ z:Int,z=(uk:Int) - (pm:Int):=⟨_,rfl⟩
       case' neg=>obtain ⟨z,hz⟩:∃ z:Int,z=(dd:Int):=⟨_,rfl⟩
       case' pos=>have hz':(uk:Int) - (pm:Int)=z:=hz.symm
       case' neg=>have hz':(uk:Int) - (pm:Int)=z:=by omega
       case' pos=>have dz:decide (z<0)=true:=by simp;omega
       case' neg=>have dz:decide (z<0)=false:=by simp;omega
       case' pos=>have ez:z+1000000000=(dd:Int):=by rw [hz,hdd];unfold B;omega
       case' pos=>have eb:(pd:Int)+1=(b2:Int):=by omega
       case' neg=>subst hz
       all_goals
        rw [←hdd] at h1 h2
        have hinv3:=HSN.out dd b2 (by rw [HPE.out,hb2'];exact h2)
        have HI3:Hid (Wf (ws++[dd])∧(ws++[dd]).length=ii+1∧val (ws++[dd])+t*val ((digs V).take (ii+1))=val ((lu.drop j).take (ii+1))+B ^ (ii+1)*b2):=
         ⟨HWS.out.1.append (Wf.cons h1 Wf.nil),by rw [List.length_append,HWS.out.2];rfl,hinv3⟩
        have HR3:=Lib.hid (HST.out (.int .i64 (dd:Int)))
        have HB2:=Lib.hid hb2'
        have hb2B:b2≤1000000000:=by omega
        clear h1 h2 hinv3 hsn hst m1 m2 hdd hb2' hpp hpm hpd hpv hvk huk hc1 hws hwsv hwsl hwsw hlm hwl hlu hpe
        first | clear hz | skip
        go_wp2
        go_roundg (nv - (ii+1))
        case measure=>omega
        case rel=>exact ⟨ii+1,b2,ws++[dd],by omega,by go_num,by first | rfl | rw [HB2.out],hb2B,Nat.le_refl _,by rw [List.map_append];exact HR3.out,hrowq.store hne _ _,HI3.out,hbel.setCell hglt _⟩
      ·obtain rfl:ii=nv:=by omega
       have hnvk:ii=k+2:=by rw [HNV.out,HK.out]
       have hjl:=HJL.out
       have hul:j+ii<lu.length:=by omega
       obtain ⟨ut,hut⟩:∃ ut,lu[j+ii]=ut:=⟨_,rfl⟩
       have hutB:=hinv.out.1.get hul
       rw [hut] at hutB
       have hutB':ut<1000000000:=hutB
       have hgd:lu.getD (j+(k+2)) 0=ut:=by
        rw [←hnvk,Dn.getD_in hul,hut]
       have hw3:=HW3.out
       rw [hgd] at hw3
       have htk:(digs V).take ii=digs V:=List.take_of_length_le (by rw [HVL.out];omega)
       rw [htk,val_digs,hnvk] at hwsv
       have hWB:val ws<B ^ (k+2):=by have:=val_lt hwsw;rw [hwsl,hnvk] at this;exact this
       obtain ⟨msA,msB⟩:=ms_done hwsv hWB HVN.out HV0.out (by rw [←hw3];exact HTD.out)
       rw [←hw3] at msA msB
       obtain ⟨hc1,hst⟩:=own_mid' hown hwl (by rw [hlm];omega)
       have hcu:wr.cell? ⟨g,j+ii,none⟩=some (.int .i64 (ut:Int)):=by
        rw [hc1,List.getElem?_map,List.getElem?_eq_getElem hul,hut]
        rfl
       have hfs:=own_free hown (j+ii)
       have hglt:=(own_lt hown).1
       obtain ⟨z0,hz0'⟩:∃ z0:Int,z0=(ut:Int) - (bb:Int):=⟨_,rfl⟩
       have ez:(ut:Int) - (bb:Int)=z0:=hz0'.symm
       have hrow2:=hst (.int .i64 z0)
       have hcu2:(wr.setCell ⟨g,j+ii,none⟩ (.int .i64 z0)).cell? ⟨g,j+ii,none⟩=some (.int .i64 z0):=by
        have h9:=World.ownsRow.cellAt hrow2 (j+ii) (by omega)
        rw [h9,mid_inner _ _ _ _ (by rw [hlm];omega) (by simp [hwsl]),List.getElem?_append_right (by rw [hwl];exact Nat.le_refl _),hwl,Nat.sub_self]
        rfl
       have hrq2:=hrowq.store hne (j+ii) (.int .i64 z0)
       have hbl2:=hbel.setCell (p:=⟨g,j+ii,none⟩) hglt (.int .i64 z0)
       have HROW2:=Lib.hid hrow2
       have HRQ2:=Lib.hid hrq2
       have HBL2:=Lib.hid hbl2
       have HWSW:=Lib.hid (And.intro hwsw hwsl)
       have HNK:=Lib.hid hnvk
       have HZ0:=Lib.hid hz0'
       by_cases hcase:bb≤ut
       ·obtain ⟨q1,q2,q3⟩:=msA hcase
        have hz00:z0=0:=by omega
        have dz:decide (z0<0)=false:=by simp;omega
        have hcq:=hrq2.cell j (by omega)
        have hfq:=hrq2.free j
        generalize lq.getD j 0=old at hcq
        have hrowu3:RowI (wr.setCell ⟨g,j+ii,none⟩ (.int .i64 z0)) w2.heap.size g m cg (mid lu j (ws++[0])):=by
         unfold RowI
         rw [mid_map,List.map_append]
         have h9:=hrow2
         rw [hz00] at h9 ⊢
         exact h9
        have HU3:=Lib.hid (hrowu3.store (Ne.symm hne) j (.int .i64 (t:Int)))
        have HQ3:=Lib.hid (hrq2.set j t)
        have HI3:=Lib.hid (hinv.out.next hwsl (by omega) (by rw [hnvk];exact HVN.out) HV0.out hwsw (by omega) q2 q3 htB)
        have HB3:=Lib.hid (hbl2.setCell (p:=⟨gq,j,none⟩) hrq2.lt.1 (.int .i64 (t:Int)))
        clear q1 q2 q3 msA msB hz00 hz0' hwsv hWB hw3 hgd htk hut hc1 hst hrow2 hrq2 hbl2 hrowu3 hnvk hjl hws hwsw hwsl hlu hlm hwl hown hrowq
        go_wp2
        go_roundg j
        case measure=>omega
        case rel=>exact ⟨j,_,_,by omega,rfl,Nat.le_refl _,HU3.out,HQ3.out,HI3.out,HB3.out⟩
       ·obtain ⟨q1,q2,q3⟩:=msB (by omega)
        have hz00:z0 = -1:=by omega
        have dz:decide (z0<0)=true:=by simp;omega
        obtain ⟨t1,ht1⟩:∃ t1,t1=val (lu.drop j) / V:=⟨_,rfl⟩
        rw [←ht1] at q2
        have et:(t:Int) - 1=(t1:Int):=by omega
        have ht1B:t1<B:=by omega
        have ht1B':t1<1000000000:=ht1B
        obtain ⟨L2,hL2d⟩:∃ L2,L2=mid (lu.map natv) j (ws.map natv++[Value.int .i64 z0]):=⟨_,rfl⟩
        rw [←hL2d] at hrow2
        have hwl2:(ws.map natv++[Value.int .i64 z0]).length=ii+1:=by rw [List.length_append,hwl];rfl
        have hL2l:L2.length=m:=by rw [hL2d,mid_len _ _ _ (by rw [hwl2,hlm];omega),hlm]
        have hL2w:∀ i (h:i<ws.length),L2[j+i]? = some (natv ws[i]):=fun i h=>by
         rw [hL2d,mid_inner _ _ _ _ (by rw [hlm];omega) (by rw [hwl2];omega),List.getElem?_append_left (by rw [hwl];omega),List.getElem?_map,List.getElem?_eq_getElem h]
         rfl
        have hL2z:L2[j+ii]? = some (.int .i64 z0):=by
         rw [hL2d,mid_inner _ _ _ _ (by rw [hlm];omega) (by rw [hwl2];omega),List.getElem?_append_right (by rw [hwl];exact Nat.le_refl _),hwl,Nat.sub_self]
         rfl
        have hL2m:∀ ws2:List Nat,ws2.length=ii→mid L2 j (ws2.map natv++[Value.int .i64 0])=(mid lu j (ws2++[0])).map natv:=fun ws2 h=>by
         rw [mid_map,List.map_append,hL2d]
         exact mid_mid _ _ _ _ (by rw [hlm];omega) (by rw [hwl2,List.length_append,List.length_map,h];rfl)
        have HL2W:=Lib.hid hL2w
        have HL2Z:=Lib.hid hL2z
        have HL2M:=Lib.hid hL2m
        have HT1:=Lib.hid ht1
        have HZ00:=Lib.hid hz00
        have HQ3':=Lib.hid q3
        have HTK:=Lib.hid htk
        have hjm:j+ii<m:=hjn
        clear q1 q2 q3 msA msB hz00 hz0' hwsv hWB hw3 hgd htk hut hc1 hst hnvk hjl hws hwsw hlu hlm hwl hwl2 hown hrowq ht1 hL2d hL2w hL2z hL2m HROW2
        have HCU2:=Lib.hid hcu2
        go_wp2
        clear hcu hfs
        generalize wr.setCell ⟨g,j+ii,none⟩ (.int .i64 z0)=w8 at *
        go_loopg [19,20] ii (fun q vc vi W=>∃ (i2 cc:Nat) (ws2:List Nat),i2≤ii∧vi = .int .i64 (i2:Int)∧vc = .int .i64 (cc:Int)∧cc≤1∧ii - i2≤q ∧
         W.ownsRow w2.heap.size 3 1 (.slice (some ⟨g,0,none⟩) m cg) m (mid L2 j (ws2.map natv))∧RowI W w2.heap.size gq L L lq ∧
         Hid (Wf ws2∧ws2.length=i2∧val ws2+B ^ i2*cc=val (ws.take i2)+val ((digs V).take i2))∧Below w2.heap.size w2 W)
        case atStart=>exact ⟨0,0,[],by omega,rfl,rfl,by omega,by omega,by rw [List.map_nil,mid_nil];exact hrow2,hrq2,⟨Wf.nil,rfl,by simp⟩,hbl2⟩
        case round=>
         clear hrow2 hrq2 hbl2 hcu2 HRQ2 HBL2 HCU2
         obtain ⟨i2,cc,ws2,hi2,rfl,rfl,hcc,hq4,hown,hrowq,hws2,hbel⟩:=hrel
         obtain ⟨h2w,h2l,h2v⟩:=hws2.out
         have h2ml:(ws2.map natv).length=i2:=by rw [List.length_map];exact h2l
         have hglt2:=(own_lt hown).1
         by_cases hin2:i2<ii
         ·obtain ⟨adv,hvl,rfl,hvb,hcv⟩:=(hv.later hbel).rd.cellM (k:=i2) hin2
          have hvB:=wf_digs V _ (List.getElem_mem hvl)
          unfold natv at hcv
          obtain ⟨vk,hvk⟩:∃ vk,(digs V)[i2]=vk:=⟨_,rfl⟩
          rw [hvk] at hcv hvB
          have hwsl2:i2<ws.length:=by rw [HWSW.out.2];exact hin2
          obtain ⟨wk,hwk⟩:∃ wk,ws[i2]=wk:=⟨_,rfl⟩
          have hwB:=HWSW.out.1.get hwsl2
          rw [hwk] at hwB
          have hlt2:j+i2<L2.length:=by rw [hL2l];omega
          obtain ⟨hc1,_⟩:=own_mid hown h2ml hlt2
          have hcu:wr.cell? ⟨g,i2+j,none⟩=some (.int .i64 (wk:Int)):=by
           rw [hc1,HL2W.out i2 hwsl2,hwk]
           rfl
          have hfs:=own_free hown (i2+j)
          have hvB':vk<1000000000:=hvB
          have hwB':wk<1000000000:=hwB
          obtain ⟨s1,hs1⟩:∃ s1,s1=wk+vk:=⟨_,rfl⟩
          obtain ⟨tt,htt⟩:∃ tt,tt=s1+cc:=⟨_,rfl⟩
          obtain ⟨lo,hlo⟩:∃ lo,lo=tt % B:=⟨_,rfl⟩
          obtain ⟨hi',hhi⟩:∃ hi',hi'=tt / B:=⟨_,rfl⟩
          have hloB:lo<B:=by rw [hlo];exact Nat.mod_lt _ B_pos
          have hhi1:hi'≤1:=by rw [hhi];unfold B;omega
          have htt2:tt<4000000000:=by omega
          have es:(tt:Int) % 1000000000=(lo:Int):=by rw [hlo];unfold B;omega
          have ed:(tt:Int) / 1000000000=(hi':Int):=by rw [hhi];unfold B;omega
          have hsn:=ab_snoc ws2 ws (digs V) i2 lo cc hi' h2l hwsl2 hvl h2v (by rw [hwk,hvk,hlo,hhi,Nat.mod_add_div,htt,hs1])
          have HI4:Hid (Wf (ws2++[lo])∧(ws2++[lo]).length=i2+1∧val (ws2++[lo])+B ^ (i2+1)*hi'=val (ws.take (i2+1))+val ((digs V).take (i2+1))):=
           ⟨h2w.append (Wf.cons hloB Wf.nil),by rw [List.length_append,h2l];rfl,hsn⟩
          have HST:=Lib.hid (fun q=>(own_mid (w:=wr.drewN q) hown h2ml hlt2).2 (.int .i64 (lo:Int)))
          have HRQ:=Lib.hid (fun q=>(hrowq.drewN q).store hne (i2+j) (.int .i64 (lo:Int)))
          have HBE:=Lib.hid (fun q=>(below_drewN hbel q).setCell (p:=⟨g,i2+j,none⟩) hglt2 (.int .i64 (lo:Int)))
          have g1:IntKind.i64.wrap ((i2:Int)+(j:Int))=((i2+j:Nat):Int):=by rw [IntWalk.i64_in _ (by omega)];omega
          have g2:IntKind.i64.wrap ((wk:Int)+(vk:Int))=(s1:Int):=by rw [IntWalk.i64_in _ (by omega)];omega
          have g3:IntKind.i64.wrap ((s1:Int)+(cc:Int))=(tt:Int):=by rw [IntWalk.i64_in _ (by omega)];omega
          have p1:(0:Int)≤((i2+j:Nat):Int):=by omega
          have p2:((i2+j:Nat):Int)<(m:Int):=by omega
          have p3:(0:Int)≤(i2:Int):=by omega
          have p4:(i2:Int)<(ii:Int):=by omega
          clear hvk hwk hs1 htt hlo hhi hc1 hsn h2w h2l h2v h2ml hws2 hlt2 hrowq hown
          go_upto_region 35 with (fail)
          go_quiet (fail)
          clear g1 g2 g3 p1 p2 p3 p4
          go_wp2
          go_roundg (ii - (i2+1))
          case measure=>omega
          case rel=>exact ⟨i2+1,hi',ws2++[lo],by omega,by go_num,rfl,hhi1,Nat.le_refl _,by rw [List.map_append];exact HST.out _,HRQ.out _,HI4.out,HBE.out _⟩
         ·obtain rfl:i2=ii:=by omega
          rw [HTK.out,val_digs,List.take_of_length_le (by rw [HWSW.out.2];exact Nat.le_refl _),HQ3'.out,HNK.out] at h2v
          have h2B:val ws2<B ^ (k+2):=by have:=val_lt h2w;rw [h2l,HNK.out] at this;exact this
          have hmB:val (lu.drop j) % V<V:=Nat.mod_lt _ HV0.out
          have hVN:=HVN.out
          have hc1':cc=1∧val ws2=val (lu.drop j) % V:=by
           have:cc=0∨cc=1:=by omega
           rcases this with rfl | rfl
           ·rw [Nat.mul_zero] at h2v;omega
           ·rw [Nat.mul_one] at h2v;exact ⟨rfl,by omega⟩
          obtain ⟨hc1',hrem⟩:=hc1'
          obtain ⟨hc1,hst⟩:=own_mid' hown h2ml (by rw [hL2l];omega)
          have hcu:wr.cell? ⟨g,j+i2,none⟩=some (.int .i64 z0):=by rw [hc1,HL2Z.out]
          have hfs:=own_free hown (j+i2)
          have ez2:z0+(cc:Int)=0:=by rw [HZ00.out,hc1'];rfl
          have hrow9:=hst (.int .i64 0)
          rw [HL2M.out ws2 h2l] at hrow9
          have hrowu3:RowI (wr.setCell ⟨g,j+i2,none⟩ (.int .i64 0)) w2.heap.size g m cg (mid lu j (ws2++[0])):=hrow9
          have hrq2:=hrowq.store hne (j+i2) (.int .i64 0)
          have hbl2:=hbel.setCell (p:=⟨g,j+i2,none⟩) hglt2 (.int .i64 0)
          have hcq:=hrq2.cell j (by omega)
          have hfq:=hrq2.free j
          generalize lq.getD j 0=old at hcq
          have HU3:=Lib.hid (hrowu3.store (Ne.symm hne) j (.int .i64 (t1:Int)))
          have HQ3:=Lib.hid (hrq2.set j t1)
          have HI3:=Lib.hid (hinv.out.next h2l (by omega) (by rw [HNK.out];exact HVN.out) HV0.out h2w (by omega) HT1.out hrem ht1B)
          have HB3:=Lib.hid (hbl2.setCell (p:=⟨gq,j,none⟩) hrq2.lt.1 (.int .i64 (t1:Int)))
          clear h2v h2B hmB hVN hc1' hrem hc1 hst hrow9 hrowu3 hrq2 hbl2 h2w h2l h2ml hws2 hown hrowq
          go_wp2
          go_roundg j
          case measure=>omega
          case rel=>exact ⟨j,_,_,by omega,rfl,Nat.le_refl _,HU3.out,HQ3.out,HI3.out,HB3.out⟩
    ·obtain rfl:kk=0:=by omega
     have hin:=hinv.out
     have hlt0:val lu<V:=by have:=hin.2.2.2.2;simpa using this
     have hwu:=hin.1
     have hwq:=hin.2.1
     rw [HXd.out,HVd.out] at hin
     obtain ⟨hqv,hrv⟩:=hin.done HY0.out HF0.out
     have hVn:V<B ^ nv:=by have:=lt_of_digs_length V;rw [HVL.out] at this;rw [HNV.out,HK.out];exact this
     have hlu:lu.length=m:=hrowu.len
     have htk:val (lu.take nv)=x % y*F:=by
      have hs:=val_split lu nv (by omega)
      rcases Nat.eq_zero_or_pos (val (lu.drop nv)) with h9 | h9
      ·rw [h9,Nat.mul_zero,Nat.add_zero] at hs
       rw [←hs,hrv]
      ·exfalso
       have:=Nat.le_mul_of_pos_right (B ^ nv) h9
       omega
     have hRB:x % y*F<B ^ nv:=by rw [←hrv];omega
     have hcap:=hrowu.caps
     have hrd:=(hrowu.reads.take (m:=nv) (by omega))
     rw [←List.map_take] at hrd
     have hdrew:Below wr.heap.size wr wr.drew:=(Below.refl _ _).drew
     have ht:=rtrim_any (some ⟨g,0,none⟩) nv cg (lu.take nv) wr.drew ⟨hrd,by omega,hcap.2,hwu.take _⟩ (by omega)
     rw [htk] at ht
     have htq:=fun (W:World) (hb:Below wr.heap.size wr W)=>rtrim_any (some ⟨gq,0,none⟩) L L lq W ((hrowq.dig hwq).later hb) (by omega)
     simp only [hqv] at htq
     have hfc:=(hbel.cell (p:=⟨w1.heap.size,0,none⟩) hfl).trans hf0
     have hgl:w1.heap.size<wr.heap.size:=Nat.lt_of_lt_of_le hfl hbel.size
     have HT:=Lib.hid ht
     have HTQ:=Lib.hid htq
     have HRB:=Lib.hid (digs_length_le hRB)
     have hn1:(0:Int)≤(nv:Int):=by omega
     have hn2:(nv:Int)≤(cg:Int):=by omega
     have HFB:Hid (F<B):=hFB'
     have HBE:=Lib.hid (hbw2.trans (hbel.mono hbw2.size))
     clear ht htq hin hlt0 hwu hwq hqv hrv hVn hlu htk hRB hrd hrowu hrowq
     go_upto_region 40 with (fail)
     go_region_held3 (fun w'=>w'.cell? ⟨w1.heap.size,0,none⟩=some (.int .i64 (F:Int)))
      (first | exact hfc | exact (hb8.cell (p:=⟨w1.heap.size,0,none⟩) hgl).trans hfc | exact (hb9.cell (p:=⟨w1.heap.size,0,none⟩) hgl8).trans ((hb8.cell (p:=⟨w1.heap.size,0,none⟩) hgl).trans hfc))
      (first
       |(go_at_call 168;refine HT.out.mono ?_;rintro e w8 ⟨m3,rfl,hd3,hb8⟩;have hgl8:=Nat.lt_of_lt_of_le hgl hb8.size)
       |(go_at_call 167;refine (rdivDigit_any (some ⟨g,0,none⟩) m3 cg F (digs (x % y*F)) w8 hd3 HF0.out HFB.out (by have h1:=hd3.len;have h2:=HRB.out;omega)).mono ?_;rintro e w9 ⟨A9,m9,c9,rfl,hd9,hb9⟩))
     rw [val_digs,Nat.mul_div_cancel _ HF0.out] at hd9
     have hb89:Below wr.heap.size wr w9:=hdrew.trans (hb8.trans (hb9.mono hb8.size))
     have HTQ9:=Lib.hid (HTQ.out w9 hb89)
     have HD9:=Lib.hid hd9
     clear hb8 hb9 hfc hd9
     go_wp2_with fail
     refine HTQ9.out.mono ?_
     rintro e wf ⟨mf,rfl,hdf,hbf⟩
     go_wp2
     go_ret2
     exact ⟨_,mf,_,_,m9,c9,rfl,hdf,HD9.out.later hbf,HBE.out.trans ((hb89.trans (hbf.mono hb89.size)).mono HBE.out.size)⟩
theorem rdivDigits_any (A A':Option Addr) (n c n' c' x y:Nat) (w:World) (ha:DigI w A n c (digs x)) (hb:DigI w A' n' c' (digs y)) (hy:0<y) (hn:n≤1048576) (hn':n'≤1048576) :
  Calls Tryz.prog 121 #[.slice A n c,.slice A' n' c'] w (RetDiv w x y):=by
 rcases Nat.lt_or_ge x y with h | h
 ·exact rdiv_less A A' n c n' c' x y w ha hb h hn hn'
 ·have hl:=hb.len
  have hp:=digs_length_pos hy
  rcases Nat.lt_or_ge y B with h1 | h1
  ·have:n'=1:=by rw [←hl,digs_single hy h1];rfl
   subst this
   exact rdiv_one A A' n c c' x y w ha hb h hy h1 hn
  ·have h2:2≤n':=by
    rcases Nat.lt_or_ge n' 2 with h3 | h3
    ·exfalso
     have h4:=lt_of_digs_length y
     rw [hl,show n'=1 from by omega,Nat.pow_one] at h4
     omega
    ·exact h3
   exact rdiv_long A A' n c n' c' x y (n' - 2) w ha hb (by omega) h hn
end Go.Proofs.YteajibbphcfmeaaGreatDoor
