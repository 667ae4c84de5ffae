/- The reference's whole of negative machine integers, FromInt. -/
import Derived.Test.YtmkihdjolnlccaaGreatDoorQRb19
namespace Go.Proofs.YtmkihdjolnlccaaGreatDoor
open Go.RowKit Dn
set_option maxHeartbeats 4000000 in
set_option maxRecDepth 100000 in
theorem zmw (m:Nat) (w:World) (hm:m≤4000000000000000000) (hm0:0<m) :
  Calls Tryz.prog 123 #[.int .i64 (-(m:Int))] w (RetZ w (-(m:Int))):=by
 obtain ⟨i0,hi0,hz0,hz1,hz2⟩:=info_parts zbZ
 have hb0:Below w.heap.size w (w.alloc (.cells #[.bool false,.slice none 0 0] 152)):=(Below.refl _ _).alloc (Nat.le_refl _) _
 have hk:=CBlk.new w #[.bool false,.slice none 0 0] 152 _ rfl
 obtain ⟨zm,hzm⟩:∃ zm:Int,zm = -(m:Int):=⟨_,rfl⟩
 have dn:decide (zm<0)=true:=by simp only [decide_eq_true_eq];omega
 have hzmb : -4000000000000000000≤zm:=by omega
 have hzmn:zm<0:=by omega
 have HZM:=Lib.hid hzm
 rw [←hzm]
 clear hzm
 go_enter Tryz.func123,Tryz.ntmps123
 go_wp2
 generalize (w.alloc (.cells #[.bool false,.slice none 0 0] 152))=w0 at *
 go_loopg [0,3] m (fun g v0 v3 W=>∃ (q k:Nat) (z:Int) (ls:List Nat),v0 = .int .i64 z∧Hid (z = -(q:Int))∧z≤0 ∧ -4000000000000000000≤z∧q≤g∧q≤4000000000000000000∧k≤100∧q≤4000000000000000000 / 2 ^ k∧W.ownsRow w0.heap.size 3 1 v3 k (ls.map natv)∧Hid (Wf ls∧ls.length=k∧val ls+B ^ k*q=m)∧Below w0.heap.size w0 W)
 case atStart=>exact ⟨m,0,zm,[],rfl,HZM.out,by omega,hzmb,Nat.le_refl _,hm,by omega,by simpa using hm,World.ownsRow_nil _ _ _ _,⟨Wf.nil,rfl,by simp⟩,Below.refl _ _⟩
 case round=>
  obtain ⟨q,k,z,ls,rfl,hzq,hz0',hzb,hq,hqb,hk9,hqk,hown,hv,hbel⟩:=hrel
  have hsz:=hbel.size
  obtain ⟨hw,hl,hval⟩:=hv.out
  by_cases h0:q=0
  ·have hz00:z=0:=by have:=hzq.out;omega
   subst h0
   rw [Nat.mul_zero,Nat.add_zero] at hval
   obtain ⟨A9,c9,rfl,h91,h92,h93⟩:=zbo hown
   have hs:=zbe true A9 k c9 ls wr ⟨h93,h91,h92,hw⟩ (by omega)
   rw [show sgn true (val ls)=zm from by rw [hval,HZM.out];rfl] at hs
   have HS:=Lib.hid hs
   have hkb:=hk.below hbel hk.lt
   have hlt:=hk.lt
   have d1:(z != 0)=false:=by rw [hz00];rfl
   have d2:(z==0)=true:=by rw [hz00];rfl
   clear hs hval hl hw hown h93 hv hqk hz00 hzq
   go_wp2_with fail
   refine HS.out.mono ?_
   rintro e w6 ⟨A6,m6,c6,rfl,hd6,hb6⟩
   have hk6:=hkb.below hb6 hkb.lt
   have e0:w6.cell? ⟨w.heap.size,0,none⟩=some (.bool false):=hk6.cell 0
   have e1:w6.cell? ⟨w.heap.size,1,none⟩=some (.slice none 0 0):=hk6.cell 1
   have f0:w6.frozen? ⟨w.heap.size,0,none⟩=false:=hk6.frozen 0
   have f1:w6.frozen? ⟨w.heap.size,1,none⟩=false:=hk6.frozen 1
   have hB:=hb0.trans ((hbel.trans (hb6.mono hbel.size)).mono hb0.size)
   clear hb6
   have dn2:decide (zm<0)=true:=dn
   rw [dn2]
   go_wp2_with fail
   refine bodyPost_ret (v := .agg #[.bool true,.slice A6 m6 c6]) (by simp [results,Tryz.results123,go_sem,e0,e1]) rfl ?_
   exact ⟨A6,m6,c6,by rw [dn2],hd6.box hk6 _ _,zbc hB (by omega) _ _⟩
  ·obtain ⟨d,hd⟩:∃ d,d=q % B:=⟨_,rfl⟩
   obtain ⟨q',hq'⟩:∃ q',q'=q / B:=⟨_,rfl⟩
   have hdB:d<B:=by rw [hd];exact Nat.mod_lt _ zaA
   have hdB':d<1000000000:=hdB
   have hq9:q'≤q / 2:=by rw [hq'];unfold B;omega
   have hst:=zgW hl hval
   rw [←hd,←hq'] at hst
   have HI:Hid (Wf (ls++[d])∧(ls++[d]).length=k+1∧val (ls++[d])+B ^ (k+1)*q'=m):=⟨hw.append (Wf.cons hdB Wf.nil),by simp [hl],hst⟩
   have hqk':q'≤4000000000000000000 / 2 ^ (k+1):=by
    rw [Nat.pow_succ,←Nat.div_div_eq_div_mul]
    exact Nat.le_trans hq9 (Nat.div_le_div_right hqk)
   have hk64:k<62:=by
    rcases Nat.lt_or_ge k 62 with h9 | h9
    ·exact h9
    ·exfalso
     have:4000000000000000000 / 2 ^ k≤4000000000000000000 / 2 ^ 62:=Nat.div_le_div_left (Nat.pow_le_pow_right (by omega) h9) (Nat.two_pow_pos _)
     have e63:4000000000000000000 / 2 ^ 62=0:=by decide
     omega
   have HQK:=Lib.hid hqk'
   have hzz:=hzq.out
   have hzne:z≠0:=by omega
   have d1:(z != 0)=true:=by rw [bne_iff_ne];exact hzne
   have d2:(z==0)=false:=by rw [beq_eq_false_iff_ne];exact hzne
   obtain ⟨zd,hzd⟩:∃ zd:Int,zd = -(d:Int):=⟨_,rfl⟩
   obtain ⟨zq,hzq'⟩:∃ zq:Int,zq = -(q':Int):=⟨_,rfl⟩
   have f1:Int.tmod z 1000000000=zd:=by
    rw [hzz,Int.neg_tmod,hzd,hd,Int.tmod_eq_emod_of_nonneg (by omega)]
    rfl
   have f2:Int.tdiv z 1000000000=zq:=by
    rw [hzz,Int.neg_tdiv,hzq',hq',Int.tdiv_eq_ediv_of_nonneg (by omega)]
    rfl
   have hqlt:q'<q:=by omega
   have HZQ':=Lib.hid hzq'
   have hzq0:zq≤0:=by omega
   have hzqb : -4000000000000000000≤zq:=by omega
   by_cases hneg:d=0
   case' pos=>have d3:decide (zd<0)=false:=by simp only [decide_eq_false_iff_not];omega
   case' neg=>have d3:decide (zd<0)=true:=by simp only [decide_eq_true_eq];omega
   case' pos=>have ed:zd=(d:Int):=by omega
   case' pos=>subst ed
   case' neg=>have ed:0 - zd=(d:Int):=by omega
   case' neg=>have ed2 : -zd=(d:Int):=by omega
   case' neg=>have hzdb : -1000000000≤zd:=by omega
   all_goals
    first | clear hzd | skip
    clear hd hq' hst hqk' hqk hval hl hw hv hq9 hzz hzq' hneg
    go_wp2_with (at_builtin;refine wpList_append_own _ rfl _ _ 35 rfl w0.heap.size 3 i0 (.int .i64 0) 1 8 Tryz.underlying35 hi0 hz0 hz1 hz2 rfl (by decide) _ _ _ rfl (hown.alloc _) ⟨wr.heap.size,0,none⟩ 1 1 [.int .i64 (d:Int)] rfl rfl ?c1 ?c2 ?c3 ?c4 ?c5 ?_)
    case c1=>exact cell_one_new _ _ _
    case c2=>intro u hu;simp at hu;subst hu;rfl
    case c3=>unfold maxLen;omega
    case c4=>omega
    case c5=>simp;omega
    intro v' w2 hown' hgrow _
    have hb2:Below w0.heap.size w0 w2:=(hbel.alloc hsz _).grown hgrow (by simp;omega) (fun g hg=>(World.ownsRow.lt hown g hg).1)
    clear hgrow hown
    go_wp2
    go_roundg q'
    case measure=>omega
    case rel=>exact ⟨q',k+1,zq,ls++[d],rfl,HZQ'.out,hzq0,hzqb,Nat.le_refl _,by omega,by omega,HQK.out,by rw [List.map_append];exact hown',HI.out,hb2⟩
theorem zmC (z:Int) (w:World) (h1 : -4000000000000000000≤z) (h2:z≤4000000000000000000) :
  Calls Tryz.prog 123 #[.int .i64 z] w (RetZ w z):=by
 by_cases h:z<0
 ·obtain ⟨m,rfl⟩:∃ m:Nat,z = -(m:Int):=⟨(-z).toNat,by omega⟩
  exact zmw m w (by omega) (by omega)
 ·obtain ⟨m,rfl⟩:∃ m:Nat,z=(m:Int):=⟨z.toNat,by omega⟩
  exact zgV m w (by omega)
def intQ (z:Int):Q:=⟨decide (z<0),z.natAbs,1⟩
theorem zrw (z:Int):LowQ (intQ z):=⟨Nat.one_pos,Nat.gcd_one_right _,fun h=>by
 have h9:z<0:=by simpa [intQ] using h
 show 0<z.natAbs
 omega⟩
theorem znl (z:Int):zay (intQ z)=sgnT (decide (z<0)) (Lib.decDigits z.natAbs):=by
 rw [zaV]
 simp [intQ]
set_option maxHeartbeats 1000000 in
theorem zjf (z:Int) (w:World) (h1 : -4000000000000000000≤z) (h2:z≤4000000000000000000) :
  Calls Tryz.prog 50 #[.int .i64 z] w (RetS w (intQ z)):=by
 have HW:=Lib.hid (zmC z w h1 h2)
 have HR:Hid (∀ s:ByteArray,s.data.toList=sgnT (decide (z<0)) (Lib.decDigits z.natAbs)→NumQ s (intQ z)):=fun s hs=>⟨by rw [znl];exact hs,zrw z⟩
 have hT:=fun (A:Option Addr) (n c:Nat) (W:World) (h:DigI W A n c (digs z.natAbs)) (hn:n≤524288)=>zfI (decide (z<0)) z.natAbs A n c W h (by intro h9;simp at h9;omega) hn
 have hlen:(digs z.natAbs).length≤3:=digs_length_le (by have e:B ^ 3=1000000000000000000000000000:=(by decide);omega)
 have HT:=Lib.hid hT
 have HL:=Lib.hid hlen
 clear hT hlen
 go_enter Tryz.func50,Tryz.ntmps50
 go_wp2_with fail
 refine HW.out.mono ?_
 rintro e w1 ⟨A1,n1,c1,rfl,hd1,hb1⟩
 go_wp2_with fail
 refine (HT.out A1 n1 c1 w1 hd1 (by rw [←hd1.len];have:=HL.out;omega)).mono ?_
 rintro e w2 ⟨⟨s,rfl,hs⟩,hb2⟩
 go_wp2
 go_ret
 exact ⟨⟨s,rfl,HR.out s hs⟩,hb1.trans (hb2.mono hb1.size)⟩
set_option maxHeartbeats 1000000 in
theorem zjy (s:ByteArray) (w:World) (hs:s.size≤9223372036854775807) :
  Calls Tryz.prog 198 #[.string s] w fun e w'=>e = .returned (.bool (zap s.data.toList))∧w=w':=by
 have hsz:s.data.toList.length=s.size:=by simp
 have HSZ:=Lib.hid hsz
 clear hsz
 obtain ⟨D,hD⟩:∃ D,D=zap s.data.toList:=⟨_,rfl⟩
 have HD:=Lib.hid hD
 rw [←hD]
 clear hD
 go_enter Tryz.func198,Tryz.ntmps198
 go_wp2
 go_loop [3] (fun i=>∃ k:Nat,k≤s.size∧i = .int .i64 k∧Hid (D=zap (s.data.toList.drop k))) (fun i=>s.size - (intOf i).toNat)
 case atStart=>exact ⟨0,Nat.zero_le _,rfl,by rw [Hid,List.drop_zero];exact HD.out⟩
 case round=>
  obtain ⟨k,hk,rfl,hv⟩:=hrel
  by_cases hlt:k<s.size
  ·have hsp:=zdk s k hlt
   rw [←hv.out] at hsp
   obtain ⟨c,hcd⟩:∃ c:Nat,(s[k]'hlt).toNat=c:=⟨_,rfl⟩
   rw [hcd] at hsp
   by_cases hdig:48≤c∧c≤57
   ·have hb:digB (c:Int)=true:=by unfold digB;simp;omega
    rw [hb,Bool.true_and] at hsp
    have HV:=Lib.hid hsp
    have d1:decide ((c:Int)<48)=false:=by simp only [decide_eq_false_iff_not];omega
    have d2:decide ((57:Int)<(c:Int))=false:=by simp only [decide_eq_false_iff_not];omega
    clear hsp hb hdig hv
    go_wp2
    go_round
    case rel=>exact ⟨k+1,by omega,by go_num,HV.out⟩
    case measure=>simp [intOf];omega
   ·have hb:digB (c:Int)=false:=by
     unfold digB
     rw [Bool.and_eq_false_iff]
     simp only [decide_eq_false_iff_not]
     omega
    rw [hb,Bool.false_and] at hsp
    have HV:=Lib.hid hsp
    have hcase:(decide ((c:Int)<48)=true)∨(decide ((c:Int)<48)=false∧decide ((57:Int)<(c:Int))=true):=by
     simp only [decide_eq_true_eq,decide_eq_false_iff_not]
     omega
    clear hsp hb hdig hv
    rcases hcase with d1 | ⟨d1,d2⟩
    all_goals
     go_wp2
     go_ret
     exact ⟨by rw [HV.out];rfl,rfl⟩
  ·have hfin:D=true:=by
    rw [hv.out,List.drop_of_length_le (by rw [HSZ.out];omega)]
    rfl
   have HF:=Lib.hid hfin
   clear hfin hv
   go_wp2
   go_ret
   exact ⟨by rw [HF.out];rfl,rfl⟩
set_option maxHeartbeats 1000000 in
theorem zb6 (s:ByteArray) (w:World) (hs:s.size≤9223372036854775807) :
  Calls Tryz.prog 125 #[.string s] w fun e w'=>e = .returned (.bool (zaw s.data.toList))∧w=w':=by
 have hsz:s.data.toList.length=s.size:=by simp
 have HG:=Lib.hid (zjy s w hs)
 obtain ⟨D,hD⟩:∃ D,D=zaw s.data.toList:=⟨_,rfl⟩
 rw [←hD]
 by_cases h0:s.size=0
 ·have hl:s.data.toList=[]:=List.eq_nil_of_length_eq_zero (by omega)
  have hF:D=false:=by rw [hD,hl];rfl
  have HF:=Lib.hid hF
  have d1:((s.size:Int)==0)=true:=by rw [h0];rfl
  clear hF hl hD h0 hsz HG
  go_enter Tryz.func125,Tryz.ntmps125
  go_wp2
  go_ret
  exact ⟨by rw [HF.out];rfl,rfl⟩
 ·have hpos:0<s.size:=by omega
  have d1:((s.size:Int)==0)=false:=by rw [beq_eq_false_iff_ne];omega
  obtain ⟨c,hcd⟩:∃ c:Nat,(s[0]'hpos).toNat=c:=⟨_,rfl⟩
  have hlc:s.data.toList=(s[0]'hpos) :: s.data.toList.drop 1:=by
   have h9:0<s.data.toList.length:=by omega
   have e:=List.drop_eq_getElem_cons h9
   rw [List.drop_zero] at e
   exact e
  by_cases hbad:1<s.size∧c=48
  ·obtain ⟨hb1,hb2⟩:=hbad
   have d2:decide ((1:Int)<(s.size:Int))=true:=by simp only [decide_eq_true_eq];omega
   have d3:((c:Int)==48)=true:=by rw [beq_iff_eq];omega
   have hc48:s[0]'hpos=48:=UInt8.toNat_inj.1 (by rw [hcd,hb2];rfl)
   have hF:D=false:=by
    rw [hD]
    unfold zaw
    rw [Bool.and_eq_false_iff]
    refine .inr ?_
    have n1:s.data.toList≠[48]:=fun e=>by have:=congrArg List.length e;simp at this;omega
    have n2:s.data.toList.head? = some 48:=by rw [hlc,hc48];rfl
    simp [n1,n2]
   have HF:=Lib.hid hF
   clear hF hc48 hlc hD hsz HG hb1 hb2
   go_enter Tryz.func125,Tryz.ntmps125
   go_wp2
   go_ret
   exact ⟨by rw [HF.out];rfl,rfl⟩
  ·have hF:D=zap s.data.toList:=by
    rw [hD]
    unfold zaw
    by_cases h1:s.size=1
    ·have hl1:s.data.toList=[s[0]'hpos]:=by
      rw [hlc]
      congr 1
      exact List.drop_eq_nil_of_le (by omega)
     by_cases h48:s[0]'hpos=48
     ·rw [hl1,h48];simp
     ·have:s.data.toList.head? ≠ some 48:=by rw [hl1];simpa using h48
      have n2:s.data.toList≠[]:=by rw [hl1];simp
      simp [this,n2]
    ·have hc48:¬ (s[0]'hpos=48):=fun e=>hbad ⟨by omega,by rw [←hcd,e];rfl⟩
     have:s.data.toList.head? ≠ some 48:=by rw [hlc];simpa using hc48
     have n2:s.data.toList≠[]:=by rw [hlc];simp
     simp [this,n2]
   rw [←hF] at HG
   have hcase:(decide ((1:Int)<(s.size:Int))=false)∨(decide ((1:Int)<(s.size:Int))=true∧((c:Int)==48)=false):=by
    simp only [decide_eq_true_eq,decide_eq_false_iff_not,beq_eq_false_iff_ne]
    omega
   clear hF hlc hD hsz hbad
   rcases hcase with d2 | ⟨d2,d3⟩
   all_goals
    go_enter Tryz.func125,Tryz.ntmps125
    go_wp2_with fail
    refine HG.out.mono ?_
    rintro e w1 ⟨rfl,rfl⟩
    go_wp2
    go_ret
    exact ⟨rfl,rfl⟩
theorem zcV:∀ l:List UInt8,(∀ c ∈ l,c≠47)∨∃ t r,l=t++47 :: r∧∀ c ∈ t,c≠47
 | [] => .inl (fun c hc=>by cases hc)
 | x :: l=>by
  by_cases hx:x=47
  ·exact .inr ⟨[],l,by rw [hx];rfl,fun c hc=>by cases hc⟩
  ·rcases zcV l with h | ⟨t,r,rfl,h⟩
   ·exact .inl (fun c hc=>by rcases List.mem_cons.1 hc with rfl | hc;(· exact hx);(· exact h c hc))
   ·exact .inr ⟨x :: t,r,rfl,fun c hc=>by rcases List.mem_cons.1 hc with rfl | hc;(· exact hx);(· exact h c hc)⟩
theorem zlY {l s:List UInt8} {neg:Bool} (hl:l=sgnT neg s) (hn:neg=false→s.head? ≠ some 45) :
  zam l=zaY (s.take (zbp s)) (s.drop (zbp s+1)) neg (decide (zbp s<s.length)):=by
 have hpre:∀ t:List UInt8,(neg=false→t.head? ≠ some 45)→Lib.hasPrefix (sgnT neg t) [45]=neg∧Lib.trimPrefix (sgnT neg t) [45]=t:=by
  intro t ht
  have h0:Lib.hasPrefix (sgnT neg t) [45]=neg:=by
   cases neg
   ·have h9:=ht rfl
    unfold sgnT Lib.hasPrefix
    cases t with
    | nil=>rfl
    | cons x r=>
     have hx:((45:UInt8)==x)=false:=by
      rw [beq_eq_false_iff_ne]
      intro e
      exact h9 (by rw [←e];rfl)
     simp [List.isPrefixOf,hx]
   ·rfl
  refine ⟨h0,?_⟩
  unfold Lib.trimPrefix
  rw [h0]
  cases neg<;>rfl
 have hsgn:∀ t:List UInt8,(∀ c ∈ t,c≠47)→∀ c ∈ sgnT neg t,c≠47:=by
  intro t ht c hc
  unfold sgnT at hc
  cases neg
  ·exact ht c hc
  ·rcases List.mem_cons.1 hc with rfl | hc
   ·decide
   ·exact ht c hc
 rcases zcV s with h | ⟨t,r,rfl,h⟩
 ·have e1:zbp s=s.length:=zbM h
  have ec:=ziA (hsgn s h)
  obtain ⟨p1,p2⟩:=hpre s hn
  unfold zam topL botL negL zcF
  rw [hl,ec]
  dsimp only
  rw [p1,p2,e1,List.take_length,List.drop_eq_nil_of_le (by omega),decide_eq_false (by omega)]
 ·have e1:zbp (t++47 :: r)=t.length:=zcj h
  have ht:neg=false→t.head? ≠ some 45:=fun h9=>by
   have h8:=hn h9
   cases t with
   | nil=>simp
   | cons x q=>simpa using h8
  have e2:sgnT neg (t++47 :: r)=sgnT neg t++47 :: r:=by unfold sgnT;cases neg<;>rfl
  have ec:=zg4 (r:=r) (hsgn t h)
  obtain ⟨p1,p2⟩:=hpre t ht
  unfold zam topL botL negL zcF
  rw [hl,e2,ec]
  dsimp only
  rw [p1,p2,e1,List.take_left,←List.drop_drop,List.drop_left,decide_eq_true (by simp)]
  rfl
end Go.Proofs.YtmkihdjolnlccaaGreatDoor
