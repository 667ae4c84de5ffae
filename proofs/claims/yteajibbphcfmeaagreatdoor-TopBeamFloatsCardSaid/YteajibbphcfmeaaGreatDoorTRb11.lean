/- Contracts of the reference's integers: common, whole. -/
import Derived.Test.YteajibbphcfmeaaGreatDoorTRb9
import Derived.Test.YteajibbphcfmeaaGreatDoorTFloat
namespace Go.Proofs.YteajibbphcfmeaaGreatDoor
open Go.RowKit Dn
set_option maxHeartbeats 2000000 in
set_option maxRecDepth 100000 in
theorem rcommon_any (A A':Option Addr) (n c n' c' x y:Nat) (w:World) (ha:DigI w A n c (digs x)) (hb:DigI w A' n' c' (digs y)) (hn:n≤1048576) (hn':n'≤1048576) :
  Calls Tryz.prog 62 #[.slice A n c,.slice A' n' c'] w (RetNr w (Nat.gcd x y)):=by
 go_enter Tryz.func62,Tryz.ntmps62
 go_wp2
 go_loopg [0,1] y (fun q av bv W=>∃ (A:Option Addr) (n c:Nat) (A':Option Addr) (n' c' u v:Nat),av = .slice A n c∧bv = .slice A' n' c'∧DigI W A n c (digs u)∧DigI W A' n' c' (digs v)∧n≤1048576∧n'≤1048576∧Hid (Nat.gcd u v=Nat.gcd x y)∧v≤q∧Below w.heap.size w W)
 case atStart=>exact ⟨A,n,c,A',n',c',x,y,rfl,rfl,ha,hb,hn,hn',rfl,Nat.le_refl _,Below.refl _ _⟩
 case round=>
  obtain ⟨A,n,c,A',n',c',u,v,rfl,rfl,h1,h2,hn,hn',hg,hq,hbel⟩:=hrel
  have hl2:=h2.len
  by_cases hv:v=0
  ·obtain rfl:n'=0:=by rw [←hl2,hv,digs_zero];rfl
   have hgv:Nat.gcd x y=u:=by rw [←hg.out,hv,Nat.gcd_zero_right]
   have HR:Hid (RetNr w (Nat.gcd x y) (.returned (.slice A n c)) wr):=⟨A,n,c,rfl,by rw [hgv];exact h1,hbel⟩
   clear hv hgv hl2
   go_wp2
   go_ret
   exact HR.out
  ·have hv0:0<v:=by omega
   have hn0:0<n':=by rw [←hl2];exact digs_length_pos hv0
   have hmod:=Nat.mod_lt u hv0
   have HO:=Lib.hid (rdivDigits_any A A' n c n' c' u v wr h1 h2 hv0 hn hn')
   have HG:Hid (Nat.gcd v (u % v)=Nat.gcd x y):=by
    show Nat.gcd v (u % v)=Nat.gcd x y
    rw [←hg.out,Nat.gcd_comm v (u % v),←Nat.gcd_rec,Nat.gcd_comm]
   have HL2:=Lib.hid hl2
   have d1:decide (0<n')=true:=by simpa using hn0
   clear hv hl2
   go_wp2_with fail
   refine HO.out.mono ?_
   rintro e w2 ⟨A3,n3,c3,A4,n4,c4,rfl,hq3,hr4,hb2⟩
   have hn4:n4≤n':=by rw [←hr4.len,←HL2.out];exact digs_length_mono (Nat.le_of_lt hmod)
   have h2':=h2.later hb2
   generalize u % v=r at *
   go_wp2
   go_roundg r
   case measure=>omega
   case rel=>exact ⟨A',n',c',A4,n4,c4,v,r,rfl,rfl,h2',hr4,hn',by omega,HG.out,Nat.le_refl _,hbel.trans (hb2.mono hbel.size)⟩
theorem whole_step {ls:List Nat} {k q n:Nat} (hk:ls.length=k) (h:val ls+B ^ k*q=n):val (ls++[q % B])+B ^ (k+1)*(q / B)=n:=by
 rw [val_append,val_single,hk,Nat.pow_succ,Nat.mul_assoc,Nat.add_assoc,←Nat.mul_add,Nat.mod_add_div]
 exact h
set_option maxHeartbeats 2000000 in
set_option maxRecDepth 100000 in
theorem rwhole_nat (n:Nat) (w:World) (hn:n≤9223372036854775807) :
  Calls Tryz.prog 82 #[.int .i64 (n:Int)] w (RetZ w (n:Int)):=by
 obtain ⟨i0,hi0,hz0,hz1,hz2⟩:=info_parts info_int
 have hb0:Below w.heap.size w (w.alloc (.cells #[.bool false,.slice none 0 0] 84)):=(Below.refl _ _).alloc (Nat.le_refl _) _
 have hk:=CBlk.new w #[.bool false,.slice none 0 0] 84 _ rfl
 have dn:decide ((n:Int)<0)=false:=by simp
 go_enter Tryz.func82,Tryz.ntmps82
 go_wp2
 generalize (w.alloc (.cells #[.bool false,.slice none 0 0] 84))=w0 at *
 go_loopg [0,3] n (fun g v0 v3 W=>∃ (q k:Nat) (ls:List Nat),v0 = .int .i64 (q:Int)∧q≤g∧q≤9223372036854775807∧k≤100∧q≤9223372036854775807 / 2 ^ k∧W.ownsRow w0.heap.size 3 1 v3 k (ls.map natv)∧Hid (Wf ls∧ls.length=k∧val ls+B ^ k*q=n)∧Below w0.heap.size w0 W)
 case atStart=>exact ⟨n,0,[],rfl,Nat.le_refl _,hn,by omega,by simpa using hn,World.ownsRow_nil _ _ _ _,⟨Wf.nil,rfl,by simp⟩,Below.refl _ _⟩
 case round=>
  obtain ⟨q,k,ls,rfl,hq,hqb,hk9,hqk,hown,hv,hbel⟩:=hrel
  have hsz:=hbel.size
  obtain ⟨hw,hl,hval⟩:=hv.out
  by_cases h0:q=0
  ·subst h0
   rw [Nat.mul_zero,Nat.add_zero] at hval
   obtain ⟨A9,c9,rfl,h91,h92,h93⟩:=own_slice hown
   have hs:=rsigned_any false A9 k c9 ls wr ⟨h93,h91,h92,hw⟩ (by omega)
   rw [show sgn false (val ls)=(n:Int) from by rw [hval];rfl] at hs
   have HS:=Lib.hid hs
   have hkb:=hk.below hbel hk.lt
   have hlt:=hk.lt
   clear hs hval hl hw hown h93 hv hqk
   go_wp2_with fail
   refine HS.out.mono ?_
   rintro e w6 ⟨A6,m6,c6,rfl,hd6,hb6⟩
   have hk6:=hkb.below hb6 hkb.lt
   have e0:w6.cell? ⟨w.heap.size,0,none⟩=some (.bool false):=hk6.cell 0
   have e1:w6.cell? ⟨w.heap.size,1,none⟩=some (.slice none 0 0):=hk6.cell 1
   have f0:w6.frozen? ⟨w.heap.size,0,none⟩=false:=hk6.frozen 0
   have f1:w6.frozen? ⟨w.heap.size,1,none⟩=false:=hk6.frozen 1
   have hB:=hb0.trans ((hbel.trans (hb6.mono hbel.size)).mono hb0.size)
   clear hb6
   go_wp2_with fail
   refine bodyPost_ret (v := .agg #[.bool (decide ((n:Int)<0)),.slice A6 m6 c6]) (by simp [results,Tryz.results82,go_sem,e0,e1]) rfl ?_
   exact ⟨A6,m6,c6,rfl,hd6.box hk6 _ _,two_set hB (by omega) _ _⟩
  ·obtain ⟨d,hd⟩:∃ d,d=q % B:=⟨_,rfl⟩
   obtain ⟨q',hq'⟩:∃ q',q'=q / B:=⟨_,rfl⟩
   have hdB:d<B:=by rw [hd];exact Nat.mod_lt _ B_pos
   have hdB':d<1000000000:=hdB
   have hq9:q'≤q / 2:=by rw [hq'];unfold B;omega
   have ed:(q:Int) % 1000000000=(d:Int):=by rw [hd];unfold B;omega
   have eq:(q:Int) / 1000000000=(q':Int):=by rw [hq'];unfold B;omega
   have hst:=whole_step hl hval
   rw [←hd,←hq'] at hst
   have HI:Hid (Wf (ls++[d])∧(ls++[d]).length=k+1∧val (ls++[d])+B ^ (k+1)*q'=n):=⟨hw.append (Wf.cons hdB Wf.nil),by simp [hl],hst⟩
   have hqk':q'≤9223372036854775807 / 2 ^ (k+1):=by
    rw [Nat.pow_succ,←Nat.div_div_eq_div_mul]
    exact Nat.le_trans hq9 (Nat.div_le_div_right hqk)
   have hk64:k<63:=by
    rcases Nat.lt_or_ge k 63 with h9 | h9
    ·exact h9
    ·exfalso
     have:9223372036854775807 / 2 ^ k≤9223372036854775807 / 2 ^ 63:=Nat.div_le_div_left (Nat.pow_le_pow_right (by omega) h9) (Nat.two_pow_pos _)
     have e63:9223372036854775807 / 2 ^ 63=0:=by decide
     omega
   have HQK:=Lib.hid hqk'
   have d1:((q:Int) != 0)=true:=by rw [bne_iff_ne];omega
   have d2:((q:Int)==0)=false:=by rw [beq_eq_false_iff_ne];omega
   have d3:decide ((d:Int)<0)=false:=by simp
   have hqlt:q'<q:=by omega
   clear hd hq' hst hqk' hqk hval hl hw hv hq9
   go_wp2_with (at_builtin;refine wpList_append_own _ rfl _ _ 45 rfl w0.heap.size 3 i0 (.int .i64 0) 1 8 Tryz.underlying45 hi0 hz0 hz1 hz2 rfl (by decide) _ _ _ rfl (hown.alloc _) ⟨wr.heap.size,0,none⟩ 1 1 [.int .i64 (d:Int)] rfl rfl ?c1 ?c2 ?c3 ?c4 ?c5 ?_)
   case c1=>exact cell_one_new _ _ _
   case c2=>intro u hu;simp at hu;subst hu;rfl
   case c3=>unfold maxLen;omega
   case c4=>omega
   case c5=>simp;omega
   intro v' w2 hown' hgrow _
   have hb2:Below w0.heap.size w0 w2:=(hbel.alloc hsz _).grown hgrow (by simp;omega) (fun g hg=>(World.ownsRow.lt hown g hg).1)
   clear hgrow hown
   go_wp2
   go_roundg q'
   case measure=>omega
   case rel=>exact ⟨q',k+1,ls++[d],rfl,Nat.le_refl _,by omega,by omega,HQK.out,by rw [List.map_append];exact hown',HI.out,hb2⟩
set_option maxHeartbeats 4000000 in
set_option maxRecDepth 100000 in
theorem rtext_any (b:Bool) (x:Nat) (A:Option Addr) (n c:Nat) (w:World) (h:DigI w A n c (digs x)) (hb:b=true→0<x) (hn:n≤524288) :
  Calls Tryz.prog 86 #[.agg #[.bool b,.slice A n c]] w fun e w'=>(∃ s:ByteArray,e = .returned (.string s)∧s.data.toList=sgnT b (Lib.decDigits x))∧Below w.heap.size w w':=by
 have hb0:Below w.heap.size w (w.alloc (.cells #[.bool b,.slice A n c] 84)):=(Below.refl _ _).alloc (Nat.le_refl _) _
 have hk:=CBlk.new w #[.bool b,.slice A n c] 84 _ rfl
 have h1:=h.later hb0
 have hlen:=h.len
 go_enter Tryz.func86,Tryz.ntmps86
 go_upto_region 1 with (fail)
 generalize (w.alloc (.cells #[.bool b,.slice A n c] 84))=w1 at *
 have a0:w1.cell? ⟨w.heap.size,0,none⟩=some (.bool b):=hk.cell 0
 have a1:w1.cell? ⟨w.heap.size,1,none⟩=some (.slice A n c):=hk.cell 1
 by_cases hx:x=0
 ·obtain rfl:n=0:=by rw [←hlen,hx,digs_zero];rfl
  obtain rfl:b=false:=by
   cases b
   ·rfl
   ·exact absurd (hb rfl) (by omega)
  have hd:Hid ((⟨#[48]⟩:ByteArray).data.toList=sgnT false (Lib.decDigits x)):=by
   show [48]=sgnT false (Lib.decDigits x)
   rw [hx,Dec.dec_lt (by omega)]
   rfl
  clear hx hb hlen
  go_wp2
  go_ret
  exact ⟨⟨_,rfl,hd.out⟩,hb0⟩
 ·have hx0:0<x:=by omega
  have hn0:0<n:=by have:=digs_length_pos hx0;omega
  have hxB:x<B ^ n:=by have:=lt_of_digs_length x;rwa [hlen] at this
  have hpn:=pow_le_of_digs_length hx0
  rw [hlen] at hpn
  have hpos:∀ j,j≤n - 1→0<x / B ^ j:=fun j hj=>Nat.div_pos (Nat.le_trans (Nat.pow_le_pow_right B_pos hj) hpn) (Nat.pow_pos B_pos)
  have htop:x / B ^ (n - 1)<B:=Nat.div_lt_of_lt_mul (by rw [←Nat.pow_succ,show (n - 1).succ=n from by omega];exact hxB)
  obtain ⟨n1,hn1⟩:∃ n1,n=n1+1:=⟨n - 1,by omega⟩
  subst hn1
  rw [Nat.add_sub_cancel] at hpos htop
  obtain ⟨ad,hkl,rfl,hbb,hcell⟩:=h1.rd.cellM (k:=n1) (by omega)
  have htg:(digs x)[n1]=x / B ^ n1:=by
   have h9:=digs_getD n1 x
   rw [Dn.getD_in hkl,Nat.mod_eq_of_lt htop] at h9
   exact h9
  unfold natv at hcell
  obtain ⟨tw,htw⟩:∃ tw,tw=x / B ^ n1:=⟨_,rfl⟩
  rw [htg,←htw] at hcell
  rw [←htw] at htop
  have htop':tw<1000000000:=htop
  have HDL:=Lib.hid (ddec_len hn0 hxB)
  have HPOS:=Lib.hid hpos
  have HTW:=Lib.hid htw
  have e1:((n1+1:Nat):Int) - 1=(n1:Int):=by omega
  have e2:((n1+1:Nat):Int) - 2=(n1:Int) - 1:=by omega
  generalize hN:n1+1=N at *
  have HN:=Lib.hid hN
  have hNb:n1<N:=by omega
  have d0:((N:Int)==0)=false:=by rw [beq_eq_false_iff_ne];omega
  have HK1:=Lib.hid (rdecimal_any tw 1 w1 (by omega) (by omega))
  rw [decK_one] at HK1
  clear hpos htg htw hx hb hxB hpn hlen hN
  go_wp2_with fail
  refine HK1.out.mono ?_
  rintro e w2 ⟨⟨s0,rfl,hs0⟩,hw2⟩
  obtain rfl:w1=w2:=hw2
  have HS0:=Lib.hid hs0
  clear hs0 HK1 e1 hcell
  go_wp2
  go_loopg [3,4] n1 (fun g v3 v4 W=>∃ (j:Nat) (s:ByteArray),j≤n1∧v4 = .int .i64 ((j:Int) - 1)∧v3 = .string s∧j≤g∧Hid (s.data.toList=Lib.decDigits (x / B ^ j))∧w1=W)
  case atStart=>exact ⟨n1,s0,Nat.le_refl _,by first | rfl | go_num,rfl,Nat.le_refl _,by rw [←HTW.out];exact HS0.out,rfl⟩
  case round=>
   obtain ⟨j,s,hj,rfl,rfl,hjg,hs,hW⟩:=hrel
   obtain rfl:w1=wr:=hW
   have hssz:s.size≤9*N:=by
    have h9:=HDL.out j
    rw [←hs.out] at h9
    simpa using h9
   by_cases h0:0<j
   ·obtain ⟨q,rfl⟩:∃ q,j=q+1:=⟨j - 1,by omega⟩
    have e3:((q+1:Nat):Int) - 1=(q:Int):=by omega
    rw [e3]
    obtain ⟨ad',hkl',ea,_,hcell⟩:=h1.rd.cellM (k:=q) (by omega)
    injection ea with ea
    subst ea
    have hvB:=wf_digs x _ (List.getElem_mem hkl')
    have hst:=ddec_step x q (HPOS.out (q+1) hj)
    rw [←digs_getD,Dn.getD_in hkl'] at hst
    unfold natv at hcell
    generalize (digs x)[q]=v at *
    have hvB':v<1000000000:=hvB
    have hK9:=rdecimal_any v 9 w1 (by omega) (by omega)
    rw [decK_nine hvB] at hK9
    have HK9:=Lib.hid hK9
    have HST:=Lib.hid hst
    clear hst hK9 e3
    go_wp2_with fail
    refine HK9.out.mono ?_
    rintro e w2 ⟨⟨s9,rfl,hs9⟩,hw2⟩
    obtain rfl:w1=w2:=hw2
    have HS9:=Lib.hid hs9
    have HI:Hid ((s++s9).data.toList=Lib.decDigits (x / B ^ q)):=by
     show (s++s9).data.toList=_
     rw [ByteArray.data_append,Array.toList_append,hs.out,hs9,HST.out]
    have hs9z:s9.size=9:=by
     have h9:s9.data.toList.length=s9.size:=Array.length_toList
     rw [hs9,Dec.pad_length] at h9
     exact h9.symm
    have hs9y:s9.size≤9:=by omega
    clear hs9 hs9z
    go_wp2
    go_roundg q
    case measure=>omega
    case rel=>exact ⟨q,s++s9,by omega,rfl,rfl,Nat.le_refl _,HI.out,rfl⟩
   ·obtain rfl:j=0:=by omega
    have hfin:s.data.toList=Lib.decDigits x:=by have:=hs.out;simpa using this
    cases b
    ·have HR:Hid (s.data.toList=sgnT false (Lib.decDigits x)):=hfin
     clear hfin hs
     go_wp2
     go_ret
     exact ⟨⟨s,rfl,HR.out⟩,hb0⟩
    ·have HR:Hid (((⟨#[45]⟩:ByteArray)++s).data.toList=sgnT true (Lib.decDigits x)):=by
      show ((⟨#[45]⟩:ByteArray)++s).data.toList=_
      rw [ByteArray.data_append,Array.toList_append,hfin]
      rfl
     clear hfin hs
     go_wp2
     go_ret
     exact ⟨⟨_,rfl,HR.out⟩,hb0⟩
theorem sgnT_head {b:Bool} {x:Nat} {s:ByteArray} (hs:s.data.toList=sgnT b (Lib.decDigits x)):∃ h:0<s.size,(((s[0]'h).toNat:Int)==45)=b:=by
 have hl:=congrArg List.length hs
 rw [Array.length_toList] at hl
 have hd:=digits_dec x
 have hp:=Dec.dec_length_pos x
 cases b
 ·have hl2:s.data.size=(Lib.decDigits x).length:=hl
  have h0:0<s.size:=by show 0<s.data.size;omega
  refine ⟨h0,?_⟩
  have he:s[0]'h0=(Lib.decDigits x)[0]'hp:=by
   have:s[0]'h0=s.data.toList[0]'(by rw [Array.length_toList];exact h0):=rfl
   rw [this]
   simp only [hs]
   rfl
  have hm:=digit_mem hd (List.getElem_mem hp)
  rw [he,beq_eq_false_iff_ne]
  omega
 ·have hl2:s.data.size=(Lib.decDigits x).length+1:=hl
  have h0:0<s.size:=by show 0<s.data.size;omega
  refine ⟨h0,?_⟩
  have he:s[0]'h0=45:=by
   have:s[0]'h0=s.data.toList[0]'(by rw [Array.length_toList];exact h0):=rfl
   rw [this]
   simp only [hs]
   rfl
  rw [he]
  decide
def ParseInv (l:List UInt8) (t:ByteArray) (ws:List Nat):Prop:=t.data.toList=l.take t.size∧t.size≤l.length∧Wf ws∧l.length - t.size=9*ws.length∧val ws=decVal (l.drop t.size)
theorem ParseInv.start {l:List UInt8} {t:ByteArray} (h:t.data.toList=l):ParseInv l t []:=by
 have hl:l.length=t.size:=by rw [←h,Array.length_toList];rfl
 refine ⟨by rw [←hl,List.take_length];exact h,by omega,Wf.nil,by simp;omega,?_⟩
 rw [←hl,List.drop_length]
 rfl
theorem piece_lt {l:List UInt8} (hd:digits l=true) (a b:Nat) (hb:b≤9):decVal ((l.drop a).take b)<B:=by
 have h1:=decVal_lt _ (digits_sub l hd a b)
 have h2:10 ^ ((l.drop a).take b).length≤10 ^ 9:=Nat.pow_le_pow_right (by omega) (by rw [List.length_take];omega)
 rw [B_nine]
 omega
theorem ParseInv.next {l:List UInt8} {t u v:ByteArray} {ws:List Nat} {d:Nat} (h:ParseInv l t ws) (hd:digits l=true) (h9:9<t.size) (hdd:d=t.size - 9) (hu:u=t.extract 0 d) (hv:v=t.extract d t.size) :
  v.data.toList=(l.drop d).take 9∧v.size=9∧u.size=d∧ParseInv l u (ws++[decVal ((l.drop d).take 9)]):=by
 obtain ⟨h1,h2,h3,h4,h5⟩:=h
 have hvl:v.data.toList=(l.drop d).take 9:=by
  rw [hv,ext_list,h1,List.drop_take,List.take_take]
  congr 1
  omega
 have hus:u.size=d:=by rw [hu];simp;omega
 refine ⟨hvl,by rw [hv];simp;omega,hus,?_⟩
 have hst:=chunk_step l ws t.size d (by omega) h2 h4 h5
 rw [show t.size - d=9 from by omega] at hst
 refine ⟨?_,by rw [hus];omega,h3.append (Wf.cons (piece_lt hd _ _ (by omega)) Wf.nil),?_,?_⟩
 ·rw [hus,hu,ext_list,List.drop_zero,Nat.sub_zero,h1,List.take_take]
  congr 1
  omega
 ·rw [hus,List.length_append]
  simp only [List.length_cons,List.length_nil]
  omega
 ·rw [hus]
  exact hst
theorem ParseInv.done {l:List UInt8} {t:ByteArray} {ws:List Nat} (h:ParseInv l t ws) (hd:digits l=true) (h9:t.size≤9):Wf (ws++[decVal t.data.toList])∧val (ws++[decVal t.data.toList])=decVal l:=by
 obtain ⟨h1,h2,h3,h4,h5⟩:=h
 have hst:=chunk_step l ws t.size 0 (by omega) h2 h4 h5
 rw [List.drop_zero,Nat.sub_zero,←h1] at hst
 refine ⟨h3.append (Wf.cons ?_ Wf.nil),hst⟩
 have:=piece_lt hd 0 t.size h9
 rw [List.drop_zero,←h1] at this
 exact this
set_option maxHeartbeats 4000000 in
set_option maxRecDepth 100000 in
theorem rparse_any (s:ByteArray) (b:Bool) (x:Nat) (w:World) (hs:s.data.toList=sgnT b (Lib.decDigits x)) (hsz:s.size≤1000000) :
  Calls Tryz.prog 120 #[.string s] w (RetZ w (sgn b x)):=by
 obtain ⟨i0,hi0,hz0,hz1,hz2⟩:=info_parts info_int
 have hb0:Below w.heap.size w (w.alloc (.cells #[.bool false,.slice none 0 0] 84)):=(Below.refl _ _).alloc (Nat.le_refl _) _
 have hk:=CBlk.new w #[.bool false,.slice none 0 0] 84 _ rfl
 obtain ⟨h0,hhd⟩:=sgnT_head hs
 obtain ⟨c0,hc0⟩:∃ c0:Nat,(s[0]'h0).toNat=c0:=⟨_,rfl⟩
 rw [hc0] at hhd
 have d0:decide (0<s.size)=true:=by simpa using h0
 obtain ⟨l,hl⟩:∃ l,l=Lib.decDigits x:=⟨_,rfl⟩
 have hld:digits l=true:=by rw [hl];exact digits_dec x
 have hlx:decVal l=x:=by rw [hl];exact decVal_dec x
 rw [←hl] at hs
 have HLD:=Lib.hid hld
 have HLX:=Lib.hid hlx
 have hcut:∃ t:ByteArray,t.data.toList=l∧t.size≤s.size∧t=(if b then s.extract 1 s.size else s):=by
  cases b
  ·exact ⟨s,hs,Nat.le_refl _,rfl⟩
  ·refine ⟨s.extract 1 s.size,?_,by simp,rfl⟩
   have hlen:l.length+1=s.size:=by
    have:=congrArg List.length hs
    rw [Array.length_toList] at this
    exact this.symm
   rw [ext_list,hs]
   show (l.take (s.size - 1))=l
   exact List.take_of_length_le (by omega)
 obtain ⟨t0,ht0,htz,hte⟩:=hcut
 have HP0:=Lib.hid (ParseInv.start ht0)
 have LB:Hid (l.length≤1000000):=by
  show l.length≤1000000
  rw [←ht0,Array.length_toList]
  exact Nat.le_trans htz hsz
 have HC0:=Lib.hid hc0
 have HTE:=Lib.hid hte
 clear hs hl hld hlx ht0 hc0 hte
 have hs1:(1:Int)≤(s.size:Int):=by omega
 cases b
 all_goals
  have hte:=HTE.out
  simp only [if_true,Bool.false_eq_true,if_false] at hte
  first
   |(subst hte)
   |(have hte2:=hte.symm)
  have hc0:=HC0.out
  go_enter Tryz.func120,Tryz.ntmps120
  go_wp2
  clear hc0 d0 hs1 hhd
  generalize (w.alloc (.cells #[.bool false,.slice none 0 0] 84))=w0 at *
  go_loopg [0,4] 1000000 (fun g v0 v4 W=>∃ (t:ByteArray) (ws:List Nat),v0 = .string t∧t.size≤g∧t.size≤1000000∧W.ownsRow w0.heap.size 3 1 v4 ws.length (ws.map natv)∧Hid (ParseInv l t ws)∧Below w0.heap.size w0 W)
  case atStart=>exact ⟨_,[],rfl,by omega,by omega,World.ownsRow_nil _ _ _ _,HP0.out,Below.refl _ _⟩
  case round=>
   obtain ⟨t,ws,rfl,hg,ht,hown,hinv,hbel⟩:=hrel
   have hsz:=hbel.size
   have hwsb:ws.length≤1000000∨True := .inr trivial
   by_cases h9:9<t.size
   ·obtain ⟨d,hd⟩:∃ d,d=t.size - 9:=⟨_,rfl⟩
    obtain ⟨p1,p2,p3,p4⟩:=hinv.out.next HLD.out h9 hd rfl rfl
    have hpd:digits (t.extract d t.size).data.toList=true:=by rw [p1];exact digits_sub l HLD.out d 9
    have hval:=rvalue_any (t.extract d t.size) wr hpd (by omega)
    rw [p1] at hval
    have hvB:=piece_lt HLD.out d 9 (by omega)
    have hwl:ws.length≤1000000:=by
     have h1:=hinv.out.2.2.2.1
     have h2:=p4.2.2.2.1
     have h3:=LB.out
     omega
    generalize decVal ((l.drop d).take 9)=v at *
    have ed:(t.size:Int) - 9=(d:Int):=by omega
    have d9:decide ((9:Int)<(t.size:Int))=true:=by simp;omega
    have HV:=Lib.hid hval
    have HP:=Lib.hid p4
    have HUS:=Lib.hid p3
    have hdt:d≤t.size:=by omega
    have hv9:v<1000000000:=hvB
    have HD:=Lib.hid hd
    clear p1 p2 p3 p4 hpd hval hd hinv
    go_wp2_with fail
    refine HV.out.mono ?_
    rintro e w2 ⟨rfl,hw2⟩
    obtain rfl:wr=w2:=hw2
    go_wp2_with (at_builtin;refine wpList_append_own _ rfl _ _ 45 rfl w0.heap.size 3 i0 (.int .i64 0) 1 8 Tryz.underlying45 hi0 hz0 hz1 hz2 rfl (by decide) _ _ _ rfl (hown.alloc _) ⟨wr.heap.size,0,none⟩ 1 1 [.int .i64 (v:Int)] rfl rfl ?c1 ?c2 ?c3 ?c4 ?c5 ?_)
    case c1=>exact cell_one_new _ _ _
    case c2=>intro u hu;simp at hu;subst hu;rfl
    case c3=>unfold maxLen;omega
    case c4=>omega
    case c5=>simp;omega
    intro v' w2 hown' hgrow _
    have hb2:Below w0.heap.size w0 w2:=(hbel.alloc hsz _).grown hgrow (by simp;omega) (fun g hg=>(World.ownsRow.lt hown g hg).1)
    clear hgrow hown
    go_wp2
    go_roundg d
    case measure=>have:=HD.out;omega
    case rel=>exact ⟨t.extract 0 d,ws++[v],rfl,by rw [HUS.out];exact Nat.le_refl _,by rw [HUS.out];omega,by rw [List.length_append,List.map_append];exact hown',HP.out,hb2⟩
   ·obtain ⟨q1,q2⟩:=hinv.out.done HLD.out (by omega)
    have hpd:digits t.data.toList=true:=by
     rw [hinv.out.1]
     have:=digits_sub l HLD.out 0 t.size
     rwa [List.drop_zero] at this
    have hwl:ws.length≤1000000:=by
     have h1:=hinv.out.2.2.2.1
     have h3:=LB.out
     omega
    have HV:=Lib.hid (rvalue_any t wr hpd (by omega))
    have d9:decide ((9:Int)<(t.size:Int))=false:=by simp;omega
    generalize decVal t.data.toList=v at *
    have HQ:=Lib.hid q1
    have HQ2:=Lib.hid q2
    clear hpd q1 q2 hinv
    go_wp2_with fail
    refine HV.out.mono ?_
    rintro e w2 ⟨rfl,hw2⟩
    obtain rfl:wr=w2:=hw2
    go_wp2_with (at_builtin;refine wpList_append_own _ rfl _ _ 45 rfl w0.heap.size 3 i0 (.int .i64 0) 1 8 Tryz.underlying45 hi0 hz0 hz1 hz2 rfl (by decide) _ _ _ rfl (hown.alloc _) ⟨wr.heap.size,0,none⟩ 1 1 [.int .i64 (v:Int)] rfl rfl ?c1 ?c2 ?c3 ?c4 ?c5 ?_)
    case c1=>exact cell_one_new _ _ _
    case c2=>intro u hu;simp at hu;subst hu;rfl
    case c3=>unfold maxLen;omega
    case c4=>omega
    case c5=>simp;omega
    intro v' w2 hown' hgrow _
    have hb2:Below w0.heap.size w0 w2:=(hbel.alloc hsz _).grown hgrow (by simp;omega) (fun g hg=>(World.ownsRow.lt hown g hg).1)
    clear hgrow hown
    have hown2:w2.ownsRow w0.heap.size 3 1 v' (ws.length+1) ((ws++[v]).map natv):=by rw [List.map_append];exact hown'
    obtain ⟨A9,c9,rfl,h91,h92,h93⟩:=own_slice hown2
    have hsg:=fun b=>rsigned_any b A9 (ws.length+1) c9 (ws++[v]) w2 ⟨h93,h91,h92,HQ.out⟩ (by omega)
    simp only [HQ2.out,HLX.out] at hsg
    have HS:=Lib.hid hsg
    have hkb:=hk.below hb2 hk.lt
    clear hsg hown' hown2 h93
    go_wp2_with fail
    refine (HS.out _).mono ?_
    rintro e w6 ⟨A6,m6,c6,rfl,hd6,hb6⟩
    have hk6:=hkb.below hb6 hkb.lt
    have e0:w6.cell? ⟨w.heap.size,0,none⟩=some (.bool false):=hk6.cell 0
    have e1:w6.cell? ⟨w.heap.size,1,none⟩=some (.slice none 0 0):=hk6.cell 1
    have f0:w6.frozen? ⟨w.heap.size,0,none⟩=false:=hk6.frozen 0
    have f1:w6.frozen? ⟨w.heap.size,1,none⟩=false:=hk6.frozen 1
    have hB:=hb0.trans ((hb2.trans (hb6.mono hb2.size)).mono hb0.size)
    clear hb6
    go_wp2_with fail
    refine bodyPost_ret (v := .agg #[.bool (decide (sgn _ x<0)),.slice A6 m6 c6]) (by simp [results,Tryz.results120,go_sem,e0,e1];first | rfl | done) rfl ?_
    exact ⟨A6,m6,c6,rfl,hd6.box hk6 _ _,two_set hB (by omega) _ _⟩
end Go.Proofs.YteajibbphcfmeaaGreatDoor
