/- Contracts of the reference's texts of integers: text, parse. -/
import Derived.Test.YtmkihdjolnlccaaGreatDoorQAd2
import Derived.Test.YtmkihdjolnlccaaGreatDoorQRb9
namespace Go.Proofs.YtmkihdjolnlccaaGreatDoor
open Go.RowKit Dn
set_option maxHeartbeats 4000000 in
set_option maxRecDepth 100000 in
theorem zfI (b:Bool) (x:Nat) (A:Option Addr) (n c:Nat) (w:World) (h:DigI w A n c (digs x)) (hb:b=true→0<x) (hn:n≤524288) :
  Calls Tryz.prog 122 #[.agg #[.bool b,.slice A n c]] w fun e w'=>(∃ s:ByteArray,e = .returned (.string s)∧s.data.toList=sgnT b (Lib.decDigits x))∧Below w.heap.size w w':=by
 have hb0:Below w.heap.size w (w.alloc (.cells #[.bool b,.slice A n c] 152)):=(Below.refl _ _).alloc (Nat.le_refl _) _
 have hk:=CBlk.new w #[.bool b,.slice A n c] 152 _ rfl
 have h1:=h.later hb0
 have hlen:=h.len
 go_enter Tryz.func122,Tryz.ntmps122
 go_upto_region 1 with (fail)
 generalize (w.alloc (.cells #[.bool b,.slice A n c] 152))=w1 at *
 have a0:w1.cell? ⟨w.heap.size,0,none⟩=some (.bool b):=hk.cell 0
 have a1:w1.cell? ⟨w.heap.size,1,none⟩=some (.slice A n c):=hk.cell 1
 by_cases hx:x=0
 ·obtain rfl:n=0:=by rw [←hlen,hx,digs_zero];rfl
  obtain rfl:b=false:=by
   cases b
   ·rfl
   ·exact absurd (hb rfl) (by omega)
  have hd:Hid ((⟨#[48]⟩:ByteArray).data.toList=sgnT false (Lib.decDigits x)):=by
   show [48]=sgnT false (Lib.decDigits x)
   rw [hx,Dec.dec_lt (by omega)]
   rfl
  clear hx hb hlen
  go_wp2
  go_ret
  exact ⟨⟨_,rfl,hd.out⟩,hb0⟩
 ·have hx0:0<x:=by omega
  have hn0:0<n:=by have:=zan hx0;omega
  have hxB:x<B ^ n:=by have:=zaa x;rwa [hlen] at this
  have hpn:=zau hx0
  rw [hlen] at hpn
  have hpos:∀ j,j≤n - 1→0<x / B ^ j:=fun j hj=>Nat.div_pos (Nat.le_trans (Nat.pow_le_pow_right zaA hj) hpn) (Nat.pow_pos zaA)
  have htop:x / B ^ (n - 1)<B:=Nat.div_lt_of_lt_mul (by rw [←Nat.pow_succ,show (n - 1).succ=n from by omega];exact hxB)
  obtain ⟨n1,hn1⟩:∃ n1,n=n1+1:=⟨n - 1,by omega⟩
  subst hn1
  rw [Nat.add_sub_cancel] at hpos htop
  obtain ⟨ad,hkl,rfl,hbb,hcell⟩:=h1.rd.cellM (k:=n1) (by omega)
  have htg:(digs x)[n1]=x / B ^ n1:=by
   have h9:=zbK n1 x
   rw [Dn.getD_in hkl,Nat.mod_eq_of_lt htop] at h9
   exact h9
  unfold natv at hcell
  obtain ⟨tw,htw⟩:∃ tw,tw=x / B ^ n1:=⟨_,rfl⟩
  rw [htg,←htw] at hcell
  rw [←htw] at htop
  have htop':tw<1000000000:=htop
  have HDL:=Lib.hid (zhf hn0 hxB)
  have HPOS:=Lib.hid hpos
  have HTW:=Lib.hid htw
  have e1:((n1+1:Nat):Int) - 1=(n1:Int):=by omega
  have e2:((n1+1:Nat):Int) - 2=(n1:Int) - 1:=by omega
  generalize hN:n1+1=N at *
  have HN:=Lib.hid hN
  have hNb:n1<N:=by omega
  have d0:((N:Int)==0)=false:=by rw [beq_eq_false_iff_ne];omega
  have HK1:=Lib.hid (zcu tw 1 w1 (by omega) (by omega))
  rw [zhq] at HK1
  clear hpos htg htw hx hb hxB hpn hlen hN
  go_wp2_with fail
  refine HK1.out.mono ?_
  rintro e w2 ⟨⟨s0,rfl,hs0⟩,hw2⟩
  obtain rfl:w1=w2:=hw2
  have HS0:=Lib.hid hs0
  clear hs0 HK1 e1 hcell
  go_wp2
  go_loopg [3,4] n1 (fun g v3 v4 W=>∃ (j:Nat) (s:ByteArray),j≤n1∧v4 = .int .i64 ((j:Int) - 1)∧v3 = .string s∧j≤g∧Hid (s.data.toList=Lib.decDigits (x / B ^ j))∧w1=W)
  case atStart=>exact ⟨n1,s0,Nat.le_refl _,by first | rfl | go_num,rfl,Nat.le_refl _,by rw [←HTW.out];exact HS0.out,rfl⟩
  case round=>
   obtain ⟨j,s,hj,rfl,rfl,hjg,hs,hW⟩:=hrel
   obtain rfl:w1=wr:=hW
   have hssz:s.size≤9*N:=by
    have h9:=HDL.out j
    rw [←hs.out] at h9
    simpa using h9
   by_cases h0:0<j
   ·obtain ⟨q,rfl⟩:∃ q,j=q+1:=⟨j - 1,by omega⟩
    have e3:((q+1:Nat):Int) - 1=(q:Int):=by omega
    rw [e3]
    obtain ⟨ad',hkl',ea,_,hcell⟩:=h1.rd.cellM (k:=q) (by omega)
    injection ea with ea
    subst ea
    have hvB:=zak x _ (List.getElem_mem hkl')
    have hst:=zjk x q (HPOS.out (q+1) hj)
    rw [←zbK,Dn.getD_in hkl'] at hst
    unfold natv at hcell
    generalize (digs x)[q]=v at *
    have hvB':v<1000000000:=hvB
    have hK9:=zcu v 9 w1 (by omega) (by omega)
    rw [zmQ hvB] at hK9
    have HK9:=Lib.hid hK9
    have HST:=Lib.hid hst
    clear hst hK9 e3
    go_wp2_with fail
    refine HK9.out.mono ?_
    rintro e w2 ⟨⟨s9,rfl,hs9⟩,hw2⟩
    obtain rfl:w1=w2:=hw2
    have HS9:=Lib.hid hs9
    have HI:Hid ((s++s9).data.toList=Lib.decDigits (x / B ^ q)):=by
     show (s++s9).data.toList=_
     rw [ByteArray.data_append,Array.toList_append,hs.out,hs9,HST.out]
    have hs9z:s9.size=9:=by
     have h9:s9.data.toList.length=s9.size:=Array.length_toList
     rw [hs9,Dec.pad_length] at h9
     exact h9.symm
    have hs9y:s9.size≤9:=by omega
    clear hs9 hs9z
    go_wp2
    go_roundg q
    case measure=>omega
    case rel=>exact ⟨q,s++s9,by omega,rfl,rfl,Nat.le_refl _,HI.out,rfl⟩
   ·obtain rfl:j=0:=by omega
    have hfin:s.data.toList=Lib.decDigits x:=by have:=hs.out;simpa using this
    cases b
    ·have HR:Hid (s.data.toList=sgnT false (Lib.decDigits x)):=hfin
     clear hfin hs
     go_wp2
     go_ret
     exact ⟨⟨s,rfl,HR.out⟩,hb0⟩
    ·have HR:Hid (((⟨#[45]⟩:ByteArray)++s).data.toList=sgnT true (Lib.decDigits x)):=by
      show ((⟨#[45]⟩:ByteArray)++s).data.toList=_
      rw [ByteArray.data_append,Array.toList_append,hfin]
      rfl
     clear hfin hs
     go_wp2
     go_ret
     exact ⟨⟨_,rfl,HR.out⟩,hb0⟩
theorem zm6 {b:Bool} {x:Nat} {s:ByteArray} (hs:s.data.toList=sgnT b (Lib.decDigits x)):∃ h:0<s.size,(((s[0]'h).toNat:Int)==45)=b:=by
 have hl:=congrArg List.length hs
 rw [Array.length_toList] at hl
 have hd:=zaC x
 have hp:=Dec.dec_length_pos x
 cases b
 ·have hl2:s.data.size=(Lib.decDigits x).length:=hl
  have h0:0<s.size:=by show 0<s.data.size;omega
  refine ⟨h0,?_⟩
  have he:s[0]'h0=(Lib.decDigits x)[0]'hp:=by
   have:s[0]'h0=s.data.toList[0]'(by rw [Array.length_toList];exact h0):=rfl
   rw [this]
   simp only [hs]
   rfl
  have hm:=zdd hd (List.getElem_mem hp)
  rw [he,beq_eq_false_iff_ne]
  omega
 ·have hl2:s.data.size=(Lib.decDigits x).length+1:=hl
  have h0:0<s.size:=by show 0<s.data.size;omega
  refine ⟨h0,?_⟩
  have he:s[0]'h0=45:=by
   have:s[0]'h0=s.data.toList[0]'(by rw [Array.length_toList];exact h0):=rfl
   rw [this]
   simp only [hs]
   rfl
  rw [he]
  decide
def zb9 (l:List UInt8) (t:ByteArray) (ws:List Nat):Prop:=t.data.toList=l.take t.size∧t.size≤l.length∧Wf ws∧l.length - t.size=9*ws.length∧val ws=zaf (l.drop t.size)
theorem zb9.start {l:List UInt8} {t:ByteArray} (h:t.data.toList=l):zb9 l t []:=by
 have hl:l.length=t.size:=by rw [←h,Array.length_toList];rfl
 refine ⟨by rw [←hl,List.take_length];exact h,by omega,Wf.nil,by simp;omega,?_⟩
 rw [←hl,List.drop_length]
 rfl
theorem zhP {l:List UInt8} (hd:zap l=true) (a b:Nat) (hb:b≤9):zaf ((l.drop a).take b)<B:=by
 have h1:=za6 _ (zcP l hd a b)
 have h2:10 ^ ((l.drop a).take b).length≤10 ^ 9:=Nat.pow_le_pow_right (by omega) (by rw [List.length_take];omega)
 rw [znc]
 omega
theorem zb9.next {l:List UInt8} {t u v:ByteArray} {ws:List Nat} {d:Nat} (h:zb9 l t ws) (hd:zap l=true) (h9:9<t.size) (hdd:d=t.size - 9) (hu:u=t.extract 0 d) (hv:v=t.extract d t.size) :
  v.data.toList=(l.drop d).take 9∧v.size=9∧u.size=d∧zb9 l u (ws++[zaf ((l.drop d).take 9)]):=by
 obtain ⟨h1,h2,h3,h4,h5⟩:=h
 have hvl:v.data.toList=(l.drop d).take 9:=by
  rw [hv,zby,h1,List.drop_take,List.take_take]
  congr 1
  omega
 have hus:u.size=d:=by rw [hu];simp;omega
 refine ⟨hvl,by rw [hv];simp;omega,hus,?_⟩
 have hst:=zeG l ws t.size d (by omega) h2 h4 h5
 rw [show t.size - d=9 from by omega] at hst
 refine ⟨?_,by rw [hus];omega,h3.append (Wf.cons (zhP hd _ _ (by omega)) Wf.nil),?_,?_⟩
 ·rw [hus,hu,zby,List.drop_zero,Nat.sub_zero,h1,List.take_take]
  congr 1
  omega
 ·rw [hus,List.length_append]
  simp only [List.length_cons,List.length_nil]
  omega
 ·rw [hus]
  exact hst
theorem zb9.done {l:List UInt8} {t:ByteArray} {ws:List Nat} (h:zb9 l t ws) (hd:zap l=true) (h9:t.size≤9):Wf (ws++[zaf t.data.toList])∧val (ws++[zaf t.data.toList])=zaf l:=by
 obtain ⟨h1,h2,h3,h4,h5⟩:=h
 have hst:=zeG l ws t.size 0 (by omega) h2 h4 h5
 rw [List.drop_zero,Nat.sub_zero,←h1] at hst
 refine ⟨h3.append (Wf.cons ?_ Wf.nil),hst⟩
 have:=zhP hd 0 t.size h9
 rw [List.drop_zero,←h1] at this
 exact this
set_option maxHeartbeats 4000000 in
set_option maxRecDepth 100000 in
theorem zeJ (s:ByteArray) (b:Bool) (x:Nat) (w:World) (hs:s.data.toList=sgnT b (Lib.decDigits x)) (hsz:s.size≤1000000) :
  Calls Tryz.prog 169 #[.string s] w (RetZ w (sgn b x)):=by
 obtain ⟨i0,hi0,hz0,hz1,hz2⟩:=info_parts zbZ
 have hb0:Below w.heap.size w (w.alloc (.cells #[.bool false,.slice none 0 0] 152)):=(Below.refl _ _).alloc (Nat.le_refl _) _
 have hk:=CBlk.new w #[.bool false,.slice none 0 0] 152 _ rfl
 obtain ⟨h0,hhd⟩:=zm6 hs
 obtain ⟨c0,hc0⟩:∃ c0:Nat,(s[0]'h0).toNat=c0:=⟨_,rfl⟩
 rw [hc0] at hhd
 have d0:decide (0<s.size)=true:=by simpa using h0
 obtain ⟨l,hl⟩:∃ l,l=Lib.decDigits x:=⟨_,rfl⟩
 have hld:zap l=true:=by rw [hl];exact zaC x
 have hlx:zaf l=x:=by rw [hl];exact zaR x
 rw [←hl] at hs
 have HLD:=Lib.hid hld
 have HLX:=Lib.hid hlx
 have hcut:∃ t:ByteArray,t.data.toList=l∧t.size≤s.size∧t=(if b then s.extract 1 s.size else s):=by
  cases b
  ·exact ⟨s,hs,Nat.le_refl _,rfl⟩
  ·refine ⟨s.extract 1 s.size,?_,by simp,rfl⟩
   have hlen:l.length+1=s.size:=by
    have:=congrArg List.length hs
    rw [Array.length_toList] at this
    exact this.symm
   rw [zby,hs]
   show (l.take (s.size - 1))=l
   exact List.take_of_length_le (by omega)
 obtain ⟨t0,ht0,htz,hte⟩:=hcut
 have HP0:=Lib.hid (zb9.start ht0)
 have LB:Hid (l.length≤1000000):=by
  show l.length≤1000000
  rw [←ht0,Array.length_toList]
  exact Nat.le_trans htz hsz
 have HC0:=Lib.hid hc0
 have HTE:=Lib.hid hte
 clear hs hl hld hlx ht0 hc0 hte
 have hs1:(1:Int)≤(s.size:Int):=by omega
 cases b
 all_goals
  have hte:=HTE.out
  simp only [if_true,Bool.false_eq_true,if_false] at hte
  first
   |(subst hte)
   |(have hte2:=hte.symm)
  have hc0:=HC0.out
  go_enter Tryz.func169,Tryz.ntmps169
  go_wp2
  clear hc0 d0 hs1 hhd
  generalize (w.alloc (.cells #[.bool false,.slice none 0 0] 152))=w0 at *
  go_loopg [0,4] 1000000 (fun g v0 v4 W=>∃ (t:ByteArray) (ws:List Nat),v0 = .string t∧t.size≤g∧t.size≤1000000∧W.ownsRow w0.heap.size 3 1 v4 ws.length (ws.map natv)∧Hid (zb9 l t ws)∧Below w0.heap.size w0 W)
  case atStart=>exact ⟨_,[],rfl,by omega,by omega,World.ownsRow_nil _ _ _ _,HP0.out,Below.refl _ _⟩
  case round=>
   obtain ⟨t,ws,rfl,hg,ht,hown,hinv,hbel⟩:=hrel
   have hsz:=hbel.size
   have hwsb:ws.length≤1000000∨True := .inr trivial
   by_cases h9:9<t.size
   ·obtain ⟨d,hd⟩:∃ d,d=t.size - 9:=⟨_,rfl⟩
    obtain ⟨p1,p2,p3,p4⟩:=hinv.out.next HLD.out h9 hd rfl rfl
    have hpd:zap (t.extract d t.size).data.toList=true:=by rw [p1];exact zcP l HLD.out d 9
    have hval:=zdp (t.extract d t.size) wr hpd (by omega)
    rw [p1] at hval
    have hvB:=zhP HLD.out d 9 (by omega)
    have hwl:ws.length≤1000000:=by
     have h1:=hinv.out.2.2.2.1
     have h2:=p4.2.2.2.1
     have h3:=LB.out
     omega
    generalize zaf ((l.drop d).take 9)=v at *
    have ed:(t.size:Int) - 9=(d:Int):=by omega
    have d9:decide ((9:Int)<(t.size:Int))=true:=by simp;omega
    have HV:=Lib.hid hval
    have HP:=Lib.hid p4
    have HUS:=Lib.hid p3
    have hdt:d≤t.size:=by omega
    have hv9:v<1000000000:=hvB
    have HD:=Lib.hid hd
    clear p1 p2 p3 p4 hpd hval hd hinv
    go_wp2_with fail
    refine HV.out.mono ?_
    rintro e w2 ⟨rfl,hw2⟩
    obtain rfl:wr=w2:=hw2
    go_wp2_with (at_builtin;refine wpList_append_own _ rfl _ _ 35 rfl w0.heap.size 3 i0 (.int .i64 0) 1 8 Tryz.underlying35 hi0 hz0 hz1 hz2 rfl (by decide) _ _ _ rfl (hown.alloc _) ⟨wr.heap.size,0,none⟩ 1 1 [.int .i64 (v:Int)] rfl rfl ?c1 ?c2 ?c3 ?c4 ?c5 ?_)
    case c1=>exact cell_one_new _ _ _
    case c2=>intro u hu;simp at hu;subst hu;rfl
    case c3=>unfold maxLen;omega
    case c4=>omega
    case c5=>simp;omega
    intro v' w2 hown' hgrow _
    have hb2:Below w0.heap.size w0 w2:=(hbel.alloc hsz _).grown hgrow (by simp;omega) (fun g hg=>(World.ownsRow.lt hown g hg).1)
    clear hgrow hown
    go_wp2
    go_roundg d
    case measure=>have:=HD.out;omega
    case rel=>exact ⟨t.extract 0 d,ws++[v],rfl,by rw [HUS.out];exact Nat.le_refl _,by rw [HUS.out];omega,by rw [List.length_append,List.map_append];exact hown',HP.out,hb2⟩
   ·obtain ⟨q1,q2⟩:=hinv.out.done HLD.out (by omega)
    have hpd:zap t.data.toList=true:=by
     rw [hinv.out.1]
     have:=zcP l HLD.out 0 t.size
     rwa [List.drop_zero] at this
    have hwl:ws.length≤1000000:=by
     have h1:=hinv.out.2.2.2.1
     have h3:=LB.out
     omega
    have HV:=Lib.hid (zdp t wr hpd (by omega))
    have d9:decide ((9:Int)<(t.size:Int))=false:=by simp;omega
    generalize zaf t.data.toList=v at *
    have HQ:=Lib.hid q1
    have HQ2:=Lib.hid q2
    clear hpd q1 q2 hinv
    go_wp2_with fail
    refine HV.out.mono ?_
    rintro e w2 ⟨rfl,hw2⟩
    obtain rfl:wr=w2:=hw2
    go_wp2_with (at_builtin;refine wpList_append_own _ rfl _ _ 35 rfl w0.heap.size 3 i0 (.int .i64 0) 1 8 Tryz.underlying35 hi0 hz0 hz1 hz2 rfl (by decide) _ _ _ rfl (hown.alloc _) ⟨wr.heap.size,0,none⟩ 1 1 [.int .i64 (v:Int)] rfl rfl ?c1 ?c2 ?c3 ?c4 ?c5 ?_)
    case c1=>exact cell_one_new _ _ _
    case c2=>intro u hu;simp at hu;subst hu;rfl
    case c3=>unfold maxLen;omega
    case c4=>omega
    case c5=>simp;omega
    intro v' w2 hown' hgrow _
    have hb2:Below w0.heap.size w0 w2:=(hbel.alloc hsz _).grown hgrow (by simp;omega) (fun g hg=>(World.ownsRow.lt hown g hg).1)
    clear hgrow hown
    have hown2:w2.ownsRow w0.heap.size 3 1 v' (ws.length+1) ((ws++[v]).map natv):=by rw [List.map_append];exact hown'
    obtain ⟨A9,c9,rfl,h91,h92,h93⟩:=zbo hown2
    have hsg:=fun b=>zbe b A9 (ws.length+1) c9 (ws++[v]) w2 ⟨h93,h91,h92,HQ.out⟩ (by omega)
    simp only [HQ2.out,HLX.out] at hsg
    have HS:=Lib.hid hsg
    have hkb:=hk.below hb2 hk.lt
    clear hsg hown' hown2 h93
    go_wp2_with fail
    refine (HS.out _).mono ?_
    rintro e w6 ⟨A6,m6,c6,rfl,hd6,hb6⟩
    have hk6:=hkb.below hb6 hkb.lt
    have e0:w6.cell? ⟨w.heap.size,0,none⟩=some (.bool false):=hk6.cell 0
    have e1:w6.cell? ⟨w.heap.size,1,none⟩=some (.slice none 0 0):=hk6.cell 1
    have f0:w6.frozen? ⟨w.heap.size,0,none⟩=false:=hk6.frozen 0
    have f1:w6.frozen? ⟨w.heap.size,1,none⟩=false:=hk6.frozen 1
    have hB:=hb0.trans ((hb2.trans (hb6.mono hb2.size)).mono hb0.size)
    clear hb6
    go_wp2_with fail
    refine bodyPost_ret (v := .agg #[.bool (decide (sgn _ x<0)),.slice A6 m6 c6]) (by simp [results,Tryz.results169,go_sem,e0,e1];first | rfl | done) rfl ?_
    exact ⟨A6,m6,c6,rfl,hd6.box hk6 _ _,zbc hB (by omega) _ _⟩
theorem zny (b:Bool) (x y:Nat) (hy:0<y):zb4 (sgn b x) y=⟨decide (sgn b (x / Nat.gcd x y)<0),x / Nat.gcd x y,y / Nat.gcd x y⟩:=by
 unfold zb4
 rw [zcg,zdm,zdm,zle _ _ _ hy]
 congr 1
 rcases Nat.eq_zero_or_pos x with h | h
 ·subst h
  simp
 ·have h1:0<x / Nat.gcd x y:=Nat.div_pos (Nat.gcd_le_left _ h) (Nat.gcd_pos_of_pos_right _ hy)
  have h2:decide (0<x)=true:=by simpa using h
  have h3:decide (x / Nat.gcd x y=0)=false:=by simp only [decide_eq_false_iff_not];omega
  have h4:decide (0<x / Nat.gcd x y)=true:=by simpa using h1
  rw [h2,h3,h4]
  cases b<;>rfl
theorem zkt {x n:Nat} (h:(digs x).length=n):(Lib.decDigits x).length≤9*n+1:=by
 rcases Nat.eq_zero_or_pos n with h0 | h0
 ·have:x=0:=zaT.1 (by omega)
  subst this
  rw [Dec.dec_lt (by omega)]
  simp
 ·have h1:=zaa x
  rw [h] at h1
  have h2:=zhf h0 h1 0
  rw [Nat.pow_zero,Nat.div_one] at h2
  omega
theorem zfk (b:Bool) (t:List UInt8):(sgnT b t).length≤t.length+1:=by
 unfold sgnT
 cases b<;>simp
set_option maxHeartbeats 4000000 in
set_option maxRecDepth 100000 in
theorem zeo (b:Bool) (x y:Nat) (A1 A2:Option Addr) (n1 c1 n2 c2:Nat) (w:World) (h1:DigI w A1 n1 c1 (digs x)) (h2:DigI w A2 n2 c2 (digs y)) (hy:0<y) (k1:n1≤500000) (k2:n2≤500000) :
  Calls Tryz.prog 103 #[.agg #[.bool b,.slice A1 n1 c1],.agg #[.bool false,.slice A2 n2 c2]] w fun e w'=>(∃ s:ByteArray,e = .returned (.string s)∧s.data.toList=zay (zb4 (sgn b x) y))∧Below w.heap.size w w':=by
 rw [zny b x y hy]
 have hB:Below w.heap.size w ((w.alloc (.cells #[.bool b,.slice A1 n1 c1] 152)).alloc (.cells #[.bool false,.slice A2 n2 c2] 152)):=((Below.refl _ _).alloc (Nat.le_refl _) _).alloc (by simp) _
 have hx0:CBlk ((w.alloc (.cells #[.bool b,.slice A1 n1 c1] 152)).alloc (.cells #[.bool false,.slice A2 n2 c2] 152)) w.heap.size #[.bool b,.slice A1 n1 c1] 152:=(CBlk.new w _ _ _ rfl).below ((Below.refl _ _).alloc (Nat.le_refl _) _) (by simp)
 have hx1:CBlk ((w.alloc (.cells #[.bool b,.slice A1 n1 c1] 152)).alloc (.cells #[.bool false,.slice A2 n2 c2] 152)) (w.heap.size+1) #[.bool false,.slice A2 n2 c2] 152:=CBlk.new (w.alloc (.cells #[.bool b,.slice A1 n1 c1] 152)) _ _ (w.heap.size+1) (by simp)
 have h1d:=Lib.hid h1
 have h2d:=Lib.hid h2
 obtain ⟨g,hg⟩:∃ g,g=Nat.gcd x y:=⟨_,rfl⟩
 have hg0:0<g:=by rw [hg];exact Nat.gcd_pos_of_pos_right _ hy
 have hgy:g≤y:=by rw [hg];exact Nat.gcd_le_right _ hy
 have hg5:(digs g).length≤n2:=by rw [←h2.len];exact zac hgy
 have hxl:(digs (x / g)).length≤n1:=by rw [←h1.len];exact zac (Nat.div_le_self _ _)
 have hyl:(digs (y / g)).length≤n2:=by rw [←h2.len];exact zac (Nat.div_le_self _ _)
 have HG5:=Lib.hid hg5
 have HXL:=Lib.hid hxl
 have HYL:=Lib.hid hyl
 rw [←hg]
 obtain ⟨X,hX⟩:∃ X,X=x / g:=⟨_,rfl⟩
 obtain ⟨Y,hY⟩:∃ Y,Y=y / g:=⟨_,rfl⟩
 obtain ⟨z,hz⟩:∃ z,z=sgn b X:=⟨_,rfl⟩
 rw [←hX,←hY,←hz]
 have HX:=Lib.hid hX
 have HY:=Lib.hid hY
 have HZ:=Lib.hid hz
 have HG:=Lib.hid hg
 have HG0:=Lib.hid hg0
 rw [←hX] at HXL
 rw [←hY] at HYL
 clear h1 h2 hg hg5 hxl hyl hgy hg0 hX hY hz
 go_enter Tryz.func103,Tryz.ntmps103
 go_upto_region 1 with (fail)
 generalize ((w.alloc (.cells #[.bool b,.slice A1 n1 c1] 152)).alloc (.cells #[.bool false,.slice A2 n2 c2] 152))=w3 at *
 have a0:w3.cell? ⟨w.heap.size,0,none⟩=some (.bool b):=hx0.cell 0
 have a1:w3.cell? ⟨w.heap.size,1,none⟩=some (.slice A1 n1 c1):=hx0.cell 1
 have q0:w3.cell? ⟨w.heap.size+1,0,none⟩=some (.bool false):=hx1.cell 0
 have q1:w3.cell? ⟨w.heap.size+1,1,none⟩=some (.slice A2 n2 c2):=hx1.cell 1
 have al:=hx0.lt
 have bl:=hx1.lt
 clear hx0 hx1
 go_wp2_with fail
 refine (zdJ A1 A2 n1 c1 n2 c2 x y w3 (h1d.out.later hB) (h2d.out.later hB) (by omega) (by omega)).mono ?_
 rintro e w4 ⟨A5,m5,c5,rfl,hd5,hb4⟩
 rw [←HG.out] at hd5
 clear q0
 replace a0:=(hb4.cell (p:=⟨w.heap.size,0,none⟩) al).trans a0
 replace a1:=(hb4.cell (p:=⟨w.heap.size,1,none⟩) al).trans a1
 replace q1:=(hb4.cell (p:=⟨w.heap.size+1,1,none⟩) bl).trans q1
 replace hB:=hB.trans (hb4.mono hB.size)
 replace al:=Nat.lt_of_lt_of_le al hb4.size
 replace bl:=Nat.lt_of_lt_of_le bl hb4.size
 have hm5:m5≤n2:=by rw [←hd5.len];exact HG5.out
 clear hb4
 go_wp2_with fail
 refine (zcx A1 A5 n1 c1 m5 c5 x g w4 (h1d.out.later hB) hd5 HG0.out (by omega) (by omega)).mono ?_
 rintro e w5 ⟨Ap,mp,cp,Ar,mr,cr,rfl,hdp,_,hb5⟩
 rw [←HX.out] at hdp
 replace a0:=(hb5.cell (p:=⟨w.heap.size,0,none⟩) al).trans a0
 replace a1:=(hb5.cell (p:=⟨w.heap.size,1,none⟩) al).trans a1
 replace q1:=(hb5.cell (p:=⟨w.heap.size+1,1,none⟩) bl).trans q1
 replace hB:=hB.trans (hb5.mono hB.size)
 replace al:=Nat.lt_of_lt_of_le al hb5.size
 replace bl:=Nat.lt_of_lt_of_le bl hb5.size
 replace hd5:=hd5.later hb5
 clear hb5
 go_wp2_with fail
 refine (zcx A2 A5 n2 c2 m5 c5 y g w5 (h2d.out.later hB) hd5 HG0.out (by omega) (by omega)).mono ?_
 rintro e w6 ⟨Aq,mq,cq,Ar2,mr2,cr2,rfl,hdq,_,hb6⟩
 rw [←HY.out] at hdq
 replace a0:=(hb6.cell (p:=⟨w.heap.size,0,none⟩) al).trans a0
 replace a1:=(hb6.cell (p:=⟨w.heap.size,1,none⟩) al).trans a1
 replace q1:=(hb6.cell (p:=⟨w.heap.size+1,1,none⟩) bl).trans q1
 replace hB:=hB.trans (hb6.mono hB.size)
 replace al:=Nat.lt_of_lt_of_le al hb6.size
 replace bl:=Nat.lt_of_lt_of_le bl hb6.size
 replace hdp:=hdp.later hb6
 clear hb6 hd5
 have hmp:mp≤n1:=by rw [←hdp.len];exact HXL.out
 have hmq:mq≤n2:=by rw [←hdq.len];exact HYL.out
 have hmq1:=hdq.len
 have hxl9:=zkt hdp.len
 have hyl9:=zkt hdq.len
 have HS1:=zbe b Ap mp cp (digs X) w6 hdp (by omega)
 rw [zai,←HZ.out] at HS1
 have HZA:=zcg b X
 have HZN:=zdm b X
 rw [←HZ.out] at HZA HZN
 have HS:=Lib.hid HS1
 have HZA':=Lib.hid HZA
 have HZN':=Lib.hid HZN
 have HMQ:=Lib.hid hmq1
 have HXL9:=Lib.hid hxl9
 have HYL9:=Lib.hid hyl9
 clear HS1 HZA HZN hdp hmq1 hxl9 hyl9
 go_wp2_with fail
 refine HS.out.mono ?_
 rintro e w7 ⟨A7,m7,c7,rfl,hd7,hb7⟩
 replace a0:=(hb7.cell (p:=⟨w.heap.size,0,none⟩) al).trans a0
 replace a1:=(hb7.cell (p:=⟨w.heap.size,1,none⟩) al).trans a1
 replace q1:=(hb7.cell (p:=⟨w.heap.size+1,1,none⟩) bl).trans q1
 replace hB:=hB.trans (hb7.mono hB.size)
 replace al:=Nat.lt_of_lt_of_le al hb7.size
 replace bl:=Nat.lt_of_lt_of_le bl hb7.size
 replace hdq:=hdq.later hb7
 clear hb7 HS
 rw [HZA'.out] at hd7
 have hm7:m7≤n1∨True := .inr trivial
 have HT7:=zfI (decide (z<0)) X A7 m7 c7 w7 hd7 (by rw [HZN'.out];simp) (by rw [←hd7.len];have:=HXL.out;have:=HXL9.out;have:=hmp;omega)
 have HT:=Lib.hid HT7
 clear HT7 hm7
 go_wp2_with fail
 refine HT.out.mono ?_
 rintro e w8 ⟨⟨s,rfl,hs⟩,hb8⟩
 replace a0:=(hb8.cell (p:=⟨w.heap.size,0,none⟩) al).trans a0
 replace a1:=(hb8.cell (p:=⟨w.heap.size,1,none⟩) al).trans a1
 replace q1:=(hb8.cell (p:=⟨w.heap.size+1,1,none⟩) bl).trans q1
 replace hB:=hB.trans (hb8.mono hB.size)
 replace al:=Nat.lt_of_lt_of_le al hb8.size
 replace bl:=Nat.lt_of_lt_of_le bl hb8.size
 replace hdq:=hdq.later hb8
 have hsz:s.size≤4500003:=by
  have h9:s.data.toList.length=s.size:=Array.length_toList
  have h8:=zfk (decide (z<0)) (Lib.decDigits X)
  rw [←hs] at h8
  have:=HXL9.out
  omega
 have HSS:=Lib.hid hs
 clear hb8 HT hs hd7 a0 a1 q1
 by_cases hY:Y=1
 ·subst hY
  have h1l:(digs 1).length=1:=by rw [zbk (by omega) (by decide)];rfl
  obtain rfl:mq=1:=by rw [←HMQ.out];exact h1l
  obtain ⟨ad,hkl,rfl,hbb,hcell⟩:=hdq.rd.cellM (k:=0) (by omega)
  have he:(digs 1)[0]=1:=by
   have:digs 1=[1]:=zbk (by omega) (by decide)
   simp [this]
  unfold natv at hcell
  rw [he] at hcell
  replace hcell:w8.cell? ad=some (.int .i64 1):=hcell
  have HR:Hid (s.data.toList=zay ⟨decide (z<0),X,1⟩):=by
   show s.data.toList=_
   rw [zaV,HSS.out]
   simp
  clear h1l hkl he
  go_wp2
  go_ret
  exact ⟨⟨s,rfl,HR.out⟩,hB⟩
 ·have hcase:(((mq:Int)==1)=false)∨(mq=1∧∃ ad v:_,Aq=some ad∧w8.cell? ad=some (.int .i64 (v:Int))∧((v==1)=false)):=by
   by_cases hm:mq=1
   ·subst hm
    obtain ⟨ad,hkl,rfl,hbb,hcell⟩:=hdq.rd.cellM (k:=0) (by omega)
    refine .inr ⟨rfl,ad,(((digs Y)[0]:Nat):Int),rfl,hcell,?_⟩
    rw [beq_eq_false_iff_ne]
    intro h9
    apply hY
    have h8:(digs Y)[0]=1:=by omega
    have h7:digs Y=[1]:=by
     apply List.ext_getElem
     ·rw [HMQ.out];rfl
     ·intro i hi1 hi2
      have:i=0:=by simp at hi2;omega
      subst this
      simpa using h8
    rw [←zai Y,h7]
    simp
   ·exact .inl (by rw [beq_eq_false_iff_ne];omega)
  have HS2:=zbe false Aq mq cq (digs Y) w8 hdq (by omega)
  rw [zai] at HS2
  have HS2':=Lib.hid HS2
  have HBH:=Lib.hid hB
  have HZ9:Hid ((sgn false Y).natAbs=Y∧decide (sgn false Y<0)=false):=⟨zcg _ _,by rw [zdm];rfl⟩
  generalize sgn false Y=z2 at *
  have HNY:=Lib.hid hY
  clear HS2 hY hB
  rcases hcase with d1 | ⟨rfl,ad,v,rfl,hcv,hv1⟩
  all_goals
   go_wp2_with fail
   refine HS2'.out.mono ?_
   rintro e w9 ⟨A9,m9,c9,rfl,hd9,hb9⟩
   rw [HZ9.out.1] at hd9
   rw [HZ9.out.2]
   have HT9:=Lib.hid (zfI false Y A9 m9 c9 w9 hd9 (by intro h;cases h) (by rw [←hd9.len];have:=HYL.out;have:=HMQ.out;omega))
   go_wp2_with fail
   refine HT9.out.mono ?_
   rintro e w10 ⟨⟨s2,rfl,hs2⟩,hb10⟩
   have hsz2:s2.size≤4500003:=by
    have h9:s2.data.toList.length=s2.size:=Array.length_toList
    rw [hs2] at h9
    have h8:=zfk false (Lib.decDigits Y)
    have:=HYL9.out
    omega
   have HR:Hid (((s++⟨#[47]⟩)++s2).data.toList=zay ⟨decide (z<0),X,Y⟩):=by
    show ((s++⟨#[47]⟩)++s2).data.toList=_
    rw [zaV,if_neg HNY.out,ByteArray.data_append,ByteArray.data_append,Array.toList_append,Array.toList_append,HSS.out,hs2,List.append_assoc]
    rfl
   clear hs2 hd9
   go_wp2
   go_ret
   exact ⟨⟨_,rfl,HR.out⟩,HBH.out.trans ((hb9.trans (hb10.mono hb9.size)).mono HBH.out.size)⟩
set_option maxHeartbeats 1000000 in
theorem zqj (x y:Nat) (w:World) (hx:x≤4000000000000000000) (hy:y≤4000000000000000000) :
  Calls Tryz.prog 167 #[.int .i64 (x:Int),.int .i64 (y:Int)] w fun e w'=>e = .returned (.int .i64 ((Nat.gcd x y:Nat):Int))∧Below w.heap.size w w':=by
 go_enter Tryz.func167,Tryz.ntmps167
 go_wp2
 go_loopg [0,1] y (fun q v0 v1 W=>∃ u v:Nat,v0 = .int .i64 (u:Int)∧v1 = .int .i64 (v:Int)∧v≤q∧u≤4000000000000000000∧v≤4000000000000000000∧Hid (Nat.gcd u v=Nat.gcd x y)∧Below w.heap.size w W)
 case atStart=>exact ⟨x,y,rfl,rfl,Nat.le_refl _,hx,hy,rfl,Below.refl _ _⟩
 case round=>
  obtain ⟨u,v,rfl,rfl,hq,hu,hv,hg,hbel⟩:=hrel
  by_cases h0:v=0
  ·subst h0
   have hR:Nat.gcd x y=u:=by rw [←hg.out,Nat.gcd_zero_right]
   have HR:=Lib.hid hR
   clear hR hg
   go_wp2
   go_ret
   exact ⟨by rw [HR.out];rfl,hbel⟩
  ·have d1:decide (0<v)=true:=by simp;omega
   obtain ⟨r,hr⟩:∃ r,r=u % v:=⟨_,rfl⟩
   have hrv:r<v:=by rw [hr];exact Nat.mod_lt _ (by omega)
   have HG:Hid (Nat.gcd v r=Nat.gcd x y):=by
    show Nat.gcd v r=Nat.gcd x y
    rw [hr,←hg.out,Nat.gcd_comm v (u % v),←Nat.gcd_rec,Nat.gcd_comm]
   have z1:((v:Int)==0)=false:=by rw [beq_eq_false_iff_ne];omega
   have f1:Int.tmod (u:Int) (v:Int)=(r:Int):=by rw [Int.tmod_eq_emod_of_nonneg (by omega),←Int.natCast_emod,←hr]
   clear hr hg h0
   go_upto_region 2 with (fail)
   go_quiet (fail)
   clear f1
   go_wp2
   go_roundg r
   case measure=>omega
   case rel=>exact ⟨v,r,rfl,rfl,Nat.le_refl _,hv,by omega,HG.out,zab hbel _⟩
set_option maxHeartbeats 4000000 in
set_option maxRecDepth 100000 in
theorem znH (b:Bool) (x y:Nat) (w:World) (hx:x≤4000000000000000000) (hy:y≤4000000000000000000) (hy0:0<y) :
  Calls Tryz.prog 101 #[.int .i64 (sgn b x),.int .i64 (y:Int)] w fun e w'=>(∃ s:ByteArray,e = .returned (.string s)∧s.data.toList=zay (zb4 (sgn b x) y))∧Below w.heap.size w w':=by
 rw [zny b x y hy0]
 obtain ⟨g,hg⟩:∃ g,g=Nat.gcd x y:=⟨_,rfl⟩
 have hg0:0<g:=by rw [hg];exact Nat.gcd_pos_of_pos_right _ hy0
 have hgy:g≤y:=by rw [hg];exact Nat.gcd_le_right _ hy0
 have HC:=zqj x y w hx hy
 rw [←hg] at HC ⊢
 obtain ⟨X,hX⟩:∃ X,X=x / g:=⟨_,rfl⟩
 obtain ⟨Y,hY⟩:∃ Y,Y=y / g:=⟨_,rfl⟩
 obtain ⟨z,hz⟩:∃ z,z=sgn b x:=⟨_,rfl⟩
 obtain ⟨z1,hz1⟩:∃ z1,z1=sgn b X:=⟨_,rfl⟩
 have hXx:X≤x:=by rw [hX];exact Nat.div_le_self _ _
 have hYy:Y≤y:=by rw [hY];exact Nat.div_le_self _ _
 have hY0:0<Y:=by rw [hY];exact Nat.div_pos hgy hg0
 have hzb:z=(x:Int)∨z = -(x:Int):=by rw [hz];unfold sgn;cases b<;>simp
 have hz1b:z1=(X:Int)∨z1 = -(X:Int):=by rw [hz1];unfold sgn;cases b<;>simp
 have f1:Int.tdiv z (g:Int)=z1:=by
  have h9:Int.tdiv (x:Int) (g:Int)=(X:Int):=by rw [Int.tdiv_eq_ediv_of_nonneg (by omega),←Int.natCast_ediv,←hX]
  rw [hz,hz1]
  unfold sgn
  cases b
  ·simp [h9]
  ·simp [Int.neg_tdiv,h9]
 have f2:Int.tdiv (y:Int) (g:Int)=(Y:Int):=by rw [Int.tdiv_eq_ediv_of_nonneg (by omega),←Int.natCast_ediv,←hY]
 have f3:IntKind.i64.wrap z1=z1:=IntWalk.i64_in _ (by omega)
 have f4:IntKind.i64.wrap (Y:Int)=(Y:Int):=IntWalk.i64_in _ (by omega)
 have f5:((g:Int)==0)=false:=by rw [beq_eq_false_iff_ne];omega
 rw [←hX,←hY,←hz,←hz1]
 have em:max z (-z)=(x:Int):=by omega
 have em1:max z1 (-z1)=(X:Int):=by omega
 have d1:decide (z < -4000000000000000000)=false:=by simp<;>omega
 have d2:decide (4000000000000000000<z)=false:=by simp<;>omega
 have d3:decide ((y:Int) < -4000000000000000000)=false:=by simp only [decide_eq_false_iff_not];omega
 have d4:decide ((4000000000000000000:Int)<(y:Int))=false:=by simp only [decide_eq_false_iff_not];omega
 have d5:decide ((y:Int)<0)=false:=by simp
 have hzB1 : -4000000000000000000≤z:=by omega
 have hzB2:z≤4000000000000000000:=by omega
 have hz1B1 : -4000000000000000000≤z1:=by omega
 have hz1B2:z1≤4000000000000000000:=by omega
 have hXb:X≤4000000000000000000:=by omega
 have hYb:Y≤4000000000000000000:=by omega
 have HCH:=Lib.hid HC
 clear HC hg hX hY hz hz1 hzb hz1b hgy
 have HD1:=Lib.hid (fun W=>zcu X 1 W (by omega) (by omega))
 have HD2:=Lib.hid (fun W=>zcu Y 1 W (by omega) (by omega))
 have hl1:(Lib.decDigits X).length≤19:=Dec.dec_length_le (by omega) (by have e:(10:Nat) ^ 19=10000000000000000000:=(by decide);omega)
 have hl2:(Lib.decDigits Y).length≤19:=Dec.dec_length_le (by omega) (by have e:(10:Nat) ^ 19=10000000000000000000:=(by decide);omega)
 have HL1:=Lib.hid hl1
 have HL2:=Lib.hid hl2
 clear hl1 hl2
 go_enter Tryz.func101,Tryz.ntmps101
 go_wp2_with fail
 refine HCH.out.mono ?_
 rintro e w1 ⟨rfl,hb1⟩
 clear em d1 d2 d3 d4 d5
 go_upto_region 6 with (fail)
 go_quiet (fail)
 clear f1 f2 f3 f4
 have hbq:=zab hb1
 generalize hw2:w1.drewN _=w2 at *
 have hb2:Below w.heap.size w w2:=by rw [←hw2];exact hbq _
 clear hbq hw2 hb1
 have ed1:∀ s:ByteArray,s.data.toList=Lib.decDigits X→s.size≤19:=fun s hs=>by
  have h9:s.data.toList.length=s.size:=Array.length_toList
  rw [hs] at h9
  have:=HL1.out
  omega
 have ed2:∀ s:ByteArray,s.data.toList=Lib.decDigits Y→s.size≤19:=fun s hs=>by
  have h9:s.data.toList.length=s.size:=Array.length_toList
  rw [hs] at h9
  have:=HL2.out
  omega
 have ED1:=Lib.hid ed1
 have ED2:=Lib.hid ed2
 have EM1:=Lib.hid em1
 clear ed1 ed2
 by_cases hneg:z1<0
 case' pos=>have dn:decide (z1<0)=true:=by simpa using hneg
 case' neg=>have dn:decide (z1<0)=false:=by simpa using hneg
 case' pos=>obtain ⟨pr,hpr⟩:∃ pr:List UInt8,pr=[45]:=⟨_,rfl⟩
 case' neg=>obtain ⟨pr,hpr⟩:∃ pr:List UInt8,pr=[]:=⟨_,rfl⟩
 case' pos=>have hsg:Hid (∀ l,sgnT (decide (z1<0)) l=[45]++l):=fun l=>by rw [dn];rfl
 case' neg=>have hsg:Hid (∀ l,sgnT (decide (z1<0)) l=[]++l):=fun l=>by rw [dn];rfl
 all_goals
  go_wp2_with fail
  refine (HD1.out w2).mono ?_
  rintro e w3 ⟨⟨s,rfl,hs⟩,hw⟩
  obtain rfl:w2=w3:=hw
  rw [zhq] at hs
  have hss:=ED1.out s hs
  have HS:=Lib.hid hs
  clear hs
  by_cases hY1:Y=1
  ·have dy:decide ((1:Int)<(Y:Int))=false:=by simp only [decide_eq_false_iff_not];omega
   have HY1:=Lib.hid hY1
   clear hY1
   have HR:Hid (∀ t:ByteArray,t.data.toList=pr++s.data.toList→t.data.toList=zay ⟨decide (z1<0),X,Y⟩):=fun t ht=>by
    rw [zaV,if_pos HY1.out,hsg.out,List.append_nil,ht,hpr,HS.out]
   have HPR:=Lib.hid hpr
   clear hpr
   go_wp2
   go_ret
   exact ⟨⟨_,rfl,HR.out _ (by rw [HPR.out];first | rfl | (rw [ByteArray.data_append,Array.toList_append];rfl))⟩,hb2⟩
  ·have dy:decide ((1:Int)<(Y:Int))=true:=by simp only [decide_eq_true_eq];omega
   have HY1:=Lib.hid hY1
   clear hY1
   have HPR:=Lib.hid hpr
   clear hpr
   go_wp2_with fail
   refine (HD2.out w2).mono ?_
   rintro e w3 ⟨⟨s2,rfl,hs2⟩,hw⟩
   obtain rfl:w2=w3:=hw
   rw [zhq] at hs2
   have hss2:=ED2.out s2 hs2
   have HR:Hid (∀ t:ByteArray,t.data.toList=(pr++s.data.toList)++[47]++s2.data.toList→t.data.toList=zay ⟨decide (z1<0),X,Y⟩):=fun t ht=>by
    rw [zaV,if_neg HY1.out,hsg.out,ht,HPR.out,HS.out,hs2,List.append_assoc]
    rfl
   clear hs2
   go_wp2
   go_ret
   exact ⟨⟨_,rfl,HR.out _ (by rw [HPR.out];simp only [ByteArray.data_append,Array.toList_append])⟩,hb2⟩
end Go.Proofs.YtmkihdjolnlccaaGreatDoor
