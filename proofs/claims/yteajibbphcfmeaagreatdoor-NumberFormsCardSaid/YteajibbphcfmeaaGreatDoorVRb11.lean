/- Contracts of the reference's integers: common, whole. -/
import Derived.Test.YteajibbphcfmeaaGreatDoorVRb8
import Derived.Test.YteajibbphcfmeaaGreatDoorVCode
namespace Go.Proofs.YteajibbphcfmeaaGreatDoor
open Go.RowKit Dn
set_option maxHeartbeats 2000000 in
set_option maxRecDepth 100000 in
theorem zeU (A A':Option Addr) (n c n' c' x y:Nat) (w:World) (ha:DigI w A n c (digs x)) (hb:DigI w A' n' c' (digs y)) (hn:n≤1048576) (hn':n'≤1048576) :
  Calls Tryz.prog 62 #[.slice A n c,.slice A' n' c'] w (znb w (Nat.gcd x y)):=by
 go_enter Tryz.func62,Tryz.ntmps62
 go_wp2
 go_loopg [0,1] y (fun q av bv W=>∃ (A:Option Addr) (n c:Nat) (A':Option Addr) (n' c' u v:Nat),av = .slice A n c∧bv = .slice A' n' c'∧DigI W A n c (digs u)∧DigI W A' n' c' (digs v)∧n≤1048576∧n'≤1048576∧Hid (Nat.gcd u v=Nat.gcd x y)∧v≤q∧Below w.heap.size w W)
 case atStart=>exact ⟨A,n,c,A',n',c',x,y,rfl,rfl,ha,hb,hn,hn',rfl,Nat.le_refl _,Below.refl _ _⟩
 case round=>
  obtain ⟨A,n,c,A',n',c',u,v,rfl,rfl,h1,h2,hn,hn',hg,hq,aA⟩:=hrel
  have aC:=h2.len
  by_cases hv:v=0
  ·obtain rfl:n'=0:=by rw [←aC,hv,digs_zero];rfl
   have aG:Nat.gcd x y=u:=by rw [←hg.out,hv,Nat.gcd_zero_right]
   have HR:Hid (znb w (Nat.gcd x y) (.returned (.slice A n c)) wr):=⟨A,n,c,rfl,by rw [aG];exact h1,aA⟩
   clear hv aG aC
   go_wp2
   go_ret
   exact HR.out
  ·have aE:0<v:=by omega
   have aK:0<n':=by rw [←aC];exact zan aE
   have aD:=Nat.mod_lt u aE
   have HO:=Lib.hid (zdA A A' n c n' c' u v wr h1 h2 aE hn hn')
   have HG:Hid (Nat.gcd v (u % v)=Nat.gcd x y):=by
    show Nat.gcd v (u % v)=Nat.gcd x y
    rw [←hg.out,Nat.gcd_comm v (u % v),←Nat.gcd_rec,Nat.gcd_comm]
   have aI:=Lib.hid aC
   have d1:decide (0<n')=true:=by simpa using aK
   clear hv aC
   go_wp2_with fail
   refine HO.out.mono ?_
   rintro e w2 ⟨A3,n3,c3,A4,n4,c4,rfl,aM,aH,aF⟩
   have aL:n4≤n':=by rw [←aH.len,←aI.out];exact zaa (Nat.le_of_lt aD)
   have aJ:=h2.later aF
   generalize u % v=r at *
   go_wp2
   go_roundg r
   case measure=>omega
   case rel=>exact ⟨A',n',c',A4,n4,c4,v,r,rfl,rfl,aJ,aH,hn',by omega,HG.out,Nat.le_refl _,aA.trans (aF.mono aA.size)⟩
theorem zjp {ls:List Nat} {k q n:Nat} (hk:ls.length=k) (h:val ls+B ^ k*q=n):val (ls++[q % B])+B ^ (k+1)*(q / B)=n:=by
 rw [zaN,zaS,hk,Nat.pow_succ,Nat.mul_assoc,Nat.add_assoc,←Nat.mul_add,Nat.mod_add_div]
 exact h
set_option maxHeartbeats 2000000 in
set_option maxRecDepth 100000 in
theorem zi2 (n:Nat) (w:World) (hn:n≤9223372036854775807) :
  Calls Tryz.prog 82 #[.int .i64 (n:Int)] w (RetZ w (n:Int)):=by
 obtain ⟨i0,aV,bD,aS,aU⟩:=info_parts zcq
 have aO:Below w.heap.size w (w.alloc (.cells #[.bool false,.slice none 0 0] 84)):=(Below.refl _ _).alloc (Nat.le_refl _) _
 have hk:=CBlk.new w #[.bool false,.slice none 0 0] 84 _ rfl
 have dn:decide ((n:Int)<0)=false:=by simp
 go_enter Tryz.func82,Tryz.ntmps82
 go_wp2
 generalize (w.alloc (.cells #[.bool false,.slice none 0 0] 84))=w0 at *
 go_loopg [0,3] n (fun g v0 v3 W=>∃ (q k:Nat) (ls:List Nat),v0 = .int .i64 (q:Int)∧q≤g∧q≤9223372036854775807∧k≤100∧q≤9223372036854775807 / 2 ^ k∧W.ownsRow w0.heap.size 3 1 v3 k (ls.map natv)∧Hid (Wf ls∧ls.length=k∧val ls+B ^ k*q=n)∧Below w0.heap.size w0 W)
 case atStart=>exact ⟨n,0,[],rfl,Nat.le_refl _,hn,by omega,by simpa using hn,World.ownsRow_nil _ _ _ _,⟨Wf.nil,rfl,by simp⟩,Below.refl _ _⟩
 case round=>
  obtain ⟨q,k,ls,rfl,hq,bF,bH,aJ,aA,hv,aD⟩:=hrel
  have aT:=aD.size
  obtain ⟨hw,hl,aC⟩:=hv.out
  by_cases h0:q=0
  ·subst h0
   rw [Nat.mul_zero,Nat.add_zero] at aC
   obtain ⟨A9,c9,rfl,aY,bA,aP⟩:=zcE aA
   have hs:=zcl false A9 k c9 ls wr ⟨aP,aY,bA,hw⟩ (by omega)
   rw [show sgn false (val ls)=(n:Int) from by rw [aC];rfl] at hs
   have HS:=Lib.hid hs
   have aN:=hk.below aD hk.lt
   have bE:=hk.lt
   clear hs aC hl hw aA aP hv aJ
   go_wp2_with fail
   refine HS.out.mono ?_
   rintro e w6 ⟨A6,m6,c6,rfl,aX,aL⟩
   have aF:=aN.below aL aN.lt
   have e0:w6.cell? ⟨w.heap.size,0,none⟩=some (.bool false):=aF.cell 0
   have e1:w6.cell? ⟨w.heap.size,1,none⟩=some (.slice none 0 0):=aF.cell 1
   have f0:w6.frozen? ⟨w.heap.size,0,none⟩=false:=aF.frozen 0
   have f1:w6.frozen? ⟨w.heap.size,1,none⟩=false:=aF.frozen 1
   have hB:=aO.trans ((aD.trans (aL.mono aD.size)).mono aO.size)
   clear aL
   go_wp2_with fail
   refine bodyPost_ret (v := .agg #[.bool (decide ((n:Int)<0)),.slice A6 m6 c6]) (by simp [results,Tryz.results82,go_sem,e0,e1]) rfl ?_
   exact ⟨A6,m6,c6,rfl,aX.box aF _ _,zcy hB (by omega) _ _⟩
  ·obtain ⟨d,hd⟩:∃ d,d=q % B:=⟨_,rfl⟩
   obtain ⟨q',aI⟩:∃ q',q'=q / B:=⟨_,rfl⟩
   have aQ:d<B:=by rw [hd];exact Nat.mod_lt _ zaL
   have aZ:d<1000000000:=aQ
   have aM:q'≤q / 2:=by rw [aI];unfold B;omega
   have ed:(q:Int) % 1000000000=(d:Int):=by rw [hd];unfold B;omega
   have eq:(q:Int) / 1000000000=(q':Int):=by rw [aI];unfold B;omega
   have aK:=zjp hl aC
   rw [←hd,←aI] at aK
   have HI:Hid (Wf (ls++[d])∧(ls++[d]).length=k+1∧val (ls++[d])+B ^ (k+1)*q'=n):=⟨hw.append (Wf.cons aQ Wf.nil),by simp [hl],aK⟩
   have aG:q'≤9223372036854775807 / 2 ^ (k+1):=by
    rw [Nat.pow_succ,←Nat.div_div_eq_div_mul]
    exact Nat.le_trans aM (Nat.div_le_div_right aJ)
   have aW:k<63:=by
    rcases Nat.lt_or_ge k 63 with h9 | h9
    ·exact h9
    ·exfalso
     have:9223372036854775807 / 2 ^ k≤9223372036854775807 / 2 ^ 63:=Nat.div_le_div_left (Nat.pow_le_pow_right (by omega) h9) (Nat.two_pow_pos _)
     have bG:9223372036854775807 / 2 ^ 63=0:=by decide
     omega
   have aR:=Lib.hid aG
   have d1:((q:Int) != 0)=true:=by rw [bne_iff_ne];omega
   have d2:((q:Int)==0)=false:=by rw [beq_eq_false_iff_ne];omega
   have d3:decide ((d:Int)<0)=false:=by simp
   have bB:q'<q:=by omega
   clear hd aI aK aG aJ aC hl hw hv aM
   go_wp2_with (at_builtin;refine wpList_append_own _ rfl _ _ 45 rfl w0.heap.size 3 i0 (.int .i64 0) 1 8 Tryz.underlying45 aV bD aS aU rfl (by decide) _ _ _ rfl (aA.alloc _) ⟨wr.heap.size,0,none⟩ 1 1 [.int .i64 (d:Int)] rfl rfl ?c1 ?c2 ?c3 ?c4 ?c5 ?_)
   case c1=>exact cell_one_new _ _ _
   case c2=>intro u hu;simp at hu;subst hu;rfl
   case c3=>unfold maxLen;omega
   case c4=>omega
   case c5=>simp;omega
   intro v' w2 aH aE _
   have bC:Below w0.heap.size w0 w2:=(aD.alloc aT _).grown aE (by simp;omega) (fun g hg=>(World.ownsRow.lt aA g hg).1)
   clear aE aA
   go_wp2
   go_roundg q'
   case measure=>omega
   case rel=>exact ⟨q',k+1,ls++[d],rfl,Nat.le_refl _,by omega,by omega,aR.out,by rw [List.map_append];exact aH,HI.out,bC⟩
set_option maxHeartbeats 4000000 in
set_option maxRecDepth 100000 in
theorem zk4 (b:Bool) (x:Nat) (A:Option Addr) (n c:Nat) (w:World) (h:DigI w A n c (digs x)) (hb:b=true→0<x) (hn:n≤524288) :
  Calls Tryz.prog 86 #[.agg #[.bool b,.slice A n c]] w fun e w'=>(∃ s:ByteArray,e = .returned (.string s)∧s.data.toList=sgnT b (Lib.decDigits x))∧Below w.heap.size w w':=by
 have aI:Below w.heap.size w (w.alloc (.cells #[.bool b,.slice A n c] 84)):=(Below.refl _ _).alloc (Nat.le_refl _) _
 have hk:=CBlk.new w #[.bool b,.slice A n c] 84 _ rfl
 have h1:=h.later aI
 have aC:=h.len
 go_enter Tryz.func86,Tryz.ntmps86
 go_upto_region 1 with (fail)
 generalize (w.alloc (.cells #[.bool b,.slice A n c] 84))=w1 at *
 have a0:w1.cell? ⟨w.heap.size,0,none⟩=some (.bool b):=hk.cell 0
 have a1:w1.cell? ⟨w.heap.size,1,none⟩=some (.slice A n c):=hk.cell 1
 by_cases hx:x=0
 ·obtain rfl:n=0:=by rw [←aC,hx,digs_zero];rfl
  obtain rfl:b=false:=by
   cases b
   ·rfl
   ·exact absurd (hb rfl) (by omega)
  have hd:Hid ((⟨#[48]⟩:ByteArray).data.toList=sgnT false (Lib.decDigits x)):=by
   show [48]=sgnT false (Lib.decDigits x)
   rw [hx,Dec.dec_lt (by omega)]
   rfl
  clear hx hb aC
  go_wp2
  go_ret
  exact ⟨⟨_,rfl,hd.out⟩,aI⟩
 ·have aT:0<x:=by omega
  have bD:0<n:=by have:=zan aT;omega
  have aP:x<B ^ n:=by have:=zac x;rwa [aC] at this
  have aM:=zaC aT
  rw [aC] at aM
  have aF:∀ j,j≤n - 1→0<x / B ^ j:=fun j hj=>Nat.div_pos (Nat.le_trans (Nat.pow_le_pow_right zaL hj) aM) (Nat.pow_pos zaL)
  have aD:x / B ^ (n - 1)<B:=Nat.div_lt_of_lt_mul (by rw [←Nat.pow_succ,show (n - 1).succ=n from by omega];exact aP)
  obtain ⟨n1,bB⟩:∃ n1,n=n1+1:=⟨n - 1,by omega⟩
  subst bB
  rw [Nat.add_sub_cancel] at aF aD
  obtain ⟨ad,aZ,rfl,bK,aA⟩:=h1.rd.cellM (k:=n1) (by omega)
  have aU:(digs x)[n1]=x / B ^ n1:=by
   have h9:=zca n1 x
   rw [Dn.getD_in aZ,Nat.mod_eq_of_lt aD] at h9
   exact h9
  unfold natv at aA
  obtain ⟨tw,aH⟩:∃ tw,tw=x / B ^ n1:=⟨_,rfl⟩
  rw [aU,←aH] at aA
  rw [←aH] at aD
  have aS:tw<1000000000:=aD
  have aX:=Lib.hid (zmC bD aP)
  have aN:=Lib.hid aF
  have bG:=Lib.hid aH
  have e1:((n1+1:Nat):Int) - 1=(n1:Int):=by omega
  have e2:((n1+1:Nat):Int) - 2=(n1:Int) - 1:=by omega
  generalize hN:n1+1=N at *
  have HN:=Lib.hid hN
  have bJ:n1<N:=by omega
  have d0:((N:Int)==0)=false:=by rw [beq_eq_false_iff_ne];omega
  have aO:=Lib.hid (zbA tw 1 w1 (by omega) (by omega))
  rw [zdV] at aO
  clear aF aU aH hx hb aP aM aC hN
  go_wp2_with fail
  refine aO.out.mono ?_
  rintro e w2 ⟨⟨s0,rfl,aV⟩,aQ⟩
  obtain rfl:w1=w2:=aQ
  have bF:=Lib.hid aV
  clear aV aO e1 aA
  go_wp2
  go_loopg [3,4] n1 (fun g v3 v4 W=>∃ (j:Nat) (s:ByteArray),j≤n1∧v4 = .int .i64 ((j:Int) - 1)∧v3 = .string s∧j≤g∧Hid (s.data.toList=Lib.decDigits (x / B ^ j))∧w1=W)
  case atStart=>exact ⟨n1,s0,Nat.le_refl _,by first | rfl | go_num,rfl,Nat.le_refl _,by rw [←bG.out];exact bF.out,rfl⟩
  case round=>
   obtain ⟨j,s,hj,rfl,rfl,bI,hs,hW⟩:=hrel
   obtain rfl:w1=wr:=hW
   have bE:s.size≤9*N:=by
    have h9:=aX.out j
    rw [←hs.out] at h9
    simpa using h9
   by_cases h0:0<j
   ·obtain ⟨q,rfl⟩:∃ q,j=q+1:=⟨j - 1,by omega⟩
    have e3:((q+1:Nat):Int) - 1=(q:Int):=by omega
    rw [e3]
    obtain ⟨bM,aG,ea,_,aA⟩:=h1.rd.cellM (k:=q) (by omega)
    injection ea with ea
    subst ea
    have aW:=zap x _ (List.getElem_mem aG)
    have aK:=zk7 x q (aN.out (q+1) hj)
    rw [←zca,Dn.getD_in aG] at aK
    unfold natv at aA
    generalize (digs x)[q]=v at *
    have bA:v<1000000000:=aW
    have aR:=zbA v 9 w1 (by omega) (by omega)
    rw [zkp aW] at aR
    have aY:=Lib.hid aR
    have bH:=Lib.hid aK
    clear aK aR e3
    go_wp2_with fail
    refine aY.out.mono ?_
    rintro e w2 ⟨⟨s9,rfl,aJ⟩,aQ⟩
    obtain rfl:w1=w2:=aQ
    have bL:=Lib.hid aJ
    have HI:Hid ((s++s9).data.toList=Lib.decDigits (x / B ^ q)):=by
     show (s++s9).data.toList=_
     rw [ByteArray.data_append,Array.toList_append,hs.out,aJ,bH.out]
    have aL:s9.size=9:=by
     have h9:s9.data.toList.length=s9.size:=Array.length_toList
     rw [aJ,Dec.pad_length] at h9
     exact h9.symm
    have bC:s9.size≤9:=by omega
    clear aJ aL
    go_wp2
    go_roundg q
    case measure=>omega
    case rel=>exact ⟨q,s++s9,by omega,rfl,rfl,Nat.le_refl _,HI.out,rfl⟩
   ·obtain rfl:j=0:=by omega
    have aE:s.data.toList=Lib.decDigits x:=by have:=hs.out;simpa using this
    cases b
    ·have HR:Hid (s.data.toList=sgnT false (Lib.decDigits x)):=aE
     clear aE hs
     go_wp2
     go_ret
     exact ⟨⟨s,rfl,HR.out⟩,aI⟩
    ·have HR:Hid (((⟨#[45]⟩:ByteArray)++s).data.toList=sgnT true (Lib.decDigits x)):=by
      show ((⟨#[45]⟩:ByteArray)++s).data.toList=_
      rw [ByteArray.data_append,Array.toList_append,aE]
      rfl
     clear aE hs
     go_wp2
     go_ret
     exact ⟨⟨_,rfl,HR.out⟩,aI⟩
theorem zkh {b:Bool} {x:Nat} {s:ByteArray} (hs:s.data.toList=sgnT b (Lib.decDigits x)):∃ h:0<s.size,(((s[0]'h).toNat:Int)==45)=b:=by
 have hl:=congrArg List.length hs
 rw [Array.length_toList] at hl
 have hd:=za8 x
 have hp:=Dec.dec_length_pos x
 cases b
 ·have aA:s.data.size=(Lib.decDigits x).length:=hl
  have h0:0<s.size:=by show 0<s.data.size;omega
  refine ⟨h0,?_⟩
  have he:s[0]'h0=(Lib.decDigits x)[0]'hp:=by
   have:s[0]'h0=s.data.toList[0]'(by rw [Array.length_toList];exact h0):=rfl
   rw [this]
   simp only [hs]
   rfl
  have hm:=zd1 hd (List.getElem_mem hp)
  rw [he,beq_eq_false_iff_ne]
  omega
 ·have aA:s.data.size=(Lib.decDigits x).length+1:=hl
  have h0:0<s.size:=by show 0<s.data.size;omega
  refine ⟨h0,?_⟩
  have he:s[0]'h0=45:=by
   have:s[0]'h0=s.data.toList[0]'(by rw [Array.length_toList];exact h0):=rfl
   rw [this]
   simp only [hs]
   rfl
  rw [he]
  decide
def zb6 (l:List UInt8) (t:ByteArray) (ws:List Nat):Prop:=t.data.toList=l.take t.size∧t.size≤l.length∧Wf ws∧l.length - t.size=9*ws.length∧val ws=zai (l.drop t.size)
theorem zb6.start {l:List UInt8} {t:ByteArray} (h:t.data.toList=l):zb6 l t []:=by
 have hl:l.length=t.size:=by rw [←h,Array.length_toList];rfl
 refine ⟨by rw [←hl,List.take_length];exact h,by omega,Wf.nil,by simp;omega,?_⟩
 rw [←hl,List.drop_length]
 rfl
theorem zgh {l:List UInt8} (hd:zas l=true) (a b:Nat) (hb:b≤9):zai ((l.drop a).take b)<B:=by
 have h1:=zcc _ (zdt l hd a b)
 have h2:10 ^ ((l.drop a).take b).length≤10 ^ 9:=Nat.pow_le_pow_right (by omega) (by rw [List.length_take];omega)
 rw [zmS]
 omega
theorem zb6.next {l:List UInt8} {t u v:ByteArray} {ws:List Nat} {d:Nat} (h:zb6 l t ws) (hd:zas l=true) (h9:9<t.size) (hdd:d=t.size - 9) (hu:u=t.extract 0 d) (hv:v=t.extract d t.size) :
  v.data.toList=(l.drop d).take 9∧v.size=9∧u.size=d∧zb6 l u (ws++[zai ((l.drop d).take 9)]):=by
 obtain ⟨h1,h2,h3,h4,h5⟩:=h
 have aD:v.data.toList=(l.drop d).take 9:=by
  rw [hv,zbT,h1,List.drop_take,List.take_take]
  congr 1
  omega
 have aA:u.size=d:=by rw [hu];simp;omega
 refine ⟨aD,by rw [hv];simp;omega,aA,?_⟩
 have aC:=zf5 l ws t.size d (by omega) h2 h4 h5
 rw [show t.size - d=9 from by omega] at aC
 refine ⟨?_,by rw [aA];omega,h3.append (Wf.cons (zgh hd _ _ (by omega)) Wf.nil),?_,?_⟩
 ·rw [aA,hu,zbT,List.drop_zero,Nat.sub_zero,h1,List.take_take]
  congr 1
  omega
 ·rw [aA,List.length_append]
  simp only [List.length_cons,List.length_nil]
  omega
 ·rw [aA]
  exact aC
theorem zb6.done {l:List UInt8} {t:ByteArray} {ws:List Nat} (h:zb6 l t ws) (hd:zas l=true) (h9:t.size≤9):Wf (ws++[zai t.data.toList])∧val (ws++[zai t.data.toList])=zai l:=by
 obtain ⟨h1,h2,h3,h4,h5⟩:=h
 have aA:=zf5 l ws t.size 0 (by omega) h2 h4 h5
 rw [List.drop_zero,Nat.sub_zero,←h1] at aA
 refine ⟨h3.append (Wf.cons ?_ Wf.nil),aA⟩
 have:=zgh hd 0 t.size h9
 rw [List.drop_zero,←h1] at this
 exact this
set_option maxHeartbeats 4000000 in
set_option maxRecDepth 100000 in
theorem zed (s:ByteArray) (b:Bool) (x:Nat) (w:World) (hs:s.data.toList=sgnT b (Lib.decDigits x)) (hsz:s.size≤1000000) :
  Calls Tryz.prog 120 #[.string s] w (RetZ w (sgn b x)):=by
 obtain ⟨i0,aV,bC,aT,aU⟩:=info_parts zcq
 have aX:Below w.heap.size w (w.alloc (.cells #[.bool false,.slice none 0 0] 84)):=(Below.refl _ _).alloc (Nat.le_refl _) _
 have hk:=CBlk.new w #[.bool false,.slice none 0 0] 84 _ rfl
 obtain ⟨h0,aW⟩:=zkh hs
 obtain ⟨c0,aL⟩:∃ c0:Nat,(s[0]'h0).toNat=c0:=⟨_,rfl⟩
 rw [aL] at aW
 have d0:decide (0<s.size)=true:=by simpa using h0
 obtain ⟨l,hl⟩:∃ l,l=Lib.decDigits x:=⟨_,rfl⟩
 have aZ:zas l=true:=by rw [hl];exact za8 x
 have bA:zai l=x:=by rw [hl];exact zdo x
 rw [←hl] at hs
 have aK:=Lib.hid aZ
 have bD:=Lib.hid bA
 have hcut:∃ t:ByteArray,t.data.toList=l∧t.size≤s.size∧t=(if b then s.extract 1 s.size else s):=by
  cases b
  ·exact ⟨s,hs,Nat.le_refl _,rfl⟩
  ·refine ⟨s.extract 1 s.size,?_,by simp,rfl⟩
   have bM:l.length+1=s.size:=by
    have:=congrArg List.length hs
    rw [Array.length_toList] at this
    exact this.symm
   rw [zbT,hs]
   show (l.take (s.size - 1))=l
   exact List.take_of_length_le (by omega)
 obtain ⟨t0,aR,bR,aI⟩:=hcut
 have bL:=Lib.hid (zb6.start aR)
 have LB:Hid (l.length≤1000000):=by
  show l.length≤1000000
  rw [←aR,Array.length_toList]
  exact Nat.le_trans bR hsz
 have bK:=Lib.hid aL
 have bF:=Lib.hid aI
 clear hs hl aZ bA aR aL aI
 have bO:(1:Int)≤(s.size:Int):=by omega
 cases b
 all_goals
  have aI:=bF.out
  simp only [if_true,Bool.false_eq_true,if_false] at aI
  first
   |(subst aI)
   |(have bH:=aI.symm)
  have aL:=bK.out
  go_enter Tryz.func120,Tryz.ntmps120
  go_wp2
  clear aL d0 bO aW
  generalize (w.alloc (.cells #[.bool false,.slice none 0 0] 84))=w0 at *
  go_loopg [0,4] 1000000 (fun g v0 v4 W=>∃ (t:ByteArray) (ws:List Nat),v0 = .string t∧t.size≤g∧t.size≤1000000∧W.ownsRow w0.heap.size 3 1 v4 ws.length (ws.map natv)∧Hid (zb6 l t ws)∧Below w0.heap.size w0 W)
  case atStart=>exact ⟨_,[],rfl,by omega,by omega,World.ownsRow_nil _ _ _ _,bL.out,Below.refl _ _⟩
  case round=>
   obtain ⟨t,ws,rfl,hg,ht,aE,aC,aH⟩:=hrel
   have hsz:=aH.size
   have bQ:ws.length≤1000000∨True := .inr trivial
   by_cases h9:9<t.size
   ·obtain ⟨d,hd⟩:∃ d,d=t.size - 9:=⟨_,rfl⟩
    obtain ⟨p1,p2,p3,p4⟩:=aC.out.next aK.out h9 hd rfl rfl
    have aN:zas (t.extract d t.size).data.toList=true:=by rw [p1];exact zdt l aK.out d 9
    have aG:=zfK (t.extract d t.size) wr aN (by omega)
    rw [p1] at aG
    have bP:=zgh aK.out d 9 (by omega)
    have bE:ws.length≤1000000:=by
     have h1:=aC.out.2.2.2.1
     have h2:=p4.2.2.2.1
     have h3:=LB.out
     omega
    generalize zai ((l.drop d).take 9)=v at *
    have ed:(t.size:Int) - 9=(d:Int):=by omega
    have d9:decide ((9:Int)<(t.size:Int))=true:=by simp;omega
    have HV:=Lib.hid aG
    have HP:=Lib.hid p4
    have bB:=Lib.hid p3
    have bS:d≤t.size:=by omega
    have bT:v<1000000000:=bP
    have HD:=Lib.hid hd
    clear p1 p2 p3 p4 aN aG hd aC
    go_wp2_with fail
    refine HV.out.mono ?_
    rintro e w2 ⟨rfl,aQ⟩
    obtain rfl:wr=w2:=aQ
    go_wp2_with (at_builtin;refine wpList_append_own _ rfl _ _ 45 rfl w0.heap.size 3 i0 (.int .i64 0) 1 8 Tryz.underlying45 aV bC aT aU rfl (by decide) _ _ _ rfl (aE.alloc _) ⟨wr.heap.size,0,none⟩ 1 1 [.int .i64 (v:Int)] rfl rfl ?c1 ?c2 ?c3 ?c4 ?c5 ?_)
    case c1=>exact cell_one_new _ _ _
    case c2=>intro u hu;simp at hu;subst hu;rfl
    case c3=>unfold maxLen;omega
    case c4=>omega
    case c5=>simp;omega
    intro v' w2 aD aA _
    have aM:Below w0.heap.size w0 w2:=(aH.alloc hsz _).grown aA (by simp;omega) (fun g hg=>(World.ownsRow.lt aE g hg).1)
    clear aA aE
    go_wp2
    go_roundg d
    case measure=>have:=HD.out;omega
    case rel=>exact ⟨t.extract 0 d,ws++[v],rfl,by rw [bB.out];exact Nat.le_refl _,by rw [bB.out];omega,by rw [List.length_append,List.map_append];exact aD,HP.out,aM⟩
   ·obtain ⟨q1,q2⟩:=aC.out.done aK.out (by omega)
    have aN:zas t.data.toList=true:=by
     rw [aC.out.1]
     have:=zdt l aK.out 0 t.size
     rwa [List.drop_zero] at this
    have bE:ws.length≤1000000:=by
     have h1:=aC.out.2.2.2.1
     have h3:=LB.out
     omega
    have HV:=Lib.hid (zfK t wr aN (by omega))
    have d9:decide ((9:Int)<(t.size:Int))=false:=by simp;omega
    generalize zai t.data.toList=v at *
    have HQ:=Lib.hid q1
    have bG:=Lib.hid q2
    clear aN q1 q2 aC
    go_wp2_with fail
    refine HV.out.mono ?_
    rintro e w2 ⟨rfl,aQ⟩
    obtain rfl:wr=w2:=aQ
    go_wp2_with (at_builtin;refine wpList_append_own _ rfl _ _ 45 rfl w0.heap.size 3 i0 (.int .i64 0) 1 8 Tryz.underlying45 aV bC aT aU rfl (by decide) _ _ _ rfl (aE.alloc _) ⟨wr.heap.size,0,none⟩ 1 1 [.int .i64 (v:Int)] rfl rfl ?c1 ?c2 ?c3 ?c4 ?c5 ?_)
    case c1=>exact cell_one_new _ _ _
    case c2=>intro u hu;simp at hu;subst hu;rfl
    case c3=>unfold maxLen;omega
    case c4=>omega
    case c5=>simp;omega
    intro v' w2 aD aA _
    have aM:Below w0.heap.size w0 w2:=(aH.alloc hsz _).grown aA (by simp;omega) (fun g hg=>(World.ownsRow.lt aE g hg).1)
    clear aA aE
    have aF:w2.ownsRow w0.heap.size 3 1 v' (ws.length+1) ((ws++[v]).map natv):=by rw [List.map_append];exact aD
    obtain ⟨A9,c9,rfl,bJ,bN,aY⟩:=zcE aF
    have aO:=fun b=>zcl b A9 (ws.length+1) c9 (ws++[v]) w2 ⟨aY,bJ,bN,HQ.out⟩ (by omega)
    simp only [bG.out,bD.out] at aO
    have HS:=Lib.hid aO
    have aS:=hk.below aM hk.lt
    clear aO aD aF aY
    go_wp2_with fail
    refine (HS.out _).mono ?_
    rintro e w6 ⟨A6,m6,c6,rfl,bI,aP⟩
    have aJ:=aS.below aP aS.lt
    have e0:w6.cell? ⟨w.heap.size,0,none⟩=some (.bool false):=aJ.cell 0
    have e1:w6.cell? ⟨w.heap.size,1,none⟩=some (.slice none 0 0):=aJ.cell 1
    have f0:w6.frozen? ⟨w.heap.size,0,none⟩=false:=aJ.frozen 0
    have f1:w6.frozen? ⟨w.heap.size,1,none⟩=false:=aJ.frozen 1
    have hB:=aX.trans ((aM.trans (aP.mono aM.size)).mono aX.size)
    clear aP
    go_wp2_with fail
    refine bodyPost_ret (v := .agg #[.bool (decide (sgn _ x<0)),.slice A6 m6 c6]) (by simp [results,Tryz.results120,go_sem,e0,e1];first | rfl | done) rfl ?_
    exact ⟨A6,m6,c6,rfl,bI.box aJ _ _,zcy hB (by omega) _ _⟩
theorem zlB (b:Bool) (x y:Nat) (hy:0<y):zd2 (sgn b x) y=⟨decide (sgn b (x / Nat.gcd x y)<0),x / Nat.gcd x y,y / Nat.gcd x y⟩:=by
 unfold zd2
 rw [zec,zem,zem,zmz _ _ _ hy]
 congr 1
 rcases Nat.eq_zero_or_pos x with h | h
 ·subst h
  simp
 ·have h1:0<x / Nat.gcd x y:=Nat.div_pos (Nat.gcd_le_left _ h) (Nat.gcd_pos_of_pos_right _ hy)
  have h2:decide (0<x)=true:=by simpa using h
  have h3:decide (x / Nat.gcd x y=0)=false:=by simp only [decide_eq_false_iff_not];omega
  have h4:decide (0<x / Nat.gcd x y)=true:=by simpa using h1
  rw [h2,h3,h4]
  cases b<;>rfl
theorem zlT (b:Bool) (t:List UInt8):(sgnT b t).length≤t.length+1:=by
 unfold sgnT
 cases b<;>simp
set_option maxHeartbeats 1000000 in
theorem ziC (x y:Nat) (w:World) (hx:x≤4000000000000000000) (hy:y≤4000000000000000000) :
  Calls Tryz.prog 83 #[.int .i64 (x:Int),.int .i64 (y:Int)] w fun e w'=>e = .returned (.int .i64 ((Nat.gcd x y:Nat):Int))∧Below w.heap.size w w':=by
 go_enter Tryz.func83,Tryz.ntmps83
 go_wp2
 go_loopg [0,1] y (fun q v0 v1 W=>∃ u v:Nat,v0 = .int .i64 (u:Int)∧v1 = .int .i64 (v:Int)∧v≤q∧u≤4000000000000000000∧v≤4000000000000000000∧Hid (Nat.gcd u v=Nat.gcd x y)∧Below w.heap.size w W)
 case atStart=>exact ⟨x,y,rfl,rfl,Nat.le_refl _,hx,hy,rfl,Below.refl _ _⟩
 case round=>
  obtain ⟨u,v,rfl,rfl,hq,hu,hv,hg,aA⟩:=hrel
  by_cases h0:v=0
  ·subst h0
   have hR:Nat.gcd x y=u:=by rw [←hg.out,Nat.gcd_zero_right]
   have HR:=Lib.hid hR
   clear hR hg
   go_wp2
   go_ret
   exact ⟨by rw [HR.out];rfl,aA⟩
  ·have d1:decide (0<v)=true:=by simp;omega
   obtain ⟨r,hr⟩:∃ r,r=u % v:=⟨_,rfl⟩
   have aC:r<v:=by rw [hr];exact Nat.mod_lt _ (by omega)
   have HG:Hid (Nat.gcd v r=Nat.gcd x y):=by
    show Nat.gcd v r=Nat.gcd x y
    rw [hr,←hg.out,Nat.gcd_comm v (u % v),←Nat.gcd_rec,Nat.gcd_comm]
   have z1:((v:Int)==0)=false:=by rw [beq_eq_false_iff_ne];omega
   have f1:Int.tmod (u:Int) (v:Int)=(r:Int):=by rw [Int.tmod_eq_emod_of_nonneg (by omega),←Int.natCast_emod,←hr]
   clear hr hg h0
   go_upto_region 2 with (fail)
   go_quiet (fail)
   clear f1
   go_wp2
   go_roundg r
   case measure=>omega
   case rel=>exact ⟨v,r,rfl,rfl,Nat.le_refl _,hv,by omega,HG.out,zab aA _⟩
set_option maxHeartbeats 4000000 in
set_option maxRecDepth 100000 in
theorem znK (b:Bool) (x y:Nat) (w:World) (hx:x≤4000000000000000000) (hy:y≤4000000000000000000) (hy0:0<y) :
  Calls Tryz.prog 29 #[.int .i64 (sgn b x),.int .i64 (y:Int)] w fun e w'=>(∃ s:ByteArray,e = .returned (.string s)∧s.data.toList=zbU (zd2 (sgn b x) y))∧Below w.heap.size w w':=by
 rw [zlB b x y hy0]
 obtain ⟨g,hg⟩:∃ g,g=Nat.gcd x y:=⟨_,rfl⟩
 have aU:0<g:=by rw [hg];exact Nat.gcd_pos_of_pos_right _ hy0
 have aR:g≤y:=by rw [hg];exact Nat.gcd_le_right _ hy0
 have HC:=ziC x y w hx hy
 rw [←hg] at HC ⊢
 obtain ⟨X,hX⟩:∃ X,X=x / g:=⟨_,rfl⟩
 obtain ⟨Y,hY⟩:∃ Y,Y=y / g:=⟨_,rfl⟩
 obtain ⟨z,hz⟩:∃ z,z=sgn b x:=⟨_,rfl⟩
 obtain ⟨z1,aD⟩:∃ z1,z1=sgn b X:=⟨_,rfl⟩
 have bI:X≤x:=by rw [hX];exact Nat.div_le_self _ _
 have bJ:Y≤y:=by rw [hY];exact Nat.div_le_self _ _
 have bM:0<Y:=by rw [hY];exact Nat.div_pos aR aU
 have aW:z=(x:Int)∨z = -(x:Int):=by rw [hz];unfold sgn;cases b<;>simp
 have aG:z1=(X:Int)∨z1 = -(X:Int):=by rw [aD];unfold sgn;cases b<;>simp
 have f1:Int.tdiv z (g:Int)=z1:=by
  have h9:Int.tdiv (x:Int) (g:Int)=(X:Int):=by rw [Int.tdiv_eq_ediv_of_nonneg (by omega),←Int.natCast_ediv,←hX]
  rw [hz,aD]
  unfold sgn
  cases b
  ·simp [h9]
  ·simp [Int.neg_tdiv,h9]
 have f2:Int.tdiv (y:Int) (g:Int)=(Y:Int):=by rw [Int.tdiv_eq_ediv_of_nonneg (by omega),←Int.natCast_ediv,←hY]
 have f3:IntKind.i64.wrap z1=z1:=IntWalk.i64_in _ (by omega)
 have f4:IntKind.i64.wrap (Y:Int)=(Y:Int):=IntWalk.i64_in _ (by omega)
 have f5:((g:Int)==0)=false:=by rw [beq_eq_false_iff_ne];omega
 rw [←hX,←hY,←hz,←aD]
 have em:max z (-z)=(x:Int):=by omega
 have bD:max z1 (-z1)=(X:Int):=by omega
 have d1:decide (z < -4000000000000000000)=false:=by simp<;>omega
 have d2:decide (4000000000000000000<z)=false:=by simp<;>omega
 have d3:decide ((y:Int) < -4000000000000000000)=false:=by simp only [decide_eq_false_iff_not];omega
 have d4:decide ((4000000000000000000:Int)<(y:Int))=false:=by simp only [decide_eq_false_iff_not];omega
 have d5:decide ((y:Int)<0)=false:=by simp
 have aV : -4000000000000000000≤z:=by omega
 have aY:z≤4000000000000000000:=by omega
 have aN : -4000000000000000000≤z1:=by omega
 have aS:z1≤4000000000000000000:=by omega
 have bL:X≤4000000000000000000:=by omega
 have bK:Y≤4000000000000000000:=by omega
 have bB:=Lib.hid HC
 clear HC hg hX hY hz aD aW aG aR
 have bA:=Lib.hid (fun W=>zbA X 1 W (by omega) (by omega))
 have aX:=Lib.hid (fun W=>zbA Y 1 W (by omega) (by omega))
 have aO:(Lib.decDigits X).length≤19:=Dec.dec_length_le (by omega) (by have e:(10:Nat) ^ 19=10000000000000000000:=(by decide);omega)
 have aK:(Lib.decDigits Y).length≤19:=Dec.dec_length_le (by omega) (by have e:(10:Nat) ^ 19=10000000000000000000:=(by decide);omega)
 have bC:=Lib.hid aO
 have bE:=Lib.hid aK
 clear aO aK
 go_enter Tryz.func29,Tryz.ntmps29
 go_wp2_with fail
 refine bB.out.mono ?_
 rintro e w1 ⟨rfl,aM⟩
 clear em d1 d2 d3 d4 d5
 go_upto_region 6 with (fail)
 go_quiet (fail)
 clear f1 f2 f3 f4
 have aJ:=zab aM
 generalize aQ:w1.drewN _=w2 at *
 have aP:Below w.heap.size w w2:=by rw [←aQ];exact aJ _
 clear aJ aQ aM
 have aI:∀ s:ByteArray,s.data.toList=Lib.decDigits X→s.size≤19:=fun s hs=>by
  have h9:s.data.toList.length=s.size:=Array.length_toList
  rw [hs] at h9
  have:=bC.out
  omega
 have aL:∀ s:ByteArray,s.data.toList=Lib.decDigits Y→s.size≤19:=fun s hs=>by
  have h9:s.data.toList.length=s.size:=Array.length_toList
  rw [hs] at h9
  have:=bE.out
  omega
 have bF:=Lib.hid aI
 have aT:=Lib.hid aL
 have bH:=Lib.hid bD
 clear aI aL
 by_cases hneg:z1<0
 case' pos=>have dn:decide (z1<0)=true:=by simpa using hneg
 case' neg=>have dn:decide (z1<0)=false:=by simpa using hneg
 case' pos=>obtain ⟨pr,aA⟩:∃ pr:List UInt8,pr=[45]:=⟨_,rfl⟩
 case' neg=>obtain ⟨pr,aA⟩:∃ pr:List UInt8,pr=[]:=⟨_,rfl⟩
 case' pos=>have aF:Hid (∀ l,sgnT (decide (z1<0)) l=[45]++l):=fun l=>by rw [dn];rfl
 case' neg=>have aF:Hid (∀ l,sgnT (decide (z1<0)) l=[]++l):=fun l=>by rw [dn];rfl
 all_goals
  go_wp2_with fail
  refine (bA.out w2).mono ?_
  rintro e w3 ⟨⟨s,rfl,hs⟩,hw⟩
  obtain rfl:w2=w3:=hw
  rw [zdV] at hs
  have bG:=bF.out s hs
  have HS:=Lib.hid hs
  clear hs
  by_cases hY1:Y=1
  ·have dy:decide ((1:Int)<(Y:Int))=false:=by simp only [decide_eq_false_iff_not];omega
   have aH:=Lib.hid hY1
   clear hY1
   have HR:Hid (∀ t:ByteArray,t.data.toList=pr++s.data.toList→t.data.toList=zbU ⟨decide (z1<0),X,Y⟩):=fun t ht=>by
    rw [za9,if_pos aH.out,aF.out,List.append_nil,ht,aA,HS.out]
   have aC:=Lib.hid aA
   clear aA
   go_wp2
   go_ret
   exact ⟨⟨_,rfl,HR.out _ (by rw [aC.out];first | rfl | (rw [ByteArray.data_append,Array.toList_append];rfl))⟩,aP⟩
  ·have dy:decide ((1:Int)<(Y:Int))=true:=by simp only [decide_eq_true_eq];omega
   have aH:=Lib.hid hY1
   clear hY1
   have aC:=Lib.hid aA
   clear aA
   go_wp2_with fail
   refine (aX.out w2).mono ?_
   rintro e w3 ⟨⟨s2,rfl,aE⟩,hw⟩
   obtain rfl:w2=w3:=hw
   rw [zdV] at aE
   have aZ:=aT.out s2 aE
   have HR:Hid (∀ t:ByteArray,t.data.toList=(pr++s.data.toList)++[47]++s2.data.toList→t.data.toList=zbU ⟨decide (z1<0),X,Y⟩):=fun t ht=>by
    rw [za9,if_neg aH.out,aF.out,ht,aC.out,HS.out,aE,List.append_assoc]
    rfl
   clear aE
   go_wp2
   go_ret
   exact ⟨⟨_,rfl,HR.out _ (by rw [aC.out];simp only [ByteArray.data_append,Array.toList_append])⟩,aP⟩
def zcm (y:Nat):List UInt8:=if y=1 then [] else 47 :: Lib.decDigits y
def NumT (a:ByteArray) (b:Bool) (x y:Nat):Prop:=a.data.toList=sgnT b (Lib.decDigits x)++zcm y
def absT (a:ByteArray) (b:Bool):ByteArray:=if b then a.extract 1 a.size else a
theorem NumT.abs {a:ByteArray} {b:Bool} {x y:Nat} (h:NumT a b x y):(absT a b).data.toList=Lib.decDigits x++zcm y:=by
 unfold absT
 cases b
 ·exact h
 ·simp only [if_true]
  rw [zbT,h]
  have hl:(sgnT true (Lib.decDigits x)++zcm y).length=a.size:=by rw [←h,Array.length_toList];rfl
  show List.take (a.size - 1) (Lib.decDigits x++zcm y)=_
  refine List.take_of_length_le ?_
  have:(sgnT true (Lib.decDigits x)++zcm y).length=(Lib.decDigits x++zcm y).length+1:=rfl
  omega
theorem zjO (a:ByteArray) (b:Bool):(absT a b).size≤a.size:=by
 unfold absT
 cases b<;>simp
theorem NumT.head {a:ByteArray} {b:Bool} {x y:Nat} (h:NumT a b x y):∃ h:0<a.size,(((a[0]'h).toNat:Int)==45)=b:=by
 have hl:=congrArg List.length h
 rw [Array.length_toList,List.length_append] at hl
 have hd:=za8 x
 have hp:=Dec.dec_length_pos x
 cases b
 ·have aA:a.data.size=(Lib.decDigits x).length+(zcm y).length:=hl
  have h0:0<a.size:=by show 0<a.data.size;omega
  refine ⟨h0,?_⟩
  have he:a[0]'h0=(Lib.decDigits x)[0]'hp:=by
   have:a[0]'h0=a.data.toList[0]'(by rw [Array.length_toList];exact h0):=rfl
   rw [this]
   have h':a.data.toList=Lib.decDigits x++zcm y:=h
   simp only [h']
   exact List.getElem_append_left hp
  have hm:=zd1 hd (List.getElem_mem hp)
  rw [he,beq_eq_false_iff_ne]
  omega
 ·have aA:a.data.size=(Lib.decDigits x).length+1+(zcm y).length:=hl
  have h0:0<a.size:=by show 0<a.data.size;omega
  refine ⟨h0,?_⟩
  have he:a[0]'h0=45:=by
   have:a[0]'h0=a.data.toList[0]'(by rw [Array.length_toList];exact h0):=rfl
   rw [this]
   have h':a.data.toList=45 :: (Lib.decDigits x++zcm y):=h
   simp only [h']
   rfl
  rw [he]
  decide
theorem zcT (l:List UInt8) (y:Nat) (h:∀ c ∈ l,c≠47):zbp (l++zcm y)=l.length:=by
 unfold zcm
 split
 ·rw [List.append_nil];exact zbO h
 ·exact zcg h
theorem zd8 {t:ByteArray} {l:List UInt8} {y k:Nat} (h:t.data.toList=l++zcm y) (hk:k=l.length) :
  (t.extract 0 k).data.toList=l∧(y=1→t.size=k)∧(y≠1→k<t.size∧(t.extract (k+1) t.size).data.toList=Lib.decDigits y∧t.size=k+1+(Lib.decDigits y).length):=by
 subst hk
 have hl:t.size=l.length+(zcm y).length:=by
  have:=congrArg List.length h
  rw [Array.length_toList,List.length_append] at this
  exact this
 refine ⟨?_,fun hy => ?_,fun hy => ?_⟩
 ·rw [zbT,h,List.drop_zero,Nat.sub_zero,List.take_left]
 ·rw [hl,hy];simp [zcm]
 ·have ht:zcm y=47 :: Lib.decDigits y:=by unfold zcm;rw [if_neg hy]
  rw [ht,List.length_cons] at hl
  refine ⟨by omega,?_,by omega⟩
  rw [zbT,h,ht,←List.drop_drop,List.drop_left]
  simp only [List.drop_succ_cons,List.drop_zero]
  exact List.take_of_length_le (by omega)
def RetQ (w:World) (b:Bool) (x y:Nat) (e:Ending) (w':World):Prop:=
 w=w'∧(e = .returned (.tuple #[.int .i64 0,.int .i64 0,.bool false])∨(e = .returned (.tuple #[.int .i64 (sgn b x),.int .i64 (y:Int),.bool true])∧x<1000000000∧y<1000000000))
theorem RetQ.no (w:World) (b:Bool) (x y:Nat):RetQ w b x y (.returned (.tuple #[.int .i64 0,.int .i64 0,.bool false])) w:=⟨rfl,.inl rfl⟩
end Go.Proofs.YteajibbphcfmeaaGreatDoor
