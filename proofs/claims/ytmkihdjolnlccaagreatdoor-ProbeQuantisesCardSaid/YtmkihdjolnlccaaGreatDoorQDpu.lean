/- Contracts of strconv.ParseUint of at most nine decimal digits, and of package rational's parsed. -/
import Derived.Test.YtmkihdjolnlccaaGreatDoorQDo
import Derived.Test.YtmkihdjolnlccaaGreatDoorQNat4
import Derived.Shelf.Strconv.ParseUint10At
import Derived.Lib.AtoiErrMem
import Derived.Test.YtmkihdjolnlccaaGreatDoorQDp
import Derived.Test.YtmkihdjolnlccaaGreatDoorQText
import Derived.Laws.FloatBits
import Derived.Laws.FloatArith
namespace Go.Proofs.YtmkihdjolnlccaaGreatDoor
open Go.RowKit Dn
theorem zcK:∀ (l:List UInt8) (acc:Nat),zap l=true→acc*10 ^ l.length+zaf l<1000000000000000000→Lib.parseUintM 18446744073709551615 acc l = .ok (acc*10 ^ l.length+zaf l)
 | [],acc,_,_=>by simp [Lib.parseUintM,zaf]
 | c :: r,acc,hd,hlt=>by
  have e:zap (c :: r)=(digB (c.toNat:Int) && zap r):=rfl
  rw [e,Bool.and_eq_true] at hd
  have h2:=hd.1
  unfold digB at h2
  simp only [Bool.and_eq_true,decide_eq_true_eq] at h2
  have hv:acc*10 ^ (c :: r).length+zaf (c :: r)=(acc*10+(c.toNat - 48))*10 ^ r.length+zaf r:=by
   rw [zdY,List.length_cons,Nat.pow_succ,Nat.add_mul,Nat.mul_assoc,Nat.mul_comm 10 (10 ^ r.length)]
   omega
  rw [hv] at hlt ⊢
  have hp:1≤10 ^ r.length:=Nat.pow_pos (by omega)
  have hle:(acc*10+(c.toNat - 48))*1≤(acc*10+(c.toNat - 48))*10 ^ r.length:=Nat.mul_le_mul_left _ hp
  unfold Lib.parseUintM
  rw [if_pos (by omega),if_neg (by omega),if_neg (by omega)]
  exact zcK r _ hd.2 hlt
theorem zeY (l:List UInt8) (hd:zap l=true) (hne:l≠[]) (hl:l.length≤9):Lib.parseUintB 64 l = .ok (zaf l):=by
 have h1:=za6 l hd
 have h2:10 ^ l.length≤10 ^ 9:=Nat.pow_le_pow_right (by omega) hl
 unfold Lib.parseUintB
 rw [if_neg hne,show (2:Nat) ^ 64 - 1=18446744073709551615 from by decide]
 have h:=zcK l 0 hd (by rw [Nat.zero_mul,Nat.zero_add];have:(10:Nat) ^ 9=1000000000:=(by decide);omega)
 rwa [Nat.zero_mul,Nat.zero_add] at h
set_option maxHeartbeats 1000000 in
theorem zhn (s:ByteArray) (w:World) (hd:zap s.data.toList=true) (h0:0<s.size) (h9:s.size≤9) :
  Calls Tryz.prog 250 #[.string s,.int .i64 10,.int .i64 64] w fun e w'=>e = .returned (.tuple #[.int .u64 ((zaf s.data.toList:Nat):Int),.nilIface])∧Below w.heap.size w w':=by
 have hs:s.data.toList.length=s.size:=by simp
 have hp:=zeY s.data.toList hd (fun h=>by rw [h] at hs;simp at hs;omega) (by omega)
 have hc:=Any.internal_strconv_ParseUint_10_at64 Tryz.lays287 s (by omega) w
 rw [hp] at hc
 have HC:Hid (Calls Tryz.prog 263 #[.string s,.int .i64 10,.int .i64 64] w fun e w'=>e = .returned (.tuple #[.int .u64 ((zaf s.data.toList:Nat):Int),.nilIface])∧Below w.heap.size w w'):=
  hc.mono fun e w' ⟨he,hw⟩=>⟨he,by
   rcases hw with rfl | rfl
   ·exact Below.refl _ _
   ·exact Lib.bytesWorld_below _ _ _⟩
 clear hc hp
 generalize zaf s.data.toList=v at *
 go_enter Tryz.func250,Tryz.ntmps250
 go_wp2_with fail
 refine HC.out.mono ?_
 rintro e w1 ⟨rfl,hb⟩
 go_wp2
 go_ret2
 exact ⟨rfl,hb⟩
theorem znc:B=10 ^ 9:=by decide
theorem zcP (l:List UInt8) (h:zap l=true) (a b:Nat):zap ((l.drop a).take b)=true:=by
 unfold zap at *
 rw [List.all_eq_true] at *
 intro x hx
 exact h x (List.mem_of_mem_drop (List.mem_of_mem_take hx))
theorem zeG (l:List UInt8) (ws:List Nat) (e d:Nat) (hd:d≤e) (_he:e≤l.length) (hk:l.length - e=9*ws.length) (hv:val ws=zaf (l.drop e)) :
  val (ws++[zaf ((l.drop d).take (e - d))])=zaf (l.drop d):=by
 have h1:l.drop d=(l.drop d).take (e - d)++l.drop e:=by
  have h:=(List.take_append_drop (e - d) (l.drop d)).symm
  rw [List.drop_drop] at h
  rw [show d+(e - d)=e from by omega] at h
  exact h
 have h2:=zb8 ((l.drop d).take (e - d)) (l.drop e)
 rw [←h1,List.length_drop,hk] at h2
 rw [zaJ,zaM,hv,h2,znc,←Nat.pow_mul,Nat.mul_comm (10 ^ (9*ws.length))]
 omega
theorem zby (s:ByteArray) (d e:Nat):(s.extract d e).data.toList=(s.data.toList.drop d).take (e - d):=by
 rw [ByteArray.data_extract,Array.toList_extract]
theorem ziR {w w':World} {base size n:Nat} {e:TypeId} {v:Value} {xs:List Value} (h:w.ownsRow base e size v n xs) (hb:Below w.heap.size w w'):w'.ownsRow base e size v n xs:=
 h.kept (za0 hb none) (by cases v.ownBlock<;>simp)
set_option maxHeartbeats 2000000 in
set_option maxRecDepth 100000 in
theorem zdT (s:ByteArray) (w:World) (hd:zap s.data.toList=true) (hs:s.size≤1000000) :
  Calls Tryz.prog 213 #[.string s] w (RetD w (zaf s.data.toList)):=by
 obtain ⟨i0,hi0,hz0,hz1,hz2⟩:=info_parts zbA
 have hsz:s.data.toList.length=s.size:=by simp
 have HSZ:=Lib.hid hsz
 have HD:=Lib.hid hd
 clear hsz hd
 go_enter Tryz.func213,Tryz.ntmps213
 go_wp2
 go_loopg [3,4] (s.size+1) (fun q av ev W=>∃ (ws:List Nat) (E:Int),ev = .int .i64 E∧E=(s.size:Int) - 9*(ws.length:Int)∧E≤(s.size:Int) ∧ -9≤E∧W.ownsRow w.heap.size 168 1 av ws.length (ws.map u64v)∧Wf ws∧Hid (val ws=zaf (s.data.toList.drop E.toNat))∧(E+9).toNat≤q+9∧Below w.heap.size w W)
 case atStart=>exact ⟨[],(s.size:Int),rfl,by simp,Int.le_refl _,by omega,⟨rfl,.inl ⟨rfl,rfl⟩⟩,Wf.nil,by show val []=_;rw [List.drop_of_length_le (by rw [HSZ.out];omega)];rfl,by omega,Below.refl _ _⟩
 case round=>
  obtain ⟨ws,E,rfl,hE,hE1,hE2,hown,hwf,hval,hq,hbel⟩:=hrel
  by_cases h0:0<E
  ·obtain ⟨e,rfl⟩:=Int.eq_ofNat_of_zero_le (Int.le_of_lt h0)
   have HE:=Lib.hid hE
   clear hE
   obtain ⟨d,hdd⟩:∃ d,d=e - 9:=⟨_,rfl⟩
   have ed:(max 0 ((e:Int) - 9)).toNat=d:=by omega
   have he1:e≤s.size:=by omega
   have hde:d≤e:=by omega
   have hd9:e - d≤9:=by omega
   have hd1:0<e - d:=by omega
   have hxl:=zby s d e
   have hxs:(s.extract d e).size=e - d:=by
    have h:=congrArg List.length hxl
    simp only [List.length_take,List.length_drop,HSZ.out] at h
    have h2:(s.extract d e).data.toList.length=(s.extract d e).size:=Array.length_toList
    omega
   have hdg:=zcP s.data.toList HD.out d (e - d)
   have hlt:=za6 _ hdg
   have hv1:=hval.out
   rw [show ((e:Int)).toNat=e from by omega] at hv1
   have hst:=zeG s.data.toList ws e d hde (by rw [HSZ.out];exact he1) (by rw [HSZ.out];have:=HE.out;omega) hv1
   have hpu:=zhn (s.extract d e) wr (by rw [hxl];exact hdg) (by omega) (by omega)
   rw [hxl] at hpu
   have hlen:((s.data.toList.drop d).take (e - d)).length≤9:=by rw [List.length_take];omega
   generalize zaf ((s.data.toList.drop d).take (e - d))=v at *
   have hvB:v<B:=by
    have h3:10 ^ ((s.data.toList.drop d).take (e - d)).length≤10 ^ 9:=Nat.pow_le_pow_right (by omega) hlen
    rw [znc];omega
   have HST:=Lib.hid hst
   have HPU:=Lib.hid hpu
   have HDD:=Lib.hid hdd
   have hED:=Lib.hid ed
   have hws:ws.length≤1000000:=by have:=HE.out;omega
   clear hxl hxs hdg hlt hv1 hst hpu hlen hdd ed
   go_wp2_with fail
   rw [hED.out]
   refine HPU.out.mono ?_
   rintro e9 w1 ⟨rfl,hb1⟩
   have hown1:=ziR hown hb1
   have hb02:=hbel.trans (hb1.mono hbel.size)
   have hsz1:=hb02.size
   clear hown hb1 hbel
   go_wp2_with (at_builtin;refine wpList_append_own _ rfl _ _ 140 rfl w.heap.size 168 i0 (.int .u64 0) 1 8 Tryz.underlying140 hi0 hz0 hz1 hz2 rfl (by decide) _ _ _ rfl (hown1.alloc _) ⟨w1.heap.size,0,none⟩ 1 1 [.int .u64 (v:Int)] rfl rfl ?c0 ?c1 ?c2 ?c3 ?c4 ?_)
   case c0=>exact cell_one_new _ _ _
   case c1=>intro u hu;simp at hu;subst hu;rfl
   case c2=>unfold maxLen;omega
   case c3=>omega
   case c4=>simp;omega
   intro v2 w4 hown2 hgrow2 _
   have hb34:Below w1.heap.size w1 (w1.alloc (.cells #[.int .u64 (v:Int)] 168)):=(Below.refl _ _).alloc (Nat.le_refl _) _
   have hb4:Below w.heap.size w w4:=(hb02.trans (hb34.mono hsz1)).grown hgrow2 (by simp;omega) (fun g hg=>(World.ownsRow.lt hown1 g hg).1)
   have hlen2:(ws++[v]).length=ws.length+1:=by simp
   have hown3:w4.ownsRow w.heap.size 168 1 v2 (ws++[v]).length ((ws++[v]).map u64v):=by rw [hlen2,List.map_append];exact hown2
   have hwf3:Wf (ws++[v]):=hwf.append (Wf.cons hvB Wf.nil)
   have HL2:=Lib.hid hlen2
   clear hgrow2 hown2 hown1 hlen2 hval
   go_wp2
   go_roundg (e - 9)
   case measure=>omega
   case rel=>exact ⟨ws++[v],(e:Int) - 9,rfl,by have:=HE.out;rw [HL2.out];omega,by omega,by omega,hown3,hwf3,by show val (ws++[v])=_;rw [HST.out,HDD.out,show ((e:Int) - 9).toNat=e - 9 from by omega],by omega,hb4⟩
  ·obtain ⟨A,c,rfl,hc1,hc2,hr⟩:=zbo hown
   have hv:val ws=zaf s.data.toList:=by rw [hval.out,show E.toNat=0 from by omega];rfl
   have ht:=zbF A ws.length c ws wr hr hwf hc1 hc2
   rw [hv] at ht
   have HT:=Lib.hid ht
   clear ht hv hE
   go_wp2_with fail
   refine HT.out.mono ?_
   rintro e w1 ⟨m,rfl,hn1,hw1⟩
   obtain rfl:wr=w1:=hw1
   go_wp2
   go_ret
   exact ⟨_,m,_,rfl,hn1,hbel⟩
theorem znE:B=10 ^ 9:=by decide
theorem zjk (x q:Nat) (h:0<x / B ^ (q+1)):Lib.decDigits (x / B ^ q)=Lib.decDigits (x / B ^ (q+1))++Dec.pad 9 (x / B ^ q % B):=by
 have h1:=zdQ x q
 rw [zbK] at h1
 have h2:x / B ^ q % B<10 ^ 9:=by rw [←znE];exact Nat.mod_lt _ zaA
 have h3:=Dec.dec_append 9 (x / B ^ (q+1)) (x / B ^ q % B) h h2
 rw [←znE,show x / B ^ (q+1)*B+x / B ^ q % B=x / B ^ q by rw [Nat.mul_comm];omega] at h3
 exact h3
theorem zpZ {r:Nat} (h:r<B):Lib.decDigits (1000000000+r)=49 :: Dec.pad 9 r:=by
 have h1:=Dec.dec_append 9 1 r (by omega) (by rw [←znE];exact h)
 rw [show 1*10 ^ 9+r=1000000000+r by omega,Dec.dec_lt (show (1:Nat)<10 by omega)] at h1
 exact h1
theorem zhf {x n:Nat} (hn:0<n) (h:x<B ^ n) (j:Nat):(Lib.decDigits (x / B ^ j)).length≤9*n:=by
 refine Dec.dec_length_le (by omega) (Nat.lt_of_le_of_lt (Nat.div_le_self _ _) ?_)
 rwa [znE,←Nat.pow_mul] at h
set_option maxHeartbeats 4000000 in
set_option maxRecDepth 100000 in
theorem ziu (A:Option Addr) (n c x:Nat) (w:World) (hT:Tabs w) (ha:NatD w w.heap.size A n c x) (hn:n≤1073741824) :
  Calls Tryz.prog 165 #[.slice A n c] w fun e w'=>e = .returned (.string ⟨(Lib.decDigits x).toArray⟩)∧Below w.heap.size w w':=by
 by_cases hx:x=0
 ·subst hx
  have hz:=zbn A n c 0 w ha
  have hd:Hid ((⟨(Lib.decDigits 0).toArray⟩:ByteArray)=⟨#[48]⟩):=by unfold Hid;rw [Dec.dec_lt (by omega)];rfl
  go_enter Tryz.func165,Tryz.ntmps165
  go_wp2_with fail
  refine hz.mono ?_
  rintro e w1 ⟨rfl,rfl⟩
  go_wp2
  go_ret
  exact ⟨by rw [hd.out];rfl,Below.refl _ _⟩
 ·have hz:=zbn A n c x w ha
  have hd:decide (x=0)=false:=by simpa using hx
  rw [hd] at hz
  have hx0:0<x:=by omega
  have hlen:=ha.len
  have hn0:0<n:=by have:=zan hx0;omega
  have hxB:x<B ^ n:=by have:=zaa x;rwa [hlen] at this
  have hpn:=zau hx0
  rw [hlen] at hpn
  have hpos:∀ j,j≤n - 1→0<x / B ^ j:=fun j hj=>Nat.div_pos (Nat.le_trans (Nat.pow_le_pow_right zaA hj) hpn) (Nat.pow_pos zaA)
  have htop:x / B ^ (n - 1)<B:=Nat.div_lt_of_lt_mul (by rw [←Nat.pow_succ,show (n - 1).succ=n from by omega];exact hxB)
  have htg:(digs x).getD (n - 1) 0=x / B ^ (n - 1):=by rw [zbK,Nat.mod_eq_of_lt htop]
  obtain ⟨ad,rfl,hba,hca⟩:=ha.words.word (k:=n - 1) (by omega)
  rw [htg] at hca
  have hdl:=zhf hn0 hxB
  have HPOS:=Lib.hid hpos
  have HDL:=Lib.hid hdl
  have hl0:=hdl (n - 1)
  obtain ⟨tw,htw⟩:∃ tw,tw=x / B ^ (n - 1):=⟨_,rfl⟩
  rw [←htw] at hca htop hl0
  have HTW:=Lib.hid htw
  have htop2:tw<18446744073709551616:=by unfold B at htop;omega
  have e1:((n:Int) - 1)=((n - 1:Nat):Int):=by omega
  have hb0:Below w.heap.size w (w.alloc (.cells #[.pointer none,.slice none 0 0] 257)):=(Below.refl _ _).alloc (Nat.le_refl _) _
  have hbn:=zef w 257 5
  have hca2:=(hb0.cell (p:=ad.add (n - 1)) (by rw [zaI];exact hba)).trans hca
  clear hca
  obtain ⟨sd,hsd⟩:∃ sd:ByteArray,sd=⟨(Lib.decDigits tw).toArray⟩:=⟨_,rfl⟩
  have hsdl:sd.data.toList=Lib.decDigits tw:=by rw [hsd]
  have hsds:sd.size≤9*n:=by
   have:sd.data.toList.length=sd.size:=Array.length_toList
   rw [hsdl] at this;omega
  have hf:=zcz tw htop2 _ (hT.later hb0)
  rw [←hsd] at hf
  have HF:=Lib.hid hf
  have HSDL:=Lib.hid hsdl
  clear hf hd hx hxB hpn hpos htop htg hdl hl0 htw hsd hsdl hlen
  go_enter Tryz.func165,Tryz.ntmps165
  go_wp2_with fail
  refine hz.mono ?_
  rintro e w1 ⟨rfl,rfl⟩
  clear hz
  go_wp2_with fail
  refine HF.out.mono ?_
  rintro e w1 ⟨rfl,hb1⟩
  have hbl1:=zbJ hbn hb1
  have hB1:Below w.heap.size w w1:=hb0.trans (hb1.mono hb0.size)
  clear hbn hb0 hb1 HF
  go_wp2_with fail
  refine (zbq w.heap.size w.heap.size _ sd w1 hbl1 (by rw [List.length_nil];omega) hB1.size).mono ?_
  rintro e w2 ⟨rfl,hbl2,hb2⟩
  have hB2:=hB1.trans hb2
  have hbl3:Lib.IsBuilder 257 5 w.heap.size w.heap.size (Lib.byteCells (Lib.decDigits (x / B ^ (n - 1)))) w2:=by
   have e2:[]++Lib.strCells sd=Lib.byteCells (Lib.decDigits (x / B ^ (n - 1))):=by rw [←HTW.out,←HSDL.out];rfl
   rw [←e2];exact .inr hbl2
  clear hbl1 hbl2 hB1 hb2
  go_wp2
  clear e1 hca2 hsds htop2
  go_loopg [5] n (fun G si wb=>∃ j:Nat,j≤n - 1∧si = .int .i64 ((j:Int) - 1)∧j≤G∧Lib.IsBuilder 257 5 w.heap.size w.heap.size (Lib.byteCells (Lib.decDigits (x / B ^ j))) wb∧Below w.heap.size w wb)
  case atStart=>exact ⟨n - 1,Nat.le_refl _,by first | rfl | go_num,by omega,hbl3,hB2⟩
  case round=>
   obtain ⟨j,hj,rfl,hG,hbl,hbel⟩:=hrel
   have hsz:=hbel.size
   by_cases hj0:0<j
   ·obtain ⟨q,rfl⟩:∃ q,j=q+1:=⟨j - 1,by omega⟩
    have e2:((q+1:Nat):Int) - 1=(q:Int):=by omega
    rw [e2]
    obtain ⟨ad',ea,_,hcell⟩:=zaB.word (zae.below ha.words hbel) (k:=q) (by omega)
    injection ea with ea
    subst ea
    rw [zbK] at hcell
    have hst:=zjk x q (HPOS.out (q+1) hj)
    have hvB:x / B ^ q % B<B:=Nat.mod_lt _ zaA
    have hl0:=HDL.out (q+1)
    generalize x / B ^ q % B=v at *
    have hone:=zpZ hvB
    have hv9:v<1000000000:=hvB
    obtain ⟨sd2,hsd2⟩:∃ sd2:ByteArray,sd2=⟨(Lib.decDigits (1000000000+v)).toArray⟩:=⟨_,rfl⟩
    have hf:=zcz (1000000000+v) (by omega) wr (hT.later hbel)
    rw [←hsd2] at hf
    have hsdl2:sd2.data.toList=49 :: Dec.pad 9 v:=by rw [hsd2];exact hone
    have hss2:sd2.size=10:=by
     have h:sd2.data.toList.length=sd2.size:=Array.length_toList
     rw [hsdl2,List.length_cons,Dec.pad_length] at h
     omega
    have es:(1000000000:Int)+(v:Int)=((1000000000+v:Nat):Int):=by omega
    have hs1:(1:Int)≤(sd2.size:Int):=by omega
    have hxl:=zby sd2 1 sd2.size
    rw [hsdl2,hss2] at hxl
    have hxl2:(sd2.extract 1 sd2.size).data.toList=Dec.pad 9 v:=by rw [hss2,hxl];exact List.take_of_length_le (by rw [List.drop_succ_cons,List.drop_zero,Dec.pad_length];omega)
    have hxs:(sd2.extract 1 sd2.size).size=9:=by
     have h:(sd2.extract 1 sd2.size).data.toList.length=(sd2.extract 1 sd2.size).size:=Array.length_toList
     rw [hxl2,Dec.pad_length] at h
     omega
    have HXL:=Lib.hid hxl2
    have HXS:=Lib.hid hxs
    clear hxl hxl2 hxs
    have HF:=Lib.hid hf
    have HST:=Lib.hid hst
    have HS2:=Lib.hid hsdl2
    have HSS:=Lib.hid hss2
    clear hf hst hone hsd2 hsdl2 e2 hvB hss2 es
    go_wp2_with fail
    refine HF.out.mono ?_
    rintro e w3 ⟨rfl,hb3⟩
    have hbl4:=zbJ hbl hb3
    have hB3:Below w.heap.size w w3:=hbel.trans (hb3.mono hsz)
    go_wp2_with fail
    generalize sd2.extract 1 sd2.size=sx at *
    refine (zbq w.heap.size w.heap.size _ sx w3 hbl4 (by rw [Lib.byteCells_length,HXS.out];omega) hB3.size).mono ?_
    rintro e w4 ⟨rfl,hbl5,hb5⟩
    have hbl6:Lib.IsBuilder 257 5 w.heap.size w.heap.size (Lib.byteCells (Lib.decDigits (x / B ^ q))) w4:=by
     have e3:Lib.byteCells (Lib.decDigits (x / B ^ (q+1)))++Lib.strCells sx=Lib.byteCells (Lib.decDigits (x / B ^ q)):=by
      rw [HST.out,Lib.strCells_eq,HXL.out]
      simp [Lib.byteCells]
     rw [←e3];exact .inr hbl5
    have hB5:=hB3.trans hb5
    clear hbl5 hbl4 hb5 hbl
    go_wp2
    go_roundg q
    case measure=>omega
    case rel=>exact ⟨q,by omega,rfl,Nat.le_refl _,hbl6,hB5⟩
   ·obtain rfl:j=0:=by omega
    rw [Nat.pow_zero,Nat.div_one] at hbl
    have hs:=Tryz.Builder_String_any w.heap.size w.heap.size (Lib.decDigits x) wr hbl hsz
    have HS:=Lib.hid hs
    clear hs
    go_wp2_with fail
    refine HS.out.mono ?_
    rintro e w9 ⟨rfl,hb9⟩
    go_wp2
    go_ret
    exact ⟨rfl,hbel.trans hb9⟩
end Go.Proofs.YtmkihdjolnlccaaGreatDoor
namespace Go.Proofs.YtmkihdjolnlccaaGreatDoor.Flt
open Ieee
def fin (f:Format) (b:Nat):Bool:=match f.read b with | .number .. => true | _=>false
def key (f:Format) (b:Nat):Int:=match f.read b with | .number s m e=>signed s m (e - f.leastPlace).toNat | _=>0
theorem zg2 {f:Format} {b:Nat} {s:Bool} {m:Nat} {e:Int} (h:f.read b = .number s m e):f.leastPlace≤e:=by
 unfold Format.read at h
 dsimp only at h
 split at h
 ·injection h with _ _ h;omega
 ·split at h
  ·injection h with _ _ h;omega
  ·split at h<;>cases h
theorem zg1 (s:Bool) (m a k:Nat):signed s m (a+k)=signed s m a*((2 ^ k:Nat):Int):=by
 unfold signed
 simp only [Nat.shiftLeft_eq,Nat.pow_add]
 split
 ·rw [Int.neg_mul,←Int.natCast_mul,Nat.mul_assoc]
 ·rw [←Int.natCast_mul,Nat.mul_assoc]
theorem zc8 {a b:Int} (h:a<b):compare a b = .lt:=by unfold compare;simp [instOrdInt,compareOfLessAndEq,h]
theorem zdH (a:Int):compare a a = .eq:=by unfold compare;simp [instOrdInt,compareOfLessAndEq]
theorem zdG {a b:Int} (h:b<a):compare a b = .gt:=by unfold compare;simp [instOrdInt,compareOfLessAndEq,show ¬ a<b from by omega,show ¬ a=b from by omega]
theorem zj2 (a b:Int) {k:Nat} (hk:0<k):compare (a*(k:Int)) (b*(k:Int))=compare a b:=by
 have hk':(0:Int)<(k:Int):=by omega
 rcases Int.lt_trichotomy a b with h | h | h
 ·have h1:a*(k:Int)<b*(k:Int):=Int.mul_lt_mul_of_pos_right h hk'
  rw [zc8 h,zc8 h1]
 ·subst h;simp
 ·have h1:b*(k:Int)<a*(k:Int):=Int.mul_lt_mul_of_pos_right h hk'
  rw [zdG h,zdG h1]
theorem za4 {f:Format} {x y:Nat} (hx:fin f x=true) (hy:fin f y=true):f.order x y=some (compare (key f x) (key f y)):=by
 unfold fin at hx hy
 unfold key Format.order
 split at hx
 ·rename_i s m i h1
  split at hy
  ·rename_i t n j h2
   have p1:=zg2 h1
   have p2:=zg2 h2
   rw [h1,h2]
   simp only [Datum.order]
   have e1:(i - f.leastPlace).toNat=(i - min i j).toNat+(min i j - f.leastPlace).toNat:=by omega
   have e2:(j - f.leastPlace).toNat=(j - min i j).toNat+(min i j - f.leastPlace).toNat:=by omega
   rw [e1,e2,zg1,zg1,zj2 _ _ (Nat.two_pow_pos _)]
  ·cases hy
 ·cases hx
def fge (x y:Nat):Bool:=single.order x y==some .gt || single.order x y==some .eq
def fgt (x y:Nat):Bool:=single.order x y==some .gt
def feq (x y:Nat):Bool:=single.order x y==some .eq
section
variable {x y:Nat} (hx:fin single x=true) (hy:fin single y=true)
include hx hy
theorem zhl:feq x y=decide (key single x=key single y):=by
 unfold feq;rw [za4 hx hy]
 rw [Bool.eq_iff_iff];simp
end
theorem zcs (n k:Nat) (hn:0<n):(n*2 ^ k).log2=n.log2+k:=by
 have h1:=(Nat.le_log2 (n:=n) (k:=n.log2) (by omega)).1 (Nat.le_refl _)
 have h2:=(Nat.log2_lt (n:=n) (k:=n.log2+1) (by omega)).1 (by omega)
 have hp:0<n*2 ^ k:=Nat.mul_pos hn (Nat.two_pow_pos _)
 have a1:n.log2+k≤(n*2 ^ k).log2:=(Nat.le_log2 (by omega)).2 (by rw [Nat.pow_add];exact Nat.mul_le_mul_right _ h1)
 have a2:(n*2 ^ k).log2<n.log2+1+k:=(Nat.log2_lt (by omega)).2 (by rw [Nat.pow_add];exact Nat.mul_lt_mul_of_pos_right h2 (Nat.two_pow_pos _))
 omega
theorem zoK {n k:Nat} (h1:2 ^ k≤n) (h2:n<2 ^ (k+1)):n.log2=k:=by
 have hn:0<n:=Nat.lt_of_lt_of_le (Nat.two_pow_pos _) h1
 have a1:=(Nat.le_log2 (n:=n) (k:=k) (by omega)).2 h1
 have a2:=(Nat.log2_lt (n:=n) (k:=k+1) (by omega)).2 h2
 omega
theorem zik (s:Bool) (n d:Nat):Toward.even.cut s (n*2 ^ d) d=n:=by
 unfold Toward.cut
 rcases Nat.eq_zero_or_pos n with rfl | hn
 ·simp [Nat.shiftLeft_eq]
 ·have e:min d ((n*2 ^ d).log2+2)=d:=by rw [zcs n d hn];omega
  have hp:=Nat.two_pow_pos d
  simp only [e,Nat.shiftLeft_eq,Nat.one_mul,Nat.mul_mod_left,Nat.mul_div_cancel _ hp]
  have h1:¬ 2 ^ d<2*0:=by omega
  have h2:(2 ^ d==2*0)=false:=by simp;
  simp [h1,h2]
theorem zff (f:Format) (s:Bool) (m k:Nat) (p:Int) (hm:0<m) (hl:max (p+k+m.log2 - f.fractionBits) f.leastPlace=p+k) (hr:(p+k - f.leastPlace).toNat*f.binade+m≤f.infRung) :
  f.nearest s (m*2 ^ k) p=f.word s ((p+k - f.leastPlace).toNat*f.binade+m):=by
 unfold Format.nearest
 have hp:0<m*2 ^ k:=Nat.mul_pos hm (Nat.two_pow_pos _)
 rw [if_neg (by omega)]
 have e1:max (p+((m*2 ^ k).log2:Nat) - f.fractionBits) f.leastPlace=p+k:=by
  rw [zcs m k hm,←hl];congr 1;push_cast;omega
 simp only [e1]
 have e2:(p - (p+(k:Int))).toNat=0:=by omega
 have e3:(p+(k:Int) - p).toNat=k:=by omega
 rw [e2,e3,Nat.shiftLeft_zero,zik,Nat.min_eq_left hr]
theorem zeV (f:Format) (s:Bool) (m k:Nat) (p:Int) (hm:0<m) (hl:max (p+m.log2 - f.fractionBits) f.leastPlace=p - k) (hr:(p - k - f.leastPlace).toNat*f.binade+m*2 ^ k≤f.infRung) :
  f.nearest s m p=f.word s ((p - k - f.leastPlace).toNat*f.binade+m*2 ^ k):=by
 unfold Format.nearest
 rw [if_neg (by omega)]
 simp only [hl]
 have e2:(p - (p - (k:Int))).toNat=k:=by omega
 have e3:(p - (k:Int) - p).toNat=0:=by omega
 have e4:=zik s (m*2 ^ k) 0
 rw [Nat.pow_zero,Nat.mul_one] at e4
 rw [e2,e3,Nat.shiftLeft_eq,e4,Nat.min_eq_left hr]
theorem za5:double.leastPlace = -1074:=by decide
theorem zbD:double.binade=4503599627370496:=by decide
theorem zeW:double.infRung=9218868437227405312:=by decide
theorem zhF:double.signWeight=9223372036854775808:=by decide
theorem za8:single.leastPlace = -149:=by decide
theorem zbt:single.binade=8388608:=by decide
theorem zdW:single.infRung=2139095040:=by decide
theorem zek:single.signWeight=2147483648:=by decide
def dw (s:Bool) (m:Nat) (p:Int):Nat:=double.word s ((p+1074).toNat*4503599627370496+m)
structure Nrm (m:Nat) (p:Int):Prop where
 lo:4503599627370496≤m
 hi:m<9007199254740992
 p0 : -1074≤p
 p1:p≤971
theorem Nrm.log2 {m:Nat} {p:Int} (h:Nrm m p):m.log2=52:=by
 have e:(2:Nat) ^ 52=4503599627370496:=by decide
 have e':(2:Nat) ^ (52+1)=9007199254740992:=by decide
 have h1:=h.lo
 have h2:=h.hi
 rw [←e] at h1
 rw [←e'] at h2
 exact zoK h1 h2
theorem Nrm.rung {m:Nat} {p:Int} (h:Nrm m p):(p+1074).toNat*4503599627370496+m<9218868437227405312:=by
 have:=h.hi;have:=h.p0;have:=h.p1;omega
theorem zb5 (s:Bool) {m:Nat} {p:Int} (h:Nrm m p):double.read (dw s m p) = .number s m p:=by
 have hr:=h.rung
 have hlo:=h.lo
 have hhi:=h.hi
 have hp:=h.p0
 unfold dw Format.word Format.read
 rw [zhF,zbD,zeW,za5]
 generalize hR:(p+1074).toNat*4503599627370496+m=R at hr
 have e1:(if s=true then 9223372036854775808+R else R) % 9223372036854775808=R:=by split<;>omega
 have e2:((if s=true then 9223372036854775808+R else R) / 9223372036854775808 % 2==1)=s:=by
  cases s
  ·simp;omega
  ·simp;omega
 simp only [e1,e2]
 rw [if_neg (by omega),if_pos hr]
 congr 1
 ·omega
 ·have:R / 4503599627370496 - 1=(p+1074).toNat:=by omega
  rw [this];omega
theorem zhU (s:Bool) {m:Nat} (k:Nat) {p q:Int} (h:Nrm m q) (hq:p+k=q):double.write (.number s (m*2 ^ k) p)=dw s m q:=by
 have hr:=h.rung
 have hlo:=h.lo
 have hp:=h.p0
 subst hq
 show double.nearest s (m*2 ^ k) p=_
 rw [zff double s m k p (by omega) (by rw [h.log2,za5];show max (p+k+((52:Nat):Int) - ((52:Nat):Int)) (-1074)=p+k;omega) (by rw [za5,zbD,zeW];rw [show p+(k:Int) - -1074=p+k+1074 from by omega];omega)]
 unfold dw
 rw [za5,zbD,show p+(k:Int) - -1074=p+k+1074 from by omega]
theorem one_mul (s:Bool) {m:Nat} {p:Int} (h:Nrm m p):floatBits .mul .f64 4607182418800017408 (dw s m p)=some (dw s m p):=by
 show (((double.read 4607182418800017408).product (double.read (dw s m p))).map double.write)=_
 have e1:double.read 4607182418800017408 = .number false 4503599627370496 (-52):=by decide +kernel
 rw [e1,zb5 s h]
 show some (double.write (.number (false ^^ s) (4503599627370496*m) (-52+p)))=_
 have e2:4503599627370496*m=m*2 ^ 52:=by rw [Nat.mul_comm]
 rw [e2,zhU (false ^^ s) 52 h (by omega)]
 simp
theorem zpK {m:Nat} {p:Int} (h:Nrm m p):floatBits .sub .f64 0 (dw false m p)=some (dw true m p):=by
 show (((double.read 0).sum (double.read (dw false m p)).opposite).map double.write)=_
 have e1:double.read 0 = .number false 0 (-1074):=by decide +kernel
 have hp:=h.p0
 have hlo:=h.lo
 rw [e1,zb5 false h]
 have e2:min (-1074) p = -1074:=by omega
 have e3:(Ieee.signed false 0 (-1074 - -1074:Int).toNat+Ieee.signed true m (p - -1074).toNat) = -((m*2 ^ (p+1074).toNat:Nat):Int):=by
  unfold Ieee.signed
  rw [Nat.shiftLeft_eq,Nat.shiftLeft_eq,show p - -1074=p+1074 from by omega]
  simp
 have hpos:0<m*2 ^ (p+1074).toNat:=Nat.mul_pos (by omega) (Nat.two_pow_pos _)
 show (some (double.write _))=_
 simp only [e2,Bool.not_false,e3]
 generalize hM:m*2 ^ (p+1074).toNat=M at hpos
 have e4:(-(M:Int))≠0:=by omega
 have e5 : -(M:Int)<0:=by omega
 have e6:(-(M:Int)).natAbs=M:=by omega
 rw [if_neg e4,e6,decide_eq_true e5]
 rw [←hM,zhU true _ h (by omega)]
theorem zib:floatBits .sub .f64 0 0=some 0:=by decide +kernel
def sg (n:Nat):Nat:=n*2 ^ (52 - n.log2)
theorem zc9 {n:Nat} {e:Int} (h0:0<n) (h1:n<9007199254740992) (he : -1022≤e+n.log2) (he2:e+n.log2≤1023):Nrm (sg n) (e+n.log2 - 52):=by
 have a1:=(Nat.le_log2 (n:=n) (k:=n.log2) (by omega)).1 (Nat.le_refl _)
 have a2:=(Nat.log2_lt (n:=n) (k:=n.log2+1) (by omega)).1 (by omega)
 have e53:(2:Nat) ^ 53=9007199254740992:=by decide
 have a3:n.log2<53:=(Nat.log2_lt (by omega)).2 (by omega)
 have e52:(2:Nat) ^ 52=4503599627370496:=by decide
 refine ⟨?_,?_,by omega,by omega⟩
 ·rw [←e52,show 52=n.log2+(52 - n.log2) from by omega,Nat.pow_add]
  exact Nat.mul_le_mul_right _ (by simpa using a1)
 ·rw [←e53,show 53=n.log2+1+(52 - n.log2) from by omega,Nat.pow_add]
  exact Nat.mul_lt_mul_of_pos_right a2 (Nat.two_pow_pos _)
def dn (n:Nat) (e:Int):Nat:=dw false (sg n) (e+n.log2 - 52)
theorem zpL {n:Nat} {e:Int} (h0:0<n) (h1:n<9007199254740992) (he : -1022≤e+n.log2) (he2:e+n.log2≤1023):double.write (.number false n e)=dn n e:=by
 have hn:=zc9 h0 h1 he he2
 have hr:=hn.rung
 have e53:(2:Nat) ^ 53=9007199254740992:=by decide
 have a3:n.log2<53:=(Nat.log2_lt (by omega)).2 (by omega)
 show double.nearest false n e=_
 rw [zeV double false n (52 - n.log2) e h0 (by rw [za5];show max (e+(n.log2:Int) - ((52:Nat):Int)) (-1074)=_;omega) (by rw [za5,zbD,zeW,show e - ((52 - n.log2:Nat):Int) - -1074=e+n.log2 - 52+1074 from by omega];exact Nat.le_of_lt hr)]
 unfold dn dw sg
 rw [za5,zbD,show e - ((52 - n.log2:Nat):Int) - -1074=e+n.log2 - 52+1074 from by omega]
theorem zqt {n:Nat} (h0:0<n) (h1:n<9007199254740992):floatOfInt .f64 (n:Int)=dn n 0:=by
 have e53:(2:Nat) ^ 53=9007199254740992:=by decide
 have a3:n.log2<53:=(Nat.log2_lt (by omega)).2 (by omega)
 rw [←zpL h0 h1 (e:=0) (by omega) (by omega)]
 unfold floatOfInt FloatKind.nearest FloatKind.encode
 simp [show ¬ (n:Int)<0 from by omega]
 rfl
theorem zjT {n:Nat} {e:Int} (h0:0<n) (h1:n<9007199254740992) (he : -1022≤e+n.log2) (he2:e+n.log2≤1023):double.read (dn n e) = .number false (sg n) (e+n.log2 - 52):=
 zb5 false (zc9 h0 h1 he he2)
set_option maxHeartbeats 20000
theorem zaH {f:Format} {b m:Nat} {s:Bool} {p:Int} (h:f.read b = .number s m p):fin f b=true:=by
 unfold fin;rw [h]
theorem za2 {f:Format} {b m:Nat} {p:Int} (h:f.read b = .number false m p):key f b=((m*2 ^ (p - f.leastPlace).toNat:Nat):Int):=by
 unfold key;rw [h]
 simp only [Ieee.signed,Nat.shiftLeft_eq]
 simp
theorem zkI {n:Nat} {e:Int} (h0:0<n) (h1:n<9007199254740992) (he : -1022≤e+n.log2) (he2:e+n.log2≤1023):fin double (dn n e)=true:=
 zaH (zjT h0 h1 he he2)
theorem zkr {n:Nat} {e:Int} (h0:0<n) (h1:n<9007199254740992) (he : -1022≤e+n.log2) (he2:e+n.log2≤1023) (hz : -1074≤e):key double (dn n e)=((n*2 ^ (e+1074).toNat:Nat):Int):=by
 have e53:(2:Nat) ^ 53=9007199254740992:=by decide
 have a3:n.log2<53:=(Nat.log2_lt (by omega)).2 (by omega)
 rw [za2 (zjT h0 h1 he he2),za5]
 unfold sg
 generalize hl:n.log2=l at *
 rw [Nat.mul_assoc,←Nat.pow_add,show 52 - l+(e+(l:Int) - 52 - -1074).toNat=(e+1074).toNat from by omega]
def rung (n:Nat) (e:Int):Nat:=(e+149).toNat*8388608+n
structure Rnd (n:Nat) (e:Int):Prop where
 place : -149≤e
 hi:n≤16777216
 lo:e = -149∨8388608≤n
theorem Rnd.log2 {n:Nat} {e:Int} (h:Rnd n e) (h0:0<n):n.log2≤24∧(n.log2=24→n=16777216)∧(e ≠ -149→23≤n.log2):=by
 have hh:=h.hi
 have e25:(2:Nat) ^ 25=33554432:=by decide
 have e23:(2:Nat) ^ 23=8388608:=by decide
 have e24:(2:Nat) ^ 24=16777216:=by decide
 refine ⟨?_,?_,?_⟩
 ·have:n.log2<25:=(Nat.log2_lt (by omega)).2 (by omega)
  omega
 ·intro hl
  have a1:=(Nat.le_log2 (n:=n) (k:=n.log2) (by omega)).1 (Nat.le_refl _)
  rw [hl] at a1;omega
 ·intro hne
  rcases h.lo with hl | hl
  ·exact absurd hl hne
  ·exact (Nat.le_log2 (by omega)).2 (by omega)
theorem zsi (n d t:Nat) (h:n≤16777216) (hl:t<d→8388608≤n):2 ^ (24+t)≤n*2 ^ d↔(t<d∨(t=d∧n=16777216)):=by
 have e24:(2:Nat) ^ 24=16777216:=by decide
 have e23:(2:Nat) ^ 23=8388608:=by decide
 rcases Nat.lt_trichotomy d t with h1 | h1 | h1
 ·have hx:n*2 ^ d<2 ^ (24+t):=by
   rw [show 24+t=25+(t - 1) from by omega,Nat.pow_add]
   refine Nat.lt_of_le_of_lt (Nat.mul_le_mul_left n (Nat.pow_le_pow_right (by omega) (show d≤t - 1 by omega))) (Nat.mul_lt_mul_of_pos_right ?_ (Nat.two_pow_pos _))
   have e25:(2:Nat) ^ 25=33554432:=by decide
   omega
  constructor
  ·intro h;exact absurd h (Nat.not_le.2 hx)
  ·intro h;omega
 ·subst h1
  have hp:=Nat.two_pow_pos d
  rw [Nat.pow_add,e24]
  constructor
  ·intro h
   have:=Nat.le_of_mul_le_mul_right h hp
   omega
  ·rintro (h | ⟨_,h⟩)
   ·omega
   ·rw [h];exact Nat.le_refl _
 ·constructor
  ·intro _;exact Or.inl h1
  ·intro _
   rw [show 24+t=23+(1+t) from by omega,Nat.pow_add]
   exact Nat.mul_le_mul (by rw [e23];exact hl h1) (Nat.pow_le_pow_right (by omega) (by omega))
theorem zn3 {e:Int} {u:Nat} (he : -1022≤e) (he2:e≤1023) (hu:e+1074=24+(u:Int)):key double (dn 1 e)=((2 ^ (24+u):Nat):Int):=by
 have b1:(1:Nat).log2=0:=by decide
 rw [zkr (n:=1) (by omega) (by omega) (by rw [b1];omega) (by rw [b1];omega) (by omega),Nat.one_mul,show (e+1074).toNat=24+u from by omega]
theorem zoC {e:Int} (he : -1022≤e) (he2:e≤1023):fin double (dn 1 e)=true:=by
 have b1:(1:Nat).log2=0:=by decide
 exact zkI (n:=1) (by omega) (by omega) (by rw [b1];omega) (by rw [b1];omega)
theorem zts {n:Nat} {e t:Int} (h:Rnd n e) (h0:0<n) (he2:e+n.log2≤1023) (ht:t=128):(double.order (dn n e) (dn 1 t)==some .gt || double.order (dn n e) (dn 1 t)==some .eq)=decide (2139095040≤rung n e):=by
 have hp:=h.place
 have hh:=h.hi
 have hl:=h.log2 h0
 obtain ⟨u,hu⟩:∃ u:Nat,(u:Int)=t+1050:=⟨(t+1050).toNat,by omega⟩
 obtain ⟨d,hd⟩:∃ d:Nat,(e+1074).toNat=d:=⟨_,rfl⟩
 have hk2:=zn3 (e:=t) (u:=u) (by omega) (by omega) (by omega)
 have hk1:=zkr h0 (by omega) (by omega) he2 (show -1074≤e by omega)
 have f1:=zkI (n:=n) (e:=e) h0 (by omega) (by omega) he2
 have f2:=zoC (e:=t) (by omega) (by omega)
 rw [za4 f1 f2,hk1,hk2,hd]
 clear hk1 hk2 f1 f2
 have key:(2 ^ (24+u)≤n*2 ^ d)↔2139095040≤rung n e:=by
  rw [zsi n d u hh (by intro _;rcases h.lo with h2 | h2<;>omega)]
  unfold rung
  constructor
  ·rintro (h1 | ⟨h1,h2⟩)
   ·have:8388608≤n:=by rcases h.lo with h2 | h2<;>omega
    omega
   ·omega
  ·intro h1
   omega
 clear hu hd
 generalize 2 ^ (24+u)=A at key
 generalize n*2 ^ d=B at key
 generalize rung n e=R at key
 by_cases hR:2139095040≤R
 ·rw [decide_eq_true hR]
  have:=key.2 hR
  rcases Nat.lt_or_ge A B with hx | hx
  ·rw [zdG (by omega)];rfl
  ·have:A=B:=by omega
   subst this;rw [zdH];rfl
 ·rw [decide_eq_false hR]
  have:B<A:=by
   rcases Nat.lt_or_ge B A with hx | hx
   ·exact hx
   ·exact absurd (key.1 hx) hR
  rw [zc8 (by omega)];rfl
theorem zkR (s:Bool) {R:Nat} (h:R<2139095040):(single.read (single.word s R)).isInfinity=false:=by
 unfold Format.read Format.word
 rw [zek,zbt,zdW]
 have e1:(if s=true then 2147483648+R else R) % 2147483648=R:=by split<;>omega
 simp only [e1]
 by_cases h1:R<8388608
 ·rw [if_pos h1];rfl
 ·rw [if_neg h1,if_pos h];rfl
theorem zdy (s:Bool) {m k l:Nat} {p q:Int} (hm:0<m) (hlog:m.log2=l) (hq:p+k=q) (hl:max (q+l - 23) (-149)=q) (hr:(q+149).toNat*8388608+m≤2139095040) :
  single.write (.number s (m*2 ^ k) p)=single.word s ((q+149).toNat*8388608+m):=by
 show single.nearest s (m*2 ^ k) p=_
 subst hq
 rw [zff single s m k p hm (by rw [hlog,za8];exact hl) (by rw [za8,zbt,zdW,show p+(k:Int) - -149=p+k+149 from by omega];exact hr)]
 rw [za8,zbt,show p+(k:Int) - -149=p+k+149 from by omega]
theorem zgZ {b m r:Nat} {s:Bool} {e:Int} (h:double.read b = .number s m e) (hw:single.write (.number s m e)=r) (hi:(single.read r).isInfinity=false):floatToFloatBits .f64 b .f32=some r:=by
 have h':FloatKind.f64.decode b = .number s m e:=h
 have hw':FloatKind.f32.encode (.number s m e)=r:=hw
 have hi':(FloatKind.f32.decode r).isInfinity=false:=hi
 unfold floatToFloatBits
 rw [if_neg (by decide),h']
 simp only [hw',hi']
 rfl
theorem zrT (s:Bool) {n:Nat} {e:Int} (h:Rnd n e) (h0:0<n) (hR:rung n e<2139095040):floatToFloatBits .f64 (dw s (sg n) (e+n.log2 - 52)) .f32=some (single.word s (rung n e)):=by
 have hp:=h.place
 have hh:=h.hi
 have hl:=h.log2 h0
 have hl1:=hl.1
 have he:e≤105:=by unfold rung at hR;omega
 have hn:=zc9 (n:=n) (e:=e) h0 (by omega) (by omega) (by omega)
 refine zgZ (zb5 s hn) ?_ (zkR s hR)
 clear hn
 unfold sg rung at *
 by_cases h24:n.log2=24
 ·have hn24:=hl.2.1 h24
  obtain ⟨m,hm⟩:∃ m:Nat,n=m*2:=⟨8388608,hn24⟩
  have hm8:m=8388608:=by omega
  have e23:(2:Nat) ^ 23=8388608:=by decide
  have e24:(2:Nat) ^ (23+1)=16777216:=by decide
  have hlm:m.log2=23:=zoK (by rw [e23];omega) (by rw [e24];omega)
  have e1:n*2 ^ (52 - n.log2)=m*2 ^ 29:=by rw [h24,hm,Nat.mul_assoc]
  rw [e1,h24,zdy s (k:=29) (q:=e+1) (by omega) hlm (by omega) (by omega) (by omega),show (e+1+149).toNat*8388608+m=(e+149).toNat*8388608+n from by omega]
 ·have hlt:n.log2≤23:=by omega
  have hc:max (e+(n.log2:Int) - 23) (-149)=e:=by
   by_cases h9:e = -149
   ·omega
   ·have:=hl.2.2 h9;omega
  rw [zdy s (q:=e) h0 rfl (by omega) hc (by omega)]
end Go.Proofs.YtmkihdjolnlccaaGreatDoor.Flt
