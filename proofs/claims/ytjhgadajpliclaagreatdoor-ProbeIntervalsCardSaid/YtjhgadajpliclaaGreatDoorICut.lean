/- Contract of strings.Cut at the separator '/'. -/
import Derived.Test.YtjhgadajpliclaaGreatDoorIRow
import Derived.Test.YtjhgadajpliclaaGreatDoorIShelf
import Derived.Lib.IndexLaws
import Derived.Laws.RangeAny
namespace Go.Proofs.YtjhgadajpliclaaGreatDoor
open Go.RowKit
def cutL (l:List UInt8):List UInt8 × List UInt8 × Bool:=
 if 0≤Lib.indexByte l 47 then (l.take (Lib.indexByte l 47).toNat,l.drop ((Lib.indexByte l 47).toNat+1),true) else (l,[],false)
theorem indexByte_lt (l:List UInt8) (c:UInt8):Lib.indexByte l c<l.length∨Lib.indexByte l c = -1:=by
 by_cases h:Lib.indexByte l c<0
 ·have:=Lib.indexByte_ge l c;omega
 ·obtain ⟨o,ho⟩:=Int.eq_ofNat_of_zero_le (Int.not_lt.1 h)
  have:=(Lib.indexByte_some ho).1
  have h2:o<l.length:=by
   rcases Nat.lt_or_ge o l.length with h3 | h3
   ·exact h3
   ·rw [List.getElem?_eq_none h3] at this;cases this
  omega
set_option maxHeartbeats 1000000 in
set_option maxRecDepth 100000 in
theorem index_slash (s:ByteArray) (w:World) :
  Calls Tryz.prog 220 #[.string s,.string { data:=#[47] }] w fun e w'=>e = .returned (.int .i64 (Lib.indexByte s.data.toList 47))∧w=w':=by
 have h:=fun W:World=>Tryz.stringslite_IndexByte s 47 W
 have e47:(47:Int).toNat.toUInt8=47:=by decide
 rw [e47] at h
 clear e47
 by_cases hs:s.data.toList=[47]
 ·have hb:([47]==s.toList)=true:=by
   have:s.toList=s.data.toList:=ByteArray.toList_eq s
   rw [this,hs];rfl
  have hv:Hid (Lib.indexByte s.data.toList 47=0):=by unfold Hid;rw [hs];rfl
  clear hs h
  go_enter Tryz.func220,Tryz.ntmps220
  go_wp2
  go_ret
  exact ⟨by rw [hv.out];rfl,rfl⟩
 ·have hb:([47]==s.toList)=false:=by
   have:s.toList=s.data.toList:=ByteArray.toList_eq s
   rw [this]
   exact beq_eq_false_iff_ne.2 fun e=>hs e.symm
  clear hs
  generalize Lib.indexByte s.data.toList 47=i at h ⊢
  go_enter Tryz.func220,Tryz.ntmps220
  go_wp2_with fail
  refine (h _).mono ?_
  rintro e w1 ⟨rfl,hw⟩
  subst hw
  go_wp2
  go_ret
  exact ⟨rfl,rfl⟩
set_option maxHeartbeats 1000000 in
set_option maxRecDepth 100000 in
theorem slcut_slash (s:ByteArray) (w:World) (hs:s.size≤4294967296) :
  Calls Tryz.prog 193 #[.string s,.string { data:=#[47] }] w fun e w'=>(∃ a b:ByteArray,e = .returned (.tuple #[.string a,.string b,.bool (cutL s.data.toList).2.2])∧a.data.toList=(cutL s.data.toList).1∧b.data.toList=(cutL s.data.toList).2.1)∧∃ n,w'=w.drewN n:=by
 obtain ⟨i,hi⟩:∃ i,i=Lib.indexByte s.data.toList 47:=⟨_,rfl⟩
 have hc:=fun W:World=>index_slash s W
 rw [←hi] at hc
 have hsz:s.data.toList.length=s.size:=by simp
 have hlt:=indexByte_lt s.data.toList 47
 rw [←hi,hsz] at hlt
 go_enter Tryz.func193,Tryz.ntmps193
 by_cases h0:i<0
 ·have hcut:Hid (cutL s.data.toList=(s.data.toList,[],false)):=by unfold Hid cutL;rw [←hi,if_neg (by omega)]
  clear hi hlt hsz
  go_wp2_with fail
  refine (hc _).mono ?_
  rintro e w1 ⟨rfl,rfl⟩
  go_wp2
  go_ret3
  exact ⟨⟨s,⟨#[]⟩,by rw [hcut.out];rfl,by rw [hcut.out],by rw [hcut.out]⟩,0,rfl⟩
 ·obtain ⟨k,rfl⟩:=Int.eq_ofNat_of_zero_le (Int.not_lt.1 h0)
  have hk:k<s.size:=by omega
  have hcut:Hid (cutL s.data.toList=(s.data.toList.take k,s.data.toList.drop (k+1),true)):=by unfold Hid cutL;rw [←hi,if_pos (by omega)];simp
  clear hi hlt hsz
  have a1:IntKind.i64.wrap ((k:Int)+1)=(k:Int)+1:=IntWalk.i64_in _ (by omega)
  have a2:((k:Int)+1).toNat=k+1:=by omega
  go_wp2_with fail
  refine (hc _).mono ?_
  rintro e w1 ⟨rfl,rfl⟩
  go_wp2_with fail
  go_quiet (fail)
  go_wp2
  go_ret3
  refine ⟨⟨s.extract 0 k,s.extract (k+1) s.size,by rw [hcut.out];rfl,?_,?_⟩,nq,rfl⟩
  ·rw [hcut.out,Lib.extract_data];simp
  ·rw [hcut.out,Lib.extract_data];exact List.take_of_length_le (by simp)
set_option maxHeartbeats 1000000 in
theorem cut_slash (s:ByteArray) (w:World) (hs:s.size≤4294967296) :
  Calls Tryz.prog 144 #[.string s,.string { data:=#[47] }] w fun e w'=>(∃ a b:ByteArray,e = .returned (.tuple #[.string a,.string b,.bool (cutL s.data.toList).2.2])∧a.data.toList=(cutL s.data.toList).1∧b.data.toList=(cutL s.data.toList).2.1)∧∃ n,w'=w.drewN n:=by
 have hc:=slcut_slash s w hs
 generalize cutL s.data.toList=C at hc ⊢
 obtain ⟨c1,c2,c3⟩:=C
 go_enter Tryz.func144,Tryz.ntmps144
 go_wp2_with fail
 refine hc.mono ?_
 rintro e w1 ⟨⟨a,b,rfl,h1,h2⟩,n,rfl⟩
 go_wp2
 go_ret3
 exact ⟨⟨a,b,rfl,h1,h2⟩,n,rfl⟩
def digB (c:Int):Bool:=decide (48≤c) && decide (c≤57)
theorem isDigit_any (c:Int) (w:World) :
  Calls Tryz.prog 195 #[.int .i32 c] w fun e w'=>e = .returned (.bool (digB c))∧w=w':=by
 by_cases h1:48≤c
 ·have d1:decide (48≤c)=true:=by simpa using h1
  obtain ⟨b,hb⟩:∃ b,decide (c≤57)=b:=⟨_,rfl⟩
  have HV:Hid (digB c=b):=by unfold Hid digB;rw [d1,hb,Bool.true_and]
  go_enter Tryz.func195,Tryz.ntmps195
  go_wp2
  go_ret
  exact ⟨by rw [HV.out];rfl,rfl⟩
 ·have d1:decide (48≤c)=false:=by simpa using h1
  have HV:Hid (digB c=false):=by unfold Hid digB;rw [d1,Bool.false_and]
  go_enter Tryz.func195,Tryz.ntmps195
  go_wp2
  go_ret
  exact ⟨by rw [HV.out];rfl,rfl⟩
def digits (l:List UInt8):Bool:=l.all fun c=>digB (c.toNat:Int)
def isDec (l:List UInt8):Bool:=digits l && (decide (l=[48]) || (decide (l≠[]) && decide (l.head? ≠ some 48)))
theorem width_pos (s:ByteArray) (pos:Nat) (h:pos<s.size):1≤(Utf8.decode s pos).2:=by
 by_cases ha:(s[pos]'h).toNat<128
 ·rw [decode_ascii s pos h ha]
  exact Nat.le_refl _
 ·exact (decode_high s pos h (by omega)).2
theorem digits_split (s:ByteArray) (pos:Nat) (h:pos<s.size):digits (s.data.toList.drop pos)=(digB ((s[pos]'h).toNat:Int) && digits (s.data.toList.drop (pos+1))):=by
 have hl:pos<s.data.toList.length:=by simpa using h
 rw [List.drop_eq_getElem_cons hl]
 rfl
theorem digB_high (c:Int) (h:128≤c):digB c=false:=by
 unfold digB
 have:decide (c≤57)=false:=by simp;omega
 rw [this,Bool.and_false]
set_option maxHeartbeats 1000000 in
set_option maxRecDepth 100000 in
theorem isDecimal_any (s:ByteArray) (w:World) :
  Calls Tryz.prog 146 #[.string s] w fun e w'=>e = .returned (.bool (isDec s.data.toList))∧Below w.heap.size w w':=by
 go_enter Tryz.func146,Tryz.ntmps146
 go_wp2
 go_loopw [] (fun wr=>∃ pos,wr=w.iter s pos∧pos≤s.size∧Hid (digits s.data.toList=digits (s.data.toList.drop pos))) (fun wr=>s.size - wr.iterPos w.heap.size)
 case atStart=>exact ⟨0,rfl,Nat.zero_le _,rfl⟩
 case round=>
  obtain ⟨pos,rfl,hps,hd⟩:=hrel
  by_cases hp:pos<s.size
  ·have hsp:=digits_split s pos hp
   by_cases ha:(s[pos]'hp).toNat<128
   ·have hnx:∀ ty,(Instr.next (.pointer (some ⟨w.heap.size,0,none⟩)) true ty).run Tryz.prog (w.iter s pos)=_:=fun ty=>run_next_ascii w s pos ty hp ha
    obtain ⟨c,hc⟩:∃ c:Nat,(s[pos]'hp).toNat=c:=⟨_,rfl⟩
    rw [hc] at hsp ha
    simp only [hc] at hnx
    have hcall:=isDigit_any (c:Int) (w.iter s (pos+1))
    cases hdg:digB (c:Int)
    ·rw [hdg] at hcall hsp
     have HV:Hid (isDec s.data.toList=false):=by rw [Hid,isDec,hd.out,hsp];rfl
     clear hsp hc hdg
     go_wp2_with fail
     refine hcall.mono ?_
     rintro e w1 ⟨rfl,rfl⟩
     go_wp2_with fail
     go_ret
     exact ⟨by rw [HV.out];rfl,(Below.refl _ _).alloc (Nat.le_refl _) _⟩
    ·rw [hdg] at hcall hsp
     have HV:Hid (digits s.data.toList=digits (s.data.toList.drop (pos+1))):=by rw [Hid,hd.out,hsp];rfl
     clear hsp hc hdg
     go_wp2_with fail
     refine hcall.mono ?_
     rintro e w1 ⟨rfl,rfl⟩
     go_wp2_with fail
     go_roundw
     case rel=>exact ⟨pos+1,rfl,hp,HV⟩
     case measure=>simp;omega
   ·have hnx:∀ ty,(Instr.next (.pointer (some ⟨w.heap.size,0,none⟩)) true ty).run Tryz.prog (w.iter s pos)=_:=fun ty=>run_next_any w s pos ty hp
    have hdh:=(decode_high s pos hp (by omega)).1
    obtain ⟨c,hc⟩:∃ c,(Utf8.decode s pos).1=c:=⟨_,rfl⟩
    obtain ⟨p2,hp2⟩:∃ p2,pos+(Utf8.decode s pos).2=p2:=⟨_,rfl⟩
    simp only [hc,hp2] at hnx
    rw [hc] at hdh
    have hcall:=isDigit_any (c:Int) (w.iter s p2)
    rw [digB_high (c:Int) (by omega)] at hcall
    rw [digB_high _ (show (128:Int)≤((s[pos]'hp).toNat:Int) by omega)] at hsp
    have HV:Hid (isDec s.data.toList=false):=by rw [Hid,isDec,hd.out,hsp];rfl
    clear hsp hc hp2 ha
    go_wp2_with fail
    refine hcall.mono ?_
    rintro e w1 ⟨rfl,rfl⟩
    go_wp2_with fail
    go_ret
    exact ⟨by rw [HV.out];rfl,(Below.refl _ _).alloc (Nat.le_refl _) _⟩
  ·have hnx:∀ ty,(Instr.next (.pointer (some ⟨w.heap.size,0,none⟩)) true ty).run Tryz.prog (w.iter s pos)=_:=fun ty=>run_next_end w s pos ty hp
   have HD:Hid (digits s.data.toList=true):=by rw [Hid,hd.out,List.drop_of_length_le (by simpa using hp)];rfl
   by_cases hA:s.toList=[48]
   ·have HV:Hid (isDec s.data.toList=true):=by rw [Hid,isDec,HD.out,←ByteArray.toList_eq,hA];rfl
    go_wp2
    go_ret
    exact ⟨by rw [HV.out];rfl,(Below.refl _ _).alloc (Nat.le_refl _) _⟩
   ·by_cases hB:s.toList=[]
    ·have HV:Hid (isDec s.data.toList=false):=by rw [Hid,isDec,HD.out,←ByteArray.toList_eq,hB];rfl
     go_wp2
     go_ret
     exact ⟨by rw [HV.out];rfl,(Below.refl _ _).alloc (Nat.le_refl _) _⟩
    ·have hz:0<s.size:=by
      rcases Nat.eq_zero_or_pos s.size with h | h
      ·exfalso
       apply hB
       rw [ByteArray.toList_eq]
       exact List.eq_nil_of_length_eq_zero (by simpa using h)
      ·exact h
     have hne:s.toList.isEmpty=false:=by
      cases h:s.toList with
      | nil=>exact absurd h hB
      | cons _ _=>rfl
     have hA2:(s.toList==[48])=false:=by simpa using hA
     obtain ⟨b,hb⟩:∃ b,((((s[0]'hz).toNat:Nat):Int) != 48)=b:=⟨_,rfl⟩
     have HV:Hid (isDec s.data.toList=b):=by
      rw [Hid,isDec,HD.out,←hb]
      have e:s.data.toList.head? = some (s[0]'hz):=by
       have hl:0<s.data.toList.length:=by simpa using hz
       rw [List.head?_eq_getElem?,List.getElem?_eq_getElem hl]
       rfl
      rw [←ByteArray.toList_eq] at e ⊢
      rw [e]
      rw [Bool.eq_iff_iff]
      simp [hA,hB]
      rw [←UInt8.toNat_inj]
      simp
      omega
     go_wp2
     go_ret
     exact ⟨by rw [HV.out];rfl,(Below.refl _ _).alloc (Nat.le_refl _) _⟩
end Go.Proofs.YtjhgadajpliclaaGreatDoor
namespace Go.Proofs.YtjhgadajpliclaaGreatDoor
open Go.RowKit Bn
def SubInv (w wr:World) (base g nt ct:Nat) (lt la lb:List Nat) (same:Prop) (k b0:Nat):Prop:=
 ∃ ls,RowAt wr base g nt ct ls∧Wf ls∧val (ls.take k)+val (lb.take k)=val (la.take k)+B ^ k*b0∧(same→∀ j,k≤j→ls.getD j 0=lt.getD j 0)∧w.grownBy wr (some g)
set_option maxHeartbeats 2000000 in
set_option maxRecDepth 100000 in
theorem subtract_any (A A':Option Addr) (base g nt ct n c n' c' x y:Nat) (lt:List Nat) (w:World) (same:Prop) (ht:RowAt w base g nt ct lt) (hlt:Wf lt) (ha:NatS w w.heap.size A n c x)
  (hb:NatS w w.heap.size A' n' c' y) (hAs:((0<n→Off A g)∧¬ same)∨(A=some ⟨g,0,none⟩∧lt=digs x∧same)) (hob:0<n'→Off A' g) (hnt:n≤nt) (hyx:y≤x) (hn:n≤1099511627776) :
  Calls Tryz.prog 203 #[.slice (some ⟨g,0,none⟩) nt ct,.slice A n c,.slice A' n' c'] w fun e w'=>∃ m,e = .returned (.slice (some ⟨g,0,none⟩) m ct)∧RowAt w' base g m ct (digs (x - y))∧w.grownBy w' (some g):=by
 have hla:=ha.len
 have hlb:=hb.len
 have hA:=Lib.hid hla
 have hB:=Lib.hid hlb
 have hle:n'≤n:=by rw [←hla,←hlb];exact digs_length_mono hyx
 clear hla hlb
 have h1:=ha.nc
 have h2:=ha.cm
 have h3:=hb.nc
 have h4:=hb.cm
 have h5:=ht.caps
 unfold maxLen at h2 h4 h5
 obtain ⟨h5,h6⟩:=h5
 have HT:=Lib.hid ht
 have HS:=Lib.hid hAs
 clear ht hAs
 go_enter Tryz.func203,Tryz.ntmps203
 go_wp2
 go_loopw [7,13] (fun cy s wr=>∃ k b0:Nat,k≤n∧b0≤1∧s = .int .i64 k∧cy = .int .u64 b0∧SubInv w wr base g nt ct lt (digs x) (digs y) same k b0) (fun _ s _=>n - (intOf s).toNat)
 case atStart=>exact ⟨0,0,by omega,by omega,rfl,rfl,lt,HT.out,hlt,by simp,fun _ _ _=>rfl,World.grownBy.refl w _⟩
 case round=>
  obtain ⟨k,b0,hk,hb0,rfl,rfl,ls,hrow,hwf,hval,hsm,hgr⟩:=hrel
  have HV:=Lib.hid hval
  have HM:=Lib.hid hsm
  clear hval hsm
  by_cases hkn:k<n
  ·have hA2:∃ ad,A=some ad∧wr.cell? (ad.add k)=some (.int .u64 (((digs x).getD k 0:Nat):Int)):=by
    rcases HS.out with ⟨ho,_⟩ | ⟨hAe,hle',hs⟩
    ·obtain ⟨ad,e,_,hc⟩:=(ha.words.kept hgr (Nat.le_refl _) ho).word (k:=k) hkn
     exact ⟨ad,e,hc⟩
    ·refine ⟨_,hAe,?_⟩
     have:=hrow.cell k (by omega)
     rw [HM.out hs k (Nat.le_refl _),hle'] at this
     have e0:(⟨g,0,none⟩:Addr).add k=⟨g,k,none⟩:=by
      unfold Addr.add
      by_cases hj:k=0<;>simp [hj]
     rw [e0];exact this
   obtain ⟨ad,hAe,hca⟩:=hA2
   have HAE:=Lib.hid hAe
   have hls:k<ls.length:=by rw [hrow.len];omega
   have hcs:=hrow.cell k (by omega)
   have hfs:=hrow.free k
   have hxB:=getD_lt (wf_digs x) k
   have hyB:=getD_lt (wf_digs y) k
   obtain ⟨xk,hgx⟩:∃ xk,(digs x).getD k 0=xk:=⟨_,rfl⟩
   obtain ⟨yk,hgy⟩:∃ yk,(digs y).getD k 0=yk:=⟨_,rfl⟩
   rw [hgx] at hca hxB
   rw [hgy] at hyB
   generalize ls.getD k 0=old at hcs
   obtain ⟨s,d,hsd,hsB,hd1,hrun⟩:=call_sub64 xk yk b0 hxB hyB hb0
   have HP:Hid (val ((ls.set k s).take (k+1))+val ((digs y).take (k+1))=val ((digs x).take (k+1))+B ^ (k+1)*d):=
    minus_round ls _ _ k hls s b0 d HV.out (by rw [hgx,hgy];exact hsd)
   have HM2:Hid (same→∀ j,k+1≤j→(ls.set k s).getD j 0=lt.getD j 0):=fun hs j hj=>by
    rw [←HM.out hs j (by omega)]
    simp only [List.getD]
    rw [List.getElem?_set_ne (by omega)]
   subst hAe
   by_cases hkn':k<n'
   ·obtain ⟨ad',rfl,hbb,hcb⟩:=(hb.words.kept hgr (Nat.le_refl _) hob).word (k:=k) hkn'
    rw [hgy] at hcb
    clear hsd hgx hgy
    go_wp2
    go_roundw
    case rel=>exact ⟨k+1,d,by omega,hd1,by go_num,rfl,_,hrow.set k s,hwf.set k hsB,HP.out,HM2.out,only_setCell hgr (.inl rfl) _⟩
    case measure=>simp [intOf]<;>omega
   ·have hy0:yk=0:=by rw [←hgy];exact getD_out (by rw [hB.out];omega)
    subst hy0
    replace hrun:∀ w:World,(callFunc 227 #[.int .u64 xk,.int .u64 0,.int .u64 b0]).run Tryz.prog w = .ok (.value (.tuple #[.int .u64 s,.int .u64 d])) w:=hrun
    clear hsd hgx hgy
    go_wp2
    go_roundw
    case rel=>exact ⟨k+1,d,by omega,hd1,by go_num,rfl,_,hrow.set k s,hwf.set k hsB,HP.out,HM2.out,only_setCell hgr (.inl rfl) _⟩
    case measure=>simp [intOf]<;>omega
  ·obtain rfl:k=n:=by omega
   have hv:val (ls.take k)=x - y:=by
    have h7:=HV.out
    rw [List.take_of_length_le (l:=digs x) (by rw [hA.out];exact Nat.le_refl _),List.take_of_length_le (l:=digs y) (by rw [hB.out];exact hle),val_digs,val_digs] at h7
    have h8:=val_lt (hwf.take k)
    rw [List.length_take,hrow.len,Nat.min_eq_left hnt] at h8
    have h9:=lt_of_digs_length x
    rw [hA.out] at h9
    exact minus_end _ _ _ _ _ h7 h8 hyx hb0
   have ht:=trimmed_row base g k ct (ls.take k) wr (hrow.take hnt) (hwf.take k)
   rw [hv] at ht
   have HC:=Lib.hid ht
   clear ht hv
   go_wp2_with fail
   refine HC.out.mono ?_
   rintro e w1 ⟨m,rfl,hn1,rfl⟩
   go_wp2
   go_ret
   exact ⟨m,rfl,hn1,hgr⟩
theorem call_mul64 (x y:Nat) (hx:x<18446744073709551616) (hy:y<18446744073709551616) :
  ∃ hi lo:Nat,lo+18446744073709551616*hi=x*y∧lo<18446744073709551616∧hi<18446744073709551616 ∧
   ∀ w:World,Calls Tryz.prog 221 #[.int .u64 x,.int .u64 y] w fun e w'=>e = .returned (.tuple #[.int .u64 (hi:Int),.int .u64 (lo:Int)])∧w'=w:=by
 refine ⟨x*y / 18446744073709551616,x*y % 18446744073709551616,Nat.mod_add_div _ _,Nat.mod_lt _ (by omega),?_,fun w=>Tryz.bits_Mul64 x y hx hy w⟩
 exact Nat.div_lt_of_lt_mul (mul_lt_two x y hx hy)
set_option maxHeartbeats 1000000 in
theorem timesPlus_any (a b c d:Nat) (ha:a<18446744073709551616) (hb:b<18446744073709551616) (hc:c<18446744073709551616) (hd:d<18446744073709551616) :
  ∃ lo hi:Nat,lo+18446744073709551616*hi=a*b+c+d∧lo<18446744073709551616∧hi<18446744073709551616 ∧
   ∀ w:World,Calls Tryz.prog 196 #[.int .u64 a,.int .u64 b,.int .u64 c,.int .u64 d] w fun e w'=>e = .returned (.tuple #[.int .u64 (lo:Int),.int .u64 (hi:Int)])∧w=w':=by
 obtain ⟨h,l,hm,hl,hh,hcall⟩:=call_mul64 a b ha hb
 obtain ⟨l1,c1,e1,hl1,hc1,run1⟩:=call_add64 l c 0 hl hc (by omega)
 obtain ⟨l2,c2,e2,hl2,hc2,run2⟩:=call_add64 l1 d 0 hl1 hd (by omega)
 have hbound:=mul_bound a b ha hb
 have hle:h+c1+c2<18446744073709551616:=by omega
 refine ⟨l2,h+c1+c2,by omega,hl2,hle,fun w => ?_⟩
 replace run1:∀ w:World,(callFunc 222 #[.int .u64 l,.int .u64 c,.int .u64 0]).run Tryz.prog w = .ok (.value (.tuple #[.int .u64 l1,.int .u64 c1])) w:=run1
 replace run2:∀ w:World,(callFunc 222 #[.int .u64 l1,.int .u64 d,.int .u64 0]).run Tryz.prog w = .ok (.value (.tuple #[.int .u64 l2,.int .u64 c2])) w:=run2
 clear e1 e2 hm hbound
 go_enter Tryz.func196,Tryz.ntmps196
 go_wp2_with fail
 refine (hcall _).mono ?_
 rintro e w' ⟨rfl,rfl⟩
 go_wp2
 go_ret2
 exact ⟨rfl,rfl⟩
def TimesInv (w wr:World) (n n':Nat) (la lb:List Nat) (i:Nat):Prop:=
 ∃ ls,RowAt wr w.heap.size w.heap.size (n+n') (n+n') ls∧Wf ls∧val ls=val (la.take i)*val lb∧(∀ t,i+n'≤t→ls.getD t 0=0)∧Below w.heap.size w wr
def TimesIn (w wr:World) (n n':Nat) (la lb:List Nat) (i j c:Nat):Prop:=
 ∃ ls,RowAt wr w.heap.size w.heap.size (n+n') (n+n') ls∧Wf ls∧val ls+B ^ (i+j)*c=val (la.take i)*val lb+B ^ i*(la.getD i 0*val (lb.take j))∧(∀ t,i+n'≤t→ls.getD t 0=0)∧Below w.heap.size w wr
set_option maxHeartbeats 4000000 in
set_option maxRecDepth 100000 in
theorem times_any (A A':Option Addr) (n c n' c' x y:Nat) (w:World) (ha:NatS w w.heap.size A n c x) (hb:NatS w w.heap.size A' n' c' y) (hn:n≤1099511627776) (hn':n'≤1099511627776) :
  Calls Tryz.prog 177 #[.slice A n c,.slice A' n' c'] w (RetNat w (x*y)):=by
 obtain ⟨i0,hi0,hz0,hz1,hz2⟩:=info_parts info_u64
 have hla:=ha.len
 have hlb:=hb.len
 have hA:=Lib.hid hla
 have hB:=Lib.hid hlb
 clear hla hlb
 have h1:=ha.nc
 have h2:=ha.cm
 have h3:=hb.nc
 have h4:=hb.cm
 unfold maxLen at h2 h4
 go_enter Tryz.func177,Tryz.ntmps177
 go_wp2_with (at_make;refine wpList_make_full _ rfl _ _ 157 rfl w.heap.size 199 i0 (.int .u64 0) 1 Tryz.underlying157 hi0 hz0 hz1 _ _ _ _ (n+n') rfl rfl (by omega) (by omega) ?b2 ?b3 (Nat.le_refl _) ?_)
 case b2=>rw [hz2];omega
 case b3=>unfold maxLen;omega
 intro w0 hown0 hgrow0
 have hbel0:Below w.heap.size w w0:=(Below.refl _ _).grown hgrow0 (Nat.le_refl _) (fun k h=>by cases h)
 have hrow0:=RowAt.made hown0
 clear hown0 hgrow0
 go_wp2
 go_loopw [19] (fun s wr=>∃ i:Nat,i≤n∧s = .int .i64 i∧TimesInv w wr n n' (digs x) (digs y) i) (fun s _=>n - (intOf s).toNat)
 case atStart=>exact ⟨0,by omega,rfl,_,hrow0,Wf.replicate _,by simp [val_replicate_zero],fun t _=>lgetD_zeros _ _,hbel0⟩
 case round=>
  obtain ⟨i,hi,rfl,ls,hrow,hwf,hval,hz,hbel⟩:=hrel
  obtain ⟨wo,rfl⟩:∃ wo:World,wo=wr:=⟨_,rfl⟩
  have HV:=Lib.hid hval
  have HZ:=Lib.hid hz
  clear hval hz
  by_cases hin:i<n
  ·obtain ⟨ad,rfl,hba,hca⟩:=(ha.below hbel).words.word (k:=i) hin
   have hxB:=getD_lt (wf_digs x) i
   obtain ⟨f,hgx⟩:∃ f,(digs x).getD i 0=f:=⟨_,rfl⟩
   rw [hgx] at hca hxB
   have HF:=Lib.hid hgx
   clear hgx
   go_wp2_with fail
   go_loopw [8,26] (fun cy s wr=>∃ j c0:Nat,j≤n'∧c0<18446744073709551616∧s = .int .i64 j∧cy = .int .u64 c0∧TimesIn w wr n n' (digs x) (digs y) i j c0) (fun _ s _=>n' - (intOf s).toNat)
   case atStart=>exact ⟨0,0,by omega,by omega,rfl,rfl,ls,hrow,hwf,by rw [HV.out];simp,HZ.out,hbel⟩
   case round=>
    obtain ⟨j,c0,hj,hc0,rfl,rfl,l2,hrow2,hwf2,hval2,hz2',hbel2⟩:=hrel
    have HV2:=Lib.hid hval2
    have HZ2:=Lib.hid hz2'
    clear hval2 hz2'
    by_cases hjn:j<n'
    ·obtain ⟨ad',rfl,hbb,hcb⟩:=(hb.below hbel2).words.word (k:=j) hjn
     have hyB:=getD_lt (wf_digs y) j
     obtain ⟨yk,hgy⟩:∃ yk,(digs y).getD j 0=yk:=⟨_,rfl⟩
     rw [hgy] at hcb hyB
     have hcs:=hrow2.cell (i+j) (by omega)
     have hfs:=hrow2.free (i+j)
     have hoB:=getD_lt hwf2 (i+j)
     obtain ⟨o,hgo⟩:∃ o,l2.getD (i+j) 0=o:=⟨_,rfl⟩
     rw [hgo] at hcs hoB
     obtain ⟨lo,hi',e1,hlo,hhi,hcall⟩:=timesPlus_any f yk o c0 hxB hyB hoB hc0
     have HP:Hid (val (l2.set (i+j) lo)+B ^ (i+(j+1))*hi'=val ((digs x).take i)*val (digs y)+B ^ i*((digs x).getD i 0*val ((digs y).take (j+1)))):=
      times_round l2 (digs y) i j _ _ lo hi' c0 (by rw [hrow2.len];omega) HV2.out (by rw [hgy,hgo,HF.out];exact e1)
     have HZ3:Hid (∀ t,i+n'≤t→(l2.set (i+j) lo).getD t 0=0):=fun t ht=>by rw [lgetD_set_ne _ _ _ _ (by omega)];exact HZ2.out t ht
     clear e1 hgy hgo
     go_wp2_with fail
     refine (hcall _).mono ?_
     rintro e w' ⟨rfl,rfl⟩
     go_wp2
     go_roundw
     case rel=>exact ⟨j+1,hi',by omega,hhi,by go_num,rfl,_,hrow2.set (i+j) lo,hwf2.set _ hlo,HP.out,HZ3.out,hbel2.setCell (Nat.le_refl _) _⟩
     case measure=>simp [intOf]<;>omega
    ·obtain rfl:j=n':=by omega
     have hcs:=hrow2.cell (i+j) (by omega)
     have hfs:=hrow2.free (i+j)
     have HP:Hid (val (l2.set (i+j) c0)=val ((digs x).take (i+1))*val (digs y)):=
      times_row l2 (digs x) (digs y) i j c0 (by rw [hrow2.len];omega) (HZ2.out _ (Nat.le_refl _)) hB.out HV2.out
     have HZ3:Hid (∀ t,i+1+j≤t→(l2.set (i+j) c0).getD t 0=0):=fun t ht=>by rw [lgetD_set_ne _ _ _ _ (by omega)];exact HZ2.out t (by omega)
     generalize l2.getD (i+j) 0=old at hcs
     go_wp2
     go_roundw
     case rel=>exact ⟨i+1,by omega,by go_num,_,hrow2.set (i+j) c0,hwf2.set _ hc0,HP.out,HZ3.out,hbel2.setCell (Nat.le_refl _) _⟩
     case measure=>simp [intOf]<;>omega
  ·obtain rfl:i=n:=by omega
   have hv:val ls=x*y:=by rw [HV.out,List.take_of_length_le (by rw [hA.out];exact Nat.le_refl _),val_digs,val_digs]
   have ht:=trimmed_nat (some ⟨w.heap.size,0,none⟩) (i+n') (i+n') ls wo hrow.words hwf (Nat.le_refl _) (by unfold maxLen;omega)
   rw [hv] at ht
   have HC:=Lib.hid ht
   clear ht hv
   go_wp2_with fail
   refine HC.out.mono ?_
   rintro e w1 ⟨m,rfl,hn1,rfl⟩
   go_wp2
   go_ret
   exact ⟨_,m,_,rfl,hn1,hbel⟩
end Go.Proofs.YtjhgadajpliclaaGreatDoor
