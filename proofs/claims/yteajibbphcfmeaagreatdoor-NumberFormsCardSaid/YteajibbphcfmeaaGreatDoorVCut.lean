/- Contract of strings.Cut at the separator '/'. -/
import Derived.Test.YteajibbphcfmeaaGreatDoorVWords
import Derived.Test.YteajibbphcfmeaaGreatDoorVStr1
import Derived.Lib.IndexLaws
namespace Go.Proofs.YteajibbphcfmeaaGreatDoor
open Go.RowKit
def cutL (l:List UInt8):List UInt8 × List UInt8 × Bool:=
 if 0≤Lib.indexByte l 47 then (l.take (Lib.indexByte l 47).toNat,l.drop ((Lib.indexByte l 47).toNat+1),true) else (l,[],false)
theorem zgW (l:List UInt8) (c:UInt8):Lib.indexByte l c<l.length∨Lib.indexByte l c = -1:=by
 by_cases h:Lib.indexByte l c<0
 ·have:=Lib.indexByte_ge l c;omega
 ·obtain ⟨o,ho⟩:=Int.eq_ofNat_of_zero_le (Int.not_lt.1 h)
  have:=(Lib.indexByte_some ho).1
  have h2:o<l.length:=by
   rcases Nat.lt_or_ge o l.length with h3 | h3
   ·exact h3
   ·rw [List.getElem?_eq_none h3] at this;cases this
  omega
set_option maxHeartbeats 1000000 in
set_option maxRecDepth 100000 in
theorem zhC (s:ByteArray) (w:World) :
  Calls Tryz.prog 197 #[.string s,.string { data:=#[47] }] w fun e w'=>e = .returned (.int .i64 (Lib.indexByte s.data.toList 47))∧w=w':=by
 have h:=fun W:World=>Tryz.stringslite_IndexByte s 47 W
 have aA:(47:Int).toNat.toUInt8=47:=by decide
 rw [aA] at h
 clear aA
 by_cases hs:s.data.toList=[47]
 ·have hb:([47]==s.toList)=true:=by
   have:s.toList=s.data.toList:=ByteArray.toList_eq s
   rw [this,hs];rfl
  have hv:Hid (Lib.indexByte s.data.toList 47=0):=by unfold Hid;rw [hs];rfl
  clear hs h
  go_enter Tryz.func197,Tryz.ntmps197
  go_wp2
  go_ret
  exact ⟨by rw [hv.out];rfl,rfl⟩
 ·have hb:([47]==s.toList)=false:=by
   have:s.toList=s.data.toList:=ByteArray.toList_eq s
   rw [this]
   exact beq_eq_false_iff_ne.2 fun e=>hs e.symm
  clear hs
  generalize Lib.indexByte s.data.toList 47=i at h ⊢
  go_enter Tryz.func197,Tryz.ntmps197
  go_wp2_with fail
  refine (h _).mono ?_
  rintro e w1 ⟨rfl,hw⟩
  subst hw
  go_wp2
  go_ret
  exact ⟨rfl,rfl⟩
set_option maxHeartbeats 1000000 in
set_option maxRecDepth 100000 in
theorem zhH (s:ByteArray) (w:World) (hs:s.size≤4294967296) :
  Calls Tryz.prog 170 #[.string s,.string { data:=#[47] }] w fun e w'=>(∃ a b:ByteArray,e = .returned (.tuple #[.string a,.string b,.bool (cutL s.data.toList).2.2])∧a.data.toList=(cutL s.data.toList).1∧b.data.toList=(cutL s.data.toList).2.1)∧∃ n,w'=w.drewN n:=by
 obtain ⟨i,hi⟩:∃ i,i=Lib.indexByte s.data.toList 47:=⟨_,rfl⟩
 have hc:=fun W:World=>zhC s W
 rw [←hi] at hc
 have aC:s.data.toList.length=s.size:=by simp
 have aA:=zgW s.data.toList 47
 rw [←hi,aC] at aA
 go_enter Tryz.func170,Tryz.ntmps170
 by_cases h0:i<0
 ·have hcut:Hid (cutL s.data.toList=(s.data.toList,[],false)):=by unfold Hid cutL;rw [←hi,if_neg (by omega)]
  clear hi aA aC
  go_wp2_with fail
  refine (hc _).mono ?_
  rintro e w1 ⟨rfl,rfl⟩
  go_wp2
  go_ret3
  exact ⟨⟨s,⟨#[]⟩,by rw [hcut.out];rfl,by rw [hcut.out],by rw [hcut.out]⟩,0,rfl⟩
 ·obtain ⟨k,rfl⟩:=Int.eq_ofNat_of_zero_le (Int.not_lt.1 h0)
  have hk:k<s.size:=by omega
  have hcut:Hid (cutL s.data.toList=(s.data.toList.take k,s.data.toList.drop (k+1),true)):=by unfold Hid cutL;rw [←hi,if_pos (by omega)];simp
  clear hi aA aC
  have a1:IntKind.i64.wrap ((k:Int)+1)=(k:Int)+1:=IntWalk.i64_in _ (by omega)
  have a2:((k:Int)+1).toNat=k+1:=by omega
  go_wp2_with fail
  refine (hc _).mono ?_
  rintro e w1 ⟨rfl,rfl⟩
  go_wp2_with fail
  go_quiet (fail)
  go_wp2
  go_ret3
  refine ⟨⟨s.extract 0 k,s.extract (k+1) s.size,by rw [hcut.out];rfl,?_,?_⟩,nq,rfl⟩
  ·rw [hcut.out,Lib.extract_data];simp
  ·rw [hcut.out,Lib.extract_data];exact List.take_of_length_le (by simp)
set_option maxHeartbeats 1000000 in
theorem zkS (s:ByteArray) (w:World) (hs:s.size≤4294967296) :
  Calls Tryz.prog 122 #[.string s,.string { data:=#[47] }] w fun e w'=>(∃ a b:ByteArray,e = .returned (.tuple #[.string a,.string b,.bool (cutL s.data.toList).2.2])∧a.data.toList=(cutL s.data.toList).1∧b.data.toList=(cutL s.data.toList).2.1)∧∃ n,w'=w.drewN n:=by
 have hc:=zhH s w hs
 generalize cutL s.data.toList=C at hc ⊢
 obtain ⟨c1,c2,c3⟩:=C
 go_enter Tryz.func122,Tryz.ntmps122
 go_wp2_with fail
 refine hc.mono ?_
 rintro e w1 ⟨⟨a,b,rfl,h1,h2⟩,n,rfl⟩
 go_wp2
 go_ret3
 exact ⟨⟨a,b,rfl,h1,h2⟩,n,rfl⟩
end Go.Proofs.YteajibbphcfmeaaGreatDoor
namespace Go.Proofs.YteajibbphcfmeaaGreatDoor
open Go.RowKit Bn
def zm7 (w wr:World) (g n:Nat) (la lb:List Nat) (k c0:Nat):Prop:=
 ∃ ls,zav wr w.heap.size g (n+1) (n+1) ls∧Wf ls∧val (ls.take k)+B ^ k*c0=val (la.take k)+val (lb.take k)∧Below w.heap.size w wr
theorem zhl (x y p q r:Nat) (h1:x<p) (h2:y<q) (h3:q≤p) (h4:p*2≤r):x+y<r:=by omega
set_option maxHeartbeats 2000000 in
set_option maxRecDepth 100000 in
theorem zb3 (A A':Option Addr) (n c n' c' x y:Nat) (w:World) (ha:NatS w w.heap.size A n c x) (hb:NatS w w.heap.size A' n' c' y) (hn:n≤1099511627776) (hn':n'≤1099511627776) :
  Calls Tryz.prog 128 #[.slice A n c,.slice A' n' c'] w (zbX w (x+y)):=by
 obtain ⟨i0,bC,bK,aZ,bB⟩:=info_parts zb2
 go_enter Tryz.func128,Tryz.ntmps128
 go_upto_if 14 with (fail)
 go_cut [0,1] (fun s s' wc=>∃ A n c A' n' c' u v,s = .slice A n c∧s' = .slice A' n' c'∧NatS w w.heap.size A n c u∧NatS w w.heap.size A' n' c' v∧n'≤n∧n≤1099511627776∧u+v=x+y∧wc=w)
 case first=>
  by_cases hlt:n<n'
  ·have hd:decide (n<n')=true:=by simpa using hlt
   go_wp2_with fail
   go_meet
   exact ⟨A',n',c',A,n,c,y,x,rfl,rfl,hb,ha,by omega,hn',by omega,rfl⟩
  ·have hd:decide (n<n')=false:=by simpa using hlt
   go_wp2_with fail
   go_meet
   exact ⟨A,n,c,A',n',c',x,y,rfl,rfl,ha,hb,by omega,hn,by omega,rfl⟩
 case rest=>
  clear ha hb hn hn'
  obtain ⟨A,n,c,A',n',c',u,v,rfl,rfl,ha,hb,bJ,hn,aT,rfl⟩:=hcut
  have aX:=ha.len
  have aV:=hb.len
  have hA:=Lib.hid aX
  have hB:=Lib.hid aV
  have bF:=Lib.hid aT
  clear aX aV aT
  have h1:=ha.nc
  have h2:=ha.cm
  have h3:=hb.nc
  have h4:=hb.cm
  unfold maxLen at h2 h4
  go_wp2_with (at_make;refine wpList_make_full _ rfl _ _ 89 rfl wc.heap.size 120 i0 (.int .u64 0) 1 Tryz.underlying89 bC bK aZ _ _ _ _ (n+1) rfl rfl (by omega) (by omega) ?b2 ?b3 (Nat.le_refl _) ?_)
  case b2=>rw [bB];omega
  case b3=>unfold maxLen;omega
  intro w0 aE aD
  have aK:=zav.made aE
  have aJ:Below wc.heap.size wc w0:=(Below.refl _ _).grown aD (Nat.le_refl _) (fun k h=>by cases h)
  clear aE
  go_wp2
  clear aD
  go_loopw [6,23] (fun cy s wr=>∃ k c0:Nat,k≤n∧c0≤1∧s = .int .i64 k∧cy = .int .u64 c0∧zm7 wc wr wc.heap.size n (digs u) (digs v) k c0) (fun _ s _=>n - (intOf s).toNat)
  case atStart=>exact ⟨0,0,by omega,by omega,rfl,rfl,_,aK,Wf.replicate _,by simp,aJ⟩
  case round=>
   obtain ⟨k,c0,hk,bE,rfl,rfl,ls,aA,aO,aI,aC⟩:=hrel
   have HV:=Lib.hid aI
   clear aI
   by_cases hkn:k<n
   ·obtain ⟨ad,rfl,bL,bG⟩:=(ha.below aC).words.word (k:=k) hkn
    have aR:k<ls.length:=by rw [aA.len];omega
    have aQ:=aA.cell k (by omega)
    have bH:=aA.free k
    have aW:=zaD (zap u) k
    have aY:=zaD (zap v) k
    obtain ⟨xk,aN⟩:∃ xk,(digs u).getD k 0=xk:=⟨_,rfl⟩
    obtain ⟨yk,aG⟩:∃ yk,(digs v).getD k 0=yk:=⟨_,rfl⟩
    rw [aN] at bG aW
    rw [aG] at aY
    generalize ls.getD k 0=old at aQ
    obtain ⟨s,d,aP,aU,aS,aL⟩:=zbN xk yk c0 aW aY bE
    have HP:Hid (val ((ls.set k s).take (k+1))+B ^ (k+1)*d=val ((digs u).take (k+1))+val ((digs v).take (k+1))):=
     zeg ls _ _ k aR s c0 d HV.out (by rw [aN,aG];exact aP)
    by_cases hkn':k<n'
    ·obtain ⟨bN,rfl,bM,bD⟩:=(hb.below aC).words.word (k:=k) hkn'
     rw [aG] at bD
     clear aP aN aG
     go_wp2
     go_roundw
     case rel=>exact ⟨k+1,d,by omega,aS,by go_num,rfl,_,aA.set k s,aO.set k aU,HP.out,aC.setCell (Nat.le_refl _) _⟩
     case measure=>simp [intOf]<;>omega
    ·have bA:yk=0:=by rw [←aG];exact zbG (by rw [hB.out];omega)
     subst bA
     replace aL:∀ w:World,(callFunc 176 #[.int .u64 xk,.int .u64 0,.int .u64 c0]).run Tryz.prog w = .ok (.value (.tuple #[.int .u64 s,.int .u64 d])) w:=aL
     clear aP aN aG
     go_wp2
     go_roundw
     case rel=>exact ⟨k+1,d,by omega,aS,by go_num,rfl,_,aA.set k s,aO.set k aU,HP.out,aC.setCell (Nat.le_refl _) _⟩
     case measure=>simp [intOf]<;>omega
   ·obtain rfl:k=n:=by omega
    have aR:k<ls.length:=by rw [aA.len];omega
    have aQ:=aA.cell k (by omega)
    have bH:=aA.free k
    generalize ls.getD k 0=old at aQ
    have aH:=aA.set k c0
    have aF:val (ls.set k c0)=x+y:=by
     have h5:=zaF ls k c0 aR
     rw [List.take_of_length_le (by simp [aA.len]),HV.out,List.take_of_length_le (by rw [hA.out];exact Nat.le_refl _),List.take_of_length_le (by rw [hB.out];exact bJ),zal,zal] at h5
     rw [h5,bF.out]
    have aM:Below wc.heap.size wc (wr.setCell ⟨wc.heap.size,k,none⟩ (.int .u64 c0)):=aC.setCell (Nat.le_refl _) _
    have ht:=zc0 (some ⟨wc.heap.size,0,none⟩) (k+1) (k+1) (ls.set k c0) _ aH.words (aO.set k (by unfold B;omega)) (Nat.le_refl _) (by unfold maxLen;omega)
    rw [aF] at ht
    have HT:=Lib.hid ht
    clear ht aF
    go_wp2_with fail
    refine HT.out.mono ?_
    rintro e w1 ⟨m,rfl,bI,rfl⟩
    go_wp2
    go_ret
    exact ⟨_,m,_,rfl,bI,aM⟩
def zn4 (w wr:World) (base g nt ct:Nat) (lt la lb:List Nat) (same:Prop) (k b0:Nat):Prop:=
 ∃ ls,zav wr base g nt ct ls∧Wf ls∧val (ls.take k)+val (lb.take k)=val (la.take k)+B ^ k*b0∧(same→∀ j,k≤j→ls.getD j 0=lt.getD j 0)∧w.grownBy wr (some g)
set_option maxHeartbeats 2000000 in
set_option maxRecDepth 100000 in
theorem zdc (A A':Option Addr) (base g nt ct n c n' c' x y:Nat) (lt:List Nat) (w:World) (same:Prop) (ht:zav w base g nt ct lt) (hlt:Wf lt) (ha:NatS w w.heap.size A n c x)
  (hb:NatS w w.heap.size A' n' c' y) (hAs:((0<n→Off A g)∧¬ same)∨(A=some ⟨g,0,none⟩∧lt=digs x∧same)) (hob:0<n'→Off A' g) (hnt:n≤nt) (hyx:y≤x) (hn:n≤1099511627776) :
  Calls Tryz.prog 174 #[.slice (some ⟨g,0,none⟩) nt ct,.slice A n c,.slice A' n' c'] w fun e w'=>∃ m,e = .returned (.slice (some ⟨g,0,none⟩) m ct)∧zav w' base g m ct (digs (x - y))∧w.grownBy w' (some g):=by
 have aM:=ha.len
 have aL:=hb.len
 have hA:=Lib.hid aM
 have hB:=Lib.hid aL
 have aZ:n'≤n:=by rw [←aM,←aL];exact zaa hyx
 clear aM aL
 have h1:=ha.nc
 have h2:=ha.cm
 have h3:=hb.nc
 have h4:=hb.cm
 have h5:=ht.caps
 unfold maxLen at h2 h4 h5
 obtain ⟨h5,h6⟩:=h5
 have HT:=Lib.hid ht
 have HS:=Lib.hid hAs
 clear ht hAs
 go_enter Tryz.func174,Tryz.ntmps174
 go_wp2
 go_loopw [7,13] (fun cy s wr=>∃ k b0:Nat,k≤n∧b0≤1∧s = .int .i64 k∧cy = .int .u64 b0∧zn4 w wr base g nt ct lt (digs x) (digs y) same k b0) (fun _ s _=>n - (intOf s).toNat)
 case atStart=>exact ⟨0,0,by omega,by omega,rfl,rfl,lt,HT.out,hlt,by simp,fun _ _ _=>rfl,World.grownBy.refl w _⟩
 case round=>
  obtain ⟨k,b0,hk,aR,rfl,rfl,ls,aA,aG,aD,aP,aF⟩:=hrel
  have HV:=Lib.hid aD
  have HM:=Lib.hid aP
  clear aD aP
  by_cases hkn:k<n
  ·have aU:∃ ad,A=some ad∧wr.cell? (ad.add k)=some (.int .u64 (((digs x).getD k 0:Nat):Int)):=by
    rcases HS.out with ⟨ho,_⟩ | ⟨aH,aK,hs⟩
    ·obtain ⟨ad,e,_,hc⟩:=(ha.words.kept aF (Nat.le_refl _) ho).word (k:=k) hkn
     exact ⟨ad,e,hc⟩
    ·refine ⟨_,aH,?_⟩
     have:=aA.cell k (by omega)
     rw [HM.out hs k (Nat.le_refl _),aK] at this
     have e0:(⟨g,0,none⟩:Addr).add k=⟨g,k,none⟩:=by
      unfold Addr.add
      by_cases hj:k=0<;>simp [hj]
     rw [e0];exact this
   obtain ⟨ad,aH,aX⟩:=aU
   have bC:=Lib.hid aH
   have bB:k<ls.length:=by rw [aA.len];omega
   have bA:=aA.cell k (by omega)
   have bD:=aA.free k
   have aS:=zaD (zap x) k
   have aT:=zaD (zap y) k
   obtain ⟨xk,aI⟩:∃ xk,(digs x).getD k 0=xk:=⟨_,rfl⟩
   obtain ⟨yk,aC⟩:∃ yk,(digs y).getD k 0=yk:=⟨_,rfl⟩
   rw [aI] at aX aS
   rw [aC] at aT
   generalize ls.getD k 0=old at bA
   obtain ⟨s,d,aJ,aQ,aO,aE⟩:=zek xk yk b0 aS aT aR
   have HP:Hid (val ((ls.set k s).take (k+1))+val ((digs y).take (k+1))=val ((digs x).take (k+1))+B ^ (k+1)*d):=
    ze1 ls _ _ k bB s b0 d HV.out (by rw [aI,aC];exact aJ)
   have aN:Hid (same→∀ j,k+1≤j→(ls.set k s).getD j 0=lt.getD j 0):=fun hs j hj=>by
    rw [←HM.out hs j (by omega)]
    simp only [List.getD]
    rw [List.getElem?_set_ne (by omega)]
   subst aH
   by_cases hkn':k<n'
   ·obtain ⟨bF,rfl,bE,aW⟩:=(hb.words.kept aF (Nat.le_refl _) hob).word (k:=k) hkn'
    rw [aC] at aW
    clear aJ aI aC
    go_wp2
    go_roundw
    case rel=>exact ⟨k+1,d,by omega,aO,by go_num,rfl,_,aA.set k s,aG.set k aQ,HP.out,aN.out,zaU aF (.inl rfl) _⟩
    case measure=>simp [intOf]<;>omega
   ·have aV:yk=0:=by rw [←aC];exact zbG (by rw [hB.out];omega)
    subst aV
    replace aE:∀ w:World,(callFunc 200 #[.int .u64 xk,.int .u64 0,.int .u64 b0]).run Tryz.prog w = .ok (.value (.tuple #[.int .u64 s,.int .u64 d])) w:=aE
    clear aJ aI aC
    go_wp2
    go_roundw
    case rel=>exact ⟨k+1,d,by omega,aO,by go_num,rfl,_,aA.set k s,aG.set k aQ,HP.out,aN.out,zaU aF (.inl rfl) _⟩
    case measure=>simp [intOf]<;>omega
  ·obtain rfl:k=n:=by omega
   have hv:val (ls.take k)=x - y:=by
    have h7:=HV.out
    rw [List.take_of_length_le (l:=digs x) (by rw [hA.out];exact Nat.le_refl _),List.take_of_length_le (l:=digs y) (by rw [hB.out];exact aZ),zal,zal] at h7
    have h8:=zbk (aG.take k)
    rw [List.length_take,aA.len,Nat.min_eq_left hnt] at h8
    have h9:=zac x
    rw [hA.out] at h9
    exact zgI _ _ _ _ _ h7 h8 hyx aR
   have ht:=zbP base g k ct (ls.take k) wr (aA.take hnt) (aG.take k)
   rw [hv] at ht
   have HC:=Lib.hid ht
   clear ht hv
   go_wp2_with fail
   refine HC.out.mono ?_
   rintro e w1 ⟨m,rfl,aY,rfl⟩
   go_wp2
   go_ret
   exact ⟨m,rfl,aY,aF⟩
set_option maxHeartbeats 1000000 in
set_option maxRecDepth 100000 in
theorem zcC (A A':Option Addr) (n c n' c' x y:Nat) (w:World) (ha:NatS w w.heap.size A n c x) (hb:NatS w w.heap.size A' n' c' y) (hyx:y≤x) (hn:n≤1099511627776) :
  Calls Tryz.prog 130 #[.slice A n c,.slice A' n' c'] w (zbX w (x - y)):=by
 obtain ⟨i0,aK,aG,aF,aJ⟩:=info_parts zb2
 go_enter Tryz.func130,Tryz.ntmps130
 go_wp2_with (at_make;refine wpList_make_full _ rfl _ _ 89 rfl w.heap.size 120 i0 (.int .u64 0) 1 Tryz.underlying89 aK aG aF _ _ _ _ n rfl rfl (by omega) (by omega) ?b2 ?b3 (Nat.le_refl _) ?_)
 case b2=>rw [aJ];omega
 case b3=>unfold maxLen;omega
 intro w0 aD aC
 have aA:Below w.heap.size w w0:=(Below.refl _ _).grown aC (Nat.le_refl _) (fun k h=>by cases h)
 have aE:=zav.made aD
 clear aD aC
 have hc:=zdc A A' w.heap.size w.heap.size n n n c n' c' x y _ w0 False aE (Wf.replicate n) (ha.later aA) (hb.later aA) (.inl ⟨ha.off (Nat.le_refl _),id⟩) (hb.off (Nat.le_refl _)) (Nat.le_refl _) hyx hn
 go_wp2_with fail
 refine hc.mono ?_
 rintro e w1 ⟨m,rfl,aH,aI⟩
 go_wp2
 go_ret
 exact ⟨_,m,_,rfl,aH.nat,aA.grown aI aA.size (fun k hk=>by cases hk;exact Nat.le_refl _)⟩
theorem zfM (x y:Nat) (hx:x<18446744073709551616) (hy:y<18446744073709551616) :
  ∃ hi lo:Nat,lo+18446744073709551616*hi=x*y∧lo<18446744073709551616∧hi<18446744073709551616 ∧
   ∀ w:World,Calls Tryz.prog 194 #[.int .u64 x,.int .u64 y] w fun e w'=>e = .returned (.tuple #[.int .u64 (hi:Int),.int .u64 (lo:Int)])∧w'=w:=by
 refine ⟨x*y / 18446744073709551616,x*y % 18446744073709551616,Nat.mod_add_div _ _,Nat.mod_lt _ (by omega),?_,fun w=>Tryz.bits_Mul64 x y hx hy w⟩
 exact Nat.div_lt_of_lt_mul (ziR x y hx hy)
set_option maxHeartbeats 1000000 in
theorem zcY (a b c d:Nat) (ha:a<18446744073709551616) (hb:b<18446744073709551616) (hc:c<18446744073709551616) (hd:d<18446744073709551616) :
  ∃ lo hi:Nat,lo+18446744073709551616*hi=a*b+c+d∧lo<18446744073709551616∧hi<18446744073709551616 ∧
   ∀ w:World,Calls Tryz.prog 156 #[.int .u64 a,.int .u64 b,.int .u64 c,.int .u64 d] w fun e w'=>e = .returned (.tuple #[.int .u64 (lo:Int),.int .u64 (hi:Int)])∧w=w':=by
 obtain ⟨h,l,hm,hl,hh,aC⟩:=zfM a b ha hb
 obtain ⟨l1,c1,e1,aF,aJ,aE⟩:=zbN l c 0 hl hc (by omega)
 obtain ⟨l2,c2,e2,aG,aI,aD⟩:=zbN l1 d 0 aF hd (by omega)
 have aA:=zhg a b ha hb
 have aH:h+c1+c2<18446744073709551616:=by omega
 refine ⟨l2,h+c1+c2,by omega,aG,aH,fun w => ?_⟩
 replace aE:∀ w:World,(callFunc 176 #[.int .u64 l,.int .u64 c,.int .u64 0]).run Tryz.prog w = .ok (.value (.tuple #[.int .u64 l1,.int .u64 c1])) w:=aE
 replace aD:∀ w:World,(callFunc 176 #[.int .u64 l1,.int .u64 d,.int .u64 0]).run Tryz.prog w = .ok (.value (.tuple #[.int .u64 l2,.int .u64 c2])) w:=aD
 clear e1 e2 hm aA
 go_enter Tryz.func156,Tryz.ntmps156
 go_wp2_with fail
 refine (aC _).mono ?_
 rintro e w' ⟨rfl,rfl⟩
 go_wp2
 go_ret2
 exact ⟨rfl,rfl⟩
def zlM (w wr:World) (n n':Nat) (la lb:List Nat) (i:Nat):Prop:=
 ∃ ls,zav wr w.heap.size w.heap.size (n+n') (n+n') ls∧Wf ls∧val ls=val (la.take i)*val lb∧(∀ t,i+n'≤t→ls.getD t 0=0)∧Below w.heap.size w wr
def znu (w wr:World) (n n':Nat) (la lb:List Nat) (i j c:Nat):Prop:=
 ∃ ls,zav wr w.heap.size w.heap.size (n+n') (n+n') ls∧Wf ls∧val ls+B ^ (i+j)*c=val (la.take i)*val lb+B ^ i*(la.getD i 0*val (lb.take j))∧(∀ t,i+n'≤t→ls.getD t 0=0)∧Below w.heap.size w wr
set_option maxHeartbeats 4000000 in
set_option maxRecDepth 100000 in
theorem zaE (A A':Option Addr) (n c n' c' x y:Nat) (w:World) (ha:NatS w w.heap.size A n c x) (hb:NatS w w.heap.size A' n' c' y) (hn:n≤1099511627776) (hn':n'≤1099511627776) :
  Calls Tryz.prog 105 #[.slice A n c,.slice A' n' c'] w (zbX w (x*y)):=by
 obtain ⟨i0,bG,bM,bE,bF⟩:=info_parts zb2
 have bB:=ha.len
 have aZ:=hb.len
 have hA:=Lib.hid bB
 have hB:=Lib.hid aZ
 clear bB aZ
 have h1:=ha.nc
 have h2:=ha.cm
 have h3:=hb.nc
 have h4:=hb.cm
 unfold maxLen at h2 h4
 go_enter Tryz.func105,Tryz.ntmps105
 go_wp2_with (at_make;refine wpList_make_full _ rfl _ _ 89 rfl w.heap.size 120 i0 (.int .u64 0) 1 Tryz.underlying89 bG bM bE _ _ _ _ (n+n') rfl rfl (by omega) (by omega) ?b2 ?b3 (Nat.le_refl _) ?_)
 case b2=>rw [bF];omega
 case b3=>unfold maxLen;omega
 intro w0 aE aD
 have aK:Below w.heap.size w w0:=(Below.refl _ _).grown aD (Nat.le_refl _) (fun k h=>by cases h)
 have aL:=zav.made aE
 clear aE aD
 go_wp2
 go_loopw [19] (fun s wr=>∃ i:Nat,i≤n∧s = .int .i64 i∧zlM w wr n n' (digs x) (digs y) i) (fun s _=>n - (intOf s).toNat)
 case atStart=>exact ⟨0,by omega,rfl,_,aL,Wf.replicate _,by simp [zaR],fun t _=>zcj _ _,aK⟩
 case round=>
  obtain ⟨i,hi,rfl,ls,aM,aV,aJ,hz,aG⟩:=hrel
  obtain ⟨wo,rfl⟩:∃ wo:World,wo=wr:=⟨_,rfl⟩
  have HV:=Lib.hid aJ
  have HZ:=Lib.hid hz
  clear aJ hz
  by_cases hin:i<n
  ·obtain ⟨ad,rfl,bN,bI⟩:=(ha.below aG).words.word (k:=i) hin
   have bA:=zaD (zap x) i
   obtain ⟨f,aQ⟩:∃ f,(digs x).getD i 0=f:=⟨_,rfl⟩
   rw [aQ] at bI bA
   have HF:=Lib.hid aQ
   clear aQ
   go_wp2_with fail
   go_loopw [8,26] (fun cy s wr=>∃ j c0:Nat,j≤n'∧c0<18446744073709551616∧s = .int .i64 j∧cy = .int .u64 c0∧znu w wr n n' (digs x) (digs y) i j c0) (fun _ s _=>n' - (intOf s).toNat)
   case atStart=>exact ⟨0,0,by omega,by omega,rfl,rfl,ls,aM,aV,by rw [HV.out];simp,HZ.out,aG⟩
   case round=>
    obtain ⟨j,c0,hj,aW,rfl,rfl,l2,aA,aH,aF,aN,aC⟩:=hrel
    have aY:=Lib.hid aF
    have aP:=Lib.hid aN
    clear aF aN
    by_cases hjn:j<n'
    ·obtain ⟨bP,rfl,bO,bH⟩:=(hb.below aC).words.word (k:=j) hjn
     have bC:=zaD (zap y) j
     obtain ⟨yk,aT⟩:∃ yk,(digs y).getD j 0=yk:=⟨_,rfl⟩
     rw [aT] at bH bC
     have aS:=aA.cell (i+j) (by omega)
     have bJ:=aA.free (i+j)
     have aX:=zaD aH (i+j)
     obtain ⟨o,aO⟩:∃ o,l2.getD (i+j) 0=o:=⟨_,rfl⟩
     rw [aO] at aS aX
     obtain ⟨lo,aR,e1,bK,bD,aI⟩:=zcY f yk o c0 bA bC aX aW
     have HP:Hid (val (l2.set (i+j) lo)+B ^ (i+(j+1))*aR=val ((digs x).take i)*val (digs y)+B ^ i*((digs x).getD i 0*val ((digs y).take (j+1)))):=
      zdF l2 (digs y) i j _ _ lo aR c0 (by rw [aA.len];omega) aY.out (by rw [aT,aO,HF.out];exact e1)
     have aU:Hid (∀ t,i+n'≤t→(l2.set (i+j) lo).getD t 0=0):=fun t ht=>by rw [zaH _ _ _ _ (by omega)];exact aP.out t ht
     clear e1 aT aO
     go_wp2_with fail
     refine (aI _).mono ?_
     rintro e w' ⟨rfl,rfl⟩
     go_wp2
     go_roundw
     case rel=>exact ⟨j+1,aR,by omega,bD,by go_num,rfl,_,aA.set (i+j) lo,aH.set _ bK,HP.out,aU.out,aC.setCell (Nat.le_refl _) _⟩
     case measure=>simp [intOf]<;>omega
    ·obtain rfl:j=n':=by omega
     have aS:=aA.cell (i+j) (by omega)
     have bJ:=aA.free (i+j)
     have HP:Hid (val (l2.set (i+j) c0)=val ((digs x).take (i+1))*val (digs y)):=
      ze3 l2 (digs x) (digs y) i j c0 (by rw [aA.len];omega) (aP.out _ (Nat.le_refl _)) hB.out aY.out
     have aU:Hid (∀ t,i+1+j≤t→(l2.set (i+j) c0).getD t 0=0):=fun t ht=>by rw [zaH _ _ _ _ (by omega)];exact aP.out t (by omega)
     generalize l2.getD (i+j) 0=old at aS
     go_wp2
     go_roundw
     case rel=>exact ⟨i+1,by omega,by go_num,_,aA.set (i+j) c0,aH.set _ aW,HP.out,aU.out,aC.setCell (Nat.le_refl _) _⟩
     case measure=>simp [intOf]<;>omega
  ·obtain rfl:i=n:=by omega
   have hv:val ls=x*y:=by rw [HV.out,List.take_of_length_le (by rw [hA.out];exact Nat.le_refl _),zal,zal]
   have ht:=zc0 (some ⟨w.heap.size,0,none⟩) (i+n') (i+n') ls wo aM.words aV (Nat.le_refl _) (by unfold maxLen;omega)
   rw [hv] at ht
   have HC:=Lib.hid ht
   clear ht hv
   go_wp2_with fail
   refine HC.out.mono ?_
   rintro e w1 ⟨m,rfl,bL,rfl⟩
   go_wp2
   go_ret
   exact ⟨_,m,_,rfl,bL,aG⟩
def zai (l:List UInt8):Nat:=l.foldl (fun a c=>a*10+(c.toNat - 48)) 0
theorem zhV (l:List UInt8) (a:Nat):l.foldl (fun a c=>a*10+(c.toNat - 48)) a=a*10 ^ l.length+zai l:=by
 unfold zai
 induction l generalizing a with
 | nil=>simp
 | cons c l ih=>
  rw [List.foldl_cons,List.foldl_cons,ih,ih (0*10+(c.toNat - 48)),List.length_cons,Nat.pow_succ,Nat.zero_mul,Nat.zero_add,Nat.add_mul,Nat.mul_assoc,Nat.mul_comm 10 (10 ^ l.length),Nat.add_assoc]
theorem zb4 (a b:List UInt8):zai (a++b)=zai a*10 ^ b.length+zai b:=by
 show (a++b).foldl _ 0=_
 rw [List.foldl_append,zhV]
 rfl
theorem zcO (a:List UInt8) (c:UInt8):zai (a++[c])=zai a*10+(c.toNat - 48):=by
 rw [zb4]
 simp [zai]
theorem zff (c:UInt8) (l:List UInt8):zai (c :: l)=(c.toNat - 48)*10 ^ l.length+zai l:=by
 have h:=zb4 [c] l
 rw [List.singleton_append] at h
 rw [h]
 simp [zai]
theorem zcc (l:List UInt8) (h:zas l=true):zai l<10 ^ l.length:=by
 induction l with
 | nil=>simp [zai]
 | cons c l ih=>
  have e:zas (c :: l)=(digB (c.toNat:Int) && zas l):=rfl
  rw [e,Bool.and_eq_true] at h
  have h1:=ih h.2
  have h2:=h.1
  unfold digB at h2
  simp only [Bool.and_eq_true,decide_eq_true_eq] at h2
  rw [zff,List.length_cons,Nat.pow_succ]
  have h3:(c.toNat - 48)*10 ^ l.length≤9*10 ^ l.length:=Nat.mul_le_mul_right _ (by omega)
  omega
theorem zh6 (l' l:List Nat) (k p c0 s c r:Nat) (hk:k<l'.length) (hinv:val (l'.take k)+B ^ k*c=val (l.take k)*s+c0)
  (h:r+B*p=l.getD k 0*s+c):val ((l'.set k r).take (k+1))+B ^ (k+1)*p=val (l.take (k+1))*s+c0:=by
 rw [zaF l' k r hk,zae l,Nat.pow_succ,Nat.mul_assoc,Nat.add_mul,Nat.mul_assoc]
 have h3:B ^ k*r+B ^ k*(B*p)=B ^ k*(l.getD k 0*s)+B ^ k*c:=by rw [←Nat.mul_add,h,Nat.mul_add]
 omega
theorem zbs (a b:List UInt8):zas (a++b)=(zas a && zas b):=by unfold zas;rw [List.all_append]
theorem zdK (l:List UInt8) (k:Nat) (hk:k≤19) (hd:zas l=true):zai (l.take k)<10000000000000000000∧10 ^ k≤10000000000000000000:=by
 have h1:zas (l.take k)=true:=by
  have h:zas (l.take k++l.drop k)=true:=by rw [List.take_append_drop];exact hd
  rw [zbs,Bool.and_eq_true] at h
  exact h.1
 have h2:=zcc _ h1
 have h3:10 ^ (l.take k).length≤10 ^ 19:=Nat.pow_le_pow_right (by omega) (by rw [List.length_take];omega)
 have h4:10 ^ k≤10 ^ 19:=Nat.pow_le_pow_right (by omega) hk
 have e:10 ^ 19=10000000000000000000:=by decide
 omega
def zl0:Value→Nat | .string t=>t.size | _=>0
set_option maxHeartbeats 4000000 in
set_option maxRecDepth 100000 in
theorem zaQ (s:ByteArray) (w:World) (hd:zas s.data.toList=true) (hs:s.size≤4294967296) :
  Calls Tryz.prog 125 #[.string s] w (zbX w (zai s.data.toList)):=by
 obtain ⟨i0,cB,cQ,bY,cI⟩:=info_parts zb2
 go_enter Tryz.func125,Tryz.ntmps125
 obtain ⟨C,hC⟩:∃ C,C=s.size / 19+1:=⟨_,rfl⟩
 have eC:(s.size:Int) / 19+1=(C:Int):=by omega
 have dB:C≤4294967297:=by omega
 have HC:=Lib.hid hC
 clear hC
 go_wp2_with (at_make;refine wpList_make_own _ rfl _ _ 89 rfl w.heap.size 120 i0 (.int .u64 0) 1 Tryz.underlying89 cB cQ bY _ _ _ C rfl rfl (by omega) ?b2 ?b3 (Nat.le_refl _) ?_)
 case b2=>rw [cI];omega
 case b3=>unfold maxLen;omega
 intro w0 aO aG
 have aY:Below w.heap.size w w0:=(Below.refl _ _).grown aG (Nat.le_refl _) (fun k h=>by cases h)
 have bA:zav w0 w.heap.size w.heap.size 0 C []:=aO
 clear aO aG eC
 go_wp2_with fail
 go_loopw [0,3] (fun sd sa wr=>∃ (t:ByteArray) (n:Nat) (lw:List Nat),sd = .string t∧sa = .slice (some ⟨w.heap.size,0,none⟩) n C∧zav wr w.heap.size w.heap.size n C lw∧Wf lw∧Hid (zai s.data.toList=val lw*10 ^ t.size+zai t.data.toList)∧Hid (zas t.data.toList=true)∧t.size≤s.size∧n+(t.size+18) / 19≤C∧Below w.heap.size w wr) (fun sd _ _=>zl0 sd)
 case atStart=>exact ⟨s,0,[],rfl,rfl,bA,Wf.nil,by simp [Hid],hd,Nat.le_refl _,by have:=HC.out;omega,aY⟩
 case round=>
  obtain ⟨t,n,lw,rfl,rfl,aH,bX,hv,bR,dA,cK,aI⟩:=hrel
  obtain ⟨wo,rfl⟩:∃ wo:World,wo=wr:=⟨_,rfl⟩
  by_cases h0:0<t.size
  ·obtain ⟨r,hr⟩:∃ r,r=(t.size - 1) % 19+1:=⟨_,rfl⟩
   have bS:1≤r:=by omega
   have cF:r≤19:=by omega
   have cU:r≤t.size:=by omega
   have er:((t.size:Int) - 1) % 19+1=(r:Int):=by omega
   have cV:n+1+(t.size - r+18) / 19≤C:=by omega
   have HR:=Lib.hid hr
   clear hr cK
   obtain ⟨u,hu⟩:∃ u,t.extract 0 r=u:=⟨_,rfl⟩
   have bE:u.data.toList=t.data.toList.take r:=by rw [←hu,Lib.extract_data];simp
   have bZ:u.size=r:=by rw [←hu];simp;omega
   have bV:zas u.data.toList=true:=by
    have h:zas (t.data.toList.take r++t.data.toList.drop r)=true:=by rw [List.take_append_drop];exact bR.out
    rw [zbs,Bool.and_eq_true] at h
    rw [bE];exact h.1
   have bW:zas (t.data.toList.drop r)=true:=by
    have h:zas (t.data.toList.take r++t.data.toList.drop r)=true:=by rw [List.take_append_drop];exact bR.out
    rw [zbs,Bool.and_eq_true] at h
    exact h.2
   have cH:=Lib.hid bE
   have bD:=Lib.hid bV
   have cP:=Lib.hid bW
   have bN:=Lib.hid bZ
   clear bE bV bW bZ
   go_wp2_with fail
   have cW:=Lib.hid hu
   clear hu er
   go_loopw [5,6] (fun ss sy wi=>∃ aA sc cy:Nat,wi=wo.iter u aA∧aA≤r∧ss = .int .u64 (sc:Int)∧sy = .int .u64 (cy:Int)∧sc=10 ^ aA∧cy=zai (u.data.toList.take aA)) (fun _ _ wi=>r - wi.iterPos wo.heap.size)
   case atStart=>exact ⟨0,1,0,rfl,Nat.zero_le _,rfl,rfl,rfl,rfl⟩
   case round=>
    obtain ⟨aA,sc,cy,rfl,cZ,rfl,rfl,bQ,bO⟩:=hrel
    have bI:=Lib.hid bQ
    have bJ:=Lib.hid bO
    clear bQ bO
    by_cases hp:aA<r
    ·have aX:aA<u.size:=by rw [bN.out];exact hp
     have cC:=zdh u aA aX
     obtain ⟨c,hc⟩:∃ c:Nat,(u[aA]'aX).toNat=c:=⟨_,rfl⟩
     have bL:48≤c∧c≤57:=by
      have h:zas (u.data.toList.take aA++u.data.toList.drop aA)=true:=by rw [List.take_append_drop];exact bD.out
      rw [zbs,Bool.and_eq_true] at h
      have h2:=h.2
      rw [cC,Bool.and_eq_true,hc] at h2
      have h3:=h2.1
      unfold digB at h3
      simp only [Bool.and_eq_true,decide_eq_true_eq] at h3
      omega
     have ha:(u[aA]'aX).toNat<128:=by omega
     have bM:∀ ty,(Instr.next (.pointer (some ⟨wo.heap.size,0,none⟩)) true ty).run Tryz.prog (wo.iter u aA)=_:=fun ty=>run_next_ascii wo u aA ty aX ha
     simp only [hc] at bM
     obtain ⟨k1,k2⟩:=zdK u.data.toList (aA+1) (by omega) bD.out
     have aR:zai (u.data.toList.take (aA+1))=cy*10+(c - 48):=by
      have hl:aA<u.data.toList.length:=by simpa using aX
      rw [List.take_succ_eq_append_getElem hl,zcO,←bJ.out,←hc]
      rfl
     have aS:10 ^ (aA+1)=sc*10:=by rw [Nat.pow_succ,bI.out]
     rw [aR] at k1
     rw [aS] at k2
     have HA:=Lib.hid aR
     have HB:=Lib.hid aS
     have cR:=bL.1
     have cO:=bL.2
     clear aR aS cC hc ha bL
     go_wp2_with fail
     go_roundw
     case rel=>exact ⟨aA+1,sc*10,cy*10+(c - 48),rfl,hp,by first | rfl | (congr 1;omega),by first | rfl | (congr 1;omega),HB.out.symm,HA.out.symm⟩
     case measure=>simp;omega
    ·obtain rfl:aA=r:=by omega
     have bM:∀ ty,(Instr.next (.pointer (some ⟨wo.heap.size,0,none⟩)) true ty).run Tryz.prog (wo.iter u aA)=_:=fun ty=>run_next_end wo u aA ty (by rw [bN.out];omega)
     go_wp2_with fail
     have bG:sc<18446744073709551616:=by
      have:=(zdK u.data.toList aA (by omega) bD.out).2
      rw [bI.out];omega
     have bH:cy<18446744073709551616:=by
      have:=(zdK u.data.toList aA (by omega) bD.out).1
      rw [bJ.out];omega
     have aL:zav (wo.iter u aA) w.heap.size w.heap.size n C lw:=aH.alloc _
     have aK:Below w.heap.size w (wo.iter u aA):=aI.alloc aI.size _
     go_loopw [6,41] (fun cL sl we=>∃ k c:Nat,k≤n∧c<18446744073709551616∧sl = .int .i64 k∧cL = .int .u64 c∧∃ l2,zav we w.heap.size w.heap.size n C l2∧Wf l2∧Hid (val (l2.take k)+B ^ k*c=val (lw.take k)*sc+cy)∧Hid (∀ j,k≤j→l2.getD j 0=lw.getD j 0)∧Below w.heap.size w we) (fun _ sl _=>n - (intOf sl).toNat)
     case atStart=>exact ⟨0,cy,Nat.zero_le _,bH,rfl,rfl,lw,aL,bX,by simp [Hid],fun j _=>rfl,aK⟩
     case round=>
      have cJ:=Lib.hid aH.len
      clear aL aK bM aH aI
      obtain ⟨k,c,hk,cA,rfl,rfl,l2,aC,aT,aN,aW,aF⟩:=hrel
      by_cases hkn:k<n
      ·have cG:=aC.cell k hkn
       have cY:=aC.free k
       have bP:=zaD aT k
       obtain ⟨z,gz⟩:∃ z,l2.getD k 0=z:=⟨_,rfl⟩
       rw [gz] at cG bP
       obtain ⟨lo,hi,hm,cT,cN,aD⟩:=zcY z sc c 0 bP bG cA (by omega)
       replace aD:∀ w:World,Calls Tryz.prog 156 #[.int .u64 z,.int .u64 sc,.int .u64 c,.int .u64 0] w fun e w'=>e = .returned (.tuple #[.int .u64 (lo:Int),.int .u64 (hi:Int)])∧w=w':=aD
       have HP:Hid (val ((l2.set k lo).take (k+1))+B ^ (k+1)*hi=val (lw.take (k+1))*sc+cy):=
        zh6 l2 lw k hi cy sc c lo (by rw [aC.len];exact hkn) aN.out (by rw [←aW.out k (Nat.le_refl _),gz];exact hm)
       have cM:Hid (∀ j,k+1≤j→(l2.set k lo).getD j 0=lw.getD j 0):=fun j hj=>by
        rw [zaH _ _ _ _ (by omega)]
        exact aW.out j (by omega)
       clear hm gz
       go_wp2_with fail
       refine (aD _).mono ?_
       rintro e w' ⟨rfl,rfl⟩
       go_wp2
       go_roundw
       case rel=>exact ⟨k+1,hi,hkn,cN,by go_num,rfl,_,aC.set k lo,aT.set _ cT,HP,cM,aF.setCell (p:=⟨w.heap.size,k,none⟩) (Nat.le_refl _) _⟩
       case measure=>simp [intOf]<;>omega
      ·obtain rfl:k=n:=by omega
       have aJ:wr.ownsRow w.heap.size 120 1 (.slice (some ⟨w.heap.size,0,none⟩) k C) k (l2.map u64v):=aC
       go_wp2_with (at_builtin;refine wpList_append_fits _ rfl (.tmp 57) (.tmp 59) 89 rfl w.heap.size 120 i0 1 Tryz.underlying89 cB bY w.heap.size k C (l2.map u64v) rfl (aJ.alloc _) ⟨wr.heap.size,0,none⟩ 1 1 [.int .u64 (c:Int)] rfl rfl (cell_one_new _ _ _) ?c1 ?c2 ?_)
       case c1=>
        intro v hv
        rw [List.mem_singleton] at hv
        subst hv
        rfl
       case c2=>omega
       intro w9 aM aE
       have aZ:zav w9 w.heap.size w.heap.size (k+1) C (l2++[c]):=by
        unfold zav
        rw [List.map_append]
        exact aM
       have bT:=aF.alloc aF.size (.cells #[.int .u64 (c:Int)] 120)
       have aV:Below w.heap.size w w9:=bT.grown aE bT.size (fun j hj=>by cases hj;exact Nat.le_refl _)
       have bF:Wf (l2++[c]):=aT.append (Wf.cons cA Wf.nil)
       have aP:val (l2++[c])=val lw*sc+cy:=by
        have h:=aN.out
        rw [List.take_of_length_le (l:=l2) (by rw [aC.len];exact Nat.le_refl _),List.take_of_length_le (l:=lw) (by rw [cJ.out];exact Nat.le_refl _)] at h
        rw [zaN,zaS,aC.len,h]
       obtain ⟨t2,bC⟩:∃ t2,t.extract aA t.size=t2:=⟨_,rfl⟩
       have aU:t2.data.toList=t.data.toList.drop aA:=by
        rw [←bC,Lib.extract_data]
        first | done | exact List.take_of_length_le (by simp) | (congr 1;exact List.take_of_length_le (by simp)) | simp
       have aQ:t2.size=t.size - aA:=by rw [←bC];simp
       have bB:zai s.data.toList=val (l2++[c])*10 ^ t2.size+zai t2.data.toList:=by
        have h:=zb4 (t.data.toList.take aA) (t.data.toList.drop aA)
        rw [List.take_append_drop,List.length_drop] at h
        rw [hv.out,h,aU,aQ,aP,bI.out,bJ.out,cH.out,List.take_of_length_le (l:=List.take aA t.data.toList) (by rw [List.length_take];omega),Nat.add_mul,Nat.mul_assoc,←Nat.pow_add,show aA+(t.size - aA)=t.size from by omega]
        have e:t.data.toList.length=t.size:=by simp
        rw [e]
        omega
       have HF:=Lib.hid bB
       have cE:=Lib.hid aU
       have bK:=Lib.hid aQ
       clear bB aU aQ aP aM aE aJ
       go_wp2_with fail
       have dC:=Lib.hid bC
       clear bC
       go_roundw
       case rel=>exact ⟨t2,k+1,l2++[c],rfl,rfl,aZ,bF,HF,by rw [Hid,cE.out];exact cP.out,by rw [bK.out];omega,by rw [bK.out];omega,aV⟩
       case measure=>simp [zl0];rw [bK.out];omega
  ·have cS:t.data.toList=[]:=List.eq_nil_of_length_eq_zero (by simpa using h0)
   have bU:val lw=zai s.data.toList:=by
    rw [hv.out,cS,show t.size=0 from by omega]
    simp [zai]
   have ht:=zbP w.heap.size w.heap.size n C lw wo aH bX
   rw [bU] at ht
   have HT:=Lib.hid ht
   have hz:¬ ((0:Int)<(t.size:Int)):=by omega
   clear ht bU
   go_wp2_with fail
   refine HT.out.mono ?_
   rintro e w1 ⟨m,rfl,bS,rfl⟩
   go_wp2_with fail
   go_ret
   exact ⟨_,m,C,rfl,bS.nat,aI⟩
end Go.Proofs.YteajibbphcfmeaaGreatDoor
