/- Contracts of package common's small functions: AtMost, InRange, FirstError, PositiveZero. -/
import Derived.Test.YtmkihdjolnlccaaGreatDoorFDpu
import Derived.Test.YtmkihdjolnlccaaGreatDoorFRat4
import Derived.Laws.Cover2
import Derived.Test.YtmkihdjolnlccaaGreatDoorFDp
import Derived.Test.YtmkihdjolnlccaaGreatDoorFRbt
import Derived.Maps.AppendAt
import Derived.IntWalk
namespace Go.Proofs.YtmkihdjolnlccaaGreatDoor
open Go.RowKit
theorem catMost_u16 (A:Option Addr) (n c:Nat) (k:Int) (w:World):Calls Tryz.prog 137 #[.slice A n c,.int .i64 k] w fun e w'=>e = .returned (.int .i64 (if k<n then 5 else 0))∧w=w':=by
 go_enter Tryz.func137,Tryz.ntmps137
 by_cases h:k<n
 ·rw [if_pos h]
  go_wp2
  go_ret
  exact ⟨rfl,rfl⟩
 ·rw [if_neg h]
  go_wp2
  go_ret
  exact ⟨rfl,rfl⟩
theorem catMost_bool (A:Option Addr) (n c:Nat) (k:Int) (w:World):Calls Tryz.prog 135 #[.slice A n c,.int .i64 k] w fun e w'=>e = .returned (.int .i64 (if k<n then 5 else 0))∧w=w':=by
 go_enter Tryz.func135,Tryz.ntmps135
 by_cases h:k<n
 ·rw [if_pos h]
  go_wp2
  go_ret
  exact ⟨rfl,rfl⟩
 ·rw [if_neg h]
  go_wp2
  go_ret
  exact ⟨rfl,rfl⟩
theorem catMost_floats (A:Option Addr) (n c:Nat) (k:Int) (w:World):Calls Tryz.prog 204 #[.slice A n c,.int .i64 k] w fun e w'=>e = .returned (.int .i64 (if k<n then 5 else 0))∧w=w':=by
 go_enter Tryz.func204,Tryz.ntmps204
 by_cases h:k<n
 ·rw [if_pos h]
  go_wp2
  go_ret
  exact ⟨rfl,rfl⟩
 ·rw [if_neg h]
  go_wp2
  go_ret
  exact ⟨rfl,rfl⟩
theorem catMost_bools (A:Option Addr) (n c:Nat) (k:Int) (w:World):Calls Tryz.prog 203 #[.slice A n c,.int .i64 k] w fun e w'=>e = .returned (.int .i64 (if k<n then 5 else 0))∧w=w':=by
 go_enter Tryz.func203,Tryz.ntmps203
 by_cases h:k<n
 ·rw [if_pos h]
  go_wp2
  go_ret
  exact ⟨rfl,rfl⟩
 ·rw [if_neg h]
  go_wp2
  go_ret
  exact ⟨rfl,rfl⟩
set_option maxHeartbeats 400000 in
theorem cfirst_any (A:Option Addr) (n c:Nat) (l:List Int) (w:World) (h:Reads w w.heap.size 1 A n (l.map i64v)) (hn:n≤maxLen) :
  Calls Tryz.prog 64 #[.slice A n c] w fun e w'=>e = .returned (.int .i64 (firstE l))∧w=w':=by
 unfold maxLen at hn
 have hl:l.length=n:=by have:=h.1;rw [List.length_map] at this;omega
 go_enter Tryz.func64,Tryz.ntmps64
 go_wp2
 have HL:=Lib.hid hl
 clear hl
 go_loop [7] (fun s=>∃ k:Nat,k≤n∧s = .int .i64 k∧Hid (firstE l=firstE (l.drop k))) (fun s=>n - (intOf s).toNat)
 case atStart=>exact ⟨0,Nat.zero_le _,rfl,rfl⟩
 case round=>
  obtain ⟨k,hk,rfl,hf⟩:=hrel
  by_cases h0:k<n
  ·obtain ⟨ad,u,rfl,hb,hu,hcell⟩:=h.at_ h0
   have hkl:k<l.length:=by have:=HL.out;omega
   have hu2:u = .int .i64 l[k]:=by
    rw [List.getElem?_map,List.getElem?_eq_getElem hkl] at hu
    injection hu with hu;exact hu.symm
   have hf2:=hf.out
   rw [List.drop_eq_getElem_cons hkl] at hf2
   generalize l[k]=x at hu2 hf2
   subst hu2
   by_cases hx:x=0
   ·subst hx
    have hf3:Hid (firstE l=firstE (l.drop (k+1))):=by unfold Hid;rw [hf2];rfl
    clear hf2 hu
    go_wp2
    go_round
    case rel=>exact ⟨k+1,by omega,by go_num,hf3⟩
    case measure=>simp [intOf];omega
   ·have hf3:Hid (firstE l=x):=by unfold Hid;rw [hf2];unfold firstE;rw [if_pos hx]
    have hx1:(x != 0)=true:=by simpa using hx
    clear hf2 hu hx
    go_wp2
    go_ret
    exact ⟨by rw [hf3.out];rfl,rfl⟩
  ·have hk2:k=n:=by omega
   have hf3:Hid (firstE l=0):=by
    unfold Hid;rw [hf.out,List.drop_eq_nil_of_le (by have:=HL.out;omega)];rfl
   clear hk2
   go_wp2
   go_ret
   exact ⟨by rw [hf3.out];rfl,rfl⟩
theorem cfirst_two (x y:Int) (w:World) (t:TypeId) (g:Nat) (hg:w.heap.size=g) :
  Calls Tryz.prog 64 #[.slice (some ⟨g,0,none⟩) 2 2] (w.alloc (.cells #[.int .i64 x,.int .i64 y] t)) fun e w'=>e = .returned (.int .i64 (if x≠0 then x else y))∧w.alloc (.cells #[.int .i64 x,.int .i64 y] t)=w':=by
 subst hg
 have h:=cfirst_any (some ⟨w.heap.size,0,none⟩) 2 2 [x,y] (w.alloc (.cells #[.int .i64 x,.int .i64 y] t)) (Reads.lit w [.int .i64 x,.int .i64 y] t) (by unfold maxLen;omega)
 have e:firstE [x,y]=if x≠0 then x else y:=by unfold firstE;split<;>(try rfl);unfold firstE;split<;>simp_all [firstE]
 rwa [e] at h
theorem cfirst_three (w:World) (t:TypeId) (g:Nat) (hg:w.heap.size=g) :
  Calls Tryz.prog 64 #[.slice (some ⟨g,0,none⟩) 3 3] (w.alloc (.cells #[.int .i64 0,.int .i64 0,.int .i64 0] t)) fun e w'=>e = .returned (.int .i64 0)∧w.alloc (.cells #[.int .i64 0,.int .i64 0,.int .i64 0] t)=w':=by
 subst hg
 exact cfirst_any (some ⟨w.heap.size,0,none⟩) 3 3 [0,0,0] (w.alloc (.cells #[.int .i64 0,.int .i64 0,.int .i64 0] t)) (Reads.lit w [.int .i64 0,.int .i64 0,.int .i64 0] t) (by unfold maxLen;omega)
theorem cinRange_any (n a b:Int) (w:World) :
  Calls Tryz.prog 144 #[.int .i64 n,.int .i64 a,.int .i64 b] w fun e w'=>e = .returned (.int .i64 (rangeE n a b))∧w=w':=by
 by_cases h1:n<a
 ·have d1:decide (n<a)=true:=by simpa using h1
  have hv:Hid (rangeE n a b=3):=by unfold Hid rangeE;rw [if_pos (.inl h1)]
  go_enter Tryz.func144,Tryz.ntmps144
  go_wp2
  go_ret
  exact ⟨by rw [hv.out];rfl,rfl⟩
 ·have d1:decide (n<a)=false:=by simpa using h1
  by_cases h2:b<n
  ·have d2:decide (b<n)=true:=by simpa using h2
   have hv:Hid (rangeE n a b=3):=by unfold Hid rangeE;rw [if_pos (.inr h2)]
   go_enter Tryz.func144,Tryz.ntmps144
   go_wp2
   go_ret
   exact ⟨by rw [hv.out];rfl,rfl⟩
  ·have d2:decide (b<n)=false:=by simpa using h2
   have hv:Hid (rangeE n a b=0):=by unfold Hid rangeE;rw [if_neg (by omega)]
   go_enter Tryz.func144,Tryz.ntmps144
   go_wp2
   go_ret
   exact ⟨by rw [hv.out];rfl,rfl⟩
theorem cposZero_any (x:Nat) (w:World):Calls Tryz.prog 143 #[.float .f32 x] w fun e w'=>e = .returned (.float .f32 (if FloatKind.f32.format.order x 0==some .eq then 0 else x))∧w=w':=by
 go_enter Tryz.func143,Tryz.ntmps143
 by_cases h:(FloatKind.f32.format.order x 0==some .eq)=true
 ·rw [if_pos h]
  go_wp2
  go_ret
  exact ⟨rfl,rfl⟩
 ·rw [if_neg h]
  have h':(FloatKind.f32.format.order x 0==some .eq)=false:=by simpa using h
  go_wp2
  go_ret
  exact ⟨rfl,rfl⟩
theorem info_int:(Tryz.prog.info? 3).map (fun i=>(i.zero,i.size,i.bytes))=some (some (.int .i64 0),1,8):=by kernel_rfl
def prv (b:Bool) (l:List Bool) (k:Nat):Bool:=if k=0 then b else l.getD (k - 1) false
theorem prv_next (b:Bool) (l:List Bool) (k:Nat) (h:k<l.length):prv b l (k+1)=l[k]:=by
 unfold prv
 rw [if_neg (by omega)]
 simp [List.getD,h]
theorem chgB_prv (b:Bool) (l:List Bool) (k:Nat) (h:k<l.length):chgB b l k=(l[k] != prv b l k):=by
 unfold chgB prv
 simp [List.getD,h]
set_option maxHeartbeats 2000000 in
set_option maxRecDepth 100000 in
theorem changes_ok (A:Option Addr) (n c:Nat) (b:Bool) (l:List Bool) (w:World) (h:Reads w w.heap.size 1 A n (l.map boolv)) (hn:n≤4096) :
  Calls Tryz.prog 58 #[.slice A n c,.bool b] w fun e w'=>∃ A' c',e = .returned (.tuple #[.slice A' (chg b l n).length c',.int .i64 0])∧Reads w' w'.heap.size 1 A' (chg b l n).length ((chg b l n).map natv)∧Below w.heap.size w w':=by
 obtain ⟨i0,hi0,hz0,hz1,hz2⟩:=info_parts info_int
 have e1:(if (4096:Int)<(n:Int) then (5:Int) else 0)=0:=if_neg (by omega)
 have H1:=catMost_bool A n c 4096 w
 rw [e1] at H1
 have K1:=Lib.hid H1
 clear H1 e1
 go_enter Tryz.func58,Tryz.ntmps58
 go_wp2_with fail
 refine K1.out.mono ?_
 rintro e w1 ⟨rfl,rfl⟩
 go_wp2
 go_loopg [1,7,17] n (fun q p v s W=>∃ k:Nat,k≤n∧s = .int .i64 k∧n - k≤q∧p = .bool (prv b l k)∧W.ownsRow w.heap.size 3 1 v (chg b l k).length ((chg b l k).map natv)∧Below w.heap.size w W)
 case atStart=>exact ⟨0,Nat.zero_le _,rfl,by omega,rfl,World.ownsRow_nil _ _ _ _,Below.refl _ _⟩
 case round=>
  obtain ⟨k,hk,rfl,hq,rfl,hown,hbel⟩:=hrel
  by_cases h0:k<n
  ·obtain ⟨ad,hkl,rfl,hbb,hcell⟩:=(h.below hbel).cellM h0
   have hcb:=chgB_prv b l k hkl
   have hnx:=prv_next b l k hkl
   have hsu:=chg_succ b l k
   have hcl:=chg_len b l k
   rw [hcb] at hsu
   unfold boolv at hcell
   generalize l[k]=x at *
   generalize prv b l k=p at *
   have HN:=Lib.hid hnx
   by_cases hxp:(x != p)=true
   ·rw [hxp,if_pos rfl] at hsu
    have HS:=Lib.hid hsu
    clear hsu hnx hcb
    generalize hL:chg b l k=L at *
    have HL:=Lib.hid hL
    clear hL
    cases x<;>cases p<;>first | exact absurd hxp (by decide) | clear hxp
    all_goals
     go_wp2_with (at_builtin;refine wpList_append_own _ rfl _ _ 35 rfl w.heap.size 3 i0 (.int .i64 0) 1 8 Tryz.underlying35 hi0 hz0 hz1 hz2 rfl (by decide) _ _ _ rfl (hown.alloc _) ⟨wr.heap.size,0,none⟩ 1 1 [.int .i64 k] rfl rfl ?c1 ?c2 ?c3 ?c4 ?c5 ?_)
     case c1=>exact cell_one_new _ _ _
     case c2=>intro u hu;simp at hu;subst hu;rfl
     case c3=>unfold maxLen;omega
     case c4=>omega
     case c5=>have:=hbel.size;simp;omega
     intro v' w2 hown' hgrow _
     have hb2:Below w.heap.size w w2:=(hbel.alloc hbel.size _).grown hgrow (by have:=hbel.size;simp;omega) (fun g hg=>(World.ownsRow.lt hown g hg).1)
     clear hgrow hown
     go_wp2
     go_roundg (n - (k+1))
     case measure=>omega
     case rel=>exact ⟨k+1,by omega,by go_num,Nat.le_refl _,by rw [HN.out],by rw [HS.out,List.length_append,List.map_append];exact hown',hb2⟩
   ·have hxp':(x != p)=false:=by simpa using hxp
    rw [hxp',if_neg (by decide),List.append_nil] at hsu
    have HS:=Lib.hid hsu
    clear hsu hnx hcb hxp
    cases x<;>cases p<;>first | exact absurd hxp' (by decide) | clear hxp'
    all_goals
     go_wp2
     go_roundg (n - (k+1))
     case measure=>omega
     case rel=>exact ⟨k+1,by omega,by go_num,Nat.le_refl _,by rw [HN.out],by rw [HS.out];exact hown,hbel⟩
  ·obtain rfl:k=n:=by omega
   obtain ⟨A',c',rfl,_,_,hr⟩:=own_slice hown
   go_wp2
   go_ret2
   exact ⟨A',c',rfl,hr,hbel⟩
end Go.Proofs.YtmkihdjolnlccaaGreatDoor
namespace Go.Proofs.YtmkihdjolnlccaaGreatDoor
open Go.RowKit Dn
def RetI (w:World) (N:Nat) (P:List Nat→Prop) (e:Ending) (w':World):Prop:=∃ A m c ls,e = .returned (.slice A m c)∧DigI w' A m c ls∧m≤N∧P ls∧Below w.heap.size w w'
theorem RetI.of_own {w w':World} {B N m:Nat} {P:List Nat→Prop} {v:Value} {ls:List Nat} (h:w'.ownsRow B 3 1 v m (ls.map natv)) (hw:Wf ls) (hm:m≤N) (hp:P ls) (hb:Below w.heap.size w w'):RetI w N P (.returned v) w':=by
 obtain ⟨A,c,rfl,h1,h2,h3⟩:=own_slice h
 exact ⟨A,m,c,ls,rfl,⟨h3,h1,h2,hw⟩,hm,hp,hb⟩
def RetNr (w:World) (x:Nat) (e:Ending) (w':World):Prop:=∃ A m c,e = .returned (.slice A m c)∧DigI w' A m c (digs x)∧Below w.heap.size w w'
theorem one_new (w:World) (v:Value) (t:TypeId):∀ (j:Nat) (u:Value),[v][j]? = some u→(w.alloc (.cells #[v] t)).cell? { block:=w.heap.size,off:=j }=some u:=by
 intro j u hu
 have h:=cell_one_new w v t j u hu
 have e:(⟨w.heap.size,0,none⟩:Addr).add j=⟨w.heap.size,j,none⟩:=by
  unfold Addr.add
  by_cases hj:j=0<;>simp [hj]
 rwa [e] at h
theorem add_snoc (ls a b:List Nat) (k s c0 c1:Nat) (hk:ls.length=k) (hinv:val ls+B ^ k*c0=val (a.take k)+val (b.take k)) (hs:s+B*c1=a.getD k 0+b.getD k 0+c0) :
  val (ls++[s])+B ^ (k+1)*c1=val (a.take (k+1))+val (b.take (k+1)):=by
 rw [val_append,val_single,hk,val_take_getD a,val_take_getD b,Nat.pow_succ,Nat.mul_assoc]
 have h3:B ^ k*s+B ^ k*(B*c1)=B ^ k*a.getD k 0+B ^ k*b.getD k 0+B ^ k*c0:=by rw [←Nat.mul_add,hs,Nat.mul_add,Nat.mul_add]
 omega
theorem sub_snoc (ls a b:List Nat) (k d b0 b1:Nat) (hk:ls.length=k) (hinv:val ls+val (b.take k)=val (a.take k)+B ^ k*b0) (hs:d+b.getD k 0+b0=a.getD k 0+B*b1) :
  val (ls++[d])+val (b.take (k+1))=val (a.take (k+1))+B ^ (k+1)*b1:=by
 rw [val_append,val_single,hk,val_take_getD a,val_take_getD b,Nat.pow_succ,Nat.mul_assoc]
 have h3:B ^ k*d+B ^ k*b.getD k 0+B ^ k*b0=B ^ k*a.getD k 0+B ^ k*(B*b1):=by rw [←Nat.mul_add,←Nat.mul_add,hs,Nat.mul_add]
 omega
theorem no_carry_end (la lb ls:List Nat) (i c0:Nat) (hwa:Wf la) (hwb:Wf lb) (ha:la.length+1≤i) (hb:lb.length+1≤i) (h:val ls+B ^ i*c0=val (la.take i)+val (lb.take i)):c0=0:=by
 have h1:=val_lt (hwa.take i)
 have h2:=val_lt (hwb.take i)
 rw [List.length_take] at h1 h2
 have h3:B ^ min i la.length≤B ^ (i - 1):=Nat.pow_le_pow_right B_pos (by omega)
 have h4:B ^ min i lb.length≤B ^ (i - 1):=Nat.pow_le_pow_right B_pos (by omega)
 have h5:B ^ (i - 1)*2≤B ^ (i - 1)*B:=Nat.mul_le_mul_left _ B_gt1
 rw [←Nat.pow_succ,show (i - 1).succ=i from by omega] at h5
 rcases Nat.eq_zero_or_pos c0 with h0 | h0
 ·exact h0
 ·exfalso
  have:=Nat.le_mul_of_pos_right (B ^ i) h0
  omega
set_option maxHeartbeats 2000000 in
set_option maxRecDepth 100000 in
theorem raddDigits_any (A A':Option Addr) (n c n' c':Nat) (la lb:List Nat) (w:World) (h:DigI w A n c la) (h':DigI w A' n' c' lb) (hn:n≤1048576) (hn':n'≤1048576) :
  Calls Tryz.prog 173 #[.slice A n c,.slice A' n' c'] w (RetI w (max n n'+1) fun ls=>val ls=val la+val lb):=by
 obtain ⟨i0,hi0,hz0,hz1,hz2⟩:=info_parts info_int
 obtain ⟨N,hN⟩:∃ N,N=max n n':=⟨_,rfl⟩
 rw [←hN]
 have hla:=h.len
 have hlb:=h'.len
 have HLA:=Lib.hid hla
 have HLB:=Lib.hid hlb
 have HWA:=Lib.hid h.wf
 have HWB:=Lib.hid h'.wf
 have hN1:n≤N:=by omega
 have hN2:n'≤N:=by omega
 have hNb:N≤1048576:=by omega
 clear hla hlb hN
 go_enter Tryz.func173,Tryz.ntmps173
 go_wp2
 go_loopg [5,6,7] (N+1) (fun q v5 v6 v7 W=>∃ (i c0:Nat) (ls:List Nat),i≤N+1∧c0≤1∧v7 = .int .i64 i∧v6 = .int .i64 c0∧N+1 - i≤q∧W.ownsRow w.heap.size 3 1 v5 i (ls.map natv) ∧
  Hid (Wf ls∧ls.length=i∧val ls+B ^ i*c0=val (la.take i)+val (lb.take i))∧Below w.heap.size w W)
 case atStart=>exact ⟨0,0,[],by omega,by omega,rfl,rfl,by omega,World.ownsRow_nil _ _ _ _,⟨Wf.nil,rfl,by simp⟩,Below.refl _ _⟩
 case round=>
  obtain ⟨i,c0,ls,hi,hc0,rfl,rfl,hq,hown,hv,hbel⟩:=hrel
  by_cases hend:¬ i<n∧¬ i<n'∧c0=0
  ·obtain ⟨e1,e2,rfl⟩:=hend
   have d1:decide (i<n)=false:=by simpa using e1
   have d2:decide (i<n')=false:=by simpa using e2
   obtain ⟨hw,hl,hs⟩:=hv.out
   rw [List.take_of_length_le (by have:=HLA.out;omega),List.take_of_length_le (by have:=HLB.out;omega),Nat.mul_zero,Nat.add_zero] at hs
   obtain ⟨A9,c9,rfl,h91,h92,h93⟩:=own_slice hown
   have HR:Hid (RetI w (N+1) (fun ls=>val ls=val la+val lb) (.returned (.slice A9 i c9)) wr):=⟨A9,i,c9,ls,rfl,⟨h93,h91,h92,hw⟩,hi,hs,hbel⟩
   clear hs hw hl hown hv h91 h92 h93
   go_wp2
   go_ret
   exact HR.out
  ·have hiN:i≤N:=by
    obtain ⟨hw,hl,hs⟩:=hv.out
    rcases Nat.lt_or_ge N i with h9 | h9
    ·exfalso
     have:=no_carry_end la lb ls i c0 HWA.out HWB.out (by have:=HLA.out;omega) (by have:=HLB.out;omega) hs
     exact hend ⟨by omega,by omega,this⟩
    ·exact h9
   have K1:=Lib.hid (rdigit_any A n c la i wr (h.rd.later hbel) (by omega))
   have K2:=Lib.hid (rdigit_any A' n' c' lb i wr (h'.rd.later hbel) (by omega))
   have hxB:=getD_lt HWA.out i
   have hyB:=getD_lt HWB.out i
   obtain ⟨xk,hgx⟩:∃ xk,la.getD i 0=xk:=⟨_,rfl⟩
   obtain ⟨yk,hgy⟩:∃ yk,lb.getD i 0=yk:=⟨_,rfl⟩
   rw [hgx] at K1 hxB
   rw [hgy] at K2 hyB
   obtain ⟨t,ht⟩:∃ t,t=xk+yk+c0:=⟨_,rfl⟩
   obtain ⟨s,hs⟩:∃ s,s=t % B:=⟨_,rfl⟩
   obtain ⟨d,hd⟩:∃ d,d=t / B:=⟨_,rfl⟩
   have hsB:s<B:=by rw [hs];exact Nat.mod_lt _ B_pos
   have hd1:d≤1:=by rw [hd];unfold B;omega
   have ht2:t<4000000000:=by omega
   have HP:Hid (Wf (ls++[s])∧(ls++[s]).length=i+1∧val (ls++[s])+B ^ (i+1)*d=val (la.take (i+1))+val (lb.take (i+1))):=by
    obtain ⟨hw,hl,hs9⟩:=hv.out
    exact ⟨hw.append (Wf.cons hsB Wf.nil),by simp [hl],add_snoc ls la lb i s c0 d hl hs9 (by rw [hgx,hgy,hs,hd,Nat.mod_add_div,ht])⟩
   have es:((t:Nat):Int) % 1000000000=(s:Int):=by rw [hs];unfold B;omega
   have ed:((t:Nat):Int) / 1000000000=(d:Int):=by rw [hd];unfold B;omega
   have et:(xk:Int)+(yk:Int)+(c0:Int)=(t:Int):=by omega
   have hcase:(decide (i<n)=true)∨(decide (i<n)=false∧decide (i<n')=true)∨(decide (i<n)=false∧decide (i<n')=false∧decide (0<c0)=true):=by
    simp only [decide_eq_true_eq,decide_eq_false_iff_not]
    omega
   clear hgx hgy hs hd ht hv hend
   rcases hcase with d1 | ⟨d1,d2⟩ | ⟨d1,d2,d3⟩
   all_goals
    go_wp2_with fail
    refine K1.out.mono ?_
    rintro e w1 ⟨rfl,hw1⟩
    obtain rfl:wr=w1:=hw1
    go_wp2_with fail
    refine K2.out.mono ?_
    rintro e w1 ⟨rfl,hw1⟩
    obtain rfl:wr=w1:=hw1
    go_wp2_with (at_builtin;refine wpList_append_own _ rfl _ _ 35 rfl w.heap.size 3 i0 (.int .i64 0) 1 8 Tryz.underlying35 hi0 hz0 hz1 hz2 rfl (by decide) _ _ _ rfl (hown.alloc _) ⟨wr.heap.size,0,none⟩ 1 1 [.int .i64 s] rfl rfl ?c1 ?c2 ?c3 ?c4 ?c5 ?_)
    case c1=>exact cell_one_new _ _ _
    case c2=>intro u hu;simp at hu;subst hu;rfl
    case c3=>unfold maxLen;omega
    case c4=>omega
    case c5=>have:=hbel.size;simp;omega
    intro v' w2 hown' hgrow _
    have hb2:Below w.heap.size w w2:=(hbel.alloc hbel.size _).grown hgrow (by have:=hbel.size;simp;omega) (fun g hg=>(World.ownsRow.lt hown g hg).1)
    clear hgrow hown
    go_wp2
    go_roundg (N+1 - (i+1))
    case measure=>omega
    case rel=>exact ⟨i+1,d,ls++[s],by omega,hd1,by go_num,rfl,Nat.le_refl _,by rw [List.map_append];exact hown',HP.out,hb2⟩
set_option maxHeartbeats 2000000 in
set_option maxRecDepth 100000 in
theorem rsubDigits_any (A A':Option Addr) (n c n' c' x y:Nat) (w:World) (h:DigI w A n c (digs x)) (h':DigI w A' n' c' (digs y)) (hyx:y≤x) (hn:n≤1048576) (hn':n'≤1048576) :
  Calls Tryz.prog 175 #[.slice A n c,.slice A' n' c'] w (RetNr w (x - y)):=by
 obtain ⟨i0,hi0,hz0,hz1,hz2⟩:=info_parts info_int
 have HLA:=Lib.hid h.len
 have HLB:=Lib.hid h'.len
 have hle:n'≤n:=by rw [←h.len,←h'.len];exact digs_length_mono hyx
 have HYX:=Lib.hid hyx
 clear hyx
 go_enter Tryz.func175,Tryz.ntmps175
 go_wp2
 go_loopg [5,6,7] n (fun q v5 v6 v7 W=>∃ (i b0:Nat) (ls:List Nat),i≤n∧b0≤1∧v7 = .int .i64 i∧v6 = .int .i64 b0∧n - i≤q∧W.ownsRow w.heap.size 3 1 v5 i (ls.map natv) ∧
  Hid (Wf ls∧ls.length=i∧val ls+val ((digs y).take i)=val ((digs x).take i)+B ^ i*b0)∧Below w.heap.size w W)
 case atStart=>exact ⟨0,0,[],by omega,by omega,rfl,rfl,by omega,World.ownsRow_nil _ _ _ _,⟨Wf.nil,rfl,by simp⟩,Below.refl _ _⟩
 case round=>
  obtain ⟨i,b0,ls,hi,hb0,rfl,rfl,hq,hown,hv,hbel⟩:=hrel
  by_cases hin:i<n
  ·obtain ⟨ad,hkl,rfl,hbb,hcell⟩:=(h.rd.later hbel).cellM hin
   have K2:=Lib.hid (fun q=>rdigit_any A' n' c' (digs y) i (wr.drewN q) ((h'.rd.later hbel).drewN q) (by omega))
   have hxB:=wf_digs x _ (List.getElem_mem hkl)
   have hyB:=getD_lt (wf_digs y) i
   have hgx:(digs x).getD i 0=(digs x)[i]:=by simp [List.getD,hkl]
   unfold natv at hcell
   obtain ⟨xk,hgx2⟩:∃ xk,(digs x)[i]=xk:=⟨_,rfl⟩
   rw [hgx2] at hcell hxB hgx
   obtain ⟨yk,hgy⟩:∃ yk,(digs y).getD i 0=yk:=⟨_,rfl⟩
   rw [hgy] at K2 hyB
   have HX:=Lib.hid hgx
   have HY:=Lib.hid hgy
   have hxB':xk<1000000000:=hxB
   have e1:IntKind.i64.wrap ((xk:Int) - (yk:Int))=(xk:Int) - (yk:Int):=IntWalk.i64_in _ (by omega)
   obtain ⟨z,hz⟩:∃ z:Int,z=(xk:Int) - (yk:Int) - (b0:Int):=⟨_,rfl⟩
   have e2:IntKind.i64.wrap ((xk:Int) - (yk:Int) - (b0:Int))=z:=by rw [IntWalk.i64_in _ (by omega)];exact hz.symm
   have hp1:(0:Int)≤(i:Int):=by omega
   have hp2:(i:Int)<(n:Int):=by omega
   have hownq:∀ q,(wr.drewN q).ownsRow w.heap.size 3 1 _ i (ls.map natv):=fun q=>hown
   have hbelq:=fun q=>below_drewN hbel q
   have HOWN:=Lib.hid hownq
   have HBEL:=Lib.hid hbelq
   have HZ:=Lib.hid hz
   have hsz:=hbel.size
   clear hgx hgx2 hgy hownq hbelq hown
   by_cases hneg:z<0
   case' pos=>obtain ⟨dd,hdd⟩:∃ dd:Nat,z+1000000000=(dd:Int):=⟨(z+1000000000).toNat,by omega⟩
   case' neg=>obtain ⟨dd,hdd⟩:∃ dd:Nat,z=(dd:Int):=⟨z.toNat,by omega⟩
   case' pos=>have hb1:∃ b1:Nat,b1=1:=⟨_,rfl⟩
   case' neg=>have hb1:∃ b1:Nat,b1=0:=⟨_,rfl⟩
   case' pos=>have dz:decide (z<0)=true:=by simpa using hneg
   case' neg=>have dz:decide (z<0)=false:=by simpa using hneg
   all_goals
    obtain ⟨b1,hb1⟩:=hb1
    have hddB:dd<B:=by unfold B;omega
    have HP:Hid (Wf (ls++[dd])∧(ls++[dd]).length=i+1∧val (ls++[dd])+val ((digs y).take (i+1))=val ((digs x).take (i+1))+B ^ (i+1)*b1):=by
     obtain ⟨hw,hl,hs9⟩:=hv.out
     exact ⟨hw.append (Wf.cons hddB Wf.nil),by simp [hl],sub_snoc ls _ _ i dd b0 b1 hl hs9 (by rw [HX.out,HY.out];unfold B;omega)⟩
    have HB1:=Lib.hid hb1
    clear hz hb1 hv
    go_upto_region 6 with (fail)
    go_quiet ((go_at_call 226;exact quiet_left (K2.out _)))
    clear e1 e2
    go_wp2_with (at_builtin;refine wpList_append_own _ rfl _ _ 35 rfl w.heap.size 3 i0 (.int .i64 0) 1 8 Tryz.underlying35 hi0 hz0 hz1 hz2 rfl (by decide) _ _ _ rfl ((HOWN.out _).alloc _) ⟨wr.heap.size,0,none⟩ 1 1 [.int .i64 (dd:Int)] rfl rfl ?c1 ?c2 ?c3 ?c4 ?c5 ?_)
    case c1=>first | exact cell_one_new _ _ _ | exact one_new (wr.drewN _) _ _
    case c2=>first | (intro u hu;simp at hu;subst hu;rfl) | rfl
    case c3=>unfold maxLen;omega
    case c4=>omega
    case c5=>first | (simp;omega) | omega
    intro v' w2 hown' hgrow _
    have hb2:Below w.heap.size w w2:=((HBEL.out _).alloc hsz _).grown hgrow (by simp;omega) (fun g hg=>(World.ownsRow.lt (HOWN.out 0) g hg).1)
    clear hgrow
    go_wp2
    go_roundg (n - (i+1))
    case measure=>omega
    case rel=>exact ⟨i+1,b1,ls++[dd],by omega,by have:=HB1.out;omega,by go_num,by rw [HB1.out];rfl,Nat.le_refl _,by rw [List.map_append];exact hown',HP.out,hb2⟩
  ·obtain rfl:i=n:=by omega
   obtain ⟨hw,hl,hs⟩:=hv.out
   rw [List.take_of_length_le (l:=digs y) (by rw [HLB.out];exact hle),List.take_of_length_le (l:=digs x) (by rw [HLA.out];exact Nat.le_refl _),val_digs,val_digs] at hs
   have h2:val ls<B ^ i:=by have:=val_lt hw;rwa [hl] at this
   have hvv:val ls=x - y:=Bn.minus_end _ _ _ _ _ hs h2 HYX.out hb0
   obtain ⟨A9,c9,rfl,h91,h92,h93⟩:=own_slice hown
   have ht:=rtrim_any A9 i c9 ls wr ⟨h93,h91,h92,hw⟩ (by omega)
   rw [hvv] at ht
   have HT:=Lib.hid ht
   clear ht hvv h2 hs hl hw hv hown h93
   go_wp2_with fail
   refine HT.out.mono ?_
   rintro e w1 ⟨m,rfl,hd,hb1⟩
   go_wp2
   go_ret
   exact ⟨A9,m,c9,rfl,hd,hbel.trans (hb1.mono hbel.size)⟩
end Go.Proofs.YtmkihdjolnlccaaGreatDoor
