/- Contracts of the functions of package number on naturals: minus, timesPlus, times. -/
import Derived.Test.YtmkihdjolnlccaaGreatDoorQShelf
import Derived.Test.YtmkihdjolnlccaaGreatDoorQWords
namespace Go.Proofs.YtmkihdjolnlccaaGreatDoor
open Go.RowKit Bn
theorem zew (x y:Nat) (hx:x<18446744073709551616) (hy:y<18446744073709551616) :
  ∃ hi lo:Nat,lo+18446744073709551616*hi=x*y∧lo<18446744073709551616∧hi<18446744073709551616 ∧
   ∀ w:World,Calls Tryz.prog 243 #[.int .u64 x,.int .u64 y] w fun e w'=>e = .returned (.tuple #[.int .u64 (hi:Int),.int .u64 (lo:Int)])∧w'=w:=by
 refine ⟨x*y / 18446744073709551616,x*y % 18446744073709551616,Nat.mod_add_div _ _,Nat.mod_lt _ (by omega),?_,fun w=>Tryz.bits_Mul64 x y hx hy w⟩
 exact Nat.div_lt_of_lt_mul (zll x y hx hy)
set_option maxHeartbeats 1000000 in
theorem zcX (a b c d:Nat) (ha:a<18446744073709551616) (hb:b<18446744073709551616) (hc:c<18446744073709551616) (hd:d<18446744073709551616) :
  ∃ lo hi:Nat,lo+18446744073709551616*hi=a*b+c+d∧lo<18446744073709551616∧hi<18446744073709551616 ∧
   ∀ w:World,Calls Tryz.prog 193 #[.int .u64 a,.int .u64 b,.int .u64 c,.int .u64 d] w fun e w'=>e = .returned (.tuple #[.int .u64 (lo:Int),.int .u64 (hi:Int)])∧w=w':=by
 obtain ⟨h,l,hm,hl,hh,hcall⟩:=zew a b ha hb
 obtain ⟨l1,c1,e1,hl1,hc1,run1⟩:=zbP l c 0 hl hc (by omega)
 obtain ⟨l2,c2,e2,hl2,hc2,run2⟩:=zbP l1 d 0 hl1 hd (by omega)
 have hbound:=ziF a b ha hb
 have hle:h+c1+c2<18446744073709551616:=by omega
 refine ⟨l2,h+c1+c2,by omega,hl2,hle,fun w => ?_⟩
 replace run1:∀ w:World,(callFunc 244 #[.int .u64 l,.int .u64 c,.int .u64 0]).run Tryz.prog w = .ok (.value (.tuple #[.int .u64 l1,.int .u64 c1])) w:=run1
 replace run2:∀ w:World,(callFunc 244 #[.int .u64 l1,.int .u64 d,.int .u64 0]).run Tryz.prog w = .ok (.value (.tuple #[.int .u64 l2,.int .u64 c2])) w:=run2
 clear e1 e2 hm hbound
 go_enter Tryz.func193,Tryz.ntmps193
 go_wp2_with fail
 refine (hcall _).mono ?_
 rintro e w' ⟨rfl,rfl⟩
 go_wp2
 go_ret2
 exact ⟨rfl,rfl⟩
def zpH (w wr:World) (n n':Nat) (la lb:List Nat) (i:Nat):Prop:=
 ∃ ls,zas wr w.heap.size w.heap.size (n+n') (n+n') ls∧Wf ls∧val ls=val (la.take i)*val lb∧(∀ t,i+n'≤t→ls.getD t 0=0)∧Below w.heap.size w wr
def zrS (w wr:World) (n n':Nat) (la lb:List Nat) (i j c:Nat):Prop:=
 ∃ ls,zas wr w.heap.size w.heap.size (n+n') (n+n') ls∧Wf ls∧val ls+B ^ (i+j)*c=val (la.take i)*val lb+B ^ i*(la.getD i 0*val (lb.take j))∧(∀ t,i+n'≤t→ls.getD t 0=0)∧Below w.heap.size w wr
set_option maxHeartbeats 4000000 in
set_option maxRecDepth 100000 in
theorem zde (A A':Option Addr) (n c n' c' x y:Nat) (w:World) (ha:NatS w w.heap.size A n c x) (hb:NatS w w.heap.size A' n' c' y) (hn:n≤1099511627776) (hn':n'≤1099511627776) :
  Calls Tryz.prog 116 #[.slice A n c,.slice A' n' c'] w (zgd w (x*y)):=by
 obtain ⟨i0,hi0,hz0,hz1,hz2⟩:=info_parts zbA
 have hla:=ha.len
 have hlb:=hb.len
 have hA:=Lib.hid hla
 have hB:=Lib.hid hlb
 clear hla hlb
 have h1:=ha.nc
 have h2:=ha.cm
 have h3:=hb.nc
 have h4:=hb.cm
 unfold maxLen at h2 h4
 go_enter Tryz.func116,Tryz.ntmps116
 go_wp2_with (at_make;refine wpList_make_full _ rfl _ _ 157 rfl w.heap.size 168 i0 (.int .u64 0) 1 Tryz.underlying157 hi0 hz0 hz1 _ _ _ _ (n+n') rfl rfl (by omega) (by omega) ?b2 ?b3 (Nat.le_refl _) ?_)
 case b2=>rw [hz2];omega
 case b3=>unfold maxLen;omega
 intro w0 hown0 hgrow0
 have hbel0:Below w.heap.size w w0:=(Below.refl _ _).grown hgrow0 (Nat.le_refl _) (fun k h=>by cases h)
 have hrow0:=zas.made hown0
 clear hown0 hgrow0
 go_wp2
 go_loopw [19] (fun s wr=>∃ i:Nat,i≤n∧s = .int .i64 i∧zpH w wr n n' (digs x) (digs y) i) (fun s _=>n - (intOf s).toNat)
 case atStart=>exact ⟨0,by omega,rfl,_,hrow0,Wf.replicate _,by simp [zaL],fun t _=>zbO _ _,hbel0⟩
 case round=>
  obtain ⟨i,hi,rfl,ls,hrow,hwf,hval,hz,hbel⟩:=hrel
  obtain ⟨wo,rfl⟩:∃ wo:World,wo=wr:=⟨_,rfl⟩
  have HV:=Lib.hid hval
  have HZ:=Lib.hid hz
  clear hval hz
  by_cases hin:i<n
  ·obtain ⟨ad,rfl,hba,hca⟩:=(ha.below hbel).words.word (k:=i) hin
   have hxB:=zar (zak x) i
   obtain ⟨f,hgx⟩:∃ f,(digs x).getD i 0=f:=⟨_,rfl⟩
   rw [hgx] at hca hxB
   have HF:=Lib.hid hgx
   clear hgx
   go_wp2_with fail
   go_loopw [8,26] (fun cy s wr=>∃ j c0:Nat,j≤n'∧c0<18446744073709551616∧s = .int .i64 j∧cy = .int .u64 c0∧zrS w wr n n' (digs x) (digs y) i j c0) (fun _ s _=>n' - (intOf s).toNat)
   case atStart=>exact ⟨0,0,by omega,by omega,rfl,rfl,ls,hrow,hwf,by rw [HV.out];simp,HZ.out,hbel⟩
   case round=>
    obtain ⟨j,c0,hj,hc0,rfl,rfl,l2,hrow2,hwf2,hval2,hz2',hbel2⟩:=hrel
    have HV2:=Lib.hid hval2
    have HZ2:=Lib.hid hz2'
    clear hval2 hz2'
    by_cases hjn:j<n'
    ·obtain ⟨ad',rfl,hbb,hcb⟩:=(hb.below hbel2).words.word (k:=j) hjn
     have hyB:=zar (zak y) j
     obtain ⟨yk,hgy⟩:∃ yk,(digs y).getD j 0=yk:=⟨_,rfl⟩
     rw [hgy] at hcb hyB
     have hcs:=hrow2.cell (i+j) (by omega)
     have hfs:=hrow2.free (i+j)
     have hoB:=zar hwf2 (i+j)
     obtain ⟨o,hgo⟩:∃ o,l2.getD (i+j) 0=o:=⟨_,rfl⟩
     rw [hgo] at hcs hoB
     obtain ⟨lo,hi',e1,hlo,hhi,hcall⟩:=zcX f yk o c0 hxB hyB hoB hc0
     have HP:Hid (val (l2.set (i+j) lo)+B ^ (i+(j+1))*hi'=val ((digs x).take i)*val (digs y)+B ^ i*((digs x).getD i 0*val ((digs y).take (j+1)))):=
      zc6 l2 (digs y) i j _ _ lo hi' c0 (by rw [hrow2.len];omega) HV2.out (by rw [hgy,hgo,HF.out];exact e1)
     have HZ3:Hid (∀ t,i+n'≤t→(l2.set (i+j) lo).getD t 0=0):=fun t ht=>by rw [zaz _ _ _ _ (by omega)];exact HZ2.out t ht
     clear e1 hgy hgo
     go_wp2_with fail
     refine (hcall _).mono ?_
     rintro e w' ⟨rfl,rfl⟩
     go_wp2
     go_roundw
     case rel=>exact ⟨j+1,hi',by omega,hhi,by go_num,rfl,_,hrow2.set (i+j) lo,hwf2.set _ hlo,HP.out,HZ3.out,hbel2.setCell (Nat.le_refl _) _⟩
     case measure=>simp [intOf]<;>omega
    ·obtain rfl:j=n':=by omega
     have hcs:=hrow2.cell (i+j) (by omega)
     have hfs:=hrow2.free (i+j)
     have HP:Hid (val (l2.set (i+j) c0)=val ((digs x).take (i+1))*val (digs y)):=
      zd7 l2 (digs x) (digs y) i j c0 (by rw [hrow2.len];omega) (HZ2.out _ (Nat.le_refl _)) hB.out HV2.out
     have HZ3:Hid (∀ t,i+1+j≤t→(l2.set (i+j) c0).getD t 0=0):=fun t ht=>by rw [zaz _ _ _ _ (by omega)];exact HZ2.out t (by omega)
     generalize l2.getD (i+j) 0=old at hcs
     go_wp2
     go_roundw
     case rel=>exact ⟨i+1,by omega,by go_num,_,hrow2.set (i+j) c0,hwf2.set _ hc0,HP.out,HZ3.out,hbel2.setCell (Nat.le_refl _) _⟩
     case measure=>simp [intOf]<;>omega
  ·obtain rfl:i=n:=by omega
   have hv:val ls=x*y:=by rw [HV.out,List.take_of_length_le (by rw [hA.out];exact Nat.le_refl _),zai,zai]
   have ht:=zdO (some ⟨w.heap.size,0,none⟩) (i+n') (i+n') ls wo hrow.words hwf (Nat.le_refl _) (by unfold maxLen;omega)
   rw [hv] at ht
   have HC:=Lib.hid ht
   clear ht hv
   go_wp2_with fail
   refine HC.out.mono ?_
   rintro e w1 ⟨m,rfl,hn1,rfl⟩
   go_wp2
   go_ret
   exact ⟨_,m,_,rfl,hn1,hbel⟩
def zaf (l:List UInt8):Nat:=l.foldl (fun a c=>a*10+(c.toNat - 48)) 0
theorem zju (l:List UInt8) (a:Nat):l.foldl (fun a c=>a*10+(c.toNat - 48)) a=a*10 ^ l.length+zaf l:=by
 unfold zaf
 induction l generalizing a with
 | nil=>simp
 | cons c l ih=>
  rw [List.foldl_cons,List.foldl_cons,ih,ih (0*10+(c.toNat - 48)),List.length_cons,Nat.pow_succ,Nat.zero_mul,Nat.zero_add,Nat.add_mul,Nat.mul_assoc,Nat.mul_comm 10 (10 ^ l.length),Nat.add_assoc]
theorem zb8 (a b:List UInt8):zaf (a++b)=zaf a*10 ^ b.length+zaf b:=by
 show (a++b).foldl _ 0=_
 rw [List.foldl_append,zju]
 rfl
theorem zc1 (a:List UInt8) (c:UInt8):zaf (a++[c])=zaf a*10+(c.toNat - 48):=by
 rw [zb8]
 simp [zaf]
theorem zdY (c:UInt8) (l:List UInt8):zaf (c :: l)=(c.toNat - 48)*10 ^ l.length+zaf l:=by
 have h:=zb8 [c] l
 rw [List.singleton_append] at h
 rw [h]
 simp [zaf]
theorem za6 (l:List UInt8) (h:zap l=true):zaf l<10 ^ l.length:=by
 induction l with
 | nil=>simp [zaf]
 | cons c l ih=>
  have e:zap (c :: l)=(digB (c.toNat:Int) && zap l):=rfl
  rw [e,Bool.and_eq_true] at h
  have h1:=ih h.2
  have h2:=h.1
  unfold digB at h2
  simp only [Bool.and_eq_true,decide_eq_true_eq] at h2
  rw [zdY,List.length_cons,Nat.pow_succ]
  have h3:(c.toNat - 48)*10 ^ l.length≤9*10 ^ l.length:=Nat.mul_le_mul_right _ (by omega)
  omega
theorem zjs (l' l:List Nat) (k p c0 s c r:Nat) (hk:k<l'.length) (hinv:val (l'.take k)+B ^ k*c=val (l.take k)*s+c0)
  (h:r+B*p=l.getD k 0*s+c):val ((l'.set k r).take (k+1))+B ^ (k+1)*p=val (l.take (k+1))*s+c0:=by
 rw [zaK l' k r hk,zag l,Nat.pow_succ,Nat.mul_assoc,Nat.add_mul,Nat.mul_assoc]
 have h3:B ^ k*r+B ^ k*(B*p)=B ^ k*(l.getD k 0*s)+B ^ k*c:=by rw [←Nat.mul_add,h,Nat.mul_add]
 omega
theorem zbu (a b:List UInt8):zap (a++b)=(zap a && zap b):=by unfold zap;rw [List.all_append]
theorem zdK (l:List UInt8) (k:Nat) (hk:k≤19) (hd:zap l=true):zaf (l.take k)<10000000000000000000∧10 ^ k≤10000000000000000000:=by
 have h1:zap (l.take k)=true:=by
  have h:zap (l.take k++l.drop k)=true:=by rw [List.take_append_drop];exact hd
  rw [zbu,Bool.and_eq_true] at h
  exact h.1
 have h2:=za6 _ h1
 have h3:10 ^ (l.take k).length≤10 ^ 19:=Nat.pow_le_pow_right (by omega) (by rw [List.length_take];omega)
 have h4:10 ^ k≤10 ^ 19:=Nat.pow_le_pow_right (by omega) hk
 have e:10 ^ 19=10000000000000000000:=by decide
 omega
def zqJ:Value→Nat | .string t=>t.size | _=>0
set_option maxHeartbeats 4000000 in
set_option maxRecDepth 100000 in
theorem zaP (s:ByteArray) (w:World) (hd:zap s.data.toList=true) (hs:s.size≤4294967296) :
  Calls Tryz.prog 180 #[.string s] w (zgd w (zaf s.data.toList)):=by
 obtain ⟨i0,hi0,hz0,hz1,hz2⟩:=info_parts zbA
 go_enter Tryz.func180,Tryz.ntmps180
 obtain ⟨C,hC⟩:∃ C,C=s.size / 19+1:=⟨_,rfl⟩
 have eC:(s.size:Int) / 19+1=(C:Int):=by omega
 have hCb:C≤4294967297:=by omega
 have HC:=Lib.hid hC
 clear hC
 go_wp2_with (at_make;refine wpList_make_own _ rfl _ _ 157 rfl w.heap.size 168 i0 (.int .u64 0) 1 Tryz.underlying157 hi0 hz0 hz1 _ _ _ C rfl rfl (by omega) ?b2 ?b3 (Nat.le_refl _) ?_)
 case b2=>rw [hz2];omega
 case b3=>unfold maxLen;omega
 intro w0 hown0 hgrow0
 have hbel0:Below w.heap.size w w0:=(Below.refl _ _).grown hgrow0 (Nat.le_refl _) (fun k h=>by cases h)
 have hrow0:zas w0 w.heap.size w.heap.size 0 C []:=hown0
 clear hown0 hgrow0 eC
 go_wp2_with fail
 go_loopw [0,3] (fun sd sa wr=>∃ (t:ByteArray) (n:Nat) (lw:List Nat),sd = .string t∧sa = .slice (some ⟨w.heap.size,0,none⟩) n C∧zas wr w.heap.size w.heap.size n C lw∧Wf lw∧Hid (zaf s.data.toList=val lw*10 ^ t.size+zaf t.data.toList)∧Hid (zap t.data.toList=true)∧t.size≤s.size∧n+(t.size+18) / 19≤C∧Below w.heap.size w wr) (fun sd _ _=>zqJ sd)
 case atStart=>exact ⟨s,0,[],rfl,rfl,hrow0,Wf.nil,by simp [Hid],hd,Nat.le_refl _,by have:=HC.out;omega,hbel0⟩
 case round=>
  obtain ⟨t,n,lw,rfl,rfl,hrow,hwf,hv,hdt,htl,hnC,hbel⟩:=hrel
  obtain ⟨wo,rfl⟩:∃ wo:World,wo=wr:=⟨_,rfl⟩
  by_cases h0:0<t.size
  ·obtain ⟨r,hr⟩:∃ r,r=(t.size - 1) % 19+1:=⟨_,rfl⟩
   have hr1:1≤r:=by omega
   have hr19:r≤19:=by omega
   have hrt:r≤t.size:=by omega
   have er:((t.size:Int) - 1) % 19+1=(r:Int):=by omega
   have hrC:n+1+(t.size - r+18) / 19≤C:=by omega
   have HR:=Lib.hid hr
   clear hr hnC
   obtain ⟨u,hu⟩:∃ u,t.extract 0 r=u:=⟨_,rfl⟩
   have hul:u.data.toList=t.data.toList.take r:=by rw [←hu,Lib.extract_data];simp
   have hus:u.size=r:=by rw [←hu];simp;omega
   have hud:zap u.data.toList=true:=by
    have h:zap (t.data.toList.take r++t.data.toList.drop r)=true:=by rw [List.take_append_drop];exact hdt.out
    rw [zbu,Bool.and_eq_true] at h
    rw [hul];exact h.1
   have hrd:zap (t.data.toList.drop r)=true:=by
    have h:zap (t.data.toList.take r++t.data.toList.drop r)=true:=by rw [List.take_append_drop];exact hdt.out
    rw [zbu,Bool.and_eq_true] at h
    exact h.2
   have HUL:=Lib.hid hul
   have HUD:=Lib.hid hud
   have HRD:=Lib.hid hrd
   have HUS:=Lib.hid hus
   clear hul hud hrd hus
   go_wp2_with fail
   have HUE:=Lib.hid hu
   clear hu er
   go_loopw [5,6] (fun ss sy wi=>∃ pos sc cy:Nat,wi=wo.iter u pos∧pos≤r∧ss = .int .u64 (sc:Int)∧sy = .int .u64 (cy:Int)∧sc=10 ^ pos∧cy=zaf (u.data.toList.take pos)) (fun _ _ wi=>r - wi.iterPos wo.heap.size)
   case atStart=>exact ⟨0,1,0,rfl,Nat.zero_le _,rfl,rfl,rfl,rfl⟩
   case round=>
    obtain ⟨pos,sc,cy,rfl,hpr,rfl,rfl,hsc,hcy⟩:=hrel
    have HSC:=Lib.hid hsc
    have HCY:=Lib.hid hcy
    clear hsc hcy
    by_cases hp:pos<r
    ·have hp':pos<u.size:=by rw [HUS.out];exact hp
     have hsp:=zdk u pos hp'
     obtain ⟨c,hc⟩:∃ c:Nat,(u[pos]'hp').toNat=c:=⟨_,rfl⟩
     have hcd:48≤c∧c≤57:=by
      have h:zap (u.data.toList.take pos++u.data.toList.drop pos)=true:=by rw [List.take_append_drop];exact HUD.out
      rw [zbu,Bool.and_eq_true] at h
      have h2:=h.2
      rw [hsp,Bool.and_eq_true,hc] at h2
      have h3:=h2.1
      unfold digB at h3
      simp only [Bool.and_eq_true,decide_eq_true_eq] at h3
      omega
     have ha:(u[pos]'hp').toNat<128:=by omega
     have hnx:∀ ty,(Instr.next (.pointer (some ⟨wo.heap.size,0,none⟩)) true ty).run Tryz.prog (wo.iter u pos)=_:=fun ty=>run_next_ascii wo u pos ty hp' ha
     simp only [hc] at hnx
     obtain ⟨k1,k2⟩:=zdK u.data.toList (pos+1) (by omega) HUD.out
     have hcy2:zaf (u.data.toList.take (pos+1))=cy*10+(c - 48):=by
      have hl:pos<u.data.toList.length:=by simpa using hp'
      rw [List.take_succ_eq_append_getElem hl,zc1,←HCY.out,←hc]
      rfl
     have hsc2:10 ^ (pos+1)=sc*10:=by rw [Nat.pow_succ,HSC.out]
     rw [hcy2] at k1
     rw [hsc2] at k2
     have HA:=Lib.hid hcy2
     have HB:=Lib.hid hsc2
     have hc48:=hcd.1
     have hc57:=hcd.2
     clear hcy2 hsc2 hsp hc ha hcd
     go_wp2_with fail
     go_roundw
     case rel=>exact ⟨pos+1,sc*10,cy*10+(c - 48),rfl,hp,by first | rfl | (congr 1;omega),by first | rfl | (congr 1;omega),HB.out.symm,HA.out.symm⟩
     case measure=>simp;omega
    ·obtain rfl:pos=r:=by omega
     have hnx:∀ ty,(Instr.next (.pointer (some ⟨wo.heap.size,0,none⟩)) true ty).run Tryz.prog (wo.iter u pos)=_:=fun ty=>run_next_end wo u pos ty (by rw [HUS.out];omega)
     go_wp2_with fail
     have hscB:sc<18446744073709551616:=by
      have:=(zdK u.data.toList pos (by omega) HUD.out).2
      rw [HSC.out];omega
     have hcyB:cy<18446744073709551616:=by
      have:=(zdK u.data.toList pos (by omega) HUD.out).1
      rw [HCY.out];omega
     have hrow1:zas (wo.iter u pos) w.heap.size w.heap.size n C lw:=hrow.alloc _
     have hbel1:Below w.heap.size w (wo.iter u pos):=hbel.alloc hbel.size _
     go_loopw [6,41] (fun scy sl we=>∃ k c:Nat,k≤n∧c<18446744073709551616∧sl = .int .i64 k∧scy = .int .u64 c∧∃ l2,zas we w.heap.size w.heap.size n C l2∧Wf l2∧Hid (val (l2.take k)+B ^ k*c=val (lw.take k)*sc+cy)∧Hid (∀ j,k≤j→l2.getD j 0=lw.getD j 0)∧Below w.heap.size w we) (fun _ sl _=>n - (intOf sl).toNat)
     case atStart=>exact ⟨0,cy,Nat.zero_le _,hcyB,rfl,rfl,lw,hrow1,hwf,by simp [Hid],fun j _=>rfl,hbel1⟩
     case round=>
      have HLW:=Lib.hid hrow.len
      clear hrow1 hbel1 hnx hrow hbel
      obtain ⟨k,c,hk,hcB,rfl,rfl,l2,hrow2,hwf2,hval2,hsm2,hbel2⟩:=hrel
      by_cases hkn:k<n
      ·have hcs:=hrow2.cell k hkn
       have hfs:=hrow2.free k
       have hzB:=zar hwf2 k
       obtain ⟨z,gz⟩:∃ z,l2.getD k 0=z:=⟨_,rfl⟩
       rw [gz] at hcs hzB
       obtain ⟨lo,hi,hm,hlo,hhi,hcall⟩:=zcX z sc c 0 hzB hscB hcB (by omega)
       replace hcall:∀ w:World,Calls Tryz.prog 193 #[.int .u64 z,.int .u64 sc,.int .u64 c,.int .u64 0] w fun e w'=>e = .returned (.tuple #[.int .u64 (lo:Int),.int .u64 (hi:Int)])∧w=w':=hcall
       have HP:Hid (val ((l2.set k lo).take (k+1))+B ^ (k+1)*hi=val (lw.take (k+1))*sc+cy):=
        zjs l2 lw k hi cy sc c lo (by rw [hrow2.len];exact hkn) hval2.out (by rw [←hsm2.out k (Nat.le_refl _),gz];exact hm)
       have HS3:Hid (∀ j,k+1≤j→(l2.set k lo).getD j 0=lw.getD j 0):=fun j hj=>by
        rw [zaz _ _ _ _ (by omega)]
        exact hsm2.out j (by omega)
       clear hm gz
       go_wp2_with fail
       refine (hcall _).mono ?_
       rintro e w' ⟨rfl,rfl⟩
       go_wp2
       go_roundw
       case rel=>exact ⟨k+1,hi,hkn,hhi,by go_num,rfl,_,hrow2.set k lo,hwf2.set _ hlo,HP,HS3,hbel2.setCell (p:=⟨w.heap.size,k,none⟩) (Nat.le_refl _) _⟩
       case measure=>simp [intOf]<;>omega
      ·obtain rfl:k=n:=by omega
       have hown2:wr.ownsRow w.heap.size 168 1 (.slice (some ⟨w.heap.size,0,none⟩) k C) k (l2.map u64v):=hrow2
       go_wp2_with (at_builtin;refine wpList_append_fits _ rfl (.tmp 57) (.tmp 59) 157 rfl w.heap.size 168 i0 1 Tryz.underlying157 hi0 hz1 w.heap.size k C (l2.map u64v) rfl (hown2.alloc _) ⟨wr.heap.size,0,none⟩ 1 1 [.int .u64 (c:Int)] rfl rfl (cell_one_new _ _ _) ?c1 ?c2 ?_)
       case c1=>
        intro v hv
        rw [List.mem_singleton] at hv
        subst hv
        rfl
       case c2=>omega
       intro w9 hown9 hgrow9
       have hrow9:zas w9 w.heap.size w.heap.size (k+1) C (l2++[c]):=by
        unfold zas
        rw [List.map_append]
        exact hown9
       have hb8:=hbel2.alloc hbel2.size (.cells #[.int .u64 (c:Int)] 168)
       have hbel9:Below w.heap.size w w9:=hb8.grown hgrow9 hb8.size (fun j hj=>by cases hj;exact Nat.le_refl _)
       have hwf9:Wf (l2++[c]):=hwf2.append (Wf.cons hcB Wf.nil)
       have hval9:val (l2++[c])=val lw*sc+cy:=by
        have h:=hval2.out
        rw [List.take_of_length_le (l:=l2) (by rw [hrow2.len];exact Nat.le_refl _),List.take_of_length_le (l:=lw) (by rw [HLW.out];exact Nat.le_refl _)] at h
        rw [zaJ,zaM,hrow2.len,h]
       obtain ⟨t2,ht2⟩:∃ t2,t.extract pos t.size=t2:=⟨_,rfl⟩
       have ht2l:t2.data.toList=t.data.toList.drop pos:=by
        rw [←ht2,Lib.extract_data]
        first | done | exact List.take_of_length_le (by simp) | (congr 1;exact List.take_of_length_le (by simp)) | simp
       have ht2s:t2.size=t.size - pos:=by rw [←ht2];simp
       have hfin:zaf s.data.toList=val (l2++[c])*10 ^ t2.size+zaf t2.data.toList:=by
        have h:=zb8 (t.data.toList.take pos) (t.data.toList.drop pos)
        rw [List.take_append_drop,List.length_drop] at h
        rw [hv.out,h,ht2l,ht2s,hval9,HSC.out,HCY.out,HUL.out,List.take_of_length_le (l:=List.take pos t.data.toList) (by rw [List.length_take];omega),Nat.add_mul,Nat.mul_assoc,←Nat.pow_add,show pos+(t.size - pos)=t.size from by omega]
        have e:t.data.toList.length=t.size:=by simp
        rw [e]
        omega
       have HF:=Lib.hid hfin
       have HT2:=Lib.hid ht2l
       have HT3:=Lib.hid ht2s
       clear hfin ht2l ht2s hval9 hown9 hgrow9 hown2
       go_wp2_with fail
       have HT4:=Lib.hid ht2
       clear ht2
       go_roundw
       case rel=>exact ⟨t2,k+1,l2++[c],rfl,rfl,hrow9,hwf9,HF,by rw [Hid,HT2.out];exact HRD.out,by rw [HT3.out];omega,by rw [HT3.out];omega,hbel9⟩
       case measure=>simp [zqJ];rw [HT3.out];omega
  ·have hd0:t.data.toList=[]:=List.eq_nil_of_length_eq_zero (by simpa using h0)
   have hvv:val lw=zaf s.data.toList:=by
    rw [hv.out,hd0,show t.size=0 from by omega]
    simp [zaf]
   have ht:=zbS w.heap.size w.heap.size n C lw wo hrow hwf
   rw [hvv] at ht
   have HT:=Lib.hid ht
   have hz:¬ ((0:Int)<(t.size:Int)):=by omega
   clear ht hvv
   go_wp2_with fail
   refine HT.out.mono ?_
   rintro e w1 ⟨m,rfl,hr1,rfl⟩
   go_wp2_with fail
   go_ret
   exact ⟨_,m,C,rfl,hr1.nat,hbel⟩
end Go.Proofs.YtmkihdjolnlccaaGreatDoor
namespace Go.Proofs.YtmkihdjolnlccaaGreatDoor.Bn
theorem zf5:B=2 ^ 64:=by decide
theorem zdV (r:Nat) (h:r≤64):B=2 ^ r*2 ^ (64 - r):=by rw [zf5,←Nat.pow_add];congr 1;omega
theorem zqP (f r:Nat) (h:r≤64):f / 2 ^ (64 - r)=f*2 ^ r / B:=by
 rw [zdV r h,Nat.mul_comm f,Nat.mul_div_mul_left _ _ (Nat.two_pow_pos r)]
theorem zjx (f r:Nat) (h:r≤64):f*2 ^ r % B=2 ^ r*(f % 2 ^ (64 - r)):=by
 rw [zdV r h,Nat.mul_comm f,Nat.mul_mod_mul_left]
theorem zq6 (f r:Nat) (h:r≤64):f*2 ^ r % B+2 ^ r≤B:=by
 have h1:f % 2 ^ (64 - r)+1≤2 ^ (64 - r):=Nat.mod_lt _ (Nat.two_pow_pos _)
 have h2:=Nat.mul_le_mul_left (2 ^ r) h1
 rw [←zdV r h,Nat.mul_add,Nat.mul_one] at h2
 rw [zjx f r h]
 exact h2
theorem zqZ (f r:Nat) (h:r≤64) (hf:f<B):f / 2 ^ (64 - r)<2 ^ r:=by
 rw [Nat.div_lt_iff_lt_mul (Nat.two_pow_pos _),←zdV r h]
 exact hf
theorem znG (l la:List Nat) (i p r f o:Nat) (hk:i+p+1<l.length) (hr:r≤64) (hf:la.getD i 0=f) (ho:l.getD (i+p) 0=o) (hz:l.getD (i+p+1) 0=0)
  (hinv:val l=val (la.take i)*2 ^ r*B ^ p) :
  val ((l.set (i+p) (o+f*2 ^ r % B)).set (i+p+1) (f / 2 ^ (64 - r)))=val (la.take (i+1))*2 ^ r*B ^ p:=by
 have h1:=zd2 l (i+p) (o+f*2 ^ r % B) (by omega)
 have h2:=zd2 (l.set (i+p) (o+f*2 ^ r % B)) (i+p+1) (f / 2 ^ (64 - r)) (by simpa using hk)
 rw [zaz _ _ _ _ (by omega),hz,Nat.mul_zero,Nat.add_zero] at h2
 rw [ho,Nat.mul_add] at h1
 have h3:B ^ (i+p+1)*(f / 2 ^ (64 - r))+B ^ (i+p)*(f*2 ^ r % B)=B ^ (i+p)*(f*2 ^ r):=by
  rw [zqP f r hr,Nat.pow_succ,Nat.mul_assoc,←Nat.mul_add,Nat.div_add_mod]
 have h4:val (la.take (i+1))*2 ^ r*B ^ p=val (la.take i)*2 ^ r*B ^ p+B ^ (i+p)*(f*2 ^ r):=by
  rw [zag,hf,Nat.add_mul,Nat.add_mul,Nat.pow_add]
  congr 1
  rw [Nat.mul_assoc (B ^ i) f,Nat.mul_assoc (B ^ i),Nat.mul_comm (f*2 ^ r) (B ^ p),←Nat.mul_assoc]
 rw [h4,h2]
 generalize B ^ (i+p+1)*(f / 2 ^ (64 - r))=a1 at *
 generalize B ^ (i+p)*(f*2 ^ r % B)=a2 at *
 generalize B ^ (i+p)*(f*2 ^ r)=a3 at *
 generalize B ^ (i+p)*o=a4 at *
 generalize val (la.take i)*2 ^ r*B ^ p=a5 at *
 omega
theorem zqs (x s p r:Nat) (h:s=64*p+r):x*2 ^ r*B ^ p=x*2 ^ s:=by
 rw [h,zf5,←Nat.pow_mul,Nat.mul_assoc,←Nat.pow_add]
 congr 2
 omega
theorem zkm (z z' r:Nat) (hr:r<64) (hz:z<B):z / 2 ^ r+z'*2 ^ (64 - r) % B<B ∧
  (z / 2 ^ r+z'*2 ^ (64 - r) % B)*2 ^ r+z % 2 ^ r=z+B*(z' % 2 ^ r):=by
 have e:z'*2 ^ (64 - r) % B=2 ^ (64 - r)*(z' % 2 ^ r):=by
  have:=zjx z' (64 - r) (by omega)
  rwa [show 64 - (64 - r)=r from by omega] at this
 have h1:z / 2 ^ r<2 ^ (64 - r):=by
  rw [Nat.div_lt_iff_lt_mul (Nat.two_pow_pos _),Nat.mul_comm,←zdV r (by omega)];exact hz
 have h2:z' % 2 ^ r+1≤2 ^ r:=Nat.mod_lt _ (Nat.two_pow_pos _)
 have h3:=Nat.mul_le_mul_left (2 ^ (64 - r)) h2
 have h4:=zdV r (by omega)
 rw [Nat.mul_comm] at h4
 rw [←h4,Nat.mul_add,Nat.mul_one] at h3
 rw [e]
 refine ⟨by omega,?_⟩
 have h5:2 ^ (64 - r)*(z' % 2 ^ r)*2 ^ r=B*(z' % 2 ^ r):=by
  rw [h4,Nat.mul_assoc,Nat.mul_assoc,Nat.mul_comm (z' % 2 ^ r)]
 have h6:=Nat.div_add_mod z (2 ^ r)
 rw [Nat.add_mul,h5,Nat.mul_comm (z / 2 ^ r)]
 omega
theorem zom (l la:List Nat) (p k r t:Nat) (hk:k<l.length) (hr:r<64) (hw:Wf la)
  (ht:t=la.getD (p+k) 0 / 2 ^ r+la.getD (p+k+1) 0*2 ^ (64 - r) % B)
  (hinv:val (l.take k)*2 ^ r+la.getD p 0 % 2 ^ r=val ((la.drop p).take k)+B ^ k*(la.getD (p+k) 0 % 2 ^ r)) :
  val ((l.set k t).take (k+1))*2 ^ r+la.getD p 0 % 2 ^ r=val ((la.drop p).take (k+1))+B ^ (k+1)*(la.getD (p+(k+1)) 0 % 2 ^ r):=by
 have h1:=(zkm (la.getD (p+k) 0) (la.getD (p+k+1) 0) r hr (zar hw _)).2
 rw [←ht] at h1
 have hd:(la.drop p).getD k 0=la.getD (p+k) 0:=by simp [List.getD,List.getElem?_drop]
 rw [zaK l k t hk,zag,hd,Nat.add_mul,←Nat.add_assoc p k 1]
 have h2:B ^ k*t*2 ^ r+B ^ k*(la.getD (p+k) 0 % 2 ^ r)=B ^ k*la.getD (p+k) 0+B ^ (k+1)*(la.getD (p+k+1) 0 % 2 ^ r):=by
  rw [Nat.pow_succ,Nat.mul_assoc,Nat.mul_assoc,←Nat.mul_add,←Nat.mul_add,h1]
 generalize B ^ k*t*2 ^ r=a1 at *
 generalize B ^ k*(la.getD (p+k) 0 % 2 ^ r)=a2 at *
 generalize B ^ k*la.getD (p+k) 0=a3 at *
 generalize B ^ (k+1)*(la.getD (p+k+1) 0 % 2 ^ r)=a4 at *
 generalize val (l.take k)*2 ^ r=a5 at *
 omega
theorem ze8 {l:List Nat} (hw:Wf l) (p:Nat) (hp:p≤l.length):val (l.drop p)=val l / B ^ p:=by
 have h:=zav l p hp
 have h2:=za9 (hw.take p)
 rw [List.length_take,Nat.min_eq_left hp] at h2
 rw [h,Nat.add_mul_div_left _ _ (Nat.pow_pos zaA),Nat.div_eq_of_lt h2,Nat.zero_add]
theorem zpw (l la:List Nat) (x s p r m:Nat) (h:s=64*p+r) (hla:la=digs x) (hp:p≤la.length) (hm:m=la.length - p)
  (hinv:val (l.take m)*2 ^ r+la.getD p 0 % 2 ^ r=val ((la.drop p).take m)+B ^ m*(la.getD (p+m) 0 % 2 ^ r)):val (l.take m)=x / 2 ^ s:=by
 subst hla
 rw [zbr (l:=digs x) (k:=p+m) (by omega),Nat.zero_mod,Nat.mul_zero,Nat.add_zero,List.take_of_length_le (l:=(digs x).drop p) (by rw [List.length_drop];omega),ze8 (zak x) p hp,zai] at hinv
 have e:x / 2 ^ s=x / B ^ p / 2 ^ r:=by
  rw [Nat.div_div_eq_div_mul,h,zf5,←Nat.pow_mul,←Nat.pow_add]
 have hlt:=Nat.mod_lt ((digs x).getD p 0) (Nat.two_pow_pos r)
 rw [e,←hinv,Nat.mul_comm,Nat.mul_add_div (Nat.two_pow_pos r),Nat.div_eq_of_lt hlt,Nat.add_zero]
theorem zo0 (x s p:Nat) (h:64*p≤s) (hp:(digs x).length≤p):x / 2 ^ s=0:=by
 rw [Nat.div_eq_zero_iff]
 right
 have h1:=zaa x
 have h2:B ^ (digs x).length≤B ^ p:=Nat.pow_le_pow_right zaA hp
 have h3:B ^ p≤2 ^ s:=by rw [zf5,←Nat.pow_mul];exact Nat.pow_le_pow_right (by omega) h
 omega
def ntz (n:Nat):Nat:=if n=0 then 0 else if n % 2=1 then 0 else ntz (n / 2)+1
termination_by n
decreasing_by
 rename_i h _
 omega
theorem zsw (m:Nat):ntz (2*m+1)=0:=by
 rw [ntz,if_neg (by omega),if_pos (by omega)]
theorem zno {n:Nat} (h:0<n):ntz (2*n)=ntz n+1:=by
 rw [ntz,if_neg (by omega),if_neg (by omega),Nat.mul_div_cancel_left _ (by omega)]
theorem zrr (t m:Nat):ntz (2 ^ t*(2*m+1))=t:=by
 induction t with
 | zero=>rw [Nat.pow_zero,Nat.one_mul,zsw]
 | succ t ih=>
  rw [Nat.pow_succ,Nat.mul_comm (2 ^ t) 2,Nat.mul_assoc,zno (Nat.mul_pos (Nat.two_pow_pos _) (by omega)),ih]
theorem zhs {n:Nat} (h:0<n):∃ m,n=2 ^ ntz n*(2*m+1):=by
 induction n using Nat.strongRecOn with
 | ind n ih=>
  rcases Nat.mod_two_eq_zero_or_one n with h0 | h1
  ·obtain ⟨m,hm⟩:=ih (n / 2) (by omega) (by omega)
   refine ⟨m,?_⟩
   have e:n=2*(n / 2):=by omega
   have e2:ntz n=ntz (n / 2)+1:=by rw [e,zno (by omega)];congr 2;omega
   rw [e2,Nat.pow_succ,Nat.mul_comm (2 ^ _) 2,Nat.mul_assoc,←hm]
   omega
  ·refine ⟨n / 2,?_⟩
   have e:ntz n=0:=by rw [ntz,if_neg (by omega),if_pos h1]
   rw [e]
   omega
def zaU (n:Nat):Nat:=if n=0 then 0 else Nat.log2 n+1
theorem zpm {n k:Nat} (h1:2 ^ k≤n) (h2:n<2 ^ (k+1)):zaU n=k+1:=by
 have hn:n≠0:=by have:=Nat.two_pow_pos k;omega
 rw [zaU,if_neg hn]
 congr 1
 have a:=Nat.log2_self_le hn
 have b:=Nat.lt_log2_self (n:=n)
 have c:¬ k+1≤n.log2:=fun hh=>by have:=Nat.pow_le_pow_right (n:=2) (by omega) hh;omega
 have d:¬ n.log2+1≤k:=fun hh=>by have:=Nat.pow_le_pow_right (n:=2) (by omega) hh;omega
 omega
theorem zhx (n:Nat):n<2 ^ zaU n:=by
 by_cases h:n=0
 ·subst h;simp [zaU]
 ·rw [zaU,if_neg h];exact Nat.lt_log2_self
theorem zh3 {n:Nat} (h:0<n):2 ^ (zaU n - 1)≤n:=by
 rw [zaU,if_neg (by omega),Nat.add_sub_cancel];exact Nat.log2_self_le (by omega)
theorem zi6 {n:Nat} (h:0<n):0<zaU n:=by rw [zaU,if_neg (by omega)];omega
theorem zc7 {l:List Nat}:∀ (i:Nat),(∀ j,j<i→l.getD j 0=0)→val (l.take i)=0
 | 0,_=>by simp
 | i+1,h=>by rw [zag,zc7 i (fun j hj=>h j (by omega)),h i (by omega),Nat.mul_zero]
theorem zp0 {x:Nat} (hx:0<x) (i:Nat) (hi:i<(digs x).length) (hz:∀ j,j<i→(digs x).getD j 0=0) (h0:(digs x).getD i 0=0):i+1<(digs x).length:=by
 rcases Nat.lt_or_ge (i+1) (digs x).length with h | h
 ·exact h
 ·exfalso
  have e:=zc7 (l:=digs x) (i+1) (fun j hj=>by
   rcases Nat.lt_or_ge j i with h1 | h1
   ·exact hz j h1
   ·obtain rfl:j=i:=by omega
    exact h0)
  rw [List.take_of_length_le h,zai] at e
  omega
theorem zqU {x:Nat} (i:Nat) (hi:i<(digs x).length):x=val ((digs x).take i)+B ^ i*((digs x).getD i 0+B*val ((digs x).drop (i+1))):=by
 have h:=zav (digs x) i (by omega)
 rw [zai,List.drop_eq_getElem_cons hi,val_cons,←getD_in hi] at h
 exact h
theorem zmY {x:Nat} (hx:0<x) (i:Nat) (hi:i<(digs x).length) (hz:∀ j,j<i→(digs x).getD j 0=0) (z m c:Nat) (hg:(digs x).getD i 0=z) (hm:z=2 ^ c*(2*m+1)) (hc:c<64) :
  ntz x=64*i+c:=by
 have _:=hx
 have h:=zqU i hi
 rw [zc7 i hz,Nat.zero_add,hg,hm] at h
 generalize val ((digs x).drop (i+1))=y at h
 have e:2 ^ c*(2*m+1)+B*y=2 ^ c*(2*(m+2 ^ (63 - c)*y)+1):=by
  have hb:B=2 ^ c*(2*2 ^ (63 - c)):=by
   rw [zf5,←Nat.pow_succ',←Nat.pow_add]
   congr 1
   omega
  rw [hb,Nat.mul_assoc,←Nat.mul_add,Nat.mul_add 2 m,Nat.mul_assoc 2]
  congr 1
  omega
 rw [e,zf5,←Nat.pow_mul,←Nat.mul_assoc,←Nat.pow_add] at h
 rw [h,zrr]
theorem zf7 {x:Nat} (hx:0<x) (i:Nat) (hi:i+1=(digs x).length) (z b:Nat) (hg:(digs x).getD i 0=z) (hb:1≤b) (h1:2 ^ (b - 1)≤z) (h2:z<2 ^ b) :
  zaU x=64*i+b:=by
 have _:=hx
 have h:=zqU (x:=x) i (by omega)
 rw [hg,List.drop_of_length_le (by omega),val_nil,Nat.mul_zero,Nat.add_zero] at h
 have h3:=za9 ((zak x).take i)
 rw [List.length_take,Nat.min_eq_left (by omega)] at h3
 generalize val ((digs x).take i)=y at *
 have h4:B ^ i*z+B ^ i≤B ^ i*2 ^ b:=by
  have:=Nat.mul_le_mul_left (B ^ i) h2
  rwa [Nat.mul_succ] at this
 have h5:=Nat.mul_le_mul_left (B ^ i) h1
 have e:B ^ i=2 ^ (64*i):=by rw [zf5,←Nat.pow_mul]
 rw [e,←Nat.pow_add] at h4 h5
 rw [e] at h h3
 rw [show 64*i+b=64*i+b - 1+1 from by omega]
 apply zpm
 ·rw [show 64*i+b - 1=64*i+(b - 1) from by omega];omega
 ·rw [show 64*i+b - 1+1=64*i+b from by omega];omega
end Go.Proofs.YtmkihdjolnlccaaGreatDoor.Bn
