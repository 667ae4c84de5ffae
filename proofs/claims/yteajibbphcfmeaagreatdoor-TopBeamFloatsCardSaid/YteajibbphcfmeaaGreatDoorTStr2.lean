/- Contract of parsed: the natural number with these decimal digits. -/
import Derived.Test.YteajibbphcfmeaaGreatDoorTRng2
import Derived.Test.YteajibbphcfmeaaGreatDoorTNat4
namespace Go.Proofs.YteajibbphcfmeaaGreatDoor
open Go.RowKit Bn
def decVal (l:List UInt8):Nat:=l.foldl (fun a c=>a*10+(c.toNat - 48)) 0
theorem decVal_from (l:List UInt8) (a:Nat):l.foldl (fun a c=>a*10+(c.toNat - 48)) a=a*10 ^ l.length+decVal l:=by
 unfold decVal
 induction l generalizing a with
 | nil=>simp
 | cons c l ih=>
  rw [List.foldl_cons,List.foldl_cons,ih,ih (0*10+(c.toNat - 48)),List.length_cons,Nat.pow_succ,Nat.zero_mul,Nat.zero_add,Nat.add_mul,Nat.mul_assoc,Nat.mul_comm 10 (10 ^ l.length),Nat.add_assoc]
theorem decVal_append (a b:List UInt8):decVal (a++b)=decVal a*10 ^ b.length+decVal b:=by
 show (a++b).foldl _ 0=_
 rw [List.foldl_append,decVal_from]
 rfl
theorem decVal_snoc (a:List UInt8) (c:UInt8):decVal (a++[c])=decVal a*10+(c.toNat - 48):=by
 rw [decVal_append]
 simp [decVal]
theorem decVal_cons (c:UInt8) (l:List UInt8):decVal (c :: l)=(c.toNat - 48)*10 ^ l.length+decVal l:=by
 have h:=decVal_append [c] l
 rw [List.singleton_append] at h
 rw [h]
 simp [decVal]
theorem decVal_lt (l:List UInt8) (h:digits l=true):decVal l<10 ^ l.length:=by
 induction l with
 | nil=>simp [decVal]
 | cons c l ih=>
  have e:digits (c :: l)=(digB (c.toNat:Int) && digits l):=rfl
  rw [e,Bool.and_eq_true] at h
  have h1:=ih h.2
  have h2:=h.1
  unfold digB at h2
  simp only [Bool.and_eq_true,decide_eq_true_eq] at h2
  rw [decVal_cons,List.length_cons,Nat.pow_succ]
  have h3:(c.toNat - 48)*10 ^ l.length≤9*10 ^ l.length:=Nat.mul_le_mul_right _ (by omega)
  omega
theorem parse_round (l' l:List Nat) (k p c0 s c r:Nat) (hk:k<l'.length) (hinv:val (l'.take k)+B ^ k*c=val (l.take k)*s+c0)
  (h:r+B*p=l.getD k 0*s+c):val ((l'.set k r).take (k+1))+B ^ (k+1)*p=val (l.take (k+1))*s+c0:=by
 rw [val_take_set l' k r hk,val_take_getD l,Nat.pow_succ,Nat.mul_assoc,Nat.add_mul,Nat.mul_assoc]
 have h3:B ^ k*r+B ^ k*(B*p)=B ^ k*(l.getD k 0*s)+B ^ k*c:=by rw [←Nat.mul_add,h,Nat.mul_add]
 omega
theorem digits_append (a b:List UInt8):digits (a++b)=(digits a && digits b):=by unfold digits;rw [List.all_append]
theorem chunk_bound (l:List UInt8) (k:Nat) (hk:k≤19) (hd:digits l=true):decVal (l.take k)<10000000000000000000∧10 ^ k≤10000000000000000000:=by
 have h1:digits (l.take k)=true:=by
  have h:digits (l.take k++l.drop k)=true:=by rw [List.take_append_drop];exact hd
  rw [digits_append,Bool.and_eq_true] at h
  exact h.1
 have h2:=decVal_lt _ h1
 have h3:10 ^ (l.take k).length≤10 ^ 19:=Nat.pow_le_pow_right (by omega) (by rw [List.length_take];omega)
 have h4:10 ^ k≤10 ^ 19:=Nat.pow_le_pow_right (by omega) hk
 have e:10 ^ 19=10000000000000000000:=by decide
 omega
def strSz:Value→Nat | .string t=>t.size | _=>0
set_option maxHeartbeats 4000000 in
set_option maxRecDepth 100000 in
theorem parsed_any (s:ByteArray) (w:World) (hd:digits s.data.toList=true) (hs:s.size≤4294967296) :
  Calls Tryz.prog 125 #[.string s] w (RetNat w (decVal s.data.toList)):=by
 obtain ⟨i0,hi0,hz0,hz1,hz2⟩:=info_parts info_u64
 go_enter Tryz.func125,Tryz.ntmps125
 obtain ⟨C,hC⟩:∃ C,C=s.size / 19+1:=⟨_,rfl⟩
 have eC:(s.size:Int) / 19+1=(C:Int):=by omega
 have hCb:C≤4294967297:=by omega
 have HC:=Lib.hid hC
 clear hC
 go_wp2_with (at_make;refine wpList_make_own _ rfl _ _ 89 rfl w.heap.size 120 i0 (.int .u64 0) 1 Tryz.underlying89 hi0 hz0 hz1 _ _ _ C rfl rfl (by omega) ?b2 ?b3 (Nat.le_refl _) ?_)
 case b2=>rw [hz2];omega
 case b3=>unfold maxLen;omega
 intro w0 hown0 hgrow0
 have hbel0:Below w.heap.size w w0:=(Below.refl _ _).grown hgrow0 (Nat.le_refl _) (fun k h=>by cases h)
 have hrow0:RowAt w0 w.heap.size w.heap.size 0 C []:=hown0
 clear hown0 hgrow0 eC
 go_wp2_with fail
 go_loopw [0,3] (fun sd sa wr=>∃ (t:ByteArray) (n:Nat) (lw:List Nat),sd = .string t∧sa = .slice (some ⟨w.heap.size,0,none⟩) n C∧RowAt wr w.heap.size w.heap.size n C lw∧Wf lw∧Hid (decVal s.data.toList=val lw*10 ^ t.size+decVal t.data.toList)∧Hid (digits t.data.toList=true)∧t.size≤s.size∧n+(t.size+18) / 19≤C∧Below w.heap.size w wr) (fun sd _ _=>strSz sd)
 case atStart=>exact ⟨s,0,[],rfl,rfl,hrow0,Wf.nil,by simp [Hid],hd,Nat.le_refl _,by have:=HC.out;omega,hbel0⟩
 case round=>
  obtain ⟨t,n,lw,rfl,rfl,hrow,hwf,hv,hdt,htl,hnC,hbel⟩:=hrel
  obtain ⟨wo,rfl⟩:∃ wo:World,wo=wr:=⟨_,rfl⟩
  by_cases h0:0<t.size
  ·obtain ⟨r,hr⟩:∃ r,r=(t.size - 1) % 19+1:=⟨_,rfl⟩
   have hr1:1≤r:=by omega
   have hr19:r≤19:=by omega
   have hrt:r≤t.size:=by omega
   have er:((t.size:Int) - 1) % 19+1=(r:Int):=by omega
   have hrC:n+1+(t.size - r+18) / 19≤C:=by omega
   have HR:=Lib.hid hr
   clear hr hnC
   obtain ⟨u,hu⟩:∃ u,t.extract 0 r=u:=⟨_,rfl⟩
   have hul:u.data.toList=t.data.toList.take r:=by rw [←hu,Lib.extract_data];simp
   have hus:u.size=r:=by rw [←hu];simp;omega
   have hud:digits u.data.toList=true:=by
    have h:digits (t.data.toList.take r++t.data.toList.drop r)=true:=by rw [List.take_append_drop];exact hdt.out
    rw [digits_append,Bool.and_eq_true] at h
    rw [hul];exact h.1
   have hrd:digits (t.data.toList.drop r)=true:=by
    have h:digits (t.data.toList.take r++t.data.toList.drop r)=true:=by rw [List.take_append_drop];exact hdt.out
    rw [digits_append,Bool.and_eq_true] at h
    exact h.2
   have HUL:=Lib.hid hul
   have HUD:=Lib.hid hud
   have HRD:=Lib.hid hrd
   have HUS:=Lib.hid hus
   clear hul hud hrd hus
   go_wp2_with fail
   have HUE:=Lib.hid hu
   clear hu er
   go_loopw [5,6] (fun ss sy wi=>∃ pos sc cy:Nat,wi=wo.iter u pos∧pos≤r∧ss = .int .u64 (sc:Int)∧sy = .int .u64 (cy:Int)∧sc=10 ^ pos∧cy=decVal (u.data.toList.take pos)) (fun _ _ wi=>r - wi.iterPos wo.heap.size)
   case atStart=>exact ⟨0,1,0,rfl,Nat.zero_le _,rfl,rfl,rfl,rfl⟩
   case round=>
    obtain ⟨pos,sc,cy,rfl,hpr,rfl,rfl,hsc,hcy⟩:=hrel
    have HSC:=Lib.hid hsc
    have HCY:=Lib.hid hcy
    clear hsc hcy
    by_cases hp:pos<r
    ·have hp':pos<u.size:=by rw [HUS.out];exact hp
     have hsp:=digits_split u pos hp'
     obtain ⟨c,hc⟩:∃ c:Nat,(u[pos]'hp').toNat=c:=⟨_,rfl⟩
     have hcd:48≤c∧c≤57:=by
      have h:digits (u.data.toList.take pos++u.data.toList.drop pos)=true:=by rw [List.take_append_drop];exact HUD.out
      rw [digits_append,Bool.and_eq_true] at h
      have h2:=h.2
      rw [hsp,Bool.and_eq_true,hc] at h2
      have h3:=h2.1
      unfold digB at h3
      simp only [Bool.and_eq_true,decide_eq_true_eq] at h3
      omega
     have ha:(u[pos]'hp').toNat<128:=by omega
     have hnx:∀ ty,(Instr.next (.pointer (some ⟨wo.heap.size,0,none⟩)) true ty).run Tryz.prog (wo.iter u pos)=_:=fun ty=>run_next_ascii wo u pos ty hp' ha
     simp only [hc] at hnx
     obtain ⟨k1,k2⟩:=chunk_bound u.data.toList (pos+1) (by omega) HUD.out
     have hcy2:decVal (u.data.toList.take (pos+1))=cy*10+(c - 48):=by
      have hl:pos<u.data.toList.length:=by simpa using hp'
      rw [List.take_succ_eq_append_getElem hl,decVal_snoc,←HCY.out,←hc]
      rfl
     have hsc2:10 ^ (pos+1)=sc*10:=by rw [Nat.pow_succ,HSC.out]
     rw [hcy2] at k1
     rw [hsc2] at k2
     have HA:=Lib.hid hcy2
     have HB:=Lib.hid hsc2
     have hc48:=hcd.1
     have hc57:=hcd.2
     clear hcy2 hsc2 hsp hc ha hcd
     go_wp2_with fail
     go_roundw
     case rel=>exact ⟨pos+1,sc*10,cy*10+(c - 48),rfl,hp,by first | rfl | (congr 1;omega),by first | rfl | (congr 1;omega),HB.out.symm,HA.out.symm⟩
     case measure=>simp;omega
    ·obtain rfl:pos=r:=by omega
     have hnx:∀ ty,(Instr.next (.pointer (some ⟨wo.heap.size,0,none⟩)) true ty).run Tryz.prog (wo.iter u pos)=_:=fun ty=>run_next_end wo u pos ty (by rw [HUS.out];omega)
     go_wp2_with fail
     have hscB:sc<18446744073709551616:=by
      have:=(chunk_bound u.data.toList pos (by omega) HUD.out).2
      rw [HSC.out];omega
     have hcyB:cy<18446744073709551616:=by
      have:=(chunk_bound u.data.toList pos (by omega) HUD.out).1
      rw [HCY.out];omega
     have hrow1:RowAt (wo.iter u pos) w.heap.size w.heap.size n C lw:=hrow.alloc _
     have hbel1:Below w.heap.size w (wo.iter u pos):=hbel.alloc hbel.size _
     go_loopw [6,41] (fun scy sl we=>∃ k c:Nat,k≤n∧c<18446744073709551616∧sl = .int .i64 k∧scy = .int .u64 c∧∃ l2,RowAt we w.heap.size w.heap.size n C l2∧Wf l2∧Hid (val (l2.take k)+B ^ k*c=val (lw.take k)*sc+cy)∧Hid (∀ j,k≤j→l2.getD j 0=lw.getD j 0)∧Below w.heap.size w we) (fun _ sl _=>n - (intOf sl).toNat)
     case atStart=>exact ⟨0,cy,Nat.zero_le _,hcyB,rfl,rfl,lw,hrow1,hwf,by simp [Hid],fun j _=>rfl,hbel1⟩
     case round=>
      have HLW:=Lib.hid hrow.len
      clear hrow1 hbel1 hnx hrow hbel
      obtain ⟨k,c,hk,hcB,rfl,rfl,l2,hrow2,hwf2,hval2,hsm2,hbel2⟩:=hrel
      by_cases hkn:k<n
      ·have hcs:=hrow2.cell k hkn
       have hfs:=hrow2.free k
       have hzB:=getD_lt hwf2 k
       obtain ⟨z,gz⟩:∃ z,l2.getD k 0=z:=⟨_,rfl⟩
       rw [gz] at hcs hzB
       obtain ⟨lo,hi,hm,hlo,hhi,hcall⟩:=timesPlus_any z sc c 0 hzB hscB hcB (by omega)
       replace hcall:∀ w:World,Calls Tryz.prog 156 #[.int .u64 z,.int .u64 sc,.int .u64 c,.int .u64 0] w fun e w'=>e = .returned (.tuple #[.int .u64 (lo:Int),.int .u64 (hi:Int)])∧w=w':=hcall
       have HP:Hid (val ((l2.set k lo).take (k+1))+B ^ (k+1)*hi=val (lw.take (k+1))*sc+cy):=
        parse_round l2 lw k hi cy sc c lo (by rw [hrow2.len];exact hkn) hval2.out (by rw [←hsm2.out k (Nat.le_refl _),gz];exact hm)
       have HS3:Hid (∀ j,k+1≤j→(l2.set k lo).getD j 0=lw.getD j 0):=fun j hj=>by
        rw [lgetD_set_ne _ _ _ _ (by omega)]
        exact hsm2.out j (by omega)
       clear hm gz
       go_wp2_with fail
       refine (hcall _).mono ?_
       rintro e w' ⟨rfl,rfl⟩
       go_wp2
       go_roundw
       case rel=>exact ⟨k+1,hi,hkn,hhi,by go_num,rfl,_,hrow2.set k lo,hwf2.set _ hlo,HP,HS3,hbel2.setCell (p:=⟨w.heap.size,k,none⟩) (Nat.le_refl _) _⟩
       case measure=>simp [intOf]<;>omega
      ·obtain rfl:k=n:=by omega
       have hown2:wr.ownsRow w.heap.size 120 1 (.slice (some ⟨w.heap.size,0,none⟩) k C) k (l2.map u64v):=hrow2
       go_wp2_with (at_builtin;refine wpList_append_fits _ rfl (.tmp 57) (.tmp 59) 89 rfl w.heap.size 120 i0 1 Tryz.underlying89 hi0 hz1 w.heap.size k C (l2.map u64v) rfl (hown2.alloc _) ⟨wr.heap.size,0,none⟩ 1 1 [.int .u64 (c:Int)] rfl rfl (cell_one_new _ _ _) ?c1 ?c2 ?_)
       case c1=>
        intro v hv
        rw [List.mem_singleton] at hv
        subst hv
        rfl
       case c2=>omega
       intro w9 hown9 hgrow9
       have hrow9:RowAt w9 w.heap.size w.heap.size (k+1) C (l2++[c]):=by
        unfold RowAt
        rw [List.map_append]
        exact hown9
       have hb8:=hbel2.alloc hbel2.size (.cells #[.int .u64 (c:Int)] 120)
       have hbel9:Below w.heap.size w w9:=hb8.grown hgrow9 hb8.size (fun j hj=>by cases hj;exact Nat.le_refl _)
       have hwf9:Wf (l2++[c]):=hwf2.append (Wf.cons hcB Wf.nil)
       have hval9:val (l2++[c])=val lw*sc+cy:=by
        have h:=hval2.out
        rw [List.take_of_length_le (l:=l2) (by rw [hrow2.len];exact Nat.le_refl _),List.take_of_length_le (l:=lw) (by rw [HLW.out];exact Nat.le_refl _)] at h
        rw [val_append,val_single,hrow2.len,h]
       obtain ⟨t2,ht2⟩:∃ t2,t.extract pos t.size=t2:=⟨_,rfl⟩
       have ht2l:t2.data.toList=t.data.toList.drop pos:=by
        rw [←ht2,Lib.extract_data]
        first | done | exact List.take_of_length_le (by simp) | (congr 1;exact List.take_of_length_le (by simp)) | simp
       have ht2s:t2.size=t.size - pos:=by rw [←ht2];simp
       have hfin:decVal s.data.toList=val (l2++[c])*10 ^ t2.size+decVal t2.data.toList:=by
        have h:=decVal_append (t.data.toList.take pos) (t.data.toList.drop pos)
        rw [List.take_append_drop,List.length_drop] at h
        rw [hv.out,h,ht2l,ht2s,hval9,HSC.out,HCY.out,HUL.out,List.take_of_length_le (l:=List.take pos t.data.toList) (by rw [List.length_take];omega),Nat.add_mul,Nat.mul_assoc,←Nat.pow_add,show pos+(t.size - pos)=t.size from by omega]
        have e:t.data.toList.length=t.size:=by simp
        rw [e]
        omega
       have HF:=Lib.hid hfin
       have HT2:=Lib.hid ht2l
       have HT3:=Lib.hid ht2s
       clear hfin ht2l ht2s hval9 hown9 hgrow9 hown2
       go_wp2_with fail
       have HT4:=Lib.hid ht2
       clear ht2
       go_roundw
       case rel=>exact ⟨t2,k+1,l2++[c],rfl,rfl,hrow9,hwf9,HF,by rw [Hid,HT2.out];exact HRD.out,by rw [HT3.out];omega,by rw [HT3.out];omega,hbel9⟩
       case measure=>simp [strSz];rw [HT3.out];omega
  ·have hd0:t.data.toList=[]:=List.eq_nil_of_length_eq_zero (by simpa using h0)
   have hvv:val lw=decVal s.data.toList:=by
    rw [hv.out,hd0,show t.size=0 from by omega]
    simp [decVal]
   have ht:=trimmed_row w.heap.size w.heap.size n C lw wo hrow hwf
   rw [hvv] at ht
   have HT:=Lib.hid ht
   have hz:¬ ((0:Int)<(t.size:Int)):=by omega
   clear ht hvv
   go_wp2_with fail
   refine HT.out.mono ?_
   rintro e w1 ⟨m,rfl,hr1,rfl⟩
   go_wp2_with fail
   go_ret
   exact ⟨_,m,C,rfl,hr1.nat,hbel⟩
end Go.Proofs.YteajibbphcfmeaaGreatDoor
