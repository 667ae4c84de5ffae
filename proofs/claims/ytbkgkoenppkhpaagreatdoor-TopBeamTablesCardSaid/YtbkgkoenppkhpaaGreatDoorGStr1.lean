/- Contracts of isDigit, isLetter, isDecimal. -/
import Derived.Test.YtbkgkoenppkhpaaGreatDoorGWords
import Derived.Laws.RangeAny
import Derived.Test.YtbkgkoenppkhpaaGreatDoorGNat3
set_option maxRecDepth 100000
set_option maxHeartbeats 4000000
namespace Go.Proofs.YtbkgkoenppkhpaaGreatDoor
section
open Go.RowKit
def digB (c:Int):Bool:=decide (48≤c) && decide (c≤57)
theorem zfv (c:Int) (w:World) :
  Calls Tryz.prog 181 #[.int .i32 c] w fun e w'=>e = .returned (.bool (digB c))∧w=w':=by
 by_cases h1:48≤c
 ·have d1:decide (48≤c)=true:=by simpa using h1
  obtain ⟨b,hb⟩:∃ b,decide (c≤57)=b:=⟨_,rfl⟩;have HV:Hid (digB c=b):=by unfold Hid digB;rw [d1,hb,Bool.true_and]
  go_enter Tryz.func181,Tryz.ntmps181
  go_wp2
  go_ret;exact ⟨by rw [HV.out];rfl,rfl⟩
 ·have d1:decide (48≤c)=false:=by simpa using h1
  have HV:Hid (digB c=false):=by unfold Hid digB;rw [d1,Bool.false_and]
  go_enter Tryz.func181,Tryz.ntmps181
  go_wp2
  go_ret;exact ⟨by rw [HV.out];rfl,rfl⟩
def zaq (l:List UInt8):Bool:=l.all fun c=>digB (c.toNat:Int)
def zax (l:List UInt8):Bool:=zaq l && (decide (l=[48]) || (decide (l≠[]) && decide (l.head? ≠ some 48)))
theorem zo3 (s:ByteArray) (pos:Nat) (h:pos<s.size):1≤(Utf8.decode s pos).2:=by
 by_cases ha:(s[pos]'h).toNat<128
 ·rw [decode_ascii s pos h ha]
  exact Nat.le_refl _
 ·exact (decode_high s pos h (by omega)).2
theorem zds (s:ByteArray) (pos:Nat) (h:pos<s.size):zaq (s.data.toList.drop pos)=(digB ((s[pos]'h).toNat:Int) && zaq (s.data.toList.drop (pos+1))):=by
 have hl:pos<s.data.toList.length:=by simpa using h
 rw [List.drop_eq_getElem_cons hl];rfl
theorem zht (c:Int) (h:128≤c):digB c=false:=by
 unfold digB;have:decide (c≤57)=false:=by simp;omega
 rw [this,Bool.and_false]
theorem zal (s:ByteArray) (w:World) :
  Calls Tryz.prog 125 #[.string s] w fun e w'=>e = .returned (.bool (zax s.data.toList))∧Below w.heap.size w w':=by
 go_enter Tryz.func125,Tryz.ntmps125
 go_wp2
 go_loopw [] (fun wr=>∃ aC,wr=w.iter s aC∧aC≤s.size∧Hid (zaq s.data.toList=zaq (s.data.toList.drop aC))) (fun wr=>s.size - wr.iterPos w.heap.size)
 case atStart=>exact ⟨0,rfl,Nat.zero_le _,rfl⟩
 case round=>
  obtain ⟨aC,rfl,aI,hd⟩:=hrel
  by_cases hp:aC<s.size
  ·have aD:=zds s aC hp
   by_cases ha:(s[aC]'hp).toNat<128
   ·have aE:∀ ty,(Instr.next (.pointer (some ⟨w.heap.size,0,none⟩)) true ty).run Tryz.prog (w.iter s aC)=_:=fun ty=>run_next_ascii w s aC ty hp ha
    obtain ⟨c,hc⟩:∃ c:Nat,(s[aC]'hp).toNat=c:=⟨_,rfl⟩;rw [hc] at aD ha;simp only [hc] at aE
    have aA:=zfv (c:Int) (w.iter s (aC+1))
    cases hdg:digB (c:Int)
    ·rw [hdg] at aA aD
     have HV:Hid (zax s.data.toList=false):=by rw [Hid,zax,hd.out,aD];rfl
     clear aD hc hdg
     go_wp2_with fail
     refine aA.mono ?_;rintro e w1 ⟨rfl,rfl⟩
     go_wp2_with fail
     go_ret;exact ⟨by rw [HV.out];rfl,(Below.refl _ _).alloc (Nat.le_refl _) _⟩
    ·rw [hdg] at aA aD
     have HV:Hid (zaq s.data.toList=zaq (s.data.toList.drop (aC+1))):=by rw [Hid,hd.out,aD];rfl
     clear aD hc hdg
     go_wp2_with fail
     refine aA.mono ?_;rintro e w1 ⟨rfl,rfl⟩
     go_wp2_with fail
     go_roundw
     case rel=>exact ⟨aC+1,rfl,hp,HV⟩
     case measure=>simp;omega
   ·have aE:∀ ty,(Instr.next (.pointer (some ⟨w.heap.size,0,none⟩)) true ty).run Tryz.prog (w.iter s aC)=_:=fun ty=>run_next_any w s aC ty hp
    have aG:=(decode_high s aC hp (by omega)).1;obtain ⟨c,hc⟩:∃ c,(Utf8.decode s aC).1=c:=⟨_,rfl⟩;obtain ⟨p2,aF⟩:∃ p2,aC+(Utf8.decode s aC).2=p2:=⟨_,rfl⟩;simp only [hc,aF] at aE
    rw [hc] at aG;have aA:=zfv (c:Int) (w.iter s p2);rw [zht (c:Int) (by omega)] at aA;rw [zht _ (show (128:Int)≤((s[aC]'hp).toNat:Int) by omega)] at aD;have HV:Hid (zax s.data.toList=false):=by rw [Hid,zax,hd.out,aD];rfl
    clear aD hc aF ha
    go_wp2_with fail
    refine aA.mono ?_;rintro e w1 ⟨rfl,rfl⟩
    go_wp2_with fail
    go_ret;exact ⟨by rw [HV.out];rfl,(Below.refl _ _).alloc (Nat.le_refl _) _⟩
  ·have aE:∀ ty,(Instr.next (.pointer (some ⟨w.heap.size,0,none⟩)) true ty).run Tryz.prog (w.iter s aC)=_:=fun ty=>run_next_end w s aC ty hp
   have HD:Hid (zaq s.data.toList=true):=by rw [Hid,hd.out,List.drop_of_length_le (by simpa using hp)];rfl
   by_cases hA:s.toList=[48]
   ·have HV:Hid (zax s.data.toList=true):=by rw [Hid,zax,HD.out,←ByteArray.toList_eq,hA];rfl
    go_wp2
    go_ret;exact ⟨by rw [HV.out];rfl,(Below.refl _ _).alloc (Nat.le_refl _) _⟩
   ·by_cases hB:s.toList=[]
    ·have HV:Hid (zax s.data.toList=false):=by rw [Hid,zax,HD.out,←ByteArray.toList_eq,hB];rfl
     go_wp2
     go_ret;exact ⟨by rw [HV.out];rfl,(Below.refl _ _).alloc (Nat.le_refl _) _⟩
    ·have hz:0<s.size:=by
      rcases Nat.eq_zero_or_pos s.size with h | h
      ·exfalso
       apply hB
       rw [ByteArray.toList_eq];exact List.eq_nil_of_length_eq_zero (by simpa using h)
      ·exact h
     have aH:s.toList.isEmpty=false:=by
      cases h:s.toList with
      | nil=>exact absurd h hB
      | cons _ _=>rfl
     have aJ:(s.toList==[48])=false:=by simpa using hA
     obtain ⟨b,hb⟩:∃ b,((((s[0]'hz).toNat:Nat):Int) != 48)=b:=⟨_,rfl⟩;have HV:Hid (zax s.data.toList=b):=by
      rw [Hid,zax,HD.out,←hb];have e:s.data.toList.head? = some (s[0]'hz):=by
       have hl:0<s.data.toList.length:=by simpa using hz
       rw [List.head?_eq_getElem?,List.getElem?_eq_getElem hl];rfl
      rw [←ByteArray.toList_eq] at e ⊢;rw [e];rw [Bool.eq_iff_iff];simp [hA,hB]
      rw [←UInt8.toNat_inj];simp
      omega
     go_wp2
     go_ret;exact ⟨by rw [HV.out];rfl,(Below.refl _ _).alloc (Nat.le_refl _) _⟩
end
section
open Go.RowKit Bn
def zah (l:List UInt8):Nat:=l.foldl (fun a c=>a*10+(c.toNat - 48)) 0
theorem zil (l:List UInt8) (a:Nat):l.foldl (fun a c=>a*10+(c.toNat - 48)) a=a*10 ^ l.length+zah l:=by
 unfold zah
 induction l generalizing a with
 | nil=>simp
 | cons c l ih=>
  rw [List.foldl_cons,List.foldl_cons,ih,ih (0*10+(c.toNat - 48)),List.length_cons,Nat.pow_succ,Nat.zero_mul,Nat.zero_add,Nat.add_mul,Nat.mul_assoc,Nat.mul_comm 10 (10 ^ l.length),Nat.add_assoc]
theorem zce (a b:List UInt8):zah (a++b)=zah a*10 ^ b.length+zah b:=by
 show (a++b).foldl _ 0=_
 rw [List.foldl_append,zil];rfl
theorem zdc (a:List UInt8) (c:UInt8):zah (a++[c])=zah a*10+(c.toNat - 48):=by
 rw [zce];simp [zah]
theorem zgc (c:UInt8) (l:List UInt8):zah (c :: l)=(c.toNat - 48)*10 ^ l.length+zah l:=by
 have h:=zce [c] l;rw [List.singleton_append] at h;rw [h];simp [zah]
theorem zbu (l:List UInt8) (h:zaq l=true):zah l<10 ^ l.length:=by
 induction l with
 | nil=>simp [zah]
 | cons c l ih=>
  have e:zaq (c :: l)=(digB (c.toNat:Int) && zaq l):=rfl;rw [e,Bool.and_eq_true] at h;have h1:=ih h.2;have h2:=h.1;unfold digB at h2;simp only [Bool.and_eq_true,decide_eq_true_eq] at h2
  rw [zgc,List.length_cons,Nat.pow_succ];have h3:(c.toNat - 48)*10 ^ l.length≤9*10 ^ l.length:=Nat.mul_le_mul_right _ (by omega);omega
theorem ziS (l' l:List Nat) (k p c0 s c r:Nat) (hk:k<l'.length) (hinv:val (l'.take k)+B ^ k*c=val (l.take k)*s+c0)
  (h:r+B*p=l.getD k 0*s+c):val ((l'.set k r).take (k+1))+B ^ (k+1)*p=val (l.take (k+1))*s+c0:=by
 rw [zaF l' k r hk,zaf l,Nat.pow_succ,Nat.mul_assoc,Nat.add_mul,Nat.mul_assoc];have h3:B ^ k*r+B ^ k*(B*p)=B ^ k*(l.getD k 0*s)+B ^ k*c:=by rw [←Nat.mul_add,h,Nat.mul_add]
 omega
theorem zby (a b:List UInt8):zaq (a++b)=(zaq a && zaq b):=by unfold zaq;rw [List.all_append]
theorem zeh (l:List UInt8) (k:Nat) (hk:k≤19) (hd:zaq l=true):zah (l.take k)<10000000000000000000∧10 ^ k≤10000000000000000000:=by
 have h1:zaq (l.take k)=true:=by
  have h:zaq (l.take k++l.drop k)=true:=by rw [List.take_append_drop];exact hd
  rw [zby,Bool.and_eq_true] at h;exact h.1
 have h2:=zbu _ h1;have h3:10 ^ (l.take k).length≤10 ^ 19:=Nat.pow_le_pow_right (by omega) (by rw [List.length_take];omega);have h4:10 ^ k≤10 ^ 19:=Nat.pow_le_pow_right (by omega) hk;have e:10 ^ 19=10000000000000000000:=by decide
 omega
def znc:Value→Nat | .string t=>t.size | _=>0
theorem zaS (s:ByteArray) (w:World) (hd:zaq s.data.toList=true) (hs:s.size≤4294967296) :
  Calls Tryz.prog 126 #[.string s] w (zb9 w (zah s.data.toList)):=by
 obtain ⟨i0,bR,cN,bU,cG⟩:=info_parts zca;go_enter Tryz.func126,Tryz.ntmps126
 obtain ⟨C,hC⟩:∃ C,C=s.size / 19+1:=⟨_,rfl⟩;have eC:(s.size:Int) / 19+1=(C:Int):=by omega
 have cZ:C≤4294967297:=by omega
 have HC:=Aa hC;clear hC
 go_wp2_with (at_make;refine wpList_make_own _ rfl _ _ 85 rfl w.heap.size 116 i0 (.int .u64 0) 1 Tryz.underlying85 bR cN bU _ _ _ C rfl rfl (by omega) ?b2 ?b3 (Nat.le_refl _) ?_)
 case b2=>rw [cG];omega
 case b3=>unfold maxLen;omega
 intro w0 aL aG;have aY:Below w.heap.size w w0:=(Below.refl _ _).grown aG (Nat.le_refl _) (fun k h=>by cases h);have aZ:zau w0 w.heap.size w.heap.size 0 C []:=aL;clear aL aG eC
 go_wp2_with fail
 go_loopw [0,3] (fun sd sa wr=>∃ (t:ByteArray) (n:Nat) (lw:List Nat),sd = .string t∧sa = .slice (some ⟨w.heap.size,0,none⟩) n C∧zau wr w.heap.size w.heap.size n C lw∧Wf lw∧Hid (zah s.data.toList=val lw*10 ^ t.size+zah t.data.toList)∧Hid (zaq t.data.toList=true)∧t.size≤s.size∧n+(t.size+18) / 19≤C∧Below w.heap.size w wr) (fun sd _ _=>znc sd)
 case atStart=>exact ⟨s,0,[],rfl,rfl,aZ,Wf.nil,by simp [Hid],hd,Nat.le_refl _,by have:=HC.out;omega,aY⟩
 case round=>
  obtain ⟨t,n,lw,rfl,rfl,aH,cA,hv,bM,dB,cR,aI⟩:=hrel;obtain ⟨wo,rfl⟩:∃ wo:World,wo=wr:=⟨_,rfl⟩
  by_cases h0:0<t.size
  ·obtain ⟨r,hr⟩:∃ r,r=(t.size - 1) % 19+1:=⟨_,rfl⟩
   have bW:1≤r:=by omega
   have cQ:r≤19:=by omega
   have cY:r≤t.size:=by omega
   have er:((t.size:Int) - 1) % 19+1=(r:Int):=by omega
   have cV:n+1+(t.size - r+18) / 19≤C:=by omega
   have HR:=Aa hr;clear hr cR;obtain ⟨u,hu⟩:∃ u,t.extract 0 r=u:=⟨_,rfl⟩;have bE:u.data.toList=t.data.toList.take r:=by rw [←hu,Lib.extract_data];simp
   have bV:u.size=r:=by rw [←hu];simp;omega
   have bX:zaq u.data.toList=true:=by
    have h:zaq (t.data.toList.take r++t.data.toList.drop r)=true:=by rw [List.take_append_drop];exact bM.out
    rw [zby,Bool.and_eq_true] at h;rw [bE];exact h.1
   have bQ:zaq (t.data.toList.drop r)=true:=by
    have h:zaq (t.data.toList.take r++t.data.toList.drop r)=true:=by rw [List.take_append_drop];exact bM.out
    rw [zby,Bool.and_eq_true] at h;exact h.2
   have cJ:=Aa bE;have bC:=Aa bX;have cL:=Aa bQ;have bS:=Aa bV;clear bE bX bQ bV
   go_wp2_with fail
   have dA:=Aa hu;clear hu er
   go_loopw [5,6] (fun ss sy wi=>∃ aA sc cy:Nat,wi=wo.iter u aA∧aA≤r∧ss = .int .u64 (sc:Int)∧sy = .int .u64 (cy:Int)∧sc=10 ^ aA∧cy=zah (u.data.toList.take aA)) (fun _ _ wi=>r - wi.iterPos wo.heap.size)
   case atStart=>exact ⟨0,1,0,rfl,Nat.zero_le _,rfl,rfl,rfl,rfl⟩
   case round=>
    obtain ⟨aA,sc,cy,rfl,cU,rfl,rfl,bP,bN⟩:=hrel;have bJ:=Aa bP;have bK:=Aa bN;clear bP bN
    by_cases hp:aA<r
    ·have hp':aA<u.size:=by rw [bS.out];exact hp
     have cB:=zds u aA hp';obtain ⟨c,hc⟩:∃ c:Nat,(u[aA]'hp').toNat=c:=⟨_,rfl⟩;have bD:48≤c∧c≤57:=by
      have h:zaq (u.data.toList.take aA++u.data.toList.drop aA)=true:=by rw [List.take_append_drop];exact bC.out
      rw [zby,Bool.and_eq_true] at h;have h2:=h.2;rw [cB,Bool.and_eq_true,hc] at h2;have h3:=h2.1;unfold digB at h3;simp only [Bool.and_eq_true,decide_eq_true_eq] at h3
      omega
     have ha:(u[aA]'hp').toNat<128:=by omega
     have bH:∀ ty,(Instr.next (.pointer (some ⟨wo.heap.size,0,none⟩)) true ty).run Tryz.prog (wo.iter u aA)=_:=fun ty=>run_next_ascii wo u aA ty hp' ha
     simp only [hc] at bH
     obtain ⟨k1,k2⟩:=zeh u.data.toList (aA+1) (by omega) bC.out;have aS:zah (u.data.toList.take (aA+1))=cy*10+(c - 48):=by
      have hl:aA<u.data.toList.length:=by simpa using hp'
      rw [List.take_succ_eq_append_getElem hl,zdc,←bK.out,←hc];rfl
     have aR:10 ^ (aA+1)=sc*10:=by rw [Nat.pow_succ,bJ.out]
     rw [aS] at k1;rw [aR] at k2;have HA:=Aa aS;have HB:=Aa aR;have cF:=bD.1;have cK:=bD.2;clear aS aR cB hc ha bD
     go_wp2_with fail
     go_roundw
     case rel=>exact ⟨aA+1,sc*10,cy*10+(c - 48),rfl,hp,by first | rfl | (congr 1;omega),by first | rfl | (congr 1;omega),HB.out.symm,HA.out.symm⟩
     case measure=>simp;omega
    ·obtain rfl:aA=r:=by omega
     have bH:∀ ty,(Instr.next (.pointer (some ⟨wo.heap.size,0,none⟩)) true ty).run Tryz.prog (wo.iter u aA)=_:=fun ty=>run_next_end wo u aA ty (by rw [bS.out];omega)
     go_wp2_with fail
     have bL:sc<18446744073709551616:=by
      have:=(zeh u.data.toList aA (by omega) bC.out).2;rw [bJ.out];omega
     have bG:cy<18446744073709551616:=by
      have:=(zeh u.data.toList aA (by omega) bC.out).1;rw [bK.out];omega
     have aJ:zau (wo.iter u aA) w.heap.size w.heap.size n C lw:=aH.alloc _;have aP:Below w.heap.size w (wo.iter u aA):=aI.alloc aI.size _
     go_loopw [6,41] (fun cO sl we=>∃ k c:Nat,k≤n∧c<18446744073709551616∧sl = .int .i64 k∧cO = .int .u64 c∧∃ l2,zau we w.heap.size w.heap.size n C l2∧Wf l2∧Hid (val (l2.take k)+B ^ k*c=val (lw.take k)*sc+cy)∧Hid (∀ j,k≤j→l2.getD j 0=lw.getD j 0)∧Below w.heap.size w we) (fun _ sl _=>n - (intOf sl).toNat)
     case atStart=>exact ⟨0,cy,Nat.zero_le _,bG,rfl,rfl,lw,aJ,cA,by simp [Hid],fun j _=>rfl,aP⟩
     case round=>
      have cI:=Aa aH.len;clear aJ aP bH aH aI;obtain ⟨k,c,hk,bO,rfl,rfl,l2,aC,aT,aM,bA,aF⟩:=hrel
      by_cases hkn:k<n
      ·have cH:=aC.cell k hkn
       have cT:=aC.free k;have bZ:=zaA aT k;obtain ⟨z,gz⟩:∃ z,l2.getD k 0=z:=⟨_,rfl⟩;rw [gz] at cH bZ;obtain ⟨lo,hi,hm,cS,cP,aE⟩:=zc5 z sc c 0 bZ bL bO (by omega)
       replace aE:∀ w:World,Calls Tryz.prog 156 #[.int .u64 z,.int .u64 sc,.int .u64 c,.int .u64 0] w fun e w'=>e = .returned (.tuple #[.int .u64 (lo:Int),.int .u64 (hi:Int)])∧w=w':=aE
       have HP:Hid (val ((l2.set k lo).take (k+1))+B ^ (k+1)*hi=val (lw.take (k+1))*sc+cy):=
        ziS l2 lw k hi cy sc c lo (by rw [aC.len];exact hkn) aM.out (by rw [←bA.out k (Nat.le_refl _),gz];exact hm)
       have cC:Hid (∀ j,k+1≤j→(l2.set k lo).getD j 0=lw.getD j 0):=fun j hj=>by
        rw [zaG _ _ _ _ (by omega)];exact bA.out j (by omega)
       clear hm gz
       go_wp2_with fail
       refine (aE _).mono ?_;rintro e w' ⟨rfl,rfl⟩;go_wp2
       go_roundw
       case rel=>exact ⟨k+1,hi,hkn,cP,by go_num,rfl,_,aC.set k lo,aT.set _ cS,HP,cC,aF.setCell (p:=⟨w.heap.size,k,none⟩) (Nat.le_refl _) _⟩
       case measure=>simp [intOf]<;>omega
      ·obtain rfl:k=n:=by omega
       have aO:wr.ownsRow w.heap.size 116 1 (.slice (some ⟨w.heap.size,0,none⟩) k C) k (l2.map u64v):=aC
       go_wp2_with (at_builtin;refine wpList_append_fits _ rfl (.tmp 57) (.tmp 59) 85 rfl w.heap.size 116 i0 1 Tryz.underlying85 bR bU w.heap.size k C (l2.map u64v) rfl (aO.alloc _) ⟨wr.heap.size,0,none⟩ 1 1 [.int .u64 (c:Int)] rfl rfl (cell_one_new _ _ _) ?c1 ?c2 ?_)
       case c1=>
        intro v hv;rw [List.mem_singleton] at hv;subst hv;rfl
       case c2=>omega
       intro w9 aK aD;have aX:zau w9 w.heap.size w.heap.size (k+1) C (l2++[c]):=by
        unfold zau;rw [List.map_append];exact aK
       have bT:=aF.alloc aF.size (.cells #[.int .u64 (c:Int)] 116);have aV:Below w.heap.size w w9:=bT.grown aD bT.size (fun j hj=>by cases hj;exact Nat.le_refl _);have bF:Wf (l2++[c]):=aT.append (Wf.cons bO Wf.nil);have aN:val (l2++[c])=val lw*sc+cy:=by
        have h:=aM.out;rw [List.take_of_length_le (l:=l2) (by rw [aC.len];exact Nat.le_refl _),List.take_of_length_le (l:=lw) (by rw [cI.out];exact Nat.le_refl _)] at h;rw [zaM,zaQ,aC.len,h]
       obtain ⟨t2,bB⟩:∃ t2,t.extract aA t.size=t2:=⟨_,rfl⟩;have aQ:t2.data.toList=t.data.toList.drop aA:=by
        rw [←bB,Lib.extract_data]
        first | done | exact List.take_of_length_le (by simp) | (congr 1;exact List.take_of_length_le (by simp)) | simp
       have aU:t2.size=t.size - aA:=by rw [←bB];simp
       have aW:zah s.data.toList=val (l2++[c])*10 ^ t2.size+zah t2.data.toList:=by
        have h:=zce (t.data.toList.take aA) (t.data.toList.drop aA);rw [List.take_append_drop,List.length_drop] at h;rw [hv.out,h,aQ,aU,aN,bJ.out,bK.out,cJ.out,List.take_of_length_le (l:=List.take aA t.data.toList) (by rw [List.length_take];omega),Nat.add_mul,Nat.mul_assoc,←Nat.pow_add,show aA+(t.size - aA)=t.size from by omega];have e:t.data.toList.length=t.size:=by simp
        rw [e];omega
       have HF:=Aa aW;have cE:=Aa aQ;have bI:=Aa aU;clear aW aQ aU aN aK aD aO
       go_wp2_with fail
       have cW:=Aa bB;clear bB
       go_roundw
       case rel=>exact ⟨t2,k+1,l2++[c],rfl,rfl,aX,bF,HF,by rw [Hid,cE.out];exact cL.out,by rw [bI.out];omega,by rw [bI.out];omega,aV⟩
       case measure=>simp [znc];rw [bI.out];omega
  ·have cM:t.data.toList=[]:=List.eq_nil_of_length_eq_zero (by simpa using h0)
   have bY:val lw=zah s.data.toList:=by
    rw [hv.out,cM,show t.size=0 from by omega];simp [zah]
   have ht:=zb1 w.heap.size w.heap.size n C lw wo aH cA;rw [bY] at ht;have HT:=Aa ht;have hz:¬ ((0:Int)<(t.size:Int)):=by omega
   clear ht bY
   go_wp2_with fail
   refine HT.out.mono ?_;rintro e w1 ⟨m,rfl,bW,rfl⟩
   go_wp2_with fail
   go_ret;exact ⟨_,m,C,rfl,bW.nat,aI⟩
end
end Go.Proofs.YtbkgkoenppkhpaaGreatDoor
