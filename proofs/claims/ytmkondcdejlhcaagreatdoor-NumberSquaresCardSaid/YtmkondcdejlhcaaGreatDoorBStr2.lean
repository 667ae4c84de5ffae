/- Contract of parsed: the natural number with these decimal digits. -/
import Derived.Test.YtmkondcdejlhcaaGreatDoorBWords
import Derived.Test.YtmkondcdejlhcaaGreatDoorBShelf
namespace Go.Proofs.YtmkondcdejlhcaaGreatDoor
open Go.RowKit Bn
def zaj (l:List UInt8):Nat:=l.foldl (fun a c=>a*10+(c.toNat - 48)) 0
theorem zjV (l:List UInt8) (a:Nat):l.foldl (fun a c=>a*10+(c.toNat - 48)) a=a*10 ^ l.length+zaj l:=by
 unfold zaj
 induction l generalizing a with
 | nil=>simp
 | cons c l ih=>
  rw [List.foldl_cons,List.foldl_cons,ih,ih (0*10+(c.toNat - 48)),List.length_cons,Nat.pow_succ,Nat.zero_mul,Nat.zero_add,Nat.add_mul,Nat.mul_assoc,Nat.mul_comm 10 (10 ^ l.length),Nat.add_assoc]
theorem zcE (a b:List UInt8):zaj (a++b)=zaj a*10 ^ b.length+zaj b:=by
 show (a++b).foldl _ 0=_
 rw [List.foldl_append,zjV];rfl
theorem zdG (a:List UInt8) (c:UInt8):zaj (a++[c])=zaj a*10+(c.toNat - 48):=by
 rw [zcE];simp [zaj]
theorem zgY (c:UInt8) (l:List UInt8):zaj (c :: l)=(c.toNat - 48)*10 ^ l.length+zaj l:=by
 have h:=zcE [c] l;rw [List.singleton_append] at h;rw [h];simp [zaj]
theorem zbo (l:List UInt8) (h:zau l=true):zaj l<10 ^ l.length:=by
 induction l with
 | nil=>simp [zaj]
 | cons c l ih=>
  have e:zau (c :: l)=(digB (c.toNat:Int) && zau l):=rfl;rw [e,Bool.and_eq_true] at h;have h1:=ih h.2;have h2:=h.1;unfold digB at h2;simp only [Bool.and_eq_true,decide_eq_true_eq] at h2
  rw [zgY,List.length_cons,Nat.pow_succ];have h3:(c.toNat - 48)*10 ^ l.length≤9*10 ^ l.length:=Nat.mul_le_mul_right _ (by omega);omega
theorem zkj (l' l:List Nat) (k p c0 s c r:Nat) (hk:k<l'.length) (hinv:val (l'.take k)+B ^ k*c=val (l.take k)*s+c0)
  (h:r+B*p=l.getD k 0*s+c):val ((l'.set k r).take (k+1))+B ^ (k+1)*p=val (l.take (k+1))*s+c0:=by
 rw [zaM l' k r hk,zag l,Nat.pow_succ,Nat.mul_assoc,Nat.add_mul,Nat.mul_assoc];have h3:B ^ k*r+B ^ k*(B*p)=B ^ k*(l.getD k 0*s)+B ^ k*c:=by rw [←Nat.mul_add,h,Nat.mul_add]
 omega
theorem zbP (a b:List UInt8):zau (a++b)=(zau a && zau b):=by unfold zau;rw [List.all_append]
theorem zeV (l:List UInt8) (k:Nat) (hk:k≤19) (hd:zau l=true):zaj (l.take k)<10000000000000000000∧10 ^ k≤10000000000000000000:=by
 have h1:zau (l.take k)=true:=by
  have h:zau (l.take k++l.drop k)=true:=by rw [List.take_append_drop];exact hd
  rw [zbP,Bool.and_eq_true] at h;exact h.1
 have h2:=zbo _ h1;have h3:10 ^ (l.take k).length≤10 ^ 19:=Nat.pow_le_pow_right (by omega) (by rw [List.length_take];omega);have h4:10 ^ k≤10 ^ 19:=Nat.pow_le_pow_right (by omega) hk;have e:10 ^ 19=10000000000000000000:=by decide
 omega
def zoD:Value→Nat | .string t=>t.size | _=>0
set_option maxHeartbeats 4000000 in
set_option maxRecDepth 100000 in
theorem za2 (s:ByteArray) (w:World) (hd:zau s.data.toList=true) (hs:s.size≤4294967296) :
  Calls Tryz.prog 120 #[.string s] w (zcy w (zaj s.data.toList)):=by
 obtain ⟨i0,cA,cU,cF,cL⟩:=info_parts zcF;go_enter Tryz.func120,Tryz.ntmps120
 obtain ⟨C,hC⟩:∃ C,C=s.size / 19+1:=⟨_,rfl⟩;have eC:(s.size:Int) / 19+1=(C:Int):=by omega
 have dF:C≤4294967297:=by omega
 have HC:=Aa hC;clear hC
 go_wp2_with (at_make;refine wpList_make_own _ rfl _ _ 89 rfl w.heap.size 136 i0 (.int .u64 0) 1 Tryz.underlying89 cA cU cF _ _ _ C rfl rfl (by omega) ?b2 ?b3 (Nat.le_refl _) ?_)
 case b2=>rw [cL];omega
 case b3=>unfold maxLen;omega
 intro w0 aO aE;have bC:Below w.heap.size w w0:=(Below.refl _ _).grown aE (Nat.le_refl _) (fun k h=>by cases h);have bA:zaz w0 w.heap.size w.heap.size 0 C []:=aO;clear aO aE eC
 go_wp2_with fail
 go_loopw [0,3] (fun sd sa wr=>∃ (t:ByteArray) (n:Nat) (lw:List Nat),sd = .string t∧sa = .slice (some ⟨w.heap.size,0,none⟩) n C∧zaz wr w.heap.size w.heap.size n C lw∧Wf lw∧Hid (zaj s.data.toList=val lw*10 ^ t.size+zaj t.data.toList)∧Hid (zau t.data.toList=true)∧t.size≤s.size∧n+(t.size+18) / 19≤C∧Below w.heap.size w wr) (fun sd _ _=>zoD sd)
 case atStart=>exact ⟨s,0,[],rfl,rfl,bA,Wf.nil,by simp [Hid],hd,Nat.le_refl _,by have:=HC.out;omega,bC⟩
 case round=>
  obtain ⟨t,n,lw,rfl,rfl,aI,cB,hv,cE,dB,cR,aH⟩:=hrel;obtain ⟨wo,rfl⟩:∃ wo:World,wo=wr:=⟨_,rfl⟩
  by_cases h0:0<t.size
  ·obtain ⟨r,hr⟩:∃ r,r=(t.size - 1) % 19+1:=⟨_,rfl⟩
   have cC:1≤r:=by omega
   have cQ:r≤19:=by omega
   have dG:r≤t.size:=by omega
   have er:((t.size:Int) - 1) % 19+1=(r:Int):=by omega
   have cZ:n+1+(t.size - r+18) / 19≤C:=by omega
   have HR:=Aa hr;clear hr cR;obtain ⟨u,hu⟩:∃ u,t.extract 0 r=u:=⟨_,rfl⟩;have bF:u.data.toList=t.data.toList.take r:=by rw [←hu,Lib.extract_data];simp
   have bW:u.size=r:=by rw [←hu];simp;omega
   have bV:zau u.data.toList=true:=by
    have h:zau (t.data.toList.take r++t.data.toList.drop r)=true:=by rw [List.take_append_drop];exact cE.out
    rw [zbP,Bool.and_eq_true] at h;rw [bF];exact h.1
   have bU:zau (t.data.toList.drop r)=true:=by
    have h:zau (t.data.toList.take r++t.data.toList.drop r)=true:=by rw [List.take_append_drop];exact cE.out
    rw [zbP,Bool.and_eq_true] at h;exact h.2
   have cT:=Aa bF;have bD:=Aa bV;have cI:=Aa bU;have bP:=Aa bW;clear bF bV bU bW
   go_wp2_with fail
   have dA:=Aa hu;clear hu er
   go_loopw [5,6] (fun ss sy wi=>∃ aA sc cy:Nat,wi=wo.iter u aA∧aA≤r∧ss = .int .u64 (sc:Int)∧sy = .int .u64 (cy:Int)∧sc=10 ^ aA∧cy=zaj (u.data.toList.take aA)) (fun _ _ wi=>r - wi.iterPos wo.heap.size)
   case atStart=>exact ⟨0,1,0,rfl,Nat.zero_le _,rfl,rfl,rfl,rfl⟩
   case round=>
    obtain ⟨aA,sc,cy,rfl,dD,rfl,rfl,bR,bZ⟩:=hrel;have bL:=Aa bR;have bG:=Aa bZ;clear bR bZ
    by_cases hp:aA<r
    ·have hp':aA<u.size:=by rw [bP.out];exact hp
     have bQ:=zeo u aA hp';obtain ⟨c,hc⟩:∃ c:Nat,(u[aA]'hp').toNat=c:=⟨_,rfl⟩;have bJ:48≤c∧c≤57:=by
      have h:zau (u.data.toList.take aA++u.data.toList.drop aA)=true:=by rw [List.take_append_drop];exact bD.out
      rw [zbP,Bool.and_eq_true] at h;have h2:=h.2;rw [bQ,Bool.and_eq_true,hc] at h2;have h3:=h2.1;unfold digB at h3;simp only [Bool.and_eq_true,decide_eq_true_eq] at h3
      omega
     have ha:(u[aA]'hp').toNat<128:=by omega
     have bI:∀ ty,(Instr.next (.pointer (some ⟨wo.heap.size,0,none⟩)) true ty).run Tryz.prog (wo.iter u aA)=_:=fun ty=>run_next_ascii wo u aA ty hp' ha
     simp only [hc] at bI
     obtain ⟨k1,k2⟩:=zeV u.data.toList (aA+1) (by omega) bD.out;have aT:zaj (u.data.toList.take (aA+1))=cy*10+(c - 48):=by
      have hl:aA<u.data.toList.length:=by simpa using hp'
      rw [List.take_succ_eq_append_getElem hl,zdG,←bG.out,←hc];rfl
     have aQ:10 ^ (aA+1)=sc*10:=by rw [Nat.pow_succ,bL.out]
     rw [aT] at k1;rw [aQ] at k2;have HA:=Aa aT;have HB:=Aa aQ;have cP:=bJ.1;have cM:=bJ.2;clear aT aQ bQ hc ha bJ
     go_wp2_with fail
     go_roundw
     case rel=>exact ⟨aA+1,sc*10,cy*10+(c - 48),rfl,hp,by first | rfl | (congr 1;omega),by first | rfl | (congr 1;omega),HB.out.symm,HA.out.symm⟩
     case measure=>simp;omega
    ·obtain rfl:aA=r:=by omega
     have bI:∀ ty,(Instr.next (.pointer (some ⟨wo.heap.size,0,none⟩)) true ty).run Tryz.prog (wo.iter u aA)=_:=fun ty=>run_next_end wo u aA ty (by rw [bP.out];omega)
     go_wp2_with fail
     have bM:sc<18446744073709551616:=by
      have:=(zeV u.data.toList aA (by omega) bD.out).2;rw [bL.out];omega
     have bH:cy<18446744073709551616:=by
      have:=(zeV u.data.toList aA (by omega) bD.out).1;rw [bG.out];omega
     have aM:zaz (wo.iter u aA) w.heap.size w.heap.size n C lw:=aI.alloc _;have aP:Below w.heap.size w (wo.iter u aA):=aH.alloc aH.size _
     go_loopw [6,41] (fun cS sl we=>∃ k c:Nat,k≤n∧c<18446744073709551616∧sl = .int .i64 k∧cS = .int .u64 c∧∃ l2,zaz we w.heap.size w.heap.size n C l2∧Wf l2∧Hid (val (l2.take k)+B ^ k*c=val (lw.take k)*sc+cy)∧Hid (∀ j,k≤j→l2.getD j 0=lw.getD j 0)∧Below w.heap.size w we) (fun _ sl _=>n - (intOf sl).toNat)
     case atStart=>exact ⟨0,cy,Nat.zero_le _,bH,rfl,rfl,lw,aM,cB,by simp [Hid],fun j _=>rfl,aP⟩
     case round=>
      have cJ:=Aa aI.len;clear aM aP bI aI aH;obtain ⟨k,c,hk,bO,rfl,rfl,l2,aC,aR,aJ,aV,aD⟩:=hrel
      by_cases hkn:k<n
      ·have cN:=aC.cell k hkn
       have dH:=aC.free k;have cG:=zaI aR k;obtain ⟨z,gz⟩:∃ z,l2.getD k 0=z:=⟨_,rfl⟩;rw [gz] at cN cG;obtain ⟨lo,hi,hm,cH,cW,aF⟩:=zdO z sc c 0 cG bM bO (by omega)
       replace aF:∀ w:World,Calls Tryz.prog 162 #[.int .u64 z,.int .u64 sc,.int .u64 c,.int .u64 0] w fun e w'=>e = .returned (.tuple #[.int .u64 (lo:Int),.int .u64 (hi:Int)])∧w=w':=aF
       have HP:Hid (val ((l2.set k lo).take (k+1))+B ^ (k+1)*hi=val (lw.take (k+1))*sc+cy):=
        zkj l2 lw k hi cy sc c lo (by rw [aC.len];exact hkn) aJ.out (by rw [←aV.out k (Nat.le_refl _),gz];exact hm)
       have cV:Hid (∀ j,k+1≤j→(l2.set k lo).getD j 0=lw.getD j 0):=fun j hj=>by
        rw [zaL _ _ _ _ (by omega)];exact aV.out j (by omega)
       clear hm gz
       go_wp2_with fail
       refine (aF _).mono ?_;rintro e w' ⟨rfl,rfl⟩;go_wp2
       go_roundw
       case rel=>exact ⟨k+1,hi,hkn,cW,by go_num,rfl,_,aC.set k lo,aR.set _ cH,HP,cV,aD.setCell (p:=⟨w.heap.size,k,none⟩) (Nat.le_refl _) _⟩
       case measure=>simp [intOf]<;>omega
      ·obtain rfl:k=n:=by omega
       have aL:wr.ownsRow w.heap.size 136 1 (.slice (some ⟨w.heap.size,0,none⟩) k C) k (l2.map u64v):=aC
       go_wp2_with (at_builtin;refine wpList_append_fits _ rfl (.tmp 57) (.tmp 59) 89 rfl w.heap.size 136 i0 1 Tryz.underlying89 cA cF w.heap.size k C (l2.map u64v) rfl (aL.alloc _) ⟨wr.heap.size,0,none⟩ 1 1 [.int .u64 (c:Int)] rfl rfl (cell_one_new _ _ _) ?c1 ?c2 ?_)
       case c1=>
        intro v hv;rw [List.mem_singleton] at hv;subst hv;rfl
       case c2=>omega
       intro w9 aN aG;have bB:zaz w9 w.heap.size w.heap.size (k+1) C (l2++[c]):=by
        unfold zaz;rw [List.map_append];exact aN
       have bS:=aD.alloc aD.size (.cells #[.int .u64 (c:Int)] 136);have aZ:Below w.heap.size w w9:=bS.grown aG bS.size (fun j hj=>by cases hj;exact Nat.le_refl _);have bN:Wf (l2++[c]):=aR.append (Wf.cons bO Wf.nil);have aK:val (l2++[c])=val lw*sc+cy:=by
        have h:=aJ.out;rw [List.take_of_length_le (l:=l2) (by rw [aC.len];exact Nat.le_refl _),List.take_of_length_le (l:=lw) (by rw [cJ.out];exact Nat.le_refl _)] at h;rw [zaT,za1,aC.len,h]
       obtain ⟨t2,bE⟩:∃ t2,t.extract aA t.size=t2:=⟨_,rfl⟩;have aS:t2.data.toList=t.data.toList.drop aA:=by
        rw [←bE,Lib.extract_data]
        first | done | exact List.take_of_length_le (by simp) | (congr 1;exact List.take_of_length_le (by simp)) | simp
       have aU:t2.size=t.size - aA:=by rw [←bE];simp
       have aW:zaj s.data.toList=val (l2++[c])*10 ^ t2.size+zaj t2.data.toList:=by
        have h:=zcE (t.data.toList.take aA) (t.data.toList.drop aA);rw [List.take_append_drop,List.length_drop] at h;rw [hv.out,h,aS,aU,aK,bL.out,bG.out,cT.out,List.take_of_length_le (l:=List.take aA t.data.toList) (by rw [List.length_take];omega),Nat.add_mul,Nat.mul_assoc,←Nat.pow_add,show aA+(t.size - aA)=t.size from by omega];have e:t.data.toList.length=t.size:=by simp
        rw [e];omega
       have HF:=Aa aW;have cO:=Aa aS;have bK:=Aa aU;clear aW aS aU aK aN aG aL
       go_wp2_with fail
       have cY:=Aa bE;clear bE
       go_roundw
       case rel=>exact ⟨t2,k+1,l2++[c],rfl,rfl,bB,bN,HF,by rw [Hid,cO.out];exact cI.out,by rw [bK.out];omega,by rw [bK.out];omega,aZ⟩
       case measure=>simp [zoD];rw [bK.out];omega
  ·have cK:t.data.toList=[]:=List.eq_nil_of_length_eq_zero (by simpa using h0)
   have bT:val lw=zaj s.data.toList:=by
    rw [hv.out,cK,show t.size=0 from by omega];simp [zaj]
   have ht:=zcq w.heap.size w.heap.size n C lw wo aI cB;rw [bT] at ht;have HT:=Aa ht;have hz:¬ ((0:Int)<(t.size:Int)):=by omega
   clear ht bT
   go_wp2_with fail
   refine HT.out.mono ?_;rintro e w1 ⟨m,rfl,cC,rfl⟩
   go_wp2_with fail
   go_ret;exact ⟨_,m,C,rfl,cC.nat,aH⟩
end Go.Proofs.YtmkondcdejlhcaaGreatDoor
namespace Go.Proofs.YtmkondcdejlhcaaGreatDoor.Bn
theorem zfH:B=2 ^ 64:=by decide
theorem zeQ (r:Nat) (h:r≤64):B=2 ^ r*2 ^ (64 - r):=by rw [zfH,←Nat.pow_add];congr 1;omega
theorem zpV (f r:Nat) (h:r≤64):f / 2 ^ (64 - r)=f*2 ^ r / B:=by
 rw [zeQ r h,Nat.mul_comm f,Nat.mul_div_mul_left _ _ (Nat.two_pow_pos r)]
theorem zjL (f r:Nat) (h:r≤64):f*2 ^ r % B=2 ^ r*(f % 2 ^ (64 - r)):=by
 rw [zeQ r h,Nat.mul_comm f,Nat.mul_mod_mul_left]
theorem zpY (f r:Nat) (h:r≤64):f*2 ^ r % B+2 ^ r≤B:=by
 have h1:f % 2 ^ (64 - r)+1≤2 ^ (64 - r):=Nat.mod_lt _ (Nat.two_pow_pos _);have h2:=Nat.mul_le_mul_left (2 ^ r) h1;rw [←zeQ r h,Nat.mul_add,Nat.mul_one] at h2;rw [zjL f r h];exact h2
theorem zp4 (f r:Nat) (h:r≤64) (hf:f<B):f / 2 ^ (64 - r)<2 ^ r:=by
 rw [Nat.div_lt_iff_lt_mul (Nat.two_pow_pos _),←zeQ r h];exact hf
theorem zmJ (l la:List Nat) (i p r f o:Nat) (hk:i+p+1<l.length) (hr:r≤64) (hf:la.getD i 0=f) (ho:l.getD (i+p) 0=o) (hz:l.getD (i+p+1) 0=0)
  (hinv:val l=val (la.take i)*2 ^ r*B ^ p) :
  val ((l.set (i+p) (o+f*2 ^ r % B)).set (i+p+1) (f / 2 ^ (64 - r)))=val (la.take (i+1))*2 ^ r*B ^ p:=by
 have h1:=zeL l (i+p) (o+f*2 ^ r % B) (by omega);have h2:=zeL (l.set (i+p) (o+f*2 ^ r % B)) (i+p+1) (f / 2 ^ (64 - r)) (by simpa using hk);rw [zaL _ _ _ _ (by omega),hz,Nat.mul_zero,Nat.add_zero] at h2;rw [ho,Nat.mul_add] at h1;have h3:B ^ (i+p+1)*(f / 2 ^ (64 - r))+B ^ (i+p)*(f*2 ^ r % B)=B ^ (i+p)*(f*2 ^ r):=by
  rw [zpV f r hr,Nat.pow_succ,Nat.mul_assoc,←Nat.mul_add,Nat.div_add_mod]
 have h4:val (la.take (i+1))*2 ^ r*B ^ p=val (la.take i)*2 ^ r*B ^ p+B ^ (i+p)*(f*2 ^ r):=by
  rw [zag,hf,Nat.add_mul,Nat.add_mul,Nat.pow_add]
  congr 1
  rw [Nat.mul_assoc (B ^ i) f,Nat.mul_assoc (B ^ i),Nat.mul_comm (f*2 ^ r) (B ^ p),←Nat.mul_assoc]
 rw [h4,h2];generalize B ^ (i+p+1)*(f / 2 ^ (64 - r))=a1 at *;generalize B ^ (i+p)*(f*2 ^ r % B)=a2 at *;generalize B ^ (i+p)*(f*2 ^ r)=a3 at *;generalize B ^ (i+p)*o=a4 at *;generalize val (la.take i)*2 ^ r*B ^ p=a5 at *;omega
theorem zoG (x s p r:Nat) (h:s=64*p+r):x*2 ^ r*B ^ p=x*2 ^ s:=by
 rw [h,zfH,←Nat.pow_mul,Nat.mul_assoc,←Nat.pow_add]
 congr 2
 omega
theorem zk5 (z z' r:Nat) (hr:r<64) (hz:z<B):z / 2 ^ r+z'*2 ^ (64 - r) % B<B ∧
  (z / 2 ^ r+z'*2 ^ (64 - r) % B)*2 ^ r+z % 2 ^ r=z+B*(z' % 2 ^ r):=by
 have e:z'*2 ^ (64 - r) % B=2 ^ (64 - r)*(z' % 2 ^ r):=by
  have:=zjL z' (64 - r) (by omega)
  rwa [show 64 - (64 - r)=r from by omega] at this
 have h1:z / 2 ^ r<2 ^ (64 - r):=by
  rw [Nat.div_lt_iff_lt_mul (Nat.two_pow_pos _),Nat.mul_comm,←zeQ r (by omega)];exact hz
 have h2:z' % 2 ^ r+1≤2 ^ r:=Nat.mod_lt _ (Nat.two_pow_pos _);have h3:=Nat.mul_le_mul_left (2 ^ (64 - r)) h2;have h4:=zeQ r (by omega);rw [Nat.mul_comm] at h4;rw [←h4,Nat.mul_add,Nat.mul_one] at h3;rw [e];refine ⟨by omega,?_⟩;have h5:2 ^ (64 - r)*(z' % 2 ^ r)*2 ^ r=B*(z' % 2 ^ r):=by
  rw [h4,Nat.mul_assoc,Nat.mul_assoc,Nat.mul_comm (z' % 2 ^ r)]
 have h6:=Nat.div_add_mod z (2 ^ r);rw [Nat.add_mul,h5,Nat.mul_comm (z / 2 ^ r)];omega
theorem zne (l la:List Nat) (p k r t:Nat) (hk:k<l.length) (hr:r<64) (hw:Wf la)
  (ht:t=la.getD (p+k) 0 / 2 ^ r+la.getD (p+k+1) 0*2 ^ (64 - r) % B)
  (hinv:val (l.take k)*2 ^ r+la.getD p 0 % 2 ^ r=val ((la.drop p).take k)+B ^ k*(la.getD (p+k) 0 % 2 ^ r)) :
  val ((l.set k t).take (k+1))*2 ^ r+la.getD p 0 % 2 ^ r=val ((la.drop p).take (k+1))+B ^ (k+1)*(la.getD (p+(k+1)) 0 % 2 ^ r):=by
 have h1:=(zk5 (la.getD (p+k) 0) (la.getD (p+k+1) 0) r hr (zaI hw _)).2;rw [←ht] at h1;have hd:(la.drop p).getD k 0=la.getD (p+k) 0:=by simp [List.getD,List.getElem?_drop]
 rw [zaM l k t hk,zag,hd,Nat.add_mul,←Nat.add_assoc p k 1];have h2:B ^ k*t*2 ^ r+B ^ k*(la.getD (p+k) 0 % 2 ^ r)=B ^ k*la.getD (p+k) 0+B ^ (k+1)*(la.getD (p+k+1) 0 % 2 ^ r):=by
  rw [Nat.pow_succ,Nat.mul_assoc,Nat.mul_assoc,←Nat.mul_add,←Nat.mul_add,h1]
 generalize B ^ k*t*2 ^ r=a1 at *;generalize B ^ k*(la.getD (p+k) 0 % 2 ^ r)=a2 at *;generalize B ^ k*la.getD (p+k) 0=a3 at *;generalize B ^ (k+1)*(la.getD (p+k+1) 0 % 2 ^ r)=a4 at *;generalize val (l.take k)*2 ^ r=a5 at *;omega
theorem zfZ {l:List Nat} (hw:Wf l) (p:Nat) (hp:p≤l.length):val (l.drop p)=val l / B ^ p:=by
 have h:=zaD l p hp;have h2:=zbI (hw.take p);rw [List.length_take,Nat.min_eq_left hp] at h2;rw [h,Nat.add_mul_div_left _ _ (Nat.pow_pos zaV),Nat.div_eq_of_lt h2,Nat.zero_add]
theorem zoJ (l la:List Nat) (x s p r m:Nat) (h:s=64*p+r) (hla:la=digs x) (hp:p≤la.length) (hm:m=la.length - p)
  (hinv:val (l.take m)*2 ^ r+la.getD p 0 % 2 ^ r=val ((la.drop p).take m)+B ^ m*(la.getD (p+m) 0 % 2 ^ r)):val (l.take m)=x / 2 ^ s:=by
 subst hla;rw [zch (l:=digs x) (k:=p+m) (by omega),Nat.zero_mod,Nat.mul_zero,Nat.add_zero,List.take_of_length_le (l:=(digs x).drop p) (by rw [List.length_drop];omega),zfZ (zat x) p hp,zak] at hinv;have e:x / 2 ^ s=x / B ^ p / 2 ^ r:=by
  rw [Nat.div_div_eq_div_mul,h,zfH,←Nat.pow_mul,←Nat.pow_add]
 have aA:=Nat.mod_lt ((digs x).getD p 0) (Nat.two_pow_pos r);rw [e,←hinv,Nat.mul_comm,Nat.mul_add_div (Nat.two_pow_pos r),Nat.div_eq_of_lt aA,Nat.add_zero]
theorem zpI (x s p:Nat) (h:64*p≤s) (hp:(digs x).length≤p):x / 2 ^ s=0:=by
 rw [Nat.div_eq_zero_iff]
 right
 have h1:=zae x;have h2:B ^ (digs x).length≤B ^ p:=Nat.pow_le_pow_right zaV hp;have h3:B ^ p≤2 ^ s:=by rw [zfH,←Nat.pow_mul];exact Nat.pow_le_pow_right (by omega) h
 omega
def ntz (n:Nat):Nat:=if n=0 then 0 else if n % 2=1 then 0 else ntz (n / 2)+1
termination_by n
decreasing_by
 rename_i h _
 omega
theorem zqU (m:Nat):ntz (2*m+1)=0:=by
 rw [ntz,if_neg (by omega),if_pos (by omega)]
theorem znR {n:Nat} (h:0<n):ntz (2*n)=ntz n+1:=by
 rw [ntz,if_neg (by omega),if_neg (by omega),Nat.mul_div_cancel_left _ (by omega)]
theorem zqA (t m:Nat):ntz (2 ^ t*(2*m+1))=t:=by
 induction t with
 | zero=>rw [Nat.pow_zero,Nat.one_mul,zqU]
 | succ t ih=>
  rw [Nat.pow_succ,Nat.mul_comm (2 ^ t) 2,Nat.mul_assoc,znR (Nat.mul_pos (Nat.two_pow_pos _) (by omega)),ih]
theorem zhY {n:Nat} (h:0<n):∃ m,n=2 ^ ntz n*(2*m+1):=by
 induction n using Nat.strongRecOn with
 | ind n ih=>
  rcases Nat.mod_two_eq_zero_or_one n with h0 | h1
  ·obtain ⟨m,hm⟩:=ih (n / 2) (by omega) (by omega)
   refine ⟨m,?_⟩;have e:n=2*(n / 2):=by omega
   have e2:ntz n=ntz (n / 2)+1:=by rw [e,znR (by omega)];congr 2;omega
   rw [e2,Nat.pow_succ,Nat.mul_comm (2 ^ _) 2,Nat.mul_assoc,←hm];omega
  ·refine ⟨n / 2,?_⟩
   have e:ntz n=0:=by rw [ntz,if_neg (by omega),if_pos h1]
   rw [e];omega
def zaR (n:Nat):Nat:=if n=0 then 0 else Nat.log2 n+1
theorem zoT {n k:Nat} (h1:2 ^ k≤n) (h2:n<2 ^ (k+1)):zaR n=k+1:=by
 have hn:n≠0:=by have:=Nat.two_pow_pos k;omega
 rw [zaR,if_neg hn]
 congr 1
 have a:=Nat.log2_self_le hn;have b:=Nat.lt_log2_self (n:=n);have c:¬ k+1≤n.log2:=fun hh=>by have:=Nat.pow_le_pow_right (n:=2) (by omega) hh;omega
 have d:¬ n.log2+1≤k:=fun hh=>by have:=Nat.pow_le_pow_right (n:=2) (by omega) hh;omega
 omega
theorem zgd (n:Nat):n<2 ^ zaR n:=by
 by_cases h:n=0
 ·subst h;simp [zaR]
 ·rw [zaR,if_neg h];exact Nat.lt_log2_self
theorem zf9 {n:Nat} (h:0<n):2 ^ (zaR n - 1)≤n:=by
 rw [zaR,if_neg (by omega),Nat.add_sub_cancel];exact Nat.log2_self_le (by omega)
theorem zjh {n:Nat} (h:0<n):0<zaR n:=by rw [zaR,if_neg (by omega)];omega
theorem zdZ {l:List Nat}:∀ (i:Nat),(∀ j,j<i→l.getD j 0=0)→val (l.take i)=0
 | 0,_=>by simp
 | i+1,h=>by rw [zag,zdZ i (fun j hj=>h j (by omega)),h i (by omega),Nat.mul_zero]
theorem zoQ {x:Nat} (hx:0<x) (i:Nat) (hi:i<(digs x).length) (hz:∀ j,j<i→(digs x).getD j 0=0) (h0:(digs x).getD i 0=0):i+1<(digs x).length:=by
 rcases Nat.lt_or_ge (i+1) (digs x).length with h | h
 ·exact h
 ·exfalso
  have e:=zdZ (l:=digs x) (i+1) (fun j hj=>by
   rcases Nat.lt_or_ge j i with h1 | h1
   ·exact hz j h1
   ·obtain rfl:j=i:=by omega
    exact h0)
  rw [List.take_of_length_le h,zak] at e;omega
theorem zp1 {x:Nat} (i:Nat) (hi:i<(digs x).length):x=val ((digs x).take i)+B ^ i*((digs x).getD i 0+B*val ((digs x).drop (i+1))):=by
 have h:=zaD (digs x) i (by omega);rw [zak,List.drop_eq_getElem_cons hi,val_cons,←getD_in hi] at h;exact h
theorem znD {x:Nat} (hx:0<x) (i:Nat) (hi:i<(digs x).length) (hz:∀ j,j<i→(digs x).getD j 0=0) (z m c:Nat) (hg:(digs x).getD i 0=z) (hm:z=2 ^ c*(2*m+1)) (hc:c<64) :
  ntz x=64*i+c:=by
 have _:=hx;have h:=zp1 i hi;rw [zdZ i hz,Nat.zero_add,hg,hm] at h;generalize val ((digs x).drop (i+1))=y at h;have e:2 ^ c*(2*m+1)+B*y=2 ^ c*(2*(m+2 ^ (63 - c)*y)+1):=by
  have hb:B=2 ^ c*(2*2 ^ (63 - c)):=by
   rw [zfH,←Nat.pow_succ',←Nat.pow_add]
   congr 1
   omega
  rw [hb,Nat.mul_assoc,←Nat.mul_add,Nat.mul_add 2 m,Nat.mul_assoc 2]
  congr 1
  omega
 rw [e,zfH,←Nat.pow_mul,←Nat.mul_assoc,←Nat.pow_add] at h;rw [h,zqA]
theorem zgK {x:Nat} (hx:0<x) (i:Nat) (hi:i+1=(digs x).length) (z b:Nat) (hg:(digs x).getD i 0=z) (hb:1≤b) (h1:2 ^ (b - 1)≤z) (h2:z<2 ^ b) :
  zaR x=64*i+b:=by
 have _:=hx;have h:=zp1 (x:=x) i (by omega);rw [hg,List.drop_of_length_le (by omega),val_nil,Nat.mul_zero,Nat.add_zero] at h;have h3:=zbI ((zat x).take i);rw [List.length_take,Nat.min_eq_left (by omega)] at h3;generalize val ((digs x).take i)=y at *;have h4:B ^ i*z+B ^ i≤B ^ i*2 ^ b:=by
  have:=Nat.mul_le_mul_left (B ^ i) h2
  rwa [Nat.mul_succ] at this
 have h5:=Nat.mul_le_mul_left (B ^ i) h1;have e:B ^ i=2 ^ (64*i):=by rw [zfH,←Nat.pow_mul]
 rw [e,←Nat.pow_add] at h4 h5;rw [e] at h h3;rw [show 64*i+b=64*i+b - 1+1 from by omega]
 apply zoT
 ·rw [show 64*i+b - 1=64*i+(b - 1) from by omega];omega
 ·rw [show 64*i+b - 1+1=64*i+b from by omega];omega
end Go.Proofs.YtmkondcdejlhcaaGreatDoor.Bn
