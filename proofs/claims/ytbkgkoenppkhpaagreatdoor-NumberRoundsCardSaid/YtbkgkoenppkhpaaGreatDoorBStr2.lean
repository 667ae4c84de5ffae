/- Contract of parsed: the natural number with these decimal digits. -/
import Derived.Test.YtbkgkoenppkhpaaGreatDoorBShelf
namespace Go.Proofs.YtbkgkoenppkhpaaGreatDoor
open Go.RowKit Bn
def zaj (l:List UInt8):Nat:=l.foldl (fun a c=>a*10+(c.toNat-48)) 0
theorem zjn(l:List UInt8)(a:Nat):l.foldl (fun a c=>a*10+(c.toNat-48)) a=a*10^l.length+zaj l:=by
 unfold zaj
 induction l generalizing a with
 | nil=>simp
 | cons c l ih=>
  rw[List.foldl_cons,List.foldl_cons,ih,ih (0*10+(c.toNat-48)),List.length_cons,Nat.pow_succ,Nat.zero_mul,Nat.zero_add,Nat.add_mul,Nat.mul_assoc,Nat.mul_comm 10 (10^l.length),Nat.add_assoc]
theorem zcA(a b:List UInt8):zaj (a++b)=zaj a*10^b.length+zaj b:=by
 show(a++b).foldl _ 0=_
 rw[List.foldl_append,zjn];rfl
theorem zdF(a:List UInt8)(c:UInt8):zaj (a++[c])=zaj a*10+(c.toNat-48):=by
 rw[zcA];simp[zaj]
theorem zgD(c:UInt8)(l:List UInt8):zaj (c :: l)=(c.toNat-48)*10^l.length+zaj l:=by
 have h:=zcA [c] l;rw[List.singleton_append] at h;rw[h];simp[zaj]
theorem zbW(l:List UInt8)(h:zar l=true):zaj l<10^l.length:=by
 induction l with
 | nil=>simp[zaj]
 | cons c l ih=>
  have e:zar (c :: l)=(digB (c.toNat:Int) && zar l):=rfl;rw[e,Bool.and_eq_true] at h;have h1:=ih h.2;have h2:=h.1;unfold digB at h2;simp only[Bool.and_eq_true,decide_eq_true_eq] at h2
  rw[zgD,List.length_cons,Nat.pow_succ];have h3:(c.toNat-48)*10^l.length≤9*10^l.length:=Nat.mul_le_mul_right _ (by omega);omega
theorem zj8(l' l:List Nat)(k p c0 s c r:Nat)(hk:k<l'.length)(hinv:val (l'.take k)+B^k*c=val (l.take k)*s+c0)
 (h:r+B*p=l.getD k 0*s+c):val ((l'.set k r).take (k+1))+B^(k+1)*p=val (l.take (k+1))*s+c0:=by
 rw[zaK l' k r hk,zag l,Nat.pow_succ,Nat.mul_assoc,Nat.add_mul,Nat.mul_assoc];have h3:B^k*r+B^k*(B*p)=B^k*(l.getD k 0*s)+B^k*c:=by rw[←Nat.mul_add,h,Nat.mul_add]
 omega
theorem zbI(a b:List UInt8):zar (a++b)=(zar a && zar b):=by unfold zar;rw[List.all_append]
theorem zeA(l:List UInt8)(k:Nat)(hk:k≤19)(hd:zar l=true):zaj (l.take k)<10000000000000000000∧10^k≤10000000000000000000:=by
 have h1:zar (l.take k)=true:=by
  have h:zar (l.take k++l.drop k)=true:=by rw[List.take_append_drop];exact hd
  rw[zbI,Bool.and_eq_true] at h;exact h.1
 have h2:=zbW _ h1;have h3:10^(l.take k).length≤10^19:=Nat.pow_le_pow_right (by omega) (by rw[List.length_take];omega);have h4:10^k≤10^19:=Nat.pow_le_pow_right (by omega) hk;have e:10^19=10000000000000000000:=by decide
 omega
def zo8:Value→Nat | .string t=>t.size | _=>0
set_option maxHeartbeats 4000000 in
set_option maxRecDepth 100000 in
theorem zaY(s:ByteArray)(w:World)(hd:zar s.data.toList=true)(hs:s.size≤4294967296) :
  Calls Tryz.prog 126 #[.string s] w (zcj w (zaj s.data.toList)):=by
 obtain⟨i0,bS,cC,bO,cK⟩:=info_parts zct;go_enter Tryz.func126,Tryz.ntmps126
 obtain⟨C,hC⟩:∃ C,C=s.size/19+1:=⟨_,rfl⟩;have eC:(s.size:Int)/19+1=(C:Int):=by omega
 have dB:C≤4294967297:=by omega
 have HC:=Aa hC;clear hC
 go_wp2_with (at_make;refine wpList_make_own _ rfl _ _ 85 rfl w.heap.size 116 i0 (.int .u64 0) 1 Tryz.underlying85 bS cC bO _ _ _ C rfl rfl (by omega) ?b2 ?b3 (Nat.le_refl _) ?_)
 case b2=>rw[cK];omega
 case b3=>unfold maxLen;omega
 intro w0 aJ aD;have aY:Below w.heap.size w w0:=(Below.refl _ _).grown aD (Nat.le_refl _) (fun k h=>by cases h);have aV:zav w0 w.heap.size w.heap.size 0 C []:=aJ;clear aJ aD eC
 go_wp2_with fail
 go_loopw [0,3] (fun sd sa wr=>∃ (t:ByteArray) (n:Nat) (lw:List Nat),sd = .string t∧sa = .slice (some ⟨w.heap.size,0,none⟩) n C∧zav wr w.heap.size w.heap.size n C lw∧Wf lw∧Hid (zaj s.data.toList=val lw*10^t.size+zaj t.data.toList)∧Hid (zar t.data.toList=true)∧t.size≤s.size∧n+(t.size+18)/19≤C∧Below w.heap.size w wr) (fun sd _ _=>zo8 sd)
 case atStart=>exact⟨s,0,[],rfl,rfl,aV,Wf.nil,by simp[Hid],hd,Nat.le_refl _,by have:=HC.out;omega,aY⟩
 case round=>
  obtain⟨t,n,lw,rfl,rfl,aI,cA,hv,bR,cY,cE,aH⟩:=hrel;obtain⟨wo,rfl⟩:∃ wo:World,wo=wr:=⟨_,rfl⟩
  by_cases h0:0<t.size
  ·obtain⟨r,hr⟩:∃ r,r=(t.size-1)%19+1:=⟨_,rfl⟩
   have bW:1≤r:=by omega
   have cS:r≤19:=by omega
   have cU:r≤t.size:=by omega
   have er:((t.size:Int)-1)%19+1=(r:Int):=by omega
   have cV:n+1+(t.size-r+18)/19≤C:=by omega
   have HR:=Aa hr;clear hr cE;obtain⟨u,hu⟩:∃ u,t.extract 0 r=u:=⟨_,rfl⟩;have bK:u.data.toList=t.data.toList.take r:=by rw[←hu,Lib.extract_data];simp
   have bN:u.size=r:=by rw[←hu];simp;omega
   have bV:zar u.data.toList=true:=by
    have h:zar (t.data.toList.take r++t.data.toList.drop r)=true:=by rw[List.take_append_drop];exact bR.out
    rw[zbI,Bool.and_eq_true] at h;rw[bK];exact h.1
   have bM:zar (t.data.toList.drop r)=true:=by
    have h:zar (t.data.toList.take r++t.data.toList.drop r)=true:=by rw[List.take_append_drop];exact bR.out
    rw[zbI,Bool.and_eq_true] at h;exact h.2
   have cF:=Aa bK;have bB:=Aa bV;have cM:=Aa bM;have bU:=Aa bN;clear bK bV bM bN
   go_wp2_with fail
   have cW:=Aa hu;clear hu er
   go_loopw [5,6] (fun ss sy wi=>∃ aA sc cy:Nat,wi=wo.iter u aA∧aA≤r∧ss = .int .u64 (sc:Int)∧sy = .int .u64 (cy:Int)∧sc=10^aA∧cy=zaj (u.data.toList.take aA)) (fun _ _ wi=>r-wi.iterPos wo.heap.size)
   case atStart=>exact⟨0,1,0,rfl,Nat.zero_le _,rfl,rfl,rfl,rfl⟩
   case round=>
    obtain⟨aA,sc,cy,rfl,cT,rfl,rfl,cB,bP⟩:=hrel;have bG:=Aa cB;have bJ:=Aa bP;clear cB bP
    by_cases hp:aA<r
    ·have hp':aA<u.size:=by rw[bU.out];exact hp
     have bQ:=zd0 u aA hp';obtain⟨c,hc⟩:∃ c:Nat,(u[aA]'hp').toNat=c:=⟨_,rfl⟩;have bL:48≤c∧c≤57:=by
      have h:zar (u.data.toList.take aA++u.data.toList.drop aA)=true:=by rw[List.take_append_drop];exact bB.out
      rw[zbI,Bool.and_eq_true] at h;have h2:=h.2;rw[bQ,Bool.and_eq_true,hc] at h2;have h3:=h2.1;unfold digB at h3;simp only[Bool.and_eq_true,decide_eq_true_eq] at h3
      omega
     have ha:(u[aA]'hp').toNat<128:=by omega
     have bF:∀ ty,(Instr.next (.pointer (some ⟨wo.heap.size,0,none⟩)) true ty).run Tryz.prog (wo.iter u aA)=_:=fun ty=>run_next_ascii wo u aA ty hp' ha
     simp only[hc] at bF
     obtain⟨k1,k2⟩:=zeA u.data.toList (aA+1) (by omega) bB.out;have aR:zaj (u.data.toList.take (aA+1))=cy*10+(c-48):=by
      have hl:aA<u.data.toList.length:=by simpa using hp'
      rw[List.take_succ_eq_append_getElem hl,zdF,←bJ.out,←hc];rfl
     have aU:10^(aA+1)=sc*10:=by rw[Nat.pow_succ,bG.out]
     rw[aR] at k1;rw[aU] at k2;have HA:=Aa aR;have HB:=Aa aU;have cO:=bL.1;have cN:=bL.2;clear aR aU bQ hc ha bL
     go_wp2_with fail
     go_roundw
     case rel=>exact⟨aA+1,sc*10,cy*10+(c-48),rfl,hp,by first | rfl | (congr 1;omega),by first | rfl | (congr 1;omega),HB.out.symm,HA.out.symm⟩
     case measure=>simp;omega
    ·obtain rfl:aA=r:=by omega
     have bF:∀ ty,(Instr.next (.pointer (some ⟨wo.heap.size,0,none⟩)) true ty).run Tryz.prog (wo.iter u aA)=_:=fun ty=>run_next_end wo u aA ty (by rw[bU.out];omega)
     go_wp2_with fail
     have bD:sc<18446744073709551616:=by
      have:=(zeA u.data.toList aA (by omega) bB.out).2;rw[bG.out];omega
     have bH:cy<18446744073709551616:=by
      have:=(zeA u.data.toList aA (by omega) bB.out).1;rw[bJ.out];omega
     have aL:zav (wo.iter u aA) w.heap.size w.heap.size n C lw:=aI.alloc _;have aK:Below w.heap.size w (wo.iter u aA):=aH.alloc aH.size _
     go_loopw [6,41] (fun cL sl we=>∃ k c:Nat,k≤n∧c<18446744073709551616∧sl = .int .i64 k∧cL = .int .u64 c∧∃ l2,zav we w.heap.size w.heap.size n C l2∧Wf l2∧Hid (val (l2.take k)+B^k*c=val (lw.take k)*sc+cy)∧Hid (∀ j,k≤j→l2.getD j 0=lw.getD j 0)∧Below w.heap.size w we) (fun _ sl _=>n-(intOf sl).toNat)
     case atStart=>exact⟨0,cy,Nat.zero_le _,bH,rfl,rfl,lw,aL,cA,by simp[Hid],fun j _=>rfl,aK⟩
     case round=>
      have cP:=Aa aI.len;clear aL aK bF aI aH;obtain⟨k,c,hk,bX,rfl,rfl,l2,aC,aQ,aP,aZ,aG⟩:=hrel
      by_cases hkn:k<n
      ·have cG:=aC.cell k hkn
       have dA:=aC.free k;have bZ:=zaH aQ k;obtain⟨z,gz⟩:∃ z,l2.getD k 0=z:=⟨_,rfl⟩;rw[gz] at cG bZ;obtain⟨lo,hi,hm,cI,cQ,aE⟩:=zdA z sc c 0 bZ bD bX (by omega)
       replace aE:∀ w:World,Calls Tryz.prog 156 #[.int .u64 z,.int .u64 sc,.int .u64 c,.int .u64 0] w fun e w'=>e = .returned (.tuple #[.int .u64 (lo:Int),.int .u64 (hi:Int)])∧w=w':=aE
       have HP:Hid (val ((l2.set k lo).take (k+1))+B^(k+1)*hi=val (lw.take (k+1))*sc+cy):=
        zj8 l2 lw k hi cy sc c lo (by rw[aC.len];exact hkn) aP.out (by rw[←aZ.out k (Nat.le_refl _),gz];exact hm)
       have cJ:Hid (∀ j,k+1≤j→(l2.set k lo).getD j 0=lw.getD j 0):=fun j hj=>by
        rw[zaM _ _ _ _ (by omega)];exact aZ.out j (by omega)
       clear hm gz
       go_wp2_with fail
       refine(aE _).mono ?_;rintro e w' ⟨rfl,rfl⟩;go_wp2
       go_roundw
       case rel=>exact⟨k+1,hi,hkn,cQ,by go_num,rfl,_,aC.set k lo,aQ.set _ cI,HP,cJ,aG.setCell (p:=⟨w.heap.size,k,none⟩) (Nat.le_refl _) _⟩
       case measure=>simp[intOf]<;>omega
      ·obtain rfl:k=n:=by omega
       have aO:wr.ownsRow w.heap.size 116 1 (.slice (some ⟨w.heap.size,0,none⟩) k C) k (l2.map u64v):=aC
       go_wp2_with (at_builtin;refine wpList_append_fits _ rfl (.tmp 57) (.tmp 59) 85 rfl w.heap.size 116 i0 1 Tryz.underlying85 bS bO w.heap.size k C (l2.map u64v) rfl (aO.alloc _) ⟨wr.heap.size,0,none⟩ 1 1 [.int .u64 (c:Int)] rfl rfl (cell_one_new _ _ _) ?c1 ?c2 ?_)
       case c1=>
        intro v hv;rw[List.mem_singleton] at hv;subst hv;rfl
       case c2=>omega
       intro w9 aM aF;have aW:zav w9 w.heap.size w.heap.size (k+1) C (l2++[c]):=by
        unfold zav;rw[List.map_append];exact aM
       have bY:=aG.alloc aG.size (.cells #[.int .u64 (c:Int)] 116);have bA:Below w.heap.size w w9:=bY.grown aF bY.size (fun j hj=>by cases hj;exact Nat.le_refl _);have bI:Wf (l2++[c]):=aQ.append (Wf.cons bX Wf.nil);have aN:val (l2++[c])=val lw*sc+cy:=by
        have h:=aP.out;rw[List.take_of_length_le (l:=l2) (by rw[aC.len];exact Nat.le_refl _),List.take_of_length_le (l:=lw) (by rw[cP.out];exact Nat.le_refl _)] at h;rw[zaQ,zaX,aC.len,h]
       obtain⟨t2,bC⟩:∃ t2,t.extract aA t.size=t2:=⟨_,rfl⟩;have aS:t2.data.toList=t.data.toList.drop aA:=by
        rw[←bC,Lib.extract_data]
        first | done | exact List.take_of_length_le (by simp) | (congr 1;exact List.take_of_length_le (by simp)) | simp
       have aT:t2.size=t.size-aA:=by rw[←bC];simp
       have aX:zaj s.data.toList=val (l2++[c])*10^t2.size+zaj t2.data.toList:=by
        have h:=zcA (t.data.toList.take aA) (t.data.toList.drop aA);rw[List.take_append_drop,List.length_drop] at h;rw[hv.out,h,aS,aT,aN,bG.out,bJ.out,cF.out,List.take_of_length_le (l:=List.take aA t.data.toList) (by rw[List.length_take];omega),Nat.add_mul,Nat.mul_assoc,←Nat.pow_add,show aA+(t.size-aA)=t.size from by omega];have e:t.data.toList.length=t.size:=by simp
        rw[e];omega
       have HF:=Aa aX;have cR:=Aa aS;have bE:=Aa aT;clear aX aS aT aN aM aF aO
       go_wp2_with fail
       have cZ:=Aa bC;clear bC
       go_roundw
       case rel=>exact⟨t2,k+1,l2++[c],rfl,rfl,aW,bI,HF,by rw[Hid,cR.out];exact cM.out,by rw[bE.out];omega,by rw[bE.out];omega,bA⟩
       case measure=>simp[zo8];rw[bE.out];omega
  ·have cH:t.data.toList=[]:=List.eq_nil_of_length_eq_zero (by simpa using h0)
   have bT:val lw=zaj s.data.toList:=by
    rw[hv.out,cH,show t.size=0 from by omega];simp[zaj]
   have ht:=zb8 w.heap.size w.heap.size n C lw wo aI cA;rw[bT] at ht;have HT:=Aa ht;have hz:¬ ((0:Int)<(t.size:Int)):=by omega
   clear ht bT
   go_wp2_with fail
   refine HT.out.mono ?_;rintro e w1 ⟨m,rfl,bW,rfl⟩
   go_wp2_with fail
   go_ret;exact⟨_,m,C,rfl,bW.nat,aH⟩
end Go.Proofs.YtbkgkoenppkhpaaGreatDoor
namespace Go.Proofs.YtbkgkoenppkhpaaGreatDoor.Bn
theorem zfd:B=2^64:=by decide
theorem zez(r:Nat)(h:r≤64):B=2^r*2^(64-r):=by rw[zfd,←Nat.pow_add];congr 1;omega
theorem zp8(f r:Nat)(h:r≤64):f/2^(64-r)=f*2^r/B:=by
 rw[zez r h,Nat.mul_comm f,Nat.mul_div_mul_left _ _ (Nat.two_pow_pos r)]
theorem zje(f r:Nat)(h:r≤64):f*2^r%B=2^r*(f%2^(64-r)):=by
 rw[zez r h,Nat.mul_comm f,Nat.mul_mod_mul_left]
theorem zqi(f r:Nat)(h:r≤64):f*2^r%B+2^r≤B:=by
 have h1:f%2^(64-r)+1≤2^(64-r):=Nat.mod_lt _ (Nat.two_pow_pos _);have h2:=Nat.mul_le_mul_left (2^r) h1;rw[←zez r h,Nat.mul_add,Nat.mul_one] at h2;rw[zje f r h];exact h2
theorem zqg(f r:Nat)(h:r≤64)(hf:f<B):f/2^(64-r)<2^r:=by
 rw[Nat.div_lt_iff_lt_mul (Nat.two_pow_pos _),←zez r h];exact hf
theorem znj(l la:List Nat)(i p r f o:Nat)(hk:i+p+1<l.length)(hr:r≤64)(hf:la.getD i 0=f)(ho:l.getD (i+p) 0=o)(hz:l.getD (i+p+1) 0=0)
 (hinv:val l=val (la.take i)*2^r*B^p) :
  val ((l.set (i+p) (o+f*2^r%B)).set (i+p+1) (f/2^(64-r)))=val (la.take (i+1))*2^r*B^p:=by
 have h1:=zeG l (i+p) (o+f*2^r%B) (by omega);have h2:=zeG (l.set (i+p) (o+f*2^r%B)) (i+p+1) (f/2^(64-r)) (by simpa using hk);rw[zaM _ _ _ _ (by omega),hz,Nat.mul_zero,Nat.add_zero] at h2;rw[ho,Nat.mul_add] at h1;have h3:B^(i+p+1)*(f/2^(64-r))+B^(i+p)*(f*2^r%B)=B^(i+p)*(f*2^r):=by
  rw[zp8 f r hr,Nat.pow_succ,Nat.mul_assoc,←Nat.mul_add,Nat.div_add_mod]
 have h4:val (la.take (i+1))*2^r*B^p=val (la.take i)*2^r*B^p+B^(i+p)*(f*2^r):=by
  rw[zag,hf,Nat.add_mul,Nat.add_mul,Nat.pow_add]
  congr 1
  rw[Nat.mul_assoc (B^i) f,Nat.mul_assoc (B^i),Nat.mul_comm (f*2^r) (B^p),←Nat.mul_assoc]
 rw[h4,h2];generalize B^(i+p+1)*(f/2^(64-r))=a1 at *;generalize B^(i+p)*(f*2^r%B)=a2 at *;generalize B^(i+p)*(f*2^r)=a3 at *;generalize B^(i+p)*o=a4 at *;generalize val (la.take i)*2^r*B^p=a5 at *;omega
theorem zpM(x s p r:Nat)(h:s=64*p+r):x*2^r*B^p=x*2^s:=by
 rw[h,zfd,←Nat.pow_mul,Nat.mul_assoc,←Nat.pow_add]
 congr 2
 omega
theorem zke(z z' r:Nat)(hr:r<64)(hz:z<B):z/2^r+z'*2^(64-r)%B<B ∧
  (z/2^r+z'*2^(64-r)%B)*2^r+z%2^r=z+B*(z'%2^r):=by
 have e:z'*2^(64-r)%B=2^(64-r)*(z'%2^r):=by
  have:=zje z' (64-r) (by omega)
  rwa [show 64-(64-r)=r from by omega] at this
 have h1:z/2^r<2^(64-r):=by
  rw[Nat.div_lt_iff_lt_mul (Nat.two_pow_pos _),Nat.mul_comm,←zez r (by omega)];exact hz
 have h2:z'%2^r+1≤2^r:=Nat.mod_lt _ (Nat.two_pow_pos _);have h3:=Nat.mul_le_mul_left (2^(64-r)) h2;have h4:=zez r (by omega);rw[Nat.mul_comm] at h4;rw[←h4,Nat.mul_add,Nat.mul_one] at h3;rw[e];refine⟨by omega,?_⟩;have h5:2^(64-r)*(z'%2^r)*2^r=B*(z'%2^r):=by
  rw[h4,Nat.mul_assoc,Nat.mul_assoc,Nat.mul_comm (z'%2^r)]
 have h6:=Nat.div_add_mod z (2^r);rw[Nat.add_mul,h5,Nat.mul_comm (z/2^r)];omega
theorem zon(l la:List Nat)(p k r t:Nat)(hk:k<l.length)(hr:r<64)(hw:Wf la)
 (ht:t=la.getD (p+k) 0/2^r+la.getD (p+k+1) 0*2^(64-r)%B)
 (hinv:val (l.take k)*2^r+la.getD p 0%2^r=val ((la.drop p).take k)+B^k*(la.getD (p+k) 0%2^r)) :
  val ((l.set k t).take (k+1))*2^r+la.getD p 0%2^r=val ((la.drop p).take (k+1))+B^(k+1)*(la.getD (p+(k+1)) 0%2^r):=by
 have h1:=(zke (la.getD (p+k) 0) (la.getD (p+k+1) 0) r hr (zaH hw _)).2;rw[←ht] at h1;have hd:(la.drop p).getD k 0=la.getD (p+k) 0:=by simp[List.getD,List.getElem?_drop]
 rw[zaK l k t hk,zag,hd,Nat.add_mul,←Nat.add_assoc p k 1];have h2:B^k*t*2^r+B^k*(la.getD (p+k) 0%2^r)=B^k*la.getD (p+k) 0+B^(k+1)*(la.getD (p+k+1) 0%2^r):=by
  rw[Nat.pow_succ,Nat.mul_assoc,Nat.mul_assoc,←Nat.mul_add,←Nat.mul_add,h1]
 generalize B^k*t*2^r=a1 at *;generalize B^k*(la.getD (p+k) 0%2^r)=a2 at *;generalize B^k*la.getD (p+k) 0=a3 at *;generalize B^(k+1)*(la.getD (p+k+1) 0%2^r)=a4 at *;generalize val (l.take k)*2^r=a5 at *;omega
theorem zfE{l:List Nat}(hw:Wf l)(p:Nat)(hp:p≤l.length):val (l.drop p)=val l/B^p:=by
 have h:=zay l p hp;have h2:=zbA (hw.take p);rw[List.length_take,Nat.min_eq_left hp] at h2;rw[h,Nat.add_mul_div_left _ _ (Nat.pow_pos zaS),Nat.div_eq_of_lt h2,Nat.zero_add]
theorem zpv(l la:List Nat)(x s p r m:Nat)(h:s=64*p+r)(hla:la=digs x)(hp:p≤la.length)(hm:m=la.length-p)
 (hinv:val (l.take m)*2^r+la.getD p 0%2^r=val ((la.drop p).take m)+B^m*(la.getD (p+m) 0%2^r)):val (l.take m)=x/2^s:=by
 subst hla;rw[zbV (l:=digs x) (k:=p+m) (by omega),Nat.zero_mod,Nat.mul_zero,Nat.add_zero,List.take_of_length_le (l:=(digs x).drop p) (by rw[List.length_drop];omega),zfE (zaq x) p hp,zak] at hinv;have e:x/2^s=x/B^p/2^r:=by
  rw[Nat.div_div_eq_div_mul,h,zfd,←Nat.pow_mul,←Nat.pow_add]
 have aA:=Nat.mod_lt ((digs x).getD p 0) (Nat.two_pow_pos r);rw[e,←hinv,Nat.mul_comm,Nat.mul_add_div (Nat.two_pow_pos r),Nat.div_eq_of_lt aA,Nat.add_zero]
theorem zpL(x s p:Nat)(h:64*p≤s)(hp:(digs x).length≤p):x/2^s=0:=by
 rw[Nat.div_eq_zero_iff]
 right
 have h1:=zac x;have h2:B^(digs x).length≤B^p:=Nat.pow_le_pow_right zaS hp;have h3:B^p≤2^s:=by rw[zfd,←Nat.pow_mul];exact Nat.pow_le_pow_right (by omega) h
 omega
def ntz (n:Nat):Nat:=if n=0 then 0 else if n%2=1 then 0 else ntz (n/2)+1
termination_by n
decreasing_by
 rename_i h _
 omega
theorem zrl(m:Nat):ntz (2*m+1)=0:=by
 rw[ntz,if_neg (by omega),if_pos (by omega)]
theorem znz{n:Nat}(h:0<n):ntz (2*n)=ntz n+1:=by
 rw[ntz,if_neg (by omega),if_neg (by omega),Nat.mul_div_cancel_left _ (by omega)]
theorem zqj(t m:Nat):ntz (2^t*(2*m+1))=t:=by
 induction t with
 | zero=>rw[Nat.pow_zero,Nat.one_mul,zrl]
 | succ t ih=>
  rw[Nat.pow_succ,Nat.mul_comm (2^t) 2,Nat.mul_assoc,znz (Nat.mul_pos (Nat.two_pow_pos _) (by omega)),ih]
theorem zid{n:Nat}(h:0<n):∃ m,n=2^ntz n*(2*m+1):=by
 induction n using Nat.strongRecOn with
 | ind n ih=>
  rcases Nat.mod_two_eq_zero_or_one n with h0 | h1
  ·obtain⟨m,hm⟩:=ih (n/2) (by omega) (by omega)
   refine⟨m,?_⟩;have e:n=2*(n/2):=by omega
   have e2:ntz n=ntz (n/2)+1:=by rw[e,znz (by omega)];congr 2;omega
   rw[e2,Nat.pow_succ,Nat.mul_comm (2^_) 2,Nat.mul_assoc,←hm];omega
  ·refine⟨n/2,?_⟩
   have e:ntz n=0:=by rw[ntz,if_neg (by omega),if_pos h1]
   rw[e];omega
def zaP (n:Nat):Nat:=if n=0 then 0 else Nat.log2 n+1
theorem zpj{n k:Nat}(h1:2^k≤n)(h2:n<2^(k+1)):zaP n=k+1:=by
 have hn:n≠0:=by have:=Nat.two_pow_pos k;omega
 rw[zaP,if_neg hn]
 congr 1
 have a:=Nat.log2_self_le hn;have b:=Nat.lt_log2_self (n:=n);have c:¬ k+1≤n.log2:=fun hh=>by have:=Nat.pow_le_pow_right (n:=2) (by omega) hh;omega
 have d:¬ n.log2+1≤k:=fun hh=>by have:=Nat.pow_le_pow_right (n:=2) (by omega) hh;omega
 omega
theorem zfN(n:Nat):n<2^zaP n:=by
 by_cases h:n=0
 ·subst h;simp[zaP]
 ·rw[zaP,if_neg h];exact Nat.lt_log2_self
theorem zfM{n:Nat}(h:0<n):2^(zaP n-1)≤n:=by
 rw[zaP,if_neg (by omega),Nat.add_sub_cancel];exact Nat.log2_self_le (by omega)
theorem ziZ{n:Nat}(h:0<n):0<zaP n:=by rw[zaP,if_neg (by omega)];omega
theorem zdJ{l:List Nat}:∀ (i:Nat),(∀ j,j<i→l.getD j 0=0)→val (l.take i)=0
 | 0,_=>by simp
 | i+1,h=>by rw[zag,zdJ i (fun j hj=>h j (by omega)),h i (by omega),Nat.mul_zero]
theorem zoF {x:Nat} (hx:0<x) (i:Nat) (hi:i<(digs x).length) (hz:∀ j,j<i→(digs x).getD j 0=0) (h0:(digs x).getD i 0=0):i+1<(digs x).length:=by
 rcases Nat.lt_or_ge (i+1) (digs x).length with h | h
 ·exact h
 ·exfalso
  have e:=zdJ (l:=digs x) (i+1) (fun j hj=>by
   rcases Nat.lt_or_ge j i with h1 | h1
   ·exact hz j h1
   ·obtain rfl:j=i:=by omega
    exact h0)
  rw[List.take_of_length_le h,zak] at e;omega
theorem zp6{x:Nat}(i:Nat)(hi:i<(digs x).length):x=val ((digs x).take i)+B^i*((digs x).getD i 0+B*val ((digs x).drop (i+1))):=by
 have h:=zay (digs x) i (by omega);rw[zak,List.drop_eq_getElem_cons hi,val_cons,←getD_in hi] at h;exact h
theorem zoa{x:Nat}(hx:0<x)(i:Nat)(hi:i<(digs x).length)(hz:∀ j,j<i→(digs x).getD j 0=0)(z m c:Nat)(hg:(digs x).getD i 0=z)(hm:z=2^c*(2*m+1))(hc:c<64) :
  ntz x=64*i+c:=by
 have _:=hx;have h:=zp6 i hi;rw[zdJ i hz,Nat.zero_add,hg,hm] at h;generalize val ((digs x).drop (i+1))=y at h;have e:2^c*(2*m+1)+B*y=2^c*(2*(m+2^(63-c)*y)+1):=by
  have hb:B=2^c*(2*2^(63-c)):=by
   rw[zfd,←Nat.pow_succ',←Nat.pow_add]
   congr 1
   omega
  rw[hb,Nat.mul_assoc,←Nat.mul_add,Nat.mul_add 2 m,Nat.mul_assoc 2]
  congr 1
  omega
 rw[e,zfd,←Nat.pow_mul,←Nat.mul_assoc,←Nat.pow_add] at h;rw[h,zqj]
theorem zgM{x:Nat}(hx:0<x)(i:Nat)(hi:i+1=(digs x).length)(z b:Nat)(hg:(digs x).getD i 0=z)(hb:1≤b)(h1:2^(b-1)≤z)(h2:z<2^b) :
  zaP x=64*i+b:=by
 have _:=hx;have h:=zp6 (x:=x) i (by omega);rw[hg,List.drop_of_length_le (by omega),val_nil,Nat.mul_zero,Nat.add_zero] at h;have h3:=zbA ((zaq x).take i);rw[List.length_take,Nat.min_eq_left (by omega)] at h3;generalize val ((digs x).take i)=y at *;have h4:B^i*z+B^i≤B^i*2^b:=by
  have:=Nat.mul_le_mul_left (B^i) h2
  rwa [Nat.mul_succ] at this
 have h5:=Nat.mul_le_mul_left (B^i) h1;have e:B^i=2^(64*i):=by rw[zfd,←Nat.pow_mul]
 rw[e,←Nat.pow_add] at h4 h5;rw[e] at h h3;rw[show 64*i+b=64*i+b-1+1 from by omega]
 apply zpj
 ·rw[show 64*i+b-1=64*i+(b-1) from by omega];omega
 ·rw[show 64*i+b-1+1=64*i+b from by omega];omega
end Go.Proofs.YtbkgkoenppkhpaaGreatDoor.Bn
