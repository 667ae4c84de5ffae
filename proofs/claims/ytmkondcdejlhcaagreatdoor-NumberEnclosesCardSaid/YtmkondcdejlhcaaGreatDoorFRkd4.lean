/- Plain mathematics: long division's inner loops by lists that grow, and the end of a round. No program. -/
import Derived.Test.YtmkondcdejlhcaaGreatDoorFFloat
set_option maxRecDepth 100000
set_option maxHeartbeats 2000000
namespace Go.Proofs.YtmkondcdejlhcaaGreatDoor.Dn
theorem zoH(ws v u:List Nat)(i t x b d:Nat)(hl:ws.length=i)(hv:i<v.length)(hu:i<u.length)
 (h:val ws+t*val (v.take i)=val (u.take i)+B^i*b)(he:x+(t*v[i]+b)=u[i]+B*d) :
  val (ws++[x])+t*val (v.take (i+1))=val (u.take (i+1))+B^(i+1)*d:=by
 rw[zaP,zaX,hl,zat _ _ hu,zat _ _ hv,Nat.pow_succ];have e1:t*(val (v.take i)+B^i*v[i])=t*val (v.take i)+B^i*(t*v[i]):=by
  rw[Nat.mul_add,Nat.mul_left_comm]
 have e2:B^i*(x+(t*v[i]+b))=B^i*(u[i]+B*d):=by rw[he]
 rw[Nat.mul_add,Nat.mul_add,Nat.mul_add] at e2;rw[e1,Nat.mul_assoc];omega
theorem zoU(ws2 ws v:List Nat)(i x c d:Nat)(hl:ws2.length=i)(hw:i<ws.length)(hv:i<v.length)
 (h:val ws2+B^i*c=val (ws.take i)+val (v.take i))(he:x+B*d=ws[i]+v[i]+c) :
  val (ws2++[x])+B^(i+1)*d=val (ws.take (i+1))+val (v.take (i+1)):=by
 rw[zaP,zaX,hl,zat _ _ hw,zat _ _ hv,Nat.pow_succ];have e2:B^i*(x+B*d)=B^i*(ws[i]+v[i]+c):=by rw[he]
 rw[Nat.mul_add,Nat.mul_add,Nat.mul_add] at e2;rw[Nat.mul_assoc];omega
def mid {α:Type} (l:List α) (j:Nat) (ws:List α):List α:=l.take j++ws++l.drop (j+ws.length)
theorem zly{α:Type}(l:List α)(j:Nat):mid l j []=l:=by simp[mid]
theorem ziF{α:Type}(l:List α)(j:Nat)(ws:List α)(h:j+ws.length≤l.length):(mid l j ws).length=l.length:=by
 simp[mid]
 omega
theorem zoL{α:Type}(l:List α)(j:Nat)(ws:List α)(h:j+ws.length≤l.length):(mid l j ws)[j+ws.length]? = l[j+ws.length]? := by
 unfold mid;rw[List.getElem?_append_right (by simp;omega),List.getElem?_drop]
 congr 1
 simp
 omega
theorem zpf{α:Type}(l:List α)(j:Nat)(ws:List α)(x : α)(h:j+ws.length<l.length):(mid l j ws).set (j+ws.length) x=mid l j (ws++[x]):=by
 unfold mid;have h1:(l.take j++ws).length=j+ws.length:=by simp;omega
 rw[List.set_append_right _ _ (by omega),h1,Nat.sub_self,List.drop_eq_getElem_cons h];simp only[List.set_cons_zero,List.length_append,List.length_cons,List.length_nil]
 simp[List.append_assoc,Nat.add_assoc]
theorem zjo{α:Type}(l:List α)(j:Nat)(ws:List α)(h:j≤l.length):(mid l j ws).take j=l.take j:=by
 unfold mid;rw[List.append_assoc,List.take_append_of_le_length (by simp;omega),List.take_take,Nat.min_self]
theorem zjg{α:Type}(l:List α)(j:Nat)(ws:List α)(h:j≤l.length):(mid l j ws).drop j=ws++l.drop (j+ws.length):=by
 unfold mid;have h1:(l.take j).length=j:=by simp;omega
 rw[List.append_assoc,List.drop_append_of_le_length (by omega),List.drop_of_length_le (by omega),List.nil_append]
theorem zmE{α:Type}(l:List α)(j:Nat)(ws:List α)(h:j≤l.length):(mid l j ws).drop (j+ws.length)=l.drop (j+ws.length):=by
 rw[←List.drop_drop,zjg l j ws h,List.drop_left]
theorem zlo{α β:Type}(f : α → β)(l:List α)(j:Nat)(ws:List α):(mid l j ws).map f=mid (l.map f) j (ws.map f):=by
 simp[mid,List.map_take,List.map_drop]
theorem zpk{α:Type}(l:List α)(j:Nat)(ws ws2:List α)(h:j≤l.length)(hl:ws2.length=ws.length):mid (mid l j ws) j ws2=mid l j ws2:=by
 have h1:=zjo l j ws h;have h2:=zmE l j ws h;unfold mid at h1 h2 ⊢;rw[h1,hl,h2]
theorem zf8{α:Type}(l:List α)(j i:Nat)(ws:List α)(h:j≤l.length)(hi:i<ws.length):(mid l j ws)[j+i]? = ws[i]? := by
 unfold mid;rw[List.append_assoc,List.getElem?_append_right (by simp;omega),List.length_take,Nat.min_eq_left h,show j+i-j=i from by omega,List.getElem?_append_left hi]
theorem zp6{l ws:List Nat}{j:Nat}(h:Wf l)(k:Wf ws):Wf (mid l j ws):=((h.take j).append k).append (h.drop _)
theorem zo3 (l ws:List Nat) (j n:Nat) (hn:ws.length=n) (hj:j+n<l.length) (hz:val (l.drop (j+n+1))=0) :
  val ((mid l j (ws++[0])).drop j)=val ws∧val (mid l j (ws++[0]))=val (l.take j)+B^j*val ws:=by
 have hd:val ((mid l j (ws++[0])).drop j)=val ws:=by
  rw[zjg _ _ _ (by omega),zaP,List.length_append,hn];have:val (l.drop (j+(n+[0].length)))=0:=hz;rw[this,zaP];simp
 refine⟨hd,?_⟩;have hs:=zax (mid l j (ws++[0])) j (by rw[ziF _ _ _ (by simp;omega)];omega);rw[hd,zjo _ _ _ (by omega)] at hs;exact hs
theorem zml{t r k U V:Nat}(u v:List Nat)(hu:k+2<u.length)(hv:v.length=k+2)(hwu:Wf u)(hwv:Wf v)(hz:val (u.drop (k+3))=0)
 (eU:U=val u)(eV:V=val v)(hV1:1≤v[k+1])(hUV:U<B*V)
 (hc:B≤r∨(t<B∧t*v[k]≤r*B+u[k]))(htr:t*v[k+1]+r=u[k+2]*B+u[k+1])(hq:U/V≤t):t<B∧(t=U/V∨t=U/V+1):=by
 have h3:=zhy u k hu hz;have h2:=zhp v k hv;have hp:=zby (hwu.take k);have aA:=zby (hwv.take k);rw[List.length_take,Nat.min_eq_left (by omega)] at hp aA;rw[←eU] at h3;rw[←eV] at h2;have aC:=hwv.get (i:=k) (by omega);have hV:0<V:=by
  rcases Nat.eq_zero_or_pos V with h0 | h0
  ·rw[h0,Nat.mul_zero] at hUV;omega
  ·exact h0
 have aD:t<B:=by
  rcases hc with hc | hc
  ·refine znp htr hc (zoo (v2:=v[k]) (u2:=u[k]) (rest:=val (u.take k)) aA aC ?_)
   rw[←h3,←h2];exact hUV
  ·exact hc.1
 refine⟨aD,zm9 hV hq ?_⟩;have h5:=zqj (u2:=u[k]) (v2:=v[k]) (rest:=val (u.take k)) htr aD aC hV1 aA (hc.imp id (·.2))
 rw[←h3,←h2] at h5;exact h5
theorem zkB{t r k U V:Nat}(u v:List Nat)(hu:k+2<u.length)(hv:v.length=k+2)(hwu:Wf u)(hz:val (u.drop (k+3))=0)
 (eU:U=val u)(eV:V=val v)(hUV:U<B*V)
 (hc:B≤t∨r*B+u[k]<t*v[k])(htr:t*v[k+1]+r=u[k+2]*B+u[k+1]):U/V≤t-1∧1≤t:=by
 have h3:=zhy u k hu hz;have h2:=zhp v k hv;have hp:=zby (hwu.take k);rw[List.length_take,Nat.min_eq_left (by omega)] at hp;rw[←eU] at h3;rw[←eV] at h2;have hV:0<V:=by
  rcases Nat.eq_zero_or_pos V with h0 | h0
  ·rw[h0,Nat.mul_zero] at hUV;omega
  ·exact h0
 have aA:U<t*V:=by
  rcases hc with hc | hc
  ·exact Nat.lt_of_lt_of_le hUV (Nat.mul_le_mul_right V hc)
  ·have h5:=zqh (rest:=val (u.take k)) (vr:=val (v.take k)) htr hc hp
   rw[←h3,←h2] at h5;exact h5
 refine⟨zoQ hV aA,?_⟩
 rcases Nat.eq_zero_or_pos t with h0 | h0
 ·rw[h0,Nat.zero_mul] at aA;omega
 ·exact h0
theorem ziD{k U V:Nat}(u v:List Nat)(hu:k+2<u.length)(hv:v.length=k+2)(hwu:Wf u)(hwv:Wf v)(hz:val (u.drop (k+3))=0)
 (eU:U=val u)(eV:V=val v)(hUV:U<B*V)(hbig:B≤2*v[k+1]+1) :
  U/V≤(u[k+2]*B+u[k+1])/v[k+1]∧(u[k+2]*B+u[k+1])/v[k+1]≤B+2∧1≤v[k+1]:=by
 have h3:=zhy u k hu hz;have h2:=zhp v k hv;have hp:=zby (hwu.take k);have aC:=zby (hwv.take k);rw[List.length_take,Nat.min_eq_left (by omega)] at hp aC;rw[←eU] at h3;rw[←eV] at h2;have aE:=hwv.get (i:=k) (by omega);have aD:=hwu.get (i:=k) (by omega);have aA:1≤v[k+1]:=by have:=zd9;unfold B at *; omega
 have h1:=zm7 (top:=u[k+2]*B+u[k+1]) (v2:=v[k]) (rest:=val (u.take k)) (vr:=val (v.take k)) aA hp aD;rw[←h3,←h2] at h1;refine⟨h1,?_,aA⟩;have h4:u[k+2]*B+u[k+1]≤B*v[k+1]+(B-1):=by
  refine zoo (v2:=v[k]) (u2:=u[k]) (rest:=val (u.take k)) aC aE ?_;rw[←h3,←h2];exact hUV
 have h5:(u[k+2]*B+u[k+1])/v[k+1]<B+3:=by
  rw[Nat.div_lt_iff_lt_mul aA];have e:(B+3)*v[k+1]=B*v[k+1]+3*v[k+1]:=Nat.add_mul _ _ _;omega
 omega
end Go.Proofs.YtmkondcdejlhcaaGreatDoor.Dn
namespace Go.Proofs.YtmkondcdejlhcaaGreatDoor
section
open Go.RowKit Dn
theorem zjW(Au Av:Option Addr)(mu cu nv cv j k:Nat)(lu lv:List Nat)(w:World)
 (hu:zaA w w.heap.size 1 Au mu (lu.map natv))(hv:zaA w w.heap.size 1 Av nv (lv.map natv))(hwu:Wf lu)(hwv:Wf lv)
 (hn:nv=k+2)(hj:j+(k+2)<mu)(hmu:mu≤2097152)(hbig:∀ h:k+1<lv.length,B≤2*lv[k+1]+1)
 (hz:val (lu.drop (j+(k+3)))=0)(hUV:val (lu.drop j)<B*val lv) :
  Calls Tryz.prog 165 #[.slice Au mu cu,.slice Av nv cv,.int .i64 (j:Int)] w fun e w'=>(∃ t:Nat,e = .returned (.int .i64 (t:Int))∧t<B∧(t=val (lu.drop j)/val lv∨t=val (lu.drop j)/val lv+1))∧∃ q,w'=w.drewN q:=by
 obtain⟨cV,bL,rfl,cY,bP⟩:=hu.cellM (k:=j+(k+2)) (by omega);obtain⟨_,bN,e9,_,bH⟩:=hu.cellM (k:=j+(k+1)) (by omega);injection e9 with e9;subst e9
 obtain⟨_,bU,e9,_,bK⟩:=hu.cellM (k:=j+k) (by omega);injection e9 with e9;subst e9
 obtain⟨cQ,aZ,rfl,cU,aE⟩:=hv.cellM (k:=k+1) (by omega);obtain⟨_,bI,e9,_,bE⟩:=hv.cellM (k:=k) (by omega);injection e9 with e9;subst e9
 have aW:lv.length=k+2:=by rw[hv.lenM];exact hn
 have aS:k+2<(lu.drop j).length:=by rw[List.length_drop];omega
 have aY:val ((lu.drop j).drop (k+3))=0:=by rw[List.drop_drop];exact hz
 have aT:=hwu.drop j;have GS:=ziD (lu.drop j) lv aS aW aT hwv aY rfl rfl hUV (hbig aZ);have GE:=fun t r=>@zml t r k _ _ (lu.drop j) lv aS aW aT hwv aY rfl rfl GS.2.2 hUV
 have GL:=fun t r=>@zkB t r k _ _ (lu.drop j) lv aS aW aT aY rfl rfl hUV
 simp only[List.getElem_drop] at GS GE GL
 generalize val (lu.drop j)/val lv=Q at *;have ha:=hwu.get bL;have hb:=hwu.get bN;have hc:=hwu.get bU;have bO:=hwv.get aZ;have bJ:=hwv.get bI;unfold natv at bP bH bK aE bE;clear hbig hz hUV aY aT hwu hwv hu hv;generalize lu[j+(k+2)]=a at *;generalize lu[j+(k+1)]=b at *;generalize lu[j+k]=c at *;generalize lv[k+1]=v1 at *;generalize lv[k]=v2 at *;obtain⟨jn,bV⟩:∃ jn,jn=j+(k+2):=⟨_,rfl⟩;obtain⟨aP,aO⟩:∃ aP,aP=j+(k+1):=⟨_,rfl⟩;obtain⟨aK,aR⟩:∃ aK,aK=j+k:=⟨_,rfl⟩;obtain⟨k1,bT⟩:∃ k1,k1=k+1:=⟨_,rfl⟩;rw[←bV] at bP;rw[←aO] at bH;rw[←aR] at bK;rw[←bT] at aE;have cS:a<1000000000:=ha;have cT:b<1000000000:=hb;have cW:c<1000000000:=hc;have cR:v1<1000000000:=bO;have cC:v2<1000000000:=bJ;obtain⟨aA,aC⟩:∃ aA,aA=a*B+b:=⟨_,rfl⟩;rw[←aC] at GS;simp only[←aC] at GE GL
 obtain⟨aB,bW⟩:∃ aB,aB=a*1000000000:=⟨_,rfl⟩;have aN:aA=aB+b:=by rw[aC,bW];rfl
 have bF:aA<1000000000000000000:=by omega
 obtain⟨t0,aM⟩:∃ t0,t0=aA/v1:=⟨_,rfl⟩;obtain⟨r0,aV⟩:∃ r0,r0=aA%v1:=⟨_,rfl⟩;rw[←aM] at GS;obtain⟨bG,bR,cI⟩:=GS;have cE:r0<v1:=by rw[aV];exact Nat.mod_lt _ cI
 have aL:t0*v1+r0=aA:=by rw[aM,aV,Nat.mul_comm];exact Nat.div_add_mod _ _
 have aG:B=1000000000:=rfl;rw[aG] at bR;have f1:IntKind.i64.wrap ((j:Int)+(nv:Int))=(jn:Int):=by rw[IntWalk.i64_in _ (by omega)];omega
 have f2:IntKind.i64.wrap ((jn:Int)-1)=(aP:Int):=by rw[IntWalk.i64_in _ (by omega)];omega
 have f3:IntKind.i64.wrap ((a:Int)*1000000000)=(aB:Int):=by rw[IntWalk.i64_in _ (by omega)];omega
 have f4:IntKind.i64.wrap ((aB:Int)+(b:Int))=(aA:Int):=by rw[IntWalk.i64_in _ (by omega)];omega
 have f5:IntKind.i64.wrap ((nv:Int)-1)=(k1:Int):=by rw[IntWalk.i64_in _ (by omega)];omega
 have f6:IntKind.i64.wrap (Int.tdiv (aA:Int) (v1:Int))=(t0:Int):=by rw[Int.tdiv_eq_ediv_of_nonneg (by omega),←Int.natCast_ediv,←aM,IntWalk.i64_in _ (by omega)]
 have f7:Int.tmod (aA:Int) (v1:Int)=(r0:Int):=by rw[Int.tmod_eq_emod_of_nonneg (by omega),←Int.natCast_emod,←aV]
 have f8:Int.tdiv (aA:Int) (v1:Int)=(t0:Int):=by rw[Int.tdiv_eq_ediv_of_nonneg (by omega),←Int.natCast_ediv,←aM]
 have f9:IntKind.i64.wrap ((nv:Int)-2)=(k:Int):=by rw[IntWalk.i64_in _ (by omega)];omega
 have cK:IntKind.i64.wrap ((jn:Int)-2)=(aK:Int):=by rw[IntWalk.i64_in _ (by omega)];omega
 have bS:(nv:Int)-1=(k1:Int):=by omega
 have z1:((v1:Int)==0)=false:=by rw[beq_eq_false_iff_ne];omega
 have bX:k1<2097152:=by omega
 have p1:(0:Int)≤(jn:Int):=by omega
 have p2:(jn:Int)<(mu:Int):=by omega
 have p3:(0:Int)≤(aP:Int):=by omega
 have p4:(aP:Int)<(mu:Int):=by omega
 have p5:(0:Int)≤(k1:Int):=by omega
 have p6:(k1:Int)<(nv:Int):=by omega
 have p7:(0:Int)≤(aK:Int):=by omega
 have p8:(aK:Int)<(mu:Int):=by omega
 have p9:(0:Int)≤(k:Int):=by omega
 have cZ:(k:Int)<(nv:Int):=by omega
 have bM:=Aa GE;have cM:=Aa GL;have cO:=Aa aL;have HN:=Aa hn;have cN:=Aa bS;have HQ:=Aa bG;clear GE GL aL bV aO aR bT aC aN bW aM aV hn aW aG ha hb hc bO bJ bL bN bU aZ bI hj aS bS bG;go_enter Tryz.func165,Tryz.ntmps165
 go_upto_region 2 with(fail)
 go_quiet (fail)
 go_upto_region 3 with(fail)
 go_quiet (fail)
 clear f2 f3 f4 f5 f6 f7 f8;go_wp2
 go_loopg [9,10] t0 (fun q v9 bZ W=>∃ t r:Nat,v9 = .int .i64 (t:Int)∧bZ = .int .i64 (r:Int)∧t≤q∧t≤1000000002∧r<1000000000∧Hid (t*v1+r=aA∧Q≤t)∧∃ nq,W=w.drewN nq)
 case atStart=>exact⟨t0,r0,rfl,rfl,Nat.le_refl _,bR,by omega,⟨cO.out,HQ.out⟩,by first | exact⟨_,rfl⟩ | exact⟨_,World.drewN_drewN _ _ _⟩⟩
 case round=>
  obtain⟨t,r,rfl,rfl,hq,ht,hr,hv,nq,rfl⟩:=hrel;obtain⟨rB,bC⟩:∃ rB,rB=r*1000000000:=⟨_,rfl⟩;obtain⟨tp,aQ⟩:∃ tp,tp=t*v2:=⟨_,rfl⟩;have aD:tp≤1000000002*999999999:=by rw[aQ];exact Nat.mul_le_mul ht (by omega)
  have cF:tp<2000000000000000000:=Nat.lt_of_le_of_lt aD (by decide);obtain⟨rc,bD⟩:∃ rc,rc=rB+c:=⟨_,rfl⟩;have cB:IntKind.i64.wrap ((r:Int)*1000000000)=(rB:Int):=by rw[IntWalk.i64_in _ (by omega)];omega
  have cL:IntKind.i64.wrap ((t:Int)*(v2:Int))=(tp:Int):=by
   have e:(t:Int)*(v2:Int)=(tp:Int):=by rw[aQ];exact(Int.natCast_mul t v2).symm
   rw[e,IntWalk.i64_in _ (by omega)]
  have cA:IntKind.i64.wrap ((rB:Int)+(c:Int))=(rc:Int):=by rw[IntWalk.i64_in _ (by omega)];omega
  have aX:=bM.out t r;have aU:=cM.out t r;have aG:B=1000000000:=rfl;have aF:r*B+c=rc:=by rw[bD,bC];rfl
  rw[aF,←aQ] at aX aU;have HV:=hv.out;have F9:=Aa f9
  by_cases hex:t<1000000000∧tp≤rc
  ·obtain⟨h1,h2⟩:=hex
   have d1:decide ((1000000000:Int)≤(t:Int))=false:=by simp;omega
   have d2:decide (rc<tp)=false:=by simp;omega
   have HR:=Aa (aX (.inr ⟨h1,h2⟩) HV.1 HV.2);clear aX aU bC aQ aD bD aG aF HV;go_upto_region 4 with(fail)
   go_quiet (fail)
   go_wp2
   go_ret;exact⟨⟨t,rfl,HR.out⟩,by first | exact⟨_,rfl⟩ | exact⟨_,World.drewN_drewN _ _ _⟩⟩
  ·have aJ:(decide ((1000000000:Int)≤(t:Int))=true)∨(decide ((1000000000:Int)≤(t:Int))=false∧decide (rc<tp)=true):=by
    simp only[decide_eq_true_eq,decide_eq_false_iff_not]
    omega
   obtain⟨hQ,cP⟩:=aU (by rw[aG];omega) HV.1;obtain⟨t',rfl⟩:∃ t',t=t'+1:=⟨t-1,by omega⟩;obtain⟨r',cH⟩:∃ r',r'=r+v1:=⟨_,rfl⟩;have aH:t'*v1+r'=aA:=by
    have:=HV.1;rw[Nat.add_mul,Nat.one_mul] at this;omega
   have aI:=bM.out t' r';have cJ:=Aa aI;have bB:Hid (t'*v1+r'=aA∧Q≤t'):=⟨aH,by omega⟩;have et:((t'+1:Nat):Int)-1=(t':Int):=by omega
   have er:(r:Int)+(v1:Int)=(r':Int):=by omega
   have bY:r'<2000000000:=by omega
   have bA:=cN.out;have cG:=Aa bA;generalize bF:t'+1=t9 at *;have bQ:=Aa bF;clear aX aU bC aQ aD bD aG aF HV aI cH aH hex hQ cP bA hv bF
   rcases aJ with d1 | ⟨d1,d2⟩
   all_goals
    go_upto_region 4 with(fail)
    go_quiet (fail)
    clear f1 f9 cK cB cL cA;have bA:=cG.out
    first | rw[World.drewN_drewN] | skip
    generalize hW:w.drewN _=W;have c1:W.cell? (cQ.add k1)=some (.int .i64 (v1:Int)):=by rw[←hW];exact aE
    have HW:Hid (∃ nq,W=w.drewN nq):=⟨_,hW.symm⟩;clear hW
    by_cases hlast:1000000000≤r'
    ·have d3:decide ((1000000000:Int)≤(r':Int))=true:=by simp;omega
     have HR:=Aa (cJ.out (.inl hlast) bB.out.1 bB.out.2);go_wp2
     go_ret;exact⟨⟨t',rfl,HR.out⟩,HW.out⟩
    ·have d3:decide ((1000000000:Int)≤(r':Int))=false:=by simp;omega
     go_wp2
     go_roundg t'
     case measure=>have:=bQ.out;omega
     case rel=>exact⟨t',r',rfl,rfl,Nat.le_refl _,by have:=bQ.out;omega,by omega,bB.out,HW.out⟩
def zh1 (w:World) (x y:Nat) (e:Ending) (w':World):Prop:=
 ∃ A n c A' n' c',e = .returned (.tuple #[.slice A n c,.slice A' n' c'])∧DigI w' A n c (digs (x/y))∧DigI w' A' n' c' (digs (x%y))∧Below w.heap.size w w'
theorem DigI.zero(w:World):DigI w none 0 0 (digs 0):=⟨by rw[zam];exact zaA.none_,Nat.le_refl _,Nat.zero_le _,zaq 0⟩
theorem DigI.one {w:World} {g d:Nat} (h:CBlk w g #[.int .i64 (d:Int)] 3) (hd:d<B):DigI w (some ⟨g,0,none⟩) 1 1 [d]:=
 ⟨⟨rfl,fun _=>⟨_,rfl,h.lt,fun j u hu=>by
  have hj:j=0:=by
   rcases j with _ | j
   ·rfl
   ·cases hu
  subst hj;have h0:=h.cell 0;rw[show((⟨g,0,none⟩:Addr).add 0)=⟨g,0,none⟩ from rfl,h0]
  simpa[natv] using hu⟩⟩,Nat.le_refl _,by unfold maxLen;omega,Wf.cons hd Wf.nil⟩
theorem zbj{d:Nat}(h0:0<d)(hd:d<B):digs d=[d]:=by rw[zbn h0,Nat.mod_eq_of_lt hd,Nat.div_eq_of_lt hd,zam]
theorem zmc(A A':Option Addr)(n c n' c' x y:Nat)(w:World)(ha:DigI w A n c (digs x))(hb:DigI w A' n' c' (digs y))(hlt:x<y)(hn:n≤1048576)(hn':n'≤1048576) :
  Calls Tryz.prog 116 #[.slice A n c,.slice A' n' c'] w (zh1 w x y):=by
 have hc:=zci A A' n c n' c' x y w ha.rd hb.rd (by omega) (by omega);rw[Bn.ncmp_lt hlt] at hc;have HC:=Aa hc;have HR:Hid (∀ w',Below w.heap.size w w'→zh1 w x y (.returned (.tuple #[.slice none 0 0,.slice A n c])) w'):=fun w' hb=>⟨none,0,0,A,n,c,rfl,by rw[Nat.div_eq_of_lt hlt];exact DigI.zero _,by rw[Nat.mod_eq_of_lt hlt];exact ha.later hb,hb⟩
 clear hc;go_enter Tryz.func116,Tryz.ntmps116
 go_wp2_with fail
 refine HC.out.mono ?_;rintro e w1 ⟨rfl,aA⟩;go_wp2
 go_ret2
 exact HR.out _ aA
theorem zno(A A':Option Addr)(n c c' x y:Nat)(w:World)(ha:DigI w A n c (digs x))(hb:DigI w A' 1 c' (digs y))(hyx:y≤x)(hy:0<y)(hyB:y<B)(hn:n≤1048576) :
  Calls Tryz.prog 116 #[.slice A n c,.slice A' 1 c'] w (zh1 w x y):=by
 have aM:∃ r:Int,0≤r∧Bn.ncmp x y=r:=⟨Bn.ncmp x y,by rcases Nat.lt_or_ge y x with h | h;(· rw[Bn.ncmp_gt h];decide);(· rw[show x=y from by omega,Bn.ncmp_eq];exact Int.le_refl 0),rfl⟩
 obtain⟨r,aQ,hr⟩:=aM;have hc:=zci A A' n c 1 c' x y w ha.rd hb.rd (by omega) (by omega);rw[hr] at hc;have d0:decide (r<0)=false:=by simp;omega
 have HC:=Aa hc;have HA:=Aa ha;have HB:=Aa hb;clear hc hr ha hb;go_enter Tryz.func116,Tryz.ntmps116
 go_wp2_with fail
 refine HC.out.mono ?_;rintro e w1 ⟨rfl,aE⟩;have aI:=HB.out.later aE;rw[zbj hy hyB] at aI;obtain⟨ad,aR,rfl,aP,aA⟩:=aI.rd.cellM (k:=0) (by omega)
 replace aA:w1.cell? ad=some (.int .i64 (y:Int)):=aA
 have aH:=zeu A n c y (digs x) w1 (HA.out.later aE) hy hyB hn;rw[zak] at aH;have HD:=Aa aH;clear aH aI
 go_wp2_with fail
 refine HD.out.mono ?_;rintro e w2 ⟨A2,m2,c2,rfl,hq,aJ⟩;obtain⟨rm,aD⟩:∃ rm,rm=x%y:=⟨_,rfl⟩;rw[←aD];have aF:rm<B:=by rw[aD];exact Nat.lt_trans (Nat.mod_lt _ hy) hyB
 have hk:=CBlk.new w2 #[.int .i64 (rm:Int)] 3 _ rfl;have aK:Below w2.heap.size w2 (w2.alloc (.cells #[.int .i64 (rm:Int)] 3)):=Ac;have ht:=zcz _ 1 1 _ _ (DigI.one hk aF) (by omega);rw[zaX,aD] at ht;have HT:=Aa ht;have aN:=Aa aD;clear ht aD
 go_wp2_with fail
 have hh:=aN.out;subst hh;refine HT.out.mono ?_;rintro e w3 ⟨m3,rfl,aL,aO⟩;have aC:=Ad aK aO;have aG:=Ad aJ aC;go_wp2
 go_ret2
 exact⟨_,_,_,_,_,_,rfl,hq.later aC,aL,aE.trans (aG.mono aE.size)⟩
theorem zmk{x y n k F V X:Nat}(hx:(digs x).length=n)(hy:(digs y).length=k+2)(hyx:y≤x)(hFd:F=B/((digs y).getD (k+1) 0+1))(hVd:V=y*F)(hXd:X=x*F) :
  0<F∧F<B∧k+2≤n∧(digs V).length=k+2∧(∀ h:k+1<(digs V).length,B≤2*(digs V)[k+1]+1) ∧
  n≤(digs X).length∧(digs X).length≤n+1∧X<B^(n+1-(k+2))*V∧0<V:=by
 subst hVd hXd;have aC:0<y:=by
  rcases Nat.eq_zero_or_pos y with rfl | h
  ·rw[zam] at hy;simp at hy
  ·exact h
 have h1:=zaG aC;have h2:=zad y;rw[hy] at h1 h2;have e1:(digs y).getD (k+1) 0=y/B^(k+1):=by
  rw[zcB,Nat.mod_eq_of_lt];exact Nat.div_lt_of_lt_mul (by rw[←Nat.pow_succ];exact h2)
 have hP:0<B^(k+1):=Nat.pow_pos zaQ;have aH:1≤y/B^(k+1):=(Nat.le_div_iff_mul_le hP).2 (by rw[Nat.one_mul];exact h1);have aI:y/B^(k+1)<B:=by rw[←e1];exact zaF (zaq y) _
 have hF:F=B/(y/B^(k+1)+1):=by rw[←e1];exact hFd
 have aA:0<F:=by rw[hF];exact Nat.div_pos (by omega) (by omega)
 have aD:F<B:=by rw[hF];exact Nat.div_lt_self zaQ (by omega)
 obtain⟨s1,s2⟩:=zlO (n:=k+1) h2 h1 hF rfl;have aE:0<y*F:=Nat.mul_pos aC aA;have aF:(digs (y*F)).length=k+2:=by
  have h3:=zab s1;have h4:=zaa (Nat.le_mul_of_pos_right y aA);omega
 have aG:0<x:=Nat.lt_of_lt_of_le aC hyx;have h5:=zaG aG;have h6:=zad x;rw[hx] at h5 h6;have hn:k+2≤n:=by rw[←hx,←hy];exact zaa hyx
 refine⟨aA,aD,hn,aF,?_,?_,?_,?_,aE⟩
 ·intro h
  have e2:(digs (y*F))[k+1]=y*F/B^(k+1):=by
   have h7:=zcB (k+1) (y*F);rw[Dn.getD_in h,Nat.mod_eq_of_lt] at h7
   ·exact h7
   ·exact Nat.div_lt_of_lt_mul (by rw[←Nat.pow_succ];exact s1)
  rw[e2];exact s2
 ·rw[←hx];exact zaa (Nat.le_mul_of_pos_right x aA)
 ·refine zab ?_
  rw[Nat.pow_succ];exact Nat.mul_lt_mul'' h6 aD
 ·rw[←Nat.mul_assoc]
  refine Nat.mul_lt_mul_of_pos_right ?_ aA;have h7:B^(n+1-(k+2))*B^(k+1)≤B^(n+1-(k+2))*y:=Nat.mul_le_mul_left _ h1;rw[←Nat.pow_add,show n+1-(k+2)+(k+1)=n from by omega] at h7;omega
def zdA (X V L k:Nat) (lu lq:List Nat):Prop:=Wf lu∧Wf lq∧lq.length=L∧X=V*val (lq.drop k)*B^k+val lu∧val (lu.drop k)<V
theorem zdA.start{X V L:Nat}{lu:List Nat}(hw:Wf lu)(hv:val lu=X)(_hV:0<V)(hX:X<B^L*V)(hL:L≤lu.length):zdA X V L L lu (List.replicate L 0):=by
 refine⟨hw,Wf.replicate _,by simp,?_,?_⟩
 ·rw[List.drop_of_length_le (by simp),val_nil,Nat.mul_zero,Nat.zero_mul,Nat.zero_add,hv]
 ·have hs:=zax lu L hL
  rw[hv] at hs;have h1:B^L*val (lu.drop L)<B^L*V:=by omega
  exact Nat.lt_of_mul_lt_mul_left h1
theorem zdA.window{X V L j n:Nat}{lu lq:List Nat}(h:zdA X V L (j+1) lu lq)(hV:V<B^n)(hj:j+n<lu.length) :
  val (lu.drop (j+(n+1)))=0∧val (lu.drop j)<B*V∧val (lu.drop j)=val ((lu.drop j).take n)+B^n*lu.getD (j+n) 0:=by
 obtain⟨hw,_,_,_,aA⟩:=h;have hz:=zkk lu j n V aA hV;rw[List.drop_drop] at hz;refine⟨hz,?_,?_⟩
 ·have hd:lu.drop j=lu[j] :: lu.drop (j+1):=List.drop_eq_getElem_cons (by omega)
  rw[hd,val_cons];have h1:=hw.get (i:=j) (by omega);have h2:B*(val (lu.drop (j+1))+1)≤B*V:=Nat.mul_le_mul_left B aA;rw[Nat.mul_add,Nat.mul_one] at h2;omega
 ·have hs:=zax (lu.drop j) (n+1) (by rw[List.length_drop];omega)
  rw[List.drop_drop,hz,Nat.mul_zero,Nat.add_zero,zag] at hs;rw[hs]
  congr 2
  simp[List.getD,List.getElem?_drop]
theorem zdA.next{X V L j n t:Nat}{lu lq ws:List Nat}(h:zdA X V L (j+1) lu lq)(hn:ws.length=n)(hj:j+n<lu.length)(hV:V<B^n)(hV0:0<V)(hw:Wf ws)(hjL:j<L)
 (ht:t=val (lu.drop j)/V)(hr:val ws=val (lu.drop j)%V)(htB:t<B):zdA X V L j (mid lu j (ws++[0])) (lq.set j t):=by
 obtain⟨hz,_,_⟩:=h.window hV hj;obtain⟨aC,aA,hl,hX,aD⟩:=h;obtain⟨m1,m2⟩:=zo3 lu ws j n hn hj hz;refine⟨zp6 aC (hw.append (Wf.cons zaQ Wf.nil)),aA.set _ htB,by rw[List.length_set];exact hl,?_,?_⟩
 ·rw[m2,hr,zfg _ _ _ (by omega),ht]
  refine zk8 (lo:=val (lu.take j)) ?_;rw[Nat.pow_succ] at hX;rw[hX,zax lu j (by omega)]
 ·rw[m1,hr]
  exact Nat.mod_lt _ hV0
theorem zdA.done{x y F L:Nat}{lu lq:List Nat}(h:zdA (x*F) (y*F) L 0 lu lq)(hy:0<y)(hF:0<F):val lq=x/y∧val lu=x%y*F:=by
 obtain⟨_,_,_,hX,aA⟩:=h;simp only[List.drop_zero,Nat.pow_zero,Nat.mul_one] at hX aA
 exact zoM hy hF hX aA
end
section
open Go.RowKit
section
variable {α:Type} {f : α→Value} {tS tE:TypeId} {W W':World} {B n:Nat} {v:Value} {rows:List (List α)}
end
theorem zk3 (w:World) (B:Nat) (e:TypeId) (hB:B≤w.heap.size):(w.alloc (.cells #[] e)).ownsRow B e 1 (.slice (some ⟨w.heap.size,0,none⟩) 0 0) 0 []:=
 zh7 (heap_alloc_new w _) hB (Nat.zero_le _) rfl
end
end Go.Proofs.YtmkondcdejlhcaaGreatDoor
