/- Plain mathematics: long division to the base 10^9, a round and its whole. No program. -/
import Derived.Test.YteajibbphcfmeaaGreatDoorTFloat
import Derived.Test.YteajibbphcfmeaaGreatDoorTRb2
import Derived.Deep.RegionHeld3
import Derived.Test.YteajibbphcfmeaaGreatDoorTDw2
import Derived.Test.YteajibbphcfmeaaGreatDoorTText
namespace Go.Proofs.YteajibbphcfmeaaGreatDoor.Dn
theorem val_top3 (w:List Nat) (k:Nat) (hl:k+2<w.length) (hz:val (w.drop (k+3))=0):val w=((w[k+2]*B+w[k+1])*B+w[k])*B ^ k+val (w.take k):=by
 rw [val_split w (k+3) (by omega),hz,val_take_succ w (k+2) hl,val_take_succ w (k+1) (by omega),val_take_succ w k (by omega)]
 rw [Nat.mul_zero,Nat.add_zero]
 simp only [Nat.add_mul,Nat.pow_succ]
 have e1:w[k+2]*B*B*B ^ k=B ^ k*B*B*w[k+2]:=by
  rw [Nat.mul_comm (w[k+2]*B*B),Nat.mul_comm (w[k+2]*B),Nat.mul_comm w[k+2]]
  simp only [Nat.mul_assoc]
 have e2:w[k+1]*B*B ^ k=B ^ k*B*w[k+1]:=by
  rw [Nat.mul_comm (w[k+1]*B),Nat.mul_comm w[k+1]]
  simp only [Nat.mul_assoc]
 have e3:w[k]*B ^ k=B ^ k*w[k]:=Nat.mul_comm _ _
 omega
theorem val_top2 (w:List Nat) (k:Nat) (hl:w.length=k+2):val w=(w[k+1]*B+w[k])*B ^ k+val (w.take k):=by
 have h1:=val_take_succ w (k+1) (by omega)
 have h2:=val_take_succ w k (by omega)
 rw [List.take_of_length_le (by omega)] at h1
 rw [h1,h2,Nat.pow_succ,Nat.add_mul]
 have e2:w[k+1]*B*B ^ k=B ^ k*B*w[k+1]:=by
  rw [Nat.mul_comm (w[k+1]*B),Nat.mul_comm w[k+1]]
  simp only [Nat.mul_assoc]
 have e3:w[k]*B ^ k=B ^ k*w[k]:=Nat.mul_comm _ _
 omega
theorem above_zero (u:List Nat) (j n V:Nat) (h:val (u.drop (j+1))<V) (hV:V<B ^ n):val ((u.drop j).drop (n+1))=0:=by
 rw [List.drop_drop]
 rcases Nat.lt_or_ge (u.drop (j+1)).length n with hl | hl
 ·rw [List.drop_eq_nil_of_le (by rw [List.length_drop] at hl;omega)]
  rfl
 ·have hs:=val_split (u.drop (j+1)) n hl
  rw [List.drop_drop,show j+1+n=j+(n+1) by omega] at hs
  generalize val (u.drop (j+(n+1)))=z at *
  rcases Nat.eq_zero_or_pos z with h0 | h0
  ·exact h0
  ·exfalso
   have:=Nat.le_mul_of_pos_right (B ^ n) h0
   omega
theorem kd_start {top v1 v2 u2 P rest vr:Nat} (hv1:1≤v1) (hr:rest<P) (hu2:u2<B):((top*B+u2)*P+rest) / ((v1*B+v2)*P+vr)≤top / v1:=by
 have hP:0<P:=Nat.lt_of_le_of_lt (Nat.zero_le _) hr
 have hVp:0<(v1*B+v2)*P+vr:=by
  have h1:1*1≤v1*B:=Nat.mul_le_mul hv1 (Nat.le_of_lt B_gt1)
  have h2:1*1≤(v1*B+v2)*P:=Nat.mul_le_mul (by omega) hP
  omega
 refine Nat.le_of_lt_succ ((Nat.div_lt_iff_lt_mul hVp).2 ?_)
 have h1:top+1≤(top / v1+1)*v1:=by
  have:=Nat.div_add_mod top v1
  have:=Nat.mod_lt top hv1
  rw [Nat.add_mul,Nat.one_mul,Nat.mul_comm]
  omega
 generalize top / v1=t at *
 have h2:(top+1)*(B*P)≤(t+1)*v1*(B*P):=Nat.mul_le_mul_right _ h1
 have e1:(t+1)*v1*(B*P)=(t+1)*(v1*B*P):=by simp only [Nat.mul_assoc]
 have e2:(t+1)*(v1*B*P)≤(t+1)*((v1*B+v2)*P+vr):=by
  apply Nat.mul_le_mul_left
  rw [Nat.add_mul]
  omega
 have e3:(top+1)*(B*P)=top*B*P+B*P:=by rw [Nat.add_mul,Nat.one_mul];simp only [Nat.mul_assoc]
 have e4:(u2+1)*P≤B*P:=Nat.mul_le_mul_right _ hu2
 rw [Nat.add_mul,Nat.one_mul] at e4
 show (top*B+u2)*P+rest<(t+1)*_
 rw [Nat.add_mul]
 omega
theorem kd_top {top v1 v2 u2 P rest vr:Nat} (hvr:vr<P) (hv2:v2<B) (hU:(top*B+u2)*P+rest<B*((v1*B+v2)*P+vr)):top≤B*v1+(B - 1):=by
 rcases Nat.lt_or_ge top (B*v1+B) with h | h
 ·omega
 ·exfalso
  have hP:0<P:=Nat.lt_of_le_of_lt (Nat.zero_le _) hvr
  have h1:(B*v1+B)*(B*P)≤top*(B*P):=Nat.mul_le_mul_right _ h
  have e0:top*(B*P)=top*B*P:=by simp only [Nat.mul_assoc]
  have h2:(v2+1)*P≤B*P:=Nat.mul_le_mul_right _ hv2
  rw [Nat.add_mul,Nat.one_mul] at h2
  have h3:(v1*B+v2)*P+vr<v1*B*P+B*P:=by rw [Nat.add_mul];omega
  have h4:B*((v1*B+v2)*P+vr)<B*(v1*B*P+B*P):=Nat.mul_lt_mul_of_pos_left h3 B_pos
  have e1:B*(v1*B*P+B*P)=(B*v1+B)*(B*P):=by
   rw [Nat.mul_add,Nat.add_mul]
   simp only [Nat.mul_assoc]
  have e2:(top*B+u2)*P=top*B*P+u2*P:=Nat.add_mul _ _ _
  omega
theorem kd_small {t r top v1:Nat} (h:t*v1+r=top) (hr:B≤r) (ht:top≤B*v1+(B - 1)):t<B:=by
 rcases Nat.lt_or_ge t B with h1 | h1
 ·exact h1
 ·exfalso
  have h2:B*v1≤t*v1:=Nat.mul_le_mul_right _ h1
  have:=B_pos
  omega
theorem div_round {X V Q P lo U:Nat} (h:X=V*Q*(P*B)+(lo+P*U)):X=V*(U / V+B*Q)*P+(lo+P*(U % V)):=by
 have hdm:=Nat.div_add_mod U V
 generalize U / V=q at *
 generalize U % V=r at *
 subst hdm
 rw [h,Nat.mul_add,Nat.mul_add,Nat.add_mul]
 have e1:V*Q*(P*B)=V*(B*Q)*P:=by
  rw [Nat.mul_assoc,Nat.mul_assoc V (B*Q)]
  congr 1
  rw [Nat.mul_comm B Q,Nat.mul_assoc,Nat.mul_comm P B]
 have e2:P*(V*q)=V*q*P:=Nat.mul_comm _ _
 omega
theorem div_end {a b f Q R:Nat} (hb:0<b) (hf:0<f) (h:a*f=b*f*Q+R) (hR:R<b*f):Q=a / b∧R=a % b*f:=by
 have hbf:0<b*f:=Nat.mul_pos hb hf
 have h1:a*f / (b*f)=Q:=by
  rw [h,Nat.mul_add_div hbf,Nat.div_eq_of_lt hR,Nat.add_zero]
 have h2:a*f % (b*f)=R:=by
  rw [h,Nat.mul_add_mod,Nat.mod_eq_of_lt hR]
 rw [Nat.mul_div_mul_right _ _ hf] at h1
 rw [Nat.mul_mod_mul_right] at h2
 exact ⟨h1.symm,h2.symm⟩
theorem scale_big {b n f v1:Nat} (hb:b<B ^ (n+1)) (h1:B ^ n≤b) (hf:f=B / (b / B ^ n+1)) (hv:v1=b*f / B ^ n):b*f<B ^ (n+1)∧B≤2*v1+1:=by
 have hP:0<B ^ n:=Nat.pow_pos B_pos
 have hd:=Nat.div_add_mod b (B ^ n)
 have hm:=Nat.mod_lt b hP
 have hb1:1≤b / B ^ n:=(Nat.le_div_iff_mul_le hP).2 (by omega)
 have hbB:b / B ^ n<B:=(Nat.div_lt_iff_lt_mul hP).2 (by rw [Nat.mul_comm,←Nat.pow_succ];exact hb)
 obtain ⟨d,hd1⟩:∃ d,d=b / B ^ n:=⟨_,rfl⟩
 rw [←hd1] at hd hb1 hbB hf
 generalize b % B ^ n=bm at hd hm
 have hfd:=Nat.div_add_mod B (d+1)
 have hfm:=Nat.mod_lt B (show 0<d+1 by omega)
 rw [←hf] at hfd
 generalize B % (d+1)=Bm at hfd hfm
 have hfd2:(d+1)*f≤B:=by omega
 constructor
 ·have h2:b<(d+1)*B ^ n:=by rw [Nat.add_mul,Nat.one_mul,Nat.mul_comm d];omega
  have hf0:0<f:=by
   rw [hf]
   exact Nat.div_pos (by omega) (by omega)
  have h3:b*f<(d+1)*B ^ n*f:=Nat.mul_lt_mul_of_pos_right h2 hf0
  have e:(d+1)*B ^ n*f=(d+1)*f*B ^ n:=by rw [Nat.mul_right_comm]
  have h4:(d+1)*f*B ^ n≤B*B ^ n:=Nat.mul_le_mul_right _ hfd2
  rw [Nat.pow_succ,Nat.mul_comm (B ^ n)]
  omega
 ·have h2:d*f≤v1:=by
   rw [hv]
   refine (Nat.le_div_iff_mul_le hP).2 ?_
   have h5:B ^ n*d*f≤b*f:=Nat.mul_le_mul_right _ (by omega)
   have e:d*f*B ^ n=B ^ n*d*f:=by rw [Nat.mul_comm,Nat.mul_assoc]
   omega
  have hf0:0<f:=by
   rw [hf]
   exact Nat.div_pos (by omega) (by omega)
  obtain ⟨d',rfl⟩:∃ d',d=d'+1:=⟨d - 1,by omega⟩
  obtain ⟨f',hf'⟩:∃ f',f=f'+1:=⟨f - 1,by omega⟩
  rw [hf'] at hfd h2
  have h8:(d'+1)*(f'+1)=d'*f'+d'+f'+1:=by
   rw [Nat.add_mul,Nat.mul_add,Nat.mul_one,Nat.one_mul]
   omega
  rw [Nat.add_mul (d'+1) 1,Nat.one_mul,h8] at hfd
  rw [h8] at h2
  omega
theorem ms_snoc (ws v u:List Nat) (i t x b d:Nat) (hl:ws.length=i) (hv:i<v.length) (hu:i<u.length)
  (h:val ws+t*val (v.take i)=val (u.take i)+B ^ i*b) (he:x+(t*v[i]+b)=u[i]+B*d) :
  val (ws++[x])+t*val (v.take (i+1))=val (u.take (i+1))+B ^ (i+1)*d:=by
 rw [val_append,val_single,hl,val_take_succ _ _ hu,val_take_succ _ _ hv,Nat.pow_succ]
 have e1:t*(val (v.take i)+B ^ i*v[i])=t*val (v.take i)+B ^ i*(t*v[i]):=by
  rw [Nat.mul_add,Nat.mul_left_comm]
 have e2:B ^ i*(x+(t*v[i]+b))=B ^ i*(u[i]+B*d):=by rw [he]
 rw [Nat.mul_add,Nat.mul_add,Nat.mul_add] at e2
 rw [e1,Nat.mul_assoc]
 omega
theorem ab_snoc (ws2 ws v:List Nat) (i x c d:Nat) (hl:ws2.length=i) (hw:i<ws.length) (hv:i<v.length)
  (h:val ws2+B ^ i*c=val (ws.take i)+val (v.take i)) (he:x+B*d=ws[i]+v[i]+c) :
  val (ws2++[x])+B ^ (i+1)*d=val (ws.take (i+1))+val (v.take (i+1)):=by
 rw [val_append,val_single,hl,val_take_succ _ _ hw,val_take_succ _ _ hv,Nat.pow_succ]
 have e2:B ^ i*(x+B*d)=B ^ i*(ws[i]+v[i]+c):=by rw [he]
 rw [Nat.mul_add,Nat.mul_add,Nat.mul_add] at e2
 rw [Nat.mul_assoc]
 omega
def mid {α:Type} (l:List α) (j:Nat) (ws:List α):List α:=l.take j++ws++l.drop (j+ws.length)
theorem mid_nil {α:Type} (l:List α) (j:Nat):mid l j []=l:=by simp [mid]
theorem mid_len {α:Type} (l:List α) (j:Nat) (ws:List α) (h:j+ws.length≤l.length):(mid l j ws).length=l.length:=by
 simp [mid]
 omega
theorem mid_get {α:Type} (l:List α) (j:Nat) (ws:List α) (h:j+ws.length≤l.length):(mid l j ws)[j+ws.length]? = l[j+ws.length]? := by
 unfold mid
 rw [List.getElem?_append_right (by simp;omega),List.getElem?_drop]
 congr 1
 simp
 omega
theorem mid_set {α:Type} (l:List α) (j:Nat) (ws:List α) (x : α) (h:j+ws.length<l.length):(mid l j ws).set (j+ws.length) x=mid l j (ws++[x]):=by
 unfold mid
 have h1:(l.take j++ws).length=j+ws.length:=by simp;omega
 rw [List.set_append_right _ _ (by omega),h1,Nat.sub_self,List.drop_eq_getElem_cons h]
 simp only [List.set_cons_zero,List.length_append,List.length_cons,List.length_nil]
 simp [List.append_assoc,Nat.add_assoc]
theorem mid_take {α:Type} (l:List α) (j:Nat) (ws:List α) (h:j≤l.length):(mid l j ws).take j=l.take j:=by
 unfold mid
 rw [List.append_assoc,List.take_append_of_le_length (by simp;omega),List.take_take,Nat.min_self]
theorem mid_drop {α:Type} (l:List α) (j:Nat) (ws:List α) (h:j≤l.length):(mid l j ws).drop j=ws++l.drop (j+ws.length):=by
 unfold mid
 have h1:(l.take j).length=j:=by simp;omega
 rw [List.append_assoc,List.drop_append_of_le_length (by omega),List.drop_of_length_le (by omega),List.nil_append]
theorem mid_drop2 {α:Type} (l:List α) (j:Nat) (ws:List α) (h:j≤l.length):(mid l j ws).drop (j+ws.length)=l.drop (j+ws.length):=by
 rw [←List.drop_drop,mid_drop l j ws h,List.drop_left]
theorem mid_map {α β:Type} (f : α → β) (l:List α) (j:Nat) (ws:List α):(mid l j ws).map f=mid (l.map f) j (ws.map f):=by
 simp [mid,List.map_take,List.map_drop]
theorem mid_mid {α:Type} (l:List α) (j:Nat) (ws ws2:List α) (h:j≤l.length) (hl:ws2.length=ws.length):mid (mid l j ws) j ws2=mid l j ws2:=by
 have h1:=mid_take l j ws h
 have h2:=mid_drop2 l j ws h
 unfold mid at h1 h2 ⊢
 rw [h1,hl,h2]
theorem mid_inner {α:Type} (l:List α) (j i:Nat) (ws:List α) (h:j≤l.length) (hi:i<ws.length):(mid l j ws)[j+i]? = ws[i]? := by
 unfold mid
 rw [List.append_assoc,List.getElem?_append_right (by simp;omega),List.length_take,Nat.min_eq_left h,show j+i - j=i from by omega,List.getElem?_append_left hi]
theorem mid_wf {l ws:List Nat} {j:Nat} (h:Wf l) (k:Wf ws):Wf (mid l j ws):=((h.take j).append k).append (h.drop _)
theorem mid_val (l ws:List Nat) (j n:Nat) (hn:ws.length=n) (hj:j+n<l.length) (hz:val (l.drop (j+n+1))=0) :
  val ((mid l j (ws++[0])).drop j)=val ws∧val (mid l j (ws++[0]))=val (l.take j)+B ^ j*val ws:=by
 have hd:val ((mid l j (ws++[0])).drop j)=val ws:=by
  rw [mid_drop _ _ _ (by omega),val_append,List.length_append,hn]
  have:val (l.drop (j+(n+[0].length)))=0:=hz
  rw [this,val_append]
  simp
 refine ⟨hd,?_⟩
 have hs:=val_split (mid l j (ws++[0])) j (by rw [mid_len _ _ _ (by simp;omega)];omega)
 rw [hd,mid_take _ _ _ (by omega)] at hs
 exact hs
theorem guess_end {t r k U V:Nat} (u v:List Nat) (hu:k+2<u.length) (hv:v.length=k+2) (hwu:Wf u) (hwv:Wf v) (hz:val (u.drop (k+3))=0)
  (eU:U=val u) (eV:V=val v) (hV1:1≤v[k+1]) (hUV:U<B*V)
  (hc:B≤r∨(t<B∧t*v[k]≤r*B+u[k])) (htr:t*v[k+1]+r=u[k+2]*B+u[k+1]) (hq:U / V≤t):t<B∧(t=U / V∨t=U / V+1):=by
 have h3:=val_top3 u k hu hz
 have h2:=val_top2 v k hv
 have hp:=val_lt (hwu.take k)
 have hp2:=val_lt (hwv.take k)
 rw [List.length_take,Nat.min_eq_left (by omega)] at hp hp2
 rw [←eU] at h3
 rw [←eV] at h2
 have hv2:=hwv.get (i:=k) (by omega)
 have hV:0<V:=by
  rcases Nat.eq_zero_or_pos V with h0 | h0
  ·rw [h0,Nat.mul_zero] at hUV;omega
  ·exact h0
 have htB:t<B:=by
  rcases hc with hc | hc
  ·refine kd_small htr hc (kd_top (v2:=v[k]) (u2:=u[k]) (rest:=val (u.take k)) hp2 hv2 ?_)
   rw [←h3,←h2]
   exact hUV
  ·exact hc.1
 refine ⟨htB,kd_digit hV hq ?_⟩
 have h5:=kd_le (u2:=u[k]) (v2:=v[k]) (rest:=val (u.take k)) htr htB hv2 hV1 hp2 (hc.imp id (·.2))
 rw [←h3,←h2] at h5
 exact h5
theorem guess_less {t r k U V:Nat} (u v:List Nat) (hu:k+2<u.length) (hv:v.length=k+2) (hwu:Wf u) (hz:val (u.drop (k+3))=0)
  (eU:U=val u) (eV:V=val v) (hUV:U<B*V)
  (hc:B≤t∨r*B+u[k]<t*v[k]) (htr:t*v[k+1]+r=u[k+2]*B+u[k+1]):U / V≤t - 1∧1≤t:=by
 have h3:=val_top3 u k hu hz
 have h2:=val_top2 v k hv
 have hp:=val_lt (hwu.take k)
 rw [List.length_take,Nat.min_eq_left (by omega)] at hp
 rw [←eU] at h3
 rw [←eV] at h2
 have hV:0<V:=by
  rcases Nat.eq_zero_or_pos V with h0 | h0
  ·rw [h0,Nat.mul_zero] at hUV;omega
  ·exact h0
 have hlt:U<t*V:=by
  rcases hc with hc | hc
  ·exact Nat.lt_of_lt_of_le hUV (Nat.mul_le_mul_right V hc)
  ·have h5:=kd_gt (rest:=val (u.take k)) (vr:=val (v.take k)) htr hc hp
   rw [←h3,←h2] at h5
   exact h5
 refine ⟨kd_pred hV hlt,?_⟩
 rcases Nat.eq_zero_or_pos t with h0 | h0
 ·rw [h0,Nat.zero_mul] at hlt;omega
 ·exact h0
theorem guess_start {k U V:Nat} (u v:List Nat) (hu:k+2<u.length) (hv:v.length=k+2) (hwu:Wf u) (hwv:Wf v) (hz:val (u.drop (k+3))=0)
  (eU:U=val u) (eV:V=val v) (hUV:U<B*V) (hbig:B≤2*v[k+1]+1) :
  U / V≤(u[k+2]*B+u[k+1]) / v[k+1]∧(u[k+2]*B+u[k+1]) / v[k+1]≤B+2∧1≤v[k+1]:=by
 have h3:=val_top3 u k hu hz
 have h2:=val_top2 v k hv
 have hp:=val_lt (hwu.take k)
 have hp2:=val_lt (hwv.take k)
 rw [List.length_take,Nat.min_eq_left (by omega)] at hp hp2
 rw [←eU] at h3
 rw [←eV] at h2
 have hv2:=hwv.get (i:=k) (by omega)
 have hu2:=hwu.get (i:=k) (by omega)
 have hV1:1≤v[k+1]:=by have:=B_gt1;unfold B at *; omega
 have h1:=kd_start (top:=u[k+2]*B+u[k+1]) (v2:=v[k]) (rest:=val (u.take k)) (vr:=val (v.take k)) hV1 hp hu2
 rw [←h3,←h2] at h1
 refine ⟨h1,?_,hV1⟩
 have h4:u[k+2]*B+u[k+1]≤B*v[k+1]+(B - 1):=by
  refine kd_top (v2:=v[k]) (u2:=u[k]) (rest:=val (u.take k)) hp2 hv2 ?_
  rw [←h3,←h2]
  exact hUV
 have h5:(u[k+2]*B+u[k+1]) / v[k+1]<B+3:=by
  rw [Nat.div_lt_iff_lt_mul hV1]
  have e:(B+3)*v[k+1]=B*v[k+1]+3*v[k+1]:=Nat.add_mul _ _ _
  omega
 omega
end Go.Proofs.YteajibbphcfmeaaGreatDoor.Dn
namespace Go.Proofs.YteajibbphcfmeaaGreatDoor
open Go.RowKit Dn
set_option maxHeartbeats 2000000 in
set_option maxRecDepth 100000 in
theorem rguess_any (Au Av:Option Addr) (mu cu nv cv j k:Nat) (lu lv:List Nat) (w:World)
  (hu:Reads w w.heap.size 1 Au mu (lu.map natv)) (hv:Reads w w.heap.size 1 Av nv (lv.map natv)) (hwu:Wf lu) (hwv:Wf lv)
  (hn:nv=k+2) (hj:j+(k+2)<mu) (hmu:mu≤2097152) (hbig:∀ h:k+1<lv.length,B≤2*lv[k+1]+1)
  (hz:val (lu.drop (j+(k+3)))=0) (hUV:val (lu.drop j)<B*val lv) :
  Calls Tryz.prog 169 #[.slice Au mu cu,.slice Av nv cv,.int .i64 (j:Int)] w fun e w'=>(∃ t:Nat,e = .returned (.int .i64 (t:Int))∧t<B∧(t=val (lu.drop j) / val lv∨t=val (lu.drop j) / val lv+1))∧∃ q,w'=w.drewN q:=by
 obtain ⟨adu,hl0,rfl,hbu,hca⟩:=hu.cellM (k:=j+(k+2)) (by omega)
 obtain ⟨_,hl1,e9,_,hcb⟩:=hu.cellM (k:=j+(k+1)) (by omega)
 injection e9 with e9;subst e9
 obtain ⟨_,hl2,e9,_,hcc⟩:=hu.cellM (k:=j+k) (by omega)
 injection e9 with e9;subst e9
 obtain ⟨adv,hm1,rfl,hbv,hcv1⟩:=hv.cellM (k:=k+1) (by omega)
 obtain ⟨_,hm2,e9,_,hcv2⟩:=hv.cellM (k:=k) (by omega)
 injection e9 with e9;subst e9
 have hlv:lv.length=k+2:=by rw [hv.lenM];exact hn
 have hdl:k+2<(lu.drop j).length:=by rw [List.length_drop];omega
 have hz':val ((lu.drop j).drop (k+3))=0:=by rw [List.drop_drop];exact hz
 have hwd:=hwu.drop j
 have GS:=guess_start (lu.drop j) lv hdl hlv hwd hwv hz' rfl rfl hUV (hbig hm1)
 have GE:=fun t r=>@guess_end t r k _ _ (lu.drop j) lv hdl hlv hwd hwv hz' rfl rfl GS.2.2 hUV
 have GL:=fun t r=>@guess_less t r k _ _ (lu.drop j) lv hdl hlv hwd hz' rfl rfl hUV
 simp only [List.getElem_drop] at GS GE GL
 generalize val (lu.drop j) / val lv=Q at *
 have ha:=hwu.get hl0
 have hb:=hwu.get hl1
 have hc:=hwu.get hl2
 have hv1:=hwv.get hm1
 have hv2:=hwv.get hm2
 unfold natv at hca hcb hcc hcv1 hcv2
 clear hbig hz hUV hz' hwd hwu hwv hu hv
 generalize lu[j+(k+2)]=a at *
 generalize lu[j+(k+1)]=b at *
 generalize lu[j+k]=c at *
 generalize lv[k+1]=v1 at *
 generalize lv[k]=v2 at *
 obtain ⟨jn,hjn⟩:∃ jn,jn=j+(k+2):=⟨_,rfl⟩
 obtain ⟨jn1,hjn1⟩:∃ jn1,jn1=j+(k+1):=⟨_,rfl⟩
 obtain ⟨jn2,hjn2⟩:∃ jn2,jn2=j+k:=⟨_,rfl⟩
 obtain ⟨k1,hk1⟩:∃ k1,k1=k+1:=⟨_,rfl⟩
 rw [←hjn] at hca
 rw [←hjn1] at hcb
 rw [←hjn2] at hcc
 rw [←hk1] at hcv1
 have ha':a<1000000000:=ha
 have hb':b<1000000000:=hb
 have hc':c<1000000000:=hc
 have hv1':v1<1000000000:=hv1
 have hv2':v2<1000000000:=hv2
 obtain ⟨top,htop⟩:∃ top,top=a*B+b:=⟨_,rfl⟩
 rw [←htop] at GS
 simp only [←htop] at GE GL
 obtain ⟨aB,haB⟩:∃ aB,aB=a*1000000000:=⟨_,rfl⟩
 have htop2:top=aB+b:=by rw [htop,haB];rfl
 have ht9:top<1000000000000000000:=by omega
 obtain ⟨t0,ht0⟩:∃ t0,t0=top / v1:=⟨_,rfl⟩
 obtain ⟨r0,hr0⟩:∃ r0,r0=top % v1:=⟨_,rfl⟩
 rw [←ht0] at GS
 obtain ⟨gs1,gs2,gs3⟩:=GS
 have hr0v:r0<v1:=by rw [hr0];exact Nat.mod_lt _ gs3
 have htr0:t0*v1+r0=top:=by rw [ht0,hr0,Nat.mul_comm];exact Nat.div_add_mod _ _
 have hBv:B=1000000000:=rfl
 rw [hBv] at gs2
 have f1:IntKind.i64.wrap ((j:Int)+(nv:Int))=(jn:Int):=by rw [IntWalk.i64_in _ (by omega)];omega
 have f2:IntKind.i64.wrap ((jn:Int) - 1)=(jn1:Int):=by rw [IntWalk.i64_in _ (by omega)];omega
 have f3:IntKind.i64.wrap ((a:Int)*1000000000)=(aB:Int):=by rw [IntWalk.i64_in _ (by omega)];omega
 have f4:IntKind.i64.wrap ((aB:Int)+(b:Int))=(top:Int):=by rw [IntWalk.i64_in _ (by omega)];omega
 have f5:IntKind.i64.wrap ((nv:Int) - 1)=(k1:Int):=by rw [IntWalk.i64_in _ (by omega)];omega
 have f6:IntKind.i64.wrap (Int.tdiv (top:Int) (v1:Int))=(t0:Int):=by rw [Int.tdiv_eq_ediv_of_nonneg (by omega),←Int.natCast_ediv,←ht0,IntWalk.i64_in _ (by omega)]
 have f7:Int.tmod (top:Int) (v1:Int)=(r0:Int):=by rw [Int.tmod_eq_emod_of_nonneg (by omega),←Int.natCast_emod,←hr0]
 have f8:Int.tdiv (top:Int) (v1:Int)=(t0:Int):=by rw [Int.tdiv_eq_ediv_of_nonneg (by omega),←Int.natCast_ediv,←ht0]
 have f9:IntKind.i64.wrap ((nv:Int) - 2)=(k:Int):=by rw [IntWalk.i64_in _ (by omega)];omega
 have f10:IntKind.i64.wrap ((jn:Int) - 2)=(jn2:Int):=by rw [IntWalk.i64_in _ (by omega)];omega
 have f11:(nv:Int) - 1=(k1:Int):=by omega
 have z1:((v1:Int)==0)=false:=by rw [beq_eq_false_iff_ne];omega
 have hk1b:k1<2097152:=by omega
 have p1:(0:Int)≤(jn:Int):=by omega
 have p2:(jn:Int)<(mu:Int):=by omega
 have p3:(0:Int)≤(jn1:Int):=by omega
 have p4:(jn1:Int)<(mu:Int):=by omega
 have p5:(0:Int)≤(k1:Int):=by omega
 have p6:(k1:Int)<(nv:Int):=by omega
 have p7:(0:Int)≤(jn2:Int):=by omega
 have p8:(jn2:Int)<(mu:Int):=by omega
 have p9:(0:Int)≤(k:Int):=by omega
 have p10:(k:Int)<(nv:Int):=by omega
 have GE':=Lib.hid GE
 have GL':=Lib.hid GL
 have HTR:=Lib.hid htr0
 have HN:=Lib.hid hn
 have F11:=Lib.hid f11
 have HQ:=Lib.hid gs1
 clear GE GL htr0 hjn hjn1 hjn2 hk1 htop htop2 haB ht0 hr0 hn hlv hBv ha hb hc hv1 hv2 hl0 hl1 hl2 hm1 hm2 hj hdl f11 gs1
 go_enter Tryz.func169,Tryz.ntmps169
 go_upto_region 2 with (fail)
 go_quiet (fail)
 go_upto_region 3 with (fail)
 go_quiet (fail)
 clear f2 f3 f4 f5 f6 f7 f8
 go_wp2
 go_loopg [9,10] t0 (fun q v9 v10 W=>∃ t r:Nat,v9 = .int .i64 (t:Int)∧v10 = .int .i64 (r:Int)∧t≤q∧t≤1000000002∧r<1000000000∧Hid (t*v1+r=top∧Q≤t)∧∃ nq,W=w.drewN nq)
 case atStart=>exact ⟨t0,r0,rfl,rfl,Nat.le_refl _,gs2,by omega,⟨HTR.out,HQ.out⟩,by first | exact ⟨_,rfl⟩ | exact ⟨_,World.drewN_drewN _ _ _⟩⟩
 case round=>
  obtain ⟨t,r,rfl,rfl,hq,ht,hr,hv,nq,rfl⟩:=hrel
  obtain ⟨rB,hrB⟩:∃ rB,rB=r*1000000000:=⟨_,rfl⟩
  obtain ⟨tp,htp⟩:∃ tp,tp=t*v2:=⟨_,rfl⟩
  have htp2:tp≤1000000002*999999999:=by rw [htp];exact Nat.mul_le_mul ht (by omega)
  have htp3:tp<2000000000000000000:=Nat.lt_of_le_of_lt htp2 (by decide)
  obtain ⟨rc,hrc⟩:∃ rc,rc=rB+c:=⟨_,rfl⟩
  have f12:IntKind.i64.wrap ((r:Int)*1000000000)=(rB:Int):=by rw [IntWalk.i64_in _ (by omega)];omega
  have f13:IntKind.i64.wrap ((t:Int)*(v2:Int))=(tp:Int):=by
   have e:(t:Int)*(v2:Int)=(tp:Int):=by rw [htp];exact (Int.natCast_mul t v2).symm
   rw [e,IntWalk.i64_in _ (by omega)]
  have f14:IntKind.i64.wrap ((rB:Int)+(c:Int))=(rc:Int):=by rw [IntWalk.i64_in _ (by omega)];omega
  have hge:=GE'.out t r
  have hgl:=GL'.out t r
  have hBv:B=1000000000:=rfl
  have hrcB:r*B+c=rc:=by rw [hrc,hrB];rfl
  rw [hrcB,←htp] at hge hgl
  have HV:=hv.out
  have F9:=Lib.hid f9
  by_cases hex:t<1000000000∧tp≤rc
  ·obtain ⟨h1,h2⟩:=hex
   have d1:decide ((1000000000:Int)≤(t:Int))=false:=by simp;omega
   have d2:decide (rc<tp)=false:=by simp;omega
   have HR:=Lib.hid (hge (.inr ⟨h1,h2⟩) HV.1 HV.2)
   clear hge hgl hrB htp htp2 hrc hBv hrcB HV
   go_upto_region 4 with (fail)
   go_quiet (fail)
   go_wp2
   go_ret
   exact ⟨⟨t,rfl,HR.out⟩,by first | exact ⟨_,rfl⟩ | exact ⟨_,World.drewN_drewN _ _ _⟩⟩
  ·have hcase:(decide ((1000000000:Int)≤(t:Int))=true)∨(decide ((1000000000:Int)≤(t:Int))=false∧decide (rc<tp)=true):=by
    simp only [decide_eq_true_eq,decide_eq_false_iff_not]
    omega
   obtain ⟨hQ,ht1⟩:=hgl (by rw [hBv];omega) HV.1
   obtain ⟨t',rfl⟩:∃ t',t=t'+1:=⟨t - 1,by omega⟩
   obtain ⟨r',hr'⟩:∃ r',r'=r+v1:=⟨_,rfl⟩
   have hinv:t'*v1+r'=top:=by
    have:=HV.1
    rw [Nat.add_mul,Nat.one_mul] at this
    omega
   have hge':=GE'.out t' r'
   have HGE:=Lib.hid hge'
   have HQ':Hid (t'*v1+r'=top∧Q≤t'):=⟨hinv,by omega⟩
   have et:((t'+1:Nat):Int) - 1=(t':Int):=by omega
   have er:(r:Int)+(v1:Int)=(r':Int):=by omega
   have hr'2:r'<2000000000:=by omega
   have e11:=F11.out
   have E11:=Lib.hid e11
   generalize ht9:t'+1=t9 at *
   have HT9:=Lib.hid ht9
   clear hge hgl hrB htp htp2 hrc hBv hrcB HV hge' hr' hinv hex hQ ht1 e11 hv ht9
   rcases hcase with d1 | ⟨d1,d2⟩
   all_goals
    go_upto_region 4 with (fail)
    go_quiet (fail)
    clear f1 f9 f10 f12 f13 f14
    have e11:=E11.out
    first | rw [World.drewN_drewN] | skip
    generalize hW:w.drewN _=W
    have c1:W.cell? (adv.add k1)=some (.int .i64 (v1:Int)):=by rw [←hW];exact hcv1
    have HW:Hid (∃ nq,W=w.drewN nq):=⟨_,hW.symm⟩
    clear hW
    by_cases hlast:1000000000≤r'
    ·have d3:decide ((1000000000:Int)≤(r':Int))=true:=by simp;omega
     have HR:=Lib.hid (HGE.out (.inl hlast) HQ'.out.1 HQ'.out.2)
     go_wp2
     go_ret
     exact ⟨⟨t',rfl,HR.out⟩,HW.out⟩
    ·have d3:decide ((1000000000:Int)≤(r':Int))=false:=by simp;omega
     go_wp2
     go_roundg t'
     case measure=>have:=HT9.out;omega
     case rel=>exact ⟨t',r',rfl,rfl,Nat.le_refl _,by have:=HT9.out;omega,by omega,HQ'.out,HW.out⟩
def RetDiv (w:World) (x y:Nat) (e:Ending) (w':World):Prop:=
 ∃ A n c A' n' c',e = .returned (.tuple #[.slice A n c,.slice A' n' c'])∧DigI w' A n c (digs (x / y))∧DigI w' A' n' c' (digs (x % y))∧Below w.heap.size w w'
theorem DigI.zero (w:World):DigI w none 0 0 (digs 0):=⟨by rw [digs_zero];exact Reads.none_,Nat.le_refl _,Nat.zero_le _,wf_digs 0⟩
theorem DigI.one {w:World} {g d:Nat} (h:CBlk w g #[.int .i64 (d:Int)] 3) (hd:d<B):DigI w (some ⟨g,0,none⟩) 1 1 [d]:=
 ⟨⟨rfl,fun _=>⟨_,rfl,h.lt,fun j u hu=>by
  have hj:j=0:=by
   rcases j with _ | j
   ·rfl
   ·cases hu
  subst hj
  have h0:=h.cell 0
  rw [show ((⟨g,0,none⟩:Addr).add 0)=⟨g,0,none⟩ from rfl,h0]
  simpa [natv] using hu⟩⟩,Nat.le_refl _,by unfold maxLen;omega,Wf.cons hd Wf.nil⟩
theorem digs_single {d:Nat} (h0:0<d) (hd:d<B):digs d=[d]:=by rw [digs_pos h0,Nat.mod_eq_of_lt hd,Nat.div_eq_of_lt hd,digs_zero]
set_option maxHeartbeats 1000000 in
set_option maxRecDepth 100000 in
theorem rdiv_less (A A':Option Addr) (n c n' c' x y:Nat) (w:World) (ha:DigI w A n c (digs x)) (hb:DigI w A' n' c' (digs y)) (hlt:x<y) (hn:n≤1048576) (hn':n'≤1048576) :
  Calls Tryz.prog 121 #[.slice A n c,.slice A' n' c'] w (RetDiv w x y):=by
 have hc:=rcompare_any A A' n c n' c' x y w ha.rd hb.rd (by omega) (by omega)
 rw [Bn.ncmp_lt hlt] at hc
 have HC:=Lib.hid hc
 have HR:Hid (∀ w',Below w.heap.size w w'→RetDiv w x y (.returned (.tuple #[.slice none 0 0,.slice A n c])) w'):=fun w' hb=>⟨none,0,0,A,n,c,rfl,by rw [Nat.div_eq_of_lt hlt];exact DigI.zero _,by rw [Nat.mod_eq_of_lt hlt];exact ha.later hb,hb⟩
 clear hc
 go_enter Tryz.func121,Tryz.ntmps121
 go_wp2_with fail
 refine HC.out.mono ?_
 rintro e w1 ⟨rfl,hb1⟩
 go_wp2
 go_ret2
 exact HR.out _ hb1
set_option maxHeartbeats 1000000 in
set_option maxRecDepth 100000 in
theorem rdiv_one (A A':Option Addr) (n c c' x y:Nat) (w:World) (ha:DigI w A n c (digs x)) (hb:DigI w A' 1 c' (digs y)) (hyx:y≤x) (hy:0<y) (hyB:y<B) (hn:n≤1048576) :
  Calls Tryz.prog 121 #[.slice A n c,.slice A' 1 c'] w (RetDiv w x y):=by
 have hc0:∃ r:Int,0≤r∧Bn.ncmp x y=r:=⟨Bn.ncmp x y,by rcases Nat.lt_or_ge y x with h | h;(· rw [Bn.ncmp_gt h];decide);(· rw [show x=y from by omega,Bn.ncmp_eq];exact Int.le_refl 0),rfl⟩
 obtain ⟨r,hr0,hr⟩:=hc0
 have hc:=rcompare_any A A' n c 1 c' x y w ha.rd hb.rd (by omega) (by omega)
 rw [hr] at hc
 have d0:decide (r<0)=false:=by simp;omega
 have HC:=Lib.hid hc
 have HA:=Lib.hid ha
 have HB:=Lib.hid hb
 clear hc hr ha hb
 go_enter Tryz.func121,Tryz.ntmps121
 go_wp2_with fail
 refine HC.out.mono ?_
 rintro e w1 ⟨rfl,hb1⟩
 have hd2:=HB.out.later hb1
 rw [digs_single hy hyB] at hd2
 obtain ⟨ad,hkl,rfl,hbb,hcell⟩:=hd2.rd.cellM (k:=0) (by omega)
 replace hcell:w1.cell? ad=some (.int .i64 (y:Int)):=hcell
 have hdv:=rdivDigit_any A n c y (digs x) w1 (HA.out.later hb1) hy hyB hn
 rw [val_digs] at hdv
 have HD:=Lib.hid hdv
 clear hdv hd2
 go_wp2_with fail
 refine HD.out.mono ?_
 rintro e w2 ⟨A2,m2,c2,rfl,hq,hb2⟩
 obtain ⟨rm,hrm⟩:∃ rm,rm=x % y:=⟨_,rfl⟩
 rw [←hrm]
 have hrmB:rm<B:=by rw [hrm];exact Nat.lt_trans (Nat.mod_lt _ hy) hyB
 have hk:=CBlk.new w2 #[.int .i64 (rm:Int)] 3 _ rfl
 have hal:Below w2.heap.size w2 (w2.alloc (.cells #[.int .i64 (rm:Int)] 3)):=(Below.refl _ _).alloc (Nat.le_refl _) _
 have ht:=rtrim_any _ 1 1 _ _ (DigI.one hk hrmB) (by omega)
 rw [val_single,hrm] at ht
 have HT:=Lib.hid ht
 have HRM:=Lib.hid hrm
 clear ht hrm
 go_wp2_with fail
 have hh:=HRM.out
 subst hh
 refine HT.out.mono ?_
 rintro e w3 ⟨m3,rfl,hr3,hb3⟩
 have hb23:=hal.trans (hb3.mono hal.size)
 have hb13:=hb2.trans (hb23.mono hb2.size)
 go_wp2
 go_ret2
 exact ⟨_,_,_,_,_,_,rfl,hq.later hb23,hr3,hb1.trans (hb13.mono hb1.size)⟩
theorem scaled_ok {x y n k F V X:Nat} (hx:(digs x).length=n) (hy:(digs y).length=k+2) (hyx:y≤x) (hFd:F=B / ((digs y).getD (k+1) 0+1)) (hVd:V=y*F) (hXd:X=x*F) :
  0<F∧F<B∧k+2≤n∧(digs V).length=k+2∧(∀ h:k+1<(digs V).length,B≤2*(digs V)[k+1]+1) ∧
  n≤(digs X).length∧(digs X).length≤n+1∧X<B ^ (n+1 - (k+2))*V∧0<V:=by
 subst hVd hXd
 have hy0:0<y:=by
  rcases Nat.eq_zero_or_pos y with rfl | h
  ·rw [digs_zero] at hy;simp at hy
  ·exact h
 have h1:=pow_le_of_digs_length hy0
 have h2:=lt_of_digs_length y
 rw [hy] at h1 h2
 have e1:(digs y).getD (k+1) 0=y / B ^ (k+1):=by
  rw [digs_getD,Nat.mod_eq_of_lt]
  exact Nat.div_lt_of_lt_mul (by rw [←Nat.pow_succ];exact h2)
 have hP:0<B ^ (k+1):=Nat.pow_pos B_pos
 have hd1:1≤y / B ^ (k+1):=(Nat.le_div_iff_mul_le hP).2 (by rw [Nat.one_mul];exact h1)
 have hdB:y / B ^ (k+1)<B:=by rw [←e1];exact getD_lt (wf_digs y) _
 have hF:F=B / (y / B ^ (k+1)+1):=by rw [←e1];exact hFd
 have hF0:0<F:=by rw [hF];exact Nat.div_pos (by omega) (by omega)
 have hFB:F<B:=by rw [hF];exact Nat.div_lt_self B_pos (by omega)
 obtain ⟨s1,s2⟩:=scale_big (n:=k+1) h2 h1 hF rfl
 have hV0:0<y*F:=Nat.mul_pos hy0 hF0
 have hVl:(digs (y*F)).length=k+2:=by
  have h3:=digs_length_le s1
  have h4:=digs_length_mono (Nat.le_mul_of_pos_right y hF0)
  omega
 have hx0:0<x:=Nat.lt_of_lt_of_le hy0 hyx
 have h5:=pow_le_of_digs_length hx0
 have h6:=lt_of_digs_length x
 rw [hx] at h5 h6
 have hn:k+2≤n:=by rw [←hx,←hy];exact digs_length_mono hyx
 refine ⟨hF0,hFB,hn,hVl,?_,?_,?_,?_,hV0⟩
 ·intro h
  have e2:(digs (y*F))[k+1]=y*F / B ^ (k+1):=by
   have h7:=digs_getD (k+1) (y*F)
   rw [Dn.getD_in h,Nat.mod_eq_of_lt] at h7
   ·exact h7
   ·exact Nat.div_lt_of_lt_mul (by rw [←Nat.pow_succ];exact s1)
  rw [e2]
  exact s2
 ·rw [←hx];exact digs_length_mono (Nat.le_mul_of_pos_right x hF0)
 ·refine digs_length_le ?_
  rw [Nat.pow_succ]
  exact Nat.mul_lt_mul'' h6 hFB
 ·rw [←Nat.mul_assoc]
  refine Nat.mul_lt_mul_of_pos_right ?_ hF0
  have h7:B ^ (n+1 - (k+2))*B ^ (k+1)≤B ^ (n+1 - (k+2))*y:=Nat.mul_le_mul_left _ h1
  rw [←Nat.pow_add,show n+1 - (k+2)+(k+1)=n from by omega] at h7
  omega
def DivInv (X V L k:Nat) (lu lq:List Nat):Prop:=Wf lu∧Wf lq∧lq.length=L∧X=V*val (lq.drop k)*B ^ k+val lu∧val (lu.drop k)<V
theorem DivInv.start {X V L:Nat} {lu:List Nat} (hw:Wf lu) (hv:val lu=X) (_hV:0<V) (hX:X<B ^ L*V) (hL:L≤lu.length):DivInv X V L L lu (List.replicate L 0):=by
 refine ⟨hw,Wf.replicate _,by simp,?_,?_⟩
 ·rw [List.drop_of_length_le (by simp),val_nil,Nat.mul_zero,Nat.zero_mul,Nat.zero_add,hv]
 ·have hs:=val_split lu L hL
  rw [hv] at hs
  have h1:B ^ L*val (lu.drop L)<B ^ L*V:=by omega
  exact Nat.lt_of_mul_lt_mul_left h1
theorem DivInv.window {X V L j n:Nat} {lu lq:List Nat} (h:DivInv X V L (j+1) lu lq) (hV:V<B ^ n) (hj:j+n<lu.length) :
  val (lu.drop (j+(n+1)))=0∧val (lu.drop j)<B*V∧val (lu.drop j)=val ((lu.drop j).take n)+B ^ n*lu.getD (j+n) 0:=by
 obtain ⟨hw,_,_,_,hlt⟩:=h
 have hz:=above_zero lu j n V hlt hV
 rw [List.drop_drop] at hz
 refine ⟨hz,?_,?_⟩
 ·have hd:lu.drop j=lu[j] :: lu.drop (j+1):=List.drop_eq_getElem_cons (by omega)
  rw [hd,val_cons]
  have h1:=hw.get (i:=j) (by omega)
  have h2:B*(val (lu.drop (j+1))+1)≤B*V:=Nat.mul_le_mul_left B hlt
  rw [Nat.mul_add,Nat.mul_one] at h2
  omega
 ·have hs:=val_split (lu.drop j) (n+1) (by rw [List.length_drop];omega)
  rw [List.drop_drop,hz,Nat.mul_zero,Nat.add_zero,val_take_getD] at hs
  rw [hs]
  congr 2
  simp [List.getD,List.getElem?_drop]
theorem DivInv.next {X V L j n t:Nat} {lu lq ws:List Nat} (h:DivInv X V L (j+1) lu lq) (hn:ws.length=n) (hj:j+n<lu.length) (hV:V<B ^ n) (hV0:0<V) (hw:Wf ws) (hjL:j<L)
  (ht:t=val (lu.drop j) / V) (hr:val ws=val (lu.drop j) % V) (htB:t<B):DivInv X V L j (mid lu j (ws++[0])) (lq.set j t):=by
 obtain ⟨hz,_,_⟩:=h.window hV hj
 obtain ⟨hwu,hwq,hl,hX,hlt⟩:=h
 obtain ⟨m1,m2⟩:=mid_val lu ws j n hn hj hz
 refine ⟨mid_wf hwu (hw.append (Wf.cons B_pos Wf.nil)),hwq.set _ htB,by rw [List.length_set];exact hl,?_,?_⟩
 ·rw [m2,hr,val_drop_set _ _ _ (by omega),ht]
  refine div_round (lo:=val (lu.take j)) ?_
  rw [Nat.pow_succ] at hX
  rw [hX,val_split lu j (by omega)]
 ·rw [m1,hr]
  exact Nat.mod_lt _ hV0
theorem DivInv.done {x y F L:Nat} {lu lq:List Nat} (h:DivInv (x*F) (y*F) L 0 lu lq) (hy:0<y) (hF:0<F):val lq=x / y∧val lu=x % y*F:=by
 obtain ⟨_,_,_,hX,hlt⟩:=h
 simp only [List.drop_zero,Nat.pow_zero,Nat.mul_one] at hX hlt
 exact div_end hy hF hX hlt
end Go.Proofs.YteajibbphcfmeaaGreatDoor
namespace Go.Proofs.YteajibbphcfmeaaGreatDoor
open Go.RowKit
open Flt
end Go.Proofs.YteajibbphcfmeaaGreatDoor
