/- NumberBlends: a table's texts; Blend of a table's member; the law's guards. -/
import Derived.Test.YtmkondcdejlhcaaGreatDoorLBl1
namespace Go.Proofs.YtmkondcdejlhcaaGreatDoor
open Go.RowKit Bn Dn
structure TabF (l:List (ByteArray × ByteArray)):Prop where
 e:tabE l=0
 len:l.length≤6
 few:∀ i (h:i<l.length),FewK 6 l[i].1∧FewK 6 l[i].2
theorem TabF.tab {l:List (ByteArray × ByteArray)} (h:TabF l):TabQ (l.map rdP):=(zpX h.e).2.2.1
theorem TabF.small {l:List (ByteArray × ByteArray)} (h:TabF l):∀ i (hi:i<(l.map rdP).length),Small (l.map rdP)[i].1 6∧Small (l.map rdP)[i].2 6:=fun i hi=>by
 have h1:i<l.length:=by simpa using hi
 rw [List.getElem_map];exact ⟨(h.few i h1).1.2.1,(h.few i h1).2.2.1⟩
theorem TabF.txt {l:List (ByteArray × ByteArray)} (h:TabF l) (i:Nat) (h1:i<l.length) (h2:i<(l.map rdP).length):l[i].1=txt (l.map rdP)[i].1∧l[i].2=txt (l.map rdP)[i].2:=by
 rw [List.getElem_map];exact ⟨zfk (h.few i h1).1.1,zfk (h.few i h1).2.1⟩
theorem TabF.size {l:List (ByteArray × ByteArray)} (h:TabF l):∀ p ∈ l,p.1.size≤4294967296∧p.2.size≤4294967296:=fun p hp=>by
 obtain ⟨i,hi,rfl⟩:=List.mem_iff_getElem.1 hp;have a:=(h.few i hi).1.2.2;have b:=(h.few i hi).2.2.2;omega
def zd7 (A:Option Addr) (n c:Nat) (w:World) (s:ByteArray) (v:ByteArray) (E:Int):Prop:=∀ W,Tabs W→Below w.heap.size w W→Calls Tryz.prog 41 #[.slice A n c,.string s] W fun e w'=>e = .returned (.tuple #[.string v,.int .i64 E])∧Below W.heap.size W w'
section
variable {l:List (ByteArray × ByteArray)} {A:Option Addr} {n c:Nat} {w:World} (h:TabF l) (hp:PtsR w w.heap.size A n l)
include h hp
theorem zhT {x v:Q} (lx:LowQ x) (sx:Small x 30) (hv:zbw x none (l.map rdP)=some v) (lv:LowQ v) (sv:Small v 80):zd7 A n c w (txt x) (txt v) 0:=fun W hT hb=>by
 have hz:=za9 lx sx (by omega);have g:=zgC A n c l (txt x) W hT (hp.later hb) h.size (by omega);have hr:=zfo (zba lx) sx (by omega) (by omega);have e1:blE l (txt x).data.toList=0:=by
  unfold blE zgR;rw [if_neg (show ¬ tabE l≠0 from fun k=>k h.e),hr.1,hr.2,if_neg (by simp),hv];exact (zdk sv (by omega) (by omega) lv.1).1
 have e2:blT l (txt x).data.toList=zaq v:=by
  unfold blT zgR;rw [if_neg (show ¬ tabE l≠0 from fun k=>k h.e),hr.1,hr.2,if_neg (by simp),hv];exact (zdk sv (by omega) (by omega) lv.1).2
 rw [e1,e2] at g;exact g.mono fun _ _ ⟨s,he,hs,hb⟩=>⟨by rw [he,zcZ ⟨hs,lv⟩],hb⟩
theorem zlc {x:Q} (lx:LowQ x) (sx:Small x 30) (hv:zbw x none (l.map rdP)=none):zd7 A n c w (txt x) ⟨#[]⟩ 3:=fun W hT hb=>by
 have hz:=za9 lx sx (by omega);have g:=zgC A n c l (txt x) W hT (hp.later hb) h.size (by omega);have hr:=zfo (zba lx) sx (by omega) (by omega);have e1:blE l (txt x).data.toList=3:=by
  unfold blE zgR;rw [if_neg (show ¬ tabE l≠0 from fun k=>k h.e),hr.1,hr.2,if_neg (by simp),hv]
 have e2:blT l (txt x).data.toList=[]:=by
  unfold blT zgR;rw [if_neg (show ¬ tabE l≠0 from fun k=>k h.e),hr.1,hr.2,if_neg (by simp),hv]
 rw [e1,e2] at g;exact zdd #[] g rfl
end
structure Seg (A:Option Addr) (n c:Nat) (w:World) (P:Int) (aX aY bX bY sa ha mi x v sb d1 d2 d3 d4 pr:ByteArray):Prop where
 h1:zaS 20 #[.string aX,.string bX] (.string sa)
 h2:zaS 42 #[.string sa] (.string ha)
 h3:zd7 A n c w ha mi 0
 h5:zaS 27 #[.agg #[.string aX,.string bX],.int .u8 P] (.string x)
 h6:zd7 A n c w x v 0
 h7:zaS 20 #[.string aY,.string bY] (.string sb)
 h8:zaS 42 #[.string sb] (.string mi)
 h9:zaS 11 #[.string v] (.int .i64 0)
 k1:zaS 21 #[.string v,.string aY] (.string d1)
 k2:zaS 21 #[.string bX,.string aX] (.string d2)
 k3:zaS 22 #[.string d1,.string d2] (.string pr)
 k4:zaS 21 #[.string bY,.string aY] (.string d3)
 k5:zaS 21 #[.string x,.string aX] (.string d4)
 k6:zaS 22 #[.string d3,.string d4] (.string pr)
theorem zry {l:List (ByteArray × ByteArray)} {A:Option Addr} {n c:Nat} {w:World} (h:TabF l) (hp:PtsR w w.heap.size A n l) (P:Int) (hP:0≤P∧P≤255) (i:Nat) (hi:i+1<l.length) :
  ∃ sa ha mi x v sb d1 d2 d3 d4 pr,Seg A n c w P (l[i]'(by omega)).1 (l[i]'(by omega)).2 l[i+1].1 l[i+1].2 sa ha mi x v sb d1 d2 d3 d4 pr:=by
 have aI:i<l.length:=by omega
 have T:=h.tab;have S:=h.small;have k0:i<(l.map rdP).length:=by simpa using aI
 have k1:i+1<(l.map rdP).length:=by simpa using hi
 obtain ⟨t1,t2⟩:=h.txt i aI k0;obtain ⟨t3,t4⟩:=h.txt (i+1) hi k1;rw [t1,t2,t3,t4];have la:=T.low1 i k0;have lb:=T.low2 i k0;have lc:=T.low1 _ k1;have ld:=T.low2 _ k1
 obtain ⟨sa,sb⟩:=S i k0;obtain ⟨sc,sd⟩:=S (i+1) k1;have aL:=T.inc i (i+1) k0 k1 (by omega);have hm:=ziy T k1;have aE:∀ x,LowQ x→Small x 30→cmpI ((l.map rdP)[i]'k0).1 x≤0→cmpI x ((l.map rdP)[i+1]'k1).1≤0→∃ v,zbw x none (l.map rdP)=some v∧LowQ v∧Small v 80∧mulQ (subQ v ((l.map rdP)[i]'k0).2) (subQ ((l.map rdP)[i+1]'k1).1 ((l.map rdP)[i]'k0).1)=mulQ (subQ ((l.map rdP)[i+1]'k1).2 ((l.map rdP)[i]'k0).2) (subQ x ((l.map rdP)[i]'k0).1):=fun x lx sx g1 g2=>zmG (x:=x) T S lx sx k1 g1 g2
 generalize (l.map rdP)[i].1=a at *;generalize (l.map rdP)[i].2=b at *;generalize (l.map rdP)[i+1].1=cc at *;generalize (l.map rdP)[i+1].2=d at *;have aM:((P.toNat:Nat):Int)=P:=Int.toNat_of_nonneg hP.1;have vt:Val (zbg P 255) ((P.toNat:Nat):Int) 255:=by rw [aM];exact Val.frac (by omega)
 have lt:LowQ (zbg P 255):=zaQ _ (by omega);have st:Small (zbg P 255) 3:=zdA (by omega) (by omega) (by omega);obtain ⟨Pn,R,X,E,aA⟩:=zlI la.1 lc.1 (Int.le_of_lt aL) (A:=P.toNat) (by omega) vt;have l1:=zci cc a lc.1 la.1;have s1:=zbE sc sa lc.1 la.1;have l2:=zbB _ _ lt.1 l1.1;have s2:=zbZ st s1 lt.1 l1.1;have l3:LowQ (zh5 a cc (zbg P 255)):=zaQ _ (Nat.mul_pos la.1 l2.1);have s3:Small (zh5 a cc (zbg P 255)) 30:=(zcz sa s2 la.1 l2.1).more (by omega);obtain ⟨v,hv,lv,sv,aC⟩:=aE _ l3 s3 ((zgB aA.v1 aA.vx).2 aA.le1) ((zgB aA.vx aA.v2).2 aA.le2);have aD:LowQ (addQ a cc):=zaQ _ (Nat.mul_pos la.1 lc.1);have aH:=zcz sa sc la.1 lc.1;have aF:LowQ (addQ b d):=zaQ _ (Nat.mul_pos lb.1 ld.1);have aG:=zcz sb sd lb.1 ld.1;have aN:LowQ (mulQ (addQ a cc) zdx):=zbB _ _ aD.1 (by decide);have aO:=(zbZ aH zhD aD.1 (by decide));have aJ:LowQ (mulQ (addQ b d) zdx):=zbB _ _ aF.1 (by decide);have aK:=(zbZ aG zhD aF.1 (by decide));have m1:=zci v b lv.1 lb.1;have n1:=(zbE sv sb lv.1 lb.1).more (show 80+6+1≤100 by omega);have m3:=zci d b ld.1 lb.1;have n3:=(zbE sd sb ld.1 lb.1).more (show 6+6+1≤100 by omega);have m4:=zci (zh5 a cc (zbg P 255)) a l3.1 la.1;have n4:=(zbE s3 sa l3.1 la.1).more (show 30+6+1≤100 by omega);refine ⟨_,_,_,_,_,_,_,_,_,_,_,⟨tAdd la lc sa sc (by omega) (by omega),zri aD aH (by omega) (by omega),zhT h hp aN (aO.more (by omega)) hm aJ (aK.more (by omega)),?_,zhT h hp l3 s3 hv lv sv,tAdd lb ld sb sd (by omega) (by omega),zri aF aG (by omega) (by omega),
  zrJ lv sv (by omega) (by omega),tSub lv lb sv (sb.more (show 6≤80 by omega)) (by omega) (by omega),tSub lc la sc sa (by omega) (by omega),tMul m1 l1 n1 (s1.more (show 6+6+1≤100 by omega)) (by omega) (by omega),tSub ld lb sd sb (by omega) (by omega),tSub l3 la s3 (sa.more (show 6≤30 by omega)) (by omega) (by omega),?_⟩⟩
 ·refine zm8 _ _ _ _ _ _ P hP (fun W => ?_) (tSub lc la sc sa (by omega) (by omega)) (tMul lt l1 (st.more (show 3≤13 by omega)) s1 (by omega) (by omega)) (tAdd la l2 (sa.more (show 6≤3+(6+6+1) by omega)) s2 (by omega) (by omega))
  have g:=zrn P 255 W (by omega) (by omega) (by omega);rw [znO P (by omega)] at g;exact zdS g
 ·rw [aC]
  exact tMul m3 m4 n3 n4 (by omega) (by omega)
theorem zqE {l:List (ByteArray × ByteArray)} {A:Option Addr} {n c:Nat} {w:World} (h:TabF l) (hp:PtsR w w.heap.size A n l) (i:Nat) (hi:i<l.length):zd7 A n c w l[i].1 l[i].2 0:=by
 have k0:i<(l.map rdP).length:=by simpa using hi
 obtain ⟨t1,t2⟩:=h.txt i hi k0;rw [t1,t2];exact zhT h hp (h.tab.low1 i k0) ((h.small i k0).1.more (by omega)) (zfG h.tab k0) (h.tab.low2 i k0) ((h.small i k0).2.more (by omega))
theorem zpB {l:List (ByteArray × ByteArray)} {A:Option Addr} {n c:Nat} {w:World} (h:TabF l) (hp:PtsR w w.heap.size A n l) (h0:0<l.length):∃ s,zaS 21 #[.string l[0].1,.string ⟨#[49]⟩] (.string s)∧zd7 A n c w s ⟨#[]⟩ 3:=by
 have k0:0<(l.map rdP).length:=by simpa using h0
 obtain ⟨t1,t2⟩:=h.txt 0 h0 k0;have lx:=h.tab.low1 0 k0;have sx:=(h.small 0 k0).1;have T:=h.tab;rw [t1,zcZ zoi];have l1:=zoi.2;have s1:Small ⟨false,1,1⟩ 6:=⟨by decide,by decide⟩;have v1:=zcB lx.1;have v2:=v1.sub ((show Val ⟨false,1,1⟩ 1 1 from ⟨by decide,by omega,by decide⟩).scale v1.2.1);have aA:cmpI (subQ (l.map rdP)[0].1 ⟨false,1,1⟩) (l.map rdP)[0].1<0:=by
  have w1:Val ⟨false,1,1⟩ ((l.map rdP)[0].1.bot:Int) (l.map rdP)[0].1.bot:=by
   have:=(show Val ⟨false,1,1⟩ 1 1 from ⟨by decide,by omega,by decide⟩).scale v1.2.1
   rwa [Int.one_mul,Nat.one_mul] at this
  rw [zbW (v1.sub1 w1) v1];have:=lx.1;omega
 exact ⟨_,tSub lx l1 sx s1 (by omega) (by omega),zlc h hp (zci _ _ lx.1 l1.1) ((zbE sx s1 lx.1 l1.1).more (by omega)) (zj5 T (zci _ _ lx.1 l1.1) k0 aA)⟩
theorem zoO {l:List (ByteArray × ByteArray)} {A:Option Addr} {n c:Nat} {w:World} (h:TabF l) (hp:PtsR w w.heap.size A n l) (h0:0<l.length):∃ s,zaS 20 #[.string (l[l.length - 1]'(by omega)).1,.string ⟨#[49,47,50]⟩] (.string s)∧zd7 A n c w s ⟨#[]⟩ 3:=by
 have hl:(l.map rdP).length=l.length:=by simp
 have k0:l.length - 1<(l.map rdP).length:=by omega
 obtain ⟨t1,t2⟩:=h.txt (l.length - 1) (by omega) k0;have lx:=h.tab.low1 _ k0;have sx:=(h.small _ k0).1;have T:=h.tab;rw [t1,zcZ ziz];have l1:=ziz.2;have s1:Small zdx 6:=⟨by decide,by decide⟩;have v1:=zcB lx.1;have vq:=v1.scale (k:=2) (by omega);have w1:Val zdx ((l.map rdP)[l.length - 1].1.bot:Int) ((l.map rdP)[l.length - 1].1.bot*2):=by
  have:=Val.half.scale v1.2.1
  rwa [Int.one_mul,Nat.mul_comm] at this
 have lz:LowQ (addQ (l.map rdP)[l.length - 1].1 zdx):=zaQ _ (Nat.mul_pos lx.1 l1.1);have aA:cmpI (l.map rdP)[l.length - 1].1 (addQ (l.map rdP)[l.length - 1].1 zdx)<0:=by
  rw [zbW vq (vq.add1 w1)];have:=lx.1;omega
 refine ⟨_,tAdd lx l1 sx s1 (by omega) (by omega),zlc h hp lz ((zcz sx s1 lx.1 l1.1).more (by omega)) (zj9 T lz (by omega) ?_)⟩;have e:∀ j (hj:j<(l.map rdP).length),j=l.length - 1→cmpI (l.map rdP)[j].1 (addQ (l.map rdP)[l.length - 1].1 zdx)<0:=by
  intro j hj e;subst e;exact aA
 exact e _ (by omega) (by omega)
end Go.Proofs.YtmkondcdejlhcaaGreatDoor
