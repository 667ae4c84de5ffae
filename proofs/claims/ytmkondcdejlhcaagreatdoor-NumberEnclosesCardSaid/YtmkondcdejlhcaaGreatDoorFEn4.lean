/- NumberEncloses: the law for every input. -/
import Derived.Test.YtmkondcdejlhcaaGreatDoorFEnf
set_option maxRecDepth 100000
set_option maxHeartbeats 1000000
namespace Go.Proofs.YtmkondcdejlhcaaGreatDoor
section
open Go.RowKit Bn Dn
theorem zgA{p q:Q}(hp:LowQ p)(hq:LowQ q){N:Nat}(sp:Small p N)(sq:Small q N)(h0:0<N)(hN:N≤600)(h:cmpI p q≤0):zaW (txt p).data.toList (txt q).data.toList=0:=by
 obtain⟨a1,a2⟩:=zcd (za8 hp) sp hN h0;obtain⟨b1,b2⟩:=zcd (za8 hq) sq hN h0;unfold zaW;rw[a1,b1,a2,b2,zen hp hq,if_neg (by omega),if_neg (by omega),if_neg (by omega)]
structure Sp6 (p q:Q):Prop where
 l1:LowQ p
 l2:LowQ q
 s1:Small p 6
 s2:Small q 6
 le:cmpI p q≤0
theorem zoi{s t:ByteArray}(h:zpz 6 s t):∃ p q,Sp6 p q∧s=txt p∧t=txt q:=
 ⟨_,_,⟨zfU h.1.1,zfU h.2.1.1,h.1.2.1,h.2.1.2.1,h.2.2⟩,zjw h.1.1,zjw h.2.1.1⟩
section
variable {p q p' q':Q} (h:Sp6 p q) (h':Sp6 p' q')
include h h'
theorem ze3:err2 (zaW (txt p).data.toList (txt q).data.toList) (zaW (txt p').data.toList (txt q').data.toList)=0:=by
 rw[zgA h.l1 h.l2 h.s1 h.s2 (by omega) (by omega) h.le,zgA h'.l1 h'.l2 h'.s1 h'.s2 (by omega) (by omega) h'.le];rfl
theorem zeM:zaf (txt p).data.toList=p∧zaf (txt q).data.toList=q∧zaf (txt p').data.toList=p'∧zaf (txt q').data.toList=q':=
 ⟨(zcd (za8 h.l1) h.s1 (by omega) (by omega)).2,(zcd (za8 h.l2) h.s2 (by omega) (by omega)).2,(zcd (za8 h'.l1) h'.s1 (by omega) (by omega)).2,(zcd (za8 h'.l2) h'.s2 (by omega) (by omega)).2⟩
theorem zdY:(txt p).size≤4294967296∧(txt q).size≤4294967296∧(txt p').size≤4294967296∧(txt q').size≤4294967296:=by
 have a:=zbc h.l1 h.s1 (by omega);have b:=zbc h.l2 h.s2 (by omega);have c:=zbc h'.l1 h'.s1 (by omega);have d:=zbc h'.l2 h'.s2 (by omega);omega
theorem zie{x:Q}(e:Encl (zeW p q p' q').1 (zeW p q p' q').2 x 30):zdy 28 #[.agg #[.string (txt p),.string (txt q)],.agg #[.string (txt p'),.string (txt q')]] (.tuple #[.agg #[.string (txt (zeW p q p' q').1),.string (txt (zeW p q p' q').2)],.int .i64 0]):=fun W hT=>by
 obtain⟨z1,z2,z3,z4⟩:=zdY h h';obtain⟨r1,r2,r3,r4⟩:=zeM h h';have g:=zma (txt p) (txt q) (txt p') (txt q') W hT z1 z2 z3 z4 0 (ze3 h h').symm (zeW p q p' q') (by rw[r1,r2,r3,r4]);rw[if_neg (by simp),if_neg (by simp),if_neg (by simp)] at g;exact zfj (g.mono fun _ _ k=>zfq e.l1 e.l2 e.s1 e.s2 (by omega) (by omega) k)
theorem zgD {x:Q} (e:Encl (zdx p q p' q').1 (zdx p q p' q').2 x 30):zdy 29 #[.agg #[.string (txt p),.string (txt q)],.agg #[.string (txt p'),.string (txt q')]] (.tuple #[.agg #[.string (txt (zdx p q p' q').1),.string (txt (zdx p q p' q').2)],.int .i64 0]):=fun W hT=>by
 obtain⟨z1,z2,z3,z4⟩:=zdY h h';obtain⟨r1,r2,r3,r4⟩:=zeM h h';have g:=zkW (txt p) (txt q) (txt p') (txt q') W hT z1 z2 z3 z4 0 (ze3 h h').symm (zdx p q p' q') (by rw[r1,r2,r3,r4]);rw[if_neg (by simp),if_neg (by simp),if_neg (by simp)] at g;exact zfj (g.mono fun _ _ k=>zfq e.l1 e.l2 e.s1 e.s2 (by omega) (by omega) k)
theorem zgt {x:Q} (e:Encl (zcC p q p' q').1 (zcC p q p' q').2 x 30):zdy 30 #[.agg #[.string (txt p),.string (txt q)],.agg #[.string (txt p'),.string (txt q')]] (.tuple #[.agg #[.string (txt (zcC p q p' q').1),.string (txt (zcC p q p' q').2)],.int .i64 0]):=fun W hT=>by
 obtain⟨z1,z2,z3,z4⟩:=zdY h h';obtain⟨r1,r2,r3,r4⟩:=zeM h h';have g:=zgx (txt p) (txt q) (txt p') (txt q') W hT z1 z2 z3 z4 0 (ze3 h h').symm (zcC p q p' q') (by rw[r1,r2,r3,r4]);rw[if_neg (by simp),if_neg (by simp),if_neg (by simp)] at g;exact zfj (g.mono fun _ _ k=>zfq e.l1 e.l2 e.s1 e.s2 (by omega) (by omega) k)
theorem zmj {x:Q} (e:Encl (zcH p q p' q').1 (zcH p q p' q').2 x 30):zdy 34 #[.agg #[.string (txt p),.string (txt q)],.agg #[.string (txt p'),.string (txt q')]] (.tuple #[.agg #[.string (txt (zcH p q p' q').1),.string (txt (zcH p q p' q').2)],.int .i64 0]):=fun W hT=>by
 obtain⟨z1,z2,z3,z4⟩:=zdY h h';obtain⟨r1,r2,r3,r4⟩:=zeM h h';have g:=zfL (txt p) (txt q) (txt p') (txt q') W hT z1 z2 z3 z4 0 (ze3 h h').symm (zcH p q p' q') (by rw[r1,r2,r3,r4]);rw[if_neg (by simp),if_neg (by simp),if_neg (by simp)] at g;exact zfj (g.mono fun _ _ k=>zfq e.l1 e.l2 e.s1 e.s2 (by omega) (by omega) k)
theorem zkF (e:zcH p q p' q'=(zb6,zb6)):zdy 34 #[.agg #[.string (txt p),.string (txt q)],.agg #[.string (txt p'),.string (txt q')]] (.tuple #[.agg #[.string ⟨#[]⟩,.string ⟨#[]⟩],.int .i64 6]):=fun W hT=>by
 obtain⟨z1,z2,z3,z4⟩:=zdY h h';obtain⟨r1,r2,r3,r4⟩:=zeM h h';have g:=zfL (txt p) (txt q) (txt p') (txt q') W hT z1 z2 z3 z4 0 (ze3 h h').symm (zb6,zb6) (by rw[r1,r2,r3,r4,e]);rw[if_neg (by simp),if_neg (by simp),if_neg (by simp)] at g;exact zeb #[] #[] g rfl rfl
theorem znY {x y:Q} {P R X P' R' Y:Int} {E E':Nat} (m:Mid p q x P R X E) (m':Mid p' q' y P' R' Y E') (lx:LowQ x) (ly:LowQ y):∃ c E4,((E4=0∧c=cmpI x y)∨E4=24)∧zdy 33 #[.agg #[.string (txt p),.string (txt q)],.agg #[.string (txt p'),.string (txt q')]] (.tuple #[.int .i64 c,.int .i64 E4]):=by
 obtain⟨z1,z2,z3,z4⟩:=zdY h h';obtain⟨r1,r2,r3,r4⟩:=zeM h h';have aA:∀ {u v:Q} {a b:Int} {d:Nat},Val u a d→Val v b d→a<b→cmpI u v = -1:=fun {u v a b d} hu hv hab=>by
  have:=(zeq hu hv).2 hab
  rcases zpy hu.2.2 hv.2.2 with h | h | h<;>omega
 have hE:=m.v1.2.1;have aC:=m'.v1.2.1;have t:∀ {u:Q} {a:Int},Val u a E'→Val u (a*(E:Int)) (E*E'):=fun g=>by have:=g.scale hE;rwa [Nat.mul_comm] at this
 have vq:=m.v2.scale aC;have vp:=m.v1.scale aC;have vx:=m.vx.scale aC;have aE:=t m'.v1;have aD:=t m'.v2;have vy:=t m'.vx;have k1:=Int.mul_le_mul_of_nonneg_right m.le1 (show(0:Int)≤(E':Int) by omega);have k2:=Int.mul_le_mul_of_nonneg_right m.le2 (show(0:Int)≤(E':Int) by omega);have k3:=Int.mul_le_mul_of_nonneg_right m'.le1 (show(0:Int)≤(E:Int) by omega);have k4:=Int.mul_le_mul_of_nonneg_right m'.le2 (show(0:Int)≤(E:Int) by omega);refine⟨_,_,?_,fun W hT=>zfH (txt p) (txt q) (txt p') (txt q') W hT z1 z2 z3 z4 0 (ze3 h h').symm⟩;rw[r1,r2,r3,r4,zen h.l2 h'.l1,zen h.l1 h'.l2,if_neg (show ¬ ((0:Int)≠0) by simp),if_neg (show ¬ ((0:Int)≠0) by simp)]
 by_cases c1:cmpI q p'<0
 ·rw[if_pos c1,if_pos c1]
  have:=(zeq vq aE).1 c1;exact .inl ⟨rfl,(aA vx vy (by omega)).symm⟩
 ·rw[if_neg c1,if_neg c1]
  by_cases c2:0<cmpI p q'
  ·rw[if_pos c2,if_pos c2]
   have:=mt (zbh vp aD).2 (by omega);refine .inl ⟨rfl,?_⟩;rw[zn9 ly.1 lx.1,aA vy vx (by omega)];rfl
  ·rw[if_neg c2,if_neg c2]
   by_cases c3:txt p=txt p'∧txt q=txt q'∧txt p=txt q
   ·rw[if_pos c3]
    have e1:p=q:=by have:=congrArg (fun s:ByteArray=>zaf s.data.toList) c3.2.2;rwa [r1,r2] at this
    have e2:p=p':=by have:=congrArg (fun s:ByteArray=>zaf s.data.toList) c3.1;rwa [r1,r3] at this
    have e3:q=q':=by have:=congrArg (fun s:ByteArray=>zaf s.data.toList) c3.2.1;rwa [r2,r4] at this
    subst e1 e2 e3;have i1:=vp.inj vq;have i2:=vp.inj aE;have i3:=vp.inj aD;refine .inl ⟨rfl,?_⟩;have a1:=(zbh vx vy).2 (by omega);have a2:=mt (zeq vx vy).1 (by omega);omega
   ·rw[if_neg c3]
    exact .inr rfl
end
theorem znI(s t s2 t2:ByteArray)(A B:Int)(hA:0≤A∧A≤255)(hB:0≤B∧B≤255)(w:World)(KV:zjJ)(hT:Tabs w) :
  Calls Tryz.prog 4 #[.agg #[.string s,.string t],.agg #[.string s2,.string t2],.agg #[.int .u8 A,.int .u8 B]] w fun e w'=>e = .returned (.bool true)∧Below w.heap.size w w':=by
 obtain⟨b1,f1,c1⟩:=zjA 6 s t (by omega) (by omega);obtain⟨b2,f2,c2⟩:=zjA 6 s2 t2 (by omega) (by omega);have aE:zbl 26 #[.agg #[.string s,.string t],.int .i64 6] (.bool b1):=c1;have aF:zbl 26 #[.agg #[.string s2,.string t2],.int .i64 6] (.bool b2):=c2
 cases b1
 ·exact zlD s t s2 t2 A B w KV hT aE
 ·cases b2
  ·exact zlH s t s2 t2 A B w KV hT aE aF
  ·obtain⟨p,q,h,rfl,rfl⟩:=zoi (f1 rfl)
   obtain⟨p',q',h',rfl,rfl⟩:=zoi (f2 rfl);clear f1 f2 c1 c2;have tw:∀ (p q:Q) (A:Int),Sp6 p q→0≤A∧A≤255→∃ x P R X E,LowQ x∧Small x 23∧Mid p q x P R X E∧zbl 27 #[.agg #[.string (txt p),.string (txt q)],.int .u8 A] (.string (txt x)):=by
    intro p q A h hA;have aO:((A.toNat:Nat):Int)=A:=Int.toNat_of_nonneg hA.1;have vt:Val (zbw A 255) ((A.toNat:Nat):Int) 255:=by rw[aO];exact Val.frac (by omega)
    have lt:LowQ (zbw A 255):=za4 _ (by omega);have st:Small (zbw A 255) 3:=zeX (by omega) (by omega) (by omega);obtain⟨P,R,X,E,hm⟩:=zjX h.l1.1 h.l2.1 h.le (A:=A.toNat) (by omega) vt;have l1:=zjS q p h.l2.1 h.l1.1;have s1:=zdJ h.s2 h.s1 h.l2.1 h.l1.1;have l2:=zes _ _ lt.1 l1.1;have s2:=zbo st s1 lt.1 l1.1;have l3:LowQ (ziQ p q (zbw A 255)):=za4 _ (Nat.mul_pos h.l1.1 l2.1);have s3:Small (ziQ p q (zbw A 255)) 23:=(zdB h.s1 s2 h.l1.1 l2.1).more (by omega);refine⟨_,P,R,X,E,l3,s3,hm,zl6 _ _ _ _ _ _ A hA (fun W => ?_) (tSub h.l2 h.l1 h.s2 h.s1 (by omega) (by omega)) (tMul lt l1 (st.more (show 3≤13 by omega)) s1 (by omega) (by omega)) (tAdd h.l1 l2 (h.s1.more (show 6≤3+(6+6+1) by omega)) s2 (by omega) (by omega))⟩;have g:=zpT A 255 W (by omega) (by omega) (by omega);rw[zmK A (by omega)] at g;exact zfM g
   obtain⟨x,P,R,X,E,lx,sx,hm,HX⟩:=tw p q A h hA;obtain⟨y,P',R',Y,E',ly,sy,aA,HY⟩:=tw p' q' B h' hB;have e1:=zlT hm aA h.s1 h.s2 h'.s1 h'.s2;have e2:=zkf hm aA h.s1 h.s2 h'.s1 h'.s2;have e3:=zkJ hm aA h.s1 h.s2 h'.s1 h'.s2;obtain⟨c,E4,hc,HC⟩:=znY h h' hm aA lx ly;have aI:LowQ (addQ x y):=za4 _ (Nat.mul_pos lx.1 ly.1);have aG:=zjS x y lx.1 ly.1;have aL:=zes x y lx.1 ly.1;have aH:=(zdB sx sy lx.1 ly.1).more (show 23+23+1≤60 by omega);have aK:=(zdJ sx sy lx.1 ly.1).more (show 23+23+1≤60 by omega);have aJ:=(zbo sx sy lx.1 ly.1).more (show 23+23≤60 by omega);have aC:∀ {a b z:Q},Encl a b z 30→LowQ z→Small z 60→zbl 32 #[.agg #[.string (txt a),.string (txt b)],.string (txt z)] (.bool true):=fun {a b z} g lz sz=>
    tHas g.l1 g.l2 lz (g.s1.more (show 30≤60 by omega)) (g.s2.more (show 30≤60 by omega)) sz (by omega) (by omega) g.in1 g.in2
   have aD:∀ {a b z:Q},Encl a b z 30→zbl 31 #[.agg #[.string (txt a),.string (txt b)]] (.int .i64 0):=fun {a b z} g=>
    zj3 g.l1 g.l2 g.s1 g.s2 (by omega) g.le
   have lz:LowQ ⟨false,0,1⟩:=⟨by decide,by decide,fun h=>by cases h⟩;have ez:(⟨#[48]⟩:ByteArray)=txt ⟨false,0,1⟩:=by decide +kernel
   have sz:Small ⟨false,0,1⟩ 6:=⟨by decide,by decide⟩
   by_cases hz:cmpI p' ⟨false,0,1⟩≤0∧cmpI ⟨false,0,1⟩ q'≤0
   ·have aM:=zkF h h' (zlG h'.l1 h'.l2 hz.1 hz.2)
    refine zin (txt p) (txt q) (txt p') (txt q') (txt x) (txt y) _ _ _ _ _ _ _ _ _ (txt x) (txt x) (txt x) A B c E4 (cmpI x y) w KV hT aE aF HX HY (zie h h' e1) (zgD h h' e2) (zgt h h' e3) (aD e1) (aD e2) (aD e3)
     (tAdd lx ly sx sy (by omega) (by omega)) (aC e1 aI aH) (tSub lx ly sx sy (by omega) (by omega)) (aC e2 aG aK) (tMul lx ly sx sy (by omega) (by omega)) (aC e3 aL aJ) HC (tCmp lx ly sx sy (by omega) (by omega)) (.inl ⟨aM,?_⟩) hc
    rw[ez];exact tHas h'.l1 h'.l2 lz h'.s1 h'.s2 sz (by omega) (by omega) hz.1 hz.2
   ·have h0:0<P'∨R'<0:=by
     have vz:Val ⟨false,0,1⟩ 0 E':=⟨by simp[sI],aA.v1.2.1,by decide⟩;rw[zbh aA.v1 vz,zbh vz aA.v2] at hz;have:=aA.le1;have:=aA.le2;omega
    have e4:=zmL hm aA h0 h'.l1 h'.l2 h.s1 h.s2 h'.s1 h'.s2;have aP:y.top≠0:=zde aA.vx (by have:=aA.le1;have:=aA.le2;omega);have lr:=zhr ly (by omega);have aN:=zes x (recS y) lx.1 lr.1;have aQ:=(zbo sx (zdQ sy) lx.1 lr.1).more (show 23+23≤60 by omega);refine zin (txt p) (txt q) (txt p') (txt q') (txt x) (txt y) _ _ _ _ _ _ _ _ _ _ _ _ A B c E4 (cmpI x y) w KV hT aE aF HX HY (zie h h' e1) (zgD h h' e2) (zgt h h' e3) (aD e1) (aD e2) (aD e3)
     (tAdd lx ly sx sy (by omega) (by omega)) (aC e1 aI aH) (tSub lx ly sx sy (by omega) (by omega)) (aC e2 aG aK) (tMul lx ly sx sy (by omega) (by omega)) (aC e3 aL aJ) HC (tCmp lx ly sx sy (by omega) (by omega)) (.inr ⟨zmj h h' e4,fun W => ?_,aD e4,tDiv lx ly sx sy (by omega) (by omega) aP,aC e4 aN aQ⟩) hc
    rw[ez];exact znG _ _ _ _ _ W (tCmp h'.l1 lz h'.s1 sz (by omega) (by omega)) (tCmp lz h'.l2 sz h'.s2 (by omega) (by omega)) hz
end
section
open Go.RowKit Bn
theorem zhv(A A':Option Addr)(n c c':Nat)(xs:List Value)(hxs:∀ x ∈ xs,∃ i:Int,x = .int .i64 i)(w:World)(B:Nat)(h:zaA w B 1 A n xs)(h':zaA w B 1 A' n xs)(hn:n≤4096) :
  Calls Tryz.prog 57 #[.slice A n c,.slice A' n c'] w fun e w'=>e = .returned (.bool true)∧∃ m,w'=w.drewN m:=by
 have aE:xs.length=n:=by have:=h.1;omega
 have HX:=Aa hxs;clear hxs;go_enter Tryz.func57,Tryz.ntmps57
 go_wp2_with fail
 go_loopg [5] n (fun m s W=>∃ k:Nat,k≤n∧s = .int .i64 k∧n-k≤m∧∃ q,W=w.drewN q)
 case atStart=>exact⟨0,Nat.zero_le _,rfl,by omega,0,rfl⟩
 case round=>
  obtain⟨k,hk,rfl,hm,q,rfl⟩:=hrel
  by_cases h0:k<n
  ·obtain⟨ad,u,rfl,aG,hu,aD⟩:=h.at_ h0
   obtain⟨aH,u2,rfl,aF,aA,aC⟩:=h'.at_ h0;obtain rfl:u=u2:=by rw[hu] at aA;exact Option.some.inj aA
   obtain⟨i,rfl⟩:=HX.out u (List.mem_of_getElem? hu);clear hu aA
   go_wp2_with fail
   go_region
   go_wp2_with fail
   go_roundg (n-(k+1))
   case measure=>omega
   case rel=>exact⟨k+1,by omega,by go_num,Nat.le_refl _,_,rfl⟩
  ·obtain rfl:n=k:=by omega
   go_wp2_with fail
   go_ret;exact⟨rfl,q,rfl⟩
theorem znu(s t:ByteArray)(w:World):Calls Tryz.prog 37 #[.string s,.string t] w fun e w'=>e = .returned (.agg #[.string s,.string t])∧Below w.heap.size w w':=by
 have hb:Below w.heap.size w (w.alloc (.cells #[.string ⟨#[]⟩,.string ⟨#[]⟩] 39)):=Ac;have q:CBlk (w.alloc (.cells #[.string ⟨#[]⟩,.string ⟨#[]⟩] 39)) w.heap.size #[.string ⟨#[]⟩,.string ⟨#[]⟩] 39:=CBlk.new _ _ _ _ rfl;have y0:=q.cell 0;have y1:=q.cell 1;have f0:=q.frozen 0;have f1:=q.frozen 1;have aA:=zbL hb (g:=w.heap.size) (Nat.le_refl _) (.string s) (.string t);go_enter Tryz.func37,Tryz.ntmps37
 go_upto_region 1 with(fail)
 generalize w.alloc (.cells #[.string ⟨#[]⟩,.string ⟨#[]⟩] 39)=W at *;go_wp2
 refine bodyPost_ret (v := .agg #[.string s,.string t]) (by simp[results,Tryz.results37,go_sem,y0,y1]) rfl ⟨rfl,aA⟩
end
end Go.Proofs.YtmkondcdejlhcaaGreatDoor
