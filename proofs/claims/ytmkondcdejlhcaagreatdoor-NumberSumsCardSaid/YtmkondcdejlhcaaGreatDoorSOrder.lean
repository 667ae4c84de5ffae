/- What read gives; contracts of Check and Order. -/
import Derived.Test.YtmkondcdejlhcaaGreatDoorBRat2
import Derived.Test.YtmkondcdejlhcaaGreatDoorBRead2
import Derived.Test.YtmkondcdejlhcaaGreatDoorBEx3
import Derived.Test.YtmkondcdejlhcaaGreatDoorBRb9
import Derived.Test.YtmkondcdejlhcaaGreatDoorBFloat
import Derived.Test.YtmkondcdejlhcaaGreatDoorBRb8
import Derived.Deep.RegionHeld3
import Derived.Test.YtmkondcdejlhcaaGreatDoorBRb20
import Derived.Test.YtmkondcdejlhcaaGreatDoorBRb24
import Derived.Test.YtmkondcdejlhcaaGreatDoorBDw
import Derived.Laws.Cover2
set_option maxRecDepth 100000
set_option maxHeartbeats 8000000
namespace Go.Proofs.YtmkondcdejlhcaaGreatDoor
section
open Go.RowKit Bn
theorem zgq (s:ByteArray) (w:World) (hT:Tabs w) (hs:s.size≤4294967296) :
  Calls Tryz.prog 12 #[.string s] w fun e w'=>e = .returned (.int .i64 (zad s.data.toList))∧Below w.heap.size w w':=by
 have hr:=zbn s w hT hs;generalize zad s.data.toList=x at hr ⊢;generalize zab s.data.toList=q at hr;go_enter Tryz.func12,Tryz.ntmps12
 go_wp2_with fail
 refine hr.mono ?_;rintro e w1 ⟨v,rfl,⟨A,n,c,A',n',c',rfl,h1,h2⟩,hb⟩;go_wp2
 go_ret;exact ⟨rfl,hb.alloc hb.size _⟩
theorem zgg (s t:ByteArray) (w:World) (hT:Tabs w) (hs:s.size≤4294967296) (ht:t.size≤4294967296) :
  Calls Tryz.prog 17 #[.string s,.string t] w fun e w'=>
   e = .returned (.tuple #[.int .i64 (if zad s.data.toList≠0 then 0 else if zad t.data.toList≠0 then 0 else rcmp (zab s.data.toList) (zab t.data.toList)),.int .i64 (if zad s.data.toList≠0 then zad s.data.toList else zad t.data.toList)])∧Below w.heap.size w w':=by
 have hr:=zbn s w hT hs;have aE:=fun W:World=>fun h:Tabs W=>zbn t W h ht
 have aJ:=@zan s.data.toList;have aI:=@zan t.data.toList;generalize zad s.data.toList=x at hr aJ ⊢;generalize zab s.data.toList=p at hr aJ ⊢;generalize zad t.data.toList=y at aE aI ⊢;generalize zab t.data.toList=q at aE aI ⊢
 by_cases hx:x=0
 ·subst hx
  by_cases hy:y=0
  ·subst hy
   obtain ⟨l1,l2⟩:=aJ rfl;obtain ⟨l3,l4⟩:=aI rfl;clear aJ aI;simp only [ne_eq,not_true_eq_false,if_false]
   go_enter Tryz.func17,Tryz.ntmps17
   go_wp2_with fail
   refine hr.mono ?_;rintro e w1 ⟨v,rfl,⟨A1,n1,c1,A2,n2,c2,rfl,h1,h2⟩,aA⟩;rw [h1.len] at l1;rw [h2.len] at l2;have aD:Below w1.heap.size w1 (w1.alloc (.cells #[.bool p.neg,.slice A1 n1 c1,.slice A2 n2 c2] 91)):=Ac;have aH:=aE _ ((hT.later aA).later aD);have aF:=Aa aH;clear aE aH hr
   go_wp2_with fail
   refine aF.out.mono ?_;rintro e w3 ⟨v,rfl,⟨A3,n3,c3,A4,n4,c4,rfl,h3,h4⟩,aG⟩;rw [h3.len] at l3;rw [h4.len] at l4;have aN:zaf w3 w1.heap.size p.neg (.slice A1 n1 c1) (.slice A2 n2 c2):=(zaf.new w1 _ _ _).below aG (by simp);have aC:Below w.heap.size w w3:=(aA.trans (aD.mono aA.size)).trans (aG.mono (by have:=aA.size;simp;omega));have aP:Below w3.heap.size w3 (w3.alloc (.cells #[.bool q.neg,.slice A3 n3 c3,.slice A4 n4 c4] 91)):=Ac;obtain ⟨x0,x1,x2,_,_,_,xl⟩:=aN.cells;clear aF
   go_wp2_with fail
   refine (zcN 0 0 _ _ _ (by simp)).mono ?_;rintro e w5 ⟨rfl,rfl⟩;have aK:Below w3.heap.size w3 ((w3.alloc (.cells #[.bool q.neg,.slice A3 n3 c3,.slice A4 n4 c4] 91)).alloc (.cells #[.int .i64 0,.int .i64 0] 26)):=aP.alloc (by simp) _;have aL:=zeG p q A1 A2 A3 A4 n1 c1 n2 c2 n3 c3 n4 c4 _ (((((h1.later aD).later aG)).later aK)) (((((h2.later aD).later aG)).later aK)) (h3.later aK) (h4.later aK) (by omega) (by omega) (by omega) (by omega);have aM:=Aa aL;clear aL
   go_wp2_with fail
   refine aM.out.mono ?_;rintro e w6 ⟨rfl,aO⟩;go_wp2
   go_ret2
   exact ⟨rfl,(aC.trans (aK.mono aC.size)).trans (aO.mono (by have:=aC.size;simp;omega))⟩
  ·have HV:Hid (y≠0):=hy
   have aR:(y != 0)=true:=by simpa using hy
   simp only [ne_eq,not_true_eq_false,if_false,hy,not_false_eq_true,if_true]
   clear aJ aI hy;go_enter Tryz.func17,Tryz.ntmps17
   go_wp2_with fail
   refine hr.mono ?_;rintro e w1 ⟨v,rfl,⟨A1,n1,c1,A2,n2,c2,rfl,h1,h2⟩,aA⟩;have aD:Below w1.heap.size w1 (w1.alloc (.cells #[.bool p.neg,.slice A1 n1 c1,.slice A2 n2 c2] 91)):=Ac;have aH:=aE _ ((hT.later aA).later aD);have aF:=Aa aH;clear aE aH hr
   go_wp2_with fail
   refine aF.out.mono ?_;rintro e w3 ⟨v,rfl,⟨A3,n3,c3,A4,n4,c4,rfl,h3,h4⟩,aG⟩;have aC:Below w.heap.size w w3:=(aA.trans (aD.mono aA.size)).trans (aG.mono (by have:=aA.size;simp;omega));clear aF
   go_wp2_with fail
   refine (zcN 0 y _ _ _ (by simp)).mono ?_;rintro e w5 ⟨rfl,rfl⟩;go_wp2
   go_ret2
   exact ⟨rfl,(aC.alloc aC.size _).alloc (by have:=aC.size;simp;omega) _⟩
 ·have aQ:(x != 0)=true:=by simpa using hx
  simp only [ne_eq,hx,not_false_eq_true,if_true]
  clear aJ aI;go_enter Tryz.func17,Tryz.ntmps17
  go_wp2_with fail
  refine hr.mono ?_;rintro e w1 ⟨v,rfl,⟨A1,n1,c1,A2,n2,c2,rfl,h1,h2⟩,aA⟩;have aD:Below w1.heap.size w1 (w1.alloc (.cells #[.bool p.neg,.slice A1 n1 c1,.slice A2 n2 c2] 91)):=Ac;have aH:=aE _ ((hT.later aA).later aD);have aF:=Aa aH;clear aE aH hr
  go_wp2_with fail
  refine aF.out.mono ?_;rintro e w3 ⟨v,rfl,⟨A3,n3,c3,A4,n4,c4,rfl,h3,h4⟩,aG⟩;have aC:Below w.heap.size w w3:=(aA.trans (aD.mono aA.size)).trans (aG.mono (by have:=aA.size;simp;omega));clear aF
  go_wp2_with fail
  refine (zcN x y _ _ _ (by simp)).mono ?_;rintro e w5 ⟨rfl,rfl⟩;simp only [ne_eq,hx,not_false_eq_true,if_true]
  go_wp2
  go_ret2
  exact ⟨rfl,(aC.alloc aC.size _).alloc (by have:=aC.size;simp;omega) _⟩
theorem zdz {p q:Q} (hp:0<p.bot) (hq:0<q.bot):cmpI p q=(sI p*(q.bot:Int) - sI q*(p.bot:Int)).sign:=zfs (Nat.mul_pos hp hq)
end
section
open Go.RowKit Dn
theorem zqO (b:Bool) (x:Nat):sgn (!b) x = - sgn b x:=by
 unfold sgn
 cases b<;>simp
theorem zhM (b1:Bool) (x1:Nat) (A1:Option Addr) (n1 c1:Nat) (w:World) (h1:DigI w A1 n1 c1 (digs x1)) (k1:n1≤1048576) :
  Calls Tryz.prog 131 #[.agg #[.bool b1,.slice A1 n1 c1]] w (RetZ w (- sgn b1 x1)):=by
 rw [←zqO];have aD:Below w.heap.size w ((w.alloc (.cells #[.bool b1,.slice A1 n1 c1] 84)).alloc (.cells #[.bool false,.slice none 0 0] 84)):=((Below.refl _ _).alloc (Nat.le_refl _) _).alloc (by simp) _;have aF:CBlk ((w.alloc (.cells #[.bool b1,.slice A1 n1 c1] 84)).alloc (.cells #[.bool false,.slice none 0 0] 84)) (w.heap.size+1) #[.bool false,.slice none 0 0] 84:=CBlk.new (w.alloc (.cells #[.bool b1,.slice A1 n1 c1] 84)) _ _ (w.heap.size+1) (by simp);have hp:=zbc (!b1) A1 n1 c1 (digs x1) _ (h1.later aD) (by omega);rw [zak] at hp;have HP:=Aa hp;have aC:=Aa aD;have HX:=Aa aF;clear hp aD aF;generalize sgn (!b1) x1=z at *;go_enter Tryz.func131,Tryz.ntmps131
 go_wp2_with fail
 refine HP.out.mono ?_;rintro e w6 ⟨A6,m6,c6,rfl,aG,aE⟩;have aA:=HX.out.below aE HX.out.lt;have e0:w6.cell? ⟨w.heap.size+1,0,none⟩=some (.bool false):=aA.cell 0;have e1:w6.cell? ⟨w.heap.size+1,1,none⟩=some (.slice none 0 0):=aA.cell 1;have f0:w6.frozen? ⟨w.heap.size+1,0,none⟩=false:=aA.frozen 0;have f1:w6.frozen? ⟨w.heap.size+1,1,none⟩=false:=aA.frozen 1;have hB:=aC.out.trans (aE.mono aC.out.size);clear aE HP aC
 go_wp2_with fail
 refine bodyPost_ret (v := .agg #[.bool (decide (z<0)),.slice A6 m6 c6]) (by simp [results,Tryz.results131,go_sem,e0,e1]) rfl ?_;exact ⟨A6,m6,c6,rfl,aG.box aA _ _,zcf hB (by omega) _ _⟩
def recQ (p:Q):Q:=zbg (p.bot:Int) p.top
theorem zjU {p:Q} (ht:0<p.top):LowQ (recQ p):=zaQ _ ht
theorem zqR {p:Q} (h:LowQ p) (_hn:p.neg=false) (ht:0<p.top):recQ p=⟨false,p.bot,p.top⟩:=by
 refine zeq (zjU ht) ⟨ht,by rw [Nat.gcd_comm];exact h.2.1,fun h9=>by cases h9⟩ ?_;exact zld ht
theorem zrA (a:ByteArray) (p:Q) (w:World) (h:NumQ a p) (hn:p.neg=false) (ht:0<p.top) (ha:a.size≤100000) :
  Calls Tryz.prog 76 #[.string a] w (RetS w (recQ p)):=by
 have hp:=zb6 a p.neg p.top p.bot w h.num h.2.2.2 h.2.1 (by omega);rw [hn] at hp;have HP:=Aa hp;have hl:=h.num.lens2 ha;have HL:=Aa hl;have aE:=Aa (zjU ht);have aF:Hid (∀ s:ByteArray,s.data.toList=zaq (zbg (sgn false p.bot) p.top)→NumQ s (recQ p)):=fun s hs=>⟨hs,zjU ht⟩
 clear hp hl;generalize recQ p=R at *;go_enter Tryz.func76,Tryz.ntmps76
 go_wp2_with fail
 refine HP.out.mono ?_;rintro e w1 ⟨A1,n1,c1,A2,n2,c2,rfl,aA,aD,aC⟩;have hB:Below w1.heap.size w1 ((w1.alloc (.cells #[.bool false,.slice A1 n1 c1] 84)).alloc (.cells #[.bool false,.slice A2 n2 c2] 84)):=((Below.refl _ _).alloc (Nat.le_refl _) _).alloc (by simp) _;have e1:n1≤100000:=by rw [←aA.len];exact HL.out.1
 have e2:n2≤100001:=by rw [←aD.len];exact HL.out.2
 have HF:=Aa (zfl false p.bot p.top A2 A1 n2 c2 n1 c1 _ (aD.later hB) (aA.later hB) ht (by omega) (by omega));have HB:=Aa (aC.trans (hB.mono aC.size));clear aA aD hB aC
 go_wp2_with fail
 refine HF.out.mono ?_;rintro e w2 ⟨⟨s,rfl,hs⟩,aG⟩;go_wp2
 go_ret;exact ⟨⟨s,rfl,aF.out s hs⟩,HB.out.trans (aG.mono HB.out.size)⟩
def recS (p:Q):Q:=⟨p.neg,p.bot,p.top⟩
theorem ze7 {p:Q} (h:LowQ p) (h0:0<p.top):LowQ (recS p):=⟨h0,by have:=h.2.1;rwa [Nat.gcd_comm] at this,fun _=>h.1⟩
theorem zex {p:Q} {N:Nat} (h:Small p N):Small (recS p) N:=⟨h.2,h.1⟩
theorem CBlk.set2 {w:World} {g:Nat} {a b:Value} {t:TypeId} (h:CBlk w g #[a,b] t) (u v:Value):CBlk ((w.setCell ⟨g,0,none⟩ u).setCell ⟨g,1,none⟩ v) g #[u,v] t:=
 heap_setCell_same _ g 1 #[u,b] t v (heap_setCell_same w g 0 #[a,b] t u h)
theorem zhS (b:Bool) (x y:Nat) (A1 A2:Option Addr) (n1 c1 n2 c2:Nat) (w:World) (h1:DigI w A1 n1 c1 (digs x)) (h2:DigI w A2 n2 c2 (digs y)) (hy:0<y) (k1:n1≤500000) (k2:n2≤500000) :
  Calls Tryz.prog 73 #[.agg #[.bool b,.slice A1 n1 c1],.agg #[.bool true,.slice A2 n2 c2]] w fun e w'=>(∃ s:ByteArray,e = .returned (.string s)∧s.data.toList=zaq (zbg (- sgn b x) y))∧Below w.heap.size w w':=by
 obtain ⟨b9,aW⟩:∃ b9,b9=decide (- sgn b x<0):=⟨_,rfl⟩;have bS:(- sgn b x).natAbs=x:=by rw [Int.natAbs_neg,zbT]
 have cU : - sgn b x=sgn b9 x:=by have h:=zfX (- sgn b x);rw [bS,←aW] at h;exact h.symm
 rw [cU,zhU b9 x y hy];have hB:Below w.heap.size w ((w.alloc (.cells #[.bool b,.slice A1 n1 c1] 84)).alloc (.cells #[.bool true,.slice A2 n2 c2] 84)):=((Below.refl _ _).alloc (Nat.le_refl _) _).alloc (by simp) _;have dF:CBlk ((w.alloc (.cells #[.bool b,.slice A1 n1 c1] 84)).alloc (.cells #[.bool true,.slice A2 n2 c2] 84)) w.heap.size #[.bool b,.slice A1 n1 c1] 84:=(CBlk.new w _ _ _ rfl).below ((Below.refl _ _).alloc (Nat.le_refl _) _) (by simp);have cA:CBlk ((w.alloc (.cells #[.bool b,.slice A1 n1 c1] 84)).alloc (.cells #[.bool true,.slice A2 n2 c2] 84)) (w.heap.size+1) #[.bool true,.slice A2 n2 c2] 84:=CBlk.new (w.alloc (.cells #[.bool b,.slice A1 n1 c1] 84)) _ _ (w.heap.size+1) (by simp);obtain ⟨g,hg⟩:∃ g,g=Nat.gcd x y:=⟨_,rfl⟩;have cZ:0<g:=by rw [hg];exact Nat.gcd_pos_of_pos_right _ hy
 have cN:g≤y:=by rw [hg];exact Nat.gcd_le_right _ hy
 have bN:=fun W (h:Below w.heap.size w W)=>zhM b x A1 n1 c1 W (h1.later h) (by omega)
 have bK:=fun W (h:Below w.heap.size w W)=>zhM true y A2 n2 c2 W (h2.later h) (by omega)
 have e9:(- sgn true y).natAbs=y:=by rw [Int.natAbs_neg,zbT]
 have e8:decide (- sgn true y<0)=false:=by unfold sgn;simp
 unfold RetZ at bN bK;simp only [bS,←aW] at bN
 simp only [e9,e8] at bK
 have M1:=Aa bN;have M2:=Aa bK;clear bN bK;have dH:=h1.len;have dN:=h2.len;have bT:Hid ((digs x).length≤500000∧(digs y).length≤500000):=⟨by omega,by omega⟩;have aI:Hid ((digs (x / g)).length≤(digs x).length∧(digs (y / g)).length≤(digs y).length∧(digs g).length≤(digs y).length):=⟨zaa (Nat.div_le_self _ _),zaa (Nat.div_le_self _ _),zaa cN⟩;rw [←hg];obtain ⟨X,hX⟩:∃ X,X=x / g:=⟨_,rfl⟩;obtain ⟨Y,hY⟩:∃ Y,Y=y / g:=⟨_,rfl⟩;obtain ⟨z,hz⟩:∃ z,z=sgn b9 X:=⟨_,rfl⟩;rw [←hX,←hY] at aI;rw [←hX,←hY,←hz];have HX:=Aa hX;have HY:=Aa hY;have HZ:=Aa hz;have HG:=Aa hg;have dD:=Aa cZ;clear h1 h2 hg cN cZ aW bS cU e9 e8 dH dN hX hY hz;go_enter Tryz.func73,Tryz.ntmps73
 go_upto_region 1 with (fail)
 generalize ((w.alloc (.cells #[.bool b,.slice A1 n1 c1] 84)).alloc (.cells #[.bool true,.slice A2 n2 c2] 84))=w3 at *;have q0:w3.cell? ⟨w.heap.size+1,0,none⟩=some (.bool true):=cA.cell 0
 go_wp2_with fail
 have bF:CBlk w3.drew w.heap.size #[.bool b,.slice A1 n1 c1] 84:=dF;have bI:CBlk w3.drew (w.heap.size+1) #[.bool true,.slice A2 n2 c2] 84:=cA;have cS:Below w.heap.size w w3.drew:=hB.drew;have dS:w.heap.size≠w.heap.size+1:=by omega
 clear q0;obtain ⟨cF,aP⟩:∃ I:Array Bool→Act→World→Prop,I=(fun aF a W=>∃ (b0 b1 b2 b3 b4 b5:Bool) (bA aZ aV aS:Value) (E1:Option Addr) (e1 f1:Nat) (E2:Option Addr) (e2 f2:Nat),aF=#[b0,b1,b2,b3,b4,b5]∧a={ tmps:=#[.agg #[.bool b,.slice A1 n1 c1],.agg #[.bool true,.slice A2 n2 c2],.pointer (some ⟨w.heap.size,0,none⟩),.pointer (some ⟨w.heap.size+1,0,none⟩),.string ⟨#[]⟩,undef,undef,undef,undef,undef,undef,.pointer (some ⟨w.heap.size+1,0,none⟩),.bool true,bA,aZ,aV,aS,undef,undef,undef,undef,undef,undef,undef,undef,undef,undef,undef,undef,undef,undef,undef,undef,undef,undef,undef,undef,undef,undef,undef,undef,undef,undef,undef,undef,undef,undef,undef,undef,undef,undef,undef,undef,undef,undef,undef,undef],defers:=[] }∧Below w.heap.size w W ∧
  (b4=false→CBlk W w.heap.size #[.bool b,.slice A1 n1 c1] 84)∧(b4=true→CBlk W w.heap.size #[.bool b9,.slice E1 e1 f1] 84)∧(b5=false→CBlk W (w.heap.size+1) #[.bool true,.slice A2 n2 c2] 84)∧(b5=true→CBlk W (w.heap.size+1) #[.bool false,.slice E2 e2 f2] 84) ∧
  (b0=true→bA = .agg #[.bool b,.slice A1 n1 c1])∧(b1=true→aZ = .agg #[.bool b9,.slice E1 e1 f1]∧DigI W E1 e1 f1 (digs x))∧(b2=true→aV = .agg #[.bool true,.slice A2 n2 c2])∧(b3=true→b2=true∧b1=true∧aS = .agg #[.bool false,.slice E2 e2 f2]∧DigI W E2 e2 f2 (digs y))∧(b1=true→b0=true)∧(b4=true→b3=true)∧(b5=true→b4=true)):=⟨_,rfl⟩
 have aA:=Aa aP;clear aP;refine zbQ (by kernel_rfl) cF (by kernel_rfl) ?_ ?_ ?_
 ·rw [aA.out]
  exact ⟨false,false,false,false,false,false,undef,undef,undef,undef,none,0,0,none,0,0,rfl,rfl,cS,(fun _=>bF),(fun h=>by cases h),(fun _=>bI),(fun h=>by cases h),(fun h=>by cases h),(fun h=>by cases h),(fun h=>by cases h),(fun h=>by cases h),(fun h=>by cases h),(fun h=>by cases h),(fun h=>by cases h)⟩
 ·intro i o aF a W ho hI hl aC
  rw [aA.out] at hI;obtain ⟨b0,b1,b2,b3,b4,b5,bA,aZ,aV,aS,E1,e1,f1,E2,e2,f2,rfl,rfl,hb,g0,g1,h0,h1,v0,v1,v2,v3,o1,o4,o5⟩:=hI
  match i,ho,hl,aC with
  | 0,ho,hl,aC=>
   have aG:b0=false:=Option.some.inj hl;obtain rfl:=Option.some.inj ho;have n4:b4=false:=by
    cases h4:b4
    ·rfl
    ·have:=o1 (v3 (o4 h4)).2.1;rw [aG] at this;cases this
   have k0:=g0 n4;have x0:=k0.cell 0;have x1:=k0.cell 1;refine zar ho fun K' hK => ?_
   go_simp
   refine hK.out _ _ ?_;rw [aA.out];exact ⟨true,b1,b2,b3,b4,b5,.agg #[.bool b,.slice A1 n1 c1],aZ,aV,aS,E1,e1,f1,E2,e2,f2,rfl,rfl,hb,g0,g1,h0,h1,(fun _=>rfl),v1,v2,v3,(fun _=>rfl),o4,o5⟩
  | 1,ho,hl,aC=>
   have aG:b1=false:=Option.some.inj hl;obtain rfl:=Option.some.inj ho;have d0:b0=true:=aC ⟨0,.data⟩ (by simp) rfl;obtain rfl:=v0 d0;have n3:b3=false:=by
    cases h3:b3
    ·rfl
    ·have:=(v3 h3).2.1;rw [aG] at this;cases this
   have n4:b4=false:=by
    cases h4:b4
    ·rfl
    ·have:=o4 h4;rw [n3] at this;cases this
   have n5:b5=false:=by
    cases h5:b5
    ·rfl
    ·have:=o5 h5;rw [n4] at this;cases this
   refine zar ho fun K' hK => ?_
   go_simp
   go_at_call 131
   refine (M1.out W hb).mono ?_;rintro e W1 ⟨E3,e3,f3,rfl,hd,aN⟩;have cE:=Ad hb aN;refine hK.out _ _ ?_;rw [aA.out];exact ⟨b0,true,b2,b3,b4,b5,_,_,aV,aS,E3,e3,f3,E2,e2,f2,rfl,rfl,cE,(fun h=>(g0 h).below aN (g0 h).lt),(fun h=>by rw [n4] at h;cases h),(fun h=>(h0 h).below aN (h0 h).lt),(fun h=>by rw [n5] at h;cases h),v0,(fun _=>⟨rfl,hd⟩),v2,(fun h=>by rw [n3] at h;cases h),(fun _=>d0),o4,o5⟩
  | 2,ho,hl,aC=>
   have aG:b2=false:=Option.some.inj hl;obtain rfl:=Option.some.inj ho;have n5:b5=false:=by
    cases h5:b5
    ·rfl
    ·have:=(v3 (o4 (o5 h5))).1;rw [aG] at this;cases this
   have k0:=h0 n5;have x0:=k0.cell 0;have x1:=k0.cell 1;refine zar ho fun K' hK => ?_
   go_simp
   refine hK.out _ _ ?_;rw [aA.out];exact ⟨b0,b1,true,b3,b4,b5,bA,aZ,.agg #[.bool true,.slice A2 n2 c2],aS,E1,e1,f1,E2,e2,f2,rfl,rfl,hb,g0,g1,h0,h1,v0,v1,(fun _=>rfl),(fun h=>⟨rfl,(v3 h).2⟩),o1,o4,o5⟩
  | 3,ho,hl,aC=>
   have aG:b3=false:=Option.some.inj hl;obtain rfl:=Option.some.inj ho;have d2:b2=true:=aC ⟨2,.data⟩ (by simp) rfl;have d1:b1=true:=aC ⟨1,.chain⟩ (by simp) rfl;have d0:b0=true:=o1 d1;obtain rfl:=v2 d2;obtain rfl:=v0 d0;obtain ⟨rfl,bD⟩:=v1 d1;have n4:b4=false:=by
    cases h4:b4
    ·rfl
    ·have:=o4 h4;rw [aG] at this;cases this
   have n5:b5=false:=by
    cases h5:b5
    ·rfl
    ·have:=o5 h5;rw [n4] at this;cases this
   refine zar ho fun K' hK => ?_
   go_simp
   go_at_call 131
   refine (M2.out W hb).mono ?_;rintro e W1 ⟨E3,e3,f3,rfl,hd,aN⟩;have cE:=Ad hb aN;refine hK.out _ _ ?_;rw [aA.out];exact ⟨b0,b1,b2,true,b4,b5,_,_,_,_,E1,e1,f1,E3,e3,f3,rfl,rfl,cE,(fun h=>(g0 h).below aN (g0 h).lt),(fun h=>by rw [n4] at h;cases h),(fun h=>(h0 h).below aN (h0 h).lt),(fun h=>by rw [n5] at h;cases h),(fun _=>rfl),(fun _=>⟨rfl,bD.later aN⟩),(fun _=>rfl),(fun _=>⟨d2,d1,rfl,hd⟩),o1,(fun _=>rfl),o5⟩
  | 4,ho,hl,aC=>
   have aG:b4=false:=Option.some.inj hl;obtain rfl:=Option.some.inj ho;have d1:b1=true:=aC ⟨1,.data⟩ (by simp) rfl;have d3:b3=true:=aC ⟨3,.chain⟩ (by simp) rfl;have n5:b5=false:=by
    cases h5:b5
    ·rfl
    ·have:=o5 h5;rw [aG] at this;cases this
   have d0:b0=true:=o1 d1;obtain rfl:=v0 d0;obtain ⟨rfl,bD⟩:=v1 d1;obtain ⟨d2,_,rfl,bV⟩:=v3 d3;obtain rfl:=v2 d2;have k0:=g0 aG;have k1:=h0 n5;have x0:=k0.cell 0;have x1:=k0.cell 1;have z0:=k0.frozen 0;have z1:=k0.frozen 1;refine zar ho fun K' hK => ?_
   go_simp
   refine hK.out _ _ ?_;rw [aA.out];exact ⟨b0,b1,b2,b3,true,b5,_,_,_,_,E1,e1,f1,E2,e2,f2,rfl,rfl,zcf hb (Nat.le_refl _) _ _,(fun h=>by cases h),(fun _=>k0.set2 _ _),(fun _=>k1.far2 (by omega) _ _),(fun h=>by rw [n5] at h;cases h),(fun _=>rfl),(fun _=>⟨rfl,bD.box k0 _ _⟩),(fun _=>rfl),(fun _=>⟨d2,d1,rfl,bV.box k0 _ _⟩),o1,(fun _=>d3),(fun _=>rfl)⟩
  | 5,ho,hl,aC=>
   have aG:b5=false:=Option.some.inj hl;obtain rfl:=Option.some.inj ho;have d3:b3=true:=aC ⟨3,.data⟩ (by simp) rfl;have d4:b4=true:=aC ⟨4,.chain⟩ (by simp) rfl;obtain ⟨d2,d1,rfl,bV⟩:=v3 d3;obtain ⟨rfl,bD⟩:=v1 d1;obtain rfl:=v2 d2;have d0:b0=true:=o1 d1;obtain rfl:=v0 d0;have k0:=g1 d4;have k1:=h0 aG;have x0:=k1.cell 0;have x1:=k1.cell 1;have z0:=k1.frozen 0;have z1:=k1.frozen 1;refine zar ho fun K' hK => ?_
   go_simp
   refine hK.out _ _ ?_;rw [aA.out];exact ⟨b0,b1,b2,b3,b4,true,_,_,_,_,E1,e1,f1,E2,e2,f2,rfl,rfl,zcf hb (by omega) _ _,(fun h=>by rw [d4] at h;cases h),(fun _=>k0.far2 (by omega) _ _),(fun h=>by cases h),(fun _=>k1.set2 _ _),(fun _=>rfl),(fun _=>⟨rfl,bD.box k1 _ _⟩),(fun _=>rfl),(fun _=>⟨d2,d1,rfl,bV.box k1 _ _⟩),o1,(fun _=>d3),(fun _=>d4)⟩
  | n+6,ho,hl,aC=>exact absurd ho (by simp)
 intro aF a w6 hI aE;rw [aA.out] at hI;obtain ⟨b0,b1,b2,b3,b4,b5,bA,aZ,aV,aS,E1,e1,f1,E2,e2,f2,rfl,rfl,cV,g0,g1,h0,h1,v0,v1,v2,v3,o1,o4,o5⟩:=hI;have d0:b0=true:=aE 0 b0 (by decide) rfl;have d1:b1=true:=aE 1 b1 (by decide) rfl;have d2:b2=true:=aE 2 b2 (by decide) rfl;have d3:b3=true:=aE 3 b3 (by decide) rfl;have d4:b4=true:=aE 4 b4 (by decide) rfl;have d5:b5=true:=aE 5 b5 (by decide) rfl;obtain rfl:=v0 d0;obtain ⟨rfl,aK⟩:=v1 d1;obtain rfl:=v2 d2;obtain ⟨_,_,rfl,aH⟩:=v3 d3;have bO:=g1 d4;have bZ:=h1 d5;clear aE g0 g1 h0 h1 v0 v1 v2 v3 o1 o4 o5 aA d0 d1 d2 d3 d4 d5 dF cA bF bI hB cS M1 M2;have a0:w6.cell? ⟨w.heap.size,0,none⟩=some (.bool b9):=bO.cell 0;have a1:w6.cell? ⟨w.heap.size,1,none⟩=some (.slice E1 e1 f1):=bO.cell 1;have q1:w6.cell? ⟨w.heap.size+1,1,none⟩=some (.slice E2 e2 f2):=bZ.cell 1;have al:=bO.lt;have bl:=bZ.lt;have dV:e1≤500000:=by rw [←aK.len];exact bT.out.1
 have dR:e2≤500000:=by rw [←aH.len];exact bT.out.2
 have cW:(digs g).length≤e2:=by rw [←aH.len];exact aI.out.2.2
 have dG:(digs X).length≤e1:=by rw [←aK.len];exact aI.out.1
 have cR:(digs Y).length≤e2:=by rw [←aH.len];exact aI.out.2.1
 have cY:=Aa aK;have dB:=Aa aH;have dQ:=Aa cW;have cP:=Aa dG;have cO:=Aa cR;have bL:=Aa cV;have hB:Below w6.heap.size w6 w6:=Below.refl _ _;clear aK aH cW dG cR cV bO bZ bT aI
 go_wp2_with fail
 refine (zdF E1 E2 e1 f1 e2 f2 x y w6 cY.out dB.out (by omega) (by omega)).mono ?_;rintro e w4 ⟨A5,m5,c5,rfl,aU,aT⟩;rw [←HG.out] at aU
 replace a0:=(aT.cell (p:=⟨w.heap.size,0,none⟩) al).trans a0
 replace a1:=(aT.cell (p:=⟨w.heap.size,1,none⟩) al).trans a1
 replace q1:=(aT.cell (p:=⟨w.heap.size+1,1,none⟩) bl).trans q1
 replace hB:=Ad hB aT
 replace al:=Nat.lt_of_lt_of_le al aT.size
 replace bl:=Nat.lt_of_lt_of_le bl aT.size
 have dT:m5≤e2:=by rw [←aU.len];exact dQ.out
 clear aT
 go_wp2_with fail
 refine (zbY E1 A5 e1 f1 m5 c5 x g w4 (cY.out.later hB) aU dD.out (by omega) (by omega)).mono ?_;rintro e w5 ⟨Ap,mp,cp,Ar,mr,cr,rfl,aR,_,aM⟩;rw [←HX.out] at aR
 replace a0:=(aM.cell (p:=⟨w.heap.size,0,none⟩) al).trans a0
 replace a1:=(aM.cell (p:=⟨w.heap.size,1,none⟩) al).trans a1
 replace q1:=(aM.cell (p:=⟨w.heap.size+1,1,none⟩) bl).trans q1
 replace hB:=Ad hB aM
 replace al:=Nat.lt_of_lt_of_le al aM.size
 replace bl:=Nat.lt_of_lt_of_le bl aM.size
 replace aU:=aU.later aM
 clear aM
 go_wp2_with fail
 refine (zbY E2 A5 e2 f2 m5 c5 y g w5 (dB.out.later hB) aU dD.out (by omega) (by omega)).mono ?_;rintro e w6 ⟨Aq,mq,cq,fD,fC,dY,rfl,aJ,_,aO⟩;rw [←HY.out] at aJ
 replace a0:=(aO.cell (p:=⟨w.heap.size,0,none⟩) al).trans a0
 replace a1:=(aO.cell (p:=⟨w.heap.size,1,none⟩) al).trans a1
 replace q1:=(aO.cell (p:=⟨w.heap.size+1,1,none⟩) bl).trans q1
 replace hB:=Ad hB aO
 replace al:=Nat.lt_of_lt_of_le al aO.size
 replace bl:=Nat.lt_of_lt_of_le bl aO.size
 replace aR:=aR.later aO
 clear aO aU;have dM:mp≤e1:=by rw [←aR.len];exact cP.out
 have dW:mq≤e2:=by rw [←aJ.len];exact cO.out
 have bH:=aJ.len;have bE:=zgc aR.len;have bB:=zgc aJ.len;have bR:=zbc b9 Ap mp cp (digs X) w6 aR (by omega);rw [zak,←HZ.out] at bR;have bP:=zbT b9 X;have cI:=zc1 b9 X;rw [←HZ.out] at bP cI;have HS:=Aa bR;have bQ:=Aa bP;have cG:=Aa cI;have cJ:=Aa bH;have bG:=Aa bE;have cC:=Aa bB;clear bR bP cI aR bH bE bB
 go_wp2_with fail
 refine HS.out.mono ?_;rintro e w7 ⟨A7,m7,c7,rfl,bM,aQ⟩
 replace a0:=(aQ.cell (p:=⟨w.heap.size,0,none⟩) al).trans a0
 replace a1:=(aQ.cell (p:=⟨w.heap.size,1,none⟩) al).trans a1
 replace q1:=(aQ.cell (p:=⟨w.heap.size+1,1,none⟩) bl).trans q1
 replace hB:=Ad hB aQ
 replace al:=Nat.lt_of_lt_of_le al aQ.size
 replace bl:=Nat.lt_of_lt_of_le bl aQ.size
 replace aJ:=aJ.later aQ
 clear aQ HS;rw [bQ.out] at bM;have dP:m7≤e1∨True := .inr trivial;have cK:=ze4 (decide (z<0)) X A7 m7 c7 w7 bM (by rw [cG.out];simp) (by rw [←bM.len];have:=cP.out;have:=bG.out;have:=dM;omega);have HT:=Aa cK;clear cK dP
 go_wp2_with fail
 refine HT.out.mono ?_;rintro e w8 ⟨⟨s,rfl,hs⟩,aL⟩
 replace a0:=(aL.cell (p:=⟨w.heap.size,0,none⟩) al).trans a0
 replace a1:=(aL.cell (p:=⟨w.heap.size,1,none⟩) al).trans a1
 replace q1:=(aL.cell (p:=⟨w.heap.size+1,1,none⟩) bl).trans q1
 replace hB:=Ad hB aL
 replace al:=Nat.lt_of_lt_of_le al aL.size
 replace bl:=Nat.lt_of_lt_of_le bl aL.size
 replace aJ:=aJ.later aL
 have fA:s.size≤4500003:=by
  have h9:s.data.toList.length=s.size:=Array.length_toList;have h8:=zeC (decide (z<0)) (Lib.decDigits X);rw [←hs] at h8;have:=bG.out;omega
 have cL:=Aa hs;clear aL HT hs bM a0 a1 q1
 by_cases hY:Y=1
 ·subst hY
  have cT:(digs 1).length=1:=by rw [zbq (by omega) (by decide)];rfl
  obtain rfl:mq=1:=by rw [←cJ.out];exact cT
  obtain ⟨ad,cM,rfl,dK,aD⟩:=aJ.rd.cellM (k:=0) (by omega);have he:(digs 1)[0]=1:=by
   have:digs 1=[1]:=zbq (by omega) (by decide);simp [this]
  unfold natv at aD;rw [he] at aD
  replace aD:w8.cell? ad=some (.int .i64 1):=aD
  have HR:Hid (s.data.toList=zaq ⟨decide (z<0),X,1⟩):=by
   show s.data.toList=_
   rw [zaP,cL.out];simp
  clear cT cM he;go_wp2
  go_ret;exact ⟨⟨s,rfl,HR.out⟩,bL.out.trans (hB.mono bL.out.size)⟩
 ·have bC:(((mq:Int)==1)=false)∨(mq=1∧∃ ad v:_,Aq=some ad∧w8.cell? ad=some (.int .i64 (v:Int))∧((v==1)=false)):=by
   by_cases hm:mq=1
   ·subst hm
    obtain ⟨ad,cM,rfl,dK,aD⟩:=aJ.rd.cellM (k:=0) (by omega);refine .inr ⟨rfl,ad,(((digs Y)[0]:Nat):Int),rfl,aD,?_⟩;rw [beq_eq_false_iff_ne];intro h9
    apply hY
    have h8:(digs Y)[0]=1:=by omega
    have h7:digs Y=[1]:=by
     apply List.ext_getElem
     ·rw [cJ.out];rfl
     ·intro i dX dL
      have:i=0:=by simp at dL;omega
      subst this
      simpa using h8
    rw [←zak Y,h7];simp
   ·exact .inl (by rw [beq_eq_false_iff_ne];omega)
  have bW:=zbc false Aq mq cq (digs Y) w8 aJ (by omega);rw [zak] at bW;have cH:=Aa bW;have cQ:=Aa hB;have dA:Hid ((sgn false Y).natAbs=Y∧decide (sgn false Y<0)=false):=⟨zbT _ _,by rw [zc1];rfl⟩;generalize sgn false Y=z2 at *;have dJ:=Aa hY;clear bW hY hB
  rcases bC with d1 | ⟨rfl,ad,v,rfl,dU,dZ⟩
  all_goals
   go_wp2_with fail
   refine cH.out.mono ?_;rintro e w9 ⟨A9,m9,c9,rfl,bJ,aW⟩;rw [dA.out.1] at bJ;rw [dA.out.2];have dI:=Aa (ze4 false Y A9 m9 c9 w9 bJ (by intro h;cases h) (by rw [←bJ.len];have:=cO.out;have:=cJ.out;omega))
   go_wp2_with fail
   refine dI.out.mono ?_;rintro e fB ⟨⟨s2,rfl,cB⟩,bU⟩;have dO:s2.size≤4500003:=by
    have h9:s2.data.toList.length=s2.size:=Array.length_toList;rw [cB] at h9;have h8:=zeC false (Lib.decDigits Y);have:=cC.out;omega
   have HR:Hid (((s++⟨#[47]⟩)++s2).data.toList=zaq ⟨decide (z<0),X,Y⟩):=by
    show ((s++⟨#[47]⟩)++s2).data.toList=_
    rw [zaP,if_neg dJ.out,ByteArray.data_append,ByteArray.data_append,Array.toList_append,Array.toList_append,cL.out,cB,List.append_assoc];rfl
   clear cB bJ;go_wp2
   go_ret;exact ⟨⟨_,rfl,HR.out⟩,bL.out.trans ((cQ.out.trans ((aW.trans (bU.mono aW.size)).mono cQ.out.size)).mono bL.out.size)⟩
theorem zjy {p:Q} (h:LowQ p) (hn:p.neg=true) (ht:0<p.top):zbg (- sgn false p.bot) p.top=recS p:=by
 refine zeq (zaQ _ ht) (ze7 h ht) ?_;have h1:=zld (num := - sgn false p.bot) ht;have e:sI (recS p) = - sgn false p.bot:=by
  unfold sI recS sgn;rw [hn];simp
 rw [e];exact h1
theorem zqZ (a:ByteArray) (p:Q) (w:World) (h:NumQ a p) (ht:0<p.top) (ha:a.size≤100000) :
  Calls Tryz.prog 76 #[.string a] w (RetS w (recS p)):=by
 cases hn:p.neg
 ·have e:recS p=recQ p:=by rw [zqR h.2 hn ht];unfold recS;rw [hn]
  rw [e];exact zrA a p w h hn ht ha
 ·have hp:=zb6 a p.neg p.top p.bot w h.num h.2.2.2 h.2.1 (by omega)
  rw [hn] at hp;have HP:=Aa hp;have hl:=h.num.lens2 ha;have HL:=Aa hl;have aE:Hid (∀ s:ByteArray,s.data.toList=zaq (zbg (- sgn false p.bot) p.top)→NumQ s (recS p)):=fun s hs=>⟨by rw [hs,zjy h.2 hn ht],ze7 h.2 ht⟩
  clear hp hl;generalize recS p=R at *;go_enter Tryz.func76,Tryz.ntmps76
  go_wp2_with fail
  refine HP.out.mono ?_;rintro e w1 ⟨A1,n1,c1,A2,n2,c2,rfl,aA,aD,aC⟩;have hB:Below w1.heap.size w1 ((w1.alloc (.cells #[.bool true,.slice A1 n1 c1] 84)).alloc (.cells #[.bool false,.slice A2 n2 c2] 84)):=((Below.refl _ _).alloc (Nat.le_refl _) _).alloc (by simp) _;have e1:n1≤100000:=by rw [←aA.len];exact HL.out.1
  have e2:n2≤100001:=by rw [←aD.len];exact HL.out.2
  have HF:=Aa (zhS false p.bot p.top A2 A1 n2 c2 n1 c1 _ (aD.later hB) (aA.later hB) ht (by omega) (by omega));have HB:=Aa (aC.trans (hB.mono aC.size));clear aA aD hB aC
  go_wp2_with fail
  refine HF.out.mono ?_;rintro e w2 ⟨⟨s,rfl,hs⟩,aF⟩;go_wp2
  go_ret;exact ⟨⟨s,rfl,aE.out s hs⟩,HB.out.trans (aF.mono HB.out.size)⟩
theorem zqk (a a':ByteArray) (p q:Q) (w:World) (h:NumQ a p) (h':NumQ a' q) (ht:0<q.top) (ha:a.size≤40000) (ha':a'.size≤40000) :
  Calls Tryz.prog 25 #[.string a,.string a'] w (RetS w (mulQ p (recS q))):=by
 have HR:=Aa (zqZ a' q w h' ht (by omega));have aA:∀ s:ByteArray,NumQ s (recS q)→s.size≤100000:=fun s hs=>by
  obtain ⟨N,hN⟩:∃ N,N=40000:=⟨_,rfl⟩;have:=hs.size (zex (h'.small (N:=N) (by omega) (by omega))) (by omega);omega
 have HM:=Aa (fun (s:ByteArray) (hs:NumQ s (recS q)) (W:World)=>zhv a s p (recS q) W h hs (by omega) (aA s hs));clear aA;go_enter Tryz.func25,Tryz.ntmps25
 go_wp2_with fail
 refine HR.out.mono ?_;rintro e w1 ⟨⟨s,rfl,hs⟩,aC⟩
 go_wp2_with fail
 refine (HM.out s hs w1).mono ?_;rintro e w2 ⟨⟨t,rfl,ht⟩,aD⟩;go_wp2
 go_ret;exact ⟨⟨t,rfl,ht⟩,aC.trans (aD.mono aC.size)⟩
end
end Go.Proofs.YtmkondcdejlhcaaGreatDoor
