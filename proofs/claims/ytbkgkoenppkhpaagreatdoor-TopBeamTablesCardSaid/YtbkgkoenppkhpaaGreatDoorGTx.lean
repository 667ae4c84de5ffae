/- Numbers as the texts that they are written with: the contracts with fixed results. -/
import Derived.Test.YtbkgkoenppkhpaaGreatDoorGSp8
import Derived.Test.YtbkgkoenppkhpaaGreatDoorGCoa
set_option maxRecDepth 100000
set_option maxHeartbeats 8000000
namespace Go.Proofs.YtbkgkoenppkhpaaGreatDoor
open Go.RowKit Bn Dn
theorem CBlk.via {w w':World} {g:Nat} {c:Array Value} {t:TypeId} (h:CBlk w g c t) (hb:Below w.heap.size w w'):CBlk w' g c t:=h.below hb h.lt
theorem bvia {w w1 w2:World} (h:Below w.heap.size w w1) (hb:Below w1.heap.size w1 w2):Below w.heap.size w w2:=Ad h hb
def txt (q:Q):ByteArray:=⟨(zaE q).toArray⟩
theorem zbA {q:Q} (h:LowQ q):NumQ (txt q) q:=⟨by simp [txt],h⟩
theorem zeZ {a:ByteArray} {q:Q} (h:NumQ a q):a=txt q:=by
 obtain ⟨d⟩:=a;have h1:d.toList=zaE q:=h.1;unfold txt
 congr 1
 rw [←h1,Array.toArray_toList]
theorem zjD {a:ByteArray} (h:zam a.data.toList=0):a=txt (zak a.data.toList):=zeZ (zdQ h)
theorem zbg {q:Q} {N:Nat} (h:LowQ q) (hs:Small q N) (hN:0<N):(txt q).size≤2*N+2:=(zbA h).size hs hN
def zbC (f:FuncId) (args:Array Value) (v:Value):Prop:=∀ W,Calls Tryz.prog f args W fun e w'=>e = .returned v∧Below W.heap.size W w'
theorem ze4 {f:FuncId} {args:Array Value} {q:Q} {w:World} (h:Calls Tryz.prog f args w (RetS w q)):Calls Tryz.prog f args w fun e w'=>e = .returned (.string (txt q))∧Below w.heap.size w w':=
 h.mono fun _ _ ⟨⟨s,he,hs⟩,hb⟩=>⟨by rw [he,zeZ hs],hb⟩
theorem tMul {p q:Q} (hp:LowQ p) (hq:LowQ q) {N:Nat} (sp:Small p N) (sq:Small q N) (h0:0<N) (hN:N≤300):zbC 48 #[.string (txt p),.string (txt q)] (.string (txt (mulQ p q))):=fun W=>
 ze4 (zpd _ _ _ _ W (zbA hp) (zbA hq) (by have:=zbg hp sp h0;omega) (by have:=zbg hq sq h0;omega))
theorem tAdd {p q:Q} (hp:LowQ p) (hq:LowQ q) {N:Nat} (sp:Small p N) (sq:Small q N) (h0:0<N) (hN:N≤300):zbC 45 #[.string (txt p),.string (txt q)] (.string (txt (addQ p q))):=fun W=>
 ze4 (znV _ _ _ _ W (zbA hp) (zbA hq) (by have:=zbg hp sp h0;omega) (by have:=zbg hq sq h0;omega))
theorem tSub {p q:Q} (hp:LowQ p) (hq:LowQ q) {N:Nat} (sp:Small p N) (sq:Small q N) (h0:0<N) (hN:N≤300):zbC 41 #[.string (txt p),.string (txt q)] (.string (txt (subQ p q))):=fun W=>
 ze4 (znN _ _ _ _ W (zbA hp) (zbA hq) (by have:=zbg hp sp h0;omega) (by have:=zbg hq sq h0;omega))
theorem tAbs {p:Q} (hp:LowQ p) {N:Nat} (sp:Small p N) (h0:0<N) (hN:N≤300):zbC 40 #[.string (txt p)] (.string (txt (absQ p))):=fun W=>
 ze4 (znQ _ _ W (zbA hp) (by have:=zbg hp sp h0;omega))
theorem tNeg {p:Q} (hp:LowQ p) {N:Nat} (sp:Small p N) (h0:0<N) (hN:N≤300):zbC 42 #[.string (txt p)] (.string (txt (negQ p))):=fun W=>
 ze4 (znL _ _ W (zbA hp) (by have:=zbg hp sp h0;omega))
theorem tCmp {p q:Q} (hp:LowQ p) (hq:LowQ q) {N:Nat} (sp:Small p N) (sq:Small q N) (h0:0<N) (hN:N≤300):zbC 39 #[.string (txt p),.string (txt q)] (.int .i64 (cmpI p q)):=fun W=>
 znX _ _ _ _ W (zbA hp) (zbA hq) (by have:=zbg hp sp h0;omega) (by have:=zbg hq sq h0;omega)
theorem zo8 {p:Q} (hp:LowQ p) {N:Nat} (sp:Small p N) (h0:0<N) (hN:N≤300):zbC 10 #[.string (txt p)] (.int .i64 0):=fun W=>by
 have h:=zcX (txt p) W (by have:=zbg hp sp h0;omega);rw [(zl7 (zbA hp) sp (by omega) h0).1] at h;exact h
theorem zgQ (s t:ByteArray) (ty:TypeId) (g:Nat) (w:World) (hk:CBlk w g #[.string s,.string t] ty) (bs:s.size≤9223372036854775807) (bt:t.size≤9223372036854775807) :
  Calls Tryz.prog 73 #[.slice (some ⟨g,0,none⟩) 2 2] w fun e w'=>e = .returned (.int .i64 (err2 (zam s.data.toList) (zam t.data.toList)))∧Below w.heap.size w w':=by
 have HS:Hid (∀ W,Calls Tryz.prog 10 #[.string s] W (RetC W (zam s.data.toList))):=fun W=>zcX s W bs
 have HT:Hid (∀ W,Calls Tryz.prog 10 #[.string t] W (RetC W (zam t.data.toList))):=fun W=>zcX t W bt
 generalize zam s.data.toList=x at *;generalize zam t.data.toList=y at *;obtain ⟨E,hE⟩:∃ E,E=err2 x y:=⟨_,rfl⟩;rw [←hE];unfold err2 at hE
 by_cases hx:x=0
 ·rw [if_neg (by omega)] at hE
  subst hE;have dx:(x != 0)=false:=by simpa using hx
  have HX:=Aa hx;clear hx bs bt
  by_cases hy:E=0
  ·have dy:(E != 0)=false:=by simpa using hy
   have HY:=Aa hy;clear hy;go_enter Tryz.func73,Tryz.ntmps73
   go_wp2
   go_loopg [3] 2 (fun g1 v3 W=>∃ i:Nat,v3 = .int .i64 (i:Int)∧i≤2∧g1+i=2∧Below w.heap.size w W)
   case atStart=>exact ⟨0,rfl,by omega,rfl,Below.refl _ _⟩
   case round=>
    obtain ⟨i,rfl,hi,aE,aA⟩:=hrel;have aD:=hk.below aA hk.lt;have z0:wr.cell? ⟨g,0,none⟩=some (.string s):=aD.cell 0;have z1:wr.cell? ⟨g,1,none⟩=some (.string t):=aD.cell 1;clear aD
    match i,hi,aE with
    | 0,_,_=>
     go_wp2_with fail
     refine (HS.out wr).mono ?_;rintro e w1 ⟨rfl,aC⟩;go_wp2
     go_roundg 1
     case rel=>exact ⟨1,rfl,by omega,rfl,aA.trans (aC.mono aA.size)⟩
     case measure=>omega
    | 1,_,_=>
     go_wp2_with fail
     refine (HT.out wr).mono ?_;rintro e w1 ⟨rfl,aC⟩;go_wp2
     go_roundg 0
     case rel=>exact ⟨2,rfl,by omega,rfl,aA.trans (aC.mono aA.size)⟩
     case measure=>omega
    | 2,_,_=>
     go_wp2
     go_ret;exact ⟨by rw [HY.out];rfl,aA⟩
    | n+3,h,_=>exact absurd h (by omega)
  ·have dy:(E != 0)=true:=by simpa using hy
   clear hy;go_enter Tryz.func73,Tryz.ntmps73
   go_wp2
   go_loopg [3] 2 (fun g1 v3 W=>∃ i:Nat,v3 = .int .i64 (i:Int)∧i≤1∧g1+i=2∧Below w.heap.size w W)
   case atStart=>exact ⟨0,rfl,by omega,rfl,Below.refl _ _⟩
   case round=>
    obtain ⟨i,rfl,hi,aE,aA⟩:=hrel;have aD:=hk.below aA hk.lt;have z0:wr.cell? ⟨g,0,none⟩=some (.string s):=aD.cell 0;have z1:wr.cell? ⟨g,1,none⟩=some (.string t):=aD.cell 1;clear aD
    match i,hi,aE with
    | 0,_,_=>
     go_wp2_with fail
     refine (HS.out wr).mono ?_;rintro e w1 ⟨rfl,aC⟩;go_wp2
     go_roundg 1
     case rel=>exact ⟨1,rfl,by omega,rfl,aA.trans (aC.mono aA.size)⟩
     case measure=>omega
    | 1,_,_=>
     go_wp2_with fail
     refine (HT.out wr).mono ?_;rintro e w1 ⟨rfl,aC⟩;go_wp2
     go_ret;exact ⟨rfl,aA.trans (aC.mono aA.size)⟩
    | n+2,h,_=>exact absurd h (by omega)
 ·rw [if_pos hx] at hE
  subst hE;have dx:(E != 0)=true:=by simpa using hx
  clear hx bs bt;go_enter Tryz.func73,Tryz.ntmps73
  go_wp2
  go_loopg [3] 2 (fun g1 v3 W=>v3 = .int .i64 0∧W=w)
  case atStart=>exact ⟨rfl,rfl⟩
  case round=>
   obtain ⟨rfl,rfl⟩:=hrel;have z0:wr.cell? ⟨g,0,none⟩=some (.string s):=hk.cell 0;have z1:wr.cell? ⟨g,1,none⟩=some (.string t):=hk.cell 1
   go_wp2_with fail
   refine (HS.out wr).mono ?_;rintro e w1 ⟨rfl,aC⟩;go_wp2
   go_ret;exact ⟨rfl,aC⟩
def ordN (o:Option Q) (x:Q):Int:=match o with | none=>0 | some q=>if rcmp x q≤0 then 11 else 0
theorem zhA {x q:Q} (hx:LowQ x) (hq:LowQ q):ordN (some q) x=if cmpI x q≤0 then 11 else 0:=by
 show (if rcmp x q≤0 then (11:Int) else 0)=_
 rw [zdO hx hq]
theorem zje {o:Option Q} {X Y:List UInt8}:rowE o X Y=if err2 (zam X) (zam Y)≠0 then err2 (zam X) (zam Y) else ordN o (zak X):=by
 unfold rowE err2 ordN
 by_cases h:zam X=0
 ·simp only [ne_eq,h,not_true_eq_false,if_false]
  cases o<;>rfl
 ·rw [if_pos h,if_pos h,if_pos h]
theorem zer (A:Option Addr) (n c:Nat) (w:World) (E:Int) (h:(n<1∧E=12)∨(64<n∧E=5)) :
  Calls Tryz.prog 46 #[.slice A n c] w fun e w'=>e = .returned (.int .i64 E)∧Below w.heap.size w w':=by
 rcases h with ⟨h,rfl⟩ | ⟨h,rfl⟩
 ·obtain rfl:n=0:=by omega
  go_enter Tryz.func46,Tryz.ntmps46
  go_wp2
  go_ret;exact ⟨rfl,Below.refl _ _⟩
 ·have d1:((n:Int)==0)=false:=by rw [beq_eq_false_iff_ne];omega
  have d2:decide ((64:Int)<(n:Int))=true:=decide_eq_true (by omega);clear h;go_enter Tryz.func46,Tryz.ntmps46
  go_wp2
  go_ret;exact ⟨rfl,Below.refl _ _⟩
theorem zh0 (A:Option Addr) (n c:Nat) (l:List (ByteArray × ByteArray)) (w:World) (h:PtsR w w.heap.size A n l) (hsz:∀ p ∈ l,p.1.size≤9223372036854775807∧p.2.size≤9223372036854775807) (h1:1≤n) (h64:n≤64) :
  Calls Tryz.prog 46 #[.slice A n c] w fun e w'=>e = .returned (.int .i64 (zbr none l))∧Below w.heap.size w w':=by
 have aI:l.length=n:=h.1;obtain ⟨ad,rfl,bO,bB⟩:=h.2 (by omega);have d1:((n:Int)==0)=false:=by rw [beq_eq_false_iff_ne];omega
 have d2:decide ((64:Int)<(n:Int))=false:=decide_eq_false (by omega);obtain ⟨R,hR⟩:∃ R,R=zbr none l:=⟨_,rfl⟩;have bS:=Aa (show R=zbr (zbQ l 0) (l.drop 0) from hR);have aX:=Aa hR;have bF:=Aa bB;have bM:=Aa hsz;have bD:=Aa aI;rw [←hR];clear hR h bB hsz aI;go_enter Tryz.func46,Tryz.ntmps46
 go_wp2
 go_loopg [3] n (fun m s W=>∃ k:Nat,k≤n∧s = .int .i64 k∧n - k≤m∧Below w.heap.size w W∧Hid (zbr none l=zbr (zbQ l k) (l.drop k))∧Hid (0<k→∀ p,l[k - 1]? = some p→zam p.1.data.toList=0))
 case atStart=>exact ⟨0,Nat.zero_le _,rfl,by omega,Below.refl _ _,Aa rfl,Aa (fun h=>absurd h (by omega))⟩
 case round=>
  obtain ⟨k,hk,rfl,hm,aC,bC,bQ⟩:=hrel
  by_cases h0:k<n
  ·have aT:k<l.length:=by have:=bD.out;omega
   obtain ⟨aL,aN⟩:=bF.out k aT;have aA:=zgz aT bC.out;rw [zje] at aA;have hs:=bM.out l[k] (List.getElem_mem aT);have bG:l[k]? = some l[k]:=List.getElem?_eq_getElem aT;have aU:err2 (zam l[k].1.data.toList) (zam l[k].2.data.toList)=0→zam l[k].1.data.toList=0:=fun h=>by
    unfold err2 at h
    by_cases h9:zam l[k].1.data.toList=0
    ·exact h9
    ·rw [if_pos h9] at h;exact h
   generalize bU:l[k]=pt at *;obtain ⟨X,Y⟩:=pt
   dsimp only at aL aN aA hs aU
   have hX:∀ p q:Nat,((ad.add p).add q).block<w.heap.size:=fun p q=>by rw [zaK,zaK];exact bO
   have x0:wr.drew.cell? (ad.add (k*2))=some (.string X):=(aC.cell (hX _ _)).trans aL;have x1:wr.drew.cell? ⟨(ad.add (k*2)).block,(ad.add (k*2)).off+1,none⟩=some (.string Y):=(aC.cell (hX _ _)).trans aN;have bR:(k:Int)<(n:Int):=by omega
   have aO:Below w.heap.size w (wr.alloc (.cells #[.string X,.string Y] 22)).drew:=(aC.alloc aC.size _).drew;have y0:(wr.alloc (.cells #[.string X,.string Y] 22)).drew.cell? (ad.add (k*2))=some (.string X):=(aO.cell (hX _ _)).trans aL;have y1:(wr.alloc (.cells #[.string X,.string Y] 22)).drew.cell? ⟨(ad.add (k*2)).block,(ad.add (k*2)).off+1,none⟩=some (.string Y):=(aO.cell (hX _ _)).trans aN;have bE:CBlk (wr.alloc (.cells #[.string X,.string Y] 22)).drew wr.heap.size #[.string X,.string Y] 22:=(show CBlk (wr.alloc (.cells #[.string X,.string Y] 22)) wr.heap.size #[.string X,.string Y] 22 from CBlk.new wr _ _ _ rfl).drew;have bI:=Aa (zgQ X Y 22 wr.heap.size _ bE hs.1 hs.2);generalize hE:err2 (zam X.data.toList) (zam Y.data.toList)=E at *;have bK:=Aa bG;have bL:=Aa aU;have aD:=Aa aA;have aM:=Aa aO;have aK:=Aa hX;have bT:=Aa aL;clear bG aU aA aL aN bE hs aO hX hE
   go_wp2_with fail
   go_region_held3 (fun w'=>w'.cell? (ad.add (k*2))=some (.string X)∧w'.cell? ⟨(ad.add (k*2)).block,(ad.add (k*2)).off+1,none⟩=some (.string Y))
    (first | with_reducible exact ⟨x0,x1⟩ | with_reducible exact ⟨y0,y1⟩ | with_reducible exact ⟨z0,z1⟩)
    (first | (go_at_call 73;refine bI.out.mono ?_;rintro e w7 ⟨rfl,bA⟩;have aE:=aM.out.trans (bA.mono aM.out.size);have z0:w7.cell? (ad.add (k*2))=some (.string X):=(bA.cell (p:=ad.add (k*2)) (Nat.lt_of_lt_of_le (aK.out (k*2) 0) aM.out.size)).trans y0;have z1:w7.cell? ⟨(ad.add (k*2)).block,(ad.add (k*2)).off+1,none⟩=some (.string Y):=(bA.cell (p:=⟨(ad.add (k*2)).block,(ad.add (k*2)).off+1,none⟩) (Nat.lt_of_lt_of_le (aK.out (k*2) 1) aM.out.size)).trans y1))
   by_cases hE0:E=0
   ·subst hE0
    have bH:Hid (ordN (zbQ l k) (zak X.data.toList)≠0→zbr none l=ordN (zbQ l k) (zak X.data.toList)):=fun h=>by
     have h9:=aD.out.1;rw [if_neg (by simp)] at h9;exact h9 h
    have aG:Hid (ordN (zbQ l k) (zak X.data.toList)=0→zbr none l=zbr (zbQ l (k+1)) (l.drop (k+1))):=fun h=>by
     have h9:=aD.out.2;rw [if_neg (by simp)] at h9;exact (h9 h).1
    have aP:=bL.out rfl;have aF:=Aa (show 0<k+1→∀ p,l[k+1 - 1]? = some p→zam p.1.data.toList=0 from fun _ p hp=>by
     rw [Nat.add_sub_cancel,bK.out] at hp;injection hp with hp
     subst hp;exact aP)
    rcases Nat.eq_zero_or_pos k with aR | aR
    ·subst aR
     have bN:zbQ l 0=none:=rfl;have HZ:=Aa (aG.out (by rw [bN];rfl))
     go_wp2_with fail
     go_region
     go_wp2_with fail
     go_roundg (n - (0+1))
     case measure=>omega
     case rel=>exact ⟨0+1,by omega,by go_num,Nat.le_refl _,aE.drew,HZ,aF⟩
    ·have aV:k - 1<l.length:=by omega
     have aW:l[k - 1]? = some l[k - 1]:=List.getElem?_eq_getElem aV;have aS:=bQ.out aR _ aW;have aY:=(bF.out (k - 1) aV).1;have aZ:zbQ l k=some (zak l[k - 1].1.data.toList):=by unfold zbQ;rw [if_neg (by omega),aW];rfl
     generalize bJ:l[k - 1]=pp at *;obtain ⟨X9,Y9⟩:=pp
     dsimp only at aS aY aZ
     have s1:=zhW aP;have s2:=zhW aS;have n1:=zdQ aP;have n2:=zdQ aS;have bP:=Aa (fun W=>znX X X9 _ _ W n1 n2 (by omega) (by omega));rw [aZ,zhA n1.2 n2.2] at bH aG;generalize cmpI (zak X.data.toList) (zak X9.data.toList)=C at *;have x9:w7.drew.cell? (ad.add ((k - 1)*2))=some (.string X9):=(aE.cell (p:=ad.add ((k - 1)*2)) (aK.out ((k - 1)*2) 0)).trans aY;have z9:w7.drew.cell? (ad.add (k*2))=some (.string X):=z0;have i1:IntKind.i64.wrap ((k:Int) - 1)=((k - 1:Nat):Int):=by rw [IntWalk.i64_in _ (by omega)];omega
     have j1:(0:Int)≤((k - 1:Nat):Int):=by omega
     have j2:((k - 1:Nat):Int)<(n:Int):=by omega
     have j3:k - 1<n:=by omega
     have j4:(0:Int)<(k:Int):=by omega
     have j5:decide (0<k)=true:=decide_eq_true aR;have j6:decide ((0:Int)<(k:Int))=true:=decide_eq_true j4;clear aW aY aS aP s1 s2 n1 n2 aZ bJ aV;generalize k - 1=K1 at *
     go_wp2_with fail
     go_region_held3 (fun w'=>w'.cell? (ad.add (k*2))=some (.string X)∧w'.cell? (ad.add (K1*2))=some (.string X9))
      (first | with_reducible exact ⟨z9,x9⟩ | with_reducible exact ⟨u0,u1⟩)
      (first | (go_at_call 39;refine (bP.out w7.drew).mono ?_;rintro e w8 ⟨rfl,aQ⟩;have u0:w8.cell? (ad.add (k*2))=some (.string X):=(aQ.cell (p:=ad.add (k*2)) (Nat.lt_of_lt_of_le (aK.out (k*2) 0) aE.size)).trans z9;have u1:w8.cell? (ad.add (K1*2))=some (.string X9):=(aQ.cell (p:=ad.add (K1*2)) (Nat.lt_of_lt_of_le (aK.out (K1*2) 0) aE.size)).trans x9))
     by_cases hC:C≤0
     ·have dC:decide (C≤0)=true:=decide_eq_true hC
      have aH:=Aa (show R=11 from by
       have h9:=bH.out;rw [if_pos hC] at h9;exact aX.out.trans (h9 (by omega)))
      go_wp2_with fail
      go_ret;exact ⟨by rw [aH.out];rfl,(aE.drew).trans (aQ.mono aE.size)⟩
     ·have dC:decide (C≤0)=false:=decide_eq_false hC
      have HZ:=Aa (aG.out (if_neg hC))
      go_wp2_with fail
      go_roundg (n - (k+1))
      case measure=>omega
      case rel=>exact ⟨k+1,by omega,by go_num,Nat.le_refl _,(aE.drew).trans (aQ.mono aE.size),HZ,aF⟩
   ·have dE:(E != 0)=true:=by simpa using hE0
    have aH:=Aa (show R=E from by
     have h9:=aD.out.1;rw [if_pos hE0] at h9;exact aX.out.trans (h9 hE0))
    clear hE0
    go_wp2_with fail
    go_ret;exact ⟨by rw [aH.out];rfl,aE⟩
  ·obtain rfl:n=k:=by omega
   have aJ:zbr none l=0:=by
    have h9:=bC.out;rw [List.drop_of_length_le (by have:=bD.out;omega)] at h9;rw [h9]
    cases zbQ l n<;>rfl
   have aH:=Aa (show R=0 from aX.out.trans aJ);clear aJ
   go_wp2_with fail
   go_ret;exact ⟨by rw [aH.out];rfl,aC⟩
structure OnLine (p q:Q × Q) (x v:Q):Prop where
 low:LowQ v
 eq:mulQ (subQ v p.2) (subQ q.1 p.1)=mulQ (subQ q.2 p.2) (subQ x p.1)
theorem zbV {p q:Q × Q} {x v:Q} {A C X B G V:Int} {D F:Nat} (va:Val p.1 A D) (vc:Val q.1 C D) (vx:Val x X D) (vb:Val p.2 B F) (vd:Val q.2 G F) (vv:Val v V F):mulQ (subQ v p.2) (subQ q.1 p.1)=mulQ (subQ q.2 p.2) (subQ x p.1)↔(V - B)*(C - A)=(G - B)*(X - A):=by
 have h1:=(vv.sub1 vb).mul (vc.sub1 va);have h2:=(vd.sub1 vb).mul (vx.sub1 va)
 constructor
 ·intro h
  rw [h] at h1;exact h1.inj h2
 ·intro h
  rw [h] at h1;exact Val.eq h1 h2 (zbK _ _ (vv.sub1 vb).2.2 (vc.sub1 va).2.2) (zbK _ _ (vd.sub1 vb).2.2 (vx.sub1 va).2.2) rfl
theorem ziv {p q:Q × Q} {x v v':Q} (hp1:LowQ p.1) (hp2:LowQ p.2) (hq1:LowQ q.1) (hq2:LowQ q.2) (hx:LowQ x) (hac:cmpI p.1 q.1<0) (h:OnLine p q x v) (h':OnLine p q x v'):v=v':=by
 obtain ⟨A,C,X,D,va,vc,vx⟩:=zbG hp1.1 hq1.1 hx.1;obtain ⟨V,V',F,vv,aA⟩:=zcC h.low.1 h'.low.1;obtain ⟨B,G,E,vb,vd⟩:=zcC hp2.1 hq2.1;have hF:=vv.2.1;have hE:=vb.2.1;have t:∀ {u:Q} {a:Int},Val u a E→Val u (a*(F:Int)) (F*E):=fun g=>by have:=g.scale hF;rwa [Nat.mul_comm] at this
 have e1:=(zbV va vc vx (t vb) (t vd) (vv.scale hE)).1 h.eq;have e2:=(zbV va vc vx (t vb) (t vd) (aA.scale hE)).1 h'.eq;have aC:=(zbT va vc).1 hac;have e3:(V*(E:Int) - B*(F:Int))*(C - A)=(V'*(E:Int) - B*(F:Int))*(C - A):=by rw [e1,e2]
 have e4:=Int.eq_of_mul_eq_mul_right (show C - A≠0 by omega) e3;have e5:V*(E:Int)=V'*(E:Int):=by omega
 have e6:=Int.eq_of_mul_eq_mul_right (show (E:Int)≠0 by omega) e5;subst e6;exact Val.eq vv aA h.low h'.low rfl
theorem zeK {x:Q} {ks:List (Q × Q)} (T:TabQ ks) (hx:LowQ x) {i:Nat} (hi:i+1<ks.length) (h1:cmpI (ks[i]'(by omega)).1 x≤0) (h2:cmpI x ks[i+1].1≤0):∃ v,zaU x none ks=some v∧OnLine (ks[i]'(by omega)) ks[i+1] x v:=by
 have aA:i<ks.length:=by omega
 have la:=T.low1 i aA;have lb:=T.low2 i aA;have lc:=T.low1 _ hi;have ld:=T.low2 _ hi
 have aD:=T.inc i (i+1) aA hi (by omega);obtain ⟨A,C,X,D,va,vc,vx⟩:=zbG la.1 lc.1 hx.1;obtain ⟨B,G,F,vb,vd⟩:=zcC lb.1 ld.1;have aC:=(zbT va vc).1 aD
 by_cases e1:cmpI ks[i].1 x=0
 ·have ex:=zdU la hx e1
  refine ⟨_,by rw [←ex];exact zdP T aA,lb,?_⟩;rw [←ex,zbV va vc va vb vd vb];simp
 ·by_cases e2:cmpI x ks[i+1].1=0
  ·have ex:=zdU hx lc e2
   subst ex;exact ⟨_,zdP T hi,ld,rfl⟩
  ·exact ⟨_,zhB T hx hi (by omega) (by omega),(zec va vc vx vb vd aC).2,zeJ va vc vx vb vd aC⟩
theorem zch {x v:Q} {ks:List (Q × Q)} (T:TabQ ks) (hx:LowQ x) {i:Nat} (hi:i+1<ks.length) (h1:cmpI (ks[i]'(by omega)).1 x≤0) (h2:cmpI x ks[i+1].1≤0) (h:OnLine (ks[i]'(by omega)) ks[i+1] x v):zaU x none ks=some v:=by
 have aA:i<ks.length:=by omega
 obtain ⟨v',e,h'⟩:=zeK T hx hi h1 h2;rw [e,ziv (T.low1 i aA) (T.low2 i aA) (T.low1 _ hi) (T.low2 _ hi) hx (T.inc i (i+1) aA hi (by omega)) h h']
theorem zjd {x:Q} {ks:List (Q × Q)} (T:TabQ ks) (hx:LowQ x) (h2:2≤ks.length) (hlo:cmpI (ks[0]'(by omega)).1 x≤0):∀ m (hm:m+1<ks.length),cmpI x ks[m+1].1≤0→∃ i,∃ hi:i+1<ks.length,cmpI (ks[i]'(by omega)).1 x≤0∧cmpI x ks[i+1].1≤0
 | 0,hm,hhi=>⟨0,hm,hlo,hhi⟩
 | m+1,hm,hhi=>by
  by_cases h:cmpI x (ks[m+1]'(by omega)).1≤0
  ·exact zjd T hx h2 hlo m (by omega) h
  ·refine ⟨m+1,hm,?_,hhi⟩
   rw [zbJ hx.1 (T.low1 (m+1) (by omega)).1];omega
section
variable {p q:Q × Q} {x y v u:Q} (hp1:LowQ p.1) (hp2:LowQ p.2) (hq1:LowQ q.1) (hq2:LowQ q.2) (hx:LowQ x) (hy:LowQ y) (h:OnLine p q x v) (g:OnLine p q y u)
include hp1 hp2 hq1 hq2 hx hy h g
theorem zju:∃ (A C X Y B G V U:Int) (D F:Nat),Val p.1 A D∧Val q.1 C D∧Val x X D∧Val y Y D∧Val p.2 B F∧Val q.2 G F∧Val v V F∧Val u U F∧(V - B)*(C - A)=(G - B)*(X - A)∧(U - B)*(C - A)=(G - B)*(Y - A):=by
 obtain ⟨A,C,X,D,va,vc,vx⟩:=zbG hp1.1 hq1.1 hx.1;obtain ⟨B,G,V,F,vb,vd,vv⟩:=zbG hp2.1 hq2.1 h.low.1;have wy:=(ze2 hy.1).scale va.2.1;have wu:=(ze2 g.low.1).scale vb.2.1;rw [Nat.mul_comm] at wy wu;have k1:=(zbV (va.scale hy.1) (vc.scale hy.1) (vx.scale hy.1) (vb.scale g.low.1) (vd.scale g.low.1) (vv.scale g.low.1)).1 h.eq;have k2:=(zbV (va.scale hy.1) (vc.scale hy.1) wy (vb.scale g.low.1) (vd.scale g.low.1) wu).1 g.eq;exact ⟨_,_,_,_,_,_,_,_,_,_,va.scale hy.1,vc.scale hy.1,vx.scale hy.1,wy,vb.scale g.low.1,vd.scale g.low.1,vv.scale g.low.1,wu,k1,k2⟩
theorem zie (hac:cmpI p.1 q.1<0):OnLine p (x,v) y u:=by
 obtain ⟨A,C,X,Y,B,G,V,U,D,F,va,vc,vx,vy,vb,vd,vv,vu,k1,k2⟩:=zju hp1 hp2 hq1 hq2 hx hy h g;refine ⟨g.low,(zbV (q:=(x,v)) va vx vy vb vv vu).2 ?_⟩;have aA:=(zbT va vc).1 hac
 apply Int.eq_of_mul_eq_mul_right (show C - A≠0 by omega)
 have e1:(U - B)*(X - A)*(C - A)=((U - B)*(C - A))*(X - A):=by grind
 have e2:(V - B)*(Y - A)*(C - A)=((V - B)*(C - A))*(Y - A):=by grind
 rw [e1,e2,k1,k2]
 grind
theorem zjU (hac:cmpI p.1 q.1<0):OnLine (x,v) q y u:=by
 obtain ⟨A,C,X,Y,B,G,V,U,D,F,va,vc,vx,vy,vb,vd,vv,vu,k1,k2⟩:=zju hp1 hp2 hq1 hq2 hx hy h g;refine ⟨g.low,(zbV (p:=(x,v)) vx vc vy vv vd vu).2 ?_⟩;have aA:=(zbT va vc).1 hac
 apply Int.eq_of_mul_eq_mul_right (show C - A≠0 by omega)
 have e0:(U - V)*(C - A)=(G - B)*(Y - X):=by
  have:(U - V)*(C - A)=(U - B)*(C - A) - (V - B)*(C - A):=by grind
  rw [this,k1,k2]
  grind
 have e4:(G - V)*(C - A)=(G - B)*(C - X):=by
  have:(G - V)*(C - A)=(G - B)*(C - A) - (V - B)*(C - A):=by grind
  rw [this,k1]
  grind
 have e1:(U - V)*(C - X)*(C - A)=((U - V)*(C - A))*(C - X):=by grind
 have e2:(G - V)*(Y - X)*(C - A)=((G - V)*(C - A))*(Y - X):=by grind
 rw [e1,e2,e0,e4]
 grind
end
theorem zkB {p q:Q × Q} {x v c:Q} (hp1:LowQ p.1) (hp2:LowQ p.2) (hq1:LowQ q.1) (hq2:LowQ q.2) (hx:LowQ x) (hc:LowQ c) (h:OnLine p q x v):OnLine (p.1,mulQ c p.2) (q.1,mulQ c q.2) x (mulQ c v):=by
 obtain ⟨A,C,X,D,va,vc,vx⟩:=zbG hp1.1 hq1.1 hx.1;obtain ⟨B,G,V,F,vb,vd,vv⟩:=zbG hp2.1 hq2.1 h.low.1;have k:=(zbV va vc vx vb vd vv).1 h.eq;have vz:=ze2 hc.1;refine ⟨zbK _ _ hc.1 h.low.1,(zbV (p:=(p.1,mulQ c p.2)) (q:=(q.1,mulQ c q.2)) va vc vx (vz.mul vb) (vz.mul vd) (vz.mul vv)).2 ?_⟩;have e1:(sI c*V - sI c*B)*(C - A)=sI c*((V - B)*(C - A)):=by grind
 have e2:(sI c*G - sI c*B)*(X - A)=sI c*((G - B)*(X - A)):=by grind
 rw [e1,e2,k]
theorem Val.neg {p:Q} {a:Int} {d:Nat} (h:Val p a d):Val (negQ p) (-a) d:=by
 obtain ⟨h1,h2,h3⟩:=h;refine ⟨?_,h2,h3⟩;rw [zi4,Int.neg_mul,h1,Int.neg_mul];rfl
theorem zlZ {p q:Q × Q} {x v:Q} (hp1:LowQ p.1) (hp2:LowQ p.2) (hq1:LowQ q.1) (hq2:LowQ q.2) (hx:LowQ x) (h:OnLine p q x v):OnLine (negQ q.1,q.2) (negQ p.1,p.2) (negQ x) v:=by
 obtain ⟨A,C,X,D,va,vc,vx⟩:=zbG hp1.1 hq1.1 hx.1;obtain ⟨B,G,V,F,vb,vd,vv⟩:=zbG hp2.1 hq2.1 h.low.1;have k:=(zbV va vc vx vb vd vv).1 h.eq;refine ⟨h.low,(zbV (p:=(negQ q.1,q.2)) (q:=(negQ p.1,p.2)) vc.neg va.neg vx.neg vd vb vv).2 ?_⟩;have e1:(V - G)*(-A - -C)=(V - B)*(C - A) - (G - B)*(C - A):=by grind
 rw [e1,k]
 grind
def ptT (p:Q × Q):ByteArray × ByteArray:=(txt p.1,txt p.2)
structure TabS (ks:List (Q × Q)) (N:Nat):Prop where
 t:TabQ ks
 s:∀ i (h:i<ks.length),Small ks[i].1 N∧Small ks[i].2 N
 len1:1≤ks.length
 len2:ks.length≤64
theorem TabQ.tail {p:Q × Q} {t:List (Q × Q)} (T:TabQ (p :: t)):TabQ t:=
 ⟨fun i h=>T.low1 (i+1) (by simpa using h),fun i h=>T.low2 (i+1) (by simpa using h),fun i j h h' hij=>T.inc (i+1) (j+1) (by simpa using h) (by simpa using h') (by omega)⟩
theorem zpe {p:Q × Q} {N:Nat} (h1:LowQ p.1) (h2:LowQ p.2) (s:Small p.1 N∧Small p.2 N) (h0:0<N) (hN:N≤300):rdP (ptT p)=p∧zam (ptT p).1.data.toList=0∧zam (ptT p).2.data.toList=0:=by
 obtain ⟨a1,a2⟩:=zfq (zbA h1) s.1 (by omega) h0;obtain ⟨b1,b2⟩:=zfq (zbA h2) s.2 (by omega) h0;refine ⟨?_,a1,b1⟩;show (zak (txt p.1).data.toList,zak (txt p.2).data.toList)=p
 rw [a2,b2]
theorem zhC {N:Nat} (h0:0<N) (hN:N≤300):∀ (ks:List (Q × Q)) (o:Option Q),TabQ ks→(∀ i (h:i<ks.length),Small ks[i].1 N∧Small ks[i].2 N)→(∀ q,o=some q→LowQ q∧∀ i (h:i<ks.length),cmpI q ks[i].1<0)→zbr o (ks.map ptT)=0
 | [],o,_,_,_=>by cases o<;>rfl
 | p :: t,o,T,S,ho=>by
  have l1:=T.low1 0 (by simp);have l2:=T.low2 0 (by simp);have hs:=S 0 (by simp)
  dsimp only [List.getElem_cons_zero] at l1 l2 hs
  obtain ⟨e0,e1,e2⟩:=zpe l1 l2 hs h0 hN;have er:zak (ptT p).1.data.toList=p.1:=congrArg Prod.fst e0;have hrow:rowE o (ptT p).1.data.toList (ptT p).2.data.toList=0:=by
   rw [zje,e1,e2,er]
   cases o with
   | none=>rfl
   | some q=>
    obtain ⟨hq,hc⟩:=ho q rfl;have h9:=hc 0 (by simp)
    dsimp only [List.getElem_cons_zero] at h9
    rw [zhA l1 hq,zbJ hq.1 l1.1,if_neg (show ¬ -cmpI q p.1≤0 by omega)];rfl
  have aC:=zhC h0 hN t (some p.1) T.tail (fun i h=>S (i+1) (by simpa using h)) (fun q hq=>by
   injection hq with hq
   subst hq;exact ⟨l1,fun i h=>T.inc 0 (i+1) (by simp) (by simpa using h) (by omega)⟩)
  have aA:zbr o ((p :: t).map ptT)=if rowE o (ptT p).1.data.toList (ptT p).2.data.toList≠0 then rowE o (ptT p).1.data.toList (ptT p).2.data.toList else zbr (some (zak (ptT p).1.data.toList)) (t.map ptT):=by
   cases o<;>rfl
  rw [aA,hrow,if_neg (by simp),er,aC]
theorem zoh {ks:List (Q × Q)} {N:Nat} (h:TabS ks N) (h0:0<N) (hN:N≤300):tabE (ks.map ptT)=0∧(ks.map ptT).map rdP=ks∧∀ p ∈ ks.map ptT,p.1.size≤4294967296∧p.2.size≤4294967296:=by
 refine ⟨?_,?_,?_⟩
 ·unfold tabE
  rw [List.length_map,if_neg (by have:=h.len1;omega),if_neg (by have:=h.len2;omega)];exact zhC h0 hN ks none h.t h.s (fun q hq=>by cases hq)
 ·refine List.ext_getElem (by simp) (fun i h1 h2 => ?_)
  rw [List.getElem_map,List.getElem_map];exact (zpe (h.t.low1 i h2) (h.t.low2 i h2) (h.s i h2) h0 hN).1
 ·intro p hp
  obtain ⟨q,hq,rfl⟩:=List.mem_map.1 hp;obtain ⟨i,hi,rfl⟩:=List.mem_iff_getElem.1 hq;have a:=zbg (h.t.low1 i hi) (h.s i hi).1 h0;have b:=zbg (h.t.low2 i hi) (h.s i hi).2 h0;show (txt ks[i].1).size≤_∧(txt ks[i].2).size≤_
  omega
theorem zeB {ks:List (Q × Q)} {N:Nat} (h:TabS ks N) (h0:0<N) (hN:N≤300) {A:Option Addr} {n c:Nat} {x v:Q} (lx:LowQ x) (sx:Small x N) (hv:zaU x none ks=some v) (lv:LowQ v) (sv:Small v N) (W:World) (hT:Tabs W) (hp:PtsR W W.heap.size A n (ks.map ptT)) :
  Calls Tryz.prog 50 #[.slice A n c,.string (txt x)] W fun e w'=>e = .returned (.tuple #[.string (txt v),.int .i64 0])∧Below W.heap.size W w':=by
 obtain ⟨he,hr,hz⟩:=zoh h h0 hN;have hs:=zbg lx sx h0;have g:=zh4 A n c _ (txt x) W hT hp hz (by omega);have aA:=zfq (zbA lx) sx (by omega) h0;have e1:blE (ks.map ptT) (txt x).data.toList=0:=by
  unfold blE zfC;rw [if_neg (show ¬ tabE (ks.map ptT)≠0 from fun k=>k he),aA.1,aA.2,if_neg (by simp),hr,hv];exact (zdR sv (by omega) h0 lv.1).1
 have e2:blT (ks.map ptT) (txt x).data.toList=zaE v:=by
  unfold blT zfC;rw [if_neg (show ¬ tabE (ks.map ptT)≠0 from fun k=>k he),aA.1,aA.2,if_neg (by simp),hr,hv];exact (zdR sv (by omega) h0 lv.1).2
 rw [e1,e2] at g;exact g.mono fun _ _ ⟨s,he,hs,hb⟩=>⟨by rw [he,zeZ ⟨hs,lv⟩],hb⟩
structure Between (ks:List (Q × Q)) (x:Q) (i:Nat):Prop where
 hi:i+1<ks.length
 lo:cmpI (ks[i]'(by omega)).1 x≤0
 up:cmpI x ks[i+1].1≤0
def zbE (c:Q) (ks:List (Q × Q)):List (Q × Q):=ks.map fun p=>(p.1,mulQ c p.2)
theorem zhr {ks:List (Q × Q)} {c:Q} (T:TabQ ks) (hc:LowQ c):TabQ (zbE c ks):=by
 have hl:(zbE c ks).length=ks.length:=by simp [zbE]
 have hg:∀ i (h:i<(zbE c ks).length),(zbE c ks)[i]=((ks[i]'(by omega)).1,mulQ c (ks[i]'(by omega)).2):=fun i h=>by simp [zbE]
 refine ⟨fun i h => ?_,fun i h => ?_,fun i j h h' aA => ?_⟩
 ·rw [hg];exact T.low1 i (by omega)
 ·rw [hg];exact zbK _ _ hc.1 (T.low2 i (by omega)).1
 ·rw [hg,hg];exact T.inc i j (by omega) (by omega) aA
theorem ziz {ks:List (Q × Q)} {c y u:Q} (T:TabQ ks) (hc:LowQ c) (hy:LowQ y) {i:Nat} (b:Between ks y i) (hu:zaU y none ks=some u):zaU y none (zbE c ks)=some (mulQ c u):=by
 have hl:(zbE c ks).length=ks.length:=by simp [zbE]
 have hi:=b.hi;obtain ⟨u',e,aA⟩:=zeK T hy hi b.lo b.up;rw [hu] at e;injection e with e
 subst e;have hg:∀ i (h:i<(zbE c ks).length),(zbE c ks)[i]=((ks[i]'(by omega)).1,mulQ c (ks[i]'(by omega)).2):=fun i h=>by simp [zbE]
 refine zch (zhr T hc) hy (i:=i) (by omega) ?_ ?_ ?_
 ·rw [hg];exact b.lo
 ·rw [hg];exact b.up
 ·rw [hg,hg]
  exact zkB (T.low1 i (by omega)) (T.low2 i (by omega)) (T.low1 _ hi) (T.low2 _ hi) hy hc aA
def zdz (ks:List (Q × Q)):List (Q × Q):=(ks.map fun p=>(negQ p.1,p.2)).reverse
theorem ziU {p q:Q} (hp:LowQ p) (hq:LowQ q):cmpI (negQ p) (negQ q)=cmpI q p:=by
 rw [zcQ (zeU hp).1 (zeU hq).1,zcQ hq.1 hp.1,zi4,zi4]
 congr 1
 show -sI p*(q.bot:Int) - -sI q*(p.bot:Int)=sI q*(p.bot:Int) - sI p*(q.bot:Int)
 rw [Int.neg_mul,Int.neg_mul];omega
theorem zde {ks:List (Q × Q)} (i:Nat) (h:i<(zdz ks).length) (h':ks.length - 1 - i<ks.length):(zdz ks)[i]=(negQ ks[ks.length - 1 - i].1,ks[ks.length - 1 - i].2):=by
 revert h
 unfold zdz;intro h;rw [List.getElem_reverse,List.getElem_map];simp
theorem zjB {ks:List (Q × Q)} (T:TabQ ks):TabQ (zdz ks):=by
 have hl:(zdz ks).length=ks.length:=by simp [zdz]
 refine ⟨fun i h => ?_,fun i h => ?_,fun i j h h' aA => ?_⟩
 ·rw [zde i h (by omega)];exact zeU (T.low1 _ (by omega))
 ·rw [zde i h (by omega)];exact T.low2 _ (by omega)
 ·rw [zde i h (by omega),zde j h' (by omega),ziU (T.low1 _ (by omega)) (T.low1 _ (by omega))]
  exact T.inc _ _ (by omega) (by omega) (by omega)
theorem zj2 {ks:List (Q × Q)} {y u:Q} (T:TabQ ks) (hy:LowQ y) {i:Nat} (b:Between ks y i) (hu:zaU y none ks=some u):zaU (negQ y) none (zdz ks)=some u:=by
 have hl:(zdz ks).length=ks.length:=by simp [zdz]
 have hi:=b.hi;obtain ⟨u',e,aC⟩:=zeK T hy hi b.lo b.up;rw [hu] at e;injection e with e
 subst e;have lj:ks.length - 1 - (ks.length - 2 - i)<ks.length:=by omega
 have aA:ks.length - 1 - (ks.length - 2 - i+1)<ks.length:=by omega
 have ej:ks.length - 1 - (ks.length - 2 - i)=i+1:=by omega
 have aD:ks.length - 1 - (ks.length - 2 - i+1)=i:=by omega
 have g1:(zdz ks)[ks.length - 2 - i]'(by omega)=(negQ ks[i+1].1,ks[i+1].2):=by
  rw [zde _ (by omega) lj];simp only [ej]
 have g2:(zdz ks)[ks.length - 2 - i+1]'(by omega)=(negQ (ks[i]'(by omega)).1,(ks[i]'(by omega)).2):=by
  rw [zde _ (by omega) aA];simp only [aD]
 refine zch (zjB T) (zeU hy) (i:=ks.length - 2 - i) (by omega) ?_ ?_ ?_
 ·rw [g1,ziU (T.low1 _ hi) hy];exact b.up
 ·rw [g2,ziU hy (T.low1 i (by omega))];exact b.lo
 ·rw [g1,g2]
  exact zlZ (T.low1 i (by omega)) (T.low2 i (by omega)) (T.low1 _ hi) (T.low2 _ hi) hy aC
def zel (ks:List (Q × Q)) (i:Nat) (p:Q × Q):List (Q × Q):=ks.take (i+1)++p :: ks.drop (i+1)
theorem zcE {ks:List (Q × Q)} {p:Q × Q} {i:Nat} (hi:i+1<ks.length) (j:Nat) (h:j<(zel ks i p).length):(zel ks i p)[j]=if j<i+1 then ks.getD j p else if j=i+1 then p else ks.getD (j - 1) p:=by
 have ht:(ks.take (i+1)).length=i+1:=by rw [List.length_take];omega
 have aA:j<ks.length+1:=by
  have:=h;unfold zel at this;rw [List.length_append,List.length_cons,List.length_drop,ht] at this;omega
 revert h
 unfold zel;intro h;rw [List.getElem_append]
 split
 ·rename_i h1
  rw [ht] at h1;rw [if_pos h1,List.getElem_take,List.getD,List.getElem?_eq_getElem (by omega)];rfl
 ·rename_i h1
  rw [ht] at h1;rw [if_neg h1]
  by_cases e:j=i+1
  ·subst e
   simp [ht]
  ·rw [if_neg e,List.getElem_cons,dif_neg (by omega),List.getElem_drop]
   have:j - 1<ks.length:=by omega
   rw [List.getD,List.getElem?_eq_getElem this];simp only [Option.getD_some]
   congr 1
   omega
theorem zg1 {ks:List (Q × Q)} {p:Q × Q} {i:Nat} (hi:i+1<ks.length):(zel ks i p).length=ks.length+1:=by
 unfold zel;rw [List.length_append,List.length_cons,List.length_drop,List.length_take];omega
theorem zb0 {ks:List (Q × Q)} {p:Q × Q} {j:Nat} (h:j<ks.length):ks.getD j p=ks[j]:=by
 rw [List.getD,List.getElem?_eq_getElem h];rfl
theorem zi6 {ks:List (Q × Q)} {x v:Q} {i:Nat} (T:TabQ ks) (hi:i+1<ks.length) (hx:LowQ x) (hv:LowQ v) (h1:cmpI (ks[i]'(by omega)).1 x<0) (h2:cmpI x ks[i+1].1<0):TabQ (zel ks i (x,v)):=by
 have hl:=zg1 (ks:=ks) (p:=(x,v)) hi;have aA:∀ j (h:j<ks.length),j≤i→cmpI ks[j].1 x<0:=fun j h hj=>by
  by_cases e:j=i
  ·subst e;exact h1
  ·exact zcY (T.low1 j h).1 (T.low1 i (by omega)).1 hx.1 (T.inc j i h (by omega) (by omega)) (Int.le_of_lt h1)
 have aC:∀ j (h:j<ks.length),i<j→cmpI x ks[j].1<0:=fun j h hj=>by
  by_cases e:j=i+1
  ·subst e;exact h2
  ·exact zcY hx.1 (T.low1 _ hi).1 (T.low1 j h).1 h2 (Int.le_of_lt (T.inc (i+1) j hi h (by omega)))
 refine ⟨fun j h => ?_,fun j h => ?_,fun j k h h' aD => ?_⟩
 ·rw [zcE hi]
  split
  ·rw [zb0 (by omega)];exact T.low1 j (by omega)
  ·split
   ·exact hx
   ·rw [zb0 (by omega)];exact T.low1 _ (by omega)
 ·rw [zcE hi]
  split
  ·rw [zb0 (by omega)];exact T.low2 j (by omega)
  ·split
   ·exact hv
   ·rw [zb0 (by omega)];exact T.low2 _ (by omega)
 ·rw [zcE hi,zcE hi]
  by_cases a1:j<i+1
  ·rw [if_pos a1,zb0 (by omega)]
   by_cases a2:k<i+1
   ·rw [if_pos a2,zb0 (by omega)];exact T.inc j k (by omega) (by omega) aD
   ·rw [if_neg a2]
    by_cases a3:k=i+1
    ·rw [if_pos a3];exact aA j (by omega) (by omega)
    ·rw [if_neg a3,zb0 (by omega)];exact T.inc j (k - 1) (by omega) (by omega) (by omega)
  ·rw [if_neg a1,if_neg (show ¬ k<i+1 by omega),if_neg (show k≠i+1 by omega),zb0 (show k - 1<ks.length by omega)]
   by_cases a3:j=i+1
   ·rw [if_pos a3];exact aC (k - 1) (by omega) (by omega)
   ·rw [if_neg a3,zb0 (by omega)];exact T.inc (j - 1) (k - 1) (by omega) (by omega) (by omega)
theorem zjN {ks:List (Q × Q)} {x v y u:Q} {i j:Nat} (T:TabQ ks) (hi:i+1<ks.length) (hx:LowQ x) (hy:LowQ y) (h1:cmpI (ks[i]'(by omega)).1 x<0) (h2:cmpI x ks[i+1].1<0) (hv:zaU x none ks=some v) (b:Between ks y j) (hu:zaU y none ks=some u):zaU y none (zel ks i (x,v))=some u:=by
 obtain ⟨v',ev,aC⟩:=zeK T hx hi (Int.le_of_lt h1) (Int.le_of_lt h2);rw [hv] at ev;injection ev with ev
 subst ev;have hj:=b.hi;obtain ⟨u',eu,aA⟩:=zeK T hy hj b.lo b.up;rw [hu] at eu;injection eu with eu
 subst eu;have hl:=zg1 (ks:=ks) (p:=(x,v)) hi;have TT:=zi6 T hi hx aC.low h1 h2;have aD:=T.inc i (i+1) (by omega) hi (by omega);have gl:∀ k (hk:k<ks.length) (h:k<i+1),(zel ks i (x,v))[k]'(by omega)=ks[k]:=fun k hk h=>by rw [zcE hi,if_pos h,zb0 hk]
 have gm:(zel ks i (x,v))[i+1]'(by omega)=(x,v):=by rw [zcE hi,if_neg (by omega),if_pos rfl]
 have gr:∀ k (hk:k<ks.length) (h:i<k),(zel ks i (x,v))[k+1]'(by omega)=ks[k]:=fun k hk h=>by rw [zcE hi,if_neg (by omega),if_neg (by omega),Nat.add_sub_cancel,zb0 hk]
 by_cases c1:j<i
 ·refine zch TT hy (i:=j) (by omega) ?_ ?_ ?_
  ·rw [gl j (by omega) (by omega)];exact b.lo
  ·rw [gl (j+1) (by omega) (by omega)];exact b.up
  ·rw [gl j (by omega) (by omega),gl (j+1) (by omega) (by omega)];exact aA
 ·by_cases c2:j=i
  ·subst c2
   by_cases c3:cmpI y x≤0
   ·refine zch TT hy (i:=j) (by omega) ?_ ?_ ?_
    ·rw [gl j (by omega) (by omega)];exact b.lo
    ·rw [gm];exact c3
    ·rw [gl j (by omega) (by omega),gm]
     exact zie (T.low1 j (by omega)) (T.low2 j (by omega)) (T.low1 _ hi) (T.low2 _ hi) hx hy aC aA aD
   ·refine zch TT hy (i:=j+1) (by omega) ?_ ?_ ?_
    ·rw [gm,zbJ hy.1 hx.1];omega
    ·rw [gr (j+1) (by omega) (by omega)];exact b.up
    ·rw [gm,gr (j+1) (by omega) (by omega)]
     exact zjU (T.low1 j (by omega)) (T.low2 j (by omega)) (T.low1 _ hi) (T.low2 _ hi) hx hy aC aA aD
  ·refine zch TT hy (i:=j+1) (by omega) ?_ ?_ ?_
   ·rw [gr j (by omega) (by omega)];exact b.lo
   ·rw [gr (j+1) (by omega) (by omega)];exact b.up
   ·rw [gr j (by omega) (by omega),gr (j+1) (by omega) (by omega)];exact aA
end Go.Proofs.YtbkgkoenppkhpaaGreatDoor
