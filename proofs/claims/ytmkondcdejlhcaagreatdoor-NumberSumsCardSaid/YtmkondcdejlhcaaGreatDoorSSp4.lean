/- Contracts of package number's combine: two numbers, two spans; the functions that are built on it. -/
import Derived.Test.YtmkondcdejlhcaaGreatDoorBSp2
import Derived.Test.YtmkondcdejlhcaaGreatDoorBWords
import Derived.Test.YtmkondcdejlhcaaGreatDoorBRb24
import Derived.Test.YtmkondcdejlhcaaGreatDoorBKn8
import Derived.Test.YtmkondcdejlhcaaGreatDoorBSh5
import Derived.Test.YtmkondcdejlhcaaGreatDoorBLdx2
import Derived.Test.YtmkondcdejlhcaaGreatDoorBEx3
import Derived.Test.YtmkondcdejlhcaaGreatDoorSOrder
import Derived.Test.YtmkondcdejlhcaaGreatDoorBRat2
import Derived.Test.YtmkondcdejlhcaaGreatDoorBFloat
import Derived.Test.YtmkondcdejlhcaaGreatDoorBShelf
import Derived.Deep.RegionHeld3
import Derived.Deep.LoopGhost
import Derived.Shelf.SlSorted.Search
import Derived.Test.YtmkondcdejlhcaaGreatDoorBDw
import Derived.Laws.Cover2
import Derived.Test.YtmkondcdejlhcaaGreatDoorBRb3
import Derived.Test.YtmkondcdejlhcaaGreatDoorBSp8
set_option maxRecDepth 100000
set_option maxHeartbeats 4000000
namespace Go.Proofs.YtmkondcdejlhcaaGreatDoor
section
open Go.RowKit Bn
theorem zjI (fo:FuncId) (x y E:Int) (p q:Q) (s t:ByteArray) (w:World) (hT:Tabs w) (HE:Hid (E=if x≠0 then x else y)) (H0:Hid (E≠0))
  (HR1:Hid (∀ W,Tabs W→Calls Tryz.prog 62 #[.string s] W (zax W p x))) (HR2:Hid (∀ W,Tabs W→Calls Tryz.prog 62 #[.string t] W (zax W q y))) :
  Calls Tryz.prog 63 #[.string s,.string t,.func (.func 62) #[] #[],.func (.func fo) #[] #[],.func (.func 65) #[] #[]] w (za0 w [] E):=by
 have er:=fun aC w=>show (callFunc 62 aC).run Tryz.prog w = .ok (.enter 62 aC) w from by kernel_rfl
 have aV:(E != 0)=true:=by simpa using H0.out
 go_enter Tryz.func63,Tryz.ntmps63
 go_wp2_with fail
 refine (HR1.out w hT).mono ?_;rintro e w2 ⟨v2,rfl,⟨A1,n1,c1,A2,n2,c2,rfl,h1,h2⟩,aG⟩;have aA:Below w2.heap.size w2 (w2.alloc (.cells #[.bool p.neg,.slice A1 n1 c1,.slice A2 n2 c2] 91)):=Ac;have q0:CBlk (w2.alloc (.cells #[.bool p.neg,.slice A1 n1 c1,.slice A2 n2 c2] 91)) w2.heap.size #[.bool p.neg,.slice A1 n1 c1,.slice A2 n2 c2] 91:=CBlk.new _ _ _ _ rfl;have aF:=Ad aG aA;have aP:=h1.later aA;have aJ:=h2.later aA;clear h1 h2 aA aG;go_upto_region 2 with (fail)
 generalize (w2.alloc (.cells #[.bool p.neg,.slice A1 n1 c1,.slice A2 n2 c2] 91))=w3 at *
 go_wp2_with fail
 refine (HR2.out w3 (hT.later aF)).mono ?_;rintro e w4 ⟨v4,rfl,⟨A3,n3,c3,A4,n4,c4,rfl,h3,h4⟩,aD⟩;have aA:Below w4.heap.size w4 (w4.alloc (.cells #[.bool q.neg,.slice A3 n3 c3,.slice A4 n4 c4] 91)):=Ac;have aL:=(q0.below aD q0.lt).alloc (.cells #[.bool q.neg,.slice A3 n3 c3,.slice A4 n4 c4] 91);have aN:CBlk (w4.alloc (.cells #[.bool q.neg,.slice A3 n3 c3,.slice A4 n4 c4] 91)) w4.heap.size #[.bool q.neg,.slice A3 n3 c3,.slice A4 n4 c4] 91:=CBlk.new _ _ _ _ rfl;have aH:=Ad aF aD;have aI:=Ad aH aA;have aM:=(aP.later aD).later aA;have aK:=(aJ.later aD).later aA;have aQ:=h3.later aA;have aO:=h4.later aA;clear q0 aF aP aJ h3 h4 aD aA aH;go_upto_region 3 with (fail)
 generalize (w4.alloc (.cells #[.bool q.neg,.slice A3 n3 c3,.slice A4 n4 c4] 91))=w5 at *;have aR:Below w.heap.size w (w5.alloc (.cells #[.int .i64 x,.int .i64 y] 26)):=aI.alloc aI.size _;have aE:Below w5.heap.size w5 (w5.alloc (.cells #[.int .i64 x,.int .i64 y] 26)):=Ac;have bA:=aL.alloc (.cells #[.int .i64 x,.int .i64 y] 26);have aS:=aN.alloc (.cells #[.int .i64 x,.int .i64 y] 26);have aT:=aM.later aE;have aU:=aK.later aE;have aW:=aQ.later aE;have aZ:=aO.later aE
 go_wp2_with fail
 refine (za7 x y E HE.out w5 _ _ rfl).mono ?_;rintro e w6 ⟨rfl,rfl⟩;clear aL aN aI aE aM aK aQ aO;generalize (w5.alloc (.cells #[.int .i64 x,.int .i64 y] 26))=w6 at *;go_wp2
 go_ret2
 exact ⟨⟨#[]⟩,rfl,rfl,aR⟩
theorem zmo (fo:FuncId) (p q r:Q) (s t:ByteArray) (w:World) (hT:Tabs w) (eo:∀ args w,(callFunc fo args).run Tryz.prog w = .ok (.enter fo args) w) (lr:LenQ r 268435456)
  (HR1:Hid (∀ W,Tabs W→Calls Tryz.prog 62 #[.string s] W (zax W p 0))) (HR2:Hid (∀ W,Tabs W→Calls Tryz.prog 62 #[.string t] W (zax W q 0)))
  (HO:Hid (∀ v u W,Tabs W→RatS W W.heap.size v p→RatS W W.heap.size u q→Calls Tryz.prog fo #[v,u] W (za4 W r))) :
  Calls Tryz.prog 63 #[.string s,.string t,.func (.func 62) #[] #[],.func (.func fo) #[] #[],.func (.func 65) #[] #[]] w (za0 w (zaJ r) (zao r)):=by
 have er:=fun args w=>show (callFunc 62 args).run Tryz.prog w = .ok (.enter 62 args) w from by kernel_rfl
 have ew:=fun args w=>show (callFunc 65 args).run Tryz.prog w = .ok (.enter 65 args) w from by kernel_rfl
 obtain ⟨E,hE⟩:∃ E:Int,E=if (0:Int)≠0 then 0 else 0:=⟨_,rfl⟩
 obtain ⟨x,hx⟩:∃ x:Int,x=0:=⟨_,rfl⟩;obtain ⟨y,hy⟩:∃ y:Int,y=0:=⟨_,rfl⟩;have bF:(E != 0)=false:=by rw [hE];rfl
 have HE:Hid (E=if x≠0 then x else y):=by rw [Hid,hE,hx,hy]
 rw [←hx] at HR1;rw [←hy] at HR2;have HX:=Aa hx;have HY:=Aa hy;clear hE hx hy;go_enter Tryz.func63,Tryz.ntmps63
 go_wp2_with fail
 refine (HR1.out w hT).mono ?_;rintro e w2 ⟨v2,rfl,⟨A1,n1,c1,A2,n2,c2,rfl,h1,h2⟩,aH⟩;have aA:Below w2.heap.size w2 (w2.alloc (.cells #[.bool p.neg,.slice A1 n1 c1,.slice A2 n2 c2] 91)):=Ac;have q0:CBlk (w2.alloc (.cells #[.bool p.neg,.slice A1 n1 c1,.slice A2 n2 c2] 91)) w2.heap.size #[.bool p.neg,.slice A1 n1 c1,.slice A2 n2 c2] 91:=CBlk.new _ _ _ _ rfl;have aE:=Ad aH aA;have aT:=h1.later aA;have aN:=h2.later aA;clear h1 h2 aA aH;go_upto_region 2 with (fail)
 generalize (w2.alloc (.cells #[.bool p.neg,.slice A1 n1 c1,.slice A2 n2 c2] 91))=w3 at *
 go_wp2_with fail
 refine (HR2.out w3 (hT.later aE)).mono ?_;rintro e w4 ⟨v4,rfl,⟨A3,n3,c3,A4,n4,c4,rfl,h3,h4⟩,aC⟩;have aA:Below w4.heap.size w4 (w4.alloc (.cells #[.bool q.neg,.slice A3 n3 c3,.slice A4 n4 c4] 91)):=Ac;have aO:=(q0.below aC q0.lt).alloc (.cells #[.bool q.neg,.slice A3 n3 c3,.slice A4 n4 c4] 91);have aQ:CBlk (w4.alloc (.cells #[.bool q.neg,.slice A3 n3 c3,.slice A4 n4 c4] 91)) w4.heap.size #[.bool q.neg,.slice A3 n3 c3,.slice A4 n4 c4] 91:=CBlk.new _ _ _ _ rfl;have aI:=Ad aE aC;have aK:=Ad aI aA;have aP:=(aT.later aC).later aA;have aM:=(aN.later aC).later aA;have aV:=h3.later aA;have aR:=h4.later aA;clear q0 aE aT aN h3 h4 aC aA aI;go_upto_region 3 with (fail)
 generalize (w4.alloc (.cells #[.bool q.neg,.slice A3 n3 c3,.slice A4 n4 c4] 91))=w5 at *;have aG:Below w.heap.size w (w5.alloc (.cells #[.int .i64 x,.int .i64 y] 26)):=aK.alloc aK.size _;have aD:Below w5.heap.size w5 (w5.alloc (.cells #[.int .i64 x,.int .i64 y] 26)):=Ac;have aJ:=aO.alloc (.cells #[.int .i64 x,.int .i64 y] 26);have aF:=aQ.alloc (.cells #[.int .i64 x,.int .i64 y] 26);have aZ:=aP.later aD;have bA:=aM.later aD;have bB:=aV.later aD;have bC:=aR.later aD
 go_wp2_with fail
 refine (za7 x y E HE.out w5 _ _ rfl).mono ?_;rintro e w6 ⟨rfl,rfl⟩;clear aO aQ aK aD aP aM aV aR;generalize (w5.alloc (.cells #[.int .i64 x,.int .i64 y] 26))=w6 at *;have bD:=aJ.cell 0;have bE:=aJ.cell 1;have bI:=aJ.cell 2;have bH:=aF.cell 0;have bJ:=aF.cell 1;have bG:=aF.cell 2;have aL:=hT.later aG
 go_wp2_with fail
 refine (HO.out _ _ w6 aL (RatS.mk aZ bA) (RatS.mk bB bC)).mono ?_;rintro e w7 ⟨v7,rfl,h7,aS⟩;have aU:=Ad aG aS
 go_wp2_with fail
 refine (zcc r _ w7 (aL.later aS) h7 lr).mono ?_;rintro e w8 ⟨z,rfl,hz,aW⟩;go_wp2
 go_ret2
 exact ⟨z,rfl,hz,aU.trans (aW.mono aU.size)⟩
theorem zdM (fo:FuncId) (r:Q→Q→Q) (s t:ByteArray) (w:World) (hT:Tabs w) (hs:s.size≤4294967296) (ht:t.size≤4294967296) (eo:∀ args w,(callFunc fo args).run Tryz.prog w = .ok (.enter fo args) w)
  (lr:zad s.data.toList=0→zad t.data.toList=0→LenQ (r (zab s.data.toList) (zab t.data.toList)) 268435456)
  (HO:zad s.data.toList=0→zad t.data.toList=0→∀ v u W,Tabs W→RatS W W.heap.size v (zab s.data.toList)→RatS W W.heap.size u (zab t.data.toList)→Calls Tryz.prog fo #[v,u] W (za4 W (r (zab s.data.toList) (zab t.data.toList)))) :
  Calls Tryz.prog 63 #[.string s,.string t,.func (.func 62) #[] #[],.func (.func fo) #[] #[],.func (.func 65) #[] #[]] w
   (za0 w (if err2 (zad s.data.toList) (zad t.data.toList)≠0 then [] else zaJ (r (zab s.data.toList) (zab t.data.toList))) (if err2 (zad s.data.toList) (zad t.data.toList)≠0 then err2 (zad s.data.toList) (zad t.data.toList) else zao (r (zab s.data.toList) (zab t.data.toList)))):=by
 have aE:=Aa (fun W h=>zbn s W h hs);have aD:=Aa (fun W h=>zbn t W h ht)
 by_cases h0:err2 (zad s.data.toList) (zad t.data.toList)=0
 ·rw [if_neg (by simpa using h0),if_neg (by simpa using h0)]
  have hx:zad s.data.toList=0:=by
   unfold err2 at h0
   by_cases h:zad s.data.toList=0
   ·exact h
   ·rw [if_pos h] at h0;exact absurd h0 h
  have hy:zad t.data.toList=0:=by
   unfold err2 at h0
   rwa [if_neg (by simpa using hx)] at h0
  have aF:=Aa (HO hx hy);have aG:=lr hx hy;have aA:Hid (∀ W,Tabs W→Calls Tryz.prog 62 #[.string s] W (zax W (zab s.data.toList) 0)):=fun W h=>by have:=aE.out W h;rwa [hx] at this
  have aC:Hid (∀ W,Tabs W→Calls Tryz.prog 62 #[.string t] W (zax W (zab t.data.toList) 0)):=fun W h=>by have:=aD.out W h;rwa [hy] at this
  exact zmo fo _ _ _ s t w hT eo aG aA aC aF
 ·rw [if_pos h0,if_pos h0]
  exact zjI fo _ _ _ _ _ s t w hT rfl h0 aE aD
def addR (p q:Q):Q:=zcd p q
theorem ziF (s t:ByteArray) (w:World) (hT:Tabs w) (hs:s.size≤4294967296) (ht:t.size≤4294967296) :
  Calls Tryz.prog 13 #[.string s,.string t] w
   (za0 w (if err2 (zad s.data.toList) (zad t.data.toList)≠0 then [] else zaJ (addR (zab s.data.toList) (zab t.data.toList))) (if err2 (zad s.data.toList) (zad t.data.toList)≠0 then err2 (zad s.data.toList) (zad t.data.toList) else zao (addR (zab s.data.toList) (zab t.data.toList)))):=by
 have hc:=zdM 64 addR s t w hT hs ht (fun aC w=>by kernel_rfl) (fun hx hy=>(zbj (K:=600) (L:=600) (zan hx) (zan hy)).mono (by omega)) (fun hx hy v u W h1 h2 h3=>zg2 _ _ v u W h1 h2 h3 (LenQ.mono (zan hx) (by omega)) (LenQ.mono (zan hy) (by omega)));generalize (if err2 (zad s.data.toList) (zad t.data.toList)≠0 then [] else zaJ (addR (zab s.data.toList) (zab t.data.toList)))=l at *
 generalize (if err2 (zad s.data.toList) (zad t.data.toList)≠0 then err2 (zad s.data.toList) (zad t.data.toList) else zao (addR (zab s.data.toList) (zab t.data.toList)))=x at *
 have HC:=Aa hc;clear hc;go_enter Tryz.func13,Tryz.ntmps13
 go_wp2_with fail
 refine HC.out.mono ?_;rintro e w1 ⟨z,rfl,hz,aA⟩;go_wp2
 go_ret2
 exact ⟨z,rfl,hz,aA⟩
def subR (p q:Q):Q:=za5 p q
theorem zh4 (s t:ByteArray) (w:World) (hT:Tabs w) (hs:s.size≤4294967296) (ht:t.size≤4294967296) :
  Calls Tryz.prog 14 #[.string s,.string t] w
   (za0 w (if err2 (zad s.data.toList) (zad t.data.toList)≠0 then [] else zaJ (subR (zab s.data.toList) (zab t.data.toList))) (if err2 (zad s.data.toList) (zad t.data.toList)≠0 then err2 (zad s.data.toList) (zad t.data.toList) else zao (subR (zab s.data.toList) (zab t.data.toList)))):=by
 have hc:=zdM 66 subR s t w hT hs ht (fun aC w=>by kernel_rfl) (fun hx hy=>(zbj (K:=600) (L:=600) (zan hx) (zb2 (zan hy))).mono (by omega)) (fun hx hy v u W h1 h2 h3=>zc8 _ _ v u W h1 h2 h3 (LenQ.mono (zan hx) (by omega)) (LenQ.mono (zan hy) (by omega)));generalize (if err2 (zad s.data.toList) (zad t.data.toList)≠0 then [] else zaJ (subR (zab s.data.toList) (zab t.data.toList)))=l at *
 generalize (if err2 (zad s.data.toList) (zad t.data.toList)≠0 then err2 (zad s.data.toList) (zad t.data.toList) else zao (subR (zab s.data.toList) (zab t.data.toList)))=x at *
 have HC:=Aa hc;clear hc;go_enter Tryz.func14,Tryz.ntmps14
 go_wp2_with fail
 refine HC.out.mono ?_;rintro e w1 ⟨z,rfl,hz,aA⟩;go_wp2
 go_ret2
 exact ⟨z,rfl,hz,aA⟩
def mulR (p q:Q):Q:=lowQ (p.neg != q.neg) (p.top*q.top) (p.bot*q.bot)
theorem zic (s t:ByteArray) (w:World) (hT:Tabs w) (hs:s.size≤4294967296) (ht:t.size≤4294967296) :
  Calls Tryz.prog 15 #[.string s,.string t] w
   (za0 w (if err2 (zad s.data.toList) (zad t.data.toList)≠0 then [] else zaJ (mulR (zab s.data.toList) (zab t.data.toList))) (if err2 (zad s.data.toList) (zad t.data.toList)≠0 then err2 (zad s.data.toList) (zad t.data.toList) else zao (mulR (zab s.data.toList) (zab t.data.toList)))):=by
 have hc:=zdM 67 mulR s t w hT hs ht (fun aC w=>by kernel_rfl) (fun hx hy=>(zbz (K:=600) (L:=600) _ (zan hx) (zan hy) (by omega)).mono (by omega)) (fun hx hy v u W h1 h2 h3=>zeB _ _ v u W h1 h2 h3 (LenQ.mono (zan hx) (by omega)) (LenQ.mono (zan hy) (by omega)));generalize (if err2 (zad s.data.toList) (zad t.data.toList)≠0 then [] else zaJ (mulR (zab s.data.toList) (zab t.data.toList)))=l at *
 generalize (if err2 (zad s.data.toList) (zad t.data.toList)≠0 then err2 (zad s.data.toList) (zad t.data.toList) else zao (mulR (zab s.data.toList) (zab t.data.toList)))=x at *
 have HC:=Aa hc;clear hc;go_enter Tryz.func15,Tryz.ntmps15
 go_wp2_with fail
 refine HC.out.mono ?_;rintro e w1 ⟨z,rfl,hz,aA⟩;go_wp2
 go_ret2
 exact ⟨z,rfl,hz,aA⟩
def divR (p q:Q):Q:=lowQ (p.neg != q.neg) (p.top*q.bot) (p.bot*q.top)
theorem zhW (s t:ByteArray) (w:World) (hT:Tabs w) (hs:s.size≤4294967296) (ht:t.size≤4294967296) :
  Calls Tryz.prog 16 #[.string s,.string t] w
   (za0 w (if err2 (zad s.data.toList) (zad t.data.toList)≠0 then [] else zaJ (divR (zab s.data.toList) (zab t.data.toList))) (if err2 (zad s.data.toList) (zad t.data.toList)≠0 then err2 (zad s.data.toList) (zad t.data.toList) else zao (divR (zab s.data.toList) (zab t.data.toList)))):=by
 have hc:=zdM 68 divR s t w hT hs ht (fun aC w=>by kernel_rfl) (fun hx hy=>(zbD (K:=600) (L:=600) _ (zan hx) (zan hy) (by omega)).mono (by omega)) (fun hx hy v u W h1 h2 h3=>zeR _ _ v u W h1 h2 h3 (LenQ.mono (zan hx) (by omega)) (LenQ.mono (zan hy) (by omega)));generalize (if err2 (zad s.data.toList) (zad t.data.toList)≠0 then [] else zaJ (divR (zab s.data.toList) (zab t.data.toList)))=l at *
 generalize (if err2 (zad s.data.toList) (zad t.data.toList)≠0 then err2 (zad s.data.toList) (zad t.data.toList) else zao (divR (zab s.data.toList) (zab t.data.toList)))=x at *
 have HC:=Aa hc;clear hc;go_enter Tryz.func16,Tryz.ntmps16
 go_wp2_with fail
 refine HC.out.mono ?_;rintro e w1 ⟨z,rfl,hz,aA⟩;go_wp2
 go_ret2
 exact ⟨z,rfl,hz,aA⟩
end
section
open Go.RowKit Bn Dn
theorem zmt (a:ByteArray) (p:Q) (w:World) (h:NumQ a p) (ha:a.size≤1000000) :
    Calls Tryz.prog 71 #[.string a] w fun e w'=>e = .returned (.int .i64 (zao p))∧Below w.heap.size w w':=by
  have hW:zao p=if 600<(Lib.decDigits p.top).length∨600<(Lib.decDigits p.bot).length then 4 else 0:=by
    unfold zao;rw [if_neg (by have:=h.2.1;omega)]
  have aK:LowQ (numQ p):=⟨Nat.one_pos,Nat.gcd_one_right _,h.2.2.2⟩;have aA:∀ t:ByteArray,NumQ t (absQ (numQ p))→t.size=(Lib.decDigits p.top).length:=fun t ht=>by
    have h9:=congrArg List.length ht.1;rw [Array.length_toList] at h9;rw [show t.size=t.data.size from rfl,h9];unfold zaq absQ numQ;simp
  have HN:=Aa (fun W=>zni a p W h (by omega));have HA:=Aa (fun (s:ByteArray) (hs:NumQ s (numQ p)) (hz:s.size≤1000000) (W:World)=>zlb s (numQ p) W hs hz);have HD:=Aa (fun W=>zm1 a p W h (by omega));have aD:=Aa aA;obtain ⟨L1,aF⟩:∃ L1,L1=(Lib.decDigits p.top).length:=⟨_,rfl⟩;obtain ⟨L2,aE⟩:∃ L2,L2=(Lib.decDigits p.bot).length:=⟨_,rfl⟩;obtain ⟨E,hE⟩:∃ E,E=zao p:=⟨_,rfl⟩;rw [←aF] at aD;rw [←aE] at HD;rw [←hE];have aC:(600<L1∧E=4)∨(¬ 600<L1∧600<L2∧E=4)∨(¬ 600<L1∧¬ 600<L2∧E=0):=by
    rw [hE,hW,←aF,←aE]
    by_cases h1:600<L1
    · exact .inl ⟨h1,if_pos (.inl h1)⟩
    · by_cases h2:600<L2
      · exact .inr (.inl ⟨h1,h2,if_pos (.inr h2)⟩)
      · exact .inr (.inr ⟨h1,h2,if_neg (fun h=>by omega)⟩)
  clear hW aK aA aF aE hE h
  rcases aC with ⟨h1,rfl⟩ | ⟨h1,h2,rfl⟩ | ⟨h1,h2,rfl⟩
  case' inl=>have d1:decide ((600:Int)<(L1:Int))=true:=decide_eq_true (by omega)
  case' inr.inl=>have d1:decide ((600:Int)<(L1:Int))=false:=decide_eq_false (by omega)
  case' inr.inl=>have d2:decide ((600:Int)<(L2:Int))=true:=decide_eq_true (by omega)
  case' inr.inr=>have d1:decide ((600:Int)<(L1:Int))=false:=decide_eq_false (by omega)
  case' inr.inr=>have d2:decide ((600:Int)<(L2:Int))=false:=decide_eq_false (by omega)
  all_goals
    go_enter Tryz.func71,Tryz.ntmps71
    go_wp2_with fail
    refine (HN.out w).mono ?_;rintro e w1 ⟨⟨s,rfl,aI,aL⟩,rfl⟩;have HS:=Aa aI;clear aI
    go_wp2_with fail
    refine (HA.out s HS.out (by omega) w).mono ?_;rintro e w3 ⟨⟨t,rfl,aJ⟩,aG⟩;have aH:=aD.out t aJ;rw [←aH] at d1;clear aJ aH
    go_wp2_with fail
    first
      | (go_ret
         exact ⟨rfl,aG⟩)
      | (refine (HD.out w3).mono ?_
         rintro e w4 ⟨⟨u,rfl,hu⟩,rfl⟩;rw [←hu] at d2;clear hu;go_wp2
         go_ret;exact ⟨rfl,aG⟩)
theorem ziH (q:Q):zao q=0∨zao q=4∨zao q=6:=by
 unfold zao
 split
 ·exact .inr (.inr rfl)
 ·split
  ·exact .inr (.inl rfl)
  ·exact .inl rfl
theorem zgw (s t:ByteArray) (q:Q) (w:World) (hs:s.data.toList=zaJ q) (ht:NumQ t q) (hz:t.size≤1000000) :
  Calls Tryz.prog 18 #[.string s,.int .i64 (zao q),.int .i64 0,.string t] w fun e w'=>e = .returned (.bool true)∧Below w.heap.size w w':=by
 have HL:=Aa (zmt t q w ht hz);have hc:zao q=0∨zao q=4:=by
  rcases ziH q with h | h | h
  ·exact .inl h
  ·exact .inr h
  ·exfalso
   unfold zao at h;rw [if_neg (by have:=ht.2.1;omega)] at h
   split at h<;>omega
 unfold zaJ at hs
 rcases hc with h | h
 ·rw [if_pos h] at hs
  rw [h] at HL ⊢;obtain rfl:s=t:=by
   obtain ⟨⟨x⟩⟩:=s;obtain ⟨⟨y⟩⟩:=t;have e:x=y:=hs.trans ht.1.symm;rw [e]
  clear hs h;go_enter Tryz.func18,Tryz.ntmps18
  go_wp2_with fail
  refine HL.out.mono ?_;rintro e w1 ⟨rfl,hb⟩;go_wp2
  go_ret;exact ⟨rfl,hb⟩
 ·rw [if_neg (by omega)] at hs
  rw [h] at HL ⊢;obtain rfl:s=⟨#[]⟩:=by
   obtain ⟨⟨x⟩⟩:=s;have e:x=[]:=hs;rw [e]
  clear hs h;go_enter Tryz.func18,Tryz.ntmps18
  go_wp2_with fail
  refine HL.out.mono ?_;rintro e w1 ⟨rfl,hb⟩;go_wp2
  go_ret;exact ⟨rfl,hb⟩
theorem znv (t:ByteArray) (E:Int) (w:World) (hE:E≠0) :
  Calls Tryz.prog 18 #[.string ⟨#[]⟩,.int .i64 E,.int .i64 E,.string t] w fun e w'=>e = .returned (.bool true)∧w=w':=by
 have d1:(E==0)=false:=by simpa using hE
 have d2:(E != 0)=true:=by simpa using hE
 have HE:=Aa hE;clear hE;go_enter Tryz.func18,Tryz.ntmps18
 go_wp2
 go_ret;exact ⟨by simp [go_sem],rfl⟩
end
section
open Go.RowKit Bn
open Flt
theorem zdE (b:Bool) (t d:Nat):lowQ b t d=zbg (sgn b t) d:=by
 unfold zbg;rw [zc1,zbT];unfold lowQ
 by_cases hd:d=0
 ·rw [if_pos hd,if_pos hd]
 ·rw [if_neg hd,if_neg hd]
  by_cases ht:t=0
  ·rw [if_pos ht,if_pos ht]
  ·rw [if_neg ht,if_neg ht,decide_eq_true (Nat.pos_of_ne_zero ht),Bool.and_true]
theorem ze9 (p:Q):sI p=sgn p.neg p.top:=rfl
theorem zdn (p q:Q):lowQ (p.neg != q.neg) (p.top*q.top) (p.bot*q.bot)=mulQ p q:=by
 rw [zdE];unfold mulQ;rw [ze9,ze9,←ziC]
 cases p.neg<;>cases q.neg<;>rfl
theorem zem (p q:Q):zcd p q=addQ p q:=by
 unfold zcd addQ;rw [ze9,ze9];have e1:∀ b x y,sgn b x*(y:Nat)=sgn b (x*y):=by
  intro b x y;unfold sgn
  cases b<;>simp [Int.natCast_mul,Int.neg_mul]
 rw [e1,e1];generalize p.top*q.bot=u;generalize q.top*p.bot=v;generalize p.bot*q.bot=d
 split
 ·rename_i h
  rw [h,zdE]
  congr 1
  unfold sgn
  cases q.neg<;>simp<;>omega
 ·rename_i h
  split
  ·rename_i h2
   rw [zdE]
   congr 1
   unfold sgn
   cases hp:p.neg<;>cases hq:q.neg<;>rw [hp,hq] at h<;>simp at h ⊢ <;> omega
  ·rename_i h2
   rw [zdE]
   congr 1
   unfold sgn
   cases hp:p.neg<;>cases hq:q.neg<;>rw [hp,hq] at h<;>simp at h ⊢ <;> omega
end
section
open Go.RowKit Bn Dn
theorem zid (q:Q):zca q=negQ q:=by
 unfold zca negQ
 congr 1
 rcases Nat.eq_zero_or_pos q.top with h | h
 ·rw [decide_eq_true h,decide_eq_false (by omega)];rfl
 ·rw [decide_eq_false (by omega),decide_eq_true h];rfl
theorem zcK (p q:Q):subR p q=subQ p q:=by
 unfold subR za5;rw [zem,zid,zga]
theorem zfj (p q:Q):addR p q=addQ p q:=zem p q
theorem zfm (p q:Q):mulR p q=mulQ p q:=zdn p q
theorem zf5 (p q:Q):divR p q=mulQ p (recS q):=zdn p (recS q)
theorem zoW (p q:Q) (h:q.top=0):zao (divR p q)=6∧zaJ (divR p q)=[]:=by
 have e:zao (divR p q)=6:=by
  unfold divR lowQ zao;rw [h,Nat.mul_zero,if_pos rfl];rfl
 refine ⟨e,?_⟩;unfold zaJ;rw [e];rfl
theorem zcg {p q:Q} (hp:LowQ p) (hq:LowQ q):rcmp p q=cmpI p q:=by
 rw [zdz hp.1 hq.1];obtain ⟨pn,pt,pb⟩:=p;obtain ⟨qn,qt,qb⟩:=q;obtain ⟨p1,_,p3⟩:=hp;obtain ⟨q1,_,q3⟩:=hq
 dsimp only at *
 unfold rcmp sI ncmp
 dsimp only
 have e1:(pt:Int)*(qb:Int)=((pt*qb:Nat):Int):=by rw [Int.natCast_mul]
 have e2:(qt:Int)*(pb:Int)=((qt*pb:Nat):Int):=by rw [Int.natCast_mul]
 cases pn<;>cases qn
 ·simp only [Bool.false_eq_true,if_false,if_true,e1,e2]
  generalize pt*qb=x;generalize qt*pb=y
  split
  ·rw [Int.sign_eq_neg_one_of_neg (by omega)]
  ·split
   ·rename_i h;rw [h,Int.sub_self];rfl
   ·rw [Int.sign_eq_one_of_pos (by omega)]
 ·have hy:0<qt*pb:=Nat.mul_pos (q3 rfl) p1
  simp only [Bool.false_eq_true,if_false,if_true,Int.neg_mul,e1,e2,reduceCtorEq]
  rw [Int.sign_eq_one_of_pos (by omega)]
 ·have hx:0<pt*qb:=Nat.mul_pos (p3 rfl) q1
  simp only [Bool.false_eq_true,if_false,if_true,Int.neg_mul,e1,e2,reduceCtorEq]
  rw [Int.sign_eq_neg_one_of_neg (by omega)]
 ·simp only [if_true,Int.neg_mul,e1,e2]
  generalize pt*qb=x;generalize qt*pb=y
  split
  ·rw [Int.sign_eq_one_of_pos (by omega)];rfl
  ·split
   ·rename_i h;rw [h];simp
   ·rw [Int.sign_eq_neg_one_of_neg (by omega)]
theorem zfF (x y:Int) (ty:TypeId) (g:Nat) (w:World) (hk:CBlk w g #[.int .i64 x,.int .i64 y] ty) :
  Calls Tryz.prog 10 #[.slice (some ⟨g,0,none⟩) 2 2] w fun e w'=>e = .returned (.int .i64 (err2 x y))∧w=w':=by
 have z0:w.cell? ⟨g,0,none⟩=some (.int .i64 x):=hk.cell 0;have z1:w.cell? ⟨g,1,none⟩=some (.int .i64 y):=hk.cell 1;obtain ⟨E,hE⟩:∃ E,E=err2 x y:=⟨_,rfl⟩;rw [←hE];unfold err2 at hE
 by_cases hx:x=0
 ·rw [if_neg (by omega)] at hE
  subst hE;have dx:(x != 0)=false:=by simpa using hx
  have HX:=Aa hx;clear hx hk
  by_cases hy:E=0
  ·have dy:(E != 0)=false:=by simpa using hy
   have HY:=Aa hy;clear hy;go_enter Tryz.func10,Tryz.ntmps10
   go_wp2
   go_loop [3] (fun s=>∃ k:Nat,k≤2∧s = .int .i64 k) (fun s=>2 - (intOf s).toNat)
   case atStart=>exact ⟨0,by omega,rfl⟩
   case round=>
    obtain ⟨k,hk,rfl⟩:=hrel
    match k,hk with
    | 0,_=>
     go_wp2
     go_round
     case rel=>exact ⟨1,by omega,by go_num⟩
     case measure=>simp [intOf]
    | 1,_=>
     go_wp2
     go_round
     case rel=>exact ⟨2,by omega,by go_num⟩
     case measure=>simp [intOf]
    | 2,_=>
     go_wp2
     go_ret;exact ⟨by rw [HY.out];rfl,rfl⟩
    | n+3,h=>exact absurd h (by omega)
  ·have dy:(E != 0)=true:=by simpa using hy
   clear hy;go_enter Tryz.func10,Tryz.ntmps10
   go_wp2
   go_loop [3] (fun s=>∃ k:Nat,k≤1∧s = .int .i64 k) (fun s=>2 - (intOf s).toNat)
   case atStart=>exact ⟨0,by omega,rfl⟩
   case round=>
    obtain ⟨k,hk,rfl⟩:=hrel
    match k,hk with
    | 0,_=>
     go_wp2
     go_round
     case rel=>exact ⟨1,by omega,by go_num⟩
     case measure=>simp [intOf]
    | 1,_=>
     go_wp2
     go_ret;exact ⟨rfl,rfl⟩
    | n+2,h=>exact absurd h (by omega)
 ·rw [if_pos hx] at hE
  subst hE;have dx:(E != 0)=true:=by simpa using hx
  clear hx hk;go_enter Tryz.func10,Tryz.ntmps10
  go_wp2
  go_loop [3] (fun s=>s = .int .i64 0) (fun s=>2 - (intOf s).toNat)
  case atStart=>rfl
  case round=>
   obtain rfl:=hrel;go_wp2
   go_ret;exact ⟨rfl,rfl⟩
theorem zhm (x:Int) (w:World):Calls Tryz.prog 19 #[.int .i64 x,.int .i64 0,.int .i64 0,.int .i64 x] w fun e w'=>e = .returned (.bool true)∧w=w':=by
 have d:(x==x)=true:=by simp
 go_enter Tryz.func19,Tryz.ntmps19
 go_wp2
 go_ret;exact ⟨by first | rfl | simp [go_sem],rfl⟩
theorem zkb (x E:Int) (w:World) (hE:E≠0):Calls Tryz.prog 19 #[.int .i64 0,.int .i64 E,.int .i64 E,.int .i64 x] w fun e w'=>e = .returned (.bool true)∧w=w':=by
 have d1:(E==0)=false:=by simpa using hE
 have d2:(E != 0)=true:=by simpa using hE
 have d:(E==E)=true:=by simp
 clear hE;go_enter Tryz.func19,Tryz.ntmps19
 go_wp2
 go_ret;exact ⟨by first | rfl | simp [go_sem],rfl⟩
theorem zjj (a:ByteArray) (p:Q) (w:World) (h:NumQ a p):Calls Tryz.prog 24 #[.string a] w fun e w'=>e = .returned (.bool (decide (p.top=0)))∧w=w':=by
 have d:=h.is_zero;generalize decide (p.top=0)=b at *;clear h;go_enter Tryz.func24,Tryz.ntmps24
 go_wp2
 go_ret;exact ⟨rfl,rfl⟩
end
end Go.Proofs.YtmkondcdejlhcaaGreatDoor
