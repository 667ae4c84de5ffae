/- NumberSums: the law for every input. -/
import Derived.Test.YtmkondcdejlhcaaGreatDoorSSp4
set_option maxRecDepth 100000
set_option maxHeartbeats 8000000
namespace Go.Proofs.YtmkondcdejlhcaaGreatDoor
open Go.RowKit Bn Dn
theorem zjJ (a b:ByteArray) (w:World) (KV:zcx) (hT:Tabs w) (hg:1300<a.size∨1300<b.size) :
  Calls Tryz.prog 3 #[.string a,.string b] w fun e w'=>e = .returned (.bool true)∧Below w.heap.size w w':=by
 have HK:=Aa KV;clear KV;have aA:(decide ((1300:Int)<(a.size:Int))=true)∨(decide ((1300:Int)<(a.size:Int))=false∧decide ((1300:Int)<(b.size:Int))=true):=by
  simp only [decide_eq_true_eq,decide_eq_false_iff_not]
  omega
 clear hg
 rcases aA with d1 | ⟨d1,d2⟩
 all_goals
  go_enter Tryz.func3,Tryz.ntmps3
  go_wp2_with fail
  refine (HK.out w hT).mono ?_;rintro e w2 ⟨rfl,aC⟩
  go_wp2_with fail
  refine (HK.out w2 (hT.later aC)).mono ?_;rintro e w3 ⟨rfl,aD⟩;go_wp2
  go_ret;exact ⟨rfl,aC.trans (aD.mono aC.size)⟩
theorem zph (a b:ByteArray) (w:World) (KV:zcx) (hT:Tabs w) (ha:a.size≤1300) (hb:b.size≤1300) (hx:err2 (zad a.data.toList) (zad b.data.toList)≠0) :
  Calls Tryz.prog 3 #[.string a,.string b] w fun e w'=>e = .returned (.bool true)∧Below w.heap.size w w':=by
 have HK:=Aa KV;have d1:decide ((1300:Int)<(a.size:Int))=false:=decide_eq_false (by omega);have d2:decide ((1300:Int)<(b.size:Int))=false:=decide_eq_false (by omega);have aR:Hid (∀ W,Calls Tryz.prog 11 #[.string a] W fun e w'=>e = .returned (.int .i64 (zad a.data.toList))∧Below W.heap.size W w'):=fun W=>za3 a W (by omega)
 have aW:Hid (∀ W,Calls Tryz.prog 11 #[.string b] W fun e w'=>e = .returned (.int .i64 (zad b.data.toList))∧Below W.heap.size W w'):=fun W=>za3 b W (by omega)
 have bE:=Aa (fun W hT=>zgq a W hT (by omega));have HA:Hid (∀ W,Tabs W→Calls Tryz.prog 13 #[.string a,.string b] W fun e w'=>e = .returned (.tuple #[.string ⟨#[]⟩,.int .i64 (err2 (zad a.data.toList) (zad b.data.toList))])∧Below W.heap.size W w'):=fun W hT=>by
  have h:=ziF a b W hT (by omega) (by omega);rw [if_pos hx,if_pos hx] at h;exact zdd #[] h rfl
 have HS:Hid (∀ W,Tabs W→Calls Tryz.prog 14 #[.string a,.string b] W fun e w'=>e = .returned (.tuple #[.string ⟨#[]⟩,.int .i64 (err2 (zad a.data.toList) (zad b.data.toList))])∧Below W.heap.size W w'):=fun W hT=>by
  have h:=zh4 a b W hT (by omega) (by omega);rw [if_pos hx,if_pos hx] at h;exact zdd #[] h rfl
 have HM:Hid (∀ W,Tabs W→Calls Tryz.prog 15 #[.string a,.string b] W fun e w'=>e = .returned (.tuple #[.string ⟨#[]⟩,.int .i64 (err2 (zad a.data.toList) (zad b.data.toList))])∧Below W.heap.size W w'):=fun W hT=>by
  have h:=zic a b W hT (by omega) (by omega);rw [if_pos hx,if_pos hx] at h;exact zdd #[] h rfl
 have HD:Hid (∀ W,Tabs W→Calls Tryz.prog 16 #[.string a,.string b] W fun e w'=>e = .returned (.tuple #[.string ⟨#[]⟩,.int .i64 (err2 (zad a.data.toList) (zad b.data.toList))])∧Below W.heap.size W w'):=fun W hT=>by
  have h:=zhW a b W hT (by omega) (by omega);rw [if_pos hx,if_pos hx] at h;exact zdd #[] h rfl
 have HO:Hid (∀ W,Tabs W→Calls Tryz.prog 17 #[.string a,.string b] W fun e w'=>e = .returned (.tuple #[.int .i64 0,.int .i64 (err2 (zad a.data.toList) (zad b.data.toList))])∧Below W.heap.size W w'):=fun W hT=>by
  have h:=zgg a b W hT (by omega) (by omega);have e1:(if zad a.data.toList≠0 then 0 else if zad b.data.toList≠0 then 0 else rcmp (zab a.data.toList) (zab b.data.toList))=0:=by
   unfold err2 at hx
   by_cases h1:zad a.data.toList≠0
   ·rw [if_pos h1]
   ·rw [if_neg h1] at hx ⊢
    rw [if_pos hx]
  have e2:(if zad a.data.toList≠0 then zad a.data.toList else zad b.data.toList)=err2 (zad a.data.toList) (zad b.data.toList):=rfl
  rw [e1,e2] at h;exact h
 generalize zad a.data.toList=x at *;generalize zad b.data.toList=y at *;have bH:(x==x)=true:=by simp
 have bG:(x != x)=false:=by simp
 have bJ:(err2 x y != 0)=true:=by simpa using hx
 have HN:=Aa (fun W=>znv ⟨#[]⟩ (err2 x y) W hx);have HI:=Aa (fun W=>zkb 0 (err2 x y) W hx);clear KV ha hb hx;go_enter Tryz.func3,Tryz.ntmps3
 go_wp2_with fail
 refine (HK.out w hT).mono ?_;rintro e w1 ⟨rfl,bA⟩;have aM:=bA
 go_wp2_with fail
 refine (aR.out w1).mono ?_;rintro e w2 ⟨rfl,aZ⟩;have aN:=Ad aM aZ
 go_wp2_with fail
 refine (aW.out w2).mono ?_;rintro e w3 ⟨rfl,aS⟩;have aO:=Ad aN aS;have aP:Below w3.heap.size w3 (w3.alloc (.cells #[.int .i64 x,.int .i64 y] 3)):=Ac;have HF:=Aa (zfF x y _ _ _ (CBlk.new w3 #[.int .i64 x,.int .i64 y] 3 _ rfl));have aH:=Ad aO aP;clear aP
 go_wp2_with fail
 refine HF.out.mono ?_;clear HF;generalize bC:w3.alloc (.cells #[.int .i64 x,.int .i64 y] 3)=w4 at *;clear bC;rintro e bI ⟨rfl,rfl⟩
 go_wp2_with fail
 refine (bE.out w4 (hT.later aH)).mono ?_;rintro e w5 ⟨rfl,aT⟩;have aQ:=Ad aH aT
 go_wp2_with fail
 refine (aR.out w5).mono ?_;rintro e w6 ⟨rfl,bB⟩;have aE:=Ad aQ bB
 go_wp2_with fail
 refine (HA.out w6 (hT.later aE)).mono ?_;rintro e w7 ⟨rfl,bF⟩;have aL:=Ad aE bF
 go_wp2_with fail
 refine (HS.out w7 (hT.later aL)).mono ?_;rintro e w8 ⟨rfl,aU⟩;have aI:=Ad aL aU
 go_wp2_with fail
 refine (HM.out w8 (hT.later aI)).mono ?_;rintro e w9 ⟨rfl,aV⟩;have aJ:=Ad aI aV
 go_wp2_with fail
 refine (HD.out w9 (hT.later aJ)).mono ?_;rintro e bD ⟨rfl,aK⟩;have aC:=Ad aJ aK
 go_wp2_with fail
 refine (HO.out bD (hT.later aC)).mono ?_;rintro e aD ⟨rfl,aF⟩;have aG:=Ad aC aF
 go_wp2_with fail
 refine (HN.out aD).mono ?_;rintro e aA ⟨rfl,rfl⟩
 go_wp2_with fail
 refine (HN.out aD).mono ?_;rintro e aA ⟨rfl,rfl⟩
 go_wp2_with fail
 refine (HN.out aD).mono ?_;rintro e aA ⟨rfl,rfl⟩
 go_wp2_with fail
 refine (HN.out aD).mono ?_;rintro e aA ⟨rfl,rfl⟩
 go_wp2_with fail
 refine (HI.out aD).mono ?_;rintro e aA ⟨rfl,rfl⟩;go_wp2
 go_ret;exact ⟨rfl,aG⟩
theorem zor (a b:ByteArray) (w:World) (KV:zcx) (hT:Tabs w) (ha:a.size≤1300) (hb:b.size≤1300) (hx:zad a.data.toList=0) (hy:zad b.data.toList=0) (hz:(zab b.data.toList).top=0) :
  Calls Tryz.prog 3 #[.string a,.string b] w fun e w'=>e = .returned (.bool true)∧Below w.heap.size w w':=by
 have HK:=Aa KV;have d1:decide ((1300:Int)<(a.size:Int))=false:=decide_eq_false (by omega);have d2:decide ((1300:Int)<(b.size:Int))=false:=decide_eq_false (by omega);have bJ:Hid (∀ W,Calls Tryz.prog 11 #[.string a] W fun e w'=>e = .returned (.int .i64 (zad a.data.toList))∧Below W.heap.size W w'):=fun W=>za3 a W (by omega)
 have cK:Hid (∀ W,Calls Tryz.prog 11 #[.string b] W fun e w'=>e = .returned (.int .i64 (zad b.data.toList))∧Below W.heap.size W w'):=fun W=>za3 b W (by omega)
 have cP:=Aa (fun W hT=>zgq a W hT (by omega));have aC:=zbA hx;have aA:=zbA hy;have aN:=aC.small ha (by omega);have aM:=aA.small hb (by omega);have he:err2 (zad a.data.toList) (zad b.data.toList)=0:=by unfold err2;rw [hx,hy];rfl
 have HA:Hid (∀ W,Tabs W→Calls Tryz.prog 13 #[.string a,.string b] W (za0 W (zaJ (addQ (zab a.data.toList) (zab b.data.toList))) (zao (addQ (zab a.data.toList) (zab b.data.toList))))):=fun W hT=>by
  have h:=ziF a b W hT (by omega) (by omega);rw [if_neg (by rw [he];simp),if_neg (by rw [he];simp),zfj] at h;exact h
 have HS:Hid (∀ W,Tabs W→Calls Tryz.prog 14 #[.string a,.string b] W (za0 W (zaJ (subQ (zab a.data.toList) (zab b.data.toList))) (zao (subQ (zab a.data.toList) (zab b.data.toList))))):=fun W hT=>by
  have h:=zh4 a b W hT (by omega) (by omega);rw [if_neg (by rw [he];simp),if_neg (by rw [he];simp),zcK] at h;exact h
 have HM:Hid (∀ W,Tabs W→Calls Tryz.prog 15 #[.string a,.string b] W (za0 W (zaJ (mulQ (zab a.data.toList) (zab b.data.toList))) (zao (mulQ (zab a.data.toList) (zab b.data.toList))))):=fun W hT=>by
  have h:=zic a b W hT (by omega) (by omega);rw [if_neg (by rw [he];simp),if_neg (by rw [he];simp),zfm] at h;exact h
 have HD:Hid (∀ W,Tabs W→Calls Tryz.prog 16 #[.string a,.string b] W fun e w'=>e = .returned (.tuple #[.string ⟨#[]⟩,.int .i64 6])∧Below W.heap.size W w'):=fun W hT=>by
  have h:=zhW a b W hT (by omega) (by omega);have e9:=zoW (zab a.data.toList) _ hz;rw [if_neg (by rw [he];simp),if_neg (by rw [he];simp),e9.1,e9.2] at h;exact zdd #[] h rfl
 have cE:=Aa (fun W=>znv ⟨#[]⟩ 6 W (by omega));have HO:Hid (∀ W,Tabs W→Calls Tryz.prog 17 #[.string a,.string b] W fun e w'=>e = .returned (.tuple #[.int .i64 (cmpI (zab a.data.toList) (zab b.data.toList)),.int .i64 0])∧Below W.heap.size W w'):=fun W hT=>by
  have h:=zgg a b W hT (by omega) (by omega);rw [if_neg (by omega),if_neg (by omega),if_neg (by omega),hy,zcg aC.2 aA.2] at h;exact h
 have bL:=zcz aN aM aC.2.1 aA.2.1;have bR:=zbE aN aM aC.2.1 aA.2.1;have bK:=zbZ aN aM aC.2.1 aA.2.1;have cL:=Aa (fun W=>zk0 a b _ _ W aC aA (by omega) (by omega));have dG:=Aa (fun W=>ziW a b _ _ W aC aA (by omega) (by omega));have bZ:=Aa (fun W=>zhv a b _ _ W aC aA (by omega) (by omega));have cT:=Aa (fun W=>ziJ a b _ _ W aC aA (by omega) (by omega));have bG:=Aa (fun W=>zjj b _ W aA);have cW:=Aa (fun (s t:ByteArray) (W:World) hs (ht:NumQ t (addQ (zab a.data.toList) (zab b.data.toList)))=>zgw s t _ W hs ht (by have:=ht.size bL (by omega);omega));have cZ:=Aa (fun (s t:ByteArray) (W:World) hs (ht:NumQ t (subQ (zab a.data.toList) (zab b.data.toList)))=>zgw s t _ W hs ht (by have:=ht.size bR (by omega);omega));have cI:=Aa (fun (s t:ByteArray) (W:World) hs (ht:NumQ t (mulQ (zab a.data.toList) (zab b.data.toList)))=>zgw s t _ W hs ht (by have:=ht.size bK (by omega);omega));have HI:=Aa (fun W=>zhm (cmpI (zab a.data.toList) (zab b.data.toList)) W);have dz:decide ((zab b.data.toList).top=0)=true:=decide_eq_true hz;rw [dz] at bG;generalize cH:zad a.data.toList=x at *;generalize dH:zad b.data.toList=y at *;generalize zab a.data.toList=p at *;generalize zab b.data.toList=q at *;have dO:(x==x)=true:=by simp
 have dP:(x != x)=false:=by simp
 have dA:err2 x y=0:=he;have bO:Hid (∀ (ty:TypeId) (g:Nat) (w:World),CBlk w g #[.int .i64 x,.int .i64 y] ty→Calls Tryz.prog 10 #[.slice (some ⟨g,0,none⟩) 2 2] w fun e w'=>e = .returned (.int .i64 (err2 x y))∧w=w'):=fun ty g w hk=>zfF x y ty g w hk
 clear dA;rw [show err2 x y=0 from he] at bO;clear KV ha hb hx hy hz he cH dH aC aA aN aM bL bR bK dz;go_enter Tryz.func3,Tryz.ntmps3
 go_wp2_with fail
 refine (HK.out w hT).mono ?_;rintro e w1 ⟨rfl,cU⟩;have bT:=cU
 go_wp2_with fail
 refine (bJ.out w1).mono ?_;rintro e w2 ⟨rfl,dF⟩;have bH:=Ad bT dF
 go_wp2_with fail
 refine (cK.out w2).mono ?_;rintro e w3 ⟨rfl,dD⟩;have bI:=Ad bH dD;have bV:Below w3.heap.size w3 (w3.alloc (.cells #[.int .i64 x,.int .i64 y] 3)):=Ac;have HF:=Aa (bO.out _ _ _ (CBlk.new w3 #[.int .i64 x,.int .i64 y] 3 _ rfl));have aP:=Ad bI bV;clear bV
 go_wp2_with fail
 refine HF.out.mono ?_;clear HF;generalize dL:w3.alloc (.cells #[.int .i64 x,.int .i64 y] 3)=w4 at *;clear dL;rintro e dN ⟨rfl,rfl⟩
 go_wp2_with fail
 refine (cP.out w4 (hT.later aP)).mono ?_;rintro e w5 ⟨rfl,cR⟩;have bM:=Ad aP cR
 go_wp2_with fail
 refine (bJ.out w5).mono ?_;rintro e w6 ⟨rfl,dI⟩;have aZ:=Ad bM dI
 go_wp2_with fail
 refine (HA.out w6 (hT.later aZ)).mono ?_;rintro e w7 ⟨t1,rfl,bN,dM⟩;have aU:=Ad aZ dM;have cA:=Aa bN;clear bN
 go_wp2_with fail
 refine (HS.out w7 (hT.later aU)).mono ?_;rintro e w8 ⟨t2,rfl,bU,cG⟩;have aQ:=Ad aU cG;have dB:=Aa bU;clear bU
 go_wp2_with fail
 refine (HM.out w8 (hT.later aQ)).mono ?_;rintro e w9 ⟨t3,rfl,bW,cJ⟩;have aS:=Ad aQ cJ;have cS:=Aa bW;clear bW
 go_wp2_with fail
 refine (HD.out w9 (hT.later aS)).mono ?_;rintro e cY ⟨rfl,aT⟩;have aD:=Ad aS aT
 go_wp2_with fail
 refine (HO.out cY (hT.later aD)).mono ?_;rintro e cQ ⟨rfl,bF⟩;have aK:=Ad aD bF
 go_wp2_with fail
 refine (cL.out cQ).mono ?_;rintro e dK ⟨⟨r1,rfl,bS⟩,bB⟩;have aH:=Ad aK bB;have cC:=Aa bS;clear bS
 go_wp2_with fail
 refine (cW.out t1 r1 dK cA.out cC.out).mono ?_;rintro e cN ⟨rfl,bA⟩;have aF:=Ad aH bA
 go_wp2_with fail
 refine (dG.out cN).mono ?_;rintro e cO ⟨⟨r2,rfl,bQ⟩,aV⟩;have aE:=Ad aF aV;have cB:=Aa bQ;clear bQ
 go_wp2_with fail
 refine (cZ.out t2 r2 cO dB.out cB.out).mono ?_;rintro e cF ⟨rfl,bD⟩;have aJ:=Ad aE bD
 go_wp2_with fail
 refine (bZ.out cF).mono ?_;rintro e cM ⟨⟨r3,rfl,bP⟩,aO⟩;have aI:=Ad aJ aO;have dJ:=Aa bP;clear bP
 go_wp2_with fail
 refine (cI.out t3 r3 cM cS.out dJ.out).mono ?_;rintro e cV ⟨rfl,aR⟩;have aG:=Ad aI aR
 go_wp2_with fail
 refine (cT.out cV).mono ?_;rintro e bE ⟨rfl,aW⟩;have bC:=Ad aG aW
 go_wp2_with fail
 refine (HI.out bE).mono ?_;rintro e aL ⟨rfl,rfl⟩
 go_wp2_with fail
 refine (bG.out bE).mono ?_;rintro e aL ⟨rfl,rfl⟩
 go_wp2_with fail
 refine (cE.out bE).mono ?_;rintro e aL ⟨rfl,rfl⟩;go_wp2
 go_ret;exact ⟨rfl,bC⟩
theorem zmC (a b:ByteArray) (w:World) (KV:zcx) (hT:Tabs w) (ha:a.size≤1300) (hb:b.size≤1300) (hx:zad a.data.toList=0) (hy:zad b.data.toList=0) (hz:(zab b.data.toList).top≠0) :
  Calls Tryz.prog 3 #[.string a,.string b] w fun e w'=>e = .returned (.bool true)∧Below w.heap.size w w':=by
 have HK:=Aa KV;have d1:decide ((1300:Int)<(a.size:Int))=false:=decide_eq_false (by omega);have d2:decide ((1300:Int)<(b.size:Int))=false:=decide_eq_false (by omega);have bO:Hid (∀ W,Calls Tryz.prog 11 #[.string a] W fun e w'=>e = .returned (.int .i64 (zad a.data.toList))∧Below W.heap.size W w'):=fun W=>za3 a W (by omega)
 have cS:Hid (∀ W,Calls Tryz.prog 11 #[.string b] W fun e w'=>e = .returned (.int .i64 (zad b.data.toList))∧Below W.heap.size W w'):=fun W=>za3 b W (by omega)
 have cY:=Aa (fun W hT=>zgq a W hT (by omega));have aC:=zbA hx;have aA:=zbA hy;have aN:=aC.small ha (by omega);have aK:=aA.small hb (by omega);have he:err2 (zad a.data.toList) (zad b.data.toList)=0:=by unfold err2;rw [hx,hy];rfl
 have HA:Hid (∀ W,Tabs W→Calls Tryz.prog 13 #[.string a,.string b] W (za0 W (zaJ (addQ (zab a.data.toList) (zab b.data.toList))) (zao (addQ (zab a.data.toList) (zab b.data.toList))))):=fun W hT=>by
  have h:=ziF a b W hT (by omega) (by omega);rw [if_neg (by rw [he];simp),if_neg (by rw [he];simp),zfj] at h;exact h
 have HS:Hid (∀ W,Tabs W→Calls Tryz.prog 14 #[.string a,.string b] W (za0 W (zaJ (subQ (zab a.data.toList) (zab b.data.toList))) (zao (subQ (zab a.data.toList) (zab b.data.toList))))):=fun W hT=>by
  have h:=zh4 a b W hT (by omega) (by omega);rw [if_neg (by rw [he];simp),if_neg (by rw [he];simp),zcK] at h;exact h
 have HM:Hid (∀ W,Tabs W→Calls Tryz.prog 15 #[.string a,.string b] W (za0 W (zaJ (mulQ (zab a.data.toList) (zab b.data.toList))) (zao (mulQ (zab a.data.toList) (zab b.data.toList))))):=fun W hT=>by
  have h:=zic a b W hT (by omega) (by omega);rw [if_neg (by rw [he];simp),if_neg (by rw [he];simp),zfm] at h;exact h
 have HD:Hid (∀ W,Tabs W→Calls Tryz.prog 16 #[.string a,.string b] W (za0 W (zaJ (mulQ (zab a.data.toList) (recS (zab b.data.toList)))) (zao (mulQ (zab a.data.toList) (recS (zab b.data.toList)))))):=fun W hT=>by
  have h:=zhW a b W hT (by omega) (by omega);rw [if_neg (by rw [he];simp),if_neg (by rw [he];simp),zf5] at h;exact h
 have bN:=zbZ aN (zex aK) aC.2.1 (ze7 aA.2 (by omega)).1;have dA:=Aa (fun W=>zqk a b _ _ W aC aA (by omega) (by omega) (by omega));have cL:=Aa (fun (s t:ByteArray) (W:World) hs (ht:NumQ t (mulQ (zab a.data.toList) (recS (zab b.data.toList))))=>zgw s t _ W hs ht (by have:=ht.size bN (by omega);omega));have HO:Hid (∀ W,Tabs W→Calls Tryz.prog 17 #[.string a,.string b] W fun e w'=>e = .returned (.tuple #[.int .i64 (cmpI (zab a.data.toList) (zab b.data.toList)),.int .i64 0])∧Below W.heap.size W w'):=fun W hT=>by
  have h:=zgg a b W hT (by omega) (by omega);rw [if_neg (by omega),if_neg (by omega),if_neg (by omega),hy,zcg aC.2 aA.2] at h;exact h
 have bS:=zcz aN aK aC.2.1 aA.2.1;have cA:=zbE aN aK aC.2.1 aA.2.1;have bQ:=zbZ aN aK aC.2.1 aA.2.1;have cT:=Aa (fun W=>zk0 a b _ _ W aC aA (by omega) (by omega));have dR:=Aa (fun W=>ziW a b _ _ W aC aA (by omega) (by omega));have cH:=Aa (fun W=>zhv a b _ _ W aC aA (by omega) (by omega));have dF:=Aa (fun W=>ziJ a b _ _ W aC aA (by omega) (by omega));have bK:=Aa (fun W=>zjj b _ W aA);have dJ:=Aa (fun (s t:ByteArray) (W:World) hs (ht:NumQ t (addQ (zab a.data.toList) (zab b.data.toList)))=>zgw s t _ W hs ht (by have:=ht.size bS (by omega);omega));have dL:=Aa (fun (s t:ByteArray) (W:World) hs (ht:NumQ t (subQ (zab a.data.toList) (zab b.data.toList)))=>zgw s t _ W hs ht (by have:=ht.size cA (by omega);omega));have cQ:=Aa (fun (s t:ByteArray) (W:World) hs (ht:NumQ t (mulQ (zab a.data.toList) (zab b.data.toList)))=>zgw s t _ W hs ht (by have:=ht.size bQ (by omega);omega));have HI:=Aa (fun W=>zhm (cmpI (zab a.data.toList) (zab b.data.toList)) W);have dz:decide ((zab b.data.toList).top=0)=false:=decide_eq_false hz;rw [dz] at bK;generalize cP:zad a.data.toList=x at *;generalize dS:zad b.data.toList=y at *;generalize zab a.data.toList=p at *;generalize zab b.data.toList=q at *;have dZ:(x==x)=true:=by simp
 have fA:(x != x)=false:=by simp
 have dM:err2 x y=0:=he;have bV:Hid (∀ (ty:TypeId) (g:Nat) (w:World),CBlk w g #[.int .i64 x,.int .i64 y] ty→Calls Tryz.prog 10 #[.slice (some ⟨g,0,none⟩) 2 2] w fun e w'=>e = .returned (.int .i64 (err2 x y))∧w=w'):=fun ty g w hk=>zfF x y ty g w hk
 clear dM;rw [show err2 x y=0 from he] at bV;clear KV ha hb hx hy hz he cP dS aC aA aN aK bS cA bQ dz bN;go_enter Tryz.func3,Tryz.ntmps3
 go_wp2_with fail
 refine (HK.out w hT).mono ?_;rintro e w1 ⟨rfl,dH⟩;have cC:=dH
 go_wp2_with fail
 refine (bO.out w1).mono ?_;rintro e w2 ⟨rfl,dQ⟩;have bL:=Ad cC dQ
 go_wp2_with fail
 refine (cS.out w2).mono ?_;rintro e w3 ⟨rfl,dO⟩;have bM:=Ad bL dO;have cF:Below w3.heap.size w3 (w3.alloc (.cells #[.int .i64 x,.int .i64 y] 3)):=Ac;have HF:=Aa (bV.out _ _ _ (CBlk.new w3 #[.int .i64 x,.int .i64 y] 3 _ rfl));have aR:=Ad bM cF;clear cF
 go_wp2_with fail
 refine HF.out.mono ?_;clear HF;generalize dW:w3.alloc (.cells #[.int .i64 x,.int .i64 y] 3)=w4 at *;clear dW;rintro e dY ⟨rfl,rfl⟩
 go_wp2_with fail
 refine (cY.out w4 (hT.later aR)).mono ?_;rintro e w5 ⟨rfl,dB⟩;have bT:=Ad aR dB
 go_wp2_with fail
 refine (bO.out w5).mono ?_;rintro e w6 ⟨rfl,dT⟩;have bC:=Ad bT dT
 go_wp2_with fail
 refine (HA.out w6 (hT.later bC)).mono ?_;rintro e w7 ⟨t1,rfl,bU,dX⟩;have aW:=Ad bC dX;have cI:=Aa bU;clear bU
 go_wp2_with fail
 refine (HS.out w7 (hT.later aW)).mono ?_;rintro e w8 ⟨t2,rfl,cE,cO⟩;have aS:=Ad aW cO;have dN:=Aa cE;clear cE
 go_wp2_with fail
 refine (HM.out w8 (hT.later aS)).mono ?_;rintro e w9 ⟨t3,rfl,cG,cR⟩;have aU:=Ad aS cR;have dD:=Aa cG;clear cG
 go_wp2_with fail
 refine (HD.out w9 (hT.later aU)).mono ?_;rintro e dK ⟨t4,rfl,bP,aV⟩;have aD:=Ad aU aV;have dG:=Aa bP;clear bP
 go_wp2_with fail
 refine (HO.out dK (hT.later aD)).mono ?_;rintro e cZ ⟨rfl,bJ⟩;have aM:=Ad aD bJ
 go_wp2_with fail
 refine (cT.out cZ).mono ?_;rintro e dV ⟨⟨r1,rfl,cB⟩,bF⟩;have aI:=Ad aM bF;have cK:=Aa cB;clear cB
 go_wp2_with fail
 refine (dJ.out t1 r1 dV cI.out cK.out).mono ?_;rintro e cV ⟨rfl,bE⟩;have aG:=Ad aI bE
 go_wp2_with fail
 refine (dR.out cV).mono ?_;rintro e cW ⟨⟨r2,rfl,bZ⟩,aZ⟩;have aF:=Ad aG aZ;have cJ:=Aa bZ;clear bZ
 go_wp2_with fail
 refine (dL.out t2 r2 cW dN.out cJ.out).mono ?_;rintro e cN ⟨rfl,bG⟩;have aL:=Ad aF bG
 go_wp2_with fail
 refine (cH.out cN).mono ?_;rintro e cU ⟨⟨r3,rfl,bW⟩,aP⟩;have aJ:=Ad aL aP;have dU:=Aa bW;clear bW
 go_wp2_with fail
 refine (cQ.out t3 r3 cU dD.out dU.out).mono ?_;rintro e dI ⟨rfl,aT⟩;have aH:=Ad aJ aT
 go_wp2_with fail
 refine (dF.out dI).mono ?_;rintro e bH ⟨rfl,bA⟩;have aO:=Ad aH bA
 go_wp2_with fail
 refine (HI.out bH).mono ?_;rintro e bD ⟨rfl,rfl⟩
 go_wp2_with fail
 refine (bK.out bH).mono ?_;rintro e bD ⟨rfl,rfl⟩
 go_wp2_with fail
 refine (dA.out bH).mono ?_;rintro e dP ⟨⟨r4,rfl,bR⟩,bB⟩;have aE:=Ad aO bB;have cM:=Aa bR;clear bR
 go_wp2_with fail
 refine (cL.out t4 r4 dP dG.out cM.out).mono ?_;rintro e fB ⟨rfl,bI⟩;have aQ:=Ad aE bI;go_wp2
 go_ret;exact ⟨rfl,aQ⟩
theorem zpC (a b:ByteArray) (w:World) (KV:zcx) (hT:Tabs w) :
  Calls Tryz.prog 3 #[.string a,.string b] w fun e w'=>e = .returned (.bool true)∧Below w.heap.size w w':=by
 by_cases hg:1300<a.size∨1300<b.size
 ·exact zjJ a b w KV hT hg
 ·by_cases hx:err2 (zad a.data.toList) (zad b.data.toList)=0
  ·have h1:zad a.data.toList=0:=by
    unfold err2 at hx
    by_cases h:zad a.data.toList=0
    ·exact h
    ·rw [if_pos h] at hx;exact hx
   have h2:zad b.data.toList=0:=by
    unfold err2 at hx;rw [if_neg (by omega)] at hx;exact hx
   by_cases hz:(zab b.data.toList).top=0
   ·exact zor a b w KV hT (by omega) (by omega) h1 h2 hz
   ·exact zmC a b w KV hT (by omega) (by omega) h1 h2 hz
  ·exact zph a b w KV hT (by omega) (by omega) hx
end Go.Proofs.YtmkondcdejlhcaaGreatDoor
