/- Contract of package number's Shares, up to 19 weights. -/
import Derived.Test.YteajibbphcfmeaaGreatDoorVDra
namespace Go.Proofs.YteajibbphcfmeaaGreatDoor
open Go.RowKit Bn
theorem zn0 (n:Nat) (hn:n≤256):∃ Z:Array Value,Z.toList=List.replicate n (.int .i64 0)∧Z.size=n ∧
  (∀ W:World,(Instr.makeSlice 45 (.int .i64 (n:Int)) (.int .i64 (n:Int))).run Tryz.prog W = .ok (.slice (some ⟨W.heap.size,0,none⟩) n n) (W.alloc (.cells Z 3))):=by
 obtain ⟨i0,aD,aE,aC,aA⟩:=info_parts zcq
 refine ⟨madeCells #[.int .i64 0] n,toList_madeCells_one _ _,size_madeCells _ _,fun W => ?_⟩
 have h:=run_make (P:=Tryz.prog) W 45 3 i0 (.int .i64 0) Tryz.underlying45 aD aE .i64 .i64 n n (by omega) (by omega) (by rw [aA];omega) (by omega)
 rw [aC,Nat.mul_one,Int.toNat_natCast] at h
 exact h
theorem zmJ:(Tryz.prog.info? 2).map (fun i=>(i.zero,i.size,i.bytes))=some (some (.int .i64 0),1,8):=by kernel_rfl
theorem zn8 (n:Nat) (hn:n≤256):∃ Z:Array Value,Z.toList=List.replicate n (.int .i64 0)∧Z.size=n ∧
  (∀ W:World,(Instr.makeSlice 113 (.int .i64 (n:Int)) (.int .i64 (n:Int))).run Tryz.prog W = .ok (.slice (some ⟨W.heap.size,0,none⟩) n n) (W.alloc (.cells Z 2))):=by
 obtain ⟨i0,aD,aE,aC,aA⟩:=info_parts zmJ
 refine ⟨madeCells #[.int .i64 0] n,toList_madeCells_one _ _,size_madeCells _ _,fun W => ?_⟩
 have h:=run_make (P:=Tryz.prog) W 113 2 i0 (.int .i64 0) Tryz.underlying113 aD aE .i64 .i64 n n (by omega) (by omega) (by rw [aA];omega) (by omega)
 rw [aC,Nat.mul_one,Int.toNat_natCast] at h
 exact h
theorem zga {W:World} {b n:Nat} {Z:Array Value} {t:TypeId} (hs:Z.size=n) (hn:n≤256) (h:W.heap[b]? = some (.cells Z t (0,0))):W.ownsRow b t 1 (.slice (some ⟨b,0,none⟩) n n) n Z.toList:=by
 subst hs
 refine ⟨by simp,.inr ⟨b,Z.size,Z,rfl,Nat.le_refl _,h,Nat.le_refl _,by unfold maxLen;omega,by simp,by rw [Nat.mul_one];exact List.take_of_length_le (by simp)⟩⟩
theorem zeQ {x:Nat}:∀ {l:List Nat},x ∈ l→x≤l.sum
 | a :: t,h=>by
  rw [List.sum_cons]
  rcases List.mem_cons.1 h with rfl | h1
  ·omega
  ·have:=zeQ h1;omega
theorem ziH (l:List Nat) (k:Nat) (h:k<l.length):(l.take (k+1)).sum=(l.take k).sum+l[k]:=by
 rw [List.take_succ_eq_append_getElem h,List.sum_append];simp
theorem zhX (l:List Nat) (k:Nat):(l.take k).sum≤l.sum:=by
 have h:(l.take k++l.drop k).sum=l.sum:=by rw [List.take_append_drop]
 rw [List.sum_append] at h;omega
theorem zfm (M:Nat):∀ l:List Nat,(∀ x ∈ l,x≤M)→l.sum≤l.length*M
 | [],_=>by simp
 | a :: t,h=>by
  have h1:=h a (by simp)
  have h2:=zfm M t (fun x hx=>h x (by simp [hx]))
  rw [List.sum_cons,List.length_cons,Nat.add_mul];omega
theorem zmE (T S:Nat) (l rs:List Nat) (h:rs=l.map (fun x=>T*x % S)):(fun i=>rs.getD i 0)=Dl.shRem T S l:=by
 subst h
 funext i
 unfold Dl.shRem
 by_cases hi:i<l.length
 ·simp [List.getD,hi]
 ·simp [List.getD,hi]
theorem zlK (sh ord:List Nat) (k:Nat) (h:k<ord.length):(Dl.incAll sh (ord.take k)).set ord[k] ((Dl.incAll sh (ord.take k)).getD ord[k] 0+1)=Dl.incAll sh (ord.take (k+1)):=by
 unfold Dl.incAll
 rw [List.take_succ_eq_append_getElem h,List.foldl_append]
 rfl
theorem zhr (l:List Nat) (i:Nat):l.getD i 0≤l.sum:=by
 by_cases hi:i<l.length
 ·have:l.getD i 0=l[i]:=by simp [List.getD,hi]
  rw [this];exact zeQ (List.getElem_mem hi)
 ·have:l.getD i 0=0:=by simp [List.getD,hi]
  omega
theorem zkQ (sh p:List Nat) (h:∀ y ∈ p,y<sh.length) (i:Nat) (hi:i<sh.length):(Dl.incAll sh p).getD i 0≤sh.sum+p.length:=by
 have:=zhr (Dl.incAll sh p) i
 rw [Dl.incAll_sum p sh h] at this
 exact this
set_option maxHeartbeats 4000000 in
set_option maxRecDepth 100000 in
theorem zli (T:Nat) (A:Option Addr) (n c:Nat) (l:List Nat) (w:World) (hT:T≤999999999) (h:zat w w.heap.size 1 A n (l.map natv)) (hl:∀ x ∈ l,x≤999999999) (hn1:1≤n) (hn:n≤19) (hz:zgv l=false) :
  Calls Tryz.prog 33 #[.int .i64 (T:Int),.slice A n c] w fun e w'=>
   ∃ b,e = .returned (.tuple #[.slice (some ⟨b,0,none⟩) n n,.int .i64 0])∧w.heap.size≤b∧w'.ownsRow b 3 1 (.slice (some ⟨b,0,none⟩) n n) n ((Dl.shares T l).map natv)∧Below w.heap.size w w':=by
 have aS:l.length=n:=by have:=h.1;rw [List.length_map] at this;omega
 have r1:=Lib.hid (fun W=>zcK (T:Int) 0 999999999 W (by omega) (by omega))
 have r2:=Lib.hid (ze2 A n c l w h hl hn1 (by omega) hz)
 have HL:=Lib.hid hl
 obtain ⟨Z,dK,cG,fI⟩:=zn0 n (by omega)
 obtain ⟨Z',bO,bS,cP⟩:=zn8 n (by omega)
 have fC:l.sum≠0:=fun e=>by
  have:zgv l=true:=by
   unfold zgv
   rw [List.all_eq_true]
   intro x hx
   have:=zeQ hx
   simp;omega
  rw [this] at hz;cases hz
 clear hl hz
 go_enter Tryz.func33,Tryz.ntmps33
 go_wp2_with fail
 refine (r1.out w).mono ?_
 rintro e w1 ⟨rfl,rfl⟩
 go_wp2_with fail
 refine r2.out.mono ?_
 rintro e w1 ⟨rfl,cK⟩
 go_wp2_with fail
 refine (zef 0 0 w1 _ _ rfl).mono ?_
 rintro e w2 ⟨rfl,rfl⟩
 have aH:Below w.heap.size w (w1.alloc (.cells #[.int .i64 0,.int .i64 0] 26)):=cK.alloc cK.size _
 generalize w1.alloc (.cells #[.int .i64 0,.int .i64 0] 26)=w2 at *
 clear r1 r2
 go_wp2_with fail
 have h2:=h.below aH
 go_loopg [7,30] n (fun m s t W=>∃ k:Nat,k≤n∧t = .int .i64 k∧s = .int .i64 ((l.take k).sum:Nat)∧n - k≤m∧W=w2)
 case atStart=>exact ⟨0,Nat.zero_le _,rfl,rfl,by omega,rfl⟩
 case round=>
  obtain ⟨k,hk,rfl,rfl,hm,rfl⟩:=hrel
  by_cases h0:k<n
  ·have bM:k<l.length:=by omega
   obtain ⟨ad,u,rfl,dZ,hu,bU⟩:=h2.at_ h0
   have dF:u = .int .i64 (l[k]:Int):=by simp [natv,bM] at hu;exact hu.symm
   subst dF
   have hx:=HL.out l[k] (List.getElem_mem bM)
   have cE:=ziH l k bM
   have cS:=zfm 999999999 (l.take k) (fun x hx=>HL.out x (List.mem_of_mem_take hx))
   rw [List.length_take] at cS
   have fH:(l.take k).sum≤20000000000:=by
    refine Nat.le_trans cS ?_
    have:min k l.length≤19:=by omega
    have:=Nat.mul_le_mul_right 999999999 this
    omega
   clear cS hu
   generalize (l.take k).sum=s0 at *
   generalize l[k]=x at *
   go_wp2_with fail
   go_roundg (n - (k+1))
   case measure=>omega
   case rel=>exact ⟨k+1,by omega,by go_num,by rw [cE];go_num,Nat.le_refl _,rfl⟩
  ·obtain rfl:n=k:=by omega
   rw [List.take_of_length_le (by omega)]
   clear h0 hm hk
   go_upto_region 10 with (fail)
   obtain ⟨bW,bG⟩:∃ g,g=wr.heap.size:=⟨_,rfl⟩
   have bJ:w.heap.size≤bW:=by rw [bG];exact aH.size
   obtain ⟨bQ,aU⟩:∃ I:Array Bool→Act→World→Prop,I=(fun aK ac W=>∃ (b0 b1 b2 b3 b4 b5 b6 b7:Bool) (bC aY bA aZ bB bD aW aX:Value) (aC:Nat) (aA:Nat),aK=#[b0,b1,b2,b3,b4,b5,b6,b7]∧ac={ tmps:=#[.int .i64 (T:Int),.slice A n c,undef,undef,.slice none 0 0,.int .i64 0,.int .i64 0,.int .i64 (l.sum:Nat),undef,u9,aW,aX,undef,undef,undef,undef,undef,undef,undef,.int .i64 (T:Int),.int .i64 0,.slice A n c,.int .i64 0,.slice (some ⟨w1.heap.size,0,none⟩) 2 2,.int .i64 0,.int .i64 0,.bool false,undef,.slice A n c,.int .i64 (n:Int),.int .i64 (n:Int),.bool false,u32,u33,u34,u35,u36,u37,bC,aY,bA,aZ,bB,bD,undef,undef,undef,undef,undef,undef,undef,undef,undef,undef,undef,undef,undef,undef,undef,undef,undef,undef,undef,undef,undef,undef,undef,undef,undef,undef,undef,undef,undef,undef,undef,undef,undef,undef,undef,undef,undef,undef,undef,undef,undef,undef,undef,undef,undef,undef,undef,undef,undef,undef,undef,undef,undef,undef,undef,undef],defers:=[] }∧bW≤W.heap.size∧Below w.heap.size w W∧(b0=true→bC = .slice A n c)∧(b1=true→aY = .int .i64 (n:Int))∧(b2=true→bA = .slice (some ⟨aC,0,none⟩) n n∧bW≤aC∧aC<W.heap.size∧CBlk W aC Z 3)∧(b3=true→aZ = .slice A n c)∧(b4=true→bB = .int .i64 (n:Int))∧(b5=true→bD = .slice (some ⟨aA,0,none⟩) n n∧bW≤aA∧aA<W.heap.size∧CBlk W aA Z 3)∧(b6=true→b2=true∧aW = .slice (some ⟨aC,0,none⟩) n n)∧(b7=true→b5=true∧aX = .slice (some ⟨aA,0,none⟩) n n)∧(b2=true→b5=true→aC≠aA)):=⟨_,rfl⟩
   have aD:=Lib.hid aU
   clear aU
   refine zbF (by kernel_rfl) bQ (by kernel_rfl) ?_ ?_ ?_
   ·rw [aD.out]
    exact ⟨false,false,false,false,false,false,false,false,undef,undef,undef,undef,undef,undef,undef,undef,0,0,rfl,rfl,(by rw [bG];exact Nat.le_refl _),aH.drew,(fun h=>by cases h),(fun h=>by cases h),(fun h=>by cases h),(fun h=>by cases h),(fun h=>by cases h),(fun h=>by cases h),(fun h=>by cases h),(fun h=>by cases h),(fun h=>by cases h)⟩
   ·intro i op aK ac W ho hI hl aE
    rw [aD.out] at hI
    obtain ⟨b0,b1,b2,b3,b4,b5,b6,b7,bC,aY,bA,aZ,bB,bD,aW,aX,aC,aA,rfl,rfl,aQ,aH,f0,f1,f2,f3,f4,f5,f6,f7,aF⟩:=hI
    clear bG
    match i,ho,hl,aE with
    | 0,ho,hl,aE=>
     have aT:b0=false:=Option.some.inj hl
     obtain rfl:=Option.some.inj ho
     refine zaq ho fun K' hK => ?_
     go_simp
     refine hK.out _ _ ?_
     rw [aD.out]
     exact ⟨true,b1,b2,b3,b4,b5,b6,b7,(.slice A n c),aY,bA,aZ,bB,bD,aW,aX,aC,aA,rfl,rfl,aQ,aH,(fun _=>rfl),f1,f2,f3,f4,f5,f6,f7,aF⟩
    | 1,ho,hl,aE=>
     have aT:b1=false:=Option.some.inj hl
     obtain rfl:=Option.some.inj ho
     have e0:b0=true:=aE ⟨0,.data⟩ (by simp) rfl
     obtain rfl:=f0 e0
     refine zaq ho fun K' hK => ?_
     go_simp
     refine hK.out _ _ ?_
     rw [aD.out]
     exact ⟨b0,true,b2,b3,b4,b5,b6,b7,(.slice A n c),(.int .i64 (n:Int)),bA,aZ,bB,bD,aW,aX,aC,aA,rfl,rfl,aQ,aH,f0,(fun _=>rfl),f2,f3,f4,f5,f6,f7,aF⟩
    | 2,ho,hl,aE=>
     have aT:b2=false:=Option.some.inj hl
     obtain rfl:=Option.some.inj ho
     have e1:b1=true:=aE ⟨1,.data⟩ (by simp) rfl
     obtain rfl:=f1 e1
     refine zaq ho fun K' hK => ?_
     have hb:Below W.heap.size W (W.alloc (.cells Z 3)):=(Below.refl _ _).alloc (Nat.le_refl _) _
     go_simp
     refine hK.out _ _ ?_
     rw [aD.out]
     exact ⟨b0,b1,true,b3,b4,b5,b6,b7,bC,(.int .i64 (n:Int)),(.slice (some ⟨W.heap.size,0,none⟩) n n),aZ,bB,bD,aW,aX,W.heap.size,aA,rfl,rfl,(Nat.le_trans aQ hb.size),(aH.trans (hb.mono aH.size)),f0,f1,(fun _=>⟨rfl,aQ,by simp,CBlk.new W _ _ _ rfl⟩),f3,f4,(fun h=>⟨(f5 h).1,(f5 h).2.1,Nat.lt_of_lt_of_le (f5 h).2.2.1 hb.size,(f5 h).2.2.2.below hb (f5 h).2.2.1⟩),(fun h=>by rw [(f6 h).1] at aT;cases aT),f7,(fun _ h=>Nat.ne_of_gt (f5 h).2.2.1)⟩
    | 3,ho,hl,aE=>
     have aT:b3=false:=Option.some.inj hl
     obtain rfl:=Option.some.inj ho
     refine zaq ho fun K' hK => ?_
     go_simp
     refine hK.out _ _ ?_
     rw [aD.out]
     exact ⟨b0,b1,b2,true,b4,b5,b6,b7,bC,aY,bA,(.slice A n c),bB,bD,aW,aX,aC,aA,rfl,rfl,aQ,aH,f0,f1,f2,(fun _=>rfl),f4,f5,f6,f7,aF⟩
    | 4,ho,hl,aE=>
     have aT:b4=false:=Option.some.inj hl
     obtain rfl:=Option.some.inj ho
     have e3:b3=true:=aE ⟨3,.data⟩ (by simp) rfl
     obtain rfl:=f3 e3
     refine zaq ho fun K' hK => ?_
     go_simp
     refine hK.out _ _ ?_
     rw [aD.out]
     exact ⟨b0,b1,b2,b3,true,b5,b6,b7,bC,aY,bA,(.slice A n c),(.int .i64 (n:Int)),bD,aW,aX,aC,aA,rfl,rfl,aQ,aH,f0,f1,f2,f3,(fun _=>rfl),f5,f6,f7,aF⟩
    | 5,ho,hl,aE=>
     have aT:b5=false:=Option.some.inj hl
     obtain rfl:=Option.some.inj ho
     have e4:b4=true:=aE ⟨4,.data⟩ (by simp) rfl
     obtain rfl:=f4 e4
     refine zaq ho fun K' hK => ?_
     have hb:Below W.heap.size W (W.alloc (.cells Z 3)):=(Below.refl _ _).alloc (Nat.le_refl _) _
     go_simp
     refine hK.out _ _ ?_
     rw [aD.out]
     exact ⟨b0,b1,b2,b3,b4,true,b6,b7,bC,aY,bA,aZ,(.int .i64 (n:Int)),(.slice (some ⟨W.heap.size,0,none⟩) n n),aW,aX,aC,W.heap.size,rfl,rfl,(Nat.le_trans aQ hb.size),(aH.trans (hb.mono aH.size)),f0,f1,(fun h=>⟨(f2 h).1,(f2 h).2.1,Nat.lt_of_lt_of_le (f2 h).2.2.1 hb.size,(f2 h).2.2.2.below hb (f2 h).2.2.1⟩),f3,f4,(fun _=>⟨rfl,aQ,by simp,CBlk.new W _ _ _ rfl⟩),f6,(fun h=>by rw [(f7 h).1] at aT;cases aT),(fun h _=>Nat.ne_of_lt (f2 h).2.2.1)⟩
    | 6,ho,hl,aE=>
     have aT:b6=false:=Option.some.inj hl
     obtain rfl:=Option.some.inj ho
     have e2:b2=true:=aE ⟨2,.data⟩ (by simp) rfl
     obtain ⟨rfl,fF,fA,fB⟩:=f2 e2
     refine zaq ho fun K' hK => ?_
     go_simp
     refine hK.out _ _ ?_
     rw [aD.out]
     exact ⟨b0,b1,b2,b3,b4,b5,true,b7,bC,aY,(.slice (some ⟨aC,0,none⟩) n n),aZ,bB,bD,(.slice (some ⟨aC,0,none⟩) n n),aX,aC,aA,rfl,rfl,aQ,aH,f0,f1,f2,f3,f4,f5,(fun _=>⟨e2,rfl⟩),f7,aF⟩
    | 7,ho,hl,aE=>
     have aT:b7=false:=Option.some.inj hl
     obtain rfl:=Option.some.inj ho
     have e5:b5=true:=aE ⟨5,.data⟩ (by simp) rfl
     obtain ⟨rfl,fF,fA,fB⟩:=f5 e5
     refine zaq ho fun K' hK => ?_
     go_simp
     refine hK.out _ _ ?_
     rw [aD.out]
     exact ⟨b0,b1,b2,b3,b4,b5,b6,true,bC,aY,bA,aZ,bB,(.slice (some ⟨aA,0,none⟩) n n),aW,(.slice (some ⟨aA,0,none⟩) n n),aC,aA,rfl,rfl,aQ,aH,f0,f1,f2,f3,f4,f5,f6,(fun _=>⟨e5,rfl⟩),aF⟩
    | n+8,ho,hl,aE=>exact absurd ho (by simp)
   ·intro aK ac Y hI aG
    rw [aD.out] at hI
    clear aH
    obtain ⟨b0,b1,b2,b3,b4,b5,b6,b7,bC,aY,bA,aZ,bB,bD,aW,aX,aC,aA,rfl,rfl,aQ,aH,f0,f1,f2,f3,f4,f5,f6,f7,aF⟩:=hI
    have e0:b0=true:=aG 0 b0 (by decide) rfl
    have e1:b1=true:=aG 1 b1 (by decide) rfl
    have e2:b2=true:=aG 2 b2 (by decide) rfl
    have e3:b3=true:=aG 3 b3 (by decide) rfl
    have e4:b4=true:=aG 4 b4 (by decide) rfl
    have e5:b5=true:=aG 5 b5 (by decide) rfl
    have e6:b6=true:=aG 6 b6 (by decide) rfl
    have e7:b7=true:=aG 7 b7 (by decide) rfl
    subst e0
    subst e1
    subst e2
    subst e3
    subst e4
    subst e5
    subst e6
    subst e7
    obtain rfl:=f0 rfl
    obtain rfl:=f1 rfl
    obtain ⟨rfl,aO,aL,qs⟩:=f2 rfl
    obtain rfl:=f3 rfl
    obtain rfl:=f4 rfl
    obtain ⟨rfl,aN,aP,qo⟩:=f5 rfl
    obtain ⟨_,rfl⟩:=f6 rfl
    obtain ⟨_,rfl⟩:=f7 rfl
    clear f0 f1 f2 f3 f4 f5 f6 f7 aG aD
    have bK:w.heap.size≤Y.heap.size:=aH.size
    have hS:=zga cG (by omega) qs
    have hO:=zga cG (by omega) qo
    rw [dK] at hS hO
    have bV:=Lib.hid (aF rfl rfl)
    have dE:w.heap.size≤aC:=Nat.le_trans bJ aO
    have dI:w.heap.size≤aA:=Nat.le_trans bJ aN
    clear aF fI aO aN bJ aQ qs qo h2 cK bG
    generalize aC=S at *
    generalize aA=O at *
    go_wp2_with fail
    have cV:Below w.heap.size w ((Y.alloc (.cells Z' 2)).alloc (.cells #[.slice (some ⟨Y.heap.size,0,none⟩) n n] 113)):=(aH.alloc bK _).alloc (by simp;omega) _
    have cF:=zf7 (w':=(Y.alloc (.cells Z' 2)).alloc (.cells #[.slice (some ⟨Y.heap.size,0,none⟩) n n] 113)) hS (((Below.refl Y.heap.size Y).alloc (Nat.le_refl _) _).alloc (by simp) _ |>.block S aL)
    have cO:=zf7 (w':=(Y.alloc (.cells Z' 2)).alloc (.cells #[.slice (some ⟨Y.heap.size,0,none⟩) n n] 113)) hO (((Below.refl Y.heap.size Y).alloc (Nat.le_refl _) _).alloc (by simp) _ |>.block O aP)
    have cN:CBlk ((Y.alloc (.cells Z' 2)).alloc (.cells #[.slice (some ⟨Y.heap.size,0,none⟩) n n] 113)) (Y.heap.size+1) #[.slice (some ⟨Y.heap.size,0,none⟩) n n] 113:=CBlk.new _ _ _ _ (by simp)
    have cY:CBlk ((Y.alloc (.cells Z' 2)).alloc (.cells #[.slice (some ⟨Y.heap.size,0,none⟩) n n] 113)) Y.heap.size Z' 2:=(CBlk.new Y _ _ _ rfl).alloc _
    have hR:=zga bS (by omega) cY
    rw [bO] at hR
    obtain ⟨R,dC⟩:∃ b,b=Y.heap.size:=⟨_,rfl⟩
    rw [←dC] at hR cN cY cF cO cV aL aP bK
    try rw [←dC]
    generalize (Y.alloc (.cells Z' 2)).alloc (.cells #[.slice (some ⟨R,0,none⟩) n n] 113)=X at *
    clear cY hS hO cP aH dK cG bO bS dC
    obtain ⟨Su,bN⟩:∃ s,s=l.sum:=⟨_,rfl⟩
    have dY:Su≤20000000000:=by
     have h9:=zfm 999999999 l HL.out
     rw [bN]
     refine Nat.le_trans h9 ?_
     have:=Nat.mul_le_mul_right 999999999 (show l.length≤19 by omega)
     omega
    obtain ⟨sh,bZ⟩:∃ s,s=Dl.shBase T Su l:=⟨_,rfl⟩
    obtain ⟨rs,cM⟩:∃ s,s=l.map (fun x=>T*x % Su):=⟨_,rfl⟩
    have bE:sh.length=n:=by rw [bZ];simp [Dl.shBase,aS]
    have bT:rs.length=n:=by rw [cM];simp [aS]
    have cU:sh.sum≤T:=by rw [bZ,bN];exact (Dl.shRest_le T l (by omega)).1
    have cI:=Lib.hid bZ
    have dJ:=Lib.hid cM
    rw [←bN] at fC
    try rw [←bN]
    have cR:=Lib.hid bN
    clear bZ cM bN
    have fD:R+1≠S:=by omega
    have dR:R+1≠O:=by omega
    have dO:R≠S:=by omega
    have cW:R≠O:=by omega
    have HA:=Lib.hid h
    clear h
    go_loopg [13,50] n (fun m s t W=>∃ k:Nat,k≤n∧t = .int .i64 k∧s = .int .i64 ((T:Int) - ((sh.take k).sum:Nat))∧n - k≤m ∧
     W.ownsRow S 3 1 (.slice (some ⟨S,0,none⟩) n n) n ((sh.take k).map natv++List.replicate (n - k) (.int .i64 0)) ∧
     W.ownsRow O 3 1 (.slice (some ⟨O,0,none⟩) n n) n (((List.range n).take k).map natv++List.replicate (n - k) (.int .i64 0)) ∧
     W.ownsRow R 2 1 (.slice (some ⟨R,0,none⟩) n n) n ((rs.take k).map natv++List.replicate (n - k) (.int .i64 0)) ∧
     CBlk W (R+1) #[.slice (some ⟨R,0,none⟩) n n] 113∧Below w.heap.size w W)
    case atStart=>exact ⟨0,Nat.zero_le _,rfl,by go_num,by omega,by simpa using cF,by simpa using cO,by simpa using hR,cN,cV⟩
    case round=>
     clear cF cO hR cN cV
     obtain ⟨k,hk,rfl,rfl,hm,hS,hO,hR,hq,aJ⟩:=hrel
     by_cases h0:k<n
     ·have bM:k<l.length:=by omega
      obtain ⟨ad,u,rfl,dZ,hu,bU⟩:=(HA.out.below aJ).at_ h0
      have dF:u = .int .i64 (l[k]:Int):=by simp [natv,bM] at hu;exact hu.symm
      subst dF
      have hx:=HL.out l[k] (List.getElem_mem bM)
      have bX:sh[k]'(by omega)=T*l[k] / Su:=by simp only [cI.out,Dl.shBase,List.getElem_map]
      have cB:rs[k]'(by omega)=T*l[k] % Su:=by simp only [dJ.out,List.getElem_map]
      have dT:=Lib.hid (zeM natv sh (.int .i64 0) n k (by omega) bE)
      have cL:=Lib.hid (zeM natv (List.range n) (.int .i64 0) n k (by simpa using h0) (by simp))
      have dQ:=Lib.hid (zeM natv rs (.int .i64 0) n k (by omega) bT)
      have cE:=ziH sh k (by omega)
      have fR:(sh.take (k+1)).sum≤T:=Nat.le_trans (zhX sh (k+1)) cU
      rw [List.getElem_range] at cL
      generalize sh[k]'(by omega)=qv at *
      generalize rs[k]'(by omega)=rv at *
      generalize l[k]=x at *
      obtain ⟨p,hp⟩:∃ p,p=T*x:=⟨_,rfl⟩
      rw [←hp] at bX cB
      have fM:p≤999999998000000001:=by rw [hp];exact Nat.mul_le_mul hT hx
      have em:(T:Int)*(x:Int)=(p:Int):=by rw [hp];simp
      have fL:qv≤p:=by rw [bX];exact Nat.div_le_self _ _
      have fQ:rv<Su:=by rw [cB];exact Nat.mod_lt _ (by omega)
      have fO:(p:Int).tdiv (Su:Int)=(qv:Int):=by rw [bX,Int.tdiv_eq_ediv_of_nonneg (by omega)];simp
      have fJ:(p:Int).tmod (Su:Int)=(rv:Int):=by rw [cB,Int.tmod_eq_emod_of_nonneg (by omega)];simp
      have fP:((Su:Int)=0)=False:=by simp;omega
      have bL:=zcV hS k (natv qv)
      have bF:=ownsRow_setCell_other hO (a:=⟨S,k,none⟩) (by simp only [Value.ownBlock];exact fun e=>bV.out (Option.some.inj e).symm) (natv qv)
      have dV:=ownsRow_setCell_other hR (a:=⟨S,k,none⟩) (by simp only [Value.ownBlock];exact fun e=>dO (Option.some.inj e)) (natv qv)
      have dD:=hq.setFar (i:=k) (Ne.symm fD) (natv qv)
      have bY:=ownsRow_setCell_other bL (a:=⟨O,k,none⟩) (by simp only [Value.ownBlock];exact fun e=>bV.out (Option.some.inj e)) (natv k)
      have dM:=zcV bF k (natv k)
      have cA:=ownsRow_setCell_other dV (a:=⟨O,k,none⟩) (by simp only [Value.ownBlock];exact fun e=>cW (Option.some.inj e)) (natv k)
      have cJ:=dD.setFar (i:=k) (Ne.symm dR) (natv k)
      have cC:=ownsRow_setCell_other bY (a:=⟨R,k,none⟩) (by simp only [Value.ownBlock];exact fun e=>dO (Option.some.inj e).symm) (natv rv)
      have dA:=ownsRow_setCell_other dM (a:=⟨R,k,none⟩) (by simp only [Value.ownBlock];exact fun e=>cW (Option.some.inj e).symm) (natv rv)
      have cT:=zcV cA k (natv rv)
      have dS:=cJ.setFar (i:=k) (show R≠R+1 by omega) (natv rv)
      have bI:=((aJ.setCell (p:=⟨S,k,none⟩) dE (natv qv)).setCell (p:=⟨O,k,none⟩) dI (natv k)).setCell (p:=⟨R,k,none⟩) bK (natv rv)
      obtain ⟨v1,ca⟩:=zds hS k h0
      have fa:=zbr hS k
      obtain ⟨v2,cb⟩:=zds bF k h0
      have fb:=zbr bF k
      obtain ⟨v3,cc⟩:=zds cA k h0
      have fc:=zbr cA k
      have cd:(((wr.setCell ⟨S,k,none⟩ (natv qv)).setCell ⟨O,k,none⟩ (natv k)).setCell ⟨R,k,none⟩ (natv rv)).cell? ⟨S,k,none⟩=some (.int .i64 (qv:Int)):=by
       rw [World.ownsRow.cellAt cC k (by omega)]
       have fK:=hS.1
       rw [List.getElem?_set_self (by omega)];rfl
      rw [dT.out] at cC
      rw [cL.out] at dA
      rw [dQ.out] at cT
      have y0:=hq.cell 0
      have y1:=dD.cell 0
      have y2:=cJ.cell 0
      have fG:=fun (W:World) (a:Addr) (m:_)=>run_store Tryz.prog W a (.int .i64 (qv:Int)) m rfl
      have fS:=fun (W:World) (a:Addr) (m:_)=>run_store Tryz.prog W a (.int .i64 (rv:Int)) m rfl
      have fU:=fun (W:World) (a:Addr) (m:_)=>run_store Tryz.prog W a (.int .i64 (k:Int)) m rfl
      unfold natv at cb fb cc fc cd y1 y2
      have W3:=Lib.hid cC
      have W4:=Lib.hid dA
      have W5:=Lib.hid cT
      have W6:=Lib.hid dS
      have W7:=Lib.hid bI
      clear hS hO hR hq aJ bL bF dV dD bY dM cA cJ cC dA cT dS bI dT cL dQ hu bX cB hp
      generalize (sh.take k).sum=sk at *
      go_wp2_with fail
      go_region
      go_wp2_with fail
      go_roundg (n - (k+1))
      case measure=>omega
      case rel=>exact ⟨k+1,by omega,by go_num,by rw [cE];go_num,Nat.le_refl _,by exact W3.out,by exact W4.out,by exact W5.out,by exact W6.out,W7.out.drew⟩
     ·obtain rfl:n=k:=by omega
      have e1:(sh.take n).map natv++List.replicate (n - n) (.int .i64 0)=sh.map natv:=zeJ natv sh (.int .i64 0) n bE
      have e2:((List.range n).take n).map natv++List.replicate (n - n) (.int .i64 0)=(List.range n).map natv:=zeJ natv (List.range n) (.int .i64 0) n (by simp)
      have e3:(rs.take n).map natv++List.replicate (n - n) (.int .i64 0)=rs.map natv:=zeJ natv rs (.int .i64 0) n bT
      rw [e1] at hS
      rw [e2] at hO
      rw [e3] at hR
      rw [List.take_of_length_le (show sh.length≤n by omega)]
      obtain ⟨aI,bH⟩:∃ r,r=T - sh.sum:=⟨_,rfl⟩
      rw [show (T:Int) - (sh.sum:Nat)=(aI:Int) by omega]
      have dP:aI≤n:=by
       have h9:=Dl.shRest_len T l (by rw [←cR.out];omega)
       unfold Dl.shRest at h9
       rw [←cR.out,←cI.out] at h9;omega
      have fE:=Lib.hid bH
      clear e1 e2 e3 bH h0 hm hk
      go_wp2_with fail
      refine (zgD O O (R+1) R n n rs (List.range n) wr hn1 hn (Ne.symm dR) (Ne.symm cW) hO hq hR (fun y hy=>by simpa using hy)).mono ?_
      rintro e w9 ⟨rfl,cH,dH,bR⟩
      have dL:=zf7 hS (bR S bV.out)
      have dW:Below w.heap.size w w9:=aJ.trans (dH.mono dI)
      have bP:Dl.sortP (Dl.byKey (fun i=>rs.getD i 0)) (List.range n)=Dl.shOrder T Su l:=by
       unfold Dl.shOrder
       rw [aS,zmE T Su l rs dJ.out]
      rw [bP] at cH
      clear hO hq hR bR hS bP dH aJ
      have fV:(Dl.shOrder T Su l).length=n:=by rw [Dl.shOrder_len];exact aS
      have dU:∀ y ∈ Dl.shOrder T Su l,y<n:=fun y hy=>by
       have:=(Dl.shOrder_perm T Su l).mem_iff.1 hy
       rw [aS] at this;simpa using this
      have dB:Hid (Dl.incAll sh ((Dl.shOrder T Su l).take aI)=Dl.shares T l):=by
       have h1:=cR.out;have h2:=cI.out;have h3:=fE.out
       unfold Dl.shares Dl.shRest
       rw [←h1,←h2,←h3];rfl
      generalize Dl.shOrder T Su l=aR at *
      have cQ:=Lib.hid dU
      clear dU
      go_wp2_with fail
      go_loopg [88] aI (fun m s W=>∃ k:Nat,k≤aI∧s = .int .i64 k∧aI - k≤m ∧
       W.ownsRow S 3 1 (.slice (some ⟨S,0,none⟩) n n) n ((Dl.incAll sh (aR.take k)).map natv)∧W.ownsRow O 3 1 (.slice (some ⟨O,0,none⟩) n n) n (aR.map natv)∧Below w.heap.size w W)
      case atStart=>exact ⟨0,Nat.zero_le _,rfl,by omega,by simpa [Dl.incAll] using dL,cH,dW⟩
      case round=>
       clear dL cH dW
       obtain ⟨k,hk,rfl,hm,hS,hO,aJ⟩:=hrel
       by_cases h0:k<aI
       ·have cZ:k<aR.length:=by omega
        have hi:=cQ.out aR[k] (List.getElem_mem cZ)
        have dN:=zlK sh aR k cZ
        have dG:=zkQ sh (aR.take k) (fun y hy=>by rw [bE];exact cQ.out y (List.mem_of_mem_take hy))
        have dX:(Dl.incAll sh (aR.take k)).length=n:=by rw [Dl.incAll_len];exact bE
        have fN:(aR.take k).length≤19:=by rw [List.length_take];omega
        have co:wr.cell? ⟨O,k,none⟩=some (.int .i64 (aR[k]:Int)):=by rw [World.ownsRow.cellAt hO k (by omega)];simp [natv,cZ]
        generalize aR[k]=i at *
        have hv:=dG i (by omega)
        generalize Dl.incAll sh (aR.take k)=L at *
        have cs:wr.cell? ⟨S,i,none⟩=some (.int .i64 ((L.getD i 0:Nat):Int)):=by rw [World.ownsRow.cellAt hS i (by omega)];simp [natv,dX,hi,List.getD]
        have fs:=zbr hS i
        have bL:=zcV hS i (natv (L.getD i 0+1))
        have bF:=ownsRow_setCell_other hO (a:=⟨S,i,none⟩) (by simp only [Value.ownBlock];exact fun e=>bV.out (Option.some.inj e).symm) (natv (L.getD i 0+1))
        have aM:=aJ.setCell (p:=⟨S,i,none⟩) dE (natv (L.getD i 0+1))
        rw [←List.map_set,dN] at bL
        have fT:L.getD i 0≤1000000100:=by omega
        have aV:((L.getD i 0+1:Nat):Int)=((L.getD i 0:Nat):Int)+1:=by simp
        have fG:=fun (W:World) (a:Addr) (m:_)=>run_store Tryz.prog W a (.int .i64 (((L.getD i 0:Nat):Int)+1)) m rfl
        unfold natv at bF aM
        have bY:Hid ((wr.setCell ⟨S,i,none⟩ (.int .i64 (((L.getD i 0:Nat):Int)+1))).ownsRow S 3 1 (.slice (some ⟨S,0,none⟩) n n) n ((Dl.incAll sh (aR.take (k+1))).map natv)):=by rw [←aV];exact bL
        rw [aV] at bF aM
        have W1:=Lib.hid bF
        have W2:=Lib.hid aM
        clear bL bF aM dN dG aV hS hO aJ hv
        generalize L.getD i 0=lv at *
        go_wp2_with fail
        go_roundg (aI - (k+1))
        case measure=>omega
        case rel=>exact ⟨k+1,by omega,by go_num,Nat.le_refl _,bY.out,W1.out,W2.out⟩
       ·obtain rfl:k=aI:=by omega
        rw [dB.out] at hS
        clear hO cQ
        go_wp2_with fail
        go_ret2
        exact ⟨S,rfl,dE,hS,aJ⟩
end Go.Proofs.YteajibbphcfmeaaGreatDoor
