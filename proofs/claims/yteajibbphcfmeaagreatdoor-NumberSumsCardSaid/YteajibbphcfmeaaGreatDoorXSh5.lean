/- Contract of package number's Shares, up to 19 weights. -/
import Derived.Test.YteajibbphcfmeaaGreatDoorXSh2
import Derived.Test.YteajibbphcfmeaaGreatDoorXCo8
import Derived.Test.YteajibbphcfmeaaGreatDoorXSp8
import Derived.Test.YteajibbphcfmeaaGreatDoorXRat8
import Derived.Test.YteajibbphcfmeaaGreatDoorXEx2
import Derived.Test.YteajibbphcfmeaaGreatDoorXRb24
import Derived.Test.YteajibbphcfmeaaGreatDoorXRat2
import Derived.Deep.RegionHeld3
namespace Go.Proofs.YteajibbphcfmeaaGreatDoor
open Go.RowKit Bn
theorem zpc (n:Nat) (hn:n≤256):∃ Z:Array Value,Z.toList=List.replicate n (.int .i64 0)∧Z.size=n ∧
  (∀ W:World,(Instr.makeSlice 45 (.int .i64 (n:Int)) (.int .i64 (n:Int))).run Tryz.prog W = .ok (.slice (some ⟨W.heap.size,0,none⟩) n n) (W.alloc (.cells Z 3))):=by
 obtain ⟨i0,aC,aA,aE,aD⟩:=info_parts zb9;refine ⟨madeCells #[.int .i64 0] n,toList_madeCells_one _ _,size_madeCells _ _,fun W => ?_⟩;have h:=run_make (P:=Tryz.prog) W 45 3 i0 (.int .i64 0) Tryz.underlying45 aC aA .i64 .i64 n n (by omega) (by omega) (by rw [aD];omega) (by omega);rw [aE,Nat.mul_one,Int.toNat_natCast] at h;exact h
theorem znh:(Tryz.prog.info? 2).map (fun i=>(i.zero,i.size,i.bytes))=some (some (.int .i64 0),1,8):=by kernel_rfl
theorem zo9 (n:Nat) (hn:n≤256):∃ Z:Array Value,Z.toList=List.replicate n (.int .i64 0)∧Z.size=n ∧
  (∀ W:World,(Instr.makeSlice 113 (.int .i64 (n:Int)) (.int .i64 (n:Int))).run Tryz.prog W = .ok (.slice (some ⟨W.heap.size,0,none⟩) n n) (W.alloc (.cells Z 2))):=by
 obtain ⟨i0,aC,aA,aE,aD⟩:=info_parts znh;refine ⟨madeCells #[.int .i64 0] n,toList_madeCells_one _ _,size_madeCells _ _,fun W => ?_⟩;have h:=run_make (P:=Tryz.prog) W 113 2 i0 (.int .i64 0) Tryz.underlying113 aC aA .i64 .i64 n n (by omega) (by omega) (by rw [aD];omega) (by omega);rw [aE,Nat.mul_one,Int.toNat_natCast] at h;exact h
theorem zgv {W:World} {b n:Nat} {Z:Array Value} {t:TypeId} (hs:Z.size=n) (hn:n≤256) (h:W.heap[b]? = some (.cells Z t (0,0))):W.ownsRow b t 1 (.slice (some ⟨b,0,none⟩) n n) n Z.toList:=by
 subst hs;refine ⟨by simp,.inr ⟨b,Z.size,Z,rfl,Nat.le_refl _,h,Nat.le_refl _,by unfold maxLen;omega,by simp,by rw [Nat.mul_one];exact List.take_of_length_le (by simp)⟩⟩
theorem zfG {x:Nat}:∀ {l:List Nat},x ∈ l→x≤l.sum
 | a :: t,h=>by
  rw [List.sum_cons]
  rcases List.mem_cons.1 h with rfl | h1
  ·omega
  ·have:=zfG h1;omega
theorem zi9 (l:List Nat) (k:Nat) (h:k<l.length):(l.take (k+1)).sum=(l.take k).sum+l[k]:=by
 rw [List.take_succ_eq_append_getElem h,List.sum_append];simp
theorem zit (l:List Nat) (k:Nat):(l.take k).sum≤l.sum:=by
 have h:(l.take k++l.drop k).sum=l.sum:=by rw [List.take_append_drop]
 rw [List.sum_append] at h;omega
theorem zfh (M:Nat):∀ l:List Nat,(∀ x ∈ l,x≤M)→l.sum≤l.length*M
 | [],_=>by simp
 | a :: t,h=>by
  have h1:=h a (by simp);have h2:=zfh M t (fun x hx=>h x (by simp [hx]));rw [List.sum_cons,List.length_cons,Nat.add_mul];omega
theorem zme (T S:Nat) (l rs:List Nat) (h:rs=l.map (fun x=>T*x % S)):(fun i=>rs.getD i 0)=Dl.shRem T S l:=by
 subst h
 funext i
 unfold Dl.shRem
 by_cases hi:i<l.length
 ·simp [List.getD,hi]
 ·simp [List.getD,hi]
theorem zmf (sh ord:List Nat) (k:Nat) (h:k<ord.length):(Dl.incAll sh (ord.take k)).set ord[k] ((Dl.incAll sh (ord.take k)).getD ord[k] 0+1)=Dl.incAll sh (ord.take (k+1)):=by
 unfold Dl.incAll;rw [List.take_succ_eq_append_getElem h,List.foldl_append];rfl
theorem zic (l:List Nat) (i:Nat):l.getD i 0≤l.sum:=by
 by_cases hi:i<l.length
 ·have:l.getD i 0=l[i]:=by simp [List.getD,hi]
  rw [this];exact zfG (List.getElem_mem hi)
 ·have:l.getD i 0=0:=by simp [List.getD,hi]
  omega
theorem zlw (sh p:List Nat) (h:∀ y ∈ p,y<sh.length) (i:Nat) (hi:i<sh.length):(Dl.incAll sh p).getD i 0≤sh.sum+p.length:=by
 have:=zic (Dl.incAll sh p) i;rw [Dl.incAll_sum p sh h] at this;exact this
set_option maxHeartbeats 4000000 in
set_option maxRecDepth 100000 in
theorem zkM (T:Nat) (A:Option Addr) (n c:Nat) (l:List Nat) (w:World) (hT:T≤999999999) (h:zav w w.heap.size 1 A n (l.map natv)) (hl:∀ x ∈ l,x≤999999999) (hn1:1≤n) (hn:n≤19) (hz:zgk l=false) :
  Calls Tryz.prog 33 #[.int .i64 (T:Int),.slice A n c] w fun e w'=>
   ∃ b,e = .returned (.tuple #[.slice (some ⟨b,0,none⟩) n n,.int .i64 0])∧w.heap.size≤b∧w'.ownsRow b 3 1 (.slice (some ⟨b,0,none⟩) n n) n ((Dl.shares T l).map natv)∧Below w.heap.size w w':=by
 have aU:l.length=n:=by have:=h.1;rw [List.length_map] at this;omega
 have r1:=Lib.hid (fun W=>zcX (T:Int) 0 999999999 W (by omega) (by omega));have r2:=Lib.hid (zfa A n c l w h hl hn1 (by omega) hz);have HL:=Lib.hid hl;obtain ⟨Z,dH,cN,dZ⟩:=zpc n (by omega);obtain ⟨Z',bT,bR,cE⟩:=zo9 n (by omega);have fG:l.sum≠0:=fun e=>by
  have:zgk l=true:=by
   unfold zgk;rw [List.all_eq_true];intro x hx;have:=zfG hx;simp;omega
  rw [this] at hz;cases hz
 clear hl hz;go_enter Tryz.func33,Tryz.ntmps33
 go_wp2_with fail
 refine (r1.out w).mono ?_;rintro e w1 ⟨rfl,rfl⟩
 go_wp2_with fail
 refine r2.out.mono ?_;rintro e w1 ⟨rfl,cM⟩
 go_wp2_with fail
 refine (zck 0 0 w1 _ _ rfl).mono ?_;rintro e w2 ⟨rfl,rfl⟩;have aF:Below w.heap.size w (w1.alloc (.cells #[.int .i64 0,.int .i64 0] 26)):=cM.alloc cM.size _;generalize w1.alloc (.cells #[.int .i64 0,.int .i64 0] 26)=w2 at *;clear r1 r2
 go_wp2_with fail
 have h2:=h.below aF
 go_loopg [7,30] n (fun m s t W=>∃ k:Nat,k≤n∧t = .int .i64 k∧s = .int .i64 ((l.take k).sum:Nat)∧n - k≤m∧W=w2)
 case atStart=>exact ⟨0,Nat.zero_le _,rfl,rfl,by omega,rfl⟩
 case round=>
  obtain ⟨k,hk,rfl,rfl,hm,rfl⟩:=hrel
  by_cases h0:k<n
  ·have bL:k<l.length:=by omega
   obtain ⟨ad,u,rfl,fI,hu,bS⟩:=h2.at_ h0;have dD:u = .int .i64 (l[k]:Int):=by simp [natv,bL] at hu;exact hu.symm
   subst dD;have hx:=HL.out l[k] (List.getElem_mem bL);have cW:=zi9 l k bL;have cL:=zfh 999999999 (l.take k) (fun x hx=>HL.out x (List.mem_of_mem_take hx));rw [List.length_take] at cL;have dY:(l.take k).sum≤20000000000:=by
    refine Nat.le_trans cL ?_;have:min k l.length≤19:=by omega
    have:=Nat.mul_le_mul_right 999999999 this;omega
   clear cL hu;generalize (l.take k).sum=s0 at *;generalize l[k]=x at *
   go_wp2_with fail
   go_roundg (n - (k+1))
   case measure=>omega
   case rel=>exact ⟨k+1,by omega,by go_num,by rw [cW];go_num,Nat.le_refl _,rfl⟩
  ·obtain rfl:n=k:=by omega
   rw [List.take_of_length_le (by omega)];clear h0 hm hk;go_upto_region 10 with (fail)
   obtain ⟨cB,bE⟩:∃ g,g=wr.heap.size:=⟨_,rfl⟩;have bJ:w.heap.size≤cB:=by rw [bE];exact aF.size
   obtain ⟨bQ,aX⟩:∃ I:Array Bool→Act→World→Prop,I=(fun aK ac W=>∃ (b0 b1 b2 b3 b4 b5 b6 b7:Bool) (bD bB bA aY bC aZ aT aS:Value) (aC:Nat) (aA:Nat),aK=#[b0,b1,b2,b3,b4,b5,b6,b7]∧ac={ tmps:=#[.int .i64 (T:Int),.slice A n c,undef,undef,.slice none 0 0,.int .i64 0,.int .i64 0,.int .i64 (l.sum:Nat),undef,u9,aT,aS,undef,undef,undef,undef,undef,undef,undef,.int .i64 (T:Int),.int .i64 0,.slice A n c,.int .i64 0,.slice (some ⟨w1.heap.size,0,none⟩) 2 2,.int .i64 0,.int .i64 0,.bool false,undef,.slice A n c,.int .i64 (n:Int),.int .i64 (n:Int),.bool false,u32,u33,u34,u35,u36,u37,bD,bB,bA,aY,bC,aZ,undef,undef,undef,undef,undef,undef,undef,undef,undef,undef,undef,undef,undef,undef,undef,undef,undef,undef,undef,undef,undef,undef,undef,undef,undef,undef,undef,undef,undef,undef,undef,undef,undef,undef,undef,undef,undef,undef,undef,undef,undef,undef,undef,undef,undef,undef,undef,undef,undef,undef,undef,undef,undef,undef,undef,undef],defers:=[] }∧cB≤W.heap.size∧Below w.heap.size w W∧(b0=true→bD = .slice A n c)∧(b1=true→bB = .int .i64 (n:Int))∧(b2=true→bA = .slice (some ⟨aC,0,none⟩) n n∧cB≤aC∧aC<W.heap.size∧CBlk W aC Z 3)∧(b3=true→aY = .slice A n c)∧(b4=true→bC = .int .i64 (n:Int))∧(b5=true→aZ = .slice (some ⟨aA,0,none⟩) n n∧cB≤aA∧aA<W.heap.size∧CBlk W aA Z 3)∧(b6=true→b2=true∧aT = .slice (some ⟨aC,0,none⟩) n n)∧(b7=true→b5=true∧aS = .slice (some ⟨aA,0,none⟩) n n)∧(b2=true→b5=true→aC≠aA)):=⟨_,rfl⟩;have aD:=Lib.hid aX;clear aX;refine zby (by kernel_rfl) bQ (by kernel_rfl) ?_ ?_ ?_
   ·rw [aD.out]
    exact ⟨false,false,false,false,false,false,false,false,undef,undef,undef,undef,undef,undef,undef,undef,0,0,rfl,rfl,(by rw [bE];exact Nat.le_refl _),aF.drew,(fun h=>by cases h),(fun h=>by cases h),(fun h=>by cases h),(fun h=>by cases h),(fun h=>by cases h),(fun h=>by cases h),(fun h=>by cases h),(fun h=>by cases h),(fun h=>by cases h)⟩
   ·intro i op aK ac W ho hI hl aE
    rw [aD.out] at hI;obtain ⟨b0,b1,b2,b3,b4,b5,b6,b7,bD,bB,bA,aY,bC,aZ,aT,aS,aC,aA,rfl,rfl,aQ,aF,f0,f1,f2,f3,f4,f5,f6,f7,aI⟩:=hI;clear bE
    match i,ho,hl,aE with
    | 0,ho,hl,aE=>
     have aW:b0=false:=Option.some.inj hl;obtain rfl:=Option.some.inj ho;refine zap ho fun K' hK => ?_
     go_simp
     refine hK.out _ _ ?_;rw [aD.out];exact ⟨true,b1,b2,b3,b4,b5,b6,b7,(.slice A n c),bB,bA,aY,bC,aZ,aT,aS,aC,aA,rfl,rfl,aQ,aF,(fun _=>rfl),f1,f2,f3,f4,f5,f6,f7,aI⟩
    | 1,ho,hl,aE=>
     have aW:b1=false:=Option.some.inj hl;obtain rfl:=Option.some.inj ho;have e0:b0=true:=aE ⟨0,.data⟩ (by simp) rfl;obtain rfl:=f0 e0;refine zap ho fun K' hK => ?_
     go_simp
     refine hK.out _ _ ?_;rw [aD.out];exact ⟨b0,true,b2,b3,b4,b5,b6,b7,(.slice A n c),(.int .i64 (n:Int)),bA,aY,bC,aZ,aT,aS,aC,aA,rfl,rfl,aQ,aF,f0,(fun _=>rfl),f2,f3,f4,f5,f6,f7,aI⟩
    | 2,ho,hl,aE=>
     have aW:b2=false:=Option.some.inj hl;obtain rfl:=Option.some.inj ho;have e1:b1=true:=aE ⟨1,.data⟩ (by simp) rfl;obtain rfl:=f1 e1;refine zap ho fun K' hK => ?_
     have hb:Below W.heap.size W (W.alloc (.cells Z 3)):=(Below.refl _ _).alloc (Nat.le_refl _) _
     go_simp
     refine hK.out _ _ ?_;rw [aD.out];exact ⟨b0,b1,true,b3,b4,b5,b6,b7,bD,(.int .i64 (n:Int)),(.slice (some ⟨W.heap.size,0,none⟩) n n),aY,bC,aZ,aT,aS,W.heap.size,aA,rfl,rfl,(Nat.le_trans aQ hb.size),(aF.trans (hb.mono aF.size)),f0,f1,(fun _=>⟨rfl,aQ,by simp,CBlk.new W _ _ _ rfl⟩),f3,f4,(fun h=>⟨(f5 h).1,(f5 h).2.1,Nat.lt_of_lt_of_le (f5 h).2.2.1 hb.size,(f5 h).2.2.2.below hb (f5 h).2.2.1⟩),(fun h=>by rw [(f6 h).1] at aW;cases aW),f7,(fun _ h=>Nat.ne_of_gt (f5 h).2.2.1)⟩
    | 3,ho,hl,aE=>
     have aW:b3=false:=Option.some.inj hl;obtain rfl:=Option.some.inj ho;refine zap ho fun K' hK => ?_
     go_simp
     refine hK.out _ _ ?_;rw [aD.out];exact ⟨b0,b1,b2,true,b4,b5,b6,b7,bD,bB,bA,(.slice A n c),bC,aZ,aT,aS,aC,aA,rfl,rfl,aQ,aF,f0,f1,f2,(fun _=>rfl),f4,f5,f6,f7,aI⟩
    | 4,ho,hl,aE=>
     have aW:b4=false:=Option.some.inj hl;obtain rfl:=Option.some.inj ho;have e3:b3=true:=aE ⟨3,.data⟩ (by simp) rfl;obtain rfl:=f3 e3;refine zap ho fun K' hK => ?_
     go_simp
     refine hK.out _ _ ?_;rw [aD.out];exact ⟨b0,b1,b2,b3,true,b5,b6,b7,bD,bB,bA,(.slice A n c),(.int .i64 (n:Int)),aZ,aT,aS,aC,aA,rfl,rfl,aQ,aF,f0,f1,f2,f3,(fun _=>rfl),f5,f6,f7,aI⟩
    | 5,ho,hl,aE=>
     have aW:b5=false:=Option.some.inj hl;obtain rfl:=Option.some.inj ho;have e4:b4=true:=aE ⟨4,.data⟩ (by simp) rfl;obtain rfl:=f4 e4;refine zap ho fun K' hK => ?_
     have hb:Below W.heap.size W (W.alloc (.cells Z 3)):=(Below.refl _ _).alloc (Nat.le_refl _) _
     go_simp
     refine hK.out _ _ ?_;rw [aD.out];exact ⟨b0,b1,b2,b3,b4,true,b6,b7,bD,bB,bA,aY,(.int .i64 (n:Int)),(.slice (some ⟨W.heap.size,0,none⟩) n n),aT,aS,aC,W.heap.size,rfl,rfl,(Nat.le_trans aQ hb.size),(aF.trans (hb.mono aF.size)),f0,f1,(fun h=>⟨(f2 h).1,(f2 h).2.1,Nat.lt_of_lt_of_le (f2 h).2.2.1 hb.size,(f2 h).2.2.2.below hb (f2 h).2.2.1⟩),f3,f4,(fun _=>⟨rfl,aQ,by simp,CBlk.new W _ _ _ rfl⟩),f6,(fun h=>by rw [(f7 h).1] at aW;cases aW),(fun h _=>Nat.ne_of_lt (f2 h).2.2.1)⟩
    | 6,ho,hl,aE=>
     have aW:b6=false:=Option.some.inj hl;obtain rfl:=Option.some.inj ho;have e2:b2=true:=aE ⟨2,.data⟩ (by simp) rfl;obtain ⟨rfl,fA,fD,fH⟩:=f2 e2;refine zap ho fun K' hK => ?_
     go_simp
     refine hK.out _ _ ?_;rw [aD.out];exact ⟨b0,b1,b2,b3,b4,b5,true,b7,bD,bB,(.slice (some ⟨aC,0,none⟩) n n),aY,bC,aZ,(.slice (some ⟨aC,0,none⟩) n n),aS,aC,aA,rfl,rfl,aQ,aF,f0,f1,f2,f3,f4,f5,(fun _=>⟨e2,rfl⟩),f7,aI⟩
    | 7,ho,hl,aE=>
     have aW:b7=false:=Option.some.inj hl;obtain rfl:=Option.some.inj ho;have e5:b5=true:=aE ⟨5,.data⟩ (by simp) rfl;obtain ⟨rfl,fA,fD,fH⟩:=f5 e5;refine zap ho fun K' hK => ?_
     go_simp
     refine hK.out _ _ ?_;rw [aD.out];exact ⟨b0,b1,b2,b3,b4,b5,b6,true,bD,bB,bA,aY,bC,(.slice (some ⟨aA,0,none⟩) n n),aT,(.slice (some ⟨aA,0,none⟩) n n),aC,aA,rfl,rfl,aQ,aF,f0,f1,f2,f3,f4,f5,f6,(fun _=>⟨e5,rfl⟩),aI⟩
    | n+8,ho,hl,aE=>exact absurd ho (by simp)
   ·intro aK ac Y hI aJ
    rw [aD.out] at hI;clear aF;obtain ⟨b0,b1,b2,b3,b4,b5,b6,b7,bD,bB,bA,aY,bC,aZ,aT,aS,aC,aA,rfl,rfl,aQ,aF,f0,f1,f2,f3,f4,f5,f6,f7,aI⟩:=hI;have e0:b0=true:=aJ 0 b0 (by decide) rfl;have e1:b1=true:=aJ 1 b1 (by decide) rfl;have e2:b2=true:=aJ 2 b2 (by decide) rfl;have e3:b3=true:=aJ 3 b3 (by decide) rfl;have e4:b4=true:=aJ 4 b4 (by decide) rfl;have e5:b5=true:=aJ 5 b5 (by decide) rfl;have e6:b6=true:=aJ 6 b6 (by decide) rfl;have e7:b7=true:=aJ 7 b7 (by decide) rfl;subst e0;subst e1;subst e2;subst e3;subst e4;subst e5;subst e6;subst e7;obtain rfl:=f0 rfl;obtain rfl:=f1 rfl;obtain ⟨rfl,aP,aL,qs⟩:=f2 rfl;obtain rfl:=f3 rfl;obtain rfl:=f4 rfl;obtain ⟨rfl,aN,aO,qo⟩:=f5 rfl;obtain ⟨_,rfl⟩:=f6 rfl;obtain ⟨_,rfl⟩:=f7 rfl;clear f0 f1 f2 f3 f4 f5 f6 f7 aJ aD;have bK:w.heap.size≤Y.heap.size:=aF.size;have hS:=zgv cN (by omega) qs;have hO:=zgv cN (by omega) qo;rw [dH] at hS hO;have bX:=Lib.hid (aI rfl rfl);have cP:w.heap.size≤aC:=Nat.le_trans bJ aP;have dR:w.heap.size≤aA:=Nat.le_trans bJ aN;clear aI dZ aP aN bJ aQ qs qo h2 cM bE;generalize aC=S at *;generalize aA=O at *
    go_wp2_with fail
    have cT:Below w.heap.size w ((Y.alloc (.cells Z' 2)).alloc (.cells #[.slice (some ⟨Y.heap.size,0,none⟩) n n] 113)):=(aF.alloc bK _).alloc (by simp;omega) _;have dE:=zgt (w':=(Y.alloc (.cells Z' 2)).alloc (.cells #[.slice (some ⟨Y.heap.size,0,none⟩) n n] 113)) hS (((Below.refl Y.heap.size Y).alloc (Nat.le_refl _) _).alloc (by simp) _ |>.block S aL)
    have cU:=zgt (w':=(Y.alloc (.cells Z' 2)).alloc (.cells #[.slice (some ⟨Y.heap.size,0,none⟩) n n] 113)) hO (((Below.refl Y.heap.size Y).alloc (Nat.le_refl _) _).alloc (by simp) _ |>.block O aO)
    have cY:CBlk ((Y.alloc (.cells Z' 2)).alloc (.cells #[.slice (some ⟨Y.heap.size,0,none⟩) n n] 113)) (Y.heap.size+1) #[.slice (some ⟨Y.heap.size,0,none⟩) n n] 113:=CBlk.new _ _ _ _ (by simp);have cF:CBlk ((Y.alloc (.cells Z' 2)).alloc (.cells #[.slice (some ⟨Y.heap.size,0,none⟩) n n] 113)) Y.heap.size Z' 2:=(CBlk.new Y _ _ _ rfl).alloc _;have hR:=zgv bR (by omega) cF;rw [bT] at hR;obtain ⟨R,dA⟩:∃ b,b=Y.heap.size:=⟨_,rfl⟩;rw [←dA] at hR cY cF dE cU cT aL aO bK
    try rw [←dA]
    generalize (Y.alloc (.cells Z' 2)).alloc (.cells #[.slice (some ⟨R,0,none⟩) n n] 113)=X at *;clear cF hS hO cE aF dH cN bT bR dA;obtain ⟨Su,bN⟩:∃ s,s=l.sum:=⟨_,rfl⟩;have fB:Su≤20000000000:=by
     have h9:=zfh 999999999 l HL.out;rw [bN];refine Nat.le_trans h9 ?_;have:=Nat.mul_le_mul_right 999999999 (show l.length≤19 by omega);omega
    obtain ⟨sh,cC⟩:∃ s,s=Dl.shBase T Su l:=⟨_,rfl⟩;obtain ⟨rs,cS⟩:∃ s,s=l.map (fun x=>T*x % Su):=⟨_,rfl⟩;have bF:sh.length=n:=by rw [cC];simp [Dl.shBase,aU]
    have bO:rs.length=n:=by rw [cS];simp [aU]
    have cG:sh.sum≤T:=by rw [cC,bN];exact (Dl.shRest_le T l (by omega)).1
    have cK:=Lib.hid cC;have dW:=Lib.hid cS;rw [←bN] at fG
    try rw [←bN]
    have cQ:=Lib.hid bN;clear cC cS bN;have fF:R+1≠S:=by omega
    have dJ:R+1≠O:=by omega
    have dG:R≠S:=by omega
    have cJ:R≠O:=by omega
    have HA:=Lib.hid h;clear h
    go_loopg [13,50] n (fun m s t W=>∃ k:Nat,k≤n∧t = .int .i64 k∧s = .int .i64 ((T:Int) - ((sh.take k).sum:Nat))∧n - k≤m ∧
     W.ownsRow S 3 1 (.slice (some ⟨S,0,none⟩) n n) n ((sh.take k).map natv++List.replicate (n - k) (.int .i64 0)) ∧
     W.ownsRow O 3 1 (.slice (some ⟨O,0,none⟩) n n) n (((List.range n).take k).map natv++List.replicate (n - k) (.int .i64 0)) ∧
     W.ownsRow R 2 1 (.slice (some ⟨R,0,none⟩) n n) n ((rs.take k).map natv++List.replicate (n - k) (.int .i64 0)) ∧
     CBlk W (R+1) #[.slice (some ⟨R,0,none⟩) n n] 113∧Below w.heap.size w W)
    case atStart=>exact ⟨0,Nat.zero_le _,rfl,by go_num,by omega,by simpa using dE,by simpa using cU,by simpa using hR,cY,cT⟩
    case round=>
     clear dE cU hR cY cT;obtain ⟨k,hk,rfl,rfl,hm,hS,hO,hR,hq,aH⟩:=hrel
     by_cases h0:k<n
     ·have bL:k<l.length:=by omega
      obtain ⟨ad,u,rfl,fI,hu,bS⟩:=(HA.out.below aH).at_ h0;have dD:u = .int .i64 (l[k]:Int):=by simp [natv,bL] at hu;exact hu.symm
      subst dD;have hx:=HL.out l[k] (List.getElem_mem bL);have cA:sh[k]'(by omega)=T*l[k] / Su:=by simp only [cK.out,Dl.shBase,List.getElem_map]
      have bZ:rs[k]'(by omega)=T*l[k] % Su:=by simp only [dW.out,List.getElem_map]
      have dL:=Lib.hid (zeX natv sh (.int .i64 0) n k (by omega) bF);have cO:=Lib.hid (zeX natv (List.range n) (.int .i64 0) n k (by simpa using h0) (by simp));have dP:=Lib.hid (zeX natv rs (.int .i64 0) n k (by omega) bO);have cW:=zi9 sh k (by omega);have fN:(sh.take (k+1)).sum≤T:=Nat.le_trans (zit sh (k+1)) cG;rw [List.getElem_range] at cO;generalize sh[k]'(by omega)=qv at *;generalize rs[k]'(by omega)=rv at *;generalize l[k]=x at *;obtain ⟨p,hp⟩:∃ p,p=T*x:=⟨_,rfl⟩;rw [←hp] at cA bZ;have fM:p≤999999998000000001:=by rw [hp];exact Nat.mul_le_mul hT hx
      have em:(T:Int)*(x:Int)=(p:Int):=by rw [hp];simp
      have fV:qv≤p:=by rw [cA];exact Nat.div_le_self _ _
      have fR:rv<Su:=by rw [bZ];exact Nat.mod_lt _ (by omega)
      have fO:(p:Int).tdiv (Su:Int)=(qv:Int):=by rw [cA,Int.tdiv_eq_ediv_of_nonneg (by omega)];simp
      have fJ:(p:Int).tmod (Su:Int)=(rv:Int):=by rw [bZ,Int.tmod_eq_emod_of_nonneg (by omega)];simp
      have fP:((Su:Int)=0)=False:=by simp;omega
      have bM:=zdd hS k (natv qv);have bG:=ownsRow_setCell_other hO (a:=⟨S,k,none⟩) (by simp only [Value.ownBlock];exact fun e=>bX.out (Option.some.inj e).symm) (natv qv);have dV:=ownsRow_setCell_other hR (a:=⟨S,k,none⟩) (by simp only [Value.ownBlock];exact fun e=>dG (Option.some.inj e)) (natv qv);have cZ:=hq.setFar (i:=k) (Ne.symm fF) (natv qv);have bW:=ownsRow_setCell_other bM (a:=⟨O,k,none⟩) (by simp only [Value.ownBlock];exact fun e=>bX.out (Option.some.inj e)) (natv k);have dI:=zdd bG k (natv k);have bV:=ownsRow_setCell_other dV (a:=⟨O,k,none⟩) (by simp only [Value.ownBlock];exact fun e=>cJ (Option.some.inj e)) (natv k);have cI:=cZ.setFar (i:=k) (Ne.symm dJ) (natv k);have bY:=ownsRow_setCell_other bW (a:=⟨R,k,none⟩) (by simp only [Value.ownBlock];exact fun e=>dG (Option.some.inj e).symm) (natv rv);have cR:=ownsRow_setCell_other dI (a:=⟨R,k,none⟩) (by simp only [Value.ownBlock];exact fun e=>cJ (Option.some.inj e).symm) (natv rv);have dB:=zdd bV k (natv rv);have dT:=cI.setFar (i:=k) (show R≠R+1 by omega) (natv rv);have bI:=((aH.setCell (p:=⟨S,k,none⟩) cP (natv qv)).setCell (p:=⟨O,k,none⟩) dR (natv k)).setCell (p:=⟨R,k,none⟩) bK (natv rv);obtain ⟨v1,ca⟩:=zdH hS k h0;have fa:=zbx hS k;obtain ⟨v2,cb⟩:=zdH bG k h0;have fb:=zbx bG k;obtain ⟨v3,cc⟩:=zdH bV k h0;have fc:=zbx bV k;have cd:(((wr.setCell ⟨S,k,none⟩ (natv qv)).setCell ⟨O,k,none⟩ (natv k)).setCell ⟨R,k,none⟩ (natv rv)).cell? ⟨S,k,none⟩=some (.int .i64 (qv:Int)):=by
       rw [World.ownsRow.cellAt bY k (by omega)];have fQ:=hS.1;rw [List.getElem?_set_self (by omega)];rfl
      rw [dL.out] at bY;rw [cO.out] at cR;rw [dP.out] at dB;have y0:=hq.cell 0;have y1:=cZ.cell 0;have y2:=cI.cell 0;have fC:=fun (W:World) (a:Addr) (m:_)=>run_store Tryz.prog W a (.int .i64 (qv:Int)) m rfl
      have fS:=fun (W:World) (a:Addr) (m:_)=>run_store Tryz.prog W a (.int .i64 (rv:Int)) m rfl
      have fL:=fun (W:World) (a:Addr) (m:_)=>run_store Tryz.prog W a (.int .i64 (k:Int)) m rfl
      unfold natv at cb fb cc fc cd y1 y2;have W3:=Lib.hid bY;have W4:=Lib.hid cR;have W5:=Lib.hid dB;have W6:=Lib.hid dT;have W7:=Lib.hid bI;clear hS hO hR hq aH bM bG dV cZ bW dI bV cI bY cR dB dT bI dL cO dP hu cA bZ hp;generalize (sh.take k).sum=sk at *
      go_wp2_with fail
      go_region
      go_wp2_with fail
      go_roundg (n - (k+1))
      case measure=>omega
      case rel=>exact ⟨k+1,by omega,by go_num,by rw [cW];go_num,Nat.le_refl _,by exact W3.out,by exact W4.out,by exact W5.out,by exact W6.out,W7.out.drew⟩
     ·obtain rfl:n=k:=by omega
      have e1:(sh.take n).map natv++List.replicate (n - n) (.int .i64 0)=sh.map natv:=zeV natv sh (.int .i64 0) n bF;have e2:((List.range n).take n).map natv++List.replicate (n - n) (.int .i64 0)=(List.range n).map natv:=zeV natv (List.range n) (.int .i64 0) n (by simp);have e3:(rs.take n).map natv++List.replicate (n - n) (.int .i64 0)=rs.map natv:=zeV natv rs (.int .i64 0) n bO;rw [e1] at hS;rw [e2] at hO;rw [e3] at hR;rw [List.take_of_length_le (show sh.length≤n by omega)];obtain ⟨aG,bH⟩:∃ r,r=T - sh.sum:=⟨_,rfl⟩;rw [show (T:Int) - (sh.sum:Nat)=(aG:Int) by omega];have dQ:aG≤n:=by
       have h9:=Dl.shRest_len T l (by rw [←cQ.out];omega);unfold Dl.shRest at h9;rw [←cQ.out,←cK.out] at h9;omega
      have dX:=Lib.hid bH;clear e1 e2 e3 bH h0 hm hk
      go_wp2_with fail
      refine (zgD O O (R+1) R n n rs (List.range n) wr hn1 hn (Ne.symm dJ) (Ne.symm cJ) hO hq hR (fun y hy=>by simpa using hy)).mono ?_;rintro e w9 ⟨rfl,cV,dU,bP⟩;have dO:=zgt hS (bP S bX.out);have dM:Below w.heap.size w w9:=aH.trans (dU.mono dR);have bU:Dl.sortP (Dl.byKey (fun i=>rs.getD i 0)) (List.range n)=Dl.shOrder T Su l:=by
       unfold Dl.shOrder;rw [aU,zme T Su l rs dW.out]
      rw [bU] at cV;clear hO hq hR bP hS bU dU aH;have fK:(Dl.shOrder T Su l).length=n:=by rw [Dl.shOrder_len];exact aU
      have dK:∀ y ∈ Dl.shOrder T Su l,y<n:=fun y hy=>by
       have:=(Dl.shOrder_perm T Su l).mem_iff.1 hy;rw [aU] at this;simpa using this
      have dC:Hid (Dl.incAll sh ((Dl.shOrder T Su l).take aG)=Dl.shares T l):=by
       have h1:=cQ.out;have h2:=cK.out;have h3:=dX.out
       unfold Dl.shares Dl.shRest;rw [←h1,←h2,←h3];rfl
      generalize Dl.shOrder T Su l=aR at *;have dF:=Lib.hid dK;clear dK
      go_wp2_with fail
      go_loopg [88] aG (fun m s W=>∃ k:Nat,k≤aG∧s = .int .i64 k∧aG - k≤m ∧
       W.ownsRow S 3 1 (.slice (some ⟨S,0,none⟩) n n) n ((Dl.incAll sh (aR.take k)).map natv)∧W.ownsRow O 3 1 (.slice (some ⟨O,0,none⟩) n n) n (aR.map natv)∧Below w.heap.size w W)
      case atStart=>exact ⟨0,Nat.zero_le _,rfl,by omega,by simpa [Dl.incAll] using dO,cV,dM⟩
      case round=>
       clear dO cV dM;obtain ⟨k,hk,rfl,hm,hS,hO,aH⟩:=hrel
       by_cases h0:k<aG
       ·have cH:k<aR.length:=by omega
        have hi:=dF.out aR[k] (List.getElem_mem cH);have dN:=zmf sh aR k cH;have dS:=zlw sh (aR.take k) (fun y hy=>by rw [bF];exact dF.out y (List.mem_of_mem_take hy));have fE:(Dl.incAll sh (aR.take k)).length=n:=by rw [Dl.incAll_len];exact bF
        have fT:(aR.take k).length≤19:=by rw [List.length_take];omega
        have co:wr.cell? ⟨O,k,none⟩=some (.int .i64 (aR[k]:Int)):=by rw [World.ownsRow.cellAt hO k (by omega)];simp [natv,cH]
        generalize aR[k]=i at *;have hv:=dS i (by omega);generalize Dl.incAll sh (aR.take k)=L at *;have cs:wr.cell? ⟨S,i,none⟩=some (.int .i64 ((L.getD i 0:Nat):Int)):=by rw [World.ownsRow.cellAt hS i (by omega)];simp [natv,fE,hi,List.getD]
        have fs:=zbx hS i;have bM:=zdd hS i (natv (L.getD i 0+1));have bG:=ownsRow_setCell_other hO (a:=⟨S,i,none⟩) (by simp only [Value.ownBlock];exact fun e=>bX.out (Option.some.inj e).symm) (natv (L.getD i 0+1));have aM:=aH.setCell (p:=⟨S,i,none⟩) cP (natv (L.getD i 0+1));rw [←List.map_set,dN] at bM;have fU:L.getD i 0≤1000000100:=by omega
        have aV:((L.getD i 0+1:Nat):Int)=((L.getD i 0:Nat):Int)+1:=by simp
        have fC:=fun (W:World) (a:Addr) (m:_)=>run_store Tryz.prog W a (.int .i64 (((L.getD i 0:Nat):Int)+1)) m rfl
        unfold natv at bG aM;have bW:Hid ((wr.setCell ⟨S,i,none⟩ (.int .i64 (((L.getD i 0:Nat):Int)+1))).ownsRow S 3 1 (.slice (some ⟨S,0,none⟩) n n) n ((Dl.incAll sh (aR.take (k+1))).map natv)):=by rw [←aV];exact bM
        rw [aV] at bG aM;have W1:=Lib.hid bG;have W2:=Lib.hid aM;clear bM bG aM dN dS aV hS hO aH hv;generalize L.getD i 0=lv at *
        go_wp2_with fail
        go_roundg (aG - (k+1))
        case measure=>omega
        case rel=>exact ⟨k+1,by omega,by go_num,Nat.le_refl _,bW.out,W1.out,W2.out⟩
       ·obtain rfl:k=aG:=by omega
        rw [dC.out] at hS;clear hO dF
        go_wp2_with fail
        go_ret2
        exact ⟨S,rfl,cP,hS,aH⟩
theorem zc1 {w:World} {l:List UInt8} {x:Int} {f:FuncId} {args:Array Value} (a:Array UInt8) (h:Calls Tryz.prog f args w (zaR w l x)) (e:l=a.toList) :
  Calls Tryz.prog f args w fun e w'=>e = .returned (.tuple #[.string ⟨a⟩,.int .i64 x])∧Below w.heap.size w w':=
 h.mono fun _ _ ⟨s,he,hs,hb⟩=>⟨by
  rw [he];obtain ⟨d⟩:=s;have:d=a:=by apply Array.ext';rw [←e];exact hs
  rw [this],hb⟩
theorem zeD {w:World} {l m:List UInt8} {x:Int} {f:FuncId} {args:Array Value} (a b:Array UInt8) (h:Calls Tryz.prog f args w (zdj w l m x)) (e1:l=a.toList) (e2:m=b.toList) :
  Calls Tryz.prog f args w fun e w'=>e = .returned (.tuple #[.agg #[.string ⟨a⟩,.string ⟨b⟩],.int .i64 x])∧Below w.heap.size w w':=
 h.mono fun _ _ ⟨s,t,he,hs,ht,hb⟩=>⟨by
  rw [he];obtain ⟨d⟩:=s;obtain ⟨d2⟩:=t;have h1:d=a:=by apply Array.ext';rw [←e1];exact hs
  have h2:d2=b:=by apply Array.ext';rw [←e2];exact ht
  rw [h1,h2],hb⟩
theorem zoZ (w:World) (hT:Tabs w):Calls Tryz.prog 25 #[.int .i64 15,.int .i64 (-6)] w fun e w'=>e = .returned (.tuple #[.string ⟨#[45,53,47,50]⟩,.int .i64 0])∧Below w.heap.size w w':=by
 have h:=zo0 15 (-6) w hT (by omega) (by omega);rw [show zao (lowQ (decide ((15:Int)<0) != decide ((-6:Int)<0)) ((15:Int).natAbs*1) (1*(-6:Int).natAbs))=0 from by kernel_rfl] at h;exact zc1 #[45,53,47,50] h (by kernel_rfl)
theorem zll (w:World) (hT:Tabs w):Calls Tryz.prog 26 #[.string ⟨#[45,53,47,50]⟩] w fun e w'=>e = .returned (.tuple #[.string ⟨#[45,51]⟩,.int .i64 0])∧Below w.heap.size w w':=by
 have h:=znm ⟨#[45,53,47,50]⟩ w hT (by decide) (by kernel_rfl);rw [show zao (za7 (zab ((⟨#[45,53,47,50]⟩:ByteArray).data.toList)))=0 from by kernel_rfl] at h;exact zc1 #[45,51] h (by kernel_rfl)
theorem zlO (w:World) (hT:Tabs w):Calls Tryz.prog 51 #[.agg #[.string ⟨#[45,49]⟩,.string ⟨#[50]⟩],.agg #[.string ⟨#[45,51]⟩,.string ⟨#[52]⟩]] w fun e w'=>e = .returned (.tuple #[.agg #[.string ⟨#[45,54]⟩,.string ⟨#[56]⟩],.int .i64 0])∧Below w.heap.size w w':=by
 have h:=zjJ ⟨#[45,49]⟩ ⟨#[50]⟩ ⟨#[45,51]⟩ ⟨#[52]⟩ w hT (by decide) (by decide) (by decide) (by decide) 0 (by kernel_rfl) _ rfl;rw [if_neg (by omega),if_neg (by omega),if_neg (by omega)] at h;rw [show zcq (zfA (zab ((⟨#[45,49]⟩:ByteArray).data.toList)) (zab ((⟨#[50]⟩:ByteArray).data.toList)) (zab ((⟨#[45,51]⟩:ByteArray).data.toList)) (zab ((⟨#[52]⟩:ByteArray).data.toList))).1 (zfA (zab ((⟨#[45,49]⟩:ByteArray).data.toList)) (zab ((⟨#[50]⟩:ByteArray).data.toList)) (zab ((⟨#[45,51]⟩:ByteArray).data.toList)) (zab ((⟨#[52]⟩:ByteArray).data.toList))).2=0 from by kernel_rfl] at h;exact zeD #[45,54] #[56] h (by kernel_rfl) (by kernel_rfl)
theorem zm9 (w:World) (hT:Tabs w):Calls Tryz.prog 53 #[.agg #[.string ⟨#[49]⟩,.string ⟨#[50]⟩],.agg #[.string ⟨#[52]⟩,.string ⟨#[56]⟩]] w fun e w'=>e = .returned (.tuple #[.agg #[.string ⟨#[49,47,56]⟩,.string ⟨#[49,47,50]⟩],.int .i64 0])∧Below w.heap.size w w':=by
 have h:=zkw ⟨#[49]⟩ ⟨#[50]⟩ ⟨#[52]⟩ ⟨#[56]⟩ w hT (by decide) (by decide) (by decide) (by decide) 0 (by kernel_rfl) _ rfl;rw [if_neg (by omega),if_neg (by omega),if_neg (by omega)] at h;rw [show zcq (zfT (zab ((⟨#[49]⟩:ByteArray).data.toList)) (zab ((⟨#[50]⟩:ByteArray).data.toList)) (zab ((⟨#[52]⟩:ByteArray).data.toList)) (zab ((⟨#[56]⟩:ByteArray).data.toList))).1 (zfT (zab ((⟨#[49]⟩:ByteArray).data.toList)) (zab ((⟨#[50]⟩:ByteArray).data.toList)) (zab ((⟨#[52]⟩:ByteArray).data.toList)) (zab ((⟨#[56]⟩:ByteArray).data.toList))).2=0 from by kernel_rfl] at h;exact zeD #[49,47,56] #[49,47,50] h (by kernel_rfl) (by kernel_rfl)
theorem znj (w:World) (hT:Tabs w):Calls Tryz.prog 54 #[.agg #[.string ⟨#[49]⟩,.string ⟨#[50]⟩],.agg #[.string ⟨#[51]⟩,.string ⟨#[52]⟩]] w fun e w'=>e = .returned (.tuple #[.int .i64 (-1),.int .i64 0])∧Below w.heap.size w w':=by
 have h:=zhx ⟨#[49]⟩ ⟨#[50]⟩ ⟨#[51]⟩ ⟨#[52]⟩ w hT (by decide) (by decide) (by decide) (by decide) 0 (by kernel_rfl);rw [show rcmp (zab ((⟨#[50]⟩:ByteArray).data.toList)) (zab ((⟨#[51]⟩:ByteArray).data.toList)) = -1 from by kernel_rfl,show rcmp (zab ((⟨#[49]⟩:ByteArray).data.toList)) (zab ((⟨#[52]⟩:ByteArray).data.toList)) = -1 from by kernel_rfl] at h;exact h
theorem zmg (w:World) (hT:Tabs w):Calls Tryz.prog 54 #[.agg #[.string ⟨#[49]⟩,.string ⟨#[50]⟩],.agg #[.string ⟨#[50]⟩,.string ⟨#[51]⟩]] w fun e w'=>e = .returned (.tuple #[.int .i64 (0),.int .i64 24])∧Below w.heap.size w w':=by
 have h:=zhx ⟨#[49]⟩ ⟨#[50]⟩ ⟨#[50]⟩ ⟨#[51]⟩ w hT (by decide) (by decide) (by decide) (by decide) 0 (by kernel_rfl);rw [show rcmp (zab ((⟨#[50]⟩:ByteArray).data.toList)) (zab ((⟨#[50]⟩:ByteArray).data.toList))=0 from by kernel_rfl,show rcmp (zab ((⟨#[49]⟩:ByteArray).data.toList)) (zab ((⟨#[51]⟩:ByteArray).data.toList)) = -1 from by kernel_rfl] at h;exact h
theorem zmY (w:World) (hT:Tabs w):Calls Tryz.prog 55 #[.string ⟨#[50]⟩] w fun e w'=>e = .returned (.tuple #[.agg #[.string ⟨#[55,48,55,47,53,48,48]⟩,.string ⟨#[50,56,51,47,50,48,48]⟩],.int .i64 0])∧Below w.heap.size w w':=by
 have h:=znR 0 ⟨false,2,1⟩ (lowQ false 1414 1000) (lowQ false (1414+1) 1000) ⟨#[50]⟩ w hT (Lib.hid rfl) rfl ((zet (by omega)).mono (by omega)) ((zet (by omega)).mono (by omega)) (Lib.hid (fun W hT=>zdx ⟨#[50]⟩ (by decide) ⟨false,2,1⟩ (by kernel_rfl) (by kernel_rfl) W hT))
  (Lib.hid (fun v W hT hv=>zhA ⟨false,2,1⟩ 1 1 v W hT hv ((zbn (by decide) (by decide)).mono (by omega)) ⟨by decide,by decide⟩ ⟨by decide,by decide⟩ (by decide) 1414 ⟨by decide +kernel,by decide +kernel⟩ (Lib.hid (by decide))))
 rw [show zcq (lowQ false 1414 1000) (lowQ false (1414+1) 1000)=0 from by kernel_rfl] at h;exact zeD #[55,48,55,47,53,48,48] #[50,56,51,47,50,48,48] h (by kernel_rfl) (by kernel_rfl)
theorem znL (w:World) (hT:Tabs w):Calls Tryz.prog 39 #[.string ⟨#[49,47,51]⟩] w fun e w'=>e = .returned (.tuple #[.float .f32 1051372203,.int .i64 0])∧Below w.heap.size w w':=by
 have h:=zfz ⟨#[49,47,51]⟩ w hT (by decide);rw [show zae ((⟨#[49,47,51]⟩:ByteArray).data.toList)=0 from by kernel_rfl,if_neg (by omega),if_neg (by omega),show flW (zab ((⟨#[49,47,51]⟩:ByteArray).data.toList))=1051372203 from by decide +kernel,show flX (zab ((⟨#[49,47,51]⟩:ByteArray).data.toList))=0 from by decide +kernel] at h;exact h
theorem znW (w:World) (hT:Tabs w):Calls Tryz.prog 39 #[.string ⟨#[49,54,55,55,55,50,49,55]⟩] w fun e w'=>e = .returned (.tuple #[.float .f32 1266679808,.int .i64 0])∧Below w.heap.size w w':=by
 have h:=zfz ⟨#[49,54,55,55,55,50,49,55]⟩ w hT (by decide);rw [show zae ((⟨#[49,54,55,55,55,50,49,55]⟩:ByteArray).data.toList)=0 from by kernel_rfl,if_neg (by omega),if_neg (by omega),show flW (zab ((⟨#[49,54,55,55,55,50,49,55]⟩:ByteArray).data.toList))=1266679808 from by decide +kernel,show flX (zab ((⟨#[49,54,55,55,55,50,49,55]⟩:ByteArray).data.toList))=0 from by decide +kernel] at h;exact h
theorem zn2 (w:World) (hT:Tabs w):Calls Tryz.prog 39 #[.string ⟨#[49,54,55,55,55,50,49,57]⟩] w fun e w'=>e = .returned (.tuple #[.float .f32 1266679810,.int .i64 0])∧Below w.heap.size w w':=by
 have h:=zfz ⟨#[49,54,55,55,55,50,49,57]⟩ w hT (by decide);rw [show zae ((⟨#[49,54,55,55,55,50,49,57]⟩:ByteArray).data.toList)=0 from by kernel_rfl,if_neg (by omega),if_neg (by omega),show flW (zab ((⟨#[49,54,55,55,55,50,49,57]⟩:ByteArray).data.toList))=1266679810 from by decide +kernel,show flX (zab ((⟨#[49,54,55,55,55,50,49,57]⟩:ByteArray).data.toList))=0 from by decide +kernel] at h;exact h
theorem zlp (w:World) (hT:Tabs w):Calls Tryz.prog 40 #[.float .f32 1051372203] w fun e w'=>e = .returned (.tuple #[.string ⟨#[49,49,49,56,52,56,49,49,47,51,51,53,53,52,52,51,50]⟩,.int .i64 0])∧Below w.heap.size w w':=by
 have h:=zlv 1051372203 w hT;rw [show Flt.fin Ieee.single 1051372203=true from by decide +kernel,if_pos rfl,if_pos rfl,show zao (exQ 1051372203)=0 from by decide +kernel] at h;exact zc1 #[49,49,49,56,52,56,49,49,47,51,51,53,53,52,52,51,50] h (by kernel_rfl)
theorem zmS (w:World):Calls Tryz.prog 34 #[.int .i64 1,.int .i64 3] w fun e w'=>∃ g,e = .returned (.tuple #[.slice (some ⟨g,0,none⟩) 3 3,.int .i64 0])∧w.heap.size≤g∧w'.ownsRow g 3 1 (.slice (some ⟨g,0,none⟩) 3 3) 3 [.int .i64 1,.int .i64 2,.int .i64 0]∧Below w.heap.size w w':=by
 have h:=zoz 1 3 w (by omega) (by omega) (by omega);rw [show (Dl.drawL 1 3).map natv=[.int .i64 1,.int .i64 2,.int .i64 0] from by kernel_rfl] at h;exact h
theorem zjh (A:Option Addr) (c:Nat) (w:World) (h:zav w w.heap.size 1 A 3 [.int .i64 1,.int .i64 2,.int .i64 4]):Calls Tryz.prog 33 #[.int .i64 50,.slice A 3 c] w fun e w'=>∃ g,e = .returned (.tuple #[.slice (some ⟨g,0,none⟩) 3 3,.int .i64 0])∧w.heap.size≤g∧w'.ownsRow g 3 1 (.slice (some ⟨g,0,none⟩) 3 3) 3 [.int .i64 7,.int .i64 14,.int .i64 29]∧Below w.heap.size w w':=by
 have h2:=zkM 50 A 3 c [1,2,4] w (by omega) h (by decide) (by omega) (by omega) (by decide);rw [show (Dl.shares 50 [1,2,4]).map natv=[.int .i64 7,.int .i64 14,.int .i64 29] from by kernel_rfl] at h2;exact h2
end Go.Proofs.YteajibbphcfmeaaGreatDoor
namespace Go.Proofs.YteajibbphcfmeaaGreatDoor
open Go.RowKit Bn
open Flt
theorem zkr {l:List UInt8} (h:zae l=0):LowQ (zab l):=⟨zd1 h,zkI h,zlj h⟩
end Go.Proofs.YteajibbphcfmeaaGreatDoor
namespace Go.Proofs.YteajibbphcfmeaaGreatDoor
open Go.RowKit Dn
theorem zeR {a:ByteArray} (h:zae a.data.toList=0):NumQ a (zab a.data.toList):=⟨(ziu _ h).symm,zkr h⟩
end Go.Proofs.YteajibbphcfmeaaGreatDoor
namespace Go.Proofs.YteajibbphcfmeaaGreatDoor
open Go.RowKit Bn
open Flt
end Go.Proofs.YteajibbphcfmeaaGreatDoor
namespace Go.Proofs.YteajibbphcfmeaaGreatDoor
open Go.RowKit Dn
end Go.Proofs.YteajibbphcfmeaaGreatDoor
namespace Go.Proofs.YteajibbphcfmeaaGreatDoor
open Go.RowKit Bn
open Flt
instance:DecidableEq Q:=fun a b=>decidable_of_iff (a.neg=b.neg∧a.top=b.top∧a.bot=b.bot) ⟨fun h=>by
 obtain ⟨x,y,z⟩:=a;obtain ⟨x',y',z'⟩:=b;obtain ⟨rfl,rfl,rfl⟩:=h;rfl,fun h=>by subst h;exact ⟨rfl,rfl,rfl⟩⟩
theorem zgy (b:Bool) (t d:Nat):lowQ b t d=zb2 (sgn b t) d:=by
 unfold zb2;rw [zcK,zbF];unfold lowQ
 by_cases hd:d=0
 ·rw [if_pos hd,if_pos hd]
 ·rw [if_neg hd,if_neg hd]
  by_cases ht:t=0
  ·rw [if_pos ht,if_pos ht]
  ·rw [if_neg ht,if_neg ht,decide_eq_true (Nat.pos_of_ne_zero ht),Bool.and_true]
theorem ziN (p:Q):sI p=sgn p.neg p.top:=rfl
theorem zf3 (p q:Q):lowQ (p.neg != q.neg) (p.top*q.top) (p.bot*q.bot)=mulQ p q:=by
 rw [zgy];unfold mulQ;rw [ziN,ziN,←zii]
 cases p.neg<;>cases q.neg<;>rfl
theorem zg2 (p q:Q):zdi p q=addQ p q:=by
 unfold zdi addQ;rw [ziN,ziN];have e1:∀ b x y,sgn b x*(y:Nat)=sgn b (x*y):=by
  intro b x y;unfold sgn
  cases b<;>simp [Int.natCast_mul,Int.neg_mul]
 rw [e1,e1];generalize p.top*q.bot=u;generalize q.top*p.bot=v;generalize p.bot*q.bot=d
 split
 ·rename_i h
  rw [h,zgy]
  congr 1
  unfold sgn
  cases q.neg<;>simp<;>omega
 ·rename_i h
  split
  ·rename_i h2
   rw [zgy]
   congr 1
   unfold sgn
   cases hp:p.neg<;>cases hq:q.neg<;>rw [hp,hq] at h<;>simp at h ⊢ <;> omega
  ·rename_i h2
   rw [zgy]
   congr 1
   unfold sgn
   cases hp:p.neg<;>cases hq:q.neg<;>rw [hp,hq] at h<;>simp at h ⊢ <;> omega
end Go.Proofs.YteajibbphcfmeaaGreatDoor
