/- Contract of package number's Shares, up to 19 weights. -/
import Derived.Test.YtmkondcdejlhcaaGreatDoorBSh2
import Derived.Test.YtmkondcdejlhcaaGreatDoorBCo8
import Derived.Test.YtmkondcdejlhcaaGreatDoorBSp8
import Derived.Test.YtmkondcdejlhcaaGreatDoorBFloat
import Derived.Test.YtmkondcdejlhcaaGreatDoorBEx3
import Derived.Test.YtmkondcdejlhcaaGreatDoorBLdx2
import Derived.Test.YtmkondcdejlhcaaGreatDoorBRat2
import Derived.Test.YtmkondcdejlhcaaGreatDoorBShelf
import Derived.Test.YtmkondcdejlhcaaGreatDoorBRb24
import Derived.Test.YtmkondcdejlhcaaGreatDoorBSp2
set_option maxRecDepth 100000
set_option maxHeartbeats 4000000
namespace Go.Proofs.YtmkondcdejlhcaaGreatDoor
section
open Go.RowKit Bn
theorem zrf (n:Nat) (hn:n≤256):∃ Z:Array Value,Z.toList=List.replicate n (.int .i64 0)∧Z.size=n ∧
  (∀ W:World,(Instr.makeSlice 60 (.int .i64 (n:Int)) (.int .i64 (n:Int))).run Tryz.prog W = .ok (.slice (some ⟨W.heap.size,0,none⟩) n n) (W.alloc (.cells Z 3))):=by
 obtain ⟨i0,aA,aE,aD,aC⟩:=info_parts zcL;refine ⟨madeCells #[.int .i64 0] n,toList_madeCells_one _ _,size_madeCells _ _,fun W => ?_⟩;have h:=run_make (P:=Tryz.prog) W 60 3 i0 (.int .i64 0) Tryz.underlying60 aA aE .i64 .i64 n n (by omega) (by omega) (by rw [aC];omega) (by omega);rw [aD,Nat.mul_one,Int.toNat_natCast] at h;exact h
theorem zpE:(Tryz.prog.info? 2).map (fun i=>(i.zero,i.size,i.bytes))=some (some (.int .i64 0),1,8):=by kernel_rfl
theorem zrK (n:Nat) (hn:n≤256):∃ Z:Array Value,Z.toList=List.replicate n (.int .i64 0)∧Z.size=n ∧
  (∀ W:World,(Instr.makeSlice 125 (.int .i64 (n:Int)) (.int .i64 (n:Int))).run Tryz.prog W = .ok (.slice (some ⟨W.heap.size,0,none⟩) n n) (W.alloc (.cells Z 2))):=by
 obtain ⟨i0,aA,aE,aD,aC⟩:=info_parts zpE;refine ⟨madeCells #[.int .i64 0] n,toList_madeCells_one _ _,size_madeCells _ _,fun W => ?_⟩;have h:=run_make (P:=Tryz.prog) W 125 2 i0 (.int .i64 0) Tryz.underlying125 aA aE .i64 .i64 n n (by omega) (by omega) (by rw [aC];omega) (by omega);rw [aD,Nat.mul_one,Int.toNat_natCast] at h;exact h
theorem zix {W:World} {b n:Nat} {Z:Array Value} {t:TypeId} (hs:Z.size=n) (hn:n≤256) (h:W.heap[b]? = some (.cells Z t (0,0))):W.ownsRow b t 1 (.slice (some ⟨b,0,none⟩) n n) n Z.toList:=by
 subst hs;refine ⟨by simp,.inr ⟨b,Z.size,Z,rfl,Nat.le_refl _,h,Nat.le_refl _,by unfold maxLen;omega,by simp,by rw [Nat.mul_one];exact List.take_of_length_le (by simp)⟩⟩
theorem zef {x:Nat}:∀ {l:List Nat},x ∈ l→x≤l.sum
 | a :: t,h=>by
  rw [List.sum_cons]
  rcases List.mem_cons.1 h with rfl | h1
  ·omega
  ·have:=zef h1;omega
theorem zlh (l:List Nat) (k:Nat) (h:k<l.length):(l.take (k+1)).sum=(l.take k).sum+l[k]:=by
 rw [List.take_succ_eq_append_getElem h,List.sum_append];simp
theorem zjQ (l:List Nat) (k:Nat):(l.take k).sum≤l.sum:=by
 have h:(l.take k++l.drop k).sum=l.sum:=by rw [List.take_append_drop]
 rw [List.sum_append] at h;omega
theorem zgy (M:Nat):∀ l:List Nat,(∀ x ∈ l,x≤M)→l.sum≤l.length*M
 | [],_=>by simp
 | a :: t,h=>by
  have h1:=h a (by simp);have h2:=zgy M t (fun x hx=>h x (by simp [hx]));rw [List.sum_cons,List.length_cons,Nat.add_mul];omega
theorem zoV (T S:Nat) (l rs:List Nat) (h:rs=l.map (fun x=>T*x % S)):(fun i=>rs.getD i 0)=Dl.shRem T S l:=by
 subst h
 funext i
 unfold Dl.shRem
 by_cases hi:i<l.length
 ·simp [List.getD,hi]
 ·simp [List.getD,hi]
theorem zpt (sh ord:List Nat) (k:Nat) (h:k<ord.length):(Dl.incAll sh (ord.take k)).set ord[k] ((Dl.incAll sh (ord.take k)).getD ord[k] 0+1)=Dl.incAll sh (ord.take (k+1)):=by
 unfold Dl.incAll;rw [List.take_succ_eq_append_getElem h,List.foldl_append];rfl
theorem zkw (l:List Nat) (i:Nat):l.getD i 0≤l.sum:=by
 by_cases hi:i<l.length
 ·have:l.getD i 0=l[i]:=by simp [List.getD,hi]
  rw [this];exact zef (List.getElem_mem hi)
 ·have:l.getD i 0=0:=by simp [List.getD,hi]
  omega
theorem zon (sh p:List Nat) (h:∀ y ∈ p,y<sh.length) (i:Nat) (hi:i<sh.length):(Dl.incAll sh p).getD i 0≤sh.sum+p.length:=by
 have:=zkw (Dl.incAll sh p) i;rw [Dl.incAll_sum p sh h] at this;exact this
theorem zi9 (T:Nat) (A:Option Addr) (n c:Nat) (l:List Nat) (w:World) (hT:T≤999999999) (h:zaC w w.heap.size 1 A n (l.map natv)) (hl:∀ x ∈ l,x≤999999999) (hn1:1≤n) (hn:n≤19) (hz:zeF l=false) :
  Calls Tryz.prog 45 #[.int .i64 (T:Int),.slice A n c] w fun e w'=>
   ∃ b,e = .returned (.tuple #[.slice (some ⟨b,0,none⟩) n n,.int .i64 0])∧w.heap.size≤b∧w'.ownsRow b 3 1 (.slice (some ⟨b,0,none⟩) n n) n ((Dl.shares T l).map natv)∧Below w.heap.size w w':=by
 have aV:l.length=n:=by have:=h.1;rw [List.length_map] at this;omega
 have r1:=Aa (fun W=>zdv (T:Int) 0 999999999 W (by omega) (by omega));have r2:=Aa (zgV A n c l w h hl hn1 (by omega) hz);have HL:=Aa hl;obtain ⟨Z,dQ,cO,fK⟩:=zrf n (by omega);obtain ⟨Z',bW,bV,cU⟩:=zrK n (by omega);have fN:l.sum≠0:=fun e=>by
  have:zeF l=true:=by
   unfold zeF;rw [List.all_eq_true];intro x hx;have:=zef hx;simp;omega
  rw [this] at hz;cases hz
 clear hl hz;go_enter Tryz.func45,Tryz.ntmps45
 go_wp2_with fail
 refine (r1.out w).mono ?_;rintro e w1 ⟨rfl,rfl⟩
 go_wp2_with fail
 refine r2.out.mono ?_;rintro e w1 ⟨rfl,dH⟩
 go_wp2_with fail
 refine (zcN 0 0 w1 _ _ rfl).mono ?_;rintro e w2 ⟨rfl,rfl⟩;have aJ:Below w.heap.size w (w1.alloc (.cells #[.int .i64 0,.int .i64 0] 26)):=dH.alloc dH.size _;generalize w1.alloc (.cells #[.int .i64 0,.int .i64 0] 26)=w2 at *;clear r1 r2
 go_wp2_with fail
 have h2:=h.below aJ
 go_loopg [7,30] n (fun m s t W=>∃ k:Nat,k≤n∧t = .int .i64 k∧s = .int .i64 ((l.take k).sum:Nat)∧n - k≤m∧W=w2)
 case atStart=>exact ⟨0,Nat.zero_le _,rfl,rfl,by omega,rfl⟩
 case round=>
  obtain ⟨k,hk,rfl,rfl,hm,rfl⟩:=hrel
  by_cases h0:k<n
  ·have bN:k<l.length:=by omega
   obtain ⟨ad,u,rfl,fE,hu,bR⟩:=h2.at_ h0;have dB:u = .int .i64 (l[k]:Int):=by simp [natv,bN] at hu;exact hu.symm
   subst dB;have hx:=HL.out l[k] (List.getElem_mem bN);have cP:=zlh l k bN;have dF:=zgy 999999999 (l.take k) (fun x hx=>HL.out x (List.mem_of_mem_take hx));rw [List.length_take] at dF;have fJ:(l.take k).sum≤20000000000:=by
    refine Nat.le_trans dF ?_;have:min k l.length≤19:=by omega
    have:=Nat.mul_le_mul_right 999999999 this;omega
   clear dF hu;generalize (l.take k).sum=s0 at *;generalize l[k]=x at *
   go_wp2_with fail
   go_roundg (n - (k+1))
   case measure=>omega
   case rel=>exact ⟨k+1,by omega,by go_num,by rw [cP];go_num,Nat.le_refl _,rfl⟩
  ·obtain rfl:n=k:=by omega
   rw [List.take_of_length_le (by omega)];clear h0 hm hk;go_upto_region 10 with (fail)
   obtain ⟨cE,bI⟩:∃ g,g=wr.heap.size:=⟨_,rfl⟩;have bL:w.heap.size≤cE:=by rw [bI];exact aJ.size
   obtain ⟨bT,aW⟩:∃ I:Array Bool→Act→World→Prop,I=(fun aK ac W=>∃ (b0 b1 b2 b3 b4 b5 b6 b7:Bool) (bE bA bD bC bF bB aZ aU:Value) (aA:Nat) (aC:Nat),aK=#[b0,b1,b2,b3,b4,b5,b6,b7]∧ac={ tmps:=#[.int .i64 (T:Int),.slice A n c,undef,undef,.slice none 0 0,.int .i64 0,.int .i64 0,.int .i64 (l.sum:Nat),undef,u9,aZ,aU,undef,undef,undef,undef,undef,undef,undef,.int .i64 (T:Int),.int .i64 0,.slice A n c,.int .i64 0,.slice (some ⟨w1.heap.size,0,none⟩) 2 2,.int .i64 0,.int .i64 0,.bool false,undef,.slice A n c,.int .i64 (n:Int),.int .i64 (n:Int),.bool false,u32,u33,u34,u35,u36,u37,bE,bA,bD,bC,bF,bB,undef,undef,undef,undef,undef,undef,undef,undef,undef,undef,undef,undef,undef,undef,undef,undef,undef,undef,undef,undef,undef,undef,undef,undef,undef,undef,undef,undef,undef,undef,undef,undef,undef,undef,undef,undef,undef,undef,undef,undef,undef,undef,undef,undef,undef,undef,undef,undef,undef,undef,undef,undef,undef,undef,undef,undef],defers:=[] }∧cE≤W.heap.size∧Below w.heap.size w W∧(b0=true→bE = .slice A n c)∧(b1=true→bA = .int .i64 (n:Int))∧(b2=true→bD = .slice (some ⟨aA,0,none⟩) n n∧cE≤aA∧aA<W.heap.size∧CBlk W aA Z 3)∧(b3=true→bC = .slice A n c)∧(b4=true→bF = .int .i64 (n:Int))∧(b5=true→bB = .slice (some ⟨aC,0,none⟩) n n∧cE≤aC∧aC<W.heap.size∧CBlk W aC Z 3)∧(b6=true→b2=true∧aZ = .slice (some ⟨aA,0,none⟩) n n)∧(b7=true→b5=true∧aU = .slice (some ⟨aC,0,none⟩) n n)∧(b2=true→b5=true→aA≠aC)):=⟨_,rfl⟩;have aD:=Aa aW;clear aW;refine zbQ (by kernel_rfl) bT (by kernel_rfl) ?_ ?_ ?_
   ·rw [aD.out]
    exact ⟨false,false,false,false,false,false,false,false,undef,undef,undef,undef,undef,undef,undef,undef,0,0,rfl,rfl,(by rw [bI];exact Nat.le_refl _),aJ.drew,(fun h=>by cases h),(fun h=>by cases h),(fun h=>by cases h),(fun h=>by cases h),(fun h=>by cases h),(fun h=>by cases h),(fun h=>by cases h),(fun h=>by cases h),(fun h=>by cases h)⟩
   ·intro i op aK ac W ho hI hl aE
    rw [aD.out] at hI;obtain ⟨b0,b1,b2,b3,b4,b5,b6,b7,bE,bA,bD,bC,bF,bB,aZ,aU,aA,aC,rfl,rfl,aR,aJ,f0,f1,f2,f3,f4,f5,f6,f7,aG⟩:=hI;clear bI
    match i,ho,hl,aE with
    | 0,ho,hl,aE=>
     have aT:b0=false:=Option.some.inj hl;obtain rfl:=Option.some.inj ho;refine zar ho fun K' hK => ?_
     go_simp
     refine hK.out _ _ ?_;rw [aD.out];exact ⟨true,b1,b2,b3,b4,b5,b6,b7,(.slice A n c),bA,bD,bC,bF,bB,aZ,aU,aA,aC,rfl,rfl,aR,aJ,(fun _=>rfl),f1,f2,f3,f4,f5,f6,f7,aG⟩
    | 1,ho,hl,aE=>
     have aT:b1=false:=Option.some.inj hl;obtain rfl:=Option.some.inj ho;have e0:b0=true:=aE ⟨0,.data⟩ (by simp) rfl;obtain rfl:=f0 e0;refine zar ho fun K' hK => ?_
     go_simp
     refine hK.out _ _ ?_;rw [aD.out];exact ⟨b0,true,b2,b3,b4,b5,b6,b7,(.slice A n c),(.int .i64 (n:Int)),bD,bC,bF,bB,aZ,aU,aA,aC,rfl,rfl,aR,aJ,f0,(fun _=>rfl),f2,f3,f4,f5,f6,f7,aG⟩
    | 2,ho,hl,aE=>
     have aT:b2=false:=Option.some.inj hl;obtain rfl:=Option.some.inj ho;have e1:b1=true:=aE ⟨1,.data⟩ (by simp) rfl;obtain rfl:=f1 e1;refine zar ho fun K' hK => ?_
     have hb:Below W.heap.size W (W.alloc (.cells Z 3)):=Ac
     go_simp
     refine hK.out _ _ ?_;rw [aD.out];exact ⟨b0,b1,true,b3,b4,b5,b6,b7,bE,(.int .i64 (n:Int)),(.slice (some ⟨W.heap.size,0,none⟩) n n),bC,bF,bB,aZ,aU,W.heap.size,aC,rfl,rfl,(Nat.le_trans aR hb.size),(aJ.trans (hb.mono aJ.size)),f0,f1,(fun _=>⟨rfl,aR,by simp,CBlk.new W _ _ _ rfl⟩),f3,f4,(fun h=>⟨(f5 h).1,(f5 h).2.1,Nat.lt_of_lt_of_le (f5 h).2.2.1 hb.size,(f5 h).2.2.2.below hb (f5 h).2.2.1⟩),(fun h=>by rw [(f6 h).1] at aT;cases aT),f7,(fun _ h=>Nat.ne_of_gt (f5 h).2.2.1)⟩
    | 3,ho,hl,aE=>
     have aT:b3=false:=Option.some.inj hl;obtain rfl:=Option.some.inj ho;refine zar ho fun K' hK => ?_
     go_simp
     refine hK.out _ _ ?_;rw [aD.out];exact ⟨b0,b1,b2,true,b4,b5,b6,b7,bE,bA,bD,(.slice A n c),bF,bB,aZ,aU,aA,aC,rfl,rfl,aR,aJ,f0,f1,f2,(fun _=>rfl),f4,f5,f6,f7,aG⟩
    | 4,ho,hl,aE=>
     have aT:b4=false:=Option.some.inj hl;obtain rfl:=Option.some.inj ho;have e3:b3=true:=aE ⟨3,.data⟩ (by simp) rfl;obtain rfl:=f3 e3;refine zar ho fun K' hK => ?_
     go_simp
     refine hK.out _ _ ?_;rw [aD.out];exact ⟨b0,b1,b2,b3,true,b5,b6,b7,bE,bA,bD,(.slice A n c),(.int .i64 (n:Int)),bB,aZ,aU,aA,aC,rfl,rfl,aR,aJ,f0,f1,f2,f3,(fun _=>rfl),f5,f6,f7,aG⟩
    | 5,ho,hl,aE=>
     have aT:b5=false:=Option.some.inj hl;obtain rfl:=Option.some.inj ho;have e4:b4=true:=aE ⟨4,.data⟩ (by simp) rfl;obtain rfl:=f4 e4;refine zar ho fun K' hK => ?_
     have hb:Below W.heap.size W (W.alloc (.cells Z 3)):=Ac
     go_simp
     refine hK.out _ _ ?_;rw [aD.out];exact ⟨b0,b1,b2,b3,b4,true,b6,b7,bE,bA,bD,bC,(.int .i64 (n:Int)),(.slice (some ⟨W.heap.size,0,none⟩) n n),aZ,aU,aA,W.heap.size,rfl,rfl,(Nat.le_trans aR hb.size),(aJ.trans (hb.mono aJ.size)),f0,f1,(fun h=>⟨(f2 h).1,(f2 h).2.1,Nat.lt_of_lt_of_le (f2 h).2.2.1 hb.size,(f2 h).2.2.2.below hb (f2 h).2.2.1⟩),f3,f4,(fun _=>⟨rfl,aR,by simp,CBlk.new W _ _ _ rfl⟩),f6,(fun h=>by rw [(f7 h).1] at aT;cases aT),(fun h _=>Nat.ne_of_lt (f2 h).2.2.1)⟩
    | 6,ho,hl,aE=>
     have aT:b6=false:=Option.some.inj hl;obtain rfl:=Option.some.inj ho;have e2:b2=true:=aE ⟨2,.data⟩ (by simp) rfl;obtain ⟨rfl,fI,fO,fL⟩:=f2 e2;refine zar ho fun K' hK => ?_
     go_simp
     refine hK.out _ _ ?_;rw [aD.out];exact ⟨b0,b1,b2,b3,b4,b5,true,b7,bE,bA,(.slice (some ⟨aA,0,none⟩) n n),bC,bF,bB,(.slice (some ⟨aA,0,none⟩) n n),aU,aA,aC,rfl,rfl,aR,aJ,f0,f1,f2,f3,f4,f5,(fun _=>⟨e2,rfl⟩),f7,aG⟩
    | 7,ho,hl,aE=>
     have aT:b7=false:=Option.some.inj hl;obtain rfl:=Option.some.inj ho;have e5:b5=true:=aE ⟨5,.data⟩ (by simp) rfl;obtain ⟨rfl,fI,fO,fL⟩:=f5 e5;refine zar ho fun K' hK => ?_
     go_simp
     refine hK.out _ _ ?_;rw [aD.out];exact ⟨b0,b1,b2,b3,b4,b5,b6,true,bE,bA,bD,bC,bF,(.slice (some ⟨aC,0,none⟩) n n),aZ,(.slice (some ⟨aC,0,none⟩) n n),aA,aC,rfl,rfl,aR,aJ,f0,f1,f2,f3,f4,f5,f6,(fun _=>⟨e5,rfl⟩),aG⟩
    | n+8,ho,hl,aE=>exact absurd ho (by simp)
   ·intro aK ac Y hI aI
    rw [aD.out] at hI;clear aJ;obtain ⟨b0,b1,b2,b3,b4,b5,b6,b7,bE,bA,bD,bC,bF,bB,aZ,aU,aA,aC,rfl,rfl,aR,aJ,f0,f1,f2,f3,f4,f5,f6,f7,aG⟩:=hI;have e0:b0=true:=aI 0 b0 (by decide) rfl;have e1:b1=true:=aI 1 b1 (by decide) rfl;have e2:b2=true:=aI 2 b2 (by decide) rfl;have e3:b3=true:=aI 3 b3 (by decide) rfl;have e4:b4=true:=aI 4 b4 (by decide) rfl;have e5:b5=true:=aI 5 b5 (by decide) rfl;have e6:b6=true:=aI 6 b6 (by decide) rfl;have e7:b7=true:=aI 7 b7 (by decide) rfl;subst e0;subst e1;subst e2;subst e3;subst e4;subst e5;subst e6;subst e7;obtain rfl:=f0 rfl;obtain rfl:=f1 rfl;obtain ⟨rfl,aP,aN,qs⟩:=f2 rfl;obtain rfl:=f3 rfl;obtain rfl:=f4 rfl;obtain ⟨rfl,aL,aM,qo⟩:=f5 rfl;obtain ⟨_,rfl⟩:=f6 rfl;obtain ⟨_,rfl⟩:=f7 rfl;clear f0 f1 f2 f3 f4 f5 f6 f7 aI aD;have bM:w.heap.size≤Y.heap.size:=aJ.size;have hS:=zix cO (by omega) qs;have hO:=zix cO (by omega) qo;rw [dQ] at hS hO;have cA:=Aa (aG rfl rfl);have cN:w.heap.size≤aA:=Nat.le_trans bL aP;have dZ:w.heap.size≤aC:=Nat.le_trans bL aL;clear aG fK aP aL bL aR qs qo h2 dH bI;generalize aA=S at *;generalize aC=O at *
    go_wp2_with fail
    have dI:Below w.heap.size w ((Y.alloc (.cells Z' 2)).alloc (.cells #[.slice (some ⟨Y.heap.size,0,none⟩) n n] 125)):=(aJ.alloc bM _).alloc (by simp;omega) _;have cM:=ziq (w':=(Y.alloc (.cells Z' 2)).alloc (.cells #[.slice (some ⟨Y.heap.size,0,none⟩) n n] 125)) hS (((Below.refl Y.heap.size Y).alloc (Nat.le_refl _) _).alloc (by simp) _ |>.block S aN)
    have dA:=ziq (w':=(Y.alloc (.cells Z' 2)).alloc (.cells #[.slice (some ⟨Y.heap.size,0,none⟩) n n] 125)) hO (((Below.refl Y.heap.size Y).alloc (Nat.le_refl _) _).alloc (by simp) _ |>.block O aM)
    have cL:CBlk ((Y.alloc (.cells Z' 2)).alloc (.cells #[.slice (some ⟨Y.heap.size,0,none⟩) n n] 125)) (Y.heap.size+1) #[.slice (some ⟨Y.heap.size,0,none⟩) n n] 125:=CBlk.new _ _ _ _ (by simp);have cK:CBlk ((Y.alloc (.cells Z' 2)).alloc (.cells #[.slice (some ⟨Y.heap.size,0,none⟩) n n] 125)) Y.heap.size Z' 2:=(CBlk.new Y _ _ _ rfl).alloc _;have hR:=zix bV (by omega) cK;rw [bW] at hR;obtain ⟨R,cW⟩:∃ b,b=Y.heap.size:=⟨_,rfl⟩;rw [←cW] at hR cL cK cM dA dI aN aM bM
    try rw [←cW]
    generalize (Y.alloc (.cells Z' 2)).alloc (.cells #[.slice (some ⟨R,0,none⟩) n n] 125)=X at *;clear cK hS hO cU aJ dQ cO bW bV cW;obtain ⟨Su,bP⟩:∃ s,s=l.sum:=⟨_,rfl⟩;have fD:Su≤20000000000:=by
     have h9:=zgy 999999999 l HL.out;rw [bP];refine Nat.le_trans h9 ?_;have:=Nat.mul_le_mul_right 999999999 (show l.length≤19 by omega);omega
    obtain ⟨sh,cH⟩:∃ s,s=Dl.shBase T Su l:=⟨_,rfl⟩;obtain ⟨rs,dJ⟩:∃ s,s=l.map (fun x=>T*x % Su):=⟨_,rfl⟩;have bG:sh.length=n:=by rw [cH];simp [Dl.shBase,aV]
    have bU:rs.length=n:=by rw [dJ];simp [aV]
    have dD:sh.sum≤T:=by rw [cH,bP];exact (Dl.shRest_le T l (by omega)).1
    have cR:=Aa cH;have dW:=Aa dJ;rw [←bP] at fN
    try rw [←bP]
    have cJ:=Aa bP;clear cH dJ bP;have fH:R+1≠S:=by omega
    have dN:R+1≠O:=by omega
    have fB:R≠S:=by omega
    have cS:R≠O:=by omega
    have HA:=Aa h;clear h
    go_loopg [13,50] n (fun m s t W=>∃ k:Nat,k≤n∧t = .int .i64 k∧s = .int .i64 ((T:Int) - ((sh.take k).sum:Nat))∧n - k≤m ∧
     W.ownsRow S 3 1 (.slice (some ⟨S,0,none⟩) n n) n ((sh.take k).map natv++List.replicate (n - k) (.int .i64 0)) ∧
     W.ownsRow O 3 1 (.slice (some ⟨O,0,none⟩) n n) n (((List.range n).take k).map natv++List.replicate (n - k) (.int .i64 0)) ∧
     W.ownsRow R 2 1 (.slice (some ⟨R,0,none⟩) n n) n ((rs.take k).map natv++List.replicate (n - k) (.int .i64 0)) ∧
     CBlk W (R+1) #[.slice (some ⟨R,0,none⟩) n n] 125∧Below w.heap.size w W)
    case atStart=>exact ⟨0,Nat.zero_le _,rfl,by go_num,by omega,by simpa using cM,by simpa using dA,by simpa using hR,cL,dI⟩
    case round=>
     clear cM dA hR cL dI;obtain ⟨k,hk,rfl,rfl,hm,hS,hO,hR,hq,aH⟩:=hrel
     by_cases h0:k<n
     ·have bN:k<l.length:=by omega
      obtain ⟨ad,u,rfl,fE,hu,bR⟩:=(HA.out.below aH).at_ h0;have dB:u = .int .i64 (l[k]:Int):=by simp [natv,bN] at hu;exact hu.symm
      subst dB;have hx:=HL.out l[k] (List.getElem_mem bN);have cC:sh[k]'(by omega)=T*l[k] / Su:=by simp only [cR.out,Dl.shBase,List.getElem_map]
      have cB:rs[k]'(by omega)=T*l[k] % Su:=by simp only [dW.out,List.getElem_map]
      have dO:=Aa (zf6 natv sh (.int .i64 0) n k (by omega) bG);have dG:=Aa (zf6 natv (List.range n) (.int .i64 0) n k (by simpa using h0) (by simp));have fC:=Aa (zf6 natv rs (.int .i64 0) n k (by omega) bU);have cP:=zlh sh k (by omega);have fY:(sh.take (k+1)).sum≤T:=Nat.le_trans (zjQ sh (k+1)) dD;rw [List.getElem_range] at dG;generalize sh[k]'(by omega)=qv at *;generalize rs[k]'(by omega)=rv at *;generalize l[k]=x at *;obtain ⟨p,hp⟩:∃ p,p=T*x:=⟨_,rfl⟩;rw [←hp] at cC cB;have fU:p≤999999998000000001:=by rw [hp];exact Nat.mul_le_mul hT hx
      have em:(T:Int)*(x:Int)=(p:Int):=by rw [hp];simp
      have gA:qv≤p:=by rw [cC];exact Nat.div_le_self _ _
      have fR:rv<Su:=by rw [cB];exact Nat.mod_lt _ (by omega)
      have gB:(p:Int).tdiv (Su:Int)=(qv:Int):=by rw [cC,Int.tdiv_eq_ediv_of_nonneg (by omega)];simp
      have fZ:(p:Int).tmod (Su:Int)=(rv:Int):=by rw [cB,Int.tmod_eq_emod_of_nonneg (by omega)];simp
      have fX:((Su:Int)=0)=False:=by simp;omega
      have bO:=zdD hS k (natv qv);have bH:=ownsRow_setCell_other hO (a:=⟨S,k,none⟩) (by simp only [Value.ownBlock];exact fun e=>cA.out (Option.some.inj e).symm) (natv qv);have dU:=ownsRow_setCell_other hR (a:=⟨S,k,none⟩) (by simp only [Value.ownBlock];exact fun e=>fB (Option.some.inj e)) (natv qv);have dK:=hq.setFar (i:=k) (Ne.symm fH) (natv qv);have cF:=ownsRow_setCell_other bO (a:=⟨O,k,none⟩) (by simp only [Value.ownBlock];exact fun e=>cA.out (Option.some.inj e)) (natv k);have dP:=zdD bH k (natv k);have bZ:=ownsRow_setCell_other dU (a:=⟨O,k,none⟩) (by simp only [Value.ownBlock];exact fun e=>cS (Option.some.inj e)) (natv k);have cQ:=dK.setFar (i:=k) (Ne.symm dN) (natv k);have cG:=ownsRow_setCell_other cF (a:=⟨R,k,none⟩) (by simp only [Value.ownBlock];exact fun e=>fB (Option.some.inj e).symm) (natv rv);have cI:=ownsRow_setCell_other dP (a:=⟨R,k,none⟩) (by simp only [Value.ownBlock];exact fun e=>cS (Option.some.inj e).symm) (natv rv);have cY:=zdD bZ k (natv rv);have dY:=cQ.setFar (i:=k) (show R≠R+1 by omega) (natv rv);have bK:=((aH.setCell (p:=⟨S,k,none⟩) cN (natv qv)).setCell (p:=⟨O,k,none⟩) dZ (natv k)).setCell (p:=⟨R,k,none⟩) bM (natv rv);obtain ⟨v1,ca⟩:=zez hS k h0;have fa:=zbR hS k;obtain ⟨v2,cb⟩:=zez bH k h0;have fb:=zbR bH k;obtain ⟨v3,cc⟩:=zez bZ k h0;have fc:=zbR bZ k;have cd:(((wr.setCell ⟨S,k,none⟩ (natv qv)).setCell ⟨O,k,none⟩ (natv k)).setCell ⟨R,k,none⟩ (natv rv)).cell? ⟨S,k,none⟩=some (.int .i64 (qv:Int)):=by
       rw [World.ownsRow.cellAt cG k (by omega)];have fT:=hS.1;rw [List.getElem?_set_self (by omega)];rfl
      rw [dO.out] at cG;rw [dG.out] at cI;rw [fC.out] at cY;have y0:=hq.cell 0;have y1:=dK.cell 0;have y2:=cQ.cell 0;have fG:=fun (W:World) (a:Addr) (m:_)=>run_store Tryz.prog W a (.int .i64 (qv:Int)) m rfl
      have fP:=fun (W:World) (a:Addr) (m:_)=>run_store Tryz.prog W a (.int .i64 (rv:Int)) m rfl
      have fS:=fun (W:World) (a:Addr) (m:_)=>run_store Tryz.prog W a (.int .i64 (k:Int)) m rfl
      unfold natv at cb fb cc fc cd y1 y2;have W3:=Aa cG;have W4:=Aa cI;have W5:=Aa cY;have W6:=Aa dY;have W7:=Aa bK;clear hS hO hR hq aH bO bH dU dK cF dP bZ cQ cG cI cY dY bK dO dG fC hu cC cB hp;generalize (sh.take k).sum=sk at *
      go_wp2_with fail
      go_region
      go_wp2_with fail
      go_roundg (n - (k+1))
      case measure=>omega
      case rel=>exact ⟨k+1,by omega,by go_num,by rw [cP];go_num,Nat.le_refl _,by exact W3.out,by exact W4.out,by exact W5.out,by exact W6.out,W7.out.drew⟩
     ·obtain rfl:n=k:=by omega
      have e1:(sh.take n).map natv++List.replicate (n - n) (.int .i64 0)=sh.map natv:=zgb natv sh (.int .i64 0) n bG;have e2:((List.range n).take n).map natv++List.replicate (n - n) (.int .i64 0)=(List.range n).map natv:=zgb natv (List.range n) (.int .i64 0) n (by simp);have e3:(rs.take n).map natv++List.replicate (n - n) (.int .i64 0)=rs.map natv:=zgb natv rs (.int .i64 0) n bU;rw [e1] at hS;rw [e2] at hO;rw [e3] at hR;rw [List.take_of_length_le (show sh.length≤n by omega)];obtain ⟨aF,bJ⟩:∃ r,r=T - sh.sum:=⟨_,rfl⟩;rw [show (T:Int) - (sh.sum:Nat)=(aF:Int) by omega];have dR:aF≤n:=by
       have h9:=Dl.shRest_len T l (by rw [←cJ.out];omega);unfold Dl.shRest at h9;rw [←cJ.out,←cR.out] at h9;omega
      have fF:=Aa bJ;clear e1 e2 e3 bJ h0 hm hk
      go_wp2_with fail
      refine (zhR O O (R+1) R n n rs (List.range n) wr hn1 hn (Ne.symm dN) (Ne.symm cS) hO hq hR (fun y hy=>by simpa using hy)).mono ?_;rintro e w9 ⟨rfl,cT,dS,bQ⟩;have fA:=ziq hS (bQ S cA.out);have dV:Below w.heap.size w w9:=aH.trans (dS.mono dZ);have bS:Dl.sortP (Dl.byKey (fun i=>rs.getD i 0)) (List.range n)=Dl.shOrder T Su l:=by
       unfold Dl.shOrder;rw [aV,zoV T Su l rs dW.out]
      rw [bS] at cT;clear hO hq hR bQ hS bS dS aH;have fW:(Dl.shOrder T Su l).length=n:=by rw [Dl.shOrder_len];exact aV
      have dM:∀ y ∈ Dl.shOrder T Su l,y<n:=fun y hy=>by
       have:=(Dl.shOrder_perm T Su l).mem_iff.1 hy;rw [aV] at this;simpa using this
      have dL:Hid (Dl.incAll sh ((Dl.shOrder T Su l).take aF)=Dl.shares T l):=by
       have h1:=cJ.out;have h2:=cR.out;have h3:=fF.out
       unfold Dl.shares Dl.shRest;rw [←h1,←h2,←h3];rfl
      generalize Dl.shOrder T Su l=aQ at *;have cV:=Aa dM;clear dM
      go_wp2_with fail
      go_loopg [88] aF (fun m s W=>∃ k:Nat,k≤aF∧s = .int .i64 k∧aF - k≤m ∧
       W.ownsRow S 3 1 (.slice (some ⟨S,0,none⟩) n n) n ((Dl.incAll sh (aQ.take k)).map natv)∧W.ownsRow O 3 1 (.slice (some ⟨O,0,none⟩) n n) n (aQ.map natv)∧Below w.heap.size w W)
      case atStart=>exact ⟨0,Nat.zero_le _,rfl,by omega,by simpa [Dl.incAll] using fA,cT,dV⟩
      case round=>
       clear fA cT dV;obtain ⟨k,hk,rfl,hm,hS,hO,aH⟩:=hrel
       by_cases h0:k<aF
       ·have cZ:k<aQ.length:=by omega
        have hi:=cV.out aQ[k] (List.getElem_mem cZ);have dT:=zpt sh aQ k cZ;have dX:=zon sh (aQ.take k) (fun y hy=>by rw [bG];exact cV.out y (List.mem_of_mem_take hy));have fM:(Dl.incAll sh (aQ.take k)).length=n:=by rw [Dl.incAll_len];exact bG
        have fQ:(aQ.take k).length≤19:=by rw [List.length_take];omega
        have co:wr.cell? ⟨O,k,none⟩=some (.int .i64 (aQ[k]:Int)):=by rw [World.ownsRow.cellAt hO k (by omega)];simp [natv,cZ]
        generalize aQ[k]=i at *;have hv:=dX i (by omega);generalize Dl.incAll sh (aQ.take k)=L at *;have cs:wr.cell? ⟨S,i,none⟩=some (.int .i64 ((L.getD i 0:Nat):Int)):=by rw [World.ownsRow.cellAt hS i (by omega)];simp [natv,fM,hi,List.getD]
        have fs:=zbR hS i;have bO:=zdD hS i (natv (L.getD i 0+1));have bH:=ownsRow_setCell_other hO (a:=⟨S,i,none⟩) (by simp only [Value.ownBlock];exact fun e=>cA.out (Option.some.inj e).symm) (natv (L.getD i 0+1));have aO:=aH.setCell (p:=⟨S,i,none⟩) cN (natv (L.getD i 0+1));rw [←List.map_set,dT] at bO;have fV:L.getD i 0≤1000000100:=by omega
        have aS:((L.getD i 0+1:Nat):Int)=((L.getD i 0:Nat):Int)+1:=by simp
        have fG:=fun (W:World) (a:Addr) (m:_)=>run_store Tryz.prog W a (.int .i64 (((L.getD i 0:Nat):Int)+1)) m rfl
        unfold natv at bH aO;have cF:Hid ((wr.setCell ⟨S,i,none⟩ (.int .i64 (((L.getD i 0:Nat):Int)+1))).ownsRow S 3 1 (.slice (some ⟨S,0,none⟩) n n) n ((Dl.incAll sh (aQ.take (k+1))).map natv)):=by rw [←aS];exact bO
        rw [aS] at bH aO;have W1:=Aa bH;have W2:=Aa aO;clear bO bH aO dT dX aS hS hO aH hv;generalize L.getD i 0=lv at *
        go_wp2_with fail
        go_roundg (aF - (k+1))
        case measure=>omega
        case rel=>exact ⟨k+1,by omega,by go_num,Nat.le_refl _,cF.out,W1.out,W2.out⟩
       ·obtain rfl:k=aF:=by omega
        rw [dL.out] at hS;clear hO cV
        go_wp2_with fail
        go_ret2
        exact ⟨S,rfl,cN,hS,aH⟩
theorem zdd {w:World} {l:List UInt8} {x:Int} {f:FuncId} {args:Array Value} (a:Array UInt8) (h:Calls Tryz.prog f args w (za0 w l x)) (e:l=a.toList) :
  Calls Tryz.prog f args w fun e w'=>e = .returned (.tuple #[.string ⟨a⟩,.int .i64 x])∧Below w.heap.size w w':=
 h.mono fun _ _ ⟨s,he,hs,hb⟩=>⟨by
  rw [he];obtain ⟨d⟩:=s;have:d=a:=by apply Array.ext';rw [←e];exact hs
  rw [this],hb⟩
theorem zeM {w:World} {l m:List UInt8} {x:Int} {f:FuncId} {args:Array Value} (a b:Array UInt8) (h:Calls Tryz.prog f args w (zde w l m x)) (e1:l=a.toList) (e2:m=b.toList) :
  Calls Tryz.prog f args w fun e w'=>e = .returned (.tuple #[.agg #[.string ⟨a⟩,.string ⟨b⟩],.int .i64 x])∧Below w.heap.size w w':=
 h.mono fun _ _ ⟨s,t,he,hs,ht,hb⟩=>⟨by
  rw [he];obtain ⟨d⟩:=s;obtain ⟨d2⟩:=t;have h1:d=a:=by apply Array.ext';rw [←e1];exact hs
  have h2:d2=b:=by apply Array.ext';rw [←e2];exact ht
  rw [h1,h2],hb⟩
theorem zrG (w:World) (hT:Tabs w):Calls Tryz.prog 51 #[.int .i64 15,.int .i64 (-6)] w fun e w'=>e = .returned (.tuple #[.string ⟨#[45,53,47,50]⟩,.int .i64 0])∧Below w.heap.size w w':=by
 have h:=zrH 15 (-6) w hT (by omega) (by omega);rw [show zao (lowQ (decide ((15:Int)<0) != decide ((-6:Int)<0)) ((15:Int).natAbs*1) (1*(-6:Int).natAbs))=0 from by kernel_rfl] at h;exact zdd #[45,53,47,50] h (by kernel_rfl)
theorem znG (w:World) (hT:Tabs w):Calls Tryz.prog 52 #[.string ⟨#[45,53,47,50]⟩] w fun e w'=>e = .returned (.tuple #[.string ⟨#[45,51]⟩,.int .i64 0])∧Below w.heap.size w w':=by
 have h:=zpg ⟨#[45,53,47,50]⟩ w hT (by decide) (by kernel_rfl);rw [show zao (zbm (zab ((⟨#[45,53,47,50]⟩:ByteArray).data.toList)))=0 from by kernel_rfl] at h;exact zdd #[45,51] h (by kernel_rfl)
theorem znK (w:World) (hT:Tabs w):Calls Tryz.prog 30 #[.agg #[.string ⟨#[45,49]⟩,.string ⟨#[50]⟩],.agg #[.string ⟨#[45,51]⟩,.string ⟨#[52]⟩]] w fun e w'=>e = .returned (.tuple #[.agg #[.string ⟨#[45,54]⟩,.string ⟨#[56]⟩],.int .i64 0])∧Below w.heap.size w w':=by
 have h:=zlq ⟨#[45,49]⟩ ⟨#[50]⟩ ⟨#[45,51]⟩ ⟨#[52]⟩ w hT (by decide) (by decide) (by decide) (by decide) 0 (by kernel_rfl) _ rfl;rw [if_neg (by omega),if_neg (by omega),if_neg (by omega)] at h;rw [show zcj (zg3 (zab ((⟨#[45,49]⟩:ByteArray).data.toList)) (zab ((⟨#[50]⟩:ByteArray).data.toList)) (zab ((⟨#[45,51]⟩:ByteArray).data.toList)) (zab ((⟨#[52]⟩:ByteArray).data.toList))).1 (zg3 (zab ((⟨#[45,49]⟩:ByteArray).data.toList)) (zab ((⟨#[50]⟩:ByteArray).data.toList)) (zab ((⟨#[45,51]⟩:ByteArray).data.toList)) (zab ((⟨#[52]⟩:ByteArray).data.toList))).2=0 from by kernel_rfl] at h;exact zeM #[45,54] #[56] h (by kernel_rfl) (by kernel_rfl)
theorem zpb (w:World) (hT:Tabs w):Calls Tryz.prog 34 #[.agg #[.string ⟨#[49]⟩,.string ⟨#[50]⟩],.agg #[.string ⟨#[52]⟩,.string ⟨#[56]⟩]] w fun e w'=>e = .returned (.tuple #[.agg #[.string ⟨#[49,47,56]⟩,.string ⟨#[49,47,50]⟩],.int .i64 0])∧Below w.heap.size w w':=by
 have h:=zmV ⟨#[49]⟩ ⟨#[50]⟩ ⟨#[52]⟩ ⟨#[56]⟩ w hT (by decide) (by decide) (by decide) (by decide) 0 (by kernel_rfl) _ rfl;rw [if_neg (by omega),if_neg (by omega),if_neg (by omega)] at h;rw [show zcj (zhi (zab ((⟨#[49]⟩:ByteArray).data.toList)) (zab ((⟨#[50]⟩:ByteArray).data.toList)) (zab ((⟨#[52]⟩:ByteArray).data.toList)) (zab ((⟨#[56]⟩:ByteArray).data.toList))).1 (zhi (zab ((⟨#[49]⟩:ByteArray).data.toList)) (zab ((⟨#[50]⟩:ByteArray).data.toList)) (zab ((⟨#[52]⟩:ByteArray).data.toList)) (zab ((⟨#[56]⟩:ByteArray).data.toList))).2=0 from by kernel_rfl] at h;exact zeM #[49,47,56] #[49,47,50] h (by kernel_rfl) (by kernel_rfl)
theorem zoM (w:World) (hT:Tabs w):Calls Tryz.prog 33 #[.agg #[.string ⟨#[49]⟩,.string ⟨#[50]⟩],.agg #[.string ⟨#[51]⟩,.string ⟨#[52]⟩]] w fun e w'=>e = .returned (.tuple #[.int .i64 (-1),.int .i64 0])∧Below w.heap.size w w':=by
 have h:=ziT ⟨#[49]⟩ ⟨#[50]⟩ ⟨#[51]⟩ ⟨#[52]⟩ w hT (by decide) (by decide) (by decide) (by decide) 0 (by kernel_rfl);rw [show rcmp (zab ((⟨#[50]⟩:ByteArray).data.toList)) (zab ((⟨#[51]⟩:ByteArray).data.toList)) = -1 from by kernel_rfl,show rcmp (zab ((⟨#[49]⟩:ByteArray).data.toList)) (zab ((⟨#[52]⟩:ByteArray).data.toList)) = -1 from by kernel_rfl] at h;exact h
theorem zoA (w:World) (hT:Tabs w):Calls Tryz.prog 33 #[.agg #[.string ⟨#[49]⟩,.string ⟨#[50]⟩],.agg #[.string ⟨#[50]⟩,.string ⟨#[51]⟩]] w fun e w'=>e = .returned (.tuple #[.int .i64 (0),.int .i64 24])∧Below w.heap.size w w':=by
 have h:=ziT ⟨#[49]⟩ ⟨#[50]⟩ ⟨#[50]⟩ ⟨#[51]⟩ w hT (by decide) (by decide) (by decide) (by decide) 0 (by kernel_rfl);rw [show rcmp (zab ((⟨#[50]⟩:ByteArray).data.toList)) (zab ((⟨#[50]⟩:ByteArray).data.toList))=0 from by kernel_rfl,show rcmp (zab ((⟨#[49]⟩:ByteArray).data.toList)) (zab ((⟨#[51]⟩:ByteArray).data.toList)) = -1 from by kernel_rfl] at h;exact h
theorem zpu (w:World) (hT:Tabs w):Calls Tryz.prog 36 #[.string ⟨#[50]⟩] w fun e w'=>e = .returned (.tuple #[.agg #[.string ⟨#[55,48,55,47,53,48,48]⟩,.string ⟨#[50,56,51,47,50,48,48]⟩],.int .i64 0])∧Below w.heap.size w w':=by
 have h:=znW 0 ⟨false,2,1⟩ (lowQ false 1414 1000) (lowQ false (1414+1) 1000) ⟨#[50]⟩ w hT (Aa rfl) rfl ((zfL (by omega)).mono (by omega)) ((zfL (by omega)).mono (by omega)) (Aa (fun W hT=>zev ⟨#[50]⟩ (by decide) ⟨false,2,1⟩ (by kernel_rfl) (by kernel_rfl) W hT))
  (Aa (fun v W hT hv=>zfY ⟨false,2,1⟩ 1 1 v W hT hv ((zbC (by decide) (by decide)).mono (by omega)) ⟨by decide,by decide⟩ ⟨by decide,by decide⟩ (by decide) 1414 ⟨by decide +kernel,by decide +kernel⟩ (Aa (by decide))))
 rw [show zcj (lowQ false 1414 1000) (lowQ false (1414+1) 1000)=0 from by kernel_rfl] at h;exact zeM #[55,48,55,47,53,48,48] #[50,56,51,47,50,48,48] h (by kernel_rfl) (by kernel_rfl)
theorem zqG (w:World) (hT:Tabs w):Calls Tryz.prog 55 #[.string ⟨#[49,47,51]⟩] w fun e w'=>e = .returned (.tuple #[.float .f32 1051372203,.int .i64 0])∧Below w.heap.size w w':=by
 have h:=zg6 ⟨#[49,47,51]⟩ w hT (by decide);rw [show zad ((⟨#[49,47,51]⟩:ByteArray).data.toList)=0 from by kernel_rfl,if_neg (by omega),if_neg (by omega),show flW (zab ((⟨#[49,47,51]⟩:ByteArray).data.toList))=1051372203 from by decide +kernel,show flX (zab ((⟨#[49,47,51]⟩:ByteArray).data.toList))=0 from by decide +kernel] at h;exact h
theorem zq5 (w:World) (hT:Tabs w):Calls Tryz.prog 55 #[.string ⟨#[49,54,55,55,55,50,49,55]⟩] w fun e w'=>e = .returned (.tuple #[.float .f32 1266679808,.int .i64 0])∧Below w.heap.size w w':=by
 have h:=zg6 ⟨#[49,54,55,55,55,50,49,55]⟩ w hT (by decide);rw [show zad ((⟨#[49,54,55,55,55,50,49,55]⟩:ByteArray).data.toList)=0 from by kernel_rfl,if_neg (by omega),if_neg (by omega),show flW (zab ((⟨#[49,54,55,55,55,50,49,55]⟩:ByteArray).data.toList))=1266679808 from by decide +kernel,show flX (zab ((⟨#[49,54,55,55,55,50,49,55]⟩:ByteArray).data.toList))=0 from by decide +kernel] at h;exact h
theorem zqY (w:World) (hT:Tabs w):Calls Tryz.prog 55 #[.string ⟨#[49,54,55,55,55,50,49,57]⟩] w fun e w'=>e = .returned (.tuple #[.float .f32 1266679810,.int .i64 0])∧Below w.heap.size w w':=by
 have h:=zg6 ⟨#[49,54,55,55,55,50,49,57]⟩ w hT (by decide);rw [show zad ((⟨#[49,54,55,55,55,50,49,57]⟩:ByteArray).data.toList)=0 from by kernel_rfl,if_neg (by omega),if_neg (by omega),show flW (zab ((⟨#[49,54,55,55,55,50,49,57]⟩:ByteArray).data.toList))=1266679810 from by decide +kernel,show flX (zab ((⟨#[49,54,55,55,55,50,49,57]⟩:ByteArray).data.toList))=0 from by decide +kernel] at h;exact h
theorem znh (w:World) (hT:Tabs w):Calls Tryz.prog 56 #[.float .f32 1051372203] w fun e w'=>e = .returned (.tuple #[.string ⟨#[49,49,49,56,52,56,49,49,47,51,51,53,53,52,52,51,50]⟩,.int .i64 0])∧Below w.heap.size w w':=by
 have h:=zoj 1051372203 w hT;rw [show Flt.fin Ieee.single 1051372203=true from by decide +kernel,if_pos rfl,if_pos rfl,show zao (exQ 1051372203)=0 from by decide +kernel] at h;exact zdd #[49,49,49,56,52,56,49,49,47,51,51,53,53,52,52,51,50] h (by kernel_rfl)
theorem zpn (w:World):Calls Tryz.prog 46 #[.int .i64 1,.int .i64 3] w fun e w'=>∃ g,e = .returned (.tuple #[.slice (some ⟨g,0,none⟩) 3 3,.int .i64 0])∧w.heap.size≤g∧w'.ownsRow g 3 1 (.slice (some ⟨g,0,none⟩) 3 3) 3 [.int .i64 1,.int .i64 2,.int .i64 0]∧Below w.heap.size w w':=by
 have h:=zmA 1 3 w (by omega) (by omega) (by omega);rw [show (Dl.drawL 1 3).map natv=[.int .i64 1,.int .i64 2,.int .i64 0] from by kernel_rfl] at h;exact h
theorem zmx (A:Option Addr) (c:Nat) (w:World) (h:zaC w w.heap.size 1 A 3 [.int .i64 1,.int .i64 2,.int .i64 4]):Calls Tryz.prog 45 #[.int .i64 50,.slice A 3 c] w fun e w'=>∃ g,e = .returned (.tuple #[.slice (some ⟨g,0,none⟩) 3 3,.int .i64 0])∧w.heap.size≤g∧w'.ownsRow g 3 1 (.slice (some ⟨g,0,none⟩) 3 3) 3 [.int .i64 7,.int .i64 14,.int .i64 29]∧Below w.heap.size w w':=by
 have h2:=zi9 50 A 3 c [1,2,4] w (by omega) h (by decide) (by omega) (by omega) (by decide);rw [show (Dl.shares 50 [1,2,4]).map natv=[.int .i64 7,.int .i64 14,.int .i64 29] from by kernel_rfl] at h2;exact h2
end
section
open Go.RowKit Bn
open Flt
theorem zei {l:List UInt8} (h:zad l=0):LowQ (zab l):=⟨zfq h,znL h,znd h⟩
end
section
open Go.RowKit Dn
theorem zbA {a:ByteArray} (h:zad a.data.toList=0):NumQ a (zab a.data.toList):=⟨(zj1 _ h).symm,zei h⟩
end
section
open Go.RowKit Bn
theorem zhV (A A':Option Addr) (n c c':Nat) (xs:List Value) (hxs:∀ x ∈ xs,∃ i:Int,x = .int .i64 i) (w:World) (B:Nat) (h:zaC w B 1 A n xs) (h':zaC w B 1 A' n xs) (hn:n≤4096) :
  Calls Tryz.prog 57 #[.slice A n c,.slice A' n c'] w fun e w'=>e = .returned (.bool true)∧∃ m,w'=w.drewN m:=by
 have aE:xs.length=n:=by have:=h.1;omega
 have HX:=Aa hxs;clear hxs;go_enter Tryz.func57,Tryz.ntmps57
 go_wp2_with fail
 go_loopg [5] n (fun m s W=>∃ k:Nat,k≤n∧s = .int .i64 k∧n - k≤m∧∃ q,W=w.drewN q)
 case atStart=>exact ⟨0,Nat.zero_le _,rfl,by omega,0,rfl⟩
 case round=>
  obtain ⟨k,hk,rfl,hm,q,rfl⟩:=hrel
  by_cases h0:k<n
  ·obtain ⟨ad,u,rfl,aH,hu,aD⟩:=h.at_ h0
   obtain ⟨aG,u2,rfl,aF,aA,aC⟩:=h'.at_ h0;obtain rfl:u=u2:=by rw [hu] at aA;exact Option.some.inj aA
   obtain ⟨i,rfl⟩:=HX.out u (List.mem_of_getElem? hu);clear hu aA
   go_wp2_with fail
   go_region
   go_wp2_with fail
   go_roundg (n - (k+1))
   case measure=>omega
   case rel=>exact ⟨k+1,by omega,by go_num,Nat.le_refl _,_,rfl⟩
  ·obtain rfl:n=k:=by omega
   go_wp2_with fail
   go_ret;exact ⟨rfl,q,rfl⟩
theorem zpU (s t:ByteArray) (w:World):Calls Tryz.prog 37 #[.string s,.string t] w fun e w'=>e = .returned (.agg #[.string s,.string t])∧Below w.heap.size w w':=by
 have hb:Below w.heap.size w (w.alloc (.cells #[.string ⟨#[]⟩,.string ⟨#[]⟩] 39)):=Ac;have q:CBlk (w.alloc (.cells #[.string ⟨#[]⟩,.string ⟨#[]⟩] 39)) w.heap.size #[.string ⟨#[]⟩,.string ⟨#[]⟩] 39:=CBlk.new _ _ _ _ rfl;have y0:=q.cell 0;have y1:=q.cell 1;have f0:=q.frozen 0;have f1:=q.frozen 1;have aA:=zbH hb (g:=w.heap.size) (Nat.le_refl _) (.string s) (.string t);go_enter Tryz.func37,Tryz.ntmps37
 go_upto_region 1 with (fail)
 generalize w.alloc (.cells #[.string ⟨#[]⟩,.string ⟨#[]⟩] 39)=W at *;go_wp2
 refine bodyPost_ret (v := .agg #[.string s,.string t]) (by simp [results,Tryz.results37,go_sem,y0,y1]) rfl ⟨rfl,aA⟩
end
end Go.Proofs.YtmkondcdejlhcaaGreatDoor
