/- Contract of package number's Shares, up to 19 weights. -/
import Derived.Test.YtbkgkoenppkhpaaGreatDoorBSh2
import Derived.Test.YtbkgkoenppkhpaaGreatDoorBCdm2
namespace Go.Proofs.YtbkgkoenppkhpaaGreatDoor
section
open Go.RowKit Bn
theorem zr2(n:Nat)(hn:n≤256):∃ Z:Array Value,Z.toList=List.replicate n (.int .i64 0)∧Z.size=n ∧
  (∀ W:World,(Instr.makeSlice 78 (.int .i64 (n:Int)) (.int .i64 (n:Int))).run Tryz.prog W = .ok (.slice (some ⟨W.heap.size,0,none⟩) n n) (W.alloc (.cells Z 3))):=by
 obtain⟨i0,aA,aE,aC,aD⟩:=info_parts zcc;refine⟨madeCells #[.int .i64 0] n,toList_madeCells_one _ _,size_madeCells _ _,fun W => ?_⟩;have h:=run_make (P:=Tryz.prog) W 78 3 i0 (.int .i64 0) Tryz.underlying78 aA aE .i64 .i64 n n (by omega) (by omega) (by rw[aD];omega) (by omega);rw[aC,Nat.mul_one,Int.toNat_natCast] at h;exact h
theorem zoU:(Tryz.prog.info? 2).map (fun i=>(i.zero,i.size,i.bytes))=some (some (.int .i64 0),1,8):=by kernel_rfl
theorem zrM(n:Nat)(hn:n≤256):∃ Z:Array Value,Z.toList=List.replicate n (.int .i64 0)∧Z.size=n ∧
  (∀ W:World,(Instr.makeSlice 152 (.int .i64 (n:Int)) (.int .i64 (n:Int))).run Tryz.prog W = .ok (.slice (some ⟨W.heap.size,0,none⟩) n n) (W.alloc (.cells Z 2))):=by
 obtain⟨i0,aA,aE,aC,aD⟩:=info_parts zoU;refine⟨madeCells #[.int .i64 0] n,toList_madeCells_one _ _,size_madeCells _ _,fun W => ?_⟩;have h:=run_make (P:=Tryz.prog) W 152 2 i0 (.int .i64 0) Tryz.underlying152 aA aE .i64 .i64 n n (by omega) (by omega) (by rw[aD];omega) (by omega);rw[aC,Nat.mul_one,Int.toNat_natCast] at h;exact h
theorem zh6{W:World}{b n:Nat}{Z:Array Value}{t:TypeId}(hs:Z.size=n)(hn:n≤256)(h:W.heap[b]? = some (.cells Z t (0,0))):W.ownsRow b t 1 (.slice (some ⟨b,0,none⟩) n n) n Z.toList:=by
 subst hs;refine⟨by simp,.inr ⟨b,Z.size,Z,rfl,Nat.le_refl _,h,Nat.le_refl _,by unfold maxLen;omega,by simp,by rw[Nat.mul_one];exact List.take_of_length_le (by simp)⟩⟩
theorem zgi{x:Nat}:∀ {l:List Nat},x ∈ l→x≤l.sum
 | a :: t,h=>by
  rw[List.sum_cons]
  rcases List.mem_cons.1 h with rfl | h1
  ·omega
  ·have:=zgi h1;omega
theorem zkm (l:List Nat) (k:Nat) (h:k<l.length):(l.take (k+1)).sum=(l.take k).sum+l[k]:=by
 rw[List.take_succ_eq_append_getElem h,List.sum_append];simp
theorem zj3(l:List Nat)(k:Nat):(l.take k).sum≤l.sum:=by
 have h:(l.take k++l.drop k).sum=l.sum:=by rw[List.take_append_drop]
 rw[List.sum_append] at h;omega
theorem zgy(M:Nat):∀ l:List Nat,(∀ x ∈ l,x≤M)→l.sum≤l.length*M
 | [],_=>by simp
 | a :: t,h=>by
  have h1:=h a (by simp);have h2:=zgy M t (fun x hx=>h x (by simp[hx]));rw[List.sum_cons,List.length_cons,Nat.add_mul];omega
theorem zpU (T S:Nat) (l rs:List Nat) (h:rs=l.map (fun x=>T*x%S)):(fun i=>rs.getD i 0)=Dl.shRem T S l:=by
 subst h
 funext i
 unfold Dl.shRem
 by_cases hi:i<l.length
 ·simp[List.getD,hi]
 ·simp[List.getD,hi]
theorem zpC(sh ord:List Nat)(k:Nat)(h:k<ord.length):(Dl.incAll sh (ord.take k)).set ord[k] ((Dl.incAll sh (ord.take k)).getD ord[k] 0+1)=Dl.incAll sh (ord.take (k+1)):=by
 unfold Dl.incAll;rw[List.take_succ_eq_append_getElem h,List.foldl_append];rfl
theorem zjR(l:List Nat)(i:Nat):l.getD i 0≤l.sum:=by
 by_cases hi:i<l.length
 ·have:l.getD i 0=l[i]:=by simp[List.getD,hi]
  rw[this];exact zgi (List.getElem_mem hi)
 ·have:l.getD i 0=0:=by simp[List.getD,hi]
  omega
theorem zm1(sh p:List Nat)(h:∀ y ∈ p,y<sh.length)(i:Nat)(hi:i<sh.length):(Dl.incAll sh p).getD i 0≤sh.sum+p.length:=by
 have:=zjR (Dl.incAll sh p) i;rw[Dl.incAll_sum p sh h] at this;exact this
set_option maxHeartbeats 4000000 in
set_option maxRecDepth 100000 in
theorem znc(T:Nat)(A:Option Addr)(n c:Nat)(l:List Nat)(w:World)(hT:T≤999999999)(h:zaA w w.heap.size 1 A n (l.map natv))(hl:∀ x ∈ l,x≤999999999)(hn1:1≤n)(hn:n≤19)(hz:zie l=false) :
  Calls Tryz.prog 56 #[.int .i64 (T:Int),.slice A n c] w fun e w'=>
   ∃ b,e = .returned (.tuple #[.slice (some ⟨b,0,none⟩) n n,.int .i64 0])∧w.heap.size≤b∧w'.ownsRow b 3 1 (.slice (some ⟨b,0,none⟩) n n) n ((Dl.shares T l).map natv)∧Below w.heap.size w w':=by
 have aS:l.length=n:=by have:=h.1;rw[List.length_map] at this;omega
 have r1:=Aa (fun W=>zdl (T:Int) 0 999999999 W (by omega) (by omega));have r2:=Aa (zgB A n c l w h hl hn1 (by omega) hz);have HL:=Aa hl;obtain⟨Z,dK,cE,fK⟩:=zr2 n (by omega);obtain⟨Z',bQ,bU,cH⟩:=zrM n (by omega);have fA:l.sum≠0:=fun e=>by
  have:zie l=true:=by
   unfold zie;rw[List.all_eq_true];intro x hx;have:=zgi hx;simp;omega
  rw[this] at hz;cases hz
 clear hl hz;go_enter Tryz.func56,Tryz.ntmps56
 go_wp2_with fail
 refine(r1.out w).mono ?_;rintro e w1 ⟨rfl,rfl⟩
 go_wp2_with fail
 refine r2.out.mono ?_;rintro e w1 ⟨rfl,cV⟩
 go_wp2_with fail
 refine(zfj 0 0 w1 _ _ rfl).mono ?_;rintro e w2 ⟨rfl,rfl⟩;have aJ:Below w.heap.size w (w1.alloc (.cells #[.int .i64 0,.int .i64 0] 27)):=cV.alloc cV.size _;generalize w1.alloc (.cells #[.int .i64 0,.int .i64 0] 27)=w2 at *;clear r1 r2
 go_wp2_with fail
 have h2:=h.below aJ
 go_loopg [7,30] n (fun m s t W=>∃ k:Nat,k≤n∧t = .int .i64 k∧s = .int .i64 ((l.take k).sum:Nat)∧n-k≤m∧W=w2)
 case atStart=>exact⟨0,Nat.zero_le _,rfl,rfl,by omega,rfl⟩
 case round=>
  obtain⟨k,hk,rfl,rfl,hm,rfl⟩:=hrel
  by_cases h0:k<n
  ·have bM:k<l.length:=by omega
   obtain⟨ad,u,rfl,fC,hu,bT⟩:=h2.at_ h0;have cN:u = .int .i64 (l[k]:Int):=by simp[natv,bM] at hu;exact hu.symm
   subst cN;have hx:=HL.out l[k] (List.getElem_mem bM);have cQ:=zkm l k bM;have cG:=zgy 999999999 (l.take k) (fun x hx=>HL.out x (List.mem_of_mem_take hx));rw[List.length_take] at cG;have fH:(l.take k).sum≤20000000000:=by
    refine Nat.le_trans cG ?_;have:min k l.length≤19:=by omega
    have:=Nat.mul_le_mul_right 999999999 this;omega
   clear cG hu;generalize (l.take k).sum=s0 at *;generalize l[k]=x at *
   go_wp2_with fail
   go_roundg (n-(k+1))
   case measure=>omega
   case rel=>exact⟨k+1,by omega,by go_num,by rw[cQ];go_num,Nat.le_refl _,rfl⟩
  ·obtain rfl:n=k:=by omega
   rw[List.take_of_length_le (by omega)];clear h0 hm hk;go_upto_region 10 with(fail)
   obtain⟨cC,bE⟩:∃ g,g=wr.heap.size:=⟨_,rfl⟩;have bJ:w.heap.size≤cC:=by rw[bE];exact aJ.size
   obtain⟨bS,aT⟩:∃ I:Array Bool→Act→World→Prop,I=(fun aK ac W=>∃ (b0 b1 b2 b3 b4 b5 b6 b7:Bool) (bD aZ bA bB aY bC aU aX:Value) (aA:Nat) (aC:Nat),aK=#[b0,b1,b2,b3,b4,b5,b6,b7]∧ac={ tmps:=#[.int .i64 (T:Int),.slice A n c,undef,undef,.slice none 0 0,.int .i64 0,.int .i64 0,.int .i64 (l.sum:Nat),undef,u9,aU,aX,undef,undef,undef,undef,undef,undef,undef,.int .i64 (T:Int),.int .i64 0,.slice A n c,.int .i64 0,.slice (some ⟨w1.heap.size,0,none⟩) 2 2,.int .i64 0,.int .i64 0,.bool false,undef,.slice A n c,.int .i64 (n:Int),.int .i64 (n:Int),.bool false,u32,u33,u34,u35,u36,u37,bD,aZ,bA,bB,aY,bC,undef,undef,undef,undef,undef,undef,undef,undef,undef,undef,undef,undef,undef,undef,undef,undef,undef,undef,undef,undef,undef,undef,undef,undef,undef,undef,undef,undef,undef,undef,undef,undef,undef,undef,undef,undef,undef,undef,undef,undef,undef,undef,undef,undef,undef,undef,undef,undef,undef,undef,undef,undef,undef,undef,undef,undef],defers:=[] }∧cC≤W.heap.size∧Below w.heap.size w W∧(b0=true→bD = .slice A n c)∧(b1=true→aZ = .int .i64 (n:Int))∧(b2=true→bA = .slice (some ⟨aA,0,none⟩) n n∧cC≤aA∧aA<W.heap.size∧CBlk W aA Z 3)∧(b3=true→bB = .slice A n c)∧(b4=true→aY = .int .i64 (n:Int))∧(b5=true→bC = .slice (some ⟨aC,0,none⟩) n n∧cC≤aC∧aC<W.heap.size∧CBlk W aC Z 3)∧(b6=true→b2=true∧aU = .slice (some ⟨aA,0,none⟩) n n)∧(b7=true→b5=true∧aX = .slice (some ⟨aC,0,none⟩) n n)∧(b2=true→b5=true→aA≠aC)):=⟨_,rfl⟩;have aD:=Aa aT;clear aT;refine zbU (by kernel_rfl) bS (by kernel_rfl) ?_ ?_ ?_
   ·rw[aD.out]
    exact⟨false,false,false,false,false,false,false,false,undef,undef,undef,undef,undef,undef,undef,undef,0,0,rfl,rfl,(by rw[bE];exact Nat.le_refl _),aJ.drew,(fun h=>by cases h),(fun h=>by cases h),(fun h=>by cases h),(fun h=>by cases h),(fun h=>by cases h),(fun h=>by cases h),(fun h=>by cases h),(fun h=>by cases h),(fun h=>by cases h)⟩
   ·intro i op aK ac W ho hI hl aE
    rw[aD.out] at hI;obtain⟨b0,b1,b2,b3,b4,b5,b6,b7,bD,aZ,bA,bB,aY,bC,aU,aX,aA,aC,rfl,rfl,aR,aJ,f0,f1,f2,f3,f4,f5,f6,f7,aH⟩:=hI;clear bE
    match i,ho,hl,aE with
    | 0,ho,hl,aE=>
     have aV:b0=false:=Option.some.inj hl;obtain rfl:=Option.some.inj ho;refine zas ho fun K' hK => ?_
     go_simp
     refine hK.out _ _ ?_;rw[aD.out];exact⟨true,b1,b2,b3,b4,b5,b6,b7,(.slice A n c),aZ,bA,bB,aY,bC,aU,aX,aA,aC,rfl,rfl,aR,aJ,(fun _=>rfl),f1,f2,f3,f4,f5,f6,f7,aH⟩
    | 1,ho,hl,aE=>
     have aV:b1=false:=Option.some.inj hl;obtain rfl:=Option.some.inj ho;have e0:b0=true:=aE ⟨0,.data⟩ (by simp) rfl;obtain rfl:=f0 e0;refine zas ho fun K' hK => ?_
     go_simp
     refine hK.out _ _ ?_;rw[aD.out];exact⟨b0,true,b2,b3,b4,b5,b6,b7,(.slice A n c),(.int .i64 (n:Int)),bA,bB,aY,bC,aU,aX,aA,aC,rfl,rfl,aR,aJ,f0,(fun _=>rfl),f2,f3,f4,f5,f6,f7,aH⟩
    | 2,ho,hl,aE=>
     have aV:b2=false:=Option.some.inj hl;obtain rfl:=Option.some.inj ho;have e1:b1=true:=aE ⟨1,.data⟩ (by simp) rfl;obtain rfl:=f1 e1;refine zas ho fun K' hK => ?_
     have hb:Below W.heap.size W (W.alloc (.cells Z 3)):=Ac
     go_simp
     refine hK.out _ _ ?_;rw[aD.out];exact⟨b0,b1,true,b3,b4,b5,b6,b7,bD,(.int .i64 (n:Int)),(.slice (some ⟨W.heap.size,0,none⟩) n n),bB,aY,bC,aU,aX,W.heap.size,aC,rfl,rfl,(Nat.le_trans aR hb.size),(aJ.trans (hb.mono aJ.size)),f0,f1,(fun _=>⟨rfl,aR,by simp,CBlk.new W _ _ _ rfl⟩),f3,f4,(fun h=>⟨(f5 h).1,(f5 h).2.1,Nat.lt_of_lt_of_le (f5 h).2.2.1 hb.size,(f5 h).2.2.2.below hb (f5 h).2.2.1⟩),(fun h=>by rw[(f6 h).1] at aV;cases aV),f7,(fun _ h=>Nat.ne_of_gt (f5 h).2.2.1)⟩
    | 3,ho,hl,aE=>
     have aV:b3=false:=Option.some.inj hl;obtain rfl:=Option.some.inj ho;refine zas ho fun K' hK => ?_
     go_simp
     refine hK.out _ _ ?_;rw[aD.out];exact⟨b0,b1,b2,true,b4,b5,b6,b7,bD,aZ,bA,(.slice A n c),aY,bC,aU,aX,aA,aC,rfl,rfl,aR,aJ,f0,f1,f2,(fun _=>rfl),f4,f5,f6,f7,aH⟩
    | 4,ho,hl,aE=>
     have aV:b4=false:=Option.some.inj hl;obtain rfl:=Option.some.inj ho;have e3:b3=true:=aE ⟨3,.data⟩ (by simp) rfl;obtain rfl:=f3 e3;refine zas ho fun K' hK => ?_
     go_simp
     refine hK.out _ _ ?_;rw[aD.out];exact⟨b0,b1,b2,b3,true,b5,b6,b7,bD,aZ,bA,(.slice A n c),(.int .i64 (n:Int)),bC,aU,aX,aA,aC,rfl,rfl,aR,aJ,f0,f1,f2,f3,(fun _=>rfl),f5,f6,f7,aH⟩
    | 5,ho,hl,aE=>
     have aV:b5=false:=Option.some.inj hl;obtain rfl:=Option.some.inj ho;have e4:b4=true:=aE ⟨4,.data⟩ (by simp) rfl;obtain rfl:=f4 e4;refine zas ho fun K' hK => ?_
     have hb:Below W.heap.size W (W.alloc (.cells Z 3)):=Ac
     go_simp
     refine hK.out _ _ ?_;rw[aD.out];exact⟨b0,b1,b2,b3,b4,true,b6,b7,bD,aZ,bA,bB,(.int .i64 (n:Int)),(.slice (some ⟨W.heap.size,0,none⟩) n n),aU,aX,aA,W.heap.size,rfl,rfl,(Nat.le_trans aR hb.size),(aJ.trans (hb.mono aJ.size)),f0,f1,(fun h=>⟨(f2 h).1,(f2 h).2.1,Nat.lt_of_lt_of_le (f2 h).2.2.1 hb.size,(f2 h).2.2.2.below hb (f2 h).2.2.1⟩),f3,f4,(fun _=>⟨rfl,aR,by simp,CBlk.new W _ _ _ rfl⟩),f6,(fun h=>by rw[(f7 h).1] at aV;cases aV),(fun h _=>Nat.ne_of_lt (f2 h).2.2.1)⟩
    | 6,ho,hl,aE=>
     have aV:b6=false:=Option.some.inj hl;obtain rfl:=Option.some.inj ho;have e2:b2=true:=aE ⟨2,.data⟩ (by simp) rfl;obtain⟨rfl,fI,fB,fD⟩:=f2 e2;refine zas ho fun K' hK => ?_
     go_simp
     refine hK.out _ _ ?_;rw[aD.out];exact⟨b0,b1,b2,b3,b4,b5,true,b7,bD,aZ,(.slice (some ⟨aA,0,none⟩) n n),bB,aY,bC,(.slice (some ⟨aA,0,none⟩) n n),aX,aA,aC,rfl,rfl,aR,aJ,f0,f1,f2,f3,f4,f5,(fun _=>⟨e2,rfl⟩),f7,aH⟩
    | 7,ho,hl,aE=>
     have aV:b7=false:=Option.some.inj hl;obtain rfl:=Option.some.inj ho;have e5:b5=true:=aE ⟨5,.data⟩ (by simp) rfl;obtain⟨rfl,fI,fB,fD⟩:=f5 e5;refine zas ho fun K' hK => ?_
     go_simp
     refine hK.out _ _ ?_;rw[aD.out];exact⟨b0,b1,b2,b3,b4,b5,b6,true,bD,aZ,bA,bB,aY,(.slice (some ⟨aC,0,none⟩) n n),aU,(.slice (some ⟨aC,0,none⟩) n n),aA,aC,rfl,rfl,aR,aJ,f0,f1,f2,f3,f4,f5,f6,(fun _=>⟨e5,rfl⟩),aH⟩
    | n+8,ho,hl,aE=>exact absurd ho (by simp)
   ·intro aK ac Y hI aG
    rw[aD.out] at hI;clear aJ;obtain⟨b0,b1,b2,b3,b4,b5,b6,b7,bD,aZ,bA,bB,aY,bC,aU,aX,aA,aC,rfl,rfl,aR,aJ,f0,f1,f2,f3,f4,f5,f6,f7,aH⟩:=hI;have e0:b0=true:=aG 0 b0 (by decide) rfl;have e1:b1=true:=aG 1 b1 (by decide) rfl;have e2:b2=true:=aG 2 b2 (by decide) rfl;have e3:b3=true:=aG 3 b3 (by decide) rfl;have e4:b4=true:=aG 4 b4 (by decide) rfl;have e5:b5=true:=aG 5 b5 (by decide) rfl;have e6:b6=true:=aG 6 b6 (by decide) rfl;have e7:b7=true:=aG 7 b7 (by decide) rfl;subst e0;subst e1;subst e2;subst e3;subst e4;subst e5;subst e6;subst e7;obtain rfl:=f0 rfl;obtain rfl:=f1 rfl;obtain⟨rfl,aN,aL,qs⟩:=f2 rfl;obtain rfl:=f3 rfl;obtain rfl:=f4 rfl;obtain⟨rfl,aO,aP,qo⟩:=f5 rfl;obtain⟨_,rfl⟩:=f6 rfl;obtain⟨_,rfl⟩:=f7 rfl;clear f0 f1 f2 f3 f4 f5 f6 f7 aG aD;have bK:w.heap.size≤Y.heap.size:=aJ.size;have hS:=zh6 cE (by omega) qs;have hO:=zh6 cE (by omega) qo;rw[dK] at hS hO;have cB:=Aa (aH rfl rfl);have dA:w.heap.size≤aA:=Nat.le_trans bJ aN;have dM:w.heap.size≤aC:=Nat.le_trans bJ aO;clear aH fK aN aO bJ aR qs qo h2 cV bE;generalize aA=S at *;generalize aC=O at *
    go_wp2_with fail
    have dB:Below w.heap.size w ((Y.alloc (.cells Z' 2)).alloc (.cells #[.slice (some ⟨Y.heap.size,0,none⟩) n n] 152)):=(aJ.alloc bK _).alloc (by simp;omega) _;have cK:=zhw (w':=(Y.alloc (.cells Z' 2)).alloc (.cells #[.slice (some ⟨Y.heap.size,0,none⟩) n n] 152)) hS (((Below.refl Y.heap.size Y).alloc (Nat.le_refl _) _).alloc (by simp) _ |>.block S aL)
    have dC:=zhw (w':=(Y.alloc (.cells Z' 2)).alloc (.cells #[.slice (some ⟨Y.heap.size,0,none⟩) n n] 152)) hO (((Below.refl Y.heap.size Y).alloc (Nat.le_refl _) _).alloc (by simp) _ |>.block O aP)
    have cM:CBlk ((Y.alloc (.cells Z' 2)).alloc (.cells #[.slice (some ⟨Y.heap.size,0,none⟩) n n] 152)) (Y.heap.size+1) #[.slice (some ⟨Y.heap.size,0,none⟩) n n] 152:=CBlk.new _ _ _ _ (by simp);have cO:CBlk ((Y.alloc (.cells Z' 2)).alloc (.cells #[.slice (some ⟨Y.heap.size,0,none⟩) n n] 152)) Y.heap.size Z' 2:=(CBlk.new Y _ _ _ rfl).alloc _;have hR:=zh6 bU (by omega) cO;rw[bQ] at hR;obtain⟨R,cU⟩:∃ b,b=Y.heap.size:=⟨_,rfl⟩;rw[←cU] at hR cM cO cK dC dB aL aP bK
    try rw[←cU]
    generalize (Y.alloc (.cells Z' 2)).alloc (.cells #[.slice (some ⟨R,0,none⟩) n n] 152)=X at *;clear cO hS hO cH aJ dK cE bQ bU cU;obtain⟨Su,bN⟩:∃ s,s=l.sum:=⟨_,rfl⟩;have fF:Su≤20000000000:=by
     have h9:=zgy 999999999 l HL.out;rw[bN];refine Nat.le_trans h9 ?_;have:=Nat.mul_le_mul_right 999999999 (show l.length≤19 by omega);omega
    obtain⟨sh,bW⟩:∃ s,s=Dl.shBase T Su l:=⟨_,rfl⟩;obtain⟨rs,dG⟩:∃ s,s=l.map (fun x=>T*x%Su):=⟨_,rfl⟩;have bG:sh.length=n:=by rw[bW];simp[Dl.shBase,aS]
    have bO:rs.length=n:=by rw[dG];simp[aS]
    have cY:sh.sum≤T:=by rw[bW,bN];exact(Dl.shRest_le T l (by omega)).1
    have cJ:=Aa bW;have dW:=Aa dG;rw[←bN] at fA
    try rw[←bN]
    have dF:=Aa bN;clear bW dG bN;have dZ:R+1≠S:=by omega
    have dL:R+1≠O:=by omega
    have dO:R≠S:=by omega
    have cR:R≠O:=by omega
    have HA:=Aa h;clear h
    go_loopg [13,50] n (fun m s t W=>∃ k:Nat,k≤n∧t = .int .i64 k∧s = .int .i64 ((T:Int)-((sh.take k).sum:Nat))∧n-k≤m ∧
     W.ownsRow S 3 1 (.slice (some ⟨S,0,none⟩) n n) n ((sh.take k).map natv++List.replicate (n-k) (.int .i64 0)) ∧
     W.ownsRow O 3 1 (.slice (some ⟨O,0,none⟩) n n) n (((List.range n).take k).map natv++List.replicate (n-k) (.int .i64 0)) ∧
     W.ownsRow R 2 1 (.slice (some ⟨R,0,none⟩) n n) n ((rs.take k).map natv++List.replicate (n-k) (.int .i64 0)) ∧
     CBlk W (R+1) #[.slice (some ⟨R,0,none⟩) n n] 152∧Below w.heap.size w W)
    case atStart=>exact⟨0,Nat.zero_le _,rfl,by go_num,by omega,by simpa using cK,by simpa using dC,by simpa using hR,cM,dB⟩
    case round=>
     clear cK dC hR cM dB;obtain⟨k,hk,rfl,rfl,hm,hS,hO,hR,hq,aF⟩:=hrel
     by_cases h0:k<n
     ·have bM:k<l.length:=by omega
      obtain⟨ad,u,rfl,fC,hu,bT⟩:=(HA.out.below aF).at_ h0;have cN:u = .int .i64 (l[k]:Int):=by simp[natv,bM] at hu;exact hu.symm
      subst cN;have hx:=HL.out l[k] (List.getElem_mem bM);have bY:sh[k]'(by omega)=T*l[k]/Su:=by simp only[cJ.out,Dl.shBase,List.getElem_map]
      have cA:rs[k]'(by omega)=T*l[k]%Su:=by simp only[dW.out,List.getElem_map]
      have dV:=Aa (zfV natv sh (.int .i64 0) n k (by omega) bG);have cW:=Aa (zfV natv (List.range n) (.int .i64 0) n k (by simpa using h0) (by simp));have dN:=Aa (zfV natv rs (.int .i64 0) n k (by omega) bO);have cQ:=zkm sh k (by omega);have fX:(sh.take (k+1)).sum≤T:=Nat.le_trans (zj3 sh (k+1)) cY;rw[List.getElem_range] at cW;generalize sh[k]'(by omega)=qv at *;generalize rs[k]'(by omega)=rv at *;generalize l[k]=x at *;obtain⟨p,hp⟩:∃ p,p=T*x:=⟨_,rfl⟩;rw[←hp] at bY cA;have fL:p≤999999998000000001:=by rw[hp];exact Nat.mul_le_mul hT hx
      have em:(T:Int)*(x:Int)=(p:Int):=by rw[hp];simp
      have fM:qv≤p:=by rw[bY];exact Nat.div_le_self _ _
      have fS:rv<Su:=by rw[cA];exact Nat.mod_lt _ (by omega)
      have fT:(p:Int).tdiv (Su:Int)=(qv:Int):=by rw[bY,Int.tdiv_eq_ediv_of_nonneg (by omega)];simp
      have fN:(p:Int).tmod (Su:Int)=(rv:Int):=by rw[cA,Int.tmod_eq_emod_of_nonneg (by omega)];simp
      have fV:((Su:Int)=0)=False:=by simp;omega
      have bL:=zdG hS k (natv qv);have bF:=ownsRow_setCell_other hO (a:=⟨S,k,none⟩) (by simp only[Value.ownBlock];exact fun e=>cB.out (Option.some.inj e).symm) (natv qv);have dJ:=ownsRow_setCell_other hR (a:=⟨S,k,none⟩) (by simp only[Value.ownBlock];exact fun e=>dO (Option.some.inj e)) (natv qv);have cS:=hq.setFar (i:=k) (Ne.symm dZ) (natv qv);have bX:=ownsRow_setCell_other bL (a:=⟨O,k,none⟩) (by simp only[Value.ownBlock];exact fun e=>cB.out (Option.some.inj e)) (natv k);have dU:=zdG bF k (natv k);have bV:=ownsRow_setCell_other dJ (a:=⟨O,k,none⟩) (by simp only[Value.ownBlock];exact fun e=>cR (Option.some.inj e)) (natv k);have cP:=cS.setFar (i:=k) (Ne.symm dL) (natv k);have bZ:=ownsRow_setCell_other bX (a:=⟨R,k,none⟩) (by simp only[Value.ownBlock];exact fun e=>dO (Option.some.inj e).symm) (natv rv);have dD:=ownsRow_setCell_other dU (a:=⟨R,k,none⟩) (by simp only[Value.ownBlock];exact fun e=>cR (Option.some.inj e).symm) (natv rv);have cL:=zdG bV k (natv rv);have dX:=cP.setFar (i:=k) (show R≠R+1 by omega) (natv rv);have bH:=((aF.setCell (p:=⟨S,k,none⟩) dA (natv qv)).setCell (p:=⟨O,k,none⟩) dM (natv k)).setCell (p:=⟨R,k,none⟩) bK (natv rv);obtain⟨v1,ca⟩:=zee hS k h0;have fa:=zbG hS k;obtain⟨v2,cb⟩:=zee bF k h0;have fb:=zbG bF k;obtain⟨v3,cc⟩:=zee bV k h0;have fc:=zbG bV k;have cd:(((wr.setCell ⟨S,k,none⟩ (natv qv)).setCell ⟨O,k,none⟩ (natv k)).setCell ⟨R,k,none⟩ (natv rv)).cell? ⟨S,k,none⟩=some (.int .i64 (qv:Int)):=by
       rw[World.ownsRow.cellAt bZ k (by omega)];have fP:=hS.1;rw[List.getElem?_set_self (by omega)];rfl
      rw[dV.out] at bZ;rw[cW.out] at dD;rw[dN.out] at cL;have y0:=hq.cell 0;have y1:=cS.cell 0;have y2:=cP.cell 0;have fE:=fun (W:World) (a:Addr) (m:_)=>run_store Tryz.prog W a (.int .i64 (qv:Int)) m rfl
      have fU:=fun (W:World) (a:Addr) (m:_)=>run_store Tryz.prog W a (.int .i64 (rv:Int)) m rfl
      have fW:=fun (W:World) (a:Addr) (m:_)=>run_store Tryz.prog W a (.int .i64 (k:Int)) m rfl
      unfold natv at cb fb cc fc cd y1 y2;have W3:=Aa bZ;have W4:=Aa dD;have W5:=Aa cL;have W6:=Aa dX;have W7:=Aa bH;clear hS hO hR hq aF bL bF dJ cS bX dU bV cP bZ dD cL dX bH dV cW dN hu bY cA hp;generalize (sh.take k).sum=sk at *
      go_wp2_with fail
      go_region
      go_wp2_with fail
      go_roundg (n-(k+1))
      case measure=>omega
      case rel=>exact⟨k+1,by omega,by go_num,by rw[cQ];go_num,Nat.le_refl _,by exact W3.out,by exact W4.out,by exact W5.out,by exact W6.out,W7.out.drew⟩
     ·obtain rfl:n=k:=by omega
      have e1:(sh.take n).map natv++List.replicate (n-n) (.int .i64 0)=sh.map natv:=zfR natv sh (.int .i64 0) n bG;have e2:((List.range n).take n).map natv++List.replicate (n-n) (.int .i64 0)=(List.range n).map natv:=zfR natv (List.range n) (.int .i64 0) n (by simp);have e3:(rs.take n).map natv++List.replicate (n-n) (.int .i64 0)=rs.map natv:=zfR natv rs (.int .i64 0) n bO;rw[e1] at hS;rw[e2] at hO;rw[e3] at hR;rw[List.take_of_length_le (show sh.length≤n by omega)];obtain⟨aI,bI⟩:∃ r,r=T-sh.sum:=⟨_,rfl⟩;rw[show(T:Int)-(sh.sum:Nat)=(aI:Int) by omega];have dI:aI≤n:=by
       have h9:=Dl.shRest_len T l (by rw[←dF.out];omega);unfold Dl.shRest at h9;rw[←dF.out,←cJ.out] at h9;omega
      have fJ:=Aa bI;clear e1 e2 e3 bI h0 hm hk
      go_wp2_with fail
      refine(zhW O O (R+1) R n n rs (List.range n) wr hn1 hn (Ne.symm dL) (Ne.symm cR) hO hq hR (fun y hy=>by simpa using hy)).mono ?_;rintro e w9 ⟨rfl,cF,dP,bP⟩;have dQ:=zhw hS (bP S cB.out);have dT:Below w.heap.size w w9:=aF.trans (dP.mono dM);have bR:Dl.sortP (Dl.byKey (fun i=>rs.getD i 0)) (List.range n)=Dl.shOrder T Su l:=by
       unfold Dl.shOrder;rw[aS,zpU T Su l rs dW.out]
      rw[bR] at cF;clear hO hq hR bP hS bR dP aF;have fR:(Dl.shOrder T Su l).length=n:=by rw[Dl.shOrder_len];exact aS
      have dH:∀ y ∈ Dl.shOrder T Su l,y<n:=fun y hy=>by
       have:=(Dl.shOrder_perm T Su l).mem_iff.1 hy;rw[aS] at this;simpa using this
      have cT:Hid (Dl.incAll sh ((Dl.shOrder T Su l).take aI)=Dl.shares T l):=by
       have h1:=dF.out;have h2:=cJ.out;have h3:=fJ.out
       unfold Dl.shares Dl.shRest;rw[←h1,←h2,←h3];rfl
      generalize Dl.shOrder T Su l=aQ at *;have cI:=Aa dH;clear dH
      go_wp2_with fail
      go_loopg [88] aI (fun m s W=>∃ k:Nat,k≤aI∧s = .int .i64 k∧aI-k≤m ∧
       W.ownsRow S 3 1 (.slice (some ⟨S,0,none⟩) n n) n ((Dl.incAll sh (aQ.take k)).map natv)∧W.ownsRow O 3 1 (.slice (some ⟨O,0,none⟩) n n) n (aQ.map natv)∧Below w.heap.size w W)
      case atStart=>exact⟨0,Nat.zero_le _,rfl,by omega,by simpa[Dl.incAll] using dQ,cF,dT⟩
      case round=>
       clear dQ cF dT;obtain⟨k,hk,rfl,hm,hS,hO,aF⟩:=hrel
       by_cases h0:k<aI
       ·have cZ:k<aQ.length:=by omega
        have hi:=cI.out aQ[k] (List.getElem_mem cZ);have dY:=zpC sh aQ k cZ;have dR:=zm1 sh (aQ.take k) (fun y hy=>by rw[bG];exact cI.out y (List.mem_of_mem_take hy));have fG:(Dl.incAll sh (aQ.take k)).length=n:=by rw[Dl.incAll_len];exact bG
        have fO:(aQ.take k).length≤19:=by rw[List.length_take];omega
        have co:wr.cell? ⟨O,k,none⟩=some (.int .i64 (aQ[k]:Int)):=by rw[World.ownsRow.cellAt hO k (by omega)];simp[natv,cZ]
        generalize aQ[k]=i at *;have hv:=dR i (by omega);generalize Dl.incAll sh (aQ.take k)=L at *;have cs:wr.cell? ⟨S,i,none⟩=some (.int .i64 ((L.getD i 0:Nat):Int)):=by rw[World.ownsRow.cellAt hS i (by omega)];simp[natv,fG,hi,List.getD]
        have fs:=zbG hS i;have bL:=zdG hS i (natv (L.getD i 0+1));have bF:=ownsRow_setCell_other hO (a:=⟨S,i,none⟩) (by simp only[Value.ownBlock];exact fun e=>cB.out (Option.some.inj e).symm) (natv (L.getD i 0+1));have aM:=aF.setCell (p:=⟨S,i,none⟩) dA (natv (L.getD i 0+1));rw[←List.map_set,dY] at bL;have fQ:L.getD i 0≤1000000100:=by omega
        have aW:((L.getD i 0+1:Nat):Int)=((L.getD i 0:Nat):Int)+1:=by simp
        have fE:=fun (W:World) (a:Addr) (m:_)=>run_store Tryz.prog W a (.int .i64 (((L.getD i 0:Nat):Int)+1)) m rfl
        unfold natv at bF aM;have bX:Hid ((wr.setCell ⟨S,i,none⟩ (.int .i64 (((L.getD i 0:Nat):Int)+1))).ownsRow S 3 1 (.slice (some ⟨S,0,none⟩) n n) n ((Dl.incAll sh (aQ.take (k+1))).map natv)):=by rw[←aW];exact bL
        rw[aW] at bF aM;have W1:=Aa bF;have W2:=Aa aM;clear bL bF aM dY dR aW hS hO aF hv;generalize L.getD i 0=lv at *
        go_wp2_with fail
        go_roundg (aI-(k+1))
        case measure=>omega
        case rel=>exact⟨k+1,by omega,by go_num,Nat.le_refl _,bX.out,W1.out,W2.out⟩
       ·obtain rfl:k=aI:=by omega
        rw[cT.out] at hS;clear hO cI
        go_wp2_with fail
        go_ret2
        exact⟨S,rfl,dA,hS,aF⟩
theorem zhQ{w:World}{l:List UInt8}{x:Int}{f:FuncId}{args:Array Value}(a:Array UInt8)(h:Calls Tryz.prog f args w (zb7 w l x))(e:l=a.toList) :
  Calls Tryz.prog f args w fun e w'=>e = .returned (.tuple #[.string ⟨a⟩,.int .i64 x])∧Below w.heap.size w w':=
 h.mono fun _ _ ⟨s,he,hs,hb⟩=>⟨by
  rw[he];obtain⟨d⟩:=s;have:d=a:=by apply Array.ext';rw[←e];exact hs
  rw[this],hb⟩
theorem zff{w:World}{l m:List UInt8}{x:Int}{f:FuncId}{args:Array Value}(a b:Array UInt8)(h:Calls Tryz.prog f args w (zdI w l m x))(e1:l=a.toList)(e2:m=b.toList) :
  Calls Tryz.prog f args w fun e w'=>e = .returned (.tuple #[.agg #[.string ⟨a⟩,.string ⟨b⟩],.int .i64 x])∧Below w.heap.size w w':=
 h.mono fun _ _ ⟨s,t,he,hs,ht,hb⟩=>⟨by
  rw[he];obtain⟨d⟩:=s;obtain⟨d2⟩:=t;have h1:d=a:=by apply Array.ext';rw[←e1];exact hs
  have h2:d2=b:=by apply Array.ext';rw[←e2];exact ht
  rw[h1,h2],hb⟩
theorem zrG(w:World)(hT:Tabs w):Calls Tryz.prog 51 #[.int .i64 15,.int .i64 (-6)] w fun e w'=>e = .returned (.tuple #[.string ⟨#[45,53,47,50]⟩,.int .i64 0])∧Below w.heap.size w w':=by
 have h:=zsg 15 (-6) w hT (by omega) (by omega);rw[show zau (lowQ (decide ((15:Int)<0) != decide ((-6:Int)<0)) ((15:Int).natAbs*1) (1*(-6:Int).natAbs))=0 from by kernel_rfl] at h;exact zhQ #[45,53,47,50] h (by kernel_rfl)
theorem znh(w:World)(hT:Tabs w):Calls Tryz.prog 52 #[.string ⟨#[45,53,47,50]⟩] w fun e w'=>e = .returned (.tuple #[.string ⟨#[45,51]⟩,.int .i64 0])∧Below w.heap.size w w':=by
 have h:=zoW ⟨#[45,53,47,50]⟩ w hT (by decide) (by kernel_rfl);rw[show zau (zbd (zaf ((⟨#[45,53,47,50]⟩:ByteArray).data.toList)))=0 from by kernel_rfl] at h;exact zhQ #[45,51] h (by kernel_rfl)
theorem zmK(w:World)(hT:Tabs w):Calls Tryz.prog 20 #[.agg #[.string ⟨#[45,49]⟩,.string ⟨#[50]⟩],.agg #[.string ⟨#[45,51]⟩,.string ⟨#[52]⟩]] w fun e w'=>e = .returned (.tuple #[.agg #[.string ⟨#[45,54]⟩,.string ⟨#[56]⟩],.int .i64 0])∧Below w.heap.size w w':=by
 have h:=zlx ⟨#[45,49]⟩ ⟨#[50]⟩ ⟨#[45,51]⟩ ⟨#[52]⟩ w hT (by decide) (by decide) (by decide) (by decide) 0 (by kernel_rfl) _ rfl;rw[if_neg (by omega),if_neg (by omega),if_neg (by omega)] at h;rw[show zcm (zf7 (zaf ((⟨#[45,49]⟩:ByteArray).data.toList)) (zaf ((⟨#[50]⟩:ByteArray).data.toList)) (zaf ((⟨#[45,51]⟩:ByteArray).data.toList)) (zaf ((⟨#[52]⟩:ByteArray).data.toList))).1 (zf7 (zaf ((⟨#[45,49]⟩:ByteArray).data.toList)) (zaf ((⟨#[50]⟩:ByteArray).data.toList)) (zaf ((⟨#[45,51]⟩:ByteArray).data.toList)) (zaf ((⟨#[52]⟩:ByteArray).data.toList))).2=0 from by kernel_rfl] at h;exact zff #[45,54] #[56] h (by kernel_rfl) (by kernel_rfl)
theorem zoE(w:World)(hT:Tabs w):Calls Tryz.prog 21 #[.agg #[.string ⟨#[49]⟩,.string ⟨#[50]⟩],.agg #[.string ⟨#[52]⟩,.string ⟨#[56]⟩]] w fun e w'=>e = .returned (.tuple #[.agg #[.string ⟨#[49,47,56]⟩,.string ⟨#[49,47,50]⟩],.int .i64 0])∧Below w.heap.size w w':=by
 have h:=zmA ⟨#[49]⟩ ⟨#[50]⟩ ⟨#[52]⟩ ⟨#[56]⟩ w hT (by decide) (by decide) (by decide) (by decide) 0 (by kernel_rfl) _ rfl;rw[if_neg (by omega),if_neg (by omega),if_neg (by omega)] at h;rw[show zcm (zgS (zaf ((⟨#[49]⟩:ByteArray).data.toList)) (zaf ((⟨#[50]⟩:ByteArray).data.toList)) (zaf ((⟨#[52]⟩:ByteArray).data.toList)) (zaf ((⟨#[56]⟩:ByteArray).data.toList))).1 (zgS (zaf ((⟨#[49]⟩:ByteArray).data.toList)) (zaf ((⟨#[50]⟩:ByteArray).data.toList)) (zaf ((⟨#[52]⟩:ByteArray).data.toList)) (zaf ((⟨#[56]⟩:ByteArray).data.toList))).2=0 from by kernel_rfl] at h;exact zff #[49,47,56] #[49,47,50] h (by kernel_rfl) (by kernel_rfl)
theorem zpJ(w:World)(hT:Tabs w):Calls Tryz.prog 22 #[.agg #[.string ⟨#[49]⟩,.string ⟨#[50]⟩],.agg #[.string ⟨#[51]⟩,.string ⟨#[52]⟩]] w fun e w'=>e = .returned (.tuple #[.int .i64 (-1),.int .i64 0])∧Below w.heap.size w w':=by
 have h:=ziv ⟨#[49]⟩ ⟨#[50]⟩ ⟨#[51]⟩ ⟨#[52]⟩ w hT (by decide) (by decide) (by decide) (by decide) 0 (by kernel_rfl);rw[show rcmp (zaf ((⟨#[50]⟩:ByteArray).data.toList)) (zaf ((⟨#[51]⟩:ByteArray).data.toList)) = -1 from by kernel_rfl,show rcmp (zaf ((⟨#[49]⟩:ByteArray).data.toList)) (zaf ((⟨#[52]⟩:ByteArray).data.toList)) = -1 from by kernel_rfl] at h;exact h
theorem zpZ(w:World)(hT:Tabs w):Calls Tryz.prog 22 #[.agg #[.string ⟨#[49]⟩,.string ⟨#[50]⟩],.agg #[.string ⟨#[50]⟩,.string ⟨#[51]⟩]] w fun e w'=>e = .returned (.tuple #[.int .i64 (0),.int .i64 24])∧Below w.heap.size w w':=by
 have h:=ziv ⟨#[49]⟩ ⟨#[50]⟩ ⟨#[50]⟩ ⟨#[51]⟩ w hT (by decide) (by decide) (by decide) (by decide) 0 (by kernel_rfl);rw[show rcmp (zaf ((⟨#[50]⟩:ByteArray).data.toList)) (zaf ((⟨#[50]⟩:ByteArray).data.toList))=0 from by kernel_rfl,show rcmp (zaf ((⟨#[49]⟩:ByteArray).data.toList)) (zaf ((⟨#[51]⟩:ByteArray).data.toList)) = -1 from by kernel_rfl] at h;exact h
theorem zpD(w:World)(hT:Tabs w):Calls Tryz.prog 9 #[.string ⟨#[50]⟩] w fun e w'=>e = .returned (.tuple #[.agg #[.string ⟨#[55,48,55,47,53,48,48]⟩,.string ⟨#[50,56,51,47,50,48,48]⟩],.int .i64 0])∧Below w.heap.size w w':=by
 have h:=zqW 0 ⟨false,2,1⟩ (lowQ false 1414 1000) (lowQ false (1414+1) 1000) ⟨#[50]⟩ w hT (Aa rfl) rfl ((zft (by omega)).mono (by omega)) ((zft (by omega)).mono (by omega)) (Aa (fun W hT=>zef ⟨#[50]⟩ (by decide) ⟨false,2,1⟩ (by kernel_rfl) (by kernel_rfl) W hT))
  (Aa (fun v W hT hv=>ziH ⟨false,2,1⟩ 1 1 v W hT hv ((zbv (by decide) (by decide)).mono (by omega)) ⟨by decide,by decide⟩ ⟨by decide,by decide⟩ (by decide) 1414 ⟨by decide +kernel,by decide +kernel⟩ (Aa (by decide))))
 rw[show zcm (lowQ false 1414 1000) (lowQ false (1414+1) 1000)=0 from by kernel_rfl] at h;exact zff #[55,48,55,47,53,48,48] #[50,56,51,47,50,48,48] h (by kernel_rfl) (by kernel_rfl)
theorem zqt(w:World)(hT:Tabs w):Calls Tryz.prog 36 #[.string ⟨#[49,47,51]⟩] w fun e w'=>e = .returned (.tuple #[.float .f32 1051372203,.int .i64 0])∧Below w.heap.size w w':=by
 have h:=zdP ⟨#[49,47,51]⟩ w hT (by decide);rw[show zan ((⟨#[49,47,51]⟩:ByteArray).data.toList)=0 from by kernel_rfl,if_neg (by omega),if_neg (by omega),show flW (zaf ((⟨#[49,47,51]⟩:ByteArray).data.toList))=1051372203 from by decide +kernel,show flX (zaf ((⟨#[49,47,51]⟩:ByteArray).data.toList))=0 from by decide +kernel] at h;exact h
theorem zqE(w:World)(hT:Tabs w):Calls Tryz.prog 36 #[.string ⟨#[49,54,55,55,55,50,49,55]⟩] w fun e w'=>e = .returned (.tuple #[.float .f32 1266679808,.int .i64 0])∧Below w.heap.size w w':=by
 have h:=zdP ⟨#[49,54,55,55,55,50,49,55]⟩ w hT (by decide);rw[show zan ((⟨#[49,54,55,55,55,50,49,55]⟩:ByteArray).data.toList)=0 from by kernel_rfl,if_neg (by omega),if_neg (by omega),show flW (zaf ((⟨#[49,54,55,55,55,50,49,55]⟩:ByteArray).data.toList))=1266679808 from by decide +kernel,show flX (zaf ((⟨#[49,54,55,55,55,50,49,55]⟩:ByteArray).data.toList))=0 from by decide +kernel] at h;exact h
theorem zqP(w:World)(hT:Tabs w):Calls Tryz.prog 36 #[.string ⟨#[49,54,55,55,55,50,49,57]⟩] w fun e w'=>e = .returned (.tuple #[.float .f32 1266679810,.int .i64 0])∧Below w.heap.size w w':=by
 have h:=zdP ⟨#[49,54,55,55,55,50,49,57]⟩ w hT (by decide);rw[show zan ((⟨#[49,54,55,55,55,50,49,57]⟩:ByteArray).data.toList)=0 from by kernel_rfl,if_neg (by omega),if_neg (by omega),show flW (zaf ((⟨#[49,54,55,55,55,50,49,57]⟩:ByteArray).data.toList))=1266679810 from by decide +kernel,show flX (zaf ((⟨#[49,54,55,55,55,50,49,57]⟩:ByteArray).data.toList))=0 from by decide +kernel] at h;exact h
theorem zna(w:World)(hT:Tabs w):Calls Tryz.prog 30 #[.float .f32 1051372203] w fun e w'=>e = .returned (.tuple #[.string ⟨#[49,49,49,56,52,56,49,49,47,51,51,53,53,52,52,51,50]⟩,.int .i64 0])∧Below w.heap.size w w':=by
 have h:=zgC 1051372203 w hT;rw[show Flt.fin Ieee.single 1051372203=true from by decide +kernel,if_pos rfl,if_pos rfl,show zau (exQ 1051372203)=0 from by decide +kernel] at h;exact zhQ #[49,49,49,56,52,56,49,49,47,51,51,53,53,52,52,51,50] h (by kernel_rfl)
theorem zoV(w:World):Calls Tryz.prog 57 #[.int .i64 1,.int .i64 3] w fun e w'=>∃ g,e = .returned (.tuple #[.slice (some ⟨g,0,none⟩) 3 3,.int .i64 0])∧w.heap.size≤g∧w'.ownsRow g 3 1 (.slice (some ⟨g,0,none⟩) 3 3) 3 [.int .i64 1,.int .i64 2,.int .i64 0]∧Below w.heap.size w w':=by
 have h:=zqD 1 3 w (by omega) (by omega) (by omega);rw[show(Dl.drawL 1 3).map natv=[.int .i64 1,.int .i64 2,.int .i64 0] from by kernel_rfl] at h;exact h
theorem zlk(A:Option Addr)(c:Nat)(w:World)(h:zaA w w.heap.size 1 A 3 [.int .i64 1,.int .i64 2,.int .i64 4]):Calls Tryz.prog 56 #[.int .i64 50,.slice A 3 c] w fun e w'=>∃ g,e = .returned (.tuple #[.slice (some ⟨g,0,none⟩) 3 3,.int .i64 0])∧w.heap.size≤g∧w'.ownsRow g 3 1 (.slice (some ⟨g,0,none⟩) 3 3) 3 [.int .i64 7,.int .i64 14,.int .i64 29]∧Below w.heap.size w w':=by
 have h2:=znc 50 A 3 c [1,2,4] w (by omega) h (by decide) (by omega) (by omega) (by decide);rw[show(Dl.shares 50 [1,2,4]).map natv=[.int .i64 7,.int .i64 14,.int .i64 29] from by kernel_rfl] at h2;exact h2
end
section
open Go.RowKit Bn Dn
open Flt
theorem zcN{p:Q}(hb:0<p.bot)(hx:flX p=0):fin Ieee.single (flW p)=true∧key Ieee.single (flW p)=if p.top=0 then 0 else sgn p.neg (flN p.top p.bot*2^(flE p.top p.bot+149).toNat):=by
 unfold flX at hx;unfold flW
 by_cases h0:p.top=0
 ·rw[if_pos h0,if_pos h0]
  exact zbu
 ·rw[if_neg h0] at hx ⊢
  rw[if_neg h0];have ht:0<p.top:=by omega
  have hr:=(zdD ht hb).1
  by_cases h1:flN p.top p.bot=0
  ·rw[if_pos h1,h1,Nat.zero_mul]
   refine⟨zbu.1,zbu.2.trans ?_⟩;unfold sgn
   split<;>rfl
  ·rw[if_neg h1] at hx ⊢
   by_cases h2:2139095040≤rung (flN p.top p.bot) (flE p.top p.bot)
   ·rw[if_pos h2] at hx
    omega
   ·rw[if_neg h2]
    exact zfO p.neg hr (by omega)
theorem zkh{p:Q}(hl:LowQ p)(hx:flX p=0):flX (negQ p)=0∧fin Ieee.single (flW (negQ p))=true∧key Ieee.single (flW (negQ p)) = -key Ieee.single (flW p):=by
 have aA:flX (negQ p)=0:=hx;have h1:=(zcN hl.1 hx);have h2:=zcN (p:=negQ p) hl.1 aA;refine⟨aA,h2.1,?_⟩;rw[h2.2,h1.2];show(if p.top=0 then 0 else sgn (!p.neg && decide (0<p.top)) _)=_
 by_cases h0:p.top=0
 ·rw[if_pos h0,if_pos h0];rfl
 ·rw[if_neg h0,if_neg h0,decide_eq_true (show 0<p.top by omega),Bool.and_true,zqs]
  rfl
theorem zgr{x y:Nat}(hx:fin Ieee.single x=true)(hy:fin Ieee.single y=true):(FloatKind.f32.format.order x y != some .eq) = !decide (key Ieee.single x=key Ieee.single y):=by
 show(Ieee.single.order x y != some .eq)=_
 rw[zba hx hy];generalize key Ieee.single x=X;generalize key Ieee.single y=Y
 rcases Int.lt_trichotomy X Y with h | h | h
 ·rw[zda h,decide_eq_false (by omega)];rfl
 ·rw[h,zd3,decide_eq_true rfl];rfl
 ·rw[zdR h,decide_eq_false (by omega)];rfl
end
end Go.Proofs.YtbkgkoenppkhpaaGreatDoor
