/- Contract of package number's Shares, up to 19 weights. -/
import Derived.Test.YtmkondcdejlhcaaGreatDoorFSh2
namespace Go.Proofs.YtmkondcdejlhcaaGreatDoor
section
open Go.RowKit Bn
theorem zqa(n:Nat)(hn:n≤256):∃ Z:Array Value,Z.toList=List.replicate n (.int .i64 0)∧Z.size=n ∧
  (∀ W:World,(Instr.makeSlice 60 (.int .i64 (n:Int)) (.int .i64 (n:Int))).run Tryz.prog W = .ok (.slice (some ⟨W.heap.size,0,none⟩) n n) (W.alloc (.cells Z 3))):=by
 obtain⟨i0,aD,aC,aA,aE⟩:=info_parts zco;refine⟨madeCells #[.int .i64 0] n,toList_madeCells_one _ _,size_madeCells _ _,fun W => ?_⟩;have h:=run_make (P:=Tryz.prog) W 60 3 i0 (.int .i64 0) Tryz.underlying60 aD aC .i64 .i64 n n (by omega) (by omega) (by rw[aE];omega) (by omega);rw[aA,Nat.mul_one,Int.toNat_natCast] at h;exact h
theorem zny:(Tryz.prog.info? 2).map (fun i=>(i.zero,i.size,i.bytes))=some (some (.int .i64 0),1,8):=by kernel_rfl
theorem zpI(n:Nat)(hn:n≤256):∃ Z:Array Value,Z.toList=List.replicate n (.int .i64 0)∧Z.size=n ∧
  (∀ W:World,(Instr.makeSlice 125 (.int .i64 (n:Int)) (.int .i64 (n:Int))).run Tryz.prog W = .ok (.slice (some ⟨W.heap.size,0,none⟩) n n) (W.alloc (.cells Z 2))):=by
 obtain⟨i0,aD,aC,aA,aE⟩:=info_parts zny;refine⟨madeCells #[.int .i64 0] n,toList_madeCells_one _ _,size_madeCells _ _,fun W => ?_⟩;have h:=run_make (P:=Tryz.prog) W 125 2 i0 (.int .i64 0) Tryz.underlying125 aD aC .i64 .i64 n n (by omega) (by omega) (by rw[aE];omega) (by omega);rw[aA,Nat.mul_one,Int.toNat_natCast] at h;exact h
theorem zhh{W:World}{b n:Nat}{Z:Array Value}{t:TypeId}(hs:Z.size=n)(hn:n≤256)(h:W.heap[b]? = some (.cells Z t (0,0))):W.ownsRow b t 1 (.slice (some ⟨b,0,none⟩) n n) n Z.toList:=by
 subst hs;refine⟨by simp,.inr ⟨b,Z.size,Z,rfl,Nat.le_refl _,h,Nat.le_refl _,by unfold maxLen;omega,by simp,by rw[Nat.mul_one];exact List.take_of_length_le (by simp)⟩⟩
theorem zfv{x:Nat}:∀ {l:List Nat},x ∈ l→x≤l.sum
 | a :: t,h=>by
  rw[List.sum_cons]
  rcases List.mem_cons.1 h with rfl | h1
  ·omega
  ·have:=zfv h1;omega
theorem zjE (l:List Nat) (k:Nat) (h:k<l.length):(l.take (k+1)).sum=(l.take k).sum+l[k]:=by
 rw[List.take_succ_eq_append_getElem h,List.sum_append];simp
theorem ziZ(l:List Nat)(k:Nat):(l.take k).sum≤l.sum:=by
 have h:(l.take k++l.drop k).sum=l.sum:=by rw[List.take_append_drop]
 rw[List.sum_append] at h;omega
theorem zfz(M:Nat):∀ l:List Nat,(∀ x ∈ l,x≤M)→l.sum≤l.length*M
 | [],_=>by simp
 | a :: t,h=>by
  have h1:=h a (by simp);have h2:=zfz M t (fun x hx=>h x (by simp[hx]));rw[List.sum_cons,List.length_cons,Nat.add_mul];omega
theorem znw (T S:Nat) (l rs:List Nat) (h:rs=l.map (fun x=>T*x%S)):(fun i=>rs.getD i 0)=Dl.shRem T S l:=by
 subst h
 funext i
 unfold Dl.shRem
 by_cases hi:i<l.length
 ·simp[List.getD,hi]
 ·simp[List.getD,hi]
theorem zmZ(sh ord:List Nat)(k:Nat)(h:k<ord.length):(Dl.incAll sh (ord.take k)).set ord[k] ((Dl.incAll sh (ord.take k)).getD ord[k] 0+1)=Dl.incAll sh (ord.take (k+1)):=by
 unfold Dl.incAll;rw[List.take_succ_eq_append_getElem h,List.foldl_append];rfl
theorem ziI(l:List Nat)(i:Nat):l.getD i 0≤l.sum:=by
 by_cases hi:i<l.length
 ·have:l.getD i 0=l[i]:=by simp[List.getD,hi]
  rw[this];exact zfv (List.getElem_mem hi)
 ·have:l.getD i 0=0:=by simp[List.getD,hi]
  omega
theorem zlZ(sh p:List Nat)(h:∀ y ∈ p,y<sh.length)(i:Nat)(hi:i<sh.length):(Dl.incAll sh p).getD i 0≤sh.sum+p.length:=by
 have:=ziI (Dl.incAll sh p) i;rw[Dl.incAll_sum p sh h] at this;exact this
set_option maxHeartbeats 4000000 in
set_option maxRecDepth 100000 in
theorem zmP(T:Nat)(A:Option Addr)(n c:Nat)(l:List Nat)(w:World)(hT:T≤999999999)(h:zaA w w.heap.size 1 A n (l.map natv))(hl:∀ x ∈ l,x≤999999999)(hn1:1≤n)(hn:n≤19)(hz:zhu l=false) :
  Calls Tryz.prog 45 #[.int .i64 (T:Int),.slice A n c] w fun e w'=>
   ∃ b,e = .returned (.tuple #[.slice (some ⟨b,0,none⟩) n n,.int .i64 0])∧w.heap.size≤b∧w'.ownsRow b 3 1 (.slice (some ⟨b,0,none⟩) n n) n ((Dl.shares T l).map natv)∧Below w.heap.size w w':=by
 have aX:l.length=n:=by have:=h.1;rw[List.length_map] at this;omega
 have r1:=Aa (fun W=>zc2 (T:Int) 0 999999999 W (by omega) (by omega));have r2:=Aa (zfK A n c l w h hl hn1 (by omega) hz);have HL:=Aa hl;obtain⟨Z,dW,cR,fH⟩:=zqa n (by omega);obtain⟨Z',bO,bT,cU⟩:=zpI n (by omega);have fA:l.sum≠0:=fun e=>by
  have:zhu l=true:=by
   unfold zhu;rw[List.all_eq_true];intro x hx;have:=zfv hx;simp;omega
  rw[this] at hz;cases hz
 clear hl hz;go_enter Tryz.func45,Tryz.ntmps45
 go_wp2_with fail
 refine(r1.out w).mono ?_;rintro e w1 ⟨rfl,rfl⟩
 go_wp2_with fail
 refine r2.out.mono ?_;rintro e w1 ⟨rfl,cZ⟩
 go_wp2_with fail
 refine(zeP 0 0 w1 _ _ rfl).mono ?_;rintro e w2 ⟨rfl,rfl⟩;have aI:Below w.heap.size w (w1.alloc (.cells #[.int .i64 0,.int .i64 0] 26)):=cZ.alloc cZ.size _;generalize w1.alloc (.cells #[.int .i64 0,.int .i64 0] 26)=w2 at *;clear r1 r2
 go_wp2_with fail
 have h2:=h.below aI
 go_loopg [7,30] n (fun m s t W=>∃ k:Nat,k≤n∧t = .int .i64 k∧s = .int .i64 ((l.take k).sum:Nat)∧n-k≤m∧W=w2)
 case atStart=>exact⟨0,Nat.zero_le _,rfl,rfl,by omega,rfl⟩
 case round=>
  obtain⟨k,hk,rfl,rfl,hm,rfl⟩:=hrel
  by_cases h0:k<n
  ·have bL:k<l.length:=by omega
   obtain⟨ad,u,rfl,dZ,hu,bU⟩:=h2.at_ h0;have cE:u = .int .i64 (l[k]:Int):=by simp[natv,bL] at hu;exact hu.symm
   subst cE;have hx:=HL.out l[k] (List.getElem_mem bL);have cN:=zjE l k bL;have cQ:=zfz 999999999 (l.take k) (fun x hx=>HL.out x (List.mem_of_mem_take hx));rw[List.length_take] at cQ;have fE:(l.take k).sum≤20000000000:=by
    refine Nat.le_trans cQ ?_;have:min k l.length≤19:=by omega
    have:=Nat.mul_le_mul_right 999999999 this;omega
   clear cQ hu;generalize (l.take k).sum=s0 at *;generalize l[k]=x at *
   go_wp2_with fail
   go_roundg (n-(k+1))
   case measure=>omega
   case rel=>exact⟨k+1,by omega,by go_num,by rw[cN];go_num,Nat.le_refl _,rfl⟩
  ·obtain rfl:n=k:=by omega
   rw[List.take_of_length_le (by omega)];clear h0 hm hk;go_upto_region 10 with(fail)
   obtain⟨bV,bG⟩:∃ g,g=wr.heap.size:=⟨_,rfl⟩;have bJ:w.heap.size≤bV:=by rw[bG];exact aI.size
   obtain⟨bS,aV⟩:∃ I:Array Bool→Act→World→Prop,I=(fun aK ac W=>∃ (b0 b1 b2 b3 b4 b5 b6 b7:Bool) (aZ bA bD aY bC bB aT aW:Value) (aA:Nat) (aC:Nat),aK=#[b0,b1,b2,b3,b4,b5,b6,b7]∧ac={ tmps:=#[.int .i64 (T:Int),.slice A n c,undef,undef,.slice none 0 0,.int .i64 0,.int .i64 0,.int .i64 (l.sum:Nat),undef,u9,aT,aW,undef,undef,undef,undef,undef,undef,undef,.int .i64 (T:Int),.int .i64 0,.slice A n c,.int .i64 0,.slice (some ⟨w1.heap.size,0,none⟩) 2 2,.int .i64 0,.int .i64 0,.bool false,undef,.slice A n c,.int .i64 (n:Int),.int .i64 (n:Int),.bool false,u32,u33,u34,u35,u36,u37,aZ,bA,bD,aY,bC,bB,undef,undef,undef,undef,undef,undef,undef,undef,undef,undef,undef,undef,undef,undef,undef,undef,undef,undef,undef,undef,undef,undef,undef,undef,undef,undef,undef,undef,undef,undef,undef,undef,undef,undef,undef,undef,undef,undef,undef,undef,undef,undef,undef,undef,undef,undef,undef,undef,undef,undef,undef,undef,undef,undef,undef,undef],defers:=[] }∧bV≤W.heap.size∧Below w.heap.size w W∧(b0=true→aZ = .slice A n c)∧(b1=true→bA = .int .i64 (n:Int))∧(b2=true→bD = .slice (some ⟨aA,0,none⟩) n n∧bV≤aA∧aA<W.heap.size∧CBlk W aA Z 3)∧(b3=true→aY = .slice A n c)∧(b4=true→bC = .int .i64 (n:Int))∧(b5=true→bB = .slice (some ⟨aC,0,none⟩) n n∧bV≤aC∧aC<W.heap.size∧CBlk W aC Z 3)∧(b6=true→b2=true∧aT = .slice (some ⟨aA,0,none⟩) n n)∧(b7=true→b5=true∧aW = .slice (some ⟨aC,0,none⟩) n n)∧(b2=true→b5=true→aA≠aC)):=⟨_,rfl⟩;have aD:=Aa aV;clear aV;refine zbI (by kernel_rfl) bS (by kernel_rfl) ?_ ?_ ?_
   ·rw[aD.out]
    exact⟨false,false,false,false,false,false,false,false,undef,undef,undef,undef,undef,undef,undef,undef,0,0,rfl,rfl,(by rw[bG];exact Nat.le_refl _),aI.drew,(fun h=>by cases h),(fun h=>by cases h),(fun h=>by cases h),(fun h=>by cases h),(fun h=>by cases h),(fun h=>by cases h),(fun h=>by cases h),(fun h=>by cases h),(fun h=>by cases h)⟩
   ·intro i op aK ac W ho hI hl aE
    rw[aD.out] at hI;obtain⟨b0,b1,b2,b3,b4,b5,b6,b7,aZ,bA,bD,aY,bC,bB,aT,aW,aA,aC,rfl,rfl,aQ,aI,f0,f1,f2,f3,f4,f5,f6,f7,aJ⟩:=hI;clear bG
    match i,ho,hl,aE with
    | 0,ho,hl,aE=>
     have aS:b0=false:=Option.some.inj hl;obtain rfl:=Option.some.inj ho;refine zao ho fun K' hK => ?_
     go_simp
     refine hK.out _ _ ?_;rw[aD.out];exact⟨true,b1,b2,b3,b4,b5,b6,b7,(.slice A n c),bA,bD,aY,bC,bB,aT,aW,aA,aC,rfl,rfl,aQ,aI,(fun _=>rfl),f1,f2,f3,f4,f5,f6,f7,aJ⟩
    | 1,ho,hl,aE=>
     have aS:b1=false:=Option.some.inj hl;obtain rfl:=Option.some.inj ho;have e0:b0=true:=aE ⟨0,.data⟩ (by simp) rfl;obtain rfl:=f0 e0;refine zao ho fun K' hK => ?_
     go_simp
     refine hK.out _ _ ?_;rw[aD.out];exact⟨b0,true,b2,b3,b4,b5,b6,b7,(.slice A n c),(.int .i64 (n:Int)),bD,aY,bC,bB,aT,aW,aA,aC,rfl,rfl,aQ,aI,f0,(fun _=>rfl),f2,f3,f4,f5,f6,f7,aJ⟩
    | 2,ho,hl,aE=>
     have aS:b2=false:=Option.some.inj hl;obtain rfl:=Option.some.inj ho;have e1:b1=true:=aE ⟨1,.data⟩ (by simp) rfl;obtain rfl:=f1 e1;refine zao ho fun K' hK => ?_
     have hb:Below W.heap.size W (W.alloc (.cells Z 3)):=Ac
     go_simp
     refine hK.out _ _ ?_;rw[aD.out];exact⟨b0,b1,true,b3,b4,b5,b6,b7,aZ,(.int .i64 (n:Int)),(.slice (some ⟨W.heap.size,0,none⟩) n n),aY,bC,bB,aT,aW,W.heap.size,aC,rfl,rfl,(Nat.le_trans aQ hb.size),(aI.trans (hb.mono aI.size)),f0,f1,(fun _=>⟨rfl,aQ,by simp,CBlk.new W _ _ _ rfl⟩),f3,f4,(fun h=>⟨(f5 h).1,(f5 h).2.1,Nat.lt_of_lt_of_le (f5 h).2.2.1 hb.size,(f5 h).2.2.2.below hb (f5 h).2.2.1⟩),(fun h=>by rw[(f6 h).1] at aS;cases aS),f7,(fun _ h=>Nat.ne_of_gt (f5 h).2.2.1)⟩
    | 3,ho,hl,aE=>
     have aS:b3=false:=Option.some.inj hl;obtain rfl:=Option.some.inj ho;refine zao ho fun K' hK => ?_
     go_simp
     refine hK.out _ _ ?_;rw[aD.out];exact⟨b0,b1,b2,true,b4,b5,b6,b7,aZ,bA,bD,(.slice A n c),bC,bB,aT,aW,aA,aC,rfl,rfl,aQ,aI,f0,f1,f2,(fun _=>rfl),f4,f5,f6,f7,aJ⟩
    | 4,ho,hl,aE=>
     have aS:b4=false:=Option.some.inj hl;obtain rfl:=Option.some.inj ho;have e3:b3=true:=aE ⟨3,.data⟩ (by simp) rfl;obtain rfl:=f3 e3;refine zao ho fun K' hK => ?_
     go_simp
     refine hK.out _ _ ?_;rw[aD.out];exact⟨b0,b1,b2,b3,true,b5,b6,b7,aZ,bA,bD,(.slice A n c),(.int .i64 (n:Int)),bB,aT,aW,aA,aC,rfl,rfl,aQ,aI,f0,f1,f2,f3,(fun _=>rfl),f5,f6,f7,aJ⟩
    | 5,ho,hl,aE=>
     have aS:b5=false:=Option.some.inj hl;obtain rfl:=Option.some.inj ho;have e4:b4=true:=aE ⟨4,.data⟩ (by simp) rfl;obtain rfl:=f4 e4;refine zao ho fun K' hK => ?_
     have hb:Below W.heap.size W (W.alloc (.cells Z 3)):=Ac
     go_simp
     refine hK.out _ _ ?_;rw[aD.out];exact⟨b0,b1,b2,b3,b4,true,b6,b7,aZ,bA,bD,aY,(.int .i64 (n:Int)),(.slice (some ⟨W.heap.size,0,none⟩) n n),aT,aW,aA,W.heap.size,rfl,rfl,(Nat.le_trans aQ hb.size),(aI.trans (hb.mono aI.size)),f0,f1,(fun h=>⟨(f2 h).1,(f2 h).2.1,Nat.lt_of_lt_of_le (f2 h).2.2.1 hb.size,(f2 h).2.2.2.below hb (f2 h).2.2.1⟩),f3,f4,(fun _=>⟨rfl,aQ,by simp,CBlk.new W _ _ _ rfl⟩),f6,(fun h=>by rw[(f7 h).1] at aS;cases aS),(fun h _=>Nat.ne_of_lt (f2 h).2.2.1)⟩
    | 6,ho,hl,aE=>
     have aS:b6=false:=Option.some.inj hl;obtain rfl:=Option.some.inj ho;have e2:b2=true:=aE ⟨2,.data⟩ (by simp) rfl;obtain⟨rfl,fB,dY,fI⟩:=f2 e2;refine zao ho fun K' hK => ?_
     go_simp
     refine hK.out _ _ ?_;rw[aD.out];exact⟨b0,b1,b2,b3,b4,b5,true,b7,aZ,bA,(.slice (some ⟨aA,0,none⟩) n n),aY,bC,bB,(.slice (some ⟨aA,0,none⟩) n n),aW,aA,aC,rfl,rfl,aQ,aI,f0,f1,f2,f3,f4,f5,(fun _=>⟨e2,rfl⟩),f7,aJ⟩
    | 7,ho,hl,aE=>
     have aS:b7=false:=Option.some.inj hl;obtain rfl:=Option.some.inj ho;have e5:b5=true:=aE ⟨5,.data⟩ (by simp) rfl;obtain⟨rfl,fB,dY,fI⟩:=f5 e5;refine zao ho fun K' hK => ?_
     go_simp
     refine hK.out _ _ ?_;rw[aD.out];exact⟨b0,b1,b2,b3,b4,b5,b6,true,aZ,bA,bD,aY,bC,(.slice (some ⟨aC,0,none⟩) n n),aT,(.slice (some ⟨aC,0,none⟩) n n),aA,aC,rfl,rfl,aQ,aI,f0,f1,f2,f3,f4,f5,f6,(fun _=>⟨e5,rfl⟩),aJ⟩
    | n+8,ho,hl,aE=>exact absurd ho (by simp)
   ·intro aK ac Y hI aH
    rw[aD.out] at hI;clear aI;obtain⟨b0,b1,b2,b3,b4,b5,b6,b7,aZ,bA,bD,aY,bC,bB,aT,aW,aA,aC,rfl,rfl,aQ,aI,f0,f1,f2,f3,f4,f5,f6,f7,aJ⟩:=hI;have e0:b0=true:=aH 0 b0 (by decide) rfl;have e1:b1=true:=aH 1 b1 (by decide) rfl;have e2:b2=true:=aH 2 b2 (by decide) rfl;have e3:b3=true:=aH 3 b3 (by decide) rfl;have e4:b4=true:=aH 4 b4 (by decide) rfl;have e5:b5=true:=aH 5 b5 (by decide) rfl;have e6:b6=true:=aH 6 b6 (by decide) rfl;have e7:b7=true:=aH 7 b7 (by decide) rfl;subst e0;subst e1;subst e2;subst e3;subst e4;subst e5;subst e6;subst e7;obtain rfl:=f0 rfl;obtain rfl:=f1 rfl;obtain⟨rfl,aP,aO,qs⟩:=f2 rfl;obtain rfl:=f3 rfl;obtain rfl:=f4 rfl;obtain⟨rfl,aM,aN,qo⟩:=f5 rfl;obtain⟨_,rfl⟩:=f6 rfl;obtain⟨_,rfl⟩:=f7 rfl;clear f0 f1 f2 f3 f4 f5 f6 f7 aH aD;have bK:w.heap.size≤Y.heap.size:=aI.size;have hS:=zhh cR (by omega) qs;have hO:=zhh cR (by omega) qo;rw[dW] at hS hO;have bW:=Aa (aJ rfl rfl);have dC:w.heap.size≤aA:=Nat.le_trans bJ aP;have dG:w.heap.size≤aC:=Nat.le_trans bJ aM;clear aJ fH aP aM bJ aQ qs qo h2 cZ bG;generalize aA=S at *;generalize aC=O at *
    go_wp2_with fail
    have cJ:Below w.heap.size w ((Y.alloc (.cells Z' 2)).alloc (.cells #[.slice (some ⟨Y.heap.size,0,none⟩) n n] 125)):=(aI.alloc bK _).alloc (by simp;omega) _;have cS:=zg5 (w':=(Y.alloc (.cells Z' 2)).alloc (.cells #[.slice (some ⟨Y.heap.size,0,none⟩) n n] 125)) hS (((Below.refl Y.heap.size Y).alloc (Nat.le_refl _) _).alloc (by simp) _ |>.block S aO)
    have cP:=zg5 (w':=(Y.alloc (.cells Z' 2)).alloc (.cells #[.slice (some ⟨Y.heap.size,0,none⟩) n n] 125)) hO (((Below.refl Y.heap.size Y).alloc (Nat.le_refl _) _).alloc (by simp) _ |>.block O aN)
    have dD:CBlk ((Y.alloc (.cells Z' 2)).alloc (.cells #[.slice (some ⟨Y.heap.size,0,none⟩) n n] 125)) (Y.heap.size+1) #[.slice (some ⟨Y.heap.size,0,none⟩) n n] 125:=CBlk.new _ _ _ _ (by simp);have cY:CBlk ((Y.alloc (.cells Z' 2)).alloc (.cells #[.slice (some ⟨Y.heap.size,0,none⟩) n n] 125)) Y.heap.size Z' 2:=(CBlk.new Y _ _ _ rfl).alloc _;have hR:=zhh bT (by omega) cY;rw[bO] at hR;obtain⟨R,cL⟩:∃ b,b=Y.heap.size:=⟨_,rfl⟩;rw[←cL] at hR dD cY cS cP cJ aO aN bK
    try rw[←cL]
    generalize (Y.alloc (.cells Z' 2)).alloc (.cells #[.slice (some ⟨R,0,none⟩) n n] 125)=X at *;clear cY hS hO cU aI dW cR bO bT cL;obtain⟨Su,bM⟩:∃ s,s=l.sum:=⟨_,rfl⟩;have fF:Su≤20000000000:=by
     have h9:=zfz 999999999 l HL.out;rw[bM];refine Nat.le_trans h9 ?_;have:=Nat.mul_le_mul_right 999999999 (show l.length≤19 by omega);omega
    obtain⟨sh,cA⟩:∃ s,s=Dl.shBase T Su l:=⟨_,rfl⟩;obtain⟨rs,dB⟩:∃ s,s=l.map (fun x=>T*x%Su):=⟨_,rfl⟩;have bE:sh.length=n:=by rw[cA];simp[Dl.shBase,aX]
    have bQ:rs.length=n:=by rw[dB];simp[aX]
    have cK:sh.sum≤T:=by rw[cA,bM];exact(Dl.shRest_le T l (by omega)).1
    have cW:=Aa cA;have dJ:=Aa dB;rw[←bM] at fA
    try rw[←bM]
    have cH:=Aa bM;clear cA dB bM;have fC:R+1≠S:=by omega
    have dM:R+1≠O:=by omega
    have dI:R≠S:=by omega
    have dE:R≠O:=by omega
    have HA:=Aa h;clear h
    go_loopg [13,50] n (fun m s t W=>∃ k:Nat,k≤n∧t = .int .i64 k∧s = .int .i64 ((T:Int)-((sh.take k).sum:Nat))∧n-k≤m ∧
     W.ownsRow S 3 1 (.slice (some ⟨S,0,none⟩) n n) n ((sh.take k).map natv++List.replicate (n-k) (.int .i64 0)) ∧
     W.ownsRow O 3 1 (.slice (some ⟨O,0,none⟩) n n) n (((List.range n).take k).map natv++List.replicate (n-k) (.int .i64 0)) ∧
     W.ownsRow R 2 1 (.slice (some ⟨R,0,none⟩) n n) n ((rs.take k).map natv++List.replicate (n-k) (.int .i64 0)) ∧
     CBlk W (R+1) #[.slice (some ⟨R,0,none⟩) n n] 125∧Below w.heap.size w W)
    case atStart=>exact⟨0,Nat.zero_le _,rfl,by go_num,by omega,by simpa using cS,by simpa using cP,by simpa using hR,dD,cJ⟩
    case round=>
     clear cS cP hR dD cJ;obtain⟨k,hk,rfl,rfl,hm,hS,hO,hR,hq,aF⟩:=hrel
     by_cases h0:k<n
     ·have bL:k<l.length:=by omega
      obtain⟨ad,u,rfl,dZ,hu,bU⟩:=(HA.out.below aF).at_ h0;have cE:u = .int .i64 (l[k]:Int):=by simp[natv,bL] at hu;exact hu.symm
      subst cE;have hx:=HL.out l[k] (List.getElem_mem bL);have bZ:sh[k]'(by omega)=T*l[k]/Su:=by simp only[cW.out,Dl.shBase,List.getElem_map]
      have bX:rs[k]'(by omega)=T*l[k]%Su:=by simp only[dJ.out,List.getElem_map]
      have dN:=Aa (zfp natv sh (.int .i64 0) n k (by omega) bE);have cM:=Aa (zfp natv (List.range n) (.int .i64 0) n k (by simpa using h0) (by simp));have dR:=Aa (zfp natv rs (.int .i64 0) n k (by omega) bQ);have cN:=zjE sh k (by omega);have fJ:(sh.take (k+1)).sum≤T:=Nat.le_trans (ziZ sh (k+1)) cK;rw[List.getElem_range] at cM;generalize sh[k]'(by omega)=qv at *;generalize rs[k]'(by omega)=rv at *;generalize l[k]=x at *;obtain⟨p,hp⟩:∃ p,p=T*x:=⟨_,rfl⟩;rw[←hp] at bZ bX;have fP:p≤999999998000000001:=by rw[hp];exact Nat.mul_le_mul hT hx
      have em:(T:Int)*(x:Int)=(p:Int):=by rw[hp];simp
      have fK:qv≤p:=by rw[bZ];exact Nat.div_le_self _ _
      have fV:rv<Su:=by rw[bX];exact Nat.mod_lt _ (by omega)
      have fN:(p:Int).tdiv (Su:Int)=(qv:Int):=by rw[bZ,Int.tdiv_eq_ediv_of_nonneg (by omega)];simp
      have fS:(p:Int).tmod (Su:Int)=(rv:Int):=by rw[bX,Int.tmod_eq_emod_of_nonneg (by omega)];simp
      have fU:((Su:Int)=0)=False:=by simp;omega
      have bN:=zdm hS k (natv qv);have bF:=ownsRow_setCell_other hO (a:=⟨S,k,none⟩) (by simp only[Value.ownBlock];exact fun e=>bW.out (Option.some.inj e).symm) (natv qv);have dH:=ownsRow_setCell_other hR (a:=⟨S,k,none⟩) (by simp only[Value.ownBlock];exact fun e=>dI (Option.some.inj e)) (natv qv);have cT:=hq.setFar (i:=k) (Ne.symm fC) (natv qv);have cB:=ownsRow_setCell_other bN (a:=⟨O,k,none⟩) (by simp only[Value.ownBlock];exact fun e=>bW.out (Option.some.inj e)) (natv k);have dS:=zdm bF k (natv k);have bY:=ownsRow_setCell_other dH (a:=⟨O,k,none⟩) (by simp only[Value.ownBlock];exact fun e=>dE (Option.some.inj e)) (natv k);have cI:=cT.setFar (i:=k) (Ne.symm dM) (natv k);have cC:=ownsRow_setCell_other cB (a:=⟨R,k,none⟩) (by simp only[Value.ownBlock];exact fun e=>dI (Option.some.inj e).symm) (natv rv);have cO:=ownsRow_setCell_other dS (a:=⟨R,k,none⟩) (by simp only[Value.ownBlock];exact fun e=>dE (Option.some.inj e).symm) (natv rv);have cG:=zdm bY k (natv rv);have dO:=cI.setFar (i:=k) (show R≠R+1 by omega) (natv rv);have bI:=((aF.setCell (p:=⟨S,k,none⟩) dC (natv qv)).setCell (p:=⟨O,k,none⟩) dG (natv k)).setCell (p:=⟨R,k,none⟩) bK (natv rv);obtain⟨v1,ca⟩:=zdS hS k h0;have fa:=zbG hS k;obtain⟨v2,cb⟩:=zdS bF k h0;have fb:=zbG bF k;obtain⟨v3,cc⟩:=zdS bY k h0;have fc:=zbG bY k;have cd:(((wr.setCell ⟨S,k,none⟩ (natv qv)).setCell ⟨O,k,none⟩ (natv k)).setCell ⟨R,k,none⟩ (natv rv)).cell? ⟨S,k,none⟩=some (.int .i64 (qv:Int)):=by
       rw[World.ownsRow.cellAt cC k (by omega)];have fM:=hS.1;rw[List.getElem?_set_self (by omega)];rfl
      rw[dN.out] at cC;rw[cM.out] at cO;rw[dR.out] at cG;have y0:=hq.cell 0;have y1:=cT.cell 0;have y2:=cI.cell 0;have fG:=fun (W:World) (a:Addr) (m:_)=>run_store Tryz.prog W a (.int .i64 (qv:Int)) m rfl
      have fT:=fun (W:World) (a:Addr) (m:_)=>run_store Tryz.prog W a (.int .i64 (rv:Int)) m rfl
      have fQ:=fun (W:World) (a:Addr) (m:_)=>run_store Tryz.prog W a (.int .i64 (k:Int)) m rfl
      unfold natv at cb fb cc fc cd y1 y2;have W3:=Aa cC;have W4:=Aa cO;have W5:=Aa cG;have W6:=Aa dO;have W7:=Aa bI;clear hS hO hR hq aF bN bF dH cT cB dS bY cI cC cO cG dO bI dN cM dR hu bZ bX hp;generalize (sh.take k).sum=sk at *
      go_wp2_with fail
      go_region
      go_wp2_with fail
      go_roundg (n-(k+1))
      case measure=>omega
      case rel=>exact⟨k+1,by omega,by go_num,by rw[cN];go_num,Nat.le_refl _,by exact W3.out,by exact W4.out,by exact W5.out,by exact W6.out,W7.out.drew⟩
     ·obtain rfl:n=k:=by omega
      have e1:(sh.take n).map natv++List.replicate (n-n) (.int .i64 0)=sh.map natv:=zfs natv sh (.int .i64 0) n bE;have e2:((List.range n).take n).map natv++List.replicate (n-n) (.int .i64 0)=(List.range n).map natv:=zfs natv (List.range n) (.int .i64 0) n (by simp);have e3:(rs.take n).map natv++List.replicate (n-n) (.int .i64 0)=rs.map natv:=zfs natv rs (.int .i64 0) n bQ;rw[e1] at hS;rw[e2] at hO;rw[e3] at hR;rw[List.take_of_length_le (show sh.length≤n by omega)];obtain⟨aG,bH⟩:∃ r,r=T-sh.sum:=⟨_,rfl⟩;rw[show(T:Int)-(sh.sum:Nat)=(aG:Int) by omega];have dT:aG≤n:=by
       have h9:=Dl.shRest_len T l (by rw[←cH.out];omega);unfold Dl.shRest at h9;rw[←cH.out,←cW.out] at h9;omega
      have dX:=Aa bH;clear e1 e2 e3 bH h0 hm hk
      go_wp2_with fail
      refine(zg7 O O (R+1) R n n rs (List.range n) wr hn1 hn (Ne.symm dM) (Ne.symm dE) hO hq hR (fun y hy=>by simpa using hy)).mono ?_;rintro e w9 ⟨rfl,dA,dQ,bP⟩;have dV:=zg5 hS (bP S bW.out);have dK:Below w.heap.size w w9:=aF.trans (dQ.mono dG);have bR:Dl.sortP (Dl.byKey (fun i=>rs.getD i 0)) (List.range n)=Dl.shOrder T Su l:=by
       unfold Dl.shOrder;rw[aX,znw T Su l rs dJ.out]
      rw[bR] at dA;clear hO hq hR bP hS bR dQ aF;have fO:(Dl.shOrder T Su l).length=n:=by rw[Dl.shOrder_len];exact aX
      have dL:∀ y ∈ Dl.shOrder T Su l,y<n:=fun y hy=>by
       have:=(Dl.shOrder_perm T Su l).mem_iff.1 hy;rw[aX] at this;simpa using this
      have cF:Hid (Dl.incAll sh ((Dl.shOrder T Su l).take aG)=Dl.shares T l):=by
       have h1:=cH.out;have h2:=cW.out;have h3:=dX.out
       unfold Dl.shares Dl.shRest;rw[←h1,←h2,←h3];rfl
      generalize Dl.shOrder T Su l=aR at *;have cV:=Aa dL;clear dL
      go_wp2_with fail
      go_loopg [88] aG (fun m s W=>∃ k:Nat,k≤aG∧s = .int .i64 k∧aG-k≤m ∧
       W.ownsRow S 3 1 (.slice (some ⟨S,0,none⟩) n n) n ((Dl.incAll sh (aR.take k)).map natv)∧W.ownsRow O 3 1 (.slice (some ⟨O,0,none⟩) n n) n (aR.map natv)∧Below w.heap.size w W)
      case atStart=>exact⟨0,Nat.zero_le _,rfl,by omega,by simpa[Dl.incAll] using dV,dA,dK⟩
      case round=>
       clear dV dA dK;obtain⟨k,hk,rfl,hm,hS,hO,aF⟩:=hrel
       by_cases h0:k<aG
       ·have dF:k<aR.length:=by omega
        have hi:=cV.out aR[k] (List.getElem_mem dF);have dU:=zmZ sh aR k dF;have dP:=zlZ sh (aR.take k) (fun y hy=>by rw[bE];exact cV.out y (List.mem_of_mem_take hy));have fD:(Dl.incAll sh (aR.take k)).length=n:=by rw[Dl.incAll_len];exact bE
        have fL:(aR.take k).length≤19:=by rw[List.length_take];omega
        have co:wr.cell? ⟨O,k,none⟩=some (.int .i64 (aR[k]:Int)):=by rw[World.ownsRow.cellAt hO k (by omega)];simp[natv,dF]
        generalize aR[k]=i at *;have hv:=dP i (by omega);generalize Dl.incAll sh (aR.take k)=L at *;have cs:wr.cell? ⟨S,i,none⟩=some (.int .i64 ((L.getD i 0:Nat):Int)):=by rw[World.ownsRow.cellAt hS i (by omega)];simp[natv,fD,hi,List.getD]
        have fs:=zbG hS i;have bN:=zdm hS i (natv (L.getD i 0+1));have bF:=ownsRow_setCell_other hO (a:=⟨S,i,none⟩) (by simp only[Value.ownBlock];exact fun e=>bW.out (Option.some.inj e).symm) (natv (L.getD i 0+1));have aL:=aF.setCell (p:=⟨S,i,none⟩) dC (natv (L.getD i 0+1));rw[←List.map_set,dU] at bN;have fR:L.getD i 0≤1000000100:=by omega
        have aU:((L.getD i 0+1:Nat):Int)=((L.getD i 0:Nat):Int)+1:=by simp
        have fG:=fun (W:World) (a:Addr) (m:_)=>run_store Tryz.prog W a (.int .i64 (((L.getD i 0:Nat):Int)+1)) m rfl
        unfold natv at bF aL;have cB:Hid ((wr.setCell ⟨S,i,none⟩ (.int .i64 (((L.getD i 0:Nat):Int)+1))).ownsRow S 3 1 (.slice (some ⟨S,0,none⟩) n n) n ((Dl.incAll sh (aR.take (k+1))).map natv)):=by rw[←aU];exact bN
        rw[aU] at bF aL;have W1:=Aa bF;have W2:=Aa aL;clear bN bF aL dU dP aU hS hO aF hv;generalize L.getD i 0=lv at *
        go_wp2_with fail
        go_roundg (aG-(k+1))
        case measure=>omega
        case rel=>exact⟨k+1,by omega,by go_num,Nat.le_refl _,cB.out,W1.out,W2.out⟩
       ·obtain rfl:k=aG:=by omega
        rw[cF.out] at hS;clear hO cV
        go_wp2_with fail
        go_ret2
        exact⟨S,rfl,dC,hS,aF⟩
theorem zhC{w:World}{l:List UInt8}{x:Int}{f:FuncId}{args:Array Value}(a:Array UInt8)(h:Calls Tryz.prog f args w (zb5 w l x))(e:l=a.toList) :
  Calls Tryz.prog f args w fun e w'=>e = .returned (.tuple #[.string ⟨a⟩,.int .i64 x])∧Below w.heap.size w w':=
 h.mono fun _ _ ⟨s,he,hs,hb⟩=>⟨by
  rw[he];obtain⟨d⟩:=s;have:d=a:=by apply Array.ext';rw[←e];exact hs
  rw[this],hb⟩
theorem zeb{w:World}{l m:List UInt8}{x:Int}{f:FuncId}{args:Array Value}(a b:Array UInt8)(h:Calls Tryz.prog f args w (zcT w l m x))(e1:l=a.toList)(e2:m=b.toList) :
  Calls Tryz.prog f args w fun e w'=>e = .returned (.tuple #[.agg #[.string ⟨a⟩,.string ⟨b⟩],.int .i64 x])∧Below w.heap.size w w':=
 h.mono fun _ _ ⟨s,t,he,hs,ht,hb⟩=>⟨by
  rw[he];obtain⟨d⟩:=s;obtain⟨d2⟩:=t;have h1:d=a:=by apply Array.ext';rw[←e1];exact hs
  have h2:d2=b:=by apply Array.ext';rw[←e2];exact ht
  rw[h1,h2],hb⟩
theorem zp5(w:World)(hT:Tabs w):Calls Tryz.prog 51 #[.int .i64 15,.int .i64 (-6)] w fun e w'=>e = .returned (.tuple #[.string ⟨#[45,53,47,50]⟩,.int .i64 0])∧Below w.heap.size w w':=by
 have h:=zpB 15 (-6) w hT (by omega) (by omega);rw[show zaC (lowQ (decide ((15:Int)<0) != decide ((-6:Int)<0)) ((15:Int).natAbs*1) (1*(-6:Int).natAbs))=0 from by kernel_rfl] at h;exact zhC #[45,53,47,50] h (by kernel_rfl)
theorem zlW(w:World)(hT:Tabs w):Calls Tryz.prog 52 #[.string ⟨#[45,53,47,50]⟩] w fun e w'=>e = .returned (.tuple #[.string ⟨#[45,51]⟩,.int .i64 0])∧Below w.heap.size w w':=by
 have h:=zm4 ⟨#[45,53,47,50]⟩ w hT (by decide) (by kernel_rfl);rw[show zaC (zbb (zaf ((⟨#[45,53,47,50]⟩:ByteArray).data.toList)))=0 from by kernel_rfl] at h;exact zhC #[45,51] h (by kernel_rfl)
theorem zk9(w:World)(hT:Tabs w):Calls Tryz.prog 30 #[.agg #[.string ⟨#[45,49]⟩,.string ⟨#[50]⟩],.agg #[.string ⟨#[45,51]⟩,.string ⟨#[52]⟩]] w fun e w'=>e = .returned (.tuple #[.agg #[.string ⟨#[45,54]⟩,.string ⟨#[56]⟩],.int .i64 0])∧Below w.heap.size w w':=by
 have h:=zgx ⟨#[45,49]⟩ ⟨#[50]⟩ ⟨#[45,51]⟩ ⟨#[52]⟩ w hT (by decide) (by decide) (by decide) (by decide) 0 (by kernel_rfl) _ rfl;rw[if_neg (by omega),if_neg (by omega),if_neg (by omega)] at h;rw[show zbY (zcC (zaf ((⟨#[45,49]⟩:ByteArray).data.toList)) (zaf ((⟨#[50]⟩:ByteArray).data.toList)) (zaf ((⟨#[45,51]⟩:ByteArray).data.toList)) (zaf ((⟨#[52]⟩:ByteArray).data.toList))).1 (zcC (zaf ((⟨#[45,49]⟩:ByteArray).data.toList)) (zaf ((⟨#[50]⟩:ByteArray).data.toList)) (zaf ((⟨#[45,51]⟩:ByteArray).data.toList)) (zaf ((⟨#[52]⟩:ByteArray).data.toList))).2=0 from by kernel_rfl] at h;exact zeb #[45,54] #[56] h (by kernel_rfl) (by kernel_rfl)
theorem znd(w:World)(hT:Tabs w):Calls Tryz.prog 34 #[.agg #[.string ⟨#[49]⟩,.string ⟨#[50]⟩],.agg #[.string ⟨#[52]⟩,.string ⟨#[56]⟩]] w fun e w'=>e = .returned (.tuple #[.agg #[.string ⟨#[49,47,56]⟩,.string ⟨#[49,47,50]⟩],.int .i64 0])∧Below w.heap.size w w':=by
 have h:=zfL ⟨#[49]⟩ ⟨#[50]⟩ ⟨#[52]⟩ ⟨#[56]⟩ w hT (by decide) (by decide) (by decide) (by decide) 0 (by kernel_rfl) _ rfl;rw[if_neg (by omega),if_neg (by omega),if_neg (by omega)] at h;rw[show zbY (zcH (zaf ((⟨#[49]⟩:ByteArray).data.toList)) (zaf ((⟨#[50]⟩:ByteArray).data.toList)) (zaf ((⟨#[52]⟩:ByteArray).data.toList)) (zaf ((⟨#[56]⟩:ByteArray).data.toList))).1 (zcH (zaf ((⟨#[49]⟩:ByteArray).data.toList)) (zaf ((⟨#[50]⟩:ByteArray).data.toList)) (zaf ((⟨#[52]⟩:ByteArray).data.toList)) (zaf ((⟨#[56]⟩:ByteArray).data.toList))).2=0 from by kernel_rfl] at h;exact zeb #[49,47,56] #[49,47,50] h (by kernel_rfl) (by kernel_rfl)
theorem znO(w:World)(hT:Tabs w):Calls Tryz.prog 33 #[.agg #[.string ⟨#[49]⟩,.string ⟨#[50]⟩],.agg #[.string ⟨#[51]⟩,.string ⟨#[52]⟩]] w fun e w'=>e = .returned (.tuple #[.int .i64 (-1),.int .i64 0])∧Below w.heap.size w w':=by
 have h:=zfH ⟨#[49]⟩ ⟨#[50]⟩ ⟨#[51]⟩ ⟨#[52]⟩ w hT (by decide) (by decide) (by decide) (by decide) 0 (by kernel_rfl);rw[show rcmp (zaf ((⟨#[50]⟩:ByteArray).data.toList)) (zaf ((⟨#[51]⟩:ByteArray).data.toList)) = -1 from by kernel_rfl,show rcmp (zaf ((⟨#[49]⟩:ByteArray).data.toList)) (zaf ((⟨#[52]⟩:ByteArray).data.toList)) = -1 from by kernel_rfl] at h;exact h
theorem znM(w:World)(hT:Tabs w):Calls Tryz.prog 33 #[.agg #[.string ⟨#[49]⟩,.string ⟨#[50]⟩],.agg #[.string ⟨#[50]⟩,.string ⟨#[51]⟩]] w fun e w'=>e = .returned (.tuple #[.int .i64 (0),.int .i64 24])∧Below w.heap.size w w':=by
 have h:=zfH ⟨#[49]⟩ ⟨#[50]⟩ ⟨#[50]⟩ ⟨#[51]⟩ w hT (by decide) (by decide) (by decide) (by decide) 0 (by kernel_rfl);rw[show rcmp (zaf ((⟨#[50]⟩:ByteArray).data.toList)) (zaf ((⟨#[50]⟩:ByteArray).data.toList))=0 from by kernel_rfl,show rcmp (zaf ((⟨#[49]⟩:ByteArray).data.toList)) (zaf ((⟨#[51]⟩:ByteArray).data.toList)) = -1 from by kernel_rfl] at h;exact h
theorem zni(w:World)(hT:Tabs w):Calls Tryz.prog 36 #[.string ⟨#[50]⟩] w fun e w'=>e = .returned (.tuple #[.agg #[.string ⟨#[55,48,55,47,53,48,48]⟩,.string ⟨#[50,56,51,47,50,48,48]⟩],.int .i64 0])∧Below w.heap.size w w':=by
 have h:=zoB 0 ⟨false,2,1⟩ (lowQ false 1414 1000) (lowQ false (1414+1) 1000) ⟨#[50]⟩ w hT (Aa rfl) rfl ((zeL (by omega)).mono (by omega)) ((zeL (by omega)).mono (by omega)) (Aa (fun W hT=>zd0 ⟨#[50]⟩ (by decide) ⟨false,2,1⟩ (by kernel_rfl) (by kernel_rfl) W hT))
  (Aa (fun v W hT hv=>zh0 ⟨false,2,1⟩ 1 1 v W hT hv ((zbs (by decide) (by decide)).mono (by omega)) ⟨by decide,by decide⟩ ⟨by decide,by decide⟩ (by decide) 1414 ⟨by decide +kernel,by decide +kernel⟩ (Aa (by decide))))
 rw[show zbY (lowQ false 1414 1000) (lowQ false (1414+1) 1000)=0 from by kernel_rfl] at h;exact zeb #[55,48,55,47,53,48,48] #[50,56,51,47,50,48,48] h (by kernel_rfl) (by kernel_rfl)
theorem zpd(w:World)(hT:Tabs w):Calls Tryz.prog 55 #[.string ⟨#[49,47,51]⟩] w fun e w'=>e = .returned (.tuple #[.float .f32 1051372203,.int .i64 0])∧Below w.heap.size w w':=by
 have h:=zf5 ⟨#[49,47,51]⟩ w hT (by decide);rw[show zap ((⟨#[49,47,51]⟩:ByteArray).data.toList)=0 from by kernel_rfl,if_neg (by omega),if_neg (by omega),show flW (zaf ((⟨#[49,47,51]⟩:ByteArray).data.toList))=1051372203 from by decide +kernel,show flX (zaf ((⟨#[49,47,51]⟩:ByteArray).data.toList))=0 from by decide +kernel] at h;exact h
theorem zoG(w:World)(hT:Tabs w):Calls Tryz.prog 55 #[.string ⟨#[49,54,55,55,55,50,49,55]⟩] w fun e w'=>e = .returned (.tuple #[.float .f32 1266679808,.int .i64 0])∧Below w.heap.size w w':=by
 have h:=zf5 ⟨#[49,54,55,55,55,50,49,55]⟩ w hT (by decide);rw[show zap ((⟨#[49,54,55,55,55,50,49,55]⟩:ByteArray).data.toList)=0 from by kernel_rfl,if_neg (by omega),if_neg (by omega),show flW (zaf ((⟨#[49,54,55,55,55,50,49,55]⟩:ByteArray).data.toList))=1266679808 from by decide +kernel,show flX (zaf ((⟨#[49,54,55,55,55,50,49,55]⟩:ByteArray).data.toList))=0 from by decide +kernel] at h;exact h
theorem zo7(w:World)(hT:Tabs w):Calls Tryz.prog 55 #[.string ⟨#[49,54,55,55,55,50,49,57]⟩] w fun e w'=>e = .returned (.tuple #[.float .f32 1266679810,.int .i64 0])∧Below w.heap.size w w':=by
 have h:=zf5 ⟨#[49,54,55,55,55,50,49,57]⟩ w hT (by decide);rw[show zap ((⟨#[49,54,55,55,55,50,49,57]⟩:ByteArray).data.toList)=0 from by kernel_rfl,if_neg (by omega),if_neg (by omega),show flW (zaf ((⟨#[49,54,55,55,55,50,49,57]⟩:ByteArray).data.toList))=1266679810 from by decide +kernel,show flX (zaf ((⟨#[49,54,55,55,55,50,49,57]⟩:ByteArray).data.toList))=0 from by decide +kernel] at h;exact h
theorem zlY(w:World)(hT:Tabs w):Calls Tryz.prog 56 #[.float .f32 1051372203] w fun e w'=>e = .returned (.tuple #[.string ⟨#[49,49,49,56,52,56,49,49,47,51,51,53,53,52,52,51,50]⟩,.int .i64 0])∧Below w.heap.size w w':=by
 have h:=zmn 1051372203 w hT;rw[show Flt.fin Ieee.single 1051372203=true from by decide +kernel,if_pos rfl,if_pos rfl,show zaC (exQ 1051372203)=0 from by decide +kernel] at h;exact zhC #[49,49,49,56,52,56,49,49,47,51,51,53,53,52,52,51,50] h (by kernel_rfl)
theorem znn(w:World):Calls Tryz.prog 46 #[.int .i64 1,.int .i64 3] w fun e w'=>∃ g,e = .returned (.tuple #[.slice (some ⟨g,0,none⟩) 3 3,.int .i64 0])∧w.heap.size≤g∧w'.ownsRow g 3 1 (.slice (some ⟨g,0,none⟩) 3 3) 3 [.int .i64 1,.int .i64 2,.int .i64 0]∧Below w.heap.size w w':=by
 have h:=zoP 1 3 w (by omega) (by omega) (by omega);rw[show(Dl.drawL 1 3).map natv=[.int .i64 1,.int .i64 2,.int .i64 0] from by kernel_rfl] at h;exact h
theorem zkx(A:Option Addr)(c:Nat)(w:World)(h:zaA w w.heap.size 1 A 3 [.int .i64 1,.int .i64 2,.int .i64 4]):Calls Tryz.prog 45 #[.int .i64 50,.slice A 3 c] w fun e w'=>∃ g,e = .returned (.tuple #[.slice (some ⟨g,0,none⟩) 3 3,.int .i64 0])∧w.heap.size≤g∧w'.ownsRow g 3 1 (.slice (some ⟨g,0,none⟩) 3 3) 3 [.int .i64 7,.int .i64 14,.int .i64 29]∧Below w.heap.size w w':=by
 have h2:=zmP 50 A 3 c [1,2,4] w (by omega) h (by decide) (by omega) (by omega) (by decide);rw[show(Dl.shares 50 [1,2,4]).map natv=[.int .i64 7,.int .i64 14,.int .i64 29] from by kernel_rfl] at h2;exact h2
end
section
open Go.RowKit Bn
open Flt
theorem zfU{l:List UInt8}(h:zap l=0):LowQ (zaf l):=⟨zeG h,zl4 h,zk2 h⟩
end
section
open Go.RowKit Dn
theorem zkI {l:List UInt8} {N:Nat} (h:zap l=0) (hN:N=600):Small (zaf l) N:=by
 obtain⟨h1,h2,_,hf⟩:=zcu h;rw[←hN] at h2 hf;have aA:1≤N:=by omega
 clear hN;unfold zaf Small;rw[if_pos h];refine⟨Nat.lt_of_lt_of_le (zbB _ (zau h1)) (Nat.pow_le_pow_right (by omega) h2),?_⟩
 cases hb:zdz l
 ·simp only[Bool.false_eq_true,if_false]
  have h9:10^1≤10^N:=Nat.pow_le_pow_right (by omega) aA;omega
 ·obtain⟨h3,_,_,h4,_⟩:=hf hb
  simp only[if_true]
  exact Nat.lt_of_lt_of_le (zbB _ (zau h3)) (Nat.pow_le_pow_right (by omega) h4)
theorem zcJ{a:ByteArray}(h:zap a.data.toList=0):NumQ a (zaf a.data.toList):=⟨(ziK _ h).symm,zfU h⟩
theorem zh3 {a:ByteArray} (h:zap a.data.toList=0):a.size≤1202:=by
 obtain⟨N,hN⟩:∃ N:Nat,N=600:=⟨_,rfl⟩;have:=(zcJ h).size (zkI h hN) (by omega);omega
end
section
open Go.RowKit Bn
open Flt
theorem zha(b:Bool)(t d:Nat):lowQ b t d=zbw (sgn b t) d:=by
 unfold zbw;rw[zcU,zbR];unfold lowQ
 by_cases hd:d=0
 ·rw[if_pos hd,if_pos hd]
 ·rw[if_neg hd,if_neg hd]
  by_cases ht:t=0
  ·rw[if_pos ht,if_pos ht]
  ·rw[if_neg ht,if_neg ht,decide_eq_true (Nat.pos_of_ne_zero ht),Bool.and_true]
theorem zjN(p:Q):sI p=sgn p.neg p.top:=rfl
theorem zgL (p q:Q):lowQ (p.neg != q.neg) (p.top*q.top) (p.bot*q.bot)=mulQ p q:=by
 rw[zha];unfold mulQ;rw[zjN,zjN,←ziq]
 cases p.neg<;>cases q.neg<;>rfl
theorem zfT(p q:Q):zb0 p q=addQ p q:=by
 unfold zb0 addQ;rw[zjN,zjN];have e1:∀ b x y,sgn b x*(y:Nat)=sgn b (x*y):=by
  intro b x y;unfold sgn
  cases b<;>simp[Int.natCast_mul,Int.neg_mul]
 rw[e1,e1];generalize p.top*q.bot=u;generalize q.top*p.bot=v;generalize p.bot*q.bot=d
 split
 ·rename_i h
  rw[h,zha]
  congr 1
  unfold sgn
  cases q.neg<;>simp<;>omega
 ·rename_i h
  split
  ·rename_i h2
   rw[zha]
   congr 1
   unfold sgn
   cases hp:p.neg<;>cases hq:q.neg<;>rw[hp,hq] at h<;>simp at h ⊢ <;> omega
  ·rename_i h2
   rw[zha]
   congr 1
   unfold sgn
   cases hp:p.neg<;>cases hq:q.neg<;>rw[hp,hq] at h<;>simp at h ⊢ <;> omega
theorem zgM{p:Q}{N:Nat}(h:Small p N)(hN:N≤600)(hN0:0<N)(hb:0<p.bot):zaC p=0∧zbx p=zaE p:=by
 have h1:=Dec.dec_length_le hN0 h.1;have h2:=Dec.dec_length_le hN0 h.2;have h0:zaC p=0:=by
  unfold zaC;rw[if_neg (by omega),if_neg (by omega)]
 exact⟨h0,by unfold zbx;rw[if_pos h0]⟩
end
end Go.Proofs.YtmkondcdejlhcaaGreatDoor
