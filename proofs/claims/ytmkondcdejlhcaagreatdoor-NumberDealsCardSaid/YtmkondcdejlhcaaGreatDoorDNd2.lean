/- NumberDeals behind its guards. -/
import Derived.Test.YtmkondcdejlhcaaGreatDoorDDlp
namespace Go.Proofs.YtmkondcdejlhcaaGreatDoor
open Go.RowKit Bn
theorem zkH (M:Nat):∀ l:List Nat,(∀ x ∈ l,x≤M)→l.sum≤l.length*M
 | [],_=>by simp
 | a :: t,h=>by
  have h1:=h a (List.mem_cons_self ..);have h2:=zkH M t (fun x hx=>h x (List.mem_cons_of_mem _ hx));rw [List.sum_cons,List.length_cons,Nat.succ_mul];omega
theorem zju (l:List Nat) (k:Nat) (h:k<l.length):(l.take (k+1)).sum=(l.take k).sum+l[k]:=by
 rw [List.take_succ_eq_append_getElem h,List.sum_append];simp
theorem zhs:∀ (l:List Nat) (k:Nat),(l.take k).sum≤l.sum
 | [],k=>by simp
 | a :: t,0=>by simp
 | a :: t,k+1=>by
  have h2:=zhs t k;rw [List.take_succ_cons,List.sum_cons,List.sum_cons];omega
theorem zdN (l:List Nat) (i:Nat) (h:i<l.length):l.getD i 0=l[i]:=by simp [List.getD,h]
theorem zjd (L:List Nat):L.map natv=(L.map fun (d:Nat)=>(d:Int)).map i64v:=by
 rw [List.map_map];rfl
theorem zm5 {l:List Nat} (hz:zeF l=false):0<l.sum:=by
 rcases Nat.eq_zero_or_pos l.sum with e | e
 ·have:zeF l=true:=by
   unfold zeF;rw [List.all_eq_true];intro x hx;have:=zef hx;simp;omega
  rw [this] at hz;cases hz
 ·exact e
set_option maxHeartbeats 16000000 in
set_option maxRecDepth 100000 in
theorem zl3 (T:Nat) (A:Option Addr) (n c:Nat) (L:List Nat) (key m:Nat) (w:World) (KV:zcx) (hT:Tabs w) (h:zaC w w.heap.size 1 A n (L.map natv)) (hTt:T≤100000) (hl:∀ x ∈ L,x≤999999999) (hz:zeF L=false) (hn1:1≤n) (hn:n≤12)
  (hk:1≤key) (hk2:key≤2147483398) (hm:m≤40) (hcw:ckW (L.map (fun (d:Nat)=>(d:Int)))=0) (hcd:zfb key m=0) :
  Calls Tryz.prog 7 #[.agg #[.int .i64 (T:Int),.slice A n c,.int .i64 (key:Int),.int .i64 (m:Int)]] w fun e w'=>e = .returned (.bool true)∧Below w.heap.size w w':=by
 have HK:=Aa KV;clear KV;have cP:L.length=n:=by have:=h.1;rw [List.length_map] at this;omega
 have aQ:=zm5 hz;have aS:Below w.heap.size w (w.alloc (.cells #[.int .i64 (T:Int),.slice A n c,.int .i64 (key:Int),.int .i64 (m:Int)] 62)):=Ac;have q1:CBlk (w.alloc (.cells #[.int .i64 (T:Int),.slice A n c,.int .i64 (key:Int),.int .i64 (m:Int)] 62)) w.heap.size #[.int .i64 (T:Int),.slice A n c,.int .i64 (key:Int),.int .i64 (m:Int)] 62:=CBlk.new _ _ _ _ rfl;have aK:=Aa (fun (W:World) (hW:Below w.heap.size w W)=>zdu A n c (L.map (fun (d:Nat)=>(d:Int))) w.heap.size W (by have h9:=h.below hW;rw [zjd] at h9;exact h9) (by unfold maxLen;omega));have aH:=Aa (fun W=>zfc key m W);rw [hcw] at aK;rw [hcd] at aH;clear hcw hcd;have bO:=Aa (fun (W:World) (hW:Below w.heap.size w W)=>h.below hW);have cJ:=Aa (fun (W:World) (hW:Below w.heap.size w W)=>zi9 T A n c L W (by omega) ((h.below hW).more hW.size) hl hn1 (by omega) hz);have cG:=Aa (fun (W:World)=>zmA key m W hk hk2 (by omega));have cH:=Aa (fun (i:Nat) (hi:i<L.length)=>Dl.shares_near T L aQ i hi);have cA:=Aa (fun (i k:Nat) (hi:i<L.length) (hk:k<L.length)=>Dl.shares_mono T L aQ i k hi hk);have bQ:=Aa (Dl.shares_sum T L aQ);have bA:=Aa (Dl.shares_len T L);have bI:=Aa (Dl.drawL_perm key m);have cN:=Aa (fun (h:2≤m)=>Dl.drawL_last key m h);have e1:decide ((T:Int)<0)=false:=decide_eq_false (by omega);have e2:decide ((100000:Int)<(T:Int))=false:=decide_eq_false (by omega);have e3:decide ((12:Int)<(n:Int))=false:=decide_eq_false (by omega);have e4:decide ((40:Int)<(m:Int))=false:=decide_eq_false (by omega);clear hz hl h;go_enter Tryz.func7,Tryz.ntmps7
 go_wp2_with fail
 generalize (w.alloc (.cells #[.int .i64 (T:Int),.slice A n c,.int .i64 (key:Int),.int .i64 (m:Int)] 62))=w1 at *;refine (HK.out w1 (hT.later aS)).mono ?_;rintro e w2 ⟨rfl,bL⟩;have aF:=Ad aS bL;have q2:=q1.below bL q1.lt;have x0:w2.cell? ⟨w.heap.size,0,none⟩=some (.int .i64 (T:Int)):=q2.cell 0;have x1:w2.cell? ⟨w.heap.size,1,none⟩=some (.slice A n c):=q2.cell 1;have x2:w2.cell? ⟨w.heap.size,2,none⟩=some (.int .i64 (key:Int)):=q2.cell 2;have x3:w2.cell? ⟨w.heap.size,3,none⟩=some (.int .i64 (m:Int)):=q2.cell 3;have bB:=q2.lt;have h2:=bO.out w2 aF;clear q1 bL aS w1
 go_wp2_with fail
 refine (aK.out w2 aF).mono ?_;rintro e w3 ⟨rfl,rfl⟩
 go_wp2_with fail
 refine (aH.out w2).mono ?_;rintro e w3 ⟨rfl,rfl⟩;clear e1 e2 e3 e4
 go_wp2_with fail
 go_loopg [3,56] n (fun mm s t W=>∃ k:Nat,k≤n∧t = .int .i64 k∧s = .int .i64 ((L.take k).sum:Nat)∧n - k≤mm∧Hid (∀ x ∈ L.take k,x≤100000)∧W=w2)
 case atStart=>exact ⟨0,Nat.zero_le _,rfl,rfl,by omega,Aa (by simp),rfl⟩
 case round=>
  obtain ⟨k,cQ,rfl,rfl,bP,aA,hW⟩:=hrel;have cS:=hW.symm;clear hW;subst cS
  by_cases h0:k<n
  ·have aC:k<L.length:=by omega
   obtain ⟨ad,u,rfl,bZ,hu,aJ⟩:=h2.at_ h0;have bD:u = .int .i64 (L[k]:Int):=by simp [natv,aC] at hu;exact hu.symm
   subst bD;have aG:=zju L k aC;have aR:=zkH 100000 (L.take k) aA.out;rw [List.length_take] at aR;have aN:(L.take k).sum≤1200000:=by
    have h9:min k L.length≤12:=by omega
    omega
   have HG:Hid (L[k]≤100000→∀ x ∈ L.take (k+1),x≤100000):=Aa (fun hx x hm=>by
    rw [List.take_succ_eq_append_getElem aC,List.mem_append] at hm
    rcases hm with hm | hm
    ·exact aA.out x hm
    ·rw [List.mem_singleton] at hm;subst hm;exact hx)
   have bM:=Aa aG;have aV:L[k]≤999999999∨True := .inr trivial;clear hu aG aR aA aV;generalize L[k]=x at *
   by_cases c1:100000<x
   ·have d:decide ((100000:Int)<(x:Int))=true:=decide_eq_true (by omega)
    go_wp2_with fail
    go_ret;exact ⟨rfl,aF⟩
   ·have d:decide ((100000:Int)<(x:Int))=false:=decide_eq_false (by omega)
    generalize dG:(L.take k).sum=S0 at *
    go_wp2_with fail
    go_roundg (n - (k+1))
    case measure=>omega
    case rel=>exact ⟨k+1,by omega,by go_num,by rw [bM.out];go_num,Nat.le_refl _,Aa (HG.out (by omega)),rfl⟩
  ·obtain rfl:n=k:=by omega
   rw [List.take_of_length_le (by omega)] at aA ⊢;have aR:=zkH 100000 L aA.out;have aN:L.sum≤1200000:=by omega
   have cZ:=Aa aA.out;clear aA aR h0 bP
   go_wp2_with fail
   refine (cJ.out w2 aF).mono ?_;rintro e w3 ⟨b,rfl,dL,aM,bH⟩;have aP:=Ad aF bH;have q3:=q2.below bH bB;have y0:w3.cell? ⟨w.heap.size,0,none⟩=some (.int .i64 (T:Int)):=q3.cell 0;have y1:w3.cell? ⟨w.heap.size,1,none⟩=some (.slice A n c):=q3.cell 1;have y2:w3.cell? ⟨w.heap.size,2,none⟩=some (.int .i64 (key:Int)):=q3.cell 2;have y3:w3.cell? ⟨w.heap.size,3,none⟩=some (.int .i64 (m:Int)):=q3.cell 3;have h3:=bO.out w3 aP;have dP:=(hT.later aP);clear x0 x1 x2 x3 h2 bH q2
   go_wp2_with fail
   go_loopg [8,89] n (fun mm s t W=>∃ k:Nat,k≤n∧t = .int .i64 k∧s = .int .i64 ((T:Int) - (((Dl.shares T L).take k).sum:Nat))∧n - k≤mm∧∃ q,W=w3.drewN q)
   case atStart=>exact ⟨0,Nat.zero_le _,rfl,by simp,by omega,0,rfl⟩
   case round=>
    obtain ⟨k,cQ,rfl,rfl,bP,q,rfl⟩:=hrel
    by_cases h0:k<n
    ·have aC:k<L.length:=by omega
     have aL:k<(Dl.shares T L).length:=by rw [bA.out];exact aC
     obtain ⟨ad,u,rfl,bZ,hu,aJ⟩:=h3.at_ h0;have bD:u = .int .i64 (L[k]:Int):=by simp [natv,aC] at hu;exact hu.symm
     subst bD;have cs:w3.cell? ⟨b,k,none⟩=some (.int .i64 ((Dl.shares T L)[k]:Int)):=by rw [World.ownsRow.cellAt aM k (by omega)];simp [natv,aL]
     have aU:=cH.out k aC;have aV:=cZ.out L[k] (List.getElem_mem aC);have bE:=bQ.out;have cY:=zef (List.getElem_mem aL);have aG:=zju (Dl.shares T L) k aL;have dI:((Dl.shares T L).take k).sum+(Dl.shares T L)[k]≤T:=by
      have h9:=zhs (Dl.shares T L) (k+1);rw [aG,bE] at h9;exact h9
     have aE:∀ (j:Nat) (hj:j<L.length) (bN:j<(Dl.shares T L).length),L[j]<L[k]→(Dl.shares T L)[j]≤(Dl.shares T L)[k]:=fun j hj bN cW=>by
      have h9:=cA.out k j aC hj;rw [zdN _ _ aC,zdN _ _ hj,zdN _ _ aL,zdN _ _ bN] at h9;exact h9 cW
     rw [zdN _ _ aC,zdN _ _ aL] at aU;rw [bE] at cY;have cR:=Aa aE;have bM:=Aa aG;clear aE aG hu bE;generalize hx:L[k]=x at *;generalize hy:(Dl.shares T L)[k]=y at *;generalize hS:L.sum=S at *;have dA:y*S≤100000*1200000:=Nat.mul_le_mul (by omega) aN;have cM:T*x≤100000*100000:=Nat.mul_le_mul hTt aV;obtain ⟨P,hP⟩:∃ P,P=y*S:=⟨_,rfl⟩;obtain ⟨R,hR⟩:∃ R,R=T*x:=⟨_,rfl⟩;rw [←hP] at dA aU;rw [←hR] at cM aU;have m1:(y:Int)*(S:Int)=(P:Int):=by rw [hP];push_cast;rfl
     have m2:(T:Int)*(x:Int)=(R:Int):=by rw [hR];push_cast;rfl
     clear hP hR;have d1:decide ((y:Int)<0)=false:=decide_eq_false (by omega);have d2:decide ((T:Int)<(y:Int))=false:=decide_eq_false (by omega);have d3:decide ((P:Int)≤(R:Int) - (S:Int))=false:=decide_eq_false (by omega);have d4:decide ((R:Int)+(S:Int)≤(P:Int))=false:=decide_eq_false (by omega);have dK:decide (T<y)=false:=decide_eq_false (by omega);have dH:decide (R+S≤P)=false:=decide_eq_false (by omega);have g1:IntKind.i64.wrap ((y:Int)*(S:Int))=(P:Int):=by rw [m1];exact IntWalk.i64_in _ (by omega)
     have g2:IntKind.i64.wrap ((T:Int)*(x:Int))=(R:Int):=by rw [m2];exact IntWalk.i64_in _ (by omega)
     have g3:IntKind.i64.wrap ((R:Int) - (S:Int))=(R:Int) - (S:Int):=IntWalk.i64_in _ (by omega);have g4:IntKind.i64.wrap ((R:Int)+(S:Int))=(R:Int)+(S:Int):=IntWalk.i64_in _ (by omega);clear m1 m2
     go_wp2_with fail
     have cT:(w3.drewN q).cell? ⟨w.heap.size,0,none⟩=some (.int .i64 (T:Int)):=y0;have cB:(w3.drewN q).cell? ⟨b,k,none⟩=some (.int .i64 (y:Int)):=cs
     go_region_held3 (fun w'=>w'.cell? ⟨w.heap.size,0,none⟩=some (.int .i64 (T:Int))∧w'.cell? ⟨b,k,none⟩=some (.int .i64 (y:Int)))
      (exact ⟨cT,cB⟩)
      (fail)
     go_wp2_with fail
     go_loopg [141] n (fun m2 s W=>∃ j:Nat,j≤n∧s = .int .i64 j∧n - j≤m2∧∃ q,W=w3.drewN q)
     case atStart=>exact ⟨0,Nat.zero_le _,rfl,by omega,_,rfl⟩
     case round=>
      obtain ⟨j,dN,rfl,dO,q5,rfl⟩:=hrel
      by_cases h1:j<n
      ·have bC:j<L.length:=by omega
       have bS:j<(Dl.shares T L).length:=by rw [bA.out];exact bC
       obtain ⟨dJ,u5,e5,bW,aW,bF⟩:=h3.at_ h1;injection e5 with e5
       subst e5;have cE:u5 = .int .i64 (L[j]:Int):=by simp [natv,bC] at aW;exact aW.symm
       subst cE;have cL:w3.cell? ⟨b,j,none⟩=some (.int .i64 ((Dl.shares T L)[j]:Int)):=by rw [World.ownsRow.cellAt aM j (by omega)];simp [natv,bS]
       have aE:=cR.out j bC bS;clear aW;generalize L[j]=v at *;generalize (Dl.shares T L)[j]=y5 at *
       by_cases c5:v<x
       ·have f1:decide ((v:Int)<(x:Int))=true:=decide_eq_true (by omega)
        have f2:decide ((y:Int)<(y5:Int))=false:=decide_eq_false (by have:=aE c5;omega);have dB:decide (v<x)=true:=decide_eq_true c5;have dM:decide (y<y5)=false:=decide_eq_false (by have:=aE c5;omega);clear aE
        go_wp2_with fail
        have cK:(w3.drewN q5).cell? ⟨b,k,none⟩=some (.int .i64 (y:Int)):=cs;have aT:(w3.drewN q5).cell? ⟨b,j,none⟩=some (.int .i64 (y5:Int)):=cL
        go_region_held3 (fun w'=>w'.cell? ⟨b,k,none⟩=some (.int .i64 (y:Int))∧w'.cell? ⟨b,j,none⟩=some (.int .i64 (y5:Int)))
         (exact ⟨cK,aT⟩)
         (fail)
        go_wp2_with fail
        go_roundg (n - (j+1))
        case measure=>omega
        case rel=>exact ⟨j+1,by omega,by go_num,Nat.le_refl _,_,rfl⟩
       ·have f1:decide ((v:Int)<(x:Int))=false:=decide_eq_false (by omega)
        have dB:decide (v<x)=false:=decide_eq_false c5;clear aE
        go_wp2_with fail
        go_region
        go_wp2_with fail
        go_roundg (n - (j+1))
        case measure=>omega
        case rel=>exact ⟨j+1,by omega,by go_num,Nat.le_refl _,_,rfl⟩
      ·obtain rfl:n=j:=by omega
       generalize aQ:((Dl.shares T L).take k).sum=S0 at *
       go_wp2_with fail
       go_roundg (n - (k+1))
       case measure=>omega
       case rel=>exact ⟨k+1,by omega,by go_num,by rw [bM.out];go_num,Nat.le_refl _,_,rfl⟩
    ·obtain rfl:n=k:=by omega
     have bU:(T:Int) - (((Dl.shares T L).take n).sum:Nat)=0:=by
      have h9:=bQ.out;rw [List.take_of_length_le (by rw [bA.out];omega),h9];omega
     rw [bU];clear bU
     go_wp2_with fail
     refine (cG.out (w3.drewN q)).mono ?_;rintro e w4 ⟨g,rfl,dD,aD,bJ⟩;have cC:Below w.heap.size w w4:=(zac aP q).trans (bJ.mono aP.size);have q4:=(show CBlk (w3.drewN q) _ _ _ from q3).below bJ q3.lt;have z2:w4.cell? ⟨w.heap.size,2,none⟩=some (.int .i64 (key:Int)):=q4.cell 2;have z3:w4.cell? ⟨w.heap.size,3,none⟩=some (.int .i64 (m:Int)):=q4.cell 3;have dF:(Dl.drawL key m).length=m:=by rw [bI.out.length_eq,List.length_range]
     have aO:∀ y ∈ Dl.drawL key m,y<m:=fun y hy=>by have h9:=bI.out.mem_iff.1 hy;exact List.mem_range.1 h9
     have aI:(Dl.drawL key m).Nodup:=bI.out.nodup_iff.2 List.nodup_range;have cI:=Aa (zmv (some ⟨g,0,none⟩) m m _ w4 w4.heap.size (zaC.of_own aD) (by omega) aO aI);have cO:=Aa (fun (j:Nat) (hj:j<m)=>World.ownsRow.cellAt aD j (show j<m*1 by omega));clear aD aO aI bJ q3 y0 y1 y2 y3 h3
     go_wp2_with fail
     refine cI.out.mono ?_;rintro e w5 ⟨rfl,q6,rfl⟩;have bT:=zac cC q6
     by_cases h2m:m<2
     ·have k1:decide ((m:Int)<2)=true:=decide_eq_true (by omega)
      have cU:decide (m<2)=true:=decide_eq_true h2m
      go_wp2_with fail
      go_region
      go_wp2_with fail
      go_ret;exact ⟨rfl,bT.drew⟩
     ·have k1:decide ((m:Int)<2)=false:=decide_eq_false (by omega)
      have cU:decide (m<2)=false:=decide_eq_false h2m;have aZ:=cN.out (by omega);have c5:=cO.out (m - 1) (by omega);have hq:40692*key<40692*2147483399:=by omega
      obtain ⟨Q0,bR⟩:∃ Q0,Q0=40692*key:=⟨_,rfl⟩;obtain ⟨Q1,bK⟩:∃ Q1,Q1=Q0 % 2147483399:=⟨_,rfl⟩;obtain ⟨Q2,bG⟩:∃ Q2,Q2=Q1 % m:=⟨_,rfl⟩;rw [←bR,←bK,←bG] at aZ;have bV:(List.map natv (Dl.drawL key m))[m - 1]? = some (.int .i64 (Q2:Int)):=by
       rw [List.getElem?_map,List.getElem?_eq_getElem (by omega),Option.map_some,←zdN _ _ (by omega),aZ];rfl
      have aT:(w4.drewN q6).cell? ⟨w.heap.size,2,none⟩=some (.int .i64 (key:Int)):=z2;have cF:(w4.drewN q6).cell? ⟨w.heap.size,3,none⟩=some (.int .i64 (m:Int)):=z3;have cV:(w4.drewN q6).cell? ⟨g,m - 1,none⟩=some (.int .i64 (Q2:Int)):=c5.trans bV;have i1:IntKind.i64.wrap ((m:Int) - 1)=((m - 1:Nat):Int):=by rw [IntWalk.i64_in _ (by omega)];omega
      have j1:(0:Int)≤((m - 1:Nat):Int):=by omega
      have j2:((m - 1:Nat):Int)<(m:Int):=by omega
      have j3:m - 1<m:=by omega
      clear c5 bV;generalize m - 1=M1 at *;have j4:(m:Int)≠0:=by omega
      have j5:((m:Int)==0)=false:=by rw [beq_eq_false_iff_ne];exact j4
      have j6:m≠0:=by omega
      have i2:IntKind.i64.wrap ((40692:Int)*(key:Int))=(Q0:Int):=by rw [IntWalk.i64_in _ (by omega)];omega
      have i3:((Q0:Int)).tmod 2147483399=(Q1:Int):=by rw [bK,Int.tmod_eq_emod_of_nonneg (by omega)];rfl
      have i4:((Q1:Int)).tmod (m:Int)=(Q2:Int):=by rw [bG,Int.tmod_eq_emod_of_nonneg (by omega)];rfl
      clear aZ hq bR bK bG
      go_wp2_with fail
      go_region_held3 (fun w'=>w'.cell? ⟨w.heap.size,2,none⟩=some (.int .i64 (key:Int))∧w'.cell? ⟨w.heap.size,3,none⟩=some (.int .i64 (m:Int))∧w'.cell? ⟨g,M1,none⟩=some (.int .i64 (Q2:Int)))
       (exact ⟨aT,cF,cV⟩)
       (fail)
      go_wp2_with fail
      go_ret;exact ⟨rfl,bT.drew⟩
end Go.Proofs.YtmkondcdejlhcaaGreatDoor
