/- The reference's Float of any number of at most 60 digits. -/
import Derived.Test.YtbkgkoenppkhpaaGreatDoorFNx1
set_option maxRecDepth 100000
set_option maxHeartbeats 4000000
namespace Go.Proofs.YtbkgkoenppkhpaaGreatDoor
open Go.RowKit Bn Dn
open Flt
theorem zdV(a u v:ByteArray)(S c1 c2:Int)(b:Bool)(K1:zax 12 #[.string a] (.int .i64 S))(dS:decide (S<0)=false)(K2:zax 94 #[.string ⟨#[50]⟩,.int .i64 128] (.string u))(K3:zax 39 #[.string a,.string u] (.int .i64 c1))
 (K4:zax 94 #[.string ⟨#[50]⟩,.int .i64 (-151)] (.string v))(K5:zax 39 #[.string a,.string v] (.int .i64 c2))(h:(decide (0≤c1)=true∧b=false)∨(decide (0≤c1)=false∧decide (c2<0)=true∧b=true)) :
  zax 37 #[.string a] (.tuple #[.float .f32 0,.bool b]):=by
 intro w;have J1:=Aa K1;have J2:=Aa K2;have J3:=Aa K3;have J4:=Aa K4;have J5:=Aa K5;clear K1 K2 K3 K4 K5
 rcases h with⟨d1,rfl⟩ | ⟨d1,d2,rfl⟩
 all_goals
  go_enter Tryz.func37,Tryz.ntmps37
  go_wp2_with fail
  refine(J1.out w).mono ?_;rintro e w1 ⟨rfl,aD⟩
  go_wp2_with fail
  refine(J2.out w1).mono ?_;rintro e w2 ⟨rfl,aG⟩
  go_wp2_with fail
  refine(J3.out w2).mono ?_;rintro e w3 ⟨rfl,aF⟩;have aA:=bvia (bvia aD aG) aF
 ·go_wp2
  go_ret2
  exact⟨rfl,aA⟩
 ·go_wp2_with fail
  refine(J4.out w3).mono ?_;rintro e w4 ⟨rfl,aH⟩
  go_wp2_with fail
  refine(J5.out w4).mono ?_;rintro e w5 ⟨rfl,aC⟩;have aE:=bvia (bvia aA aH) aC;go_wp2
  go_ret2
  exact⟨rfl,aE⟩
theorem zja(T:Int→ByteArray)(u v fl fn r:ByteArray)(S c1 c2 c E:Int)(n N F:Nat)(B:Bool)(K1:zax 12 #[.string (T 0)] (.int .i64 S))(dS:decide (S<0)=false)(K2:zax 94 #[.string ⟨#[50]⟩,.int .i64 128] (.string u))(K3:zax 39 #[.string (T 0),.string u] (.int .i64 c1))
 (K4:zax 94 #[.string ⟨#[50]⟩,.int .i64 (-151)] (.string v))(K5:zax 39 #[.string (T 0),.string v] (.int .i64 c2))(d1:decide (0≤c1)=false)(d2:decide (c2<0)=false)(hE : -149≤E∧E≤104)
 (H24:∀ k:Int,0≤k→k≤104→∃ c,decide (0≤c)=decide (k<E)∧zax 39 #[.string (T k),.string ⟨#[49,54,55,55,55,50,49,54]⟩] (.int .i64 c))
 (HH:∀ k:Int,0≤k→k<E→zax 44 #[.string (T k)] (.string (T (k+1))))
 (H23:∀ k:Int,E≤k→k≤104→∃ c,((E<k∧decide (c<0)=true)∨(k=E∧(decide (c<0)=false∨(decide (c<0)=true∧k = -149))))∧zax 39 #[.string (T k),.string ⟨#[56,51,56,56,54,48,56]⟩] (.int .i64 c))
 (HM:∀ k:Int,E<k→k≤0→zax 48 #[.string (T k),.string ⟨#[50]⟩] (.string (T (k-1))))
 (K6:zax 72 #[.string (T E)] (.string fl))(K7:zax 101 #[.string fl] (.tuple #[.int .i64 (n:Int),.bool true]))(K8:zax 93 #[.int .i64 (n:Int)] (.string fn))(K9:zax 41 #[.string (T E),.string fn] (.string r))(K10:zax 39 #[.string r,.string ⟨#[49,47,50]⟩] (.int .i64 c))
 (hn:n<16777216)
 (hup:(N=n+1∧(decide (0<c)=true∨(decide (0<c)=false∧(c==0)=true∧(n:Int)%2=1)))∨(N=n∧decide (0<c)=false∧((c==0)=false∨((c==0)=true∧(n:Int)%2=0))))
 (hend:(((N:Int)==16777216)=true∧(E==104)=true∧F=0∧B=false)∨((((N:Int)==16777216)=false∨(((N:Int)==16777216)=true∧(E==104)=false))∧B=true∧∀ w,Calls Tryz.prog 102 #[.int .i64 (N:Int),.int .i64 E] w fun e w'=>e = .returned (.float .f32 F)∧w=w')) :
  zax 37 #[.string (T 0)] (.tuple #[.float .f32 F,.bool B]):=by
 intro w;have J1:=Aa K1;have J2:=Aa K2;have J3:=Aa K3;have J4:=Aa K4;have J5:=Aa K5;have J6:=Aa K6;have J7:=Aa K7;have J8:=Aa K8;have J9:=Aa K9;have aW:=Aa K10;have aZ:=Aa H24;have PH:=Aa HH;have aR:=Aa H23;have PM:=Aa HM;have HU:=Aa hup;have HE:=Aa hend;obtain⟨bQ,bL⟩:=hE;clear K1 K2 K3 K4 K5 K6 K7 K8 K9 K10 H24 HH H23 HM hup hend;go_enter Tryz.func37,Tryz.ntmps37
 go_wp2_with fail
 refine(J1.out w).mono ?_;rintro e w1 ⟨rfl,aU⟩
 go_wp2_with fail
 refine(J2.out w1).mono ?_;rintro e w2 ⟨rfl,bD⟩
 go_wp2_with fail
 refine(J3.out w2).mono ?_;rintro e w3 ⟨rfl,bC⟩
 go_wp2_with fail
 refine(J4.out w3).mono ?_;rintro e w4 ⟨rfl,aS⟩
 go_wp2_with fail
 refine(J5.out w4).mono ?_;rintro e w5 ⟨rfl,aT⟩;have bS:=bvia (bvia (bvia (bvia aU bD) bC) aS) aT;clear aU bD bC aS aT J1 J2 J3 J4 J5 dS d1;obtain⟨K0,bJ⟩:∃ K0:Int,K0=max E 0:=⟨_,rfl⟩;have bM:0≤K0∧E≤K0∧K0≤104∧(0<K0→K0=E):=by omega
 clear bJ;go_wp2
 go_loopg [0,6] K0.toNat (fun g v0 v6 W=>∃ k:Int,v0 = .string (T k)∧v6 = .int .i64 k∧0≤k∧k≤K0∧g=(K0-k).toNat∧Below w.heap.size w W)
 case atStart=>exact⟨0,rfl,rfl,by omega,by omega,by omega,bS⟩
 case round=>
  obtain⟨k,rfl,rfl,aN,bF,rfl,aQ⟩:=hrel;obtain⟨c,hc,g⟩:=aZ.out k aN (by omega);have G:=Aa g;clear g
  by_cases hlt:k<E
  ·rw[decide_eq_true hlt] at hc
   have G2:=Aa (PH.out k aN hlt);obtain⟨k2,aD⟩:∃ k2,k2=k+1:=⟨_,rfl⟩;rw[←aD] at G2;have hw:IntKind.i64.wrap (k+1)=k2:=by rw[IntWalk.i64_in _ (by omega)];omega
   go_wp2_with fail
   refine(G.out wr).mono ?_;rintro e w6 ⟨rfl,aK⟩
   go_wp2_with fail
   refine(G2.out w6).mono ?_;rintro e w7 ⟨rfl,bE⟩;have aP:=bvia (bvia aQ aK) bE;go_wp2
   go_roundg (K0-k2).toNat
   case rel=>exact⟨k2,by first | rfl | rw[aD],by first | rfl | rw[aD],by omega,by omega,rfl,aP⟩
   case measure=>omega
  ·rw[decide_eq_false hlt] at hc
   have bR:k=K0∨k=0:=by omega
   go_wp2_with fail
   refine(G.out wr).mono ?_;rintro e w6 ⟨rfl,aK⟩;have aP:=bvia aQ aK;clear aK aQ G;go_wp2
   go_loopg [0,6] (k-E).toNat (fun g v0 v6 W=>∃ j:Int,v0 = .string (T j)∧v6 = .int .i64 j∧E≤j∧j≤k∧(E<j→j≤0)∧g=(j-E).toNat∧Below w.heap.size w W)
   case atStart=>exact⟨k,rfl,rfl,by omega,by omega,by omega,rfl,aP⟩
   case round=>
    obtain⟨j,rfl,rfl,aX,bK,aV,rfl,aM⟩:=hrel;obtain⟨c',hc,g⟩:=aR.out j aX (by omega);have G:=Aa g;clear g
    rcases hc with⟨aC,d1⟩ | ⟨rfl,hc⟩
    ·have G2:=Aa (PM.out j aC (aV aC))
     obtain⟨k2,aD⟩:∃ k2,k2=j-1:=⟨_,rfl⟩;rw[←aD] at G2;have hw:IntKind.i64.wrap (j-1)=k2:=by rw[IntWalk.i64_in _ (by omega)];omega
     have d2:decide (-149<j)=true:=decide_eq_true (by omega);have aA:(k2-E).toNat<(j-E).toNat:=by omega
     have bP:=Aa aA;have bO:=Aa aD;have aY:E≤k2∧k2≤k∧(E<k2→k2≤0):=by omega
     have aO:=Aa aY;clear aD aC aA aY
     go_wp2_with fail
     refine(G.out wr).mono ?_;rintro e w8 ⟨rfl,aL⟩
     go_wp2_with fail
     refine(G2.out w8).mono ?_;rintro e w9 ⟨rfl,aJ⟩;have bH:=bvia (bvia aM aL) aJ;go_wp2
     go_roundg (k2-E).toNat
     case rel=>exact⟨k2,rfl,(by first | rfl | rw[bO.out]),aO.out.1,aO.out.2.1,aO.out.2.2,rfl,bH⟩
     case measure=>exact bP.out
    ·have hend:decide (c'<0)=false∨(decide (c'<0)=true∧decide (-149<j)=false):=by
      rcases hc with h | ⟨h1,h2⟩
      ·exact .inl h
      ·exact .inr ⟨h1,decide_eq_false (by omega)⟩
     obtain⟨n1,bB⟩:∃ n1,n1=n+1:=⟨_,rfl⟩;have hw:IntKind.i64.wrap ((n:Int)+1)=(n1:Int):=by rw[IntWalk.i64_in _ (by omega)];omega
     rw[←bB] at HU;clear hc bB hn hlt bR aN bF aX bK aV aZ PH aR PM bQ bL bM
     rcases hend with d1 | ⟨d1,d2⟩
     all_goals
      go_wp2_with fail
      refine(G.out wr).mono ?_;rintro e w8 ⟨rfl,aL⟩
      go_wp2_with fail
      refine(J6.out w8).mono ?_;rintro e w9 ⟨rfl,aJ⟩
      go_wp2_with fail
      refine(J7.out w9).mono ?_;rintro e bG ⟨rfl,aF⟩
      go_wp2_with fail
      refine(J8.out bG).mono ?_;rintro e bI ⟨rfl,aI⟩
      go_wp2_with fail
      refine(J9.out bI).mono ?_;rintro e bU ⟨rfl,aE⟩
      go_wp2_with fail
      refine(aW.out bU).mono ?_;rintro e bN ⟨rfl,aG⟩;have aH:=bvia (bvia (bvia (bvia (bvia (bvia aM aL) aJ) aF) aI) aE) aG;clear aL aJ aF aI aE aG aM G J6 J7 J8 J9 aW
      rcases HU.out with⟨rfl,e1 | ⟨e1,e2,e3⟩⟩ | ⟨rfl,e1,e2 | ⟨e2,e3⟩⟩
      all_goals
       rcases HE.out with⟨k1,k2,rfl,rfl⟩ | ⟨k1,rfl,bA⟩
       ·go_wp2
        go_ret2
        exact⟨rfl,aH⟩
       ·have bT:=Aa bA
        clear bA
        rcases k1 with k1 | ⟨k1,k2⟩
        all_goals
         go_wp2_with fail
         refine(bT.out bN).mono ?_;rintro e bV ⟨rfl,rfl⟩;go_wp2
         go_ret2
         exact⟨rfl,aH⟩
theorem zro:(⟨#[50]⟩:ByteArray)=txt twoQ:=zeJ zd6
theorem zfS:zax 94 #[.string ⟨#[50]⟩,.int .i64 128] (.string (txt (powQ twoQ 128))):=fun W=>
 zcH (zgn ⟨#[50]⟩ twoQ 128 1 W zd6 rfl ⟨by decide,by decide⟩ (by omega) (by omega))
theorem zfJ:zax 94 #[.string ⟨#[50]⟩,.int .i64 (-151)] (.string (txt (powQ (recQ twoQ) 151))):=fun W=>
 zcH (zip ⟨#[50]⟩ twoQ 151 1 W zd6 rfl (by decide) ⟨by decide,by decide⟩ (by omega) (by omega) (by omega) (by decide))
theorem s128:Small (powQ twoQ 128) 106∧LowQ (powQ twoQ 128):=⟨⟨by decide +kernel,by decide +kernel⟩,zeM zkN _⟩
theorem s151:Small (powQ (recQ twoQ) 151) 106∧LowQ (powQ (recQ twoQ) 151):=⟨by rw[zii];exact⟨by decide +kernel,by decide +kernel⟩,zeM (zhC (by decide)) _⟩
def zoi (p:Q):Prop:=∃ (F:Nat) (b:Bool),((b=true∧flX p=0∧fin Ieee.single F=true∧key Ieee.single F=key Ieee.single (flW p))∨(b=false∧flX p=4∧F=0))∧zax 37 #[.string (txt p)] (.tuple #[.float .f32 F,.bool b])
theorem zi3 (p:Q) (hl:LowQ p) (hs:Small p 60) (hn:p.neg=false):zoi p:=by
 have aK:=hs.more (show 60≤106 by omega);have K1:=zr9 hl aK (by omega) (by omega);have dS:decide (zcy p<0)=false:=by
  unfold zcy;rw[hn]
  split<;>simp
 have K3:=tCmp hl s128.2 aK s128.1 (by omega) (by omega);have K5:=tCmp hl s151.2 aK s151.1 (by omega) (by omega)
 rcases Nat.eq_zero_or_pos p.top with h0 | ht
 ·have hx:flX p=0∧flW p=0:=by
   unfold flX flW;rw[if_pos h0,if_pos h0];exact⟨rfl,rfl⟩
  have hz:sI p=0:=by unfold sI;rw[h0];split<;>rfl
  have hv:Val p 0 1:=⟨by rw[hz,Int.zero_mul,Int.zero_mul],by omega,hl.1⟩;have d1:decide (0≤cmpI p (powQ twoQ 128))=false:=by
   rw[(zgK hv (Val.pow 128)).1 (by have:=Nat.two_pow_pos 128;omega)];decide
  have d2:decide (cmpI p (powQ (recQ twoQ) 151)<0)=true:=by
   rw[(zgK hv (Val.powN 151)).1 (by have:=Nat.two_pow_pos 151;omega)];decide
  exact⟨0,true,.inl ⟨rfl,hx.1,zbu.1,by rw[hx.2]⟩,zdV _ _ _ _ _ _ _ K1 dS zfS K3 zfJ K5 (.inr ⟨d1,d2,rfl⟩)⟩
 have aA:=zrL hl hn ht;have aC:=zrD hl hn ht
 by_cases hhuge:128≤bexp p.top p.bot
 ·rw[decide_eq_true hhuge] at aA
  exact⟨0,false,.inr ⟨rfl,zpe hl ht hhuge,rfl⟩,zdV _ _ _ _ _ _ _ K1 dS zfS K3 zfJ K5 (.inl ⟨aA,rfl⟩)⟩
 rw[decide_eq_false hhuge] at aA
 by_cases hsm:bexp p.top p.bot < -151
 ·rw[decide_eq_true hsm] at aC
  obtain⟨x1,x2⟩:=zpd hl ht hsm;exact⟨0,true,.inl ⟨rfl,x1,zbu.1,by rw[x2]⟩,zdV _ _ _ _ _ _ _ K1 dS zfS K3 zfJ K5 (.inr ⟨aA,aC,rfl⟩)⟩
 rw[decide_eq_false hsm] at aC;have aM:=zqx hl ht hhuge;have aH:=fun hx=>zcN hl.1 (p:=p) hx
 have aZ:=zcf p.top p.bot;have hr:=zdD ht hl.1;have hb:=hl.1;have ez:=zpp hl hn;have aI:=hs.1;have aG:=hs.2;have hE : -149≤flE p.top p.bot∧flE p.top p.bot≤104:=by omega
 have sc:=fun (k:Int) (h1 : -149≤k) (h2:k≤105)=>zm8 (k:=k) hb aI aG h1 h2
 have lc:=fun (k:Int)=>zeE (t:=p.top) hb k
 have si:∀ n:Nat,n≤16777216→Small (intQ (n:Int)) 106:=fun n h=>⟨by show(n:Int).natAbs<10^106;rw[Int.natAbs_natCast];exact Nat.lt_of_le_of_lt h (by decide +kernel),by show 1<10^106;decide +kernel⟩
 have aW:scT p.top (flE p.top p.bot)/scB p.bot (flE p.top p.bot)<16777216:=hr.2;have hN:flN p.top p.bot=near (scT p.top (flE p.top p.bot)) (scB p.bot (flE p.top p.bot)):=rfl;have aQ:=zmz (t:=p.top) hb (flE p.top p.bot);have aD:=zpl (t:=p.top) hb (flE p.top p.bot);have aV:=fun k=>zp1 ht hb k
 have aU:=fun k=>zrF ht hb k
 generalize flE p.top p.bot=E at *;have tH:=si 0 (by omega);obtain⟨T,hT⟩:∃ T:Int→ByteArray,∀ k,T k=txt (scQ p.top p.bot k):=⟨_,fun _=>rfl⟩;have aF:T 0=txt p:=by rw[hT,ez]
 have aX:(⟨#[49,54,55,55,55,50,49,54]⟩:ByteArray)=txt (intQ ((16777216:Nat):Int)):=zeJ zru;have aR:(⟨#[56,51,56,56,54,48,56]⟩:ByteArray)=txt (intQ ((8388608:Nat):Int)):=zeJ zq1;have th:(⟨#[49,47,50]⟩:ByteArray)=txt zfH:=zeJ zfU;have aP:=znK aD;generalize aT:scT p.top E/scB p.bot E=n at *;generalize aS:scT p.top E%scB p.bot E=r at *;generalize aY:scB p.bot E=C at *;have aL:Small (subQ (scQ p.top p.bot E) (intQ (n:Int))) 213:=ze1 (M:=106) (N:=106) (sc E (by omega) (by omega)) (si n (by omega)) (lc E).1 (zc4 _).1;have aE:∀ (F:Nat) (B:Bool),((((flN p.top p.bot:Nat):Int)==16777216)=true∧(E==104)=true∧F=0∧B=false)∨(((((flN p.top p.bot:Nat):Int)==16777216)=false∨((((flN p.top p.bot:Nat):Int)==16777216)=true∧(E==104)=false))∧B=true∧∀ w,Calls Tryz.prog 102 #[.int .i64 ((flN p.top p.bot:Nat):Int),.int .i64 E] w fun e w'=>e = .returned (.float .f32 F)∧w=w') →
   zax 37 #[.string (txt p)] (.tuple #[.float .f32 F,.bool B]):=by
  intro F B aJ;rw[←aF];refine zja T _ _ (txt (intQ (n:Int))) (txt (intQ (n:Int))) (txt (subQ (scQ p.top p.bot E) (intQ (n:Int)))) _ _ _ (cmpI (subQ (scQ p.top p.bot E) (intQ (n:Int))) zfH) E n (flN p.top p.bot) F B (by rw[aF];exact K1) dS zfS (by rw[aF];exact K3) zfJ (by rw[aF];exact K5) aA aC hE ?_ ?_ ?_ ?_ ?_ ?_ ?_ ?_ ?_ aW ?_ aJ
  ·intro k h1 h2
   rw[hT,aX];refine⟨_,?_,tCmp (lc k) (zc4 _) (sc k (by omega) (by omega)) (si _ (by omega)) (by omega) (by omega)⟩;rw[aV k 24 16777216 (by decide)];exact decide_eq_decide.2 (by omega)
  ·intro k h1 h2
   rw[hT,hT,←zpP hb h1];exact zrN (lc k) (sc k (by omega) (by omega)) (by omega) (by omega)
  ·intro k h1 h2
   rw[hT,aR];refine⟨_,?_,tCmp (lc k) (zc4 _) (sc k (by omega) (by omega)) (si _ (by omega)) (by omega) (by omega)⟩;rw[aU k 23 8388608 (by decide)]
   by_cases hk:E<k
   ·refine .inl ⟨hk,?_⟩
    rw[decide_eq_false (by omega)];rfl
   ·refine .inr ⟨by omega,?_⟩
    by_cases h9:k+((23:Nat):Int)≤bexp p.top p.bot
    ·rw[decide_eq_true h9];exact .inl rfl
    ·rw[decide_eq_false h9];exact .inr ⟨rfl,by omega⟩
  ·intro k h1 h2
   rw[hT,hT,zro,←zqn hb h2];exact tMul (lc k) zkN (sc k (by omega) (by omega)) ⟨by decide +kernel,by decide +kernel⟩ (by omega) (by omega)
  ·intro W
   rw[hT,←aQ];exact zcH (zpG _ _ W (zbs (lc E)) (by have:=zbl (lc E) (sc E (by omega) (by omega)) (by omega);omega))
  ·intro W
   exact ziK _ n W (zbs (zc4 _)) (by omega)
  ·intro W
   exact zcH (zfy (n:Int) W (by omega) (by omega))
  ·rw[hT]
   exact tSub (lc E) (zc4 _) (sc E (by omega) (by omega)) (si n (by omega)) (by omega) (by omega)
  ·rw[th]
   exact tCmp (zhJ _ _ (lc E).1 (zc4 _).1) (by exact zfU.2) aL ⟨by decide +kernel,by decide +kernel⟩ (by omega) (by omega)
  ·rw[aP.1,aP.2,hN]
   unfold near;rw[aS,aT]
   by_cases h1:C<r*2
   ·rw[if_pos (.inl h1),decide_eq_true h1]
    exact .inl ⟨rfl,.inl rfl⟩
   ·rw[decide_eq_false h1]
    by_cases h2:r*2=C
    ·rw[decide_eq_true h2]
     by_cases h3:n%2=1
     ·rw[if_pos (.inr ⟨h2,h3⟩)]
      exact .inl ⟨rfl,.inr ⟨rfl,rfl,by omega⟩⟩
     ·rw[if_neg (by omega)]
      exact .inr ⟨rfl,rfl,.inr ⟨rfl,by omega⟩⟩
    ·rw[decide_eq_false h2,if_neg (by omega)]
     exact .inr ⟨rfl,rfl,.inl rfl⟩
 have aO:=hr.1;generalize hM:flN p.top p.bot=M at *
 rcases aM with⟨m1,m2,m3⟩ | ⟨m1,m2⟩
 ·exact⟨0,false,.inr ⟨rfl,m3,rfl⟩,aE 0 false (.inl ⟨by rw[m1];rfl,by rw[m2];rfl,rfl,rfl⟩)⟩
 ·obtain⟨F,f1,f2,f3⟩:=zg3 M E aO.hi hE m1 (by have:=aO.lo;omega)
  have aN:=(aH m2).2;rw[if_neg (by omega),hn] at aN;refine⟨F,true,.inl ⟨rfl,m2,f1,?_⟩,aE F true (.inr ⟨?_,rfl,f3⟩)⟩
  ·rw[f2,aN];rfl
  ·by_cases h1:M=16777216
   ·exact .inr ⟨by rw[h1];rfl,by simpa using fun h2=>m1 ⟨h1,h2⟩⟩
   ·exact .inl (by rw[beq_eq_false_iff_ne];omega)
theorem zhX{x y:Nat}(hx:fin Ieee.single x=true)(hy:fin Ieee.single y=true):(FloatKind.f32.format.order x y==some .eq)=decide (key Ieee.single x=key Ieee.single y):=by
 have h:=zgr hx hy;unfold bne at h;generalize (FloatKind.f32.format.order x y==some .eq)=a at *;generalize decide (key Ieee.single x=key Ieee.single y)=b at *
 cases a<;>cases b<;>simp_all
theorem zfi(a b:ByteArray)(F G:Nat)(is:Bool)(K1:zax 12 #[.string a] (.int .i64 (-1)))(K2:zax 42 #[.string a] (.string b))(K3:zax 37 #[.string b] (.tuple #[.float .f32 F,.bool is]))(h:((FloatKind.f32.format.order F 0==some .eq)=true∧G=0)∨((FloatKind.f32.format.order F 0==some .eq)=false∧floatBits .sub .f32 0 F=some G)) :
  zax 37 #[.string a] (.tuple #[.float .f32 G,.bool is]):=by
 intro w;have J1:=Aa K1;have J2:=Aa K2;have J3:=Aa K3;clear K1 K2 K3
 rcases h with⟨h1,rfl⟩ | ⟨h1,h2⟩
 ·go_enter Tryz.func37,Tryz.ntmps37
  go_wp2_with fail
  refine(J1.out w).mono ?_;rintro e w1 ⟨rfl,aC⟩
  go_wp2_with fail
  refine(J2.out w1).mono ?_;rintro e w2 ⟨rfl,aA⟩
  go_wp2_with fail
  refine(J3.out w2).mono ?_;rintro e w3 ⟨rfl,aD⟩;have aE:=bvia (bvia aC aA) aD;go_wp2
  go_ret2
  exact⟨rfl,aE⟩
 ·have ha:=fun W=>run_float_arith (P:=Tryz.prog) W .sub 46 .f32 0 F G h2
  go_enter Tryz.func37,Tryz.ntmps37
  go_wp2_with fail
  refine(J1.out w).mono ?_;rintro e w1 ⟨rfl,aC⟩
  go_wp2_with fail
  refine(J2.out w1).mono ?_;rintro e w2 ⟨rfl,aA⟩
  go_wp2_with fail
  refine(J3.out w2).mono ?_;rintro e w3 ⟨rfl,aD⟩;have aE:=bvia (bvia aC aA) aD;go_wp2
  go_ret2
  exact⟨rfl,aE⟩
theorem zlB(p:Q)(hl:LowQ p)(hs:Small p 60):zoi p:=by
 cases hn:p.neg
 ·exact zi3 p hl hs hn
 ·have ht:=hl.2.2 hn
  have aC:=zig hl;have aE:=zeT hs;have aA:(negQ p).neg=false:=by
   show(!p.neg && _)=false
   rw[hn];rfl
  obtain⟨F,b,hF,hg⟩:=zi3 (negQ p) aC aE aA;have aD:zcy p = -1:=by unfold zcy;rw[if_neg (by omega),hn];rfl
  have K1:=zr9 hl hs (by omega) (by omega);rw[aD] at K1;have K2:=tNeg hl hs (by omega) (by omega);have aF:flX (negQ p)=flX p:=rfl
  rcases hF with⟨rfl,h1,h2,h3⟩ | ⟨rfl,h1,rfl⟩
  ·have hx:flX p=0:=h1
   have hk:=(zkh hl hx).2.2;have he:=zhX h2 zbu.1;rw[zbu.2,h3] at he;have h0:0≤key Ieee.single (flW (negQ p)):=by
    rw[(zcN aC.1 h1).2]
    split
    ·omega
    ·rw[aA];exact Int.natCast_nonneg _
   by_cases hz:key Ieee.single (flW (negQ p))=0
   ·rw[decide_eq_true hz] at he
    exact⟨0,true,.inl ⟨rfl,hx,zbu.1,by rw[zbu.2];omega⟩,zfi _ _ _ _ _ K1 K2 hg (.inl ⟨he,rfl⟩)⟩
   ·rw[decide_eq_false hz] at he
    obtain⟨r,r1,r2,r3⟩:=znt h2 (by omega);exact⟨r,true,.inl ⟨rfl,hx,r2,by rw[r3,h3];omega⟩,zfi _ _ _ _ _ K1 K2 hg (.inr ⟨he,r1⟩)⟩
  ·have he:=zhX zbu.1 zbu.1
   rw[decide_eq_true rfl] at he;exact⟨0,false,.inr ⟨rfl,h1,rfl⟩,zfi _ _ _ _ _ K1 K2 hg (.inl ⟨he,rfl⟩)⟩
end Go.Proofs.YtbkgkoenppkhpaaGreatDoor
