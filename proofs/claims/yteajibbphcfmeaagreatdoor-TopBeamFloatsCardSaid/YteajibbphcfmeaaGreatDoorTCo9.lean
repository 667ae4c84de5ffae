/- Contracts of package number's Cos and Sin. -/
import Derived.Test.YteajibbphcfmeaaGreatDoorTCo8
import Derived.Test.YteajibbphcfmeaaGreatDoorTEx3
import Derived.Test.YteajibbphcfmeaaGreatDoorTSp8
import Derived.Test.YteajibbphcfmeaaGreatDoorTFloat
import Derived.Test.YteajibbphcfmeaaGreatDoorTErr0
import Derived.Test.YteajibbphcfmeaaGreatDoorTSp2
import Derived.Test.YteajibbphcfmeaaGreatDoorTDw2
import Derived.Laws.FloatArith
namespace Go.Proofs.YteajibbphcfmeaaGreatDoor
open Go.RowKit Bn
set_option maxHeartbeats 4000000 in
set_option maxRecDepth 100000 in
theorem Cos_ok (p:Q) (s:ByteArray) (dec:Int) (l m:List UInt8) (x:Int) (w:World) (hT:Tabs w) (hbot:p.bot≤999999999) (hd1:1≤dec) (hd2:dec≤12)
  (HR:Hid (∀ W,Tabs W→Calls Tryz.prog 63 #[.string s] W (RetRead W p 0)))
  (HC:Hid (∀ v W,Tabs W→RatS W W.heap.size v p→Calls Tryz.prog 117 #[v,.int .i64 dec] W (RetSp W l m x))) :
  Calls Tryz.prog 56 #[.string s,.int .i64 dec] w (RetSp w l m x):=by
 have hbW:Below w.heap.size w (w.alloc (.cells #[.string { data:=#[] },.string { data:=#[] }] 74)):=((Below.refl _ _).alloc (by simp<;>omega) _)
 have q0:CBlk (w.alloc (.cells #[.string { data:=#[] },.string { data:=#[] }] 74)) (w.heap.size) #[.string { data:=#[] },.string { data:=#[] }] 74:=(CBlk.new _ _ _ _ (by simp))
 have HRT:=Lib.hid (fun W hT=>readTurn_ok p s dec W hT hbot hd1 hd2 HR)
 clear HR hbot
 go_enter Tryz.func56,Tryz.ntmps56
 go_upto_region 1 with (fail)
 generalize (w.alloc (.cells #[.string { data:=#[] },.string { data:=#[] }] 74))=W at *
 go_wp2_with fail
 refine (HRT.out W (hT.later hbW)).mono ?_
 rintro e w2 ⟨v2,rfl,⟨A1,n1,c1,A2,n2,c2,rfl,h1,h2⟩,hb2⟩
 have hba:Below w2.heap.size w2 (w2.alloc (.cells #[.bool p.neg,.slice A1 n1 c1,.slice A2 n2 c2] 91)):=(Below.refl _ _).alloc (Nat.le_refl _) _
 have hB2:=hbW.trans (hb2.mono hbW.size)
 have hB:=hB2.trans (hba.mono hB2.size)
 have HNE:Hid (w.heap.size≠w2.heap.size):=Lib.hid (Nat.ne_of_lt (Nat.lt_of_lt_of_le q0.lt hb2.size))
 have q4:=(q0.below hb2 q0.lt).alloc (.cells #[.bool p.neg,.slice A1 n1 c1,.slice A2 n2 c2] 91)
 have q6:CBlk (w2.alloc (.cells #[.bool p.neg,.slice A1 n1 c1,.slice A2 n2 c2] 91)) w2.heap.size #[.bool p.neg,.slice A1 n1 c1,.slice A2 n2 c2] 91:=CBlk.new _ _ _ _ rfl
 have hv:=(RatS.mk (q:=p) h1 h2).later hba
 clear q0 hbW hb2 hB2 h1 h2 hba HRT
 go_upto_region 2 with (fail)
 generalize (w2.alloc (.cells #[.bool p.neg,.slice A1 n1 c1,.slice A2 n2 c2] 91))=w3 at *
 have a0:=q6.cell 0
 have a1:=q6.cell 1
 have a2:=q6.cell 2
 go_wp2_with fail
 refine (HC.out _ w3 (hT.later hB) hv).mono ?_
 rintro e w8 ⟨z1,z2,rfl,hz1,hz2,hb8⟩
 have hB8:=hB.trans (hb8.mono hB.size)
 have q8:=q4.below hb8 q4.lt
 have y0:=q8.cell 0
 have y1:=q8.cell 1
 have f0:=q8.frozen 0
 have f1:=q8.frozen 1
 have hset:=twoSetS hB8 (g:=w.heap.size) (Nat.le_refl _) (.string z1) (.string z2)
 go_wp2
 refine bodyPost_ret (v := .tuple #[.agg #[.string z1,.string z2],.int .i64 x]) (by simp [results,Tryz.results56,go_sem,y0,y1]) rfl ⟨z1,z2,rfl,hz1,hz2,hset⟩
theorem acute_s (q:Q) (k l mm scale low d:Nat) (hok:Cs.AcOk q.top q.bot 112 k l mm scale low) (hd:d≤12) (hsc:scale=10 ^ d) (hk0:k<4294967296) (hl0:l<4294967296) (hmm:mm<1073741824) (hbot:0<q.bot) (hl:LenQ q 1048576) (v:Value) (w:World) (hT:Tabs w) (hv:RatS w w.heap.size v q) :
  Calls Tryz.prog 165 #[v,.int .i64 (d:Int)] w (RetItv w (lowQ false low scale) (lowQ false (low+1) scale)):=by
 obtain ⟨A1,n1,c1,A2,n2,c2,rfl,h1,h2⟩:=hv
 exact acute_any q.neg q.top q.bot k l mm scale low d A1 A2 n1 c1 n2 c2 w hT hok hd hsc hk0 hl0 hmm h1 h2 hbot (by rw [←h1.len];exact hl.1)
theorem len_small {q:Q} (h1:q.top<18446744073709551616) (h2:q.bot<18446744073709551616):LenQ q 1:=⟨digs_length_le (by rw [B_def,Nat.pow_one];exact h1),digs_length_le (by rw [B_def,Nat.pow_one];exact h2)⟩
theorem read_small (s:ByteArray) (hs:s.size≤4294967296) (q:Q) (hq:readQ s.data.toList=q) (he:readE s.data.toList=0) (w:World) (hT:Tabs w):Calls Tryz.prog 63 #[.string s] w (RetRead w q 0):=by
 have h:=read_any s w hT hs
 rw [hq,he] at h;exact h
theorem cos6_5 (w:World) (hT:Tabs w):Calls Tryz.prog 56 #[.string ⟨#[49,47,54]⟩,.int .i64 5] w (RetSp w [49,47,50] [49,47,50] 0):=
 Cos_ok ⟨false,1,6⟩ ⟨#[49,47,54]⟩ 5 [49,47,50] [49,47,50] 0 w hT (by decide) (by omega) (by omega) (Lib.hid (fun W hT=>read_small ⟨#[49,47,54]⟩ (by decide) ⟨false,1,6⟩ (by kernel_rfl) (by kernel_rfl) W hT))
  (Lib.hid (fun v W hT hv=>(cosine_exact ⟨false,1,6⟩ ⟨false,1,6⟩ ⟨#[49,47,50]⟩ 5 v W hT hv (Lib.hid (fun v w hT hv=>(show Calls _ _ _ _ (RetRat w ⟨false,1,6⟩) from by have h:=folded_any ⟨false,1,6⟩ v w hT hv (by decide) ((len_small (by decide) (by decide)).mono (by omega));rw [show foldQ ⟨false,1,6⟩=⟨false,1,6⟩ from by kernel_rfl] at h;exact h)))
   (Lib.hid (fun v w hT hv=>exactCosine_found ⟨false,1,6⟩ ⟨#[49,47,54]⟩ ⟨#[49,47,50]⟩ 1 v w hT hv ((len_small (by decide) (by decide)).mono (by omega)) (Lib.hid (by kernel_rfl)) (by kernel_rfl) (Lib.hid (by kernel_rfl))))).mono
   (fun _ _ ⟨he,hb⟩=>⟨⟨#[49,47,50]⟩,⟨#[49,47,50]⟩,he,rfl,rfl,hb⟩)))
theorem cos6_4 (w:World) (hT:Tabs w):Calls Tryz.prog 56 #[.string ⟨#[49,47,54]⟩,.int .i64 4] w (RetSp w [49,47,50] [49,47,50] 0):=
 Cos_ok ⟨false,1,6⟩ ⟨#[49,47,54]⟩ 4 [49,47,50] [49,47,50] 0 w hT (by decide) (by omega) (by omega) (Lib.hid (fun W hT=>read_small ⟨#[49,47,54]⟩ (by decide) ⟨false,1,6⟩ (by kernel_rfl) (by kernel_rfl) W hT))
  (Lib.hid (fun v W hT hv=>(cosine_exact ⟨false,1,6⟩ ⟨false,1,6⟩ ⟨#[49,47,50]⟩ 4 v W hT hv (Lib.hid (fun v w hT hv=>(show Calls _ _ _ _ (RetRat w ⟨false,1,6⟩) from by have h:=folded_any ⟨false,1,6⟩ v w hT hv (by decide) ((len_small (by decide) (by decide)).mono (by omega));rw [show foldQ ⟨false,1,6⟩=⟨false,1,6⟩ from by kernel_rfl] at h;exact h)))
   (Lib.hid (fun v w hT hv=>exactCosine_found ⟨false,1,6⟩ ⟨#[49,47,54]⟩ ⟨#[49,47,50]⟩ 1 v w hT hv ((len_small (by decide) (by decide)).mono (by omega)) (Lib.hid (by kernel_rfl)) (by kernel_rfl) (Lib.hid (by kernel_rfl))))).mono
   (fun _ _ ⟨he,hb⟩=>⟨⟨#[49,47,50]⟩,⟨#[49,47,50]⟩,he,rfl,rfl,hb⟩)))
theorem low_len {x:Nat} (h:x<18446744073709551616:=by omega):LenQ (lowQ false x 1000) 33554432:=
 (lenQ_low (K:=1) (digs_length_le (by rw [B_def,Nat.pow_one];exact h)) (digs_length_le (by rw [B_def];omega)) (Nat.le_refl _)).mono (by omega)
theorem cos8_3 (w:World) (hT:Tabs w):Calls Tryz.prog 56 #[.string ⟨#[49,47,56]⟩,.int .i64 3] w (RetSp w [55,48,55,47,49,48,48,48] [49,55,55,47,50,53,48] 0):=by
 have eL:spanL (lowQ false 707 1000) (lowQ false (707+1) 1000)=[55,48,55,47,49,48,48,48]:=by kernel_rfl
 have eH:spanH (lowQ false 707 1000) (lowQ false (707+1) 1000)=[49,55,55,47,50,53,48]:=by kernel_rfl
 have eE:spanE (lowQ false 707 1000) (lowQ false (707+1) 1000)=0:=by kernel_rfl
 refine Cos_ok ⟨false,1,8⟩ ⟨#[49,47,56]⟩ 3 [55,48,55,47,49,48,48,48] [49,55,55,47,50,53,48] 0 w hT (by decide) (by omega) (by omega) (Lib.hid (fun W hT=>read_small ⟨#[49,47,56]⟩ (by decide) ⟨false,1,8⟩ (by kernel_rfl) (by kernel_rfl) W hT)) (Lib.hid (fun v W hT hv => ?_))
 have h:=cosine_lost ⟨false,1,8⟩ ⟨false,1,8⟩ ⟨false,3,8⟩ ⟨false,1,8⟩ (lowQ false 707 1000) (lowQ false (707+1) 1000) (lowQ false 707 1000) (lowQ false (707+1) 1000) 3 v W hT hv ((len_small (by decide) (by decide)).mono (by omega)) (low_len (by omega)) (low_len (by omega)) (Lib.hid (by kernel_rfl))
  (Lib.hid (fun h=>absurd h (by rw [show rcmp ⟨false,3,8⟩ ⟨false,1,8⟩=1 from by kernel_rfl];omega))) (Lib.hid (fun _=>⟨rfl,rfl,rfl⟩))
  (Lib.hid (fun v w hT hv=>(show Calls _ _ _ _ (RetRat w ⟨false,1,8⟩) from by have h:=folded_any ⟨false,1,8⟩ v w hT hv (by decide) ((len_small (by decide) (by decide)).mono (by omega));rw [show foldQ ⟨false,1,8⟩=⟨false,1,8⟩ from by kernel_rfl] at h;exact h))) (Lib.hid (fun v w hT hv=>exactCosine_lost ⟨false,1,8⟩ ⟨#[49,47,56]⟩ v w hT hv ((len_small (by decide) (by decide)).mono (by omega)) (Lib.hid (by kernel_rfl)) (by kernel_rfl) (Lib.hid (by kernel_rfl)))) (Lib.hid (fun v w hT hv=>acute_s ⟨false,1,8⟩ 24 7 15 1000 707 3 Cs.ac8 (by decide) (by decide) (by decide) (by decide) (by decide) (by decide) ((len_small (by decide) (by decide)).mono (by omega)) v w hT hv))
 rw [eL,eH,eE] at h
 exact h
theorem cos10_3 (w:World) (hT:Tabs w):Calls Tryz.prog 56 #[.string ⟨#[49,47,49,48]⟩,.int .i64 3] w (RetSp w [56,48,57,47,49,48,48,48] [56,49,47,49,48,48] 0):=by
 have eL:spanL (lowQ false 809 1000) (lowQ false (809+1) 1000)=[56,48,57,47,49,48,48,48]:=by kernel_rfl
 have eH:spanH (lowQ false 809 1000) (lowQ false (809+1) 1000)=[56,49,47,49,48,48]:=by kernel_rfl
 have eE:spanE (lowQ false 809 1000) (lowQ false (809+1) 1000)=0:=by kernel_rfl
 refine Cos_ok ⟨false,1,10⟩ ⟨#[49,47,49,48]⟩ 3 [56,48,57,47,49,48,48,48] [56,49,47,49,48,48] 0 w hT (by decide) (by omega) (by omega) (Lib.hid (fun W hT=>read_small ⟨#[49,47,49,48]⟩ (by decide) ⟨false,1,10⟩ (by kernel_rfl) (by kernel_rfl) W hT)) (Lib.hid (fun v W hT hv => ?_))
 have h:=cosine_lost ⟨false,1,10⟩ ⟨false,1,10⟩ ⟨false,2,5⟩ ⟨false,1,10⟩ (lowQ false 809 1000) (lowQ false (809+1) 1000) (lowQ false 809 1000) (lowQ false (809+1) 1000) 3 v W hT hv ((len_small (by decide) (by decide)).mono (by omega)) (low_len (by omega)) (low_len (by omega)) (Lib.hid (by kernel_rfl))
  (Lib.hid (fun h=>absurd h (by rw [show rcmp ⟨false,2,5⟩ ⟨false,1,10⟩=1 from by kernel_rfl];omega))) (Lib.hid (fun _=>⟨rfl,rfl,rfl⟩))
  (Lib.hid (fun v w hT hv=>(show Calls _ _ _ _ (RetRat w ⟨false,1,10⟩) from by have h:=folded_any ⟨false,1,10⟩ v w hT hv (by decide) ((len_small (by decide) (by decide)).mono (by omega));rw [show foldQ ⟨false,1,10⟩=⟨false,1,10⟩ from by kernel_rfl] at h;exact h))) (Lib.hid (fun v w hT hv=>exactCosine_lost ⟨false,1,10⟩ ⟨#[49,47,49,48]⟩ v w hT hv ((len_small (by decide) (by decide)).mono (by omega)) (Lib.hid (by kernel_rfl)) (by kernel_rfl) (Lib.hid (by kernel_rfl)))) (Lib.hid (fun v w hT hv=>acute_s ⟨false,1,10⟩ 24 7 14 1000 809 3 Cs.ac10 (by decide) (by decide) (by decide) (by decide) (by decide) (by decide) ((len_small (by decide) (by decide)).mono (by omega)) v w hT hv))
 rw [eL,eH,eE] at h
 exact h
end Go.Proofs.YteajibbphcfmeaaGreatDoor
namespace Go.Proofs.YteajibbphcfmeaaGreatDoor.Dl
def insK (lt:Nat→Nat→Bool) (p:List Nat) (x:Nat):Nat:=(p.reverse.takeWhile (lt x)).length
def insP (lt:Nat→Nat→Bool) (p:List Nat) (x:Nat):List Nat:=p.take (p.length - insK lt p x)++x :: p.drop (p.length - insK lt p x)
def sortP (lt:Nat→Nat→Bool) (l:List Nat):List Nat:=l.foldl (insP lt) []
def byKey (r:Nat→Nat) (x y:Nat):Bool:=decide (r y<r x)
def shBase (T S:Nat) (w:List Nat):List Nat:=w.map (fun x=>T*x / S)
def shRem (T S:Nat) (w:List Nat) (i:Nat):Nat:=T*w.getD i 0 % S
def shRest (T S:Nat) (w:List Nat):Nat:=T - (shBase T S w).sum
def shOrder (T S:Nat) (w:List Nat):List Nat:=sortP (byKey (shRem T S w)) (List.range w.length)
def incAll (l:List Nat) (p:List Nat):List Nat:=p.foldl (fun l i=>l.set i (l.getD i 0+1)) l
def shares (T:Nat) (w:List Nat):List Nat:=incAll (shBase T w.sum w) ((shOrder T w.sum w).take (shRest T w.sum w))
end Go.Proofs.YteajibbphcfmeaaGreatDoor.Dl
namespace Go.Proofs.YteajibbphcfmeaaGreatDoor
open Go.RowKit Bn
theorem text_is {w:World} {l:List UInt8} {x:Int} {f:FuncId} {args:Array Value} (a:Array UInt8) (h:Calls Tryz.prog f args w (RetText w l x)) (e:l=a.toList) :
  Calls Tryz.prog f args w fun e w'=>e = .returned (.tuple #[.string ⟨a⟩,.int .i64 x])∧Below w.heap.size w w':=
 h.mono fun _ _ ⟨s,he,hs,hb⟩=>⟨by
  rw [he]
  obtain ⟨d⟩:=s
  have:d=a:=by apply Array.ext';rw [←e];exact hs
  rw [this],hb⟩
theorem span_is {w:World} {l m:List UInt8} {x:Int} {f:FuncId} {args:Array Value} (a b:Array UInt8) (h:Calls Tryz.prog f args w (RetSp w l m x)) (e1:l=a.toList) (e2:m=b.toList) :
  Calls Tryz.prog f args w fun e w'=>e = .returned (.tuple #[.agg #[.string ⟨a⟩,.string ⟨b⟩],.int .i64 x])∧Below w.heap.size w w':=
 h.mono fun _ _ ⟨s,t,he,hs,ht,hb⟩=>⟨by
  rw [he]
  obtain ⟨d⟩:=s
  obtain ⟨d2⟩:=t
  have h1:d=a:=by apply Array.ext';rw [←e1];exact hs
  have h2:d2=b:=by apply Array.ext';rw [←e2];exact ht
  rw [h1,h2],hb⟩
theorem aw1_times (w:World) (hT:Tabs w):Calls Tryz.prog 51 #[.agg #[.string ⟨#[45,49]⟩,.string ⟨#[50]⟩],.agg #[.string ⟨#[45,51]⟩,.string ⟨#[52]⟩]] w fun e w'=>e = .returned (.tuple #[.agg #[.string ⟨#[45,54]⟩,.string ⟨#[56]⟩],.int .i64 0])∧Below w.heap.size w w':=by
 have h:=nTimes_any ⟨#[45,49]⟩ ⟨#[50]⟩ ⟨#[45,51]⟩ ⟨#[52]⟩ w hT (by decide) (by decide) (by decide) (by decide) 0 (by kernel_rfl) _ rfl
 rw [if_neg (by omega),if_neg (by omega),if_neg (by omega)] at h
 rw [show spanE (timesI (readQ ((⟨#[45,49]⟩:ByteArray).data.toList)) (readQ ((⟨#[50]⟩:ByteArray).data.toList)) (readQ ((⟨#[45,51]⟩:ByteArray).data.toList)) (readQ ((⟨#[52]⟩:ByteArray).data.toList))).1 (timesI (readQ ((⟨#[45,49]⟩:ByteArray).data.toList)) (readQ ((⟨#[50]⟩:ByteArray).data.toList)) (readQ ((⟨#[45,51]⟩:ByteArray).data.toList)) (readQ ((⟨#[52]⟩:ByteArray).data.toList))).2=0 from by kernel_rfl] at h
 exact span_is #[45,54] #[56] h (by kernel_rfl) (by kernel_rfl)
theorem aw1_fl3 (w:World) (hT:Tabs w):Calls Tryz.prog 39 #[.string ⟨#[49,47,51]⟩] w fun e w'=>e = .returned (.tuple #[.float .f32 1051372203,.int .i64 0])∧Below w.heap.size w w':=by
 have h:=Float_any ⟨#[49,47,51]⟩ w hT (by decide)
 rw [show readE ((⟨#[49,47,51]⟩:ByteArray).data.toList)=0 from by kernel_rfl,if_neg (by omega),if_neg (by omega),show flW (readQ ((⟨#[49,47,51]⟩:ByteArray).data.toList))=1051372203 from by decide +kernel,show flX (readQ ((⟨#[49,47,51]⟩:ByteArray).data.toList))=0 from by decide +kernel] at h
 exact h
theorem aw1_exact (w:World) (hT:Tabs w):Calls Tryz.prog 40 #[.float .f32 1051372203] w fun e w'=>e = .returned (.tuple #[.string ⟨#[49,49,49,56,52,56,49,49,47,51,51,53,53,52,52,51,50]⟩,.int .i64 0])∧Below w.heap.size w w':=by
 have h:=Exact_any 1051372203 w hT
 rw [show Flt.fin Ieee.single 1051372203=true from by decide +kernel,if_pos rfl,if_pos rfl,show writeE (exQ 1051372203)=0 from by decide +kernel] at h
 exact text_is #[49,49,49,56,52,56,49,49,47,51,51,53,53,52,52,51,50] h (by kernel_rfl)
theorem aw1_fl4 (w:World) (hT:Tabs w):Calls Tryz.prog 39 #[.string { data:=#[49,47,52] }] w fun e w'=>e = .returned (.tuple #[.float .f32 1048576000,.int .i64 0])∧Below w.heap.size w w':=by
 have h:=Float_any { data:=#[49,47,52] } w hT (by decide)
 rw [show readE (({ data:=#[49,47,52] }:ByteArray).data.toList)=0 from by kernel_rfl,if_neg (by omega),if_neg (by omega),show flW (readQ (({ data:=#[49,47,52] }:ByteArray).data.toList))=1048576000 from by decide +kernel,show flX (readQ (({ data:=#[49,47,52] }:ByteArray).data.toList))=0 from by decide +kernel] at h
 exact h
set_option maxHeartbeats 1000000 in
set_option maxRecDepth 100000 in
theorem single_is (s:ByteArray) (w:World):Calls Tryz.prog 95 #[.string s] w fun e w'=>e = .returned (.agg #[.string s,.string s])∧Below w.heap.size w w':=by
 have hb:Below w.heap.size w (w.alloc (.cells #[.string { data:=#[] },.string { data:=#[] }] 74)):=(Below.refl _ _).alloc (Nat.le_refl _) _
 have q:CBlk (w.alloc (.cells #[.string { data:=#[] },.string { data:=#[] }] 74)) w.heap.size #[.string { data:=#[] },.string { data:=#[] }] 74:=CBlk.new _ _ _ _ rfl
 have y0:=q.cell 0
 have y1:=q.cell 1
 have f0:=q.frozen 0
 have f1:=q.frozen 1
 have hset:=twoSetS hb (g:=w.heap.size) (Nat.le_refl _) (.string s) (.string s)
 go_enter Tryz.func95,Tryz.ntmps95
 go_upto_region 1 with (fail)
 generalize w.alloc (.cells #[.string { data:=#[] },.string { data:=#[] }] 74)=W at *
 go_wp2
 refine bodyPost_ret (v := .agg #[.string s,.string s]) (by simp [results,Tryz.results95,go_sem,y0,y1]) rfl ⟨rfl,hset⟩
set_option maxHeartbeats 4000000 in
set_option maxRecDepth 100000 in
theorem beamHalf_ok (w:World) (hT:Tabs w):Calls Tryz.prog 38 #[] w fun e w'=>e = .returned (.bool true)∧Below w.heap.size w w':=by
 have H1:=Lib.hid (fun W hT=>span_is #[49,47,50] #[49,47,50] (cos6_4 W hT) rfl rfl)
 have H2:=Lib.hid (fun W hT=>span_is #[56,48,57,47,49,48,48,48] #[56,49,47,49,48,48] (cos10_3 W hT) rfl rfl)
 have H3:=Lib.hid aw1_fl3
 have H4:=Lib.hid aw1_exact
 have H5:=Lib.hid aw1_fl4
 have H6:=Lib.hid (single_is { data:=#[49,47,50] })
 go_enter Tryz.func38,Tryz.ntmps38
 go_wp2_with fail
 refine (H1.out w hT).mono ?_
 rintro e w2 ⟨rfl,hb2⟩
 have hba:Below w2.heap.size w2 (w2.alloc (.cells #[.string { data:=#[49,47,50] },.string { data:=#[49,47,50] }] 74)):=(Below.refl _ _).alloc (Nat.le_refl _) _
 have hB3:=hb2.trans (hba.mono hb2.size)
 have q1:CBlk (w2.alloc (.cells #[.string { data:=#[49,47,50] },.string { data:=#[49,47,50] }] 74)) w2.heap.size #[.string { data:=#[49,47,50] },.string { data:=#[49,47,50] }] 74:=CBlk.new _ _ _ _ rfl
 go_upto_region 2 with (fail)
 generalize w2.alloc (.cells #[.string { data:=#[49,47,50] },.string { data:=#[49,47,50] }] 74)=w3 at *
 generalize w2.heap.size=g1 at *
 clear hb2 hba
 go_wp2_with fail
 refine (H2.out w3 (hT.later hB3)).mono ?_
 rintro e w4 ⟨rfl,hb4⟩
 have hba:Below w4.heap.size w4 (w4.alloc (.cells #[.string { data:=#[56,48,57,47,49,48,48,48] },.string { data:=#[56,49,47,49,48,48] }] 74)):=(Below.refl _ _).alloc (Nat.le_refl _) _
 have hB4:=hB3.trans (hb4.mono hB3.size)
 have hB5:=hB4.trans (hba.mono hB4.size)
 have q15:=(q1.below hb4 q1.lt).alloc (.cells #[.string { data:=#[56,48,57,47,49,48,48,48] },.string { data:=#[56,49,47,49,48,48] }] 74)
 have q3:CBlk (w4.alloc (.cells #[.string { data:=#[56,48,57,47,49,48,48,48] },.string { data:=#[56,49,47,49,48,48] }] 74)) w4.heap.size #[.string { data:=#[56,48,57,47,49,48,48,48] },.string { data:=#[56,49,47,49,48,48] }] 74:=CBlk.new _ _ _ _ rfl
 go_upto_region 3 with (fail)
 generalize w4.alloc (.cells #[.string { data:=#[56,48,57,47,49,48,48,48] },.string { data:=#[56,49,47,49,48,48] }] 74)=w5 at *
 generalize w4.heap.size=g3 at *
 clear hb4 hba hB4 hB3 q1
 go_wp2_with fail
 refine (H3.out w5 (hT.later hB5)).mono ?_
 rintro e w6 ⟨rfl,hb6⟩
 have hB6:=hB5.trans (hb6.mono hB5.size)
 have q16:=q15.below hb6 q15.lt
 have q36:=q3.below hb6 q3.lt
 go_wp2_with fail
 refine (H4.out w6 (hT.later hB6)).mono ?_
 rintro e w7 ⟨rfl,hb7⟩
 have hB7:=hB6.trans (hb7.mono hB6.size)
 have q17:=q16.below hb7 q16.lt
 have q37:=q36.below hb7 q36.lt
 go_wp2_with fail
 refine (H5.out w7 (hT.later hB7)).mono ?_
 rintro e w8 ⟨rfl,hb8⟩
 have hB8:=hB7.trans (hb8.mono hB7.size)
 have q18:=q17.below hb8 q17.lt
 have q38:=q37.below hb8 q37.lt
 clear q15 q3 q16 q36 q17 q37 hb6 hb7 hb8 hB5 hB6 hB7 H1 H2 H3 H4 H5
 go_upto_region 6 with (fail)
 have x00:w8.drew.cell? ⟨g1,0,none⟩=some (.string { data:=#[49,47,50] }):=q18.cell 0;have x01:w8.drew.cell? ⟨g1,1,none⟩=some (.string { data:=#[49,47,50] }):=q18.cell 1;have x02:w8.drew.cell? ⟨g3,0,none⟩=some (.string { data:=#[56,48,57,47,49,48,48,48] }):=q38.cell 0;have x03:w8.drew.cell? ⟨g3,1,none⟩=some (.string { data:=#[56,49,47,49,48,48] }):=q38.cell 1
 go_region_held3 (fun w'=>w'.cell? ⟨g1,0,none⟩=some (.string { data:=#[49,47,50] })∧w'.cell? ⟨g1,1,none⟩=some (.string { data:=#[49,47,50] })∧w'.cell? ⟨g3,0,none⟩=some (.string { data:=#[56,48,57,47,49,48,48,48] })∧w'.cell? ⟨g3,1,none⟩=some (.string { data:=#[56,49,47,49,48,48] }))
  (first | with_reducible exact ⟨x00,x01,x02,x03⟩ | with_reducible exact ⟨x10,x11,x12,x13⟩)
  (first | (go_at_call 95;refine (H6.out _).mono ?_;rintro e w9 ⟨rfl,hb9⟩;have q19:=q18.drew.below hb9 q18.lt;have q39:=q38.drew.below hb9 q38.lt;have x10:w9.cell? ⟨g1,0,none⟩=some (.string { data:=#[49,47,50] }):=q19.cell 0;have x11:w9.cell? ⟨g1,1,none⟩=some (.string { data:=#[49,47,50] }):=q19.cell 1;have x12:w9.cell? ⟨g3,0,none⟩=some (.string { data:=#[56,48,57,47,49,48,48,48] }):=q39.cell 0;have x13:w9.cell? ⟨g3,1,none⟩=some (.string { data:=#[56,49,47,49,48,48] }):=q39.cell 1))
 have hB9:=hB8.drew.trans (hb9.mono hB8.drew.size)
 go_wp2_with fail
 go_ret
 exact ⟨rfl,hB9⟩
end Go.Proofs.YteajibbphcfmeaaGreatDoor
namespace Go.Proofs.YteajibbphcfmeaaGreatDoor
open Go.RowKit
open Flt
theorem signed_opp (s:Bool) (m k:Nat):Ieee.signed s m k+Ieee.signed (!s) m k=0:=by
 unfold Ieee.signed
 cases s<;>simp<;>omega
theorem sub_self {b:Nat} (h:fin Ieee.single b=true):floatBits .sub .f32 b b=some 0:=by
 unfold fin at h
 show ((Ieee.single.read b).sum (Ieee.single.read b).opposite).map Ieee.single.write=some 0
 rcases hr:Ieee.single.read b with ⟨s,m,p⟩ | s | ⟨s,f⟩
 ·have e1:(Ieee.Datum.number s m p).opposite = .number (!s) m p:=rfl
  rw [e1]
  unfold Ieee.Datum.sum
  simp only [Int.min_self,signed_opp]
  have e2:(s && !s)=false:=by cases s<;>rfl
  simp only [if_true,e2,Int.natAbs_zero,Option.map_some]
  congr 1
 ·rw [hr] at h;cases h
 ·rw [hr] at h;cases h
theorem sub_none {b:Nat} (h:fin Ieee.single b=false):FloatKind.f32.format.sub b b=none:=by
 unfold fin at h
 show ((Ieee.single.read b).sum (Ieee.single.read b).opposite).map Ieee.single.write=none
 rcases hr:Ieee.single.read b with ⟨s,m,p⟩ | s | ⟨s,f⟩
 ·rw [hr] at h;cases h
 ·cases s<;>rfl
 ·rfl
def nanX (x y:Nat) (W:World):Nat:=(Question.nanBits .f32 x y).cut (W.tape W.drawn (Question.nanBits .f32 x y))
theorem nanX_read (x y:Nat) (W:World):∃ s f,Ieee.single.read (nanX x y W) = .nan s f:=by
 unfold nanX Question.cut
 generalize W.tape W.drawn (Question.nanBits .f32 x y)=t
 dsimp only
 have e31:(2:Nat) ^ 31=2147483648:=by decide
 have e23:(2:Nat) ^ 23=8388608:=by decide
 rw [e31,e23]
 have h1:t % 2<2:=Nat.mod_lt _ (by omega)
 have h2:t / 2 % (8388608 - 1)<8388607:=Nat.mod_lt _ (by omega)
 generalize t % 2=s at h1
 generalize t / 2 % (8388608 - 1)=f at h2
 unfold Ieee.Format.read
 rw [sgl_sign,sgl_binade,sgl_inf]
 have e1:(s*2147483648+2139095040+1+f) % 2147483648=2139095040+1+f:=by omega
 dsimp only
 rw [e1,if_neg (by omega),if_neg (by omega),if_neg (by omega)]
 exact ⟨_,_,rfl⟩
theorem nanX_zero (x y:Nat) (W:World):(FloatKind.f32.format.order (nanX x y W) 0==some .eq)=false:=by
 obtain ⟨s,f,h⟩:=nanX_read x y W
 have:FloatKind.f32.format.order (nanX x y W) 0=none:=by
  show (Ieee.single.read _).order (Ieee.single.read _)=_
  rw [h];rfl
 rw [this];rfl
theorem run_sub_nan {P:Program} (t:TypeId) {b:Nat} (h:fin Ieee.single b=false) (W:World):(binOp .sub t (.float .f32 b) (.float .f32 b)).run P W = .ok (.float .f32 (nanX b b W)) W.drew:=by
 have hs:=sub_none h
 have hf:(Question.nanBits .f32 b b).forced=false:=rfl
 simp [binOp,Op.floatArith,hs,hf,nanX]
theorem Finite_any (b:Nat) (w:World):Calls Tryz.prog 37 #[.float .f32 b] w fun e w'=>e = .returned (.bool (fin Ieee.single b))∧Below w.heap.size w w':=by
 by_cases h:fin Ieee.single b=true
 ·have ha:=fun W:World=>run_float_arith (P:=Tryz.prog) W .sub 55 .f32 b b 0 (sub_self h)
  have hz:(FloatKind.f32.format.order 0 0==some .eq)=true:=by decide +kernel
  have hb:Below w.heap.size w w:=Below.refl _ _
  rw [h]
  clear h
  go_enter Tryz.func37,Tryz.ntmps37
  go_wp2
  go_ret
  exact ⟨rfl,hb⟩
 ·have h':fin Ieee.single b=false:=by simpa using h
  have ha:=fun W:World=>run_sub_nan (P:=Tryz.prog) 55 h' W
  have hz:=nanX_zero b b w
  have hb:Below w.heap.size w w.drew:=(Below.refl _ _).drew
  rw [h']
  clear h h'
  go_enter Tryz.func37,Tryz.ntmps37
  go_wp2
  go_ret
  exact ⟨rfl,hb⟩
end Go.Proofs.YteajibbphcfmeaaGreatDoor
