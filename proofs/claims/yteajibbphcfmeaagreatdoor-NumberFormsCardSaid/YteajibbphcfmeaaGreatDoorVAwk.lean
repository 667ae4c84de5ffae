/- The calls of chapter 1's awake, each at its arguments. -/
import Derived.Test.YteajibbphcfmeaaGreatDoorVCo8
import Derived.Test.YteajibbphcfmeaaGreatDoorVSh5
import Derived.Test.YteajibbphcfmeaaGreatDoorVSp8
import Derived.Test.YteajibbphcfmeaaGreatDoorVRat8
import Derived.Test.YteajibbphcfmeaaGreatDoorVFrx
namespace Go.Proofs.YteajibbphcfmeaaGreatDoor
open Go.RowKit Bn
theorem zdb {w:World} {l:List UInt8} {x:Int} {f:FuncId} {args:Array Value} (a:Array UInt8) (h:Calls Tryz.prog f args w (zbj w l x)) (e:l=a.toList) :
  Calls Tryz.prog f args w fun e w'=>e = .returned (.tuple #[.string ⟨a⟩,.int .i64 x])∧Below w.heap.size w w':=
 h.mono fun _ _ ⟨s,he,hs,hb⟩=>⟨by
  rw [he]
  obtain ⟨d⟩:=s
  have:d=a:=by apply Array.ext';rw [←e];exact hs
  rw [this],hb⟩
theorem zev {w:World} {l m:List UInt8} {x:Int} {f:FuncId} {args:Array Value} (a b:Array UInt8) (h:Calls Tryz.prog f args w (zc8 w l m x)) (e1:l=a.toList) (e2:m=b.toList) :
  Calls Tryz.prog f args w fun e w'=>e = .returned (.tuple #[.agg #[.string ⟨a⟩,.string ⟨b⟩],.int .i64 x])∧Below w.heap.size w w':=
 h.mono fun _ _ ⟨s,t,he,hs,ht,hb⟩=>⟨by
  rw [he]
  obtain ⟨d⟩:=s
  obtain ⟨d2⟩:=t
  have h1:d=a:=by apply Array.ext';rw [←e1];exact hs
  have h2:d2=b:=by apply Array.ext';rw [←e2];exact ht
  rw [h1,h2],hb⟩
theorem zop (w:World) (hT:Tabs w):Calls Tryz.prog 25 #[.int .i64 15,.int .i64 (-6)] w fun e w'=>e = .returned (.tuple #[.string ⟨#[45,53,47,50]⟩,.int .i64 0])∧Below w.heap.size w w':=by
 have h:=zhb 15 (-6) w hT (by omega) (by omega)
 rw [show zao (lowQ (decide ((15:Int)<0) != decide ((-6:Int)<0)) ((15:Int).natAbs*1) (1*(-6:Int).natAbs))=0 from by kernel_rfl] at h
 exact zdb #[45,53,47,50] h (by kernel_rfl)
theorem zke (w:World) (hT:Tabs w):Calls Tryz.prog 26 #[.string ⟨#[45,53,47,50]⟩] w fun e w'=>e = .returned (.tuple #[.string ⟨#[45,51]⟩,.int .i64 0])∧Below w.heap.size w w':=by
 have h:=zgg ⟨#[45,53,47,50]⟩ w hT (by decide) (by kernel_rfl)
 rw [show zao (zaY (zag ((⟨#[45,53,47,50]⟩:ByteArray).data.toList)))=0 from by kernel_rfl] at h
 exact zdb #[45,51] h (by kernel_rfl)
theorem zk8 (w:World) (hT:Tabs w):Calls Tryz.prog 51 #[.agg #[.string ⟨#[45,49]⟩,.string ⟨#[50]⟩],.agg #[.string ⟨#[45,51]⟩,.string ⟨#[52]⟩]] w fun e w'=>e = .returned (.tuple #[.agg #[.string ⟨#[45,54]⟩,.string ⟨#[56]⟩],.int .i64 0])∧Below w.heap.size w w':=by
 have h:=zi3 ⟨#[45,49]⟩ ⟨#[50]⟩ ⟨#[45,51]⟩ ⟨#[52]⟩ w hT (by decide) (by decide) (by decide) (by decide) 0 (by kernel_rfl) _ rfl
 rw [if_neg (by omega),if_neg (by omega),if_neg (by omega)] at h
 rw [show zci (ze8 (zag ((⟨#[45,49]⟩:ByteArray).data.toList)) (zag ((⟨#[50]⟩:ByteArray).data.toList)) (zag ((⟨#[45,51]⟩:ByteArray).data.toList)) (zag ((⟨#[52]⟩:ByteArray).data.toList))).1 (ze8 (zag ((⟨#[45,49]⟩:ByteArray).data.toList)) (zag ((⟨#[50]⟩:ByteArray).data.toList)) (zag ((⟨#[45,51]⟩:ByteArray).data.toList)) (zag ((⟨#[52]⟩:ByteArray).data.toList))).2=0 from by kernel_rfl] at h
 exact zev #[45,54] #[56] h (by kernel_rfl) (by kernel_rfl)
theorem zmA (w:World) (hT:Tabs w):Calls Tryz.prog 53 #[.agg #[.string ⟨#[49]⟩,.string ⟨#[50]⟩],.agg #[.string ⟨#[52]⟩,.string ⟨#[56]⟩]] w fun e w'=>e = .returned (.tuple #[.agg #[.string ⟨#[49,47,56]⟩,.string ⟨#[49,47,50]⟩],.int .i64 0])∧Below w.heap.size w w':=by
 have h:=zj6 ⟨#[49]⟩ ⟨#[50]⟩ ⟨#[52]⟩ ⟨#[56]⟩ w hT (by decide) (by decide) (by decide) (by decide) 0 (by kernel_rfl) _ rfl
 rw [if_neg (by omega),if_neg (by omega),if_neg (by omega)] at h
 rw [show zci (zfu (zag ((⟨#[49]⟩:ByteArray).data.toList)) (zag ((⟨#[50]⟩:ByteArray).data.toList)) (zag ((⟨#[52]⟩:ByteArray).data.toList)) (zag ((⟨#[56]⟩:ByteArray).data.toList))).1 (zfu (zag ((⟨#[49]⟩:ByteArray).data.toList)) (zag ((⟨#[50]⟩:ByteArray).data.toList)) (zag ((⟨#[52]⟩:ByteArray).data.toList)) (zag ((⟨#[56]⟩:ByteArray).data.toList))).2=0 from by kernel_rfl] at h
 exact zev #[49,47,56] #[49,47,50] h (by kernel_rfl) (by kernel_rfl)
theorem zl6 (w:World) (hT:Tabs w):Calls Tryz.prog 54 #[.agg #[.string ⟨#[49]⟩,.string ⟨#[50]⟩],.agg #[.string ⟨#[51]⟩,.string ⟨#[52]⟩]] w fun e w'=>e = .returned (.tuple #[.int .i64 (-1),.int .i64 0])∧Below w.heap.size w w':=by
 have h:=zgY ⟨#[49]⟩ ⟨#[50]⟩ ⟨#[51]⟩ ⟨#[52]⟩ w hT (by decide) (by decide) (by decide) (by decide) 0 (by kernel_rfl)
 rw [show rcmp (zag ((⟨#[50]⟩:ByteArray).data.toList)) (zag ((⟨#[51]⟩:ByteArray).data.toList)) = -1 from by kernel_rfl,show rcmp (zag ((⟨#[49]⟩:ByteArray).data.toList)) (zag ((⟨#[52]⟩:ByteArray).data.toList)) = -1 from by kernel_rfl] at h
 exact h
theorem zl5 (w:World) (hT:Tabs w):Calls Tryz.prog 54 #[.agg #[.string ⟨#[49]⟩,.string ⟨#[50]⟩],.agg #[.string ⟨#[50]⟩,.string ⟨#[51]⟩]] w fun e w'=>e = .returned (.tuple #[.int .i64 (0),.int .i64 24])∧Below w.heap.size w w':=by
 have h:=zgY ⟨#[49]⟩ ⟨#[50]⟩ ⟨#[50]⟩ ⟨#[51]⟩ w hT (by decide) (by decide) (by decide) (by decide) 0 (by kernel_rfl)
 rw [show rcmp (zag ((⟨#[50]⟩:ByteArray).data.toList)) (zag ((⟨#[50]⟩:ByteArray).data.toList))=0 from by kernel_rfl,show rcmp (zag ((⟨#[49]⟩:ByteArray).data.toList)) (zag ((⟨#[51]⟩:ByteArray).data.toList)) = -1 from by kernel_rfl] at h
 exact h
theorem zmk (w:World) (hT:Tabs w):Calls Tryz.prog 55 #[.string ⟨#[50]⟩] w fun e w'=>e = .returned (.tuple #[.agg #[.string ⟨#[55,48,55,47,53,48,48]⟩,.string ⟨#[50,56,51,47,50,48,48]⟩],.int .i64 0])∧Below w.heap.size w w':=by
 have h:=znE 0 ⟨false,2,1⟩ (lowQ false 1414 1000) (lowQ false (1414+1) 1000) ⟨#[50]⟩ w hT (Lib.hid rfl) rfl ((zeo (by omega)).mono (by omega)) ((zeo (by omega)).mono (by omega)) (Lib.hid (fun W hT=>zdy ⟨#[50]⟩ (by decide) ⟨false,2,1⟩ (by kernel_rfl) (by kernel_rfl) W hT))
  (Lib.hid (fun v W hT hv=>zg5 ⟨false,2,1⟩ 1 1 v W hT hv ((zbf (by decide) (by decide)).mono (by omega)) ⟨by decide,by decide⟩ ⟨by decide,by decide⟩ (by decide) 1414 ⟨by decide +kernel,by decide +kernel⟩ (Lib.hid (by decide))))
 rw [show zci (lowQ false 1414 1000) (lowQ false (1414+1) 1000)=0 from by kernel_rfl] at h
 exact zev #[55,48,55,47,53,48,48] #[50,56,51,47,50,48,48] h (by kernel_rfl) (by kernel_rfl)
theorem znR (w:World) (hT:Tabs w):Calls Tryz.prog 39 #[.string ⟨#[49,47,51]⟩] w fun e w'=>e = .returned (.tuple #[.float .f32 1051372203,.int .i64 0])∧Below w.heap.size w w':=by
 have h:=zft ⟨#[49,47,51]⟩ w hT (by decide)
 rw [show zam ((⟨#[49,47,51]⟩:ByteArray).data.toList)=0 from by kernel_rfl,if_neg (by omega),if_neg (by omega),show flW (zag ((⟨#[49,47,51]⟩:ByteArray).data.toList))=1051372203 from by decide +kernel,show flX (zag ((⟨#[49,47,51]⟩:ByteArray).data.toList))=0 from by decide +kernel] at h
 exact h
theorem zns (w:World) (hT:Tabs w):Calls Tryz.prog 39 #[.string ⟨#[49,54,55,55,55,50,49,55]⟩] w fun e w'=>e = .returned (.tuple #[.float .f32 1266679808,.int .i64 0])∧Below w.heap.size w w':=by
 have h:=zft ⟨#[49,54,55,55,55,50,49,55]⟩ w hT (by decide)
 rw [show zam ((⟨#[49,54,55,55,55,50,49,55]⟩:ByteArray).data.toList)=0 from by kernel_rfl,if_neg (by omega),if_neg (by omega),show flW (zag ((⟨#[49,54,55,55,55,50,49,55]⟩:ByteArray).data.toList))=1266679808 from by decide +kernel,show flX (zag ((⟨#[49,54,55,55,55,50,49,55]⟩:ByteArray).data.toList))=0 from by decide +kernel] at h
 exact h
theorem zm5 (w:World) (hT:Tabs w):Calls Tryz.prog 39 #[.string ⟨#[49,54,55,55,55,50,49,57]⟩] w fun e w'=>e = .returned (.tuple #[.float .f32 1266679810,.int .i64 0])∧Below w.heap.size w w':=by
 have h:=zft ⟨#[49,54,55,55,55,50,49,57]⟩ w hT (by decide)
 rw [show zam ((⟨#[49,54,55,55,55,50,49,57]⟩:ByteArray).data.toList)=0 from by kernel_rfl,if_neg (by omega),if_neg (by omega),show flW (zag ((⟨#[49,54,55,55,55,50,49,57]⟩:ByteArray).data.toList))=1266679810 from by decide +kernel,show flX (zag ((⟨#[49,54,55,55,55,50,49,57]⟩:ByteArray).data.toList))=0 from by decide +kernel] at h
 exact h
theorem zj2 (w:World) (hT:Tabs w):Calls Tryz.prog 40 #[.float .f32 1051372203] w fun e w'=>e = .returned (.tuple #[.string ⟨#[49,49,49,56,52,56,49,49,47,51,51,53,53,52,52,51,50]⟩,.int .i64 0])∧Below w.heap.size w w':=by
 have h:=zlb 1051372203 w hT
 rw [show Flt.fin Ieee.single 1051372203=true from by decide +kernel,if_pos rfl,if_pos rfl,show zao (exQ 1051372203)=0 from by decide +kernel] at h
 exact zdb #[49,49,49,56,52,56,49,49,47,51,51,53,53,52,52,51,50] h (by kernel_rfl)
theorem zlH (w:World):Calls Tryz.prog 34 #[.int .i64 1,.int .i64 3] w fun e w'=>∃ g,e = .returned (.tuple #[.slice (some ⟨g,0,none⟩) 3 3,.int .i64 0])∧w.heap.size≤g∧w'.ownsRow g 3 1 (.slice (some ⟨g,0,none⟩) 3 3) 3 [.int .i64 1,.int .i64 2,.int .i64 0]∧Below w.heap.size w w':=by
 have h:=znc 1 3 w (by omega) (by omega) (by omega)
 rw [show (Dl.drawL 1 3).map natv=[.int .i64 1,.int .i64 2,.int .i64 0] from by kernel_rfl] at h
 exact h
theorem zjv (A:Option Addr) (c:Nat) (w:World) (h:zat w w.heap.size 1 A 3 [.int .i64 1,.int .i64 2,.int .i64 4]):Calls Tryz.prog 33 #[.int .i64 50,.slice A 3 c] w fun e w'=>∃ g,e = .returned (.tuple #[.slice (some ⟨g,0,none⟩) 3 3,.int .i64 0])∧w.heap.size≤g∧w'.ownsRow g 3 1 (.slice (some ⟨g,0,none⟩) 3 3) 3 [.int .i64 7,.int .i64 14,.int .i64 29]∧Below w.heap.size w w':=by
 have h2:=zli 50 A 3 c [1,2,4] w (by omega) h (by decide) (by omega) (by omega) (by decide)
 rw [show (Dl.shares 50 [1,2,4]).map natv=[.int .i64 7,.int .i64 14,.int .i64 29] from by kernel_rfl] at h2
 exact h2
end Go.Proofs.YteajibbphcfmeaaGreatDoor
