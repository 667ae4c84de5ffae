/- Contract of strings.Cut at the separator '/'. -/
import Derived.Shelf.Strings.Builder1
import Derived.Shelf.Strings.Builder2
import Derived.Shelf.Small.Bits
import Derived.Shelf.Small.Wraps
import Derived.Shelf.Strings.BuilderF
import Derived.Shelf.Strings.BuilderK
import Derived.Shelf.Strings.Builder2Cap
import Derived.Shelf.Strconv.Itoa0
import Derived.Shelf.Strconv.Itoa1
import Derived.Shelf.LaysM
import Derived.Shelf.Strconv.Itoa2
import Derived.Shelf.Strings.Search1
import Derived.Shelf.Strings.Search2
import Derived.Shelf.Strings.Cut
import Derived.Shelf.Strings.Shaped
import Derived.Shelf.Strings.Prefix
import Derived.Shelf.Bits.Mul64
import Derived.Shelf.Strings.Repeat
import Derived.Shelf.Strings.BuilderCap
import Derived.Shelf.Spec.TrailingZeros
import Derived.Test.YtmkihdjolnlccaaGreatDoorProg
import Derived.Test.YtmkihdjolnlccaaGreatDoorQWords
import Derived.Lib.IndexLaws
import Derived.Laws.RangeAny
namespace Go.Proofs
open Go.Shelf
def Tryz.lays170_ren:Go.Shelf.Ren:=⟨fun | 170=>241 | n=>n,fun | 70=>254 | 3=>3 | 0=>0 | 72=>257 | 37=>255 | 5=>5 | n=>n,fun | n=>n⟩
theorem Tryz.lays170:Go.Proofs.Lays.n170 Tryz.prog Tryz.lays170_ren:={
 mixed:=by kernel_rfl
 f170:=Tryz.func241.trans (congrArg some (by kernel_rfl))
 t0:=Tryz.underlying0
 a0:=Tryz.isAgg0
 z0:=Tryz.sizeOf0
 v0:=Tryz.zeroValue0
 t3:=Tryz.underlying3
 a3:=Tryz.isAgg3
 z3:=Tryz.sizeOf3
 v3:=Tryz.zeroValue3
 t37:=Tryz.underlying255
 a37:=Tryz.isAgg255
 z37:=Tryz.sizeOf255
 v37:=Tryz.zeroValue255
 t70:=Tryz.underlying254
 a70:=Tryz.isAgg254
 z70:=Tryz.sizeOf254
 v70:=Tryz.zeroValue254
 t72:=Tryz.underlying257
 a72:=Tryz.isAgg257
 z72:=Tryz.sizeOf257
 v72:=Tryz.zeroValue257 }
open Go.RowKit in
theorem Tryz.Builder_Len (B b:Nat) (bs:List Value) (w:World) (h:Lib.IsBuilder 257 5 B b bs w) :
  Calls Tryz.prog 241 #[.pointer (some ⟨b,0,none⟩)] w fun e w'=>e = .returned (.int .i64 bs.length)∧w'=w:=Any.Builder_Len Tryz.lays170 B b bs w h
def Tryz.lays169_ren:Go.Shelf.Ren:=⟨fun | 169=>222 | n=>n,fun | 70=>254 | 9=>9 | 0=>0 | 72=>257 | 37=>255 | 127=>286 | 3=>3 | 5=>5 | n=>n,fun | n=>n⟩
theorem Tryz.lays169:Go.Proofs.Lays.n169 Tryz.prog Tryz.lays169_ren:={
 mixed:=by kernel_rfl
 f169:=Tryz.func222.trans (congrArg some (by kernel_rfl))
 t0:=Tryz.underlying0
 a0:=Tryz.isAgg0
 z0:=Tryz.sizeOf0
 v0:=Tryz.zeroValue0
 t3:=Tryz.underlying3
 a3:=Tryz.isAgg3
 z3:=Tryz.sizeOf3
 v3:=Tryz.zeroValue3
 t9:=Tryz.underlying9
 a9:=Tryz.isAgg9
 z9:=Tryz.sizeOf9
 v9:=Tryz.zeroValue9
 t37:=Tryz.underlying255
 a37:=Tryz.isAgg255
 z37:=Tryz.sizeOf255
 v37:=Tryz.zeroValue255
 t70:=Tryz.underlying254
 a70:=Tryz.isAgg254
 z70:=Tryz.sizeOf254
 v70:=Tryz.zeroValue254
 t72:=Tryz.underlying257
 a72:=Tryz.isAgg257
 z72:=Tryz.sizeOf257
 v72:=Tryz.zeroValue257
 t127:=Tryz.underlying286
 a127:=Tryz.isAgg286
 z127:=Tryz.sizeOf286
 v127:=Tryz.zeroValue286 }
theorem Tryz.Builder_Extra_169:Builder.Extra Tryz.prog Tryz.lays169_ren:={
 sizeBuilder:=by kernel_rfl
 liesBuilder:=by kernel_rfl
 t5:=Tryz.underlying5
 a5:=Tryz.isAgg5
 z5:=Tryz.sizeOf5
 v5:=Tryz.zeroValue5
 infoByte:=by kernel_rfl
 cellsByte:=by kernel_rfl
 sizeByte:=by kernel_rfl
 neB5:=by decide }
open Go.RowKit in
open Go.RowKit in
open Go.RowKit in
theorem Tryz.Builder_String_any (B b:Nat) (l:List UInt8) (w:World) (h:Lib.IsBuilder 257 5 B b (Lib.byteCells l) w) (hBw:B≤w.heap.size) :
  Calls Tryz.prog 222 #[.pointer (some ⟨b,0,none⟩)] w fun e w'=>e = .returned (.string ⟨l.toArray⟩)∧Below B w w':=Any.Builder_String_any Tryz.lays169 Tryz.Builder_Extra_169 B b l w h hBw
open Go.RowKit in
open Go.RowKit in
def Tryz.lays134_ren:Go.Shelf.Ren:=⟨fun | 134=>239 | 129=>259 | n=>n,fun | 53=>168 | 3=>3 | 4=>4 | 46=>248 | 5=>5 | 9=>9 | n=>n,fun | n=>n⟩
theorem Tryz.lays134:Go.Proofs.Lays.n134 Tryz.prog Tryz.lays134_ren:={
 mixed:=by kernel_rfl
 f129:=Tryz.func259.trans (congrArg some (by kernel_rfl))
 f134:=Tryz.func239.trans (congrArg some (by kernel_rfl))
 t3:=Tryz.underlying3
 a3:=Tryz.isAgg3
 z3:=Tryz.sizeOf3
 v3:=Tryz.zeroValue3
 t4:=Tryz.underlying4
 a4:=Tryz.isAgg4
 z4:=Tryz.sizeOf4
 v4:=Tryz.zeroValue4
 t5:=Tryz.underlying5
 a5:=Tryz.isAgg5
 z5:=Tryz.sizeOf5
 v5:=Tryz.zeroValue5
 t9:=Tryz.underlying9
 a9:=Tryz.isAgg9
 z9:=Tryz.sizeOf9
 v9:=Tryz.zeroValue9
 t46:=Tryz.underlying248
 a46:=Tryz.isAgg248
 z46:=Tryz.sizeOf248
 v46:=Tryz.zeroValue248
 t53:=Tryz.underlying168
 a53:=Tryz.isAgg168
 z53:=Tryz.sizeOf168
 v53:=Tryz.zeroValue168 }
theorem Tryz.bits_LeadingZeros64 (x:Int) (w:World) (h0:0≤x) (h1:x≤18446744073709551615) :
  Calls Tryz.prog 239 #[.int .u64 x] w fun e w'=>e = .returned (.int .i64 (64 - (Lib.bitLen x.toNat:Int)))∧w'=w:=Any.bits_LeadingZeros64 Tryz.lays134 x w h0 h1
def Tryz.lays210_ren:Go.Shelf.Ren:=⟨fun | 210=>228 | 206=>249 | n=>n,fun | 9=>9 | 4=>4 | 3=>3 | n=>n,fun | n=>n⟩
open Go.RowKit in
def Tryz.lays103_ren:Go.Shelf.Ren:=⟨fun | 103=>178 | 210=>228 | 206=>249 | n=>n,fun | 9=>9 | 4=>4 | 24=>223 | 3=>3 | n=>n,fun | n=>n⟩
theorem Tryz.lays103:Go.Proofs.Lays.n103 Tryz.prog Tryz.lays103_ren:={
 mixed:=by kernel_rfl
 f103:=Tryz.func178.trans (congrArg some (by kernel_rfl))
 f206:=Tryz.func249.trans (congrArg some (by kernel_rfl))
 f210:=Tryz.func228.trans (congrArg some (by kernel_rfl))
 t3:=Tryz.underlying3
 a3:=Tryz.isAgg3
 z3:=Tryz.sizeOf3
 v3:=Tryz.zeroValue3
 t4:=Tryz.underlying4
 a4:=Tryz.isAgg4
 z4:=Tryz.sizeOf4
 v4:=Tryz.zeroValue4
 t9:=Tryz.underlying9
 a9:=Tryz.isAgg9
 z9:=Tryz.sizeOf9
 v9:=Tryz.zeroValue9
 t24:=Tryz.underlying223
 a24:=Tryz.isAgg223
 z24:=Tryz.sizeOf223
 v24:=Tryz.zeroValue223 }
open Go.RowKit in
theorem Tryz.strings_CutPrefix (s p:ByteArray) (w:World) :
  Calls Tryz.prog 178 #[.string s,.string p] w fun e w'=>e = .returned (.tuple #[.string ⟨(Lib.trimPrefix s.data.toList p.data.toList).toArray⟩,.bool (Lib.hasPrefix s.data.toList p.data.toList)])∧w'=w:=Any.strings_CutPrefix Tryz.lays103 s p w
open Go.RowKit in
open Go.RowKit in
open Go.RowKit in
open Go.RowKit in
open Go.RowKit in
open Go.RowKit in
open Go.RowKit in
open Go.RowKit in
open Go.RowKit in
open Go.Lib in
open Go.Lib in
def Tryz.lays283_ren:Go.Shelf.Ren:=⟨fun | 283=>266 | n=>n,fun | 3=>3 | 9=>9 | 4=>4 | n=>n,fun | n=>n⟩
theorem Tryz.lays283:Go.Proofs.Lays.n283 Tryz.prog Tryz.lays283_ren:={
 mixed:=by kernel_rfl
 f283:=Tryz.func266.trans (congrArg some (by kernel_rfl))
 t3:=Tryz.underlying3
 a3:=Tryz.isAgg3
 z3:=Tryz.sizeOf3
 v3:=Tryz.zeroValue3
 t4:=Tryz.underlying4
 a4:=Tryz.isAgg4
 z4:=Tryz.sizeOf4
 v4:=Tryz.zeroValue4
 t9:=Tryz.underlying9
 a9:=Tryz.isAgg9
 z9:=Tryz.sizeOf9
 v9:=Tryz.zeroValue9 }
open Go.Lib in
theorem Tryz.internal_strconv_small (i:Nat) (h:i<100) (w:World) :
  Calls Tryz.prog 266 #[.int .i64 i] w fun e w'=>e = .returned (.string ⟨(Lib.decDigits i).toArray⟩)∧w'=w:=Any.internal_strconv_small Tryz.lays283 i h w
def Tryz.laysM284_ren:Go.Shelf.Ren:=⟨fun | 284=>267 | 129=>259 | 317=>282 | 318=>283 | n=>n,fun | 53=>168 | 3=>3 | 212=>310 | 0=>0 | 4=>4 | 46=>248 | 5=>5 | 9=>9 | n=>n,fun | 17=>5 | n=>n⟩
theorem Tryz.laysM284:Go.Proofs.LaysM.n284 Tryz.prog Tryz.laysM284_ren:={
 mixed:=by kernel_rfl
 f129:=Tryz.func259.trans (congrArg some (by kernel_rfl))
 f284:=Tryz.func267.trans (congrArg some (by kernel_rfl))
 f317:=Tryz.func282.trans (congrArg some (by kernel_rfl))
 f318:=Tryz.func283.trans (congrArg some (by kernel_rfl))
 t0:=Tryz.underlying0
 a0:=Tryz.isAgg0
 z0:=Tryz.sizeOf0
 v0:=Tryz.zeroValue0
 t3:=Tryz.underlying3
 a3:=Tryz.isAgg3
 z3:=Tryz.sizeOf3
 v3:=Tryz.zeroValue3
 t4:=Tryz.underlying4
 a4:=Tryz.isAgg4
 z4:=Tryz.sizeOf4
 v4:=Tryz.zeroValue4
 t5:=Tryz.underlying5
 a5:=Tryz.isAgg5
 z5:=Tryz.sizeOf5
 v5:=Tryz.zeroValue5
 t9:=Tryz.underlying9
 a9:=Tryz.isAgg9
 z9:=Tryz.sizeOf9
 v9:=Tryz.zeroValue9
 t46:=Tryz.underlying248
 a46:=Tryz.isAgg248
 z46:=Tryz.sizeOf248
 v46:=Tryz.zeroValue248
 t53:=Tryz.underlying168
 a53:=Tryz.isAgg168
 z53:=Tryz.sizeOf168
 v53:=Tryz.zeroValue168
 t212:=Tryz.underlying310
 a212:=Tryz.isAgg310
 z212:=Tryz.sizeOf310
 v212:=Tryz.zeroValue310
 g17:=by kernel_rfl
 i0:=by kernel_rfl
 i3:=by kernel_rfl
 i4:=by kernel_rfl
 i5:=by kernel_rfl
 i9:=by kernel_rfl
 i46:=by kernel_rfl
 i53:=by kernel_rfl
 i212:=by kernel_rfl
 m17:=by kernel_rfl }
open Go.Lib in
theorem Tryz.internal_strconv_numDigits (u:Nat) (h1:1≤u) (h2:u<18446744073709551616) (w:World) (htab:Lib.TabIs Tryz.prog w "internal/strconv.uint64pow10" .u64 Lib.pow10Tab) :
  Calls Tryz.prog 267 #[.int .u64 u] w fun e w'=>e = .returned (.int .i64 (Lib.nDigits u))∧w'=w:=Any.internal_strconv_numDigits Tryz.laysM284 u h1 h2 w htab
def Tryz.lays285_ren:Go.Shelf.Ren:=⟨fun | 285=>268 | n=>n,fun | 37=>255 | 53=>168 | 3=>3 | 4=>4 | 51=>302 | 9=>9 | 5=>5 | 0=>0 | n=>n,fun | n=>n⟩
theorem Tryz.lays285:Go.Proofs.Lays.n285 Tryz.prog Tryz.lays285_ren:={
 mixed:=by kernel_rfl
 f285:=Tryz.func268.trans (congrArg some (by kernel_rfl))
 t0:=Tryz.underlying0
 a0:=Tryz.isAgg0
 z0:=Tryz.sizeOf0
 v0:=Tryz.zeroValue0
 t3:=Tryz.underlying3
 a3:=Tryz.isAgg3
 z3:=Tryz.sizeOf3
 v3:=Tryz.zeroValue3
 t4:=Tryz.underlying4
 a4:=Tryz.isAgg4
 z4:=Tryz.sizeOf4
 v4:=Tryz.zeroValue4
 t5:=Tryz.underlying5
 a5:=Tryz.isAgg5
 z5:=Tryz.sizeOf5
 v5:=Tryz.zeroValue5
 t9:=Tryz.underlying9
 a9:=Tryz.isAgg9
 z9:=Tryz.sizeOf9
 v9:=Tryz.zeroValue9
 t37:=Tryz.underlying255
 a37:=Tryz.isAgg255
 z37:=Tryz.sizeOf255
 v37:=Tryz.zeroValue255
 t51:=Tryz.underlying302
 a51:=Tryz.isAgg302
 z51:=Tryz.sizeOf302
 v51:=Tryz.zeroValue302
 t53:=Tryz.underlying168
 a53:=Tryz.isAgg168
 z53:=Tryz.sizeOf168
 v53:=Tryz.zeroValue168 }
open Go.RowKit Go.Sort Go.Lib in
theorem Tryz.internal_strconv_formatBase10 (blk off cap:Nat) (u:Nat) (d:Array UInt8) (w:World) (hH:Holds (fun (b:UInt8)=>Value.int .u8 (b.toNat:Int)) w blk off d) (hu:u<10 ^ d.size) (hu64:u<18446744073709551616) (hsz:d.size<4611686018427387904) :
  Calls Tryz.prog 268 #[.slice (some ⟨blk,off,none⟩) d.size cap,.int .u64 u] w fun e w'=>
   e = .returned (.tuple #[])∧∃ (n v':Nat) (dk:Array UInt8),w'=(putRow (fun (b:UInt8)=>Value.int .u8 (b.toNat:Int)) w blk off dk).drewN n∧FmtInv d.size u 0 v' dk:=Any.internal_strconv_formatBase10 Tryz.lays285 blk off cap u d w hH hu hu64 hsz
def Tryz.lays217_ren:Go.Shelf.Ren:=⟨fun | 217=>270 | 266=>286 | n=>n,fun | 9=>9 | 5=>5 | 3=>3 | n=>n,fun | n=>n⟩
theorem Tryz.lays217:Go.Proofs.Lays.n217 Tryz.prog Tryz.lays217_ren:={
 mixed:=by kernel_rfl
 f217:=Tryz.func270.trans (congrArg some (by kernel_rfl))
 f266:=Tryz.func286.trans (congrArg some (by kernel_rfl))
 t3:=Tryz.underlying3
 a3:=Tryz.isAgg3
 z3:=Tryz.sizeOf3
 v3:=Tryz.zeroValue3
 t5:=Tryz.underlying5
 a5:=Tryz.isAgg5
 z5:=Tryz.sizeOf5
 v5:=Tryz.zeroValue5
 t9:=Tryz.underlying9
 a9:=Tryz.isAgg9
 z9:=Tryz.sizeOf9
 v9:=Tryz.zeroValue9 }
open Go.RowKit Go.Lib in
theorem Tryz.stringslite_IndexByte (s:ByteArray) (c:Int) (w:World) :
  Calls Tryz.prog 270 #[.string s,.int .u8 c] w fun e w'=>e = .returned (.int .i64 (Lib.indexByte s.data.toList c.toNat.toUInt8))∧w'=w:=Any.stringslite_IndexByte Tryz.lays217 s c w
open Go.RowKit Go.Lib in
open Go.RowKit Go.Lib in
open Go.RowKit Go.Lib in
def Tryz.lays219_ren:Go.Shelf.Ren:=⟨fun | 219=>255 | 217=>270 | 225=>271 | 224=>272 | 267=>273 | 266=>286 | 314=>287 | n=>n,fun | 9=>9 | 3=>3 | 4=>4 | 5=>5 | 46=>248 | 146=>303 | 51=>302 | n=>n,fun | 1=>1 | n=>n⟩
open Go.RowKit Go.Lib in
open Go.RowKit Go.Lib in
open Go.RowKit Go.Lib in
open Go.RowKit Go.Lib in
open Go.RowKit Go.Lib in
open Go.RowKit Go.Lib in
open Go.RowKit Go.Lib in
open Go.RowKit Go.Lib in
def Tryz.lays99_ren:Go.Shelf.Ren:=⟨fun | 99=>211 | 206=>249 | n=>n,fun | 9=>9 | 4=>4 | 3=>3 | n=>n,fun | n=>n⟩
theorem Tryz.lays99:Go.Proofs.Lays.n99 Tryz.prog Tryz.lays99_ren:={
 mixed:=by kernel_rfl
 f99:=Tryz.func211.trans (congrArg some (by kernel_rfl))
 f206:=Tryz.func249.trans (congrArg some (by kernel_rfl))
 t3:=Tryz.underlying3
 a3:=Tryz.isAgg3
 z3:=Tryz.sizeOf3
 v3:=Tryz.zeroValue3
 t4:=Tryz.underlying4
 a4:=Tryz.isAgg4
 z4:=Tryz.sizeOf4
 v4:=Tryz.zeroValue4
 t9:=Tryz.underlying9
 a9:=Tryz.isAgg9
 z9:=Tryz.sizeOf9
 v9:=Tryz.zeroValue9 }
open Go.RowKit Go.Lib in
theorem Tryz.strings_HasPrefix (s p:ByteArray) (w:World) :
  Calls Tryz.prog 211 #[.string s,.string p] w fun e w'=>e = .returned (.bool (Lib.hasPrefix s.data.toList p.data.toList))∧w'=w:=Any.strings_HasPrefix Tryz.lays99 s p w
def Tryz.lays264_ren:Go.Shelf.Ren:=⟨fun | 264=>243 | n=>n,fun | 53=>168 | 46=>248 | n=>n,fun | n=>n⟩
theorem Tryz.lays264:Go.Proofs.Lays.n264 Tryz.prog Tryz.lays264_ren:={
 mixed:=by kernel_rfl
 f264:=Tryz.func243.trans (congrArg some (by kernel_rfl))
 t46:=Tryz.underlying248
 a46:=Tryz.isAgg248
 z46:=Tryz.sizeOf248
 v46:=Tryz.zeroValue248
 t53:=Tryz.underlying168
 a53:=Tryz.isAgg168
 z53:=Tryz.sizeOf168
 v53:=Tryz.zeroValue168 }
open Go.RowKit Go.Lib in
theorem Tryz.bits_Mul64 (x y:Nat) (hx:x<18446744073709551616) (hy:y<18446744073709551616) (w:World) :
  Calls Tryz.prog 243 #[.int .u64 x,.int .u64 y] w fun e w'=>e = .returned (.tuple #[.int .u64 ((x*y / 18446744073709551616:Nat):Int),.int .u64 ((x*y % 18446744073709551616:Nat):Int)])∧w'=w:=Any.bits_Mul64 Tryz.lays264 x y hx hy w
open Go.RowKit Go.Lib in
def Tryz.lays105_ren:Go.Shelf.Ren:=⟨fun | 105=>242 | 212=>261 | 99=>211 | 165=>262 | 166=>220 | 170=>241 | 169=>222 | 263=>274 | 264=>243 | 206=>249 | 240=>253 | 241=>275 | 276=>265 | 277=>288 | n=>n,fun | 9=>9 | 3=>3 | 4=>4 | 20=>20 | 0=>0 | 46=>248 | 109=>289 | 5=>5 | 72=>257 | 76=>260 | 51=>302 | 146=>303 | 53=>168 | 148=>233 | 70=>254 | 37=>255 | 75=>259 | 127=>286 | 164=>293 | 80=>212 | n=>n,fun | n=>n⟩
theorem Tryz.lays105:Go.Proofs.Lays.n105 Tryz.prog Tryz.lays105_ren:={
 mixed:=by kernel_rfl
 f99:=Tryz.func211.trans (congrArg some (by kernel_rfl))
 f105:=Tryz.func242.trans (congrArg some (by kernel_rfl))
 f165:=Tryz.func262.trans (congrArg some (by kernel_rfl))
 f166:=Tryz.func220.trans (congrArg some (by kernel_rfl))
 f169:=Tryz.func222.trans (congrArg some (by kernel_rfl))
 f170:=Tryz.func241.trans (congrArg some (by kernel_rfl))
 f206:=Tryz.func249.trans (congrArg some (by kernel_rfl))
 f212:=Tryz.func261.trans (congrArg some (by kernel_rfl))
 f240:=Tryz.func253.trans (congrArg some (by kernel_rfl))
 f241:=Tryz.func275.trans (congrArg some (by kernel_rfl))
 f263:=Tryz.func274.trans (congrArg some (by kernel_rfl))
 f264:=Tryz.func243.trans (congrArg some (by kernel_rfl))
 f276:=Tryz.func265.trans (congrArg some (by kernel_rfl))
 f277:=Tryz.func288.trans (congrArg some (by kernel_rfl))
 t0:=Tryz.underlying0
 a0:=Tryz.isAgg0
 z0:=Tryz.sizeOf0
 v0:=Tryz.zeroValue0
 t3:=Tryz.underlying3
 a3:=Tryz.isAgg3
 z3:=Tryz.sizeOf3
 v3:=Tryz.zeroValue3
 t4:=Tryz.underlying4
 a4:=Tryz.isAgg4
 z4:=Tryz.sizeOf4
 v4:=Tryz.zeroValue4
 t5:=Tryz.underlying5
 a5:=Tryz.isAgg5
 z5:=Tryz.sizeOf5
 v5:=Tryz.zeroValue5
 t9:=Tryz.underlying9
 a9:=Tryz.isAgg9
 z9:=Tryz.sizeOf9
 v9:=Tryz.zeroValue9
 t20:=Tryz.underlying20
 a20:=Tryz.isAgg20
 z20:=Tryz.sizeOf20
 v20:=Tryz.zeroValue20
 t37:=Tryz.underlying255
 a37:=Tryz.isAgg255
 z37:=Tryz.sizeOf255
 v37:=Tryz.zeroValue255
 t46:=Tryz.underlying248
 a46:=Tryz.isAgg248
 z46:=Tryz.sizeOf248
 v46:=Tryz.zeroValue248
 t51:=Tryz.underlying302
 a51:=Tryz.isAgg302
 z51:=Tryz.sizeOf302
 v51:=Tryz.zeroValue302
 t53:=Tryz.underlying168
 a53:=Tryz.isAgg168
 z53:=Tryz.sizeOf168
 v53:=Tryz.zeroValue168
 t70:=Tryz.underlying254
 a70:=Tryz.isAgg254
 z70:=Tryz.sizeOf254
 v70:=Tryz.zeroValue254
 t72:=Tryz.underlying257
 a72:=Tryz.isAgg257
 z72:=Tryz.sizeOf257
 v72:=Tryz.zeroValue257
 t75:=Tryz.underlying259
 a75:=Tryz.isAgg259
 z75:=Tryz.sizeOf259
 v75:=Tryz.zeroValue259
 t76:=Tryz.underlying260
 a76:=Tryz.isAgg260
 z76:=Tryz.sizeOf260
 v76:=Tryz.zeroValue260
 t109:=Tryz.underlying289
 a109:=Tryz.isAgg289
 z109:=Tryz.sizeOf289
 v109:=Tryz.zeroValue289
 t127:=Tryz.underlying286
 a127:=Tryz.isAgg286
 z127:=Tryz.sizeOf286
 v127:=Tryz.zeroValue286
 t146:=Tryz.underlying303
 a146:=Tryz.isAgg303
 z146:=Tryz.sizeOf303
 v146:=Tryz.zeroValue303
 t148:=Tryz.underlying233
 a148:=Tryz.isAgg233
 z148:=Tryz.sizeOf233
 v148:=Tryz.zeroValue233
 t164:=Tryz.underlying293
 a164:=Tryz.isAgg293
 z164:=Tryz.sizeOf293
 v164:=Tryz.zeroValue293 }
theorem Tryz.Builder_Extra_105:Builder.Extra Tryz.prog Tryz.lays105_ren:={
 sizeBuilder:=by kernel_rfl
 liesBuilder:=by kernel_rfl
 t5:=Tryz.underlying5
 a5:=Tryz.isAgg5
 z5:=Tryz.sizeOf5
 v5:=Tryz.zeroValue5
 infoByte:=by kernel_rfl
 cellsByte:=by kernel_rfl
 sizeByte:=by kernel_rfl
 neB5:=by decide }
open Go.RowKit Go.Lib in
open Go.RowKit Go.Lib in
open Go.RowKit Go.Lib in
open Go.RowKit Go.Lib in
open Go.RowKit Go.Lib in
open Go.RowKit Go.Lib in
open Go.RowKit Go.Lib in
theorem Tryz.strings_Repeat (s:ByteArray) (c:Nat) (w:World) (hc:c≤9223372036854775807) (hlen:s.size*c≤140737488355328) :
  Calls Tryz.prog 242 #[.string s,.int .i64 c] w fun e w'=>e = .returned (.string ⟨(Lib.repeatL s.data.toList c).toArray⟩)∧Below w.heap.size w w':=Any.strings_Repeat Tryz.lays105 Tryz.Builder_Extra_105 s c w hc hlen
def Tryz.lays29_ren:Go.Shelf.Ren:=⟨fun | 29=>256 | n=>n,fun | 22=>168 | 3=>3 | 4=>4 | 25=>248 | 54=>301 | 0=>0 | 5=>5 | n=>n,fun | 1=>2 | n=>n⟩
theorem Tryz.lays29:Go.Proofs.Lays7.n29 Tryz.prog Tryz.lays29_ren:={
 mixed:=by kernel_rfl
 f29:=Tryz.func256.trans (congrArg some (by kernel_rfl))
 t0:=Tryz.underlying0
 a0:=Tryz.isAgg0
 z0:=Tryz.sizeOf0
 v0:=Tryz.zeroValue0
 i0:=by kernel_rfl
 t3:=Tryz.underlying3
 a3:=Tryz.isAgg3
 z3:=Tryz.sizeOf3
 v3:=Tryz.zeroValue3
 i3:=by kernel_rfl
 t4:=Tryz.underlying4
 a4:=Tryz.isAgg4
 z4:=Tryz.sizeOf4
 v4:=Tryz.zeroValue4
 i4:=by kernel_rfl
 t5:=Tryz.underlying5
 a5:=Tryz.isAgg5
 z5:=Tryz.sizeOf5
 v5:=Tryz.zeroValue5
 i5:=by kernel_rfl
 t22:=Tryz.underlying168
 a22:=Tryz.isAgg168
 z22:=Tryz.sizeOf168
 v22:=Tryz.zeroValue168
 i22:=by kernel_rfl
 t25:=Tryz.underlying248
 a25:=Tryz.isAgg248
 z25:=Tryz.sizeOf248
 v25:=Tryz.zeroValue248
 i25:=by kernel_rfl
 t54:=Tryz.underlying301
 a54:=Tryz.isAgg301
 z54:=Tryz.sizeOf301
 g1:=by kernel_rfl }
end Go.Proofs
namespace Go.Proofs.YtmkihdjolnlccaaGreatDoor
open Go.RowKit
def cutL (l:List UInt8):List UInt8 × List UInt8 × Bool:=
 if 0≤Lib.indexByte l 47 then (l.take (Lib.indexByte l 47).toNat,l.drop ((Lib.indexByte l 47).toNat+1),true) else (l,[],false)
theorem zji (l:List UInt8) (c:UInt8):Lib.indexByte l c<l.length∨Lib.indexByte l c = -1:=by
 by_cases h:Lib.indexByte l c<0
 ·have:=Lib.indexByte_ge l c;omega
 ·obtain ⟨o,ho⟩:=Int.eq_ofNat_of_zero_le (Int.not_lt.1 h)
  have:=(Lib.indexByte_some ho).1
  have h2:o<l.length:=by
   rcases Nat.lt_or_ge o l.length with h3 | h3
   ·exact h3
   ·rw [List.getElem?_eq_none h3] at this;cases this
  omega
set_option maxHeartbeats 1000000 in
set_option maxRecDepth 100000 in
theorem zj8 (s:ByteArray) (w:World) :
  Calls Tryz.prog 255 #[.string s,.string { data:=#[47] }] w fun e w'=>e = .returned (.int .i64 (Lib.indexByte s.data.toList 47))∧w=w':=by
 have h:=fun W:World=>Tryz.stringslite_IndexByte s 47 W
 have e47:(47:Int).toNat.toUInt8=47:=by decide
 rw [e47] at h
 clear e47
 by_cases hs:s.data.toList=[47]
 ·have hb:([47]==s.toList)=true:=by
   have:s.toList=s.data.toList:=ByteArray.toList_eq s
   rw [this,hs];rfl
  have hv:Hid (Lib.indexByte s.data.toList 47=0):=by unfold Hid;rw [hs];rfl
  clear hs h
  go_enter Tryz.func255,Tryz.ntmps255
  go_wp2
  go_ret
  exact ⟨by rw [hv.out];rfl,rfl⟩
 ·have hb:([47]==s.toList)=false:=by
   have:s.toList=s.data.toList:=ByteArray.toList_eq s
   rw [this]
   exact beq_eq_false_iff_ne.2 fun e=>hs e.symm
  clear hs
  generalize Lib.indexByte s.data.toList 47=i at h ⊢
  go_enter Tryz.func255,Tryz.ntmps255
  go_wp2_with fail
  refine (h _).mono ?_
  rintro e w1 ⟨rfl,hw⟩
  subst hw
  go_wp2
  go_ret
  exact ⟨rfl,rfl⟩
set_option maxHeartbeats 1000000 in
set_option maxRecDepth 100000 in
theorem zj1 (s:ByteArray) (w:World) (hs:s.size≤4294967296) :
  Calls Tryz.prog 227 #[.string s,.string { data:=#[47] }] w fun e w'=>(∃ a b:ByteArray,e = .returned (.tuple #[.string a,.string b,.bool (cutL s.data.toList).2.2])∧a.data.toList=(cutL s.data.toList).1∧b.data.toList=(cutL s.data.toList).2.1)∧∃ n,w'=w.drewN n:=by
 obtain ⟨i,hi⟩:∃ i,i=Lib.indexByte s.data.toList 47:=⟨_,rfl⟩
 have hc:=fun W:World=>zj8 s W
 rw [←hi] at hc
 have hsz:s.data.toList.length=s.size:=by simp
 have hlt:=zji s.data.toList 47
 rw [←hi,hsz] at hlt
 go_enter Tryz.func227,Tryz.ntmps227
 by_cases h0:i<0
 ·have hcut:Hid (cutL s.data.toList=(s.data.toList,[],false)):=by unfold Hid cutL;rw [←hi,if_neg (by omega)]
  clear hi hlt hsz
  go_wp2_with fail
  refine (hc _).mono ?_
  rintro e w1 ⟨rfl,rfl⟩
  go_wp2
  go_ret3
  exact ⟨⟨s,⟨#[]⟩,by rw [hcut.out];rfl,by rw [hcut.out],by rw [hcut.out]⟩,0,rfl⟩
 ·obtain ⟨k,rfl⟩:=Int.eq_ofNat_of_zero_le (Int.not_lt.1 h0)
  have hk:k<s.size:=by omega
  have hcut:Hid (cutL s.data.toList=(s.data.toList.take k,s.data.toList.drop (k+1),true)):=by unfold Hid cutL;rw [←hi,if_pos (by omega)];simp
  clear hi hlt hsz
  have a1:IntKind.i64.wrap ((k:Int)+1)=(k:Int)+1:=IntWalk.i64_in _ (by omega)
  have a2:((k:Int)+1).toNat=k+1:=by omega
  go_wp2_with fail
  refine (hc _).mono ?_
  rintro e w1 ⟨rfl,rfl⟩
  go_wp2_with fail
  go_quiet (fail)
  go_wp2
  go_ret3
  refine ⟨⟨s.extract 0 k,s.extract (k+1) s.size,by rw [hcut.out];rfl,?_,?_⟩,nq,rfl⟩
  ·rw [hcut.out,Lib.extract_data];simp
  ·rw [hcut.out,Lib.extract_data];exact List.take_of_length_le (by simp)
set_option maxHeartbeats 1000000 in
theorem ziM (s:ByteArray) (w:World) (hs:s.size≤4294967296) :
  Calls Tryz.prog 177 #[.string s,.string { data:=#[47] }] w fun e w'=>(∃ a b:ByteArray,e = .returned (.tuple #[.string a,.string b,.bool (cutL s.data.toList).2.2])∧a.data.toList=(cutL s.data.toList).1∧b.data.toList=(cutL s.data.toList).2.1)∧∃ n,w'=w.drewN n:=by
 have hc:=zj1 s w hs
 generalize cutL s.data.toList=C at hc ⊢
 obtain ⟨c1,c2,c3⟩:=C
 go_enter Tryz.func177,Tryz.ntmps177
 go_wp2_with fail
 refine hc.mono ?_
 rintro e w1 ⟨⟨a,b,rfl,h1,h2⟩,n,rfl⟩
 go_wp2
 go_ret3
 exact ⟨⟨a,b,rfl,h1,h2⟩,n,rfl⟩
def digB (c:Int):Bool:=decide (48≤c) && decide (c≤57)
theorem zfN (c:Int) (w:World) :
  Calls Tryz.prog 229 #[.int .i32 c] w fun e w'=>e = .returned (.bool (digB c))∧w=w':=by
 by_cases h1:48≤c
 ·have d1:decide (48≤c)=true:=by simpa using h1
  obtain ⟨b,hb⟩:∃ b,decide (c≤57)=b:=⟨_,rfl⟩
  have HV:Hid (digB c=b):=by unfold Hid digB;rw [d1,hb,Bool.true_and]
  go_enter Tryz.func229,Tryz.ntmps229
  go_wp2
  go_ret
  exact ⟨by rw [HV.out];rfl,rfl⟩
 ·have d1:decide (48≤c)=false:=by simpa using h1
  have HV:Hid (digB c=false):=by unfold Hid digB;rw [d1,Bool.false_and]
  go_enter Tryz.func229,Tryz.ntmps229
  go_wp2
  go_ret
  exact ⟨by rw [HV.out];rfl,rfl⟩
def zap (l:List UInt8):Bool:=l.all fun c=>digB (c.toNat:Int)
def zaw (l:List UInt8):Bool:=zap l && (decide (l=[48]) || (decide (l≠[]) && decide (l.head? ≠ some 48)))
theorem zs6 (s:ByteArray) (pos:Nat) (h:pos<s.size):1≤(Utf8.decode s pos).2:=by
 by_cases ha:(s[pos]'h).toNat<128
 ·rw [decode_ascii s pos h ha]
  exact Nat.le_refl _
 ·exact (decode_high s pos h (by omega)).2
theorem zdk (s:ByteArray) (pos:Nat) (h:pos<s.size):zap (s.data.toList.drop pos)=(digB ((s[pos]'h).toNat:Int) && zap (s.data.toList.drop (pos+1))):=by
 have hl:pos<s.data.toList.length:=by simpa using h
 rw [List.drop_eq_getElem_cons hl]
 rfl
theorem ziU (c:Int) (h:128≤c):digB c=false:=by
 unfold digB
 have:decide (c≤57)=false:=by simp;omega
 rw [this,Bool.and_false]
set_option maxHeartbeats 1000000 in
set_option maxRecDepth 100000 in
theorem zal (s:ByteArray) (w:World) :
  Calls Tryz.prog 179 #[.string s] w fun e w'=>e = .returned (.bool (zaw s.data.toList))∧Below w.heap.size w w':=by
 go_enter Tryz.func179,Tryz.ntmps179
 go_wp2
 go_loopw [] (fun wr=>∃ pos,wr=w.iter s pos∧pos≤s.size∧Hid (zap s.data.toList=zap (s.data.toList.drop pos))) (fun wr=>s.size - wr.iterPos w.heap.size)
 case atStart=>exact ⟨0,rfl,Nat.zero_le _,rfl⟩
 case round=>
  obtain ⟨pos,rfl,hps,hd⟩:=hrel
  by_cases hp:pos<s.size
  ·have hsp:=zdk s pos hp
   by_cases ha:(s[pos]'hp).toNat<128
   ·have hnx:∀ ty,(Instr.next (.pointer (some ⟨w.heap.size,0,none⟩)) true ty).run Tryz.prog (w.iter s pos)=_:=fun ty=>run_next_ascii w s pos ty hp ha
    obtain ⟨c,hc⟩:∃ c:Nat,(s[pos]'hp).toNat=c:=⟨_,rfl⟩
    rw [hc] at hsp ha
    simp only [hc] at hnx
    have hcall:=zfN (c:Int) (w.iter s (pos+1))
    cases hdg:digB (c:Int)
    ·rw [hdg] at hcall hsp
     have HV:Hid (zaw s.data.toList=false):=by rw [Hid,zaw,hd.out,hsp];rfl
     clear hsp hc hdg
     go_wp2_with fail
     refine hcall.mono ?_
     rintro e w1 ⟨rfl,rfl⟩
     go_wp2_with fail
     go_ret
     exact ⟨by rw [HV.out];rfl,(Below.refl _ _).alloc (Nat.le_refl _) _⟩
    ·rw [hdg] at hcall hsp
     have HV:Hid (zap s.data.toList=zap (s.data.toList.drop (pos+1))):=by rw [Hid,hd.out,hsp];rfl
     clear hsp hc hdg
     go_wp2_with fail
     refine hcall.mono ?_
     rintro e w1 ⟨rfl,rfl⟩
     go_wp2_with fail
     go_roundw
     case rel=>exact ⟨pos+1,rfl,hp,HV⟩
     case measure=>simp;omega
   ·have hnx:∀ ty,(Instr.next (.pointer (some ⟨w.heap.size,0,none⟩)) true ty).run Tryz.prog (w.iter s pos)=_:=fun ty=>run_next_any w s pos ty hp
    have hdh:=(decode_high s pos hp (by omega)).1
    obtain ⟨c,hc⟩:∃ c,(Utf8.decode s pos).1=c:=⟨_,rfl⟩
    obtain ⟨p2,hp2⟩:∃ p2,pos+(Utf8.decode s pos).2=p2:=⟨_,rfl⟩
    simp only [hc,hp2] at hnx
    rw [hc] at hdh
    have hcall:=zfN (c:Int) (w.iter s p2)
    rw [ziU (c:Int) (by omega)] at hcall
    rw [ziU _ (show (128:Int)≤((s[pos]'hp).toNat:Int) by omega)] at hsp
    have HV:Hid (zaw s.data.toList=false):=by rw [Hid,zaw,hd.out,hsp];rfl
    clear hsp hc hp2 ha
    go_wp2_with fail
    refine hcall.mono ?_
    rintro e w1 ⟨rfl,rfl⟩
    go_wp2_with fail
    go_ret
    exact ⟨by rw [HV.out];rfl,(Below.refl _ _).alloc (Nat.le_refl _) _⟩
  ·have hnx:∀ ty,(Instr.next (.pointer (some ⟨w.heap.size,0,none⟩)) true ty).run Tryz.prog (w.iter s pos)=_:=fun ty=>run_next_end w s pos ty hp
   have HD:Hid (zap s.data.toList=true):=by rw [Hid,hd.out,List.drop_of_length_le (by simpa using hp)];rfl
   by_cases hA:s.toList=[48]
   ·have HV:Hid (zaw s.data.toList=true):=by rw [Hid,zaw,HD.out,←ByteArray.toList_eq,hA];rfl
    go_wp2
    go_ret
    exact ⟨by rw [HV.out];rfl,(Below.refl _ _).alloc (Nat.le_refl _) _⟩
   ·by_cases hB:s.toList=[]
    ·have HV:Hid (zaw s.data.toList=false):=by rw [Hid,zaw,HD.out,←ByteArray.toList_eq,hB];rfl
     go_wp2
     go_ret
     exact ⟨by rw [HV.out];rfl,(Below.refl _ _).alloc (Nat.le_refl _) _⟩
    ·have hz:0<s.size:=by
      rcases Nat.eq_zero_or_pos s.size with h | h
      ·exfalso
       apply hB
       rw [ByteArray.toList_eq]
       exact List.eq_nil_of_length_eq_zero (by simpa using h)
      ·exact h
     have hne:s.toList.isEmpty=false:=by
      cases h:s.toList with
      | nil=>exact absurd h hB
      | cons _ _=>rfl
     have hA2:(s.toList==[48])=false:=by simpa using hA
     obtain ⟨b,hb⟩:∃ b,((((s[0]'hz).toNat:Nat):Int) != 48)=b:=⟨_,rfl⟩
     have HV:Hid (zaw s.data.toList=b):=by
      rw [Hid,zaw,HD.out,←hb]
      have e:s.data.toList.head? = some (s[0]'hz):=by
       have hl:0<s.data.toList.length:=by simpa using hz
       rw [List.head?_eq_getElem?,List.getElem?_eq_getElem hl]
       rfl
      rw [←ByteArray.toList_eq] at e ⊢
      rw [e]
      rw [Bool.eq_iff_iff]
      simp [hA,hB]
      rw [←UInt8.toNat_inj]
      simp
      omega
     go_wp2
     go_ret
     exact ⟨by rw [HV.out];rfl,(Below.refl _ _).alloc (Nat.le_refl _) _⟩
end Go.Proofs.YtmkihdjolnlccaaGreatDoor
namespace Go.Proofs.YtmkihdjolnlccaaGreatDoor
open Go.RowKit Bn
def zsW (w wr:World) (base g nt ct:Nat) (lt la lb:List Nat) (same:Prop) (k b0:Nat):Prop:=
 ∃ ls,zas wr base g nt ct ls∧Wf ls∧val (ls.take k)+val (lb.take k)=val (la.take k)+B ^ k*b0∧(same→∀ j,k≤j→ls.getD j 0=lt.getD j 0)∧w.grownBy wr (some g)
set_option maxHeartbeats 2000000 in
set_option maxRecDepth 100000 in
theorem zfa (A A':Option Addr) (base g nt ct n c n' c' x y:Nat) (lt:List Nat) (w:World) (same:Prop) (ht:zas w base g nt ct lt) (hlt:Wf lt) (ha:NatS w w.heap.size A n c x)
  (hb:NatS w w.heap.size A' n' c' y) (hAs:((0<n→Off A g)∧¬ same)∨(A=some ⟨g,0,none⟩∧lt=digs x∧same)) (hob:0<n'→Off A' g) (hnt:n≤nt) (hyx:y≤x) (hn:n≤1099511627776) :
  Calls Tryz.prog 232 #[.slice (some ⟨g,0,none⟩) nt ct,.slice A n c,.slice A' n' c'] w fun e w'=>∃ m,e = .returned (.slice (some ⟨g,0,none⟩) m ct)∧zas w' base g m ct (digs (x - y))∧w.grownBy w' (some g):=by
 have hla:=ha.len
 have hlb:=hb.len
 have hA:=Lib.hid hla
 have hB:=Lib.hid hlb
 have hle:n'≤n:=by rw [←hla,←hlb];exact zac hyx
 clear hla hlb
 have h1:=ha.nc
 have h2:=ha.cm
 have h3:=hb.nc
 have h4:=hb.cm
 have h5:=ht.caps
 unfold maxLen at h2 h4 h5
 obtain ⟨h5,h6⟩:=h5
 have HT:=Lib.hid ht
 have HS:=Lib.hid hAs
 clear ht hAs
 go_enter Tryz.func232,Tryz.ntmps232
 go_wp2
 go_loopw [7,13] (fun cy s wr=>∃ k b0:Nat,k≤n∧b0≤1∧s = .int .i64 k∧cy = .int .u64 b0∧zsW w wr base g nt ct lt (digs x) (digs y) same k b0) (fun _ s _=>n - (intOf s).toNat)
 case atStart=>exact ⟨0,0,by omega,by omega,rfl,rfl,lt,HT.out,hlt,by simp,fun _ _ _=>rfl,World.grownBy.refl w _⟩
 case round=>
  obtain ⟨k,b0,hk,hb0,rfl,rfl,ls,hrow,hwf,hval,hsm,hgr⟩:=hrel
  have HV:=Lib.hid hval
  have HM:=Lib.hid hsm
  clear hval hsm
  by_cases hkn:k<n
  ·have hA2:∃ ad,A=some ad∧wr.cell? (ad.add k)=some (.int .u64 (((digs x).getD k 0:Nat):Int)):=by
    rcases HS.out with ⟨ho,_⟩ | ⟨hAe,hle',hs⟩
    ·obtain ⟨ad,e,_,hc⟩:=(ha.words.kept hgr (Nat.le_refl _) ho).word (k:=k) hkn
     exact ⟨ad,e,hc⟩
    ·refine ⟨_,hAe,?_⟩
     have:=hrow.cell k (by omega)
     rw [HM.out hs k (Nat.le_refl _),hle'] at this
     have e0:(⟨g,0,none⟩:Addr).add k=⟨g,k,none⟩:=by
      unfold Addr.add
      by_cases hj:k=0<;>simp [hj]
     rw [e0];exact this
   obtain ⟨ad,hAe,hca⟩:=hA2
   have HAE:=Lib.hid hAe
   have hls:k<ls.length:=by rw [hrow.len];omega
   have hcs:=hrow.cell k (by omega)
   have hfs:=hrow.free k
   have hxB:=zar (zak x) k
   have hyB:=zar (zak y) k
   obtain ⟨xk,hgx⟩:∃ xk,(digs x).getD k 0=xk:=⟨_,rfl⟩
   obtain ⟨yk,hgy⟩:∃ yk,(digs y).getD k 0=yk:=⟨_,rfl⟩
   rw [hgx] at hca hxB
   rw [hgy] at hyB
   generalize ls.getD k 0=old at hcs
   obtain ⟨s,d,hsd,hsB,hd1,hrun⟩:=zeH xk yk b0 hxB hyB hb0
   have HP:Hid (val ((ls.set k s).take (k+1))+val ((digs y).take (k+1))=val ((digs x).take (k+1))+B ^ (k+1)*d):=
    zdX ls _ _ k hls s b0 d HV.out (by rw [hgx,hgy];exact hsd)
   have HM2:Hid (same→∀ j,k+1≤j→(ls.set k s).getD j 0=lt.getD j 0):=fun hs j hj=>by
    rw [←HM.out hs j (by omega)]
    simp only [List.getD]
    rw [List.getElem?_set_ne (by omega)]
   subst hAe
   by_cases hkn':k<n'
   ·obtain ⟨ad',rfl,hbb,hcb⟩:=(hb.words.kept hgr (Nat.le_refl _) hob).word (k:=k) hkn'
    rw [hgy] at hcb
    clear hsd hgx hgy
    go_wp2
    go_roundw
    case rel=>exact ⟨k+1,d,by omega,hd1,by go_num,rfl,_,hrow.set k s,hwf.set k hsB,HP.out,HM2.out,zaN hgr (.inl rfl) _⟩
    case measure=>simp [intOf]<;>omega
   ·have hy0:yk=0:=by rw [←hgy];exact zbr (by rw [hB.out];omega)
    subst hy0
    replace hrun:∀ w:World,(callFunc 257 #[.int .u64 xk,.int .u64 0,.int .u64 b0]).run Tryz.prog w = .ok (.value (.tuple #[.int .u64 s,.int .u64 d])) w:=hrun
    clear hsd hgx hgy
    go_wp2
    go_roundw
    case rel=>exact ⟨k+1,d,by omega,hd1,by go_num,rfl,_,hrow.set k s,hwf.set k hsB,HP.out,HM2.out,zaN hgr (.inl rfl) _⟩
    case measure=>simp [intOf]<;>omega
  ·obtain rfl:k=n:=by omega
   have hv:val (ls.take k)=x - y:=by
    have h7:=HV.out
    rw [List.take_of_length_le (l:=digs x) (by rw [hA.out];exact Nat.le_refl _),List.take_of_length_le (l:=digs y) (by rw [hB.out];exact hle),zai,zai] at h7
    have h8:=za9 (hwf.take k)
    rw [List.length_take,hrow.len,Nat.min_eq_left hnt] at h8
    have h9:=zaa x
    rw [hA.out] at h9
    exact minus_end _ _ _ _ _ h7 h8 hyx hb0
   have ht:=zbS base g k ct (ls.take k) wr (hrow.take hnt) (hwf.take k)
   rw [hv] at ht
   have HC:=Lib.hid ht
   clear ht hv
   go_wp2_with fail
   refine HC.out.mono ?_
   rintro e w1 ⟨m,rfl,hn1,rfl⟩
   go_wp2
   go_ret
   exact ⟨m,rfl,hn1,hgr⟩
end Go.Proofs.YtmkihdjolnlccaaGreatDoor
