/- Contract of strings.Cut at the separator '/'. -/
import Derived.Shelf.Small.Wraps
import Derived.Shelf.Strconv.Itoa1
import Derived.Shelf.Strconv.Itoa2
import Derived.Shelf.Strings.Shaped
import Derived.Shelf.Strings.Repeat
import Derived.Shelf.Strings.BuilderCap
import Derived.Shelf.SlSortCmp.Insertion
import Derived.Shelf.Spec.TrailingZeros
import Derived.Test.YtmkondcdejlhcaaGreatDoorFWords
set_option maxRecDepth 100000
set_option maxHeartbeats 4000000
namespace Go.Proofs
open Go.Shelf
def Tryz.lays170_ren:Go.Shelf.Ren:=⟨fun | 170=>176 | n=>n,fun | 70=>195 | 3=>3 | 0=>0 | 72=>198 | 37=>196 | 5=>5 | n=>n,fun | n=>n⟩
theorem Tryz.lays170:Go.Proofs.Lays.n170 Tryz.prog Tryz.lays170_ren:={
 mixed:=by kernel_rfl
 f170:=Tryz.func176.trans (congrArg some (by kernel_rfl))
 t0:=Tryz.underlying0
 a0:=Tryz.isAgg0
 z0:=Tryz.sizeOf0
 v0:=Tryz.zeroValue0
 t3:=Tryz.underlying3
 a3:=Tryz.isAgg3
 z3:=Tryz.sizeOf3
 v3:=Tryz.zeroValue3
 t37:=Tryz.underlying196
 a37:=Tryz.isAgg196
 z37:=Tryz.sizeOf196
 v37:=Tryz.zeroValue196
 t70:=Tryz.underlying195
 a70:=Tryz.isAgg195
 z70:=Tryz.sizeOf195
 v70:=Tryz.zeroValue195
 t72:=Tryz.underlying198
 a72:=Tryz.isAgg198
 z72:=Tryz.sizeOf198
 v72:=Tryz.zeroValue198 }
open Go.RowKit in
theorem Tryz.Builder_Len(B b:Nat)(bs:List Value)(w:World)(h:Lib.IsBuilder 198 5 B b bs w) :
  Calls Tryz.prog 176 #[.pointer (some ⟨b,0,none⟩)] w fun e w'=>e = .returned (.int .i64 bs.length)∧w'=w:=Any.Builder_Len Tryz.lays170 B b bs w h
def Tryz.lays169_ren:Go.Shelf.Ren:=⟨fun | 169=>179 | n=>n,fun | 70=>195 | 9=>9 | 0=>0 | 72=>198 | 37=>196 | 127=>226 | 3=>3 | 5=>5 | n=>n,fun | n=>n⟩
theorem Tryz.lays169:Go.Proofs.Lays.n169 Tryz.prog Tryz.lays169_ren:={
 mixed:=by kernel_rfl
 f169:=Tryz.func179.trans (congrArg some (by kernel_rfl))
 t0:=Tryz.underlying0
 a0:=Tryz.isAgg0
 z0:=Tryz.sizeOf0
 v0:=Tryz.zeroValue0
 t3:=Tryz.underlying3
 a3:=Tryz.isAgg3
 z3:=Tryz.sizeOf3
 v3:=Tryz.zeroValue3
 t9:=Tryz.underlying9
 a9:=Tryz.isAgg9
 z9:=Tryz.sizeOf9
 v9:=Tryz.zeroValue9
 t37:=Tryz.underlying196
 a37:=Tryz.isAgg196
 z37:=Tryz.sizeOf196
 v37:=Tryz.zeroValue196
 t70:=Tryz.underlying195
 a70:=Tryz.isAgg195
 z70:=Tryz.sizeOf195
 v70:=Tryz.zeroValue195
 t72:=Tryz.underlying198
 a72:=Tryz.isAgg198
 z72:=Tryz.sizeOf198
 v72:=Tryz.zeroValue198
 t127:=Tryz.underlying226
 a127:=Tryz.isAgg226
 z127:=Tryz.sizeOf226
 v127:=Tryz.zeroValue226 }
theorem Tryz.Builder_Extra_169:Builder.Extra Tryz.prog Tryz.lays169_ren:={
 sizeBuilder:=by kernel_rfl
 liesBuilder:=by kernel_rfl
 t5:=Tryz.underlying5
 a5:=Tryz.isAgg5
 z5:=Tryz.sizeOf5
 v5:=Tryz.zeroValue5
 infoByte:=by kernel_rfl
 cellsByte:=by kernel_rfl
 sizeByte:=by kernel_rfl
 neB5:=by decide }
open Go.RowKit in
open Go.RowKit in
open Go.RowKit in
theorem Tryz.Builder_String_any(B b:Nat)(l:List UInt8)(w:World)(h:Lib.IsBuilder 198 5 B b (Lib.byteCells l) w)(hBw:B≤w.heap.size) :
  Calls Tryz.prog 179 #[.pointer (some ⟨b,0,none⟩)] w fun e w'=>e = .returned (.string ⟨l.toArray⟩)∧Below B w w':=Any.Builder_String_any Tryz.lays169 Tryz.Builder_Extra_169 B b l w h hBw
open Go.RowKit in
open Go.RowKit in
def Tryz.lays134_ren:Go.Shelf.Ren:=⟨fun | 134=>181 | 129=>204 | n=>n,fun | 53=>136 | 3=>3 | 4=>4 | 46=>215 | 5=>5 | 9=>9 | n=>n,fun | n=>n⟩
theorem Tryz.lays134:Go.Proofs.Lays.n134 Tryz.prog Tryz.lays134_ren:={
 mixed:=by kernel_rfl
 f129:=Tryz.func204.trans (congrArg some (by kernel_rfl))
 f134:=Tryz.func181.trans (congrArg some (by kernel_rfl))
 t3:=Tryz.underlying3
 a3:=Tryz.isAgg3
 z3:=Tryz.sizeOf3
 v3:=Tryz.zeroValue3
 t4:=Tryz.underlying4
 a4:=Tryz.isAgg4
 z4:=Tryz.sizeOf4
 v4:=Tryz.zeroValue4
 t5:=Tryz.underlying5
 a5:=Tryz.isAgg5
 z5:=Tryz.sizeOf5
 v5:=Tryz.zeroValue5
 t9:=Tryz.underlying9
 a9:=Tryz.isAgg9
 z9:=Tryz.sizeOf9
 v9:=Tryz.zeroValue9
 t46:=Tryz.underlying215
 a46:=Tryz.isAgg215
 z46:=Tryz.sizeOf215
 v46:=Tryz.zeroValue215
 t53:=Tryz.underlying136
 a53:=Tryz.isAgg136
 z53:=Tryz.sizeOf136
 v53:=Tryz.zeroValue136 }
theorem Tryz.bits_LeadingZeros64(x:Int)(w:World)(h0:0≤x)(h1:x≤18446744073709551615) :
  Calls Tryz.prog 181 #[.int .u64 x] w fun e w'=>e = .returned (.int .i64 (64-(Lib.bitLen x.toNat:Int)))∧w'=w:=Any.bits_LeadingZeros64 Tryz.lays134 x w h0 h1
open Go.RowKit in
def Tryz.lays103_ren:Go.Shelf.Ren:=⟨fun | 103=>118 | 210=>167 | 206=>195 | n=>n,fun | 9=>9 | 4=>4 | 24=>153 | 3=>3 | n=>n,fun | n=>n⟩
theorem Tryz.lays103:Go.Proofs.Lays.n103 Tryz.prog Tryz.lays103_ren:={
 mixed:=by kernel_rfl
 f103:=Tryz.func118.trans (congrArg some (by kernel_rfl))
 f206:=Tryz.func195.trans (congrArg some (by kernel_rfl))
 f210:=Tryz.func167.trans (congrArg some (by kernel_rfl))
 t3:=Tryz.underlying3
 a3:=Tryz.isAgg3
 z3:=Tryz.sizeOf3
 v3:=Tryz.zeroValue3
 t4:=Tryz.underlying4
 a4:=Tryz.isAgg4
 z4:=Tryz.sizeOf4
 v4:=Tryz.zeroValue4
 t9:=Tryz.underlying9
 a9:=Tryz.isAgg9
 z9:=Tryz.sizeOf9
 v9:=Tryz.zeroValue9
 t24:=Tryz.underlying153
 a24:=Tryz.isAgg153
 z24:=Tryz.sizeOf153
 v24:=Tryz.zeroValue153 }
open Go.RowKit in
theorem Tryz.strings_CutPrefix(s p:ByteArray)(w:World) :
  Calls Tryz.prog 118 #[.string s,.string p] w fun e w'=>e = .returned (.tuple #[.string ⟨(Lib.trimPrefix s.data.toList p.data.toList).toArray⟩,.bool (Lib.hasPrefix s.data.toList p.data.toList)])∧w'=w:=Any.strings_CutPrefix Tryz.lays103 s p w
open Go.RowKit in
open Go.RowKit in
open Go.RowKit in
open Go.RowKit in
open Go.RowKit in
open Go.RowKit in
open Go.RowKit in
open Go.RowKit in
open Go.RowKit in
open Go.Lib in
open Go.Lib in
def Tryz.lays283_ren:Go.Shelf.Ren:=⟨fun | 283=>212 | n=>n,fun | 3=>3 | 9=>9 | 4=>4 | n=>n,fun | n=>n⟩
theorem Tryz.lays283:Go.Proofs.Lays.n283 Tryz.prog Tryz.lays283_ren:={
 mixed:=by kernel_rfl
 f283:=Tryz.func212.trans (congrArg some (by kernel_rfl))
 t3:=Tryz.underlying3
 a3:=Tryz.isAgg3
 z3:=Tryz.sizeOf3
 v3:=Tryz.zeroValue3
 t4:=Tryz.underlying4
 a4:=Tryz.isAgg4
 z4:=Tryz.sizeOf4
 v4:=Tryz.zeroValue4
 t9:=Tryz.underlying9
 a9:=Tryz.isAgg9
 z9:=Tryz.sizeOf9
 v9:=Tryz.zeroValue9 }
open Go.Lib in
theorem Tryz.internal_strconv_small(i:Nat)(h:i<100)(w:World) :
  Calls Tryz.prog 212 #[.int .i64 i] w fun e w'=>e = .returned (.string ⟨(Lib.decDigits i).toArray⟩)∧w'=w:=Any.internal_strconv_small Tryz.lays283 i h w
def Tryz.laysM284_ren:Go.Shelf.Ren:=⟨fun | 284=>213 | 129=>204 | 317=>223 | 318=>224 | n=>n,fun | 53=>136 | 3=>3 | 212=>244 | 0=>0 | 4=>4 | 46=>215 | 5=>5 | 9=>9 | n=>n,fun | 17=>6 | n=>n⟩
theorem Tryz.laysM284:Go.Proofs.LaysM.n284 Tryz.prog Tryz.laysM284_ren:={
 mixed:=by kernel_rfl
 f129:=Tryz.func204.trans (congrArg some (by kernel_rfl))
 f284:=Tryz.func213.trans (congrArg some (by kernel_rfl))
 f317:=Tryz.func223.trans (congrArg some (by kernel_rfl))
 f318:=Tryz.func224.trans (congrArg some (by kernel_rfl))
 t0:=Tryz.underlying0
 a0:=Tryz.isAgg0
 z0:=Tryz.sizeOf0
 v0:=Tryz.zeroValue0
 t3:=Tryz.underlying3
 a3:=Tryz.isAgg3
 z3:=Tryz.sizeOf3
 v3:=Tryz.zeroValue3
 t4:=Tryz.underlying4
 a4:=Tryz.isAgg4
 z4:=Tryz.sizeOf4
 v4:=Tryz.zeroValue4
 t5:=Tryz.underlying5
 a5:=Tryz.isAgg5
 z5:=Tryz.sizeOf5
 v5:=Tryz.zeroValue5
 t9:=Tryz.underlying9
 a9:=Tryz.isAgg9
 z9:=Tryz.sizeOf9
 v9:=Tryz.zeroValue9
 t46:=Tryz.underlying215
 a46:=Tryz.isAgg215
 z46:=Tryz.sizeOf215
 v46:=Tryz.zeroValue215
 t53:=Tryz.underlying136
 a53:=Tryz.isAgg136
 z53:=Tryz.sizeOf136
 v53:=Tryz.zeroValue136
 t212:=Tryz.underlying244
 a212:=Tryz.isAgg244
 z212:=Tryz.sizeOf244
 v212:=Tryz.zeroValue244
 g17:=by kernel_rfl
 i0:=by kernel_rfl
 i3:=by kernel_rfl
 i4:=by kernel_rfl
 i5:=by kernel_rfl
 i9:=by kernel_rfl
 i46:=by kernel_rfl
 i53:=by kernel_rfl
 i212:=by kernel_rfl
 m17:=by kernel_rfl }
open Go.Lib in
theorem Tryz.internal_strconv_numDigits(u:Nat)(h1:1≤u)(h2:u<18446744073709551616)(w:World)(htab:Lib.TabIs Tryz.prog w "internal/strconv.uint64pow10" .u64 Lib.pow10Tab) :
  Calls Tryz.prog 213 #[.int .u64 u] w fun e w'=>e = .returned (.int .i64 (Lib.nDigits u))∧w'=w:=Any.internal_strconv_numDigits Tryz.laysM284 u h1 h2 w htab
def Tryz.lays285_ren:Go.Shelf.Ren:=⟨fun | 285=>214 | n=>n,fun | 37=>196 | 53=>136 | 3=>3 | 4=>4 | 51=>239 | 9=>9 | 5=>5 | 0=>0 | n=>n,fun | n=>n⟩
theorem Tryz.lays285:Go.Proofs.Lays.n285 Tryz.prog Tryz.lays285_ren:={
 mixed:=by kernel_rfl
 f285:=Tryz.func214.trans (congrArg some (by kernel_rfl))
 t0:=Tryz.underlying0
 a0:=Tryz.isAgg0
 z0:=Tryz.sizeOf0
 v0:=Tryz.zeroValue0
 t3:=Tryz.underlying3
 a3:=Tryz.isAgg3
 z3:=Tryz.sizeOf3
 v3:=Tryz.zeroValue3
 t4:=Tryz.underlying4
 a4:=Tryz.isAgg4
 z4:=Tryz.sizeOf4
 v4:=Tryz.zeroValue4
 t5:=Tryz.underlying5
 a5:=Tryz.isAgg5
 z5:=Tryz.sizeOf5
 v5:=Tryz.zeroValue5
 t9:=Tryz.underlying9
 a9:=Tryz.isAgg9
 z9:=Tryz.sizeOf9
 v9:=Tryz.zeroValue9
 t37:=Tryz.underlying196
 a37:=Tryz.isAgg196
 z37:=Tryz.sizeOf196
 v37:=Tryz.zeroValue196
 t51:=Tryz.underlying239
 a51:=Tryz.isAgg239
 z51:=Tryz.sizeOf239
 v51:=Tryz.zeroValue239
 t53:=Tryz.underlying136
 a53:=Tryz.isAgg136
 z53:=Tryz.sizeOf136
 v53:=Tryz.zeroValue136 }
open Go.RowKit Go.Sort Go.Lib in
theorem Tryz.internal_strconv_formatBase10(blk off cap:Nat)(u:Nat)(d:Array UInt8)(w:World)(hH:Holds (fun (b:UInt8)=>Value.int .u8 (b.toNat:Int)) w blk off d)(hu:u<10^d.size)(hu64:u<18446744073709551616)(hsz:d.size<4611686018427387904) :
  Calls Tryz.prog 214 #[.slice (some ⟨blk,off,none⟩) d.size cap,.int .u64 u] w fun e w'=>
   e = .returned (.tuple #[])∧∃ (n v':Nat) (dk:Array UInt8),w'=(putRow (fun (b:UInt8)=>Value.int .u8 (b.toNat:Int)) w blk off dk).drewN n∧FmtInv d.size u 0 v' dk:=Any.internal_strconv_formatBase10 Tryz.lays285 blk off cap u d w hH hu hu64 hsz
def Tryz.lays217_ren:Go.Shelf.Ren:=⟨fun | 217=>208 | 266=>221 | n=>n,fun | 9=>9 | 5=>5 | 3=>3 | n=>n,fun | n=>n⟩
theorem Tryz.lays217:Go.Proofs.Lays.n217 Tryz.prog Tryz.lays217_ren:={
 mixed:=by kernel_rfl
 f217:=Tryz.func208.trans (congrArg some (by kernel_rfl))
 f266:=Tryz.func221.trans (congrArg some (by kernel_rfl))
 t3:=Tryz.underlying3
 a3:=Tryz.isAgg3
 z3:=Tryz.sizeOf3
 v3:=Tryz.zeroValue3
 t5:=Tryz.underlying5
 a5:=Tryz.isAgg5
 z5:=Tryz.sizeOf5
 v5:=Tryz.zeroValue5
 t9:=Tryz.underlying9
 a9:=Tryz.isAgg9
 z9:=Tryz.sizeOf9
 v9:=Tryz.zeroValue9 }
open Go.RowKit Go.Lib in
theorem Tryz.stringslite_IndexByte(s:ByteArray)(c:Int)(w:World) :
  Calls Tryz.prog 208 #[.string s,.int .u8 c] w fun e w'=>e = .returned (.int .i64 (Lib.indexByte s.data.toList c.toNat.toUInt8))∧w'=w:=Any.stringslite_IndexByte Tryz.lays217 s c w
open Go.RowKit Go.Lib in
open Go.RowKit Go.Lib in
open Go.RowKit Go.Lib in
def Tryz.lays219_ren:Go.Shelf.Ren:=⟨fun | 219=>194 | 217=>208 | 225=>209 | 224=>210 | 267=>211 | 266=>221 | 314=>222 | n=>n,fun | 9=>9 | 3=>3 | 4=>4 | 5=>5 | 46=>215 | 146=>240 | 51=>239 | n=>n,fun | 1=>2 | n=>n⟩
open Go.RowKit Go.Lib in
open Go.RowKit Go.Lib in
open Go.RowKit Go.Lib in
open Go.RowKit Go.Lib in
open Go.RowKit Go.Lib in
open Go.RowKit Go.Lib in
open Go.RowKit Go.Lib in
open Go.RowKit Go.Lib in
open Go.RowKit Go.Lib in
def Tryz.lays264_ren:Go.Shelf.Ren:=⟨fun | 264=>193 | n=>n,fun | 53=>136 | 46=>215 | n=>n,fun | n=>n⟩
theorem Tryz.lays264:Go.Proofs.Lays.n264 Tryz.prog Tryz.lays264_ren:={
 mixed:=by kernel_rfl
 f264:=Tryz.func193.trans (congrArg some (by kernel_rfl))
 t46:=Tryz.underlying215
 a46:=Tryz.isAgg215
 z46:=Tryz.sizeOf215
 v46:=Tryz.zeroValue215
 t53:=Tryz.underlying136
 a53:=Tryz.isAgg136
 z53:=Tryz.sizeOf136
 v53:=Tryz.zeroValue136 }
open Go.RowKit Go.Lib in
theorem Tryz.bits_Mul64(x y:Nat)(hx:x<18446744073709551616)(hy:y<18446744073709551616)(w:World) :
  Calls Tryz.prog 193 #[.int .u64 x,.int .u64 y] w fun e w'=>e = .returned (.tuple #[.int .u64 ((x*y/18446744073709551616:Nat):Int),.int .u64 ((x*y%18446744073709551616:Nat):Int)])∧w'=w:=Any.bits_Mul64 Tryz.lays264 x y hx hy w
open Go.RowKit Go.Lib in
def Tryz.lays105_ren:Go.Shelf.Ren:=⟨fun | 105=>178 | 212=>201 | 99=>202 | 165=>203 | 166=>177 | 170=>176 | 169=>179 | 263=>217 | 264=>193 | 206=>195 | 240=>200 | 241=>218 | 276=>216 | 277=>227 | n=>n,fun | 9=>9 | 3=>3 | 4=>4 | 20=>20 | 0=>0 | 46=>215 | 109=>223 | 5=>5 | 72=>198 | 76=>202 | 51=>239 | 146=>240 | 53=>136 | 148=>183 | 70=>195 | 37=>196 | 75=>201 | 127=>226 | 164=>237 | 80=>158 | n=>n,fun | n=>n⟩
theorem Tryz.lays105:Go.Proofs.Lays.n105 Tryz.prog Tryz.lays105_ren:={
 mixed:=by kernel_rfl
 f99:=Tryz.func202.trans (congrArg some (by kernel_rfl))
 f105:=Tryz.func178.trans (congrArg some (by kernel_rfl))
 f165:=Tryz.func203.trans (congrArg some (by kernel_rfl))
 f166:=Tryz.func177.trans (congrArg some (by kernel_rfl))
 f169:=Tryz.func179.trans (congrArg some (by kernel_rfl))
 f170:=Tryz.func176.trans (congrArg some (by kernel_rfl))
 f206:=Tryz.func195.trans (congrArg some (by kernel_rfl))
 f212:=Tryz.func201.trans (congrArg some (by kernel_rfl))
 f240:=Tryz.func200.trans (congrArg some (by kernel_rfl))
 f241:=Tryz.func218.trans (congrArg some (by kernel_rfl))
 f263:=Tryz.func217.trans (congrArg some (by kernel_rfl))
 f264:=Tryz.func193.trans (congrArg some (by kernel_rfl))
 f276:=Tryz.func216.trans (congrArg some (by kernel_rfl))
 f277:=Tryz.func227.trans (congrArg some (by kernel_rfl))
 t0:=Tryz.underlying0
 a0:=Tryz.isAgg0
 z0:=Tryz.sizeOf0
 v0:=Tryz.zeroValue0
 t3:=Tryz.underlying3
 a3:=Tryz.isAgg3
 z3:=Tryz.sizeOf3
 v3:=Tryz.zeroValue3
 t4:=Tryz.underlying4
 a4:=Tryz.isAgg4
 z4:=Tryz.sizeOf4
 v4:=Tryz.zeroValue4
 t5:=Tryz.underlying5
 a5:=Tryz.isAgg5
 z5:=Tryz.sizeOf5
 v5:=Tryz.zeroValue5
 t9:=Tryz.underlying9
 a9:=Tryz.isAgg9
 z9:=Tryz.sizeOf9
 v9:=Tryz.zeroValue9
 t20:=Tryz.underlying20
 a20:=Tryz.isAgg20
 z20:=Tryz.sizeOf20
 v20:=Tryz.zeroValue20
 t37:=Tryz.underlying196
 a37:=Tryz.isAgg196
 z37:=Tryz.sizeOf196
 v37:=Tryz.zeroValue196
 t46:=Tryz.underlying215
 a46:=Tryz.isAgg215
 z46:=Tryz.sizeOf215
 v46:=Tryz.zeroValue215
 t51:=Tryz.underlying239
 a51:=Tryz.isAgg239
 z51:=Tryz.sizeOf239
 v51:=Tryz.zeroValue239
 t53:=Tryz.underlying136
 a53:=Tryz.isAgg136
 z53:=Tryz.sizeOf136
 v53:=Tryz.zeroValue136
 t70:=Tryz.underlying195
 a70:=Tryz.isAgg195
 z70:=Tryz.sizeOf195
 v70:=Tryz.zeroValue195
 t72:=Tryz.underlying198
 a72:=Tryz.isAgg198
 z72:=Tryz.sizeOf198
 v72:=Tryz.zeroValue198
 t75:=Tryz.underlying201
 a75:=Tryz.isAgg201
 z75:=Tryz.sizeOf201
 v75:=Tryz.zeroValue201
 t76:=Tryz.underlying202
 a76:=Tryz.isAgg202
 z76:=Tryz.sizeOf202
 v76:=Tryz.zeroValue202
 t109:=Tryz.underlying223
 a109:=Tryz.isAgg223
 z109:=Tryz.sizeOf223
 v109:=Tryz.zeroValue223
 t127:=Tryz.underlying226
 a127:=Tryz.isAgg226
 z127:=Tryz.sizeOf226
 v127:=Tryz.zeroValue226
 t146:=Tryz.underlying240
 a146:=Tryz.isAgg240
 z146:=Tryz.sizeOf240
 v146:=Tryz.zeroValue240
 t148:=Tryz.underlying183
 a148:=Tryz.isAgg183
 z148:=Tryz.sizeOf183
 v148:=Tryz.zeroValue183
 t164:=Tryz.underlying237
 a164:=Tryz.isAgg237
 z164:=Tryz.sizeOf237
 v164:=Tryz.zeroValue237 }
theorem Tryz.Builder_Extra_105:Builder.Extra Tryz.prog Tryz.lays105_ren:={
 sizeBuilder:=by kernel_rfl
 liesBuilder:=by kernel_rfl
 t5:=Tryz.underlying5
 a5:=Tryz.isAgg5
 z5:=Tryz.sizeOf5
 v5:=Tryz.zeroValue5
 infoByte:=by kernel_rfl
 cellsByte:=by kernel_rfl
 sizeByte:=by kernel_rfl
 neB5:=by decide }
open Go.RowKit Go.Lib in
open Go.RowKit Go.Lib in
open Go.RowKit Go.Lib in
open Go.RowKit Go.Lib in
open Go.RowKit Go.Lib in
open Go.RowKit Go.Lib in
open Go.RowKit Go.Lib in
theorem Tryz.strings_Repeat(s:ByteArray)(c:Nat)(w:World)(hc:c≤9223372036854775807)(hlen:s.size*c≤140737488355328) :
  Calls Tryz.prog 178 #[.string s,.int .i64 c] w fun e w'=>e = .returned (.string ⟨(Lib.repeatL s.data.toList c).toArray⟩)∧Below w.heap.size w w':=Any.strings_Repeat Tryz.lays105 Tryz.Builder_Extra_105 s c w hc hlen
open Go.RowKit Go.Lib Go.Sort in
def Tryz.lays29_ren:Go.Shelf.Ren:=⟨fun | 29=>196 | n=>n,fun | 22=>136 | 3=>3 | 4=>4 | 25=>215 | 54=>231 | 0=>0 | 5=>5 | n=>n,fun | 1=>3 | n=>n⟩
theorem Tryz.lays29:Go.Proofs.Lays7.n29 Tryz.prog Tryz.lays29_ren:={
 mixed:=by kernel_rfl
 f29:=Tryz.func196.trans (congrArg some (by kernel_rfl))
 t0:=Tryz.underlying0
 a0:=Tryz.isAgg0
 z0:=Tryz.sizeOf0
 v0:=Tryz.zeroValue0
 i0:=by kernel_rfl
 t3:=Tryz.underlying3
 a3:=Tryz.isAgg3
 z3:=Tryz.sizeOf3
 v3:=Tryz.zeroValue3
 i3:=by kernel_rfl
 t4:=Tryz.underlying4
 a4:=Tryz.isAgg4
 z4:=Tryz.sizeOf4
 v4:=Tryz.zeroValue4
 i4:=by kernel_rfl
 t5:=Tryz.underlying5
 a5:=Tryz.isAgg5
 z5:=Tryz.sizeOf5
 v5:=Tryz.zeroValue5
 i5:=by kernel_rfl
 t22:=Tryz.underlying136
 a22:=Tryz.isAgg136
 z22:=Tryz.sizeOf136
 v22:=Tryz.zeroValue136
 i22:=by kernel_rfl
 t25:=Tryz.underlying215
 a25:=Tryz.isAgg215
 z25:=Tryz.sizeOf215
 v25:=Tryz.zeroValue215
 i25:=by kernel_rfl
 t54:=Tryz.underlying231
 a54:=Tryz.isAgg231
 z54:=Tryz.sizeOf231
 g1:=by kernel_rfl }
end Go.Proofs
namespace Go.Proofs.YtmkondcdejlhcaaGreatDoor
section
open Go.RowKit
def cutL (l:List UInt8):List UInt8 × List UInt8 × Bool:=
 if 0≤Lib.indexByte l 47 then(l.take (Lib.indexByte l 47).toNat,l.drop ((Lib.indexByte l 47).toNat+1),true) else(l,[],false)
theorem zif(l:List UInt8)(c:UInt8):Lib.indexByte l c<l.length∨Lib.indexByte l c = -1:=by
 by_cases h:Lib.indexByte l c<0
 ·have:=Lib.indexByte_ge l c;omega
 ·obtain⟨o,ho⟩:=Int.eq_ofNat_of_zero_le (Int.not_lt.1 h)
  have:=(Lib.indexByte_some ho).1;have h2:o<l.length:=by
   rcases Nat.lt_or_ge o l.length with h3 | h3
   ·exact h3
   ·rw[List.getElem?_eq_none h3] at this;cases this
  omega
theorem zip(s:ByteArray)(w:World) :
  Calls Tryz.prog 194 #[.string s,.string ⟨#[47]⟩] w fun e w'=>e = .returned (.int .i64 (Lib.indexByte s.data.toList 47))∧w=w':=by
 have h:=fun W:World=>Tryz.stringslite_IndexByte s 47 W
 have aA:(47:Int).toNat.toUInt8=47:=by decide
 rw[aA] at h;clear aA
 by_cases hs:s.data.toList=[47]
 ·have hb:([47]==s.toList)=true:=by
   have:s.toList=s.data.toList:=ByteArray.toList_eq s;rw[this,hs];rfl
  have hv:Hid (Lib.indexByte s.data.toList 47=0):=by unfold Hid;rw[hs];rfl
  clear hs h;go_enter Tryz.func194,Tryz.ntmps194
  go_wp2
  go_ret;exact⟨by rw[hv.out];rfl,rfl⟩
 ·have hb:([47]==s.toList)=false:=by
   have:s.toList=s.data.toList:=ByteArray.toList_eq s;rw[this];exact beq_eq_false_iff_ne.2 fun e=>hs e.symm
  clear hs;generalize Lib.indexByte s.data.toList 47=i at h ⊢;go_enter Tryz.func194,Tryz.ntmps194
  go_wp2_with fail
  refine(h _).mono ?_;rintro e w1 ⟨rfl,hw⟩;subst hw;go_wp2
  go_ret;exact⟨rfl,rfl⟩
theorem zjb(s:ByteArray)(w:World)(hs:s.size≤4294967296) :
  Calls Tryz.prog 166 #[.string s,.string ⟨#[47]⟩] w fun e w'=>(∃ a b:ByteArray,e = .returned (.tuple #[.string a,.string b,.bool (cutL s.data.toList).2.2])∧a.data.toList=(cutL s.data.toList).1∧b.data.toList=(cutL s.data.toList).2.1)∧∃ n,w'=w.drewN n:=by
 obtain⟨i,hi⟩:∃ i,i=Lib.indexByte s.data.toList 47:=⟨_,rfl⟩;have hc:=fun W:World=>zip s W
 rw[←hi] at hc;have aC:s.data.toList.length=s.size:=by simp
 have aA:=zif s.data.toList 47;rw[←hi,aC] at aA;go_enter Tryz.func166,Tryz.ntmps166
 by_cases h0:i<0
 ·have hcut:Hid (cutL s.data.toList=(s.data.toList,[],false)):=by unfold Hid cutL;rw[←hi,if_neg (by omega)]
  clear hi aA aC
  go_wp2_with fail
  refine(hc _).mono ?_;rintro e w1 ⟨rfl,rfl⟩;go_wp2
  go_ret3
  exact⟨⟨s,⟨#[]⟩,by rw[hcut.out];rfl,by rw[hcut.out],by rw[hcut.out]⟩,0,rfl⟩
 ·obtain⟨k,rfl⟩:=Int.eq_ofNat_of_zero_le (Int.not_lt.1 h0)
  have hk:k<s.size:=by omega
  have hcut:Hid (cutL s.data.toList=(s.data.toList.take k,s.data.toList.drop (k+1),true)):=by unfold Hid cutL;rw[←hi,if_pos (by omega)];simp
  clear hi aA aC;have a1:IntKind.i64.wrap ((k:Int)+1)=(k:Int)+1:=IntWalk.i64_in _ (by omega);have a2:((k:Int)+1).toNat=k+1:=by omega
  go_wp2_with fail
  refine(hc _).mono ?_;rintro e w1 ⟨rfl,rfl⟩
  go_wp2_with fail
  go_quiet (fail)
  go_wp2
  go_ret3
  refine⟨⟨s.extract 0 k,s.extract (k+1) s.size,by rw[hcut.out];rfl,?_,?_⟩,nq,rfl⟩
  ·rw[hcut.out,Lib.extract_data];simp
  ·rw[hcut.out,Lib.extract_data];exact List.take_of_length_le (by simp)
theorem zmf(s:ByteArray)(w:World)(hs:s.size≤4294967296) :
  Calls Tryz.prog 117 #[.string s,.string ⟨#[47]⟩] w fun e w'=>(∃ a b:ByteArray,e = .returned (.tuple #[.string a,.string b,.bool (cutL s.data.toList).2.2])∧a.data.toList=(cutL s.data.toList).1∧b.data.toList=(cutL s.data.toList).2.1)∧∃ n,w'=w.drewN n:=by
 have hc:=zjb s w hs;generalize cutL s.data.toList=C at hc ⊢;obtain⟨c1,c2,c3⟩:=C;go_enter Tryz.func117,Tryz.ntmps117
 go_wp2_with fail
 refine hc.mono ?_;rintro e w1 ⟨⟨a,b,rfl,h1,h2⟩,n,rfl⟩;go_wp2
 go_ret3
 exact⟨⟨a,b,rfl,h1,h2⟩,n,rfl⟩
end
section
open Go.RowKit Bn
def zoZ (w wr:World) (g n:Nat) (la lb:List Nat) (k c0:Nat):Prop:=
 ∃ ls,zav wr w.heap.size g (n+1) (n+1) ls∧Wf ls∧val (ls.take k)+B^k*c0=val (la.take k)+val (lb.take k)∧Below w.heap.size w wr
theorem zhN(x y p q r:Nat)(h1:x<p)(h2:y<q)(h3:q≤p)(h4:p*2≤r):x+y<r:=by omega
theorem zcq(A A':Option Addr)(n c n' c' x y:Nat)(w:World)(ha:NatS w w.heap.size A n c x)(hb:NatS w w.heap.size A' n' c' y)(hn:n≤1099511627776)(hn':n'≤1099511627776) :
  Calls Tryz.prog 123 #[.slice A n c,.slice A' n' c'] w (zch w (x+y)):=by
 obtain⟨i0,bB,bH,bF,bE⟩:=info_parts zcm;go_enter Tryz.func123,Tryz.ntmps123
 go_upto_if 14 with(fail)
 go_cut [0,1] (fun s s' wc=>∃ A n c A' n' c' u v,s = .slice A n c∧s' = .slice A' n' c'∧NatS w w.heap.size A n c u∧NatS w w.heap.size A' n' c' v∧n'≤n∧n≤1099511627776∧u+v=x+y∧wc=w)
 case first=>
  by_cases hlt:n<n'
  ·have hd:decide (n<n')=true:=by simpa using hlt
   go_wp2_with fail
   go_meet
   exact⟨A',n',c',A,n,c,y,x,rfl,rfl,hb,ha,by omega,hn',by omega,rfl⟩
  ·have hd:decide (n<n')=false:=by simpa using hlt
   go_wp2_with fail
   go_meet
   exact⟨A,n,c,A',n',c',x,y,rfl,rfl,ha,hb,by omega,hn,by omega,rfl⟩
 case rest=>
  clear ha hb hn hn';obtain⟨A,n,c,A',n',c',u,v,rfl,rfl,ha,hb,bD,hn,aV,rfl⟩:=hcut;have aU:=ha.len;have aX:=hb.len;have hA:=Aa aU;have hB:=Aa aX;have bK:=Aa aV;clear aU aX aV;have h1:=ha.nc;have h2:=ha.cm;have h3:=hb.nc;have h4:=hb.cm;unfold maxLen at h2 h4
  go_wp2_with (at_make;refine wpList_make_full _ rfl _ _ 89 rfl wc.heap.size 136 i0 (.int .u64 0) 1 Tryz.underlying89 bB bH bF _ _ _ _ (n+1) rfl rfl (by omega) (by omega) ?b2 ?b3 (Nat.le_refl _) ?_)
  case b2=>rw[bE];omega
  case b3=>unfold maxLen;omega
  intro w0 aE aD;have aJ:=zav.made aE;have aL:Below wc.heap.size wc w0:=(Below.refl _ _).grown aD (Nat.le_refl _) (fun k h=>by cases h);clear aE;go_wp2
  clear aD
  go_loopw [6,23] (fun cy s wr=>∃ k c0:Nat,k≤n∧c0≤1∧s = .int .i64 k∧cy = .int .u64 c0∧zoZ wc wr wc.heap.size n (digs u) (digs v) k c0) (fun _ s _=>n-(intOf s).toNat)
  case atStart=>exact⟨0,0,by omega,by omega,rfl,rfl,_,aJ,Wf.replicate _,by simp,aL⟩
  case round=>
   obtain⟨k,c0,hk,bJ,rfl,rfl,ls,aA,aO,aI,aC⟩:=hrel;have HV:=Aa aI;clear aI
   by_cases hkn:k<n
   ·obtain⟨ad,rfl,bL,bC⟩:=(ha.below aC).words.word (k:=k) hkn
    have aP:k<ls.length:=by rw[aA.len];omega
    have aR:=aA.cell k (by omega);have bI:=aA.free k;have aT:=zaF (zaq u) k;have aY:=zaF (zaq v) k;obtain⟨xk,aN⟩:∃ xk,(digs u).getD k 0=xk:=⟨_,rfl⟩;obtain⟨yk,aG⟩:∃ yk,(digs v).getD k 0=yk:=⟨_,rfl⟩;rw[aN] at bC aT;rw[aG] at aY;generalize ls.getD k 0=old at aR;obtain⟨s,d,aQ,aW,aS,aK⟩:=zca xk yk c0 aT aY bJ;have HP:Hid (val ((ls.set k s).take (k+1))+B^(k+1)*d=val ((digs u).take (k+1))+val ((digs v).take (k+1))):=
     ze4 ls _ _ k aP s c0 d HV.out (by rw[aN,aG];exact aQ)
    by_cases hkn':k<n'
    ·obtain⟨bN,rfl,bM,bA⟩:=(hb.below aC).words.word (k:=k) hkn'
     rw[aG] at bA;clear aQ aN aG;go_wp2
     go_roundw
     case rel=>exact⟨k+1,d,by omega,aS,by go_num,rfl,_,aA.set k s,aO.set k aW,HP.out,aC.setCell (Nat.le_refl _) _⟩
     case measure=>simp[intOf]<;>omega
    ·have aZ:yk=0:=by rw[←aG];exact zb2 (by rw[hB.out];omega)
     subst aZ
     replace aK:∀ w:World,(callFunc 173 #[.int .u64 xk,.int .u64 0,.int .u64 c0]).run Tryz.prog w = .ok (.value (.tuple #[.int .u64 s,.int .u64 d])) w:=aK
     clear aQ aN aG;go_wp2
     go_roundw
     case rel=>exact⟨k+1,d,by omega,aS,by go_num,rfl,_,aA.set k s,aO.set k aW,HP.out,aC.setCell (Nat.le_refl _) _⟩
     case measure=>simp[intOf]<;>omega
   ·obtain rfl:k=n:=by omega
    have aP:k<ls.length:=by rw[aA.len];omega
    have aR:=aA.cell k (by omega);have bI:=aA.free k;generalize ls.getD k 0=old at aR;have aM:=aA.set k c0;have aF:val (ls.set k c0)=x+y:=by
     have h5:=zaL ls k c0 aP;rw[List.take_of_length_le (by simp[aA.len]),HV.out,List.take_of_length_le (by rw[hA.out];exact Nat.le_refl _),List.take_of_length_le (by rw[hB.out];exact bD),zak,zak] at h5;rw[h5,bK.out]
    have aH:Below wc.heap.size wc (wr.setCell ⟨wc.heap.size,k,none⟩ (.int .u64 c0)):=aC.setCell (Nat.le_refl _) _;have ht:=zdu (some ⟨wc.heap.size,0,none⟩) (k+1) (k+1) (ls.set k c0) _ aM.words (aO.set k (by unfold B;omega)) (Nat.le_refl _) (by unfold maxLen;omega);rw[aF] at ht;have HT:=Aa ht;clear ht aF
    go_wp2_with fail
    refine HT.out.mono ?_;rintro e w1 ⟨m,rfl,bG,rfl⟩;go_wp2
    go_ret;exact⟨_,m,_,rfl,bG,aH⟩
def zpE (w wr:World) (base g nt ct:Nat) (lt la lb:List Nat) (same:Prop) (k b0:Nat):Prop:=
 ∃ ls,zav wr base g nt ct ls∧Wf ls∧val (ls.take k)+val (lb.take k)=val (la.take k)+B^k*b0∧(same→∀ j,k≤j→ls.getD j 0=lt.getD j 0)∧w.grownBy wr (some g)
theorem zdN(A A':Option Addr)(base g nt ct n c n' c' x y:Nat)(lt:List Nat)(w:World)(same:Prop)(ht:zav w base g nt ct lt)(hlt:Wf lt)(ha:NatS w w.heap.size A n c x)
 (hb:NatS w w.heap.size A' n' c' y)(hAs:((0<n→Off A g)∧¬ same)∨(A=some ⟨g,0,none⟩∧lt=digs x∧same))(hob:0<n'→Off A' g)(hnt:n≤nt)(hyx:y≤x)(hn:n≤1099511627776) :
  Calls Tryz.prog 171 #[.slice (some ⟨g,0,none⟩) nt ct,.slice A n c,.slice A' n' c'] w fun e w'=>∃ m,e = .returned (.slice (some ⟨g,0,none⟩) m ct)∧zav w' base g m ct (digs (x-y))∧w.grownBy w' (some g):=by
 have aJ:=ha.len;have aM:=hb.len;have hA:=Aa aJ;have hB:=Aa aM;have aY:n'≤n:=by rw[←aJ,←aM];exact zaa hyx
 clear aJ aM;have h1:=ha.nc;have h2:=ha.cm;have h3:=hb.nc;have h4:=hb.cm;have h5:=ht.caps;unfold maxLen at h2 h4 h5;obtain⟨h5,h6⟩:=h5;have HT:=Aa ht;have HS:=Aa hAs;clear ht hAs;go_enter Tryz.func171,Tryz.ntmps171
 go_wp2
 go_loopw [7,13] (fun cy s wr=>∃ k b0:Nat,k≤n∧b0≤1∧s = .int .i64 k∧cy = .int .u64 b0∧zpE w wr base g nt ct lt (digs x) (digs y) same k b0) (fun _ s _=>n-(intOf s).toNat)
 case atStart=>exact⟨0,0,by omega,by omega,rfl,rfl,lt,HT.out,hlt,by simp,fun _ _ _=>rfl,World.grownBy.refl w _⟩
 case round=>
  obtain⟨k,b0,hk,aP,rfl,rfl,ls,aA,aG,aD,aQ,aF⟩:=hrel;have HV:=Aa aD;have HM:=Aa aQ;clear aD aQ
  by_cases hkn:k<n
  ·have bB:∃ ad,A=some ad∧wr.cell? (ad.add k)=some (.int .u64 (((digs x).getD k 0:Nat):Int)):=by
    rcases HS.out with⟨ho,_⟩ | ⟨aH,aK,hs⟩
    ·obtain⟨ad,e,_,hc⟩:=(ha.words.kept aF (Nat.le_refl _) ho).word (k:=k) hkn
     exact⟨ad,e,hc⟩
    ·refine⟨_,aH,?_⟩
     have:=aA.cell k (by omega);rw[HM.out hs k (Nat.le_refl _),aK] at this;have e0:(⟨g,0,none⟩:Addr).add k=⟨g,k,none⟩:=by
      unfold Addr.add
      by_cases hj:k=0<;>simp[hj]
     rw[e0];exact this
   obtain⟨ad,aH,aX⟩:=bB;have bF:=Aa aH;have aU:k<ls.length:=by rw[aA.len];omega
   have bA:=aA.cell k (by omega);have bE:=aA.free k;have aO:=zaF (zaq x) k;have aT:=zaF (zaq y) k;obtain⟨xk,aI⟩:∃ xk,(digs x).getD k 0=xk:=⟨_,rfl⟩;obtain⟨yk,aC⟩:∃ yk,(digs y).getD k 0=yk:=⟨_,rfl⟩;rw[aI] at aX aO;rw[aC] at aT;generalize ls.getD k 0=old at bA;obtain⟨s,d,aL,aS,aN,aE⟩:=ze5 xk yk b0 aO aT aP;have HP:Hid (val ((ls.set k s).take (k+1))+val ((digs y).take (k+1))=val ((digs x).take (k+1))+B^(k+1)*d):=
    zfD ls _ _ k aU s b0 d HV.out (by rw[aI,aC];exact aL)
   have aR:Hid (same→∀ j,k+1≤j→(ls.set k s).getD j 0=lt.getD j 0):=fun hs j hj=>by
    rw[←HM.out hs j (by omega)];simp only[List.getD]
    rw[List.getElem?_set_ne (by omega)]
   subst aH
   by_cases hkn':k<n'
   ·obtain⟨bD,rfl,bC,aW⟩:=(hb.words.kept aF (Nat.le_refl _) hob).word (k:=k) hkn'
    rw[aC] at aW;clear aL aI aC;go_wp2
    go_roundw
    case rel=>exact⟨k+1,d,by omega,aN,by go_num,rfl,_,aA.set k s,aG.set k aS,HP.out,aR.out,zbd aF (.inl rfl) _⟩
    case measure=>simp[intOf]<;>omega
   ·have aV:yk=0:=by rw[←aC];exact zb2 (by rw[hB.out];omega)
    subst aV
    replace aE:∀ w:World,(callFunc 197 #[.int .u64 xk,.int .u64 0,.int .u64 b0]).run Tryz.prog w = .ok (.value (.tuple #[.int .u64 s,.int .u64 d])) w:=aE
    clear aL aI aC;go_wp2
    go_roundw
    case rel=>exact⟨k+1,d,by omega,aN,by go_num,rfl,_,aA.set k s,aG.set k aS,HP.out,aR.out,zbd aF (.inl rfl) _⟩
    case measure=>simp[intOf]<;>omega
  ·obtain rfl:k=n:=by omega
   have hv:val (ls.take k)=x-y:=by
    have h7:=HV.out;rw[List.take_of_length_le (l:=digs x) (by rw[hA.out];exact Nat.le_refl _),List.take_of_length_le (l:=digs y) (by rw[hB.out];exact aY),zak,zak] at h7;have h8:=zby (aG.take k);rw[List.length_take,aA.len,Nat.min_eq_left hnt] at h8;have h9:=zad x;rw[hA.out] at h9;exact minus_end _ _ _ _ _ h7 h8 hyx aP
   have ht:=zb4 base g k ct (ls.take k) wr (aA.take hnt) (aG.take k);rw[hv] at ht;have HC:=Aa ht;clear ht hv
   go_wp2_with fail
   refine HC.out.mono ?_;rintro e w1 ⟨m,rfl,aZ,rfl⟩;go_wp2
   go_ret;exact⟨m,rfl,aZ,aF⟩
theorem zc9(A A':Option Addr)(n c n' c' x y:Nat)(w:World)(ha:NatS w w.heap.size A n c x)(hb:NatS w w.heap.size A' n' c' y)(hyx:y≤x)(hn:n≤1099511627776) :
  Calls Tryz.prog 125 #[.slice A n c,.slice A' n' c'] w (zch w (x-y)):=by
 obtain⟨i0,aF,aG,aJ,aH⟩:=info_parts zcm;go_enter Tryz.func125,Tryz.ntmps125
 go_wp2_with (at_make;refine wpList_make_full _ rfl _ _ 89 rfl w.heap.size 136 i0 (.int .u64 0) 1 Tryz.underlying89 aF aG aJ _ _ _ _ n rfl rfl (by omega) (by omega) ?b2 ?b3 (Nat.le_refl _) ?_)
 case b2=>rw[aH];omega
 case b3=>unfold maxLen;omega
 intro w0 aD aC;have aA:Below w.heap.size w w0:=(Below.refl _ _).grown aC (Nat.le_refl _) (fun k h=>by cases h);have aE:=zav.made aD;clear aD aC;have hc:=zdN A A' w.heap.size w.heap.size n n n c n' c' x y _ w0 False aE (Wf.replicate n) (ha.later aA) (hb.later aA) (.inl ⟨ha.off (Nat.le_refl _),id⟩) (hb.off (Nat.le_refl _)) (Nat.le_refl _) hyx hn
 go_wp2_with fail
 refine hc.mono ?_;rintro e w1 ⟨m,rfl,aK,aI⟩;go_wp2
 go_ret;exact⟨_,m,_,rfl,aK.nat,aA.grown aI aA.size (fun k hk=>by cases hk;exact Nat.le_refl _)⟩
theorem zgS(x y:Nat)(hx:x<18446744073709551616)(hy:y<18446744073709551616) :
  ∃ hi lo:Nat,lo+18446744073709551616*hi=x*y∧lo<18446744073709551616∧hi<18446744073709551616 ∧
   ∀ w:World,Calls Tryz.prog 193 #[.int .u64 x,.int .u64 y] w fun e w'=>e = .returned (.tuple #[.int .u64 (hi:Int),.int .u64 (lo:Int)])∧w'=w:=by
 refine⟨x*y/18446744073709551616,x*y%18446744073709551616,Nat.mod_add_div _ _,Nat.mod_lt _ (by omega),?_,fun w=>Tryz.bits_Mul64 x y hx hy w⟩;exact Nat.div_lt_of_lt_mul (zj1 x y hx hy)
theorem zdl(a b c d:Nat)(ha:a<18446744073709551616)(hb:b<18446744073709551616)(hc:c<18446744073709551616)(hd:d<18446744073709551616) :
  ∃ lo hi:Nat,lo+18446744073709551616*hi=a*b+c+d∧lo<18446744073709551616∧hi<18446744073709551616 ∧
   ∀ w:World,Calls Tryz.prog 162 #[.int .u64 a,.int .u64 b,.int .u64 c,.int .u64 d] w fun e w'=>e = .returned (.tuple #[.int .u64 (lo:Int),.int .u64 (hi:Int)])∧w=w':=by
 obtain⟨h,l,hm,hl,hh,aC⟩:=zgS a b ha hb;obtain⟨l1,c1,e1,aH,aJ,aD⟩:=zca l c 0 hl hc (by omega);obtain⟨l2,c2,e2,aG,aI,aE⟩:=zca l1 d 0 aH hd (by omega);have aA:=zhS a b ha hb;have aF:h+c1+c2<18446744073709551616:=by omega
 refine⟨l2,h+c1+c2,by omega,aG,aF,fun w => ?_⟩
 replace aD:∀ w:World,(callFunc 173 #[.int .u64 l,.int .u64 c,.int .u64 0]).run Tryz.prog w = .ok (.value (.tuple #[.int .u64 l1,.int .u64 c1])) w:=aD
 replace aE:∀ w:World,(callFunc 173 #[.int .u64 l1,.int .u64 d,.int .u64 0]).run Tryz.prog w = .ok (.value (.tuple #[.int .u64 l2,.int .u64 c2])) w:=aE
 clear e1 e2 hm aA;go_enter Tryz.func162,Tryz.ntmps162
 go_wp2_with fail
 refine(aC _).mono ?_;rintro e w' ⟨rfl,rfl⟩;go_wp2
 go_ret2
 exact⟨rfl,rfl⟩
def zns (w wr:World) (n n':Nat) (la lb:List Nat) (i:Nat):Prop:=
 ∃ ls,zav wr w.heap.size w.heap.size (n+n') (n+n') ls∧Wf ls∧val ls=val (la.take i)*val lb∧(∀ t,i+n'≤t→ls.getD t 0=0)∧Below w.heap.size w wr
def zoK (w wr:World) (n n':Nat) (la lb:List Nat) (i j c:Nat):Prop:=
 ∃ ls,zav wr w.heap.size w.heap.size (n+n') (n+n') ls∧Wf ls∧val ls+B^(i+j)*c=val (la.take i)*val lb+B^i*(la.getD i 0*val (lb.take j))∧(∀ t,i+n'≤t→ls.getD t 0=0)∧Below w.heap.size w wr
theorem zaI(A A':Option Addr)(n c n' c' x y:Nat)(w:World)(ha:NatS w w.heap.size A n c x)(hb:NatS w w.heap.size A' n' c' y)(hn:n≤1099511627776)(hn':n'≤1099511627776) :
  Calls Tryz.prog 113 #[.slice A n c,.slice A' n' c'] w (zch w (x*y)):=by
 obtain⟨i0,bE,bL,bI,bH⟩:=info_parts zcm;have aX:=ha.len;have bB:=hb.len;have hA:=Aa aX;have hB:=Aa bB;clear aX bB;have h1:=ha.nc;have h2:=ha.cm;have h3:=hb.nc;have h4:=hb.cm;unfold maxLen at h2 h4;go_enter Tryz.func113,Tryz.ntmps113
 go_wp2_with (at_make;refine wpList_make_full _ rfl _ _ 89 rfl w.heap.size 136 i0 (.int .u64 0) 1 Tryz.underlying89 bE bL bI _ _ _ _ (n+n') rfl rfl (by omega) (by omega) ?b2 ?b3 (Nat.le_refl _) ?_)
 case b2=>rw[bH];omega
 case b3=>unfold maxLen;omega
 intro w0 aE aD;have aN:Below w.heap.size w w0:=(Below.refl _ _).grown aD (Nat.le_refl _) (fun k h=>by cases h);have aM:=zav.made aE;clear aE aD;go_wp2
 go_loopw [19] (fun s wr=>∃ i:Nat,i≤n∧s = .int .i64 i∧zns w wr n n' (digs x) (digs y) i) (fun s _=>n-(intOf s).toNat)
 case atStart=>exact⟨0,by omega,rfl,_,aM,Wf.replicate _,by simp[za1],fun t _=>zcy _ _,aN⟩
 case round=>
  obtain⟨i,hi,rfl,ls,aL,aV,aK,hz,aG⟩:=hrel;obtain⟨wo,rfl⟩:∃ wo:World,wo=wr:=⟨_,rfl⟩;have HV:=Aa aK;have HZ:=Aa hz;clear aK hz
  by_cases hin:i<n
  ·obtain⟨ad,rfl,bN,bF⟩:=(ha.below aG).words.word (k:=i) hin
   have aW:=zaF (zaq x) i;obtain⟨f,aU⟩:∃ f,(digs x).getD i 0=f:=⟨_,rfl⟩;rw[aU] at bF aW;have HF:=Aa aU;clear aU
   go_wp2_with fail
   go_loopw [8,26] (fun cy s wr=>∃ j c0:Nat,j≤n'∧c0<18446744073709551616∧s = .int .i64 j∧cy = .int .u64 c0∧zoK w wr n n' (digs x) (digs y) i j c0) (fun _ s _=>n'-(intOf s).toNat)
   case atStart=>exact⟨0,0,by omega,by omega,rfl,rfl,ls,aL,aV,by rw[HV.out];simp,HZ.out,aG⟩
   case round=>
    obtain⟨j,c0,hj,bA,rfl,rfl,l2,aA,aH,aF,aJ,aC⟩:=hrel;have aZ:=Aa aF;have aS:=Aa aJ;clear aF aJ
    by_cases hjn:j<n'
    ·obtain⟨bP,rfl,bO,bD⟩:=(hb.below aC).words.word (k:=j) hjn
     have bC:=zaF (zaq y) j;obtain⟨yk,aQ⟩:∃ yk,(digs y).getD j 0=yk:=⟨_,rfl⟩;rw[aQ] at bD bC;have aT:=aA.cell (i+j) (by omega);have bM:=aA.free (i+j);have aY:=zaF aH (i+j);obtain⟨o,aP⟩:∃ o,l2.getD (i+j) 0=o:=⟨_,rfl⟩;rw[aP] at aT aY;obtain⟨lo,aO,e1,bJ,bG,aI⟩:=zdl f yk o c0 aW bC aY bA;have HP:Hid (val (l2.set (i+j) lo)+B^(i+(j+1))*aO=val ((digs x).take i)*val (digs y)+B^i*((digs x).getD i 0*val ((digs y).take (j+1)))):=
      zea l2 (digs y) i j _ _ lo aO c0 (by rw[aA.len];omega) aZ.out (by rw[aQ,aP,HF.out];exact e1)
     have aR:Hid (∀ t,i+n'≤t→(l2.set (i+j) lo).getD t 0=0):=fun t ht=>by rw[zaJ _ _ _ _ (by omega)];exact aS.out t ht
     clear e1 aQ aP
     go_wp2_with fail
     refine(aI _).mono ?_;rintro e w' ⟨rfl,rfl⟩;go_wp2
     go_roundw
     case rel=>exact⟨j+1,aO,by omega,bG,by go_num,rfl,_,aA.set (i+j) lo,aH.set _ bJ,HP.out,aR.out,aC.setCell (Nat.le_refl _) _⟩
     case measure=>simp[intOf]<;>omega
    ·obtain rfl:j=n':=by omega
     have aT:=aA.cell (i+j) (by omega);have bM:=aA.free (i+j);have HP:Hid (val (l2.set (i+j) c0)=val ((digs x).take (i+1))*val (digs y)):=
      zge l2 (digs x) (digs y) i j c0 (by rw[aA.len];omega) (aS.out _ (Nat.le_refl _)) hB.out aZ.out
     have aR:Hid (∀ t,i+1+j≤t→(l2.set (i+j) c0).getD t 0=0):=fun t ht=>by rw[zaJ _ _ _ _ (by omega)];exact aS.out t (by omega)
     generalize l2.getD (i+j) 0=old at aT;go_wp2
     go_roundw
     case rel=>exact⟨i+1,by omega,by go_num,_,aA.set (i+j) c0,aH.set _ bA,HP.out,aR.out,aC.setCell (Nat.le_refl _) _⟩
     case measure=>simp[intOf]<;>omega
  ·obtain rfl:i=n:=by omega
   have hv:val ls=x*y:=by rw[HV.out,List.take_of_length_le (by rw[hA.out];exact Nat.le_refl _),zak,zak]
   have ht:=zdu (some ⟨w.heap.size,0,none⟩) (i+n') (i+n') ls wo aL.words aV (Nat.le_refl _) (by unfold maxLen;omega);rw[hv] at ht;have HC:=Aa ht;clear ht hv
   go_wp2_with fail
   refine HC.out.mono ?_;rintro e w1 ⟨m,rfl,bK,rfl⟩;go_wp2
   go_ret;exact⟨_,m,_,rfl,bK,aG⟩
end
end Go.Proofs.YtmkondcdejlhcaaGreatDoor
