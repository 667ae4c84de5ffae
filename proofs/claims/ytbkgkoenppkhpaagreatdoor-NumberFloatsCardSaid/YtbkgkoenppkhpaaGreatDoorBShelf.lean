/- Contract of strings.Cut at the separator '/'. -/
import Derived.Shelf.Small.Wraps
import Derived.Shelf.Strconv.Itoa1
import Derived.Shelf.Strconv.Itoa2
import Derived.Shelf.Strings.Shaped
import Derived.Shelf.Strings.Repeat
import Derived.Shelf.Strings.BuilderCap
import Derived.Shelf.SlSortCmp.Insertion
import Derived.Shelf.Spec.TrailingZeros
import Derived.Test.YtbkgkoenppkhpaaGreatDoorBWords
set_option maxRecDepth 100000
set_option maxHeartbeats 4000000
namespace Go.Proofs
open Go.Shelf
def Tryz.lays170_ren:Go.Shelf.Ren:=⟨fun | 170=>198 | n=>n,fun | 70=>209 | 3=>3 | 0=>0 | 72=>212 | 37=>210 | 5=>5 | n=>n,fun | n=>n⟩
theorem Tryz.lays170:Go.Proofs.Lays.n170 Tryz.prog Tryz.lays170_ren:={
 mixed:=by kernel_rfl
 f170:=Tryz.func198.trans (congrArg some (by kernel_rfl))
 t0:=Tryz.underlying0
 a0:=Tryz.isAgg0
 z0:=Tryz.sizeOf0
 v0:=Tryz.zeroValue0
 t3:=Tryz.underlying3
 a3:=Tryz.isAgg3
 z3:=Tryz.sizeOf3
 v3:=Tryz.zeroValue3
 t37:=Tryz.underlying210
 a37:=Tryz.isAgg210
 z37:=Tryz.sizeOf210
 v37:=Tryz.zeroValue210
 t70:=Tryz.underlying209
 a70:=Tryz.isAgg209
 z70:=Tryz.sizeOf209
 v70:=Tryz.zeroValue209
 t72:=Tryz.underlying212
 a72:=Tryz.isAgg212
 z72:=Tryz.sizeOf212
 v72:=Tryz.zeroValue212 }
open Go.RowKit in
theorem Tryz.Builder_Len(B b:Nat)(bs:List Value)(w:World)(h:Lib.IsBuilder 212 5 B b bs w) :
  Calls Tryz.prog 198 #[.pointer (some ⟨b,0,none⟩)] w fun e w'=>e = .returned (.int .i64 bs.length)∧w'=w:=Any.Builder_Len Tryz.lays170 B b bs w h
def Tryz.lays169_ren:Go.Shelf.Ren:=⟨fun | 169=>201 | n=>n,fun | 70=>209 | 9=>9 | 0=>0 | 72=>212 | 37=>210 | 127=>235 | 3=>3 | 5=>5 | n=>n,fun | n=>n⟩
theorem Tryz.lays169:Go.Proofs.Lays.n169 Tryz.prog Tryz.lays169_ren:={
 mixed:=by kernel_rfl
 f169:=Tryz.func201.trans (congrArg some (by kernel_rfl))
 t0:=Tryz.underlying0
 a0:=Tryz.isAgg0
 z0:=Tryz.sizeOf0
 v0:=Tryz.zeroValue0
 t3:=Tryz.underlying3
 a3:=Tryz.isAgg3
 z3:=Tryz.sizeOf3
 v3:=Tryz.zeroValue3
 t9:=Tryz.underlying9
 a9:=Tryz.isAgg9
 z9:=Tryz.sizeOf9
 v9:=Tryz.zeroValue9
 t37:=Tryz.underlying210
 a37:=Tryz.isAgg210
 z37:=Tryz.sizeOf210
 v37:=Tryz.zeroValue210
 t70:=Tryz.underlying209
 a70:=Tryz.isAgg209
 z70:=Tryz.sizeOf209
 v70:=Tryz.zeroValue209
 t72:=Tryz.underlying212
 a72:=Tryz.isAgg212
 z72:=Tryz.sizeOf212
 v72:=Tryz.zeroValue212
 t127:=Tryz.underlying235
 a127:=Tryz.isAgg235
 z127:=Tryz.sizeOf235
 v127:=Tryz.zeroValue235 }
theorem Tryz.Builder_Extra_169:Builder.Extra Tryz.prog Tryz.lays169_ren:={
 sizeBuilder:=by kernel_rfl
 liesBuilder:=by kernel_rfl
 t5:=Tryz.underlying5
 a5:=Tryz.isAgg5
 z5:=Tryz.sizeOf5
 v5:=Tryz.zeroValue5
 infoByte:=by kernel_rfl
 cellsByte:=by kernel_rfl
 sizeByte:=by kernel_rfl
 neB5:=by decide }
open Go.RowKit in
open Go.RowKit in
open Go.RowKit in
theorem Tryz.Builder_String_any(B b:Nat)(l:List UInt8)(w:World)(h:Lib.IsBuilder 212 5 B b (Lib.byteCells l) w)(hBw:B≤w.heap.size) :
  Calls Tryz.prog 201 #[.pointer (some ⟨b,0,none⟩)] w fun e w'=>e = .returned (.string ⟨l.toArray⟩)∧Below B w w':=Any.Builder_String_any Tryz.lays169 Tryz.Builder_Extra_169 B b l w h hBw
open Go.RowKit in
open Go.RowKit in
def Tryz.lays134_ren:Go.Shelf.Ren:=⟨fun | 134=>187 | 129=>216 | n=>n,fun | 53=>116 | 3=>3 | 4=>4 | 46=>207 | 5=>5 | 9=>9 | n=>n,fun | n=>n⟩
theorem Tryz.lays134:Go.Proofs.Lays.n134 Tryz.prog Tryz.lays134_ren:={
 mixed:=by kernel_rfl
 f129:=Tryz.func216.trans (congrArg some (by kernel_rfl))
 f134:=Tryz.func187.trans (congrArg some (by kernel_rfl))
 t3:=Tryz.underlying3
 a3:=Tryz.isAgg3
 z3:=Tryz.sizeOf3
 v3:=Tryz.zeroValue3
 t4:=Tryz.underlying4
 a4:=Tryz.isAgg4
 z4:=Tryz.sizeOf4
 v4:=Tryz.zeroValue4
 t5:=Tryz.underlying5
 a5:=Tryz.isAgg5
 z5:=Tryz.sizeOf5
 v5:=Tryz.zeroValue5
 t9:=Tryz.underlying9
 a9:=Tryz.isAgg9
 z9:=Tryz.sizeOf9
 v9:=Tryz.zeroValue9
 t46:=Tryz.underlying207
 a46:=Tryz.isAgg207
 z46:=Tryz.sizeOf207
 v46:=Tryz.zeroValue207
 t53:=Tryz.underlying116
 a53:=Tryz.isAgg116
 z53:=Tryz.sizeOf116
 v53:=Tryz.zeroValue116 }
theorem Tryz.bits_LeadingZeros64(x:Int)(w:World)(h0:0≤x)(h1:x≤18446744073709551615) :
  Calls Tryz.prog 187 #[.int .u64 x] w fun e w'=>e = .returned (.int .i64 (64-(Lib.bitLen x.toNat:Int)))∧w'=w:=Any.bits_LeadingZeros64 Tryz.lays134 x w h0 h1
open Go.RowKit in
def Tryz.lays103_ren:Go.Shelf.Ren:=⟨fun | 103=>124 | 210=>180 | 206=>212 | n=>n,fun | 9=>9 | 4=>4 | 24=>157 | 3=>3 | n=>n,fun | n=>n⟩
theorem Tryz.lays103:Go.Proofs.Lays.n103 Tryz.prog Tryz.lays103_ren:={
 mixed:=by kernel_rfl
 f103:=Tryz.func124.trans (congrArg some (by kernel_rfl))
 f206:=Tryz.func212.trans (congrArg some (by kernel_rfl))
 f210:=Tryz.func180.trans (congrArg some (by kernel_rfl))
 t3:=Tryz.underlying3
 a3:=Tryz.isAgg3
 z3:=Tryz.sizeOf3
 v3:=Tryz.zeroValue3
 t4:=Tryz.underlying4
 a4:=Tryz.isAgg4
 z4:=Tryz.sizeOf4
 v4:=Tryz.zeroValue4
 t9:=Tryz.underlying9
 a9:=Tryz.isAgg9
 z9:=Tryz.sizeOf9
 v9:=Tryz.zeroValue9
 t24:=Tryz.underlying157
 a24:=Tryz.isAgg157
 z24:=Tryz.sizeOf157
 v24:=Tryz.zeroValue157 }
open Go.RowKit in
theorem Tryz.strings_CutPrefix(s p:ByteArray)(w:World) :
  Calls Tryz.prog 124 #[.string s,.string p] w fun e w'=>e = .returned (.tuple #[.string ⟨(Lib.trimPrefix s.data.toList p.data.toList).toArray⟩,.bool (Lib.hasPrefix s.data.toList p.data.toList)])∧w'=w:=Any.strings_CutPrefix Tryz.lays103 s p w
open Go.RowKit in
open Go.RowKit in
open Go.RowKit in
open Go.RowKit in
open Go.RowKit in
open Go.RowKit in
open Go.RowKit in
open Go.RowKit in
open Go.RowKit in
open Go.Lib in
open Go.Lib in
def Tryz.lays283_ren:Go.Shelf.Ren:=⟨fun | 283=>229 | n=>n,fun | 3=>3 | 9=>9 | 4=>4 | n=>n,fun | n=>n⟩
theorem Tryz.lays283:Go.Proofs.Lays.n283 Tryz.prog Tryz.lays283_ren:={
 mixed:=by kernel_rfl
 f283:=Tryz.func229.trans (congrArg some (by kernel_rfl))
 t3:=Tryz.underlying3
 a3:=Tryz.isAgg3
 z3:=Tryz.sizeOf3
 v3:=Tryz.zeroValue3
 t4:=Tryz.underlying4
 a4:=Tryz.isAgg4
 z4:=Tryz.sizeOf4
 v4:=Tryz.zeroValue4
 t9:=Tryz.underlying9
 a9:=Tryz.isAgg9
 z9:=Tryz.sizeOf9
 v9:=Tryz.zeroValue9 }
open Go.Lib in
theorem Tryz.internal_strconv_small(i:Nat)(h:i<100)(w:World) :
  Calls Tryz.prog 229 #[.int .i64 i] w fun e w'=>e = .returned (.string ⟨(Lib.decDigits i).toArray⟩)∧w'=w:=Any.internal_strconv_small Tryz.lays283 i h w
def Tryz.laysM284_ren:Go.Shelf.Ren:=⟨fun | 284=>230 | 129=>216 | 317=>240 | 318=>241 | n=>n,fun | 53=>116 | 3=>3 | 212=>252 | 0=>0 | 4=>4 | 46=>207 | 5=>5 | 9=>9 | n=>n,fun | 17=>6 | n=>n⟩
theorem Tryz.laysM284:Go.Proofs.LaysM.n284 Tryz.prog Tryz.laysM284_ren:={
 mixed:=by kernel_rfl
 f129:=Tryz.func216.trans (congrArg some (by kernel_rfl))
 f284:=Tryz.func230.trans (congrArg some (by kernel_rfl))
 f317:=Tryz.func240.trans (congrArg some (by kernel_rfl))
 f318:=Tryz.func241.trans (congrArg some (by kernel_rfl))
 t0:=Tryz.underlying0
 a0:=Tryz.isAgg0
 z0:=Tryz.sizeOf0
 v0:=Tryz.zeroValue0
 t3:=Tryz.underlying3
 a3:=Tryz.isAgg3
 z3:=Tryz.sizeOf3
 v3:=Tryz.zeroValue3
 t4:=Tryz.underlying4
 a4:=Tryz.isAgg4
 z4:=Tryz.sizeOf4
 v4:=Tryz.zeroValue4
 t5:=Tryz.underlying5
 a5:=Tryz.isAgg5
 z5:=Tryz.sizeOf5
 v5:=Tryz.zeroValue5
 t9:=Tryz.underlying9
 a9:=Tryz.isAgg9
 z9:=Tryz.sizeOf9
 v9:=Tryz.zeroValue9
 t46:=Tryz.underlying207
 a46:=Tryz.isAgg207
 z46:=Tryz.sizeOf207
 v46:=Tryz.zeroValue207
 t53:=Tryz.underlying116
 a53:=Tryz.isAgg116
 z53:=Tryz.sizeOf116
 v53:=Tryz.zeroValue116
 t212:=Tryz.underlying252
 a212:=Tryz.isAgg252
 z212:=Tryz.sizeOf252
 v212:=Tryz.zeroValue252
 g17:=by kernel_rfl
 i0:=by kernel_rfl
 i3:=by kernel_rfl
 i4:=by kernel_rfl
 i5:=by kernel_rfl
 i9:=by kernel_rfl
 i46:=by kernel_rfl
 i53:=by kernel_rfl
 i212:=by kernel_rfl
 m17:=by kernel_rfl }
open Go.Lib in
theorem Tryz.internal_strconv_numDigits(u:Nat)(h1:1≤u)(h2:u<18446744073709551616)(w:World)(htab:Lib.TabIs Tryz.prog w "internal/strconv.uint64pow10" .u64 Lib.pow10Tab) :
  Calls Tryz.prog 230 #[.int .u64 u] w fun e w'=>e = .returned (.int .i64 (Lib.nDigits u))∧w'=w:=Any.internal_strconv_numDigits Tryz.laysM284 u h1 h2 w htab
def Tryz.lays285_ren:Go.Shelf.Ren:=⟨fun | 285=>231 | n=>n,fun | 37=>210 | 53=>116 | 3=>3 | 4=>4 | 51=>247 | 9=>9 | 5=>5 | 0=>0 | n=>n,fun | n=>n⟩
theorem Tryz.lays285:Go.Proofs.Lays.n285 Tryz.prog Tryz.lays285_ren:={
 mixed:=by kernel_rfl
 f285:=Tryz.func231.trans (congrArg some (by kernel_rfl))
 t0:=Tryz.underlying0
 a0:=Tryz.isAgg0
 z0:=Tryz.sizeOf0
 v0:=Tryz.zeroValue0
 t3:=Tryz.underlying3
 a3:=Tryz.isAgg3
 z3:=Tryz.sizeOf3
 v3:=Tryz.zeroValue3
 t4:=Tryz.underlying4
 a4:=Tryz.isAgg4
 z4:=Tryz.sizeOf4
 v4:=Tryz.zeroValue4
 t5:=Tryz.underlying5
 a5:=Tryz.isAgg5
 z5:=Tryz.sizeOf5
 v5:=Tryz.zeroValue5
 t9:=Tryz.underlying9
 a9:=Tryz.isAgg9
 z9:=Tryz.sizeOf9
 v9:=Tryz.zeroValue9
 t37:=Tryz.underlying210
 a37:=Tryz.isAgg210
 z37:=Tryz.sizeOf210
 v37:=Tryz.zeroValue210
 t51:=Tryz.underlying247
 a51:=Tryz.isAgg247
 z51:=Tryz.sizeOf247
 v51:=Tryz.zeroValue247
 t53:=Tryz.underlying116
 a53:=Tryz.isAgg116
 z53:=Tryz.sizeOf116
 v53:=Tryz.zeroValue116 }
open Go.RowKit Go.Sort Go.Lib in
theorem Tryz.internal_strconv_formatBase10(blk off cap:Nat)(u:Nat)(d:Array UInt8)(w:World)(hH:Holds (fun (b:UInt8)=>Value.int .u8 (b.toNat:Int)) w blk off d)(hu:u<10^d.size)(hu64:u<18446744073709551616)(hsz:d.size<4611686018427387904) :
  Calls Tryz.prog 231 #[.slice (some ⟨blk,off,none⟩) d.size cap,.int .u64 u] w fun e w'=>
   e = .returned (.tuple #[])∧∃ (n v':Nat) (dk:Array UInt8),w'=(putRow (fun (b:UInt8)=>Value.int .u8 (b.toNat:Int)) w blk off dk).drewN n∧FmtInv d.size u 0 v' dk:=Any.internal_strconv_formatBase10 Tryz.lays285 blk off cap u d w hH hu hu64 hsz
def Tryz.lays217_ren:Go.Shelf.Ren:=⟨fun | 217=>225 | 266=>238 | n=>n,fun | 9=>9 | 5=>5 | 3=>3 | n=>n,fun | n=>n⟩
theorem Tryz.lays217:Go.Proofs.Lays.n217 Tryz.prog Tryz.lays217_ren:={
 mixed:=by kernel_rfl
 f217:=Tryz.func225.trans (congrArg some (by kernel_rfl))
 f266:=Tryz.func238.trans (congrArg some (by kernel_rfl))
 t3:=Tryz.underlying3
 a3:=Tryz.isAgg3
 z3:=Tryz.sizeOf3
 v3:=Tryz.zeroValue3
 t5:=Tryz.underlying5
 a5:=Tryz.isAgg5
 z5:=Tryz.sizeOf5
 v5:=Tryz.zeroValue5
 t9:=Tryz.underlying9
 a9:=Tryz.isAgg9
 z9:=Tryz.sizeOf9
 v9:=Tryz.zeroValue9 }
open Go.RowKit Go.Lib in
theorem Tryz.stringslite_IndexByte(s:ByteArray)(c:Int)(w:World) :
  Calls Tryz.prog 225 #[.string s,.int .u8 c] w fun e w'=>e = .returned (.int .i64 (Lib.indexByte s.data.toList c.toNat.toUInt8))∧w'=w:=Any.stringslite_IndexByte Tryz.lays217 s c w
open Go.RowKit Go.Lib in
open Go.RowKit Go.Lib in
open Go.RowKit Go.Lib in
def Tryz.lays219_ren:Go.Shelf.Ren:=⟨fun | 219=>211 | 217=>225 | 225=>226 | 224=>227 | 267=>228 | 266=>238 | 314=>239 | n=>n,fun | 9=>9 | 3=>3 | 4=>4 | 5=>5 | 46=>207 | 146=>248 | 51=>247 | n=>n,fun | 1=>2 | n=>n⟩
open Go.RowKit Go.Lib in
open Go.RowKit Go.Lib in
open Go.RowKit Go.Lib in
open Go.RowKit Go.Lib in
open Go.RowKit Go.Lib in
open Go.RowKit Go.Lib in
open Go.RowKit Go.Lib in
open Go.RowKit Go.Lib in
open Go.RowKit Go.Lib in
def Tryz.lays264_ren:Go.Shelf.Ren:=⟨fun | 264=>202 | n=>n,fun | 53=>116 | 46=>207 | n=>n,fun | n=>n⟩
theorem Tryz.lays264:Go.Proofs.Lays.n264 Tryz.prog Tryz.lays264_ren:={
 mixed:=by kernel_rfl
 f264:=Tryz.func202.trans (congrArg some (by kernel_rfl))
 t46:=Tryz.underlying207
 a46:=Tryz.isAgg207
 z46:=Tryz.sizeOf207
 v46:=Tryz.zeroValue207
 t53:=Tryz.underlying116
 a53:=Tryz.isAgg116
 z53:=Tryz.sizeOf116
 v53:=Tryz.zeroValue116 }
open Go.RowKit Go.Lib in
theorem Tryz.bits_Mul64(x y:Nat)(hx:x<18446744073709551616)(hy:y<18446744073709551616)(w:World) :
  Calls Tryz.prog 202 #[.int .u64 x,.int .u64 y] w fun e w'=>e = .returned (.tuple #[.int .u64 ((x*y/18446744073709551616:Nat):Int),.int .u64 ((x*y%18446744073709551616:Nat):Int)])∧w'=w:=Any.bits_Mul64 Tryz.lays264 x y hx hy w
open Go.RowKit Go.Lib in
def Tryz.lays105_ren:Go.Shelf.Ren:=⟨fun | 105=>200 | 212=>220 | 99=>221 | 165=>222 | 166=>199 | 170=>198 | 169=>201 | 263=>234 | 264=>202 | 206=>212 | 240=>219 | 241=>235 | 276=>233 | 277=>244 | n=>n,fun | 9=>9 | 3=>3 | 4=>4 | 20=>20 | 0=>0 | 46=>207 | 109=>232 | 5=>5 | 72=>212 | 76=>216 | 51=>247 | 146=>248 | 53=>116 | 148=>178 | 70=>209 | 37=>210 | 75=>215 | 127=>235 | 164=>245 | 80=>177 | n=>n,fun | n=>n⟩
theorem Tryz.lays105:Go.Proofs.Lays.n105 Tryz.prog Tryz.lays105_ren:={
 mixed:=by kernel_rfl
 f99:=Tryz.func221.trans (congrArg some (by kernel_rfl))
 f105:=Tryz.func200.trans (congrArg some (by kernel_rfl))
 f165:=Tryz.func222.trans (congrArg some (by kernel_rfl))
 f166:=Tryz.func199.trans (congrArg some (by kernel_rfl))
 f169:=Tryz.func201.trans (congrArg some (by kernel_rfl))
 f170:=Tryz.func198.trans (congrArg some (by kernel_rfl))
 f206:=Tryz.func212.trans (congrArg some (by kernel_rfl))
 f212:=Tryz.func220.trans (congrArg some (by kernel_rfl))
 f240:=Tryz.func219.trans (congrArg some (by kernel_rfl))
 f241:=Tryz.func235.trans (congrArg some (by kernel_rfl))
 f263:=Tryz.func234.trans (congrArg some (by kernel_rfl))
 f264:=Tryz.func202.trans (congrArg some (by kernel_rfl))
 f276:=Tryz.func233.trans (congrArg some (by kernel_rfl))
 f277:=Tryz.func244.trans (congrArg some (by kernel_rfl))
 t0:=Tryz.underlying0
 a0:=Tryz.isAgg0
 z0:=Tryz.sizeOf0
 v0:=Tryz.zeroValue0
 t3:=Tryz.underlying3
 a3:=Tryz.isAgg3
 z3:=Tryz.sizeOf3
 v3:=Tryz.zeroValue3
 t4:=Tryz.underlying4
 a4:=Tryz.isAgg4
 z4:=Tryz.sizeOf4
 v4:=Tryz.zeroValue4
 t5:=Tryz.underlying5
 a5:=Tryz.isAgg5
 z5:=Tryz.sizeOf5
 v5:=Tryz.zeroValue5
 t9:=Tryz.underlying9
 a9:=Tryz.isAgg9
 z9:=Tryz.sizeOf9
 v9:=Tryz.zeroValue9
 t20:=Tryz.underlying20
 a20:=Tryz.isAgg20
 z20:=Tryz.sizeOf20
 v20:=Tryz.zeroValue20
 t37:=Tryz.underlying210
 a37:=Tryz.isAgg210
 z37:=Tryz.sizeOf210
 v37:=Tryz.zeroValue210
 t46:=Tryz.underlying207
 a46:=Tryz.isAgg207
 z46:=Tryz.sizeOf207
 v46:=Tryz.zeroValue207
 t51:=Tryz.underlying247
 a51:=Tryz.isAgg247
 z51:=Tryz.sizeOf247
 v51:=Tryz.zeroValue247
 t53:=Tryz.underlying116
 a53:=Tryz.isAgg116
 z53:=Tryz.sizeOf116
 v53:=Tryz.zeroValue116
 t70:=Tryz.underlying209
 a70:=Tryz.isAgg209
 z70:=Tryz.sizeOf209
 v70:=Tryz.zeroValue209
 t72:=Tryz.underlying212
 a72:=Tryz.isAgg212
 z72:=Tryz.sizeOf212
 v72:=Tryz.zeroValue212
 t75:=Tryz.underlying215
 a75:=Tryz.isAgg215
 z75:=Tryz.sizeOf215
 v75:=Tryz.zeroValue215
 t76:=Tryz.underlying216
 a76:=Tryz.isAgg216
 z76:=Tryz.sizeOf216
 v76:=Tryz.zeroValue216
 t109:=Tryz.underlying232
 a109:=Tryz.isAgg232
 z109:=Tryz.sizeOf232
 v109:=Tryz.zeroValue232
 t127:=Tryz.underlying235
 a127:=Tryz.isAgg235
 z127:=Tryz.sizeOf235
 v127:=Tryz.zeroValue235
 t146:=Tryz.underlying248
 a146:=Tryz.isAgg248
 z146:=Tryz.sizeOf248
 v146:=Tryz.zeroValue248
 t148:=Tryz.underlying178
 a148:=Tryz.isAgg178
 z148:=Tryz.sizeOf178
 v148:=Tryz.zeroValue178
 t164:=Tryz.underlying245
 a164:=Tryz.isAgg245
 z164:=Tryz.sizeOf245
 v164:=Tryz.zeroValue245 }
theorem Tryz.Builder_Extra_105:Builder.Extra Tryz.prog Tryz.lays105_ren:={
 sizeBuilder:=by kernel_rfl
 liesBuilder:=by kernel_rfl
 t5:=Tryz.underlying5
 a5:=Tryz.isAgg5
 z5:=Tryz.sizeOf5
 v5:=Tryz.zeroValue5
 infoByte:=by kernel_rfl
 cellsByte:=by kernel_rfl
 sizeByte:=by kernel_rfl
 neB5:=by decide }
open Go.RowKit Go.Lib in
open Go.RowKit Go.Lib in
open Go.RowKit Go.Lib in
open Go.RowKit Go.Lib in
open Go.RowKit Go.Lib in
open Go.RowKit Go.Lib in
open Go.RowKit Go.Lib in
theorem Tryz.strings_Repeat(s:ByteArray)(c:Nat)(w:World)(hc:c≤9223372036854775807)(hlen:s.size*c≤140737488355328) :
  Calls Tryz.prog 200 #[.string s,.int .i64 c] w fun e w'=>e = .returned (.string ⟨(Lib.repeatL s.data.toList c).toArray⟩)∧Below w.heap.size w w':=Any.strings_Repeat Tryz.lays105 Tryz.Builder_Extra_105 s c w hc hlen
open Go.RowKit Go.Lib Go.Sort in
def Tryz.lays29_ren:Go.Shelf.Ren:=⟨fun | 29=>213 | n=>n,fun | 22=>116 | 3=>3 | 4=>4 | 25=>207 | 54=>239 | 0=>0 | 5=>5 | n=>n,fun | 1=>3 | n=>n⟩
theorem Tryz.lays29:Go.Proofs.Lays7.n29 Tryz.prog Tryz.lays29_ren:={
 mixed:=by kernel_rfl
 f29:=Tryz.func213.trans (congrArg some (by kernel_rfl))
 t0:=Tryz.underlying0
 a0:=Tryz.isAgg0
 z0:=Tryz.sizeOf0
 v0:=Tryz.zeroValue0
 i0:=by kernel_rfl
 t3:=Tryz.underlying3
 a3:=Tryz.isAgg3
 z3:=Tryz.sizeOf3
 v3:=Tryz.zeroValue3
 i3:=by kernel_rfl
 t4:=Tryz.underlying4
 a4:=Tryz.isAgg4
 z4:=Tryz.sizeOf4
 v4:=Tryz.zeroValue4
 i4:=by kernel_rfl
 t5:=Tryz.underlying5
 a5:=Tryz.isAgg5
 z5:=Tryz.sizeOf5
 v5:=Tryz.zeroValue5
 i5:=by kernel_rfl
 t22:=Tryz.underlying116
 a22:=Tryz.isAgg116
 z22:=Tryz.sizeOf116
 v22:=Tryz.zeroValue116
 i22:=by kernel_rfl
 t25:=Tryz.underlying207
 a25:=Tryz.isAgg207
 z25:=Tryz.sizeOf207
 v25:=Tryz.zeroValue207
 i25:=by kernel_rfl
 t54:=Tryz.underlying239
 a54:=Tryz.isAgg239
 z54:=Tryz.sizeOf239
 g1:=by kernel_rfl }
end Go.Proofs
namespace Go.Proofs.YtbkgkoenppkhpaaGreatDoor
section
open Go.RowKit
def cutL (l:List UInt8):List UInt8 × List UInt8 × Bool:=
 if 0≤Lib.indexByte l 47 then(l.take (Lib.indexByte l 47).toNat,l.drop ((Lib.indexByte l 47).toNat+1),true) else(l,[],false)
theorem ziz(l:List UInt8)(c:UInt8):Lib.indexByte l c<l.length∨Lib.indexByte l c = -1:=by
 by_cases h:Lib.indexByte l c<0
 ·have:=Lib.indexByte_ge l c;omega
 ·obtain⟨o,ho⟩:=Int.eq_ofNat_of_zero_le (Int.not_lt.1 h)
  have:=(Lib.indexByte_some ho).1;have h2:o<l.length:=by
   rcases Nat.lt_or_ge o l.length with h3 | h3
   ·exact h3
   ·rw[List.getElem?_eq_none h3] at this;cases this
  omega
theorem zjq(s:ByteArray)(w:World) :
  Calls Tryz.prog 211 #[.string s,.string ⟨#[47]⟩] w fun e w'=>e = .returned (.int .i64 (Lib.indexByte s.data.toList 47))∧w=w':=by
 have h:=fun W:World=>Tryz.stringslite_IndexByte s 47 W
 have aA:(47:Int).toNat.toUInt8=47:=by decide
 rw[aA] at h;clear aA
 by_cases hs:s.data.toList=[47]
 ·have hb:([47]==s.toList)=true:=by
   have:s.toList=s.data.toList:=ByteArray.toList_eq s;rw[this,hs];rfl
  have hv:Hid (Lib.indexByte s.data.toList 47=0):=by unfold Hid;rw[hs];rfl
  clear hs h;go_enter Tryz.func211,Tryz.ntmps211
  go_wp2
  go_ret;exact⟨by rw[hv.out];rfl,rfl⟩
 ·have hb:([47]==s.toList)=false:=by
   have:s.toList=s.data.toList:=ByteArray.toList_eq s;rw[this];exact beq_eq_false_iff_ne.2 fun e=>hs e.symm
  clear hs;generalize Lib.indexByte s.data.toList 47=i at h ⊢;go_enter Tryz.func211,Tryz.ntmps211
  go_wp2_with fail
  refine(h _).mono ?_;rintro e w1 ⟨rfl,hw⟩;subst hw;go_wp2
  go_ret;exact⟨rfl,rfl⟩
theorem zjs(s:ByteArray)(w:World)(hs:s.size≤4294967296) :
  Calls Tryz.prog 179 #[.string s,.string ⟨#[47]⟩] w fun e w'=>(∃ a b:ByteArray,e = .returned (.tuple #[.string a,.string b,.bool (cutL s.data.toList).2.2])∧a.data.toList=(cutL s.data.toList).1∧b.data.toList=(cutL s.data.toList).2.1)∧∃ n,w'=w.drewN n:=by
 obtain⟨i,hi⟩:∃ i,i=Lib.indexByte s.data.toList 47:=⟨_,rfl⟩;have hc:=fun W:World=>zjq s W
 rw[←hi] at hc;have aA:s.data.toList.length=s.size:=by simp
 have aC:=ziz s.data.toList 47;rw[←hi,aA] at aC;go_enter Tryz.func179,Tryz.ntmps179
 by_cases h0:i<0
 ·have hcut:Hid (cutL s.data.toList=(s.data.toList,[],false)):=by unfold Hid cutL;rw[←hi,if_neg (by omega)]
  clear hi aC aA
  go_wp2_with fail
  refine(hc _).mono ?_;rintro e w1 ⟨rfl,rfl⟩;go_wp2
  go_ret3
  exact⟨⟨s,⟨#[]⟩,by rw[hcut.out];rfl,by rw[hcut.out],by rw[hcut.out]⟩,0,rfl⟩
 ·obtain⟨k,rfl⟩:=Int.eq_ofNat_of_zero_le (Int.not_lt.1 h0)
  have hk:k<s.size:=by omega
  have hcut:Hid (cutL s.data.toList=(s.data.toList.take k,s.data.toList.drop (k+1),true)):=by unfold Hid cutL;rw[←hi,if_pos (by omega)];simp
  clear hi aC aA;have a1:IntKind.i64.wrap ((k:Int)+1)=(k:Int)+1:=IntWalk.i64_in _ (by omega);have a2:((k:Int)+1).toNat=k+1:=by omega
  go_wp2_with fail
  refine(hc _).mono ?_;rintro e w1 ⟨rfl,rfl⟩
  go_wp2_with fail
  go_quiet (fail)
  go_wp2
  go_ret3
  refine⟨⟨s.extract 0 k,s.extract (k+1) s.size,by rw[hcut.out];rfl,?_,?_⟩,nq,rfl⟩
  ·rw[hcut.out,Lib.extract_data];simp
  ·rw[hcut.out,Lib.extract_data];exact List.take_of_length_le (by simp)
theorem znr(s:ByteArray)(w:World)(hs:s.size≤4294967296) :
  Calls Tryz.prog 123 #[.string s,.string ⟨#[47]⟩] w fun e w'=>(∃ a b:ByteArray,e = .returned (.tuple #[.string a,.string b,.bool (cutL s.data.toList).2.2])∧a.data.toList=(cutL s.data.toList).1∧b.data.toList=(cutL s.data.toList).2.1)∧∃ n,w'=w.drewN n:=by
 have hc:=zjs s w hs;generalize cutL s.data.toList=C at hc ⊢;obtain⟨c1,c2,c3⟩:=C;go_enter Tryz.func123,Tryz.ntmps123
 go_wp2_with fail
 refine hc.mono ?_;rintro e w1 ⟨⟨a,b,rfl,h1,h2⟩,n,rfl⟩;go_wp2
 go_ret3
 exact⟨⟨a,b,rfl,h1,h2⟩,n,rfl⟩
end
section
open Go.RowKit Bn
def zqU (w wr:World) (g n:Nat) (la lb:List Nat) (k c0:Nat):Prop:=
 ∃ ls,zav wr w.heap.size g (n+1) (n+1) ls∧Wf ls∧val (ls.take k)+B^k*c0=val (la.take k)+val (lb.take k)∧Below w.heap.size w wr
theorem ziy(x y p q r:Nat)(h1:x<p)(h2:y<q)(h3:q≤p)(h4:p*2≤r):x+y<r:=by omega
theorem zcw(A A':Option Addr)(n c n' c' x y:Nat)(w:World)(ha:NatS w w.heap.size A n c x)(hb:NatS w w.heap.size A' n' c' y)(hn:n≤1099511627776)(hn':n'≤1099511627776) :
  Calls Tryz.prog 170 #[.slice A n c,.slice A' n' c'] w (zcj w (x+y)):=by
 obtain⟨i0,bD,bA,bK,bH⟩:=info_parts zct;go_enter Tryz.func170,Tryz.ntmps170
 go_upto_if 14 with(fail)
 go_cut [0,1] (fun s s' wc=>∃ A n c A' n' c' u v,s = .slice A n c∧s' = .slice A' n' c'∧NatS w w.heap.size A n c u∧NatS w w.heap.size A' n' c' v∧n'≤n∧n≤1099511627776∧u+v=x+y∧wc=w)
 case first=>
  by_cases hlt:n<n'
  ·have hd:decide (n<n')=true:=by simpa using hlt
   go_wp2_with fail
   go_meet
   exact⟨A',n',c',A,n,c,y,x,rfl,rfl,hb,ha,by omega,hn',by omega,rfl⟩
  ·have hd:decide (n<n')=false:=by simpa using hlt
   go_wp2_with fail
   go_meet
   exact⟨A,n,c,A',n',c',x,y,rfl,rfl,ha,hb,by omega,hn,by omega,rfl⟩
 case rest=>
  clear ha hb hn hn';obtain⟨A,n,c,A',n',c',u,v,rfl,rfl,ha,hb,bE,hn,aW,rfl⟩:=hcut;have aX:=ha.len;have aV:=hb.len;have hA:=Aa aX;have hB:=Aa aV;have bG:=Aa aW;clear aX aV aW;have h1:=ha.nc;have h2:=ha.cm;have h3:=hb.nc;have h4:=hb.cm;unfold maxLen at h2 h4
  go_wp2_with (at_make;refine wpList_make_full _ rfl _ _ 85 rfl wc.heap.size 116 i0 (.int .u64 0) 1 Tryz.underlying85 bD bA bK _ _ _ _ (n+1) rfl rfl (by omega) (by omega) ?b2 ?b3 (Nat.le_refl _) ?_)
  case b2=>rw[bH];omega
  case b3=>unfold maxLen;omega
  intro w0 aE aC;have aK:=zav.made aE;have aJ:Below wc.heap.size wc w0:=(Below.refl _ _).grown aC (Nat.le_refl _) (fun k h=>by cases h);clear aE;go_wp2
  clear aC
  go_loopw [6,23] (fun cy s wr=>∃ k c0:Nat,k≤n∧c0≤1∧s = .int .i64 k∧cy = .int .u64 c0∧zqU wc wr wc.heap.size n (digs u) (digs v) k c0) (fun _ s _=>n-(intOf s).toNat)
  case atStart=>exact⟨0,0,by omega,by omega,rfl,rfl,_,aK,Wf.replicate _,by simp,aJ⟩
  case round=>
   obtain⟨k,c0,hk,bJ,rfl,rfl,ls,aA,aP,aI,aD⟩:=hrel;have HV:=Aa aI;clear aI
   by_cases hkn:k<n
   ·obtain⟨ad,rfl,bL,bF⟩:=(ha.below aD).words.word (k:=k) hkn
    have aO:k<ls.length:=by rw[aA.len];omega
    have aR:=aA.cell k (by omega);have aZ:=aA.free k;have aS:=zaH (zaq u) k;have aT:=zaH (zaq v) k;obtain⟨xk,aN⟩:∃ xk,(digs u).getD k 0=xk:=⟨_,rfl⟩;obtain⟨yk,aG⟩:∃ yk,(digs v).getD k 0=yk:=⟨_,rfl⟩;rw[aN] at bF aS;rw[aG] at aT;generalize ls.getD k 0=old at aR;obtain⟨s,d,aQ,aY,aU,aM⟩:=zb5 xk yk c0 aS aT bJ;have HP:Hid (val ((ls.set k s).take (k+1))+B^(k+1)*d=val ((digs u).take (k+1))+val ((digs v).take (k+1))):=
     ze8 ls _ _ k aO s c0 d HV.out (by rw[aN,aG];exact aQ)
    by_cases hkn':k<n'
    ·obtain⟨bM,rfl,bN,bB⟩:=(hb.below aD).words.word (k:=k) hkn'
     rw[aG] at bB;clear aQ aN aG;go_wp2
     go_roundw
     case rel=>exact⟨k+1,d,by omega,aU,by go_num,rfl,_,aA.set k s,aP.set k aY,HP.out,aD.setCell (Nat.le_refl _) _⟩
     case measure=>simp[intOf]<;>omega
    ·have bC:yk=0:=by rw[←aG];exact zbV (by rw[hB.out];omega)
     subst bC
     replace aM:∀ w:World,(callFunc 203 #[.int .u64 xk,.int .u64 0,.int .u64 c0]).run Tryz.prog w = .ok (.value (.tuple #[.int .u64 s,.int .u64 d])) w:=aM
     clear aQ aN aG;go_wp2
     go_roundw
     case rel=>exact⟨k+1,d,by omega,aU,by go_num,rfl,_,aA.set k s,aP.set k aY,HP.out,aD.setCell (Nat.le_refl _) _⟩
     case measure=>simp[intOf]<;>omega
   ·obtain rfl:k=n:=by omega
    have aO:k<ls.length:=by rw[aA.len];omega
    have aR:=aA.cell k (by omega);have aZ:=aA.free k;generalize ls.getD k 0=old at aR;have aL:=aA.set k c0;have aF:val (ls.set k c0)=x+y:=by
     have h5:=zaK ls k c0 aO;rw[List.take_of_length_le (by simp[aA.len]),HV.out,List.take_of_length_le (by rw[hA.out];exact Nat.le_refl _),List.take_of_length_le (by rw[hB.out];exact bE),zak,zak] at h5;rw[h5,bG.out]
    have aH:Below wc.heap.size wc (wr.setCell ⟨wc.heap.size,k,none⟩ (.int .u64 c0)):=aD.setCell (Nat.le_refl _) _;have ht:=zdt (some ⟨wc.heap.size,0,none⟩) (k+1) (k+1) (ls.set k c0) _ aL.words (aP.set k (by unfold B;omega)) (Nat.le_refl _) (by unfold maxLen;omega);rw[aF] at ht;have HT:=Aa ht;clear ht aF
    go_wp2_with fail
    refine HT.out.mono ?_;rintro e w1 ⟨m,rfl,bI,rfl⟩;go_wp2
    go_ret;exact⟨_,m,_,rfl,bI,aH⟩
def zrI (w wr:World) (base g nt ct:Nat) (lt la lb:List Nat) (same:Prop) (k b0:Nat):Prop:=
 ∃ ls,zav wr base g nt ct ls∧Wf ls∧val (ls.take k)+val (lb.take k)=val (la.take k)+B^k*b0∧(same→∀ j,k≤j→ls.getD j 0=lt.getD j 0)∧w.grownBy wr (some g)
theorem zd1(A A':Option Addr)(base g nt ct n c n' c' x y:Nat)(lt:List Nat)(w:World)(same:Prop)(ht:zav w base g nt ct lt)(hlt:Wf lt)(ha:NatS w w.heap.size A n c x)
 (hb:NatS w w.heap.size A' n' c' y)(hAs:((0<n→Off A g)∧¬ same)∨(A=some ⟨g,0,none⟩∧lt=digs x∧same))(hob:0<n'→Off A' g)(hnt:n≤nt)(hyx:y≤x)(hn:n≤1099511627776) :
  Calls Tryz.prog 184 #[.slice (some ⟨g,0,none⟩) nt ct,.slice A n c,.slice A' n' c'] w fun e w'=>∃ m,e = .returned (.slice (some ⟨g,0,none⟩) m ct)∧zav w' base g m ct (digs (x-y))∧w.grownBy w' (some g):=by
 have aM:=ha.len;have aK:=hb.len;have hA:=Aa aM;have hB:=Aa aK;have aY:n'≤n:=by rw[←aM,←aK];exact zaa hyx
 clear aM aK;have h1:=ha.nc;have h2:=ha.cm;have h3:=hb.nc;have h4:=hb.cm;have h5:=ht.caps;unfold maxLen at h2 h4 h5;obtain⟨h5,h6⟩:=h5;have HT:=Aa ht;have HS:=Aa hAs;clear ht hAs;go_enter Tryz.func184,Tryz.ntmps184
 go_wp2
 go_loopw [7,13] (fun cy s wr=>∃ k b0:Nat,k≤n∧b0≤1∧s = .int .i64 k∧cy = .int .u64 b0∧zrI w wr base g nt ct lt (digs x) (digs y) same k b0) (fun _ s _=>n-(intOf s).toNat)
 case atStart=>exact⟨0,0,by omega,by omega,rfl,rfl,lt,HT.out,hlt,by simp,fun _ _ _=>rfl,World.grownBy.refl w _⟩
 case round=>
  obtain⟨k,b0,hk,aQ,rfl,rfl,ls,aA,aG,aD,aT,aE⟩:=hrel;have HV:=Aa aD;have HM:=Aa aT;clear aD aT
  by_cases hkn:k<n
  ·have aW:∃ ad,A=some ad∧wr.cell? (ad.add k)=some (.int .u64 (((digs x).getD k 0:Nat):Int)):=by
    rcases HS.out with⟨ho,_⟩ | ⟨aH,aJ,hs⟩
    ·obtain⟨ad,e,_,hc⟩:=(ha.words.kept aE (Nat.le_refl _) ho).word (k:=k) hkn
     exact⟨ad,e,hc⟩
    ·refine⟨_,aH,?_⟩
     have:=aA.cell k (by omega);rw[HM.out hs k (Nat.le_refl _),aJ] at this;have e0:(⟨g,0,none⟩:Addr).add k=⟨g,k,none⟩:=by
      unfold Addr.add
      by_cases hj:k=0<;>simp[hj]
     rw[e0];exact this
   obtain⟨ad,aH,aZ⟩:=aW;have bD:=Aa aH;have aU:k<ls.length:=by rw[aA.len];omega
   have bB:=aA.cell k (by omega);have bC:=aA.free k;have aN:=zaH (zaq x) k;have aO:=zaH (zaq y) k;obtain⟨xk,aI⟩:∃ xk,(digs x).getD k 0=xk:=⟨_,rfl⟩;obtain⟨yk,aC⟩:∃ yk,(digs y).getD k 0=yk:=⟨_,rfl⟩;rw[aI] at aZ aN;rw[aC] at aO;generalize ls.getD k 0=old at bB;obtain⟨s,d,aL,aS,aP,aF⟩:=zfo xk yk b0 aN aO aQ;have HP:Hid (val ((ls.set k s).take (k+1))+val ((digs y).take (k+1))=val ((digs x).take (k+1))+B^(k+1)*d):=
    zgA ls _ _ k aU s b0 d HV.out (by rw[aI,aC];exact aL)
   have aR:Hid (same→∀ j,k+1≤j→(ls.set k s).getD j 0=lt.getD j 0):=fun hs j hj=>by
    rw[←HM.out hs j (by omega)];simp only[List.getD]
    rw[List.getElem?_set_ne (by omega)]
   subst aH
   by_cases hkn':k<n'
   ·obtain⟨bE,rfl,bF,aV⟩:=(hb.words.kept aE (Nat.le_refl _) hob).word (k:=k) hkn'
    rw[aC] at aV;clear aL aI aC;go_wp2
    go_roundw
    case rel=>exact⟨k+1,d,by omega,aP,by go_num,rfl,_,aA.set k s,aG.set k aS,HP.out,aR.out,zbf aE (.inl rfl) _⟩
    case measure=>simp[intOf]<;>omega
   ·have aX:yk=0:=by rw[←aC];exact zbV (by rw[hB.out];omega)
    subst aX
    replace aF:∀ w:World,(callFunc 214 #[.int .u64 xk,.int .u64 0,.int .u64 b0]).run Tryz.prog w = .ok (.value (.tuple #[.int .u64 s,.int .u64 d])) w:=aF
    clear aL aI aC;go_wp2
    go_roundw
    case rel=>exact⟨k+1,d,by omega,aP,by go_num,rfl,_,aA.set k s,aG.set k aS,HP.out,aR.out,zbf aE (.inl rfl) _⟩
    case measure=>simp[intOf]<;>omega
  ·obtain rfl:k=n:=by omega
   have hv:val (ls.take k)=x-y:=by
    have h7:=HV.out;rw[List.take_of_length_le (l:=digs x) (by rw[hA.out];exact Nat.le_refl _),List.take_of_length_le (l:=digs y) (by rw[hB.out];exact aY),zak,zak] at h7;have h8:=zbA (aG.take k);rw[List.length_take,aA.len,Nat.min_eq_left hnt] at h8;have h9:=zac x;rw[hA.out] at h9;exact minus_end _ _ _ _ _ h7 h8 hyx aQ
   have ht:=zb8 base g k ct (ls.take k) wr (aA.take hnt) (aG.take k);rw[hv] at ht;have HC:=Aa ht;clear ht hv
   go_wp2_with fail
   refine HC.out.mono ?_;rintro e w1 ⟨m,rfl,bA,rfl⟩;go_wp2
   go_ret;exact⟨m,rfl,bA,aE⟩
theorem zdd(A A':Option Addr)(n c n' c' x y:Nat)(w:World)(ha:NatS w w.heap.size A n c x)(hb:NatS w w.heap.size A' n' c' y)(hyx:y≤x)(hn:n≤1099511627776) :
  Calls Tryz.prog 192 #[.slice A n c,.slice A' n' c'] w (zcj w (x-y)):=by
 obtain⟨i0,aF,aH,aG,aI⟩:=info_parts zct;go_enter Tryz.func192,Tryz.ntmps192
 go_wp2_with (at_make;refine wpList_make_full _ rfl _ _ 85 rfl w.heap.size 116 i0 (.int .u64 0) 1 Tryz.underlying85 aF aH aG _ _ _ _ n rfl rfl (by omega) (by omega) ?b2 ?b3 (Nat.le_refl _) ?_)
 case b2=>rw[aI];omega
 case b3=>unfold maxLen;omega
 intro w0 aD aC;have aA:Below w.heap.size w w0:=(Below.refl _ _).grown aC (Nat.le_refl _) (fun k h=>by cases h);have aE:=zav.made aD;clear aD aC;have hc:=zd1 A A' w.heap.size w.heap.size n n n c n' c' x y _ w0 False aE (Wf.replicate n) (ha.later aA) (hb.later aA) (.inl ⟨ha.off (Nat.le_refl _),id⟩) (hb.off (Nat.le_refl _)) (Nat.le_refl _) hyx hn
 go_wp2_with fail
 refine hc.mono ?_;rintro e w1 ⟨m,rfl,aK,aJ⟩;go_wp2
 go_ret;exact⟨_,m,_,rfl,aK.nat,aA.grown aJ aA.size (fun k hk=>by cases hk;exact Nat.le_refl _)⟩
theorem zhi(x y:Nat)(hx:x<18446744073709551616)(hy:y<18446744073709551616) :
  ∃ hi lo:Nat,lo+18446744073709551616*hi=x*y∧lo<18446744073709551616∧hi<18446744073709551616 ∧
   ∀ w:World,Calls Tryz.prog 202 #[.int .u64 x,.int .u64 y] w fun e w'=>e = .returned (.tuple #[.int .u64 (hi:Int),.int .u64 (lo:Int)])∧w'=w:=by
 refine⟨x*y/18446744073709551616,x*y%18446744073709551616,Nat.mod_add_div _ _,Nat.mod_lt _ (by omega),?_,fun w=>Tryz.bits_Mul64 x y hx hy w⟩;exact Nat.div_lt_of_lt_mul (zlf x y hx hy)
theorem zdA(a b c d:Nat)(ha:a<18446744073709551616)(hb:b<18446744073709551616)(hc:c<18446744073709551616)(hd:d<18446744073709551616) :
  ∃ lo hi:Nat,lo+18446744073709551616*hi=a*b+c+d∧lo<18446744073709551616∧hi<18446744073709551616 ∧
   ∀ w:World,Calls Tryz.prog 156 #[.int .u64 a,.int .u64 b,.int .u64 c,.int .u64 d] w fun e w'=>e = .returned (.tuple #[.int .u64 (lo:Int),.int .u64 (hi:Int)])∧w=w':=by
 obtain⟨h,l,hm,hl,hh,aD⟩:=zhi a b ha hb;obtain⟨l1,c1,e1,aF,aI,aC⟩:=zb5 l c 0 hl hc (by omega);obtain⟨l2,c2,e2,aH,aJ,aE⟩:=zb5 l1 d 0 aF hd (by omega);have aA:=zir a b ha hb;have aG:h+c1+c2<18446744073709551616:=by omega
 refine⟨l2,h+c1+c2,by omega,aH,aG,fun w => ?_⟩
 replace aC:∀ w:World,(callFunc 203 #[.int .u64 l,.int .u64 c,.int .u64 0]).run Tryz.prog w = .ok (.value (.tuple #[.int .u64 l1,.int .u64 c1])) w:=aC
 replace aE:∀ w:World,(callFunc 203 #[.int .u64 l1,.int .u64 d,.int .u64 0]).run Tryz.prog w = .ok (.value (.tuple #[.int .u64 l2,.int .u64 c2])) w:=aE
 clear e1 e2 hm aA;go_enter Tryz.func156,Tryz.ntmps156
 go_wp2_with fail
 refine(aD _).mono ?_;rintro e w' ⟨rfl,rfl⟩;go_wp2
 go_ret2
 exact⟨rfl,rfl⟩
def zpm (w wr:World) (n n':Nat) (la lb:List Nat) (i:Nat):Prop:=
 ∃ ls,zav wr w.heap.size w.heap.size (n+n') (n+n') ls∧Wf ls∧val ls=val (la.take i)*val lb∧(∀ t,i+n'≤t→ls.getD t 0=0)∧Below w.heap.size w wr
def zqK (w wr:World) (n n':Nat) (la lb:List Nat) (i j c:Nat):Prop:=
 ∃ ls,zav wr w.heap.size w.heap.size (n+n') (n+n') ls∧Wf ls∧val ls+B^(i+j)*c=val (la.take i)*val lb+B^i*(la.getD i 0*val (lb.take j))∧(∀ t,i+n'≤t→ls.getD t 0=0)∧Below w.heap.size w wr
theorem zaJ(A A':Option Addr)(n c n' c' x y:Nat)(w:World)(ha:NatS w w.heap.size A n c x)(hb:NatS w w.heap.size A' n' c' y)(hn:n≤1099511627776)(hn':n'≤1099511627776) :
  Calls Tryz.prog 90 #[.slice A n c,.slice A' n' c'] w (zcj w (x*y)):=by
 obtain⟨i0,bI,bE,bM,bK⟩:=info_parts zct;have aZ:=ha.len;have aY:=hb.len;have hA:=Aa aZ;have hB:=Aa aY;clear aZ aY;have h1:=ha.nc;have h2:=ha.cm;have h3:=hb.nc;have h4:=hb.cm;unfold maxLen at h2 h4;go_enter Tryz.func90,Tryz.ntmps90
 go_wp2_with (at_make;refine wpList_make_full _ rfl _ _ 85 rfl w.heap.size 116 i0 (.int .u64 0) 1 Tryz.underlying85 bI bE bM _ _ _ _ (n+n') rfl rfl (by omega) (by omega) ?b2 ?b3 (Nat.le_refl _) ?_)
 case b2=>rw[bK];omega
 case b3=>unfold maxLen;omega
 intro w0 aE aC;have aK:Below w.heap.size w w0:=(Below.refl _ _).grown aC (Nat.le_refl _) (fun k h=>by cases h);have aM:=zav.made aE;clear aE aC;go_wp2
 go_loopw [19] (fun s wr=>∃ i:Nat,i≤n∧s = .int .i64 i∧zpm w wr n n' (digs x) (digs y) i) (fun s _=>n-(intOf s).toNat)
 case atStart=>exact⟨0,by omega,rfl,_,aM,Wf.replicate _,by simp[za2],fun t _=>zcJ _ _,aK⟩
 case round=>
  obtain⟨i,hi,rfl,ls,aN,aX,aI,hz,aH⟩:=hrel;obtain⟨wo,rfl⟩:∃ wo:World,wo=wr:=⟨_,rfl⟩;have HV:=Aa aI;have HZ:=Aa hz;clear aI hz
  by_cases hin:i<n
  ·obtain⟨ad,rfl,bN,bJ⟩:=(ha.below aH).words.word (k:=i) hin
   have aV:=zaH (zaq x) i;obtain⟨f,aT⟩:∃ f,(digs x).getD i 0=f:=⟨_,rfl⟩;rw[aT] at bJ aV;have HF:=Aa aT;clear aT
   go_wp2_with fail
   go_loopw [8,26] (fun cy s wr=>∃ j c0:Nat,j≤n'∧c0<18446744073709551616∧s = .int .i64 j∧cy = .int .u64 c0∧zqK w wr n n' (digs x) (digs y) i j c0) (fun _ s _=>n'-(intOf s).toNat)
   case atStart=>exact⟨0,0,by omega,by omega,rfl,rfl,ls,aN,aX,by rw[HV.out];simp,HZ.out,aH⟩
   case round=>
    obtain⟨j,c0,hj,bB,rfl,rfl,l2,aA,aG,aF,aL,aD⟩:=hrel;have bC:=Aa aF;have aP:=Aa aL;clear aF aL
    by_cases hjn:j<n'
    ·obtain⟨bO,rfl,bP,bF⟩:=(hb.below aD).words.word (k:=j) hjn
     have aW:=zaH (zaq y) j;obtain⟨yk,aQ⟩:∃ yk,(digs y).getD j 0=yk:=⟨_,rfl⟩;rw[aQ] at bF aW;have aU:=aA.cell (i+j) (by omega);have bD:=aA.free (i+j);have bA:=zaH aG (i+j);obtain⟨o,aR⟩:∃ o,l2.getD (i+j) 0=o:=⟨_,rfl⟩;rw[aR] at aU bA;obtain⟨lo,aO,e1,bH,bG,aJ⟩:=zdA f yk o c0 aV aW bA bB;have HP:Hid (val (l2.set (i+j) lo)+B^(i+(j+1))*aO=val ((digs x).take i)*val (digs y)+B^i*((digs x).getD i 0*val ((digs y).take (j+1)))):=
      zeC l2 (digs y) i j _ _ lo aO c0 (by rw[aA.len];omega) bC.out (by rw[aQ,aR,HF.out];exact e1)
     have aS:Hid (∀ t,i+n'≤t→(l2.set (i+j) lo).getD t 0=0):=fun t ht=>by rw[zaM _ _ _ _ (by omega)];exact aP.out t ht
     clear e1 aQ aR
     go_wp2_with fail
     refine(aJ _).mono ?_;rintro e w' ⟨rfl,rfl⟩;go_wp2
     go_roundw
     case rel=>exact⟨j+1,aO,by omega,bG,by go_num,rfl,_,aA.set (i+j) lo,aG.set _ bH,HP.out,aS.out,aD.setCell (Nat.le_refl _) _⟩
     case measure=>simp[intOf]<;>omega
    ·obtain rfl:j=n':=by omega
     have aU:=aA.cell (i+j) (by omega);have bD:=aA.free (i+j);have HP:Hid (val (l2.set (i+j) c0)=val ((digs x).take (i+1))*val (digs y)):=
      zgl l2 (digs x) (digs y) i j c0 (by rw[aA.len];omega) (aP.out _ (Nat.le_refl _)) hB.out bC.out
     have aS:Hid (∀ t,i+1+j≤t→(l2.set (i+j) c0).getD t 0=0):=fun t ht=>by rw[zaM _ _ _ _ (by omega)];exact aP.out t (by omega)
     generalize l2.getD (i+j) 0=old at aU;go_wp2
     go_roundw
     case rel=>exact⟨i+1,by omega,by go_num,_,aA.set (i+j) c0,aG.set _ bB,HP.out,aS.out,aD.setCell (Nat.le_refl _) _⟩
     case measure=>simp[intOf]<;>omega
  ·obtain rfl:i=n:=by omega
   have hv:val ls=x*y:=by rw[HV.out,List.take_of_length_le (by rw[hA.out];exact Nat.le_refl _),zak,zak]
   have ht:=zdt (some ⟨w.heap.size,0,none⟩) (i+n') (i+n') ls wo aN.words aX (Nat.le_refl _) (by unfold maxLen;omega);rw[hv] at ht;have HC:=Aa ht;clear ht hv
   go_wp2_with fail
   refine HC.out.mono ?_;rintro e w1 ⟨m,rfl,bL,rfl⟩;go_wp2
   go_ret;exact⟨_,m,_,rfl,bL,aH⟩
end
end Go.Proofs.YtbkgkoenppkhpaaGreatDoor
