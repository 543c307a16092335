/- part 5 -/
import Derived.Shelf.Strings.Builder1
import Derived.Shelf.Strings.Builder2
import Derived.Shelf.Strings.Trim
import Derived.Shelf.Small.Utf8
import Derived.Shelf.Small.Bits
import Derived.Shelf.Small.Strs
import Derived.Shelf.Small.Wraps
import Derived.Shelf.Strings.BuilderF
import Derived.Shelf.Strings.BuilderK
import Derived.Shelf.Strings.Builder2Cap
import Derived.Shelf.Strconv.Itoa0
import Derived.Shelf.Strconv.Itoa1
import Derived.Shelf.LaysM
import Derived.Shelf.Strconv.Itoa2
import Derived.Shelf.Strconv.Itoa3
import Derived.Shelf.Strconv.Clone
import Derived.Shelf.Strconv.SyntaxError
import Derived.Shelf.LaysC
import Derived.Shelf.Strconv.ToError
import Derived.Shelf.Strconv.Lower
import Derived.Shelf.Strconv.ParseUint10
import Derived.Shelf.Strconv.ParseUint10Empty
import Derived.Shelf.Strconv.ParseUint10Any
import Derived.Shelf.Strconv.RangeError
import Derived.Shelf.Strconv.ToErrorRange
import Derived.Shelf.Strconv.ParseUintEmpty
import Derived.Shelf.Strconv.ParseUint10b64
import Derived.Shelf.Strconv.ParseUint10b32
import Derived.Shelf.Strconv.ParseUint10b16
import Derived.Shelf.Strconv.ParseUint10b8
import Derived.Shelf.Strconv.ParseUint10At
import Derived.Ground.MpProg
import Derived.Shelf.Pu.ParseUintPublic10
import Derived.Shelf.Pu.ErrVarParseUint
import Derived.Shelf.Strings.Search1
import Derived.Shelf.Strings.Search2
import Derived.Shelf.Strings.Cut
import Derived.Shelf.Strings.Shaped
import Derived.Shelf.Strings.Prefix
import Derived.Shelf.Strings.Runes
import Derived.Shelf.Strings.AsciiSet
import Derived.Shelf.Bits.Mul64
import Derived.Shelf.Unicode.DecodeSlow
import Derived.Shelf.Strings.BuilderCap
import Derived.Ground.Names2Prog
import Derived.Shelf.Slices.SearchI
import Derived.Test.YtfabfhcipkkflaaGreatDoorProg
import Derived.Test.YtfabfhcipkkflaaGreatDoorQb04
import Derived.Test.YtfabfhcipkkflaaGreatDoorQb01
import Derived.Lib.BitFns
import Derived.Laws.Bits64
set_option maxRecDepth 100000
set_option maxHeartbeats 8000000
namespace Go.Proofs
open Go.Shelf
def Tryz.lays160_ren:Go.Shelf.Ren:=⟨fun | 160=>158 | 232=>185 | 231=>184 | 227=>186 | 234=>188 | 233=>187 | 236=>190 | 235=>189 | 228=>207 | 271=>210 | 151=>209 | 197=>208 | 120=>222 | 152=>221 | 260=>220 | 137=>226 | 119=>227 | 224=>181 | 225=>180 | 217=>179 | 266=>205 | n=>n,fun | 9=>9 | 4=>4 | 3=>3 | 5=>5 | 117=>207 | 116=>206 | 0=>0 | 124=>210 | 21=>21 | 105=>228 | 46=>156 | 119=>247 | 139=>250 | 138=>249 | n=>n,fun | 3=>6 | 4=>7 | n=>n⟩
theorem Tryz.lays160:Go.Proofs.Lays.n160 Tryz.prog Tryz.lays160_ren:={
 mixed:=by kernel_rfl
 f119:=Tryz.func227.trans (congrArg some (by kernel_rfl))
 f120:=Tryz.func222.trans (congrArg some (by kernel_rfl))
 f137:=Tryz.func226.trans (congrArg some (by kernel_rfl))
 f151:=Tryz.func209.trans (congrArg some (by kernel_rfl))
 f152:=Tryz.func221.trans (congrArg some (by kernel_rfl))
 f160:=Tryz.func158.trans (congrArg some (by kernel_rfl))
 f197:=Tryz.func208.trans (congrArg some (by kernel_rfl))
 f217:=Tryz.func179.trans (congrArg some (by kernel_rfl))
 f224:=Tryz.func181.trans (congrArg some (by kernel_rfl))
 f225:=Tryz.func180.trans (congrArg some (by kernel_rfl))
 f227:=Tryz.func186.trans (congrArg some (by kernel_rfl))
 f228:=Tryz.func207.trans (congrArg some (by kernel_rfl))
 f231:=Tryz.func184.trans (congrArg some (by kernel_rfl))
 f232:=Tryz.func185.trans (congrArg some (by kernel_rfl))
 f233:=Tryz.func187.trans (congrArg some (by kernel_rfl))
 f234:=Tryz.func188.trans (congrArg some (by kernel_rfl))
 f235:=Tryz.func189.trans (congrArg some (by kernel_rfl))
 f236:=Tryz.func190.trans (congrArg some (by kernel_rfl))
 f260:=Tryz.func220.trans (congrArg some (by kernel_rfl))
 f266:=Tryz.func205.trans (congrArg some (by kernel_rfl))
 f271:=Tryz.func210.trans (congrArg some (by kernel_rfl))
 t0:=Tryz.underlying0
 a0:=Tryz.isAgg0
 z0:=Tryz.sizeOf0
 v0:=Tryz.zeroValue0
 t3:=Tryz.underlying3
 a3:=Tryz.isAgg3
 z3:=Tryz.sizeOf3
 v3:=Tryz.zeroValue3
 t4:=Tryz.underlying4
 a4:=Tryz.isAgg4
 z4:=Tryz.sizeOf4
 v4:=Tryz.zeroValue4
 t5:=Tryz.underlying5
 a5:=Tryz.isAgg5
 z5:=Tryz.sizeOf5
 v5:=Tryz.zeroValue5
 t9:=Tryz.underlying9
 a9:=Tryz.isAgg9
 z9:=Tryz.sizeOf9
 v9:=Tryz.zeroValue9
 t21:=Tryz.underlying21
 a21:=Tryz.isAgg21
 z21:=Tryz.sizeOf21
 v21:=Tryz.zeroValue21
 t46:=Tryz.underlying156
 a46:=Tryz.isAgg156
 z46:=Tryz.sizeOf156
 v46:=Tryz.zeroValue156
 t105:=Tryz.underlying228
 a105:=Tryz.isAgg228
 z105:=Tryz.sizeOf228
 v105:=Tryz.zeroValue228
 t116:=Tryz.underlying206
 a116:=Tryz.isAgg206
 z116:=Tryz.sizeOf206
 t117:=Tryz.underlying207
 a117:=Tryz.isAgg207
 z117:=Tryz.sizeOf207
 v117:=Tryz.zeroValue207
 t119:=Tryz.underlying247
 a119:=Tryz.isAgg247
 z119:=Tryz.sizeOf247
 t124:=Tryz.underlying210
 a124:=Tryz.isAgg210
 z124:=Tryz.sizeOf210
 v124:=Tryz.zeroValue210
 t138:=Tryz.underlying249
 a138:=Tryz.isAgg249
 z138:=Tryz.sizeOf249
 v138:=Tryz.zeroValue249
 t139:=Tryz.underlying250
 a139:=Tryz.isAgg250
 z139:=Tryz.sizeOf250
 v139:=Tryz.zeroValue250
 g3:=by kernel_rfl
 g4:=by kernel_rfl }
def Tryz.lays134_ren:Go.Shelf.Ren:=⟨fun | 134=>171 | 129=>150 | n=>n,fun | 53=>149 | 3=>3 | 4=>4 | 46=>156 | 5=>5 | 9=>9 | n=>n,fun | n=>n⟩
theorem Tryz.lays134:Go.Proofs.Lays.n134 Tryz.prog Tryz.lays134_ren:={
 mixed:=by kernel_rfl
 f129:=Tryz.func150.trans (congrArg some (by kernel_rfl))
 f134:=Tryz.func171.trans (congrArg some (by kernel_rfl))
 t3:=Tryz.underlying3
 a3:=Tryz.isAgg3
 z3:=Tryz.sizeOf3
 v3:=Tryz.zeroValue3
 t4:=Tryz.underlying4
 a4:=Tryz.isAgg4
 z4:=Tryz.sizeOf4
 v4:=Tryz.zeroValue4
 t5:=Tryz.underlying5
 a5:=Tryz.isAgg5
 z5:=Tryz.sizeOf5
 v5:=Tryz.zeroValue5
 t9:=Tryz.underlying9
 a9:=Tryz.isAgg9
 z9:=Tryz.sizeOf9
 v9:=Tryz.zeroValue9
 t46:=Tryz.underlying156
 a46:=Tryz.isAgg156
 z46:=Tryz.sizeOf156
 v46:=Tryz.zeroValue156
 t53:=Tryz.underlying149
 a53:=Tryz.isAgg149
 z53:=Tryz.sizeOf149
 v53:=Tryz.zeroValue149 }
theorem Tryz.bits_LeadingZeros64 (x:Int) (w:World) (h0:0≤x) (h1:x≤18446744073709551615) :
   Calls Tryz.prog 171 #[.int .u64 x] w fun e w'=>e=.returned (.int .i64 (64 - (Lib.bitLen x.toNat:Int)))∧w'=w:=Any.bits_LeadingZeros64 Tryz.lays134 x w h0 h1
def Tryz.lays103_ren:Go.Shelf.Ren:=⟨fun | 103=>135 | 210=>157 | 206=>183 | n=>n,fun | 9=>9 | 4=>4 | 24=>159 | 3=>3 | n=>n,fun | n=>n⟩
theorem Tryz.lays103:Go.Proofs.Lays.n103 Tryz.prog Tryz.lays103_ren:={
 mixed:=by kernel_rfl
 f103:=Tryz.func135.trans (congrArg some (by kernel_rfl))
 f206:=Tryz.func183.trans (congrArg some (by kernel_rfl))
 f210:=Tryz.func157.trans (congrArg some (by kernel_rfl))
 t3:=Tryz.underlying3
 a3:=Tryz.isAgg3
 z3:=Tryz.sizeOf3
 v3:=Tryz.zeroValue3
 t4:=Tryz.underlying4
 a4:=Tryz.isAgg4
 z4:=Tryz.sizeOf4
 v4:=Tryz.zeroValue4
 t9:=Tryz.underlying9
 a9:=Tryz.isAgg9
 z9:=Tryz.sizeOf9
 v9:=Tryz.zeroValue9
 t24:=Tryz.underlying159
 a24:=Tryz.isAgg159
 z24:=Tryz.sizeOf159
 v24:=Tryz.zeroValue159 }
open Go.RowKit in
theorem Tryz.strings_CutPrefix (s p:ByteArray) (w:World) :
   Calls Tryz.prog 135 #[.string s,.string p] w fun e w'=>e=.returned (.tuple #[.string ⟨(Lib.trimPrefix s.data.toList p.data.toList).toArray⟩,.bool (Lib.hasPrefix s.data.toList p.data.toList)])∧w'=w:=Any.strings_CutPrefix Tryz.lays103 s p w
def Tryz.lays129_ren:Go.Shelf.Ren:=⟨fun | 129=>150 | n=>n,fun | 53=>149 | 3=>3 | 4=>4 | 46=>156 | 5=>5 | 9=>9 | n=>n,fun | n=>n⟩
theorem Tryz.lays129:Go.Proofs.Lays.n129 Tryz.prog Tryz.lays129_ren:={
 mixed:=by kernel_rfl
 f129:=Tryz.func150.trans (congrArg some (by kernel_rfl))
 t3:=Tryz.underlying3
 a3:=Tryz.isAgg3
 z3:=Tryz.sizeOf3
 v3:=Tryz.zeroValue3
 t4:=Tryz.underlying4
 a4:=Tryz.isAgg4
 z4:=Tryz.sizeOf4
 v4:=Tryz.zeroValue4
 t5:=Tryz.underlying5
 a5:=Tryz.isAgg5
 z5:=Tryz.sizeOf5
 v5:=Tryz.zeroValue5
 t9:=Tryz.underlying9
 a9:=Tryz.isAgg9
 z9:=Tryz.sizeOf9
 v9:=Tryz.zeroValue9
 t46:=Tryz.underlying156
 a46:=Tryz.isAgg156
 z46:=Tryz.sizeOf156
 v46:=Tryz.zeroValue156
 t53:=Tryz.underlying149
 a53:=Tryz.isAgg149
 z53:=Tryz.sizeOf149
 v53:=Tryz.zeroValue149 }
theorem Tryz.bits_Len64 (x:Int) (w:World) (h0:0≤x) (h1:x≤18446744073709551615) :
   Calls Tryz.prog 150 #[.int .u64 x] w fun e w'=>e=.returned (.int .i64 (Lib.bitLen x.toNat))∧w'=w:=Any.bits_Len64 Tryz.lays129 x w h0 h1
def Tryz.lays283_ren:Go.Shelf.Ren:=⟨fun | 283=>198 | n=>n,fun | 3=>3 | 9=>9 | 4=>4 | n=>n,fun | n=>n⟩
theorem Tryz.lays283:Go.Proofs.Lays.n283 Tryz.prog Tryz.lays283_ren:={
 mixed:=by kernel_rfl
 f283:=Tryz.func198.trans (congrArg some (by kernel_rfl))
 t3:=Tryz.underlying3
 a3:=Tryz.isAgg3
 z3:=Tryz.sizeOf3
 v3:=Tryz.zeroValue3
 t4:=Tryz.underlying4
 a4:=Tryz.isAgg4
 z4:=Tryz.sizeOf4
 v4:=Tryz.zeroValue4
 t9:=Tryz.underlying9
 a9:=Tryz.isAgg9
 z9:=Tryz.sizeOf9
 v9:=Tryz.zeroValue9 }
open Go.Lib in
theorem Tryz.internal_strconv_small (i:Nat) (h:i < 100) (w:World) :
   Calls Tryz.prog 198 #[.int .i64 i] w fun e w'=>e=.returned (.string ⟨(Lib.decDigits i).toArray⟩)∧w'=w:=Any.internal_strconv_small Tryz.lays283 i h w
def Tryz.laysM284_ren:Go.Shelf.Ren:=⟨fun | 284=>199 | 129=>150 | 317=>214 | 318=>215 | n=>n,fun | 53=>149 | 3=>3 | 212=>236 | 0=>0 | 4=>4 | 46=>156 | 5=>5 | 9=>9 | n=>n,fun | 17=>5 | n=>n⟩
theorem Tryz.laysM284:Go.Proofs.LaysM.n284 Tryz.prog Tryz.laysM284_ren:={
 mixed:=by kernel_rfl
 f129:=Tryz.func150.trans (congrArg some (by kernel_rfl))
 f284:=Tryz.func199.trans (congrArg some (by kernel_rfl))
 f317:=Tryz.func214.trans (congrArg some (by kernel_rfl))
 f318:=Tryz.func215.trans (congrArg some (by kernel_rfl))
 t0:=Tryz.underlying0
 a0:=Tryz.isAgg0
 z0:=Tryz.sizeOf0
 v0:=Tryz.zeroValue0
 t3:=Tryz.underlying3
 a3:=Tryz.isAgg3
 z3:=Tryz.sizeOf3
 v3:=Tryz.zeroValue3
 t4:=Tryz.underlying4
 a4:=Tryz.isAgg4
 z4:=Tryz.sizeOf4
 v4:=Tryz.zeroValue4
 t5:=Tryz.underlying5
 a5:=Tryz.isAgg5
 z5:=Tryz.sizeOf5
 v5:=Tryz.zeroValue5
 t9:=Tryz.underlying9
 a9:=Tryz.isAgg9
 z9:=Tryz.sizeOf9
 v9:=Tryz.zeroValue9
 t46:=Tryz.underlying156
 a46:=Tryz.isAgg156
 z46:=Tryz.sizeOf156
 v46:=Tryz.zeroValue156
 t53:=Tryz.underlying149
 a53:=Tryz.isAgg149
 z53:=Tryz.sizeOf149
 v53:=Tryz.zeroValue149
 t212:=Tryz.underlying236
 a212:=Tryz.isAgg236
 z212:=Tryz.sizeOf236
 v212:=Tryz.zeroValue236
 g17:=by kernel_rfl
 i0:=by kernel_rfl
 i3:=by kernel_rfl
 i4:=by kernel_rfl
 i5:=by kernel_rfl
 i9:=by kernel_rfl
 i46:=by kernel_rfl
 i53:=by kernel_rfl
 i212:=by kernel_rfl
 m17:=by kernel_rfl }
open Go.Lib in
theorem Tryz.internal_strconv_numDigits (u:Nat) (h1:1≤u) (h2:u < 18446744073709551616) (w:World) (htab:Lib.TabIs Tryz.prog w "internal/strconv.uint64pow10" .u64 Lib.pow10Tab) :
   Calls Tryz.prog 199 #[.int .u64 u] w fun e w'=>e=.returned (.int .i64 (Lib.nDigits u))∧w'=w:=Any.internal_strconv_numDigits Tryz.laysM284 u h1 h2 w htab
def Tryz.lays285_ren:Go.Shelf.Ren:=⟨fun | 285=>200 | n=>n,fun | 37=>191 | 53=>149 | 3=>3 | 4=>4 | 51=>222 | 9=>9 | 5=>5 | 0=>0 | n=>n,fun | n=>n⟩
theorem Tryz.lays285:Go.Proofs.Lays.n285 Tryz.prog Tryz.lays285_ren:={
 mixed:=by kernel_rfl
 f285:=Tryz.func200.trans (congrArg some (by kernel_rfl))
 t0:=Tryz.underlying0
 a0:=Tryz.isAgg0
 z0:=Tryz.sizeOf0
 v0:=Tryz.zeroValue0
 t3:=Tryz.underlying3
 a3:=Tryz.isAgg3
 z3:=Tryz.sizeOf3
 v3:=Tryz.zeroValue3
 t4:=Tryz.underlying4
 a4:=Tryz.isAgg4
 z4:=Tryz.sizeOf4
 v4:=Tryz.zeroValue4
 t5:=Tryz.underlying5
 a5:=Tryz.isAgg5
 z5:=Tryz.sizeOf5
 v5:=Tryz.zeroValue5
 t9:=Tryz.underlying9
 a9:=Tryz.isAgg9
 z9:=Tryz.sizeOf9
 v9:=Tryz.zeroValue9
 t37:=Tryz.underlying191
 a37:=Tryz.isAgg191
 z37:=Tryz.sizeOf191
 v37:=Tryz.zeroValue191
 t51:=Tryz.underlying222
 a51:=Tryz.isAgg222
 z51:=Tryz.sizeOf222
 v51:=Tryz.zeroValue222
 t53:=Tryz.underlying149
 a53:=Tryz.isAgg149
 z53:=Tryz.sizeOf149
 v53:=Tryz.zeroValue149 }
open Go.RowKit Go.Sort Go.Lib in
theorem Tryz.internal_strconv_formatBase10 (blk off cap:Nat) (u:Nat) (d:Array UInt8) (w:World) (hH:Holds (fun (b:UInt8)=>Value.int .u8 (b.toNat:Int)) w blk off d) (hu:u < 10 ^ d.size) (hu64:u < 18446744073709551616) (hsz:d.size < 4611686018427387904) :
   Calls Tryz.prog 200 #[.slice (some ⟨blk,off,none⟩) d.size cap,.int .u64 u] w fun e w' =>
    e=.returned (.tuple #[])∧∃ (n v':Nat) (dk:Array UInt8),w'=(putRow (fun (b:UInt8)=>Value.int .u8 (b.toNat:Int)) w blk off dk).drewN n∧FmtInv d.size u 0 v' dk:=Any.internal_strconv_formatBase10 Tryz.lays285 blk off cap u d w hH hu hu64 hsz
def Tryz.laysPu14_ren:Go.Shelf.Ren:=⟨fun | 14=>138 | 16=>160 | 17=>161 | 19=>191 | 20=>192 | 21=>193 | 22=>194 | 23=>195 | 24=>196 | 25=>211 | 27=>213 | 26=>212 | 28=>223 | 29=>228 | 30=>198 | 31=>199 | 32=>200 | 33=>201 | 35=>150 | 34=>214 | 36=>215 | 37=>216 | 38=>217 | 39=>224 | 40=>225 | n=>n,fun | 9=>9 | 3=>3 | 22=>149 | 24=>163 | 25=>164 | 4=>4 | 34=>211 | 5=>5 | 36=>156 | 37=>191 | 0=>0 | 39=>213 | 21=>21 | 44=>233 | 47=>225 | 50=>245 | 48=>243 | 2=>2 | 52=>218 | 55=>220 | 59=>236 | 60=>222 | 20=>20 | 61=>237 | 65=>253 | 66=>254 | 67=>145 | n=>n,fun | 0=>3 | 1=>4 | 2=>5 | 3=>8 | 4=>9 | n=>n⟩
theorem Tryz.laysPu14:Go.Proofs.LaysPu.n14 Tryz.prog Tryz.laysPu14_ren:={
 mixed:=by kernel_rfl
 f14:=Tryz.func138.trans (congrArg some (by kernel_rfl))
 f16:=Tryz.func160.trans (congrArg some (by kernel_rfl))
 f17:=Tryz.func161.trans (congrArg some (by kernel_rfl))
 f19:=Tryz.func191.trans (congrArg some (by kernel_rfl))
 f20:=Tryz.func192.trans (congrArg some (by kernel_rfl))
 f21:=Tryz.func193.trans (congrArg some (by kernel_rfl))
 f22:=Tryz.func194.trans (congrArg some (by kernel_rfl))
 f23:=Tryz.func195.trans (congrArg some (by kernel_rfl))
 f24:=Tryz.func196.trans (congrArg some (by kernel_rfl))
 f25:=Tryz.func211.trans (congrArg some (by kernel_rfl))
 f26:=Tryz.func212.trans (congrArg some (by kernel_rfl))
 f27:=Tryz.func213.trans (congrArg some (by kernel_rfl))
 f28:=Tryz.func223.trans (congrArg some (by kernel_rfl))
 f29:=Tryz.func228.trans (congrArg some (by kernel_rfl))
 f30:=Tryz.func198.trans (congrArg some (by kernel_rfl))
 f31:=Tryz.func199.trans (congrArg some (by kernel_rfl))
 f32:=Tryz.func200.trans (congrArg some (by kernel_rfl))
 f33:=Tryz.func201.trans (congrArg some (by kernel_rfl))
 f34:=Tryz.func214.trans (congrArg some (by kernel_rfl))
 f35:=Tryz.func150.trans (congrArg some (by kernel_rfl))
 f36:=Tryz.func215.trans (congrArg some (by kernel_rfl))
 f37:=Tryz.func216.trans (congrArg some (by kernel_rfl))
 f38:=Tryz.func217.trans (congrArg some (by kernel_rfl))
 f39:=Tryz.func224.trans (congrArg some (by kernel_rfl))
 f40:=Tryz.func225.trans (congrArg some (by kernel_rfl))
 t0:=Tryz.underlying0
 a0:=Tryz.isAgg0
 z0:=Tryz.sizeOf0
 v0:=Tryz.zeroValue0
 i0:=by kernel_rfl
 t2:=Tryz.underlying2
 a2:=Tryz.isAgg2
 z2:=Tryz.sizeOf2
 v2:=Tryz.zeroValue2
 i2:=by kernel_rfl
 t3:=Tryz.underlying3
 a3:=Tryz.isAgg3
 z3:=Tryz.sizeOf3
 v3:=Tryz.zeroValue3
 i3:=by kernel_rfl
 t4:=Tryz.underlying4
 a4:=Tryz.isAgg4
 z4:=Tryz.sizeOf4
 v4:=Tryz.zeroValue4
 i4:=by kernel_rfl
 t5:=Tryz.underlying5
 a5:=Tryz.isAgg5
 z5:=Tryz.sizeOf5
 v5:=Tryz.zeroValue5
 i5:=by kernel_rfl
 t9:=Tryz.underlying9
 a9:=Tryz.isAgg9
 z9:=Tryz.sizeOf9
 v9:=Tryz.zeroValue9
 i9:=by kernel_rfl
 t20:=Tryz.underlying20
 a20:=Tryz.isAgg20
 z20:=Tryz.sizeOf20
 v20:=Tryz.zeroValue20
 i20:=by kernel_rfl
 t21:=Tryz.underlying21
 a21:=Tryz.isAgg21
 z21:=Tryz.sizeOf21
 v21:=Tryz.zeroValue21
 i21:=by kernel_rfl
 t22:=Tryz.underlying149
 a22:=Tryz.isAgg149
 z22:=Tryz.sizeOf149
 v22:=Tryz.zeroValue149
 i22:=by kernel_rfl
 t24:=Tryz.underlying163
 a24:=Tryz.isAgg163
 z24:=Tryz.sizeOf163
 v24:=Tryz.zeroValue163
 i24:=by kernel_rfl
 t25:=Tryz.underlying164
 a25:=Tryz.isAgg164
 z25:=Tryz.sizeOf164
 v25:=Tryz.zeroValue164
 i25:=by kernel_rfl
 t34:=Tryz.underlying211
 a34:=Tryz.isAgg211
 z34:=Tryz.sizeOf211
 v34:=Tryz.zeroValue211
 i34:=by kernel_rfl
 c34:=by kernel_rfl
 t36:=Tryz.underlying156
 a36:=Tryz.isAgg156
 z36:=Tryz.sizeOf156
 v36:=Tryz.zeroValue156
 i36:=by kernel_rfl
 t37:=Tryz.underlying191
 a37:=Tryz.isAgg191
 z37:=Tryz.sizeOf191
 v37:=Tryz.zeroValue191
 i37:=by kernel_rfl
 t39:=Tryz.underlying213
 a39:=Tryz.isAgg213
 z39:=Tryz.sizeOf213
 v39:=Tryz.zeroValue213
 i39:=by kernel_rfl
 t44:=Tryz.underlying233
 a44:=Tryz.isAgg233
 z44:=Tryz.sizeOf233
 v44:=Tryz.zeroValue233
 i44:=by kernel_rfl
 t47:=Tryz.underlying225
 a47:=Tryz.isAgg225
 z47:=Tryz.sizeOf225
 v47:=Tryz.zeroValue225
 i47:=by kernel_rfl
 t48:=Tryz.underlying243
 a48:=Tryz.isAgg243
 z48:=Tryz.sizeOf243
 v48:=Tryz.zeroValue243
 i48:=by kernel_rfl
 t50:=Tryz.underlying245
 a50:=Tryz.isAgg245
 z50:=Tryz.sizeOf245
 v50:=Tryz.zeroValue245
 i50:=by kernel_rfl
 t52:=Tryz.underlying218
 a52:=Tryz.isAgg218
 z52:=Tryz.sizeOf218
 v52:=Tryz.zeroValue218
 i52:=by kernel_rfl
 t55:=Tryz.underlying220
 a55:=Tryz.isAgg220
 z55:=Tryz.sizeOf220
 v55:=Tryz.zeroValue220
 i55:=by kernel_rfl
 t59:=Tryz.underlying236
 a59:=Tryz.isAgg236
 z59:=Tryz.sizeOf236
 v59:=Tryz.zeroValue236
 i59:=by kernel_rfl
 t60:=Tryz.underlying222
 a60:=Tryz.isAgg222
 z60:=Tryz.sizeOf222
 v60:=Tryz.zeroValue222
 i60:=by kernel_rfl
 t61:=Tryz.underlying237
 a61:=Tryz.isAgg237
 z61:=Tryz.sizeOf237
 t65:=Tryz.underlying253
 a65:=Tryz.isAgg253
 z65:=Tryz.sizeOf253
 v65:=Tryz.zeroValue253
 i65:=by kernel_rfl
 t66:=Tryz.underlying254
 a66:=Tryz.isAgg254
 z66:=Tryz.sizeOf254
 v66:=Tryz.zeroValue254
 i66:=by kernel_rfl
 t67:=Tryz.underlying145
 a67:=Tryz.isAgg145
 z67:=Tryz.sizeOf145
 v67:=Tryz.zeroValue145
 i67:=by kernel_rfl
 g0:=by kernel_rfl
 m0:=by kernel_rfl
 g1:=by kernel_rfl
 m1:=by kernel_rfl
 g2:=by kernel_rfl
 m2:=by kernel_rfl
 g3:=by kernel_rfl
 m3:=by kernel_rfl
 g4:=by kernel_rfl
 m4:=by kernel_rfl }
open Go.RowKit in
theorem Tryz.strconv_ParseUint_10_at64_ok (s:ByteArray) (hmax:s.size≤9223372036854775806) (u:Nat) (h:Lib.parseUintB 64 s.data.toList=.ok u) (w:World) :
   Calls Tryz.prog 138 #[.string s,.int .i64 10,.int .i64 64] w fun e w'=>e=.returned (.tuple #[.int .u64 u,.nilIface])∧(w'=w∨w'=Lib.bytesWorld w 5 s):=Any.strconv_ParseUint_10_at64_ok Tryz.laysPu14 s hmax u h w
def Tryz.lays145_ren:Go.Shelf.Ren:=⟨fun | 145=>98 | 220=>134 | 219=>156 | 217=>179 | 225=>180 | 224=>181 | 267=>182 | 266=>205 | 314=>206 | n=>n,fun | 9=>9 | 4=>4 | 59=>130 | 3=>3 | 5=>5 | 46=>156 | 146=>223 | 51=>222 | n=>n,fun | 1=>0 | n=>n⟩
theorem Tryz.lays145:Go.Proofs.Lays.n145 Tryz.prog Tryz.lays145_ren:={
 mixed:=by kernel_rfl
 f145:=Tryz.func98.trans (congrArg some (by kernel_rfl))
 f217:=Tryz.func179.trans (congrArg some (by kernel_rfl))
 f219:=Tryz.func156.trans (congrArg some (by kernel_rfl))
 f220:=Tryz.func134.trans (congrArg some (by kernel_rfl))
 f224:=Tryz.func181.trans (congrArg some (by kernel_rfl))
 f225:=Tryz.func180.trans (congrArg some (by kernel_rfl))
 f266:=Tryz.func205.trans (congrArg some (by kernel_rfl))
 f267:=Tryz.func182.trans (congrArg some (by kernel_rfl))
 f314:=Tryz.func206.trans (congrArg some (by kernel_rfl))
 t3:=Tryz.underlying3
 a3:=Tryz.isAgg3
 z3:=Tryz.sizeOf3
 v3:=Tryz.zeroValue3
 t4:=Tryz.underlying4
 a4:=Tryz.isAgg4
 z4:=Tryz.sizeOf4
 v4:=Tryz.zeroValue4
 t5:=Tryz.underlying5
 a5:=Tryz.isAgg5
 z5:=Tryz.sizeOf5
 v5:=Tryz.zeroValue5
 t9:=Tryz.underlying9
 a9:=Tryz.isAgg9
 z9:=Tryz.sizeOf9
 v9:=Tryz.zeroValue9
 t46:=Tryz.underlying156
 a46:=Tryz.isAgg156
 z46:=Tryz.sizeOf156
 v46:=Tryz.zeroValue156
 t51:=Tryz.underlying222
 a51:=Tryz.isAgg222
 z51:=Tryz.sizeOf222
 v51:=Tryz.zeroValue222
 t59:=Tryz.underlying130
 a59:=Tryz.isAgg130
 z59:=Tryz.sizeOf130
 v59:=Tryz.zeroValue130
 t146:=Tryz.underlying223
 a146:=Tryz.isAgg223
 z146:=Tryz.sizeOf223
 v146:=Tryz.zeroValue223
 g1:=by kernel_rfl }
open Go.RowKit Go.Lib in
theorem Tryz.strings_Cut (s sep:ByteArray) (m:Int) (w:World) (hs:s.size < 4294967281) (hm:w.cell? ⟨0,0,none⟩=some (.int .i64 m)) :
   Calls Tryz.prog 98 #[.string s,.string sep] w fun e w'=>e=.returned (.tuple #[.string ⟨(Lib.cut s.data.toList sep.data.toList).1.toArray⟩,.string ⟨(Lib.cut s.data.toList sep.data.toList).2.1.toArray⟩,.bool (Lib.cut s.data.toList sep.data.toList).2.2])∧∃ n,w'=w.drewN n:=Any.strings_Cut Tryz.lays145 s sep m w hs hm
def Tryz.lays101_ren:Go.Shelf.Ren:=⟨fun | 101=>137 | 208=>159 | 206=>183 | n=>n,fun | 9=>9 | 4=>4 | 3=>3 | n=>n,fun | n=>n⟩
theorem Tryz.lays101:Go.Proofs.Lays.n101 Tryz.prog Tryz.lays101_ren:={
 mixed:=by kernel_rfl
 f101:=Tryz.func137.trans (congrArg some (by kernel_rfl))
 f206:=Tryz.func183.trans (congrArg some (by kernel_rfl))
 f208:=Tryz.func159.trans (congrArg some (by kernel_rfl))
 t3:=Tryz.underlying3
 a3:=Tryz.isAgg3
 z3:=Tryz.sizeOf3
 v3:=Tryz.zeroValue3
 t4:=Tryz.underlying4
 a4:=Tryz.isAgg4
 z4:=Tryz.sizeOf4
 v4:=Tryz.zeroValue4
 t9:=Tryz.underlying9
 a9:=Tryz.isAgg9
 z9:=Tryz.sizeOf9
 v9:=Tryz.zeroValue9 }
open Go.RowKit Go.Lib in
theorem Tryz.strings_TrimPrefix (s p:ByteArray) (w:World) :
   Calls Tryz.prog 137 #[.string s,.string p] w fun e w'=>e=.returned (.string ⟨(Lib.trimPrefix s.data.toList p.data.toList).toArray⟩)∧w'=w:=Any.strings_TrimPrefix Tryz.lays101 s p w
def Tryz.lays264_ren:Go.Shelf.Ren:=⟨fun | 264=>197 | n=>n,fun | 53=>149 | 46=>156 | n=>n,fun | n=>n⟩
theorem Tryz.lays264:Go.Proofs.Lays.n264 Tryz.prog Tryz.lays264_ren:={
 mixed:=by kernel_rfl
 f264:=Tryz.func197.trans (congrArg some (by kernel_rfl))
 t46:=Tryz.underlying156
 a46:=Tryz.isAgg156
 z46:=Tryz.sizeOf156
 v46:=Tryz.zeroValue156
 t53:=Tryz.underlying149
 a53:=Tryz.isAgg149
 z53:=Tryz.sizeOf149
 v53:=Tryz.zeroValue149 }
open Go.RowKit Go.Lib in
theorem Tryz.bits_Mul64 (x y:Nat) (hx:x < 18446744073709551616) (hy:y < 18446744073709551616) (w:World) :
   Calls Tryz.prog 197 #[.int .u64 x,.int .u64 y] w fun e w'=>e=.returned (.tuple #[.int .u64 ((x * y / 18446744073709551616:Nat):Int),.int .u64 ((x * y % 18446744073709551616:Nat):Int)])∧w'=w:=Any.bits_Mul64 Tryz.lays264 x y hx hy w
end Go.Proofs
namespace Go.Proofs.YtfabfhcipkkflaaGreatDoor.E3
open Go.RowKit Rg Nt Me Ow E1
theorem run_mul64 (x y h l:Nat) (hx:x < 2 ^ 64) (hy:y < 2 ^ 64) (hh:h=x * y / 2 ^ 64) (hl:l=x * y % 2 ^ 64) (w:World) :
   Calls Tryz.prog 197 #[.int .u64 x,.int .u64 y] w fun e w'=>e=.returned (.tuple #[.int .u64 h,.int .u64 l])∧w'=w:=by
 subst hh;subst hl
 exact Go.Proofs.Tryz.bits_Mul64 x y hx hy w
structure MulInv (q m:List Nat) (x o k cr:Nat) (r:List Nat):Prop where
 len:r.length=q.length
 digs:Digs (2 ^ 64) r
 lo:r.take o=q.take o
 hi:r.drop (o+k)=q.drop (o+k)
 carry:cr < 2 ^ 64
 sum:val (2 ^ 64) ((r.drop o).take k)+(2 ^ 64) ^ k * cr=val (2 ^ 64) ((q.drop o).take k)+x * val (2 ^ 64) (m.take k)
theorem getD_drop (q:List Nat) (o k:Nat):(q.drop o).getD k 0=q.getD (o+k) 0:=by
 simp [List.getD_eq_getElem?_getD,List.getElem?_drop]
theorem MulInv.same {q m r:List Nat} {x o k cr:Nat} (h:MulInv q m x o k cr r):r.getD (o+k) 0=q.getD (o+k) 0:=by
 have:=congrArg (fun l=>l.getD 0 0) h.hi
 simpa [getD_drop] using this
theorem digit_bound {q x y c:Nat} (hq:q < 2 ^ 64) (hx:x < 2 ^ 64) (hy:y < 2 ^ 64) (hc:c < 2 ^ 64):(q+x * y+c) / 2 ^ 64 < 2 ^ 64:=by
 have h1:x * y≤(2 ^ 64 - 1) * (2 ^ 64 - 1):=Nat.mul_le_mul (by omega) (by omega)
 omega
theorem MulInv.step {q m r:List Nat} {x o k cr:Nat} (h:MulInv q m x o k cr r) (dq:Digs (2 ^ 64) q) (dm:Digs (2 ^ 64) m) (hx:x < 2 ^ 64) (hk:k < m.length) (ho:o+m.length≤q.length) :
   MulInv q m x o (k+1) ((q.getD (o+k) 0+x * m.getD k 0+cr) / 2 ^ 64) (r.set (o+k) ((q.getD (o+k) 0+x * m.getD k 0+cr) % 2 ^ 64)):=by
 have h1:=dq.getD (by omega) (o+k)
 have h2:=dm.getD (by omega) k
 refine ⟨by simpa using h.len,h.digs.set _ (Nat.mod_lt _ (by omega)),?_,?_,digit_bound h1 hx h2 h.carry,?_⟩
 ·rw [List.take_set_of_le (by omega),h.lo]
 ·rw [List.drop_set_of_lt (by omega)]
  have:=congrArg (List.drop 1) h.hi
  simpa [List.drop_drop,Nat.add_assoc] using this
 ·have e:(r.set (o+k) ((q.getD (o+k) 0+x * m.getD k 0+cr) % 2 ^ 64)).drop o=(r.drop o).set k ((q.getD (o+k) 0+x * m.getD k 0+cr) % 2 ^ 64):=by
    rw [List.drop_set,if_neg (by omega)];congr 1;omega
  rw [e,carry_step (t:=q.getD (o+k) 0+x * m.getD k 0) (by have:=h.len;simp;omega) h.sum _ _ (by omega),val_take_succ,val_take_succ,getD_drop]
  simp only [Nat.mul_add]
  rw [Nat.mul_left_comm x]
  omega
def Apart (v:Value) (g:Nat):Prop:=∀ ad n c,v=.slice (some ad) n c→n≠0→ad.block≠g
theorem apart_of_sl {k:IntKind} {w:World} {A:Option Addr} {n c g:Nat} {l:List Nat} (h:Sl k w (.slice A n c) l) (hg:w.heap.size≤g):Apart (.slice A n c) g:=by
 intro ad n1 c1 e hn
 injection e with e1 e2 e3
 subst e2
 obtain ⟨b,off,e,hc⟩:=h.at_ (i:=0) (by omega)
 rw [e] at e1
 injection e1 with e1
 have:=block_lt hc
 subst e1
 simp at this ⊢
 omega
theorem Sl_grown {k:IntKind} {w w':World} {A:Option Addr} {n c g:Nat} {l:List Nat} (h:Sl k w (.slice A n c) l) (ha:Apart (.slice A n c) g) (hg:w.grownBy w' (some g)):Sl k w' (.slice A n c) l:=by
 obtain ⟨A',c',e,hc,hr⟩:=h
 refine ⟨A',c',e,hc,fun hne=>?_⟩
 obtain ⟨b,off,ea,hcell⟩:=hr hne
 refine ⟨b,off,ea,fun j x hx=>?_⟩
 exact hg.cell (hcell j x hx) (by intro hb;injection hb with hb;injection e with e1;rw [ea] at e1;subst e1;exact ha _ _ _ rfl (by intro h0;rename_i e2 _;rw [h0] at e2;exact hne (List.eq_nil_of_length_eq_zero e2.symm)) hb)
theorem grown_set {w wr:World} {g:Nat} (h:w.grownBy wr (some g)) (o:Nat) (u:Value):w.grownBy (wr.setCell ⟨g,o,none⟩ u) (some g) :=
 ⟨h.os,h.tape,h.output,by have:=h.size;simpa [World.setCell] using this,fun k hk hne=>(Below.heap_setCell wr ⟨g,o,none⟩ u k (by intro e;exact hne (by rw [e]))).trans (h.block k hk hne)⟩
def AddMul (w:World) (g o x:Nat) (q m:List Nat) (e:Ending) (w':World):Prop :=
 ∃ r cr,e=.returned (.int .u64 (cr:Nat))∧Own w' g r∧w.grownBy w' (some g)∧MulInv q m x o m.length cr r
theorem c_addMultiple (g o n ca:Nat) (A':Option Addr) (c' x:Nat) (q m:List Nat) (w:World) (hO:Own w g q) (h':Sl .u64 w (.slice A' n c') m) (ha:Apart (.slice A' n c') g)
   (dq:Digs (2 ^ 64) q) (dm:Digs (2 ^ 64) m) (hx:x < 2 ^ 64) (hn:n≤4294967296) (ho:o+n≤q.length) :
   Calls Tryz.prog 162 #[.slice (some ⟨g,o,none⟩) n ca,.slice A' n c',.int .u64 x] w (AddMul w g o x q m):=by
 have hm:=h'.len
 have hinv:MulInv q m x o 0 0 q:=⟨rfl,dq,rfl,rfl,by omega,by simp [val]⟩
 have HM:=Lib.hid hm;clear hm
 go_enter Tryz.func162,Tryz.ntmps162
 go_wp2
 go_loopw [7,16] (fun cy i wr=>∃ (k cr:Nat) (r:List Nat),k≤n∧i=.int .i64 k∧cy=.int .u64 cr∧Own wr g r∧MulInv q m x o k cr r∧w.grownBy wr (some g)) (fun _ i _=>n - (intOf i).toNat)
 case atStart=>exact ⟨0,0,q,Nat.zero_le _,rfl,rfl,hO,hinv,World.grownBy.refl w _⟩
 case round =>
  obtain ⟨k,cr,r,hk,rfl,rfl,hor,hi,hgr⟩:=hrel
  clear hinv hO
  by_cases hlt:k < n
  ·obtain ⟨b,off,rfl,hy⟩:=(Sl_grown h' ha hgr).at_ hlt
   have hml:=HM.out
   have dy:=dm.getD (by omega) k
   have dqk:=dq.getD (by omega) (o+k)
   have hcr:=hi.carry
   have hstep:=hi.step dq dm hx (by omega) (by omega)
   have hsame:=hi.same
   have hcg:=hor.cell (i:=o+k) (by have:=hi.len;omega)
   have hfg:=hor.frozen (o+k)
   rw [hsame] at hcg
   have hd:=digit_bound dqk hx dy hcr
   obtain ⟨y,hyy⟩:∃ y,y=m.getD k 0:=⟨_,rfl⟩
   obtain ⟨z,hz⟩:∃ z,z=q.getD (o+k) 0:=⟨_,rfl⟩
   rw [← hyy] at hy hstep dy hd
   rw [← hz] at hcg hstep dqk hd
   obtain ⟨hi1,hh⟩:∃ h,h=x * y / 2 ^ 64:=⟨_,rfl⟩
   obtain ⟨lo,hlo⟩:∃ l,l=x * y % 2 ^ 64:=⟨_,rfl⟩
   have hmul:=run_mul64 x y hi1 lo hx dy hh hlo
   obtain ⟨f,hf⟩:∃ f,f=(z+lo) % 2 ^ 64:=⟨_,rfl⟩
   obtain ⟨c1,hc1⟩:∃ c,c=(z+lo) / 2 ^ 64:=⟨_,rfl⟩
   have ha1:=add64z z lo f c1 dqk (by omega) hf hc1
   obtain ⟨s,hs⟩:∃ s,s=(f+cr) % 2 ^ 64:=⟨_,rfl⟩
   obtain ⟨c2,hc2⟩:∃ c,c=(f+cr) / 2 ^ 64:=⟨_,rfl⟩
   have ha2:=add64z f cr s c2 (by omega) hcr hs hc2
   have e1:s=(z+x * y+cr) % 2 ^ 64:=by omega
   have e2:hi1+c1+c2=(z+x * y+cr) / 2 ^ 64:=by omega
   rw [← e1,← e2] at hstep
   have hw1:IntKind.u64.wrap ((hi1:Int)+(c1:Int))=(hi1:Int)+(c1:Int):=wrap_u64 (x:=hi1+c1) (by omega)
   have hw2:IntKind.u64.wrap ((hi1:Int)+(c1:Int)+(c2:Int))=(hi1:Int)+(c1:Int)+(c2:Int):=wrap_u64 (x:=hi1+c1+c2) (by omega)
   clear hs hc2 hf hc1 hh hlo e1 e2 hyy hz hsame hi hml hd
   go_wp2_with (go_at_call 197;refine (hmul _).mono ?_;rintro e w' ⟨rfl,rfl⟩)
   go_roundw
   case rel=>exact ⟨k+1,hi1+c1+c2,_,by omega,by go_num,by go_num,hor.set _ s,hstep,grown_set hgr _ _⟩
   case measure=>simp [intOf];omega
  ·obtain rfl:k=n:=by omega
   go_wp2
   go_ret
   exact ⟨r,cr,rfl,hor,hgr,by have:=HM.out;rw [← this];exact hi⟩
structure ProdInv (l m:List Nat) (k:Nat) (q:List Nat):Prop where
 len:q.length=l.length+m.length
 digs:Digs (2 ^ 64) q
 zero:q.drop (k+m.length)=List.replicate (l.length - k) 0
 sum:val (2 ^ 64) (q.take (k+m.length))=val (2 ^ 64) (l.take k) * val (2 ^ 64) m
theorem ProdInv.step {l m q r:List Nat} {k cr:Nat} (h:ProdInv l m k q) (hk:k < l.length) (hi:MulInv q m (l.getD k 0) k m.length cr r):ProdInv l m (k+1) (r.set (k+m.length) cr):=by
 have hlr:=hi.len
 have hlq:=h.len
 refine ⟨by simp;omega,hi.digs.set _ hi.carry,?_,?_⟩
 ·rw [List.drop_set_of_lt (by omega),show k+1+m.length=k+m.length+1 by omega,← List.drop_drop,hi.hi,h.zero]
  simp;omega
 ·rw [show k+1+m.length=k+m.length+1 by omega,take_set_succ _ _ _ (by omega),val_snoc,List.length_take,Nat.min_eq_left (by omega)]
  have e1:val (2 ^ 64) (r.take (k+m.length))=val (2 ^ 64) (r.take k)+(2 ^ 64) ^ k * val (2 ^ 64) ((r.drop k).take m.length):=by
   rw [List.take_add,val_append,List.length_take,Nat.min_eq_left (by omega)]
  have e2:val (2 ^ 64) (q.take (k+m.length))=val (2 ^ 64) (q.take k)+(2 ^ 64) ^ k * val (2 ^ 64) ((q.drop k).take m.length):=by
   rw [List.take_add,val_append,List.length_take,Nat.min_eq_left (by omega)]
  have hs:=congrArg ((2 ^ 64) ^ k * ·) hi.sum
  simp only [List.take_of_length_le (Nat.le_refl m.length),Nat.mul_add] at hs
  rw [← Nat.mul_assoc,← Nat.pow_add] at hs
  have h0:=h.sum
  rw [e2] at h0
  rw [e1,hi.lo,val_take_succ,Nat.add_mul,Nat.mul_assoc]
  omega
theorem c_multiplied (A A':Option Addr) (n c n' c':Nat) (l m:List Nat) (w:World) (h:Sl .u64 w (.slice A n c) l) (h':Sl .u64 w (.slice A' n' c') m)
   (dl:Digs (2 ^ 64) l) (dm:Digs (2 ^ 64) m) (hn:n≤2147483648) (hn':n'≤2147483648) :
   Calls Tryz.prog 139 #[.slice A n c,.slice A' n' c'] w (Out w (val (2 ^ 64) l * val (2 ^ 64) m)):=by
 have hl:=Lib.hid h.len
 have hm:=Lib.hid h'.len
 have mk:=mk64 (n+n') (by omega)
 rw [show ((n+n':Nat):Int)=(n:Int)+(n':Int) from by omega] at mk
 have ho1:Own (w.alloc (.cells (madeCells #[.int .u64 0] (n+n')) 149)) w.heap.size (List.replicate (n+n') 0):=Own.made w (n+n')
 have hb1:Below w.heap.size w (w.alloc (.cells (madeCells #[.int .u64 0] (n+n')) 149)):=(Below.refl _ _).alloc (Nat.le_refl _) _
 have hinv:ProdInv l m 0 (List.replicate (n+n') 0):=by
  have e1:=hl.out;have e2:=hm.out
  refine ⟨by simp;omega,Digs.replicate (by omega) _,by simp;omega,?_⟩
  rw [List.take_replicate,val_replicate_zero];simp [val]
 go_enter Tryz.func139,Tryz.ntmps139
 go_wp2
 go_loopw [16] (fun i wr=>∃ (k:Nat) (q:List Nat),k≤n∧i=.int .i64 k∧Own wr w.heap.size q∧ProdInv l m k q∧Below w.heap.size w wr) (fun i _=>n - (intOf i).toNat)
 case atStart=>exact ⟨0,_,Nat.zero_le _,rfl,ho1,hinv,hb1⟩
 case round =>
  obtain ⟨k,q,hk,rfl,ho,hi,hb⟩:=hrel
  clear mk hinv ho1 hb1
  by_cases hlt:k < n
  ·obtain ⟨b,off,rfl,hx⟩:=(h.below hb).at_ hlt
   have hl1:=hl.out
   have hm1:=hm.out
   have hq:=hi.len
   have dx:=dl.getD (by omega) k
   have hstep:=fun cr r=>hi.step (r:=r) (cr:=cr) (by omega)
   obtain ⟨x,hxx⟩:∃ x,x=l.getD k 0:=⟨_,rfl⟩
   rw [← hxx] at hx dx
   simp only [← hxx] at hstep
   have hap:Apart (.slice A' n' c') w.heap.size:=apart_of_sl h' (Nat.le_refl _)
   have hmul:=c_addMultiple w.heap.size k n' (n+n' - k) A' c' x q m
   have hk1:(k:Int) < (n:Int):=by omega
   have hqn:n+n'≤q.length:=by omega
   have HX:=Lib.hid hxx
   have dq:=hi.digs
   clear hxx hl1 hm1 hq hi
   have hi2:(k:Int)+(n':Int) < (n:Int)+(n':Int):=by omega
   have h2:=h'.below hb
   go_wp2_with (go_at_call 162;refine (hmul _ ho h2 hap dq dm dx (by omega) (by omega)).mono ?_;rintro e w' ⟨r,cr,rfl,hor,hgr,hmi⟩;have hcg:=hor.cell (i:=k+n') (by have:=hmi.len;omega);have hfg:=hor.frozen (k+n'))
   go_roundw
   case rel =>
    have hx1:=HX.out
    refine ⟨k+1,_,by omega,by go_num,hor.set _ cr,?_,(hb.grown hgr hb.size (fun g hg=>by injection hg with hg;omega)).setCell (Nat.le_refl _) _⟩
    have:=hstep cr r hmi
    rwa [← hm.out] at this
   case measure=>simp [intOf];omega
  ·obtain rfl:k=n:=by omega
   have hs':Sl .u64 wr (.slice (some ⟨w.heap.size,0,none⟩) (k+n') (k+n')) q:=by
    have e1:=hi.len;have e2:=hl.out;have e3:=hm.out
    have:=ho.all (k+n') (by omega)
    rwa [show q.length=k+n' by omega] at this
   have hdq:=hi.digs
   have HD:Hid (val (2 ^ 64) q=val (2 ^ 64) l * val (2 ^ 64) m):=by
    have:=hi.sum
    have e1:=hi.len;have e2:=hl.out;have e3:=hm.out
    rwa [List.take_of_length_le (by omega),List.take_of_length_le (by omega)] at this
   clear hi
   go_wp2_with (go_at_call 140;refine (c_trimmed _ _ _ q _ (by omega) hs').mono ?_;rintro e w' ⟨rfl,rfl⟩)
   go_ret
   exact ⟨_,trim q,rfl,hb,hs'.trim,hdq.trim,norm_trim _,by rw [val_trim];exact HD.out⟩
end Go.Proofs.YtfabfhcipkkflaaGreatDoor.E3
namespace Go.Proofs.YtfabfhcipkkflaaGreatDoor.Dv
theorem est (b u t yh yl q r:Nat) (h:q * yh+r=u):(b * r+t < q * yl→u * b+t < q * (yh * b+yl))∧(q * yl≤b * r+t→q * (yh * b+yl)≤u * b+t):=by
 have e1:q * (yh * b+yl)=q * yh * b+q * yl:=by rw [Nat.mul_add,Nat.mul_assoc]
 have e2:u * b=q * yh * b+b * r:=by rw [← h,Nat.add_mul,Nat.mul_comm r b]
 rw [e1,e2]
 constructor <;> intro h <;> omega
theorem est_big (b u t y q:Nat) (hu:u < y) (ht:t < b) (hq:b≤q):u * b+t < q * y:=by
 have h1:(u+1) * b≤y * b:=Nat.mul_le_mul_right b hu
 have h2:b * y≤q * y:=Nat.mul_le_mul_right y hq
 rw [Nat.mul_comm y b] at h1
 rw [Nat.add_mul] at h1
 omega
theorem est_first (b u yh yl:Nat) (hyl:yl < b) (hyh:b≤2 * yh) (hu:u < yh * b+yl):u / yh≤b+1:=by
 have hpos:0 < yh:=by omega
 have:u / yh < b+2:=by
  rw [Nat.div_lt_iff_lt_mul hpos]
  rw [Nat.add_mul,Nat.mul_comm b yh]
  omega
 omega
theorem guess_down {N y q Q:Nat} (hy:0 < y) (hQ:Q=N / y) (h:N < q * y):Q≤q - 1∧1≤q:=by
 have:Q < q:=by rw [hQ];exact (Nat.div_lt_iff_lt_mul hy).2 h
 omega
theorem guess_end {N y q Q:Nat} (hy:0 < y) (hQ:Q=N / y) (h:q * y≤N) (hle:Q≤q):q=Q:=by
 have:q≤Q:=by rw [hQ];exact (Nat.le_div_iff_mul_le hy).2 h
 omega
theorem guess_break {b Y u t yh yl q r Q:Nat} (hY:Y=yh * b+yl) (h:q * yh+r=u) (hq:q≤b) (hyl:yl < b) (hr:b≤r) (hQ:Q=(u * b+t) / Y) (hY0:0 < Y) (hle:Q≤q):q=Q:=by
 refine guess_end hY0 hQ ?_ hle
 rw [hY]
 refine (est b u t yh yl q r h).2 ?_
 have h1:q * yl≤b * b:=Nat.mul_le_mul hq (by omega)
 have h2:b * b≤b * r:=Nat.mul_le_mul_left b hr
 omega
theorem two_steps {b u t1 t0 y q1 q0 r1 r0:Nat} (h1:q1 * y+r1=u * b+t1) (h0:q0 * y+r0=r1 * b+t0):(q1 * b+q0) * y+r0=(u * b+t1) * b+t0:=by
 rw [← h1,Nat.add_mul (q1 * y),Nat.add_mul (q1 * b),Nat.mul_right_comm q1 b y]
 omega
theorem scaled {N y p q r:Nat} (hp:0 < p) (hy:0 < y) (h:q * (y * p)+r=N * p) (hr:r < y * p):q=N / y∧r / p=N % y:=by
 have hdvd:p ∣ r:=by
  have h1:p ∣ q * (y * p)+r:=by rw [h];exact Nat.dvd_mul_left p N
  have h2:p ∣ q * (y * p):=by rw [← Nat.mul_assoc];exact Nat.dvd_mul_left p _
  exact (Nat.dvd_add_right h2).1 h1
 obtain ⟨s,rfl⟩:=hdvd
 have e:(q * y+s) * p=N * p:=by rw [← h,Nat.add_mul,Nat.mul_assoc,Nat.mul_comm s p]
 have e':q * y+s=N:=Nat.eq_of_mul_eq_mul_right hp e
 have hs:s < y:=by
  rw [Nat.mul_comm p s] at hr
  exact Nat.lt_of_mul_lt_mul_right hr
 subst e'
 constructor
 ·rw [Nat.add_comm,Nat.add_mul_div_right _ _ hy,Nat.div_eq_of_lt hs];omega
 ·rw [Nat.mul_div_cancel_left _ hp,Nat.add_comm,Nat.add_mul_mod_self_right,Nat.mod_eq_of_lt hs]
theorem sub_step {Y u t Q R:Nat} (hQ:Q=(u * 4294967296+t) / Y) (hR:R=(u * 4294967296+t) % Y) (hY:0 < Y) (hY2:Y≤18446744073709551616) :
   IntKind.u64.wrap (IntKind.u64.wrap (IntKind.u64.wrap ((u:Int) * 4294967296)+(t:Int)) - IntKind.u64.wrap ((Q:Int) * (Y:Int)))=(R:Int)∧Q * Y+R=u * 4294967296+t∧R < Y:=by
 have h1:Q * Y+R=u * 4294967296+t:=by rw [hQ,hR,Nat.mul_comm];exact Nat.div_add_mod _ _
 have h2:R < Y:=by rw [hR];exact Nat.mod_lt _ hY
 refine ⟨?_,h1,h2⟩
 simp only [IntKind.wrap_u64]
 have h3:((Q * Y+R:Nat):Int)=((u * 4294967296+t:Nat):Int):=by rw [h1]
 rw [Int.natCast_add,Int.natCast_mul] at h3
 generalize (Q:Int) * (Y:Int)=P at *
 omega
theorem first_above {u t Y yh yl q Q:Nat} (hY:Y=yh * 4294967296+yl) (hq:q=u / yh) (hQ:Q=(u * 4294967296+t) / Y) (hyh:0 < yh) (ht:t < 4294967296):Q≤q:=by
 rcases Nat.lt_or_ge (u * 4294967296+t) ((q+1) * Y) with h | h
 ·have:=(Nat.div_lt_iff_lt_mul (by omega:0 < Y)).2 h;omega
 ·exfalso
  have h3:(q+1) * yh ≥ u+1:=by
   rw [hq,Nat.add_mul,Nat.mul_comm]
   have:=Nat.div_add_mod u yh
   have:=Nat.mod_lt u hyh
   omega
  have h4:(q+1) * Y=(q+1) * yh * 4294967296+(q+1) * yl:=by rw [hY,Nat.mul_add,Nat.mul_assoc]
  have h5:=Nat.mul_le_mul_right 4294967296 h3
  omega
theorem join64 {u v a b:Nat} (ha:a=v / 4294967296) (hb:b=v % 4294967296):(u * 4294967296+a) * 4294967296+b=u * 2 ^ 64+v:=by omega
theorem bitLenAux_spec:∀ (f x:Nat),x < 2 ^ f→0 < x→1≤Lib.bitLenAux f x∧Lib.bitLenAux f x≤f∧2 ^ (Lib.bitLenAux f x - 1)≤x∧x < 2 ^ Lib.bitLenAux f x
 | 0,x,hx,h0=>by simp at hx;omega
 | f+1,x,hx,h0=>by
   unfold Lib.bitLenAux
   rw [if_neg (by omega)]
   by_cases h1:x / 2=0
   ·have hx1:x=1:=by omega
    subst hx1
    have:Lib.bitLenAux f (1 / 2)=0:=by cases f <;> simp [Lib.bitLenAux]
    rw [this];simp
   ·obtain ⟨a,b,c,d⟩:=bitLenAux_spec f (x / 2) (by rw [Nat.pow_succ] at hx;omega) (by omega)
    refine ⟨by omega,by omega,?_,?_⟩
    ·rw [show 1+Lib.bitLenAux f (x / 2) - 1=(Lib.bitLenAux f (x / 2) - 1)+1 by omega,Nat.pow_succ];omega
    ·rw [Nat.add_comm 1,Nat.pow_succ];omega
theorem bitLen_spec {x:Nat} (hx:x < 2 ^ 64) (h0:0 < x):1≤Lib.bitLen x∧Lib.bitLen x≤64∧2 ^ (Lib.bitLen x - 1)≤x∧x < 2 ^ Lib.bitLen x:=bitLenAux_spec 64 x hx h0
theorem shifted_up {y s:Nat} (hy:y < 2 ^ 64) (h0:0 < y) (hs:s=64 - Lib.bitLen y):s≤63∧2 ^ 63≤y * 2 ^ s∧y * 2 ^ s < 2 ^ 64:=by
 obtain ⟨h1,h2,h3,h4⟩:=bitLen_spec hy h0
 refine ⟨by omega,?_,?_⟩
 ·have:=Nat.mul_le_mul_right (2 ^ s) h3
  rwa [← Nat.pow_add,show Lib.bitLen y - 1+s=63 by omega] at this
 ·have:=(Nat.mul_lt_mul_right (Nat.pow_pos (n:=s) (by omega:0 < 2))).2 h4
  rwa [← Nat.pow_add,show Lib.bitLen y+s=64 by omega] at this
theorem moved_up {hi lo y s:Nat} (hy:hi < y) (hlo:lo < 2 ^ 64) (hs:s≤63) (hn:y * 2 ^ s < 2 ^ 64) :
   hi * 2 ^ s < 2 ^ 64∧lo / 2 ^ (64 - s) < 2 ^ s∧hi * 2 ^ s+lo / 2 ^ (64 - s) < y * 2 ^ s∧(hi * 2 ^ 64+lo) * 2 ^ s=(hi * 2 ^ s+lo / 2 ^ (64 - s)) * 2 ^ 64+lo * 2 ^ s % 2 ^ 64 ∧
    hi * 2 ^ s ||| lo / 2 ^ (64 - s)=hi * 2 ^ s+lo / 2 ^ (64 - s):=by
 have hp:2 ^ (64 - s) * 2 ^ s=2 ^ 64:=by rw [← Nat.pow_add,show 64 - s+s=64 by omega]
 have h0:lo / 2 ^ (64 - s) < 2 ^ s:=by
  rw [Nat.div_lt_iff_lt_mul (Nat.pow_pos (by omega)),Nat.mul_comm,hp];exact hlo
 have h1:(hi+1) * 2 ^ s≤y * 2 ^ s:=Nat.mul_le_mul_right _ hy
 have h2:hi * 2 ^ s+lo / 2 ^ (64 - s) < y * 2 ^ s:=by rw [Nat.add_mul] at h1;omega
 refine ⟨by rw [Nat.add_mul] at h1;omega,h0,h2,?_,?_⟩
 ·have e:=Nat.div_add_mod lo (2 ^ (64 - s))
  have e1:lo * 2 ^ s=lo / 2 ^ (64 - s) * 2 ^ 64+lo % 2 ^ (64 - s) * 2 ^ s:=by
   conv=>lhs;rw [← e]
   rw [Nat.add_mul,Nat.mul_right_comm,hp,Nat.mul_comm (2 ^ 64)]
  have h3:lo % 2 ^ (64 - s) * 2 ^ s < 2 ^ 64:=by
   rw [← hp]
   exact (Nat.mul_lt_mul_right (Nat.pow_pos (by omega))).2 (Nat.mod_lt _ (Nat.pow_pos (by omega)))
  have e2:lo * 2 ^ s % 2 ^ 64=lo % 2 ^ (64 - s) * 2 ^ s:=by
   rw [e1,Nat.add_comm,Nat.add_mul_mod_self_right,Nat.mod_eq_of_lt h3]
  rw [e2,Nat.add_mul,e1,Nat.add_mul,Nat.mul_right_comm hi]
  omega
 ·have:=Nat.shiftLeft_add_eq_or_of_lt h0 hi
  rw [Nat.shiftLeft_eq] at this
  exact this.symm
end Go.Proofs.YtfabfhcipkkflaaGreatDoor.Dv
