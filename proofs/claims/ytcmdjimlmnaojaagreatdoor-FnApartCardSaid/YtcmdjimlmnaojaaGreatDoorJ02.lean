import Derived.Shelf.SlicesQ.Equal
import Derived.Shelf.SlicesQ.IndexFunc
import Derived.Shelf.SlSortCmp.WholeK
import Derived.Shelf.Strings.OnBuilder
import Derived.Shelf.Small.Strs
import Derived.Shelf.Strconv.Itoa3
import Derived.Shelf.Strconv.ErrVarAll
import Derived.Shelf.Strconv.ParseUintEmpty
import Derived.Shelf.Strings.Prefix
import Derived.Shelf.Unicode.DecodeAny
import Derived.Shelf.SortM.Plain
import Derived.Shelf.SortM.SortNone
import Derived.Test.YtcmdjimlmnaojaaGreatDoorProg
namespace Go.Proofs
open Tryz
open Go.Shelf
def Tryz.lays156_ren:Go.Shelf.Ren:=⟨fun|156=>220|165=>269|166=>270|169=>271|240=>301|241=>302|276=>331|277=>332|n=>n,fun|31=>30|9=>9|3=>3|4=>4|0=>0|20=>20|72=>342|76=>302|70=>340|37=>22|75=>67|127=>369|164=>392|5=>5|80=>85|n=>n,fun|n=>n⟩
theorem Tryz.lays156:Go.Proofs.Lays.n156 prog lays156_ren:=by
 constructor<;>first|kernel_rfl|(intro _;kernel_rfl)
theorem Tryz.Builder_Extra_156:Builder.Extra prog lays156_ren:=by
 constructor<;>first|kernel_rfl|(intro _;kernel_rfl)|decide|(constructor<;>first|kernel_rfl|(intro _;kernel_rfl)|decide)
open Go.RowKit in
theorem Tryz.strings_Join (bk o c:Nat) (xs:List ByteArray) (sep:ByteArray) (w:World) (hcells:∀(j:Nat) x,xs[j]?=some x→w.cell? ⟨bk,o+j,none⟩=some (.string x)) (hbk:bk<w.heap.size) (hN:xs.length≤140737488355328) (hcap:xs.length≤c) (hlen:(Lib.join (xs.map (·.data.toList)) sep.data.toList).length≤140737488355328):
 Calls prog 220 #[.slice (some ⟨bk,o,none⟩) xs.length c,.string sep] w λe w'=>e=.returned (.string ⟨(Lib.join (xs.map (·.data.toList)) sep.data.toList).toArray⟩)∧Below w.heap.size w w':=Any.strings_Join lays156 Builder_Extra_156 bk o c xs sep w hcells hbk hN hcap hlen
def Tryz.lays137_ren:Go.Shelf.Ren:=⟨fun|137=>215|217=>261|266=>294|n=>n,fun|9=>9|5=>5|3=>3|n=>n,fun|n=>n⟩
theorem Tryz.lays137:Go.Proofs.Lays.n137 prog lays137_ren:=by
 constructor<;>first|kernel_rfl|(intro _;kernel_rfl)
open Go.RowKit in
theorem Tryz.strings_IndexByte (s:ByteArray) (c:Int) (w:World):
 Calls prog 215 #[.string s,.int .u8 c] w λe w'=>e=.returned (.int .i64 (Lib.indexByte s.data.toList c.toNat.toUInt8))∧w'=w:=Any.strings_IndexByte lays137 s c w
def Tryz.laysM171_ren:Go.Shelf.Ren:=⟨fun|171=>191|243=>238|246=>279|283=>310|284=>311|285=>312|286=>313|129=>253|317=>337|318=>338|319=>339|320=>340|337=>348|338=>349|n=>n,fun|3=>3|9=>9|2=>2|4=>4|171=>378|0=>0|53=>328|37=>22|5=>5|173=>380|212=>401|51=>326|20=>20|213=>402|46=>196|232=>414|233=>415|n=>n,fun|17=>5|18=>8|19=>9|n=>n⟩
theorem Tryz.laysM171:Go.Proofs.LaysM.n171 prog laysM171_ren:=by
 constructor<;>first|kernel_rfl|(intro _;kernel_rfl)|decide|(constructor<;>first|kernel_rfl|(intro _;kernel_rfl)|decide)
open Go.RowKit Go.Sort Go.Lib in
theorem Tryz.strconv_Itoa (n : Int) (h0 : -9223372036854775808 ≤ n) (h1 : n ≤ 9223372036854775807) (w : World) (htab : Lib.TabIs prog w "internal/strconv.uint64pow10" .u64 Lib.pow10Tab) :
 Calls prog 191 #[.int .i64 n] w λe w'=>e=.returned (.string ⟨(Lib.itoa n).toArray⟩)∧∃k os,w'=grow (w.drewN k) os:=Any.strconv_Itoa laysM171 n h0 h1 w htab
def Tryz.lays197_ren:Go.Shelf.Ren:=⟨fun|197=>318|260=>342|n=>n,fun|9=>9|21=>21|3=>3|4=>4|5=>5|105=>385|119=>409|0=>0|46=>196|139=>412|138=>411|n=>n,fun|3=>6|4=>7|n=>n⟩
theorem Tryz.lays197:Go.Proofs.Lays.n197 prog lays197_ren:=by
 constructor<;>first|kernel_rfl|(intro _;kernel_rfl)
open Go.RowKit Go.Lib in
theorem Tryz.utf8_DecodeRuneInString (s:ByteArray) (w:World) (hT:Lib.Utf8Tabs 6 7 w):
 Calls prog 318 #[.string s] w λe w'=>e=.returned (.tuple #[.int .i32 (Lib.decodeGo s).1,.int .i64 (Lib.decodeGo s).2])∧Below w.heap.size w w':=Any.utf8_DecodeRuneInString lays197 s w hT
def Tryz.sortL_ren:Go.Shelf.Ren:=⟨fun|6=>263|15=>201|14=>297|28=>252|29=>253|20=>322|21=>323|22=>324|23=>325|24=>326|25=>327|26=>328|27=>329|46=>343|47=>285|48=>286|49=>344|50=>345|57=>350|n=>n,fun|22=>90|24=>175|25=>336|3=>3|39=>196|0=>0|53=>326|55=>328|4=>4|46=>319|45=>318|50=>206|5=>5|9=>9|66=>353|70=>357|76=>383|77=>126|n=>n,fun|n=>n⟩
theorem Tryz.sortL:Go.Proofs.SlLaysF0.n6 prog sortL_ren:=by
 refine ⟨?_,⟨f263.name,?_,?_⟩,⟨f297.name,?_,?_⟩,?_,⟨f322.name,?_,?_⟩,⟨f323.name,?_,?_⟩,⟨f324.name,?_,?_⟩,⟨f325.name,?_,?_⟩,⟨f326.name,?_,?_⟩,⟨f327.name,?_,?_⟩,⟨f328.name,?_,?_⟩,⟨f329.name,?_,?_⟩,?_,?_,⟨f343.name,?_,?_⟩,?_,?_,⟨f344.name,?_,?_⟩,⟨f345.name,?_,?_⟩,⟨f350.name,?_,?_⟩,?_,?_,?_,?_,?_,?_,?_,?_,?_,?_,?_,?_,?_,?_,?_,?_,?_,?_,?_,?_,?_,?_,?_,?_,?_,?_,?_,?_,?_,?_,?_,?_,?_,?_,?_,?_,?_,?_,?_,?_,?_,?_,?_,?_,?_,?_,?_,?_,?_,?_,?_,?_,?_,?_,?_,?_,?_,?_,?_,?_,?_,?_,?_,?_,?_,?_,?_,?_⟩<;>first|kernel_rfl|(intro _;kernel_rfl)
def Tryz.contL_ren:Go.Shelf.Ren:=⟨fun|8=>211|6=>260|n=>n,fun|22=>90|23=>175|25=>288|4=>4|3=>3|0=>0|n=>n,fun|n=>n⟩
theorem Tryz.contL:Go.Proofs.SlLaysH0.n8 prog contL_ren:=by
 refine ⟨?_,⟨f260.name,?_,?_⟩,⟨f211.name,?_,?_⟩,?_,?_,?_,?_,?_,?_,?_,?_,?_,?_,?_,?_,?_,?_,?_,?_,?_,?_,?_,?_⟩<;>first|kernel_rfl|(intro _;kernel_rfl)
def Tryz.eqlL_ren:Go.Shelf.Ren:=⟨fun|8=>319|n=>n,fun|22=>90|24=>175|4=>4|3=>3|0=>0|n=>n,fun|n=>n⟩
theorem Tryz.eqlL:Go.Proofs.SlLaysQ.n8 prog eqlL_ren:=by
 refine ⟨?_,⟨f319.name,?_,?_⟩,?_,?_,?_,?_,?_,?_,?_,?_,?_,?_,?_,?_,?_,?_,?_,?_⟩<;>first|kernel_rfl|(intro _;kernel_rfl)
end Go.Proofs
