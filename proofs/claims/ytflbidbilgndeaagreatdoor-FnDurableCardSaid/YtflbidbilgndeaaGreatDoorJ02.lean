import Derived.Shelf.SlicesQ.Equal
import Derived.Shelf.SlicesQ.IndexFunc
import Derived.Shelf.SlSortCmp.WholeK
import Derived.Shelf.Strings.OnBuilder
import Derived.Shelf.Small.Strs
import Derived.Shelf.Strconv.Itoa3
import Derived.Shelf.Strconv.ErrVarAll
import Derived.Shelf.Strconv.ParseUintEmpty
import Derived.Shelf.Strings.Prefix
import Derived.Shelf.Unicode.DecodeAny
import Derived.Test.YtflbidbilgndeaaGreatDoorProg
namespace Go.Proofs
open Tryz
open Go.Shelf
def Tryz.lays156_ren:Go.Shelf.Ren:=⟨fun|156=>225|165=>274|166=>275|169=>276|240=>306|241=>307|276=>336|277=>337|n=>n,fun|31=>30|9=>9|3=>3|4=>4|0=>0|20=>20|72=>345|76=>305|70=>343|37=>22|75=>70|127=>372|164=>395|5=>5|80=>88|n=>n,fun|n=>n⟩
theorem Tryz.lays156:Go.Proofs.Lays.n156 prog lays156_ren:=by
 constructor<;>first|kernel_rfl|(intro _;kernel_rfl)
theorem Tryz.Builder_Extra_156:Builder.Extra prog lays156_ren:=by
 constructor<;>first|kernel_rfl|(intro _;kernel_rfl)|decide|(constructor<;>first|kernel_rfl|(intro _;kernel_rfl)|decide)
open Go.RowKit in
theorem Tryz.strings_Join (bk o c:Nat) (xs:List ByteArray) (sep:ByteArray) (w:World) (hcells:∀(j:Nat) x,xs[j]?=some x→w.cell? ⟨bk,o+j,none⟩=some (.string x)) (hbk:bk<w.heap.size) (hN:xs.length≤140737488355328) (hcap:xs.length≤c) (hlen:(Lib.join (xs.map (·.data.toList)) sep.data.toList).length≤140737488355328):
 Calls prog 225 #[.slice (some ⟨bk,o,none⟩) xs.length c,.string sep] w λe w'=>e=.returned (.string ⟨(Lib.join (xs.map (·.data.toList)) sep.data.toList).toArray⟩)∧Below w.heap.size w w':=Any.strings_Join lays156 Builder_Extra_156 bk o c xs sep w hcells hbk hN hcap hlen
def Tryz.lays137_ren:Go.Shelf.Ren:=⟨fun|137=>220|217=>266|266=>299|n=>n,fun|9=>9|5=>5|3=>3|n=>n,fun|n=>n⟩
theorem Tryz.lays137:Go.Proofs.Lays.n137 prog lays137_ren:=by
 constructor<;>first|kernel_rfl|(intro _;kernel_rfl)
open Go.RowKit in
theorem Tryz.strings_IndexByte (s:ByteArray) (c:Int) (w:World):
 Calls prog 220 #[.string s,.int .u8 c] w λe w'=>e=.returned (.int .i64 (Lib.indexByte s.data.toList c.toNat.toUInt8))∧w'=w:=Any.strings_IndexByte lays137 s c w
def Tryz.laysM171_ren:Go.Shelf.Ren:=⟨fun|171=>196|243=>243|246=>284|283=>315|284=>316|285=>317|286=>318|129=>258|317=>342|318=>343|319=>344|320=>345|337=>353|338=>354|n=>n,fun|3=>3|9=>9|2=>2|4=>4|171=>381|0=>0|53=>331|37=>22|5=>5|173=>383|212=>404|51=>329|20=>20|213=>405|46=>202|232=>417|233=>418|n=>n,fun|17=>5|18=>8|19=>9|n=>n⟩
theorem Tryz.laysM171:Go.Proofs.LaysM.n171 prog laysM171_ren:=by
 constructor<;>first|kernel_rfl|(intro _;kernel_rfl)|decide|(constructor<;>first|kernel_rfl|(intro _;kernel_rfl)|decide)
open Go.RowKit Go.Sort Go.Lib in
theorem Tryz.strconv_Itoa (n : Int) (h0 : -9223372036854775808 ≤ n) (h1 : n ≤ 9223372036854775807) (w : World) (htab : Lib.TabIs prog w "internal/strconv.uint64pow10" .u64 Lib.pow10Tab) :
 Calls prog 196 #[.int .i64 n] w λe w'=>e=.returned (.string ⟨(Lib.itoa n).toArray⟩)∧∃k os,w'=grow (w.drewN k) os:=Any.strconv_Itoa laysM171 n h0 h1 w htab
def Tryz.laysC172_ren:Go.Shelf.Ren:=⟨fun|172=>241|244=>281|245=>282|247=>309|279=>310|280=>311|281=>312|282=>313|287=>339|316=>340|171=>196|205=>341|321=>351|322=>352|243=>243|246=>284|283=>315|284=>316|285=>317|286=>318|129=>258|317=>342|318=>343|319=>344|320=>345|337=>353|338=>354|n=>n,fun|9=>9|3=>3|75=>70|76=>305|4=>4|5=>5|167=>375|37=>22|0=>0|85=>376|2=>2|168=>378|53=>331|175=>399|46=>202|210=>402|127=>372|145=>411|143=>409|21=>21|171=>381|173=>383|212=>404|51=>329|20=>20|213=>405|232=>417|233=>418|80=>88|n=>n,fun|15=>3|16=>4|17=>5|18=>8|19=>9|n=>n⟩
theorem Tryz.laysC172:Go.Proofs.LaysC.n172 prog laysC172_ren:=by
 constructor<;>first|kernel_rfl|(intro _;kernel_rfl)|decide|(constructor<;>first|kernel_rfl|(intro _;kernel_rfl)|decide|(constructor<;>first|kernel_rfl|(intro _;kernel_rfl)|decide))
open Go.RowKit in
theorem Tryz.strconv_Atoi_ok (s:ByteArray) (hmax:s.size≤9223372036854775806) (v:Int) (h:Lib.atoiAll s.data.toList=.ok v) (w:World):
 Calls prog 241 #[.string s] w λe w'=>e=.returned (.tuple #[.int .i64 v,.nilIface])∧(w'=w∨∃t,w'=Lib.bytesWorld w 5 t):=Any.strconv_Atoi_ok laysC172 s hmax v h w
open Go.RowKit in
theorem Tryz.strconv_Atoi_syntax_var (s : ByteArray) (hlim : s.size ≤ 281474976710656) (h : Lib.atoiAll s.data.toList = Lib.atoiAll []) (tp : TypeId) (p : Value) (w : World) (hvar : w.var? prog "strconv.ErrSyntax" = some #[.iface tp p]) :
 Calls prog 241 #[.string s] w λe w'=>∃N,e=.returned (.tuple #[.int .i64 0,.iface 378 (.pointer (some ⟨N,0,none⟩))])∧w.heap.size≤N∧w'.heap[N]?=some (.cells #[.string ⟨#[65,116,111,105]⟩,.string s,.iface tp p] 402 (0,0))∧Below w.heap.size w w':=Any.strconv_Atoi_syntax_var laysC172 s hlim h tp p w hvar
def Tryz.lays101_ren:Go.Shelf.Ren:=⟨fun|101=>242|208=>283|206=>314|n=>n,fun|9=>9|4=>4|3=>3|n=>n,fun|n=>n⟩
theorem Tryz.lays101:Go.Proofs.Lays.n101 prog lays101_ren:=by
 constructor<;>first|kernel_rfl|(intro _;kernel_rfl)
open Go.RowKit Go.Lib in
theorem Tryz.strings_TrimPrefix (s p:ByteArray) (w:World):
 Calls prog 242 #[.string s,.string p] w λe w'=>e=.returned (.string ⟨(Lib.trimPrefix s.data.toList p.data.toList).toArray⟩)∧w'=w:=Any.strings_TrimPrefix lays101 s p w
def Tryz.lays197_ren:Go.Shelf.Ren:=⟨fun|197=>323|260=>347|n=>n,fun|9=>9|21=>21|3=>3|4=>4|5=>5|105=>388|119=>412|0=>0|46=>202|139=>415|138=>414|n=>n,fun|3=>6|4=>7|n=>n⟩
theorem Tryz.lays197:Go.Proofs.Lays.n197 prog lays197_ren:=by
 constructor<;>first|kernel_rfl|(intro _;kernel_rfl)
open Go.RowKit Go.Lib in
theorem Tryz.utf8_DecodeRuneInString (s:ByteArray) (w:World) (hT:Lib.Utf8Tabs 6 7 w):
 Calls prog 323 #[.string s] w λe w'=>e=.returned (.tuple #[.int .i32 (Lib.decodeGo s).1,.int .i64 (Lib.decodeGo s).2])∧Below w.heap.size w w':=Any.utf8_DecodeRuneInString lays197 s w hT
def Tryz.sortL_ren:Go.Shelf.Ren:=⟨fun|6=>268|15=>206|14=>302|28=>257|29=>258|20=>327|21=>328|22=>329|23=>330|24=>331|25=>332|26=>333|27=>334|46=>348|47=>290|48=>291|49=>349|50=>350|57=>355|n=>n,fun|22=>108|24=>181|25=>339|3=>3|39=>202|0=>0|53=>329|55=>331|4=>4|46=>322|45=>321|50=>212|5=>5|9=>9|66=>356|70=>360|76=>386|77=>144|n=>n,fun|n=>n⟩
theorem Tryz.sortL:Go.Proofs.SlLaysF0.n6 prog sortL_ren:=by
 refine ⟨?_,⟨f268.name,?_,?_⟩,⟨f302.name,?_,?_⟩,?_,⟨f327.name,?_,?_⟩,⟨f328.name,?_,?_⟩,⟨f329.name,?_,?_⟩,⟨f330.name,?_,?_⟩,⟨f331.name,?_,?_⟩,⟨f332.name,?_,?_⟩,⟨f333.name,?_,?_⟩,⟨f334.name,?_,?_⟩,?_,?_,⟨f348.name,?_,?_⟩,?_,?_,⟨f349.name,?_,?_⟩,⟨f350.name,?_,?_⟩,⟨f355.name,?_,?_⟩,?_,?_,?_,?_,?_,?_,?_,?_,?_,?_,?_,?_,?_,?_,?_,?_,?_,?_,?_,?_,?_,?_,?_,?_,?_,?_,?_,?_,?_,?_,?_,?_,?_,?_,?_,?_,?_,?_,?_,?_,?_,?_,?_,?_,?_,?_,?_,?_,?_,?_,?_,?_,?_,?_,?_,?_,?_,?_,?_,?_,?_,?_,?_,?_,?_,?_,?_,?_⟩<;>first|kernel_rfl|(intro _;kernel_rfl)
def Tryz.contL_ren:Go.Shelf.Ren:=⟨fun|8=>216|6=>265|n=>n,fun|22=>108|23=>181|25=>292|4=>4|3=>3|0=>0|n=>n,fun|n=>n⟩
theorem Tryz.contL:Go.Proofs.SlLaysH0.n8 prog contL_ren:=by
 refine ⟨?_,⟨f265.name,?_,?_⟩,⟨f216.name,?_,?_⟩,?_,?_,?_,?_,?_,?_,?_,?_,?_,?_,?_,?_,?_,?_,?_,?_,?_,?_,?_,?_⟩<;>first|kernel_rfl|(intro _;kernel_rfl)
def Tryz.eqlL_ren:Go.Shelf.Ren:=⟨fun|8=>324|n=>n,fun|22=>108|24=>181|4=>4|3=>3|0=>0|n=>n,fun|n=>n⟩
theorem Tryz.eqlL:Go.Proofs.SlLaysQ.n8 prog eqlL_ren:=by
 refine ⟨?_,⟨f324.name,?_,?_⟩,?_,?_,?_,?_,?_,?_,?_,?_,?_,?_,?_,?_,?_,?_,?_,?_⟩<;>first|kernel_rfl|(intro _;kernel_rfl)
end Go.Proofs
