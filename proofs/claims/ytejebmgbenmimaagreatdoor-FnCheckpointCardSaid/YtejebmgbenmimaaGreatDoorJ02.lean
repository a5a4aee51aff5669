import Derived.Shelf.SlicesQ.Equal
import Derived.Shelf.SlicesQ.IndexFunc
import Derived.Shelf.SlSortCmp.WholeK
import Derived.Shelf.Strings.OnBuilder
import Derived.Shelf.Small.Strs
import Derived.Shelf.Strconv.Itoa3
import Derived.Shelf.Strconv.ErrVarAll
import Derived.Shelf.Strconv.ParseUintEmpty
import Derived.Shelf.Strings.Prefix
import Derived.Shelf.Unicode.DecodeAny
import Derived.Shelf.SortM.Plain
import Derived.Shelf.SortM.SortNone
import Derived.Test.YtejebmgbenmimaaGreatDoorProg
namespace Go.Proofs
open Tryz
open Go.Shelf
def Tryz.lays156_ren:Go.Shelf.Ren:=⟨fun|156=>184|165=>243|166=>244|169=>245|240=>283|241=>284|276=>309|277=>310|n=>n,fun|31=>30|9=>9|3=>3|4=>4|0=>0|20=>20|72=>305|76=>306|70=>303|37=>22|75=>76|127=>351|164=>374|5=>5|80=>94|n=>n,fun|n=>n⟩
theorem Tryz.lays156:Go.Proofs.Lays.n156 prog lays156_ren:=by
 constructor<;>first|kernel_rfl|(intro _;kernel_rfl)
theorem Tryz.Builder_Extra_156:Builder.Extra prog lays156_ren:=by
 constructor<;>first|kernel_rfl|(intro _;kernel_rfl)|decide|(constructor<;>first|kernel_rfl|(intro _;kernel_rfl)|decide)
open Go.RowKit in
theorem Tryz.strings_Join (bk o c:Nat) (xs:List ByteArray) (sep:ByteArray) (w:World) (hcells:∀(j:Nat) x,xs[j]?=some x→w.cell? ⟨bk,o+j,none⟩=some (.string x)) (hbk:bk<w.heap.size) (hN:xs.length≤140737488355328) (hcap:xs.length≤c) (hlen:(Lib.join (xs.map (·.data.toList)) sep.data.toList).length≤140737488355328):
 Calls prog 184 #[.slice (some ⟨bk,o,none⟩) xs.length c,.string sep] w λe w'=>e=.returned (.string ⟨(Lib.join (xs.map (·.data.toList)) sep.data.toList).toArray⟩)∧Below w.heap.size w w':=Any.strings_Join lays156 Builder_Extra_156 bk o c xs sep w hcells hbk hN hcap hlen
def Tryz.lays137_ren:Go.Shelf.Ren:=⟨fun|137=>237|217=>277|266=>305|n=>n,fun|9=>9|5=>5|3=>3|n=>n,fun|n=>n⟩
theorem Tryz.lays137:Go.Proofs.Lays.n137 prog lays137_ren:=by
 constructor<;>first|kernel_rfl|(intro _;kernel_rfl)
open Go.RowKit in
theorem Tryz.strings_IndexByte (s:ByteArray) (c:Int) (w:World):
 Calls prog 237 #[.string s,.int .u8 c] w λe w'=>e=.returned (.int .i64 (Lib.indexByte s.data.toList c.toNat.toUInt8))∧w'=w:=Any.strings_IndexByte lays137 s c w
def Tryz.laysM171_ren:Go.Shelf.Ren:=⟨fun|171=>187|243=>246|246=>285|283=>311|284=>312|285=>313|286=>314|129=>269|317=>337|318=>338|319=>339|320=>340|337=>350|338=>351|n=>n,fun|3=>3|9=>9|2=>2|4=>4|171=>377|0=>0|53=>339|37=>22|5=>5|173=>379|212=>398|51=>308|20=>20|213=>399|46=>216|232=>416|233=>417|n=>n,fun|17=>3|18=>8|19=>9|n=>n⟩
theorem Tryz.laysM171:Go.Proofs.LaysM.n171 prog laysM171_ren:=by
 constructor<;>first|kernel_rfl|(intro _;kernel_rfl)|decide|(constructor<;>first|kernel_rfl|(intro _;kernel_rfl)|decide)
open Go.RowKit Go.Sort Go.Lib in
theorem Tryz.strconv_Itoa (n : Int) (h0 : -9223372036854775808 ≤ n) (h1 : n ≤ 9223372036854775807) (w : World) (htab : Lib.TabIs prog w "internal/strconv.uint64pow10" .u64 Lib.pow10Tab) :
 Calls prog 187 #[.int .i64 n] w λe w'=>e=.returned (.string ⟨(Lib.itoa n).toArray⟩)∧∃k os,w'=grow (w.drewN k) os:=Any.strconv_Itoa laysM171 n h0 h1 w htab
def Tryz.laysC172_ren:Go.Shelf.Ren:=⟨fun|172=>256|244=>290|245=>291|247=>318|279=>319|280=>320|281=>321|282=>322|287=>343|316=>344|171=>187|205=>345|321=>352|322=>353|243=>246|246=>285|283=>311|284=>312|285=>313|286=>314|129=>269|317=>337|318=>338|319=>339|320=>340|337=>350|338=>351|n=>n,fun|9=>9|3=>3|75=>76|76=>306|4=>4|5=>5|167=>382|37=>22|0=>0|85=>383|2=>2|168=>385|53=>339|175=>401|46=>216|210=>404|127=>351|145=>410|143=>408|21=>21|171=>377|173=>379|212=>398|51=>308|20=>20|213=>399|232=>416|233=>417|80=>94|n=>n,fun|15=>4|16=>5|17=>3|18=>8|19=>9|n=>n⟩
theorem Tryz.laysC172:Go.Proofs.LaysC.n172 prog laysC172_ren:=by
 constructor<;>first|kernel_rfl|(intro _;kernel_rfl)|decide|(constructor<;>first|kernel_rfl|(intro _;kernel_rfl)|decide|(constructor<;>first|kernel_rfl|(intro _;kernel_rfl)|decide))
open Go.RowKit in
theorem Tryz.strconv_Atoi_ok (s:ByteArray) (hmax:s.size≤9223372036854775806) (v:Int) (h:Lib.atoiAll s.data.toList=.ok v) (w:World):
 Calls prog 256 #[.string s] w λe w'=>e=.returned (.tuple #[.int .i64 v,.nilIface])∧(w'=w∨∃t,w'=Lib.bytesWorld w 5 t):=Any.strconv_Atoi_ok laysC172 s hmax v h w
open Go.RowKit in
theorem Tryz.strconv_Atoi_syntax_var (s : ByteArray) (hlim : s.size ≤ 281474976710656) (h : Lib.atoiAll s.data.toList = Lib.atoiAll []) (tp : TypeId) (p : Value) (w : World) (hvar : w.var? prog "strconv.ErrSyntax" = some #[.iface tp p]) :
 Calls prog 256 #[.string s] w λe w'=>∃N,e=.returned (.tuple #[.int .i64 0,.iface 385 (.pointer (some ⟨N,0,none⟩))])∧w.heap.size≤N∧w'.heap[N]?=some (.cells #[.string ⟨#[65,116,111,105]⟩,.string s,.iface tp p] 404 (0,0))∧Below w.heap.size w w':=Any.strconv_Atoi_syntax_var laysC172 s hlim h tp p w hvar
def Tryz.lays101_ren:Go.Shelf.Ren:=⟨fun|101=>257|208=>292|206=>323|n=>n,fun|9=>9|4=>4|3=>3|n=>n,fun|n=>n⟩
theorem Tryz.lays101:Go.Proofs.Lays.n101 prog lays101_ren:=by
 constructor<;>first|kernel_rfl|(intro _;kernel_rfl)
open Go.RowKit Go.Lib in
theorem Tryz.strings_TrimPrefix (s p:ByteArray) (w:World):
 Calls prog 257 #[.string s,.string p] w λe w'=>e=.returned (.string ⟨(Lib.trimPrefix s.data.toList p.data.toList).toArray⟩)∧w'=w:=Any.strings_TrimPrefix lays101 s p w
def Tryz.lays197_ren:Go.Shelf.Ren:=⟨fun|197=>325|260=>346|n=>n,fun|9=>9|21=>21|3=>3|4=>4|5=>5|105=>390|119=>411|0=>0|46=>216|139=>414|138=>413|n=>n,fun|3=>6|4=>7|n=>n⟩
theorem Tryz.lays197:Go.Proofs.Lays.n197 prog lays197_ren:=by
 constructor<;>first|kernel_rfl|(intro _;kernel_rfl)
open Go.RowKit Go.Lib in
theorem Tryz.utf8_DecodeRuneInString (s:ByteArray) (w:World) (hT:Lib.Utf8Tabs 6 7 w):
 Calls prog 325 #[.string s] w λe w'=>e=.returned (.tuple #[.int .i32 (Lib.decodeGo s).1,.int .i64 (Lib.decodeGo s).2])∧Below w.heap.size w w':=Any.utf8_DecodeRuneInString lays197 s w hT
def Tryz.sortL_ren:Go.Shelf.Ren:=⟨fun|6=>279|15=>224|14=>308|28=>268|29=>269|20=>329|21=>330|22=>331|23=>332|24=>333|25=>334|26=>335|27=>336|46=>347|47=>296|48=>297|49=>348|50=>349|57=>354|n=>n,fun|22=>129|24=>190|25=>347|3=>3|39=>216|0=>0|53=>308|55=>339|4=>4|46=>331|45=>330|50=>219|5=>5|9=>9|66=>359|70=>363|76=>388|77=>154|n=>n,fun|n=>n⟩
theorem Tryz.sortL:Go.Proofs.SlLaysF0.n6 prog sortL_ren:=by
 refine ⟨?_,⟨f279.name,?_,?_⟩,⟨f308.name,?_,?_⟩,?_,⟨f329.name,?_,?_⟩,⟨f330.name,?_,?_⟩,⟨f331.name,?_,?_⟩,⟨f332.name,?_,?_⟩,⟨f333.name,?_,?_⟩,⟨f334.name,?_,?_⟩,⟨f335.name,?_,?_⟩,⟨f336.name,?_,?_⟩,?_,?_,⟨f347.name,?_,?_⟩,?_,?_,⟨f348.name,?_,?_⟩,⟨f349.name,?_,?_⟩,⟨f354.name,?_,?_⟩,?_,?_,?_,?_,?_,?_,?_,?_,?_,?_,?_,?_,?_,?_,?_,?_,?_,?_,?_,?_,?_,?_,?_,?_,?_,?_,?_,?_,?_,?_,?_,?_,?_,?_,?_,?_,?_,?_,?_,?_,?_,?_,?_,?_,?_,?_,?_,?_,?_,?_,?_,?_,?_,?_,?_,?_,?_,?_,?_,?_,?_,?_,?_,?_,?_,?_,?_,?_⟩<;>first|kernel_rfl|(intro _;kernel_rfl)
def Tryz.contL_ren:Go.Shelf.Ren:=⟨fun|8=>234|6=>276|n=>n,fun|22=>129|23=>190|25=>298|4=>4|3=>3|0=>0|n=>n,fun|n=>n⟩
theorem Tryz.contL:Go.Proofs.SlLaysH0.n8 prog contL_ren:=by
 refine ⟨?_,⟨f276.name,?_,?_⟩,⟨f234.name,?_,?_⟩,?_,?_,?_,?_,?_,?_,?_,?_,?_,?_,?_,?_,?_,?_,?_,?_,?_,?_,?_,?_⟩<;>first|kernel_rfl|(intro _;kernel_rfl)
def Tryz.eqlL_ren:Go.Shelf.Ren:=⟨fun|8=>326|n=>n,fun|22=>129|24=>190|4=>4|3=>3|0=>0|n=>n,fun|n=>n⟩
theorem Tryz.eqlL:Go.Proofs.SlLaysQ.n8 prog eqlL_ren:=by
 refine ⟨?_,⟨f326.name,?_,?_⟩,?_,?_,?_,?_,?_,?_,?_,?_,?_,?_,?_,?_,?_,?_,?_,?_⟩<;>first|kernel_rfl|(intro _;kernel_rfl)
end Go.Proofs
