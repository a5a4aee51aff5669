import Derived.Shelf.SlIter.Nil
import Derived.Shelf.SlSortCmp.WholeK
import Derived.Shelf.SortM.Plain
import Derived.Shelf.SortM.SortNone
import Derived.Test.YtbfnhppoecdnoaaGreatDoorProg
namespace Go.Proofs
open Tryz
open Go.Shelf
def Tryz.sortL_ren:Go.Shelf.Ren:=⟨fun|6=>208|15=>242|14=>241|28=>282|29=>283|20=>274|21=>275|22=>276|23=>277|24=>278|25=>279|26=>280|27=>281|46=>308|47=>309|48=>310|49=>311|50=>312|57=>322|n=>n,fun|22=>65|24=>116|25=>276|3=>3|39=>125|0=>0|53=>338|55=>279|4=>4|46=>332|45=>331|50=>297|5=>5|9=>9|66=>375|70=>379|76=>398|77=>80|n=>n,fun|n=>n⟩
theorem Tryz.sortL:Go.Proofs.SlLaysF0.n6 prog sortL_ren:=by
 refine ⟨?_,⟨f208.name,?_,?_⟩,⟨f241.name,?_,?_⟩,?_,⟨f274.name,?_,?_⟩,⟨f275.name,?_,?_⟩,⟨f276.name,?_,?_⟩,⟨f277.name,?_,?_⟩,⟨f278.name,?_,?_⟩,⟨f279.name,?_,?_⟩,⟨f280.name,?_,?_⟩,⟨f281.name,?_,?_⟩,?_,?_,⟨f308.name,?_,?_⟩,?_,?_,⟨f311.name,?_,?_⟩,⟨f312.name,?_,?_⟩,⟨f322.name,?_,?_⟩,?_,?_,?_,?_,?_,?_,?_,?_,?_,?_,?_,?_,?_,?_,?_,?_,?_,?_,?_,?_,?_,?_,?_,?_,?_,?_,?_,?_,?_,?_,?_,?_,?_,?_,?_,?_,?_,?_,?_,?_,?_,?_,?_,?_,?_,?_,?_,?_,?_,?_,?_,?_,?_,?_,?_,?_,?_,?_,?_,?_,?_,?_,?_,?_,?_,?_,?_,?_⟩<;>first|kernel_rfl|(intro _;kernel_rfl)
def Tryz.keys191_ren:Go.Shelf.Ren:=⟨fun|7=>191|10=>229|n=>n,fun|23=>226|26=>9|3=>3|28=>257|0=>0|27=>256|33=>63|4=>4|n=>n,fun|n=>n⟩
theorem Tryz.keys191:Go.Proofs.SlLaysZ.n7 prog keys191_ren:=by
 refine ⟨?_,⟨f191.name,?_,?_⟩,⟨f229.name,?_,?_⟩,?_,?_,?_,?_,?_,?_,?_,?_,?_,?_,?_,?_,?_,?_,?_,?_,?_,?_,?_,?_,?_,?_,?_,?_,?_,?_,?_,?_⟩<;>first|kernel_rfl|(intro _;kernel_rfl)
def Tryz.sorted190_ren:Go.Shelf.Ren:=⟨fun|6=>190|8=>227|9=>228|11=>267|13=>242|12=>268|23=>282|24=>283|14=>298|15=>299|16=>300|17=>301|18=>302|19=>303|20=>304|21=>305|22=>306|25=>319|26=>309|27=>310|28=>320|29=>321|30=>243|31=>330|n=>n,fun|26=>9|28=>257|24=>204|0=>0|3=>3|37=>125|48=>338|50=>279|4=>4|40=>332|39=>331|45=>297|5=>5|9=>9|51=>375|55=>379|57=>398|58=>80|33=>63|n=>n,fun|n=>n⟩
theorem Tryz.sorted190:Go.Proofs.SlLaysZ.n6 prog sorted190_ren:=by
 refine ⟨?_,⟨f190.name,?_,?_⟩,⟨f227.name,?_,?_⟩,⟨f267.name,?_,?_⟩,?_,?_,?_,?_,?_,?_,?_,?_,?_,?_,?_,?_,?_,?_,?_,?_,?_⟩<;>first|kernel_rfl|(intro _;kernel_rfl)
def Tryz.sort228_ren:Go.Shelf.Ren:=⟨fun|6=>228|8=>242|9=>268|19=>282|20=>283|21=>298|22=>299|23=>300|24=>301|25=>302|26=>303|27=>304|28=>305|29=>306|36=>319|31=>309|32=>310|37=>320|38=>321|39=>243|41=>330|n=>n,fun|27=>204|29=>9|3=>3|32=>125|26=>204|0=>0|44=>338|46=>279|4=>4|36=>332|35=>331|41=>297|5=>5|9=>9|53=>375|57=>379|63=>398|64=>80|n=>n,fun|n=>n⟩
theorem Tryz.sort228:Go.Proofs.SlLaysM.n6 prog sort228_ren:=by
 refine ⟨?_,⟨f228.name,?_,?_⟩,?_,⟨f268.name,?_,?_⟩,?_,?_,⟨f298.name,?_,?_⟩,⟨f299.name,?_,?_⟩,⟨f300.name,?_,?_⟩,⟨f301.name,?_,?_⟩,⟨f302.name,?_,?_⟩,⟨f303.name,?_,?_⟩,⟨f304.name,?_,?_⟩,⟨f305.name,?_,?_⟩,⟨f306.name,?_,?_⟩,?_,?_,⟨f319.name,?_,?_⟩,⟨f320.name,?_,?_⟩,⟨f321.name,?_,?_⟩,⟨f243.name,?_,?_⟩,⟨f330.name,?_,?_⟩,?_,?_,?_,?_,?_,?_,?_,?_,?_,?_,?_,?_,?_,?_,?_,?_,?_,?_,?_,?_,?_,?_,?_,?_,?_,?_,?_,?_,?_,?_,?_,?_,?_,?_,?_,?_,?_,?_,?_,?_,?_,?_,?_,?_,?_,?_,?_,?_,?_,?_,?_,?_,?_,?_,?_,?_,?_,?_,?_,?_,?_,?_,?_,?_,?_,?_,?_,?_,?_,?_,?_,?_⟩<;>first|kernel_rfl|(intro _;kernel_rfl)
def Tryz.keys230_ren:Go.Shelf.Ren:=⟨fun|7=>230|10=>269|n=>n,fun|23=>227|26=>9|3=>260|28=>257|0=>0|27=>256|33=>63|4=>4|n=>n,fun|n=>n⟩
theorem Tryz.keys230:Go.Proofs.SlLaysZ.n7 prog keys230_ren:=by
 refine ⟨?_,⟨f230.name,?_,?_⟩,⟨f269.name,?_,?_⟩,?_,?_,?_,?_,?_,?_,?_,?_,?_,?_,?_,?_,?_,?_,?_,?_,?_,?_,?_,?_,?_,?_,?_,?_,?_,?_,?_,?_⟩<;>first|kernel_rfl|(intro _;kernel_rfl)
def Tryz.keys286_ren:Go.Shelf.Ren:=⟨fun|7=>286|10=>315|n=>n,fun|23=>152|26=>9|3=>192|28=>257|0=>0|27=>256|33=>63|4=>4|n=>n,fun|n=>n⟩
theorem Tryz.keys286:Go.Proofs.SlLaysZ.n7 prog keys286_ren:=by
 refine ⟨?_,⟨f286.name,?_,?_⟩,⟨f315.name,?_,?_⟩,?_,?_,?_,?_,?_,?_,?_,?_,?_,?_,?_,?_,?_,?_,?_,?_,?_,?_,?_,?_,?_,?_,?_,?_,?_,?_,?_,?_⟩<;>first|kernel_rfl|(intro _;kernel_rfl)
open Go.RowKit Go.Maps Go.Sort
theorem Tryz.sorts190 (m:Nat):AnyZ.SortsIn prog sorted190_ren Fence.wide m:=
 ⟨fun blk off cap ss W hH hblk hsz=>callsIn_wide.2 (AnyM.slices_Sort_string sort228 blk off cap ss W hH hblk hsz),
  fun p cap W=>callsIn_wide.2 (AnyM.slices_Sort_string_none sort228 p cap W)⟩
theorem Tryz.maps_Keys_191 (mb:Option Nat) (W:World):CallsIn Fence.wide 5 prog 191 #[.map mb] W fun e w'=>e=.returned (.func (.func 229) #[] #[.pointer (some ⟨W.heap.size,0,none⟩)])∧w'=W.alloc (.cells #[.map mb] 226):=
 AnyZ.keys_in keys191 Fence.wide 5 trivial rfl mb W
set_option maxHeartbeats 1000000 in
theorem Tryz.slices_Sorted_keys_190_191 {H:Type} (b nn:Nat) (D0:DataW H) (R:Value→Option (DataW H×List MemPlace)) (w:World) (hown:w.ownsMap prog 9 R b nn D0) (hmax:Maps.size D0≤maxLen) (hbytes:Maps.size D0*16≤140737488355328):
 CallsIn Fence.wide 5 prog 190 #[.func (.func 229) #[] #[.pointer (some ⟨w.heap.size,0,none⟩)]] (w.alloc (.cells #[.map (some b)] 226)) fun e w'=>∃(v:Value) (ss:List (List UInt8)),e=.returned v∧ss.Perm (strKeys D0)∧
  w'.ownsRow (w.alloc (.cells #[.map (some b)] 226)).heap.size 9 1 v ss.length ((ss.mergeSort (fun x y=>decide (x≤y))).map encStr)∧(v=.slice none 0 0 ↔ ss=[])∧Below (w.alloc (.cells #[.map (some b)] 226)).heap.size (w.alloc (.cells #[.map (some b)] 226)) w':=by
 have hbl:=hown.lt
 have hseq:SeqGives Fence.wide 2 prog 229 #[.pointer (some ⟨w.heap.size,0,none⟩)] encStr (fun ss=>ss.Perm (strKeys D0)) (Maps.size D0) (w.alloc (.cells #[.map (some b)] 226)):=
  AnyZ.keys_gives (ρ:=keys191_ren) { keys191 with} Fence.wide _ trivial rfl (by omega) w.heap.size b nn D0 _ (by simp) (by simp) (by
   obtain ⟨es,clock,hb,Ft,hs,hD⟩:=hown
   exact ⟨es,clock,(Below.heap_alloc _ _ b hbl).trans hb,Ft,hs,hD⟩)
 exact AnyZ.sorted_in sorted190 Fence.wide 5 trivial trivial trivial trivial rfl (by omega) (sorts190 _) (enters_of func228 (by kernel_rfl) rfl) 229 #[.pointer (some ⟨w.heap.size,0,none⟩)] trivial (enters_of func229 (by kernel_rfl) rfl) _ _ hmax hbytes _ hseq
theorem Tryz.maps_Keys_230 (mb:Option Nat) (W:World):CallsIn Fence.wide 5 prog 230 #[.map mb] W fun e w'=>e=.returned (.func (.func 269) #[] #[.pointer (some ⟨W.heap.size,0,none⟩)])∧w'=W.alloc (.cells #[.map mb] 227):=
 AnyZ.keys_in keys230 Fence.wide 5 trivial rfl mb W
set_option maxHeartbeats 1000000 in
theorem Tryz.slices_Sorted_keys_190_230 {H:Type} (b nn:Nat) (D0:DataW H) (R:Value→Option (DataW H×List MemPlace)) (w:World) (hown:w.ownsMap prog 9 R b nn D0) (hmax:Maps.size D0≤maxLen) (hbytes:Maps.size D0*16≤140737488355328):
 CallsIn Fence.wide 5 prog 190 #[.func (.func 269) #[] #[.pointer (some ⟨w.heap.size,0,none⟩)]] (w.alloc (.cells #[.map (some b)] 227)) fun e w'=>∃(v:Value) (ss:List (List UInt8)),e=.returned v∧ss.Perm (strKeys D0)∧
  w'.ownsRow (w.alloc (.cells #[.map (some b)] 227)).heap.size 9 1 v ss.length ((ss.mergeSort (fun x y=>decide (x≤y))).map encStr)∧(v=.slice none 0 0 ↔ ss=[])∧Below (w.alloc (.cells #[.map (some b)] 227)).heap.size (w.alloc (.cells #[.map (some b)] 227)) w':=by
 have hbl:=hown.lt
 have hseq:SeqGives Fence.wide 2 prog 269 #[.pointer (some ⟨w.heap.size,0,none⟩)] encStr (fun ss=>ss.Perm (strKeys D0)) (Maps.size D0) (w.alloc (.cells #[.map (some b)] 227)):=
  AnyZ.keys_gives (ρ:=keys230_ren) { keys230 with} Fence.wide _ trivial rfl (by omega) w.heap.size b nn D0 _ (by simp) (by simp) (by
   obtain ⟨es,clock,hb,Ft,hs,hD⟩:=hown
   exact ⟨es,clock,(Below.heap_alloc _ _ b hbl).trans hb,Ft,hs,hD⟩)
 exact AnyZ.sorted_in sorted190 Fence.wide 5 trivial trivial trivial trivial rfl (by omega) (sorts190 _) (enters_of func228 (by kernel_rfl) rfl) 269 #[.pointer (some ⟨w.heap.size,0,none⟩)] trivial (enters_of func269 (by kernel_rfl) rfl) _ _ hmax hbytes _ hseq
theorem Tryz.maps_Keys_286 (mb:Option Nat) (W:World):CallsIn Fence.wide 5 prog 286 #[.map mb] W fun e w'=>e=.returned (.func (.func 315) #[] #[.pointer (some ⟨W.heap.size,0,none⟩)])∧w'=W.alloc (.cells #[.map mb] 152):=
 AnyZ.keys_in keys286 Fence.wide 5 trivial rfl mb W
set_option maxHeartbeats 1000000 in
theorem Tryz.slices_Sorted_keys_190_286 {H:Type} (b nn:Nat) (D0:DataW H) (R:Value→Option (DataW H×List MemPlace)) (w:World) (hown:w.ownsMap prog 9 R b nn D0) (hmax:Maps.size D0≤maxLen) (hbytes:Maps.size D0*16≤140737488355328):
 CallsIn Fence.wide 5 prog 190 #[.func (.func 315) #[] #[.pointer (some ⟨w.heap.size,0,none⟩)]] (w.alloc (.cells #[.map (some b)] 152)) fun e w'=>∃(v:Value) (ss:List (List UInt8)),e=.returned v∧ss.Perm (strKeys D0)∧
  w'.ownsRow (w.alloc (.cells #[.map (some b)] 152)).heap.size 9 1 v ss.length ((ss.mergeSort (fun x y=>decide (x≤y))).map encStr)∧(v=.slice none 0 0 ↔ ss=[])∧Below (w.alloc (.cells #[.map (some b)] 152)).heap.size (w.alloc (.cells #[.map (some b)] 152)) w':=by
 have hbl:=hown.lt
 have hseq:SeqGives Fence.wide 2 prog 315 #[.pointer (some ⟨w.heap.size,0,none⟩)] encStr (fun ss=>ss.Perm (strKeys D0)) (Maps.size D0) (w.alloc (.cells #[.map (some b)] 152)):=
  AnyZ.keys_gives (ρ:=keys286_ren) { keys286 with} Fence.wide _ trivial rfl (by omega) w.heap.size b nn D0 _ (by simp) (by simp) (by
   obtain ⟨es,clock,hb,Ft,hs,hD⟩:=hown
   exact ⟨es,clock,(Below.heap_alloc _ _ b hbl).trans hb,Ft,hs,hD⟩)
 exact AnyZ.sorted_in sorted190 Fence.wide 5 trivial trivial trivial trivial rfl (by omega) (sorts190 _) (enters_of func228 (by kernel_rfl) rfl) 315 #[.pointer (some ⟨w.heap.size,0,none⟩)] trivial (enters_of func315 (by kernel_rfl) rfl) _ _ hmax hbytes _ hseq
end Go.Proofs
