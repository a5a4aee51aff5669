import Derived.Shelf.SlIter.Nil
import Derived.Shelf.SortM.Plain
import Derived.Shelf.SortM.SortNone
import Derived.Test.YtflbidbilgndeaaGreatDoorProg
namespace Go.Proofs
open Tryz
open Go.Shelf
def Tryz.keys75_ren:Go.Shelf.Ren:=⟨fun|7=>75|10=>136|n=>n,fun|23=>158|26=>9|3=>165|28=>163|0=>0|27=>162|33=>133|4=>4|n=>n,fun|n=>n⟩
theorem Tryz.keys75:Go.Proofs.SlLaysZ.n7 prog keys75_ren:=by
 refine ⟨?_,⟨f75.name,?_,?_⟩,⟨f136.name,?_,?_⟩,?_,?_,?_,?_,?_,?_,?_,?_,?_,?_,?_,?_,?_,?_,?_,?_,?_,?_,?_,?_,?_,?_,?_,?_,?_,?_,?_,?_⟩<;>first|kernel_rfl|(intro _;kernel_rfl)
def Tryz.sorted74_ren:Go.Shelf.Ren:=⟨fun|6=>74|8=>134|9=>135|11=>204|13=>206|12=>205|23=>257|24=>258|14=>248|15=>249|16=>250|17=>251|18=>252|19=>253|20=>254|21=>255|22=>256|25=>289|26=>290|27=>291|28=>292|29=>293|30=>233|31=>322|n=>n,fun|26=>9|28=>163|24=>30|0=>0|3=>3|37=>202|48=>329|50=>331|4=>4|40=>322|39=>321|45=>212|5=>5|9=>9|51=>356|55=>360|57=>386|58=>144|33=>133|n=>n,fun|n=>n⟩
theorem Tryz.sorted74:Go.Proofs.SlLaysZ.n6 prog sorted74_ren:=by
 refine ⟨?_,⟨f74.name,?_,?_⟩,⟨f134.name,?_,?_⟩,⟨f204.name,?_,?_⟩,?_,?_,?_,?_,?_,?_,?_,?_,?_,?_,?_,?_,?_,?_,?_,?_,?_⟩<;>first|kernel_rfl|(intro _;kernel_rfl)
def Tryz.sort135_ren:Go.Shelf.Ren:=⟨fun|6=>135|8=>206|9=>205|19=>257|20=>258|21=>248|22=>249|23=>250|24=>251|25=>252|26=>253|27=>254|28=>255|29=>256|36=>289|31=>290|32=>291|37=>292|38=>293|39=>233|41=>322|n=>n,fun|27=>30|29=>9|3=>3|32=>202|26=>30|0=>0|44=>329|46=>331|4=>4|36=>322|35=>321|41=>212|5=>5|9=>9|53=>356|57=>360|63=>386|64=>144|n=>n,fun|n=>n⟩
theorem Tryz.sort135:Go.Proofs.SlLaysM.n6 prog sort135_ren:=by
 refine ⟨?_,⟨f135.name,?_,?_⟩,?_,⟨f205.name,?_,?_⟩,?_,?_,⟨f248.name,?_,?_⟩,⟨f249.name,?_,?_⟩,⟨f250.name,?_,?_⟩,⟨f251.name,?_,?_⟩,⟨f252.name,?_,?_⟩,⟨f253.name,?_,?_⟩,⟨f254.name,?_,?_⟩,⟨f255.name,?_,?_⟩,⟨f256.name,?_,?_⟩,?_,?_,⟨f289.name,?_,?_⟩,⟨f292.name,?_,?_⟩,⟨f293.name,?_,?_⟩,⟨f233.name,?_,?_⟩,⟨f322.name,?_,?_⟩,?_,?_,?_,?_,?_,?_,?_,?_,?_,?_,?_,?_,?_,?_,?_,?_,?_,?_,?_,?_,?_,?_,?_,?_,?_,?_,?_,?_,?_,?_,?_,?_,?_,?_,?_,?_,?_,?_,?_,?_,?_,?_,?_,?_,?_,?_,?_,?_,?_,?_,?_,?_,?_,?_,?_,?_,?_,?_,?_,?_,?_,?_,?_,?_,?_,?_,?_,?_,?_,?_,?_,?_⟩<;>first|kernel_rfl|(intro _;kernel_rfl)
def Tryz.keys137_ren:Go.Shelf.Ren:=⟨fun|7=>137|10=>207|n=>n,fun|23=>222|26=>9|3=>3|28=>163|0=>0|27=>162|33=>133|4=>4|n=>n,fun|n=>n⟩
theorem Tryz.keys137:Go.Proofs.SlLaysZ.n7 prog keys137_ren:=by
 refine ⟨?_,⟨f137.name,?_,?_⟩,⟨f207.name,?_,?_⟩,?_,?_,?_,?_,?_,?_,?_,?_,?_,?_,?_,?_,?_,?_,?_,?_,?_,?_,?_,?_,?_,?_,?_,?_,?_,?_,?_,?_⟩<;>first|kernel_rfl|(intro _;kernel_rfl)
def Tryz.keys208_ren:Go.Shelf.Ren:=⟨fun|7=>208|10=>259|n=>n,fun|23=>223|26=>9|3=>231|28=>163|0=>0|27=>162|33=>133|4=>4|n=>n,fun|n=>n⟩
theorem Tryz.keys208:Go.Proofs.SlLaysZ.n7 prog keys208_ren:=by
 refine ⟨?_,⟨f208.name,?_,?_⟩,⟨f259.name,?_,?_⟩,?_,?_,?_,?_,?_,?_,?_,?_,?_,?_,?_,?_,?_,?_,?_,?_,?_,?_,?_,?_,?_,?_,?_,?_,?_,?_,?_,?_⟩<;>first|kernel_rfl|(intro _;kernel_rfl)
open Go.RowKit Go.Maps Go.Sort
theorem Tryz.sorts74 (m:Nat):AnyZ.SortsIn prog sorted74_ren Fence.wide m:=
 ⟨λblk off cap ss W hH hblk hsz=>callsIn_wide.2 (AnyM.slices_Sort_string sort135 blk off cap ss W hH hblk hsz),
  λp cap W=>callsIn_wide.2 (AnyM.slices_Sort_string_none sort135 p cap W)⟩
theorem Tryz.maps_Keys_75 (mb:Option Nat) (W:World):CallsIn Fence.wide 5 prog 75 #[.map mb] W λe w'=>e=.returned (.func (.func 136) #[] #[.pointer (some ⟨W.heap.size,0,none⟩)])∧w'=W.alloc (.cells #[.map mb] 158):=
 AnyZ.keys_in keys75 Fence.wide 5 trivial rfl mb W
set_option maxHeartbeats 1000000 in
theorem Tryz.slices_Sorted_keys_74_75 {H:Type} (b nn:Nat) (D0:DataW H) (R:Value→Option (DataW H×List MemPlace)) (w:World) (hown:w.ownsMap prog 9 R b nn D0) (hmax:Maps.size D0≤maxLen) (hbytes:Maps.size D0*16≤140737488355328):
 CallsIn Fence.wide 5 prog 74 #[.func (.func 136) #[] #[.pointer (some ⟨w.heap.size,0,none⟩)]] (w.alloc (.cells #[.map (some b)] 158)) λe w'=>∃(v:Value) (ss:List (List UInt8)),e=.returned v∧ss.Perm (strKeys D0)∧
  w'.ownsRow (w.alloc (.cells #[.map (some b)] 158)).heap.size 9 1 v ss.length ((ss.mergeSort (λx y=>decide (x≤y))).map encStr)∧(v=.slice none 0 0 ↔ ss=[])∧Below (w.alloc (.cells #[.map (some b)] 158)).heap.size (w.alloc (.cells #[.map (some b)] 158)) w':=by
 have hbl:=hown.lt
 have hseq:SeqGives Fence.wide 2 prog 136 #[.pointer (some ⟨w.heap.size,0,none⟩)] encStr (λss=>ss.Perm (strKeys D0)) (Maps.size D0) (w.alloc (.cells #[.map (some b)] 158)):=
  AnyZ.keys_gives (ρ:=keys75_ren) { keys75 with} Fence.wide _ trivial rfl (by omega) w.heap.size b nn D0 _ (by simp) (by simp) (by
   obtain ⟨es,clock,hb,Ft,hs,hD⟩:=hown
   exact ⟨es,clock,(Below.heap_alloc _ _ b hbl).trans hb,Ft,hs,hD⟩)
 exact AnyZ.sorted_in sorted74 Fence.wide 5 trivial trivial trivial trivial rfl (by omega) (sorts74 _) (enters_of func135 (by kernel_rfl) rfl) 136 #[.pointer (some ⟨w.heap.size,0,none⟩)] trivial (enters_of func136 (by kernel_rfl) rfl) _ _ hmax hbytes _ hseq
theorem Tryz.maps_Keys_137 (mb:Option Nat) (W:World):CallsIn Fence.wide 5 prog 137 #[.map mb] W λe w'=>e=.returned (.func (.func 207) #[] #[.pointer (some ⟨W.heap.size,0,none⟩)])∧w'=W.alloc (.cells #[.map mb] 222):=
 AnyZ.keys_in keys137 Fence.wide 5 trivial rfl mb W
set_option maxHeartbeats 1000000 in
theorem Tryz.slices_Sorted_keys_74_137 {H:Type} (b nn:Nat) (D0:DataW H) (R:Value→Option (DataW H×List MemPlace)) (w:World) (hown:w.ownsMap prog 9 R b nn D0) (hmax:Maps.size D0≤maxLen) (hbytes:Maps.size D0*16≤140737488355328):
 CallsIn Fence.wide 5 prog 74 #[.func (.func 207) #[] #[.pointer (some ⟨w.heap.size,0,none⟩)]] (w.alloc (.cells #[.map (some b)] 222)) λe w'=>∃(v:Value) (ss:List (List UInt8)),e=.returned v∧ss.Perm (strKeys D0)∧
  w'.ownsRow (w.alloc (.cells #[.map (some b)] 222)).heap.size 9 1 v ss.length ((ss.mergeSort (λx y=>decide (x≤y))).map encStr)∧(v=.slice none 0 0 ↔ ss=[])∧Below (w.alloc (.cells #[.map (some b)] 222)).heap.size (w.alloc (.cells #[.map (some b)] 222)) w':=by
 have hbl:=hown.lt
 have hseq:SeqGives Fence.wide 2 prog 207 #[.pointer (some ⟨w.heap.size,0,none⟩)] encStr (λss=>ss.Perm (strKeys D0)) (Maps.size D0) (w.alloc (.cells #[.map (some b)] 222)):=
  AnyZ.keys_gives (ρ:=keys137_ren) { keys137 with} Fence.wide _ trivial rfl (by omega) w.heap.size b nn D0 _ (by simp) (by simp) (by
   obtain ⟨es,clock,hb,Ft,hs,hD⟩:=hown
   exact ⟨es,clock,(Below.heap_alloc _ _ b hbl).trans hb,Ft,hs,hD⟩)
 exact AnyZ.sorted_in sorted74 Fence.wide 5 trivial trivial trivial trivial rfl (by omega) (sorts74 _) (enters_of func135 (by kernel_rfl) rfl) 207 #[.pointer (some ⟨w.heap.size,0,none⟩)] trivial (enters_of func207 (by kernel_rfl) rfl) _ _ hmax hbytes _ hseq
theorem Tryz.maps_Keys_208 (mb:Option Nat) (W:World):CallsIn Fence.wide 5 prog 208 #[.map mb] W λe w'=>e=.returned (.func (.func 259) #[] #[.pointer (some ⟨W.heap.size,0,none⟩)])∧w'=W.alloc (.cells #[.map mb] 223):=
 AnyZ.keys_in keys208 Fence.wide 5 trivial rfl mb W
set_option maxHeartbeats 1000000 in
theorem Tryz.slices_Sorted_keys_74_208 {H:Type} (b nn:Nat) (D0:DataW H) (R:Value→Option (DataW H×List MemPlace)) (w:World) (hown:w.ownsMap prog 9 R b nn D0) (hmax:Maps.size D0≤maxLen) (hbytes:Maps.size D0*16≤140737488355328):
 CallsIn Fence.wide 5 prog 74 #[.func (.func 259) #[] #[.pointer (some ⟨w.heap.size,0,none⟩)]] (w.alloc (.cells #[.map (some b)] 223)) λe w'=>∃(v:Value) (ss:List (List UInt8)),e=.returned v∧ss.Perm (strKeys D0)∧
  w'.ownsRow (w.alloc (.cells #[.map (some b)] 223)).heap.size 9 1 v ss.length ((ss.mergeSort (λx y=>decide (x≤y))).map encStr)∧(v=.slice none 0 0 ↔ ss=[])∧Below (w.alloc (.cells #[.map (some b)] 223)).heap.size (w.alloc (.cells #[.map (some b)] 223)) w':=by
 have hbl:=hown.lt
 have hseq:SeqGives Fence.wide 2 prog 259 #[.pointer (some ⟨w.heap.size,0,none⟩)] encStr (λss=>ss.Perm (strKeys D0)) (Maps.size D0) (w.alloc (.cells #[.map (some b)] 223)):=
  AnyZ.keys_gives (ρ:=keys208_ren) { keys208 with} Fence.wide _ trivial rfl (by omega) w.heap.size b nn D0 _ (by simp) (by simp) (by
   obtain ⟨es,clock,hb,Ft,hs,hD⟩:=hown
   exact ⟨es,clock,(Below.heap_alloc _ _ b hbl).trans hb,Ft,hs,hD⟩)
 exact AnyZ.sorted_in sorted74 Fence.wide 5 trivial trivial trivial trivial rfl (by omega) (sorts74 _) (enters_of func135 (by kernel_rfl) rfl) 259 #[.pointer (some ⟨w.heap.size,0,none⟩)] trivial (enters_of func259 (by kernel_rfl) rfl) _ _ hmax hbytes _ hseq
end Go.Proofs
