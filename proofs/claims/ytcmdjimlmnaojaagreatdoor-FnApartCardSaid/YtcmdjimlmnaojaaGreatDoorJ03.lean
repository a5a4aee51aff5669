import Derived.Shelf.SlIter.Nil
import Derived.Shelf.SortM.Plain
import Derived.Shelf.SortM.SortNone
import Derived.Test.YtcmdjimlmnaojaaGreatDoorProg
namespace Go.Proofs
open Tryz
open Go.Shelf
def Tryz.keys70_ren:Go.Shelf.Ren:=⟨fun|7=>70|10=>130|n=>n,fun|23=>152|26=>9|3=>159|28=>157|0=>0|27=>156|33=>115|4=>4|n=>n,fun|n=>n⟩
theorem Tryz.keys70:Go.Proofs.SlLaysZ.n7 prog keys70_ren:=by
 refine ⟨?_,⟨f70.name,?_,?_⟩,⟨f130.name,?_,?_⟩,?_,?_,?_,?_,?_,?_,?_,?_,?_,?_,?_,?_,?_,?_,?_,?_,?_,?_,?_,?_,?_,?_,?_,?_,?_,?_,?_,?_⟩<;>first|kernel_rfl|(intro _;kernel_rfl)
def Tryz.sorted69_ren:Go.Shelf.Ren:=⟨fun|6=>69|8=>128|9=>129|11=>199|13=>201|12=>200|23=>252|24=>253|14=>243|15=>244|16=>245|17=>246|18=>247|19=>248|20=>249|21=>250|22=>251|25=>284|26=>285|27=>286|28=>287|29=>288|30=>228|31=>317|n=>n,fun|26=>9|28=>157|24=>30|0=>0|3=>3|37=>196|48=>326|50=>328|4=>4|40=>319|39=>318|45=>206|5=>5|9=>9|51=>353|55=>357|57=>383|58=>126|33=>115|n=>n,fun|n=>n⟩
theorem Tryz.sorted69:Go.Proofs.SlLaysZ.n6 prog sorted69_ren:=by
 refine ⟨?_,⟨f69.name,?_,?_⟩,⟨f128.name,?_,?_⟩,⟨f199.name,?_,?_⟩,?_,?_,?_,?_,?_,?_,?_,?_,?_,?_,?_,?_,?_,?_,?_,?_,?_⟩<;>first|kernel_rfl|(intro _;kernel_rfl)
def Tryz.sort129_ren:Go.Shelf.Ren:=⟨fun|6=>129|8=>201|9=>200|19=>252|20=>253|21=>243|22=>244|23=>245|24=>246|25=>247|26=>248|27=>249|28=>250|29=>251|36=>284|31=>285|32=>286|37=>287|38=>288|39=>228|41=>317|n=>n,fun|27=>30|29=>9|3=>3|32=>196|26=>30|0=>0|44=>326|46=>328|4=>4|36=>319|35=>318|41=>206|5=>5|9=>9|53=>353|57=>357|63=>383|64=>126|n=>n,fun|n=>n⟩
theorem Tryz.sort129:Go.Proofs.SlLaysM.n6 prog sort129_ren:=by
 refine ⟨?_,⟨f129.name,?_,?_⟩,?_,⟨f200.name,?_,?_⟩,?_,?_,⟨f243.name,?_,?_⟩,⟨f244.name,?_,?_⟩,⟨f245.name,?_,?_⟩,⟨f246.name,?_,?_⟩,⟨f247.name,?_,?_⟩,⟨f248.name,?_,?_⟩,⟨f249.name,?_,?_⟩,⟨f250.name,?_,?_⟩,⟨f251.name,?_,?_⟩,?_,?_,⟨f284.name,?_,?_⟩,⟨f287.name,?_,?_⟩,⟨f288.name,?_,?_⟩,⟨f228.name,?_,?_⟩,⟨f317.name,?_,?_⟩,?_,?_,?_,?_,?_,?_,?_,?_,?_,?_,?_,?_,?_,?_,?_,?_,?_,?_,?_,?_,?_,?_,?_,?_,?_,?_,?_,?_,?_,?_,?_,?_,?_,?_,?_,?_,?_,?_,?_,?_,?_,?_,?_,?_,?_,?_,?_,?_,?_,?_,?_,?_,?_,?_,?_,?_,?_,?_,?_,?_,?_,?_,?_,?_,?_,?_,?_,?_,?_,?_,?_,?_⟩<;>first|kernel_rfl|(intro _;kernel_rfl)
def Tryz.keys131_ren:Go.Shelf.Ren:=⟨fun|7=>131|10=>202|n=>n,fun|23=>216|26=>9|3=>3|28=>157|0=>0|27=>156|33=>115|4=>4|n=>n,fun|n=>n⟩
theorem Tryz.keys131:Go.Proofs.SlLaysZ.n7 prog keys131_ren:=by
 refine ⟨?_,⟨f131.name,?_,?_⟩,⟨f202.name,?_,?_⟩,?_,?_,?_,?_,?_,?_,?_,?_,?_,?_,?_,?_,?_,?_,?_,?_,?_,?_,?_,?_,?_,?_,?_,?_,?_,?_,?_,?_⟩<;>first|kernel_rfl|(intro _;kernel_rfl)
def Tryz.keys203_ren:Go.Shelf.Ren:=⟨fun|7=>203|10=>254|n=>n,fun|23=>217|26=>9|3=>225|28=>157|0=>0|27=>156|33=>115|4=>4|n=>n,fun|n=>n⟩
theorem Tryz.keys203:Go.Proofs.SlLaysZ.n7 prog keys203_ren:=by
 refine ⟨?_,⟨f203.name,?_,?_⟩,⟨f254.name,?_,?_⟩,?_,?_,?_,?_,?_,?_,?_,?_,?_,?_,?_,?_,?_,?_,?_,?_,?_,?_,?_,?_,?_,?_,?_,?_,?_,?_,?_,?_⟩<;>first|kernel_rfl|(intro _;kernel_rfl)
open Go.RowKit Go.Maps Go.Sort
theorem Tryz.sorts69 (m:Nat):AnyZ.SortsIn prog sorted69_ren Fence.wide m:=
 ⟨λblk off cap ss W hH hblk hsz=>callsIn_wide.2 (AnyM.slices_Sort_string sort129 blk off cap ss W hH hblk hsz),
  λp cap W=>callsIn_wide.2 (AnyM.slices_Sort_string_none sort129 p cap W)⟩
theorem Tryz.maps_Keys_70 (mb:Option Nat) (W:World):CallsIn Fence.wide 5 prog 70 #[.map mb] W λe w'=>e=.returned (.func (.func 130) #[] #[.pointer (some ⟨W.heap.size,0,none⟩)])∧w'=W.alloc (.cells #[.map mb] 152):=
 AnyZ.keys_in keys70 Fence.wide 5 trivial rfl mb W
set_option maxHeartbeats 1000000 in
theorem Tryz.slices_Sorted_keys_69_70 {H:Type} (b nn:Nat) (D0:DataW H) (R:Value→Option (DataW H×List MemPlace)) (w:World) (hown:w.ownsMap prog 9 R b nn D0) (hmax:Maps.size D0≤maxLen) (hbytes:Maps.size D0*16≤140737488355328):
 CallsIn Fence.wide 5 prog 69 #[.func (.func 130) #[] #[.pointer (some ⟨w.heap.size,0,none⟩)]] (w.alloc (.cells #[.map (some b)] 152)) λe w'=>∃(v:Value) (ss:List (List UInt8)),e=.returned v∧ss.Perm (strKeys D0)∧
  w'.ownsRow (w.alloc (.cells #[.map (some b)] 152)).heap.size 9 1 v ss.length ((ss.mergeSort (λx y=>decide (x≤y))).map encStr)∧(v=.slice none 0 0 ↔ ss=[])∧Below (w.alloc (.cells #[.map (some b)] 152)).heap.size (w.alloc (.cells #[.map (some b)] 152)) w':=by
 have hbl:=hown.lt
 have hseq:SeqGives Fence.wide 2 prog 130 #[.pointer (some ⟨w.heap.size,0,none⟩)] encStr (λss=>ss.Perm (strKeys D0)) (Maps.size D0) (w.alloc (.cells #[.map (some b)] 152)):=
  AnyZ.keys_gives (ρ:=keys70_ren) { keys70 with} Fence.wide _ trivial rfl (by omega) w.heap.size b nn D0 _ (by simp) (by simp) (by
   obtain ⟨es,clock,hb,Ft,hs,hD⟩:=hown
   exact ⟨es,clock,(Below.heap_alloc _ _ b hbl).trans hb,Ft,hs,hD⟩)
 exact AnyZ.sorted_in sorted69 Fence.wide 5 trivial trivial trivial trivial rfl (by omega) (sorts69 _) (enters_of func129 (by kernel_rfl) rfl) 130 #[.pointer (some ⟨w.heap.size,0,none⟩)] trivial (enters_of func130 (by kernel_rfl) rfl) _ _ hmax hbytes _ hseq
theorem Tryz.maps_Keys_131 (mb:Option Nat) (W:World):CallsIn Fence.wide 5 prog 131 #[.map mb] W λe w'=>e=.returned (.func (.func 202) #[] #[.pointer (some ⟨W.heap.size,0,none⟩)])∧w'=W.alloc (.cells #[.map mb] 216):=
 AnyZ.keys_in keys131 Fence.wide 5 trivial rfl mb W
set_option maxHeartbeats 1000000 in
theorem Tryz.slices_Sorted_keys_69_131 {H:Type} (b nn:Nat) (D0:DataW H) (R:Value→Option (DataW H×List MemPlace)) (w:World) (hown:w.ownsMap prog 9 R b nn D0) (hmax:Maps.size D0≤maxLen) (hbytes:Maps.size D0*16≤140737488355328):
 CallsIn Fence.wide 5 prog 69 #[.func (.func 202) #[] #[.pointer (some ⟨w.heap.size,0,none⟩)]] (w.alloc (.cells #[.map (some b)] 216)) λe w'=>∃(v:Value) (ss:List (List UInt8)),e=.returned v∧ss.Perm (strKeys D0)∧
  w'.ownsRow (w.alloc (.cells #[.map (some b)] 216)).heap.size 9 1 v ss.length ((ss.mergeSort (λx y=>decide (x≤y))).map encStr)∧(v=.slice none 0 0 ↔ ss=[])∧Below (w.alloc (.cells #[.map (some b)] 216)).heap.size (w.alloc (.cells #[.map (some b)] 216)) w':=by
 have hbl:=hown.lt
 have hseq:SeqGives Fence.wide 2 prog 202 #[.pointer (some ⟨w.heap.size,0,none⟩)] encStr (λss=>ss.Perm (strKeys D0)) (Maps.size D0) (w.alloc (.cells #[.map (some b)] 216)):=
  AnyZ.keys_gives (ρ:=keys131_ren) { keys131 with} Fence.wide _ trivial rfl (by omega) w.heap.size b nn D0 _ (by simp) (by simp) (by
   obtain ⟨es,clock,hb,Ft,hs,hD⟩:=hown
   exact ⟨es,clock,(Below.heap_alloc _ _ b hbl).trans hb,Ft,hs,hD⟩)
 exact AnyZ.sorted_in sorted69 Fence.wide 5 trivial trivial trivial trivial rfl (by omega) (sorts69 _) (enters_of func129 (by kernel_rfl) rfl) 202 #[.pointer (some ⟨w.heap.size,0,none⟩)] trivial (enters_of func202 (by kernel_rfl) rfl) _ _ hmax hbytes _ hseq
theorem Tryz.maps_Keys_203 (mb:Option Nat) (W:World):CallsIn Fence.wide 5 prog 203 #[.map mb] W λe w'=>e=.returned (.func (.func 254) #[] #[.pointer (some ⟨W.heap.size,0,none⟩)])∧w'=W.alloc (.cells #[.map mb] 217):=
 AnyZ.keys_in keys203 Fence.wide 5 trivial rfl mb W
set_option maxHeartbeats 1000000 in
theorem Tryz.slices_Sorted_keys_69_203 {H:Type} (b nn:Nat) (D0:DataW H) (R:Value→Option (DataW H×List MemPlace)) (w:World) (hown:w.ownsMap prog 9 R b nn D0) (hmax:Maps.size D0≤maxLen) (hbytes:Maps.size D0*16≤140737488355328):
 CallsIn Fence.wide 5 prog 69 #[.func (.func 254) #[] #[.pointer (some ⟨w.heap.size,0,none⟩)]] (w.alloc (.cells #[.map (some b)] 217)) λe w'=>∃(v:Value) (ss:List (List UInt8)),e=.returned v∧ss.Perm (strKeys D0)∧
  w'.ownsRow (w.alloc (.cells #[.map (some b)] 217)).heap.size 9 1 v ss.length ((ss.mergeSort (λx y=>decide (x≤y))).map encStr)∧(v=.slice none 0 0 ↔ ss=[])∧Below (w.alloc (.cells #[.map (some b)] 217)).heap.size (w.alloc (.cells #[.map (some b)] 217)) w':=by
 have hbl:=hown.lt
 have hseq:SeqGives Fence.wide 2 prog 254 #[.pointer (some ⟨w.heap.size,0,none⟩)] encStr (λss=>ss.Perm (strKeys D0)) (Maps.size D0) (w.alloc (.cells #[.map (some b)] 217)):=
  AnyZ.keys_gives (ρ:=keys203_ren) { keys203 with} Fence.wide _ trivial rfl (by omega) w.heap.size b nn D0 _ (by simp) (by simp) (by
   obtain ⟨es,clock,hb,Ft,hs,hD⟩:=hown
   exact ⟨es,clock,(Below.heap_alloc _ _ b hbl).trans hb,Ft,hs,hD⟩)
 exact AnyZ.sorted_in sorted69 Fence.wide 5 trivial trivial trivial trivial rfl (by omega) (sorts69 _) (enters_of func129 (by kernel_rfl) rfl) 254 #[.pointer (some ⟨w.heap.size,0,none⟩)] trivial (enters_of func254 (by kernel_rfl) rfl) _ _ hmax hbytes _ hseq
end Go.Proofs
