import Derived.Shelf.SlIter.Nil
import Derived.Shelf.SortM.Plain
import Derived.Shelf.SortM.SortNone
import Derived.Test.YtejebmgbenmimaaGreatDoorProg
namespace Go.Proofs
open Tryz
open Go.Shelf
def Tryz.keys87_ren:Go.Shelf.Ren:=⟨fun|7=>87|10=>157|n=>n,fun|23=>167|26=>9|3=>174|28=>172|0=>0|27=>171|33=>148|4=>4|n=>n,fun|n=>n⟩
theorem Tryz.keys87:Go.Proofs.SlLaysZ.n7 prog keys87_ren:=by
 refine ⟨?_,⟨f87.name,?_,?_⟩,⟨f157.name,?_,?_⟩,?_,?_,?_,?_,?_,?_,?_,?_,?_,?_,?_,?_,?_,?_,?_,?_,?_,?_,?_,?_,?_,?_,?_,?_,?_,?_,?_,?_⟩<;>first|kernel_rfl|(intro _;kernel_rfl)
def Tryz.sorted86_ren:Go.Shelf.Ren:=⟨fun|6=>86|8=>155|9=>156|11=>222|13=>224|12=>223|23=>268|24=>269|14=>259|15=>260|16=>261|17=>262|18=>263|19=>264|20=>265|21=>266|22=>267|25=>295|26=>296|27=>297|28=>298|29=>299|30=>253|31=>324|n=>n,fun|26=>9|28=>172|24=>30|0=>0|3=>3|37=>216|48=>308|50=>339|4=>4|40=>331|39=>330|45=>219|5=>5|9=>9|51=>359|55=>363|57=>388|58=>154|33=>148|n=>n,fun|n=>n⟩
theorem Tryz.sorted86:Go.Proofs.SlLaysZ.n6 prog sorted86_ren:=by
 refine ⟨?_,⟨f86.name,?_,?_⟩,⟨f155.name,?_,?_⟩,⟨f222.name,?_,?_⟩,?_,?_,?_,?_,?_,?_,?_,?_,?_,?_,?_,?_,?_,?_,?_,?_,?_⟩<;>first|kernel_rfl|(intro _;kernel_rfl)
def Tryz.sort156_ren:Go.Shelf.Ren:=⟨fun|6=>156|8=>224|9=>223|19=>268|20=>269|21=>259|22=>260|23=>261|24=>262|25=>263|26=>264|27=>265|28=>266|29=>267|36=>295|31=>296|32=>297|37=>298|38=>299|39=>253|41=>324|n=>n,fun|27=>30|29=>9|3=>3|32=>216|26=>30|0=>0|44=>308|46=>339|4=>4|36=>331|35=>330|41=>219|5=>5|9=>9|53=>359|57=>363|63=>388|64=>154|n=>n,fun|n=>n⟩
theorem Tryz.sort156:Go.Proofs.SlLaysM.n6 prog sort156_ren:=by
 refine ⟨?_,⟨f156.name,?_,?_⟩,?_,⟨f223.name,?_,?_⟩,?_,?_,⟨f259.name,?_,?_⟩,⟨f260.name,?_,?_⟩,⟨f261.name,?_,?_⟩,⟨f262.name,?_,?_⟩,⟨f263.name,?_,?_⟩,⟨f264.name,?_,?_⟩,⟨f265.name,?_,?_⟩,⟨f266.name,?_,?_⟩,⟨f267.name,?_,?_⟩,?_,?_,⟨f295.name,?_,?_⟩,⟨f298.name,?_,?_⟩,⟨f299.name,?_,?_⟩,⟨f253.name,?_,?_⟩,⟨f324.name,?_,?_⟩,?_,?_,?_,?_,?_,?_,?_,?_,?_,?_,?_,?_,?_,?_,?_,?_,?_,?_,?_,?_,?_,?_,?_,?_,?_,?_,?_,?_,?_,?_,?_,?_,?_,?_,?_,?_,?_,?_,?_,?_,?_,?_,?_,?_,?_,?_,?_,?_,?_,?_,?_,?_,?_,?_,?_,?_,?_,?_,?_,?_,?_,?_,?_,?_,?_,?_,?_,?_,?_,?_,?_,?_⟩<;>first|kernel_rfl|(intro _;kernel_rfl)
def Tryz.keys158_ren:Go.Shelf.Ren:=⟨fun|7=>158|10=>225|n=>n,fun|23=>227|26=>9|3=>3|28=>172|0=>0|27=>171|33=>148|4=>4|n=>n,fun|n=>n⟩
theorem Tryz.keys158:Go.Proofs.SlLaysZ.n7 prog keys158_ren:=by
 refine ⟨?_,⟨f158.name,?_,?_⟩,⟨f225.name,?_,?_⟩,?_,?_,?_,?_,?_,?_,?_,?_,?_,?_,?_,?_,?_,?_,?_,?_,?_,?_,?_,?_,?_,?_,?_,?_,?_,?_,?_,?_⟩<;>first|kernel_rfl|(intro _;kernel_rfl)
def Tryz.keys226_ren:Go.Shelf.Ren:=⟨fun|7=>226|10=>270|n=>n,fun|23=>228|26=>9|3=>236|28=>172|0=>0|27=>171|33=>148|4=>4|n=>n,fun|n=>n⟩
theorem Tryz.keys226:Go.Proofs.SlLaysZ.n7 prog keys226_ren:=by
 refine ⟨?_,⟨f226.name,?_,?_⟩,⟨f270.name,?_,?_⟩,?_,?_,?_,?_,?_,?_,?_,?_,?_,?_,?_,?_,?_,?_,?_,?_,?_,?_,?_,?_,?_,?_,?_,?_,?_,?_,?_,?_⟩<;>first|kernel_rfl|(intro _;kernel_rfl)
open Go.RowKit Go.Maps Go.Sort
theorem Tryz.sorts86 (m:Nat):AnyZ.SortsIn prog sorted86_ren Fence.wide m:=
 ⟨λblk off cap ss W hH hblk hsz=>callsIn_wide.2 (AnyM.slices_Sort_string sort156 blk off cap ss W hH hblk hsz),
  λp cap W=>callsIn_wide.2 (AnyM.slices_Sort_string_none sort156 p cap W)⟩
theorem Tryz.maps_Keys_87 (mb:Option Nat) (W:World):CallsIn Fence.wide 5 prog 87 #[.map mb] W λe w'=>e=.returned (.func (.func 157) #[] #[.pointer (some ⟨W.heap.size,0,none⟩)])∧w'=W.alloc (.cells #[.map mb] 167):=
 AnyZ.keys_in keys87 Fence.wide 5 trivial rfl mb W
set_option maxHeartbeats 1000000 in
theorem Tryz.slices_Sorted_keys_86_87 {H:Type} (b nn:Nat) (D0:DataW H) (R:Value→Option (DataW H×List MemPlace)) (w:World) (hown:w.ownsMap prog 9 R b nn D0) (hmax:Maps.size D0≤maxLen) (hbytes:Maps.size D0*16≤140737488355328):
 CallsIn Fence.wide 5 prog 86 #[.func (.func 157) #[] #[.pointer (some ⟨w.heap.size,0,none⟩)]] (w.alloc (.cells #[.map (some b)] 167)) λe w'=>∃(v:Value) (ss:List (List UInt8)),e=.returned v∧ss.Perm (strKeys D0)∧
  w'.ownsRow (w.alloc (.cells #[.map (some b)] 167)).heap.size 9 1 v ss.length ((ss.mergeSort (λx y=>decide (x≤y))).map encStr)∧(v=.slice none 0 0 ↔ ss=[])∧Below (w.alloc (.cells #[.map (some b)] 167)).heap.size (w.alloc (.cells #[.map (some b)] 167)) w':=by
 have hbl:=hown.lt
 have hseq:SeqGives Fence.wide 2 prog 157 #[.pointer (some ⟨w.heap.size,0,none⟩)] encStr (λss=>ss.Perm (strKeys D0)) (Maps.size D0) (w.alloc (.cells #[.map (some b)] 167)):=
  AnyZ.keys_gives (ρ:=keys87_ren) { keys87 with} Fence.wide _ trivial rfl (by omega) w.heap.size b nn D0 _ (by simp) (by simp) (by
   obtain ⟨es,clock,hb,Ft,hs,hD⟩:=hown
   exact ⟨es,clock,(Below.heap_alloc _ _ b hbl).trans hb,Ft,hs,hD⟩)
 exact AnyZ.sorted_in sorted86 Fence.wide 5 trivial trivial trivial trivial rfl (by omega) (sorts86 _) (enters_of func156 (by kernel_rfl) rfl) 157 #[.pointer (some ⟨w.heap.size,0,none⟩)] trivial (enters_of func157 (by kernel_rfl) rfl) _ _ hmax hbytes _ hseq
theorem Tryz.maps_Keys_158 (mb:Option Nat) (W:World):CallsIn Fence.wide 5 prog 158 #[.map mb] W λe w'=>e=.returned (.func (.func 225) #[] #[.pointer (some ⟨W.heap.size,0,none⟩)])∧w'=W.alloc (.cells #[.map mb] 227):=
 AnyZ.keys_in keys158 Fence.wide 5 trivial rfl mb W
set_option maxHeartbeats 1000000 in
theorem Tryz.slices_Sorted_keys_86_158 {H:Type} (b nn:Nat) (D0:DataW H) (R:Value→Option (DataW H×List MemPlace)) (w:World) (hown:w.ownsMap prog 9 R b nn D0) (hmax:Maps.size D0≤maxLen) (hbytes:Maps.size D0*16≤140737488355328):
 CallsIn Fence.wide 5 prog 86 #[.func (.func 225) #[] #[.pointer (some ⟨w.heap.size,0,none⟩)]] (w.alloc (.cells #[.map (some b)] 227)) λe w'=>∃(v:Value) (ss:List (List UInt8)),e=.returned v∧ss.Perm (strKeys D0)∧
  w'.ownsRow (w.alloc (.cells #[.map (some b)] 227)).heap.size 9 1 v ss.length ((ss.mergeSort (λx y=>decide (x≤y))).map encStr)∧(v=.slice none 0 0 ↔ ss=[])∧Below (w.alloc (.cells #[.map (some b)] 227)).heap.size (w.alloc (.cells #[.map (some b)] 227)) w':=by
 have hbl:=hown.lt
 have hseq:SeqGives Fence.wide 2 prog 225 #[.pointer (some ⟨w.heap.size,0,none⟩)] encStr (λss=>ss.Perm (strKeys D0)) (Maps.size D0) (w.alloc (.cells #[.map (some b)] 227)):=
  AnyZ.keys_gives (ρ:=keys158_ren) { keys158 with} Fence.wide _ trivial rfl (by omega) w.heap.size b nn D0 _ (by simp) (by simp) (by
   obtain ⟨es,clock,hb,Ft,hs,hD⟩:=hown
   exact ⟨es,clock,(Below.heap_alloc _ _ b hbl).trans hb,Ft,hs,hD⟩)
 exact AnyZ.sorted_in sorted86 Fence.wide 5 trivial trivial trivial trivial rfl (by omega) (sorts86 _) (enters_of func156 (by kernel_rfl) rfl) 225 #[.pointer (some ⟨w.heap.size,0,none⟩)] trivial (enters_of func225 (by kernel_rfl) rfl) _ _ hmax hbytes _ hseq
theorem Tryz.maps_Keys_226 (mb:Option Nat) (W:World):CallsIn Fence.wide 5 prog 226 #[.map mb] W λe w'=>e=.returned (.func (.func 270) #[] #[.pointer (some ⟨W.heap.size,0,none⟩)])∧w'=W.alloc (.cells #[.map mb] 228):=
 AnyZ.keys_in keys226 Fence.wide 5 trivial rfl mb W
set_option maxHeartbeats 1000000 in
theorem Tryz.slices_Sorted_keys_86_226 {H:Type} (b nn:Nat) (D0:DataW H) (R:Value→Option (DataW H×List MemPlace)) (w:World) (hown:w.ownsMap prog 9 R b nn D0) (hmax:Maps.size D0≤maxLen) (hbytes:Maps.size D0*16≤140737488355328):
 CallsIn Fence.wide 5 prog 86 #[.func (.func 270) #[] #[.pointer (some ⟨w.heap.size,0,none⟩)]] (w.alloc (.cells #[.map (some b)] 228)) λe w'=>∃(v:Value) (ss:List (List UInt8)),e=.returned v∧ss.Perm (strKeys D0)∧
  w'.ownsRow (w.alloc (.cells #[.map (some b)] 228)).heap.size 9 1 v ss.length ((ss.mergeSort (λx y=>decide (x≤y))).map encStr)∧(v=.slice none 0 0 ↔ ss=[])∧Below (w.alloc (.cells #[.map (some b)] 228)).heap.size (w.alloc (.cells #[.map (some b)] 228)) w':=by
 have hbl:=hown.lt
 have hseq:SeqGives Fence.wide 2 prog 270 #[.pointer (some ⟨w.heap.size,0,none⟩)] encStr (λss=>ss.Perm (strKeys D0)) (Maps.size D0) (w.alloc (.cells #[.map (some b)] 228)):=
  AnyZ.keys_gives (ρ:=keys226_ren) { keys226 with} Fence.wide _ trivial rfl (by omega) w.heap.size b nn D0 _ (by simp) (by simp) (by
   obtain ⟨es,clock,hb,Ft,hs,hD⟩:=hown
   exact ⟨es,clock,(Below.heap_alloc _ _ b hbl).trans hb,Ft,hs,hD⟩)
 exact AnyZ.sorted_in sorted86 Fence.wide 5 trivial trivial trivial trivial rfl (by omega) (sorts86 _) (enters_of func156 (by kernel_rfl) rfl) 270 #[.pointer (some ⟨w.heap.size,0,none⟩)] trivial (enters_of func270 (by kernel_rfl) rfl) _ _ hmax hbytes _ hseq
end Go.Proofs
