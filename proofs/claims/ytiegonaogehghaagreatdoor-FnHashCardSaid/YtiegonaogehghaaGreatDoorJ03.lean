import Derived.Shelf.SlIter.Nil
import Derived.Shelf.SortM.Plain
import Derived.Shelf.SortM.SortNone
import Derived.Test.YtiegonaogehghaaGreatDoorProg
namespace Go.Proofs
open Tryz
open Go.Shelf
def Tryz.keys75_ren:Go.Shelf.Ren:=⟨fun|7=>75|10=>138|n=>n,fun|23=>159|26=>9|3=>97|28=>164|0=>0|27=>163|33=>96|4=>4|n=>n,fun|n=>n⟩
theorem Tryz.keys75:Go.Proofs.SlLaysZ.n7 prog keys75_ren:={
 mixed:=by kernel_rfl
 f7:=⟨f75.name,by decide,func75.trans (congrArg some (by kernel_rfl))⟩
 f10:=⟨f138.name,by decide,func138.trans (congrArg some (by kernel_rfl))⟩
 t0:=underlying0
 a0:=isAgg0
 z0:=sizeOf0
 v0:=zeroValue0
 t4:=underlying4
 a4:=isAgg4
 z4:=sizeOf4
 v4:=zeroValue4
 t23:=underlying159
 a23:=isAgg159
 z23:=sizeOf159
 v23:=zeroValue159
 t26:=underlying9
 a26:=isAgg9
 z26:=sizeOf9
 v26:=zeroValue9
 t27:=underlying163
 a27:=isAgg163
 z27:=sizeOf163
 v27:=zeroValue163
 t28:=underlying164
 a28:=isAgg164
 z28:=sizeOf164
 v28:=zeroValue164
 t33:=underlying96
 a33:=isAgg96
 z33:=sizeOf96
 v33:=zeroValue96}
def Tryz.sorted74_ren:Go.Shelf.Ren:=⟨fun|6=>74|8=>136|9=>137|11=>205|13=>207|12=>206|23=>257|24=>258|14=>248|15=>249|16=>250|17=>251|18=>252|19=>253|20=>254|21=>255|22=>256|25=>288|26=>289|27=>290|28=>291|29=>292|30=>233|31=>320|n=>n,fun|26=>9|28=>164|24=>30|0=>0|3=>3|37=>214|48=>330|50=>193|4=>4|40=>323|39=>322|45=>224|5=>5|9=>9|51=>356|55=>360|57=>386|58=>139|33=>96|n=>n,fun|n=>n⟩
theorem Tryz.sorted74:Go.Proofs.SlLaysZ.n6 prog sorted74_ren:={
 mixed:=by kernel_rfl
 f6:=⟨f74.name,by decide,func74.trans (congrArg some (by kernel_rfl))⟩
 f8:=⟨f136.name,by decide,func136.trans (congrArg some (by kernel_rfl))⟩
 f11:=⟨f205.name,by decide,func205.trans (congrArg some (by kernel_rfl))⟩
 t0:=underlying0
 a0:=isAgg0
 z0:=sizeOf0
 v0:=zeroValue0
 t24:=underlying30
 a24:=isAgg30
 z24:=sizeOf30
 v24:=zeroValue30
 t26:=underlying9
 a26:=isAgg9
 z26:=sizeOf9
 v26:=zeroValue9
 t28:=underlying164
 a28:=isAgg164
 z28:=sizeOf164
 v28:=zeroValue164
 i26:=by kernel_rfl}
def Tryz.sort137_ren:Go.Shelf.Ren:=⟨fun|6=>137|8=>207|9=>206|19=>257|20=>258|21=>248|22=>249|23=>250|24=>251|25=>252|26=>253|27=>254|28=>255|29=>256|36=>288|31=>289|32=>290|37=>291|38=>292|39=>233|41=>320|n=>n,fun|27=>30|29=>9|3=>3|32=>214|26=>30|0=>0|44=>330|46=>193|4=>4|36=>323|35=>322|41=>224|5=>5|9=>9|53=>356|57=>360|63=>386|64=>139|n=>n,fun|n=>n⟩
theorem Tryz.sort137:Go.Proofs.SlLaysM.n6 prog sort137_ren:={
 mixed:=by kernel_rfl
 f6:=⟨f137.name,by decide,func137.trans (congrArg some (by kernel_rfl))⟩
 f8:=func207.trans (congrArg some (by kernel_rfl))
 f9:=⟨f206.name,by decide,func206.trans (congrArg some (by kernel_rfl))⟩
 f19:=func257.trans (congrArg some (by kernel_rfl))
 f20:=func258.trans (congrArg some (by kernel_rfl))
 f21:=⟨f248.name,by decide,func248.trans (congrArg some (by kernel_rfl))⟩
 f22:=⟨f249.name,by decide,func249.trans (congrArg some (by kernel_rfl))⟩
 f23:=⟨f250.name,by decide,func250.trans (congrArg some (by kernel_rfl))⟩
 f24:=⟨f251.name,by decide,func251.trans (congrArg some (by kernel_rfl))⟩
 f25:=⟨f252.name,by decide,func252.trans (congrArg some (by kernel_rfl))⟩
 f26:=⟨f253.name,by decide,func253.trans (congrArg some (by kernel_rfl))⟩
 f27:=⟨f254.name,by decide,func254.trans (congrArg some (by kernel_rfl))⟩
 f28:=⟨f255.name,by decide,func255.trans (congrArg some (by kernel_rfl))⟩
 f29:=⟨f256.name,by decide,func256.trans (congrArg some (by kernel_rfl))⟩
 f31:=func289.trans (congrArg some (by kernel_rfl))
 f32:=func290.trans (congrArg some (by kernel_rfl))
 f36:=⟨f288.name,by decide,func288.trans (congrArg some (by kernel_rfl))⟩
 f37:=⟨f291.name,by decide,func291.trans (congrArg some (by kernel_rfl))⟩
 f38:=⟨f292.name,by decide,func292.trans (congrArg some (by kernel_rfl))⟩
 f39:=⟨f233.name,by decide,func233.trans (congrArg some (by kernel_rfl))⟩
 f41:=⟨f320.name,by decide,func320.trans (congrArg some (by kernel_rfl))⟩
 t0:=underlying0
 a0:=isAgg0
 z0:=sizeOf0
 v0:=zeroValue0
 t3:=underlying3
 a3:=isAgg3
 z3:=sizeOf3
 v3:=zeroValue3
 t4:=underlying4
 a4:=isAgg4
 z4:=sizeOf4
 v4:=zeroValue4
 t5:=underlying5
 a5:=isAgg5
 z5:=sizeOf5
 v5:=zeroValue5
 t9:=underlying9
 a9:=isAgg9
 z9:=sizeOf9
 v9:=zeroValue9
 t26:=underlying30
 a26:=isAgg30
 z26:=sizeOf30
 v26:=zeroValue30
 t27:=underlying30
 a27:=isAgg30
 z27:=sizeOf30
 v27:=zeroValue30
 t29:=underlying9
 a29:=isAgg9
 z29:=sizeOf9
 v29:=zeroValue9
 t32:=underlying214
 a32:=isAgg214
 z32:=sizeOf214
 v32:=zeroValue214
 t35:=underlying322
 a35:=isAgg322
 z35:=sizeOf322
 v35:=zeroValue322
 t36:=underlying323
 a36:=isAgg323
 z36:=sizeOf323
 v36:=zeroValue323
 t41:=underlying224
 a41:=isAgg224
 z41:=sizeOf224
 v41:=zeroValue224
 t44:=underlying330
 a44:=isAgg330
 z44:=sizeOf330
 v44:=zeroValue330
 t46:=underlying193
 a46:=isAgg193
 z46:=sizeOf193
 v46:=zeroValue193
 t53:=underlying356
 a53:=isAgg356
 z53:=sizeOf356
 v53:=zeroValue356
 t57:=underlying360
 a57:=isAgg360
 z57:=sizeOf360
 v57:=zeroValue360
 t63:=underlying386
 a63:=isAgg386
 z63:=sizeOf386
 v63:=zeroValue386
 t64:=underlying139
 a64:=isAgg139
 z64:=sizeOf139
 v64:=zeroValue139}
def Tryz.keys94_ren:Go.Shelf.Ren:=⟨fun|7=>94|10=>168|n=>n,fun|23=>185|26=>9|3=>186|28=>164|0=>0|27=>163|33=>96|4=>4|n=>n,fun|n=>n⟩
theorem Tryz.keys94:Go.Proofs.SlLaysZ.n7 prog keys94_ren:={
 mixed:=by kernel_rfl
 f7:=⟨f94.name,by decide,func94.trans (congrArg some (by kernel_rfl))⟩
 f10:=⟨f168.name,by decide,func168.trans (congrArg some (by kernel_rfl))⟩
 t0:=underlying0
 a0:=isAgg0
 z0:=sizeOf0
 v0:=zeroValue0
 t4:=underlying4
 a4:=isAgg4
 z4:=sizeOf4
 v4:=zeroValue4
 t23:=underlying185
 a23:=isAgg185
 z23:=sizeOf185
 v23:=zeroValue185
 t26:=underlying9
 a26:=isAgg9
 z26:=sizeOf9
 v26:=zeroValue9
 t27:=underlying163
 a27:=isAgg163
 z27:=sizeOf163
 v27:=zeroValue163
 t28:=underlying164
 a28:=isAgg164
 z28:=sizeOf164
 v28:=zeroValue164
 t33:=underlying96
 a33:=isAgg96
 z33:=sizeOf96
 v33:=zeroValue96}
def Tryz.keys139_ren:Go.Shelf.Ren:=⟨fun|7=>139|10=>208|n=>n,fun|23=>187|26=>9|3=>3|28=>164|0=>0|27=>163|33=>96|4=>4|n=>n,fun|n=>n⟩
theorem Tryz.keys139:Go.Proofs.SlLaysZ.n7 prog keys139_ren:={
 mixed:=by kernel_rfl
 f7:=⟨f139.name,by decide,func139.trans (congrArg some (by kernel_rfl))⟩
 f10:=⟨f208.name,by decide,func208.trans (congrArg some (by kernel_rfl))⟩
 t0:=underlying0
 a0:=isAgg0
 z0:=sizeOf0
 v0:=zeroValue0
 t4:=underlying4
 a4:=isAgg4
 z4:=sizeOf4
 v4:=zeroValue4
 t23:=underlying187
 a23:=isAgg187
 z23:=sizeOf187
 v23:=zeroValue187
 t26:=underlying9
 a26:=isAgg9
 z26:=sizeOf9
 v26:=zeroValue9
 t27:=underlying163
 a27:=isAgg163
 z27:=sizeOf163
 v27:=zeroValue163
 t28:=underlying164
 a28:=isAgg164
 z28:=sizeOf164
 v28:=zeroValue164
 t33:=underlying96
 a33:=isAgg96
 z33:=sizeOf96
 v33:=zeroValue96}
open Go.RowKit Go.Maps Go.Sort
theorem Tryz.sorts74 (m:Nat):AnyZ.SortsIn prog sorted74_ren Fence.wide m:=
 ⟨λblk off cap ss W hH hblk hsz=>callsIn_wide.2 (AnyM.slices_Sort_string sort137 blk off cap ss W hH hblk hsz),
  λp cap W=>callsIn_wide.2 (AnyM.slices_Sort_string_none sort137 p cap W)⟩
theorem Tryz.maps_Keys_75 (mb:Option Nat) (W:World):CallsIn Fence.wide 5 prog 75 #[.map mb] W λe w'=>e=.returned (.func (.func 138) #[] #[.pointer (some ⟨W.heap.size,0,none⟩)])∧w'=W.alloc (.cells #[.map mb] 159):=
 AnyZ.keys_in keys75 Fence.wide 5 trivial rfl mb W
set_option maxHeartbeats 1000000 in
theorem Tryz.slices_Sorted_keys_74_75 {H:Type} (b nn:Nat) (D0:DataW H) (R:Value→Option (DataW H×List MemPlace)) (w:World) (hown:w.ownsMap prog 9 R b nn D0) (hmax:Maps.size D0≤maxLen) (hbytes:Maps.size D0*16≤140737488355328):
 CallsIn Fence.wide 5 prog 74 #[.func (.func 138) #[] #[.pointer (some ⟨w.heap.size,0,none⟩)]] (w.alloc (.cells #[.map (some b)] 159)) λe w'=>∃(v:Value) (ss:List (List UInt8)),e=.returned v∧ss.Perm (strKeys D0)∧
  w'.ownsRow (w.alloc (.cells #[.map (some b)] 159)).heap.size 9 1 v ss.length ((ss.mergeSort (λx y=>decide (x≤y))).map encStr)∧(v=.slice none 0 0 ↔ ss=[])∧Below (w.alloc (.cells #[.map (some b)] 159)).heap.size (w.alloc (.cells #[.map (some b)] 159)) w':=by
 have hbl:=hown.lt
 have hseq:SeqGives Fence.wide 2 prog 138 #[.pointer (some ⟨w.heap.size,0,none⟩)] encStr (λss=>ss.Perm (strKeys D0)) (Maps.size D0) (w.alloc (.cells #[.map (some b)] 159)):=
  AnyZ.keys_gives (ρ:=keys75_ren) { keys75 with} Fence.wide _ trivial rfl (by omega) w.heap.size b nn D0 _ (by simp) (by simp) (by
   obtain ⟨es,clock,hb,Ft,hs,hD⟩:=hown
   exact ⟨es,clock,(Below.heap_alloc _ _ b hbl).trans hb,Ft,hs,hD⟩)
 exact AnyZ.sorted_in sorted74 Fence.wide 5 trivial trivial trivial trivial rfl (by omega) (sorts74 _) (enters_of func137 (by kernel_rfl) rfl) 138 #[.pointer (some ⟨w.heap.size,0,none⟩)] trivial (enters_of func138 (by kernel_rfl) rfl) _ _ hmax hbytes _ hseq
theorem Tryz.maps_Keys_94 (mb:Option Nat) (W:World):CallsIn Fence.wide 5 prog 94 #[.map mb] W λe w'=>e=.returned (.func (.func 168) #[] #[.pointer (some ⟨W.heap.size,0,none⟩)])∧w'=W.alloc (.cells #[.map mb] 185):=
 AnyZ.keys_in keys94 Fence.wide 5 trivial rfl mb W
set_option maxHeartbeats 1000000 in
theorem Tryz.slices_Sorted_keys_74_94 {H:Type} (b nn:Nat) (D0:DataW H) (R:Value→Option (DataW H×List MemPlace)) (w:World) (hown:w.ownsMap prog 9 R b nn D0) (hmax:Maps.size D0≤maxLen) (hbytes:Maps.size D0*16≤140737488355328):
 CallsIn Fence.wide 5 prog 74 #[.func (.func 168) #[] #[.pointer (some ⟨w.heap.size,0,none⟩)]] (w.alloc (.cells #[.map (some b)] 185)) λe w'=>∃(v:Value) (ss:List (List UInt8)),e=.returned v∧ss.Perm (strKeys D0)∧
  w'.ownsRow (w.alloc (.cells #[.map (some b)] 185)).heap.size 9 1 v ss.length ((ss.mergeSort (λx y=>decide (x≤y))).map encStr)∧(v=.slice none 0 0 ↔ ss=[])∧Below (w.alloc (.cells #[.map (some b)] 185)).heap.size (w.alloc (.cells #[.map (some b)] 185)) w':=by
 have hbl:=hown.lt
 have hseq:SeqGives Fence.wide 2 prog 168 #[.pointer (some ⟨w.heap.size,0,none⟩)] encStr (λss=>ss.Perm (strKeys D0)) (Maps.size D0) (w.alloc (.cells #[.map (some b)] 185)):=
  AnyZ.keys_gives (ρ:=keys94_ren) { keys94 with} Fence.wide _ trivial rfl (by omega) w.heap.size b nn D0 _ (by simp) (by simp) (by
   obtain ⟨es,clock,hb,Ft,hs,hD⟩:=hown
   exact ⟨es,clock,(Below.heap_alloc _ _ b hbl).trans hb,Ft,hs,hD⟩)
 exact AnyZ.sorted_in sorted74 Fence.wide 5 trivial trivial trivial trivial rfl (by omega) (sorts74 _) (enters_of func137 (by kernel_rfl) rfl) 168 #[.pointer (some ⟨w.heap.size,0,none⟩)] trivial (enters_of func168 (by kernel_rfl) rfl) _ _ hmax hbytes _ hseq
theorem Tryz.maps_Keys_139 (mb:Option Nat) (W:World):CallsIn Fence.wide 5 prog 139 #[.map mb] W λe w'=>e=.returned (.func (.func 208) #[] #[.pointer (some ⟨W.heap.size,0,none⟩)])∧w'=W.alloc (.cells #[.map mb] 187):=
 AnyZ.keys_in keys139 Fence.wide 5 trivial rfl mb W
set_option maxHeartbeats 1000000 in
theorem Tryz.slices_Sorted_keys_74_139 {H:Type} (b nn:Nat) (D0:DataW H) (R:Value→Option (DataW H×List MemPlace)) (w:World) (hown:w.ownsMap prog 9 R b nn D0) (hmax:Maps.size D0≤maxLen) (hbytes:Maps.size D0*16≤140737488355328):
 CallsIn Fence.wide 5 prog 74 #[.func (.func 208) #[] #[.pointer (some ⟨w.heap.size,0,none⟩)]] (w.alloc (.cells #[.map (some b)] 187)) λe w'=>∃(v:Value) (ss:List (List UInt8)),e=.returned v∧ss.Perm (strKeys D0)∧
  w'.ownsRow (w.alloc (.cells #[.map (some b)] 187)).heap.size 9 1 v ss.length ((ss.mergeSort (λx y=>decide (x≤y))).map encStr)∧(v=.slice none 0 0 ↔ ss=[])∧Below (w.alloc (.cells #[.map (some b)] 187)).heap.size (w.alloc (.cells #[.map (some b)] 187)) w':=by
 have hbl:=hown.lt
 have hseq:SeqGives Fence.wide 2 prog 208 #[.pointer (some ⟨w.heap.size,0,none⟩)] encStr (λss=>ss.Perm (strKeys D0)) (Maps.size D0) (w.alloc (.cells #[.map (some b)] 187)):=
  AnyZ.keys_gives (ρ:=keys139_ren) { keys139 with} Fence.wide _ trivial rfl (by omega) w.heap.size b nn D0 _ (by simp) (by simp) (by
   obtain ⟨es,clock,hb,Ft,hs,hD⟩:=hown
   exact ⟨es,clock,(Below.heap_alloc _ _ b hbl).trans hb,Ft,hs,hD⟩)
 exact AnyZ.sorted_in sorted74 Fence.wide 5 trivial trivial trivial trivial rfl (by omega) (sorts74 _) (enters_of func137 (by kernel_rfl) rfl) 208 #[.pointer (some ⟨w.heap.size,0,none⟩)] trivial (enters_of func208 (by kernel_rfl) rfl) _ _ hmax hbytes _ hseq
end Go.Proofs
