import Derived.Shelf.SlIter.Nil
import Derived.Shelf.SortM.Plain
import Derived.Shelf.SortM.SortNone
import Derived.Test.YtjpeimianeiegaaGreatDoorProg
namespace Go.Proofs
open Tryz
open Go.Shelf
def Tryz.keys70_ren:Go.Shelf.Ren:=⟨fun|7=>70|10=>112|n=>n,fun|23=>144|26=>9|3=>151|28=>149|0=>0|27=>148|33=>99|4=>4|n=>n,fun|n=>n⟩
theorem Tryz.keys70:Go.Proofs.SlLaysZ.n7 prog keys70_ren:={
 mixed:=by kernel_rfl
 f7:=⟨f70.name,by decide,func70.trans (congrArg some (by kernel_rfl))⟩
 f10:=⟨f112.name,by decide,func112.trans (congrArg some (by kernel_rfl))⟩
 t0:=underlying0
 a0:=isAgg0
 z0:=sizeOf0
 v0:=zeroValue0
 t4:=underlying4
 a4:=isAgg4
 z4:=sizeOf4
 v4:=zeroValue4
 t23:=underlying144
 a23:=isAgg144
 z23:=sizeOf144
 v23:=zeroValue144
 t26:=underlying9
 a26:=isAgg9
 z26:=sizeOf9
 v26:=zeroValue9
 t27:=underlying148
 a27:=isAgg148
 z27:=sizeOf148
 v27:=zeroValue148
 t28:=underlying149
 a28:=isAgg149
 z28:=sizeOf149
 v28:=zeroValue149
 t33:=underlying99
 a33:=isAgg99
 z33:=sizeOf99
 v33:=zeroValue99}
def Tryz.sorted69_ren:Go.Shelf.Ren:=⟨fun|6=>69|8=>110|9=>111|11=>149|13=>151|12=>150|23=>200|24=>201|14=>191|15=>192|16=>193|17=>194|18=>195|19=>196|20=>197|21=>198|22=>199|25=>233|26=>234|27=>235|28=>236|29=>237|30=>159|31=>262|n=>n,fun|26=>9|28=>149|24=>61|0=>0|3=>3|37=>197|48=>279|50=>281|4=>4|40=>272|39=>271|45=>169|5=>5|9=>9|51=>306|55=>310|57=>332|58=>102|33=>99|n=>n,fun|n=>n⟩
theorem Tryz.sorted69:Go.Proofs.SlLaysZ.n6 prog sorted69_ren:={
 mixed:=by kernel_rfl
 f6:=⟨f69.name,by decide,func69.trans (congrArg some (by kernel_rfl))⟩
 f8:=⟨f110.name,by decide,func110.trans (congrArg some (by kernel_rfl))⟩
 f11:=⟨f149.name,by decide,func149.trans (congrArg some (by kernel_rfl))⟩
 t0:=underlying0
 a0:=isAgg0
 z0:=sizeOf0
 v0:=zeroValue0
 t24:=underlying61
 a24:=isAgg61
 z24:=sizeOf61
 v24:=zeroValue61
 t26:=underlying9
 a26:=isAgg9
 z26:=sizeOf9
 v26:=zeroValue9
 t28:=underlying149
 a28:=isAgg149
 z28:=sizeOf149
 v28:=zeroValue149
 i26:=by kernel_rfl}
def Tryz.sort111_ren:Go.Shelf.Ren:=⟨fun|6=>111|8=>151|9=>150|19=>200|20=>201|21=>191|22=>192|23=>193|24=>194|25=>195|26=>196|27=>197|28=>198|29=>199|36=>233|31=>234|32=>235|37=>236|38=>237|39=>159|41=>262|n=>n,fun|27=>61|29=>9|3=>3|32=>197|26=>61|0=>0|44=>279|46=>281|4=>4|36=>272|35=>271|41=>169|5=>5|9=>9|53=>306|57=>310|63=>332|64=>102|n=>n,fun|n=>n⟩
theorem Tryz.sort111:Go.Proofs.SlLaysM.n6 prog sort111_ren:={
 mixed:=by kernel_rfl
 f6:=⟨f111.name,by decide,func111.trans (congrArg some (by kernel_rfl))⟩
 f8:=func151.trans (congrArg some (by kernel_rfl))
 f9:=⟨f150.name,by decide,func150.trans (congrArg some (by kernel_rfl))⟩
 f19:=func200.trans (congrArg some (by kernel_rfl))
 f20:=func201.trans (congrArg some (by kernel_rfl))
 f21:=⟨f191.name,by decide,func191.trans (congrArg some (by kernel_rfl))⟩
 f22:=⟨f192.name,by decide,func192.trans (congrArg some (by kernel_rfl))⟩
 f23:=⟨f193.name,by decide,func193.trans (congrArg some (by kernel_rfl))⟩
 f24:=⟨f194.name,by decide,func194.trans (congrArg some (by kernel_rfl))⟩
 f25:=⟨f195.name,by decide,func195.trans (congrArg some (by kernel_rfl))⟩
 f26:=⟨f196.name,by decide,func196.trans (congrArg some (by kernel_rfl))⟩
 f27:=⟨f197.name,by decide,func197.trans (congrArg some (by kernel_rfl))⟩
 f28:=⟨f198.name,by decide,func198.trans (congrArg some (by kernel_rfl))⟩
 f29:=⟨f199.name,by decide,func199.trans (congrArg some (by kernel_rfl))⟩
 f31:=func234.trans (congrArg some (by kernel_rfl))
 f32:=func235.trans (congrArg some (by kernel_rfl))
 f36:=⟨f233.name,by decide,func233.trans (congrArg some (by kernel_rfl))⟩
 f37:=⟨f236.name,by decide,func236.trans (congrArg some (by kernel_rfl))⟩
 f38:=⟨f237.name,by decide,func237.trans (congrArg some (by kernel_rfl))⟩
 f39:=⟨f159.name,by decide,func159.trans (congrArg some (by kernel_rfl))⟩
 f41:=⟨f262.name,by decide,func262.trans (congrArg some (by kernel_rfl))⟩
 t0:=underlying0
 a0:=isAgg0
 z0:=sizeOf0
 v0:=zeroValue0
 t3:=underlying3
 a3:=isAgg3
 z3:=sizeOf3
 v3:=zeroValue3
 t4:=underlying4
 a4:=isAgg4
 z4:=sizeOf4
 v4:=zeroValue4
 t5:=underlying5
 a5:=isAgg5
 z5:=sizeOf5
 v5:=zeroValue5
 t9:=underlying9
 a9:=isAgg9
 z9:=sizeOf9
 v9:=zeroValue9
 t26:=underlying61
 a26:=isAgg61
 z26:=sizeOf61
 v26:=zeroValue61
 t27:=underlying61
 a27:=isAgg61
 z27:=sizeOf61
 v27:=zeroValue61
 t29:=underlying9
 a29:=isAgg9
 z29:=sizeOf9
 v29:=zeroValue9
 t32:=underlying197
 a32:=isAgg197
 z32:=sizeOf197
 v32:=zeroValue197
 t35:=underlying271
 a35:=isAgg271
 z35:=sizeOf271
 v35:=zeroValue271
 t36:=underlying272
 a36:=isAgg272
 z36:=sizeOf272
 v36:=zeroValue272
 t41:=underlying169
 a41:=isAgg169
 z41:=sizeOf169
 v41:=zeroValue169
 t44:=underlying279
 a44:=isAgg279
 z44:=sizeOf279
 v44:=zeroValue279
 t46:=underlying281
 a46:=isAgg281
 z46:=sizeOf281
 v46:=zeroValue281
 t53:=underlying306
 a53:=isAgg306
 z53:=sizeOf306
 v53:=zeroValue306
 t57:=underlying310
 a57:=isAgg310
 z57:=sizeOf310
 v57:=zeroValue310
 t63:=underlying332
 a63:=isAgg332
 z63:=sizeOf332
 v63:=zeroValue332
 t64:=underlying102
 a64:=isAgg102
 z64:=sizeOf102
 v64:=zeroValue102}
def Tryz.keys113_ren:Go.Shelf.Ren:=⟨fun|7=>113|10=>152|n=>n,fun|23=>181|26=>9|3=>3|28=>149|0=>0|27=>148|33=>99|4=>4|n=>n,fun|n=>n⟩
theorem Tryz.keys113:Go.Proofs.SlLaysZ.n7 prog keys113_ren:={
 mixed:=by kernel_rfl
 f7:=⟨f113.name,by decide,func113.trans (congrArg some (by kernel_rfl))⟩
 f10:=⟨f152.name,by decide,func152.trans (congrArg some (by kernel_rfl))⟩
 t0:=underlying0
 a0:=isAgg0
 z0:=sizeOf0
 v0:=zeroValue0
 t4:=underlying4
 a4:=isAgg4
 z4:=sizeOf4
 v4:=zeroValue4
 t23:=underlying181
 a23:=isAgg181
 z23:=sizeOf181
 v23:=zeroValue181
 t26:=underlying9
 a26:=isAgg9
 z26:=sizeOf9
 v26:=zeroValue9
 t27:=underlying148
 a27:=isAgg148
 z27:=sizeOf148
 v27:=zeroValue148
 t28:=underlying149
 a28:=isAgg149
 z28:=sizeOf149
 v28:=zeroValue149
 t33:=underlying99
 a33:=isAgg99
 z33:=sizeOf99
 v33:=zeroValue99}
def Tryz.keys153_ren:Go.Shelf.Ren:=⟨fun|7=>153|10=>202|n=>n,fun|23=>182|26=>9|3=>190|28=>149|0=>0|27=>148|33=>99|4=>4|n=>n,fun|n=>n⟩
theorem Tryz.keys153:Go.Proofs.SlLaysZ.n7 prog keys153_ren:={
 mixed:=by kernel_rfl
 f7:=⟨f153.name,by decide,func153.trans (congrArg some (by kernel_rfl))⟩
 f10:=⟨f202.name,by decide,func202.trans (congrArg some (by kernel_rfl))⟩
 t0:=underlying0
 a0:=isAgg0
 z0:=sizeOf0
 v0:=zeroValue0
 t4:=underlying4
 a4:=isAgg4
 z4:=sizeOf4
 v4:=zeroValue4
 t23:=underlying182
 a23:=isAgg182
 z23:=sizeOf182
 v23:=zeroValue182
 t26:=underlying9
 a26:=isAgg9
 z26:=sizeOf9
 v26:=zeroValue9
 t27:=underlying148
 a27:=isAgg148
 z27:=sizeOf148
 v27:=zeroValue148
 t28:=underlying149
 a28:=isAgg149
 z28:=sizeOf149
 v28:=zeroValue149
 t33:=underlying99
 a33:=isAgg99
 z33:=sizeOf99
 v33:=zeroValue99}
open Go.RowKit Go.Maps Go.Sort
theorem Tryz.sorts69 (m:Nat):AnyZ.SortsIn prog sorted69_ren Fence.wide m:=
 ⟨fun blk off cap ss W hH hblk hsz=>callsIn_wide.2 (AnyM.slices_Sort_string sort111 blk off cap ss W hH hblk hsz),
  fun p cap W=>callsIn_wide.2 (AnyM.slices_Sort_string_none sort111 p cap W)⟩
theorem Tryz.maps_Keys_70 (mb:Option Nat) (W:World):CallsIn Fence.wide 5 prog 70 #[.map mb] W fun e w'=>e=.returned (.func (.func 112) #[] #[.pointer (some ⟨W.heap.size,0,none⟩)])∧w'=W.alloc (.cells #[.map mb] 144):=
 AnyZ.keys_in keys70 Fence.wide 5 trivial rfl mb W
set_option maxHeartbeats 1000000 in
theorem Tryz.slices_Sorted_keys_69_70 {H:Type} (b nn:Nat) (D0:DataW H) (R:Value→Option (DataW H×List MemPlace)) (w:World) (hown:w.ownsMap prog 9 R b nn D0) (hmax:Maps.size D0≤maxLen) (hbytes:Maps.size D0*16≤140737488355328):
 CallsIn Fence.wide 5 prog 69 #[.func (.func 112) #[] #[.pointer (some ⟨w.heap.size,0,none⟩)]] (w.alloc (.cells #[.map (some b)] 144)) fun e w'=>∃(v:Value) (ss:List (List UInt8)),e=.returned v∧ss.Perm (strKeys D0)∧
  w'.ownsRow (w.alloc (.cells #[.map (some b)] 144)).heap.size 9 1 v ss.length ((ss.mergeSort (fun x y=>decide (x≤y))).map encStr)∧(v=.slice none 0 0 ↔ ss=[])∧Below (w.alloc (.cells #[.map (some b)] 144)).heap.size (w.alloc (.cells #[.map (some b)] 144)) w':=by
 have hbl:=hown.lt
 have hseq:SeqGives Fence.wide 2 prog 112 #[.pointer (some ⟨w.heap.size,0,none⟩)] encStr (fun ss=>ss.Perm (strKeys D0)) (Maps.size D0) (w.alloc (.cells #[.map (some b)] 144)):=
  AnyZ.keys_gives (ρ:=keys70_ren) { keys70 with} Fence.wide _ trivial rfl (by omega) w.heap.size b nn D0 _ (by simp) (by simp) (by
   obtain ⟨es,clock,hb,Ft,hs,hD⟩:=hown
   exact ⟨es,clock,(Below.heap_alloc _ _ b hbl).trans hb,Ft,hs,hD⟩)
 exact AnyZ.sorted_in sorted69 Fence.wide 5 trivial trivial trivial trivial rfl (by omega) (sorts69 _) (enters_of func111 (by kernel_rfl) rfl) 112 #[.pointer (some ⟨w.heap.size,0,none⟩)] trivial (enters_of func112 (by kernel_rfl) rfl) _ _ hmax hbytes _ hseq
theorem Tryz.maps_Keys_113 (mb:Option Nat) (W:World):CallsIn Fence.wide 5 prog 113 #[.map mb] W fun e w'=>e=.returned (.func (.func 152) #[] #[.pointer (some ⟨W.heap.size,0,none⟩)])∧w'=W.alloc (.cells #[.map mb] 181):=
 AnyZ.keys_in keys113 Fence.wide 5 trivial rfl mb W
set_option maxHeartbeats 1000000 in
theorem Tryz.slices_Sorted_keys_69_113 {H:Type} (b nn:Nat) (D0:DataW H) (R:Value→Option (DataW H×List MemPlace)) (w:World) (hown:w.ownsMap prog 9 R b nn D0) (hmax:Maps.size D0≤maxLen) (hbytes:Maps.size D0*16≤140737488355328):
 CallsIn Fence.wide 5 prog 69 #[.func (.func 152) #[] #[.pointer (some ⟨w.heap.size,0,none⟩)]] (w.alloc (.cells #[.map (some b)] 181)) fun e w'=>∃(v:Value) (ss:List (List UInt8)),e=.returned v∧ss.Perm (strKeys D0)∧
  w'.ownsRow (w.alloc (.cells #[.map (some b)] 181)).heap.size 9 1 v ss.length ((ss.mergeSort (fun x y=>decide (x≤y))).map encStr)∧(v=.slice none 0 0 ↔ ss=[])∧Below (w.alloc (.cells #[.map (some b)] 181)).heap.size (w.alloc (.cells #[.map (some b)] 181)) w':=by
 have hbl:=hown.lt
 have hseq:SeqGives Fence.wide 2 prog 152 #[.pointer (some ⟨w.heap.size,0,none⟩)] encStr (fun ss=>ss.Perm (strKeys D0)) (Maps.size D0) (w.alloc (.cells #[.map (some b)] 181)):=
  AnyZ.keys_gives (ρ:=keys113_ren) { keys113 with} Fence.wide _ trivial rfl (by omega) w.heap.size b nn D0 _ (by simp) (by simp) (by
   obtain ⟨es,clock,hb,Ft,hs,hD⟩:=hown
   exact ⟨es,clock,(Below.heap_alloc _ _ b hbl).trans hb,Ft,hs,hD⟩)
 exact AnyZ.sorted_in sorted69 Fence.wide 5 trivial trivial trivial trivial rfl (by omega) (sorts69 _) (enters_of func111 (by kernel_rfl) rfl) 152 #[.pointer (some ⟨w.heap.size,0,none⟩)] trivial (enters_of func152 (by kernel_rfl) rfl) _ _ hmax hbytes _ hseq
theorem Tryz.maps_Keys_153 (mb:Option Nat) (W:World):CallsIn Fence.wide 5 prog 153 #[.map mb] W fun e w'=>e=.returned (.func (.func 202) #[] #[.pointer (some ⟨W.heap.size,0,none⟩)])∧w'=W.alloc (.cells #[.map mb] 182):=
 AnyZ.keys_in keys153 Fence.wide 5 trivial rfl mb W
set_option maxHeartbeats 1000000 in
theorem Tryz.slices_Sorted_keys_69_153 {H:Type} (b nn:Nat) (D0:DataW H) (R:Value→Option (DataW H×List MemPlace)) (w:World) (hown:w.ownsMap prog 9 R b nn D0) (hmax:Maps.size D0≤maxLen) (hbytes:Maps.size D0*16≤140737488355328):
 CallsIn Fence.wide 5 prog 69 #[.func (.func 202) #[] #[.pointer (some ⟨w.heap.size,0,none⟩)]] (w.alloc (.cells #[.map (some b)] 182)) fun e w'=>∃(v:Value) (ss:List (List UInt8)),e=.returned v∧ss.Perm (strKeys D0)∧
  w'.ownsRow (w.alloc (.cells #[.map (some b)] 182)).heap.size 9 1 v ss.length ((ss.mergeSort (fun x y=>decide (x≤y))).map encStr)∧(v=.slice none 0 0 ↔ ss=[])∧Below (w.alloc (.cells #[.map (some b)] 182)).heap.size (w.alloc (.cells #[.map (some b)] 182)) w':=by
 have hbl:=hown.lt
 have hseq:SeqGives Fence.wide 2 prog 202 #[.pointer (some ⟨w.heap.size,0,none⟩)] encStr (fun ss=>ss.Perm (strKeys D0)) (Maps.size D0) (w.alloc (.cells #[.map (some b)] 182)):=
  AnyZ.keys_gives (ρ:=keys153_ren) { keys153 with} Fence.wide _ trivial rfl (by omega) w.heap.size b nn D0 _ (by simp) (by simp) (by
   obtain ⟨es,clock,hb,Ft,hs,hD⟩:=hown
   exact ⟨es,clock,(Below.heap_alloc _ _ b hbl).trans hb,Ft,hs,hD⟩)
 exact AnyZ.sorted_in sorted69 Fence.wide 5 trivial trivial trivial trivial rfl (by omega) (sorts69 _) (enters_of func111 (by kernel_rfl) rfl) 202 #[.pointer (some ⟨w.heap.size,0,none⟩)] trivial (enters_of func202 (by kernel_rfl) rfl) _ _ hmax hbytes _ hseq
end Go.Proofs
