import Derived.Shelf.SlIter.Nil
import Derived.Shelf.SortM.Plain
import Derived.Shelf.SortM.SortNone
import Derived.Test.YtlailakofhenkabGreatDoorProg
set_option maxHeartbeats 1000000
namespace Go.Proofs
open Go.RowKit Go.Maps Go.Sort Go.Shelf
def Tryz.keys304_ren : Go.Shelf.Ren := ⟨fun | 7 => 304 | 10 => 351 | n => n, fun | 23 => 240 | 26 => 9 | 3 => 253 | 28 => 168 | 0 => 0 | 27 => 167 | 33 => 101 | 4 => 4 | n => n, fun | n => n⟩
theorem Tryz.keys304 : Go.Proofs.SlLaysZ.n7 Tryz.prog Tryz.keys304_ren := {
  mixed := by kernel_rfl
  f7 := ⟨Tryz.f304.name, by decide, Tryz.func304.trans (congrArg some (by kernel_rfl))⟩
  f10 := ⟨Tryz.f351.name, by decide, Tryz.func351.trans (congrArg some (by kernel_rfl))⟩
  t0 := Tryz.underlying0
  a0 := Tryz.isAgg0
  z0 := Tryz.sizeOf0
  v0 := Tryz.zeroValue0
  t4 := Tryz.underlying4
  a4 := Tryz.isAgg4
  z4 := Tryz.sizeOf4
  v4 := Tryz.zeroValue4
  t23 := Tryz.underlying240
  a23 := Tryz.isAgg240
  z23 := Tryz.sizeOf240
  v23 := Tryz.zeroValue240
  t26 := Tryz.underlying9
  a26 := Tryz.isAgg9
  z26 := Tryz.sizeOf9
  v26 := Tryz.zeroValue9
  t27 := Tryz.underlying167
  a27 := Tryz.isAgg167
  z27 := Tryz.sizeOf167
  v27 := Tryz.zeroValue167
  t28 := Tryz.underlying168
  a28 := Tryz.isAgg168
  z28 := Tryz.sizeOf168
  v28 := Tryz.zeroValue168
  t33 := Tryz.underlying101
  a33 := Tryz.isAgg101
  z33 := Tryz.sizeOf101
  v33 := Tryz.zeroValue101 }
def Tryz.sorted303_ren : Go.Shelf.Ren := ⟨fun | 6 => 303 | 8 => 350 | 9 => 274 | 11 => 375 | 13 => 291 | 12 => 323 | 23 => 341 | 24 => 318 | 14 => 360 | 15 => 361 | 16 => 362 | 17 => 363 | 18 => 364 | 19 => 365 | 20 => 324 | 21 => 366 | 22 => 367 | 25 => 379 | 26 => 380 | 27 => 381 | 28 => 382 | 29 => 383 | 30 => 368 | 31 => 386 | n => n, fun | 26 => 9 | 28 => 168 | 24 => 66 | 0 => 0 | 3 => 3 | 37 => 114 | 48 => 186 | 50 => 183 | 4 => 4 | 40 => 396 | 39 => 395 | 45 => 215 | 5 => 5 | 9 => 9 | 51 => 416 | 55 => 403 | 57 => 422 | 58 => 420 | 33 => 101 | n => n, fun | n => n⟩
theorem Tryz.sorted303 : Go.Proofs.SlLaysZ.n6 Tryz.prog Tryz.sorted303_ren := {
  mixed := by kernel_rfl
  f6 := ⟨Tryz.f303.name, by decide, Tryz.func303.trans (congrArg some (by kernel_rfl))⟩
  f8 := ⟨Tryz.f350.name, by decide, Tryz.func350.trans (congrArg some (by kernel_rfl))⟩
  f11 := ⟨Tryz.f375.name, by decide, Tryz.func375.trans (congrArg some (by kernel_rfl))⟩
  t0 := Tryz.underlying0
  a0 := Tryz.isAgg0
  z0 := Tryz.sizeOf0
  v0 := Tryz.zeroValue0
  t24 := Tryz.underlying66
  a24 := Tryz.isAgg66
  z24 := Tryz.sizeOf66
  v24 := Tryz.zeroValue66
  t26 := Tryz.underlying9
  a26 := Tryz.isAgg9
  z26 := Tryz.sizeOf9
  v26 := Tryz.zeroValue9
  t28 := Tryz.underlying168
  a28 := Tryz.isAgg168
  z28 := Tryz.sizeOf168
  v28 := Tryz.zeroValue168
  i26 := by kernel_rfl }
def Tryz.sort274_ren : Go.Shelf.Ren := ⟨fun | 6 => 274 | 8 => 291 | 9 => 323 | 19 => 341 | 20 => 318 | 21 => 360 | 22 => 361 | 23 => 362 | 24 => 363 | 25 => 364 | 26 => 365 | 27 => 324 | 28 => 366 | 29 => 367 | 36 => 379 | 31 => 380 | 32 => 381 | 37 => 382 | 38 => 383 | 39 => 368 | 41 => 386 | n => n, fun | 27 => 66 | 29 => 9 | 3 => 3 | 32 => 114 | 26 => 66 | 0 => 0 | 44 => 186 | 46 => 183 | 4 => 4 | 36 => 396 | 35 => 395 | 41 => 215 | 5 => 5 | 9 => 9 | 53 => 416 | 57 => 403 | 63 => 422 | 64 => 420 | n => n, fun | n => n⟩
theorem Tryz.sort274 : Go.Proofs.SlLaysM.n6 Tryz.prog Tryz.sort274_ren := {
  mixed := by kernel_rfl
  f6 := ⟨Tryz.f274.name, by decide, Tryz.func274.trans (congrArg some (by kernel_rfl))⟩
  f8 := Tryz.func291.trans (congrArg some (by kernel_rfl))
  f9 := ⟨Tryz.f323.name, by decide, Tryz.func323.trans (congrArg some (by kernel_rfl))⟩
  f19 := Tryz.func341.trans (congrArg some (by kernel_rfl))
  f20 := Tryz.func318.trans (congrArg some (by kernel_rfl))
  f21 := ⟨Tryz.f360.name, by decide, Tryz.func360.trans (congrArg some (by kernel_rfl))⟩
  f22 := ⟨Tryz.f361.name, by decide, Tryz.func361.trans (congrArg some (by kernel_rfl))⟩
  f23 := ⟨Tryz.f362.name, by decide, Tryz.func362.trans (congrArg some (by kernel_rfl))⟩
  f24 := ⟨Tryz.f363.name, by decide, Tryz.func363.trans (congrArg some (by kernel_rfl))⟩
  f25 := ⟨Tryz.f364.name, by decide, Tryz.func364.trans (congrArg some (by kernel_rfl))⟩
  f26 := ⟨Tryz.f365.name, by decide, Tryz.func365.trans (congrArg some (by kernel_rfl))⟩
  f27 := ⟨Tryz.f324.name, by decide, Tryz.func324.trans (congrArg some (by kernel_rfl))⟩
  f28 := ⟨Tryz.f366.name, by decide, Tryz.func366.trans (congrArg some (by kernel_rfl))⟩
  f29 := ⟨Tryz.f367.name, by decide, Tryz.func367.trans (congrArg some (by kernel_rfl))⟩
  f31 := Tryz.func380.trans (congrArg some (by kernel_rfl))
  f32 := Tryz.func381.trans (congrArg some (by kernel_rfl))
  f36 := ⟨Tryz.f379.name, by decide, Tryz.func379.trans (congrArg some (by kernel_rfl))⟩
  f37 := ⟨Tryz.f382.name, by decide, Tryz.func382.trans (congrArg some (by kernel_rfl))⟩
  f38 := ⟨Tryz.f383.name, by decide, Tryz.func383.trans (congrArg some (by kernel_rfl))⟩
  f39 := ⟨Tryz.f368.name, by decide, Tryz.func368.trans (congrArg some (by kernel_rfl))⟩
  f41 := ⟨Tryz.f386.name, by decide, Tryz.func386.trans (congrArg some (by kernel_rfl))⟩
  t0 := Tryz.underlying0
  a0 := Tryz.isAgg0
  z0 := Tryz.sizeOf0
  v0 := Tryz.zeroValue0
  t3 := Tryz.underlying3
  a3 := Tryz.isAgg3
  z3 := Tryz.sizeOf3
  v3 := Tryz.zeroValue3
  t4 := Tryz.underlying4
  a4 := Tryz.isAgg4
  z4 := Tryz.sizeOf4
  v4 := Tryz.zeroValue4
  t5 := Tryz.underlying5
  a5 := Tryz.isAgg5
  z5 := Tryz.sizeOf5
  v5 := Tryz.zeroValue5
  t9 := Tryz.underlying9
  a9 := Tryz.isAgg9
  z9 := Tryz.sizeOf9
  v9 := Tryz.zeroValue9
  t26 := Tryz.underlying66
  a26 := Tryz.isAgg66
  z26 := Tryz.sizeOf66
  v26 := Tryz.zeroValue66
  t27 := Tryz.underlying66
  a27 := Tryz.isAgg66
  z27 := Tryz.sizeOf66
  v27 := Tryz.zeroValue66
  t29 := Tryz.underlying9
  a29 := Tryz.isAgg9
  z29 := Tryz.sizeOf9
  v29 := Tryz.zeroValue9
  t32 := Tryz.underlying114
  a32 := Tryz.isAgg114
  z32 := Tryz.sizeOf114
  v32 := Tryz.zeroValue114
  t35 := Tryz.underlying395
  a35 := Tryz.isAgg395
  z35 := Tryz.sizeOf395
  v35 := Tryz.zeroValue395
  t36 := Tryz.underlying396
  a36 := Tryz.isAgg396
  z36 := Tryz.sizeOf396
  v36 := Tryz.zeroValue396
  t41 := Tryz.underlying215
  a41 := Tryz.isAgg215
  z41 := Tryz.sizeOf215
  v41 := Tryz.zeroValue215
  t44 := Tryz.underlying186
  a44 := Tryz.isAgg186
  z44 := Tryz.sizeOf186
  v44 := Tryz.zeroValue186
  t46 := Tryz.underlying183
  a46 := Tryz.isAgg183
  z46 := Tryz.sizeOf183
  v46 := Tryz.zeroValue183
  t53 := Tryz.underlying416
  a53 := Tryz.isAgg416
  z53 := Tryz.sizeOf416
  v53 := Tryz.zeroValue416
  t57 := Tryz.underlying403
  a57 := Tryz.isAgg403
  z57 := Tryz.sizeOf403
  v57 := Tryz.zeroValue403
  t63 := Tryz.underlying422
  a63 := Tryz.isAgg422
  z63 := Tryz.sizeOf422
  v63 := Tryz.zeroValue422
  t64 := Tryz.underlying420
  a64 := Tryz.isAgg420
  z64 := Tryz.sizeOf420
  v64 := Tryz.zeroValue420 }
theorem Tryz.sorts303 (m:Nat):AnyZ.SortsIn Tryz.prog Tryz.sorted303_ren Fence.wide m:=
 ⟨fun blk off cap ss W hH hblk hsz=>callsIn_wide.2 (AnyM.slices_Sort_string Tryz.sort274 blk off cap ss W hH hblk hsz),
  fun p cap W=>callsIn_wide.2 (AnyM.slices_Sort_string_none Tryz.sort274 p cap W)⟩
theorem Tryz.maps_Keys_304 (mb:Option Nat) (W:World):CallsIn Fence.wide 5 Tryz.prog 304 #[.map mb] W fun e w'=>e=.returned (.func (.func 351) #[] #[.pointer (some ⟨W.heap.size,0,none⟩)])∧w'=W.alloc (.cells #[.map mb] 240):=
 AnyZ.keys_in Tryz.keys304 Fence.wide 5 trivial rfl mb W
theorem Tryz.slices_Sorted_keys_303_304 {H:Type} (b nn:Nat) (D0:DataW H) (R:Value→Option (DataW H × List MemPlace)) (w:World) (hown:w.ownsMap Tryz.prog 9 R b nn D0) (hmax:Maps.size D0≤maxLen) (hbytes:Maps.size D0*16≤140737488355328) :
 CallsIn Fence.wide 5 Tryz.prog 303 #[.func (.func 351) #[] #[.pointer (some ⟨w.heap.size,0,none⟩)]] (w.alloc (.cells #[.map (some b)] 240)) fun e w'=>∃ (v:Value) (ss:List (List UInt8)),e=.returned v∧ss.Perm (strKeys D0)∧
  w'.ownsRow (w.alloc (.cells #[.map (some b)] 240)).heap.size 9 1 v ss.length ((ss.mergeSort (fun x y=>decide (x≤y))).map encStr)∧(v=.slice none 0 0↔ss= [])∧Below (w.alloc (.cells #[.map (some b)] 240)).heap.size (w.alloc (.cells #[.map (some b)] 240)) w':=by
 have hbl:=hown.lt
 have hseq:SeqGives Fence.wide 2 Tryz.prog 351 #[.pointer (some ⟨w.heap.size,0,none⟩)] encStr (fun ss=>ss.Perm (strKeys D0)) (Maps.size D0) (w.alloc (.cells #[.map (some b)] 240)):=
  AnyZ.keys_gives (ρ:=Tryz.keys304_ren) { Tryz.keys304 with } Fence.wide _ trivial rfl (by omega) w.heap.size b nn D0 _ (by simp) (by simp) (by
   obtain ⟨es,clock,hb,Ft,hs,hD⟩:=hown;exact ⟨es,clock,(Below.heap_alloc _ _ b hbl).trans hb,Ft,hs,hD⟩)
 exact AnyZ.sorted_in Tryz.sorted303 Fence.wide 5 trivial trivial trivial trivial rfl (by omega) (Tryz.sorts303 _) (enters_of Tryz.func274 (by kernel_rfl) rfl) 351 #[.pointer (some ⟨w.heap.size,0,none⟩)] trivial (enters_of Tryz.func351 (by kernel_rfl) rfl) _ _ hmax hbytes _ hseq
end Go.Proofs
