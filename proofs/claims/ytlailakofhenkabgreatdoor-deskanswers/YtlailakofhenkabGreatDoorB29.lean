import Derived.Shelf.SlIter.Nil
import Derived.Shelf.SortM.Plain
import Derived.Shelf.SortM.SortNone
import Derived.Test.YtlailakofhenkabGreatDoorProg
namespace Go.Proofs
open Go.RowKit Go.Maps Go.Sort Go.Shelf
def Tryz.keys304_ren : Go.Shelf.Ren := ⟨fun | 7 => 304 | 10 => 351 | n => n, fun | 23 => 240 | 26 => 9 | 3 => 253 | 28 => 168 | 0 => 0 | 27 => 167 | 33 => 101 | 4 => 4 | n => n, fun | n => n⟩
theorem Tryz.keys304 : Go.Proofs.SlLaysZ.n7 Tryz.prog Tryz.keys304_ren := by
 constructor
 case f7 => exact ⟨Tryz.f304.name, by decide, Tryz.func304.trans (congrArg some (by kernel_rfl))⟩
 case f10 => exact ⟨Tryz.f351.name, by decide, Tryz.func351.trans (congrArg some (by kernel_rfl))⟩
 all_goals first | kernel_rfl | (intro _; kernel_rfl)
def Tryz.sorted303_ren : Go.Shelf.Ren := ⟨fun | 6 => 303 | 8 => 350 | 9 => 274 | 11 => 375 | 13 => 291 | 12 => 323 | 23 => 341 | 24 => 318 | 14 => 360 | 15 => 361 | 16 => 362 | 17 => 363 | 18 => 364 | 19 => 365 | 20 => 324 | 21 => 366 | 22 => 367 | 25 => 379 | 26 => 380 | 27 => 381 | 28 => 382 | 29 => 383 | 30 => 368 | 31 => 386 | n => n, fun | 26 => 9 | 28 => 168 | 24 => 66 | 0 => 0 | 3 => 3 | 37 => 114 | 48 => 186 | 50 => 183 | 4 => 4 | 40 => 396 | 39 => 395 | 45 => 215 | 5 => 5 | 9 => 9 | 51 => 416 | 55 => 403 | 57 => 422 | 58 => 420 | 33 => 101 | n => n, fun | n => n⟩
theorem Tryz.sorted303 : Go.Proofs.SlLaysZ.n6 Tryz.prog Tryz.sorted303_ren := by
 constructor
 case f6 => exact ⟨Tryz.f303.name, by decide, Tryz.func303.trans (congrArg some (by kernel_rfl))⟩
 case f8 => exact ⟨Tryz.f350.name, by decide, Tryz.func350.trans (congrArg some (by kernel_rfl))⟩
 case f11 => exact ⟨Tryz.f375.name, by decide, Tryz.func375.trans (congrArg some (by kernel_rfl))⟩
 all_goals first | kernel_rfl | (intro _; kernel_rfl)
def Tryz.sort274_ren : Go.Shelf.Ren := ⟨fun | 6 => 274 | 8 => 291 | 9 => 323 | 19 => 341 | 20 => 318 | 21 => 360 | 22 => 361 | 23 => 362 | 24 => 363 | 25 => 364 | 26 => 365 | 27 => 324 | 28 => 366 | 29 => 367 | 36 => 379 | 31 => 380 | 32 => 381 | 37 => 382 | 38 => 383 | 39 => 368 | 41 => 386 | n => n, fun | 27 => 66 | 29 => 9 | 3 => 3 | 32 => 114 | 26 => 66 | 0 => 0 | 44 => 186 | 46 => 183 | 4 => 4 | 36 => 396 | 35 => 395 | 41 => 215 | 5 => 5 | 9 => 9 | 53 => 416 | 57 => 403 | 63 => 422 | 64 => 420 | n => n, fun | n => n⟩
theorem Tryz.sort274 : Go.Proofs.SlLaysM.n6 Tryz.prog Tryz.sort274_ren := by
 constructor
 case f6 => exact ⟨Tryz.f274.name, by decide, Tryz.func274.trans (congrArg some (by kernel_rfl))⟩
 case f9 => exact ⟨Tryz.f323.name, by decide, Tryz.func323.trans (congrArg some (by kernel_rfl))⟩
 case f21 => exact ⟨Tryz.f360.name, by decide, Tryz.func360.trans (congrArg some (by kernel_rfl))⟩
 case f22 => exact ⟨Tryz.f361.name, by decide, Tryz.func361.trans (congrArg some (by kernel_rfl))⟩
 case f23 => exact ⟨Tryz.f362.name, by decide, Tryz.func362.trans (congrArg some (by kernel_rfl))⟩
 case f24 => exact ⟨Tryz.f363.name, by decide, Tryz.func363.trans (congrArg some (by kernel_rfl))⟩
 case f25 => exact ⟨Tryz.f364.name, by decide, Tryz.func364.trans (congrArg some (by kernel_rfl))⟩
 case f26 => exact ⟨Tryz.f365.name, by decide, Tryz.func365.trans (congrArg some (by kernel_rfl))⟩
 case f27 => exact ⟨Tryz.f324.name, by decide, Tryz.func324.trans (congrArg some (by kernel_rfl))⟩
 case f28 => exact ⟨Tryz.f366.name, by decide, Tryz.func366.trans (congrArg some (by kernel_rfl))⟩
 case f29 => exact ⟨Tryz.f367.name, by decide, Tryz.func367.trans (congrArg some (by kernel_rfl))⟩
 case f36 => exact ⟨Tryz.f379.name, by decide, Tryz.func379.trans (congrArg some (by kernel_rfl))⟩
 case f37 => exact ⟨Tryz.f382.name, by decide, Tryz.func382.trans (congrArg some (by kernel_rfl))⟩
 case f38 => exact ⟨Tryz.f383.name, by decide, Tryz.func383.trans (congrArg some (by kernel_rfl))⟩
 case f39 => exact ⟨Tryz.f368.name, by decide, Tryz.func368.trans (congrArg some (by kernel_rfl))⟩
 case f41 => exact ⟨Tryz.f386.name, by decide, Tryz.func386.trans (congrArg some (by kernel_rfl))⟩
 all_goals first | kernel_rfl | (intro _; kernel_rfl)
theorem Tryz.sorts303 (m : Nat) : AnyZ.SortsIn Tryz.prog Tryz.sorted303_ren Fence.wide m :=
  ⟨fun blk off cap ss W hH hblk hsz => callsIn_wide.2 (AnyM.slices_Sort_string Tryz.sort274 blk off cap ss W hH hblk hsz),
   fun p cap W => callsIn_wide.2 (AnyM.slices_Sort_string_none Tryz.sort274 p cap W)⟩
theorem Tryz.maps_Keys_304 (mb : Option Nat) (W : World) : CallsIn Fence.wide 5 Tryz.prog 304 #[.map mb] W fun e w' => e = .returned (.func (.func 351) #[] #[.pointer (some ⟨W.heap.size, 0, none⟩)]) ∧ w' = W.alloc (.cells #[.map mb] 240) :=
  AnyZ.keys_in Tryz.keys304 Fence.wide 5 trivial rfl mb W
set_option maxHeartbeats 1000000 in
theorem Tryz.slices_Sorted_keys_303_304 {H : Type} (b nn : Nat) (D0 : DataW H) (R : Value -> Option (DataW H × List MemPlace)) (w : World) (hown : w.ownsMap Tryz.prog 9 R b nn D0) (hmax : Maps.size D0 <= maxLen) (hbytes : Maps.size D0 * 16 <= 140737488355328) :
    CallsIn Fence.wide 5 Tryz.prog 303 #[.func (.func 351) #[] #[.pointer (some ⟨w.heap.size, 0, none⟩)]] (w.alloc (.cells #[.map (some b)] 240)) fun e w' => ∃ (v : Value) (ss : List (List UInt8)), e = .returned v ∧ ss.Perm (strKeys D0) ∧
      w'.ownsRow (w.alloc (.cells #[.map (some b)] 240)).heap.size 9 1 v ss.length ((ss.mergeSort (fun x y => decide (x <= y))).map encStr) ∧ (v = .slice none 0 0 ↔ ss = []) ∧ Below (w.alloc (.cells #[.map (some b)] 240)).heap.size (w.alloc (.cells #[.map (some b)] 240)) w' := by
  have hbl := hown.lt
  have hseq : SeqGives Fence.wide 2 Tryz.prog 351 #[.pointer (some ⟨w.heap.size, 0, none⟩)] encStr (fun ss => ss.Perm (strKeys D0)) (Maps.size D0) (w.alloc (.cells #[.map (some b)] 240)) :=
    AnyZ.keys_gives (ρ := Tryz.keys304_ren) { Tryz.keys304 with } Fence.wide _ trivial rfl (by omega) w.heap.size b nn D0 _ (by simp) (by simp) (by
      obtain ⟨es, clock, hb, Ft, hs, hD⟩ := hown
      exact ⟨es, clock, (Below.heap_alloc _ _ b hbl).trans hb, Ft, hs, hD⟩)
  exact AnyZ.sorted_in Tryz.sorted303 Fence.wide 5 trivial trivial trivial trivial rfl (by omega) (Tryz.sorts303 _) (enters_of Tryz.func274 (by kernel_rfl) rfl) 351 #[.pointer (some ⟨w.heap.size, 0, none⟩)] trivial (enters_of Tryz.func351 (by kernel_rfl) rfl) _ _ hmax hbytes _ hseq
end Go.Proofs
