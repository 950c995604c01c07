/-
  The walks of layer 1's functions (octet), at the seat's numbers: U8 to U64; the layer does something.
-/
import Derived.Test.YtngnhieddblnmaaEight
namespace Go.Proofs.Ytngnhieddblnmaa
open Go.ChangeShapes Go.WideShapes Go.ChangeAt Go.RowKit

theorem u8_refuses (R : Nat) (e : Int) (xs : List Int) (w : World) (h : RdAt w R xs e) (he : (e != 0) = true) :
    Calls Try.prog 19 #[.pointer (some ⟨R, 0, none⟩)] w fun f w' => f = .returned (.int .u8 0) ∧ Below w.heap.size w w' := by
  have H := Lib.hid h; clear h
  go_enter Try.func19, Try.ntmps19
  go_wp2_with (go_at_call 33; refine (number_refuses _ _ _ xs _ H.out he).mono ?_; rintro e1 w1 ⟨rfl, hb⟩)
  go_ret
  exact ⟨rfl, hb⟩
theorem u8_short (R : Nat) (xs : List Int) (w : World) (h : RdAt w R xs 0) (hn : xs.length < 1) :
    Calls Try.prog 19 #[.pointer (some ⟨R, 0, none⟩)] w fun f w' => f = .returned (.int .u8 0) ∧ Only R w w' ∧ RdAt w' R xs 7 := by
  have H := Lib.hid h; clear h
  go_enter Try.func19, Try.ntmps19
  go_wp2_with (go_at_call 33; refine (number_short _ 1 xs _ H.out hn).mono ?_; rintro e1 w1 ⟨rfl, hb, hr⟩; have HR := Lib.hid hr; clear hr)
  go_ret
  exact ⟨rfl, hb, HR.out⟩
theorem u8_ok (R : Nat) (xs : List Int) (w : World) (h : RdAt w R xs 0) (hn : 1 ≤ xs.length) (hb : bytesOk xs) :
    Calls Try.prog 19 #[.pointer (some ⟨R, 0, none⟩)] w fun f w' => f = .returned (.int .u8 (num (xs.take 1))) ∧ Only R w w' ∧ RdAt w' R (xs.drop 1) 0 := by
  have H := Lib.hid h; clear h
  obtain ⟨y0, y1⟩ := num_bound xs hb 1 hn
  have y2 : num (xs.take 1) < 256 := by simpa using y1
  clear y1
  obtain ⟨y, hy⟩ : ∃ y, y = num (xs.take 1) := ⟨_, rfl⟩
  rw [← hy] at y0 y2
  rw [← hy]
  have HY := Lib.hid hy; clear hy
  have HBy := Lib.hid hb; clear hb
  go_enter Try.func19, Try.ntmps19
  go_wp2_with (go_at_call 33; refine (number_ok _ 1 xs _ H.out (by decide) (by decide) hn HBy.out).mono ?_; rw [← HY.out]; rintro e1 w1 ⟨rfl, hb, hr⟩; have HR := Lib.hid hr; clear hr)
  go_ret
  exact ⟨rfl, hb, HR.out⟩

theorem u16_refuses (R : Nat) (e : Int) (xs : List Int) (w : World) (h : RdAt w R xs e) (he : (e != 0) = true) :
    Calls Try.prog 21 #[.pointer (some ⟨R, 0, none⟩)] w fun f w' => f = .returned (.int .u16 0) ∧ Below w.heap.size w w' := by
  have H := Lib.hid h; clear h
  go_enter Try.func21, Try.ntmps21
  go_wp2_with (go_at_call 33; refine (number_refuses _ _ _ xs _ H.out he).mono ?_; rintro e1 w1 ⟨rfl, hb⟩)
  go_ret
  exact ⟨rfl, hb⟩
theorem u16_short (R : Nat) (xs : List Int) (w : World) (h : RdAt w R xs 0) (hn : xs.length < 2) :
    Calls Try.prog 21 #[.pointer (some ⟨R, 0, none⟩)] w fun f w' => f = .returned (.int .u16 0) ∧ Only R w w' ∧ RdAt w' R xs 7 := by
  have H := Lib.hid h; clear h
  go_enter Try.func21, Try.ntmps21
  go_wp2_with (go_at_call 33; refine (number_short _ 2 xs _ H.out hn).mono ?_; rintro e1 w1 ⟨rfl, hb, hr⟩; have HR := Lib.hid hr; clear hr)
  go_ret
  exact ⟨rfl, hb, HR.out⟩
theorem u16_ok (R : Nat) (xs : List Int) (w : World) (h : RdAt w R xs 0) (hn : 2 ≤ xs.length) (hb : bytesOk xs) :
    Calls Try.prog 21 #[.pointer (some ⟨R, 0, none⟩)] w fun f w' => f = .returned (.int .u16 (num (xs.take 2))) ∧ Only R w w' ∧ RdAt w' R (xs.drop 2) 0 := by
  have H := Lib.hid h; clear h
  obtain ⟨y0, y1⟩ := num_bound xs hb 2 hn
  have y2 : num (xs.take 2) < 65536 := by simpa using y1
  clear y1
  obtain ⟨y, hy⟩ : ∃ y, y = num (xs.take 2) := ⟨_, rfl⟩
  rw [← hy] at y0 y2
  rw [← hy]
  have HY := Lib.hid hy; clear hy
  have HBy := Lib.hid hb; clear hb
  go_enter Try.func21, Try.ntmps21
  go_wp2_with (go_at_call 33; refine (number_ok _ 2 xs _ H.out (by decide) (by decide) hn HBy.out).mono ?_; rw [← HY.out]; rintro e1 w1 ⟨rfl, hb, hr⟩; have HR := Lib.hid hr; clear hr)
  go_ret
  exact ⟨rfl, hb, HR.out⟩

theorem u32_refuses (R : Nat) (e : Int) (xs : List Int) (w : World) (h : RdAt w R xs e) (he : (e != 0) = true) :
    Calls Try.prog 22 #[.pointer (some ⟨R, 0, none⟩)] w fun f w' => f = .returned (.int .u32 0) ∧ Below w.heap.size w w' := by
  have H := Lib.hid h; clear h
  go_enter Try.func22, Try.ntmps22
  go_wp2_with (go_at_call 33; refine (number_refuses _ _ _ xs _ H.out he).mono ?_; rintro e1 w1 ⟨rfl, hb⟩)
  go_ret
  exact ⟨rfl, hb⟩
theorem u32_short (R : Nat) (xs : List Int) (w : World) (h : RdAt w R xs 0) (hn : xs.length < 4) :
    Calls Try.prog 22 #[.pointer (some ⟨R, 0, none⟩)] w fun f w' => f = .returned (.int .u32 0) ∧ Only R w w' ∧ RdAt w' R xs 7 := by
  have H := Lib.hid h; clear h
  go_enter Try.func22, Try.ntmps22
  go_wp2_with (go_at_call 33; refine (number_short _ 4 xs _ H.out hn).mono ?_; rintro e1 w1 ⟨rfl, hb, hr⟩; have HR := Lib.hid hr; clear hr)
  go_ret
  exact ⟨rfl, hb, HR.out⟩
theorem u32_ok (R : Nat) (xs : List Int) (w : World) (h : RdAt w R xs 0) (hn : 4 ≤ xs.length) (hb : bytesOk xs) :
    Calls Try.prog 22 #[.pointer (some ⟨R, 0, none⟩)] w fun f w' => f = .returned (.int .u32 (num (xs.take 4))) ∧ Only R w w' ∧ RdAt w' R (xs.drop 4) 0 := by
  have H := Lib.hid h; clear h
  obtain ⟨y0, y1⟩ := num_bound xs hb 4 hn
  have y2 : num (xs.take 4) < 4294967296 := by simpa using y1
  clear y1
  obtain ⟨y, hy⟩ : ∃ y, y = num (xs.take 4) := ⟨_, rfl⟩
  rw [← hy] at y0 y2
  rw [← hy]
  have HY := Lib.hid hy; clear hy
  have HBy := Lib.hid hb; clear hb
  go_enter Try.func22, Try.ntmps22
  go_wp2_with (go_at_call 33; refine (number_ok _ 4 xs _ H.out (by decide) (by decide) hn HBy.out).mono ?_; rw [← HY.out]; rintro e1 w1 ⟨rfl, hb, hr⟩; have HR := Lib.hid hr; clear hr)
  go_ret
  exact ⟨rfl, hb, HR.out⟩

theorem u64_refuses (R : Nat) (e : Int) (xs : List Int) (w : World) (h : RdAt w R xs e) (he : (e != 0) = true) :
    Calls Try.prog 23 #[.pointer (some ⟨R, 0, none⟩)] w fun f w' => f = .returned (.int .u64 0) ∧ Below w.heap.size w w' := by
  have H := Lib.hid h; clear h
  go_enter Try.func23, Try.ntmps23
  go_wp2_with (go_at_call 33; refine (number_refuses _ _ _ xs _ H.out he).mono ?_; rintro e1 w1 ⟨rfl, hb⟩)
  go_ret
  exact ⟨rfl, hb⟩
theorem u64_short (R : Nat) (xs : List Int) (w : World) (h : RdAt w R xs 0) (hn : xs.length < 8) :
    Calls Try.prog 23 #[.pointer (some ⟨R, 0, none⟩)] w fun f w' => f = .returned (.int .u64 0) ∧ Only R w w' ∧ RdAt w' R xs 7 := by
  have H := Lib.hid h; clear h
  go_enter Try.func23, Try.ntmps23
  go_wp2_with (go_at_call 33; refine (number_short _ 8 xs _ H.out hn).mono ?_; rintro e1 w1 ⟨rfl, hb, hr⟩; have HR := Lib.hid hr; clear hr)
  go_ret
  exact ⟨rfl, hb, HR.out⟩
theorem u64_ok (R : Nat) (xs : List Int) (w : World) (h : RdAt w R xs 0) (hn : 8 ≤ xs.length) (hb : bytesOk xs) :
    Calls Try.prog 23 #[.pointer (some ⟨R, 0, none⟩)] w fun f w' => f = .returned (.int .u64 (num (xs.take 8))) ∧ Only R w w' ∧ RdAt w' R (xs.drop 8) 0 := by
  have H := Lib.hid h; clear h
  obtain ⟨y0, y1⟩ := num_bound xs hb 8 hn
  have y2 : num (xs.take 8) < 18446744073709551616 := by simpa using y1
  clear y1
  obtain ⟨y, hy⟩ : ∃ y, y = num (xs.take 8) := ⟨_, rfl⟩
  rw [← hy] at y0 y2
  rw [← hy]
  have HY := Lib.hid hy; clear hy
  have HBy := Lib.hid hb; clear hb
  go_enter Try.func23, Try.ntmps23
  go_wp2_with (go_at_call 33; refine (number_ok _ 8 xs _ H.out (by decide) (by decide) hn HBy.out).mono ?_; rw [← HY.out]; rintro e1 w1 ⟨rfl, hb, hr⟩; have HR := Lib.hid hr; clear hr)
  go_ret
  exact ⟨rfl, hb, HR.out⟩

end Go.Proofs.Ytngnhieddblnmaa
