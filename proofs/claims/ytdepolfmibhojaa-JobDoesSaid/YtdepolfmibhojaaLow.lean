/-
  The walks of layer 25's functions (job), at the seat's numbers: which may be, what they tell.
-/
import Derived.Test.YtdepolfmibhojaaRows
import Derived.Test.YtdepolfmibhojaaPure
import Derived.WalkKit
import Derived.ProofKit
import Derived.OpenShut
import Derived.Outline
import Derived.BigQuiet
import Derived.WalkSpells
import Derived.Below
import Derived.ChangeOld
import Derived.Lib.Hide
import Derived.Deep.Light
namespace Go.Proofs.Ytdepolfmibhojaa
open Go.ChangeShapes Go.WideShapes Go.ChangeAt Go.RowKit
set_option linter.unusedVariables false

theorem ret_bool {a b : Bool} (h : a = b) : Ending.returned (.bool a) = .returned (.bool b) := by rw [h]
theorem ret_int {k : IntKind} {a b : Int} (h : a = b) : Ending.returned (.int k a) = .returned (.int k b) := by rw [h]

theorem check_any (s f m : Int) (w : World) :
    Calls Try.prog 11 #[.agg #[.int .i64 s, .int .i64 f, .int .i64 m]] w fun e' w' => e' = .returned (.int .i64 (chkI s f m)) ∧ Below w.heap.size w w' := by
  go_enter Try.func11, Try.ntmps11
  go_wp2
  all_goals
    go_ret
    refine ⟨ret_int ?_, (Below.refl _ _).alloc (Nat.le_refl _) _⟩
    go_light
    first | (simp_all [chkI, rightB] <;> omega) | (unfold chkI rightB; split <;> simp_all <;> omega)

theorem right_any (s f m : Int) (w : World) :
    Calls Try.prog 12 #[.agg #[.int .i64 s, .int .i64 f, .int .i64 m]] w fun e' w' => e' = .returned (.bool (rightB s f m)) ∧ Below w.heap.size w w' := by
  go_enter Try.func12, Try.ntmps12
  go_wp2
  all_goals
    go_ret
    refine ⟨ret_bool ?_, (Below.refl _ _).alloc (Nat.le_refl _) _⟩
    go_light
    first | (simp_all [rightB] <;> omega) | (rw [Bool.eq_iff_iff]; simp_all [rightB] <;> omega)

theorem bcell {W w1 : World} (hb : Below W.heap.size W w1) : (∀ b o, b < W.heap.size → w1.cell? ⟨b, o, none⟩ = W.cell? ⟨b, o, none⟩) ∧ (∀ b o, b < W.heap.size → w1.frozen? ⟨b, o, none⟩ = W.frozen? ⟨b, o, none⟩) :=
  ⟨fun b o h => hb.cell (p := ⟨b, o, none⟩) h, fun b o h => hb.frozen (p := ⟨b, o, none⟩) h⟩
def colI (s : Int) : Int := if s < 4 then s else 4
theorem column_any (s : Int) (w : World) :
    Calls Try.prog 23 #[.int .i64 s] w fun e' w' => e' = .returned (.int .i64 (colI s)) ∧ w = w' := by
  go_enter Try.func23, Try.ntmps23
  go_wp2
  all_goals
    go_ret
    refine ⟨ret_int ?_, rfl⟩
    unfold colI
    split <;> first | rfl | (simp; omega) | omega

theorem at_any (s f m t : Int) (w : World) :
    Calls Try.prog 22 #[.agg #[.int .i64 s, .int .i64 f, .int .i64 m], .int .i64 t] w fun e' w' => e' = .returned (.tuple #[.agg #[.int .i64 t, .int .i64 f, .int .i64 m], .int .i64 0]) ∧ Below w.heap.size w w' := by
  go_enter Try.func22, Try.ntmps22
  go_wp2
  refine bodyPost_ret (v := .tuple #[.agg #[.int .i64 t, .int .i64 f, .int .i64 m], .int .i64 0]) (by simp [results, Try.results22, go_sem]) rfl ⟨rfl, ?_⟩
  go_light
  have hB := Below.refl w.heap.size w
  repeat (first | exact hB | exact Nat.le_refl _ | (refine Below.setCell ?_ (by simp; try omega) _) | (refine Below.alloc ?_ (by simp; try omega) _))

theorem check_ok (s f m : Int) (w : World) (h : rightB s f m = true) :
    Calls Try.prog 11 #[.agg #[.int .i64 s, .int .i64 f, .int .i64 m]] w fun e' w' => e' = .returned (.int .i64 0) ∧ Below w.heap.size w w' := by
  have := check_any s f m w
  simpa [chkI, h] using this
theorem check_no (s f m : Int) (w : World) (h : rightB s f m = false) :
    Calls Try.prog 11 #[.agg #[.int .i64 s, .int .i64 f, .int .i64 m]] w fun e' w' => e' = .returned (.int .i64 350) ∧ Below w.heap.size w w' := by
  have := check_any s f m w
  simpa [chkI, h] using this
theorem column_lo (s : Int) (w : World) (h : s < 4) : Calls Try.prog 23 #[.int .i64 s] w fun e' w' => e' = .returned (.int .i64 s) ∧ w = w' := by
  have := column_any s w
  simpa [colI, h] using this
theorem column_hi (s : Int) (w : World) (h : 4 ≤ s) : Calls Try.prog 23 #[.int .i64 s] w fun e' w' => e' = .returned (.int .i64 4) ∧ w = w' := by
  have := column_any s w
  rwa [show colI s = 4 by unfold colI; rw [if_neg (by omega)]] at this
theorem below3 {w w1 : World} {b : Nat} {u0 u1 u2 : Value} (h : Below w.heap.size w w1) (hb : w.heap.size ≤ b) : Below w.heap.size w (((w1.setCell ⟨b, 0, none⟩ u0).setCell ⟨b, 1, none⟩ u1).setCell ⟨b, 2, none⟩ u2) :=
  ((h.setCell hb _).setCell hb _).setCell hb _

theorem new_ok (n : Int) (w : World) (h : rightB 0 0 n = true) :
    Calls Try.prog 17 #[.int .i64 n] w fun e' w' => e' = .returned (.tuple #[.agg #[.int .i64 0, .int .i64 0, .int .i64 n], .int .i64 0]) ∧ Below w.heap.size w w' := by
  have H := Lib.hid h; clear h
  go_enter Try.func17, Try.ntmps17
  go_wp2_with (go_at_call 11; refine (check_ok _ _ _ _ H.out).mono ?_; rintro e1 w1 ⟨rfl, hb1⟩; have rc0 := cell_later (a := ⟨w.heap.size, 0, none⟩) (v := .int .i64 0) hb1 (by simp [go_sem]); have rf0 := (hb1.frozen (p := ⟨w.heap.size, 0, none⟩) (by simp; omega)).trans (b := _) (c := false) (by simp [go_sem]); have rc1 := cell_later (a := ⟨w.heap.size, 1, none⟩) (v := .int .i64 0) hb1 (by simp [go_sem]); have rf1 := (hb1.frozen (p := ⟨w.heap.size, 1, none⟩) (by simp; omega)).trans (b := _) (c := false) (by simp [go_sem]); have rc2 := cell_later (a := ⟨w.heap.size, 2, none⟩) (v := .int .i64 0) hb1 (by simp [go_sem]); have rf2 := (hb1.frozen (p := ⟨w.heap.size, 2, none⟩) (by simp; omega)).trans (b := _) (c := false) (by simp [go_sem]); have jc0 := cell_later (a := ⟨w.heap.size + 1, 0, none⟩) (v := .int .i64 0) hb1 (by simp [go_sem]); have jc1 := cell_later (a := ⟨w.heap.size + 1, 1, none⟩) (v := .int .i64 0) hb1 (by simp [go_sem]); have jc2 := cell_later (a := ⟨w.heap.size + 1, 2, none⟩) (v := .int .i64 n) hb1 (by simp [go_sem]))
  refine bodyPost_ret (v := .tuple #[.agg #[.int .i64 0, .int .i64 0, .int .i64 n], .int .i64 0]) ?_ rfl ⟨rfl, ?_⟩
  · go_light
    simp [results, Try.results17, go_sem, *]
  · exact below3 ((((Below.refl _ _).alloc (Nat.le_refl _) _).alloc (by simp) _).trans (hb1.mono (by simp; omega))) (Nat.le_refl _)
theorem new_bad (n : Int) (w : World) (h : rightB 0 0 n = false) :
    Calls Try.prog 17 #[.int .i64 n] w fun e' w' => e' = .returned (.tuple #[.agg #[.int .i64 0, .int .i64 0, .int .i64 0], .int .i64 2]) ∧ Below w.heap.size w w' := by
  have H := Lib.hid h; clear h
  go_enter Try.func17, Try.ntmps17
  go_wp2_with (go_at_call 11; refine (check_no _ _ _ _ H.out).mono ?_; rintro e1 w1 ⟨rfl, hb1⟩; have rc0 := cell_later (a := ⟨w.heap.size, 0, none⟩) (v := .int .i64 0) hb1 (by simp [go_sem]); have rf0 := (hb1.frozen (p := ⟨w.heap.size, 0, none⟩) (by simp; omega)).trans (b := _) (c := false) (by simp [go_sem]); have rc1 := cell_later (a := ⟨w.heap.size, 1, none⟩) (v := .int .i64 0) hb1 (by simp [go_sem]); have rf1 := (hb1.frozen (p := ⟨w.heap.size, 1, none⟩) (by simp; omega)).trans (b := _) (c := false) (by simp [go_sem]); have rc2 := cell_later (a := ⟨w.heap.size, 2, none⟩) (v := .int .i64 0) hb1 (by simp [go_sem]); have rf2 := (hb1.frozen (p := ⟨w.heap.size, 2, none⟩) (by simp; omega)).trans (b := _) (c := false) (by simp [go_sem]); have jc0 := cell_later (a := ⟨w.heap.size + 1, 0, none⟩) (v := .int .i64 0) hb1 (by simp [go_sem]); have jc1 := cell_later (a := ⟨w.heap.size + 1, 1, none⟩) (v := .int .i64 0) hb1 (by simp [go_sem]); have jc2 := cell_later (a := ⟨w.heap.size + 1, 2, none⟩) (v := .int .i64 n) hb1 (by simp [go_sem]))
  refine bodyPost_ret (v := .tuple #[.agg #[.int .i64 0, .int .i64 0, .int .i64 0], .int .i64 2]) ?_ rfl ⟨rfl, ?_⟩
  · go_light
    simp [results, Try.results17, go_sem, *]
  · exact below3 ((((Below.refl _ _).alloc (Nat.le_refl _) _).alloc (by simp) _).trans (hb1.mono (by simp; omega))) (Nat.le_refl _)
theorem cells1 {s f m : Int} {w w1 : World} (hb : Below (w.alloc (.cells #[.int .i64 s, .int .i64 f, .int .i64 m] 23)).heap.size (w.alloc (.cells #[.int .i64 s, .int .i64 f, .int .i64 m] 23)) w1) : w1.cell? ⟨w.heap.size, 0, none⟩ = some (.int .i64 s) ∧ w1.cell? ⟨w.heap.size, 1, none⟩ = some (.int .i64 f) ∧ w1.cell? ⟨w.heap.size, 2, none⟩ = some (.int .i64 m) :=
  ⟨cell_later hb (by simp [go_sem]), cell_later hb (by simp [go_sem]), cell_later hb (by simp [go_sem])⟩
theorem below1 {o : Obj} {w w1 : World} (hb : Below (w.alloc o).heap.size (w.alloc o) w1) : Below w.heap.size w w1 := ((Below.refl _ _).alloc (Nat.le_refl _) _).trans (hb.mono (by simp))
theorem lives_no (s f m : Int) (w : World) (hr : rightB s f m = false) :
    Calls Try.prog 14 #[.agg #[.int .i64 s, .int .i64 f, .int .i64 m]] w fun e' w' => e' = .returned (.bool false) ∧ Below w.heap.size w w' := by
  have HR := Lib.hid hr; clear hr
  go_enter Try.func14, Try.ntmps14
  go_wp2_with (first
    | (go_at_call 11; refine (check_no _ _ _ _ HR.out).mono ?_; rintro e1 w1 ⟨rfl, hb1⟩; obtain ⟨c0, c1, c2⟩ := cells1 hb1))
  go_ret
  exact ⟨rfl, below1 hb1⟩
theorem lives_zero (s f m : Int) (w : World) (hr : rightB s f m = true) (h0 : (s != 0) = false) :
    Calls Try.prog 14 #[.agg #[.int .i64 s, .int .i64 f, .int .i64 m]] w fun e' w' => e' = .returned (.bool false) ∧ Below w.heap.size w w' := by
  have HR := Lib.hid hr; clear hr
  go_enter Try.func14, Try.ntmps14
  go_wp2_with (first
    | (go_at_call 11; refine (check_ok _ _ _ _ HR.out).mono ?_; rintro e1 w1 ⟨rfl, hb1⟩; obtain ⟨c0, c1, c2⟩ := cells1 hb1))
  go_ret
  exact ⟨rfl, below1 hb1⟩
theorem lives_lo (s f m : Int) (w : World) (hr : rightB s f m = true) (h0 : (s != 0) = true) (h4 : (s != 4) = true) (hs : s < 4) :
    Calls Try.prog 14 #[.agg #[.int .i64 s, .int .i64 f, .int .i64 m]] w fun e' w' => e' = .returned (.bool true) ∧ Below w.heap.size w w' := by
  have HR := Lib.hid hr; clear hr
  have HS := Lib.hid hs; clear hs
  go_enter Try.func14, Try.ntmps14
  go_wp2_with (first
    | (go_at_call 11; refine (check_ok _ _ _ _ HR.out).mono ?_; rintro e1 w1 ⟨rfl, hb1⟩; obtain ⟨c0, c1, c2⟩ := cells1 hb1)
    | (go_at_call 23; refine (column_lo _ _ HS.out).mono ?_; rintro e2 w2 ⟨rfl, rfl⟩))
  go_ret
  exact ⟨rfl, below1 hb1⟩
theorem lives_hi (s f m : Int) (w : World) (hr : rightB s f m = true) (h0 : (s != 0) = true) (hs : 4 ≤ s) :
    Calls Try.prog 14 #[.agg #[.int .i64 s, .int .i64 f, .int .i64 m]] w fun e' w' => e' = .returned (.bool false) ∧ Below w.heap.size w w' := by
  have HR := Lib.hid hr; clear hr
  have HS := Lib.hid hs; clear hs
  go_enter Try.func14, Try.ntmps14
  go_wp2_with (first
    | (go_at_call 11; refine (check_ok _ _ _ _ HR.out).mono ?_; rintro e1 w1 ⟨rfl, hb1⟩; obtain ⟨c0, c1, c2⟩ := cells1 hb1)
    | (go_at_call 23; refine (column_hi _ _ HS.out).mono ?_; rintro e2 w2 ⟨rfl, rfl⟩))
  go_ret
  exact ⟨rfl, below1 hb1⟩
theorem over_no (s f m : Int) (w : World) (hr : rightB s f m = false) :
    Calls Try.prog 15 #[.agg #[.int .i64 s, .int .i64 f, .int .i64 m]] w fun e' w' => e' = .returned (.bool false) ∧ Below w.heap.size w w' := by
  have HR := Lib.hid hr; clear hr
  go_enter Try.func15, Try.ntmps15
  go_wp2_with (first
    | (go_at_call 11; refine (check_no _ _ _ _ HR.out).mono ?_; rintro e1 w1 ⟨rfl, hb1⟩; obtain ⟨c0, c1, c2⟩ := cells1 hb1))
  go_ret
  exact ⟨rfl, below1 hb1⟩
theorem over_lo (s f m : Int) (w : World) (hr : rightB s f m = true) (h4 : (s == 4) = false) (hs : s < 4) :
    Calls Try.prog 15 #[.agg #[.int .i64 s, .int .i64 f, .int .i64 m]] w fun e' w' => e' = .returned (.bool false) ∧ Below w.heap.size w w' := by
  have HR := Lib.hid hr; clear hr
  have HS := Lib.hid hs; clear hs
  go_enter Try.func15, Try.ntmps15
  go_wp2_with (first
    | (go_at_call 11; refine (check_ok _ _ _ _ HR.out).mono ?_; rintro e1 w1 ⟨rfl, hb1⟩; obtain ⟨c0, c1, c2⟩ := cells1 hb1)
    | (go_at_call 23; refine (column_lo _ _ HS.out).mono ?_; rintro e2 w2 ⟨rfl, rfl⟩))
  go_ret
  exact ⟨rfl, below1 hb1⟩
theorem over_hi (s f m : Int) (w : World) (hr : rightB s f m = true) (hs : 4 ≤ s) :
    Calls Try.prog 15 #[.agg #[.int .i64 s, .int .i64 f, .int .i64 m]] w fun e' w' => e' = .returned (.bool true) ∧ Below w.heap.size w w' := by
  have HR := Lib.hid hr; clear hr
  have HS := Lib.hid hs; clear hs
  go_enter Try.func15, Try.ntmps15
  go_wp2_with (first
    | (go_at_call 11; refine (check_ok _ _ _ _ HR.out).mono ?_; rintro e1 w1 ⟨rfl, hb1⟩; obtain ⟨c0, c1, c2⟩ := cells1 hb1)
    | (go_at_call 23; refine (column_hi _ _ HS.out).mono ?_; rintro e2 w2 ⟨rfl, rfl⟩))
  go_ret
  exact ⟨rfl, below1 hb1⟩
theorem over_lo2 (s f m : Int) (w : World) (hr : rightB s f m = true) (hs : s < 4) : Calls Try.prog 15 #[.agg #[.int .i64 s, .int .i64 f, .int .i64 m]] w fun e' w' => e' = .returned (.bool false) ∧ Below w.heap.size w w' :=
  over_lo s f m w hr (by simp; omega) hs
theorem left_no (s f m : Int) (w : World) (hr : rightB s f m = false) :
    Calls Try.prog 16 #[.agg #[.int .i64 s, .int .i64 f, .int .i64 m]] w fun e' w' => e' = .returned (.int .i64 0) ∧ Below w.heap.size w w' := by
  have HR := Lib.hid hr; clear hr
  go_enter Try.func16, Try.ntmps16
  go_wp2_with (first
    | (go_at_call 11; refine (check_no _ _ _ _ HR.out).mono ?_; rintro e1 w1 ⟨rfl, hb1⟩; obtain ⟨c0, c1, c2⟩ := cells1 hb1))
  go_ret
  exact ⟨rfl, below1 hb1⟩
theorem left_lo (s f m : Int) (w : World) (hr : rightB s f m = true) (h1 : -9223372036854775808 ≤ m - f) (h2 : m - f ≤ 9223372036854775807) (hs : s < 4) :
    Calls Try.prog 16 #[.agg #[.int .i64 s, .int .i64 f, .int .i64 m]] w fun e' w' => e' = .returned (.int .i64 (m - f)) ∧ Below w.heap.size w w' := by
  have HR := Lib.hid hr; clear hr
  have HS := Lib.hid hs; clear hs
  go_enter Try.func16, Try.ntmps16
  go_wp2_with (first
    | (go_at_call 11; refine (check_ok _ _ _ _ HR.out).mono ?_; rintro e1 w1 ⟨rfl, hb1⟩; obtain ⟨c0, c1, c2⟩ := cells1 hb1)
    | (go_at_call 15; refine (over_lo2 _ _ _ _ HR.out HS.out).mono ?_; rintro e2 w2 ⟨rfl, hb2⟩; have d0 := cell_later hb2 c0; have d1 := cell_later hb2 c1; have d2 := cell_later hb2 c2))
  go_ret
  exact ⟨rfl, (below1 hb1).trans (hb2.mono (below1 hb1).size)⟩
theorem left_hi (s f m : Int) (w : World) (hr : rightB s f m = true) (hs : 4 ≤ s) :
    Calls Try.prog 16 #[.agg #[.int .i64 s, .int .i64 f, .int .i64 m]] w fun e' w' => e' = .returned (.int .i64 0) ∧ Below w.heap.size w w' := by
  have HR := Lib.hid hr; clear hr
  have HS := Lib.hid hs; clear hs
  go_enter Try.func16, Try.ntmps16
  go_wp2_with (first
    | (go_at_call 11; refine (check_ok _ _ _ _ HR.out).mono ?_; rintro e1 w1 ⟨rfl, hb1⟩; obtain ⟨c0, c1, c2⟩ := cells1 hb1)
    | (go_at_call 15; refine (over_hi _ _ _ _ HR.out HS.out).mono ?_; rintro e2 w2 ⟨rfl, hb2⟩; have d0 := cell_later hb2 c0; have d1 := cell_later hb2 c1; have d2 := cell_later hb2 c2))
  go_ret
  exact ⟨rfl, (below1 hb1).trans (hb2.mono (below1 hb1).size)⟩

theorem lives_any (s f m : Int) (w : World) :
    Calls Try.prog 14 #[.agg #[.int .i64 s, .int .i64 f, .int .i64 m]] w fun e' w' => e' = .returned (.bool (livesB s f m)) ∧ Below w.heap.size w w' := by
  by_cases hr : rightB s f m = true
  · have p := right_true hr
    by_cases h0 : s = 0
    · rw [show livesB s f m = false by simp [livesB, h0]]
      exact lives_zero s f m w hr (by simp [h0])
    · by_cases hs : s < 4
      · rw [show livesB s f m = true by simp [livesB, hr]; omega]
        exact lives_lo s f m w hr (by simp [h0]) (by simp; omega) hs
      · rw [show livesB s f m = false by simp [livesB]; omega]
        exact lives_hi s f m w hr (by simp [h0]) (by omega)
  · have hr' : rightB s f m = false := by simpa using hr
    rw [show livesB s f m = false by simp [livesB, hr']]
    exact lives_no s f m w hr'
theorem over_any (s f m : Int) (w : World) :
    Calls Try.prog 15 #[.agg #[.int .i64 s, .int .i64 f, .int .i64 m]] w fun e' w' => e' = .returned (.bool (overB s f m)) ∧ Below w.heap.size w w' := by
  by_cases hr : rightB s f m = true
  · by_cases hs : s < 4
    · rw [show overB s f m = false by simp [overB]; omega]
      exact over_lo2 s f m w hr hs
    · rw [show overB s f m = true by simp [overB, hr]; omega]
      exact over_hi s f m w hr (by omega)
  · have hr' : rightB s f m = false := by simpa using hr
    rw [show overB s f m = false by simp [overB, hr']]
    exact over_no s f m w hr'
theorem left_any (s f m : Int) (w : World) :
    Calls Try.prog 16 #[.agg #[.int .i64 s, .int .i64 f, .int .i64 m]] w fun e' w' => e' = .returned (.int .i64 (leftI s f m)) ∧ Below w.heap.size w w' := by
  by_cases hr : rightB s f m = true
  · have p := right_true hr
    by_cases hs : s < 4
    · rw [show leftI s f m = m - f by simp [leftI, hr, hs]]
      exact left_lo s f m w hr (by omega) (by omega) hs
    · rw [show leftI s f m = 0 by simp [leftI, hs]]
      exact left_hi s f m w hr (by omega)
  · have hr' : rightB s f m = false := by simpa using hr
    rw [show leftI s f m = 0 by simp [leftI, hr']]
    exact left_no s f m w hr'
end Go.Proofs.Ytdepolfmibhojaa
