/-
  The walks of layer 25's functions (job), at the seat's numbers: do, Do, the document's Do; wakes.
-/
import Derived.Test.YtdepolfmibhojaaComes
namespace Go.Proofs.Ytdepolfmibhojaa
open Go.ChangeShapes Go.WideShapes Go.ChangeAt Go.RowKit
set_option linter.unusedVariables false

theorem column_nat (s : Nat) (w : World) (h : s ≤ 7) : Calls Try.prog 23 #[.int .i64 (s : Int)] w fun e' w' => e' = .returned (.int .i64 ((min s 4 : Nat) : Int)) ∧ w = w' := by
  have := column_any (s : Int) w
  rwa [show colI (s : Int) = ((min s 4 : Nat) : Int) by unfold colI; split <;> omega] at this
theorem bset {w w1 : World} {b o : Nat} {u : Value} (h : Below w.heap.size w w1) (hb : w.heap.size ≤ b) : Below w.heap.size w (w1.setCell ⟨b, o, none⟩ u) := h.setCell hb _
theorem low1 {o1 o2 : Obj} {w w1 : World} (hb : Below ((w.alloc o1).alloc o2).heap.size ((w.alloc o1).alloc o2) w1) : Below w.heap.size w w1 :=
  (((Below.refl _ _).alloc (Nat.le_refl _) _).alloc (by simp) _).trans (hb.mono (by simp; omega))
theorem low2 {o1 o2 o3 : Obj} {w w1 : World} (hb : Below ((w.alloc o1).alloc o2).heap.size ((w.alloc o1).alloc o2) w1) : Below w.heap.size w (w1.alloc o3) :=
  ((((Below.refl _ _).alloc (Nat.le_refl _) _).alloc (by simp) _).trans (hb.mono (by simp; omega))).alloc (Nat.le_trans (by simp; omega) hb.size) _
/-- What is known behind the call of the table: the job's own cells, and the result's. -/
theorem cells2 {s f m : Int} {w w1 : World} (hb : Below ((w.alloc (.cells #[.int .i64 s, .int .i64 f, .int .i64 m] 23)).alloc (.cells #[.int .i64 0, .int .i64 0, .int .i64 0] 23)).heap.size ((w.alloc (.cells #[.int .i64 s, .int .i64 f, .int .i64 m] 23)).alloc (.cells #[.int .i64 0, .int .i64 0, .int .i64 0] 23)) w1) :
    (w1.cell? ⟨w.heap.size, 0, none⟩ = some (.int .i64 s) ∧ w1.cell? ⟨w.heap.size, 1, none⟩ = some (.int .i64 f) ∧ w1.cell? ⟨w.heap.size, 2, none⟩ = some (.int .i64 m)) ∧
    (w1.cell? ⟨w.heap.size + 1, 0, none⟩ = some (.int .i64 0) ∧ w1.cell? ⟨w.heap.size + 1, 1, none⟩ = some (.int .i64 0) ∧ w1.cell? ⟨w.heap.size + 1, 2, none⟩ = some (.int .i64 0)) ∧
    (w1.frozen? ⟨w.heap.size, 0, none⟩ = false ∧ w1.frozen? ⟨w.heap.size, 1, none⟩ = false ∧ w1.frozen? ⟨w.heap.size, 2, none⟩ = false) ∧
    (w1.frozen? ⟨w.heap.size + 1, 0, none⟩ = false ∧ w1.frozen? ⟨w.heap.size + 1, 1, none⟩ = false ∧ w1.frozen? ⟨w.heap.size + 1, 2, none⟩ = false) ∧ w.heap.size + 1 < w1.heap.size ∧ w.heap.size < w1.heap.size := by
  have hl := hb.size
  refine ⟨⟨cell_later hb (by simp [go_sem]), cell_later hb (by simp [go_sem]), cell_later hb (by simp [go_sem])⟩, ⟨cell_later hb (by simp [go_sem]), cell_later hb (by simp [go_sem]), cell_later hb (by simp [go_sem])⟩, ⟨?_, ?_, ?_⟩, ⟨?_, ?_, ?_⟩, ?_, ?_⟩
  · exact (hb.frozen (p := ⟨w.heap.size, 0, none⟩) (by simp; omega)).trans (by simp [go_sem])
  · exact (hb.frozen (p := ⟨w.heap.size, 1, none⟩) (by simp; omega)).trans (by simp [go_sem])
  · exact (hb.frozen (p := ⟨w.heap.size, 2, none⟩) (by simp; omega)).trans (by simp [go_sem])
  · exact (hb.frozen (p := ⟨w.heap.size + 1, 0, none⟩) (by simp)).trans (by simp [go_sem])
  · exact (hb.frozen (p := ⟨w.heap.size + 1, 1, none⟩) (by simp)).trans (by simp [go_sem])
  · exact (hb.frozen (p := ⟨w.heap.size + 1, 2, none⟩) (by simp)).trans (by simp [go_sem])
  · simp at hl; omega
  · simp at hl; omega

theorem do_err (h s : Nat) (f m t e : Int) (w : World) (h1 : 1 ≤ h) (h9 : h ≤ 9) (hs : s ≤ 7) (ht : (tab h (min s 4)).1 = t) (he : (tab h (min s 4)).2.1 = e) (ha : (tab h (min s 4)).2.2 = false) (hn : (e != 0) = true) :
    Calls Try.prog 21 #[.agg #[.int .i64 (s : Int), .int .i64 f, .int .i64 m], .int .i64 (h : Int)] w fun e' w' => e' = .returned (.tuple #[.agg #[.int .i64 0, .int .i64 0, .int .i64 0], .int .i64 e]) ∧ Below w.heap.size w w' := by
  have H1 := Lib.hid h1; have H9 := Lib.hid h9; have HS := Lib.hid hs; have HT := Lib.hid ht; have HE := Lib.hid he; have HA := Lib.hid ha
  have HC : Hid (min s 4 ≤ 4) := Lib.hid (Nat.min_le_right _ _)
  clear h1 h9 hs ht he ha
  go_enter Try.func21, Try.ntmps21
  go_wp2_with (first
    | (go_at_call 23; refine (column_nat _ _ HS.out).mono ?_; rintro e2 w2 ⟨rfl, rfl⟩)
    | (go_at_call 24; refine (comes_any _ _ _ H1.out H9.out HC.out).mono ?_; rw [HT.out, HE.out, HA.out]; rintro e1 w1 ⟨rfl, hb1⟩; obtain ⟨⟨c0, c1, c2⟩, ⟨d0, d1, d2⟩, ⟨f0, f1, f2⟩, ⟨g0, g1, g2⟩, hl, hlz⟩ := cells2 hb1))
  go_region
  go_wp2
  refine bodyPost_ret (v := .tuple #[.agg #[.int .i64 0, .int .i64 0, .int .i64 0], .int .i64 e]) ?_ rfl ⟨rfl, ?_⟩
  · go_light
    simp [results, Try.results21, go_sem, *]
  · have hB := low1 hb1
    have hl0 : w.heap.size ≤ w1.heap.size := hB.size
    go_light
    repeat (first | (with_reducible exact hB) | (with_reducible refine Below.drew ?_) | ((with_reducible refine Below.setCell ?_ ?hs _); case hs => simp) | ((with_reducible refine Below.alloc ?_ ?hs _); case hs => (simp; omega)))

theorem do_to (h s : Nat) (f m t e : Int) (w : World) (h1 : 1 ≤ h) (h9 : h ≤ 9) (hs : s ≤ 7) (ht : (tab h (min s 4)).1 = t) (he : (tab h (min s 4)).2.1 = 0) (ha : (tab h (min s 4)).2.2 = false)  :
    Calls Try.prog 21 #[.agg #[.int .i64 (s : Int), .int .i64 f, .int .i64 m], .int .i64 (h : Int)] w fun e' w' => e' = .returned (.tuple #[.agg #[.int .i64 t, .int .i64 f, .int .i64 m], .int .i64 0]) ∧ Below w.heap.size w w' := by
  have H1 := Lib.hid h1; have H9 := Lib.hid h9; have HS := Lib.hid hs; have HT := Lib.hid ht; have HE := Lib.hid he; have HA := Lib.hid ha
  have HC : Hid (min s 4 ≤ 4) := Lib.hid (Nat.min_le_right _ _)
  clear h1 h9 hs ht he ha
  go_enter Try.func21, Try.ntmps21
  go_wp2_with (first
    | (go_at_call 23; refine (column_nat _ _ HS.out).mono ?_; rintro e2 w2 ⟨rfl, rfl⟩)
    | (go_at_call 24; refine (comes_any _ _ _ H1.out H9.out HC.out).mono ?_; rw [HT.out, HE.out, HA.out]; rintro e1 w1 ⟨rfl, hb1⟩; obtain ⟨⟨c0, c1, c2⟩, ⟨d0, d1, d2⟩, ⟨f0, f1, f2⟩, ⟨g0, g1, g2⟩, hl, hlz⟩ := cells2 hb1))
  refine bodyPost_ret (v := .tuple #[.agg #[.int .i64 t, .int .i64 f, .int .i64 m], .int .i64 0]) ?_ rfl ⟨rfl, ?_⟩
  · go_light
    simp [results, Try.results21, go_sem, *]
  · have hB := low1 hb1
    have hl0 : w.heap.size ≤ w1.heap.size := hB.size
    go_light
    repeat (first | (with_reducible exact hB) | (with_reducible refine Below.drew ?_) | ((with_reducible refine Below.setCell ?_ ?hs _); case hs => simp) | ((with_reducible refine Below.alloc ?_ ?hs _); case hs => (simp; omega)))

theorem do_fail (h s : Nat) (f m t e : Int) (w : World) (h1 : 1 ≤ h) (h9 : h ≤ 9) (hs : s ≤ 7) (ht : (tab h (min s 4)).1 = t) (he : (tab h (min s 4)).2.1 = 0) (ha : (tab h (min s 4)).2.2 = true) (hf : (f == m) = true) :
    Calls Try.prog 21 #[.agg #[.int .i64 (s : Int), .int .i64 f, .int .i64 m], .int .i64 (h : Int)] w fun e' w' => e' = .returned (.tuple #[.agg #[.int .i64 7, .int .i64 f, .int .i64 m], .int .i64 0]) ∧ Below w.heap.size w w' := by
  have H1 := Lib.hid h1; have H9 := Lib.hid h9; have HS := Lib.hid hs; have HT := Lib.hid ht; have HE := Lib.hid he; have HA := Lib.hid ha
  have HC : Hid (min s 4 ≤ 4) := Lib.hid (Nat.min_le_right _ _)
  clear h1 h9 hs ht he ha
  go_enter Try.func21, Try.ntmps21
  go_wp2_with (first
    | (go_at_call 23; refine (column_nat _ _ HS.out).mono ?_; rintro e2 w2 ⟨rfl, rfl⟩)
    | (go_at_call 24; refine (comes_any _ _ _ H1.out H9.out HC.out).mono ?_; rw [HT.out, HE.out, HA.out]; rintro e1 w1 ⟨rfl, hb1⟩; obtain ⟨⟨c0, c1, c2⟩, ⟨d0, d1, d2⟩, ⟨f0, f1, f2⟩, ⟨g0, g1, g2⟩, hl, hlz⟩ := cells2 hb1))
  refine bodyPost_ret (v := .tuple #[.agg #[.int .i64 7, .int .i64 f, .int .i64 m], .int .i64 0]) ?_ rfl ⟨rfl, ?_⟩
  · go_light
    simp [results, Try.results21, go_sem, *]
  · have hB := low1 hb1
    have hl0 : w.heap.size ≤ w1.heap.size := hB.size
    go_light
    repeat (first | (with_reducible exact hB) | (with_reducible refine Below.drew ?_) | ((with_reducible refine Below.setCell ?_ ?hs _); case hs => simp) | ((with_reducible refine Below.alloc ?_ ?hs _); case hs => (simp; omega)))

theorem do_anew (h s : Nat) (f m t e : Int) (w : World) (h1 : 1 ≤ h) (h9 : h ≤ 9) (hs : s ≤ 7) (ht : (tab h (min s 4)).1 = t) (he : (tab h (min s 4)).2.1 = 0) (ha : (tab h (min s 4)).2.2 = true) (hf : (f == m) = false) (hw0 : -9223372036854775808 ≤ f + 1) (hw1 : f + 1 ≤ 9223372036854775807) :
    Calls Try.prog 21 #[.agg #[.int .i64 (s : Int), .int .i64 f, .int .i64 m], .int .i64 (h : Int)] w fun e' w' => e' = .returned (.tuple #[.agg #[.int .i64 2, .int .i64 (f + 1), .int .i64 m], .int .i64 0]) ∧ Below w.heap.size w w' := by
  have H1 := Lib.hid h1; have H9 := Lib.hid h9; have HS := Lib.hid hs; have HT := Lib.hid ht; have HE := Lib.hid he; have HA := Lib.hid ha
  have HC : Hid (min s 4 ≤ 4) := Lib.hid (Nat.min_le_right _ _)
  clear h1 h9 hs ht he ha
  go_enter Try.func21, Try.ntmps21
  go_wp2_with (first
    | (go_at_call 23; refine (column_nat _ _ HS.out).mono ?_; rintro e2 w2 ⟨rfl, rfl⟩)
    | (go_at_call 24; refine (comes_any _ _ _ H1.out H9.out HC.out).mono ?_; rw [HT.out, HE.out, HA.out]; rintro e1 w1 ⟨rfl, hb1⟩; obtain ⟨⟨c0, c1, c2⟩, ⟨d0, d1, d2⟩, ⟨f0, f1, f2⟩, ⟨g0, g1, g2⟩, hl, hlz⟩ := cells2 hb1))
  refine bodyPost_ret (v := .tuple #[.agg #[.int .i64 2, .int .i64 (f + 1), .int .i64 m], .int .i64 0]) ?_ rfl ⟨rfl, ?_⟩
  · go_light
    simp [results, Try.results21, go_sem, *]
  · have hB := low1 hb1
    have hl0 : w.heap.size ≤ w1.heap.size := hB.size
    go_light
    repeat (first | (with_reducible exact hB) | (with_reducible refine Below.drew ?_) | ((with_reducible refine Below.setCell ?_ ?hs _); case hs => simp) | ((with_reducible refine Below.alloc ?_ ?hs _); case hs => (simp; omega)))

end Go.Proofs.Ytdepolfmibhojaa
