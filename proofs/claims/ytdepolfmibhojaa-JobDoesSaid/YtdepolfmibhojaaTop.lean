/-
  The walks of layer 25 (job), at the seat's numbers: Do, whatever is asked; the document's Do; wakes.
-/
import Derived.Test.YtdepolfmibhojaaDoes
namespace Go.Proofs.Ytdepolfmibhojaa
open Go.ChangeShapes Go.WideShapes Go.ChangeAt Go.RowKit
set_option linter.unusedVariables false

theorem doE_no {s f m h : Int} (hr : rightB s f m = false) : doE s f m h = 350 := by simp [doE, hr]
theorem doE_arg {s f m h : Int} (hr : rightB s f m = true) (h0 : ¬ (1 ≤ h ∧ h ≤ 9)) : doE s f m h = 2 := by simp only [doE, hr, if_true]; rw [if_neg h0]

theorem rdo_no (s f m h : Int) (w : World) (hr : rightB s f m = false) :
    Calls Try.prog 10 #[.agg #[.int .i64 s, .int .i64 f, .int .i64 m], .int .i64 h] w fun e' w' => e' = .returned (resV s f m h) ∧ Below w.heap.size w w' := by
  have HR := Lib.hid hr
  rw [res_err (doE_no hr) (by decide)]
  clear hr
  go_enter Try.func10, Try.ntmps10
  go_wp2_with (go_at_call 12; refine (right_any _ _ _ _).mono ?_; rw [HR.out]; rintro e1 w1 ⟨rfl, hb1⟩; obtain ⟨⟨c0, c1, c2⟩, ⟨d0, d1, d2⟩, ⟨f0, f1, f2⟩, ⟨g0, g1, g2⟩, hl, hlz⟩ := cells2 hb1)
  refine bodyPost_ret (v := .tuple #[.agg #[.int .i64 0, .int .i64 0, .int .i64 0], .int .i64 350]) ?_ rfl ⟨rfl, ?_⟩
  · go_light
    simp [results, Try.results10, go_sem, *]
  · go_light
    exact below3 (low1 hb1) (Nat.le_succ _)
theorem rdo_any (s f m h : Int) (w : World) :
    Calls Try.prog 10 #[.agg #[.int .i64 s, .int .i64 f, .int .i64 m], .int .i64 h] w fun e' w' => e' = .returned (resV s f m h) ∧ Below w.heap.size w w' := by
  by_cases hr : rightB s f m = true
  · have p := right_true hr
    exact rdo_yes s f m h w hr (by omega) (by omega)
  · exact rdo_no s f m h w (by simpa using hr)

theorem Do_no (s f m h : Int) (w : World) (hr : rightB s f m = false) :
    Calls Try.prog 9 #[.agg #[.int .i64 s, .int .i64 f, .int .i64 m], .int .i64 h] w fun e' w' => e' = .returned (resV s f m h) ∧ Below w.heap.size w w' := by
  have HR := Lib.hid hr
  rw [res_err (doE_no hr) (by decide)]
  clear hr
  go_enter Try.func9, Try.ntmps9
  go_wp2_with (go_at_call 11; refine (check_no _ _ _ _ HR.out).mono ?_; rintro e1 w1 ⟨rfl, hb1⟩; obtain ⟨⟨c0, c1, c2⟩, ⟨d0, d1, d2⟩, ⟨f0, f1, f2⟩, ⟨g0, g1, g2⟩, hl, hlz⟩ := cells2 hb1)
  refine bodyPost_ret (v := .tuple #[.agg #[.int .i64 0, .int .i64 0, .int .i64 0], .int .i64 350]) ?_ rfl ⟨rfl, ?_⟩
  · go_light
    simp [results, Try.results9, go_sem, *]
  · go_light
    exact below3 (low1 hb1) (Nat.le_succ _)
theorem Do_low (s f m h : Int) (w : World) (hr : rightB s f m = true) (h1 : h < 1) :
    Calls Try.prog 9 #[.agg #[.int .i64 s, .int .i64 f, .int .i64 m], .int .i64 h] w fun e' w' => e' = .returned (resV s f m h) ∧ Below w.heap.size w w' := by
  have HR := Lib.hid hr
  rw [res_err (doE_arg hr (by omega)) (by decide)]
  clear hr
  go_enter Try.func9, Try.ntmps9
  go_wp2_with (go_at_call 11; refine (check_ok _ _ _ _ HR.out).mono ?_; rintro e1 w1 ⟨rfl, hb1⟩; obtain ⟨⟨c0, c1, c2⟩, ⟨d0, d1, d2⟩, ⟨f0, f1, f2⟩, ⟨g0, g1, g2⟩, hl, hlz⟩ := cells2 hb1)
  refine bodyPost_ret (v := .tuple #[.agg #[.int .i64 0, .int .i64 0, .int .i64 0], .int .i64 2]) ?_ rfl ⟨rfl, ?_⟩
  · go_light
    simp [results, Try.results9, go_sem, *]
  · go_light
    exact below3 (low1 hb1) (Nat.le_succ _)
theorem Do_high (s f m h : Int) (w : World) (hr : rightB s f m = true) (h1 : 9 < h) :
    Calls Try.prog 9 #[.agg #[.int .i64 s, .int .i64 f, .int .i64 m], .int .i64 h] w fun e' w' => e' = .returned (resV s f m h) ∧ Below w.heap.size w w' := by
  have HR := Lib.hid hr
  rw [res_err (doE_arg hr (by omega)) (by decide)]
  clear hr
  go_enter Try.func9, Try.ntmps9
  go_wp2_with (go_at_call 11; refine (check_ok _ _ _ _ HR.out).mono ?_; rintro e1 w1 ⟨rfl, hb1⟩; obtain ⟨⟨c0, c1, c2⟩, ⟨d0, d1, d2⟩, ⟨f0, f1, f2⟩, ⟨g0, g1, g2⟩, hl, hlz⟩ := cells2 hb1)
  refine bodyPost_ret (v := .tuple #[.agg #[.int .i64 0, .int .i64 0, .int .i64 0], .int .i64 2]) ?_ rfl ⟨rfl, ?_⟩
  · go_light
    simp [results, Try.results9, go_sem, *]
  · go_light
    exact below3 (low1 hb1) (Nat.le_succ _)
theorem Do_yes (s f m h : Int) (w : World) (hr : rightB s f m = true) (h1 : 1 ≤ h) (h9 : h ≤ 9) :
    Calls Try.prog 9 #[.agg #[.int .i64 s, .int .i64 f, .int .i64 m], .int .i64 h] w fun e' w' => e' = .returned (resV s f m h) ∧ Below w.heap.size w w' := by
  have HR := Lib.hid hr
  have H1 := Lib.hid h1
  have H9 := Lib.hid h9
  clear hr
  unfold resV
  have HD := fun w => Lib.hid (do_any s f m h w HR.out H1.out H9.out)
  unfold resV at HD
  generalize doS s f m h = a at HD ⊢
  generalize doF s f m h = b at HD ⊢
  generalize doM s f m h = c at HD ⊢
  generalize doE s f m h = k at HD ⊢
  go_enter Try.func9, Try.ntmps9
  go_wp2_with (first
    | (go_at_call 11; refine (check_ok _ _ _ _ HR.out).mono ?_; rintro e1 w1 ⟨rfl, hb1⟩; obtain ⟨⟨c0, c1, c2⟩, ⟨d0, d1, d2⟩, ⟨f0, f1, f2⟩, ⟨g0, g1, g2⟩, hl, hlz⟩ := cells2 hb1)
    | (go_at_call 21; refine (HD _).out.mono ?_; rintro e2 w2 ⟨rfl, hb2⟩; have d3 := cell_later hb2 d0; have d4 := cell_later hb2 d1; have d5 := cell_later hb2 d2; have g3 := (hb2.frozen (p := ⟨w.heap.size + 1, 0, none⟩) hl).trans g0; have g4 := (hb2.frozen (p := ⟨w.heap.size + 1, 1, none⟩) hl).trans g1; have g5 := (hb2.frozen (p := ⟨w.heap.size + 1, 2, none⟩) hl).trans g2))
  refine bodyPost_ret (v := .tuple #[.agg #[.int .i64 a, .int .i64 b, .int .i64 c], .int .i64 k]) ?_ rfl ⟨rfl, ?_⟩
  · go_light
    simp [results, Try.results9, go_sem, *]
  · go_light
    exact below3 (low1' hb1 hb2) (Nat.le_succ _)
theorem Do_any (s f m h : Int) (w : World) :
    Calls Try.prog 9 #[.agg #[.int .i64 s, .int .i64 f, .int .i64 m], .int .i64 h] w fun e' w' => e' = .returned (resV s f m h) ∧ Below w.heap.size w w' := by
  by_cases hr : rightB s f m = true
  · by_cases h1 : h < 1
    · exact Do_low s f m h w hr h1
    · by_cases h9 : 9 < h
      · exact Do_high s f m h w hr h9
      · exact Do_yes s f m h w hr (by omega) (by omega)
  · exact Do_no s f m h w (by simpa using hr)

theorem wk1 (w : World) : Calls Try.prog 9 #[.agg #[.int .i64 0, .int .i64 0, .int .i64 1], .int .i64 1] w fun e' w' => e' = .returned (.tuple #[.agg #[.int .i64 1, .int .i64 0, .int .i64 1], .int .i64 0]) ∧ Below w.heap.size w w' := Do_any 0 0 1 1 w
theorem wk2 (w : World) : Calls Try.prog 9 #[.agg #[.int .i64 1, .int .i64 0, .int .i64 1], .int .i64 3] w fun e' w' => e' = .returned (.tuple #[.agg #[.int .i64 2, .int .i64 1, .int .i64 1], .int .i64 0]) ∧ Below w.heap.size w w' := Do_any 1 0 1 3 w
theorem wk3 (w : World) : Calls Try.prog 9 #[.agg #[.int .i64 2, .int .i64 1, .int .i64 1], .int .i64 3] w fun e' w' => e' = .returned (.tuple #[.agg #[.int .i64 7, .int .i64 1, .int .i64 1], .int .i64 0]) ∧ Below w.heap.size w w' := Do_any 2 1 1 3 w
theorem wk4 (w : World) : Calls Try.prog 15 #[.agg #[.int .i64 7, .int .i64 1, .int .i64 1]] w fun e' w' => e' = .returned (.bool true) ∧ Below w.heap.size w w' := over_any 7 1 1 w
theorem cells3 {v0 v1 v2 : Value} {b : Nat} {w w1 : World} (hb : Below w.heap.size w w1) (h : (w.cell? ⟨b, 0, none⟩ = some v0 ∧ w.cell? ⟨b, 1, none⟩ = some v1 ∧ w.cell? ⟨b, 2, none⟩ = some v2) ∧ (w.frozen? ⟨b, 0, none⟩ = false ∧ w.frozen? ⟨b, 1, none⟩ = false ∧ w.frozen? ⟨b, 2, none⟩ = false)) :
    (w1.cell? ⟨b, 0, none⟩ = some v0 ∧ w1.cell? ⟨b, 1, none⟩ = some v1 ∧ w1.cell? ⟨b, 2, none⟩ = some v2) ∧ (w1.frozen? ⟨b, 0, none⟩ = false ∧ w1.frozen? ⟨b, 1, none⟩ = false ∧ w1.frozen? ⟨b, 2, none⟩ = false) := by
  obtain ⟨⟨h0, h1, h2⟩, g0, g1, g2⟩ := h
  have lt := World.block_lt_of_cell? _ _ h0
  exact ⟨⟨cell_later hb h0, cell_later hb h1, cell_later hb h2⟩, (hb.frozen (p := ⟨b, 0, none⟩) lt).trans g0, (hb.frozen (p := ⟨b, 1, none⟩) lt).trans g1, (hb.frozen (p := ⟨b, 2, none⟩) lt).trans g2⟩
theorem set3_trans {w w2 w3 : World} {b : Nat} {u0 u1 u2 : Value} (h : Below w.heap.size w w2) (hb : w.heap.size ≤ b) (h3 : Below (((w2.setCell ⟨b, 0, none⟩ u0).setCell ⟨b, 1, none⟩ u1).setCell ⟨b, 2, none⟩ u2).heap.size (((w2.setCell ⟨b, 0, none⟩ u0).setCell ⟨b, 1, none⟩ u1).setCell ⟨b, 2, none⟩ u2) w3) : Below w.heap.size w w3 :=
  (below3 h hb).trans (h3.mono (below3 h hb).size)
theorem alloc_trans {w w2 w3 : World} {o : Obj} (h : Below w.heap.size w w2) (h3 : Below (w2.alloc o).heap.size (w2.alloc o) w3) : Below w.heap.size w w3 :=
  (h.alloc h.size o).trans (h3.mono (h.alloc h.size o).size)
theorem wakes_any (w : World) : Calls Try.prog 8 #[] w fun e' w' => e' = .returned (.bool true) ∧ Below w.heap.size w w' := by
  go_enter Try.func8, Try.ntmps8
  go_wp2_with (first
    | (go_at_call 17; refine (new_ok 1 _ (by decide)).mono ?_; rintro e1 w1 ⟨rfl, hb1⟩)
    | (go_at_call 9; ((with_reducible refine (wk1 _).mono ?_); rintro e2 w2 ⟨rfl, hb2⟩; obtain ⟨⟨c0, c1, c2⟩, f0, f1, f2⟩ := cells3 (b := w1.heap.size) (v0 := .int .i64 0) (v1 := .int .i64 0) (v2 := .int .i64 1) hb2 (by simp [go_sem])))
    | (go_at_call 9; ((with_reducible refine (wk2 _).mono ?_); rintro e3 w3 ⟨rfl, hb3⟩; obtain ⟨⟨c0, c1, c2⟩, f0, f1, f2⟩ := cells3 (b := w1.heap.size) (v0 := .int .i64 1) (v1 := .int .i64 0) (v2 := .int .i64 1) hb3 (by simp [go_sem, *])))
    | (go_at_call 9; ((with_reducible refine (wk3 _).mono ?_); rintro e4 w4 ⟨rfl, hb4⟩; obtain ⟨⟨c0, c1, c2⟩, f0, f1, f2⟩ := cells3 (b := w1.heap.size) (v0 := .int .i64 2) (v1 := .int .i64 1) (v2 := .int .i64 1) hb4 (by simp [go_sem, *]); have hl4 := World.block_lt_of_cell? _ _ c0))
    | (go_at_call 15; ((with_reducible refine (wk4 _).mono ?_); rintro e5 w5 ⟨rfl, hb5⟩)))
  go_ret
  have y2 : Below w.heap.size w w2 := alloc_trans hb1 hb2
  have y3 : Below w.heap.size w w3 := set3_trans y2 hb1.size hb3
  have y4 : Below w.heap.size w w4 := set3_trans y3 hb1.size hb4
  exact ⟨rfl, alloc_trans y4 hb5⟩
end Go.Proofs.Ytdepolfmibhojaa
