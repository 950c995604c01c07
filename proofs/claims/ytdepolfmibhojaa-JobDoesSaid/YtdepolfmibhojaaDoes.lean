/-
  The walks of layer 25 (job), at the seat's numbers: do and Do, said in one; the document's Do.
-/
import Derived.Test.YtdepolfmibhojaaDo
namespace Go.Proofs.Ytdepolfmibhojaa
open Go.ChangeShapes Go.WideShapes Go.ChangeAt Go.RowKit
set_option linter.unusedVariables false

/-- A job, and what Do tells. -/
def resV (s f m h : Int) : Value := .tuple #[.agg #[.int .i64 (doS s f m h), .int .i64 (doF s f m h), .int .i64 (doM s f m h)], .int .i64 (doE s f m h)]
theorem res_eq {s f m h a b c e : Int} (h1 : doE s f m h = e) (h2 : doS s f m h = a) (h3 : doF s f m h = b) (h4 : doM s f m h = c) : resV s f m h = .tuple #[.agg #[.int .i64 a, .int .i64 b, .int .i64 c], .int .i64 e] := by simp [resV, h1, h2, h3, h4]
theorem res_err {s f m h e : Int} (h1 : doE s f m h = e) (h0 : e ≠ 0) : resV s f m h = .tuple #[.agg #[.int .i64 0, .int .i64 0, .int .i64 0], .int .i64 e] :=
  res_eq h1 (by simp [doS, h1, h0]) (by simp [doF, h1, h0]) (by simp [doM, h1, h0])
theorem res_ok {s f m h : Int} (h1 : doE s f m h = 0) : resV s f m h = .tuple #[.agg #[.int .i64 (stepS f m h), .int .i64 (stepF f m h), .int .i64 m], .int .i64 0] :=
  res_eq h1 (by simp [doS, h1]) (by simp [doF, h1]) (by simp [doM, h1])

theorem do_any (s f m h : Int) (w : World) (hr : rightB s f m = true) (h1 : 1 ≤ h) (h9 : h ≤ 9) :
    Calls Try.prog 21 #[.agg #[.int .i64 s, .int .i64 f, .int .i64 m], .int .i64 h] w fun e' w' => e' = .returned (resV s f m h) ∧ Below w.heap.size w w' := by
  obtain ⟨p0, p1, p2, p3, p4, p5, p6⟩ := right_true hr
  obtain ⟨h', rfl⟩ : ∃ k : Nat, h = (k : Int) := ⟨h.toNat, by omega⟩
  obtain ⟨s', rfl⟩ : ∃ k : Nat, s = (k : Int) := ⟨s.toNat, by omega⟩
  have hE : doE (s' : Int) f m (h' : Int) = stepE (s' : Int) (h' : Int) := by simp only [doE, hr, if_true]; rw [if_pos ⟨h1, h9⟩]
  have q1 : 1 ≤ h' := by omega
  have q9 : h' ≤ 9 := by omega
  have qs : s' ≤ 7 := by omega
  obtain ⟨t1, t2⟩ := tab_step ⟨h', by omega⟩ ⟨s', by omega⟩ q1
  simp only at t1 t2
  by_cases he : stepE (s' : Int) (h' : Int) = 0
  · obtain ⟨t3, t4⟩ := t2 he
    rw [he] at t1 hE
    rw [res_ok hE]
    by_cases h3 : h' = 3
    · subst h3
      by_cases hf : f = m
      · rw [show stepS f m ((3 : Nat) : Int) = 7 by simp [stepS, hf], show stepF f m ((3 : Nat) : Int) = f by simp [stepF, hf]]
        exact do_fail 3 s' f m _ 0 w q1 q9 qs rfl t1 (by simpa using t3) (by simpa using hf)
      · rw [show stepS f m ((3 : Nat) : Int) = 2 by simp [stepS, hf], show stepF f m ((3 : Nat) : Int) = f + 1 by simp [stepF, hf]]
        exact do_anew 3 s' f m _ 0 w q1 q9 qs rfl t1 (by simpa using t3) (by simpa using hf) (by omega) (by omega)
    · rw [show stepS f m (h' : Int) = st0 (h' : Int) by rw [stepS, if_neg (by omega)], show stepF f m (h' : Int) = f by rw [stepF, if_neg (by omega)]]
      exact do_to h' s' f m _ 0 w q1 q9 qs (t4 h3) t1 (by simpa [h3] using t3)
  · rw [res_err hE he]
    by_cases h3 : (tab h' (min s' 4)).2.2 = false
    · exact do_err h' s' f m _ _ w q1 q9 qs rfl t1 h3 (by simpa using he)
    · exact absurd (tab_err ⟨h', by omega⟩ ⟨s', by omega⟩ q1 (by rw [← t1] at he; exact he)) h3

theorem low1' {o1 o2 : Obj} {w w1 w2 : World} (hb : Below ((w.alloc o1).alloc o2).heap.size ((w.alloc o1).alloc o2) w1) (hb2 : Below w1.heap.size w1 w2) : Below w.heap.size w w2 := (low1 hb).trans (hb2.mono (low1 hb).size)
set_option maxHeartbeats 8000000 in
theorem rdo_yes (s f m h : Int) (w : World) (hr : rightB s f m = true) (hw0 : -9223372036854775808 ≤ f + 1) (hw1 : f + 1 ≤ 9223372036854775807) :
    Calls Try.prog 10 #[.agg #[.int .i64 s, .int .i64 f, .int .i64 m], .int .i64 h] w fun e' w' => e' = .returned (resV s f m h) ∧ Below w.heap.size w w' := by
  have HR := Lib.hid hr; clear hr
  go_enter Try.func10, Try.ntmps10
  go_wp2_with (first
    | (go_at_call 12; refine (right_any _ _ _ _).mono ?_; rw [HR.out]; rintro e1 w1 ⟨rfl, hb1⟩; obtain ⟨⟨c0, c1, c2⟩, ⟨d0, d1, d2⟩, ⟨f0, f1, f2⟩, ⟨g0, g1, g2⟩, hl, hlz⟩ := cells2 hb1)
    | (go_at_call 22; refine (at_any _ _ _ _ _).mono ?_; rintro e2 w2 ⟨rfl, hb2⟩; have d3 := cell_later hb2 d0; have d4 := cell_later hb2 d1; have d5 := cell_later hb2 d2; have g3 := (hb2.frozen (p := ⟨w.heap.size + 1, 0, none⟩) hl).trans g0; have g4 := (hb2.frozen (p := ⟨w.heap.size + 1, 1, none⟩) hl).trans g1; have g5 := (hb2.frozen (p := ⟨w.heap.size + 1, 2, none⟩) hl).trans g2)
    | (go_at_call 22; refine (at_any _ _ _ _ _).mono ?_; rintro e2 w2 ⟨rfl, hb2⟩; have d3 := cell_later (a := ⟨w.heap.size + 1, 0, none⟩) (v := .int .i64 0) hb2 (by simp [go_sem, *]); have d4 := cell_later (a := ⟨w.heap.size + 1, 1, none⟩) (v := .int .i64 0) hb2 (by simp [go_sem, *]); have d5 := cell_later (a := ⟨w.heap.size + 1, 2, none⟩) (v := .int .i64 0) hb2 (by simp [go_sem, *]); have g3 := (hb2.frozen (p := ⟨w.heap.size + 1, 0, none⟩) (by simpa using hl)).trans (b := _) (c := false) (by simp [go_sem, *]); have g4 := (hb2.frozen (p := ⟨w.heap.size + 1, 1, none⟩) (by simpa using hl)).trans (b := _) (c := false) (by simp [go_sem, *]); have g5 := (hb2.frozen (p := ⟨w.heap.size + 1, 2, none⟩) (by simpa using hl)).trans (b := _) (c := false) (by simp [go_sem, *])))
  all_goals
    refine bodyPost_ret (v := resV s f m h) ?_ rfl ⟨rfl, ?_⟩
    · go_light
      simp [results, Try.results10, go_sem, resV, *]
      have hr := HR.out
      clear c0 c1 c2 d0 d1 d2 f0 f1 f2 g0 g1 g2 hl hlz hb1 HR
      simp_all (config := { maxSteps := 1000000 }) [doS, doF, doM, doE, stepE, stepS, stepF, st0]
      try omega
    · go_light
      first
        | exact below3 (low1' hb1 hb2) (Nat.le_succ _)
        | exact below3 (low1 hb1) (Nat.le_succ _)
        | exact below3 (((low1 hb1).setCell (Nat.le_refl _) _).trans (hb2.mono (by simpa using (low1 hb1).size))) (Nat.le_succ _)
end Go.Proofs.Ytdepolfmibhojaa
