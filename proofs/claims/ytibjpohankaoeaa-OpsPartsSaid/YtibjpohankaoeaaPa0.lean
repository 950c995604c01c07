import Derived.Test.YtibjpohankaoeaaFi2
import Derived.Test.YtibjpohankaoeaaEq0
namespace Go.Proofs.Ytibjpohankaoeaa
open Go Go.RowKit Wx
set_option linter.unusedVariables false
set_option linter.unusedSimpArgs false
set_option maxHeartbeats 4000000
theorem fullB_append {t a b : Int} : ∀ {l m : List Int} {c : Int × Int}, fullB t a b c (l ++ m) = (fullB t a b c l || fullB t a b (fs t a b c l).1 m)
  | [], m, c => by simp [fullB, fs]
  | x :: l, m, c => by
    rw [List.cons_append, fullB, fullB_append (l := l), fullB, fs_cons, Bool.or_assoc]
theorem cnt_le {t a b : Int} : ∀ {l : List Int} {c : Int × Int}, c.1 ≤ 9223372036854775807 → fullB t a b c l = false → (fs t a b c l).1.1 ≤ 9223372036854775807
  | [], c, h, _ => h
  | x :: l, c, h, hf => by
    unfold fullB at hf
    simp only [Bool.or_eq_false_iff, decide_eq_false_iff_not] at hf
    rw [fs_cons]
    refine cnt_le (l := l) ?_ hf.2
    unfold stp; repeat' split
    all_goals (simp only; omega)
theorem parts_con (t w a b c s : Int) (ins : List Int) (L : List Int) (k : Nat) (hi : ins.length ≤ 9223372036854775807) (hk : k ≤ L.length) (hL : L.length ≤ 40) (hc : c ≤ 9223372036854775807) :
    (∃ e : Int, e ≠ 0 ∧ Con Try.prog 20 [.agg [.v (.int .i64 t), .v (.int .i64 w), .ro false 1 (ins.map eI), .v (.int .i64 a), .v (.int .i64 b)], .agg [.v (.int .i64 c), .v (.int .i64 s)], .one (.ro false 1 ((L).map eI))] (fun rx rK rt => rx = .tup [.agg [.v (.int .i64 0), .v (.int .i64 0)], .one (.ro true 1 []), .one (.v (.int .i64 e))] ∧ rK = [] ∧ rt = 0) ∧ Con Try.prog 20 [.agg [.v (.int .i64 t), .v (.int .i64 w), .ro false 1 (ins.map eI), .v (.int .i64 a), .v (.int .i64 b)], .agg [.v (.int .i64 c), .v (.int .i64 s)], .one (.ro false 1 ((L.take k).map eI))] (fun rx rK rt => rx = .tup [.agg [.v (.int .i64 0), .v (.int .i64 0)], .one (.ro true 1 []), .one (.v (.int .i64 e))] ∧ rK = [] ∧ rt = 0)) ∨
    (∃ (a1 s1 : Int) (O1 : List Int) (e : Int), e ≠ 0 ∧ Con Try.prog 20 [.agg [.v (.int .i64 t), .v (.int .i64 w), .ro false 1 (ins.map eI), .v (.int .i64 a), .v (.int .i64 b)], .agg [.v (.int .i64 c), .v (.int .i64 s)], .one (.ro false 1 ((L).map eI))] (fun rx rK rt => rx = .tup [.agg [.v (.int .i64 0), .v (.int .i64 0)], .one (.ro true 1 []), .one (.v (.int .i64 e))] ∧ rK = [] ∧ rt = 0) ∧ Con Try.prog 20 [.agg [.v (.int .i64 t), .v (.int .i64 w), .ro false 1 (ins.map eI), .v (.int .i64 a), .v (.int .i64 b)], .agg [.v (.int .i64 c), .v (.int .i64 s)], .one (.ro false 1 ((L.take k).map eI))] (fun rx rK rt => rx = .tup [.agg [.v (.int .i64 a1), .v (.int .i64 s1)], .one (.ro true 1 ((O1).map eI)), .one (.v (.int .i64 0))] ∧ rK = [] ∧ rt = 0) ∧ Con Try.prog 20 [.agg [.v (.int .i64 t), .v (.int .i64 w), .ro false 1 (ins.map eI), .v (.int .i64 a), .v (.int .i64 b)], .agg [.v (.int .i64 a1), .v (.int .i64 s1)], .one (.ro false 1 ((L.drop k).map eI))] (fun rx rK rt => rx = .tup [.agg [.v (.int .i64 0), .v (.int .i64 0)], .one (.ro true 1 []), .one (.v (.int .i64 e))] ∧ rK = [] ∧ rt = 0)) ∨
    (∃ (a1 s1 : Int) (O1 : List Int) (c2 s2 : Int) (O2 : List Int), O1.length ≤ 40 ∧ O2.length ≤ 40 ∧ Con Try.prog 20 [.agg [.v (.int .i64 t), .v (.int .i64 w), .ro false 1 (ins.map eI), .v (.int .i64 a), .v (.int .i64 b)], .agg [.v (.int .i64 c), .v (.int .i64 s)], .one (.ro false 1 ((L).map eI))] (fun rx rK rt => rx = .tup [.agg [.v (.int .i64 c2), .v (.int .i64 s2)], .one (.ro true 1 ((O1 ++ O2).map eI)), .one (.v (.int .i64 0))] ∧ rK = [] ∧ rt = 0) ∧ Con Try.prog 20 [.agg [.v (.int .i64 t), .v (.int .i64 w), .ro false 1 (ins.map eI), .v (.int .i64 a), .v (.int .i64 b)], .agg [.v (.int .i64 c), .v (.int .i64 s)], .one (.ro false 1 ((L.take k).map eI))] (fun rx rK rt => rx = .tup [.agg [.v (.int .i64 a1), .v (.int .i64 s1)], .one (.ro true 1 ((O1).map eI)), .one (.v (.int .i64 0))] ∧ rK = [] ∧ rt = 0) ∧ Con Try.prog 20 [.agg [.v (.int .i64 t), .v (.int .i64 w), .ro false 1 (ins.map eI), .v (.int .i64 a), .v (.int .i64 b)], .agg [.v (.int .i64 a1), .v (.int .i64 s1)], .one (.ro false 1 ((L.drop k).map eI))] (fun rx rK rt => rx = .tup [.agg [.v (.int .i64 c2), .v (.int .i64 s2)], .one (.ro true 1 ((O2).map eI)), .one (.v (.int .i64 0))] ∧ rK = [] ∧ rt = 0) ∧ Con Try.prog 13 [.agg [.v (.int .i64 t), .v (.int .i64 w), .ro false 1 (ins.map eI), .v (.int .i64 a), .v (.int .i64 b)], .agg [.v (.int .i64 c2), .v (.int .i64 s2)]] (fun rx rK rt => rx = .val (.bool true) ∧ rK = [] ∧ rt = 0) ∧ Con Try.prog 13 [.agg [.v (.int .i64 t), .v (.int .i64 w), .ro false 1 (ins.map eI), .v (.int .i64 a), .v (.int .i64 b)], .agg [.v (.int .i64 a1), .v (.int .i64 s1)]] (fun rx rK rt => rx = .val (.bool true) ∧ rK = [] ∧ rt = 0)) := by
  have hTk : (L.take k).length ≤ 40 := by rw [List.length_take]; omega
  have hDk : (L.drop k).length ≤ 40 := by rw [List.length_drop]; omega
  have cR := Run_con t w a b c s ins L hi hc (by omega)
  have cF := Run_con t w a b c s ins (L.take k) hi hc (by omega)
  by_cases hok : okO t w ins a b = false
  · rw [show runF t w ins a b c s L = ((0, 0), [], 180) by unfold runF; rw [if_neg (by omega), if_pos hok]] at cR
    rw [show runF t w ins a b c s (L.take k) = ((0, 0), [], 180) by unfold runF; rw [if_neg (by omega), if_pos hok]] at cF
    exact .inl ⟨180, by decide, cR, cF⟩
  by_cases hf : fitP t a (c, s)
  rotate_left
  · rw [show runF t w ins a b c s L = ((0, 0), [], 181) by unfold runF; rw [if_neg (by omega), if_neg hok, if_pos hf]] at cR
    rw [show runF t w ins a b c s (L.take k) = ((0, 0), [], 181) by unfold runF; rw [if_neg (by omega), if_neg hok, if_pos hf]] at cF
    exact .inl ⟨181, by decide, cR, cF⟩
  have hok' : okO t w ins a b = true := by simpa using hok
  have ht := okO_tag hok'
  have hsp : fullB t a b (c, s) L = (fullB t a b (c, s) (L.take k) || fullB t a b (fs t a b (c, s) (L.take k)).1 (L.drop k)) := by
    rw [← fullB_append, List.take_append_drop]
  have hfs : fs t a b (c, s) L = ((fs t a b (fs t a b (c, s) (L.take k)).1 (L.drop k)).1, (fs t a b (c, s) (L.take k)).2 ++ (fs t a b (fs t a b (c, s) (L.take k)).1 (L.drop k)).2) := by
    rw [← fs_append, List.take_append_drop]
  have hf1 := fit_fs ht (L.take k) hf
  have hf2 := fit_fs ht (L.drop k) hf1
  have hl1 := fs_len (t := t) (a := a) (b := b) (L.take k) (c := (c, s))
  have hl2 := fs_len (t := t) (a := a) (b := b) (L.drop k) (c := (fs t a b (c, s) (L.take k)).1)
  have hcm := cnt_le (t := t) (a := a) (b := b) (l := L.take k) (c := (c, s)) hc
  cases hF : fullB t a b (c, s) (L.take k) with
  | true =>
    rw [hF, Bool.true_or] at hsp
    rw [show runF t w ins a b c s L = ((0, 0), [], 6) by unfold runF runG; rw [if_neg (by omega), if_neg hok, if_neg (not_not_intro hf), if_pos hsp]] at cR
    rw [show runF t w ins a b c s (L.take k) = ((0, 0), [], 6) by unfold runF runG; rw [if_neg (by omega), if_neg hok, if_neg (not_not_intro hf), if_pos hF]] at cF
    exact .inl ⟨6, by decide, cR, cF⟩
  | false =>
    rw [hF, Bool.false_or] at hsp
    rw [show runF t w ins a b c s (L.take k) = ((fs t a b (c, s) (L.take k)).1, (fs t a b (c, s) (L.take k)).2, 0) by unfold runF runG; rw [if_neg (by omega), if_neg hok, if_neg (not_not_intro hf), if_neg (by rw [hF]; simp)]] at cF
    have hcm := hcm hF
    generalize fs t a b (c, s) (L.take k) = r1 at *
    obtain ⟨⟨a1, s1⟩, O1⟩ := r1
    dsimp only at *
    have cG := Run_con t w a b a1 s1 ins (L.drop k) hi hcm (by omega)
    cases hG : fullB t a b (a1, s1) (L.drop k) with
    | true =>
      rw [hG] at hsp
      rw [show runF t w ins a b c s L = ((0, 0), [], 6) by unfold runF runG; rw [if_neg (by omega), if_neg hok, if_neg (not_not_intro hf), if_pos hsp]] at cR
      rw [show runF t w ins a b a1 s1 (L.drop k) = ((0, 0), [], 6) by unfold runF runG; rw [if_neg (by omega), if_neg hok, if_neg (not_not_intro hf1), if_pos hG]] at cG
      exact .inr (.inl ⟨a1, s1, O1, 6, by decide, cR, cF, cG⟩)
    | false =>
      rw [hG] at hsp
      rw [show runF t w ins a b c s L = ((fs t a b (c, s) L).1, (fs t a b (c, s) L).2, 0) by unfold runF runG; rw [if_neg (by omega), if_neg hok, if_neg (not_not_intro hf), if_neg (by rw [hsp]; simp)], hfs] at cR
      rw [show runF t w ins a b a1 s1 (L.drop k) = ((fs t a b (a1, s1) (L.drop k)).1, (fs t a b (a1, s1) (L.drop k)).2, 0) by unfold runF runG; rw [if_neg (by omega), if_neg hok, if_neg (not_not_intro hf1), if_neg (by rw [hG]; simp)]] at cG
      generalize fs t a b (a1, s1) (L.drop k) = r2 at *
      obtain ⟨⟨c2, s2⟩, O2⟩ := r2
      dsimp only at *
      exact .inr (.inr ⟨a1, s1, O1, c2, s2, O2, by omega, by omega, cR, cF, cG, Fits_y t w a b c2 s2 ins hi hok' hf2, Fits_y t w a b a1 s1 ins hi hok' hf1⟩)
end Go.Proofs.Ytibjpohankaoeaa
