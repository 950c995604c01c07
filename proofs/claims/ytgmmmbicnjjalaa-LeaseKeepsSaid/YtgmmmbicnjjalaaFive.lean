/-
  The walks of layer 21's functions (lease), at the seat's numbers: Acquire, Renew, Yield.
-/
import Derived.Test.YtgmmmbicnjjalaaFour
namespace Go.Proofs.Ytgmmmbicnjjalaa
open Go.ChangeShapes Go.WideShapes Go.ChangeAt Go.RowKit

theorem below_five {w w1 : World} {o1 o2 o3 o4 o5 : Obj} {B : Nat} (hb : Below B (((((w.alloc o1).alloc o2).alloc o3).alloc o4).alloc o5) w1) (hB : w.heap.size ≤ B) : Below w.heap.size w w1 :=
  (((((((Below.refl _ _).alloc (Nat.le_refl _) _).alloc (by simp) _).alloc (by simp; omega) _).alloc (by simp; omega) _).alloc (by simp; omega) _)).trans (hb.mono hB)
theorem below_six {w w1 : World} {o1 o2 o3 o4 o5 o6 : Obj} {B : Nat} (hb : Below B ((((((w.alloc o1).alloc o2).alloc o3).alloc o4).alloc o5).alloc o6) w1) (hB : w.heap.size ≤ B) : Below w.heap.size w w1 :=
  ((((((((Below.refl _ _).alloc (Nat.le_refl _) _).alloc (by simp) _).alloc (by simp; omega) _).alloc (by simp; omega) _).alloc (by simp; omega) _)).alloc (by simp; omega) _).trans (hb.mono hB)

theorem acquire_any (e h u who now span : Int) (w : World) (he : 0 ≤ e) :
    Calls Try.prog 8 #[.agg #[.int .u64 e, .int .i64 h, .int .i64 u], .int .i64 who, .int .i64 now, .int .i64 span] w fun e' w' =>
      e' = .returned (.tuple #[.agg #[.int .u64 (aqE e h u who now span), .int .i64 (aqH e h u who now span), .int .i64 (aqU e h u who now span)], .int .i64 (acqE e h u who now span)]) ∧ Below w.heap.size w w' := by
  by_cases hm : mayB e h u = true
  · by_cases ha : argB who now span = true
    · have p := may_true hm
      have q := arg_true ha
      by_cases h1 : now < u
      · have HQ := Lib.hid (acq_held hm ha h1)
        have HF : Hid (heldB e u now = true) := Lib.hid (held_true.2 ⟨may_held he hm (by omega) h1, h1⟩)
        have HM := Lib.hid hm; have HA := Lib.hid ha
        clear p q hm ha h1
        go_enter Try.func8, Try.ntmps8
        go_wp2_with (go_at_call 19; refine (change20_err _ _ _ _ _ _ 311 _ _ _ _ HM.out HA.out (by decide) (fun w1 hb hl => acq1_held _ _ _ _ _ _ _ _ _ hl (cell_later hb (by simp [go_sem])) HF.out)).mono ?_; rintro e1 w1 ⟨rfl, hb1⟩; obtain ⟨hc1, hf1⟩ := bcell hb1)
        refine bodyPost_ret (v := .tuple #[.agg #[.int .u64 0, .int .i64 0, .int .i64 0], .int .i64 311]) ?_ rfl ⟨by simp [aqE, aqH, aqU, HQ.out], ?_⟩
        · go_light
          simp [results, Try.results8, go_sem, *]
        · have hB := below_five hb1 (by simp; omega)
          go_light
          repeat (first | exact hB | refine Below.setCell ?_ (by simp; try omega) _)
      · by_cases h2 : e = 2147483647
        · have HQ := Lib.hid (acq_full hm ha h1 h2)
          have HF : Hid (heldB e u now = false) := Lib.hid (by simp [heldB]; omega)
          have HM := Lib.hid hm; have HA := Lib.hid ha; have HE := Lib.hid h2
          clear p q hm ha h1 h2
          go_enter Try.func8, Try.ntmps8
          go_wp2_with (go_at_call 19; refine (change20_err _ _ _ _ _ _ 6 _ _ _ _ HM.out HA.out (by decide) (fun w1 hb hl => acq1_full _ _ _ _ _ _ _ _ _ hl (cell_later hb (by simp [go_sem])) HF.out HE.out)).mono ?_; rintro e1 w1 ⟨rfl, hb1⟩; obtain ⟨hc1, hf1⟩ := bcell hb1)
          refine bodyPost_ret (v := .tuple #[.agg #[.int .u64 0, .int .i64 0, .int .i64 0], .int .i64 6]) ?_ rfl ⟨by simp [aqE, aqH, aqU, HQ.out], ?_⟩
          · go_light
            simp [results, Try.results8, go_sem, *]
          · have hB := below_five hb1 (by simp; omega)
            go_light
            repeat (first | exact hB | refine Below.setCell ?_ (by simp; try omega) _)
        · have HQ := Lib.hid (acq_ok hm ha h1 h2)
          have HF : Hid (heldB e u now = false) := Lib.hid (by simp [heldB]; omega)
          have HE : Hid ((e == 2147483647) = false) := Lib.hid (by simpa using h2)
          have HM := Lib.hid hm; have HA := Lib.hid ha
          have P := Lib.hid p.2.1; have Q := Lib.hid q
          clear p q hm ha h1 h2
          go_enter Try.func8, Try.ntmps8
          go_wp2_with (go_at_call 19; refine (change20_ok e h u who now span (e + 1) who (now + span) (.pointer (some ⟨w.heap.size + 1 + 1, 0, none⟩)) (.pointer (some ⟨w.heap.size + 1, 0, none⟩)) (.pointer (some ⟨w.heap.size + 1 + 1 + 1, 0, none⟩)) _ HM.out HA.out (fun w1 hb hl => acq1_ok _ (w.heap.size + 1 + 1) (w.heap.size + 1) (w.heap.size + 1 + 1 + 1) e h u now who span _ hl (cell_later hb (by simp [go_sem])) (cell_later hb (by simp [go_sem])) (cell_later hb (by simp [go_sem])) HF.out HE.out he P.out Q.out.2.2.1 Q.out.2.2.2.1 Q.out.2.2.2.2.1 Q.out.2.2.2.2.2)).mono ?_; rintro e1 w1 ⟨rfl, hb1⟩; obtain ⟨hc1, hf1⟩ := bcell hb1)
          refine bodyPost_ret (v := .tuple #[.agg #[.int .u64 (e + 1), .int .i64 who, .int .i64 (now + span)], .int .i64 0]) ?_ rfl ⟨by simp [aqE, aqH, aqU, HQ.out], ?_⟩
          · go_light
            simp [results, Try.results8, go_sem, *]
          · have hB := below_five hb1 (by simp; omega)
            go_light
            repeat (first | exact hB | refine Below.setCell ?_ (by simp; try omega) _)
    · have ha' : argB who now span = false := by simpa using ha
      have HQ := Lib.hid (acq_arg hm ha')
      have HM := Lib.hid hm; have HA := Lib.hid ha'
      clear hm ha ha'
      go_enter Try.func8, Try.ntmps8
      go_wp2_with (go_at_call 19; refine (change_arg _ _ _ _ _ _ _ _ HM.out HA.out).mono ?_; rintro e1 w1 ⟨rfl, hb1⟩; obtain ⟨hc1, hf1⟩ := bcell hb1)
      refine bodyPost_ret (v := .tuple #[.agg #[.int .u64 0, .int .i64 0, .int .i64 0], .int .i64 2]) ?_ rfl ⟨by simp [aqE, aqH, aqU, HQ.out], ?_⟩
      · go_light
        simp [results, Try.results8, go_sem, *]
      · have hB := below_five hb1 (by simp; omega)
        go_light
        repeat (first | exact hB | refine Below.setCell ?_ (by simp; try omega) _)
  · have hm' : mayB e h u = false := by simpa using hm
    have HQ := Lib.hid (acq_no (who := who) (now := now) (span := span) hm')
    have HM := Lib.hid hm'
    clear hm hm'
    go_enter Try.func8, Try.ntmps8
    go_wp2_with (go_at_call 19; refine (change_no _ _ _ _ _ _ _ _ HM.out).mono ?_; rintro e1 w1 ⟨rfl, hb1⟩; obtain ⟨hc1, hf1⟩ := bcell hb1)
    refine bodyPost_ret (v := .tuple #[.agg #[.int .u64 0, .int .i64 0, .int .i64 0], .int .i64 310]) ?_ rfl ⟨by simp [aqE, aqH, aqU, HQ.out], ?_⟩
    · go_light
      simp [results, Try.results8, go_sem, *]
    · have hB := below_five hb1 (by simp; omega)
      go_light
      repeat (first | exact hB | refine Below.setCell ?_ (by simp; try omega) _)

end Go.Proofs.Ytgmmmbicnjjalaa
