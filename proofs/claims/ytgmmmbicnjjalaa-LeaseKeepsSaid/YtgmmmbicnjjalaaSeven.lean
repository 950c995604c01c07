/-
  The walks of layer 21's functions (lease), at the seat's numbers: Renew, Yield.
-/
import Derived.Test.YtgmmmbicnjjalaaSix
import Derived.Test.YtgmmmbicnjjalaaPlain
namespace Go.Proofs.Ytgmmmbicnjjalaa
open Go.ChangeShapes Go.WideShapes Go.ChangeAt Go.RowKit

theorem renew_any (e h u who ep now span : Int) (w : World) (he : 0 ≤ e) :
    Calls Try.prog 12 #[.agg #[.int .u64 e, .int .i64 h, .int .i64 u], .int .i64 who, .int .u64 ep, .int .i64 now, .int .i64 span] w fun e' w' =>
      e' = .returned (.tuple #[.agg #[.int .u64 (rnE e h u who ep now span), .int .i64 (rnH e h u who ep now span), .int .i64 (rnU e h u who ep now span)], .int .i64 (renE e h u who ep now span)]) ∧ Below w.heap.size w w' := by
  by_cases hm : mayB e h u = true
  · by_cases ha : argB who now span = true
    · have q := arg_true ha
      have H0 : Hid (ep = e → who = h → 0 < e) := Lib.hid (fun _ h2 => may_who he hm q.1 h2)
      have HM := Lib.hid hm; have HA := Lib.hid ha
      by_cases hr : refI e h u who ep now = 0
      · have HQ := Lib.hid (ren_ok hm ha hr)
        have HR := Lib.hid hr
        have Q := Lib.hid q
        clear q hm ha hr
        go_enter Try.func12, Try.ntmps12
        go_wp2_with (go_at_call 19; refine (change24_ok e h u who now span e h (later u (now + span)) (.pointer (some ⟨w.heap.size + 1, 0, none⟩)) (.pointer (some ⟨w.heap.size + 1 + 1, 0, none⟩)) (.pointer (some ⟨w.heap.size + 1 + 1 + 1, 0, none⟩)) (.pointer (some ⟨w.heap.size + 1 + 1 + 1 + 1, 0, none⟩)) _ HM.out HA.out (fun w1 hb hl => ren1_ok _ (w.heap.size + 1) (w.heap.size + 1 + 1) (w.heap.size + 1 + 1 + 1) (w.heap.size + 1 + 1 + 1 + 1) e h u who ep now span _ hl (cell_later hb (by simp [go_sem])) (cell_later hb (by simp [go_sem])) (cell_later hb (by simp [go_sem])) (cell_later hb (by simp [go_sem])) H0.out HR.out Q.out.2.2.1 Q.out.2.2.2.1 Q.out.2.2.2.2.1 Q.out.2.2.2.2.2)).mono ?_; rintro e1 w1 ⟨rfl, hb1⟩; obtain ⟨hc1, hf1⟩ := bcell hb1)
        refine bodyPost_ret (v := .tuple #[.agg #[.int .u64 e, .int .i64 h, .int .i64 (later u (now + span))], .int .i64 0]) ?_ rfl ⟨by simp [rnE, rnH, rnU, HQ.out, later], ?_⟩
        · go_light
          simp [results, Try.results12, go_sem, *]
        · have hB := below_six hb1 (by simp; omega)
          go_light
          repeat (first | exact hB | refine Below.setCell ?_ (by simp; try omega) _)
      · have HQ := Lib.hid (ren_err hm ha hr)
        have HR := Lib.hid hr
        clear q hm ha hr
        go_enter Try.func12, Try.ntmps12
        go_wp2_with (go_at_call 19; refine (change24_err e h u who now span (refI e h u who ep now) (.pointer (some ⟨w.heap.size + 1, 0, none⟩)) (.pointer (some ⟨w.heap.size + 1 + 1, 0, none⟩)) (.pointer (some ⟨w.heap.size + 1 + 1 + 1, 0, none⟩)) (.pointer (some ⟨w.heap.size + 1 + 1 + 1 + 1, 0, none⟩)) _ HM.out HA.out HR.out (fun w1 hb hl => ren1_no _ (w.heap.size + 1) (w.heap.size + 1 + 1) (w.heap.size + 1 + 1 + 1) (w.heap.size + 1 + 1 + 1 + 1) e h u who ep now _ hl (cell_later hb (by simp [go_sem])) (cell_later hb (by simp [go_sem])) (cell_later hb (by simp [go_sem])) H0.out HR.out)).mono ?_; rintro e1 w1 ⟨rfl, hb1⟩; obtain ⟨hc1, hf1⟩ := bcell hb1)
        refine bodyPost_ret (v := .tuple #[.agg #[.int .u64 0, .int .i64 0, .int .i64 0], .int .i64 (refI e h u who ep now)]) ?_ rfl ⟨by simp [rnE, rnH, rnU, HQ.out, HR.out], ?_⟩
        · go_light
          simp [results, Try.results12, go_sem, *]
        · have hB := below_six hb1 (by simp; omega)
          go_light
          repeat (first | exact hB | refine Below.setCell ?_ (by simp; try omega) _)
    · have ha' : argB who now span = false := by simpa using ha
      have HQ := Lib.hid (ren_arg (ep := ep) hm ha')
      have HM := Lib.hid hm; have HA := Lib.hid ha'
      clear hm ha ha'
      go_enter Try.func12, Try.ntmps12
      go_wp2_with (go_at_call 19; refine (change_arg _ _ _ _ _ _ _ _ HM.out HA.out).mono ?_; rintro e1 w1 ⟨rfl, hb1⟩; obtain ⟨hc1, hf1⟩ := bcell hb1)
      refine bodyPost_ret (v := .tuple #[.agg #[.int .u64 0, .int .i64 0, .int .i64 0], .int .i64 2]) ?_ rfl ⟨by simp [rnE, rnH, rnU, HQ.out], ?_⟩
      · go_light
        simp [results, Try.results12, go_sem, *]
      · have hB := below_six hb1 (by simp; omega)
        go_light
        repeat (first | exact hB | refine Below.setCell ?_ (by simp; try omega) _)
  · have hm' : mayB e h u = false := by simpa using hm
    have HQ := Lib.hid (ren_no (who := who) (ep := ep) (now := now) (span := span) hm')
    have HM := Lib.hid hm'
    clear hm hm'
    go_enter Try.func12, Try.ntmps12
    go_wp2_with (go_at_call 19; refine (change_no _ _ _ _ _ _ _ _ HM.out).mono ?_; rintro e1 w1 ⟨rfl, hb1⟩; obtain ⟨hc1, hf1⟩ := bcell hb1)
    refine bodyPost_ret (v := .tuple #[.agg #[.int .u64 0, .int .i64 0, .int .i64 0], .int .i64 310]) ?_ rfl ⟨by simp [rnE, rnH, rnU, HQ.out], ?_⟩
    · go_light
      simp [results, Try.results12, go_sem, *]
    · have hB := below_six hb1 (by simp; omega)
      go_light
      repeat (first | exact hB | refine Below.setCell ?_ (by simp; try omega) _)

theorem yield_any (e h u who ep now : Int) (w : World) (he : 0 ≤ e) :
    Calls Try.prog 14 #[.agg #[.int .u64 e, .int .i64 h, .int .i64 u], .int .i64 who, .int .u64 ep, .int .i64 now] w fun e' w' =>
      e' = .returned (.tuple #[.agg #[.int .u64 (ylE e h u who ep now), .int .i64 (ylH e h u who ep now), .int .i64 (ylU e h u who ep now)], .int .i64 (yieE e h u who ep now)]) ∧ Below w.heap.size w w' := by
  by_cases hm : mayB e h u = true
  · by_cases ha : argB who now 1 = true
    · have q := arg_true ha
      have H0 : Hid (ep = e → who = h → 0 < e) := Lib.hid (fun _ h2 => may_who he hm q.1 h2)
      have HM := Lib.hid hm; have HA := Lib.hid ha
      by_cases hr : refI e h u who ep now = 0
      · have HQ := Lib.hid (yie_ok hm ha hr)
        have HR := Lib.hid hr
        have Q := Lib.hid q
        clear q hm ha hr
        go_enter Try.func14, Try.ntmps14
        go_wp2_with (go_at_call 19; refine (change26_ok e h u who now 1 e h now (.pointer (some ⟨w.heap.size + 1, 0, none⟩)) (.pointer (some ⟨w.heap.size + 1 + 1, 0, none⟩)) (.pointer (some ⟨w.heap.size + 1 + 1 + 1, 0, none⟩)) _ HM.out HA.out (fun w1 hb hl => yie1_ok _ (w.heap.size + 1) (w.heap.size + 1 + 1) (w.heap.size + 1 + 1 + 1) e h u who ep now _ hl (cell_later hb (by simp [go_sem])) (cell_later hb (by simp [go_sem])) (cell_later hb (by simp [go_sem])) H0.out HR.out)).mono ?_; rintro e1 w1 ⟨rfl, hb1⟩; obtain ⟨hc1, hf1⟩ := bcell hb1)
        refine bodyPost_ret (v := .tuple #[.agg #[.int .u64 e, .int .i64 h, .int .i64 now], .int .i64 0]) ?_ rfl ⟨by simp [ylE, ylH, ylU, HQ.out], ?_⟩
        · go_light
          simp [results, Try.results14, go_sem, *]
        · have hB := below_five hb1 (by simp; omega)
          go_light
          repeat (first | exact hB | refine Below.setCell ?_ (by simp; try omega) _)
      · have HQ := Lib.hid (yie_err hm ha hr)
        have HR := Lib.hid hr
        clear q hm ha hr
        go_enter Try.func14, Try.ntmps14
        go_wp2_with (go_at_call 19; refine (change26_err e h u who now 1 (refI e h u who ep now) (.pointer (some ⟨w.heap.size + 1, 0, none⟩)) (.pointer (some ⟨w.heap.size + 1 + 1, 0, none⟩)) (.pointer (some ⟨w.heap.size + 1 + 1 + 1, 0, none⟩)) _ HM.out HA.out HR.out (fun w1 hb hl => yie1_no _ (w.heap.size + 1) (w.heap.size + 1 + 1) (w.heap.size + 1 + 1 + 1) e h u who ep now _ hl (cell_later hb (by simp [go_sem])) (cell_later hb (by simp [go_sem])) (cell_later hb (by simp [go_sem])) H0.out HR.out)).mono ?_; rintro e1 w1 ⟨rfl, hb1⟩; obtain ⟨hc1, hf1⟩ := bcell hb1)
        refine bodyPost_ret (v := .tuple #[.agg #[.int .u64 0, .int .i64 0, .int .i64 0], .int .i64 (refI e h u who ep now)]) ?_ rfl ⟨by simp [ylE, ylH, ylU, HQ.out, HR.out], ?_⟩
        · go_light
          simp [results, Try.results14, go_sem, *]
        · have hB := below_five hb1 (by simp; omega)
          go_light
          repeat (first | exact hB | refine Below.setCell ?_ (by simp; try omega) _)
    · have ha' : argB who now 1 = false := by simpa using ha
      have HQ := Lib.hid (yie_arg (ep := ep) hm ha')
      have HM := Lib.hid hm; have HA := Lib.hid ha'
      clear hm ha ha'
      go_enter Try.func14, Try.ntmps14
      go_wp2_with (go_at_call 19; refine (change_arg _ _ _ _ _ _ _ _ HM.out HA.out).mono ?_; rintro e1 w1 ⟨rfl, hb1⟩; obtain ⟨hc1, hf1⟩ := bcell hb1)
      refine bodyPost_ret (v := .tuple #[.agg #[.int .u64 0, .int .i64 0, .int .i64 0], .int .i64 2]) ?_ rfl ⟨by simp [ylE, ylH, ylU, HQ.out], ?_⟩
      · go_light
        simp [results, Try.results14, go_sem, *]
      · have hB := below_five hb1 (by simp; omega)
        go_light
        repeat (first | exact hB | refine Below.setCell ?_ (by simp; try omega) _)
  · have hm' : mayB e h u = false := by simpa using hm
    have HQ := Lib.hid (yie_no (who := who) (ep := ep) (now := now) hm')
    have HM := Lib.hid hm'
    clear hm hm'
    go_enter Try.func14, Try.ntmps14
    go_wp2_with (go_at_call 19; refine (change_no _ _ _ _ _ _ _ _ HM.out).mono ?_; rintro e1 w1 ⟨rfl, hb1⟩; obtain ⟨hc1, hf1⟩ := bcell hb1)
    refine bodyPost_ret (v := .tuple #[.agg #[.int .u64 0, .int .i64 0, .int .i64 0], .int .i64 310]) ?_ rfl ⟨by simp [ylE, ylH, ylU, HQ.out], ?_⟩
    · go_light
      simp [results, Try.results14, go_sem, *]
    · have hB := below_five hb1 (by simp; omega)
      go_light
      repeat (first | exact hB | refine Below.setCell ?_ (by simp; try omega) _)

end Go.Proofs.Ytgmmmbicnjjalaa
