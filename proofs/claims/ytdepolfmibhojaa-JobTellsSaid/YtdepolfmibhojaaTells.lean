/-
  The walk of 'JobTells' (P25.1, P25.3, P25.4).
-/
import Derived.Test.YtdepolfmibhojaaTop
import Derived.Deep.CutRange
import Derived.Deep.CutBlock
import Derived.Deep.DeepCutAuto
namespace Go.Proofs.Ytdepolfmibhojaa
open Go.ChangeShapes Go.WideShapes Go.ChangeAt Go.RowKit
set_option linter.unusedVariables false

theorem name_low (n : Int) (w : World) (h : n < 0) :
    Calls Try.prog 18 #[.int .i64 n] w fun e' w' => e' = .returned (.tuple #[.string { data := #[] }, .bool false]) ∧ Below w.heap.size w w' := by
  go_enter Try.func18, Try.ntmps18
  go_wp2
  refine bodyPost_ret (v := .tuple #[.string { data := #[] }, .bool false]) (by simp [results, Try.results18, go_sem]) rfl ⟨rfl, ?_⟩
  exact (Below.refl _ _).alloc (Nat.le_refl _) _
theorem name_high (n : Int) (w : World) (h : 8 ≤ n) :
    Calls Try.prog 18 #[.int .i64 n] w fun e' w' => e' = .returned (.tuple #[.string { data := #[] }, .bool false]) ∧ Below w.heap.size w w' := by
  go_enter Try.func18, Try.ntmps18
  go_wp2
  refine bodyPost_ret (v := .tuple #[.string { data := #[] }, .bool false]) (by simp [results, Try.results18, go_sem]) rfl ⟨rfl, ?_⟩
  exact (Below.refl _ _).alloc (Nat.le_refl _) _
theorem name_0 (w : World) :
    Calls Try.prog 18 #[.int .i64 0] w fun e' w' => e' = .returned (.tuple #[.string { data := #[110, 111, 110, 101] }, .bool true]) ∧ Below w.heap.size w w' := by
  go_enter Try.func18, Try.ntmps18
  go_wp2
  refine bodyPost_ret (v := .tuple #[.string { data := #[110, 111, 110, 101] }, .bool true]) (by simp [results, Try.results18, go_sem]) rfl ⟨rfl, ?_⟩
  exact (Below.refl _ _).alloc (Nat.le_refl _) _
theorem name_1 (w : World) :
    Calls Try.prog 18 #[.int .i64 1] w fun e' w' => e' = .returned (.tuple #[.string { data := #[114, 117, 110, 110, 105, 110, 103] }, .bool true]) ∧ Below w.heap.size w w' := by
  go_enter Try.func18, Try.ntmps18
  go_wp2
  refine bodyPost_ret (v := .tuple #[.string { data := #[114, 117, 110, 110, 105, 110, 103] }, .bool true]) (by simp [results, Try.results18, go_sem]) rfl ⟨rfl, ?_⟩
  exact (Below.refl _ _).alloc (Nat.le_refl _) _
theorem name_2 (w : World) :
    Calls Try.prog 18 #[.int .i64 2] w fun e' w' => e' = .returned (.tuple #[.string { data := #[114, 101, 115, 116, 97, 114, 116, 105, 110, 103] }, .bool true]) ∧ Below w.heap.size w w' := by
  go_enter Try.func18, Try.ntmps18
  go_wp2
  refine bodyPost_ret (v := .tuple #[.string { data := #[114, 101, 115, 116, 97, 114, 116, 105, 110, 103] }, .bool true]) (by simp [results, Try.results18, go_sem]) rfl ⟨rfl, ?_⟩
  exact (Below.refl _ _).alloc (Nat.le_refl _) _
theorem name_3 (w : World) :
    Calls Try.prog 18 #[.int .i64 3] w fun e' w' => e' = .returned (.tuple #[.string { data := #[115, 116, 111, 112, 112, 105, 110, 103] }, .bool true]) ∧ Below w.heap.size w w' := by
  go_enter Try.func18, Try.ntmps18
  go_wp2
  refine bodyPost_ret (v := .tuple #[.string { data := #[115, 116, 111, 112, 112, 105, 110, 103] }, .bool true]) (by simp [results, Try.results18, go_sem]) rfl ⟨rfl, ?_⟩
  exact (Below.refl _ _).alloc (Nat.le_refl _) _
theorem name_4 (w : World) :
    Calls Try.prog 18 #[.int .i64 4] w fun e' w' => e' = .returned (.tuple #[.string { data := #[102, 105, 110, 105, 115, 104, 101, 100] }, .bool true]) ∧ Below w.heap.size w w' := by
  go_enter Try.func18, Try.ntmps18
  go_wp2
  refine bodyPost_ret (v := .tuple #[.string { data := #[102, 105, 110, 105, 115, 104, 101, 100] }, .bool true]) (by simp [results, Try.results18, go_sem]) rfl ⟨rfl, ?_⟩
  exact (Below.refl _ _).alloc (Nat.le_refl _) _
theorem name_5 (w : World) :
    Calls Try.prog 18 #[.int .i64 5] w fun e' w' => e' = .returned (.tuple #[.string { data := #[115, 116, 111, 112, 112, 101, 100] }, .bool true]) ∧ Below w.heap.size w w' := by
  go_enter Try.func18, Try.ntmps18
  go_wp2
  refine bodyPost_ret (v := .tuple #[.string { data := #[115, 116, 111, 112, 112, 101, 100] }, .bool true]) (by simp [results, Try.results18, go_sem]) rfl ⟨rfl, ?_⟩
  exact (Below.refl _ _).alloc (Nat.le_refl _) _
theorem name_6 (w : World) :
    Calls Try.prog 18 #[.int .i64 6] w fun e' w' => e' = .returned (.tuple #[.string { data := #[99, 97, 110, 99, 101, 108, 108, 101, 100] }, .bool true]) ∧ Below w.heap.size w w' := by
  go_enter Try.func18, Try.ntmps18
  go_wp2
  refine bodyPost_ret (v := .tuple #[.string { data := #[99, 97, 110, 99, 101, 108, 108, 101, 100] }, .bool true]) (by simp [results, Try.results18, go_sem]) rfl ⟨rfl, ?_⟩
  exact (Below.refl _ _).alloc (Nat.le_refl _) _
theorem name_7 (w : World) :
    Calls Try.prog 18 #[.int .i64 7] w fun e' w' => e' = .returned (.tuple #[.string { data := #[102, 97, 105, 108, 101, 100] }, .bool true]) ∧ Below w.heap.size w w' := by
  go_enter Try.func18, Try.ntmps18
  go_wp2
  refine bodyPost_ret (v := .tuple #[.string { data := #[102, 97, 105, 108, 101, 100] }, .bool true]) (by simp [results, Try.results18, go_sem]) rfl ⟨rfl, ?_⟩
  exact (Below.refl _ _).alloc (Nat.le_refl _) _

theorem tells_end {o1 o2 : Obj} {w wc w6 w7 : World} (h : Below w.heap.size w wc) (h6 : Below wc.heap.size wc w6) (h7 : Below ((w6.alloc o1).alloc o2).heap.size ((w6.alloc o1).alloc o2) w7) : Below w.heap.size w w7 := by
  have y6 := h.trans (h6.mono h.size)
  have y := (y6.alloc y6.size o1).alloc (y6.alloc y6.size o1).size o2
  exact y.trans (h7.mono y.size)

theorem cellsJ {s f m : Int} {b : Nat} {w w1 : World} (hb : Below w.heap.size w w1) (h0 : w.cell? ⟨b, 0, none⟩ = some (.int .i64 s)) (h1 : w.cell? ⟨b, 1, none⟩ = some (.int .i64 f)) (h2 : w.cell? ⟨b, 2, none⟩ = some (.int .i64 m)) :
    w1.cell? ⟨b, 0, none⟩ = some (.int .i64 s) ∧ w1.cell? ⟨b, 1, none⟩ = some (.int .i64 f) ∧ w1.cell? ⟨b, 2, none⟩ = some (.int .i64 m) := ⟨cell_later hb h0, cell_later hb h1, cell_later hb h2⟩
set_option maxHeartbeats 4000000 in
set_option maxRecDepth 100000 in
theorem tells_main (s f m n : Int) (w : World) :
    Calls Try.prog 4 #[.agg #[.int .i64 s, .int .i64 f, .int .i64 m], .int .i64 n] w fun e w' => e = .returned (.bool true) ∧ Below w.heap.size w w' := by
  have HWB : Hid (rightB s f m = true → -9223372036854775808 ≤ m - f ∧ m - f ≤ 9223372036854775807) := Lib.hid (fun hr => by have := right_true hr; omega)
  obtain ⟨rb, hrb⟩ : ∃ b, rightB s f m = b := ⟨_, rfl⟩
  have HRB := Lib.hid hrb; clear hrb
  obtain ⟨b5, hb5⟩ : ∃ b : Bool, (rightB s f m && decide (s < 4)) = b := ⟨_, rfl⟩
  have HB5 := Lib.hid hb5; clear hb5
  go_enter Try.func4, Try.ntmps4
  go_upto_region 5 with (first
    | (go_at_call 8; refine (wakes_any _).mono ?_; rintro e1 w1 ⟨rfl, hb1⟩; obtain ⟨k0, k1, k2⟩ := cells1 hb1)
    | (go_at_call 12; refine (right_any _ _ _ _).mono ?_; rw [HRB.out]; rintro e2 w2 ⟨rfl, hb2⟩; obtain ⟨k0, k1, k2⟩ := cellsJ hb2 k0 k1 k2))
  have HB2 : Hid (Below w.heap.size w w2) := Lib.hid ((below1 hb1).trans (hb2.mono (below1 hb1).size))
  clear hb1 hb2
  go_cut [22] (fun v wc => v = .bool b5 ∧ wc = w2)
  case first =>
    have h5 := HB5.out
    have hr := HRB.out
    by_cases hs : s < 4
    · cases rb
      · go_wp2
        go_meet
        case rel => exact ⟨by rw [← h5, hr]; simp, rfl⟩
      · go_wp2
        go_meet
        case rel => exact ⟨by rw [← h5, hr]; simp [hs], rfl⟩
    · cases rb
      · go_wp2
        go_meet
        case rel => exact ⟨by rw [← h5, hr]; simp, rfl⟩
      · go_wp2
        go_meet
        case rel => exact ⟨by rw [← h5, hr]; simp [hs], rfl⟩
  case rest =>
    obtain ⟨rfl, rfl⟩ := hcut
    go_upto_if 22 with (fail)
    go_cut [6] (fun v wd => v = .int .i64 (leftI s f m) ∧ wd = wc)
    case first =>
      have h5 := HB5.out
      cases b5
      · clear HWB
        go_wp2
        go_meet
        case rel => exact ⟨by rw [show leftI s f m = 0 by unfold leftI; rw [if_neg (by simp at h5 ⊢; exact h5)]], rfl⟩
      · obtain ⟨hw0, hw1⟩ := HWB.out (by simp at h5; exact h5.1)
        go_wp2
        go_meet
        case rel => exact ⟨by rw [show leftI s f m = m - f by unfold leftI; rw [if_pos (by simpa using h5)]], rfl⟩
    case rest =>
      obtain ⟨rfl, rfl⟩ := hcut
      go_upto_region 7 with (fail)
      have hrb := HRB.out
      go_cut [58] (fun v wc => v = .bool false ∧ Below w.heap.size w wc)
      case first =>
        by_cases hr : rightB s f m = true
        · have HR := Lib.hid hr
          obtain ⟨hw0, hw1⟩ := HWB.out hr
          have hrt : rb = true := by rw [← hrb, hr]
          subst hrt
          by_cases h0 : s = 0
          · subst h0
            have e0 : leftI 0 f m = m - f := by simp [leftI, hr]
            have E0 := Lib.hid e0
            clear hrb e0 hr
            go_wp2_with (first
                | (go_at_call 14; ((with_reducible refine (lives_zero 0 f m _ HR.out (by decide)).mono ?_); rintro e3 w3 ⟨rfl, hb3⟩; obtain ⟨k0, k1, k2⟩ := cellsJ hb3 k0 k1 k2))
                | (go_at_call 15; ((with_reducible refine (over_lo2 0 f m _ HR.out (by decide)).mono ?_); rintro e4 w4 ⟨rfl, hb4⟩; obtain ⟨k0, k1, k2⟩ := cellsJ hb4 k0 k1 k2))
                | (go_at_call 16; ((with_reducible refine (left_lo 0 f m _ HR.out hw0 hw1 (by decide)).mono ?_); rintro e5 w5 ⟨rfl, hb5⟩; obtain ⟨k0, k1, k2⟩ := cellsJ hb5 k0 k1 k2)))
            go_meet
            case rel => exact ⟨by first | rfl | (simp [E0.out]; done) | (simp [E0.out]; omega) | (simp [E0.out, *]; done), (HB2.out.trans (hb3.mono HB2.out.size)).trans ((hb4.mono (Nat.le_trans HB2.out.size hb3.size)).trans (hb5.mono (Nat.le_trans HB2.out.size (Nat.le_trans hb3.size hb4.size))))⟩
          · by_cases h4 : s < 4
            · have p := right_true hr
              have e0 : leftI s f m = m - f := by simp [leftI, hr, h4]
              have E0 := Lib.hid e0
              have q1 : 1 ≤ s := by omega
              have q2 : s ≤ 3 := by omega
              have HS4 := Lib.hid h4
              have HN0 : Hid ((s != 0) = true) := Lib.hid (by simpa using h0)
              have HN4 : Hid ((s != 4) = true) := Lib.hid (by simp; omega)
              clear hrb e0 hr p h4 h0
              go_wp2_with (first
                  | (go_at_call 14; ((with_reducible refine (lives_lo s f m _ HR.out HN0.out HN4.out HS4.out).mono ?_); rintro e3 w3 ⟨rfl, hb3⟩; obtain ⟨k0, k1, k2⟩ := cellsJ hb3 k0 k1 k2))
                  | (go_at_call 15; ((with_reducible refine (over_lo2 s f m _ HR.out HS4.out).mono ?_); rintro e4 w4 ⟨rfl, hb4⟩; obtain ⟨k0, k1, k2⟩ := cellsJ hb4 k0 k1 k2))
                  | (go_at_call 16; ((with_reducible refine (left_lo s f m _ HR.out hw0 hw1 HS4.out).mono ?_); rintro e5 w5 ⟨rfl, hb5⟩; obtain ⟨k0, k1, k2⟩ := cellsJ hb5 k0 k1 k2)))
              go_meet
              case rel => exact ⟨by first | rfl | (simp [E0.out]; done) | (simp [E0.out]; omega) | (simp [E0.out, *]; done), (HB2.out.trans (hb3.mono HB2.out.size)).trans ((hb4.mono (Nat.le_trans HB2.out.size hb3.size)).trans (hb5.mono (Nat.le_trans HB2.out.size (Nat.le_trans hb3.size hb4.size))))⟩
            · have e0 : leftI s f m = 0 := by simp [leftI, h4]
              have E0 := Lib.hid e0
              have HS4 : Hid (4 ≤ s) := Lib.hid (by omega)
              have HN0 : Hid ((s != 0) = true) := Lib.hid (by simpa using h0)
              have q1 : 4 ≤ s := by omega
              clear hrb e0 hr h4 h0
              go_wp2_with (first
                  | (go_at_call 14; ((with_reducible refine (lives_hi s f m _ HR.out HN0.out HS4.out).mono ?_); rintro e3 w3 ⟨rfl, hb3⟩; obtain ⟨k0, k1, k2⟩ := cellsJ hb3 k0 k1 k2))
                  | (go_at_call 15; ((with_reducible refine (over_hi s f m _ HR.out HS4.out).mono ?_); rintro e4 w4 ⟨rfl, hb4⟩; obtain ⟨k0, k1, k2⟩ := cellsJ hb4 k0 k1 k2))
                  | (go_at_call 16; ((with_reducible refine (left_hi s f m _ HR.out HS4.out).mono ?_); rintro e5 w5 ⟨rfl, hb5⟩; obtain ⟨k0, k1, k2⟩ := cellsJ hb5 k0 k1 k2)))
              go_meet
              case rel => exact ⟨by first | rfl | (simp [E0.out]; done) | (simp [E0.out]; omega) | (simp [E0.out, *]; done), (HB2.out.trans (hb3.mono HB2.out.size)).trans ((hb4.mono (Nat.le_trans HB2.out.size hb3.size)).trans (hb5.mono (Nat.le_trans HB2.out.size (Nat.le_trans hb3.size hb4.size))))⟩
        · have hr' : rightB s f m = false := by simpa using hr
          have HR := Lib.hid hr'
          have hrt : rb = false := by rw [← hrb, hr']
          subst hrt
          have e0 : leftI s f m = 0 := by simp [leftI, hr']
          have E0 := Lib.hid e0
          clear hrb e0 hr hr'
          go_wp2_with (first
              | (go_at_call 14; ((with_reducible refine (lives_no s f m _ HR.out).mono ?_); rintro e3 w3 ⟨rfl, hb3⟩; obtain ⟨k0, k1, k2⟩ := cellsJ hb3 k0 k1 k2))
              | (go_at_call 15; ((with_reducible refine (over_no s f m _ HR.out).mono ?_); rintro e4 w4 ⟨rfl, hb4⟩; obtain ⟨k0, k1, k2⟩ := cellsJ hb4 k0 k1 k2))
              | (go_at_call 16; ((with_reducible refine (left_no s f m _ HR.out).mono ?_); rintro e5 w5 ⟨rfl, hb5⟩; obtain ⟨k0, k1, k2⟩ := cellsJ hb5 k0 k1 k2)))
          go_meet
          case rel => exact ⟨by first | rfl | (simp [E0.out]; done) | (simp [E0.out]; omega) | (simp [E0.out, *]; done), (HB2.out.trans (hb3.mono HB2.out.size)).trans ((hb4.mono (Nat.le_trans HB2.out.size hb3.size)).trans (hb5.mono (Nat.le_trans HB2.out.size (Nat.le_trans hb3.size hb4.size))))⟩
      case rest =>
        obtain ⟨rfl, hbc⟩ := hcut
        have HC := Lib.hid hbc; clear hbc
        go_upto_region 9 with (fail)
        clear HRB HB5 hrb k0 k1 k2
        by_cases n0 : n < 0
        · have HN : Hid (rightB 0 0 n = false) := Lib.hid (by simp [rightB]; omega)
          have q0 := Lib.hid n0
          go_wp2_with (first
            | (go_at_call 17; ((with_reducible refine (new_bad n _ HN.out).mono ?_); rintro e6 w6 ⟨rfl, hb6⟩))
            | (go_at_call 18; ((with_reducible refine (name_low n _ q0.out).mono ?_); rintro e7 w7 ⟨rfl, hb7⟩)))
          go_ret
          exact ⟨by first | rfl | (simp; done), tells_end HC.out hb6 hb7⟩
        by_cases n8 : 8 < n
        · have HN : Hid (rightB 0 0 n = false) := Lib.hid (by simp [rightB]; omega)
          have q0 : Hid (8 ≤ n) := Lib.hid (by omega)
          have q1 : 7 < n := by omega
          go_wp2_with (first
            | (go_at_call 17; ((with_reducible refine (new_bad n _ HN.out).mono ?_); rintro e6 w6 ⟨rfl, hb6⟩))
            | (go_at_call 18; ((with_reducible refine (name_high n _ q0.out).mono ?_); rintro e7 w7 ⟨rfl, hb7⟩)))
          go_ret
          exact ⟨by first | rfl | (simp; done), tells_end HC.out hb6 hb7⟩
        rcases (show n = 0 ∨ n = 1 ∨ n = 2 ∨ n = 3 ∨ n = 4 ∨ n = 5 ∨ n = 6 ∨ n = 7 ∨ n = 8 by omega) with rfl | rfl | rfl | rfl | rfl | rfl | rfl | rfl | rfl
        · have HN : Hid (rightB 0 0 0 = true) := Lib.hid (by decide)
          go_wp2_with (first
            | (go_at_call 17; ((with_reducible refine (new_ok 0 _ HN.out).mono ?_); rintro e6 w6 ⟨rfl, hb6⟩))
            | (go_at_call 18; ((with_reducible refine (name_0 _).mono ?_); rintro e7 w7 ⟨rfl, hb7⟩; have n0 := cell_later (a := ⟨w6.heap.size + 1, 0, none⟩) (v := .string { data := #[110, 111, 110, 101] }) hb7 (by simp [go_sem]))))
          go_ret
          exact ⟨by first | rfl | (simp; done), tells_end HC.out hb6 hb7⟩
        · have HN : Hid (rightB 0 0 1 = true) := Lib.hid (by decide)
          go_wp2_with (first
            | (go_at_call 17; ((with_reducible refine (new_ok 1 _ HN.out).mono ?_); rintro e6 w6 ⟨rfl, hb6⟩))
            | (go_at_call 18; ((with_reducible refine (name_1 _).mono ?_); rintro e7 w7 ⟨rfl, hb7⟩; have n0 := cell_later (a := ⟨w6.heap.size + 1, 1, none⟩) (v := .string { data := #[114, 117, 110, 110, 105, 110, 103] }) hb7 (by simp [go_sem]))))
          go_ret
          exact ⟨by first | rfl | (simp; done), tells_end HC.out hb6 hb7⟩
        · have HN : Hid (rightB 0 0 2 = true) := Lib.hid (by decide)
          go_wp2_with (first
            | (go_at_call 17; ((with_reducible refine (new_ok 2 _ HN.out).mono ?_); rintro e6 w6 ⟨rfl, hb6⟩))
            | (go_at_call 18; ((with_reducible refine (name_2 _).mono ?_); rintro e7 w7 ⟨rfl, hb7⟩; have n0 := cell_later (a := ⟨w6.heap.size + 1, 2, none⟩) (v := .string { data := #[114, 101, 115, 116, 97, 114, 116, 105, 110, 103] }) hb7 (by simp [go_sem]))))
          go_ret
          exact ⟨by first | rfl | (simp; done), tells_end HC.out hb6 hb7⟩
        · have HN : Hid (rightB 0 0 3 = true) := Lib.hid (by decide)
          go_wp2_with (first
            | (go_at_call 17; ((with_reducible refine (new_ok 3 _ HN.out).mono ?_); rintro e6 w6 ⟨rfl, hb6⟩))
            | (go_at_call 18; ((with_reducible refine (name_3 _).mono ?_); rintro e7 w7 ⟨rfl, hb7⟩; have n0 := cell_later (a := ⟨w6.heap.size + 1, 3, none⟩) (v := .string { data := #[115, 116, 111, 112, 112, 105, 110, 103] }) hb7 (by simp [go_sem]))))
          go_ret
          exact ⟨by first | rfl | (simp; done), tells_end HC.out hb6 hb7⟩
        · have HN : Hid (rightB 0 0 4 = true) := Lib.hid (by decide)
          go_wp2_with (first
            | (go_at_call 17; ((with_reducible refine (new_ok 4 _ HN.out).mono ?_); rintro e6 w6 ⟨rfl, hb6⟩))
            | (go_at_call 18; ((with_reducible refine (name_4 _).mono ?_); rintro e7 w7 ⟨rfl, hb7⟩; have n0 := cell_later (a := ⟨w6.heap.size + 1, 4, none⟩) (v := .string { data := #[102, 105, 110, 105, 115, 104, 101, 100] }) hb7 (by simp [go_sem]))))
          go_ret
          exact ⟨by first | rfl | (simp; done), tells_end HC.out hb6 hb7⟩
        · have HN : Hid (rightB 0 0 5 = true) := Lib.hid (by decide)
          go_wp2_with (first
            | (go_at_call 17; ((with_reducible refine (new_ok 5 _ HN.out).mono ?_); rintro e6 w6 ⟨rfl, hb6⟩))
            | (go_at_call 18; ((with_reducible refine (name_5 _).mono ?_); rintro e7 w7 ⟨rfl, hb7⟩; have n0 := cell_later (a := ⟨w6.heap.size + 1, 5, none⟩) (v := .string { data := #[115, 116, 111, 112, 112, 101, 100] }) hb7 (by simp [go_sem]))))
          go_ret
          exact ⟨by first | rfl | (simp; done), tells_end HC.out hb6 hb7⟩
        · have HN : Hid (rightB 0 0 6 = true) := Lib.hid (by decide)
          go_wp2_with (first
            | (go_at_call 17; ((with_reducible refine (new_ok 6 _ HN.out).mono ?_); rintro e6 w6 ⟨rfl, hb6⟩))
            | (go_at_call 18; ((with_reducible refine (name_6 _).mono ?_); rintro e7 w7 ⟨rfl, hb7⟩; have n0 := cell_later (a := ⟨w6.heap.size + 1, 6, none⟩) (v := .string { data := #[99, 97, 110, 99, 101, 108, 108, 101, 100] }) hb7 (by simp [go_sem]))))
          go_ret
          exact ⟨by first | rfl | (simp; done), tells_end HC.out hb6 hb7⟩
        · have HN : Hid (rightB 0 0 7 = true) := Lib.hid (by decide)
          go_wp2_with (first
            | (go_at_call 17; ((with_reducible refine (new_ok 7 _ HN.out).mono ?_); rintro e6 w6 ⟨rfl, hb6⟩))
            | (go_at_call 18; ((with_reducible refine (name_7 _).mono ?_); rintro e7 w7 ⟨rfl, hb7⟩; have n0 := cell_later (a := ⟨w6.heap.size + 1, 7, none⟩) (v := .string { data := #[102, 97, 105, 108, 101, 100] }) hb7 (by simp [go_sem]))))
          go_ret
          exact ⟨by first | rfl | (simp; done), tells_end HC.out hb6 hb7⟩
        · have HN : Hid (rightB 0 0 8 = true) := Lib.hid (by decide)
          go_wp2_with (first
            | (go_at_call 17; ((with_reducible refine (new_ok 8 _ HN.out).mono ?_); rintro e6 w6 ⟨rfl, hb6⟩))
            | (go_at_call 18; ((with_reducible refine (name_high 8 _ (by decide)).mono ?_); rintro e7 w7 ⟨rfl, hb7⟩)))
          go_ret
          exact ⟨by first | rfl | (simp; done), tells_end HC.out hb6 hb7⟩

end Go.Proofs.Ytdepolfmibhojaa
