/-
  The walk of 'JobDoes' (P25.1, P25.2).
-/
import Derived.Test.YtdepolfmibhojaaMay
namespace Go.Proofs.Ytdepolfmibhojaa
open Go.ChangeShapes Go.WideShapes Go.ChangeAt Go.RowKit
set_option linter.unusedVariables false

theorem okL_none {s f m : Int} (hr : rightB s f m = false) : ∀ k, okL s f m k = []
  | 0 => rfl
  | k + 1 => by rw [okL, okL_none hr k, if_neg (fun h => by rw [doE_no hr] at h; exact absurd h.2 (by decide))]; rfl
theorem may_any (s f m : Int) (w : World) :
    Calls Try.prog 13 #[.agg #[.int .i64 s, .int .i64 f, .int .i64 m]] w fun e w' => (∃ a c, e = .returned (.slice a (okL s f m 10).length c) ∧ SeenI w' a (okL s f m 10)) ∧ Below w.heap.size w w' := by
  by_cases hr : rightB s f m = true
  · refine (may_yes s f m w hr).mono ?_
    rintro e w' ⟨⟨v, rfl, hown⟩, hb⟩
    obtain ⟨a, c, rfl, hs, _⟩ := own_viewI hown
    exact ⟨⟨a, c, rfl, hs⟩, hb⟩
  · have hr' : rightB s f m = false := by simpa using hr
    refine (may_no s f m w hr').mono ?_
    rintro e w' ⟨rfl, hb⟩
    rw [okL_none hr']
    exact ⟨⟨none, 0, rfl, fun h => absurd h (by decide)⟩, hb⟩
theorem cellsj {s f m : Int} {b : Nat} {w w1 : World} (hb : Below w.heap.size w w1) (h : w.cell? ⟨b, 0, none⟩ = some (.int .i64 s) ∧ w.cell? ⟨b, 1, none⟩ = some (.int .i64 f) ∧ w.cell? ⟨b, 2, none⟩ = some (.int .i64 m)) :
    w1.cell? ⟨b, 0, none⟩ = some (.int .i64 s) ∧ w1.cell? ⟨b, 1, none⟩ = some (.int .i64 f) ∧ w1.cell? ⟨b, 2, none⟩ = some (.int .i64 m) := ⟨cell_later hb h.1, cell_later hb h.2.1, cell_later hb h.2.2⟩
theorem cellsja {s f m : Int} {b : Nat} {o : Obj} {w w1 : World} (hb : Below (w.alloc o).heap.size (w.alloc o) w1) (h : w.cell? ⟨b, 0, none⟩ = some (.int .i64 s) ∧ w.cell? ⟨b, 1, none⟩ = some (.int .i64 f) ∧ w.cell? ⟨b, 2, none⟩ = some (.int .i64 m)) :
    w1.cell? ⟨b, 0, none⟩ = some (.int .i64 s) ∧ w1.cell? ⟨b, 1, none⟩ = some (.int .i64 f) ∧ w1.cell? ⟨b, 2, none⟩ = some (.int .i64 m) := cellsj hb (cellsj ((Below.refl _ _).alloc (Nat.le_refl _) _) h)
theorem cellsjn {s f m : Int} {w w1 : World} (hb : Below (w.alloc (.cells #[.int .i64 s, .int .i64 f, .int .i64 m] 23)).heap.size (w.alloc (.cells #[.int .i64 s, .int .i64 f, .int .i64 m] 23)) w1) :
    w1.cell? ⟨w.heap.size, 0, none⟩ = some (.int .i64 s) ∧ w1.cell? ⟨w.heap.size, 1, none⟩ = some (.int .i64 f) ∧ w1.cell? ⟨w.heap.size, 2, none⟩ = some (.int .i64 m) := cells1 hb
theorem rdo_err (s f m h e : Int) (he : doE s f m h = e) (h0 : ¬ e = 0) (w : World) :
    Calls Try.prog 10 #[.agg #[.int .i64 s, .int .i64 f, .int .i64 m], .int .i64 h] w fun e' w' => e' = .returned (.tuple #[.agg #[.int .i64 0, .int .i64 0, .int .i64 0], .int .i64 e]) ∧ Below w.heap.size w w' := by
  have := rdo_any s f m h w
  rwa [res_err he h0] at this
theorem rdo_ok (s f m h a b : Int) (he : doE s f m h = 0) (ha : stepS f m h = a) (hb : stepF f m h = b) (w : World) :
    Calls Try.prog 10 #[.agg #[.int .i64 s, .int .i64 f, .int .i64 m], .int .i64 h] w fun e' w' => e' = .returned (.tuple #[.agg #[.int .i64 a, .int .i64 b, .int .i64 m], .int .i64 0]) ∧ Below w.heap.size w w' := by
  have := rdo_any s f m h w
  rwa [res_ok he, ha, hb] at this
theorem okL_at {s f m : Int} {j : Nat} (h1 : 1 ≤ j) (hj : j < 10) (he : doE s f m (j : Int) = 0) : (okL s f m j).length < (okL s f m 10).length ∧ (okL s f m 10)[(okL s f m j).length]?.getD 0 = (j : Int) := by
  obtain ⟨ys, hy⟩ := okL_pre s f m (j + 1) (10 - (j + 1))
  rw [show j + 1 + (10 - (j + 1)) = 10 by omega, okL_yes h1 he] at hy
  rw [hy]
  simp
theorem below_al {w wc : World} {o : Obj} (h : Below w.heap.size w wc) : Below w.heap.size w (wc.alloc o) := h.alloc h.size o

set_option maxHeartbeats 1600000 in
theorem does_yes (s f m h : Int) (w : World) (hr : rightB s f m = true) :
    Calls Try.prog 3 #[.agg #[.int .i64 s, .int .i64 f, .int .i64 m], .int .i64 h] w fun e w' => e = .returned (.bool true) ∧ Below w.heap.size w w' := by
  have HR := Lib.hid hr; clear hr
  have HD := fun w => Lib.hid (Do_any s f m h w)
  have HRD := fun w => Lib.hid (rdo_any s f m h w)
  unfold resV at HD HRD
  generalize doS s f m h = a at HD HRD
  generalize doF s f m h = b at HD HRD
  generalize doM s f m h = c at HD HRD
  generalize doE s f m h = k at HD HRD
  obtain ⟨M, hM⟩ : ∃ M, okL s f m 10 = M := ⟨_, rfl⟩
  have HMM := Lib.hid hM; clear hM
  go_enter Try.func3, Try.ntmps3
  go_wp2_with (first
    | (go_at_call 8; refine (wakes_any _).mono ?_; rintro e1 w1 ⟨rfl, hb1⟩; have y1 := below1 hb1; obtain ⟨k0, k1, k2⟩ := cellsjn hb1)
    | (go_at_call 9; refine (HD _).out.mono ?_; rintro e2 w2 ⟨rfl, hb2⟩; have y2 := y1.trans (hb2.mono y1.size); obtain ⟨k0, k1, k2⟩ := cellsj hb2 ⟨k0, k1, k2⟩; have lt2 := World.block_lt_of_cell? _ _ k0)
    | (go_at_call 10; refine (HRD _).out.mono ?_; rintro e3 w3 ⟨rfl, hb3⟩; have y3 := alloc_trans y2 hb3; obtain ⟨k0, k1, k2⟩ := cellsja hb3 ⟨k0, k1, k2⟩; obtain ⟨x0, x1, x2⟩ := cellsjn hb3; have lt3 := World.block_lt_of_cell? _ _ k0; have lx3 := World.block_lt_of_cell? _ _ x0)
    | (go_at_call 11; refine (check_ok _ _ _ _ HR.out).mono ?_; rintro e4 w4 ⟨rfl, hb4⟩; have y4 := alloc_trans y3 hb4; obtain ⟨k0, k1, k2⟩ := cellsja hb4 ⟨k0, k1, k2⟩; obtain ⟨x0, x1, x2⟩ := cellsja hb4 ⟨x0, x1, x2⟩; obtain ⟨z0, z1, z2⟩ := cellsjn hb4)
    | (go_at_call 12; refine (right_any _ _ _ _).mono ?_; rw [HR.out]; rintro e5 w5 ⟨rfl, hb5⟩; have y5 := y4.trans (hb5.mono y4.size); obtain ⟨k0, k1, k2⟩ := cellsj hb5 ⟨k0, k1, k2⟩; obtain ⟨x0, x1, x2⟩ := cellsj hb5 ⟨x0, x1, x2⟩; obtain ⟨z0, z1, z2⟩ := cellsj hb5 ⟨z0, z1, z2⟩)
    | (go_at_call 13; refine (may_any _ _ _ _).mono ?_; rw [HMM.out]; rintro e6 w6 ⟨⟨aM, cM, rfl, hsM⟩, hb6⟩; have HSM := Lib.hid hsM; clear hsM; have y6 := y5.trans (hb6.mono y5.size); obtain ⟨k0, k1, k2⟩ := cellsj hb6 ⟨k0, k1, k2⟩))
  have HK : Hid (w6.cell? ⟨w.heap.size, 0, none⟩ = some (.int .i64 s) ∧ w6.cell? ⟨w.heap.size, 1, none⟩ = some (.int .i64 f) ∧ w6.cell? ⟨w.heap.size, 2, none⟩ = some (.int .i64 m)) := Lib.hid ⟨k0, k1, k2⟩
  have HY := Lib.hid y6
  have HLT : Hid (w.heap.size < w6.heap.size) := Lib.hid (World.block_lt_of_cell? _ _ k0)
  clear y1 y2 y3 y4 y5 y6 hb1 hb2 hb3 hb4 hb5 hb6 HD HRD
  go_loopw [12, 13] (fun n i wr => ∃ j : Nat, 1 ≤ j ∧ j ≤ 10 ∧ i = .int .i64 j ∧ n = .int .i64 ((okL s f m j).length : Nat) ∧ Below w6.heap.size w6 wr) (fun _ i _ => 10 - (intOf i).toNat)
  case atStart => exact ⟨1, by decide, by decide, rfl, rfl, Below.refl _ _⟩
  case round =>
    obtain ⟨j, hj1, hj, rfl, rfl, hbw⟩ := hrel
    have HB := Lib.hid hbw; clear hbw
    obtain ⟨k0, k1, k2⟩ := cellsj HB.out HK.out
    by_cases hlt : j < 10
    · by_cases he : doE s f m (j : Int) = 0
      · obtain ⟨a, ha⟩ : ∃ a, stepS f m (j : Int) = a := ⟨_, rfl⟩
        obtain ⟨b, hb⟩ : ∃ a, stepF f m (j : Int) = a := ⟨_, rfl⟩
        have D1 := fun w => Lib.hid (rdo_ok s f m j a b he ha hb w)
        obtain ⟨q1, q2⟩ := okL_at hj1 hlt he
        have HN : Hid (okL s f m (j + 1) = okL s f m j ++ [(j : Int)]) := Lib.hid (okL_yes hj1 he)
        rw [HMM.out] at q1 q2
        have HLn : Hid ((okL s f m j).length ≤ 10) := Lib.hid (Nat.le_trans (okL_len s f m j) hj)
        obtain ⟨nj, hnj⟩ : ∃ n, (okL s f m j).length = n := ⟨_, rfl⟩
        rw [hnj] at q1 q2
        obtain ⟨bM, oM, rfl, lM, gM⟩ := HSM.out (by omega)
        have hcell := (HB.out.cell (p := ⟨bM, oM + nj, none⟩) lM).trans (gM nj q1)
        rw [q2] at hcell
        have HNJ := Lib.hid hnj
        rw [hnj]
        have hn10 := HLn.out
        rw [hnj] at hn10
        have hMl : M.length ≤ 10 := by rw [← HMM.out]; exact okL_len s f m 10
        clear ha hb he gM q2 hnj
        have lMr : bM < wr.heap.size := Nat.lt_of_lt_of_le lM HB.out.size
        go_wp2_with (go_at_call 10; ((with_reducible refine (D1 _).out.mono ?_); rintro e7 w7 ⟨rfl, hb7⟩; have hcell := cell_later hb7 hcell; have lM7 := World.block_lt_of_cell? _ _ hcell))
        go_roundw
        case rel => exact ⟨j + 1, by omega, by omega, by go_num, by rw [HN.out, List.length_append, HNJ.out]; first | rfl | go_num, (HB.out.trans (hb7.mono HB.out.size)).alloc (Nat.le_trans HB.out.size hb7.size) _⟩
        case measure => simp [intOf]; omega
      · obtain ⟨e, hee⟩ : ∃ e, doE s f m (j : Int) = e := ⟨_, rfl⟩
        rw [hee] at he
        have D1 := fun w => Lib.hid (rdo_err s f m j e hee he w)
        have hE : (e != 0) = true := by simpa using he
        have HN : Hid (okL s f m (j + 1) = okL s f m j) := Lib.hid (okL_no (by rw [hee]; exact he))
        clear hee he
        go_wp2_with (go_at_call 10; ((with_reducible refine (D1 _).out.mono ?_); rintro e7 w7 ⟨rfl, hb7⟩))
        go_roundw
        case rel => exact ⟨j + 1, by omega, by omega, by go_num, by rw [HN.out], (HB.out.trans (hb7.mono HB.out.size)).alloc (Nat.le_trans HB.out.size hb7.size) _⟩
        case measure => simp [intOf]; omega
    · obtain rfl : j = 10 := by omega
      rw [HMM.out]
      go_wp2
      go_ret
      exact ⟨by simp, HY.out.trans (HB.out.mono (Nat.le_of_lt HLT.out))⟩

set_option maxHeartbeats 1600000 in
theorem does_no (s f m h : Int) (w : World) (hr : rightB s f m = false) :
    Calls Try.prog 3 #[.agg #[.int .i64 s, .int .i64 f, .int .i64 m], .int .i64 h] w fun e w' => e = .returned (.bool true) ∧ Below w.heap.size w w' := by
  have HR := Lib.hid hr; clear hr
  have HD := fun w => Lib.hid (Do_any s f m h w)
  have HRD := fun w => Lib.hid (rdo_any s f m h w)
  unfold resV at HD HRD
  generalize doS s f m h = a at HD HRD
  generalize doF s f m h = b at HD HRD
  generalize doM s f m h = c at HD HRD
  generalize doE s f m h = k at HD HRD
  obtain ⟨M, hM⟩ : ∃ M, okL s f m 10 = M := ⟨_, rfl⟩
  have HMM := Lib.hid hM; clear hM
  go_enter Try.func3, Try.ntmps3
  go_wp2_with (first
    | (go_at_call 8; refine (wakes_any _).mono ?_; rintro e1 w1 ⟨rfl, hb1⟩; have y1 := below1 hb1; obtain ⟨k0, k1, k2⟩ := cellsjn hb1)
    | (go_at_call 9; refine (HD _).out.mono ?_; rintro e2 w2 ⟨rfl, hb2⟩; have y2 := y1.trans (hb2.mono y1.size); obtain ⟨k0, k1, k2⟩ := cellsj hb2 ⟨k0, k1, k2⟩; have lt2 := World.block_lt_of_cell? _ _ k0)
    | (go_at_call 10; refine (HRD _).out.mono ?_; rintro e3 w3 ⟨rfl, hb3⟩; have y3 := alloc_trans y2 hb3; obtain ⟨k0, k1, k2⟩ := cellsja hb3 ⟨k0, k1, k2⟩; obtain ⟨x0, x1, x2⟩ := cellsjn hb3; have lt3 := World.block_lt_of_cell? _ _ k0; have lx3 := World.block_lt_of_cell? _ _ x0)
    | (go_at_call 11; refine (check_no _ _ _ _ HR.out).mono ?_; rintro e4 w4 ⟨rfl, hb4⟩; have y4 := alloc_trans y3 hb4; obtain ⟨k0, k1, k2⟩ := cellsja hb4 ⟨k0, k1, k2⟩; obtain ⟨x0, x1, x2⟩ := cellsja hb4 ⟨x0, x1, x2⟩; obtain ⟨z0, z1, z2⟩ := cellsjn hb4)
    | (go_at_call 12; refine (right_any _ _ _ _).mono ?_; rw [HR.out]; rintro e5 w5 ⟨rfl, hb5⟩; have y5 := y4.trans (hb5.mono y4.size); obtain ⟨k0, k1, k2⟩ := cellsj hb5 ⟨k0, k1, k2⟩; obtain ⟨x0, x1, x2⟩ := cellsj hb5 ⟨x0, x1, x2⟩; obtain ⟨z0, z1, z2⟩ := cellsj hb5 ⟨z0, z1, z2⟩)
    | (go_at_call 13; refine (may_any _ _ _ _).mono ?_; rw [HMM.out]; rintro e6 w6 ⟨⟨aM, cM, rfl, hsM⟩, hb6⟩; have HSM := Lib.hid hsM; clear hsM; have y6 := y5.trans (hb6.mono y5.size); obtain ⟨k0, k1, k2⟩ := cellsj hb6 ⟨k0, k1, k2⟩))
  have HK : Hid (w6.cell? ⟨w.heap.size, 0, none⟩ = some (.int .i64 s) ∧ w6.cell? ⟨w.heap.size, 1, none⟩ = some (.int .i64 f) ∧ w6.cell? ⟨w.heap.size, 2, none⟩ = some (.int .i64 m)) := Lib.hid ⟨k0, k1, k2⟩
  have HY := Lib.hid y6
  have HLT : Hid (w.heap.size < w6.heap.size) := Lib.hid (World.block_lt_of_cell? _ _ k0)
  clear y1 y2 y3 y4 y5 y6 hb1 hb2 hb3 hb4 hb5 hb6 HD HRD
  go_loopw [12, 13] (fun n i wr => ∃ j : Nat, 1 ≤ j ∧ j ≤ 10 ∧ i = .int .i64 j ∧ n = .int .i64 ((okL s f m j).length : Nat) ∧ Below w6.heap.size w6 wr) (fun _ i _ => 10 - (intOf i).toNat)
  case atStart => exact ⟨1, by decide, by decide, rfl, rfl, Below.refl _ _⟩
  case round =>
    obtain ⟨j, hj1, hj, rfl, rfl, hbw⟩ := hrel
    have HB := Lib.hid hbw; clear hbw
    obtain ⟨k0, k1, k2⟩ := cellsj HB.out HK.out
    by_cases hlt : j < 10
    · by_cases he : doE s f m (j : Int) = 0
      · obtain ⟨a, ha⟩ : ∃ a, stepS f m (j : Int) = a := ⟨_, rfl⟩
        obtain ⟨b, hb⟩ : ∃ a, stepF f m (j : Int) = a := ⟨_, rfl⟩
        have D1 := fun w => Lib.hid (rdo_ok s f m j a b he ha hb w)
        obtain ⟨q1, q2⟩ := okL_at hj1 hlt he
        have HN : Hid (okL s f m (j + 1) = okL s f m j ++ [(j : Int)]) := Lib.hid (okL_yes hj1 he)
        rw [HMM.out] at q1 q2
        have HLn : Hid ((okL s f m j).length ≤ 10) := Lib.hid (Nat.le_trans (okL_len s f m j) hj)
        obtain ⟨nj, hnj⟩ : ∃ n, (okL s f m j).length = n := ⟨_, rfl⟩
        rw [hnj] at q1 q2
        obtain ⟨bM, oM, rfl, lM, gM⟩ := HSM.out (by omega)
        have hcell := (HB.out.cell (p := ⟨bM, oM + nj, none⟩) lM).trans (gM nj q1)
        rw [q2] at hcell
        have HNJ := Lib.hid hnj
        rw [hnj]
        have hn10 := HLn.out
        rw [hnj] at hn10
        have hMl : M.length ≤ 10 := by rw [← HMM.out]; exact okL_len s f m 10
        clear ha hb he gM q2 hnj
        have lMr : bM < wr.heap.size := Nat.lt_of_lt_of_le lM HB.out.size
        go_wp2_with (go_at_call 10; ((with_reducible refine (D1 _).out.mono ?_); rintro e7 w7 ⟨rfl, hb7⟩; have hcell := cell_later hb7 hcell; have lM7 := World.block_lt_of_cell? _ _ hcell))
        go_roundw
        case rel => exact ⟨j + 1, by omega, by omega, by go_num, by rw [HN.out, List.length_append, HNJ.out]; first | rfl | go_num, (HB.out.trans (hb7.mono HB.out.size)).alloc (Nat.le_trans HB.out.size hb7.size) _⟩
        case measure => simp [intOf]; omega
      · obtain ⟨e, hee⟩ : ∃ e, doE s f m (j : Int) = e := ⟨_, rfl⟩
        rw [hee] at he
        have D1 := fun w => Lib.hid (rdo_err s f m j e hee he w)
        have hE : (e != 0) = true := by simpa using he
        have HN : Hid (okL s f m (j + 1) = okL s f m j) := Lib.hid (okL_no (by rw [hee]; exact he))
        clear hee he
        go_wp2_with (go_at_call 10; ((with_reducible refine (D1 _).out.mono ?_); rintro e7 w7 ⟨rfl, hb7⟩))
        go_roundw
        case rel => exact ⟨j + 1, by omega, by omega, by go_num, by rw [HN.out], (HB.out.trans (hb7.mono HB.out.size)).alloc (Nat.le_trans HB.out.size hb7.size) _⟩
        case measure => simp [intOf]; omega
    · obtain rfl : j = 10 := by omega
      rw [HMM.out]
      go_wp2
      go_ret
      exact ⟨by simp, HY.out.trans (HB.out.mono (Nat.le_of_lt HLT.out))⟩

theorem does_main (s f m h : Int) (w : World) : Calls Try.prog 3 #[.agg #[.int .i64 s, .int .i64 f, .int .i64 m], .int .i64 h] w fun e w' => e = .returned (.bool true) ∧ Below w.heap.size w w' := by
  by_cases hr : rightB s f m = true
  · exact does_yes s f m h w hr
  · exact does_no s f m h w (by simpa using hr)
end Go.Proofs.Ytdepolfmibhojaa
