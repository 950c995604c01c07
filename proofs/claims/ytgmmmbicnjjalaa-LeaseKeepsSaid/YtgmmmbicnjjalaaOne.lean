/-
  The walks of layer 21's functions (lease), at the seat's numbers: what each call comes to.
-/
import Derived.Test.YtgmmmbicnjjalaaRows
import Derived.Test.YtgmmmbicnjjalaaPure
import Derived.WalkKit
import Derived.ProofKit
import Derived.OpenShut
import Derived.Outline
import Derived.BigQuiet
import Derived.WalkSpells
import Derived.Lib.Hide
import Derived.Deep.Light
namespace Go.Proofs.Ytgmmmbicnjjalaa
open Go.ChangeShapes Go.WideShapes Go.ChangeAt Go.RowKit

theorem ret_bool {a b : Bool} (h : a = b) : Ending.returned (.bool a) = .returned (.bool b) := by rw [h]
theorem ret_int {k : IntKind} {a b : Int} (h : a = b) : Ending.returned (.int k a) = .returned (.int k b) := by rw [h]

theorem bcell {W w1 : World} (hb : Below W.heap.size W w1) : (∀ b o, b < W.heap.size → w1.cell? ⟨b, o, none⟩ = W.cell? ⟨b, o, none⟩) ∧ (∀ b o, b < W.heap.size → w1.frozen? ⟨b, o, none⟩ = W.frozen? ⟨b, o, none⟩) :=
  ⟨fun b o h => hb.cell (p := ⟨b, o, none⟩) h, fun b o h => hb.frozen (p := ⟨b, o, none⟩) h⟩

theorem mayBe_any (e h u : Int) (w : World) :
    Calls Try.prog 23 #[.agg #[.int .u64 e, .int .i64 h, .int .i64 u]] w fun e' w' => e' = .returned (.bool (mayB e h u)) ∧ Below w.heap.size w w' := by
  go_enter Try.func23, Try.ntmps23
  go_wp2
  all_goals
    go_ret
    refine ⟨ret_bool ?_, (Below.refl _ _).alloc (Nat.le_refl _) _⟩
    go_light
    simp_all [mayB] <;> omega

theorem right_any (e h u : Int) (w : World) :
    Calls Try.prog 11 #[.agg #[.int .u64 e, .int .i64 h, .int .i64 u]] w fun e' w' => e' = .returned (.bool (mayB e h u)) ∧ Below w.heap.size w w' := by
  go_enter Try.func11, Try.ntmps11
  go_wp2
  all_goals
    go_ret
    refine ⟨ret_bool ?_, (Below.refl _ _).alloc (Nat.le_refl _) _⟩
    go_light
    first | (simp_all [mayB] <;> omega) | (rw [Bool.eq_iff_iff]; simp_all [mayB])

theorem held_any (e h u now : Int) (w : World) :
    Calls Try.prog 21 #[.agg #[.int .u64 e, .int .i64 h, .int .i64 u], .int .i64 now] w fun e' w' => e' = .returned (.bool (heldB e u now)) ∧ Below w.heap.size w w' := by
  go_enter Try.func21, Try.ntmps21
  go_wp2
  all_goals
    go_ret
    refine ⟨ret_bool ?_, (Below.refl _ _).alloc (Nat.le_refl _) _⟩
    go_light
    first | (simp_all [heldB] <;> omega) | (rw [Bool.eq_iff_iff]; simp_all [heldB])

theorem check_any (e h u : Int) (w : World) :
    Calls Try.prog 10 #[.agg #[.int .u64 e, .int .i64 h, .int .i64 u]] w fun e' w' => e' = .returned (.int .i64 (chkI e h u)) ∧ Below w.heap.size w w' := by
  go_enter Try.func10, Try.ntmps10
  go_wp2_with (go_at_call 23; refine (mayBe_any _ _ _ _).mono ?_; rintro e1 w1 ⟨rfl, hb1⟩)
  all_goals
    go_ret
    refine ⟨ret_int ?_, ((Below.refl _ _).alloc (Nat.le_refl _) _).trans (hb1.mono (by simp))⟩
    go_light
    simp_all [chkI]

theorem asked_any (e h u who now span : Int) (w : World) :
    Calls Try.prog 22 #[.agg #[.int .u64 e, .int .i64 h, .int .i64 u], .int .i64 who, .int .i64 now, .int .i64 span] w fun e' w' => e' = .returned (.int .i64 (askedI e h u who now span)) ∧ Below w.heap.size w w' := by
  go_enter Try.func22, Try.ntmps22
  go_wp2_with (go_at_call 11; refine (right_any _ _ _ _).mono ?_; rintro e1 w1 ⟨rfl, hb1⟩)
  all_goals
    go_ret
    refine ⟨ret_int ?_, ((Below.refl _ _).alloc (Nat.le_refl _) _).trans (hb1.mono (by simp))⟩
    go_light
    clear hb1
    simp_all [askedI, argB] <;> omega

theorem racq_any (e h u who now span : Int) (w : World) (he : 0 ≤ e) :
    Calls Try.prog 9 #[.agg #[.int .u64 e, .int .i64 h, .int .i64 u], .int .i64 who, .int .i64 now, .int .i64 span] w fun e' w' =>
      e' = .returned (.tuple #[.agg #[.int .u64 (aqE e h u who now span), .int .i64 (aqH e h u who now span), .int .i64 (aqU e h u who now span)], .int .i64 (acqE e h u who now span)]) ∧ Below w.heap.size w w' := by
  by_cases h0 : askedI e h u who now span = 0
  · obtain ⟨hm, ha⟩ := asked_zero h0
    have p := may_true hm
    have q := arg_true ha
    by_cases h1 : now < u
    · have HQ := Lib.hid (acq_held hm ha h1)
      obtain ⟨p1, p2, p3, p4, p5⟩ := p
      obtain ⟨q1, q2, q3, q4, q5, q6⟩ := q
      clear p1 hm ha
      go_enter Try.func9, Try.ntmps9
      go_wp2_with (go_at_call 22; refine (asked_any _ _ _ _ _ _ _).mono ?_; rintro e1 w1 ⟨rfl, hb1⟩; obtain ⟨hc1, hf1⟩ := bcell hb1)
      refine bodyPost_ret (v := .tuple #[.agg #[.int .u64 (aqE e h u who now span), .int .i64 (aqH e h u who now span), .int .i64 (aqU e h u who now span)], .int .i64 (acqE e h u who now span)]) ?_ rfl ⟨rfl, ?_⟩
      · go_light
        simp [results, Try.results9, go_sem, aqE, aqH, aqU, HQ.out, *]
      · have hB := (((Below.refl _ _).alloc (Nat.le_refl _) _).alloc (by simp) _).trans (hb1.mono (by simp; omega))
        go_light
        repeat (first | exact hB | refine Below.setCell ?_ (by simp) _)
    · by_cases h2 : e = 2147483647
      · have HQ := Lib.hid (acq_full hm ha h1 h2)
        clear p q hm ha
        subst h2
        go_enter Try.func9, Try.ntmps9
        go_wp2_with (go_at_call 22; refine (asked_any _ _ _ _ _ _ _).mono ?_; rintro e1 w1 ⟨rfl, hb1⟩; obtain ⟨hc1, hf1⟩ := bcell hb1)
        refine bodyPost_ret (v := .tuple #[.agg #[.int .u64 (aqE 2147483647 h u who now span), .int .i64 (aqH 2147483647 h u who now span), .int .i64 (aqU 2147483647 h u who now span)], .int .i64 (acqE 2147483647 h u who now span)]) ?_ rfl ⟨rfl, ?_⟩
        · go_light
          simp [results, Try.results9, go_sem, aqE, aqH, aqU, HQ.out, *]
        · have hB := (((Below.refl _ _).alloc (Nat.le_refl _) _).alloc (by simp) _).trans (hb1.mono (by simp; omega))
          go_light
          repeat (first | exact hB | refine Below.setCell ?_ (by simp) _)
      · have HQ := Lib.hid (acq_ok hm ha h1 h2)
        obtain ⟨p1, p2, p3, p4, p5⟩ := p
        obtain ⟨q1, q2, q3, q4, q5, q6⟩ := q
        clear p1 hm ha
        go_enter Try.func9, Try.ntmps9
        go_wp2_with (go_at_call 22; refine (asked_any _ _ _ _ _ _ _).mono ?_; rintro e1 w1 ⟨rfl, hb1⟩; obtain ⟨hc1, hf1⟩ := bcell hb1)
        refine bodyPost_ret (v := .tuple #[.agg #[.int .u64 (aqE e h u who now span), .int .i64 (aqH e h u who now span), .int .i64 (aqU e h u who now span)], .int .i64 (acqE e h u who now span)]) ?_ rfl ⟨rfl, ?_⟩
        · go_light
          simp [results, Try.results9, go_sem, aqE, aqH, aqU, HQ.out, *]
        · have hB := (((Below.refl _ _).alloc (Nat.le_refl _) _).alloc (by simp) _).trans (hb1.mono (by simp; omega))
          go_light
          repeat (first | exact hB | refine Below.setCell ?_ (by simp) _)
  · have HQ := Lib.hid (acq_not h0)
    go_enter Try.func9, Try.ntmps9
    go_wp2_with (go_at_call 22; refine (asked_any _ _ _ _ _ _ _).mono ?_; rintro e1 w1 ⟨rfl, hb1⟩; obtain ⟨hc1, hf1⟩ := bcell hb1)
    refine bodyPost_ret (v := .tuple #[.agg #[.int .u64 (aqE e h u who now span), .int .i64 (aqH e h u who now span), .int .i64 (aqU e h u who now span)], .int .i64 (acqE e h u who now span)]) ?_ rfl ⟨rfl, ?_⟩
    · go_light
      simp [results, Try.results9, go_sem, aqE, aqH, aqU, HQ.out, *]
    · have hB := (((Below.refl _ _).alloc (Nat.le_refl _) _).alloc (by simp) _).trans (hb1.mono (by simp; omega))
      go_light
      repeat (first | exact hB | refine Below.setCell ?_ (by simp) _)

end Go.Proofs.Ytgmmmbicnjjalaa
