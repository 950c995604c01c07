/-
  Proved: 'OctetCasts' (P1.1, P1.4) returns true for every number of 64 bits, and leaves it as it was. Conditions: none but those of the given row.
-/
import Derived.Test.YtngnhieddblnmaaTen
import Derived.ChangeOld
namespace Go.Proofs.Ytngnhieddblnmaa.octetCasts
open Go.ChangeShapes Go.WideShapes Go.ChangeAt Go.RowKit
set_option linter.unusedVariables false

def sumI (xs : List Int) : Int := xs.foldl (fun x b => x + b) 0
theorem sum_snoc (xs : List Int) (b : Int) : sumI (xs ++ [b]) = sumI xs + b := by simp [sumI]
theorem sum_bound (xs : List Int) (h : bytesOk xs) : ∀ k, k ≤ xs.length → 0 ≤ sumI (xs.take k) ∧ sumI (xs.take k) ≤ 255 * k := by
  intro k
  induction k with
  | zero => intro _; simp [sumI]
  | succ k ih =>
    intro hk
    obtain ⟨h1, h2⟩ := ih (by omega)
    obtain ⟨b1, b2⟩ := h k (by omega)
    rw [take_snoc xs k (by omega), sum_snoc]
    omega
theorem sum_be (n : Nat) : ∀ x : Int, 0 ≤ x → x < 256 ^ n → sumI (be n x) % 255 = x % 255 := by
  induction n with
  | zero => intro x h0 h1; simp at h1; have : x = 0 := by omega
            subst this; rfl
  | succ n ih =>
    intro x h0 h1
    have h2 : x / 256 < 256 ^ n := Int.ediv_lt_of_lt_mul (by decide) (by rw [← Int.pow_succ]; exact h1)
    have := ih (x / 256) (by omega) h2
    rw [be, sum_snoc]
    omega
theorem be_ok (n : Nat) : ∀ x : Int, bytesOk (be n x) := by
  induction n with
  | zero => intro x j hj; simp [be] at hj
  | succ n ih =>
    intro x j hj
    rw [be_length] at hj
    rw [be]
    by_cases h : j < n
    · rw [List.getElem?_append_left (by rw [be_length]; exact h)]
      exact ih _ j (by rw [be_length]; exact h)
    · have : j = n := by omega
      subst this
      rw [List.getElem?_append_right (by rw [be_length]; exact Nat.le_refl _), be_length]
      simp
      omega

theorem all_any (g n c : Nat) (xs : List Int) (w : World) (hn : xs.length = n) (h8 : n ≤ 8) (hg : w.heap[g]? = some (.cells (By xs).toArray 5 (0, 0))) (hb : bytesOk xs) :
    Calls Try.prog 30 #[.slice (some ⟨g, 0, none⟩) n c] w fun e w' => e = .returned (.int .u64 (sumI xs % 255)) ∧ w = w' := by
  have HN := Lib.hid hn; clear hn
  have HG := Lib.hid hg; clear hg
  have HB := Lib.hid hb; clear hb
  go_enter Try.func30, Try.ntmps30
  go_wp2
  go_loop [3, 8] (fun s i => ∃ k : Nat, k ≤ n ∧ i = .int .i64 k ∧ s = .int .u64 (sumI (xs.take k))) (fun _ i => n - (intOf i).toNat)
  case atStart => exact ⟨0, Nat.zero_le _, rfl, rfl⟩
  case round =>
    obtain ⟨k, hk, rfl, rfl⟩ := hrel
    obtain ⟨y0, y1⟩ := sum_bound xs HB.out k (by rw [HN.out]; exact hk)
    obtain ⟨y, hy⟩ : ∃ y, y = sumI (xs.take k) := ⟨_, rfl⟩
    rw [← hy] at y0 y1
    rw [← hy]
    have HY := Lib.hid hy; clear hy
    have y2 : y ≤ 2040 := by omega
    clear y1
    by_cases hlt : k < n
    · have hc := row_cell HG.out k (by rw [HN.out]; exact hlt)
      obtain ⟨b0, b1⟩ := HB.out k (by rw [HN.out]; exact hlt)
      have HT := Lib.hid (take_snoc xs k (by rw [HN.out]; exact hlt))
      go_wp2
      go_round
      case rel => exact ⟨k + 1, by omega, by go_num, by rw [HT.out, sum_snoc, ← HY.out]⟩
      case measure => simp [intOf]; omega
    · go_wp2
      go_ret
      have hy := HY.out
      rw [show k = n by omega, ← HN.out, List.take_length] at hy
      exact ⟨by rw [hy]; rfl, rfl⟩

theorem nil_seen (w : World) : Seen w none [] := fun h => absurd h (by decide)
theorem p16 (x : Int) (w : World) (h0 : 0 ≤ x) (h1 : x < 65536) :
    Calls Try.prog 13 #[.slice none 0 0, .int .u16 x] w fun e w' => e = .returned (.slice (some ⟨w.heap.size, 0, none⟩) 2 2) ∧ w'.heap[w.heap.size]? = some (.cells (By (be 2 x)).toArray 5 (0, 0)) ∧ Below w.heap.size w w' := put16_any none 0 0 x [] w rfl (nil_seen w) (by decide) h0 h1
theorem p32 (x : Int) (w : World) (h0 : 0 ≤ x) (h1 : x < 4294967296) :
    Calls Try.prog 14 #[.slice none 0 0, .int .u32 x] w fun e w' => e = .returned (.slice (some ⟨w.heap.size, 0, none⟩) 4 4) ∧ w'.heap[w.heap.size]? = some (.cells (By (be 4 x)).toArray 5 (0, 0)) ∧ Below w.heap.size w w' := put32_any none 0 0 x [] w rfl (nil_seen w) (by decide) h0 h1
theorem p64 (x : Int) (w : World) (h0 : 0 ≤ x) (h1 : x < 18446744073709551616) :
    Calls Try.prog 15 #[.slice none 0 0, .int .u64 x] w fun e w' => e = .returned (.slice (some ⟨w.heap.size, 0, none⟩) 8 8) ∧ w'.heap[w.heap.size]? = some (.cells (By (be 8 x)).toArray 5 (0, 0)) ∧ Below w.heap.size w w' := put64_any none 0 0 x [] w rfl (nil_seen w) (by decide) h0 h1
theorem all_be (k g : Nat) (x : Int) (w : World) (hk : k ≤ 8) (h0 : 0 ≤ x) (h1 : x < 256 ^ k) (hg : w.heap[g]? = some (.cells (By (be k x)).toArray 5 (0, 0))) :
    Calls Try.prog 30 #[.slice (some ⟨g, 0, none⟩) k k] w fun e w' => e = .returned (.int .u64 (x % 255)) ∧ w = w' := by
  rw [← sum_be k x h0 h1]
  exact all_any g k k _ w (be_length _ _) hk hg (be_ok _ _)

theorem all8 (g : Nat) (x : Int) (w : World) (h0 : 0 ≤ x) (h1 : x < 18446744073709551616) (hg : w.heap[g]? = some (.cells (By (be 8 x)).toArray 5 (0, 0))) :
    Calls Try.prog 30 #[.slice (some ⟨g, 0, none⟩) 8 8] w fun e w' => e = .returned (.int .u64 (x % 255)) ∧ w = w' := all_be 8 g x w (by decide) h0 (by simpa using h1) hg
theorem all4 (g : Nat) (x : Int) (w : World) (h0 : 0 ≤ x) (h1 : x < 4294967296) (hg : w.heap[g]? = some (.cells (By (be 4 x)).toArray 5 (0, 0))) :
    Calls Try.prog 30 #[.slice (some ⟨g, 0, none⟩) 4 4] w fun e w' => e = .returned (.int .u64 (x % 255)) ∧ w = w' := all_be 4 g x w (by decide) h0 (by simpa using h1) hg
theorem all2 (g : Nat) (x : Int) (w : World) (h0 : 0 ≤ x) (h1 : x < 65536) (hg : w.heap[g]? = some (.cells (By (be 2 x)).toArray 5 (0, 0))) :
    Calls Try.prog 30 #[.slice (some ⟨g, 0, none⟩) 2 2] w fun e w' => e = .returned (.int .u64 (x % 255)) ∧ w = w' := all_be 2 g x w (by decide) h0 (by simpa using h1) hg

theorem walk (x : Int) (w : World) (h0 : 0 ≤ x) (h1 : x < 18446744073709551616) : Calls Try.prog 8 #[.int .u64 x] w fun e w' => e = .returned (.bool true) ∧ Below w.heap.size w w' := by
  have g0 : 0 ≤ x % 4294967296 := by omega
  have g1 : x % 4294967296 < 4294967296 := by omega
  have f0 : 0 ≤ IntKind.u16.wrap x := by show 0 ≤ x % 65536; omega
  have f1 : IntKind.u16.wrap x < 65536 := by show x % 65536 < 65536; omega
  go_enter Try.func8, Try.ntmps8
  go_wp2_with (first
    | (go_at_call 9; refine (wakes_any _).mono ?_; rintro e w1 ⟨rfl, hb1⟩)
    | (go_at_call 15; ((with_reducible refine (p64 x w1 h0 h1).mono ?_); rintro e w2 ⟨rfl, hg, hb2⟩; have HG2 := Lib.hid hg; clear hg))
    | (go_at_call 30; ((with_reducible refine (all8 _ x w2 h0 h1 HG2.out).mono ?_); rintro e w' ⟨rfl, rfl⟩))
    | (go_at_call 14; ((with_reducible refine (p32 _ w2 g0 g1).mono ?_); rintro e w3 ⟨rfl, hg, hb3⟩; have HG3 := Lib.hid hg; clear hg))
    | (go_at_call 30; ((with_reducible refine (all4 _ _ w3 g0 g1 HG3.out).mono ?_); rintro e w' ⟨rfl, rfl⟩))
    | (go_at_call 13; ((with_reducible refine (p16 _ w3 f0 f1).mono ?_); rintro e w4 ⟨rfl, hg, hb4⟩; have HG4 := Lib.hid hg; clear hg))
    | (go_at_call 30; ((with_reducible refine (all2 _ _ w4 f0 f1 HG4.out).mono ?_); rintro e w' ⟨rfl, rfl⟩))
    | (go_at_call 15; ((with_reducible refine (p64 x w4 h0 h1).mono ?_); rintro e w5 ⟨rfl, hg, hb5⟩; clear hg)))
  go_ret
  have z1 := hb1.size
  have z2 := hb2.size
  have z3 := hb3.size
  have z4 := hb4.size
  exact ⟨rfl, (((hb1.trans (hb2.mono z1)).trans (hb3.mono (by omega))).trans (hb4.mono (by omega))).trans (hb5.mono (by omega))⟩

theorem own : ownKnob Try.prog.godebug = none := by kernel_rfl

set_option maxRecDepth 100000 in
theorem lifted (os : Os) (started : os.Started) (H : Type) (enc : TypeId × Value → H) :
    ReturnsInHanded {} Try.checked os 8 .any (Rows.octetCastsSpec.pre6 enc Try.prog Try.f8 Rows.octetCastsRow.domain false) (Rows.octetCastsSpec.post enc Try.prog Try.f8 false true false false) := by
  refine returnsInHanded_of_change (C := Try.checked) own started (by kernel_rfl) Try.func8
    (ChangeSpec.witness6 (enc := enc) (C := Try.checked) false ⟨#[], #[.int .u64 0], []⟩ 8 (by kernel_rfl) (by kernel_rfl) (by kernel_rfl) (by kernel_rfl)) ?_
  intro W base args ds gs before hval0 hW hcnd _
  have hval : ∀ (j : Nat) t v, Try.f8.params[j]? = some t → args[j]? = some v → Value.okWide Try.prog W .any base t v := hval0
  have hW' := hW
  obtain ⟨p, q, hA0, hV, rfl, hfz, hnd⟩ := hW
  have hA : DataW.TrodAll enc Try.prog W 0 (fun _ => true) true Try.f8.params.toList args.toList ds p := hA0
  rw [Try.params8] at hA hval
  obtain ⟨v0, vs0, d0, ds0, p0, q0, hargs, rfl, rfl, h0, r0⟩ := trodAll_cons hA
  obtain ⟨rfl, rfl, rfl⟩ := trodAll_nil r0
  obtain rfl : args = #[v0] := by cases args; simp_all
  obtain ⟨rfl, rfl⟩ := trodVars_none hV
  obtain ⟨a0, rfl, rfl, rfl, w0⟩ := open_int Try.underlying23 (hval 0 23 v0 rfl rfl) h0
  clear hA0 hval0
  simp only [List.append_nil] at hW'
  refine (walk a0 W (bounds_u64 w0).1 (by have := (bounds_u64 w0).2; omega)).mono fun e W' ⟨he, bel⟩ => ?_
  subst he
  exact ⟨_, rfl, _, _, _, [], [], [], hW', trodAll_mk1 (shut_bool Try.underlying4 _), (trodAll_cons_mk (shut_int Try.underlying23 w0) trodAll_mk0), rfl, bel.frame _, fun h => by cases h⟩

theorem over : Rows.octetCastsRow.holds Try.pinned (OpenSpec.ofChange Rows.octetCastsSpec) :=
  OpenClaim.holds_of_wide 8 Try.f8 rfl rfl rfl rfl rfl rfl rfl ⟨rfl, rfl, rfl, rfl, rfl⟩ rfl rfl rfl rfl rfl (by kernel_rfl) Try.func8 (by kernel_rfl)
    (of_decide_eq_true (by kernel_rfl)) (by unfold Func.isWrapper; first | (rw [if_pos (by decide +kernel)]; kernel_rfl) | (rw [if_neg (by decide +kernel)]; exact ⟨rfl, rfl⟩))
    (fun os started H enc _ => lifted os started H enc)

end Go.Proofs.Ytngnhieddblnmaa.octetCasts
namespace Go.Proofs.Ytngnhieddblnmaa
theorem octetCasts_holds : Rows.OctetCastsSaid := octetCasts.over
#print axioms octetCasts_holds
end Go.Proofs.Ytngnhieddblnmaa
