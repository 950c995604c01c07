/-
  Proved: 'SumOpened' (P3.2, P3.3) returns true for all bytes, place and byte, and leaves them as they were. Conditions: none but those of the given row.
-/
import Derived.Test.YtfidmbccboggoaaShut
import Derived.Test.YtfidmbccboggoaaOctBytes
import Derived.Test.YtfidmbccboggoaaTurned
namespace Go.Proofs.Ytfidmbccboggoaa.sumOpened
open Go.ChangeShapes Go.WideShapes Go.ChangeAt Go.RowKit
open Go.Proofs.Ytfidmbccboggoaa.sumJoins (InB ret_bool Came came_in)
open Go.Proofs.Ytfidmbccboggoaa.sumTurned (place)
set_option linter.unusedVariables false

def RowN (B n : Nat) (xs : List Int) (f : Ending) (w' : World) : Prop := ∃ g, f = .returned (.slice (some ⟨g, 0, none⟩) n n) ∧ B ≤ g ∧ w'.heap[g]? = some (.cells (By xs).toArray 5 (0, 0))
def OpenN (B n : Nat) (xs : List Int) (f : Ending) (w' : World) : Prop := ∃ g, f = .returned (.tuple #[.slice (some ⟨g, 0, none⟩) n n, .int .i64 0]) ∧ B ≤ g ∧ w'.heap[g]? = some (.cells (By xs).toArray 5 (0, 0))

theorem seal_n (a : Option Addr) (n c : Nat) (xs ys : List Int) (w : World) (h : InB w a n c xs) (hm : n ≤ 5000) (hy : ys = xs ++ be 4 (adl xs)) :
    Calls Try.prog 14 #[.slice a n c] w fun e w' => RowN w.heap.size (n + 4) ys e w' ∧ Below w.heap.size w w' := by
  refine (seal_any a n c xs w h.len h.seen (by omega) h.ok).mono ?_
  rintro e w' ⟨⟨g, rfl, h1, h2⟩, hb⟩
  refine ⟨⟨g, ?_, h1, by rw [hy]; exact h2⟩, hb⟩
  rw [List.length_append, be_length, h.len]
theorem open_n (g n : Nat) (xs ys : List Int) (w : World) (hx : xs.length = n) (hb : bytesOk xs) (hm : n ≤ 5000) (hy : ys = xs ++ be 4 (adl xs)) (hg : w.heap[g]? = some (.cells (By ys).toArray 5 (0, 0))) :
    Calls Try.prog 15 #[.slice (some ⟨g, 0, none⟩) (n + 4) (n + 4)] w fun e w' => OpenN w.heap.size n xs e w' ∧ Below w.heap.size w w' := by
  have hn : num (be 4 (adl xs)) = adl xs := num_be 4 _ (adl_bd xs).1 (by simpa using (adl_bd xs).2)
  subst hy
  have ht : (xs ++ be 4 (adl xs)).take n = xs := by rw [← hx, List.take_left]
  have hd : (xs ++ be 4 (adl xs)).drop n = be 4 (adl xs) := by rw [← hx, List.drop_left]
  refine (open_ok (some ⟨g, 0, none⟩) n (n + 4) _ w (by rw [List.length_append, be_length, hx]) (Seen.row hg) (by omega) (bytesOk_append hb (be_ok _ _)) (Nat.le_refl _) (by rw [ht, hd, hn])).mono ?_
  rintro e w' ⟨⟨g', rfl, h1, h2⟩, hb'⟩
  rw [ht] at h2
  refine ⟨⟨g', ?_, h1, h2⟩, hb'⟩
  rw [ht, hx]
theorem open_turned (g n k : Nat) (v : Int) (xs ys : List Int) (w : World) (hx : xs.length = n) (hb : bytesOk xs) (hm : n ≤ 5000) (hy : ys = xs ++ be 4 (adl xs)) (hg : w.heap[g]? = some (.cells (By (ys.set k v)).toArray 5 (0, 0)))
    (hk : k < n + 4) (v0 : 0 ≤ v) (v1 : v ≤ 255) (hv : v ≠ ys[k]?.getD 0) :
    Calls Try.prog 15 #[.slice (some ⟨g, 0, none⟩) (n + 4) (n + 4)] w fun e w' => e = .returned (.tuple #[.slice none 0 0, .int .i64 130]) ∧ Below w.heap.size w w' := by
  subst hy
  have h := turned_seal xs k v hb (by omega) v0 v1 hv
  rw [hx] at h
  exact open_bad (some ⟨g, 0, none⟩) n (n + 4) _ w (by rw [List.length_set, List.length_append, be_length, hx]) (Seen.row hg) (by omega) (bytesOk_set (bytesOk_append hb (be_ok _ _)) _ _ v0 v1) (Nat.le_refl _) (by simpa using h)

theorem long (a : Option Addr) (n c : Nat) (at' by' : Int) (w : World) (h : 5000 < n) :
    Calls Try.prog 7 #[.slice a n c, .int .i64 at', .int .u8 by'] w fun e w' => e = .returned (.bool true) ∧ Below w.heap.size w w' := by
  go_enter Try.func7, Try.ntmps7
  go_wp2_with (go_at_call 8; refine (wakes_any _).mono ?_; rintro e w1 ⟨rfl, hb1⟩)
  go_ret
  exact ⟨rfl, hb1⟩

theorem main (a : Option Addr) (n c : Nat) (xs : List Int) (at' by' : Int) (w : World) (hx : InB w a n c xs) (h1 : n ≤ 5000) (b0 : 0 ≤ by') (b1 : by' ≤ 255) :
    Calls Try.prog 7 #[.slice a n c, .int .i64 at', .int .u8 by'] w fun e w' => e = .returned (.bool true) ∧ Below w.heap.size w w' := by
  have HX := Lib.hid hx; clear hx
  obtain ⟨ys, hys⟩ : ∃ ys, ys = xs ++ be 4 (adl xs) := ⟨_, rfl⟩
  have HYl : Hid (ys.length = n + 4) := Lib.hid (by rw [hys, List.length_append, be_length, HX.out.len])
  have HYo : Hid (bytesOk ys) := Lib.hid (by rw [hys]; exact bytesOk_append HX.out.ok (be_ok _ _))
  obtain ⟨k, hkq, hkn⟩ := place at' (n + 4) (by omega)
  rw [show ((n + 4 : Nat) : Int) = (n : Int) + 4 by omega] at hkq
  have HK := Lib.hid (HYo.out k (by rw [HYl.out]; exact hkn))
  have HXor := Lib.hid (xor_bd (ys[k]?.getD 0) by' HK.out.1 HK.out.2 b0 b1)
  have HY := Lib.hid hys; clear hys
  have HS : Hid (same xs xs = true) := Lib.hid (by simp [same])
  by_cases hz : by' = 0
  · have hz' : (by' == 0) = true := by simpa using hz
    clear hz
    go_enter Try.func7, Try.ntmps7
    go_wp2_with (first
      | (go_at_call 8; refine (wakes_any _).mono ?_; rintro e w1 ⟨rfl, hb1⟩)
      | (go_at_call 14; ((with_reducible refine (seal_n a n c xs ys w1 (HX.out.later hb1) h1 HY.out).mono ?_); rintro e w2 ⟨⟨g, rfl, hg0, hg⟩, hb2⟩; have HG := Lib.hid hg; clear hg))
      | (go_at_call 15; ((with_reducible refine (open_n g n xs ys w2 HX.out.len HX.out.ok h1 HY.out HG.out).mono ?_); rintro e w3 ⟨⟨g3, rfl, hg30, hg3⟩, hb3⟩; have HG3 := Lib.hid hg3; clear hg3))
      | (go_at_call 19; ((with_reducible refine (bytesEqual_any (some ⟨g3, 0, none⟩) a n n n c xs xs w3 HX.out.len HX.out.len (Seen.row HG3.out) (((HX.out.seen.later hb1).later hb2).later hb3) HX.out.ok HX.out.ok (fun h => by cases h) (fun h => (HX.out.nil h).1)).mono ?_); rw [HS.out]; rintro e w' ⟨rfl, rfl⟩)))
    go_ret
    exact ⟨rfl, (hb1.trans (hb2.mono hb1.size)).trans (hb3.mono (Nat.le_trans hb1.size hb2.size))⟩
  · have hz' : (by' == 0) = false := by simpa using hz
    have HV : Hid (bits .xor .u8 (ys[k]?.getD 0) by' ≠ ys[k]?.getD 0) := Lib.hid (fun h => hz (HXor.out.2.2.1 h))
    clear hz
    go_enter Try.func7, Try.ntmps7
    go_wp2_with (first
      | (go_at_call 8; refine (wakes_any _).mono ?_; rintro e w1 ⟨rfl, hb1⟩)
      | (go_at_call 14; ((with_reducible refine (seal_n a n c xs ys w1 (HX.out.later hb1) h1 HY.out).mono ?_); rintro e w2 ⟨⟨g, rfl, hg0, hg⟩, hb2⟩; have HG := Lib.hid hg; clear hg))
      | (go_at_call 15; ((with_reducible refine (open_n g n xs ys w2 HX.out.len HX.out.ok h1 HY.out HG.out).mono ?_); rintro e w3 ⟨⟨g3, rfl, hg30, hg3⟩, hb3⟩; have HG3 := Lib.hid hg3; clear hg3))
      | (go_at_call 19; ((with_reducible refine (bytesEqual_any (some ⟨g3, 0, none⟩) a n n n c xs xs w3 HX.out.len HX.out.len (Seen.row HG3.out) (((HX.out.seen.later hb1).later hb2).later hb3) HX.out.ok HX.out.ok (fun h => by cases h) (fun h => (HX.out.nil h).1)).mono ?_); rw [HS.out]; rintro e w' ⟨rfl, rfl⟩; have HG4 := Lib.hid ((hb3.block g (lt_of_block HG.out)).trans HG.out); have hck := row_cell HG4.out k (by rw [HYl.out]; exact hkn); have hfk := row_free HG4.out k))
      | (go_at_call 15; ((with_reducible refine (open_turned g n k _ xs ys _ HX.out.len HX.out.ok h1 HY.out (row_set HG4.out k _) hkn HXor.out.1 HXor.out.2.1 HV.out).mono ?_); rintro e w5 ⟨rfl, hb5⟩)))
    go_ret
    have z1 := hb1.size
    have z2 := hb2.size
    have z3 := hb3.size
    have y3 : Below w.heap.size w w3 := (hb1.trans (hb2.mono z1)).trans (hb3.mono (by omega))
    exact ⟨rfl, (y3.setCell (p := ⟨g, k, none⟩) (by show w.heap.size ≤ g; omega) _).trans (hb5.mono (by simp; omega))⟩

theorem own : ownKnob Try.prog.godebug = none := by kernel_rfl
theorem laidOut : laidOutB Try.prog = true := by kernel_rfl

/-! ### STEP 1: THE WALK: the Go text returns true, AND WRITES NOTHING THAT WAS THERE: 'Below w.heap.size w w'' (Derived/Below.lean: '.refl', '.alloc', '.drew', '.setCell' at a new block, '.trans'). Open each 'IsRow' by 'rcases' AHEAD of 'go_enter'; part every test ahead of the walk. -/
theorem walk (a0 : Option Addr) (len0 cap0 : Nat) (z0 : List Int) (a1 : Int) (a2 : Int) (w : World) (w0 : Came .u8 w a0 len0 cap0 z0) (w1 : (Lit.int .i64 a1).wf = true) (w2 : (Lit.int .u8 a2).wf = true) :
    Calls Try.prog 7 #[.slice a0 len0 cap0, .int .i64 a1, .int .u8 a2] w fun e w' => e = .returned (.bool true) ∧ Below w.heap.size w w' := by
  have hx := came_in w0
  by_cases h1 : len0 ≤ 5000
  · have hb := bounds_u8 w2
    exact main a0 len0 cap0 _ a1 a2 w hx h1 hb.1 hb.2
  · exact long a0 len0 cap0 a1 a2 w (by omega)

/-! ### THE ROW's STEP: WRITTEN OUT: LEAVE IT -/
set_option maxRecDepth 100000 in
theorem lifted (os : Os) (started : os.Started) (H : Type) (enc : TypeId × Value → H) :
    ReturnsInHanded {} Try.checked os 7 .any (Rows.sumOpenedSpec.pre6 enc Try.prog Try.f7 Rows.sumOpenedRow.domain false) (Rows.sumOpenedSpec.post enc Try.prog Try.f7 false true false false) := by
  refine returnsInHanded_of_change (C := Try.checked) own started (by kernel_rfl) Try.func7
    (ChangeSpec.witness6 (enc := enc) (C := Try.checked) false ⟨#[], #[.slice none 0 0, .int .i64 0, .int .u8 0], []⟩ 8 (by kernel_rfl) (by kernel_rfl) (by kernel_rfl) (by kernel_rfl)) ?_
  intro W base args ds gs before hval0 hW hcnd _
  have hval : ∀ (j : Nat) t v, Try.f7.params[j]? = some t → args[j]? = some v → Value.okWide Try.prog W .any base t v := hval0
  have hW' := hW
  obtain ⟨p, q, hA0, hV, rfl, hfz, hnd⟩ := hW
  have hA : DataW.TrodAll enc Try.prog W 0 (fun _ => true) true Try.f7.params.toList args.toList ds p := hA0
  rw [Try.params7] at hA hval
  obtain ⟨v0, vs0, d0, ds0, p0, q0, hargs, rfl, rfl, h0, r0⟩ := trodAll_cons hA
  obtain ⟨v1, vs1, d1, ds1, p1, q1, rfl, rfl, rfl, h1, r1⟩ := trodAll_cons r0
  obtain ⟨v2, vs2, d2, ds2, p2, q2, rfl, rfl, rfl, h2, r2⟩ := trodAll_cons r1
  obtain ⟨rfl, rfl, rfl⟩ := trodAll_nil r2
  obtain rfl : args = #[v0, v1, v2] := by cases args; simp_all
  obtain ⟨rfl, rfl⟩ := trodVars_none hV
  obtain ⟨a0, len0, cap0, rfl⟩ := okWide_slice Try.underlying22 (hval 0 22 v0 rfl rfl)
  have k0 := h0
  have lt0 : ∀ x ∈ p0, x.block < W.heap.size := by obtain ⟨m, hm⟩ := k0; exact DataW.trod_lt m _ _ _ hm
  obtain ⟨z0, w0⟩ : ∃ zs, Came .u8 W a0 len0 cap0 zs := by
    obtain ⟨fuel, hf⟩ := h0
    rcases open_ints Try.underlying22 Try.underlying5 (by kernel_rfl) hf with ⟨hcs, _⟩ | ⟨x, l, c, zs, hcs, _, hl, hm, hz, _, hcell, hwz⟩
    · simp [Value.cells] at hcs
      obtain ⟨rfl, rfl, rfl⟩ := hcs
      exact ⟨[], .inl ⟨rfl, rfl, rfl, rfl⟩⟩
    · simp [Value.cells] at hcs
      obtain ⟨rfl, rfl, rfl⟩ := hcs
      exact ⟨zs, .inr ⟨_, rfl, hl, hm, by simpa using hz, hcell, hwz⟩⟩
  obtain ⟨a1, rfl, rfl, rfl, w1⟩ := open_int Try.underlying3 (hval 1 3 v1 rfl rfl) h1
  obtain ⟨a2, rfl, rfl, rfl, w2⟩ := open_int Try.underlying5 (hval 2 5 v2 rfl rfl) h2
  clear hA0 hval0
  refine (walk a0 len0 cap0 z0 a1 a2 W w0 w1 w2).mono fun e W' ⟨he, bel⟩ => ?_
  subst he
  exact ⟨_, rfl, _, _, _, [], _, [], hW', trodAll_mk1 (shut_bool Try.underlying4 _), (trodAll_cons_mk (Below.trod laidOut (by kernel_rfl) (of_decide_eq_true (by kernel_rfl)) k0 bel lt0) (trodAll_cons_mk (shut_int Try.underlying3 w1) (trodAll_cons_mk (shut_int Try.underlying5 w2) trodAll_mk0))), rfl, bel.frame _, fun h => by cases h⟩

theorem over : Rows.sumOpenedRow.holds Try.pinned (OpenSpec.ofChange Rows.sumOpenedSpec) :=
  OpenClaim.holds_of_wide 7 Try.f7 rfl rfl rfl rfl rfl rfl rfl ⟨rfl, rfl, rfl, rfl, rfl⟩ rfl rfl rfl rfl rfl (by kernel_rfl) Try.func7 (by kernel_rfl)
    (of_decide_eq_true (by kernel_rfl)) (by unfold Func.isWrapper; first | (rw [if_pos (by decide +kernel)]; kernel_rfl) | (rw [if_neg (by decide +kernel)]; exact ⟨rfl, rfl⟩))
    (fun os started H enc _ => lifted os started H enc)

end Go.Proofs.Ytfidmbccboggoaa.sumOpened
namespace Go.Proofs.Ytfidmbccboggoaa
theorem sumOpened_holds : Rows.SumOpenedSaid := sumOpened.over
#print axioms sumOpened_holds
end Go.Proofs.Ytfidmbccboggoaa
