/-
  The walks of layer 21's functions (lease), at the seat's numbers: the closures that change a lease.
-/
import Derived.Test.YtgmmmbicnjjalaaOne
import Derived.Deep.RegionWith
import Derived.RegionTactic
import Derived.ChangeAlike
namespace Go.Proofs.Ytgmmmbicnjjalaa
open Go.ChangeShapes Go.WideShapes Go.ChangeAt Go.RowKit

/-- But for the block R all that was there is as it was. -/
structure Only (R : Nat) (w w' : World) : Prop where
  os : w'.os = w.os
  tape : w'.tape = w.tape
  output : w'.output = w.output
  size : w.heap.size ≤ w'.heap.size
  block : ∀ k, k < w.heap.size → k ≠ R → w'.heap[k]? = w.heap[k]?

theorem Only.below {R B : Nat} {w w' : World} (h : Only R w w') (hR : B ≤ R) (hB : B ≤ w.heap.size) : Below B w w' :=
  ⟨h.os, h.tape, h.output, h.size, fun k hk => h.block k (by omega) (by omega)⟩
theorem Only.of_below {R : Nat} {w w' : World} (h : Below w.heap.size w w') : Only R w w' := ⟨h.os, h.tape, h.output, h.size, fun k hk _ => h.block k hk⟩

def L3 (e h u : Int) : Obj := .cells #[.int .u64 e, .int .i64 h, .int .i64 u] 24 (0, 0)
theorem l3_cell {w : World} {b : Nat} {e h u : Int} (hl : w.heap[b]? = some (L3 e h u)) : w.cell? ⟨b, 0, none⟩ = some (.int .u64 e) ∧ w.cell? ⟨b, 1, none⟩ = some (.int .i64 h) ∧ w.cell? ⟨b, 2, none⟩ = some (.int .i64 u) := by
  simp [World.cell?, hl, L3]
theorem l3_free {w : World} {b : Nat} {e h u : Int} (hl : w.heap[b]? = some (L3 e h u)) : w.frozen? ⟨b, 0, none⟩ = false ∧ w.frozen? ⟨b, 1, none⟩ = false ∧ w.frozen? ⟨b, 2, none⟩ = false := by
  simp [World.frozen?, hl, L3]
theorem l3_lt {w : World} {b : Nat} {o : Obj} (h : w.heap[b]? = some o) : b < w.heap.size := lt_of_block h

theorem below_drew {w w1 : World} (h : Below w.drew.heap.size w.drew w1) : Below w.heap.size w w1 := ⟨h.os, h.tape, h.output, h.size, h.block⟩
theorem frozen_later {w wx : World} {b o : Nat} (hb : Below w.heap.size w wx) (hlt : b < w.heap.size) (h : w.frozen? ⟨b, o, none⟩ = false) : wx.frozen? ⟨b, o, none⟩ = false := (hb.frozen (p := ⟨b, o, none⟩) hlt).trans h

theorem block_setCell {w : World} {b : Nat} {cs : Array Value} {t : TypeId} (h : w.heap[b]? = some (.cells cs t (0, 0))) (o : Nat) (u : Value) : (w.setCell ⟨b, o, none⟩ u).heap[b]? = some (.cells (cs.setIfInBounds o u) t (0, 0)) := by
  have hlt := lt_of_block h
  have h' : w.heap[b] = .cells cs t (0, 0) := by simpa [Array.getElem?_eq_getElem hlt] using h
  show (w.heap.modify b _)[b]? = _
  rw [Array.getElem?_eq_getElem (by simpa using hlt), Array.getElem_modify_self, h']
  rfl
theorem l3_set0 {w : World} {b : Nat} {e h u : Int} (hl : w.heap[b]? = some (L3 e h u)) (x : Int) : (w.setCell ⟨b, 0, none⟩ (.int .u64 x)).heap[b]? = some (L3 x h u) :=
  block_setCell hl _ _
theorem l3_set1 {w : World} {b : Nat} {e h u : Int} (hl : w.heap[b]? = some (L3 e h u)) (x : Int) : (w.setCell ⟨b, 1, none⟩ (.int .i64 x)).heap[b]? = some (L3 e x u) :=
  block_setCell hl _ _
theorem l3_set2 {w : World} {b : Nat} {e h u : Int} (hl : w.heap[b]? = some (L3 e h u)) (x : Int) : (w.setCell ⟨b, 2, none⟩ (.int .i64 x)).heap[b]? = some (L3 e h x) :=
  block_setCell hl _ _
theorem Only.setCell {R : Nat} {w w' : World} (h : Only R w w') (o : Nat) (v : Value) : Only R w (w'.setCell ⟨R, o, none⟩ v) :=
  ⟨h.os, h.tape, h.output, by have := h.size; simp; omega, fun k hk hR => (Below.heap_setCell _ _ _ _ (by simpa using hR)).trans (h.block k hk hR)⟩
theorem Only.drew {R : Nat} {w w' : World} (h : Only R w w') : Only R w w'.drew := ⟨h.os, h.tape, h.output, h.size, h.block⟩

theorem acq1_held (bl bn bw bs : Nat) (e h u now : Int) (w : World) (hl : w.heap[bl]? = some (L3 e h u)) (hn : w.cell? ⟨bn, 0, none⟩ = some (.int .i64 now))
    (hh : heldB e u now = true) :
    Calls Try.prog 20 #[.pointer (some ⟨bl, 0, none⟩), .pointer (some ⟨bn, 0, none⟩), .pointer (some ⟨bw, 0, none⟩), .pointer (some ⟨bs, 0, none⟩)] w fun e' w' => e' = .returned (.int .i64 311) ∧ Below w.heap.size w w' := by
  obtain ⟨c0, c1, c2⟩ := l3_cell hl
  have HL := Lib.hid hl; clear hl
  go_enter Try.func20, Try.ntmps20
  go_wp2
  go_region_with (go_at_call 21; refine (held_any _ _ _ _ _).mono ?_; rintro e1 w1 ⟨rfl, hb1⟩)
  all_goals
    go_wp2
    go_ret
    exact ⟨rfl, below_drew hb1⟩

theorem acq1_full (bl bn bw bs : Nat) (e h u now : Int) (w : World) (hl : w.heap[bl]? = some (L3 e h u)) (hn : w.cell? ⟨bn, 0, none⟩ = some (.int .i64 now))
    (hh : heldB e u now = false) (he : e = 2147483647) :
    Calls Try.prog 20 #[.pointer (some ⟨bl, 0, none⟩), .pointer (some ⟨bn, 0, none⟩), .pointer (some ⟨bw, 0, none⟩), .pointer (some ⟨bs, 0, none⟩)] w fun e' w' => e' = .returned (.int .i64 6) ∧ Below w.heap.size w w' := by
  obtain ⟨c0, c1, c2⟩ := l3_cell hl
  have HL := Lib.hid hl; clear hl
  subst he
  go_enter Try.func20, Try.ntmps20
  go_wp2
  go_region_with (go_at_call 21; refine (held_any _ _ _ _ _).mono ?_; rintro e1 w1 ⟨rfl, hb1⟩; have d0 := cell_later (below_drew hb1) c0)
  all_goals
    go_wp2
    go_ret
    exact ⟨rfl, below_drew hb1⟩

theorem acq1_ok (bl bn bw bs : Nat) (e h u now who span : Int) (w : World) (hl : w.heap[bl]? = some (L3 e h u)) (hn : w.cell? ⟨bn, 0, none⟩ = some (.int .i64 now))
    (hw : w.cell? ⟨bw, 0, none⟩ = some (.int .i64 who)) (hs : w.cell? ⟨bs, 0, none⟩ = some (.int .i64 span))
    (hh : heldB e u now = false) (he : (e == 2147483647) = false) (p1 : 0 ≤ e) (p2 : e ≤ 2147483647) (p3 : 0 ≤ now) (p4 : now ≤ 1099511627676) (p5 : 1 ≤ span) (p6 : span ≤ 100) :
    Calls Try.prog 20 #[.pointer (some ⟨bl, 0, none⟩), .pointer (some ⟨bn, 0, none⟩), .pointer (some ⟨bw, 0, none⟩), .pointer (some ⟨bs, 0, none⟩)] w fun e' w' => e' = .returned (.int .i64 0) ∧ Only bl w w' ∧ w'.heap[bl]? = some (L3 (e + 1) who (now + span)) := by
  obtain ⟨c0, c1, c2⟩ := l3_cell hl
  obtain ⟨f0, f1, f2⟩ := l3_free hl
  have hlt := l3_lt hl
  have HL := Lib.hid hl; clear hl
  go_enter Try.func20, Try.ntmps20
  go_wp2
  go_region_with (go_at_call 21; refine (held_any _ _ _ _ _).mono ?_; rintro e1 w1 ⟨rfl, hb1⟩; have hb2 := below_drew hb1; have d0 := cell_later hb2 c0; have d1 := cell_later hb2 c1; have d2 := cell_later hb2 c2; have g0 := frozen_later hb2 hlt f0; have g1 := frozen_later hb2 hlt f1; have g2 := frozen_later hb2 hlt f2; have dn := cell_later hb2 hn; have dw := cell_later hb2 hw; have ds := cell_later hb2 hs)
  all_goals go_wp2
  all_goals go_region
  all_goals
    go_wp2
    go_ret
    have HL1 := (hb2.block bl hlt).trans HL.out
    exact ⟨rfl, ((((Only.of_below hb2).setCell _ _).setCell _ _).setCell _ _).drew, l3_set2 (l3_set1 (l3_set0 HL1 _) _) _⟩

theorem refuses_any (e h u who ep now : Int) (w : World) (h0 : ep = e → who = h → 0 < e) :
    Calls Try.prog 25 #[.agg #[.int .u64 e, .int .i64 h, .int .i64 u], .int .i64 who, .int .u64 ep, .int .i64 now] w fun e' w' => e' = .returned (.int .i64 (refI e h u who ep now)) ∧ Below w.heap.size w w' := by
  by_cases h1 : ep = e ∧ who = h
  · obtain ⟨rfl, rfl⟩ := h1
    have hp := h0 rfl rfl
    clear h0
    by_cases h3 : now < u
    · have hh : heldB ep u now = true := held_true.2 ⟨hp, h3⟩
      rw [ref_zero rfl rfl h3]
      go_enter Try.func25, Try.ntmps25
      go_wp2_with (go_at_call 21; refine (held_any _ _ _ _ _).mono ?_; rintro e1 w1 ⟨rfl, hb1⟩)
      go_ret
      exact ⟨rfl, ((Below.refl _ _).alloc (Nat.le_refl _) _).trans (hb1.mono (by simp))⟩
    · have hh : heldB ep u now = false := (held_false hp).2 h3
      rw [ref_late rfl rfl h3]
      go_enter Try.func25, Try.ntmps25
      go_wp2_with (go_at_call 21; refine (held_any _ _ _ _ _).mono ?_; rintro e1 w1 ⟨rfl, hb1⟩)
      go_ret
      exact ⟨rfl, ((Below.refl _ _).alloc (Nat.le_refl _) _).trans (hb1.mono (by simp))⟩
  · rw [ref_stale h1]
    clear h0
    by_cases h2 : ep = e
    · have h3 : (who == h) = false := by simp at h1 ⊢; exact h1 h2
      clear h1
      subst h2
      go_enter Try.func25, Try.ntmps25
      go_wp2_with fail
      go_ret
      exact ⟨rfl, (Below.refl _ _).alloc (Nat.le_refl _) _⟩
    · have h3 : (ep == e) = false := by simpa using h2
      clear h1
      go_enter Try.func25, Try.ntmps25
      go_wp2_with fail
      go_ret
      exact ⟨rfl, (Below.refl _ _).alloc (Nat.le_refl _) _⟩

end Go.Proofs.Ytgmmmbicnjjalaa
