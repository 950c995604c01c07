/-
  The walks of layer 21's functions (lease), at the seat's numbers: the closures that go on with a lease, or give it up.
-/
import Derived.Test.YtgmmmbicnjjalaaTwo
import Derived.StillTailTactics
namespace Go.Proofs.Ytgmmmbicnjjalaa
open Go.ChangeShapes Go.WideShapes Go.ChangeAt Go.RowKit

theorem ren1_no (bl bw be bn bs : Nat) (e h u who ep now : Int) (w : World) (hl : w.heap[bl]? = some (L3 e h u)) (hw : w.cell? ⟨bw, 0, none⟩ = some (.int .i64 who)) (hp : w.cell? ⟨be, 0, none⟩ = some (.int .u64 ep))
    (hn : w.cell? ⟨bn, 0, none⟩ = some (.int .i64 now)) (h0 : ep = e → who = h → 0 < e) (hr : ¬ refI e h u who ep now = 0) :
    Calls Try.prog 24 #[.pointer (some ⟨bl, 0, none⟩), .pointer (some ⟨bw, 0, none⟩), .pointer (some ⟨be, 0, none⟩), .pointer (some ⟨bn, 0, none⟩), .pointer (some ⟨bs, 0, none⟩)] w fun e' w' => e' = .returned (.int .i64 (refI e h u who ep now)) ∧ Below w.heap.size w w' := by
  obtain ⟨c0, c1, c2⟩ := l3_cell hl
  have HL := Lib.hid hl; clear hl
  have H0 := Lib.hid h0; clear h0
  have hr' : (refI e h u who ep now != 0) = true := by simpa using hr
  clear hr
  go_enter Try.func24, Try.ntmps24
  go_wp2
  go_still_tail 6, (by kernel_rfl)
  go_wp2_with (go_at_call 25; refine (refuses_any _ _ _ _ _ _ _ H0.out).mono ?_; rintro e1 w1 ⟨rfl, hb1⟩)
  go_ret
  exact ⟨rfl, below_drew hb1⟩

theorem yie1_no (bl bw be bn : Nat) (e h u who ep now : Int) (w : World) (hl : w.heap[bl]? = some (L3 e h u)) (hw : w.cell? ⟨bw, 0, none⟩ = some (.int .i64 who)) (hp : w.cell? ⟨be, 0, none⟩ = some (.int .u64 ep))
    (hn : w.cell? ⟨bn, 0, none⟩ = some (.int .i64 now)) (h0 : ep = e → who = h → 0 < e) (hr : ¬ refI e h u who ep now = 0) :
    Calls Try.prog 26 #[.pointer (some ⟨bl, 0, none⟩), .pointer (some ⟨bw, 0, none⟩), .pointer (some ⟨be, 0, none⟩), .pointer (some ⟨bn, 0, none⟩)] w fun e' w' => e' = .returned (.int .i64 (refI e h u who ep now)) ∧ Below w.heap.size w w' := by
  obtain ⟨c0, c1, c2⟩ := l3_cell hl
  have HL := Lib.hid hl; clear hl
  have H0 := Lib.hid h0; clear h0
  have hr' : (refI e h u who ep now != 0) = true := by simpa using hr
  clear hr
  go_enter Try.func26, Try.ntmps26
  go_wp2
  go_still_tail 6, (by kernel_rfl)
  go_wp2_with (go_at_call 25; refine (refuses_any _ _ _ _ _ _ _ H0.out).mono ?_; rintro e1 w1 ⟨rfl, hb1⟩)
  go_ret
  exact ⟨rfl, below_drew hb1⟩

theorem ren1_ok (bl bw be bn bs : Nat) (e h u who ep now span : Int) (w : World) (hl : w.heap[bl]? = some (L3 e h u)) (hw : w.cell? ⟨bw, 0, none⟩ = some (.int .i64 who)) (hp : w.cell? ⟨be, 0, none⟩ = some (.int .u64 ep))
    (hn : w.cell? ⟨bn, 0, none⟩ = some (.int .i64 now)) (hs : w.cell? ⟨bs, 0, none⟩ = some (.int .i64 span)) (h0 : ep = e → who = h → 0 < e) (hr : refI e h u who ep now = 0)
    (p3 : 0 ≤ now) (p4 : now ≤ 1099511627676) (p5 : 1 ≤ span) (p6 : span ≤ 100) :
    Calls Try.prog 24 #[.pointer (some ⟨bl, 0, none⟩), .pointer (some ⟨bw, 0, none⟩), .pointer (some ⟨be, 0, none⟩), .pointer (some ⟨bn, 0, none⟩), .pointer (some ⟨bs, 0, none⟩)] w fun e' w' => e' = .returned (.int .i64 0) ∧ Only bl w w' ∧ w'.heap[bl]? = some (L3 e h (if u < now + span then now + span else u)) := by
  obtain ⟨c0, c1, c2⟩ := l3_cell hl
  obtain ⟨f0, f1, f2⟩ := l3_free hl
  have hlt := l3_lt hl
  have HL := Lib.hid hl; clear hl
  have H0 := Lib.hid h0; clear h0
  have HR := Lib.hid hr; clear hr
  by_cases hu : u < now + span
  all_goals
    go_enter Try.func24, Try.ntmps24
    go_wp2
    go_still_tail 6, (by kernel_rfl)
    go_wp2_with (go_at_call 25; refine (refuses_any _ _ _ _ _ _ _ H0.out).mono ?_; rintro e1 w1 ⟨rfl, hb1⟩; rw [HR.out]; have hb2 := below_drew hb1; have d0 := cell_later hb2 c0; have d1 := cell_later hb2 c1; have d2 := cell_later hb2 c2; have g0 := frozen_later hb2 hlt f0; have g1 := frozen_later hb2 hlt f1; have g2 := frozen_later hb2 hlt f2; have dn := cell_later hb2 hn; have ds := cell_later hb2 hs)
    go_still_tail 10, (by kernel_rfl)
    go_wp2
    all_goals
      go_ret
      have HL1 := (hb2.block bl hlt).trans HL.out
      exact ⟨rfl, ((Only.of_below hb2).setCell _ _).drew, l3_set2 HL1 _⟩

theorem yie1_ok (bl bw be bn : Nat) (e h u who ep now : Int) (w : World) (hl : w.heap[bl]? = some (L3 e h u)) (hw : w.cell? ⟨bw, 0, none⟩ = some (.int .i64 who)) (hp : w.cell? ⟨be, 0, none⟩ = some (.int .u64 ep))
    (hn : w.cell? ⟨bn, 0, none⟩ = some (.int .i64 now)) (h0 : ep = e → who = h → 0 < e) (hr : refI e h u who ep now = 0) :
    Calls Try.prog 26 #[.pointer (some ⟨bl, 0, none⟩), .pointer (some ⟨bw, 0, none⟩), .pointer (some ⟨be, 0, none⟩), .pointer (some ⟨bn, 0, none⟩)] w fun e' w' => e' = .returned (.int .i64 0) ∧ Only bl w w' ∧ w'.heap[bl]? = some (L3 e h now) := by
  obtain ⟨c0, c1, c2⟩ := l3_cell hl
  obtain ⟨f0, f1, f2⟩ := l3_free hl
  have hlt := l3_lt hl
  have HL := Lib.hid hl; clear hl
  have H0 := Lib.hid h0; clear h0
  have HR := Lib.hid hr; clear hr
  go_enter Try.func26, Try.ntmps26
  go_wp2
  go_still_tail 6, (by kernel_rfl)
  go_wp2_with (go_at_call 25; refine (refuses_any _ _ _ _ _ _ _ H0.out).mono ?_; rintro e1 w1 ⟨rfl, hb1⟩; rw [HR.out]; have hb2 := below_drew hb1; have d0 := cell_later hb2 c0; have d1 := cell_later hb2 c1; have d2 := cell_later hb2 c2; have g0 := frozen_later hb2 hlt f0; have g1 := frozen_later hb2 hlt f1; have g2 := frozen_later hb2 hlt f2; have dn := cell_later hb2 hn)
  go_ret
  have HL1 := (hb2.block bl hlt).trans HL.out
  exact ⟨rfl, (Only.of_below hb2).setCell _ _, l3_set2 HL1 _⟩

end Go.Proofs.Ytgmmmbicnjjalaa
