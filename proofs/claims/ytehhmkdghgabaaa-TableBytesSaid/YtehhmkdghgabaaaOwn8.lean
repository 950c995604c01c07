import Derived.Test.YtehhmkdghgabaaaOwn7
import Derived.Test.YtehhmkdghgabaaaRows
namespace Go.Proofs.Ytehhmkdghgabaaa
open Go Go.RowKit Wx
set_option linter.unusedVariables false
set_option linter.unusedSimpArgs false
set_option maxHeartbeats 4000000
structure By where
  b : List Int
abbrev eBy (x : By) : List RT := [RT.ro 1 (x.b.map eB)]
def okBy (x : By) : Prop := x.b.length ≤ maxLen ∧ ∀ z ∈ x.b, (Lit.int .u8 z).wf = true
theorem rowBy1 (row : List RT) (h : RowF (.int .u8) row) : ∃ z, row = eB z ∧ (Lit.int .u8 z).wf = true := by
  obtain ⟨z, rfl, w⟩ := h
  exact ⟨z, rfl, w⟩
theorem rowBy (row : List RT) (h : RowF (.sl (.int .u8) 5 1) row) : ∃ x, row = eBy x ∧ okBy x := by
  obtain ⟨rows0, rfl, l0, h0⟩ := h
  obtain ⟨z0, rfl, k0⟩ := rows_map eB (fun z => (Lit.int .u8 z).wf = true) rowBy1 rows0 h0
  exact ⟨⟨z0⟩, rfl, by simpa using l0, k0⟩
namespace tableBytes
theorem main (avs : List A0) (h : All2 FitA [(.sl (.st (.cons 28 1 (.sl (.st (.cons 3 1 (.int .i64) (.cons 3 1 (.int .i64) (.cons 41 2 (.st (.cons 2 1 (.int .i64) (.cons 2 1 (.int .i64) .nil))) .nil)))) 74 4) .nil)) 30 1), (.sl (.sl (.int .u8) 5 1) 64 1)] avs) : Con Try.prog 7 avs (fun x K t => x = .val (.bool true) ∧ K = [] ∧ t = 0) := by
  obtain ⟨x0, x1, rfl, h0, h1⟩ : ∃ x0 x1, avs = [x0, x1] ∧ FitA (.sl (.st (.cons 28 1 (.sl (.st (.cons 3 1 (.int .i64) (.cons 3 1 (.int .i64) (.cons 41 2 (.st (.cons 2 1 (.int .i64) (.cons 2 1 (.int .i64) .nil))) .nil)))) 74 4) .nil)) 30 1) x0 ∧ FitA (.sl (.sl (.int .u8) 5 1) 64 1) x1 := by
    cases avs with
    | nil => exact h.elim
    | cons x0 r => cases r with
      | nil => exact h.2.elim
      | cons x1 r => cases r with
        | nil => exact ⟨x0, x1, rfl, h.1, h.2.1⟩
        | cons => exact h.2.2.elim
  clear h
  obtain ⟨r0, ⟨rows0, hr0, ll, hrows0⟩, rfl⟩ := h0
  simp only [List.cons.injEq, and_true] at hr0
  subst hr0
  obtain ⟨l, rfl, kl⟩ := rows_map eTb (okTb) rowTb rows0 hrows0
  rw [List.length_map] at ll
  obtain ⟨r1, ⟨rows1, hr1, lrows, hrows1⟩, rfl⟩ := h1
  simp only [List.cons.injEq, and_true] at hr1
  subst hr1
  obtain ⟨rows, rfl, krows⟩ := rows_map eBy (okBy) rowBy rows1 hrows1
  rw [List.length_map] at lrows
  have hM : l.map eTb = (l.map Tb.rows).map fun x => [RT.ro 4 (x.map eK)] := by rw [List.map_map]; rfl
  have hN : rows.map eBy = (rows.map By.b).map fun x => [RT.ro 1 (x.map eB)] := by rw [List.map_map]; rfl
  rw [hM, hN]
  exact tablebytes_con (l.map Tb.rows) (rows.map By.b) (by rw [List.length_map]; simpa [maxLen] using ll) (fun x hx => by obtain ⟨y, hy, rfl⟩ := List.mem_map.1 hx; have := (kl y hy).1.1; simpa [maxLen] using this) (by rw [List.length_map]; simpa [maxLen] using lrows) (fun x hx => by obtain ⟨y, hy, rfl⟩ := List.mem_map.1 hx; exact fun z hz => wf8 ((krows y hy).2 z hz)) (fun x hx => by obtain ⟨y, hy, rfl⟩ := List.mem_map.1 hx; have := (krows y hy).1; simpa [maxLen] using this)
end tableBytes
end Go.Proofs.Ytehhmkdghgabaaa
