import Derived.Test.YtllnmdmmmkoiaaaSb2
import Derived.Test.YtllnmdmmmkoiaaaWyo
namespace Go.Proofs.Ytllnmdmmmkoiaaa
open Go Go.RowKit Wx
set_option linter.unusedVariables false
set_option linter.unusedSimpArgs false
set_option maxHeartbeats 4000000
def decW : List Ce → Option Wk
  | [.v (.int .i64 a), .v (.int .i64 b)] => some ⟨a, b⟩
  | _ => none
def decL : List Ce → Option Pl
  | [.v (.int .i64 a), .v (.int .i64 b)] => some ⟨a, b⟩
  | _ => none
def decAll {α : Type} (d : List Ce → Option α) : List (List Ce) → Option (List α)
  | [] => some []
  | r :: rs => match d r, decAll d rs with
    | some x, some xs => some (x :: xs)
    | _, _ => none
theorem decAll_map {α : Type} {d : List Ce → Option α} {en : α → List RT} (hd : ∀ r x, d r = some x → r.map RT.of = (en x).map some) : ∀ {rs : List (List Ce)} {xs : List α}, decAll d rs = some xs → rs.map (List.map RT.of) = (xs.map en).map (List.map some)
  | [], xs, h => by simp only [decAll, Option.some.injEq] at h; subst h; rfl
  | r :: rs, xs, h => by
    simp only [decAll] at h
    split at h
    · rename_i x ys h1 h2
      simp only [Option.some.injEq] at h
      subst h
      simp only [List.map_cons, hd r x h1, decAll_map hd h2]
    · cases h
def rowsD {α : Type} (d : List Ce → Option α) (K : Nat → Option Y.Ob) : Ce → Option (List α)
  | .v (.slice none 0 0) => some []
  | .osl i q n _ => match K i with
    | some (.b b) => match Nat.beq b.sz 2, decAll d ((b.rows.drop q).take n) with
      | true, some xs => match Nat.beq xs.length n, Nat.ble xs.length 1000 with
        | true, true => some xs
        | _, _ => none
      | _, _ => none
    | _ => none
  | _ => none
theorem rowsD_low {α : Type} {d : List Ce → Option α} {en : α → List RT} (hd : ∀ r x, d r = some x → r.map RT.of = (en x).map some) {K : Nat → Option Y.Ob} {c : Ce} {xs : List α} (h : rowsD d K c = some xs) : lowC (Y.blkOf K) c (.ro false 2 (xs.map en)) ∧ xs.length ≤ 1000 := by
  unfold rowsD at h
  split at h
  · simp only [Option.some.injEq] at h
    subst h
    exact ⟨.inr ⟨2, rfl⟩, by simp⟩
  · rename_i i q n _
    split at h
    · rename_i b hb
      split at h
      · rename_i ys hsz hys
        split at h
        · rename_i hn hle
          simp only [Option.some.injEq] at h
          subst h
          refine ⟨?_, Nat.le_of_ble_eq_true hle⟩
          have hk : Y.blkOf K i = some b := by unfold Y.blkOf; rw [hb]
          show match Y.blkOf K i with
            | some b => ∃ rows, Ce.ro false 2 (ys.map en) = .ro false b.sz rows ∧ rows.length = n ∧ ((b.rows.drop q).take n).map (List.map RT.of) = rows.map (List.map some)
            | none => False
          rw [hk]
          exact ⟨ys.map en, by rw [Nat.eq_of_beq_eq_true hsz], by rw [List.length_map]; exact Nat.eq_of_beq_eq_true hn, decAll_map hd hys⟩
        · cases h
      · cases h
    · cases h
  · cases h
theorem decW_ok (r : List Ce) (x : Wk) (h : decW r = some x) : r.map RT.of = (eW x).map some := by
  unfold decW at h
  split at h
  · simp only [Option.some.injEq] at h; subst h; rfl
  · cases h
theorem decL_ok (r : List Ce) (x : Pl) (h : decL r = some x) : r.map RT.of = (eL x).map some := by
  unfold decL at h
  split at h
  · simp only [Option.some.injEq] at h; subst h; rfl
  · cases h
/-- What Check and Free answer, by their contracts. -/
def orc : Y.CallFn := fun c avs K top => match c, avs with
  | .fn g [], [.pl (.agg [a, b])] => match Nat.beq g 23, Nat.beq g 26 with
    | true, _ => match rowsD decW K.get a, rowsD decL K.get b with
      | some ws, some ps => some ⟨.val (.int .i64 (bif okF ws ps then 0 else 210)), K, top, []⟩
      | _, _ => none
    | false, true => match rowsD decW K.get a, rowsD decL K.get b with
      | some ws, some ps => some ⟨.val (.int .i64 (bif okF ws ps then sumW ws - (ps.length : Int) else 0)), K, top, []⟩
      | _, _ => none
    | _, _ => none
  | _, _ => none
theorem orc_sound : Y.CallsOk Try.prog orc := by
  intro c avs K top r h
  unfold orc at h
  split at h
  · rename_i g a b
    split at h
    · have hg : Nat.beq g 23 = true := by assumption
      split at h
      · rename_i ws ps h1 h2
        simp only [Option.some.injEq] at h
        subst h
        obtain ⟨g1, g2⟩ := rowsD_low decW_ok h1
        obtain ⟨g3, g4⟩ := rowsD_low decL_ok h2
        have := Nat.eq_of_beq_eq_true hg
        subst this
        exact ⟨Y.con_callE (args := [.agg [.ro false 2 (ws.map eW), .ro false 2 (ps.map eL)]]) ⟨⟨g1, g3, trivial⟩, trivial⟩ (check_con ws ps (by omega) (by omega)) rfl, fun _ _ => rfl⟩
      · cases h
    · rename_i _ hg
      split at h
      · rename_i ws ps h1 h2
        simp only [Option.some.injEq] at h
        subst h
        obtain ⟨g1, g2⟩ := rowsD_low decW_ok h1
        obtain ⟨g3, g4⟩ := rowsD_low decL_ok h2
        have := Nat.eq_of_beq_eq_true hg
        subst this
        exact ⟨Y.con_callE (args := [.agg [.ro false 2 (ws.map eW), .ro false 2 (ps.map eL)]]) ⟨⟨g1, g3, trivial⟩, trivial⟩ (free_con ws ps (by omega) (by omega)) rfl, fun _ _ => rfl⟩
      · cases h
    · cases h
  · cases h
theorem wakes_con : Con Try.prog 9 [] (fun x K t => x = .val (.bool true) ∧ K = [] ∧ t = 0) := Y.con_runO ftabOk tabOk mixOk orc_sound 40 12 (by kernel_rfl) (by kernel_rfl)
end Go.Proofs.Ytllnmdmmmkoiaaa
