/-
  What a reader gives, said in one: U8 to U64, Raw; the document's Give; whatever the reader's state.
-/
import Derived.Test.YtngnhieddblnmaaGive
namespace Go.Proofs.Ytngnhieddblnmaa
open Go.ChangeShapes Go.WideShapes Go.ChangeAt Go.RowKit
open Go.Proofs.Ytngnhieddblnmaa.octetCasts (nil_seen)
set_option linter.unusedVariables false

/-- What is given, what is left, and with what is refused. -/
def gvW (rs : List Int) (e n : Int) : List Int := if e ≠ 0 then [] else if n < 0 then [] else if (rs.length : Int) < n then [] else rs.take n.toNat
def gvR (rs : List Int) (e n : Int) : List Int := if e ≠ 0 then rs else if n < 0 then rs else if (rs.length : Int) < n then rs else rs.drop n.toNat
def gvE (rs : List Int) (e n : Int) : Int := if e ≠ 0 then e else if n < 0 then 2 else if (rs.length : Int) < n then 7 else 0
theorem gv_ref {rs : List Int} {e n : Int} (h : e ≠ 0) : gvW rs e n = [] ∧ gvR rs e n = rs ∧ gvE rs e n = e := by simp [gvW, gvR, gvE, h]
theorem gv_arg {rs : List Int} {n : Int} (h : n < 0) : gvW rs 0 n = [] ∧ gvR rs 0 n = rs ∧ gvE rs 0 n = 2 := by simp [gvW, gvR, gvE, h]
theorem gv_short {rs : List Int} {n : Int} (h0 : 0 ≤ n) (h : (rs.length : Int) < n) : gvW rs 0 n = [] ∧ gvR rs 0 n = rs ∧ gvE rs 0 n = 7 := by
  have : ¬ n < 0 := by omega
  simp [gvW, gvR, gvE, h, this]
theorem gv_ok {rs : List Int} {k : Nat} (h : k ≤ rs.length) : gvW rs 0 (k : Int) = rs.take k ∧ gvR rs 0 (k : Int) = rs.drop k ∧ gvE rs 0 (k : Int) = 0 := by
  have h1 : ¬ (k : Int) < 0 := by omega
  have h2 : ¬ rs.length < k := by omega
  simp [gvW, gvR, gvE, h1, h2]
theorem gvW_len (rs : List Int) (e n : Int) : (gvW rs e n).length ≤ rs.length := by
  unfold gvW; split
  · simp
  · split
    · simp
    · split
      · simp
      · simp; omega
theorem gvW_len' (rs : List Int) (e : Int) (k : Nat) : (gvW rs e (k : Int)).length ≤ k := by
  unfold gvW; split
  · simp
  · split
    · simp
    · split
      · simp
      · simp; omega
theorem gvR_len (rs : List Int) (e n : Int) : (gvR rs e n).length ≤ rs.length := by
  unfold gvR; split
  · simp
  · split
    · simp
    · split
      · simp
      · simp
theorem ok_drop {xs : List Int} (h : bytesOk xs) (m : Nat) : bytesOk (xs.drop m) := by
  intro j hj
  have := h (m + j) (by simp at hj; omega)
  simpa [List.getElem?_drop] using this
theorem ok_nil : bytesOk [] := fun j hj => absurd hj (by simp)
theorem gvW_ok {rs : List Int} (h : bytesOk rs) (e n : Int) : bytesOk (gvW rs e n) := by
  unfold gvW; split
  · exact ok_nil
  · split
    · exact ok_nil
    · split
      · exact ok_nil
      · exact ok_take h _
theorem gvR_ok {rs : List Int} (h : bytesOk rs) (e n : Int) : bytesOk (gvR rs e n) := by
  unfold gvR; split
  · exact h
  · split
    · exact h
    · split
      · exact h
      · exact ok_drop h _
theorem num_lt {xs : List Int} (h : bytesOk xs) : 0 ≤ num xs ∧ num xs < (256 : Int) ^ xs.length := by
  have := num_bound xs h xs.length (Nat.le_refl _)
  rwa [List.take_length] at this

theorem u8_step (R : Nat) (e : Int) (rs ws rs' : List Int) (e' : Int) (w : World) (h : RdL w R rs e) (hb : bytesOk rs) (h1 : gvW rs e 1 = ws) (h2 : gvR rs e 1 = rs') (h3 : gvE rs e 1 = e') :
    Calls Try.prog 19 #[.pointer (some ⟨R, 0, none⟩)] w fun f w' => f = .returned (.int .u8 (num ws)) ∧ Only R w w' ∧ RdL w' R rs' e' := by
  subst h1 h2 h3
  by_cases he : e = 0
  · subst he
    by_cases hs : (rs.length : Int) < 1
    · obtain ⟨g1, g2, g3⟩ := gv_short (rs := rs) (by decide) hs
      rw [g1, g2, g3]
      exact u8_shortL R rs w h (by omega)
    · obtain ⟨g1, g2, g3⟩ := gv_ok (rs := rs) (k := 1) (by omega)
      rw [show (((1 : Nat) : Int)) = 1 from rfl] at g1 g2 g3
      rw [g1, g2, g3]
      exact u8_okL R rs w h (by omega) hb
  · obtain ⟨g1, g2, g3⟩ := gv_ref (rs := rs) (n := 1) he
    rw [g1, g2, g3]
    refine (u8_refuses R e rs w h.at (by simpa using he)).mono ?_
    rintro f w' ⟨rfl, hb'⟩
    exact ⟨rfl, Only.of_below hb', h.above (hb'.mono h.lt)⟩
theorem u16_step (R : Nat) (e : Int) (rs ws rs' : List Int) (e' : Int) (w : World) (h : RdL w R rs e) (hb : bytesOk rs) (h1 : gvW rs e 2 = ws) (h2 : gvR rs e 2 = rs') (h3 : gvE rs e 2 = e') :
    Calls Try.prog 21 #[.pointer (some ⟨R, 0, none⟩)] w fun f w' => f = .returned (.int .u16 (num ws)) ∧ Only R w w' ∧ RdL w' R rs' e' := by
  subst h1 h2 h3
  by_cases he : e = 0
  · subst he
    by_cases hs : (rs.length : Int) < 2
    · obtain ⟨g1, g2, g3⟩ := gv_short (rs := rs) (by decide) hs
      rw [g1, g2, g3]
      exact u16_shortL R rs w h (by omega)
    · obtain ⟨g1, g2, g3⟩ := gv_ok (rs := rs) (k := 2) (by omega)
      rw [show (((2 : Nat) : Int)) = 2 from rfl] at g1 g2 g3
      rw [g1, g2, g3]
      exact u16_okL R rs w h (by omega) hb
  · obtain ⟨g1, g2, g3⟩ := gv_ref (rs := rs) (n := 2) he
    rw [g1, g2, g3]
    refine (u16_refuses R e rs w h.at (by simpa using he)).mono ?_
    rintro f w' ⟨rfl, hb'⟩
    exact ⟨rfl, Only.of_below hb', h.above (hb'.mono h.lt)⟩
theorem u32_step (R : Nat) (e : Int) (rs ws rs' : List Int) (e' : Int) (w : World) (h : RdL w R rs e) (hb : bytesOk rs) (h1 : gvW rs e 4 = ws) (h2 : gvR rs e 4 = rs') (h3 : gvE rs e 4 = e') :
    Calls Try.prog 22 #[.pointer (some ⟨R, 0, none⟩)] w fun f w' => f = .returned (.int .u32 (num ws)) ∧ Only R w w' ∧ RdL w' R rs' e' := by
  subst h1 h2 h3
  by_cases he : e = 0
  · subst he
    by_cases hs : (rs.length : Int) < 4
    · obtain ⟨g1, g2, g3⟩ := gv_short (rs := rs) (by decide) hs
      rw [g1, g2, g3]
      exact u32_shortL R rs w h (by omega)
    · obtain ⟨g1, g2, g3⟩ := gv_ok (rs := rs) (k := 4) (by omega)
      rw [show (((4 : Nat) : Int)) = 4 from rfl] at g1 g2 g3
      rw [g1, g2, g3]
      exact u32_okL R rs w h (by omega) hb
  · obtain ⟨g1, g2, g3⟩ := gv_ref (rs := rs) (n := 4) he
    rw [g1, g2, g3]
    refine (u32_refuses R e rs w h.at (by simpa using he)).mono ?_
    rintro f w' ⟨rfl, hb'⟩
    exact ⟨rfl, Only.of_below hb', h.above (hb'.mono h.lt)⟩
theorem u64_step (R : Nat) (e : Int) (rs ws rs' : List Int) (e' : Int) (w : World) (h : RdL w R rs e) (hb : bytesOk rs) (h1 : gvW rs e 8 = ws) (h2 : gvR rs e 8 = rs') (h3 : gvE rs e 8 = e') :
    Calls Try.prog 23 #[.pointer (some ⟨R, 0, none⟩)] w fun f w' => f = .returned (.int .u64 (num ws)) ∧ Only R w w' ∧ RdL w' R rs' e' := by
  subst h1 h2 h3
  by_cases he : e = 0
  · subst he
    by_cases hs : (rs.length : Int) < 8
    · obtain ⟨g1, g2, g3⟩ := gv_short (rs := rs) (by decide) hs
      rw [g1, g2, g3]
      exact u64_shortL R rs w h (by omega)
    · obtain ⟨g1, g2, g3⟩ := gv_ok (rs := rs) (k := 8) (by omega)
      rw [show (((8 : Nat) : Int)) = 8 from rfl] at g1 g2 g3
      rw [g1, g2, g3]
      exact u64_okL R rs w h (by omega) hb
  · obtain ⟨g1, g2, g3⟩ := gv_ref (rs := rs) (n := 8) he
    rw [g1, g2, g3]
    refine (u64_refuses R e rs w h.at (by simpa using he)).mono ?_
    rintro f w' ⟨rfl, hb'⟩
    exact ⟨rfl, Only.of_below hb', h.above (hb'.mono h.lt)⟩
/-- What Raw gives: nil, or a row of its own. -/
def IsRaw (B k : Nat) (ws : List Int) (f : Ending) (w' : World) : Prop :=
  ∃ a5 c5, f = .returned (.slice a5 k c5) ∧ Seen w' a5 ws ∧ (0 < k → ∃ g, a5 = some ⟨g, 0, none⟩ ∧ B ≤ g ∧ w'.heap[g]? = some (.cells (By ws).toArray 5 (0, 0)))
theorem raw_step (R : Nat) (n e : Int) (rs ws rs' : List Int) (e' : Int) (k : Nat) (w : World) (h : RdL w R rs e) (hm : rs.length ≤ 140737488351232) (h1 : gvW rs e n = ws) (h2 : gvR rs e n = rs') (h3 : gvE rs e n = e') (hk : ws.length = k) :
    Calls Try.prog 24 #[.pointer (some ⟨R, 0, none⟩), .int .i64 n] w fun f w' => IsRaw w.heap.size k ws f w' ∧ Only R w w' ∧ RdL w' R rs' e' := by
  subst h1 h2 h3 hk
  by_cases he : e = 0
  · subst he
    by_cases h0 : n < 0
    · obtain ⟨g1, g2, g3⟩ := gv_arg (rs := rs) h0
      rw [g1, g2, g3]
      refine (raw_arg R n rs w h h0).mono ?_
      rintro f w' ⟨rfl, ho, hr⟩
      exact ⟨⟨none, 0, rfl, nil_seen _, fun h => absurd h (by decide)⟩, ho, hr⟩
    · by_cases hs : (rs.length : Int) < n
      · obtain ⟨g1, g2, g3⟩ := gv_short (rs := rs) (by omega) hs
        rw [g1, g2, g3]
        refine (raw_short R n rs w h (by omega) hs).mono ?_
        rintro f w' ⟨rfl, ho, hr⟩
        exact ⟨⟨none, 0, rfl, nil_seen _, fun h => absurd h (by decide)⟩, ho, hr⟩
      · obtain ⟨kk, rfl⟩ : ∃ kk : Nat, n = (kk : Int) := ⟨n.toNat, by omega⟩
        obtain ⟨g1, g2, g3⟩ := gv_ok (rs := rs) (k := kk) (by omega)
        rw [g1, g2, g3]
        have hl : (rs.take kk).length = kk := by rw [List.length_take]; omega
        rw [hl]
        refine (raw_ok R kk rs w h (by omega) (by omega)).mono ?_
        rintro f w' ⟨rfl, hg, ho, hr⟩
        exact ⟨⟨_, _, rfl, Seen.row hg, fun _ => ⟨_, rfl, by omega, hg⟩⟩, ho, hr⟩
  · obtain ⟨g1, g2, g3⟩ := gv_ref (rs := rs) (n := n) he
    rw [g1, g2, g3]
    refine (raw_refuses R n e rs w h (by simpa using he)).mono ?_
    rintro f w' ⟨rfl, hb⟩
    exact ⟨⟨none, 0, rfl, nil_seen _, fun h => absurd h (by decide)⟩, Only.of_below hb, h.above (hb.mono h.lt)⟩

/-- What the document's Give gives. -/
def IsGive (w0 : World) (k l : Nat) (ws rs' : List Int) (e' : Int) (f : Ending) (w' : World) : Prop :=
  ∃ a4 c4 a5 c5, f = .returned (.tuple #[.agg #[.slice a4 l c4, .int .i64 e'], .slice a5 k c5]) ∧ Seen w0 a4 rs' ∧ l ≤ c4 ∧ Seen w' a5 ws
theorem rgive_step (a : Option Addr) (l c : Nat) (n e : Int) (rs ws rs' : List Int) (e' : Int) (k l' : Nat) (w0 w : World) (hw : Below w0.heap.size w0 w) (hx : rs.length = l) (hs : Seen w0 a rs) (hl : l ≤ c) (hm : l ≤ 140737488351232) (h1 : gvW rs e n = ws) (h2 : gvR rs e n = rs') (h3 : gvE rs e n = e') (hk : ws.length = k) (hl' : rs'.length = l') :
    Calls Try.prog 18 #[.agg #[.slice a l c, .int .i64 e], .int .i64 n] w fun f w' => IsGive w0 k l' ws rs' e' f w' ∧ Below w.heap.size w w' := by
  subst h1 h2 h3 hk hl'
  by_cases he : e = 0
  · subst he
    by_cases h0 : n < 0
    · obtain ⟨g1, g2, g3⟩ := gv_arg (rs := rs) h0
      rw [g1, g2, g3, hx]
      refine (rgive_arg a l c n w h0).mono ?_
      rintro f w' ⟨rfl, hb⟩
      exact ⟨⟨a, c, none, 0, rfl, hs, hl, nil_seen _⟩, hb⟩
    · by_cases hsh : (rs.length : Int) < n
      · obtain ⟨g1, g2, g3⟩ := gv_short (rs := rs) (by omega) hsh
        rw [g1, g2, g3, hx]
        refine (rgive_short a l c n w (by omega) (by omega)).mono ?_
        rintro f w' ⟨rfl, hb⟩
        exact ⟨⟨a, c, none, 0, rfl, hs, hl, nil_seen _⟩, hb⟩
      · obtain ⟨kk, rfl⟩ : ∃ kk : Nat, n = (kk : Int) := ⟨n.toNat, by omega⟩
        obtain ⟨g1, g2, g3⟩ := gv_ok (rs := rs) (k := kk) (by omega)
        rw [g1, g2, g3]
        have hl1 : (rs.take kk).length = kk := by rw [List.length_take]; omega
        have hl2 : (rs.drop kk).length = l - kk := by rw [List.length_drop, hx]
        rw [hl1, hl2]
        refine (rgive_ok a l c kk rs w hx (hs.later hw) (by omega) hl (by omega)).mono ?_
        rintro f w' ⟨⟨a5, c5, rfl, hs5⟩, hb⟩
        exact ⟨⟨_, _, a5, c5, rfl, hs.cut (by omega), by omega, hs5⟩, hb⟩
  · obtain ⟨g1, g2, g3⟩ := gv_ref (rs := rs) (n := n) he
    rw [g1, g2, g3, hx]
    refine (rgive_ref a l c e n w (by simpa using he)).mono ?_
    rintro f w' ⟨rfl, hb⟩
    exact ⟨⟨a, c, none, 0, rfl, hs, hl, nil_seen _⟩, hb⟩
theorem num_lt_k {xs : List Int} {k : Nat} (h : bytesOk xs) (hk : xs.length ≤ k) : 0 ≤ num xs ∧ num xs < (256 : Int) ^ k := by
  obtain ⟨h0, h1⟩ := num_lt h
  refine ⟨h0, Int.lt_of_lt_of_le h1 ?_⟩
  have : ∀ j : Nat, (256 : Int) ^ xs.length ≤ 256 ^ (xs.length + j) := by
    intro j
    induction j with
    | zero => exact Int.le_refl _
    | succ j ih =>
      have hp : (0 : Int) < 256 ^ (xs.length + j) := Int.pow_pos (by decide)
      rw [← Nat.add_assoc, Int.pow_succ]
      omega
  have h2 := this (k - xs.length)
  rwa [show xs.length + (k - xs.length) = k by omega] at h2
theorem quiet_more {F : Nat} {args : Array Value} {w : World} {n : Nat} {v : Value} (h : Calls Try.prog F args (w.drewN n) fun e w' => e = .returned v ∧ ∃ q, w' = (w.drewN n).drewN q) :
    Calls Try.prog F args (w.drewN n) fun e w' => e = .returned v ∧ ∃ q, w' = w.drewN q := by
  refine h.mono ?_
  rintro e w' ⟨he, q, hq⟩
  exact ⟨he, n + q, by rw [hq, drewN_drewN]⟩
end Go.Proofs.Ytngnhieddblnmaa
