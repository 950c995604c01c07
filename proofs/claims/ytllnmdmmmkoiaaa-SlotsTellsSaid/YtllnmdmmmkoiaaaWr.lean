/-
  From what a row says of its arguments to trees that are only read, for types of whatever shape.
-/
import Derived.Test.YtllnmdmmmkoiaaaWq
import Derived.ProofKit
import Derived.OpenShut
import Derived.ChangeArms
import Derived.WideShapes
import Derived.Carry
namespace Go.Proofs.Ytllnmdmmmkoiaaa.Wx
open Go Go.RowKit Go.WideShapes
set_option linter.unusedVariables false

/-- A type's shape. -/
inductive TD where
  | int (k : IntKind)
  | bool
  | str
  | sl (e : TD) (te sz : Nat)
  | st (fs : TD)
  | arr (n : Nat) (e : TD) (te sz : Nat)
  | nil
  | cons (ft sz : Nat) (f rest : TD)
def tdOk (P : Program) : TD → Bool → Nat → List Field → Nat → Bool
  | .int k, false, t, _, _ => match P.underlying t with | some (.int k') => decide (k = k') | _ => false
  | .bool, false, t, _, _ => match P.underlying t with | some .bool => true | _ => false
  | .str, false, t, _, _ => match P.underlying t with | some .string => true | _ => false
  | .sl e te sz, false, t, _, _ => match P.underlying t with | some (.slice e') => Nat.beq e' te && Nat.beq (P.cellsOf te) sz && Nat.blt 0 sz && tdOk P e false te [] 0 | _ => false
  | .st fs, false, t, _, _ => match P.underlying t with | some (.struct fl) => tdOk P fs true (P.cellsOf t) fl.toList 0 | _ => false
  | .arr n e te sz, false, t, _, _ => match P.underlying t with | some (.array n' e') => Nat.beq n' n && Nat.beq e' te && Nat.beq (P.cellsOf te) sz && Nat.beq (P.cellsOf t) (n * sz) && tdOk P e false te [] 0 | _ => false
  | .nil, true, t, fl, off => match fl with | [] => Nat.beq t off | _ => false
  | .cons ft sz f rest, true, t, fl, off => match fl with | x :: fl' => Nat.beq x.type ft && Nat.beq x.offset off && Nat.beq (P.cellsOf ft) sz && tdOk P f false ft [] 0 && tdOk P rest true t fl' (off + sz) | [] => false
  | _, _, _, _, _ => false
/-- A row of cells of such a type. -/
def RowF : TD → List RT → Prop
  | .int k, r => ∃ z, r = [.v (.int k z)] ∧ (Lit.int k z).wf = true
  | .bool, r => ∃ b, r = [.v (.bool b)]
  | .str, r => ∃ s, r = [.v (.string s)] ∧ s.size ≤ maxLen
  | .sl e _ sz, r => ∃ rows, r = [.ro sz rows] ∧ rows.length ≤ maxLen ∧ ∀ row ∈ rows, RowF e row
  | .st fs, r => RowF fs r
  | .arr n e _ sz, r => ∃ rows : List (List RT), r = rows.flatten ∧ rows.length = n ∧ ∀ row ∈ rows, RowF e row ∧ row.length = sz
  | .nil, r => r = []
  | .cons _ sz f rest, r => ∃ a b, r = a ++ b ∧ a.length = sz ∧ RowF f a ∧ RowF rest b
def TD.isRow : TD → Bool
  | .st _ => true
  | .arr .. => true
  | _ => false
/-- A value of such a type, that is only read. -/
def FitA (td : TD) (a : A0) : Prop :=
  match td.isRow with
  | true => ∃ row, RowF td row ∧ a = .agg (row.map (RT.ce false))
  | false => ∃ r, RowF td [r] ∧ a = .one (r.ce false)
section
variable {H : Type} {enc : TypeId × Value → H} {P : Program} {w : World} {spare : Nat → Bool} {held : Bool}
def Opens (enc : TypeId × Value → H) (P : Program) (w : World) (spare : Nat → Bool) (held : Bool) (td : TD) (md : Bool) (t : Nat) (fl : List Field) (off : Nat) : Prop :=
  match md with
  | true => ∀ (n : Nat) (cs : List Value), cs.length = t → (∀ f ∈ fl, ∃ y, DataW.trod enc P w 0 spare held n f.type ((cs.drop f.offset).take (P.cellsOf f.type)) = some y) →
      off ≤ t ∧ ∃ row, RowF td row ∧ All2 (Rd fun b o => w.cell? ⟨b, o, none⟩) row (cs.drop off)
  | false => ∀ (n : Nat) (cs : List Value) (x : DataW H × List MemPlace), DataW.trod enc P w 0 spare held n t cs = some x → ∃ row, RowF td row ∧ All2 (Rd fun b o => w.cell? ⟨b, o, none⟩) row cs
theorem list_choose {α : Type} {p : Nat → α → Prop} : ∀ (n : Nat), (∀ i, i < n → ∃ a, p i a) → ∃ l : List α, l.length = n ∧ ∀ i a, l[i]? = some a → p i a
  | 0, _ => ⟨[], rfl, fun i a h => by simp at h⟩
  | n + 1, h => by
    obtain ⟨l, h1, h2⟩ := list_choose n fun i hi => h i (by omega)
    obtain ⟨a, ha⟩ := h n (by omega)
    refine ⟨l ++ [a], by simp [h1], fun i b hb => ?_⟩
    rcases Nat.lt_or_ge i n with hi | hi
    · rw [List.getElem?_append_left (by omega)] at hb; exact h2 i b hb
    · have : i = n := by
        have := (List.getElem?_eq_some_iff.1 hb).1
        simp at this; omega
      subst this
      rw [List.getElem?_append_right (by omega), h1] at hb
      simp at hb; subst hb; exact ha
theorem all2_rows {β : Type} {rel : RT → β → Prop} {sz : Nat} : ∀ {rows : List (List RT)} {us : List β}, us.length = rows.length * sz → (∀ (i : Nat) (r : List RT), rows[i]? = some r → All2 rel r ((us.drop (i * sz)).take sz)) → All2 rel rows.flatten us
  | [], us, hl, _ => by
    have : us = [] := List.eq_nil_of_length_eq_zero (by simpa using hl)
    subst this; trivial
  | r :: rows, us, hl, h => by
    have h0 := h 0 r rfl
    simp only [Nat.zero_mul, List.drop_zero] at h0
    simp only [List.length_cons, Nat.add_mul, Nat.one_mul] at hl
    have hr : All2 rel rows.flatten (us.drop sz) := all2_rows (sz := sz) (by rw [List.length_drop]; omega) fun i r' hr' => by
      have := h (i + 1) r' (by simpa using hr')
      rw [List.drop_drop, show sz + i * sz = (i + 1) * sz by rw [Nat.add_mul, Nat.one_mul, Nat.add_comm]]
      exact this
    have := h0.append hr
    rwa [List.take_append_drop] at this
theorem opens : ∀ (td : TD) (md : Bool) (t : Nat) (fl : List Field) (off : Nat), tdOk P td md t fl off = true → Opens enc P w spare held td md t fl off
  | .int k, false, t, fl, off, h => fun n cs x hx => by
    unfold tdOk at h
    split at h
    · rename_i k' ht
      have := of_decide_eq_true h
      subst this
      obtain ⟨z, rfl, _, hw⟩ := DataW.trod_int ht hx
      exact ⟨_, ⟨z, rfl, hw⟩, .v _, trivial⟩
    · cases h
  | .bool, false, t, fl, off, h => fun n cs x hx => by
    unfold tdOk at h
    split at h
    · rename_i ht
      obtain ⟨z, rfl, _⟩ := DataW.trod_bool ht hx
      exact ⟨_, ⟨z, rfl⟩, .v _, trivial⟩
    · cases h
  | .str, false, t, fl, off, h => fun n cs x hx => by
    unfold tdOk at h
    split at h
    · rename_i ht
      obtain ⟨z, rfl, _, hz⟩ := DataW.trod_string ht hx
      exact ⟨_, ⟨z, rfl, hz⟩, .v _, trivial⟩
    · cases h
  | .sl e te sz, false, t, fl, off, h => fun n cs x hx => by
    unfold tdOk at h
    split at h
    · rename_i e' ht
      simp only [Bool.and_eq_true] at h
      obtain ⟨⟨⟨h1, h2⟩, h3⟩, h4⟩ := h
      have h1 := Nat.eq_of_beq_eq_true h1
      have h2 := Nat.eq_of_beq_eq_true h2
      subst h1 h2
      have hpos : 0 < P.cellsOf e' := by simpa [Nat.blt_eq] using h3
      have ih : ∀ (n : Nat) (cs : List Value) (x : DataW H × List MemPlace), DataW.trod enc P w 0 spare held n e' cs = some x → ∃ row, RowF e row ∧ All2 (Rd fun b o => w.cell? ⟨b, o, none⟩) row cs := opens e false e' [] 0 h4
      rcases DataW.trod_slice ht hx with ⟨rfl, _⟩ | ⟨a, len, cap, elems, rest, m, _, rfl, rfl, hb, hl, hm, hlen, hel, hsp, hns⟩
      · exact ⟨_, ⟨[], rfl, by simp, by simp⟩, .nil _, trivial⟩
      · obtain ⟨prs, hp1, hp2⟩ := list_choose (p := fun i (q : List RT × List Value) => RowF e q.1 ∧ All2 (Rd fun b o => w.cell? ⟨b, o, none⟩) q.1 q.2 ∧ q.2.length = P.cellsOf e' ∧ ∀ k, k < P.cellsOf e' → w.cell? ((a.add (i * P.cellsOf e')).add k) = q.2[k]?) len (fun i hi => by
          have h5 := hel i hi
          have h6 : elems[i]? = some (elems[i]'(by omega)) := List.getElem?_eq_getElem _
          rw [h6, Option.bind_eq_some_iff] at h5
          obtain ⟨cs', hc1, hc2⟩ := h5
          obtain ⟨_, hc3, hc4⟩ := World.cells?_some hc1
          obtain ⟨row, hr1, hr2⟩ := ih _ _ _ hc2
          exact ⟨(row, cs'), hr1, hr2, hc3, hc4⟩)
        have hrows : ∀ row ∈ prs.map (·.1), RowF e row := fun row hr => by
          obtain ⟨q, hq, rfl⟩ := List.mem_map.1 hr
          obtain ⟨i, hi⟩ := List.getElem?_of_mem hq
          exact (hp2 i q hi).1
        refine ⟨[.ro (P.cellsOf e') (prs.map (·.1))], ⟨_, rfl, by simp; omega, hrows⟩, ?_, trivial⟩
        cases hprs : prs with
        | nil =>
          rw [hprs] at hp1
          simp only [List.length_nil] at hp1
          subst hp1
          exact .emp _ _ _
        | cons q0 qs =>
          have hq0 := hp2 0 q0 (by rw [hprs]; rfl)
          have hsp0 : a.spot = none := by
            have h7 := hq0.2.2.2 0 hpos
            have h8 : q0.2[0]? = some (q0.2[0]'(by omega)) := List.getElem?_eq_getElem _
            rw [h8] at h7
            have := World.cell?_spot h7
            obtain ⟨b, o, sp⟩ := a
            simpa [Addr.add] using this
          obtain ⟨b, o, sp⟩ := a
          simp only at hsp0
          subst hsp0
          rw [← hprs]
          have hpl : prs.length = (prs.map (·.1)).length := by simp
          rw [show (Value.slice (some ⟨b, o, none⟩) len cap) = Value.slice (some ⟨b, o, none⟩) (prs.map (·.1)).length cap by rw [← hpl, hp1]]
          refine .ro (P.cellsOf e') (prs.map (·.1)) b o cap (fun q k => (((prs[q]?).bind fun p => p.2[k]?).getD undef)) ?_ (by simp; omega) ?_ ?_
          · intro row hrow
            obtain ⟨q, hq, rfl⟩ := List.mem_map.1 hrow
            obtain ⟨i, hi⟩ := List.getElem?_of_mem hq
            have h9 := hp2 i q hi
            rw [h9.2.1.length, h9.2.2.1]
          · intro q row k t hq hk
            simp only [List.getElem?_map, Option.map_eq_some_iff] at hq
            obtain ⟨pr, hpr, rfl⟩ := hq
            obtain ⟨g1, g2, g3, g4⟩ := hp2 q pr hpr
            obtain ⟨u, hu, hr⟩ := g2.get hk
            have hkl := (List.getElem?_eq_some_iff.1 hu).1
            have := g4 k (by omega)
            simp only [Addr.add_mid] at this
            rw [this, hpr]
            simp [hu]
          · intro q row k t hq hk
            simp only [List.getElem?_map, Option.map_eq_some_iff] at hq
            obtain ⟨pr, hpr, rfl⟩ := hq
            obtain ⟨g1, g2, g3, g4⟩ := hp2 q pr hpr
            obtain ⟨u, hu, hr⟩ := g2.get hk
            rw [hpr]
            simpa [hu] using hr
    · cases h
  | .st fs, false, t, fl, off, h => fun n cs x hx => by
    unfold tdOk at h
    split at h
    · rename_i fl0 ht
      obtain ⟨xs, m, _, rfl, hl, hxl, hf⟩ := DataW.trod_struct ht hx
      have ih := opens fs true (P.cellsOf t) fl0.toList 0 h
      obtain ⟨_, row, h1, h2⟩ := ih m cs hl (fun f hfm => by
        obtain ⟨i, hi⟩ := List.getElem?_of_mem hfm
        have hi' : fl0[i]? = some f := by simpa using hi
        have hlt := (Array.getElem?_eq_some_iff.1 hi').1
        exact ⟨xs[i]'(by omega), (hf i f hi').trans (List.getElem?_eq_getElem _)⟩)
      exact ⟨row, h1, by simpa using h2⟩
    · cases h
  | .arr n0 e te sz, false, t, fl, off, h => fun n cs x hx => by
    unfold tdOk at h
    split at h
    · rename_i n' e' ht
      simp only [Bool.and_eq_true] at h
      obtain ⟨⟨⟨⟨h0, h1⟩, h2⟩, h3⟩, h4⟩ := h
      have h0 := Nat.eq_of_beq_eq_true h0
      have h1 := Nat.eq_of_beq_eq_true h1
      have h2 := Nat.eq_of_beq_eq_true h2
      have h3 := Nat.eq_of_beq_eq_true h3
      subst h0 h1 h2
      have ih : ∀ (n : Nat) (cs : List Value) (x : DataW H × List MemPlace), DataW.trod enc P w 0 spare held n e' cs = some x → ∃ row, RowF e row ∧ All2 (Rd fun b o => w.cell? ⟨b, o, none⟩) row cs := opens e false e' [] 0 h4
      obtain ⟨xs, m, _, rfl, hl, hxl, hf⟩ := DataW.trod_array ht hx
      rw [h3] at hl
      obtain ⟨rows, hp1, hp2⟩ := list_choose (p := fun i (r : List RT) => RowF e r ∧ All2 (Rd fun b o => w.cell? ⟨b, o, none⟩) r ((cs.drop (i * P.cellsOf e')).take (P.cellsOf e')) ∧ r.length = P.cellsOf e') n' (fun i hi => by
        have h5 := hf i hi
        have h6 : xs[i]? = some (xs[i]'(by omega)) := List.getElem?_eq_getElem _
        rw [h6] at h5
        obtain ⟨row, hr1, hr2⟩ := ih _ _ _ h5
        refine ⟨row, hr1, hr2, ?_⟩
        rw [hr2.length, List.length_take, List.length_drop, hl]
        have h7 := Nat.mul_le_mul_right (P.cellsOf e') (show i + 1 ≤ n' from hi)
        rw [Nat.add_mul] at h7
        omega)
      refine ⟨rows.flatten, ⟨rows, rfl, hp1, fun row hrow => ?_⟩, all2_rows (sz := P.cellsOf e') (by rw [hl, hp1]) fun i r hr => (hp2 i r hr).2.1⟩
      obtain ⟨i, hi⟩ := List.getElem?_of_mem hrow
      exact ⟨(hp2 i row hi).1, (hp2 i row hi).2.2⟩
    · cases h
  | .nil, true, t, fl, off, h => fun n cs hl hf => by
    unfold tdOk at h
    split at h
    · have := Nat.eq_of_beq_eq_true h
      subst this
      exact ⟨Nat.le_refl _, [], rfl, by rw [List.drop_eq_nil_of_le (by omega)]; trivial⟩
    · cases h
  | .cons ft sz f rest, true, t, fl, off, h => fun n cs hl hf => by
    unfold tdOk at h
    split at h
    · rename_i fl0 x fl'
      simp only [Bool.and_eq_true] at h
      obtain ⟨⟨⟨⟨h0, h1⟩, h2⟩, h3⟩, h4⟩ := h
      have h0 := Nat.eq_of_beq_eq_true h0
      have h1 := Nat.eq_of_beq_eq_true h1
      have h2 := Nat.eq_of_beq_eq_true h2
      subst h0 h1 h2
      obtain ⟨g1, row2, g2, g3⟩ := opens rest true t fl' _ h4 n cs hl (fun f hfm => hf f (List.mem_cons_of_mem _ hfm))
      obtain ⟨y, hy⟩ := hf x List.mem_cons_self
      obtain ⟨row1, g4, g5⟩ := opens f false x.type [] 0 h3 _ _ _ hy
      refine ⟨by omega, row1 ++ row2, ⟨row1, row2, rfl, ?_, g4, g2⟩, ?_⟩
      · rw [g5.length, List.length_take, List.length_drop, hl]; omega
      · have := g5.append g3
        rw [← List.drop_drop, List.take_append_drop] at this
        exact this
    · cases h
  | .int _, true, _, _, _, h => by unfold tdOk at h; cases h
  | .bool, true, _, _, _, h => by unfold tdOk at h; cases h
  | .str, true, _, _, _, h => by unfold tdOk at h; cases h
  | .sl .., true, _, _, _, h => by unfold tdOk at h; cases h
  | .st _, true, _, _, _, h => by unfold tdOk at h; cases h
  | .arr .., true, _, _, _, h => by unfold tdOk at h; cases h
  | .nil, false, _, _, _, h => by unfold tdOk at h; cases h
  | .cons .., false, _, _, _, h => by unfold tdOk at h; cases h
theorem all2_ce {rows : List RT} {vs : List Value} {R : RM} {fl : Bool} (h : All2 (Rd (R fl)) rows vs) : All2 (Ce.rel (fun _ => none) R) (rows.map (RT.ce fl)) vs :=
  All2.map _ (h.mono fun _ _ hh => RT.ce_rel hh)
/-- A value, as it is read. -/
theorem fit_of {r : Reach} {b0 : Nat} {td : TD} {t : Nat} {v : Value} {d : DataW H} {ps : List MemPlace} (h : tdOk P td false t [] 0 = true) (hval : Value.okWide P w r b0 t v) (hd : DataW.Trod enc P w 0 spare held t v d ps) :
    ∃ a, FitA td a ∧ a.rel (fun _ => none) (fun _ b o => w.cell? ⟨b, o, none⟩) v := by
  obtain ⟨n, hn⟩ := hd
  obtain ⟨row, h1, h2⟩ := opens td false t [] 0 h n _ _ hn
  have one : td.isRow = false → v.oneCell' = true → ∃ a, FitA td a ∧ a.rel (fun _ => none) (fun _ b o => w.cell? ⟨b, o, none⟩) v := fun hr ho => by
    rw [cells_one ho] at h2
    cases row with
    | nil => exact h2.elim
    | cons r rest =>
      cases rest with
      | cons => exact h2.2.elim
      | nil => exact ⟨.one (r.ce false), by unfold FitA; rw [hr]; exact ⟨r, h1, rfl⟩, RT.ce_rel (R := fun _ b o => w.cell? ⟨b, o, none⟩) h2.1⟩
  have agg : td.isRow = true → ∀ cs, v = .agg cs → ∃ a, FitA td a ∧ a.rel (fun _ => none) (fun _ b o => w.cell? ⟨b, o, none⟩) v := fun hr cs hv => by
    subst hv
    refine ⟨.agg (row.map (RT.ce false)), by unfold FitA; rw [hr]; exact ⟨row, h1, rfl⟩, cs.toList, by simp, ?_⟩
    exact all2_ce (R := fun _ b o => w.cell? ⟨b, o, none⟩) (by simpa [Value.cells] using h2)
  cases td with
  | int k =>
    unfold tdOk at h
    split at h
    · rename_i ht; obtain ⟨z, rfl⟩ := okWide_int ht hval; exact one rfl rfl
    · cases h
  | bool =>
    unfold tdOk at h
    split at h
    · rename_i ht; obtain ⟨z, rfl⟩ := okWide_bool ht hval; exact one rfl rfl
    · cases h
  | str =>
    unfold tdOk at h
    split at h
    · rename_i ht; obtain ⟨z, rfl⟩ := okWide_string ht hval; exact one rfl rfl
    · cases h
  | sl e te sz =>
    unfold tdOk at h
    split at h
    · rename_i ht; obtain ⟨a, l, c, rfl⟩ := okWide_slice ht hval; exact one rfl rfl
    · cases h
  | st fs =>
    unfold tdOk at h
    split at h
    · rename_i ht; obtain ⟨cs, rfl, _⟩ := okWide_struct ht hval; exact agg rfl _ rfl
    · cases h
  | arr n0 e te sz =>
    unfold tdOk at h
    split at h
    · rename_i ht
      simp only [Value.okWide, ht] at hval
      obtain ⟨cs, rfl, _⟩ := hval
      exact agg rfl _ rfl
    · cases h
  | nil => unfold tdOk at h; cases h
  | cons => unfold tdOk at h; cases h
end
section
variable {H : Type} {enc : TypeId × Value → H} {P : Program}
/-- All arguments. -/
theorem fits_of {w : World} {r : Reach} {b0 : Nat} : ∀ {tds : List TD} {ts : List TypeId} {vs : List Value} {ds : List (DataW H)} {ps : List MemPlace}, All2 (fun td t => tdOk P td false t [] 0 = true) tds ts → DataW.TrodAll enc P w 0 (fun _ => true) true ts vs ds ps →
    (∀ (j : Nat) t v, ts[j]? = some t → vs[j]? = some v → Value.okWide P w r b0 t v) → ∃ as, All2 FitA tds as ∧ All2 (A0.rel (fun _ => none) (fun _ b o => w.cell? ⟨b, o, none⟩)) as vs
  | [], [], [], [], ps, _, _, _ => ⟨[], trivial, trivial⟩
  | td :: tds, t :: ts, v :: vs, d :: ds, ps, ht, hd, hv => by
    obtain ⟨p, q, h1, h2, _⟩ := hd
    obtain ⟨a, g1, g2⟩ := fit_of ht.1 (hv 0 t v rfl rfl) h1
    obtain ⟨as, g3, g4⟩ := fits_of ht.2 h2 fun j t' v' h3 h4 => hv (j + 1) t' v' (by simpa using h3) (by simpa using h4)
    exact ⟨a :: as, ⟨g1, g3⟩, g2, g4⟩
  | [], _ :: _, _, _, _, ht, _, _ => ht.elim
  | _ :: _, [], _, _, _, ht, _, _ => ht.elim
  | [], [], _ :: _, _, _, _, hd, _ => by cases hd
  | [], [], [], _ :: _, _, _, hd, _ => by cases hd
  | _ :: _, _ :: _, [], _, _, _, hd, _ => by cases hd
  | _ :: _, _ :: _, _ :: _, [], _, _, hd, _ => by cases hd
/-- What was read reads as it did. -/
theorem kept_of {W W' : World} (hl : laidOutB P = true) (hb : Below W.heap.size W W') : ∀ {ts : List TypeId} {vs : List Value} {ds : List (DataW H)} {ps : List MemPlace}, (ts.all fun t => P.readableRec t && Nat.blt t P.types.size) = true → DataW.TrodAll enc P W 0 (fun _ => true) true ts vs ds ps →
    DataW.TrodAll enc P W' 0 (fun b => decide (b < W.heap.size)) true ts vs ds ps
  | [], [], [], ps, _, h => h
  | t :: ts, v :: vs, d :: ds, ps, hr, h => by
    obtain ⟨p, q, h1, h2, h3⟩ := h
    simp only [List.all_cons, Bool.and_eq_true] at hr
    have lt : ∀ x ∈ p, x.block < W.heap.size := by obtain ⟨m, hm⟩ := h1; exact DataW.trod_lt m _ _ _ hm
    exact ⟨p, q, Below.trod hl hr.1.1 (by simpa [Nat.blt_eq] using hr.1.2) h1 hb lt, kept_of hl hb hr.2 h2, h3⟩
  | [], _ :: _, _, _, _, h => by cases h
  | [], [], _ :: _, _, _, h => by cases h
  | _ :: _, [], _, _, _, h => by cases h
  | _ :: _, _ :: _, [], _, _, h => by cases h
end
end Go.Proofs.Ytllnmdmmmkoiaaa.Wx
