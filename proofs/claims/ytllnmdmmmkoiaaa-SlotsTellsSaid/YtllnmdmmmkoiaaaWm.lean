/-
  A walk by computation: append, make, slices of slices, copy.
-/
import Derived.Test.YtllnmdmmmkoiaaaWc
import Derived.Laws.MakeOwn
namespace Go.Proofs.Ytllnmdmmmkoiaaa.Wx
open Go Go.RowKit
set_option linter.unusedVariables false

/-- The block of a slice that grows. -/
def gB (sz : Nat) (ty : TypeId) : List (List Ce) → Option Blk
  | [] => none
  | r :: t => some ⟨r :: t, sz, ty, false⟩
theorem gB_ne {sz : Nat} {ty : TypeId} {rows : List (List Ce)} (h : rows ≠ []) : gB sz ty rows = some ⟨rows, sz, ty, false⟩ := by cases rows <;> first | exact absurd rfl h | rfl
theorem gB_some {sz : Nat} {ty : TypeId} {rows : List (List Ce)} {b : Blk} (h : gB sz ty rows = some b) : rows ≠ [] ∧ b = ⟨rows, sz, ty, false⟩ := by
  cases rows with
  | nil => cases h
  | cons r t => simp only [gB, Option.some.injEq] at h; exact ⟨by simp, h.symm⟩
theorem flat_len {α : Type} {sz : Nat} : ∀ {rows : List (List α)}, (∀ r ∈ rows, r.length = sz) → rows.flatten.length = rows.length * sz
  | [], _ => by simp
  | r :: rows, h => by
    simp only [List.flatten_cons, List.length_append, List.length_cons]
    rw [flat_len (rows := rows) fun x hx => h x (List.mem_cons_of_mem _ hx), h r List.mem_cons_self, Nat.add_mul]
    omega
theorem flat_get {α : Type} {sz : Nat} : ∀ {rows : List (List α)} {q k : Nat} {r : List α} {c : α}, (∀ r ∈ rows, r.length = sz) → rows[q]? = some r → r[k]? = some c → rows.flatten[q * sz + k]? = some c
  | [], q, k, r, c, _, h, _ => by simp at h
  | x :: rows, 0, k, r, c, hl, h, hc => by
    simp at h; subst h
    have hk := (List.getElem?_eq_some_iff.1 hc).1
    simp only [List.flatten_cons, Nat.zero_mul, Nat.zero_add]
    rw [List.getElem?_append_left hk]; exact hc
  | x :: rows, q + 1, k, r, c, hl, h, hc => by
    have hx := hl x List.mem_cons_self
    simp only [List.flatten_cons]
    rw [List.getElem?_append_right (by rw [hx, Nat.add_mul]; omega), hx]
    have := flat_get (sz := sz) (rows := rows) (q := q) (k := k) (fun y hy => hl y (List.mem_cons_of_mem _ hy)) (by simpa using h) hc
    rwa [show (q + 1) * sz + k - sz = q * sz + k by rw [Nat.add_mul]; omega]
theorem all2_flat {β : Type} {rel : Ce → β → Prop} {sz : Nat} : ∀ {rows : List (List Ce)} {us : List β}, (∀ r ∈ rows, r.length = sz) → us.length = rows.length * sz →
    (∀ (q : Nat) (r : List Ce) (k : Nat) (c : Ce), rows[q]? = some r → r[k]? = some c → ∃ u, us[q * sz + k]? = some u ∧ rel c u) → All2 rel rows.flatten us
  | [], us, _, hl, _ => by
    have : us = [] := List.eq_nil_of_length_eq_zero (by simpa using hl)
    subst this; trivial
  | x :: rows, us, h, hl, hh => by
    have hx := h x List.mem_cons_self
    simp only [List.length_cons, Nat.add_mul, Nat.one_mul] at hl
    rw [List.flatten_cons, ← List.take_append_drop sz us]
    refine All2.append (All2.of_get (by rw [hx, List.length_take]; omega) fun i a b ha hb => ?_) (all2_flat (fun r hr => h r (List.mem_cons_of_mem _ hr)) (by rw [List.length_drop]; omega) fun q r k c hq hk => ?_)
    · obtain ⟨u, hu, hr⟩ := hh 0 x i a rfl ha
      rw [List.getElem?_take] at hb
      split at hb
      · rw [Nat.zero_mul, Nat.zero_add] at hu
        rw [hu] at hb; cases hb; exact hr
      · cases hb
    · obtain ⟨u, hu, hr⟩ := hh (q + 1) r k c (by simpa using hq) hk
      refine ⟨u, ?_, hr⟩
      rw [List.getElem?_drop, ← hu]
      congr 1; rw [Nat.add_mul]; omega
theorem flat_at {β : Type} {rel : Ce → β → Prop} {sz : Nat} {rows : List (List Ce)} {us : List β} (hl : ∀ r ∈ rows, r.length = sz) (h : All2 rel rows.flatten us) {q k : Nat} {r : List Ce} {c : Ce} (hq : rows[q]? = some r) (hk : r[k]? = some c) : ∃ u, us[q * sz + k]? = some u ∧ rel c u :=
  h.get (flat_get hl hq hk)
/-- The rows of a slice that is read whole. -/
def srcOf0 (K : Nat → Option Blk) (sz : Nat) : Ce → Option (List (List Ce) × Nat × List Nat)
  | .osl j q m _ => match K j with
    | some b => match Nat.beq b.sz sz with
      | true => some ((b.rows.drop q).take m, m, [j])
      | false => none
    | none => none
  | .ro fl s rows => match Nat.beq s sz with
    | true => some (rows.map (List.map (RT.ce fl)), rows.length, [])
    | false => none
  | .v (.slice _ 0 _) => some ([], 0, [])
  | _ => none
def srcOf (K : Nat → Option Blk) (sz : Nat) (c : Ce) : Option (List (List Ce) × Nat × List Nat) :=
  match c with
  | .gsl j rows => match rows.isEmpty with
    | false => srcOf0 K sz (.osl j 0 rows.length none)
    | true => none
  | c => srcOf0 K sz c
section
variable {P : Program} {n : Nat} {W : Wo} {F : Nat → Option AV} {K : Nat → Option Blk} {I : IM} {R : RM} {a : Act} {w : World}
theorem src_spec0 (hw : Wd W K I R w) {sz : Nat} {c : Ce} {rows : List (List Ce)} {m : Nat} {rd : List Nat} (h : srcOf0 K sz c = some (rows, m, rd)) (hm : rows.length = m) {u : Value} (hr : c.rel I R u) :
    ∃ ad cap news, u = .slice ad m cap ∧ news.length = m * sz ∧ (∀ r ∈ rows, r.length = sz) ∧ All2 (Ce.rel I R) rows.flatten news ∧ (∀ x, ad = some x → ∀ j v, news[j]? = some v → w.cell? (x.add j) = some v) ∧ (ad = none → m = 0) := by
  unfold srcOf0 at h
  split at h
  · rename_i j q l cp
    split at h
    · rename_i b hb
      split at h
      · rename_i hs
        have hs := Nat.eq_of_beq_eq_true hs
        simp only [Option.some.injEq, Prod.mk.injEq] at h
        obtain ⟨rfl, rfl, rfl⟩ := h
        obtain ⟨p, c', hp, rfl, h1, h2, _⟩ := hr
        obtain ⟨p', hp', hk⟩ := hw.blk j b hb
        rw [hp] at hp'; cases hp'
        obtain ⟨cs, hmem, hsz, hcs⟩ := hk.mem
        have hps : p.sz = sz := hk.sz.trans hs
        have hrow : ∀ r ∈ (b.rows.drop q).take l, r.length = sz := fun r hr => by rw [← hs]; exact hk.row r (List.mem_of_mem_drop (List.mem_of_mem_take hr))
        simp only [List.length_take, List.length_drop] at hm
        have hfit : (q + l) * sz ≤ cs.size := by rw [hsz, hps]; exact Nat.mul_le_mul_right _ (by have := hk.fit; omega)
        have hlen : ((cs.toList.drop (q * sz)).take (l * sz)).length = l * sz := by
          rw [Nat.add_mul] at hfit
          simp; omega
        refine ⟨_, c', (cs.toList.drop (q * sz)).take (l * sz), rfl, hlen, hrow, all2_flat hrow (by rw [hlen]; simp only [List.length_take, List.length_drop]; congr 1; omega) ?_, ?_, fun h => by cases h⟩
        · intro q' r k c hq' hk'
          rw [List.getElem?_take] at hq'
          split at hq'
          · rename_i hlt
            rw [List.getElem?_drop] at hq'
            obtain ⟨u, hu, hr⟩ := hcs _ _ _ _ hq' hk'
            have hks : k < sz := by
              have h1 := (List.getElem?_eq_some_iff.1 hk').1
              rw [hk.row r (List.mem_of_getElem? hq'), hs] at h1; exact h1
            refine ⟨u, ?_, hr⟩
            have h3 := Nat.mul_le_mul_right sz (show q' + 1 ≤ l from hlt)
            rw [Nat.add_mul] at h3
            rw [List.getElem?_take, if_pos (by omega), List.getElem?_drop]
            rw [hps, Nat.add_mul] at hu
            rw [← Nat.add_assoc]
            simpa using hu
          · cases hq'
        · rintro x ⟨rfl⟩ j' v hv
          rw [Addr.add_mid, cell_of_row w p.b _ _ _ _ hmem, hps]
          rw [List.getElem?_take] at hv
          split at hv
          · rw [List.getElem?_drop] at hv; simpa using hv
          · cases hv
      · cases h
    · cases h
  · rename_i fl s rows0
    split at h
    · rename_i hs
      have hs := Nat.eq_of_beq_eq_true hs
      simp only [Option.some.injEq, Prod.mk.injEq] at h
      obtain ⟨rfl, rfl, rfl⟩ := h
      subst hs
      simp only [Ce.rel] at hr
      cases hr with
      | nil => exact ⟨none, 0, [], rfl, by simp, by simp, trivial, fun x h => (by cases h), fun _ => rfl⟩
      | emp _ ad cap => exact ⟨some ad, cap, [], rfl, by simp, by simp, trivial, fun x _ j v hv => (by simp at hv), fun h => (by cases h)⟩
      | ro _ _ b o cap val hl hcap hc hrr =>
        have hrow : ∀ r ∈ rows0.map (List.map (RT.ce fl)), r.length = s := by
          intro r hr
          obtain ⟨r0, h0, rfl⟩ := List.mem_map.1 hr
          simpa using hl r0 h0
        refine ⟨some ⟨b, o, none⟩, cap, (List.range (rows0.length * s)).map (fun i => val (i / s) (i % s)), rfl, by simp, hrow, all2_flat hrow (by simp) ?_, ?_, fun h => (by cases h)⟩
        · intro q r k c hq hk
          simp only [List.getElem?_map, Option.map_eq_some_iff] at hq
          obtain ⟨r0, hq0, rfl⟩ := hq
          simp only [List.getElem?_map, Option.map_eq_some_iff] at hk
          obtain ⟨t, ht, rfl⟩ := hk
          have hks : k < s := by rw [← hl r0 (List.mem_of_getElem? hq0)]; exact (List.getElem?_eq_some_iff.1 ht).1
          have hql := (List.getElem?_eq_some_iff.1 hq0).1
          have h3 := Nat.mul_le_mul_right s (show q + 1 ≤ rows0.length from hql)
          rw [Nat.add_mul] at h3
          refine ⟨val q k, ?_, RT.ce_rel (hrr q r0 k t hq0 ht)⟩
          rw [List.getElem?_map, List.getElem?_range (by omega)]
          simp only [Option.map_some]
          rw [show (q * s + k) / s = q by rw [Nat.mul_comm, Nat.mul_add_div (by omega), Nat.div_eq_of_lt hks]; rfl, Nat.mul_comm, Nat.mul_add_mod, Nat.mod_eq_of_lt hks]
        · rintro x ⟨rfl⟩ j v hv
          simp only [List.getElem?_map, Option.map_eq_some_iff] at hv
          obtain ⟨j', hj', rfl⟩ := hv
          have hjl := (List.getElem?_eq_some_iff.1 hj').1
          simp only [List.length_range] at hjl
          rw [List.getElem?_range hjl] at hj'
          simp only [Option.some.injEq] at hj'
          subst hj'
          rw [Addr.add_mid]
          have hs0 : 0 < s := by
            rcases Nat.eq_zero_or_pos s with h | h
            · subst h; simp at hjl
            · exact h
          have hq1 : j / s < rows0.length := Nat.div_lt_of_lt_mul (by rw [Nat.mul_comm]; exact hjl)
          have hk1 : j % s < s := Nat.mod_lt _ hs0
          obtain ⟨r0, hr0⟩ : ∃ r0, rows0[j / s]? = some r0 := ⟨rows0[j / s], List.getElem?_eq_getElem hq1⟩
          obtain ⟨t, ht⟩ : ∃ t, r0[j % s]? = some t := ⟨r0[j % s]'(by rw [hl r0 (List.mem_of_getElem? hr0)]; exact hk1), List.getElem?_eq_getElem _⟩
          have h4 := hw.ro fl _ _ _ (hc (j / s) r0 (j % s) t hr0 ht)
          rw [← h4]
          congr 2
          have := Nat.div_add_mod j s
          rw [Nat.mul_comm] at this
          omega
    · cases h
  · rename_i ad cp
    simp only [Option.some.injEq, Prod.mk.injEq] at h
    obtain ⟨rfl, rfl, rfl⟩ := h
    cases hr
    exact ⟨ad, cp, [], rfl, by simp, by simp, trivial, fun x _ j v hv => (by simp at hv), fun _ => rfl⟩
  · cases h
theorem src_spec (hw : Wd W K I R w) {sz : Nat} {c : Ce} {rows : List (List Ce)} {m : Nat} {rd : List Nat} (h : srcOf K sz c = some (rows, m, rd)) (hm : rows.length = m) {u : Value} (hr : c.rel I R u) :
    ∃ ad cap news, u = .slice ad m cap ∧ news.length = m * sz ∧ (∀ r ∈ rows, r.length = sz) ∧ All2 (Ce.rel I R) rows.flatten news ∧ (∀ x, ad = some x → ∀ j v, news[j]? = some v → w.cell? (x.add j) = some v) ∧ (ad = none → m = 0) := by
  unfold srcOf at h
  split at h
  · rename_i j rows0
    split at h
    · rename_i he
      refine src_spec0 hw h hm ?_
      rcases hr with ⟨rfl, _⟩ | ⟨_, p, c', hp, rfl, h1, h2⟩
      · simp at he
      · exact ⟨p, c', hp, by simp, h1, by omega, fun _ h => by cases h⟩
    · cases h
  · exact src_spec0 hw h hm hr
theorem builtin_append (o : Oper) (x y : Operand) (t : TypeId) (ho : o.op = .call ⟨.builtin .append, #[x, y], #[t, t]⟩) (ρ : Operand → Value) (w : World) {v : Value} {w' : World}
    (h : (Builtin.append_ #[t, t] o.type #[ρ x, ρ y]).run P w = .ok v w') : (execOp ρ o).run P w = .ok (.value v) w' := by
  obtain ⟨dst, op, ty, pos, af, g⟩ := o
  subst ho
  simp only [execOp, resolve]
  rw [Sem.run_bind]
  simp only [Sem.run_pure, Result.andThen_ok, invoke, builtin]
  rw [Sem.run_bind]
  simp only [List.map_toArray, List.map_cons, List.map_nil]
  simp only at h
  rw [h]
  rfl

theorem run_append_nothing (w : World) (t ty e : TypeId) (inf : TypeInfo) (hu : P.underlying t = some (.slice e)) (hinf : P.info? e = some inf) (a : Addr) (m0 c cp : Nat) (hmc : m0 ≤ c) :
    (Builtin.append_ #[t, t] ty #[.slice (some a) m0 c, .slice none 0 cp]).run P w = .ok (.slice (some a) m0 c) w := by
  simp [Builtin.append_, run_underlying hu, sizeOf, typeInfo, hinf, Builtin.lenOf, Builtin.firstCells, hmc, storeCells]
/-- Rows behind rows, in a block that lay somewhere. -/
theorem Bk.mk' {I : IM} {R : RM} {w : World} {g s tot : Nat} {e : TypeId} {rows : List (List Ce)} {us ex : List Value} (hrow : ∀ r ∈ rows, r.length = s) (hfit : rows.length ≤ tot) (hfew : tot ≤ maxLen) (hm : w.heap[g]? = some (.cells (us ++ ex).toArray e (0, 0))) (hsz : us.length + ex.length = tot * s) (hr : All2 (Ce.rel I R) rows.flatten us) :
    Bk I R ⟨rows, s, e, false⟩ ⟨g, s, tot⟩ w := by
  refine ⟨rfl, hfit, hfew, hrow, _, hm, by simpa using hsz, fun q r k c hq hk => ?_⟩
  obtain ⟨u, hu, hrel⟩ := flat_at hrow hr hq hk
  refine ⟨u, ?_, hrel⟩
  have hlt := (List.getElem?_eq_some_iff.1 hu).1
  simp only [List.getElem?_toArray]
  rw [List.getElem?_append_left hlt]; exact hu
theorem Wd.moved (h : Wd W K I R w) {i top : Nat} {b : Blk} {p : Loc} (hb : K i = some b) (hp : I i = some p) (ht : I top = none) {w' : World} {g : Nat} (hgr : w.grownBy w' (some p.b)) (hg : g = p.b ∨ w.heap.size ≤ g) {b' : Blk} {tot : Nat}
    (hk : Bk (ext I top ⟨g, b'.sz, tot⟩) R b' ⟨g, b'.sz, tot⟩ w') : Wd W (kup K [(i, none), (top, some b')]) (ext I top ⟨g, b'.sz, tot⟩) R w' := by
  have hbase := h.base i b p hb hp
  have hit : i ≠ top := fun e => by rw [e, ht] at hp; cases hp
  refine h.change (.ext ht) ⟨hgr.os.trans h.below.os, hgr.tape.trans h.below.tape, hgr.output.trans h.below.output, Nat.le_trans h.below.size hgr.size,
      fun k hk => ⟨(h.below.block k hk).1, (hgr.block k (h.below.lt hk) (fun he => by injection he with he; exact hbase (he ▸ hk))).trans (h.below.block k hk).2⟩⟩ ?_ ?_ ?_
  · intro j bb hj
    simp only [kup] at hj
    split at hj
    · cases hj
    · rename_i hji
      split at hj
      · rename_i hjt
        subst hjt
        simp only [Option.some.injEq] at hj
        subst hj
        refine .inr ⟨_, by simp [Wx.ext], hk, ?_, fun f o => ?_⟩
        · rcases hg with hg | hg
          · simp only; rw [hg]; exact hbase
          · exact h.below.new hg
        · rcases hg with hg | hg
          · simp only; rw [hg]; exact h.apart i b p f o hb hp
          · cases hR : R f g o with
            | none => rfl
            | some u =>
              have := World.block_lt_of_cell? _ _ (h.ro f g o u hR)
              simp only at this
              omega
      · exact .inl ⟨hj, fun q hq => hgr.block _ (h.lt hj hq) (fun he => by injection he with he; exact hji (h.inj _ _ _ _ _ _ hj hb hq hp he))⟩
  · intro f bb o u hu
    refine hgr.block _ (World.block_lt_of_cell? _ _ (h.ro f bb o u hu)) (fun he => ?_)
    injection he with he
    rw [he, h.apart i b p f o hb hp] at hu
    cases hu
  · intro j j' bj bj' q q' hj hj' hq hq' he
    simp only [kup] at hj hj'
    simp only [Wx.ext] at hq hq'
    split at hj
    · cases hj
    · rename_i hji
      split at hj'
      · cases hj'
      · rename_i hji'
        by_cases h1 : j = top <;> by_cases h2 : j' = top
        · rw [h1, h2]
        · rw [if_pos h1] at hq; rw [if_neg h2] at hq' hj'
          cases hq
          simp only at he
          rcases hg with hg | hg
          · exact absurd (h.inj _ _ _ _ _ _ hj' hb hq' hp (by rw [← he, hg])) hji'
          · have := h.lt hj' hq'; omega
        · rw [if_neg h1] at hq hj; rw [if_pos h2] at hq'
          cases hq'
          simp only at he
          rcases hg with hg | hg
          · exact absurd (h.inj _ _ _ _ _ _ hj hb hq hp (by rw [he, hg])) hji
          · have := h.lt hj hq; omega
        · rw [if_neg h1] at hq hj; rw [if_neg h2] at hq' hj'
          exact h.inj _ _ _ _ _ _ hj hj' hq hq' he
/-- What an append to an own block comes to. -/
theorem append_own (hw : Wd W K I R w) {t ty e : TypeId} {ti : TI} (ht : tiOf P t = some ti) {s bt : Nat} (hel : ti.elem = some (e, s, bt)) {i top m0 c' : Nat} {b : Blk} {p : Loc} (hb : K i = some b) (hp : I i = some p) (htop : I top = none) (hs : b.sz = s) (hty : b.ty = e) (hm0 : m0 ≤ b.rows.length) (hc : m0 ≤ c') (hct : c' ≤ p.tot)
    {cy : Ce} {src : List (List Ce)} {m : Nat} {rd : List Nat} (hsrc : srcOf K s cy = some (src, m, rd)) (hlen : src.length = m) (h1 : ∀ r ∈ src, ∀ c ∈ r, c.single = true) {u : Value} (hy : cy.rel I R u) (hm : m0 + m ≤ maxLen) (hbytes : (m0 + m) * bt ≤ 140737488355328) :
    ∃ g cn tot w', (Builtin.append_ #[t, t] ty #[.slice (some ⟨p.b, 0, none⟩) m0 c', u]).run P w = .ok (.slice (some ⟨g, 0, none⟩) (m0 + m) cn) w' ∧ m0 + m ≤ cn ∧ cn ≤ tot ∧
      Wd W (kup K [(i, none), (top, some ⟨b.rows.take m0 ++ src, s, e, false⟩)]) (ext I top ⟨g, s, tot⟩) R w' := by
  obtain ⟨hu, inf, z, hinf, hz, hs1, hs2, hs3⟩ := tiOf_elem ht hel
  subst hs1 hs2
  obtain ⟨ad, cj, news, rfl, hnl, hrows, hrel, hcells, hnone⟩ := src_spec hw hsrc hlen hy
  obtain ⟨p', hp', hk⟩ := hw.blk i b hb
  rw [hp] at hp'; cases hp'
  obtain ⟨cs, hmem, hsz, hcs⟩ := hk.mem
  have hps : p.sz = inf.size := hk.sz.trans hs
  rw [hps] at hsz hcs
  rw [hty] at hmem
  have hbrow : ∀ r ∈ b.rows.take m0, r.length = inf.size := fun r hr => by rw [← hs]; exact hk.row r (List.mem_of_mem_take hr)
  have hfit : m0 * inf.size ≤ cs.size := by rw [hsz]; exact Nat.mul_le_mul_right _ (by have := hk.fit; omega)
  have hxl : (cs.toList.take (m0 * inf.size)).length = m0 * inf.size := by simp; omega
  have hxr : All2 (Ce.rel I R) (b.rows.take m0).flatten (cs.toList.take (m0 * inf.size)) := all2_flat hbrow (by rw [hxl, List.length_take]; congr 1; omega) fun q r k c hq hkk => by
    rw [List.getElem?_take] at hq
    split at hq
    · rename_i hlt
      obtain ⟨v, hv, hr⟩ := hcs q r k c hq hkk
      have hks : k < inf.size := by
        have h1 := (List.getElem?_eq_some_iff.1 hkk).1
        rw [hk.row r (List.mem_of_getElem? hq), hs] at h1; exact h1
      have h3 := Nat.mul_le_mul_right inf.size (show q + 1 ≤ m0 from hlt)
      rw [Nat.add_mul] at h3
      exact ⟨v, by rw [List.getElem?_take, if_pos (by omega)]; simpa using hv, hr⟩
    · cases hq
  have hall : All2 (Ce.rel I R) (b.rows.take m0 ++ src).flatten (cs.toList.take (m0 * inf.size) ++ news) := by rw [List.flatten_append]; exact hxr.append hrel
  have hrow' : ∀ r ∈ b.rows.take m0 ++ src, r.length = inf.size := fun r hr => by
    rcases List.mem_append.1 hr with h | h
    · exact hbrow r h
    · exact hrows r h
  have hlen' : (b.rows.take m0 ++ src).length = m0 + m := by simp [hlen]; omega
  have hone : ∀ v ∈ news, v.oneCell' = true := fun v hv => by
    obtain ⟨c, hc, hcr⟩ := hrel.mem hv
    obtain ⟨r, hr, hcr'⟩ := List.mem_flatten.1 hc
    exact Ce.single_val (h1 r hr c hcr') hcr
  have hmx : m0 + m ≤ 9223372036854775807 := by simp only [maxLen] at hm; omega
  have hrel' : ∀ g tot, All2 (Ce.rel (ext I top ⟨g, inf.size, tot⟩) R) (b.rows.take m0 ++ src).flatten (cs.toList.take (m0 * inf.size) ++ news) := fun g tot => hall.mono fun _ _ => Ce.mono (.ext htop) (.refl _)
  have hxsl : (cs.toList.take (m0 * inf.size) ++ news).length = (m0 + m) * inf.size := by rw [List.length_append, hxl, hnl, Nat.add_mul]
  have htot : (m0 + m) ≤ c' → (m0 + m) * inf.size ≤ cs.size := fun h => by rw [hsz]; exact Nat.mul_le_mul_right _ (by omega)
  cases ad with
  | none =>
    have hm0' := hnone rfl
    subst hm0'
    have hsrc0 : src = [] := List.eq_nil_of_length_eq_zero hlen
    subst hsrc0
    have hnews : news = [] := List.eq_nil_of_length_eq_zero (by simpa using hnl)
    subst hnews
    refine ⟨p.b, c', p.tot, w, ?_, by omega, hct, ?_⟩
    · simpa using run_append_nothing (P := P) w t ty e inf hu hinf ⟨p.b, 0, none⟩ m0 c' cj hc
    · refine hw.moved hb hp htop (g := p.b) ⟨rfl, rfl, rfl, Nat.le_refl _, fun _ _ _ => rfl⟩ (.inl rfl) (b' := ⟨b.rows.take m0 ++ [], inf.size, e, false⟩) (tot := p.tot) ?_
      refine Bk.mk' (ex := cs.toList.drop (m0 * inf.size)) hrow' (by rw [hlen']; omega) hk.few ?_ ?_ (hrel' _ _)
      · rw [List.append_nil, List.take_append_drop]; simpa using hmem
      · rw [hxsl]; simp; omega
  | some x =>
    by_cases hroom : m0 + m ≤ c'
    · have hfit2 : m0 * inf.size + news.length ≤ cs.size := by have := htot hroom; rw [Nat.add_mul] at this; omega
      have hr := run_append_room (P := P) w t ty e inf hu hinf p.b m0 c' cs hmem x m cj news hnl (hcells x rfl) hone hroom hfit2
      refine ⟨p.b, c', p.tot, _, hr, hroom, hct, ?_⟩
      refine hw.moved hb hp htop (g := p.b) ?_ (.inl rfl) (b' := ⟨b.rows.take m0 ++ src, inf.size, e, false⟩) (tot := p.tot) ?_
      · exact ⟨rfl, rfl, rfl, by simp, fun k _ hk => setRow_other w p.b k _ (fun e => hk (by rw [e]))⟩
      refine Bk.mk' (ex := cs.toList.drop (m0 * inf.size + news.length)) hrow' (by rw [hlen']; omega) hk.few ?_ ?_ (hrel' _ _)
      · rw [setRow_heap w p.b _ _ e _ hmem]
      · rw [hxsl]
        have := htot hroom
        simp only [List.length_drop, Array.length_toList, hnl, Nat.add_mul] at this ⊢
        omega
    · have holds : ∀ j v, (cs.toList.take (m0 * inf.size))[j]? = some v → w.cell? ((⟨p.b, 0, none⟩ : Addr).add j) = some v := fun j v hj => by
        rw [Addr.add_mid, cell_of_row w p.b _ _ _ _ hmem]
        rw [List.getElem?_take] at hj
        split at hj
        · simpa using hj
        · cases hj
      have hr := run_append_grow (P := P) w t ty e inf z hu hinf hz ⟨p.b, 0, none⟩ m0 c' _ hxl holds x m cj news hnl (hcells x rfl) (by omega) (by omega) (growslice_fits (by omega) hbytes)
      have hge := grownCap_ge w (m0 + m) c' e
      refine ⟨w.heap.size, _, grownCap w (m0 + m) c' e, _, hr, hge, Nat.le_refl _, ?_⟩
      refine hw.moved hb hp htop (g := w.heap.size) ?_ (.inr (Nat.le_refl _)) (b' := ⟨b.rows.take m0 ++ src, inf.size, e, false⟩) (tot := grownCap w (m0 + m) c' e) ?_
      · exact ⟨rfl, rfl, rfl, by simp, fun k hk _ => heap_alloc_old w.drew _ hk⟩
      refine Bk.mk' (ex := (Builtin.zeroCells z.cells (grownCap w (m0 + m) c' e - (m0 + m))).toList) hrow' (by rw [hlen']; exact hge) (grownCap_le_maxLen w (m0 + m) c' e hm) ?_ ?_ (hrel' _ _)
      · rw [show w.heap.size = w.drew.heap.size from rfl, heap_alloc_new w.drew _]
        congr 2
        apply Array.ext'
        simp
      · simp only [hxsl, Array.length_toList, size_zeroCells, hs3]
        rw [← Nat.add_mul]
        congr 1
        omega
/-- To nil. -/
theorem append_nil (hw : Wd W K I R w) {t ty e : TypeId} {ti : TI} (ht : tiOf P t = some ti) {s bt : Nat} (hel : ti.elem = some (e, s, bt)) {top : Nat} (htop : I top = none)
    {cy : Ce} {src : List (List Ce)} {m : Nat} {rd : List Nat} (hsrc : srcOf K s cy = some (src, m, rd)) (hlen : src.length = m) (h0 : 0 < m) {u : Value} (hy : cy.rel I R u) (hm : m ≤ maxLen) (hbytes : m * bt ≤ 140737488355328) :
    ∃ g cn w', (Builtin.append_ #[t, t] ty #[.slice none 0 0, u]).run P w = .ok (.slice (some ⟨g, 0, none⟩) m cn) w' ∧ m ≤ cn ∧
      Wd W (kup K [(top, some ⟨src, s, e, false⟩)]) (ext I top ⟨g, s, cn⟩) R w' := by
  obtain ⟨hu, inf, z, hinf, hz, hs1, hs2, hs3⟩ := tiOf_elem ht hel
  subst hs1 hs2
  obtain ⟨ad, cj, news, rfl, hnl, hrows, hrel, hcells, hnone⟩ := src_spec hw hsrc hlen hy
  cases ad with
  | none => have := hnone rfl; omega
  | some x =>
    have hmx : m ≤ 9223372036854775807 := by simp only [maxLen] at hm; omega
    have hr := run_append_nil (P := P) w t ty e inf z hu hinf hz x m cj news hnl (hcells x rfl) h0 (by omega) (by omega)
    have hge := grownCap_ge w m 0 e
    have hKt : K top = none := by
      cases hq : K top with
      | none => rfl
      | some b => obtain ⟨p, hp, _⟩ := hw.blk top b hq; rw [htop] at hp; cases hp
    refine ⟨w.heap.size, _, _, hr, hge, ?_⟩
    have hcs : ∀ q r k c, src[q]? = some r → r[k]? = some c → ∃ v, (news.toArray ++ Builtin.zeroCells z.cells (grownCap w m 0 e - m))[q * inf.size + k]? = some v ∧ c.rel I R v := fun q r k c hq hk => by
      obtain ⟨v, hv, hr⟩ := flat_at hrows hrel hq hk
      have hlt := (List.getElem?_eq_some_iff.1 hv).1
      refine ⟨v, ?_, hr⟩
      rw [Array.getElem?_append_left (by simpa using hlt)]
      simpa using hv
    have := hw.new htop hKt ⟨src, inf.size, e, false⟩ hrows (grownCap w m 0 e) (by simp only [hlen]; exact hge) (grownCap_le_maxLen w m 0 e hm) (w' := w.drew.alloc (.cells (news.toArray ++ Builtin.zeroCells z.cells (grownCap w m 0 e - m)) e)) (g := w.heap.size) (((Below.refl _ _).drew).alloc (Nat.le_refl _) _) (Nat.le_refl _) _ (by
      rw [show w.heap.size = w.drew.heap.size from rfl, heap_alloc_new w.drew _]) (by
      simp only [Array.size_append, List.size_toArray, hnl, size_zeroCells, hs3]
      rw [← Nat.add_mul]
      congr 1
      omega) hcs
    exact this
end
section
variable {P : Program} {o : Oper} {F0 : Nat → Option AV} {K0 : Nat → Option Blk} {top : Nat}
/-- What an append asks. -/
structure apdN (m0 L m : Nat) (src : List (List Ce)) (bt : Nat) (A : Prop) : Prop where
  len : src.length = m
  one : ∀ r ∈ src, ∀ c ∈ r, c.single = true
  le : m0 ≤ L
  max : m0 + m ≤ maxLen
  room : (m0 + m) * bt ≤ 140737488355328
  k : A
theorem srcOf_agree0 {K K0 : Nat → Option Blk} {s : Nat} {cy : Ce} {src : List (List Ce)} {m : Nat} {rd : List Nat} (hk : ∀ i ∈ rd, K i = K0 i) (hsrc : srcOf0 K0 s cy = some (src, m, rd)) : srcOf0 K s cy = some (src, m, rd) := by
  unfold srcOf0 at hsrc ⊢
  split at hsrc
  · rename_i j q l c
    split at hsrc
    · rename_i b' hb'
      split at hsrc
      · rename_i hbe
        simp only [Option.some.injEq, Prod.mk.injEq] at hsrc
        obtain ⟨rfl, rfl, rfl⟩ := hsrc
        have := hk j (by simp)
        rw [this, hb']; simp only; rw [hbe]
      · cases hsrc
    · cases hsrc
  · exact hsrc
  · exact hsrc
  · cases hsrc
theorem srcOf_agree {K K0 : Nat → Option Blk} {s : Nat} {cy : Ce} {src : List (List Ce)} {m : Nat} {rd : List Nat} (hk : ∀ i ∈ rd, K i = K0 i) (hsrc : srcOf K0 s cy = some (src, m, rd)) : srcOf K s cy = some (src, m, rd) := by
  unfold srcOf at hsrc ⊢
  split at hsrc
  · rename_i j rows0
    split at hsrc
    · exact srcOf_agree0 hk hsrc
    · cases hsrc
  · exact srcOf_agree0 hk hsrc
theorem e_append (x y : Operand) (t : TypeId) (ho : o.op = .call ⟨.builtin .append, #[x, y], #[t, t]⟩) (ti : TI) (ht : tiOf P t = some ti) (e s bt : Nat) (hel : ti.elem = some (e, s, bt)) (i m0 : Nat) (cp : Option Nat) (hx : evf F0 x = some (.c (.osl i 0 m0 cp))) (b : Blk) (hb : K0 i = some b) (hs : Nat.beq b.sz s = true) (hty : Nat.beq b.ty e = true)
    (cy : Ce) (hy : evf F0 y = some (.c cy)) (src : List (List Ce)) (m : Nat) (rd : List Nat) (hsrc : srcOf K0 s cy = some (src, m, rd)) (hn : apdN m0 b.rows.length m src bt True) :
    OpEff P o F0 K0 top ⟨.c (.osl top 0 (m0 + m) none), i :: rd, [(i, none), (top, some ⟨b.rows.take m0 ++ src, s, e, false⟩)], top + 1⟩ := by
  intro n W F K I R a w hst hxx hk hf hd next Q hnext
  have hm : ∀ z ∈ [x, y], evf F z = evf F0 z := fun z hz => hxx z (by simpa [ho, Op.operands, Call.operands] using hz)
  have hbK : K i = some b := (hk i (by simp)).trans hb
  have hsrc' := srcOf_agree (fun j hj => hk j (List.mem_cons_of_mem _ hj)) hsrc
  obtain ⟨p, c', hp, hu, hc1, hc2, _⟩ := hst.ev ((hm x (by simp)).trans hx)
  have hvy := hst.ev ((hm y (by simp)).trans hy)
  have htop := (hf top (Nat.le_refl _) (by simp)).1
  obtain ⟨g, cn, tot, w', hrun, h1, h2, h3⟩ := append_own hst.wd (ty := o.type) ht hel hbK hp htop (Nat.eq_of_beq_eq_true hs) (Nat.eq_of_beq_eq_true hty) hn.le hc1 (by omega) hsrc' hn.len hn.one hvy hn.max hn.room
  rw [Nat.zero_mul] at hu
  unfold Oper.wp
  rw [builtin_append o x y t ho a.eval w (by rw [hu]; exact hrun)]
  exact hnext _ _ _ _ (hst.put (.ext htop) (.refl _) h3 hd ⟨_, cn, by simp [Wx.ext]; rfl, by simp, h1, by simpa using h2, fun _ h => (by cases h)⟩) (.ext htop) dom_ext (.refl _)
theorem e_appendn (x y : Operand) (t : TypeId) (ho : o.op = .call ⟨.builtin .append, #[x, y], #[t, t]⟩) (ti : TI) (ht : tiOf P t = some ti) (e s bt : Nat) (hel : ti.elem = some (e, s, bt)) (hx : evf F0 x = some (.val (.slice none 0 0)))
    (cy : Ce) (hy : evf F0 y = some (.c cy)) (src : List (List Ce)) (m : Nat) (rd : List Nat) (hsrc : srcOf K0 s cy = some (src, m, rd)) (h0 : 0 < m) (hn : apdN 0 0 m src bt True) :
    OpEff P o F0 K0 top ⟨.c (.gsl top src), rd, [(top, some ⟨src, s, e, false⟩)], top + 1⟩ := by
  intro n W F K I R a w hst hxx hk hf hd next Q hnext
  have hm : ∀ z ∈ [x, y], evf F z = evf F0 z := fun z hz => hxx z (by simpa [ho, Op.operands, Call.operands] using hz)
  have hu := ev_plain hst ((hm x (by simp)).trans hx)
  have hvy := hst.ev ((hm y (by simp)).trans hy)
  have htop := (hf top (Nat.le_refl _) (by simp)).1
  have h1 := hn.max
  have h2 := hn.room
  rw [Nat.zero_add] at h1 h2
  obtain ⟨g, cn, w', hrun, h3, h4⟩ := append_nil hst.wd (ty := o.type) ht hel htop (srcOf_agree hk hsrc) hn.len h0 hvy h1 h2
  have hsl := hn.len
  unfold Oper.wp
  rw [builtin_append o x y t ho a.eval w (by rw [hu]; exact hrun)]
  refine hnext _ _ _ _ (hst.put (.ext htop) (.refl _) h4 hd (.inr ⟨?_, ⟨g, s, cn⟩, cn, by simp [Wx.ext], by simp [hsl], by simpa [hsl] using h3, Nat.le_refl _⟩)) (.ext htop) dom_ext (.refl _)
  intro h; rw [h] at hsl; simp at hsl; omega
theorem e_appendg (x y : Operand) (t : TypeId) (ho : o.op = .call ⟨.builtin .append, #[x, y], #[t, t]⟩) (ti : TI) (ht : tiOf P t = some ti) (e s bt : Nat) (hel : ti.elem = some (e, s, bt)) (i : Nat) (rows : List (List Ce)) (hx : evf F0 x = some (.c (.gsl i rows))) (hK : K0 i = gB s e rows)
    (cy : Ce) (hy : evf F0 y = some (.c cy)) (src : List (List Ce)) (m : Nat) (rd : List Nat) (hsrc : srcOf K0 s cy = some (src, m, rd)) (h0 : 0 < m) (hn : apdN rows.length rows.length m src bt True) :
    OpEff P o F0 K0 top ⟨.c (.gsl top (rows ++ src)), i :: rd, [(i, none), (top, some ⟨rows ++ src, s, e, false⟩)], top + 1⟩ := by
  intro n W F K I R a w hst hxx hk hf hd next Q hnext
  have hm : ∀ z ∈ [x, y], evf F z = evf F0 z := fun z hz => hxx z (by simpa [ho, Op.operands, Call.operands] using hz)
  have hu := hst.ev ((hm x (by simp)).trans hx)
  have hvy := hst.ev ((hm y (by simp)).trans hy)
  have htop := (hf top (Nat.le_refl _) (by simp)).1
  have hsrc' := srcOf_agree (fun j hj => hk j (List.mem_cons_of_mem _ hj)) hsrc
  have hsl := hn.len
  have hne : rows ++ src ≠ [] := by intro h; have := congrArg List.length h; simp [hsl] at this; omega
  rcases hu with ⟨rfl, hu⟩ | ⟨hr, p, c', hp, hu, hc1, hc2⟩
  · have h1 := hn.max
    have h2 := hn.room
    simp only [List.length_nil, Nat.zero_add] at h1 h2
    obtain ⟨g, cn, w', hrun, h3, h4⟩ := append_nil hst.wd (ty := o.type) ht hel htop hsrc' hn.len h0 hvy h1 h2
    unfold Oper.wp
    rw [builtin_append o x y t ho a.eval w (by rw [hu]; exact hrun)]
    have h5 : Wd W (kup K [(i, none), (top, some ⟨[] ++ src, s, e, false⟩)]) (ext I top ⟨g, s, cn⟩) R w' := h4.kill i
    exact hnext _ _ _ _ (hst.put (.ext htop) (.refl _) h5 hd (.inr ⟨hne, ⟨g, s, cn⟩, cn, by simp [Wx.ext], by simp [hsl], by simpa [hsl] using h3, Nat.le_refl _⟩)) (.ext htop) dom_ext (.refl _)
  · have hbK : K i = some ⟨rows, s, e, false⟩ := (hk i (by simp)).trans (hK.trans (gB_ne hr))
    obtain ⟨g, cn, tot, w', hrun, h1, h2, h3⟩ := append_own hst.wd (ty := o.type) ht hel hbK hp htop rfl rfl (Nat.le_refl _) hc1 hc2 hsrc' hn.len hn.one hvy hn.max hn.room
    simp only [List.take_length] at h3
    unfold Oper.wp
    rw [builtin_append o x y t ho a.eval w (by rw [hu]; exact hrun)]
    exact hnext _ _ _ _ (hst.put (.ext htop) (.refl _) h3 hd (.inr ⟨hne, ⟨g, s, tot⟩, cn, by simp [Wx.ext], by simp [hsl], by simpa [hsl] using h1, h2⟩)) (.ext htop) dom_ext (.refl _)
/-- make. -/
theorem e_make (t : TypeId) (x y : Operand) (ho : o.op = .makeSlice t x y) (ti : TI) (ht : tiOf P t = some ti) (e s bt : Nat) (hel : ti.elem = some (e, s, bt)) (te : TI) (hte : tiOf P e = some te) (kx ky : IntKind) (l c : Int) (hx : evf F0 x = some (.val (.int kx l))) (hy : evf F0 y = some (.val (.int ky c)))
    (l' c' : Nat) (hl : l = (l' : Int)) (hc : c = (c' : Int)) (hlc : l' ≤ c') (hmax : c' ≤ maxLen) (hroom : bt * c' ≤ 140737488355328) :
    OpEff P o F0 K0 top ⟨.c (.osl top 0 l' (some c')), [], [(top, some ⟨List.replicate l' (te.zero.map .v), s, e, false⟩)], top + 1⟩ := by
  obtain ⟨hu, inf, z, hinf, hz, hs1, hs2, hs3⟩ := tiOf_elem ht hel
  obtain ⟨_, inf', z', _, hinf', hz', _, _, hzc⟩ := tiOf_load hte
  rw [hinf] at hinf'; cases hinf'
  rw [hz] at hz'; cases hz'
  subst hs1 hs2 hl hc
  intro n W F K I R a w hst hxx hk hf hd next Q hnext
  have hm : ∀ z ∈ [x, y], evf F z = evf F0 z := fun z hz => hxx z (by simpa [ho, Op.operands] using hz)
  have h1 := ev_plain hst ((hm x (by simp)).trans hx)
  have h2 := ev_plain hst ((hm y (by simp)).trans hy)
  have htop := hf top (Nat.le_refl _) (by simp)
  have hb' : (inf.bytes : Int) * (c' : Int) ≤ 281474976710656 := by
    have h : ((inf.bytes * c' : Nat) : Int) ≤ 281474976710656 := by omega
    rwa [Int.natCast_mul] at h
  have hmx : (c' : Int) ≤ 9223372036854775807 := by simp only [maxLen] at hmax; omega
  have hr := run_make (P := P) w t e inf z hu hinf hz kx ky l' c' (by omega) (by omega) hb' hmx
  simp only [Int.toNat_natCast] at hr
  have hzl : te.zero.length = inf.size := by rw [← hzc]; simpa using hs3
  have hw := hst.wd.new htop.1 htop.2 ⟨List.replicate l' (te.zero.map .v), inf.size, e, false⟩ (fun r hr => by rw [List.eq_of_mem_replicate hr]; simpa using hzl) c' (by simpa using hlc) hmax (w' := w.alloc (.cells (madeCells z.cells (c' * inf.size)) e)) ((Below.refl _ w).alloc (Nat.le_refl _) _) (Nat.le_refl _) _ (heap_push w _) (size_madeCells _ _) (fun q r k cc hq hkk => by
    have hql := (List.getElem?_eq_some_iff.1 hq).1
    simp only [List.length_replicate] at hql
    have hrr := List.eq_of_mem_replicate (List.mem_of_getElem? hq)
    subst hrr
    have hkl := (List.getElem?_eq_some_iff.1 hkk).1
    simp only [List.length_map, hzl] at hkl
    simp only [List.getElem?_map, Option.map_eq_some_iff] at hkk
    obtain ⟨v, hv, rfl⟩ := hkk
    have h3 := Nat.mul_le_mul_right inf.size (show q + 1 ≤ c' by omega)
    rw [Nat.add_mul] at h3
    refine ⟨v, ?_, rfl⟩
    rw [← hzc] at hv
    simp only [madeCells, Array.getElem?_map, Array.getElem?_range]
    rw [if_pos (by omega)]
    simp only [Option.map_some, hs3]
    rw [show (q * inf.size + k) % inf.size = k by rw [Nat.mul_comm, Nat.mul_add_mod, Nat.mod_eq_of_lt hkl]]
    simp only [Array.getElem?_toList] at hv
    simp [getElem!_def, hv])
  unfold Oper.wp
  have hrun : (execOp a.eval o).run P w = .ok (.value (.slice (some ⟨w.heap.size, 0, none⟩) l' c')) (w.alloc (.cells (madeCells z.cells (c' * inf.size)) e)) := by
    simp only [execOp, ho, h1, h2]
    rw [Sem.run_bind, hr]; rfl
  rw [hrun]
  exact hnext _ _ _ _ (hst.put (.ext htop.1) (.refl _) hw hd ⟨_, c', by simp [Wx.ext]; rfl, by simp, hlc, by simp, fun _ h => by cases h; rfl⟩) (.ext htop.1) dom_ext (.refl _)
/-- A literal of a slice. -/
theorem e_lit (t : TypeId) (len : Nat) (ps : Array (Nat × Operand)) (ho : o.op = .buildSlice t len ps) (ti : TI) (ht : tiOf P t = some ti) (e s bt : Nat) (hel : ti.elem = some (e, s, bt)) (te : TI) (hte : tiOf P e = some te) (hs : Nat.blt 0 s = true) (hlen : Nat.ble (len * s) 16777216 = true) (avs : List (Nat × A0)) (hx : evb F0 ps.toList = some avs)
    (out : List Ce) (hout : fillC ((List.range len).map fun i => (i * s, s, false)) (List.replicate len (te.zero.map Ce.v)).flatten avs = some out) :
    OpEff P o F0 K0 top ⟨.c (.osl top 0 len (some len)), [], [(top, some ⟨(List.range len).map fun q => (out.drop (q * s)).take s, s, e, false⟩)], top + 1⟩ := by
  obtain ⟨hu, inf, z, hinf, hz, hs1, hs2, hs3⟩ := tiOf_elem ht hel
  obtain ⟨_, inf', z', _, hinf', hz', _, _, hzc⟩ := tiOf_load hte
  rw [hinf] at hinf'; cases hinf'
  rw [hz] at hz'; cases hz'
  subst hs1 hs2
  have hs0 : 0 < inf.size := by simpa [Nat.blt_eq] using hs
  have hle : len * inf.size ≤ 16777216 := by simpa [Nat.ble_eq] using hlen
  have hzl : te.zero.length = inf.size := by rw [← hzc]; simpa using hs3
  intro n W F K I R a w hst hxx hk hf hd next Q hnext
  have htop := hf top (Nat.le_refl _) (by simp)
  have ev := hst.evb (fun q hq => hxx q.2 (by simp [ho, Op.operands]; exact ⟨q.1, by simpa using hq⟩)) hx
  have hzz : All2 (Ce.rel I R) (List.replicate len (te.zero.map Ce.v)).flatten ((Array.range (len * inf.size)).map (z.cells[· % z.cells.size]!)).toList := by
    refine all2_flat (sz := inf.size) (fun r hr => by rw [List.eq_of_mem_replicate hr]; simpa using hzl) (by simp) fun q r k cc hq hkk => ?_
    have hql := (List.getElem?_eq_some_iff.1 hq).1
    simp only [List.length_replicate] at hql
    have hrr := List.eq_of_mem_replicate (List.mem_of_getElem? hq)
    subst hrr
    have hkl := (List.getElem?_eq_some_iff.1 hkk).1
    simp only [List.length_map, hzl] at hkl
    simp only [List.getElem?_map, Option.map_eq_some_iff] at hkk
    obtain ⟨v, hv, rfl⟩ := hkk
    have h3 := Nat.mul_le_mul_right inf.size (show q + 1 ≤ len by omega)
    rw [Nat.add_mul] at h3
    refine ⟨v, ?_, rfl⟩
    rw [← hzc] at hv
    simp only [Array.getElem?_toList, Array.getElem?_map, Array.getElem?_range]
    rw [if_pos (by omega)]
    simp only [Option.map_some, hs3]
    rw [show (q * inf.size + k) % inf.size = k by rw [Nat.mul_comm, Nat.mul_add_mod, Nat.mod_eq_of_lt hkl]]
    simp only [Array.getElem?_toList] at hv
    simp [getElem!_def, hv]
  obtain ⟨arr, h1, h2⟩ := fill_rel (I := I) (R := R) (place := fun i => some (i * inf.size, inf.size)) (by
      intro i off sz r hi
      simp only [List.getElem?_map, Option.map_eq_some_iff, Prod.mk.injEq] at hi
      obtain ⟨i', hi', rfl, rfl, _⟩ := hi
      have := (List.getElem?_eq_some_iff.1 hi').1
      simp only [List.length_range] at this
      rw [List.getElem?_range this] at hi'
      simp only [Option.some.injEq] at hi'
      rw [hi']) hzz ev hout
  have hol : out.length = len * inf.size := by
    have key : ∀ (offs : List (Nat × Nat × Bool)) (parts : List (Nat × A0)) (cs out : List Ce), fillC offs cs parts = some out → out.length = cs.length := by
      intro offs parts
      induction parts with
      | nil => intro cs out h; simp only [fillC, Option.some.injEq] at h; rw [← h]
      | cons p parts ih =>
        intro cs out h
        obtain ⟨i, v⟩ := p
        simp only [fillC] at h
        split at h
        · split at h
          · rw [ih _ _ h, spl_length]
          · cases h
        · cases h
    rw [key _ _ _ _ hout, flat_len (sz := inf.size) fun r hr => by rw [List.eq_of_mem_replicate hr]; simpa using hzl]
    simp
  have hal : arr.size = len * inf.size := by rw [← hol, h2.length]; simp
  have hrun : (execOp a.eval o).run P w = .ok (.value (.slice (some ⟨w.heap.size, 0, none⟩) len len)) (w.alloc (.cells arr e)) := by
    have hp : (ps.map fun (i, x) => (i, a.eval x)).toList = ps.toList.map fun q => (q.1, a.eval q.2) := by simp
    simp only [execOp, ho]
    have : (Instr.buildSlice t len (ps.map fun (i, x) => (i, a.eval x))).run P w = .ok (.slice (some ⟨w.heap.size, 0, none⟩) len len) (w.alloc (.cells arr e)) := by
      unfold Instr.buildSlice
      rw [Sem.run_bind, run_underlying hu]
      simp only [Result.andThen_ok]
      rw [Sem.run_bind, show (sizeOf e).run P w = .ok inf.size w by simp [sizeOf, typeInfo, hinf]]
      simp only [Result.andThen_ok]
      rw [if_neg (by omega)]
      by_cases hl0 : len = 0
      · subst hl0
        simp only [Nat.zero_mul] at h1 ⊢
        simp only [if_true, Sem.run_bind, Sem.run_pure, Result.andThen_ok, Array.range_zero', List.map_toArray, List.map_nil, hp] at h1 ⊢
        have h1' : Instr.fill (fun i => some (i * inf.size, inf.size)) #[] (ps.toList.map fun q => (q.1, a.eval q.2)) = some arr := by simpa using h1
        simp [h1', newRow]
      · have hne : ¬ len * inf.size = 0 := by
          intro h
          rcases Nat.mul_eq_zero.1 h with h | h <;> omega
        rw [if_neg hne]
        have hzv : (zeroValue e).run P w = .ok z w := by simp [zeroValue, typeInfo, hinf, hz]
        simp only [Sem.run_bind, hzv, Result.andThen_ok, Sem.run_pure, hp, h1]
        simp [newRow]
    rw [Sem.run_bind, this]; rfl
  have hw := hst.wd.new htop.1 htop.2 ⟨(List.range len).map fun q => (out.drop (q * inf.size)).take inf.size, inf.size, e, false⟩ (fun r hr => by
      obtain ⟨q, hq, rfl⟩ := List.mem_map.1 hr
      have hq' := List.mem_range.1 hq
      have h3 := Nat.mul_le_mul_right inf.size (show q + 1 ≤ len by omega)
      rw [Nat.add_mul] at h3
      simp; omega) len (by simp) (by have := Nat.le_mul_of_pos_right len hs0; simp only [maxLen]; omega) (w' := w.alloc (.cells arr e)) ((Below.refl _ w).alloc (Nat.le_refl _) _) (Nat.le_refl _) _ (heap_push w _) hal (fun q r k cc hq hkk => by
    simp only [List.getElem?_map, Option.map_eq_some_iff] at hq
    obtain ⟨q', hq', rfl⟩ := hq
    have := (List.getElem?_eq_some_iff.1 hq').1
    simp only [List.length_range] at this
    rw [List.getElem?_range this] at hq'
    simp only [Option.some.injEq] at hq'
    subst hq'
    rw [List.getElem?_take] at hkk
    split at hkk
    · rw [List.getElem?_drop] at hkk
      obtain ⟨u, hu', hr⟩ := h2.get hkk
      exact ⟨u, by simpa using hu', hr⟩
    · cases hkk)
  unfold Oper.wp
  rw [hrun]
  exact hnext _ _ _ _ (hst.put (.ext htop.1) (.refl _) hw hd ⟨_, len, by simp [Wx.ext]; rfl, by simp, Nat.le_refl _, by simp, fun _ h => by cases h; rfl⟩) (.ext htop.1) dom_ext (.refl _)
def bnd (o : Option Int) (l d : Nat) : Prop :=
  match o with
  | some x => x = (l : Int)
  | none => l = d
def bndo (F : Nat → Option AV) (o : Option Operand) (l d : Nat) : Prop :=
  match o with
  | some y => ∃ k, evf F y = some (.val (.int k (l : Int)))
  | none => l = d
/-- A slice of a slice: what is asked of its bounds. -/
structure slN (lo hi : Option Int) (len : Nat) (cap : Option Nat) (A : Nat → Nat → Prop) : Prop where
  h : ∃ l h : Nat, bnd lo l 0 ∧ bnd hi h len ∧ l ≤ h ∧ (h ≤ len ∨ ∃ c, cap = some c ∧ h ≤ c) ∧ A l h
theorem slice_run {t e : TypeId} {ti : TI} (ht : tiOf P t = some ti) {s bt : Nat} (hel : ti.elem = some (e, s, bt)) {w : World} (ad : Option Addr) (len cap : Nat) (lo hi : Option Value) (l h : Nat)
    (hlo : (match lo with | some x => ∃ k, x = .int k (l : Int) | none => l = 0)) (hhi : (match hi with | some x => ∃ k, x = .int k (h : Int) | none => h = len)) (hlh : l ≤ h) (hhc : h ≤ cap) (hlc : len ≤ cap) :
    (Instr.sliceAt t (.slice ad len cap) lo hi none).run P w = .ok (.slice (if cap = l then ad else ad.map (·.add (l * s))) (h - l) (cap - l)) w := by
  obtain ⟨hu, inf, z, hinf, hz, hs1, hs2, hs3⟩ := tiOf_elem ht hel
  have hu' : P.underlying t = some (.slice (P.elem t)) := by
    have : P.elem t = e := by simp [Program.elem, hu]
    rw [this]; exact hu
  have hsz : (sizeOf (P.elem t)).run P w = .ok s w := by
    have : P.elem t = e := by simp [Program.elem, hu]
    rw [this]; simp [sizeOf, typeInfo, hinf, hs1]
  rw [run_sliceAt_slice w t _ lo hi none hu']
  cases lo with
  | none =>
    simp only at hlo
    subst hlo
    cases hi with
    | none => simp only at hhi; subst hhi; rw [run_slice_all w t ad h cap hu', hsz]; simp [Result.andThen, sliced]
    | some x => obtain ⟨k, rfl⟩ := hhi; rw [run_slice_h w t ad len cap hu' k h (by omega) (by omega), hsz]; simp [Result.andThen, sliced]
  | some x =>
    obtain ⟨k, rfl⟩ := hlo
    cases hi with
    | none => simp only at hhi; subst hhi; rw [run_slice_l w t ad h cap hu' k l (by omega) (by omega), hsz]; simp [Result.andThen, sliced]
    | some x => obtain ⟨k', rfl⟩ := hhi; rw [run_slice_lh w t ad len cap hu' k k' l h (by omega) (by omega) (by omega), hsz]; simp [Result.andThen, sliced]
/-- Of an own block, from its beginning on or short of its end. -/
theorem y_slo (t : TypeId) (x : Operand) (lo hi : Option Operand) (ho : o.op = .slice t x lo hi none) (ti : TI) (ht : tiOf P t = some ti) (e s bt : Nat) (hel : ti.elem = some (e, s, bt)) (i q m : Nat) (c : Option Nat) (hx : evf F0 x = some (.c (.osl i q m c)) ∨ (q = 0 ∧ c = none ∧ ∃ rows, m = rows.length ∧ 0 < rows.length ∧ evf F0 x = some (.c (.gsl i rows)))) (b : Blk) (hb : K0 i = some b) (hs : Nat.beq b.sz s = true) (l h : Nat)
    (hlo : bndo F0 lo l 0) (hhi : bndo F0 hi h m) (hlh : l ≤ h) (hhc : h ≤ m ∨ ∃ c0, c = some c0 ∧ h ≤ c0) (hne : l = 0 ∨ l < h) :
    Yv P o F0 K0 [i] (.c (.osl i (q + l) (h - l) (c.map (· - l)))) := by
  intro n W F K I R a w hst hxx hk
  have hop : ∀ z, (z = x ∨ lo = some z ∨ hi = some z) → evf F z = evf F0 z := fun z hz => hxx z (by
    simp only [ho, Op.operands]
    rcases hz with rfl | rfl | rfl <;> simp)
  obtain ⟨p, c', hp, hu, h1, h2, h3⟩ : ∃ p c', I i = some p ∧ a.eval x = .slice (some ⟨p.b, q * p.sz, none⟩) m c' ∧ m ≤ c' ∧ q + c' ≤ p.tot ∧ ∀ c0, c = some c0 → c' = c0 := by
    rcases hx with hx | ⟨rfl, rfl, rows, rfl, h0, hx⟩
    · exact hst.ev ((hop x (.inl rfl)).trans hx)
    · rcases hst.ev ((hop x (.inl rfl)).trans hx) with ⟨rfl, _⟩ | ⟨_, p, c', hp, hx', g1, g2⟩
      · simp at h0
      · exact ⟨p, c', hp, by simpa using hx', g1, by omega, fun _ h => by cases h⟩
  obtain ⟨p', hp', hbk⟩ := hst.wd.blk i b ((hk i (by simp)).trans hb)
  rw [hp] at hp'; cases hp'
  have hps : p.sz = s := hbk.sz.trans (Nat.eq_of_beq_eq_true hs)
  have hhc' : h ≤ c' := by
    rcases hhc with hhc | ⟨c0, h4, h5⟩
    · omega
    · rw [h3 c0 h4]; exact h5
  have hrun := slice_run ht hel (w := w) (some ⟨p.b, q * p.sz, none⟩) m c' (lo.map a.eval) (hi.map a.eval) l h (by
      cases lo with
      | none => exact hlo
      | some y => obtain ⟨k, hy⟩ := hlo; exact ⟨k, ev_plain hst ((hop y (.inr (.inl rfl))).trans hy)⟩) (by
      cases hi with
      | none => exact hhi
      | some y => obtain ⟨k, hy⟩ := hhi; exact ⟨k, ev_plain hst ((hop y (.inr (.inr rfl))).trans hy)⟩) hlh hhc' h1
  refine ⟨_, ?_, p, c' - l, hp, rfl, by omega, by omega, fun c0 hc0 => ?_⟩
  · simp only [execOp, ho, hu]
    rw [Sem.run_bind, Option.map_none, hrun]
    simp only [Result.andThen_ok, Sem.run_pure, hps]
    congr 3
    split
    · rename_i he
      have : l = 0 := by rcases hne with h | h <;> omega
      subst this; simp
    · simp only [Option.map_some, Addr.add_mid, Nat.add_mul]
  · cases c with
    | none => cases hc0
    | some c1 => simp only [Option.map_some, Option.some.injEq] at hc0; rw [h3 c1 rfl]; exact hc0
/-- Of a slice that is only read. -/
theorem y_slr (t : TypeId) (x : Operand) (lo hi : Option Operand) (ho : o.op = .slice t x lo hi none) (ti : TI) (ht : tiOf P t = some ti) (e s bt : Nat) (hel : ti.elem = some (e, s, bt)) (fl : Bool) (rows : List (List RT)) (hx : evf F0 x = some (.c (.ro fl s rows))) (l h : Nat)
    (hlo : bndo F0 lo l 0) (hhi : bndo F0 hi h rows.length) (hlh : l ≤ h) (hhc : h ≤ rows.length) :
    Yv P o F0 K0 [] (.c (.ro fl s ((rows.drop l).take (h - l)))) := by
  intro n W F K I R a w hst hxx hk
  have hop : ∀ z, (z = x ∨ lo = some z ∨ hi = some z) → evf F z = evf F0 z := fun z hz => hxx z (by
    simp only [ho, Op.operands]
    rcases hz with rfl | rfl | rfl <;> simp)
  have hu := hst.ev ((hop x (.inl rfl)).trans hx)
  simp only [AV.rel, A0.rel, Ce.rel] at hu
  have hlo' : (match lo.map a.eval with | some x => ∃ k, x = Value.int k (l : Int) | none => l = 0) := by
    cases lo with
    | none => exact hlo
    | some y => obtain ⟨k, hy⟩ := hlo; exact ⟨k, ev_plain hst ((hop y (.inr (.inl rfl))).trans hy)⟩
  have hhi' : (match hi.map a.eval with | some x => ∃ k, x = Value.int k (h : Int) | none => h = rows.length) := by
    cases hi with
    | none => exact hhi
    | some y => obtain ⟨k, hy⟩ := hhi; exact ⟨k, ev_plain hst ((hop y (.inr (.inr rfl))).trans hy)⟩
  simp only [execOp, ho]
  generalize a.eval x = u at hu
  cases hu with
  | nil =>
    simp only [List.length_nil] at hhc hhi'
    have h0 : h = 0 := by omega
    have l0 : l = 0 := by omega
    subst h0 l0
    refine ⟨.slice none 0 0, ?_, show Rd (R fl) (.ro s _) _ from by simpa using Rd.nil s⟩
    rw [Sem.run_bind, Option.map_none, slice_run ht hel (w := w) none 0 0 _ _ 0 0 hlo' hhi' (Nat.le_refl _) (Nat.le_refl _) (Nat.le_refl _)]
    rfl
  | emp _ ad cap =>
    simp only [List.length_nil] at hhc hhi'
    have h0 : h = 0 := by omega
    have l0 : l = 0 := by omega
    subst h0 l0
    have hrun := slice_run ht hel (w := w) (some ad) 0 cap _ _ 0 0 hlo' hhi' (Nat.le_refl _) (Nat.zero_le _) (Nat.zero_le _)
    refine ⟨.slice (if cap = 0 then some ad else (some ad).map (·.add (0 * s))) (0 - 0) (cap - 0), ?_, show Rd (R fl) (.ro s _) _ from ?_⟩
    · rw [Sem.run_bind, Option.map_none, hrun]; rfl
    · simp only [List.drop_nil, List.take_nil]
      split
      · exact Rd.emp s ad _
      · exact Rd.emp s _ _
  | ro _ _ b off cap val hl hcap hc hrr =>
    have hrun := slice_run ht hel (w := w) (some ⟨b, off, none⟩) rows.length cap _ _ l h hlo' hhi' hlh (by omega) hcap
    refine ⟨.slice (if cap = l then some ⟨b, off, none⟩ else (some (⟨b, off, none⟩ : Addr)).map (·.add (l * s))) (h - l) (cap - l), ?_, ?_⟩
    · rw [Sem.run_bind, Option.map_none, hrun]; rfl
    · have hlen : ((rows.drop l).take (h - l)).length = h - l := by simp; omega
      have key : ∀ off', (l < cap → off' = off + l * s) → Rd (R fl) (.ro s ((rows.drop l).take (h - l))) (.slice (some ⟨b, off', none⟩) (h - l) (cap - l)) := by
        intro off' hoff
        have hget : ∀ q row, ((rows.drop l).take (h - l))[q]? = some row → rows[l + q]? = some row := fun q row hq => by
          rw [List.getElem?_take] at hq
          split at hq
          · rwa [List.getElem?_drop] at hq
          · cases hq
        have hof : ∀ q row, ((rows.drop l).take (h - l))[q]? = some row → off' = off + l * s := fun q row hq => hoff (by
          have h1 := (List.getElem?_eq_some_iff.1 (hget q row hq)).1
          omega)
        have := Rd.ro (R := R fl) s ((rows.drop l).take (h - l)) b off' (cap - l) (fun q k => val (l + q) k) (fun row hrow => hl row (List.mem_of_mem_drop (List.mem_of_mem_take hrow))) (by rw [hlen]; omega)
          (fun q row k t hq hkk => by
            rw [hof q row hq, show off + l * s + q * s + k = off + (l + q) * s + k by rw [Nat.add_mul]; omega]
            exact hc (l + q) row k t (hget q row hq) hkk) (fun q row k t hq hkk => hrr (l + q) row k t (hget q row hq) hkk)
        rw [hlen] at this
        exact this
      show Rd (R fl) _ _
      by_cases hcl : cap = l
      · rw [if_pos hcl]; exact key off (fun hlt => by omega)
      · rw [if_neg hcl]; simp only [Option.map_some, Addr.add_mid]; exact key _ (fun _ => rfl)
end
end Go.Proofs.Ytllnmdmmmkoiaaa.Wx
