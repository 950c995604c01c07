/-
  The third layer: own maps keyed by integers whose entries are told by a list of keys and elements.
-/
import Derived.Test.YtllnmdmmmkoiaaaWze
namespace Go.Proofs.Ytllnmdmmmkoiaaa.Wx.Z
open Go Go.RowKit
set_option linter.unusedVariables false

def lookK {α : Type} : List (Int × α) → Int → Option α
  | [], _ => none
  | (a, v) :: l, k => if a = k then some v else lookK l k
def putK {α : Type} : List (Int × α) → Int → α → List (Int × α)
  | [], k, v => [(k, v)]
  | (a, w) :: l, k, v => if a = k then (a, v) :: l else (a, w) :: putK l k v
section
variable {α : Type}
theorem look_put {k j : Int} {v : α} : ∀ {l : List (Int × α)}, lookK (putK l k v) j = if k = j then some v else lookK l j
  | [] => rfl
  | (a, w) :: l => by
    unfold putK
    by_cases h : a = k
    · subst h
      rw [if_pos rfl]
      simp only [lookK]
      by_cases hj : a = j
      · rw [if_pos hj, if_pos hj]
      · rw [if_neg hj, if_neg hj, if_neg hj]
    · rw [if_neg h]
      simp only [lookK]
      rw [look_put]
      by_cases hj : a = j
      · subst hj
        rw [if_pos rfl, if_neg (fun e => h e.symm)]; simp
      · rw [if_neg hj, if_neg hj]
theorem put_put {k : Int} {v w : α} : ∀ {l : List (Int × α)}, putK (putK l k v) k w = putK l k w
  | [] => by simp [putK]
  | (a, x) :: l => by
    simp only [putK]
    by_cases h : a = k
    · simp [h, putK]
    · simp only [if_neg h, putK, put_put]
theorem put_keys {k : Int} {v : α} : ∀ {l : List (Int × α)}, (putK l k v).map (·.1) = if k ∈ l.map (·.1) then l.map (·.1) else l.map (·.1) ++ [k]
  | [] => by simp [putK]
  | (a, x) :: l => by
    simp only [putK]
    by_cases h : a = k
    · subst h; simp
    · have h' : ¬ k = a := fun e => h e.symm
      simp only [if_neg h, List.map_cons, put_keys, List.mem_cons, h', false_or]
      split <;> simp
theorem put_nodup {k : Int} {v : α} {l : List (Int × α)} (h : (l.map (·.1)).Nodup) : ((putK l k v).map (·.1)).Nodup := by
  rw [put_keys]
  split
  · exact h
  · rename_i hk
    rw [List.nodup_append]
    exact ⟨h, by simp, fun a ha b hb => by simp at hb; subst hb; rintro rfl; exact hk ha⟩
theorem look_none {k : Int} : ∀ {l : List (Int × α)}, lookK l k = none ↔ k ∉ l.map (·.1)
  | [] => by simp [lookK]
  | (a, x) :: l => by
    simp only [lookK, List.map_cons, List.mem_cons, not_or]
    by_cases h : a = k
    · simp [h]
    · rw [if_neg h, look_none]; simp only [List.mem_map]; exact ⟨fun g => ⟨fun e => h e.symm, g⟩, fun g => g.2⟩
theorem look_mem {k : Int} {v : α} : ∀ {l : List (Int × α)}, (l.map (·.1)).Nodup → (lookK l k = some v ↔ (k, v) ∈ l)
  | [], _ => by simp [lookK]
  | (a, x) :: l, hn => by
    rw [List.map_cons, List.nodup_cons] at hn
    simp only [lookK, List.mem_cons, Prod.mk.injEq]
    by_cases h : a = k
    · subst h
      simp only [if_true, Option.some.injEq, true_and]
      constructor
      · rintro rfl; exact .inl rfl
      · rintro (rfl | h2)
        · rfl
        · exact absurd (List.mem_map_of_mem (f := (·.1)) h2) hn.1
    · rw [if_neg h, look_mem hn.2]
      exact ⟨.inr, fun g => g.resolve_left fun e => h e.1.symm⟩
/-- An own map's entries are those, in the order in which they were born. -/
structure MapL (q : IntKind) (en : α → A0) (es : Y.MS) (l : List (Int × α)) : Prop where
  ents : All2 (fun (e : Value × Nat × A0) (x : Int × α) => e.1 = Value.int q x.1 ∧ e.2.2 = en x.2) es.es l
  keys : (l.map (·.1)).Nodup
  born : (es.es.map (·.2.1)).Nodup
  less : ∀ e ∈ es.es, e.2.1 < es.c
variable {q : IntKind} {en : α → A0} {es : Y.MS} {l : List (Int × α)}
theorem MapL.nil {q : IntKind} {en : α → A0} : MapL q en ⟨[], 0⟩ [] := ⟨trivial, by simp, by simp, fun e h => by simp at h⟩
theorem same_now {k a : Int} : Instr.sameNow (.int q) (.int q k) (.int q a) = some (decide (k = a)) := by
  simp only [Instr.sameNow, if_true]; congr 1
theorem pos_look {k : Int} : ∀ {es : List (Value × Nat × A0)} {l : List (Int × α)} {i : Nat}, All2 (fun (e : Value × Nat × A0) (x : Int × α) => e.1 = Value.int q x.1 ∧ e.2.2 = en x.2) es l →
    (lookK l k = none → Y.posE q (.int q k) es i = some none) ∧ ∀ v, lookK l k = some v → ∃ j e, Y.posE q (.int q k) es i = some (some (i + j, e)) ∧ es[j]? = some e ∧ e.1 = .int q k ∧ e.2.2 = en v ∧ ∀ b w, All2 (fun (e : Value × Nat × A0) (x : Int × α) => e.1 = Value.int q x.1 ∧ e.2.2 = en x.2) (es.set j (.int q k, b, en w)) (putK l k w)
  | [], [], i, _ => ⟨fun _ => rfl, fun v h => by cases h⟩
  | e :: es, (a, x) :: l, i, h => by
    obtain ⟨h1, h2⟩ := pos_look (k := k) (i := i + 1) h.2
    have hk : e.1 = .int q a := h.1.1
    by_cases hka : k = a
    · subst hka
      refine ⟨fun hn => by simp [lookK] at hn, fun v hv => ?_⟩
      simp only [lookK, if_true, Option.some.injEq] at hv
      subst hv
      refine ⟨0, e, by simp [Y.posE, hk, same_now], rfl, hk, h.1.2, fun b w => ?_⟩
      simp only [List.set_cons_zero, putK, if_true]
      exact ⟨⟨rfl, rfl⟩, h.2⟩
    · have hak : ¬ a = k := fun e => hka e.symm
      have hp : ∀ i, Y.posE q (.int q k) (e :: es) i = Y.posE q (.int q k) es (i + 1) := fun i => by simp [Y.posE, hk, same_now, hka]
      rw [hp]
      simp only [lookK, if_neg hak]
      refine ⟨h1, fun v hv => ?_⟩
      obtain ⟨j, e', g1, g2, g3, g4, g5⟩ := h2 v hv
      refine ⟨j + 1, e', by rw [g1]; congr 3; omega, by simpa using g2, g3, g4, fun b w => ?_⟩
      simp only [List.set_cons_succ, putK, if_neg hak]
      exact ⟨h.1, g5 b w⟩
  | [], _ :: _, _, h => h.elim
  | _ :: _, [], _, h => h.elim
theorem put_new {k : Int} {v : α} : ∀ {l : List (Int × α)}, lookK l k = none → putK l k v = l ++ [(k, v)]
  | [], _ => rfl
  | (a, x) :: l, h => by
    simp only [lookK] at h
    split at h
    · cases h
    · rename_i hk; simp only [putK, if_neg hk, put_new h, List.cons_append]
/-- A look-up. -/
theorem MapL.look {z : Value} {k : Int} {A : A0 → Bool → Prop} (h : MapL q en es l) {z0 : α} (hz : Y.zeroA z = en z0) (hk : A (en ((lookK l k).getD z0)) (lookK l k).isSome) : lookN q z es k A := by
  obtain ⟨h1, h2⟩ := pos_look (k := k) (i := 0) h.ents
  cases hl : lookK l k with
  | none => rw [hl] at hk; exact ⟨_, _, by unfold Y.lookM; rw [h1 hl]; rfl, hz ▸ hk⟩
  | some v =>
    obtain ⟨j, e, g1, g2, g3, g4, g5⟩ := h2 v hl
    rw [hl] at hk
    exact ⟨_, _, by unfold Y.lookM; rw [g1]; rfl, g4 ▸ hk⟩
theorem born_set {j b : Nat} {e : Value × Nat × A0} {es : List (Value × Nat × A0)} (h : es[j]? = some e) (x : Value) (a : A0) : (es.set j (x, e.2.1, a)).map (·.2.1) = es.map (·.2.1) := by
  apply List.ext_getElem?
  intro i
  simp only [List.getElem?_map, List.getElem?_set]
  by_cases hi : j = i
  · subst hi
    obtain ⟨hj, hje⟩ := List.getElem?_eq_some_iff.1 h
    simp [hj, hje]
  · simp [hi]
theorem MapL.set {k : Int} {w : α} {j : Nat} {e : Value × Nat × A0} (h : MapL q en es l) (he : es.es[j]? = some e) (hs : All2 (fun (e : Value × Nat × A0) (x : Int × α) => e.1 = Value.int q x.1 ∧ e.2.2 = en x.2) (es.es.set j (.int q k, e.2.1, en w)) (putK l k w)) : MapL q en ⟨es.es.set j (.int q k, e.2.1, en w), es.c⟩ (putK l k w) := by
  refine ⟨hs, put_nodup h.keys, by rw [born_set (b := 0) he]; exact h.born, fun x hx => ?_⟩
  rcases List.mem_or_eq_of_mem_set hx with hx | rfl
  · exact h.less x hx
  · exact h.less e (List.mem_of_getElem? he)
theorem MapL.add {k : Int} {w : α} (h : MapL q en es l) (hk : lookK l k = none) : MapL q en ⟨es.es ++ [(.int q k, es.c, en w)], es.c + 1⟩ (putK l k w) := by
  refine ⟨by rw [put_new hk]; exact Y.All2.push h.ents ⟨rfl, rfl⟩, put_nodup h.keys, ?_, fun x hx => ?_⟩
  · rw [List.map_append, List.nodup_append]
    refine ⟨h.born, by simp, fun a ha b hb => ?_⟩
    obtain ⟨e, he, rfl⟩ := List.mem_map.1 ha
    simp at hb; subst hb
    have := h.less e he
    omega
  · rcases List.mem_append.1 hx with hx | hx
    · have := h.less x hx; show _ < es.c + 1; omega
    · simp at hx; subst hx; show es.c < es.c + 1; omega
/-- A store. -/
theorem MapL.upd {k : Int} {v : α} {A : Y.MS → Prop} (h : MapL q en es l) (hk : ∀ es', MapL q en es' (putK l k v) → A es') : updN q es k (en v) A := by
  obtain ⟨h1, h2⟩ := pos_look (k := k) (i := 0) h.ents
  cases hl : lookK l k with
  | none => exact ⟨_, by rw [Y.updM, h1 hl], hk _ (h.add hl)⟩
  | some w =>
    obtain ⟨j, e, g1, g2, g3, g4, g5⟩ := h2 w hl
    exact ⟨_, by rw [Y.updM, g1], hk _ (by simpa using h.set (w := v) g2 (g5 e.2.1 v))⟩
theorem MapL.upd' {k : Int} {v : α} {a : A0} {A : Y.MS → Prop} (h : MapL q en es l) (ha : a = en v) (hk : ∀ es', MapL q en es' (putK l k v) → A es') : updN q es k a A := by subst ha; exact h.upd hk
/-- An entry that is read, so that it may be written. -/
theorem MapL.ent {z : Value} {k : Int} {A : Y.MS → A0 → Nat → Prop} (h : MapL q en es l) {z0 : α} (hz : Y.zeroA z = en z0) (hk : ∀ es' b, MapL q en es' (putK l k ((lookK l k).getD z0)) → (∃ a, (Value.int q k, b, a) ∈ es'.es) → A es' (en ((lookK l k).getD z0)) b) : entN q z es k A := by
  obtain ⟨h1, h2⟩ := pos_look (k := k) (i := 0) h.ents
  cases hl : lookK l k with
  | none => rw [hl] at hk; exact ⟨_, _, _, by rw [Y.entM, h1 hl], hz ▸ hk _ _ (h.add hl) ⟨en z0, by simp⟩⟩
  | some w =>
    obtain ⟨j, e, g1, g2, g3, g4, g5⟩ := h2 w hl
    rw [hl] at hk
    refine ⟨_, _, _, by rw [Y.entM, g1], ?_⟩
    rw [g4]
    refine hk _ _ (by simpa using h.set (w := w) g2 (g5 e.2.1 w)) ⟨en w, ?_⟩
    have := (List.getElem?_eq_some_iff.1 g2).1
    simp only [Nat.zero_add]
    exact List.mem_of_getElem? (by rw [List.getElem?_set_self this])
theorem stE_at {b : Nat} : ∀ {es : List (Value × Nat × A0)} {i : Nat} {e : Value × Nat × A0}, (es.map (·.2.1)).Nodup → e ∈ es → ∃ j, Y.stE (e.2.1 : Int) es i = some (i + j) ∧ es[j]? = some e
  | [], _, _, _, h => by simp at h
  | x :: es, i, e, hn, h => by
    rw [List.map_cons, List.nodup_cons] at hn
    unfold Y.stE
    by_cases hx : x.2.1 = e.2.1
    · have : x = e := by
        rcases List.mem_cons.1 h with rfl | h
        · rfl
        · exact absurd (List.mem_map.2 ⟨e, h, hx.symm⟩) hn.1
      subst this
      simp only [decide_true]
      exact ⟨0, rfl, rfl⟩
    · have hd : decide ((x.2.1 : Int) = (e.2.1 : Int)) = false := decide_eq_false (by omega)
      rw [hd]
      simp only
      obtain ⟨j, g1, g2⟩ := stE_at (b := b) (i := i + 1) hn.2 (by
        rcases List.mem_cons.1 h with rfl | h
        · exact absurd rfl hx
        · exact h)
      exact ⟨j + 1, by rw [g1]; congr 1; omega, by simpa using g2⟩
theorem all2_at {β γ : Type} {r : β → γ → Prop} {a : List β} {b : List γ} (h : All2 r a b) {j : Nat} {x : β} (hx : a[j]? = some x) : ∃ y, b[j]? = some y ∧ r x y := by
  induction a generalizing b j with
  | nil => simp at hx
  | cons x0 a ih => cases b with
    | nil => exact h.elim
    | cons y0 b => cases j with
      | zero => simp at hx; subst hx; exact ⟨y0, rfl, h.1⟩
      | succ j => exact ih h.2 (by simpa using hx)
/-- The entry, written. -/
theorem MapL.putE {k : Int} {v : α} {b : Nat} {A : Y.MS → Prop} (h : MapL q en es l) (hb : ∃ a, (Value.int q k, b, a) ∈ es.es) (hk : ∀ es', MapL q en es' (putK l k v) → A es') : putN es (b : Int) (en v) A := by
  obtain ⟨a, ha⟩ := hb
  obtain ⟨j, g1, g2⟩ := stE_at (b := 0) (i := 0) h.born ha
  simp only [Nat.zero_add] at g1
  refine ⟨⟨es.es.set j (.int q k, b, en v), es.c⟩, by rw [Y.putM, g1]; simp only [g2], hk _ ?_⟩
  obtain ⟨y, hy, hr⟩ := all2_at h.ents g2
  have hyk : y.1 = k := by
    have := hr.1; simp only [Value.int.injEq, true_and] at this; exact this.symm
  have hlk : lookK l k = some y.2 := (look_mem h.keys).2 (by rw [← hyk]; exact List.mem_of_getElem? hy)
  obtain ⟨_, h2⟩ := pos_look (k := k) (i := 0) h.ents
  obtain ⟨j', e, p1, p2, p3, p4, p5⟩ := h2 _ hlk
  have hjj : j' = j := by
    obtain ⟨y', hy', hr'⟩ := all2_at h.ents p2
    have hk' : y'.1 = k := by
      have := hr'.1; rw [p3] at this; simp only [Value.int.injEq, true_and] at this; exact this.symm
    have hl := List.getElem?_eq_some_iff.1 hy
    have hl' := List.getElem?_eq_some_iff.1 hy'
    have hnd := h.keys
    have e1 : (l.map (·.1))[j]? = some k := by simp [hy, hyk]
    have e2 : (l.map (·.1))[j']? = some k := by simp [hy', hk']
    exact (List.getElem?_inj (by simpa using hl'.1) hnd).1 (e2.trans e1.symm)
  subst hjj
  rw [g2] at p2; cases p2
  exact h.set g2 (p5 b v)
theorem MapL.putE' {k : Int} {v : α} {b : Nat} {a : A0} {A : Y.MS → Prop} (h : MapL q en es l) (ha : a = en v) (hb : ∃ a, (Value.int q k, b, a) ∈ es.es) (hk : ∀ es', MapL q en es' (putK l k v) → A es') : putN es (b : Int) a A := by subst ha; exact h.putE hb hk
theorem all2_len {β γ : Type} {r : β → γ → Prop} : ∀ {a : List β} {b : List γ}, All2 r a b → a.length = b.length
  | [], [], _ => rfl
  | _ :: _, _ :: _, h => by simp [all2_len h.2]
  | [], _ :: _, h => h.elim
  | _ :: _, [], h => h.elim
theorem MapL.len {A : Int → Prop} (h : MapL q en es l) (hk : A (l.length : Int)) : mlenN es A := ⟨_, by rw [all2_len h.ents], hk⟩
theorem map_id_all2 {β γ : Type} {r : β → γ → Prop} {f : β → β} (hf : ∀ x y, r x y → f x = x) : ∀ {a : List β} {b : List γ}, All2 r a b → a.map f = a
  | [], [], _ => rfl
  | x :: a, y :: b, h => by rw [List.map_cons, hf x y h.1, map_id_all2 hf h.2]
  | [], _ :: _, h => h.elim
  | _ :: _, [], h => h.elim
theorem MapL.ren {r : Nat → Nat} (h : MapL q en es l) (hen : ∀ x, (en x).ren r = en x) : (Ob.m es).ren r = .m es := by
  obtain ⟨e, c⟩ := es
  simp only [Ob.ren, Ob.m.injEq, Y.MS.mk.injEq, and_true]
  exact map_id_all2 (fun x y hxy => by
    obtain ⟨a, b, c⟩ := x
    have h2 : c = en y.2 := hxy.2
    subst h2
    simp only [hen]) h.ents
theorem map_sub {K : Kr} {r : Nat → Nat} {j : Nat} {es : Y.MS} (hr : (Ob.m es).ren r = .m es) (h : kz K (r j) = some (.m es)) : ∀ b, some (Ob.m es) = some b → kz K (r j) = some (b.ren r) := fun b hb => by
  cases hb; rw [hr]; exact h
theorem it_sub {K : Kr} {r : Nat → Nat} {j : Nat} {x : Y.IS} (h : kz K (r j) = some (.i ⟨r x.m, x.since, x.seen, x.last⟩)) : ∀ b, some (Ob.i x) = some b → kz K (r j) = some (b.ren r) := fun b hb => by
  cases hb; exact h
theorem MapL.inL {L : List Nat} (h : MapL q en es l) (hen : ∀ x, (en x).inB L = true) : (Ob.m es).inL L = true := by
  show es.es.all _ = true
  rw [List.all_eq_true]
  intro e he
  obtain ⟨j, hj⟩ := List.getElem?_of_mem he
  obtain ⟨y, _, hr⟩ := all2_at h.ents hj
  rw [hr.2]; exact hen _
/-! ### Going through -/
/-- What is left to come, in whatever order. -/
structure LeftL (q : IntKind) (en : α → A0) (es : Y.MS) (seen : List Nat) (r : List (Int × α)) : Prop where
  left : ∃ fs : List (Value × Nat × A0), (es.es.filter fun e => !seen.contains e.2.1).Perm fs ∧ All2 (fun (e : Value × Nat × A0) (x : Int × α) => e.1 = Value.int q x.1 ∧ e.2.2 = en x.2) fs r
theorem MapL.left (h : MapL q en es l) : LeftL q en es [] l := ⟨es.es, by rw [List.filter_eq_self.2 (fun _ _ => by simp)], h.ents⟩
theorem filter_seen {es : List (Value × Nat × A0)} {seen : List Nat} {e : Value × Nat × A0} (hn : (es.map (·.2.1)).Nodup) (he : e ∈ es) (hs : e.2.1 ∉ seen) : (es.filter fun x => !seen.contains x.2.1).Perm (e :: es.filter fun x => !(seen ++ [e.2.1]).contains x.2.1) := by
  induction es with
  | nil => simp at he
  | cons x es ih =>
    rw [List.map_cons, List.nodup_cons] at hn
    rcases List.mem_cons.1 he with rfl | he
    · have h1 : (!seen.contains e.2.1) = true := by simp [hs]
      have h2 : (!(seen ++ [e.2.1]).contains e.2.1) = false := by simp
      rw [List.filter_cons, if_pos h1, List.filter_cons, h2, if_neg (by simp)]
      have : (es.filter fun x => !seen.contains x.2.1) = es.filter fun x => !(seen ++ [e.2.1]).contains x.2.1 := List.filter_congr fun y hy => by
        have : y.2.1 ≠ e.2.1 := fun h => hn.1 (List.mem_map.2 ⟨y, hy, h⟩)
        simp [this]
      rw [this]
    · have hx : x.2.1 ≠ e.2.1 := fun h => hn.1 (List.mem_map.2 ⟨e, he, h.symm⟩)
      have ih := ih hn.2 he
      rw [List.filter_cons, List.filter_cons]
      by_cases hxs : x.2.1 ∈ seen
      · rw [if_neg (by simp [hxs]), if_neg (by simp [hxs])]; exact ih
      · rw [if_pos (by simp [hxs]), if_pos (by simp [hxs, hx])]
        exact (ih.cons x).trans (List.Perm.swap _ _ _)
theorem all2_perm {β γ : Type} {r : β → γ → Prop} {a a' : List β} (hp : a.Perm a') : ∀ {b : List γ}, All2 r a b → ∃ b', b.Perm b' ∧ All2 r a' b' := by
  induction hp with
  | nil => intro b h; exact ⟨b, .refl _, h⟩
  | cons x _ ih => intro b h; cases b with
    | nil => exact h.elim
    | cons y b => obtain ⟨b', h1, h2⟩ := ih h.2; exact ⟨y :: b', h1.cons y, h.1, h2⟩
  | swap x y l => intro b h; cases b with
    | nil => exact h.elim
    | cons u b => cases b with
      | nil => exact h.2.elim
      | cons v b => exact ⟨v :: u :: b, List.Perm.swap _ _ _, h.2.1, h.1, h.2.2⟩
  | trans _ _ ih1 ih2 => intro b h; obtain ⟨b', h1, h2⟩ := ih1 h; obtain ⟨b'', h3, h4⟩ := ih2 h2; exact ⟨b'', h1.trans h3, h4⟩
/-- A step: nothing is left, or one that is left comes. -/
theorem MapL.next {x : Y.IS} {Z : Prop} {A : Value × Nat × A0 → Prop} {r : List (Int × α)} (h : MapL q en es l) (hs : x.since = es.c) (hl : x.last = es.c) (hr : LeftL q en es x.seen r) (hz : r = [] → Z)
    (ha : ∀ y b r', r.Perm (y :: r') → LeftL q en es (x.seen ++ [b]) r' → (Value.int q y.1, b, en y.2) ∈ es.es → A (Value.int q y.1, b, en y.2)) : nextN es x Z A := by
  obtain ⟨fs, hp, hf⟩ := hr.left
  refine ⟨fun e he => by rw [hs]; exact h.less e he, by rw [hs, hl]; exact Nat.le_refl _, fun hall => hz ?_, fun e he hns => ?_⟩
  · have : (es.es.filter fun e => !x.seen.contains e.2.1) = [] := by
      rw [List.filter_eq_nil_iff]
      intro e he
      simp [hall e he]
    rw [this] at hp
    have := List.nil_perm.1 hp
    subst this
    cases r with
    | nil => rfl
    | cons => exact hf.elim
  · have hq := filter_seen h.born he hns
    obtain ⟨r1, h1, h2⟩ := all2_perm (hp.symm.trans hq) hf
    cases r1 with
    | nil => exact h2.elim
    | cons y r' =>
      obtain ⟨e1, b, e2⟩ := e
      obtain ⟨⟨g1, g2⟩, g3⟩ := h2
      simp only at g1 g2
      subst g1 g2
      exact ha y b r' h1 ⟨_, .refl _, g3⟩ he
theorem MapL.entry {x : Y.IS} {A : Value × Nat × A0 → Prop} {y : Int × α} {b : Nat} {s : List Nat} (h : MapL q en es l) (hm : (Value.int q y.1, b, en y.2) ∈ es.es) (hl : x.last = es.c) (hs : x.seen = s ++ [b]) (k : A (Value.int q y.1, b, en y.2)) : entryN es x A :=
  ⟨h.born, hl, _, s, hm, hs, k⟩
end
end Go.Proofs.Ytllnmdmmmkoiaaa.Wx.Z
